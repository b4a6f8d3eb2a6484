import PyProof.Rows.All
import Wide.All
import OpenK.AllK
import Wide.FinOn
import Lean
import PyProof.EqAt
import PyProof.EqKinds
import PyProof.TupleCall
import PyProof.NeKinds
import PyProof.StationsW
import PyProof.ExcBaseAll.ValueError
import KE.KSortTup
import PySem.Challenge.RW_meetbook_k10_changed_by_one_who_saw_all
section
set_option Elab.async false
open PySem PySem.W PyProof.Rows
def Hq0.vwQ : Program := { PySem.Challenge.pw_meetbook_k10_changed_by_one_who_saw_all with main := { PySem.Challenge.pw_meetbook_k10_changed_by_one_who_saw_all.main with body := [1, 2, 3, 5, 6, 7, 8, 10, 11, 12, 14, 16, 17, 18, 19, 21, 22, 23, 24, 25, 26, 27, 28, 29, 30, 31].filterMap fun i => PySem.Challenge.pw_meetbook_k10_changed_by_one_who_saw_all.main.body[i]? } }
local macro_rules
 | `(tactic| o_head $H) => `(tactic| (refine holds_open (q := Hq0.vwQ) (loose := []) (Xt := fun s => xlAt Hq0.vwQ [] s && recOk [] s) (XP := XL Hq0.vwQ []) (Yf := Hook.obs $H) (Ya := Hook.val $H) (YP := Hook.says $H) (N := 4778) ?hl (Hook.of $H) (Hook.keeps $H) (fun s e => xl_of s (Bool.and_eq_true_iff.mp e).1) XL.keeps (by rfl) (by rfl) (by rfl) (fun s e => recFacts_of (Bool.and_eq_true_iff.mp e).2) (by rfl) (by first | assumption | decide +kernel) (by decide +kernel) ⟨rfl, rfl, rfl, rfl, rfl, by decide +kernel⟩ ?hw ?hc; (case hl => (intro w; kernel_rfl))))
set_option maxRecDepth 100000 in
set_option maxHeartbeats 0 in
open_top Hq0.tpQ for PySem.Challenge.rw_meetbook_k10_changed_by_one_who_saw_all
end
open PySem.W renaming Frag→aa, nsIn→cu, mg_none_of→c4, hideAll→ee, hideAll_none→eg, keepIn→fy, findIn→gs, emptyDict→gu, fnOf→ic, instObj→io, codeIn→jv, hideAll_get→j3, kia_one→ke, kia_tup→ki, nsOkIn→km, of_hideAll→lr, tailIn→mm, mg_of→mz, plainGet→m5, isFn→n5, plainGet_of→oa, lookIn→oj, KdlSrc→oy, callWith_K→oz, methodObj→pc, hasDictIn→pd, takerIn→qi, makesIn→qj, kat_one→qp, cellsFrom_some→qv, methodCall_KW→rp, kdu_collect→tm, kitx_tuple→uf, plainOver→uq, kitx_none→ur, kitx_bool→ut, kitx_list→uu, handedIn→u0, kitx_int→u6, kitx_str→u7, OpenLaw→vj, kat_nil→vp, WalkO→v4, KasT→v6
open PySem renaming wpAny_bind→ae, Addr→af, Value→ag, wpAny_pure→ak, Shared→am, starEach→aq, wpAny→ax, Expr→bx, tupleKind→b3, sizeLine_eq→b7, mainGlobals→ce, Stmt→cx, Heap→cz, Program→c9, bootBuiltins→db, backTo→de, World→df, Around→di, wpAny_truthy_bool→dm, cLine→dn, wpAny_newObj_type→dy, sysModules→d9, compareOp→fh, mem_of_lookup→fj, entryOfKey→fk, foldedSetIterable→fm, cellsFrom→f9, wpAny_mono→gg, NameKind→gv, wpAny_call_entry→g9, attributeBase→hV, keywordEach→ib, wpAny_holding→ig, behindInMarks→iz, wpAny_typeNameOfWhole_valiter→i4, wpAny_typeNameOfWhole_keyiter→i5, wpAny_callSpecial?_slot→i7, swapsWith→jc, storedH→jj, FuncData→jk, wpAny_dictEntries→jm, backToKw→jw, wpAny_typeNameOf_valiter→jy, wpAny_typeNameOf_keyiter→jz, Scope→j4, Keyword→j7, Paired→j9, tupleKind_room_in1→kc, wpAny_dictEpoch→kh, DictEntry→kq, binaryOp→kr, atKey→kt, sliceBounds→k8, wpAny_passesOwn→lj, rawInt→ls, getMethod→lu, wpAny_Call_Name_kw→lz, assignEach→mh, standAt→mj, pyNext→mv, codeAny→nq, wpAny_isOneOf_valiter→nu, wpAny_execs_nil→nv, letOwnedTupleGo→ny, getItem→ol, callerA→om, intText?→oq, wpAny_fieldsOf→ou, wpAny_setField→ow, firstArgMember→ox, wpAny_attempt→o9, wpAny_loadPart_at→pf, valueAt→px, codeAny_mono→pz, callWith→p0, wpAny_forIn_list→p7, IsPart→p8, wpAny_comprehension_free→p9, putAt→ql, IsRangeIter→qr, wpAny_pyNext_range_end→qt, wpAny_pyIter_rangeiter→qu, wpAny_field→qw, wpAny_isTrue_Compare1→rm, BindsTo→rn, newFunctionEnv→r9, wpAny_notOrdered_dict→sf, wpAny_isOneOf_keyiter→sg, typeLookup→sj, wpAny_pyIter_keyiter→sv, wpAny_updateDictKeys→sw, wpAny_standAt→sy, wpAny_newList→tf, wpAny_isSubtype_exc→tj, wpAny_dictFind_heap→tq, Within→t7, seqIndex_neg→uc, noteFrame→ug, setFlight→uh, call_meetsIn→ui, seqIndex_of→uz, call→vh
open List renaming mem_cons_of_mem→ai, mem_cons→aj, length_map→ao, mem_cons_self→ar, getD_eq_getElem?_getD→au, mem_map→av, replicate→aw, getElem?_map→az, size_toArray→bc, getElem?_eq_some_iff→bg, getElem?_append_left→bi, getElem?_eq_getElem→bj, map_cons→bq, zipWith→bu, length_append→bv, length_cons→bw, range→bz, mem_filter→b4, nodup_cons→b9, mem_singleton→cg, mem_append→cj, map_append→ck, not_mem_nil→cr, getElem?_eq_none→c3, length_set→c6, mem_append_right→c7, range'→da, mem_append_left→dc, append_nil→dh, filter_cons_of_neg→du, filter_cons_of_pos→dw, all_eq_true→d5, replicate_succ→d6, length_zipWith→d7, append_assoc→d8, mem_of_getElem?→eu, getElem?_set_self→ff, lookup_cons→fg, length_filter_le→f6, map_map→f7, find?_cons→f8, getElem?_replicate→ga, getElem?_append_right→gl, mem_range→gq, map_congr_left→gw, getElem?_range→gx, filter_sublist→gy, length_singleton→g7, getElem?_set_ne→hX, getElem_mem→ij, mem_or_eq_of_mem_set→ik, length_nil→iq, flatten_cons→iu, length_range→iw, zipWith_cons_cons→i9, mem_filterMap→je, length_replicate→ji, nodup_append→jn, getElem?_of_mem→jq, lookup→jt, filterMap_cons→j5, ext_getElem?→kj, range'_succ→ku, any_cons→ky, length→k7, pairwise_iff_getElem→lm, range_succ→ln, map_nil→l7, filter_append→me, length_take→m8, filter_cons→m9, take_succ_eq_append_getElem→nh, any_eq_true→ni, sum_append→n8, getElem_range→o5, mem_range'_1→ph, drop_eq_getElem_cons→pi, mem_of_find?_eq_some→pp, mem_flatMap→qe, of_mem_zip→qk, filter_nil→qq, range_succ_eq_map→qz, take_of_length_le→rg, filter_eq_nil_iff→rj, getElem?_zipWith→se, filter_eq_self→tu, zip_cons_cons→ub, find?_eq_none→uj, set_cons_zero→uk, set_cons_succ→ul, set_set→um, mem_replicate→uo, nodup_range'→ux, length_drop→u3, drop_length→u8, zipWith_map→va, getElem_map→vb, foldl→ve, foldl_cons→vf, nil_append→vg, find?_some→vo, nodup_nil→vt, forIn_nil→vv
open PySem.Heap renaming get?_push_of_some→ay, lt_size→br, get?_push_size→b0, get?_update_other→d4, SameBut→en, get?_update_self→fz, size_push→hZ, DictOfH→ie, size_update→ng
open Nat renaming le_refl→bp, lt_of_lt_of_le→cf, le_trans→ci, ne_of_lt→cm, lt_irrefl→fx, zero_le→im, le_of_lt→ip, min_self→ir, lt_of_le_of_lt→l9, lt_or_ge→md, lt_succ_self→m7, not_lt→su, le_of_eq→t8
open Bool renaming and_eq_true→bt, false_ne_true→cq, false_eq_true→dq, or_eq_true→gz, not_eq_true'→uv, not_false→vx
open Option.some renaming inj→b8
open PySem.Value renaming ref→ca, none→hW, type→jo, bool→si, int→t4, str→t6, isStrOf→vz
open Array renaming getD_eq_getD_getElem?→cw, length_toList→dr, getElem?_toList→g8, getElem?_eq_getElem→jr, getElem?_eq_some_iff→kz, isEmpty_iff→mr, perm_iff_toList_perm→pb, getElem?_eq_none→rh, all_toList→u9
open PySem.NameKind renaming cell→cy, free→gn
open Ne renaming symm→c5
open PySem.F renaming slot_dict_valueiterator_next→fe, slot_dict_keyiterator_next→fw, args_dict_valueiterator_next_1→k9, entry_dict_valueiterator_next→lq, args_dict_keyiterator_next_1→ma, entry_dict_keyiterator_next→mq, slot_dict_iter→my, slot_dict_values_iter→n9, slot_dict_values→qc, slot_dict_update→qd, plainAttrs_dict→qg, slot_list_append→rq, slot_dict_pop→sh
open Int renaming toNat_natCast→fu, natCast_nonneg→jh, le_refl→ju
open True renaming intro→gk
open PyProof.Rows renaming seqObj→gp, slot_tuple_getitem→i8, callWith_type1→jd, envOfC→jf, IntsAre→j8, AllBare→mf, sortedHeap→pj, get?_update_seq→qm, subscriptTail_builtinR→qx, subscriptTail→s0, lt_int→vc
open PySem.Builtin.Dict_items renaming ownsTuple→ia, newIterator→vn, dictOf→v5
open False renaming elim→ii
open PySem.Paired renaming length→iy
open PySem.Builtin.Range renaming rangeSize→i6, small→tz
open PySem.Obj renaming data_mapFields→jg, mapSeq→ka, mapFields→k6, isFreed_of_fields→nr, mapDictKeys→qo, cls_mapFields→uw
open PySem.Str renaming ofString→jl
open PySem.Builtin.Slice renaming slicePlaces→jp, sliceAdjust→ll, sliceApplied→o8
open PySem.Builtin.Tuple renaming tupleExact→jx, tupleHashOf→pq
open Std.Legacy renaming Range→j0
open Classical renaming propDecidable→j6
open PySem.Builtin.Dict renaming showsAll→ko
open PySem.Heap.SameBut renaming update→lh
open Option renaming isSome_iff_exists→l0, map_eq_some_iff→mw, isSome_map→pe, bind_some→qf, isSome_some→ud, getD_none→u5, some→v9, none→wb
open PySem.Builtin.List renaming listTooLong→l8
open Sum renaming inl→nj, inr→pv
open ForInStep renaming yield→n6
open Lean.Macro renaming throwUnsupported→o6
open PySem.Calls renaming Name_function_global→o7, call_function_entry→pk, callWith_builtin→qy, evalArgs_plain→ss
open PySem.Data renaming cell→qh, fields→uy, dict→vy
open Std.Legacy.Range renaming forIn_eq_forIn_range'→tw, size→v8
open PySem.Around renaming under→t9
open PySem.Code renaming isFrame→ua
open PySem.SeqAt renaming EqAt→vd, RcAt→vk
open PySem.PassesOwn renaming never→vm
open Array.Perm renaming refl→vq
open PySem.IsRange renaming new→v7
open PySem PySem.Spec PyProof.Rows
set_option Elab.async false
set_option linter.all false
set_option maxRecDepth 100000
set_option maxHeartbeats 4000000
section
namespace L2
noncomputable abbrev Key:=Sum Int Str
noncomputable def BK:Key->ag->Bool
 |.inl k,v=>Value.isInt k v
 |.inr x,v=>vz x v
noncomputable def Qq (w:df):Key->Int
 |.inl k=>hashInt k
 |.inr x=>hashStr w x
theorem cA:∀ {k:Key}{v:ag},BK k v=true->(∃ i t,k=nj i/\v=t4 i t)∨(∃ x t,k=pv x/\v=t6 x t)
 |.inl i,v,h=>by
  obtain⟨t,e⟩:=Value.isInt_shape (k:=i) (v:=v) h;exact .inl ⟨i,t,rfl,e⟩
 |.inr x,v,h=>by
  obtain⟨t,e⟩:=Value.isStrOf_shape (x:=x) (v:=v) h;exact .inr ⟨x,t,rfl,e⟩
theorem DV (i:Int) (t:Tok):BK (.inl i) (.int i t)=true:=by simp[BK,Value.isInt]
theorem DU (x:Str) (t:Tok):BK (.inr x) (.str x t)=true:=by simp[BK,vz]
theorem MS (a b:Int):decide ((nj a:Key)=nj b)=(a==b):=by
 by_cases e:a=b
 ·subst e;simp
 ·have h:¬(nj a:Key)=nj b:=fun q=>e (Sum.inl.inj q);rw[decide_eq_false h];exact(beq_eq_false_iff_ne.mpr e).symm
theorem MO (a b:Str):decide ((pv a:Key)=pv b)=decide (a=b):=by
 by_cases e:a=b
 ·subst e;simp
 ·have h:¬(pv a:Key)=pv b:=fun q=>e (Sum.inr.inj q);rw[decide_eq_false h,decide_eq_false e]
theorem MR (a:Int) (b:Str):decide ((nj a:Key)=pv b)=false:=decide_eq_false (fun q=>nomatch q)
theorem MP (a:Str) (b:Int):decide ((pv a:Key)=nj b)=false:=decide_eq_false (fun q=>nomatch q)
noncomputable def aJ (prog:c9) (w:df):PySem.KeyKind prog w Key where
 is:=BK
 hash:=Qq w
 inj:=fun v a b ha hb=>by
  rcases cA ha with⟨i,t,rfl,rfl⟩|⟨x,t,rfl,rfl⟩
  ·rcases cA hb with⟨j,u,rfl,e⟩|⟨y,u,rfl,e⟩
   ·injection e with e1 _;rw[e1]
   ·exact nomatch e
  ·rcases cA hb with⟨j,u,rfl,e⟩|⟨y,u,rfl,e⟩
   ·exact nomatch e
   ·injection e with e1 _;rw[e1]
 byValue:=fun k v h=>by
  rcases cA h with⟨i,t,rfl,rfl⟩|⟨x,t,rfl,rfl⟩ <;> rfl
 pyHash:=fun hv h=>by
  rcases cA hv with⟨i,t,rfl,rfl⟩|⟨x,t,rfl,rfl⟩
  ·exact wpAny_pyHash_int h
  ·exact wpAny_pyHash_str h
 eqBool:=fun hu hv h=>by
  rcases cA hu with⟨i,t,rfl,rfl⟩|⟨x,t,rfl,rfl⟩
  ·rcases cA hv with⟨j,u,rfl,rfl⟩|⟨y,u,rfl,rfl⟩
   ·rw[MS] at h;exact wpAny_eqBool_int h
   ·rw[MR] at h;exact SeqAt.EqAt.int_str i t y u _ _ _ _ h
  ·rcases cA hv with⟨j,u,rfl,rfl⟩|⟨y,u,rfl,rfl⟩
   ·rw[MP] at h;exact SeqAt.EqAt.str_int x t j u _ _ _ _ h
   ·rw[MO] at h;exact wpAny_eqBool_str h
 «strs» :=fun k x t v h=>by
  rcases cA h with⟨i,u,rfl,e⟩|⟨y,u,rfl,e⟩
  ·exact nomatch e
  ·injection e with e1 _
   subst e1;cases v <;> rfl
theorem yC (prog:c9) (w:df) (i:Int) (t:Tok):(aJ prog w).is (.inl i) (.int i t)=true:=DV i t
theorem yB (prog:c9) (w:df) (x:Str) (t:Tok):(aJ prog w).is (.inr x) (.str x t)=true:=DU x t
end L2
namespace L2
inductive V where
 |non|bl (b:Bool)|int (i:Int)|str (x:Str)|byt (b:Array UInt8)|flt (b:UInt64)|ref (a:af)|ty (n:String)
 deriving DecidableEq
noncomputable def RelV:V->ag->Prop
 |.non,u=>u=hW
 |.bl b,u=>u=si b
 |.int i,u=>∃ t,u=t4 i t
 |.str x,u=>∃ t,u=t6 x t
 |.byt b,u=>∃ t,u=Value.bytes b t
 |.flt b,u=>∃ t,u=Value.float b t
 |.ref a,u=>u=ca a
 |.ty n,u=>u=jo n
noncomputable abbrev Vals:List V->List ag->Prop:=j9 RelV
theorem Vals.length (r:Vals xs us):xs.length=us.length:=iy r
theorem Vals.get:∀ {xs:List V}{us:List ag}{i:Nat}{x:V},Vals xs us->xs[i]?=v9 x->∃ u,us[i]?=v9 u/\RelV x u
 |_,_,_,_,.nil,e=>by simp at e
 |_,_,0,_,.cons r _,e=>by simp at e;subst e;exact⟨_,rfl,r⟩
 |_,_,i+1,x,.cons _ t,e=>by
  obtain⟨u,h1,h2⟩:=Vals.get (i:=i) (x:=x) t (by simpa using e);exact⟨u,by simpa using h1,h2⟩
theorem Vals.set (r:RelV x u):∀ {xs:List V}{us:List ag} (i:Nat),Vals xs us->Vals (xs.set i x) (us.set i u)
 |_,_,_,.nil=>.nil
 |_,_,0,.cons _ t=>.cons r t
 |_,_,i+1,.cons q t=>.cons q (Vals.set r i t)
theorem Vals.append:∀ {xs ys:List V}{us ws:List ag},Vals xs us->Vals ys ws->Vals (xs++ys) (us++ws)
 |_,_,_,_,.nil,s=>s
 |_,_,_,_,.cons r t,s=>.cons r (Vals.append t s)
theorem Vals.take:∀ {xs:List V}{us:List ag} (n:Nat),Vals xs us->Vals (xs.take n) (us.take n)
 |_,_,0,_=>.nil
 |_,_,_+1,.nil=>.nil
 |_,_,n+1,.cons r t=>.cons r (Vals.take n t)
theorem Vals.drop:∀ {xs:List V}{us:List ag} (n:Nat),Vals xs us->Vals (xs.drop n) (us.drop n)
 |_,_,0,r=>r
 |_,_,_+1,.nil=>.nil
 |_,_,n+1,.cons _ t=>Vals.drop n t
noncomputable def RelO:Option V->Option ag->Prop
 |some v,v9 u=>RelV v u
 |none,wb=>True
 |_,_=>False
noncomputable def KV {κ:Type}:List (κ×V)->List (κ×ag)->Prop:=j9 fun(p:κ×V) (q:κ×ag)=>p.1=q.1/\RelV p.2 q.2
noncomputable def kV:Key->V
 |.inl i=>.int i
 |.inr x=>.str x
inductive HO where
 /-- a list -/
 |lst (xs:List V)
 /-- a tuple (never changes) -/
 |tup (xs:List V)
 /-- a dict whose keys are ints and texts;one whose keys are tuples of ints and texts (the empty one is both) -/
 |dK (kvs:List (Key×V))|dT (kvs:List (List Key×V))
 /-- a set of ints:its members,its size -/
 |set (S:Int->Bool) (n:Nat)
 /-- an instance of the class at C,its dict at dx,its attributes -/
 |ins (C dx:af) (fs:List (Str×V))
 /-- the dict of the instance at x -/
 |own (x:af)
 /-- the dict of an exception -/
 |xd (fs:List (Str×V))
 /-- a bound method,f of x -/
 |met (f x:af)
 /-- a range object lo,lo+1,.. below hi -/
 |rng (lo hi:Int)
 /-- a thing that is known to the object (the script;a dict while a loop walks it):read,never written while it is so -/
 |frz (o:Obj) (u:HO)
 /-- a code object's table -/
 |tbl (ps:Array ag)
 /-- any other thing,by what is true of its one object (a def of one's own:SetO a S n:=HO.ext fun h=> ..) -/
 |ext (φ:cz->Prop)
noncomputable abbrev Hp:=af->Option HO
noncomputable def upd (H:Hp) (a:af) (o:HO):Hp:=fun b=>if b=a then v9 o else H b
theorem aM:upd H a o a=v9 o:=by unfold upd;rw[if_pos rfl]
theorem aF (h:b≠a):upd H a o b=H b:=by unfold upd;rw[if_neg h]
theorem JL {H:Hp} (h:H a=v9 o) (h':H b=v9 u) (d:o≠u):a≠b:=by
 intro e;subst e;rw[h] at h';exact d (b8 h')
theorem aI {H:Hp} (h:H a=v9 o) (h':H b=wb):a≠b:=by
 intro e;subst e;rw[h] at h';cases h'
section
variable (P:c9) (w:df)
noncomputable def ObjOk (H:Hp) (h:cz) (a:af):HO->Prop
 |.lst xs=>xs.length<=sizeLine/\∃(its:List ag) (n:Nat),Vals xs its/\h.get? a=v9 { cls:=.type "list",data:=.seq its.toArray n }
 |.tup xs=>xs.length<=sizeLine/\∃ its:List ag,Vals xs its/\IsTup h a its.toArray
 |.dK kvs=>kvs.length<=sizeLine/\(a==d9)=false/\∃ vs,KV kvs vs/\h.DictOf (aJ P w) a vs
 |.dT kvs=>kvs.length<=sizeLine/\(a==d9)=false/\∃ xs:List (List Key×af×ag),
   j9 (fun(p:List Key×V) (q:List Key×af×ag)=>p.1=q.1/\H q.2.1=v9 (.tup (p.1.map kV))/\RelV p.2 q.2.2) kvs xs/\
   ∃ o es ep,h.get? a=v9 o/\o.ExactDict/\o.data=.dict es ep/\es.toList=xs.map (fk (b3 (aJ P w)))/\(xs.map (·.1)).Nodup
 |.set S n=>h.SetOf (intKind P w) a S n
 |.ins C dx fs=>H dx=v9 (.own a)/\fs.length<=1000/\dx≠a/\h.get? a=v9 (io C dx)/\
   ∃ mA,h.Ns1 dx mA/\(∀ f,RelO (fs.lookup f) (mA f))/\t7 mA (fs.map (·.1))
 |.own _=>∃ o,h.get? a=v9 o
 |.xd fs=>∃ mA,h.Ns1 a mA/\∀ f,RelO (fs.lookup f) (mA f)
 |.rng lo hi=>∃ t u v,h.get? a=v9 { cls:=.type "range",data:=.fields #[.int lo t,.int hi u,.int 1 v] }
 |.frz o u=>h.get? a=v9 o/\ObjOk H h a u
 |.tbl ps=>h.get? a=v9 { cls:=.none,data:=.fields ps }
 |.met f x=>h.get? a=v9 (pc (.ref f) (.ref x))
 |.ext φ=>φ h/\(∃ o,h.get? a=v9 o)/\∀ h1 h2:cz,φ h1->(∀ o,h1.get? a=v9 o->h2.get? a=v9 o)->φ h2
noncomputable def HOk (H:Hp) (h:cz):Prop:=∀ a o,H a=v9 o->ObjOk P w H h a o
end
section
variable {P:c9}{w:df}{H H':Hp}{h h':cz}{a:af}{o:HO}
theorem ObjOk.lt (x:ObjOk P w H h a o):a<h.objs.size:=by
 cases o with
 |lst xs=>obtain⟨_,_,_,_,e⟩:=x;exact br e
 |tup xs=>obtain⟨_,_,_,p⟩:=x;exact p.lt
 |dK kvs=>obtain⟨_,_,_,_,o,_,_,e,_⟩:=x;exact br e
 |dT kvs=>obtain⟨_,_,_,_,o,_,_,e,_⟩:=x;exact br e
 |set S n=>obtain⟨o,_,_,_,e,_⟩:=x;exact br e
 |ins C dx fs=>obtain⟨_,_,_,e,_⟩:=x;exact br e
 |own y=>obtain⟨_,e⟩:=x;exact br e
 |xd fs=>obtain⟨_,⟨_,_,_,e,_⟩,_⟩:=x;exact br e
 |rng lo hi=>obtain⟨_,_,_,e⟩:=x;exact br e
 |frz ob u=>obtain⟨e,_⟩:=x;exact br e
 |tbl ps=>exact br (show h.get? a=v9 _ from x)
 |met f y=>exact br (show h.get? a=v9 _ from x)
 |ext φ=>obtain⟨_,⟨_,e⟩,_⟩:=x;exact br e
theorem j9.mapP:∀ {l₁:List α}{l₂:List β},j9 F l₁ l₂->(∀ a b,F a b->G a b)->j9 G l₁ l₂
 |_,_,.nil,_=>.nil
 |_,_,.cons r t,f=>.cons (f _ _ r) (j9.mapP t f)
theorem ObjOk.stay (x:ObjOk P w H h a o) (k:∀ b u,(b=a∨H b=v9 (.own a))->h.get? b=v9 u->h'.get? b=v9 u)
  (ho:∀ b,H b=v9 (.own a)->H' b=v9 (.own a)) (ht:∀ b xs,H b=v9 (.tup xs)->H' b=v9 (.tup xs)):ObjOk P w H' h' a o:=by
 induction o with
 |lst xs=>obtain⟨z,its,n,r,e⟩:=x;exact⟨z,its,n,r,k _ _ (.inl rfl) e⟩
 |tup xs=>obtain⟨z,its,r,ob,e,c⟩:=x;exact⟨z,its,r,ob,k _ _ (.inl rfl) e,c⟩
 |dK kvs=>obtain⟨z,y,vs,r,ob,es,ep,e,c⟩:=x;exact⟨z,y,vs,r,ob,es,ep,k _ _ (.inl rfl) e,c⟩
 |dT kvs=>
  obtain⟨z,y,xs,r,ob,es,ep,e,c⟩:=x;exact⟨z,y,xs,j9.mapP r fun p q z=>⟨z.1,ht _ _ z.2.1,z.2.2⟩,ob,es,ep,k _ _ (.inl rfl) e,c⟩
 |set S n=>obtain⟨ob,es,ep,t,e,c⟩:=x;exact⟨ob,es,ep,t,k _ _ (.inl rfl) e,c⟩
 |ins C dx fs=>
  obtain⟨d,z,ne,e,mA,⟨od,es,ep,e2,c⟩,r⟩:=x;exact⟨ho _ d,z,ne,k _ _ (.inl rfl) e,mA,⟨od,es,ep,k _ _ (.inr d) e2,c⟩,r⟩
 |own y=>obtain⟨ob,e⟩:=x;exact⟨ob,k _ _ (.inl rfl) e⟩
 |xd fs=>obtain⟨mA,⟨od,es,ep,e,c⟩,r⟩:=x;exact⟨mA,⟨od,es,ep,k _ _ (.inl rfl) e,c⟩,r⟩
 |rng lo hi=>obtain⟨t,u,v,e⟩:=x;exact⟨t,u,v,k _ _ (.inl rfl) e⟩
 |frz ob u ih=>obtain⟨e,q⟩:=x;exact⟨k _ _ (.inl rfl) e,ih q⟩
 |tbl ps=>
  have e:h.get? a=v9 { cls:=.none,data:=.fields ps }:=x;show h'.get? a=v9 { cls:=.none,data:=.fields ps };exact k a _ (.inl rfl) e
 |met f y=>
  have e:h.get? a=v9 (pc (.ref f) (.ref y)):=x;show h'.get? a=v9 (pc (.ref f) (.ref y));exact k a _ (.inl rfl) e
 |ext φ=>obtain⟨p,⟨o,e⟩,st⟩:=x;exact⟨st _ _ p fun o q=>k _ _ (.inl rfl) q,⟨o,k _ _ (.inl rfl) e⟩,st⟩
theorem HOk.lt (x:HOk P w H h) (e:H a=v9 o):a<h.objs.size:=(x a o e).lt
theorem HOk.fresh (x:HOk P w H h) (e:h.objs.size<=a):H a=wb:=by
 cases q:H a with
 |none=>rfl
 |some u=>exact absurd (cf (x.lt q) e) (fx _)
theorem HOk.kept (x:HOk P w H h) (k:∀ b u,h.get? b=v9 u->h'.get? b=v9 u):HOk P w H h':=fun a o e=>
 (x a o e).stay (fun b u _ q=>k b u q) (fun _ q=>q) fun _ _ q=>q
theorem HOk.laid (x:HOk P w H h) (k:∀ b u,h.get? b=v9 u->h'.get? b=v9 u) (hp:h.objs.size<=a) (new:ObjOk P w (upd H a o) h' a o):HOk P w (upd H a o) h':=fun b u e=>by
 have hn:=x.fresh hp
 by_cases hb:b=a
 ·subst hb;rw[aM] at e;cases e;exact new
 ·rw[aF hb] at e;exact(x b u e).stay (fun c v _ q=>k c v q) (fun c q=>by rw[aF (aI q hn)];exact q) fun c xs q=>by rw[aF (aI q hn)];exact q
end
noncomputable def Rd (H:Hp) (a:af) (u:HO):Prop:=H a=v9 u∨∃ o,H a=v9 (.frz o u)
theorem Rd.ok (r:Rd H a u) (x:HOk P w H h):ObjOk P w H h a u:=by
 rcases r with r|⟨o,r⟩
 ·exact x a u r
 ·obtain⟨_,q⟩:=x a _ r;exact q
noncomputable def Mut:Option HO->Prop
 |some (.lst _)=>True
 |some (.dK _)=>True
 |some (.dT _)=>True
 |some (.set _ _)=>True
 |some (.ins _ _ _)=>True
 |some (.ext _)=>True
 |_=>False
section
variable {P:c9}{w:df}{H:Hp}{h h':cz}{x e:af}{o':HO}
theorem HOk.write (ok:HOk P w H h) (mu:Mut (H x)) (he:e=x∨H e=v9 (.own x)) (k:∀ b u,b≠e->h.get? b=v9 u->h'.get? b=v9 u) (heo:∃ u,h'.get? e=v9 u)
  (new:ObjOk P w (upd H x o') h' x o'):HOk P w (upd H x o') h':=fun b u q=>by
 have nown:∀ c y,H c=v9 (.own y)->c≠x:=fun c y r z=>by subst z;rw[r] at mu;exact mu
 have ntup:∀ c xs,H c=v9 (.tup xs)->c≠x:=fun c xs r z=>by subst z;rw[r] at mu;exact mu
 by_cases hb:b=x
 ·subst hb;rw[aM] at q;cases q;exact new
 ·rw[aF hb] at q
  by_cases hbe:b=e
  ·have q':H b=v9 (.own x):=by
    rcases he with z|z
    ·exact absurd (hbe.trans z) hb
    ·rw[hbe];exact z
   rw[q] at q';cases q';obtain⟨v,hv⟩:=heo;exact⟨v,by rw[hbe];exact hv⟩
  ·refine(ok b u q).stay (fun c v hc r=>k c v ?_ r) (fun c r=>by rw[aF (nown c b r)];exact r) fun c xs r=>by rw[aF (ntup c xs r)];exact r
   rcases hc with rfl|hc
   ·exact hbe
   ·rintro rfl;rcases he with z|z
    ·exact nown c b hc z
    ·rw[hc] at z;cases z;exact hb rfl
end
structure Un (fs ex:List af) (H H':Hp) (h h':cz):Prop where
 keep:∀ b o,h.get? b=v9 o->H b=wb->b∉fs->b∉ex->h'.get? b=v9 o
 slot:∀ b o,h.get? b=v9 o->H b=wb->b∈fs->b∉ex->∃ sl,h'.get? b=v9 { o with slots:=sl }
 free:∀ b o,h.get? b=v9 o->H b=wb->b∉ex->H' b=wb
 there:∀ b o,h.get? b=v9 o->b∉ex->∃ o',h'.get? b=v9 o'
 tups:∀ b xs,H b=v9 (.tup xs)->H' b=v9 (.tup xs)
 frzs:∀ b o u,H b=v9 (.frz o u)->H' b=v9 (.frz o u)
 tbls:∀ b ps,H b=v9 (.tbl ps)->∃ more,H' b=v9 (.tbl (ps++more))
section
variable {fs fs' ex ex':List af}{H H1 H2:Hp}{h h1 h2 h':cz}{a x e:af}{o:HO}
theorem Un.any (u:Un fs ex H H1 h h1) (q:h.get? b=v9 ob) (n:H b=wb) (hx:b∉ex):∃ sl,h1.get? b=v9 { ob with slots:=sl }:=by
 by_cases hb:b∈fs
 ·exact u.slot b ob q n hb hx
 ·exact⟨ob.slots,u.keep b ob q n hb hx⟩
theorem Un.kept (k:∀ b u,h.get? b=v9 u->h'.get? b=v9 u):Un fs ex H H h h':=
 ⟨fun b ob q _ _ _=>k b ob q,fun b ob q _ _ _=>⟨ob.slots,k b ob q⟩,fun _ _ _ n _=>n,fun b ob q _=>⟨ob,k b ob q⟩,fun _ _ q=>q,fun _ _ _ q=>q,fun _ ps q=>⟨#[],by rw[q];simp⟩⟩
theorem Un.refl:Un fs ex H H h h:=Un.kept fun _ _ q=>q
theorem Un.laid (k:∀ b u,h.get? b=v9 u->h'.get? b=v9 u) (hp:h.objs.size<=a) (hn:H a=wb):Un fs ex H (upd H a o) h h' where
 keep:=fun b u q _ _ _=>k b u q
 slot:=fun b u q _ _ _=>⟨u.slots,k b u q⟩
 free:=fun b u q n _=>by rw[aF (cm (cf (br q) hp))];exact n
 there:=fun b u q _=>⟨u,k b u q⟩
 tups:=fun b xs q=>by rw[aF (aI q hn)];exact q
 frzs:=fun b u xs q=>by rw[aF (aI q hn)];exact q
 tbls:=fun b ps q=>⟨#[],by rw[aF (aI q hn),q];simp⟩
theorem Un.write (mu:Mut (H x)) (he:e=x∨H e=v9 (.own x)) (k:∀ b u,b≠e->h.get? b=v9 u->h'.get? b=v9 u) (heo:∃ u,h'.get? e=v9 u):Un fs ex H (upd H x o) h h':=by
 have hx:∀ b,H b=wb->b≠x:=fun b n z=>by subst z;rw[n] at mu;exact mu
 have hb:∀ b,H b=wb->b≠e:=fun b n z=>by
  subst z;rcases he with r|r
  ·exact hx b n r
  ·rw[n] at r;cases r
 have hm:∀ b u,H b=v9 u->¬ Mut (v9 u)->b≠x:=fun b u q nm z=>by subst z;rw[q] at mu;exact nm mu
 refine⟨fun b u q n _ _=>k b u (hb b n) q,fun b u q n _ _=>⟨u.slots,k b u (hb b n) q⟩,fun b u q n _=>by rw[aF (hx b n)];exact n,fun b u q _=> ?_,
  fun b xs q=>by rw[aF (hm b _ q fun z=>z)];exact q,fun b u xs q=>by rw[aF (hm b _ q fun z=>z)];exact q,fun b ps q=>⟨#[],by rw[aF (hm b _ q fun z=>z),q];simp⟩⟩
 by_cases hbe:b=e
 ·subst hbe;exact heo
 ·exact⟨u,k b u hbe q⟩
end
noncomputable def trk (h:cz) (H:Hp):List af:=(bz h.objs.size).filter fun a=>(H a).isSome
noncomputable def GL (h:cz) (H:Hp):cz:=ee h (trk h H)
theorem Ea (h:cz) (H:Hp):(GL h H).objs.size=h.objs.size:=PySem.W.hideAll_size _ _
theorem GK (e:h.get? b=v9 o) (n:H b=wb):(GL h H).get? b=v9 o:=
 j3 _ e fun hm=>by
  have q:(H b).isSome=true:=(b4.mp hm).2;rw[n] at q;simp at q
theorem Jp (e:(GL h H).get? b=v9 o):h.get? b=v9 o/\H b=wb:=by
 have e':h.get? b=v9 o:=lr (trk h H) e;refine⟨e',?_⟩;cases q:H b with
 |none=>rfl
 |some x=>
  have hm:b∈trk h H:=b4.mpr ⟨gq.mpr (br e'),by simp[q]⟩;have z:(GL h H).get? b=wb:=eg (trk h H) hm;rw[z] at e;cases e
end L2
namespace L2
structure Mod (K:aa) (mg:Str->Option ag) (base:cz):Prop where
 kin:K.In base
 glob:base.Ns ce mg
 blt:∃ mb,base.Ns builtinsNs mb/\∀ x:Str,x≠"__name__"->mb x=db x
 nolimit:base.NoLimit
structure Cx where
 prog:c9
 w:df
 K:aa
 mg:Str->Option ag
 base:cz
 A:di
 N:List Str
 s₀:am
 H₀:Hp
 env:Env
 outer:List Env
 stack:List Env
 ex:List af
 fn:Str->Bool
 calm:Bool
 pn:List (af×Obj)
 xe:ag->am->Prop
noncomputable def frs (l:List Env):List af:=l.filterMap (·.frame)
noncomputable abbrev Cx.fs (X:Cx):List af:=frs X.outer
noncomputable def Vis (sc:j4) (x:Str):Prop:=sc.names.lookup x=v9 .local∨sc.names.lookup x=v9 .cell∨sc.names.lookup x=v9 .free
noncomputable def Loc (sc:j4) (x:Str):Prop:=sc.names.lookup x=v9 .local∨sc.names.lookup x=v9 .cell
noncomputable def QE (env:Env) (h:cz) (m:Str->Option ag) (x:Str) (u:ag):Prop:=
 (env.kindOf x=v9 .local/\m x=v9 u)∨((env.kindOf x=v9 .cell∨env.kindOf x=v9 .free)/\∃ c,env.cells.lookup x=v9 c/\h.IsCell c (v9 u))
structure Cx.Ok (X:Cx):Prop where
 mod:Mod X.K X.mg X.base
 kind:X.env.scope.kind=.function
 glob:X.env.globals=ce
 blt:X.env.builtins=builtinsNs
 above:X.s₀.heap.objs.size<=X.env.locals
 inj:∀ x y c,X.env.cells.lookup x=v9 c->X.env.cells.lookup y=v9 c->x=y
 has:∀ x,(X.env.kindOf x=v9 .cell∨X.env.kindOf x=v9 .free)->∃ c,X.env.cells.lookup x=v9 c
 cab:∀ x c,X.fn x=true->X.env.cells.lookup x=v9 c->X.s₀.heap.objs.size<=c
 hd:X.calm=true->X.A.handled=wb
 frames:X.A.frames=v9 X.stack
 stk:X.stack=X.outer∨(X.stack=X.env::X.outer/\X.env.frame=v9 X.env.locals)
 exf:∀ b∈X.ex,b≠X.env.locals/\∀ x c,X.env.cells.lookup x=v9 c->c≠b
 bs:∀ b o,X.base.get? b=v9 o->X.s₀.heap.get? b=v9 o/\X.H₀ b=wb
 bsz:X.base.objs.size<=X.s₀.heap.objs.size
 noex:∀ b o,X.base.get? b=v9 o->b∉X.ex
 exfs:∀ b∈X.ex,b∉X.fs
 funs:X.s₀.heap.FunFrames X.base X.outer
 frf:∀ b∈X.fs,X.H₀ b=wb
structure Inv (X:Cx) (pins:List (af×Obj)) (σ:List (Option V)) (H:Hp) (s:am):Prop where
 ok:X.Ok
 os:s.os=X.s₀.os
 bare:mf s.gens
 base:Un X.fs X.ex X.H₀ H X.s₀.heap s.heap
 loc:∃ m,s.heap.Ns X.env.locals m/\∀(i:Nat) (x:Str) (v:V),X.N[i]?=v9 x->σ[i]?=v9 (v9 v)->Vis X.env.scope x->∃ u,RelV v u/\QE X.env s.heap m x u
 cell:∀ x c,X.env.cells.lookup x=v9 c->∃ v,s.heap.IsCell c v
 free:H X.env.locals=wb
 freeC:∀ x c,X.env.cells.lookup x=v9 c->H c=wb
 pin:∀ p∈X.pn++pins,s.heap.get? p.1=v9 p.2/\H p.1=wb/\p.1≠X.env.locals/\p.1∉X.fs/\∀ v,p.2.data≠ .cell v
 hok:HOk X.prog X.w H s.heap
 len:σ.length=X.N.length
section
variable {X:Cx}{pins:List (af×Obj)}{σ:List (Option V)}{H H':Hp}{s:am}{h':cz}
theorem Cx.Ok.nofr (ok:X.Ok) (e:X.base.get? b=v9 o):b∉X.fs:=fun hb=>by
 have:=(ok.funs.mem hb).1
 rw[e] at this;cases this
theorem Inv.bs (I:Inv X pins σ H s):∀ b o,X.base.get? b=v9 o->s.heap.get? b=v9 o/\H b=wb:=fun b o e=>
 ⟨I.base.keep b o (I.ok.bs b o e).1 (I.ok.bs b o e).2 (I.ok.nofr e) (I.ok.noex b o e),I.base.free b o (I.ok.bs b o e).1 (I.ok.bs b o e).2 (I.ok.noex b o e)⟩
theorem Inv.bk (I:Inv X pins σ H s):∀ b o,X.base.get? b=v9 o->s.heap.get? b=v9 o:=fun b o e=>(I.bs b o e).1
theorem Inv.mod (I:Inv X pins σ H s):Mod X.K X.mg X.base:=I.ok.mod
theorem Inv.kIn (I:Inv X pins σ H s):X.K.In s.heap:=I.ok.mod.kin.keeps I.bk
theorem Inv.lt (I:Inv X pins σ H s):X.env.locals<s.heap.objs.size:=let ⟨_,hn,_⟩:=I.loc;hn.lt
theorem Inv.sz (I:Inv X pins σ H s):X.s₀.heap.objs.size<=s.heap.objs.size:=ci I.ok.above (ip I.lt)
theorem Inv.nofs (I:Inv X pins σ H s) (h:s.heap.objs.size<=a):a∉X.fs:=fun hb=>by
 obtain⟨_,o,ho,_⟩:=I.ok.funs.mem hb;exact absurd (cf (br ho) (ci I.sz h)) (fx _)
theorem Inv.cne (I:Inv X pins σ H s):∀ x c,X.env.cells.lookup x=v9 c->c≠X.env.locals:=fun x c e z=>by
 obtain⟨v,o,ho,hd⟩:=I.cell x c e;obtain⟨m,⟨o',es,ep,ho',hd',_⟩,_⟩:=I.loc;rw[z,ho'] at ho;cases ho;rw[hd'] at hd;cases hd
theorem Inv.funs (I:Inv X pins σ H s):s.heap.FunFrames X.base X.outer:=by
 have all:∀(l:List Env),(∀ b∈frs l,b∈X.fs)->X.s₀.heap.FunFrames X.base l->s.heap.FunFrames X.base l:=by
  intro l
  induction l with
  |nil=>intro _ _;trivial
  |cons env r ih=>
   intro hs hl;obtain⟨hk,⟨L,o,hf,hn,ho,hd⟩,hr⟩:=hl;have hL:L∈X.fs:=hs L (by unfold frs;rw[j5,hf];exact ar);obtain⟨sl,e⟩:=I.base.slot L o ho (I.ok.frf L hL) hL fun z=>I.ok.exfs L z hL;exact⟨hk,⟨L,_,hf,hn,e,hd⟩,ih (fun b hb=>hs b (by unfold frs;rw[j5,hf];exact ai _ hb)) hr⟩
 exact all X.outer (fun _ hb=>hb) I.ok.funs
theorem Inv.stack (I:Inv X pins σ H s):s.heap.FunFrames X.base X.stack:=by
 rcases I.ok.stk with e|⟨e,hf⟩
 ·rw[e];exact I.funs
 ·rw[e];obtain⟨m,hn,_⟩:=I.loc;refine .cons (by rw[I.ok.kind];decide) hf hn ?_ I.funs;exact Heap.get?_none_of_le (ci I.ok.bsz I.ok.above)
theorem Inv.stkSub (I:Inv X pins σ H s):∀ b∈frs X.stack,b∈X.env.locals::X.fs:=fun b hb=>by
 rcases I.ok.stk with e|⟨e,hf⟩
 ·rw[e] at hb;exact ai _ hb
 ·rw[e] at hb;unfold frs at hb;rw[j5,hf] at hb;exact hb
theorem Inv.stkFree (I:Inv X pins σ H s):∀ b∈frs X.stack,H b=wb:=fun b hb=>by
 rcases aj.mp (I.stkSub b hb) with e|hb
 ·rw[e];exact I.free
 ·obtain⟨_,o,ho,_⟩:=I.ok.funs.mem hb;exact I.base.free b o ho (I.ok.frf b hb) fun z=>I.ok.exfs b z hb
theorem Inv.step {ch:List af} (I:Inv X pins σ H s)
  (hch:∀ b∈ch,(b∈X.ex∨X.s₀.heap.objs.size<=b)/\b≠X.env.locals/\(∀ x c,X.env.cells.lookup x=v9 c->c≠b)/\∀ p∈X.pn++pins,p.1≠b)
  (keep:∀ b o,b≠X.env.locals->b∉X.fs->b∉ch->s.heap.get? b=v9 o->H b=wb->h'.get? b=v9 o)
  (slot:∀ b o,b≠X.env.locals->b∈X.fs->b∉ch->s.heap.get? b=v9 o->H b=wb->∃ sl,h'.get? b=v9 { o with slots:=sl }) (free:∀ b o,b∉ch->s.heap.get? b=v9 o->H b=wb->H' b=wb)
  (there:∀ b o,b∉ch->s.heap.get? b=v9 o->∃ o',h'.get? b=v9 o')
  (tups:∀ b xs,H b=v9 (.tup xs)->H' b=v9 (.tup xs)) (frzs:∀ b o u,H b=v9 (.frz o u)->H' b=v9 (.frz o u)) (tbls:∀ b ps,H b=v9 (.tbl ps)->∃ more,H' b=v9 (.tbl (ps++more)))
  (ns:∀ m,s.heap.Ns X.env.locals m->h'.Ns X.env.locals m) (hok:HOk X.prog X.w H' h') (hg:mf g'):
  Inv X pins σ H' { s with heap:=h',gens:=g',drawn:=d',toks:=t' }:=by
 have neL:∀ b o,X.s₀.heap.get? b=v9 o->b≠X.env.locals:=fun b o e=>cm (cf (br e) I.ok.above);have neC:∀ b o,X.s₀.heap.get? b=v9 o->b∉X.ex->b∉ch:=fun b o e hx hb=>by
  rcases(hch b hb).1 with z|z
  ·exact hx z
  ·exact absurd (cf (br e) z) (fx _)
 have cellK:∀ x c,X.env.cells.lookup x=v9 c->∀ v,s.heap.IsCell c v->h'.IsCell c v:=fun x c e v ⟨o,ho,hd⟩=>by
  have nch:c∉ch:=fun z=>(hch c z).2.2.1 x c e rfl
  by_cases hc:c∈X.fs
  ·obtain⟨sl,q⟩:=slot c o (I.cne x c e) hc nch ho (I.freeC x c e);exact⟨_,q,hd⟩
  ·exact⟨o,keep c o (I.cne x c e) hc nch ho (I.freeC x c e),hd⟩
 refine⟨I.ok,I.os,hg,⟨fun b o e n hb hx=> ?_,fun b o e n hb hx=> ?_,fun b o e n hx=> ?_,fun b o e hx=> ?_,fun b xs e=>tups b xs (I.base.tups b xs e),fun b o xs e=>frzs b o xs (I.base.frzs b o xs e),fun b ps e=> ?_⟩,?_,fun x c e=> ?_,?_,fun x c e=> ?_,fun p hp=> ?_,hok,I.len⟩
 ·exact keep b o (neL b o e) hb (neC b o e hx) (I.base.keep b o e n hb hx) (I.base.free b o e n hx)
 ·obtain⟨sl,e1⟩:=I.base.slot b o e n hb hx;obtain⟨sl',e2⟩:=slot b _ (neL b o e) hb (neC b o e hx) e1 (I.base.free b o e n hx);exact⟨sl',e2⟩
 ·obtain⟨o',e1⟩:=I.base.there b o e hx;exact free b o' (neC b o e hx) e1 (I.base.free b o e n hx)
 ·obtain⟨o',e1⟩:=I.base.there b o e hx;exact there b o' (neC b o e hx) e1
 ·obtain⟨m1,e1⟩:=I.base.tbls b ps e;obtain⟨m2,e2⟩:=tbls b _ e1;exact⟨m1++m2,by rw[e2,Array.append_assoc]⟩
 ·obtain⟨m,hn,hl⟩:=I.loc;refine⟨m,ns m hn,fun i x v e1 e2 e3=> ?_⟩;obtain⟨u,r,l⟩:=hl i x v e1 e2 e3;refine⟨u,r,?_⟩;rcases l with l|⟨k,c,e,z⟩
  ·exact .inl l
  ·exact .inr ⟨k,c,e,cellK x c e _ z⟩
 ·obtain⟨v,z⟩:=I.cell x c e;exact⟨v,cellK x c e v z⟩
 ·obtain⟨m,⟨o,_,_,ho,_⟩,_⟩:=I.loc;exact free _ o (fun z=>(hch _ z).2.1 rfl) ho I.free
 ·obtain⟨v,o,ho,hd⟩:=I.cell x c e;exact free c o (fun z=>(hch c z).2.2.1 x c e rfl) ho (I.freeC x c e)
 ·obtain⟨e,n,ne,nf,d⟩:=I.pin p hp;have nch:p.1∉ch:=fun z=>(hch p.1 z).2.2.2 p hp rfl;exact⟨keep p.1 p.2 ne nf nch e n,free p.1 p.2 nch e n,ne,nf,d⟩
theorem Inv.un (I:Inv X pins σ H s) (u:Un X.fs [] H H' s.heap h') (hok:HOk X.prog X.w H' h'):Inv X pins σ H' { s with heap:=h',toks:=t' }:=by
 obtain⟨m,⟨o,es,ep,ho,r⟩,_⟩:=id I.loc;obtain⟨sl,hL⟩:=u.any ho I.free (by simp);exact I.step (g':=s.gens) (d':=s.drawn) (ch:=[]) (fun _ z=>nomatch z) (fun b o _ hb _ e n=>u.keep b o e n hb (by simp)) (fun b o _ hb _ e n=>u.slot b o e n hb (by simp)) (fun b o _ e n=>u.free b o e n (by simp)) (fun b o _ e=>u.there b o e (by simp)) u.tups u.frzs u.tbls (fun m' hm=>by
  obtain⟨o',es',ep',ho',r'⟩:=hm;rw[ho] at ho';cases ho';exact⟨_,es',ep',hL,r'⟩) hok I.bare
theorem Inv.call (I:Inv X pins σ H s) (u:Un (frs X.stack) ch H H' s.heap h') (hok:HOk X.prog X.w H' h') (hg:mf g')
  (hch:∀ b∈ch,(b∈X.ex∨X.s₀.heap.objs.size<=b)/\b≠X.env.locals/\(∀ x c,X.env.cells.lookup x=v9 c->c≠b)/\∀ p∈X.pn++pins,p.1≠b):
  Inv X pins σ H' { s with heap:=h',gens:=g',drawn:=d',toks:=t' }:=by
 obtain⟨m,⟨o,es,ep,ho,r⟩,_⟩:=id I.loc;obtain⟨sl,hL⟩:=u.any ho I.free fun z=>(hch _ z).2.1 rfl;exact I.step (ch:=ch) hch (fun b o hL hb hc e n=>u.keep b o e n (fun z=>(aj.mp (I.stkSub b z)).elim hL hb) hc) (fun b o _ _ hc e n=>u.any e n hc) (fun b o hc e n=>u.free b o e n hc) (fun b o hc e=>u.there b o e hc) u.tups u.frzs u.tbls (fun m' hm=>by
  obtain⟨o',es',ep',ho',r'⟩:=hm;rw[ho] at ho';cases ho';exact⟨_,es',ep',hL,r'⟩) hok hg
theorem Inv.turned (I:Inv X pins σ H s) (k:∀ b o,b≠it->s.heap.get? b=v9 o->h'.get? b=v9 o) (hn:H it=wb) (hL:it≠X.env.locals)
  (h1:it∈X.ex∨X.s₀.heap.objs.size<=it) (h2:∀ x c,X.env.cells.lookup x=v9 c->c≠it) (h3:∀ p∈X.pn++pins,p.1≠it):Inv X pins σ H { s with heap:=h',toks:=t' }:=by
 have nit:∀ b u,H b=v9 u->b≠it:=fun b u e z=>by rw[z,hn] at e;cases e
 refine I.step (g':=s.gens) (d':=s.drawn) (ch:=[it]) (fun b hb=> ?_) (fun b o _ _ hc e _=>k b o (fun z=>hc (by simp[z])) e) (fun b o _ _ hc e _=>⟨o.slots,k b o (fun z=>hc (by simp[z])) e⟩) (fun _ _ _ _ n=>n)
  (fun b o hc e=>⟨o,k b o (fun z=>hc (by simp[z])) e⟩) (fun _ _ e=>e) (fun _ _ _ e=>e) (fun b ps e=>⟨#[],by rw[e];simp⟩) (fun m hm=> ?_) (fun b u e=> ?_) I.bare
 ·have e:b=it:=by simpa using hb
  subst e;exact⟨h1,hL,h2,h3⟩
 ·obtain⟨o,es,ep,ho,r⟩:=hm;exact⟨o,es,ep,k _ o (c5 hL) ho,r⟩
 ·refine(I.hok b u e).stay (fun c v hc q=>k c v ?_ q) (fun _ q=>q) fun _ _ q=>q;rcases hc with z|z
  ·rw[z];exact nit b u e
  ·exact nit c _ z
theorem Inv.tok (I:Inv X pins σ H s) (t:Nat):Inv X pins σ H { s with toks:=t }:=I.un (h':=s.heap) (t':=t) Un.refl I.hok
theorem Inv.kept (I:Inv X pins σ H s) (k:∀ b u,s.heap.get? b=v9 u->h'.get? b=v9 u):Inv X pins σ H { s with heap:=h',toks:=t' }:=I.un (Un.kept k) (I.hok.kept k)
theorem Inv.laid (I:Inv X pins σ H s) (k:∀ b u,s.heap.get? b=v9 u->h'.get? b=v9 u) (hp:s.heap.objs.size<=a) (new:ObjOk X.prog X.w (upd H a o) h' a o):
  Inv X pins σ (upd H a o) { s with heap:=h',toks:=t' }:=I.un (Un.laid k hp (I.hok.fresh hp)) (I.hok.laid k hp new)
theorem Inv.write (I:Inv X pins σ H s) (mu:Mut (H x)) (he:e=x∨H e=v9 (.own x)) (k:∀ b u,b≠e->s.heap.get? b=v9 u->h'.get? b=v9 u) (heo:∃ u,h'.get? e=v9 u)
  (new:ObjOk X.prog X.w (upd H x o) h' x o):Inv X pins σ (upd H x o) { s with heap:=h',toks:=t' }:=I.un (Un.write mu he k heo) (I.hok.write mu he k heo new)
theorem Inv.weak (I:Inv X pins σ H s) (hl:σ'.length=σ.length) (w:∀(i:Nat) v,σ'[i]?=v9 (v9 v)->σ[i]?=v9 (v9 v)):Inv X pins σ' H s:=
 ⟨I.ok,I.os,I.bare,I.base,let ⟨m,hn,hl'⟩:=I.loc;⟨m,hn,fun i x v e1 e2 e3=>hl' i x v e1 (w i v e2) e3⟩,I.cell,I.free,I.freeC,I.pin,I.hok,hl.trans I.len⟩
theorem Inv.pins_of (I:Inv X pins σ H s) (h:∀ p∈pins',s.heap.get? p.1=v9 p.2/\H p.1=wb/\p.1≠X.env.locals/\p.1∉X.fs/\∀ v,p.2.data≠ .cell v):Inv X pins' σ H s:=
 ⟨I.ok,I.os,I.bare,I.base,I.loc,I.cell,I.free,I.freeC,fun p hp=>(cj.mp hp).elim (fun z=>I.pin p (dc _ z)) (h p),I.hok,I.len⟩
theorem nodup_ix {N:List Str} (hN:N.Nodup) {i j:Nat} (a:N[i]?=v9 x) (b:N[j]?=v9 x):i=j:=by
 obtain⟨h1,e1⟩:=bg.mp a;obtain⟨h2,e2⟩:=bg.mp b;exact(List.getElem_inj hN).mp (e1.trans e2.symm)
theorem uU (I:Inv X pins σ H s) (hN:X.N.Nodup) (hi:X.N[i]?=v9 x) (hx:Loc X.env.scope x) (r:RelV v u)
  (h:∀ s',Inv X pins (σ.set i (v9 v)) H s'->(∃ a,en a s.heap s'.heap/\(a=X.env.locals∨X.env.cells.lookup x=v9 a))->Q () s') (hf:X.fn x=true∨X.env.scope.names.lookup x=v9 .local:=by first|exact .inl rfl|exact .inr rfl|assumption):ax M A (storeName X.env x u) Q E s:=by
 obtain⟨m,hn,hl⟩:=id I.loc;have hcls:(X.env.scope.kind== .class||(X.env.scope.kind== .module&&X.env.locals !=X.env.globals))=false:=by rw[I.ok.kind];rfl
 have hiσ:i<σ.length:=by rw[I.len];exact(bg.mp hi).1
 have cne:=I.cne;have tracked:∀ {a:af}{h':cz},(∃ o,s.heap.get? a=v9 o/\H a=wb)->en a s.heap h'->HOk X.prog X.w H h':=fun {a h'} ha hs b ob e=>by
  obtain⟨_,_,hfree⟩:=ha;refine(I.hok b ob e).stay (fun c w' hc q=>(hs.2 c ?_).trans q) (fun _ q=>q) fun _ _ q=>q;rintro rfl;rcases hc with rfl|hc
  ·rw[hfree] at e;cases e
  ·rw[hfree] at hc;cases hc
 rcases hx with hk|hk
 ·refine wpAny_storeName_local hk hn (fun h' hn' hs=> ?_) hcls;obtain⟨oL,_,_,hoL,_⟩:=id hn;refine h _ ⟨I.ok,I.os,I.bare,⟨fun b o e n hb hx=> ?_,fun b o e n hb hx=> ?_,I.base.free,fun b o e hx=> ?_,I.base.tups,I.base.frzs,I.base.tbls⟩,⟨_,hn',fun j y v' e1 e2 e3=> ?_⟩,fun y c e=> ?_,I.free,I.freeC,fun p hp=> ?_,tracked ⟨oL,hoL,I.free⟩ hs,by simpa using I.len⟩ ⟨_,hs,.inl rfl⟩
  ·exact(hs.2 b (cm (cf (br e) I.ok.above))).trans (I.base.keep b o e n hb hx)
  ·obtain⟨sl,e1⟩:=I.base.slot b o e n hb hx;exact⟨sl,(hs.2 b (cm (cf (br e) I.ok.above))).trans e1⟩
  ·obtain⟨o',e1⟩:=I.base.there b o e hx;exact⟨o',(hs.2 b (cm (cf (br e) I.ok.above))).trans e1⟩
  ·by_cases hj:j=i
   ·subst hj;rw[hi] at e1;cases e1;rw[ff hiσ] at e2;cases e2;exact⟨u,r,.inl ⟨hk,by simp⟩⟩
   ·rw[hX (c5 hj)] at e2;obtain⟨u',r',q⟩:=hl j y v' e1 e2 e3;refine⟨u',r',?_⟩;rcases q with⟨k,e⟩|⟨k,c,e,z⟩
    ·refine .inl ⟨k,?_⟩
     have:y≠x:=fun e=>hj (nodup_ix hN e1 (e ▸ hi))
     simp[this,e]
    ·exact .inr ⟨k,c,e,z.sameBut hs (cne y c e)⟩
  ·obtain⟨w',z⟩:=I.cell y c e;exact⟨w',z.sameBut hs (cne y c e)⟩
  ·obtain⟨e,n,ne,nf,d⟩:=I.pin p hp;exact⟨(hs.2 p.1 ne).trans e,n,ne,nf,d⟩
 ·have hfn:X.fn x=true:=by
   rcases hf with z|z
   ·exact z
   ·rw[z] at hk;cases hk
  obtain⟨c,hc⟩:=I.ok.has x (.inl hk);obtain⟨w',z⟩:=I.cell x c hc;refine wpAny_storeName_cell I.ok.kind hk hc z (fun h' hc' hs=> ?_);obtain⟨oc,hoc,hocd⟩:=id z;refine h { s with heap:=h' } ⟨I.ok,I.os,I.bare,⟨fun b o e n hb hx=> ?_,fun b o e n hb hx=> ?_,I.base.free,fun b o e hx=> ?_,I.base.tups,I.base.frzs,I.base.tbls⟩,⟨m,hn.sameBut hs (c5 (cne x c hc)),fun j y v' e1 e2 e3=> ?_⟩,fun y c' e=> ?_,I.free,I.freeC,fun p hp=> ?_,tracked ⟨oc,hoc,I.freeC x c hc⟩ hs,by simpa using I.len⟩ ⟨c,hs,.inr hc⟩
  ·exact(hs.2 b (cm (cf (br e) (I.ok.cab x c hfn hc)))).trans (I.base.keep b o e n hb hx)
  ·obtain⟨sl,e1⟩:=I.base.slot b o e n hb hx;exact⟨sl,(hs.2 b (cm (cf (br e) (I.ok.cab x c hfn hc)))).trans e1⟩
  ·obtain⟨o',e1⟩:=I.base.there b o e hx;exact⟨o',(hs.2 b (cm (cf (br e) (I.ok.cab x c hfn hc)))).trans e1⟩
  ·by_cases hj:j=i
   ·subst hj;rw[hi] at e1;cases e1;rw[ff hiσ] at e2;cases e2;exact⟨u,r,.inr ⟨.inl hk,c,hc,hc'⟩⟩
   ·rw[hX (c5 hj)] at e2;obtain⟨u',r',q⟩:=hl j y v' e1 e2 e3;refine⟨u',r',?_⟩;rcases q with q|⟨k,c',e,z'⟩
    ·exact .inl q
    ·refine .inr ⟨k,c',e,z'.sameBut hs ?_⟩;rintro rfl;exact hj (nodup_ix hN e1 (I.ok.inj _ _ _ e hc ▸ hi))
  ·by_cases hcc:c'=c
   ·subst hcc;exact⟨_,hc'⟩
   ·obtain⟨w2,z2⟩:=I.cell y c' e;exact⟨w2,z2.sameBut hs hcc⟩
  ·obtain⟨e,n,ne,nf,d⟩:=I.pin p hp;refine⟨(hs.2 p.1 ?_).trans e,n,ne,nf,d⟩;intro q;rw[q,hoc] at e;have q':oc=p.2:=b8 e;exact d w' (by rw[<- q'];exact hocd)
theorem Au (I:Inv X pins σ H s) (hN:X.N.Nodup) (hi:X.N[i]?=v9 x) (hx:Loc X.env.scope x) (r:RelV v u)
  (h:∀ s',Inv X pins (σ.set i (v9 v)) H s'->Q () s') (hf:X.fn x=true∨X.env.scope.names.lookup x=v9 .local:=by first|exact .inl rfl|exact .inr rfl|assumption):ax M A (storeName X.env x u) Q E s:=
 uU I hN hi hx r (fun s' I' _=>h s' I') hf
theorem Inv.call' (I:Inv X pins σ H s) (ho:s'.os=s.os) (u:Un (frs X.stack) ch H H' s.heap s'.heap) (hok:HOk X.prog X.w H' s'.heap) (hg:mf s'.gens)
  (hch:∀ b∈ch,(b∈X.ex∨X.s₀.heap.objs.size<=b)/\b≠X.env.locals/\(∀ x c,X.env.cells.lookup x=v9 c->c≠b)/\∀ p∈X.pn++pins,p.1≠b):Inv X pins σ H' s':=by
 obtain⟨h',g',d',t',o'⟩:=s';have e:o'=s.os:=ho;subst e;exact I.call (g':=g') (t':=t') (d':=d') u hok hg hch
end
noncomputable abbrev XK:=ag->Option af->Hp->Prop
noncomputable abbrev St:=List (Option V)
noncomputable abbrev VK:=V->Hp->Prop
noncomputable abbrev TE:=St->Hp->VK->Prop
noncomputable abbrev TT:=St->Hp->(Bool->Hp->Prop)->Prop
noncomputable abbrev TA:=St->Hp->(List V->Hp->Prop)->Prop
structure Br where
 nx:St->Hp->Prop
 rt:VK
 bk:St->Hp->Prop:=fun _ _=>False
 ct:St->Hp->Prop:=fun _ _=>False
noncomputable abbrev TS:=Br->St->Hp->Prop
noncomputable def EP (X:Cx) (pins:List (af×Obj)) (σ:St) (Q:VK) (u:ag) (s':am):Prop:=∃ v H',Inv X pins σ H' s'/\RelV v u/\Q v H'
noncomputable def TP (X:Cx) (pins:List (af×Obj)) (σ:St) (Q:Bool->Hp->Prop) (b:Bool) (s':am):Prop:=∃ H',Inv X pins σ H' s'/\Q b H'
noncomputable def AP (X:Cx) (pins:List (af×Obj)) (σ:St) (Q:List V->Hp->Prop) (us:List ag) (s':am):Prop:=∃ vs H',Inv X pins σ H' s'/\Vals vs us/\Q vs H'
noncomputable def SP (X:Cx) (pins:List (af×Obj)) (D:Br) (f:Flow) (s':am):Prop:=
 match f with
 |.next=>∃ σ' H',Inv X pins σ' H' s'/\D.nx σ' H'
 |.brk=>∃ σ' H',Inv X pins σ' H' s'/\D.bk σ' H'
 |.cont=>∃ σ' H',Inv X pins σ' H' s'/\D.ct σ' H'
 |.ret u=>∃ v σ' H',Inv X pins σ' H' s'/\RelV v u/\D.rt v H'
noncomputable def PE (X:Cx) (e:bx) (t:TE):Prop:=
 ∀(pins:List (af×Obj)) (s:am) (σ:St) (H:Hp) (Q:VK),Inv X pins σ H s->t σ H Q->ax (model X.prog X.w) X.A (eval e X.env) (EP X pins σ Q) X.xe s
noncomputable def PT (X:Cx) (e:bx) (t:TT):Prop:=
 ∀(pins:List (af×Obj)) (s:am) (σ:St) (H:Hp) (Q:Bool->Hp->Prop),Inv X pins σ H s->t σ H Q->ax (model X.prog X.w) X.A (isTrue e X.env (eval e X.env)) (TP X pins σ Q) X.xe s
noncomputable def PW (X:Cx) (e:bx) (t:TT):Prop:=
 ∀(whole:Sem ag) (pins:List (af×Obj)) (s:am) (σ:St) (H:Hp) (Q:Bool->Hp->Prop),Inv X pins σ H s->t σ H Q->ax (model X.prog X.w) X.A (isTrue e X.env whole) (TP X pins σ Q) X.xe s
theorem PW.pt (h:PW X e t):PT X e t:=h _
noncomputable def PA (X:Cx) (es:List bx) (t:TA):Prop:=
 ∀(pos:Pos) (pins:List (af×Obj)) (s:am) (σ:St) (H:Hp) (Q:List V->Hp->Prop),Inv X pins σ H s->t σ H Q->ax (model X.prog X.w) X.A (spliced (de pos (aq es X.env))) (AP X pins σ Q) X.xe s
noncomputable def PS (X:Cx) (st:cx) (t:TS):Prop:=
 ∀(pins:List (af×Obj)) (s:am) (σ:St) (H:Hp) (D:Br),Inv X pins σ H s->t D σ H->ax (model X.prog X.w) X.A (exec st X.env) (SP X pins D) X.xe s
noncomputable def PSs (X:Cx) (st:List cx) (t:TS):Prop:=
 ∀(pins:List (af×Obj)) (s:am) (σ:St) (H:Hp) (D:Br),Inv X pins σ H s->t D σ H->ax (model X.prog X.w) X.A (execs st X.env) (SP X pins D) X.xe s
theorem thn {Q Q':α->am->Prop} (h:ax M A t Q E s) (hQ:∀ a s,Q a s->Q' a s):ax M A t Q' E s:=gg h hQ fun _ _ x=>x
end L2
namespace L2
section
variable {X:Cx}
noncomputable def Pr (i:Nat):TE:=fun σ H Q=>∃ v,σ[i]?=v9 (v9 v)/\Q v H
noncomputable def tC (v:V):TE:=fun _ H Q=>Q v H
theorem LJ (hN:X.N[i]?=v9 x) (hv:Vis X.env.scope x) (hd:(x==("__debug__":Str))=false:=by decide) (hcd:(x==("__classdict__":Str))=false:=by decide):PE X (.Name x pos) (Pr i):=by
 intro pins s σ H Q I h;obtain⟨v,e,h⟩:=h;obtain⟨m,hn,hl⟩:=I.loc;obtain⟨u,r,l⟩:=hl i x v hN e hv;have fin:EP X pins σ Q u s:=⟨v,H,I,r,h⟩;rcases l with⟨hk,hm⟩|⟨hk,c,hc,hcell⟩
 ·exact wpAny_Name (wpAny_loadName_local I.ok.kind hk hn hm fin) hd
 ·rcases hk with hk|hk
  ·exact wpAny_Name (wpAny_loadName_cell I.ok.kind hk hc hcell fin) hd
  ·exact wpAny_Name (wpAny_loadName_free I.ok.kind hk hc hcell fin hcd) hd
theorem LO:PE X (.Constant (.int i) j pos) (tC (.int i)):=fun _ _ _ H _ I h=>wpAny_Constant_int ⟨.int i,H,I.tok _,⟨_,rfl⟩,h⟩
theorem Oo:PE X (.Constant (.bool b) j pos) (tC (.bl b)):=fun _ _ _ H _ I h=>Constant_bool ⟨.bl b,H,I,rfl,h⟩
theorem LN:PE X (.Constant .none j pos) (tC .non):=fun _ _ _ H _ I h=>Constant_none ⟨.non,H,I,rfl,h⟩
theorem LK:PE X (.Constant (.str x) j pos) (tC (.str x)):=fun _ _ _ H _ I h=>Calls.Constant_str ⟨.str x,H,I.tok _,⟨_,rfl⟩,h⟩
noncomputable def Gl (X:Cx) (x:Str):Prop:=X.env.kindOf x=v9 .globalImplicit
theorem sU (I:Inv X pins σ H s) (hg:Gl X x) (hm:X.mg x=v9 u) (h:Q u s)
  (hd:(x==("__debug__":Str))=false:=by decide):ax (model X.prog X.w) X.A (eval (.Name x pos) X.env) Q E s:=
 o7 I.ok.kind hg (Calls.loadGlobal_global (by rw[I.ok.glob];exact I.mod.glob.keeps I.bk) hm h) hd
theorem rD (I:Inv X pins σ H s) (hg:Gl X x) (hm:X.mg x=wb) (hv:db x=v9 u) (h:Q u s)
  (hn:x≠"__name__":=by decide) (hd:(x==("__debug__":Str))=false:=by decide):ax (model X.prog X.w) X.A (eval (.Name x pos) X.env) Q E s:=by
 obtain⟨mb,h1,h2⟩:=I.mod.blt;exact o7 I.ok.kind hg (Calls.loadGlobal_builtin (by rw[I.ok.glob];exact I.mod.glob.keeps I.bk) hm (by rw[I.ok.blt];exact h1.keeps I.bk) ((h2 x hn).trans hv) h) hd
theorem xU (hg:Gl X x) (hm:X.mg x=wb) (hv:db x=v9 u) (r:RelV v u) (hn:x≠"__name__":=by decide) (hd:(x==("__debug__":Str))=false:=by decide):PE X (.Name x pos) (tC v):=
 fun _ _ _ H _ I h=>rD I hg hm hv ⟨v,H,I,r,h⟩ hn hd
variable {a b:bx}{ta tb:TE}{pos:Pos}
noncomputable def PC (X:Cx) (op:CmpOp) (a b:bx) (t:TE):Prop:=
 ∀(pins:List (af×Obj)) (s:am) (σ:St) (H:Hp) (Q:VK),Inv X pins σ H s->t σ H Q->
  ax (model X.prog X.w) X.A (eval a X.env) (fun v s₁=>ax (model X.prog X.w) X.A (eval b X.env) (fun u s₂=>ax (model X.prog X.w) X.A (fh op v u) (EP X pins σ Q) X.xe s₂) X.xe s₁) X.xe s
noncomputable def tB (t:TE):TT:=fun σ H Q=>t σ H fun x H1=>∃ c,x=.bl c/\Q c H1
theorem LA (h:PC X op a b t) (h1:iz op b=false:=by first|exact nobehind _ (by decide) (by decide)|rfl):PT X (.Compare a [op] [b] pos) (tB t):=by
 intro pins s σ H Q I hw;refine rm (thn (h pins s σ H _ I hw) fun v s1 h1=>thn h1 fun u s2 h2=>thn h2 fun c s3 ⟨x,H1,I1,r1,q1⟩=> ?_) h1;obtain⟨d,rfl,q⟩:=q1;cases r1;exact dm ⟨H1,I1,q⟩
variable {tA tB':TT}{rest:List bx}
noncomputable def Qf (t u:TT):TT:=fun σ H Q=>t σ H fun c H1=>if c=true then u σ H1 Q else Q false H1
noncomputable def tOr (t u:TT):TT:=fun σ H Q=>t σ H fun c H1=>if c=true then Q true H1 else u σ H1 Q
noncomputable def PZ (t:TT):TT:=fun σ H Q=>t σ H fun c H1=>Q (!c) H1
theorem II (ha:PT X a tA):PW X (.BoolOp .And [a] pos) tA:=by
 intro wh pins s σ H Q I h;refine isTrue_and (thn (ha pins s σ H Q I h) fun c s1 e=> ?_);cases c with
 |true=>exact isTrue_and_nil e
 |false=>exact e
theorem Lv (ha:PT X a tA):PW X (.BoolOp .Or [a] pos) tA:=by
 intro wh pins s σ H Q I h;refine isTrue_or (thn (ha pins s σ H Q I h) fun c s1 e=> ?_);cases c with
 |false=>exact isTrue_or_nil e
 |true=>exact e
theorem Lx (ha:PT X a tA) (hb:PW X (.BoolOp .And (b::rest) pos) tB'):PW X (.BoolOp .And (a::b::rest) pos) (Qf tA tB'):=by
 intro wh pins s σ H Q I h;refine isTrue_and (thn (ha pins s σ H _ I h) fun c s1 ⟨H1,I1,q1⟩=> ?_);cases c with
 |true=>exact hb wh pins s1 σ H1 Q I1 q1
 |false=>exact⟨H1,I1,q1⟩
theorem Of (ha:PT X a tA) (hb:PW X (.BoolOp .Or (b::rest) pos) tB'):PW X (.BoolOp .Or (a::b::rest) pos) (tOr tA tB'):=by
 intro wh pins s σ H Q I h;refine isTrue_or (thn (ha pins s σ H _ I h) fun c s1 ⟨H1,I1,q1⟩=> ?_);cases c with
 |true=>exact⟨H1,I1,q1⟩
 |false=>exact hb wh pins s1 σ H1 Q I1 q1
theorem Lz (ha:PT X a tA):PT X (.UnaryOp .Not a pos) (PZ tA):=by
 intro pins s σ H Q I h;exact isTrue_not (ha pins s σ H (fun c H1=>Q (!c) H1) I h)
noncomputable def NY (ta tb:TE):TE:=fun σ H Q=>ta σ H fun x H1=>∃ c,x=.bl c/\if c=true then tb σ H1 Q else Q (.bl false) H1
noncomputable def NQ (ta:TE):TE:=fun σ H Q=>ta σ H fun x H1=>∃ c,x=.bl c/\Q (.bl (!c)) H1
theorem LL (h:PE X a t):PE X (.BoolOp op [a] pos) t:=fun pins s σ H Q I hw=>BoolOp_one (h pins s σ H Q I hw)
theorem LS (ha:PE X a ta) (hb:PE X (.BoolOp .And (b::rest) pos) tb):PE X (.BoolOp .And (a::b::rest) pos) (NY ta tb):=by
 intro pins s σ H Q I h;refine BoolOp_and (thn (ha pins s σ H _ I h) fun v s1 ⟨x,H1,I1,r1,q1⟩=> ?_);obtain⟨c,rfl,q1⟩:=q1;cases r1;refine dm ?_;cases c with
 |true=>exact hb pins s1 σ H1 Q I1 q1
 |false=>exact⟨.bl false,H1,I1,rfl,q1⟩
theorem LM (ha:PE X a ta):PE X (.UnaryOp .Not a pos) (NQ ta):=by
 intro pins s σ H Q I h;refine UnaryOp_ (thn (ha pins s σ H _ I h) fun v s1 ⟨x,H1,I1,r1,q1⟩=> ?_);obtain⟨c,rfl,q1⟩:=q1;cases r1;exact not_of (dm ⟨.bl (!c),H1,I1,rfl,q1⟩)
end
end L2
namespace L2
noncomputable def SqL (K:aa) (H:Hp) (a:af) (xs:List V):Prop:=
 Rd H a (.lst xs)∨
  ∃(o:Obj) (its:Array ag) (n:Nat),K.lookup a=v9 o/\o.cls=.type "list"/\o.dict=wb/\o.data=.seq its n/\its.size<=sizeLine/\Vals xs its.toList
noncomputable def SqT (K:aa) (H:Hp) (a:af) (xs:List V):Prop:=
 Rd H a (.tup xs)∨
  ∃(o:Obj) (its:Array ag) (n:Nat),K.lookup a=v9 o/\o.cls=.type "tuple"/\o.data=.seq its n/\its.size<=sizeLine/\Vals xs its.toList
noncomputable def QB:ag->Option V
 |.none=>v9 .non
 |.bool b=>v9 (.bl b)
 |.int i _=>v9 (.int i)
 |.str x _=>v9 (.str x)
 |.bytes b _=>v9 (.byt b)
 |.float b _=>v9 (.flt b)
 |.ref a=>v9 (.ref a)
 |.type n=>v9 (.ty n)
 |_=>wb
theorem RelV.abs (r:RelV x u):QB u=v9 x:=by
 cases x with
 |non=>cases r;rfl
 |bl _=>cases r;rfl
 |int _=>obtain⟨t,rfl⟩:=r;rfl
 |str _=>obtain⟨t,rfl⟩:=r;rfl
 |byt _=>obtain⟨t,rfl⟩:=r;rfl
 |flt _=>obtain⟨t,rfl⟩:=r;rfl
 |ref _=>cases r;rfl
 |ty _=>cases r;rfl
theorem RelV.inj (r:RelV x u) (q:RelV y u):x=y:=b8 (r.abs.symm.trans q.abs)
theorem Vals.inj:∀ {xs ys:List V}{us:List ag},Vals xs us->Vals ys us->xs=ys
 |_,_,_,.nil,.nil=>rfl
 |_,_,_,.cons r t,.cons r' t'=>by rw[r.inj r',Vals.inj t t']
section
variable {X:Cx}{pins:List (af×Obj)}{σ:St}{H:Hp}{s:am}{a:af}{xs ys:List V}
theorem SqL.of {K:aa} (h:H a=v9 (.lst xs)):SqL K H a xs:=.inl (.inl h)
theorem Inv.list (I:Inv X pins σ H s) (h:SqL X.K H a xs):∃ its:List ag,Vals xs its/\PlainL s.heap a its.toArray/\xs.length<=sizeLine:=by
 rcases h with h|⟨o,its,n,hk,hc,hd,hs,hz,r⟩
 ·obtain⟨z,its,n,r,e⟩:=h.ok I.hok;exact⟨its,r,⟨_,n,e,rfl,rfl,rfl⟩,z⟩
 ·refine⟨its.toList,r,⟨o,n,I.kIn a o hk,hc,hd,by simpa using hs⟩,?_⟩;have e:=r.length;simp only[dr] at e;omega
theorem Inv.tuple (I:Inv X pins σ H s) (h:SqT X.K H a xs):∃ its:List ag,Vals xs its/\IsTup s.heap a its.toArray/\xs.length<=sizeLine:=by
 rcases h with h|⟨o,its,n,hk,hc,hs,hz,r⟩
 ·obtain⟨z,its,r,p⟩:=h.ok I.hok;exact⟨its,r,p,z⟩
 ·refine⟨its.toList,r,⟨o,I.kIn a o hk,hc,n,by simpa using hs⟩,?_⟩;have e:=r.length;simp only[dr] at e;omega
theorem Inv.list_inj (I:Inv X pins σ H s) (h:SqL X.K H a xs) (h':SqL X.K H a ys):xs=ys:=by
 obtain⟨its,r,⟨o,n,e,_,_,d⟩,_⟩:=I.list h;obtain⟨its',r',⟨o',n',e',_,_,d'⟩,_⟩:=I.list h';rw[e] at e';cases e';rw[d] at d';injection d' with d1 _
 have:its=its':=by simpa using congrArg Array.toList d1
 subst this;exact r.inj r'
theorem Inv.tuple_inj (I:Inv X pins σ H s) (h:SqT X.K H a xs) (h':SqT X.K H a ys):xs=ys:=by
 obtain⟨its,r,⟨o,e,_,n,d⟩,_⟩:=I.tuple h;obtain⟨its',r',⟨o',e',_,n',d'⟩,_⟩:=I.tuple h';rw[e] at e';cases e';rw[d] at d';injection d' with d1 _
 have:its=its':=by simpa using congrArg Array.toList d1
 subst this;exact r.inj r'
end
noncomputable abbrev Cx.wish (X:Cx) (E:ag->am->Prop):Cx:={ X with xe:=E }
noncomputable abbrev Cx.nox (X:Cx):Cx:=X.wish fun _ _=>False
theorem Cx.Ok.wish {X:Cx} (ok:X.Ok) (E:ag->am->Prop):(X.wish E).Ok:=
 ⟨ok.mod,ok.kind,ok.glob,ok.blt,ok.above,ok.inj,ok.has,ok.cab,ok.hd,ok.frames,ok.stk,ok.exf,ok.bs,ok.bsz,ok.noex,ok.exfs,ok.funs,ok.frf⟩
theorem Cx.Ok.unwish {X:Cx} (ok:(X.wish E).Ok):X.Ok:=
 ⟨ok.mod,ok.kind,ok.glob,ok.blt,ok.above,ok.inj,ok.has,ok.cab,ok.hd,ok.frames,ok.stk,ok.exf,ok.bs,ok.bsz,ok.noex,ok.exfs,ok.funs,ok.frf⟩
section
variable {X:Cx}{pins:List (af×Obj)}{σ:St}{H:Hp}{s:am}{E:ag->am->Prop}
theorem Inv.wish (I:Inv X pins σ H s) (E:ag->am->Prop):Inv (X.wish E) pins σ H s:=⟨I.ok.wish E,I.os,I.bare,I.base,I.loc,I.cell,I.free,I.freeC,I.pin,I.hok,I.len⟩
theorem Inv.unwish (I:Inv (X.wish E) pins σ H s):Inv X pins σ H s:=⟨I.ok.unwish,I.os,I.bare,I.base,I.loc,I.cell,I.free,I.freeC,I.pin,I.hok,I.len⟩
theorem SP.unwish (h:SP (X.wish E) pins D f s'):SP X pins D f s':=by
 cases f with
 |next=>obtain⟨σ',H',I,q⟩:=h;exact⟨σ',H',I.unwish,q⟩
 |brk=>obtain⟨σ',H',I,q⟩:=h;exact⟨σ',H',I.unwish,q⟩
 |cont=>obtain⟨σ',H',I,q⟩:=h;exact⟨σ',H',I.unwish,q⟩
 |ret u=>obtain⟨v,σ',H',I,r,q⟩:=h;exact⟨v,σ',H',I.unwish,r,q⟩
end
section
variable {X:Cx}{st:cx}{rest:List cx}{t u:TS}{e:bx}{te:TE}{pos:Pos}
noncomputable def NR:TS:=fun D σ H=>D.nx σ H
noncomputable def PX (t u:TS):TS:=fun D σ H=>t { D with nx:=u D } σ H
theorem IL:PSs X [] NR:=fun _ _ σ H _ I h=>nv ⟨σ,H,I,h⟩
theorem FV (h1:PS X st t) (h2:PSs X rest u):PSs X (st::rest) (PX t u):=by
 intro pins s σ H D I h;refine wpAny_execs_cons (thn (h1 pins s σ H { D with nx:=u D } I h) fun f s1 q=> ?_);cases f with
 |next=>
  obtain⟨σ',H',I',q⟩:=q;exact h2 pins s1 σ' H' D I' q
 |ret v=>exact q
 |brk=>exact q
 |cont=>exact q
theorem IK (h1:PS X st t):PSs X [st] t:=by
 intro pins s σ H D I h;refine wpAny_execs_cons (thn (h1 pins s σ H D I h) fun f s1 q=> ?_);cases f with
 |next=>exact nv q
 |ret v=>exact q
 |brk=>exact q
 |cont=>exact q
theorem Inv.quiet (I:Inv X pins σ H s):interactive X.env=false:=by simp[interactive,I.ok.kind]
noncomputable def NU (te:TE):TS:=fun D σ H=>te σ H fun _ H1=>D.nx σ H1
theorem IN (he:PE X e te) (hs:jc e wb pos.line X.env=pure false:=by rfl):PS X (.Expr e pos) (NU te):=by
 intro pins s σ H D I h;exact wpAny_Expr_any (thn (he pins s σ H _ I h) fun v s1 ⟨x,H1,I1,r1,q1⟩=>⟨σ,H1,I1,q1⟩) I.quiet hs
noncomputable def PY (te:TE):TS:=fun D σ H=>te σ H D.rt
theorem LC (he:PE X e te):PS X (.Return (v9 e) pos) (PY te):=by
 intro pins s σ H D I h;exact wpAny_Return_some (thn (he pins s σ H _ I h) fun v s1 ⟨x,H1,I1,r1,q1⟩=>⟨x,σ,H1,I1,r1,q1⟩)
noncomputable def Qb (c:TT) (t u:TS):TS:=fun D σ H=>c σ H fun b H1=>if b=true then t D σ H1 else u D σ H1
theorem Og (hc:PT X c tc) (ha:PSs X a t) (hb:PSs X b u):PS X (.If c a b pos) (Qb tc t u):=by
 intro pins s σ H D I h;refine wpAny_If (thn (hc pins s σ H _ I h) fun d s1 ⟨H1,I1,q1⟩=> ?_);cases d with
 |true=>exact ha pins s1 σ H1 D I1 q1
 |false=>exact hb pins s1 σ H1 D I1 q1
end
noncomputable abbrev TG:=V->St->Hp->(St->Hp->Prop)->Prop
noncomputable abbrev TGs:=List V->St->Hp->(St->Hp->Prop)->Prop
noncomputable def PG (X:Cx) (target:bx) (t:TG):Prop:=
 ∀(pins:List (af×Obj)) (s:am) (σ:St) (H:Hp) (v:V) (u:ag) (Q:St->Hp->Prop),Inv X pins σ H s->RelV v u->t v σ H Q->
  ax (model X.prog X.w) X.A (assign target X.env u) (fun _ s'=>∃ σ' H',Inv X pins σ' H' s'/\Q σ' H') X.xe s
noncomputable def PGs (X:Cx) (ts:List bx) (t:TGs):Prop:=
 ∀(pins:List (af×Obj)) (s:am) (σ:St) (H:Hp) (vs:List V) (us:List ag) (Q:St->Hp->Prop),Inv X pins σ H s->Vals vs us->t vs σ H Q->
  ax (model X.prog X.w) X.A (assignInOrder ((mh ts X.env).map (·.2)) us) (fun _ s'=>∃ σ' H',Inv X pins σ' H' s'/\Q σ' H') X.xe s
noncomputable abbrev PN:=V->V->V->Hp->(Hp->Prop)->Prop
noncomputable def PP (X:Cx) (t:PN):Prop:=
 ∀(pins:List (af×Obj)) (s:am) (σ:St) (H:Hp) (o i v:V) (ov iv u:ag) (Q:Hp->Prop),Inv X pins σ H s->RelV o ov->RelV i iv->RelV v u->t o i v H Q->
  ax (model X.prog X.w) X.A (setItem ov iv u) (fun _ s'=>∃ H',Inv X pins σ H' s'/\Q H') X.xe s
section
variable {X:Cx}{pos:Pos}
noncomputable def Nc (i:Nat):TG:=fun v σ H Q=>Q (σ.set i (v9 v)) H
theorem xS (hN:X.N.Nodup) (hi:X.N[i]?=v9 x) (hx:Loc X.env.scope x) (hf:X.fn x=true∨X.env.scope.names.lookup x=v9 .local:=by first|exact .inl rfl|exact .inr rfl|assumption):PG X (.Name x pos) (Nc i):=by
 intro pins s σ H v u Q I r h;exact wpAny_assign_Name (Au I hN hi hx r (fun s' I'=>⟨_,H,I',h⟩) hf)
noncomputable def Qw:TGs:=fun vs σ H Q=>vs=[]/\Q σ H
noncomputable def OV (t:TG) (u:TGs):TGs:=fun vs σ H Q=>∃ v r,vs=v::r/\t v σ H fun σ' H'=>u r σ' H' Q
theorem IV:PGs X [] Qw:=by
 intro pins s σ H vs us Q I r h;obtain⟨e,h⟩:=h;subst e;cases r;exact assignInOrder_nil ⟨σ,H,I,h⟩
theorem AB (h1:PG X e t) (h2:PGs X es u)
  (hs:(mh (e::es) X.env).map (·.2)=assign e X.env::(mh es X.env).map (·.2):=by rfl):PGs X (e::es) (OV t u):=by
 intro pins s σ H vs us Q I r h;obtain⟨v,vr,e1,h⟩:=h;subst e1;cases r with
 |cons r rr=>
  rw[hs];refine assignInOrder_cons (thn (h1 pins s σ H _ _ _ I r h) fun _ s1 ⟨σ1,H1,I1,q1⟩=> ?_);exact h2 pins s1 σ1 H1 _ _ Q I1 rr q1
noncomputable def Qu (K:aa) (n:Nat) (t:TGs):TG:=fun v σ H Q=>∃ a xs,v=.ref a/\SqT K H a xs/\xs.length=n/\t xs σ H Q
theorem LH (hc:X.calm=true) (h:PGs X es t)
  (hn:(mh es X.env).length=n:=by rfl) (hst:(mh es X.env).findIdx? (·.1)=wb:=by rfl):PG X (.Tuple es k pos) (Qu X.K n t):=by
 intro pins s σ H v u Q I r hw;obtain⟨a,xs,e1,hq,hl,hw⟩:=hw;subst e1;cases r;obtain⟨its,rv,ht,hz⟩:=I.tuple hq;refine assign_Tuple_tuple (I.ok.hd hc) ht (by simp[hn,<- hl,rv.length]) hst fun h' hx=> ?_;have I1:Inv X pins σ H { s with heap:=h' }:=I.kept (t':=s.toks) fun b o e=>hx b o (cm (br e)) e;exact h pins _ σ H xs _ Q I1 (by simpa using rv) hw
noncomputable def gSub (to ti:TE) (t:PN):TG:=fun v σ H Q=>to σ H fun o H1=>ti σ H1 fun i H2=>t o i v H2 fun H3=>Q σ H3
theorem LI (ho:PE X o to) (hi:PE X i ti) (hs:PP X t)
  (ha:∀ v,assign (.Subscript o i pos) X.env v=(do
   let ov <- holding [v] (eval o X.env)
   let iv <- holding [v,ov] (eval i X.env)
   mj pos
   holding [v,ov,iv] (setItem ov iv v)
   release [v,ov,iv] []):=by intro _;rfl):PG X (.Subscript o i pos) (gSub to ti t):=by
 intro pins s σ H v u Q I r h;rw[ha];refine ae (ig (thn (ho pins s σ H _ I h) fun ov s1 ⟨x,H1,I1,r1,q1⟩=> ?_));refine ae (ig (thn (hi pins s1 σ H1 _ I1 q1) fun iv s2 ⟨y,H2,I2,r2,q2⟩=> ?_));refine ae (sy (ae (ig (thn (hs pins s2 σ H2 x y v ov iv u _ I2 r1 r2 r q2) fun _ s3 ⟨H3,I3,q3⟩=> ?_))));exact wpAny_release ⟨σ,H3,I3,q3⟩
noncomputable def Pt (te:TE) (g:TG):TS:=fun D σ H=>te σ H fun x H1=>g x σ H1 D.nx
theorem LF (he:PE X e te) (hg:PG X tg g) (hs:swapsWithSole [tg] e pos.line X.env=pure false:=by rfl) (hw:swappedStores [tg] e X.env=pure wb:=by rfl)
  (h1:(mh [tg] X.env).map (·.2)=[assign tg X.env]:=by rfl):PS X (.Assign [tg] e pos) (Pt te g):=by
 intro pins s σ H D I h;refine wpAny_Assign_stores (thn (he pins s σ H _ I h) fun v s1 ⟨x,H1,I1,r1,q1⟩=> ?_) hs hw;rw[h1];exact thn (hg pins s1 σ H1 x v _ I1 r1 q1) fun _ s2 q=>q
theorem LB (hN:X.N.Nodup) (hi:X.N[i]?=v9 x) (hx:Loc X.env.scope x) (he:PE X e te) (hs:jc e (v9 (.Name x pos')) pos.line X.env=pure false:=by rfl) (hf:X.fn x=true∨X.env.scope.names.lookup x=v9 .local:=by first|exact .inl rfl|exact .inr rfl|assumption):
  PS X (.Assign [.Name x pos'] e pos) (Pt te (Nc i)):=by
 intro pins s σ H D I h;refine wpAny_Assign_Name (thn (he pins s σ H _ I h) fun v s1 ⟨y,H1,I1,r1,q1⟩=> ?_) hs;exact Au I1 hN hi hx r1 (fun s2 I2=>⟨_,H1,I2,q1⟩) hf
end
section
variable {X:Cx}{pos:Pos}
end
structure It where
 go:Nat->Hp->Prop
 yld:Nat->Hp->V->Hp->Prop
 stop:Nat->Hp->Prop
noncomputable def Iu (X:Cx) (pins:List (af×Obj)) (H:Hp) (b:af):Prop:=
 H b=wb/\b≠X.env.locals/\b∉X.fs/\(b∈X.ex∨X.s₀.heap.objs.size<=b)/\(∀ x c,X.env.cells.lookup x=v9 c->c≠b)/\∀ p∈X.pn++pins,p.1≠b
theorem Inv.fpOk (I:Inv X pins σ H s) (hb:s.heap.objs.size<=b) (hn:H' b=wb):Iu X pins H' b:=by
 refine⟨hn,Nat.ne_of_gt (cf I.lt hb),I.nofs hb,.inr (ci I.sz hb),fun x c e z=> ?_,fun p hp z=> ?_⟩
 ·obtain⟨v,q⟩:=I.cell x c e;exact absurd (cf q.lt (by rw[z];exact hb)) (fx _)
 ·exact absurd (cf (br (I.pin p hp).1) (by rw[z];exact hb)) (fx _)
structure KG (P:c9) (w:df) (K:aa) (tg:bx) (J:It) (fp:List af) (it:af) (tn:Nat->cz->Prop):Prop where
 mem:it∈fp
 obj:∀ i h,tn i h->∀ b∈fp,∃ o,h.get? b=v9 o/\∀ v,o.data≠ .cell v
 keep:∀ i h h',tn i h->(∀ b∈fp,∀ o,h.get? b=v9 o->h'.get? b=v9 o)->tn i h'
 item:∀(X:Cx),X.prog=P->X.w=w->X.K=K->X.calm=true->∀(i:Nat) (pins:List (af×Obj)) (s:am) (σ:St) (H:Hp) (E:ag->am->Prop),Inv X pins σ H s->(∀ b∈fp,Iu X pins H b)->tn i s.heap->J.go i H->
  ax (model P w) X.A (mv (.ref it)) (fun r s1=>∃ u,r=v9 u/\
   ax (model P w) X.A (ny tg (.ref it) u) (fun _ s2=>∃ x H',Inv X pins σ H' s2/\RelV x u/\J.yld i H x H'/\tn (i+1) s2.heap/\∀ b∈fp,H' b=wb) E s1) E s
 done:∀(X:Cx),X.prog=P->X.w=w->X.K=K->X.calm=true->∀(i:Nat) (pins:List (af×Obj)) (s:am) (σ:St) (H:Hp) (E:ag->am->Prop),Inv X pins σ H s->(∀ b∈fp,Iu X pins H b)->tn i s.heap->J.stop i H->
  ax (model P w) X.A (mv (.ref it)) (fun r s1=>r=wb/\Inv X pins σ H s1) E s
 self:∀(A:di) (i:Nat) (s:am) (Q:ag->am->Prop) (E:ag->am->Prop),tn i s.heap->Q (.ref it) s->ax (model P w) A (pyIter (.ref it)) Q E s
noncomputable abbrev TI:=St->Hp->(It->Hp->Prop)->Prop
noncomputable def PIE (X:Cx) (pins:List (af×Obj)) (σ:St) (tg:bx) (R:It->Hp->Prop) (itv:ag) (s2:am):Prop:=
 ∃(it:af) (fp:List af) (tn:Nat->cz->Prop) (J:It) (H':Hp),itv=.ref it/\Inv X pins σ H' s2/\KG X.prog X.w X.K tg J fp it tn/\tn 0 s2.heap/\(∀ b∈fp,Iu X pins H' b)/\R J H'
noncomputable def PI (X:Cx) (tg iter:bx) (wi:TI):Prop:=
 ∀(pins:List (af×Obj)) (s:am) (σ:St) (H:Hp) (R:It->Hp->Prop),Inv X pins σ H s->wi σ H R->
  ax (model X.prog X.w) X.A (eval iter X.env) (fun v s1=>ax (model X.prog X.w) X.A (pyIter v) (PIE X pins σ tg R) X.xe s1) X.xe s
theorem GO (ho:s.heap.get? it=v9 o) (hc:o.cls=.type n) (hd:o.data=.fields vs)
  (hn:["enumerate","zip","dict_itemiterator","dict_reverseitemiterator","odict_iterator","itertools.zip_longest","itertools.pairwise"].contains n=false) (hQ:Q () s):ax M A (ny tg (.ref it) u) Q E s:=by
 unfold ny;cases tg <;> first
  |exact ak hQ
  |(cases u <;> first
    |exact ak hQ
    |(refine ae (wpAny_load ho ?_)
      rw[hc,hd];show ax M A (if(["enumerate","zip","dict_itemiterator","dict_reverseitemiterator","odict_iterator","itertools.zip_longest","itertools.pairwise"].contains n&&vs[0]?==v9 (ls _))=true then _ else _) Q E s;rw[if_neg (by intro h;rw[hn,Bool.false_and] at h;cases h)];exact ak hQ))
noncomputable def Itl (K:aa) (a:af):It:=
 ⟨fun i H=>∃ xs x,SqL K H a xs/\xs[i]?=v9 x,fun i H x H'=>H'=H/\∀ xs,SqL K H a xs->xs[i]?=v9 x,fun i H=>∃ xs,SqL K H a xs/\xs.length<=i⟩
noncomputable def Itr (lo:Int) (n:Nat):It:=⟨fun i _=>i<n,fun i H x H'=>H'=H/\x=.int (lo+i),fun i _=>n<=i⟩
theorem CH {K:aa} (a it:af):KG P w K tg (Itl K a) [it] it (fun i h=>h.IsListIter it a i) where
 mem:=by simp
 obj:=fun i h st b hb=>by
  have e:b=it:=by simpa using hb
  subst e;obtain⟨o,e,c,d⟩:=st;exact⟨o,e,fun v z=>by rw[d] at z;cases z⟩
 keep:=fun i h h' st k=>st.at fun o e=>k it (by simp) o e
 item:=by
  intro X hP hw hK hc i pins s σ H E I hf st hg;subst hP hw hK;obtain⟨xs,x,hq,hx⟩:=hg;obtain⟨its,rv,p,hz⟩:=I.list hq;obtain⟨u,hu,ru⟩:=rv.get hx;obtain⟨f0,f1,f2,f3,f4,f5⟩:=hf it (by simp);refine wpAny_pyNext_list_item st p.isList (x:=u) (by simpa using hu) fun h' st' sb=> ?_;have I1:Inv X pins σ H { s with heap:=h' }:=I.turned (t':=s.toks) (fun b o hb e=>(sb.2 b hb).trans e) f0 f1 f3 f4 f5;obtain⟨o,e,c,d⟩:=id st';exact⟨u,rfl,GO (s:={ s with heap:=h' }) e c d (by decide) ⟨x,H,I1,ru,⟨rfl,fun ys hy=>by rw[I.list_inj hy hq];exact hx⟩,st',fun b hb=>(hf b hb).1⟩⟩
 done:=by
  intro X hP hw hK hc i pins s σ H E I hf st hg;subst hP hw hK;obtain⟨xs,hq,hx⟩:=hg;obtain⟨its,rv,p,hz⟩:=I.list hq;obtain⟨f0,f1,f2,f3,f4,f5⟩:=hf it (by simp);have hl:=rv.length;exact wpAny_pyNext_list_end (I.ok.hd hc) st p.isList (by simp;omega) fun h' eb=>⟨rfl,I.turned (t':=s.toks) (fun b o hb e=>eb b o hb e) f0 f1 f3 f4 f5⟩
 self:=fun _ _ _ _ _ st h=>wpAny_pyIter_listiter st h
theorem Bt {K:aa} (it:af) (lo:Int) (n:Nat):KG P w K tg (Itr lo n) [it] it (fun i h=>qr h it (lo+(i:Nat)*1) ((n:Int)-(i:Nat)) 1) where
 mem:=by simp
 obj:=fun i h st b hb=>by
  have e:b=it:=by simpa using hb
  subst e;exact⟨_,st,fun v z=>by
   have z':uy _=qh v:=z;cases z'⟩
 keep:=fun i h h' st k=>k it (by simp) _ st
 item:=by
  intro X hP hw hK hc i pins s σ H E I hf st hg;subst hP hw hK;obtain⟨f0,f1,f2,f3,f4,f5⟩:=hf it (by simp);have W:=Walks.range (prog:=X.prog) (w:=X.w) (I.ok.hd hc) it lo 1 n;refine W.item i s _ _ hg st fun v h' tk hv st' kk=> ?_;obtain⟨t,rfl⟩:=hv;have I1:Inv X pins σ H { s with heap:=h',toks:=tk }:=I.turned (fun b o hb e=>kk b o (by simpa using hb) e) f0 f1 f3 f4 f5;refine⟨_,rfl,GO (s:={ s with heap:=h',toks:=tk }) (n:="range_iterator") st' rfl rfl (by decide) ⟨.int (lo+i),H,I1,⟨t,?_⟩,⟨rfl,rfl⟩,st',fun b hb=>(hf b hb).1⟩⟩;rw[Int.mul_one]
 done:=by
  intro X hP hw hK hc i pins s σ H E I hf st hg;subst hP hw hK;obtain⟨f0,f1,f2,f3,f4,f5⟩:=hf it (by simp);exact qt (I.ok.hd hc) st (by have:n<=i:=hg;omega) fun h' eb=>⟨rfl,I.turned (t':=s.toks) (fun b o hb e=>eb b o hb e) f0 f1 f3 f4 f5⟩
 self:=fun _ _ _ _ _ st h=>qu st h
end L2
namespace L2
section
variable {X:Cx}{tg:bx}
noncomputable def OP (K:aa) (tl:TE):TI:=fun σ H R=>tl σ H fun x H1=>∃ a,x=.ref a/\(∃ xs,SqL K H1 a xs)/\R (Itl K a) H1
theorem IT (hl:PE X l tl):PI X tg l (OP X.K tl):=by
 intro pins s σ H R I h;refine thn (hl pins s σ H _ I h) fun v s1 ⟨x,H1,I1,r1,q1⟩=> ?_;obtain⟨a,e,⟨xs,hq⟩,q⟩:=q1;subst e;cases r1;obtain⟨its,rv,p,hz⟩:=I1.list hq;refine wpAny_pyIter_list p.isList ?_;refine⟨s1.heap.objs.size,[s1.heap.objs.size],_,_,H1,rfl,I1.kept (t':=s1.toks) fun b o e=>ay _ e,CH a _,⟨_,b0 _ rfl,rfl,rfl⟩,fun b hb=> ?_,q⟩;have e:b=s1.heap.objs.size:=by simpa using hb
 subst e;exact I1.fpOk (bp _) (I1.hok.fresh (bp _))
theorem FP {lo hi:Int} (I:Inv X pins σ H s) (h1: -(2 ^ 62)<=lo) (h2:lo<2 ^ 62) (h3: -(2 ^ 62)<=hi) (h4:hi<2 ^ 62)
  (q:R (Itr lo (hi-lo).toNat) H):ax (model X.prog X.w) X.A (pyIter (.ref s.heap.objs.size)) (PIE X pins σ tg R) E { s with heap:=s.heap.push { cls:=.type "range",data:=.fields #[.int lo t,.int hi u,.int 1 v] },toks:=tk }:=by
 refine wpAny_pyIter_range (v7 ..) (small_one h1 h2 h3 h4) ?_;have I1:Inv X pins σ H { s with heap:=s.heap.push { cls:=.type "range",data:=.fields #[.int lo t,.int hi u,.int 1 v] },toks:=tk }:=I.kept fun b o e=>ay _ e;refine⟨(s.heap.push { cls:=.type "range",data:=.fields #[.int lo t,.int hi u,.int 1 v] }).objs.size,[(s.heap.push { cls:=.type "range",data:=.fields #[.int lo t,.int hi u,.int 1 v] }).objs.size],_,_,H,rfl,
  I1.kept (t':=tk) fun b o e=>ay _ e,Bt _ lo (hi-lo).toNat,?_,fun b hb=> ?_,q⟩
 ·have e1:lo+((0:Nat):Int)*1=lo:=by simp
  have e2:(((hi-lo).toNat:Nat):Int)-((0:Nat):Int)=i6 lo hi 1:=by rw[rangeSize_one];split <;> omega
  show qr _ _ (lo+((0:Nat):Int)*1) ((((hi-lo).toNat:Nat):Int)-((0:Nat):Int)) 1;rw[e1,e2];exact b0 _ rfl
 ·have e:b=(s.heap.push { cls:=.type "range",data:=.fields #[.int lo t,.int hi u,.int 1 v] }).objs.size:=by simpa using hb
  subst e;exact I1.fpOk (bp _) (I1.hok.fresh (bp _))
noncomputable def OO (ta:TA):TI:=fun σ H R=>ta σ H fun vs H1=>∃ j:Int,vs=[.int j]/\ -(2 ^ 62)<=j/\j<2 ^ 62/\R (Itr 0 j.toNat) H1
theorem Dl (hg:Gl X "range") (hm:X.mg "range"=wb) (ha:PA X [a] ta) (hs:aq [a] X.env=[(false,eval a X.env)]:=by rfl):PI X tg (.Call (.Name "range" p) [a] [] pos) (OO ta):=by
 intro pins s σ H R I h;refine Call_ (rD I hg hm boot_range (jd (thn (ha pos pins s σ H _ I h) fun us s1 ⟨vs,H1,I1,r1,q1⟩=> ?_) hs rfl));obtain⟨j,e,q1,q2,q⟩:=q1;subst e;cases r1 with
 |cons r rr=>
  cases rr;obtain⟨t,rfl⟩:=r;exact call_range_1 (FP I1 (by omega) (by omega) q1 q2 (by simpa using q))
noncomputable def NT (wi:TI) (g:TG) (tb:TS):TS:=fun D σ H=>wi σ H fun J H1=>∃ W:Nat->Nat->St->Hp->Prop,(∃ m,W 0 m σ H1)/\∀ i m σ H,W i m σ H->
 (J.stop i H/\D.nx σ H)∨(J.go i H/\∃ N:St->Hp->Prop,(∀ σ' H',N σ' H'->∃ m',m'<m/\W (i+1) m' σ' H')/\∀ x H',J.yld i H x H'->g x σ H' fun σ2 H2=>tb { D with nx:=N,ct:=N,bk:=D.nx } σ2 H2)
noncomputable def vG (fp:List af) (h:cz):List (af×Obj):=fp.filterMap fun b=>(h.get? b).map fun o=>(b,o)
theorem jC (hb:b∈fp) (e:h.get? b=v9 o):(b,o)∈vG fp h:=je.mpr ⟨b,hb,by rw[e];rfl⟩
theorem Dv (hp:p∈vG fp h):p.1∈fp/\h.get? p.1=v9 p.2:=by
 obtain⟨b,hb,e⟩:=je.mp hp;cases q:h.get? b with
 |none=>rw[q] at e;cases e
 |some o=>
  rw[q] at e;have e':(b,o)=p:=b8 e;subst e';exact⟨hb,q⟩
theorem Inv.pinned (I:Inv X pins σ H s) (hf:∀ b∈fp,Iu X pins H b) (ho:∀ b∈fp,∃ o,s.heap.get? b=v9 o/\∀ v,o.data≠ .cell v):Inv X (pins++vG fp s.heap) σ H s:=
 I.pins_of fun p hp=>(cj.mp hp).elim (fun z=>I.pin p (c7 _ z)) fun z=>by
  obtain⟨hb,e⟩:=Dv z;obtain⟨f0,f1,f2,_⟩:=hf p.1 hb;obtain⟨o,e',d⟩:=ho p.1 hb;rw[e] at e';cases e';exact⟨e,f0,f1,f2,d⟩
theorem Inv.unpinned (I:Inv X (pins++pl) σ H s):Inv X pins σ H s:=I.pins_of fun p hp=>I.pin p (c7 _ (dc _ hp))
theorem HP (hp:PassesOwn (model X.prog X.w) X.A X.env X.xe) (hc:X.calm=true) (hi:PI X tg iter wi) (hg:PG X tg g) (hb:PSs X body tb)
  (hs:∀ x,fm iter X.env x=pure x:=by intro _;rfl):PS X (.For tg iter body [] pos) (NT wi g tb):=by
 intro pins s σ H D I h;refine wpAny_For (thn (hi pins s σ H _ I h) fun v s1 h1=>thn h1 fun itv s2 h2=> ?_) hs;obtain⟨it,fp,tn,J,H2,e,I2,T,st2,f2,W,⟨m0,w0⟩,turn⟩:=h2;subst e
 -- what stays true of the iterator's objects through the loop
 have stat:∀ {H':Hp},(∀ b∈fp,H' b=wb)->∀ b∈fp,Iu X pins H' b:=fun hn b hb=>⟨hn b hb,(f2 b hb).2⟩;refine codeAny_forLoop_any (fun n s'=>∃ i σ' H',Inv X pins σ' H' s'/\tn i s'.heap/\(∀ b∈fp,H' b=wb)/\W i n σ' H') ?_ m0 ⟨0,σ,H2,I2,st2,fun b hb=>(f2 b hb).1,w0⟩;rintro n s3 ⟨i,σ3,H3,I3,st3,fr3,w3⟩;rcases turn i n σ3 H3 w3 with⟨stop,qn⟩|⟨go,N,hN,step⟩
 ·refine lj hp (thn (T.done X rfl rfl rfl hc i pins s3 σ3 H3 X.xe I3 (stat fr3) st3 stop) fun r s4 ⟨hr,I4⟩=> ?_);subst hr;exact nv ⟨σ3,H3,I4,qn⟩
 ·refine lj hp (thn (T.item X rfl rfl rfl hc i pins s3 σ3 H3 X.xe I3 (stat fr3) st3 go) fun r s4 ⟨u,hr,h4⟩=> ?_);subst hr;refine lj hp (thn h4 fun _ s5 ⟨x,H5,I5,r5,y5,st5,fr5⟩=> ?_);have I5':=I5.pinned (stat fr5) (T.obj _ _ st5);refine lj hp (thn (hg _ s5 σ3 H5 x u _ I5' r5 (step x H5 y5)) fun _ s6 ⟨σ6,H6,I6,q6⟩=> ?_);refine lj hp (thn (hb _ s6 σ6 H6 _ I6 q6) fun f s7 q7=> ?_);have again:∀ {σ7:St}{H7:Hp},Inv X (pins++vG fp s5.heap) σ7 H7 s7->N σ7 H7->∃ m,m<n/\∃ i σ' H',Inv X pins σ' H' s7/\tn i s7.heap/\(∀ b∈fp,H' b=wb)/\W i m σ' H':=fun {σ7 H7} I7 n7=>by
   obtain⟨m',hm,w7⟩:=hN σ7 H7 n7;refine⟨m',hm,i+1,σ7,H7,I7.unpinned,T.keep _ _ _ st5 fun b hb o e=>(I7.pin (b,o) (c7 _ (c7 _ (jC hb e)))).1,fun b hb=> ?_,w7⟩;obtain⟨o,e,d⟩:=T.obj _ _ st5 b hb;exact(I7.pin (b,o) (c7 _ (c7 _ (jC hb e)))).2.1
  cases f with
  |next=>obtain⟨σ7,H7,I7,n7⟩:=q7;exact again I7 n7
  |cont=>obtain⟨σ7,H7,I7,n7⟩:=q7;exact again I7 n7
  |brk=>obtain⟨σ7,H7,I7,q7⟩:=q7;exact⟨σ7,H7,I7.unpinned,q7⟩
  |ret v=>obtain⟨x7,σ7,H7,I7,r7,q7⟩:=q7;exact⟨x7,σ7,H7,I7.unpinned,r7,q7⟩
end
end L2
namespace L2
noncomputable abbrev R2:=V->V->Hp->VK->Prop
noncomputable def OpR (X:Cx) (f:ag->ag->Sem ag) (r:R2):Prop:=
 ∀(pins:List (af×Obj)) (s:am) (σ:St) (H:Hp) (x y:V) (v u:ag) (Q:VK),Inv X pins σ H s->RelV x v->RelV y u->r x y H Q->
  ax (model X.prog X.w) X.A (f v u) (EP X pins σ Q) X.xe s
noncomputable def UnR (X:Cx) (f:ag->Sem ag) (r:V->Hp->VK->Prop):Prop:=
 ∀(pins:List (af×Obj)) (s:am) (σ:St) (H:Hp) (x:V) (v:ag) (Q:VK),Inv X pins σ H s->RelV x v->r x H Q->
  ax (model X.prog X.w) X.A (f v) (EP X pins σ Q) X.xe s
noncomputable def CallR (X:Cx) (f:ag) (r:List V->Hp->VK->Prop):Prop:=
 ∀(pins:List (af×Obj)) (s:am) (σ:St) (H:Hp) (xs:List V) (us:List ag) (Q:VK),Inv X pins σ H s->Vals xs us->r xs H Q->
  ax (model X.prog X.w) X.A (call f us) (EP X pins σ Q) X.xe s
noncomputable def QC (X:Cx) (r:V->Hp->(Bool->Hp->Prop)->Prop):Prop:=
 ∀(pins:List (af×Obj)) (s:am) (σ:St) (H:Hp) (x:V) (v:ag) (Q:Bool->Hp->Prop),Inv X pins σ H s->RelV x v->r x H Q->
  ax (model X.prog X.w) X.A (truthy v) (TP X pins σ Q) X.xe s
noncomputable def tOp (r:R2) (ta tb:TE):TE:=fun σ H Q=>ta σ H fun x H1=>tb σ H1 fun y H2=>r x y H2 Q
noncomputable def tUn (r:V->Hp->VK->Prop) (ta:TE):TE:=fun σ H Q=>ta σ H fun x H1=>r x H1 Q
noncomputable def rI (C:Int->Int->Prop) (g:Int->Int->V):R2:=fun x y H Q=>∃ i j,x=.int i/\y=.int j/\C i j/\Q (g i j) H
noncomputable def rI0 (g:Int->Int->V):R2:=fun x y H Q=>∃ i j,x=.int i/\y=.int j/\Q (g i j) H
noncomputable def rU (g:Int->V):V->Hp->VK->Prop:=fun x H Q=>∃ i,x=.int i/\Q (g i) H
section
variable {X:Cx}{a b c:bx}{ta tb tc:TE}{pos:Pos}
theorem Pf (ha:PE X a ta) (hb:PE X b tb) {R:V->V->Hp->Prop} (I:Inv X pins σ H s)
  (h:ta σ H fun x H1=>tb σ H1 fun y H2=>R x y H2) {f:ag->ag->Sem ag}
  (hf:∀ v u s2 x y H2,Inv X pins σ H2 s2->RelV x v->RelV y u->R x y H2->ax (model X.prog X.w) X.A (f v u) Q X.xe s2):
  ax (model X.prog X.w) X.A (eval a X.env) (fun v s₁=>ax (model X.prog X.w) X.A (eval b X.env) (fun u s₂=>ax (model X.prog X.w) X.A (f v u) Q X.xe s₂) X.xe s₁) X.xe s:=by
 refine thn (ha pins s σ H _ I h) fun v s1 ⟨x,H1,I1,r1,q1⟩=> ?_;refine thn (hb pins s1 σ H1 _ I1 q1) fun u s2 ⟨y,H2,I2,r2,q2⟩=> ?_;exact hf v u s2 x y H2 I2 r1 r2 q2
theorem Ol (ho:OpR X (kr op) r) (ha:PE X a ta) (hb:PE X b tb):PE X (.BinOp a op b pos) (tOp r ta tb):=by
 intro pins s σ H Q I h;exact wpAny_BinOp (Pf ha hb I h fun v u s2 x y H2 I2 rx ry q=>ho pins s2 σ H2 x y v u Q I2 rx ry q)
theorem Oh (ho:UnR X (unaryOp op) r) (ha:PE X a ta):PE X (.UnaryOp op a pos) (tUn r ta):=by
 intro pins s σ H Q I h;exact UnaryOp_ (thn (ha pins s σ H _ I h) fun v s1 ⟨x,H1,I1,r1,q1⟩=>ho pins s1 σ H1 x v Q I1 r1 q1)
theorem opI {g:Int->Int->Int}
  (rule:∀(i j:Int) (t u:Tok) (s:am) (Q:ag->am->Prop) (E:ag->am->Prop),C i j->Q (.int (g i j) s.toks) { s with toks:=s.toks+1 }->ax (model X.prog X.w) X.A (f (.int i t) (.int j u)) Q E s):
  OpR X f (rI C fun i j=>.int (g i j)):=by
 intro pins s σ H x y v u Q I rx ry h;obtain⟨i,j,rfl,rfl,hc,q⟩:=h;obtain⟨t,rfl⟩:=rx;obtain⟨t',rfl⟩:=ry;exact rule i j t t' s _ _ hc ⟨.int (g i j),H,I.tok _,⟨_,rfl⟩,q⟩
theorem PJ {g:Int->Int->Int}
  (rule:∀(i j:Int) (t u:Tok) (s:am) (Q:ag->am->Prop) (E:ag->am->Prop),Q (.int (g i j) s.toks) { s with toks:=s.toks+1 }->ax (model X.prog X.w) X.A (f (.int i t) (.int j u)) Q E s):
  OpR X f (rI0 fun i j=>.int (g i j)):=by
 intro pins s σ H x y v u Q I rx ry h;obtain⟨i,j,rfl,rfl,q⟩:=h;obtain⟨t,rfl⟩:=rx;obtain⟨t',rfl⟩:=ry;exact rule i j t t' s _ _ ⟨.int (g i j),H,I.tok _,⟨_,rfl⟩,q⟩
theorem Ox {g:Int->Int->Bool}
  (rule:∀(i j:Int) (t u:Tok) (s:am) (Q:ag->am->Prop) (E:ag->am->Prop),Q (.bool (g i j)) s->ax (model X.prog X.w) X.A (f (.int i t) (.int j u)) Q E s):
  OpR X f (rI0 fun i j=>.bl (g i j)):=by
 intro pins s σ H x y v u Q I rx ry h;obtain⟨i,j,rfl,rfl,q⟩:=h;obtain⟨t,rfl⟩:=rx;obtain⟨t',rfl⟩:=ry;exact rule i j t t' s _ _ ⟨.bl (g i j),H,I,rfl,q⟩
noncomputable def CMul (i j:Int):Prop:=(-(2 ^ 64)<i/\i<2 ^ 64)∨(-(2 ^ 64)<j/\j<2 ^ 64)
theorem CMul.ok (h:CMul i j):IntMulOk i j:=by
 rcases h with⟨h1,h2⟩|⟨h1,h2⟩
 ·exact .of_left (intBits_le_64 h1 h2)
 ·exact .of_right (intBits_le_64 h1 h2)
theorem Mu:OpR X (kr .Add) (rI0 fun i j=>.int (i+j)):=PJ fun _ _ _ _ _ _ _ q=>add_int q
theorem Mj:OpR X (kr .Sub) (rI0 fun i j=>.int (i-j)):=PJ fun _ _ _ _ _ _ _ q=>sub_int q
theorem Mn:OpR X (kr .Mult) (rI CMul fun i j=>.int (i*j)):=opI fun _ _ _ _ _ _ _ hc q=>mul_int q hc.ok
theorem Mo:OpR X (kr .Mod) (rI (fun _ j=>0<j) fun i j=>.int (i % j)):=opI fun i j _ _ _ _ _ hc q=>by
 have h1:(0:Int)<j:=hc;exact mod_int' (by omega) (by rw[Int.fmod_eq_emod_of_nonneg i (by omega)];exact q)
theorem unI {g:Int->Int}
  (rule:∀(i:Int) (t:Tok) (s:am) (Q:ag->am->Prop) (E:ag->am->Prop),Q (.int (g i) s.toks) { s with toks:=s.toks+1 }->ax (model X.prog X.w) X.A (f (.int i t)) Q E s):
  UnR X f (rU fun i=>.int (g i)):=by
 intro pins s σ H x v Q I rx h;obtain⟨i,rfl,q⟩:=h;obtain⟨t,rfl⟩:=rx;exact rule i t s _ _ ⟨.int (g i),H,I.tok _,⟨_,rfl⟩,q⟩
theorem KY:UnR X (unaryOp .USub) (rU fun i=>.int (-i)):=unI fun _ _ _ _ _ q=>neg_int q
end
section
variable {X:Cx}{a b c:bx}{ta tb tc:TE}{pos:Pos}
theorem Nl (I:Inv X pins σ H s) (q:Q (.bl k) H) (e:k=k'):EP X pins σ Q (.bool k') s:=by
 subst e;exact⟨.bl k,H,I,rfl,q⟩
theorem Mp:OpR X (fh .Lt) (rI0 fun i j=>.bl (decide (i<j))):=Ox fun _ _ _ _ _ _ _ q=>vc q
theorem Mq:OpR X (fh .LtE) (rI0 fun i j=>.bl (decide (i<=j))):=Ox fun _ _ _ _ _ _ _ q=>le_int q
theorem Ms:OpR X (fh .Gt) (rI0 fun i j=>.bl (decide (j<i))):=Ox fun _ _ _ _ _ _ _ q=>gt_int q
theorem HY:OpR X (fh .Is) (fun x y H Q=>y=.non/\Q (.bl (decide (x=.non))) H):=by
 intro pins s σ H x y v u Q I rx ry h;obtain⟨rfl,q⟩:=h;cases ry;refine is_none_gen (Nl I q ?_);cases x <;> first
  |(cases rx;rfl)
  |(obtain⟨t,rfl⟩:=rx;rfl)
theorem kM (b:bx) (h:op≠ .In:=by decide) (h2:op≠ .NotIn:=by decide):iz op b=false:=by
 have e1:(op==CmpOp.In)=false:=by cases op <;> first|rfl|exact absurd rfl h
 have e2:(op==CmpOp.NotIn)=false:=by cases op <;> first|rfl|exact absurd rfl h2
 cases b <;> simp[iz,e1,e2]
theorem Ja (ho:OpR X (fh op) r) (ha:PE X a ta) (hb:PE X b tb) (hm:iz op b=false):PE X (.Compare a [op] [b] pos) (tOp r ta tb):=by
 intro pins s σ H Q I h;exact wpAny_Compare1 (Pf ha hb I h fun v u s2 x y H2 I2 rx ry q=>ho pins s2 σ H2 x y v u Q I2 rx ry q) hm
noncomputable def Ld (t:TE):TT:=fun σ H Q=>t σ H fun x H'=>∃ k,x=.bl k/\Q k H'
theorem IJ (ho:OpR X (fh op) r) (ha:PE X a ta) (hb:PE X b tb) (hm:iz op b=false):PT X (.Compare a [op] [b] pos) (Ld (tOp r ta tb)):=by
 intro pins s σ H Q I h;refine rm (thn (ha pins s σ H _ I h) fun v s1 ⟨x,H1,I1,r1,q1⟩=>thn (hb pins s1 σ H1 _ I1 q1) fun u s2 ⟨y,H2,I2,r2,q2⟩=>
  thn (ho pins s2 σ H2 x y v u _ I2 r1 r2 q2) fun c s3 ⟨z,H3,I3,r3,k,e,q3⟩=> ?_) hm
 subst e;cases r3;exact dm ⟨H3,I3,q3⟩
noncomputable def Lh (r r':R2) (ta tb tc:TE):TE:=fun σ H Q=>ta σ H fun x H1=>tb σ H1 fun y H2=>r x y H2 fun z H3=>∃ k,z=.bl k/\
 (if k=true then tc σ H3 fun w' H4=>r' y w' H4 Q else Q (.bl false) H3)
theorem FU (ho:OpR X (fh op) r) (ho':OpR X (fh op') r') (ha:PE X a ta) (hb:PE X b tb) (hc:PE X c tc)
  (hm:lastMarks [op,op'] [b,c]=false:=by with_unfolding_all rfl):PT X (.Compare a [op,op'] [b,c] pos) (Ld (Lh r r' ta tb tc)):=by
 intro pins s σ H Q I h;refine isTrue_chain (thn (ha pins s σ H _ I h) fun v s1 ⟨x,H1,I1,r1,q1⟩=>test_link (thn (hb pins s1 σ H1 _ I1 q1) fun u s2 ⟨y,H2,I2,r2,q2⟩=>
  thn (ho pins s2 σ H2 x y v u _ I2 r1 r2 q2) fun d s3 ⟨z,H3,I3,r3,k,e,q3⟩=> ?_)) hm
 subst e;cases r3;refine dm ?_;cases k with
 |false=>
  obtain⟨k',e',q'⟩:=q3;cases e';exact ite_ff ⟨H3,I3,q'⟩
 |true=>
  refine ite_tt (test_last (thn (hc pins s3 σ H3 _ I3 q3) fun w' s4 ⟨z',H4,I4,r4,q4⟩=>thn (ho' pins s4 σ H4 y z' u w' _ I4 r2 r4 q4) fun d' s5 ⟨z2,H5,I5,r5,k2,e2,q5⟩=> ?_));subst e2;cases r5;exact dm ⟨H5,I5,q5⟩
noncomputable def Pg (K:aa) (x:V) (H:Hp) (k:Bool):Prop:=
 match x with
 |.non=>k=false
 |.bl b=>k=b
 |.int i=>k=(i !=0)
 |.str y=>y.length<=sizeLine/\k=((y.length:Int) !=0)
 |.byt y=>y.size<=sizeLine/\k=((y.size:Int) !=0)
 |.ref p=>(∃ xs,SqL K H p xs/\k= !xs.isEmpty)∨(∃ xs,SqT K H p xs/\k= !xs.isEmpty)∨∃ kvs,H p=v9 (.dK kvs)/\k= !kvs.isEmpty
 |_=>False
theorem BP {vs:List (κ×ag)} (r:KV kvs vs):(!vs.isEmpty)= !kvs.isEmpty:=by
 cases r <;> rfl
theorem rG (r:Vals xs its):(!its.toArray.isEmpty)= !xs.isEmpty:=by
 cases r <;> simp
theorem rB:(sizeLine:Nat)<2 ^ 63:=by rw[b7];decide
theorem tru_ok:QC X (fun x H Q=>∃ k,Pg X.K x H k/\Q k H):=by
 intro pins s σ H x v Q I rx h;obtain⟨k,e,q⟩:=h;have hl:=rB;have hs:sizeLine=16777216:=b7;cases x with
 |non=>
  cases rx;have e':k=false:=e;subst e';exact truthy_none ⟨H,I,q⟩
 |bl b=>
  cases rx;have e':k=b:=e;subst e';exact dm ⟨H,I,q⟩
 |int i=>
  obtain⟨t,rfl⟩:=rx;have e':k=(i !=0):=e;subst e';exact PySem.P.truthy_int ⟨H,I,q⟩
 |str y=>
  obtain⟨t,rfl⟩:=rx;obtain⟨hy,e'⟩:y.length<=sizeLine/\k=((y.length:Int) !=0):=e;subst e';exact PySem.P.truthy_str (by omega) ⟨H,I.tok _,q⟩
 |byt y=>
  obtain⟨t,rfl⟩:=rx;obtain⟨hy,e'⟩:y.size<=sizeLine/\k=((y.size:Int) !=0):=e;subst e';exact PySem.W.truthy_bytes (by omega) ⟨H,I.tok _,q⟩
 |ref p=>
  cases rx;have e':(∃ xs,SqL X.K H p xs/\k= !xs.isEmpty)∨(∃ xs,SqT X.K H p xs/\k= !xs.isEmpty)∨∃ kvs,H p=v9 (.dK kvs)/\k= !kvs.isEmpty:=e;rcases e' with⟨xs,hx,e'⟩|⟨xs,hx,e'⟩|⟨kvs,hx,e'⟩
  ·subst e';obtain⟨its,r,pl,hz⟩:=I.list hx;have hlen:=r.length;exact wpAny_truthy_list pl.isList (by simp only[bc];omega) ⟨H,I.tok _,by rw[rG r];exact q⟩
  ·subst e';obtain⟨its,r,pl,hz⟩:=I.tuple hx;have hlen:=r.length;exact truthy_tuple pl (by simp only[bc];omega) ⟨H,I.tok _,by rw[rG r];exact q⟩
  ·subst e';obtain⟨hz,hS,vs,r,m⟩:kvs.length<=sizeLine/\(p==d9)=false/\∃ vs,KV kvs vs/\s.heap.DictOf (aJ X.prog X.w) p vs:=I.hok p _ hx;have hlen:kvs.length=vs.length:=iy r;exact wpAny_truthy_dict hS m (by omega) ⟨H,I.tok _,by rw[BP r];exact q⟩
 |_=>exact(show False from e).elim
theorem FT (ha:PE X a ta) (he:∀ whole,isTrue a X.env whole=(do let v <- whole;mj a.pos;holding [v] (truthy v))):
  PT X a (fun σ H Q=>ta σ H fun x H'=>∃ k,Pg X.K x H' k/\Q k H'):=by
 intro pins s σ H Q I h;exact isTrue_plain (thn (ha pins s σ H _ I h) fun v s1 ⟨x,H1,I1,r1,q1⟩=>tru_ok pins s1 σ H1 x v Q I1 r1 q1) (he _)
theorem BC:OpR X (kr .Add) (fun x y H Q=>∃ i j,x=.str i/\y=.str j/\i.length+j.length<=sizeLine/\Q (.str (i++j)) H):=by
 intro pins s σ H x y v u Q I rx ry h;obtain⟨i,j,rfl,rfl,hz,q⟩:=h;obtain⟨t,rfl⟩:=rx;obtain⟨t',rfl⟩:=ry;exact add_str (fun t' tk=>⟨.str (i++j),H,I.tok _,⟨_,rfl⟩,q⟩) hz
theorem lG (r:Vals [x] us):∃ u,us=[u]/\RelV x u:=by
 cases r with
 |cons r1 r2=>cases r2;exact⟨_,rfl,r1⟩
theorem CB (r:Vals [x,y] us):∃ u w',us=[u,w']/\RelV x u/\RelV y w':=by
 cases r with
 |cons r1 r2=>
  cases r2 with
  |cons r3 r4=>cases r4;exact⟨_,_,rfl,r1,r3⟩
theorem Fd (hc:X.calm=true):CallR X (.builtin "max") (fun xs H Q=>∃ i j,xs=[.int i,.int j]/\Q (.int (if j>i then j else i)) H):=by
 intro pins s σ H xs us Q I r h;obtain⟨i,j,rfl,q⟩:=h;obtain⟨u,w',rfl,⟨t,rfl⟩,⟨t',rfl⟩⟩:=CB r;refine max_two_ints (I.ok.hd hc) fun h' tk k=>⟨_,H,I.kept k,?_,q⟩
 by_cases hj:j>i
 ·rw[if_pos hj,if_pos hj];exact⟨_,rfl⟩
 ·rw[if_neg hj,if_neg hj];exact⟨_,rfl⟩
theorem Fc (hc:X.calm=true):CallR X (.builtin "min") (fun xs H Q=>∃ i j,xs=[.int i,.int j]/\Q (.int (if j<i then j else i)) H):=by
 intro pins s σ H xs us Q I r h;obtain⟨i,j,rfl,q⟩:=h;obtain⟨u,w',rfl,⟨t,rfl⟩,⟨t',rfl⟩⟩:=CB r;refine min_two_ints (I.ok.hd hc) fun h' tk k=>⟨_,H,I.kept k,?_,q⟩
 by_cases hj:j<i
 ·rw[if_pos hj,if_pos hj];exact⟨_,rfl⟩
 ·rw[if_neg hj,if_neg hj];exact⟨_,rfl⟩
theorem call_int1:CallR X (.type "int") (fun xs H Q=>(∃ i,xs=[.int i]/\Q (.int i) H)∨∃ k,xs=[.bl k]/\Q (.int (if k then 1 else 0)) H):=by
 intro pins s σ H xs us Q I r h;rcases h with⟨i,rfl,q⟩|⟨k,rfl,q⟩
 ·obtain⟨u,rfl,t,rfl⟩:=lG r;exact call_int_int ⟨.int i,H,I,⟨_,rfl⟩,q⟩
 ·obtain⟨u,rfl,r1⟩:=lG r;cases r1;exact call_int_bool ⟨.int (if k then 1 else 0),H,I.tok _,⟨_,rfl⟩,q⟩
noncomputable def Po (K:aa) (x:V) (H:Hp) (n:Nat):Prop:=
 match x with
 |.str y=>y.length<=sizeLine/\n=y.length
 |.byt y=>y.size<=sizeLine/\n=y.size
 |.ref p=>(∃ xs,SqL K H p xs/\n=xs.length)∨∃ xs,SqT K H p xs/\n=xs.length
 |_=>False
theorem Hz:CallR X (.builtin "len") (fun xs H Q=>∃ x n,xs=[x]/\Po X.K x H n/\Q (.int n) H):=by
 intro pins s σ H xs us Q I r h;obtain⟨x,n,rfl,e,q⟩:=h;obtain⟨u,rfl,rx⟩:=lG r;have hl:=rB;have hs:sizeLine=16777216:=b7;cases x with
 |str y=>
  obtain⟨t,rfl⟩:=rx;obtain⟨hy,e'⟩:y.length<=sizeLine/\n=y.length:=e;subst e';exact len_str (by omega) ⟨.int _,H,I.tok _,⟨_,rfl⟩,q⟩
 |byt y=>
  obtain⟨t,rfl⟩:=rx;obtain⟨hy,e'⟩:y.size<=sizeLine/\n=y.size:=e;subst e';exact PySem.W.len_bytes (by omega) ⟨.int _,H,I.tok _,⟨_,rfl⟩,q⟩
 |ref p=>
  cases rx;have e':(∃ xs,SqL X.K H p xs/\n=xs.length)∨∃ xs,SqT X.K H p xs/\n=xs.length:=e;rcases e' with⟨xs,hx,e'⟩|⟨xs,hx,e'⟩
  ·subst e';obtain⟨its,r',pl,hz⟩:=I.list hx;have hlen:=r'.length;exact Calls.call_len_list pl.isList (by simp only[bc];omega) ⟨.int xs.length,H,I.tok _,⟨_,by simp only[bc];rw[hlen]⟩,q⟩
  ·subst e';obtain⟨its,r',pl,hz⟩:=I.tuple hx;have hlen:=r'.length;exact len_tuple pl (by simp only[bc];omega) ⟨.int xs.length,H,I.tok _,⟨_,by simp only[bc];rw[hlen]⟩,q⟩
 |_=>exact(show False from e).elim
end
end L2
namespace L2
structure ObjM (h:cz) (x dx C:af) (mA:Str->Option ag):Prop where
 obj:h.get? x=v9 (io C dx)
 ns:h.Ns1 dx mA
 ne:dx≠x
theorem DP {h:cz} (n:h.Ns1 dx mA):∃ od,h.get? dx=v9 od/\∀ name,oj name od=v9 (mA name):=by
 obtain⟨o,es,ep,ho,hd,hk,_,hm⟩:=n;refine⟨o,ho,fun name=> ?_⟩;have e:=hm name;unfold nsFind findBy at e;rw[<- Array.find?_toList] at e;unfold oj;rw[hd];dsimp only;split
 ·rename_i y q
  rw[q] at e;exact congrArg v9 e
 ·rename_i q
  rw[q] at e;have a:es.toList.any (·.refKey)=false:=by
   rw[List.any_eq_false];intro y hy;obtain⟨z,t,hkey⟩:=hk y (Array.mem_toList_iff.mp hy);simp[DictEntry.refKey,hkey]
  have a':¬ es.toList.any (·.refKey)=true:=by rw[a];exact cq
  rw[if_neg a'];exact congrArg v9 e
theorem ObjM.look (I:ObjM h x dx C mA):∃ od,PySem.W.InstAt h x (io C dx) C (v9 od)/\∀ name,oj name od=v9 (mA name):=
 let ⟨od,ho,hl⟩:=DP I.ns
 ⟨od,⟨I.obj,rfl,rfl,ho⟩,hl⟩
section
variable {prog:c9}{w:df}{A:di}{E:ag->am->Prop}{s:am}{K:aa}{x dx C f:af}{mA:Str->Option ag}{name:Str}{v:ag}
theorem Kh (X:K.In s.heap) (I:ObjM s.heap x dx C mA) (hg:m5 K C name=true) (hh:pd K C=true)
  (ha:gs K (.ref C) name=v9 wb) (hv:mA name=v9 v) (hv':u0 v=true) (h:Q v { s with toks:=s.toks+1 }):
  ax (model prog w) A (getAttr (.ref x) name expr) Q E s:=by
 obtain⟨od,J,hl⟩:=I.look;exact PySem.W.get_value X J (oa hg).1 (PySem.W.findObj_own hh ha rfl (by rw[hl,hv])) hv' h
theorem GP (X:K.In s.heap) (I:ObjM s.heap x dx C mA) (hg:m5 K C name=true)
  (hf:gs K (.ref C) name=v9 (v9 (.ref f))) (ht:n5 K (.ref f)=true) (hv:mA name=wb) (h:Q (.ref f,[.ref x]) s):
  ax (model prog w) A (lu (.ref x) name pl) Q E s:=by
 obtain⟨od,J,hl⟩:=I.look;exact PySem.W.method_fn X J (oa hg).1 (oa hg).2 hf (beq_iff_eq.mp ht) (by show(oj name od).map (·.isSome)=v9 false;rw[hl,hv];rfl) h
theorem IC (X:K.In s.heap) (I:ObjM s.heap x dx C mA)
  (hs:gs K (.ref C) "__setattr__"=v9 (v9 (.builtin "object.__setattr__"))) (hp:uq K C=true) (ht:qi K C name=v9 wb) (hh:pd K C=true)
  (hw:t7 mA ns) (hsz:ns.length<=sizeLine)
  (h:∀ h',ObjM h' x dx C (fun y=>if y=name then v9 v else mA y)->en dx s.heap h'->Q () { s with heap:=h',toks:=s.toks+2 }):
  ax (model prog w) A (setAttr (.ref x) name v) Q E s:=by
 obtain⟨od,J,hl⟩:=I.look;refine PySem.W.set_plain X J hs (PySem.W.osa_open (s:={ s with toks:=s.toks+1 }) (r:=wb) X J hp ht fun b=> ?_);obtain⟨cd,hc,hd'⟩:=PySem.W.any_some hh;have hx:s.heap.get? x=v9 ⟨.ref C,v9 dx,.plain,#[]⟩:=I.obj;refine ae (ak (ae (ae (wpAny_loadPart hx (ae (PySem.W.Looks.here (s:={ s with toks:=s.toks+1 }) (PySem.W.looks_clsIn X hc) ?_))))));rw[hd'];refine ak (a:=v9 dx) (ae (ak (ae ?_)));refine wpAny_nsSet1 (s:={ s with toks:=s.toks+1 }) I.ns fun h' hn2 hs2=> ?_;obtain⟨oD,esD,epD,hoD,hdD,hcD⟩:=hn2.count (PySem.Within.cons name v hw);refine ae (wpAny_lookBehind hoD (by rw[hdD];exact pastItsLine_dict (ci hcD (by rw[bw];omega))) ?_);exact ak (h _ ⟨(hs2.2 _ (c5 I.ne)).trans I.obj,hn2,I.ne⟩ hs2)
theorem Gz (X:K.In s.heap) (hm:qj K C=true)
  (hi:gs K (.ref C) "__init__"=v9 (v9 (.ref f))) (hf:PySem.W.typeIn K (.ref f)=v9 (.type "function"))
  (h:nq (model prog w) (A.under (.builtin "type.__call__" ⟨.ref C::vs,kw⟩)) (.call (.ref f) ⟨.ref (s.heap.objs.size+1)::vs,kw⟩) (PySem.W.InitBack (s.heap.objs.size+1) R)
   { s with heap:=(s.heap.push gu).push (io C s.heap.objs.size) }):
  nq (model prog w) A (.call (.ref C) ⟨vs,kw⟩) R s:=by
 obtain⟨hh,g,d,t,os⟩:=s;exact PySem.W.make_core (PySem.W.makes_of X hm) (PySem.W.looks_findIn X hi) (fun self=>PySem.W.bind_fn X self hf) (.inl rfl) h
end
noncomputable def putF (f:Str) (v:V):List (Str×V)->List (Str×V)
 |[]=>[(f,v)]
 |(g,x)::r=>if g=f then(g,v)::r else(g,x)::putF f v r
theorem nX (f g:Str) (v:V):∀ fs:List (Str×V),(putF f v fs).lookup g=if g=f then v9 v else fs.lookup g
 |[]=>by
  show jt g [(f,v)]=_
  by_cases h:g=f
  ·have hb:(g==f)=true:=beq_iff_eq.mpr h;simp only[jt,hb,if_pos h]
  ·have hb:(g==f)=false:=beq_eq_false_iff_ne.mpr h;simp only[jt,hb,if_neg h]
 |(k,x)::r=>by
  have ih:=nX f g v r;rw[show putF f v ((k,x)::r)=(if k=f then(k,v)::r else(k,x)::putF f v r) from rfl]
  by_cases hk:k=f
  ·rw[if_pos hk]
   by_cases h:g=k
   ·have hb:(g==k)=true:=beq_iff_eq.mpr h;simp only[jt,hb,if_pos (h.trans hk)]
   ·have hb:(g==k)=false:=beq_eq_false_iff_ne.mpr h;simp only[jt,hb,if_neg (fun e:g=f=>h (e.trans hk.symm))]
  ·rw[if_neg hk]
   by_cases h:g=k
   ·have hb:(g==k)=true:=beq_iff_eq.mpr h;simp only[jt,hb,if_neg (fun e:g=f=>hk (h.symm.trans e))]
   ·have hb:(g==k)=false:=beq_eq_false_iff_ne.mpr h;simp only[jt,hb];exact ih
theorem nZ (f:Str) (v:V):∀ fs:List (Str×V),f∈(putF f v fs).map (·.1)/\∀ g,g∈fs.map (·.1)->g∈(putF f v fs).map (·.1)
 |[]=>⟨by simp[putF],fun g h=>by simp at h⟩
 |(k,x)::r=>by
  obtain⟨i1,i2⟩:=nZ f v r;rw[show putF f v ((k,x)::r)=(if k=f then(k,v)::r else(k,x)::putF f v r) from rfl]
  by_cases hk:k=f
  ·rw[if_pos hk];subst hk;exact⟨by simp,fun g h=>by simpa using h⟩
  ·rw[if_neg hk];refine⟨?_,fun g h=> ?_⟩
   ·rw[bq];exact ai _ i1
   ·rw[bq] at h ⊢;rcases aj.mp h with e|e
    ·exact aj.mpr (.inl e)
    ·exact ai _ (i2 g e)
theorem nY (f:Str) (v:V):∀ fs:List (Str×V),(putF f v fs).length<=fs.length+1
 |[]=>by simp[putF]
 |(k,x)::r=>by
  have ih:=nY f v r;rw[show putF f v ((k,x)::r)=(if k=f then(k,v)::r else(k,x)::putF f v r) from rfl]
  by_cases hk:k=f
  ·rw[if_pos hk,bw,bw];omega
  ·rw[if_neg hk,bw,bw];omega
theorem RelO.some_of (r:RelO (v9 v) o):∃ u,o=v9 u/\RelV v u:=by
 cases o with
 |none=>exact(show False from r).elim
 |some u=>exact⟨u,rfl,r⟩
theorem RelO.none_of (r:RelO wb o):o=wb:=by
 cases o with
 |none=>rfl
 |some u=>exact(show False from r).elim
theorem Ec (r:RelV v u):u0 u=true:=by
 cases v with
 |non=>cases (show u=hW from r);rfl
 |bl b=>cases (show u=si b from r);rfl
 |int i=>obtain⟨t,e⟩:=(show ∃ t,u=t4 i t from r);cases e;rfl
 |str x=>obtain⟨t,e⟩:=(show ∃ t,u=t6 x t from r);cases e;rfl
 |byt b=>obtain⟨t,e⟩:=(show ∃ t,u=Value.bytes b t from r);cases e;rfl
 |flt b=>obtain⟨t,e⟩:=(show ∃ t,u=Value.float b t from r);cases e;rfl
 |ref a=>cases (show u=ca a from r);rfl
 |ty n=>cases (show u=jo n from r);rfl
section
variable {P:c9}{w:df}{H H':Hp}{h h':cz}{a C dx:af}{fs fs':List (Str×V)}
theorem yI (hok:HOk P w H h) (e:H a=v9 (.ins C dx fs)):∃ mA,ObjM h a dx C mA/\(∀ f,RelO (fs.lookup f) (mA f))/\t7 mA (fs.map (·.1))/\fs.length<=1000/\H dx=v9 (.own a):=by
 obtain⟨d,z,ne,ob,mA,n,r,q⟩:=(show ObjOk P w H h a (.ins C dx fs) from hok a _ e);exact⟨mA,⟨ob,n,ne⟩,r,q,z,d⟩
end
structure Cls (K:aa) (C:af):Prop where
 pg:m5 K C Str.empty=true
 hd:pd K C=true
 po:uq K C=true
 sa:gs K (.ref C) "__setattr__"=v9 (v9 (.builtin "object.__setattr__"))
theorem Cls.get {K:aa} (c:Cls K C) (f:Str):m5 K C f=true:=c.pg
noncomputable def NoAttr (K:aa) (C:af) (f:Str):Prop:=gs K (.ref C) f=v9 wb
theorem NoAttr.taker {K:aa} (n:NoAttr K C f):qi K C f=v9 wb:=by
 unfold qi;rw[show gs K (.ref C) f=v9 wb from n];rfl
structure HK (K:aa) (C:af) (m:Str) (f:af):Prop where
 at_:gs K (.ref C) m=v9 (v9 (.ref f))
 fn:n5 K (.ref f)=true
 kp:fy K (.ref f)=true
section
variable {X:Cx}{pins:List (af×Obj)}{σ:St}{H:Hp}{s:am}{a C dx:af}{fs:List (Str×V)}{f:Str}{v:V}{A:di}{E:ag->am->Prop}
theorem BX (I:Inv X pins σ H s) (e:H a=v9 (.ins C dx fs)) (c:Cls X.K C) (n:NoAttr X.K C f) (l:fs.lookup f=v9 v)
  (h:∀ u s',Inv X pins σ H s'->RelV v u->Q u s'):ax (model X.prog X.w) A (getAttr (.ref a) f b) Q E s:=by
 obtain⟨mA,O,r,_,_,_⟩:=yI I.hok e;obtain⟨u,hu,ru⟩:=RelO.some_of (v:=v) (o:=mA f) (by rw[<- l];exact r f);exact Kh I.kIn O (c.get f) c.hd n hu (Ec ru) (h u _ (I.tok _) ru)
theorem rM (I:Inv X pins σ H s) (e:H a=v9 (.ins C dx fs)) (c:Cls X.K C) (k:HK X.K C m g) (l:fs.lookup m=wb)
  (h:Q (.ref g,[.ref a]) s):ax (model X.prog X.w) A (lu (.ref a) m pl) Q E s:=by
 obtain⟨mA,O,r,_,_,_⟩:=yI I.hok e;have hn:mA m=wb:=RelO.none_of (by rw[<- l];exact r m);exact GP I.kIn O (c.get m) k.at_ k.fn hn h
theorem Bx (I:Inv X pins σ H s) (e:H a=v9 (.ins C dx fs)) (c:Cls X.K C) (n:NoAttr X.K C f) (hl:fs.length<1000) (ry:RelV y u)
  (h:∀ s',Inv X pins σ (upd H a (.ins C dx (putF f y fs))) s'->Q () s'):ax (model X.prog X.w) A (setAttr (.ref a) f u) Q E s:=by
 obtain⟨mA,O,r,wi,_,ho⟩:=yI I.hok e;have hz:(fs.map (·.1)).length<=sizeLine:=by rw[ao,b7];omega
 refine IC I.kIn O c.sa c.po n.taker c.hd wi hz fun h' O' sb=>h _ ?_;have hd:∃ o,h'.get? dx=v9 o:=let ⟨o,_,_,e',_⟩:=O'.ns;⟨o,e'⟩;refine I.write (x:=a) (e:=dx) (by rw[e];exact gk) (.inr ho) (fun b q hb z=>(sb.2 b hb).trans z) hd ?_;refine⟨by rw[aF O.ne];exact ho,?_,O.ne,O'.obj,_,O'.ns,fun g=> ?_,fun g hg=> ?_⟩
 ·have:=nY f y fs;omega
 ·show RelO ((putF f y fs).lookup g) (if g=f then v9 u else mA g);rw[nX]
  by_cases q:g=f
  ·rw[if_pos q,if_pos q];exact ry
  ·rw[if_neg q,if_neg q];exact r g
 ·by_cases q:g=f
  ·rw[q];exact(nZ f y fs).1
  ·refine(nZ f y fs).2 g (wi g fun z=>hg ?_)
   show(if g=f then v9 u else mA g)=wb
   rw[if_neg q];exact z
theorem Inv.made (I:Inv X pins σ H s):Inv X pins σ (upd (upd H s.heap.objs.size (.own (s.heap.objs.size+1))) (s.heap.objs.size+1) (.ins C s.heap.objs.size []))
  { s with heap:=(s.heap.push gu).push (io C s.heap.objs.size) }:=by
 have e1:(s.heap.push gu).get? s.heap.objs.size=v9 gu:=b0 s.heap rfl;have e2:((s.heap.push gu).push (io C s.heap.objs.size)).get? (s.heap.objs.size+1)=v9 (io C s.heap.objs.size):=by
  have:=b0 (s.heap.push gu) (o:=io C s.heap.objs.size) rfl
  rwa [hZ] at this
 have e3:(s.heap.push gu).Ns s.heap.objs.size (fun _=>wb):=⟨gu,#[],_,e1,rfl,(fun e he=>absurd he (by simp)),fun _=>rfl⟩;have I1:=I.laid (a:=s.heap.objs.size) (o:=.own (s.heap.objs.size+1)) (h':=s.heap.push gu) (t':=s.toks) (fun b u q=>ay _ q) (bp _) ⟨_,e1⟩;refine I1.laid (a:=s.heap.objs.size+1) (o:=.ins C s.heap.objs.size []) (t':=s.toks) (fun b u q=>ay _ q) (t8 (hZ _ _)) ?_;have ne:s.heap.objs.size≠s.heap.objs.size+1:=cm (m7 _);refine⟨by rw[aF ne,aM],im _,ne,e2,fun _=>wb,(Heap.Ns1.of_empty e3).at fun o q=>ay _ q,fun _=>gk,fun y hy=>absurd rfl hy⟩
theorem KD (hb:hV e f env (eval e env)=eval e env)
  (h:ax (model prog w) A (eval e env) (fun o s₁=>ax (model prog w) A (getAttr o f true) Q E s₁) E s):ax (model prog w) A (eval (.Attribute e f pos) env) Q E s:=
 Attribute_any_ h (by rw[arm_eval_Attribute,hb])
end
noncomputable def Qc (K:aa) (ta:TE) (f:Str):TE:=fun σ H Q=>ta σ H fun x H1=>∃ a C dx fs v,x=.ref a/\H1 a=v9 (.ins C dx fs)/\Cls K C/\NoAttr K C f/\fs.lookup f=v9 v/\Q v H1
noncomputable def Qg (K:aa) (ta tv:TE) (f:Str):TS:=fun D σ H=>tv σ H fun y H1=>ta σ H1 fun x H2=>∃ a C dx fs,x=.ref a/\H2 a=v9 (.ins C dx fs)/\Cls K C/\NoAttr K C f/\fs.length<1000/\
 D.nx σ (upd H2 a (.ins C dx (putF f y fs)))
section
variable {X:Cx}{o e value:bx}{f:Str}{pos pos' tpos:Pos}{ta tv:TE}
theorem LP (he:PE X e ta) (hb:hV e f X.env (eval e X.env)=eval e X.env):PE X (.Attribute e f pos) (Qc X.K ta f):=by
 intro pins s σ H Q I h;refine KD hb (thn (he pins s σ H _ I h) fun u s1 ⟨x,H1,I1,rx,a,C,dx,fs,v,ex,ea,c,n,l,q⟩=> ?_);subst ex;obtain rfl:u=ca a:=rx;exact BX I1 ea c n l fun u' s2 I2 ru=>⟨v,H1,I2,ru,q⟩
theorem LD (ha:PE X o ta) (hv:PE X value tv) (hs:jc value (v9 (.Attribute o f pos')) pos.line X.env=pure false):PS X (.Assign [.Attribute o f pos'] value pos) (Qg X.K ta tv f):=by
 intro pins s σ H D I h;refine plainObj_wpAny_Assign_Attribute (thn (hv pins s σ H _ I h) fun u s1 ⟨y,H1,I1,ry,q⟩=>thn (ha pins s1 σ H1 _ I1 q) fun ov s2 ⟨x,H2,I2,rx,a,C,dx,fs,ex,ea,c,n,l,q2⟩=> ?_) hs;subst ex;obtain rfl:ov=ca a:=rx;exact Bx I2 ea c n l ry fun s3 I3=>⟨σ,_,I3,q2⟩
end
section
variable {X:Cx}{pins:List (af×Obj)}{σ:St}{H:Hp}{s:am}{A:di}{E:ag->am->Prop}{Q:ag->am->Prop}{c:ag}{b:Bool}
end
end L2
namespace L2
structure Room (k:Nat) (A:di):Prop where
 hd:A.handled=wb
 dp:A.depth+3*k+5<recursionLimit
 un:A.units+16*k+200<dn
theorem Room.mono (r:Room k A) (h:j<=k):Room j A:=⟨r.hd,by have:=r.dp;omega,by have:=r.un;omega⟩
theorem Room.deeper (r:Room (k+1) A) (env:Env):Room k (A.deeper env):=
 ⟨r.hd,by have:=r.dp;show A.depth+1+3*k+5<_;omega,by have:=r.un;show A.units+3+16*k+200<_;omega⟩
theorem BI {A:di}:(A.under (.builtin "type.__call__" ⟨.ref C::us,kw⟩)).depth=A.depth+1:=by
 first|rfl|simp[t9,Code.weight,Code.isCreation,Code.isGuard,Code.isCaller,Code.frames,ua,guardIds]
theorem BH {A:di}:(A.under (.builtin "type.__call__" ⟨.ref C::us,kw⟩)).units=A.units+1:=by
 first|rfl|simp[t9,Code.cUnits,Code.frames,ua]
theorem Room.make (r:Room (k+1) A) (C:af) (us:List ag) (kw:List (Str×ag)):Room k (A.under (.builtin "type.__call__" ⟨.ref C::us,kw⟩)):=
 ⟨r.hd,by have:=r.dp;rw[BI];omega,by have:=r.un;rw[BH];omega⟩
theorem Room.depth (r:Room k A):A.depth<recursionLimit:=by have:=r.dp;omega
theorem Room.units (r:Room k A):A.units+64<dn:=by have:=r.un;omega
noncomputable def Ps:TA:=fun _ H Q=>Q [] H
noncomputable def NW (ta:TE) (tr:TA):TA:=fun σ H Q=>ta σ H fun x H1=>tr σ H1 fun xs H2=>Q (x::xs) H2
section
variable {X:Cx}{e:bx}{es:List bx}{te:TE}{t:TA}{pos:Pos}
theorem qT:PA X [] Ps:=fun _ _ _ _ H Q I h=>Calls.spliced_nil ⟨[],H,I,.nil,h⟩
theorem gK (ha:PE X e te) (hr:PA X es t) (hs:aq (e::es) X.env=(false,eval e X.env)::aq es X.env:=by rfl):PA X (e::es) (NW te t):=by
 intro pos pins s σ H Q I h;rw[hs];show ax _ _ (spliced ((false,eval e X.env)::de pos (aq es X.env))) _ _ s;refine Calls.spliced_cons (thn (ha pins s σ H _ I h) fun u s1 ⟨x,H1,I1,r1,q1⟩=> ?_);exact thn (hr pos pins s1 σ H1 _ I1 q1) fun us s2 ⟨xs,H2,I2,r2,q2⟩=>⟨x::xs,H2,I2,.cons r1 r2,q2⟩
noncomputable def PV (t:TA):TE:=fun σ H Q=>t σ H fun xs H1=>xs.length<=sizeLine/\∀ p,H1 p=wb->Q (.ref p) (upd H1 p (.tup xs))
noncomputable def Qa (t:TA):TE:=fun σ H Q=>t σ H fun xs H1=>xs.length<=sizeLine/\∀ p,H1 p=wb->Q (.ref p) (upd H1 p (.lst xs))
theorem HQ (h:PA X es t):PE X (.Tuple es x1 pos) (PV t):=by
 intro pins s σ H Q I hq;refine wpAny_Tuple_spliced (thn (h pos pins s σ H _ I hq) fun us s1 ⟨xs,H1,I1,r,z,q⟩=>⟨by rw[<- r.length];exact z,?_⟩);have hf:H1 s1.heap.objs.size=wb:=I1.hok.fresh (bp _);refine⟨.ref s1.heap.objs.size,upd H1 s1.heap.objs.size (.tup xs),I1.laid (t':=s1.toks) (fun b u e=>ay _ e) (bp _) ?_,rfl,q _ hf⟩;exact⟨z,us,r,⟨_,b0 _ rfl,rfl,_,rfl⟩⟩
theorem HR (h:PA X es t):PE X (.List es pos) (Qa t):=by
 intro pins s σ H Q I hq;refine wpAny_List_spliced (thn (h pos pins s σ H _ I hq) fun us s1 ⟨xs,H1,I1,r,z,q⟩=>⟨by rw[<- r.length];exact z,?_⟩);have hf:H1 s1.heap.objs.size=wb:=I1.hok.fresh (bp _);refine⟨.ref s1.heap.objs.size,upd H1 s1.heap.objs.size (.lst xs),I1.laid (t':=s1.toks) (fun b u e=>ay _ e) (bp _) ?_,rfl,q _ hf⟩;exact⟨z,us,0,r,b0 _ rfl⟩
end
noncomputable abbrev Sp:=List V->Hp->VK->XK->Prop
noncomputable abbrev CXT:=List Env->Hp->am->XK->ag->am->Prop
structure Env0 (P:c9) (w:df) (K:aa) (mg:Str->Option ag) (base:cz) (A:di) (outer:List Env) (s:am) (H:Hp):Prop where
 frames:A.frames=v9 outer
 mod:Mod K mg base
 bs:∀ b o,base.get? b=v9 o->s.heap.get? b=v9 o/\H b=wb
 bsz:base.objs.size<=s.heap.objs.size
 funs:s.heap.FunFrames base outer
 frf:∀ b∈frs outer,H b=wb
 hok:HOk P w H s.heap
 bare:mf s.gens
noncomputable def CE (outer:List Env) (P:c9) (w:df) (H:Hp) (s:am) (Q:VK) (u:ag) (s':am):Prop:=
 ∃ v H',s'.os=s.os/\mf s'.gens/\Un (frs outer) [] H H' s.heap s'.heap/\HOk P w H' s'.heap/\RelV v u/\Q v H'
noncomputable def CR (CX:CXT) (outer:List Env) (P:c9) (w:df) (H:Hp) (s:am) (Q:VK) (E:XK) (r:Result) (s':am):Prop:=
 match r with
 |.ok (.ret u)=>CE outer P w H s Q u s'
 |.ok _=>False
 |.error e=>CX outer H s E e s'
structure qH (P:c9) (w:df) (K:aa) (mg:Str->Option ag) (base:cz) (CX:CXT) (k:Nat) (f:af) (fd:jk) (ps:List Str) (sp:Sp):Prop where
 len:∀ vs H Q E,sp vs H Q E->vs.length=ps.length
 run:∀(A:di) (outer:List Env) (s:am) (H:Hp) (args:Args) (us:List ag) (vs:List V) (Q:VK) (E:XK),Room k A->Env0 P w K mg base A outer s H->rn s fd args (ps.zip us)->Vals vs us->sp vs H Q E->
  nq (model P w) A (.call (.ref f) args) (CR CX outer P w H s Q E) s
theorem Env0.make {K:aa} (e:Env0 P w K mg base A outer s H) (C:af) (us:List ag) (kw:List (Str×ag)):
  Env0 P w K mg base (A.under (.builtin "type.__call__" ⟨.ref C::us,kw⟩)) outer s H:=⟨by first|exact e.frames|(simpa [t9,Code.envs,ua,pushEnvs] using e.frames),e.mod,e.bs,e.bsz,e.funs,e.frf,e.hok,e.bare⟩
section
variable {X:Cx}{pins:List (af×Obj)}{σ:St}{H:Hp}{s s':am}
theorem Inv.env0 (I:Inv X pins σ H s):Env0 X.prog X.w X.K X.mg X.base X.A X.stack s H:=
 ⟨I.ok.frames,I.ok.mod,I.bs,ci I.ok.bsz I.sz,I.stack,I.stkFree,I.hok,I.bare⟩
theorem Inv.after (I:Inv X pins σ H s) (h:CE X.stack X.prog X.w H s Q u s'):EP X pins σ Q u s':=by
 obtain⟨v,H',os,bare,un,hok,r,q⟩:=h;obtain⟨hh,g,d,t,os'⟩:=s';obtain rfl:os'=s.os:=os;exact⟨v,H',I.call (h':=hh) (g':=g) (d':=d) (t':=t) (ch:=[]) un hok bare (fun b z=>absurd z (by simp)),r,q⟩
end
noncomputable def NX (sp:Sp) (dvs:List V) (E:XK) (t:TA):TE:=fun σ H Q=>t σ H fun vs H1=>sp (vs++dvs) H1 Q E
noncomputable def Le (C:af) (m:Str) (sp:Sp) (dvs:List V) (E:XK) (ta:TE) (t:TA):TE:=fun σ H Q=>ta σ H fun x H1=>∃ a dx fs,x=.ref a/\H1 a=v9 (.ins C dx fs)/\fs.lookup m=wb/\
 t σ H1 fun vs H2=>sp (x::(vs++dvs)) H2 Q E
noncomputable def NS (C:af) (sp:Sp) (dvs:List V) (E:XK) (t:TA):TE:=fun σ H Q=>t σ H fun vs H1=>∀ x dx,H1 x=wb->H1 dx=wb->dx≠x->
 sp (.ref x::(vs++dvs)) (upd (upd H1 dx (.own x)) x (.ins C dx [])) (fun v H2=>v=.non/\Q (.ref x) H2) E
noncomputable def Binds (K:aa) (fd:jk) (ps:List Str) (ds:List ag):Prop:=
 ∀(s:am) (us:List ag),K.In s.heap->(us++ds).length=ps.length->rn s fd ⟨us,[]⟩ (ps.zip (us++ds))
theorem Binds.all {K:aa} (h:∀ us:List ag,us.length=ps.length->bindArgs fd ⟨us,[]⟩=pure (ps.zip us)):Binds K fd ps []:=fun s us _ hl=>by
 rw[dh] at hl ⊢;exact .of_eq (h us hl)
noncomputable def pE (CX:CXT) (X:Cx) (E:XK):Prop:=∀(pins:List (af×Obj)) (σ:St) (H:Hp) (s:am) (e:ag) (s':am),Inv X pins σ H s->CX X.stack H s E e s'->X.xe e s'
section
variable {X:Cx}{CX:CXT}{k:Nat}{f C:af}{fd:jk}{ps:List Str}{sp:Sp}{dvs:List V}{ds:List ag}{E:XK}{x m:Str}{p pos apos:Pos}{e o:bx}{es:List bx}{ta:TE}{t:TA}
theorem Db (F:qH X.prog X.w X.K X.mg X.base CX k f fd ps sp) (hr:Room k X.A) (hb:Binds X.K fd ps ds) (hd:Vals dvs ds) (hx:pE CX X E)
  (I:Inv X pins σ H s) (r:Vals vs us) (h:sp (vs++dvs) H Q E):ax (model X.prog X.w) X.A (call (.ref f) us) (EP X pins σ Q) X.xe s:=by
 have r2:Vals (vs++dvs) (us++ds):=r.append hd;have hl:(us++ds).length=ps.length:=by rw[<- r2.length];exact F.len _ _ _ _ h
 refine wpAny_call (pz (F.run X.A X.stack s H ⟨us,[]⟩ (us++ds) (vs++dvs) Q E hr I.env0 (hb s us I.kIn hl) r2 h) fun r s' hq=> ?_);cases r with
 |error e=>exact hx pins σ H s e s' I hq
 |ok fl=>
  cases fl with
  |ret u=>exact I.after hq
  |next=>exact ii hq
  |brk=>exact ii hq
  |cont=>exact ii hq
theorem Jb (F:qH X.prog X.w X.K X.mg X.base CX k f fd ps sp) (hr:Room k X.A) (hg:Gl X x) (hm:X.mg x=v9 (.ref f)) (hk:fy X.K (.ref f)=true) (hb:Binds X.K fd ps ds) (hd:Vals dvs ds) (hx:pE CX X E)
  (ha:PA X (e::es) t) (hdb:(x==("__debug__":Str))=false:=by decide) (he:aq (e::es) X.env=(false,eval e X.env)::aq es X.env:=by rfl) (hpl:(de pos (aq es X.env)).any (·.1)=false:=by rfl):
  PE X (.Call (.Name x p) (e::es) [] pos) (NX sp dvs E t):=by
 intro pins s σ H Q I h;refine lz (sU I hg hm ?_ hdb);refine oz (h₀:=X.base) I.ok.mod.kin hk (thn (ha pos pins s σ H _ I h) fun us s1 ⟨vs,H1,I1,r,q⟩=>⟨I1.kIn,?_⟩) he hpl;exact Db F hr hb hd hx I1 r q
theorem IW (he:PE X o ta) (c:Cls X.K C) (hm:HK X.K C m f) (F:qH X.prog X.w X.K X.mg X.base CX k f fd ps sp) (hr:Room k X.A) (hb:Binds X.K fd ps ds) (hd:Vals dvs ds) (hx:pE CX X E) (ha:PA X (e::es) t)
  (hst:aq (e::es) X.env=(false,eval e X.env)::aq es X.env:=by rfl) (hpl:(de pos (aq es X.env)).any (·.1)=false:=by rfl)
  (ht:eval (.Call (.Attribute o m apos) (e::es) [] pos) X.env=(do
   let ov <- eval o X.env
   mj apos.atName
   let (f,first) <- holding [ov] (lu ov m pl)
   p0 pos f first (de pos (aq (e::es) X.env)) (jw pos (ib [] X.env))):=by rfl):
  PE X (.Call (.Attribute o m apos) (e::es) [] pos) (Le C m sp dvs E ta t):=by
 intro pins s σ H Q I h;refine rp (pl:=pl) (thn (he pins s σ H _ I h) fun u s1 ⟨x,H1,I1,rx,a,dx,fs,ex,ea,l,q⟩=> ?_) ht;subst ex;obtain rfl:u=ca a:=rx;refine rM I1 ea c hm l ?_;refine oz (first:=[.ref a]) (h₀:=X.base) I.ok.mod.kin hm.kp (thn (ha pos pins s1 σ H1 _ I1 q) fun us s2 ⟨vs,H2,I2,r,q2⟩=>⟨I2.kIn,?_⟩) hst hpl;exact Db (us:=.ref a::us) (vs:=.ref a::vs) F hr hb hd hx I2 (.cons rfl r) q2
theorem FY (he:PE X o ta) (c:Cls X.K C) (hm:HK X.K C m f) (F:qH X.prog X.w X.K X.mg X.base CX k f fd ps sp) (hr:Room k X.A) (hb:Binds X.K fd ps ds) (hd:Vals dvs ds) (hx:pE CX X E)
  (ht:eval (.Call (.Attribute o m apos) [] [] pos) X.env=(do
   let ov <- eval o X.env
   mj apos.atName
   let (f,first) <- holding [ov] (lu ov m pl)
   p0 pos f first (de pos (aq [] X.env)) (jw pos (ib [] X.env))):=by rfl):
  PE X (.Call (.Attribute o m apos) [] [] pos) (Le C m sp dvs E ta Ps):=by
 intro pins s σ H Q I h;refine rp (pl:=pl) (thn (he pins s σ H _ I h) fun u s1 ⟨x,H1,I1,rx,a,dx,fs,ex,ea,l,q⟩=> ?_) ht;subst ex;obtain rfl:u=ca a:=rx;refine rM I1 ea c hm l ?_;exact PySem.W.callWith_K0 (first:=[.ref a]) I1.kIn hm.kp (Db (us:=[.ref a]) (vs:=[.ref a]) F hr hb hd hx I1 (.cons rfl .nil) q)
structure Mk (K:aa) (C f:af):Prop where
 makes:qj K C=true
 init:gs K (.ref C) "__init__"=v9 (v9 (.ref f))
 fn:n5 K (.ref f)=true
 kp:fy K (.ref C)=true
theorem FD (M:Mk X.K C f) (F:qH X.prog X.w X.K X.mg X.base CX k f fd ps sp) (hr:Room (k+1) X.A) (hb:Binds X.K fd ps ds) (hd:Vals dvs ds)
  (hx:pE CX X E) (I:Inv X pins σ H s) (r:Vals vs us)
  (h:∀ x dx,H x=wb->H dx=wb->dx≠x->sp (.ref x::(vs++dvs)) (upd (upd H dx (.own x)) x (.ins C dx [])) (fun v H2=>v=.non/\Q (.ref x) H2) E):
  ax (model X.prog X.w) X.A (call (.ref C) us) (EP X pins σ Q) X.xe s:=by
 have hq:=h (s.heap.objs.size+1) s.heap.objs.size (I.hok.fresh (Nat.le_succ _)) (I.hok.fresh (bp _)) (cm (m7 _));have I2:=Inv.made (C:=C) I;have r2:Vals (V.ref (s.heap.objs.size+1)::(vs++dvs)) (ca (s.heap.objs.size+1)::(us++ds)):=.cons rfl (r.append hd);have hl:(ca (s.heap.objs.size+1)::us++ds).length=ps.length:=by
  have e:=r2.length;rw[F.len _ _ _ _ hq] at e;exact e.symm
 refine wpAny_call (Gz (f:=f) I.kIn M.makes M.init (beq_iff_eq.mp M.fn) (pz (F.run _ X.stack _ _ ⟨ca (s.heap.objs.size+1)::us,[]⟩ (ca (s.heap.objs.size+1)::(us++ds)) _ _ E (hr.make C us [])
  (I2.env0.make C us []) (hb _ (ca (s.heap.objs.size+1)::us) I2.kIn hl) r2 hq) fun r s' hq'=> ?_))
 cases r with
 |error e=>exact hx pins σ _ _ e s' I2 hq'
 |ok fl=>
  cases fl with
  |ret u=>
   obtain⟨v,H',I3,rv,ev,q3⟩:=I2.after hq';subst ev;exact⟨rv,⟨V.ref (s.heap.objs.size+1),H',I3,rfl,q3⟩⟩
  |next=>exact ii hq'
  |brk=>exact ii hq'
  |cont=>exact ii hq'
theorem IX (M:Mk X.K C f) (F:qH X.prog X.w X.K X.mg X.base CX k f fd ps sp) (hr:Room (k+1) X.A) (hg:Gl X x) (hm:X.mg x=v9 (.ref C)) (hb:Binds X.K fd ps ds) (hd:Vals dvs ds) (hx:pE CX X E)
  (ha:PA X (e::es) t) (hdb:(x==("__debug__":Str))=false:=by decide) (he:aq (e::es) X.env=(false,eval e X.env)::aq es X.env:=by rfl) (hpl:(de pos (aq es X.env)).any (·.1)=false:=by rfl):
  PE X (.Call (.Name x p) (e::es) [] pos) (NS C sp dvs E t):=by
 intro pins s σ H Q I h;refine lz (sU I hg hm ?_ hdb);refine oz (h₀:=X.base) I.ok.mod.kin M.kp (thn (ha pos pins s σ H _ I h) fun us s1 ⟨vs,H1,I1,r,q⟩=>⟨I1.kIn,?_⟩) he hpl;exact FD M F hr hb hd hx I1 r q
end
section
variable {X:Cx}{CX:CXT}{k:Nat}{f C:af}{fd:jk}{ps ks:List Str}{sp:Sp}{E:XK}{x m:Str}{p pos apos kpos:Pos}{e o:bx}{es:List bx}{kws:List j7}{te ta:TE}{t tk:TA}{nm:Option Str}
variable {g:List ag->List ag->List ag}{gV:List V->List V->List V}
end
structure kA (N P:List Str) (sc:j4):Prop where
 kind:sc.kind=.function
 co:sc.isCoroutine=false
 gen:sc.isGenerator=false
 nd:N.Nodup
 pre:N.take P.length=P
 par:∀ x∈P,sc.names.lookup x=v9 .local∨sc.names.lookup x=v9 .cell
 nofree:∀ y∈sc.names,y.2≠ .free
theorem wU {kindOf:Str->Option gv}:∀ {binds:List (Str×ag)}{m:Str->Option ag},(∀ v,(x,v)∉binds)->bindL kindOf binds m x=m x
 |[],_,_=>rfl
 |(n,v)::r,m,h=>by
  unfold bindL;rw[wU fun w hw=>h w (ai _ hw)];split
  ·have:x≠n:=by rintro rfl;exact h v ar
   simp[this]
  ·rfl
theorem wW {kindOf:Str->Option gv}:∀ {binds:List (Str×ag)}{m:Str->Option ag},(∀ v,(x,v)∉binds)->bindC kindOf binds m x=m x
 |[],_,_=>rfl
 |(n,v)::r,m,h=>by
  unfold bindC;rw[wW fun w hw=>h w (ai _ hw)];split
  ·rfl
  ·have:x≠n:=by rintro rfl;exact h v ar
   simp[this]
theorem wV {kindOf:Str->Option gv}:∀ {P:List Str}{vs:List ag}{i:Nat}{m:Str->Option ag},P.Nodup->P[i]?=v9 x->vs[i]?=v9 v->kindOf x=v9 .local->
  bindL kindOf (P.zip vs) m x=v9 v
 |[],_,_,_,_,h,_,_=>by simp at h
 |_::_,[],_,_,_,_,h,_=>by simp at h
 |p::P,w::vs,0,m,nd,h1,h2,hk=>by
  simp at h1 h2;subst h1;subst h2;show bindL kindOf ((p,w)::P.zip vs) m p=_;unfold bindL;rw[wU fun v hv=>(b9.mp nd).1 (qk hv).1,if_pos hk];simp
 |p::P,w::vs,i+1,m,nd,h1,h2,hk=>by
  show bindL kindOf ((p,w)::P.zip vs) m x=_;unfold bindL;exact wV (i:=i) (b9.mp nd).2 (by simpa using h1) (by simpa using h2) hk
theorem wX {kindOf:Str->Option gv}:∀ {P:List Str}{vs:List ag}{i:Nat}{m:Str->Option ag},P.Nodup->P[i]?=v9 x->vs[i]?=v9 v->kindOf x≠v9 .local->
  bindC kindOf (P.zip vs) m x=v9 v
 |[],_,_,_,_,h,_,_=>by simp at h
 |_::_,[],_,_,_,_,h,_=>by simp at h
 |p::P,w::vs,0,m,nd,h1,h2,hk=>by
  simp at h1 h2;subst h1;subst h2;show bindC kindOf ((p,w)::P.zip vs) m p=_;unfold bindC;rw[wW fun v hv=>(b9.mp nd).1 (qk hv).1,if_neg hk];simp
 |p::P,w::vs,i+1,m,nd,h1,h2,hk=>by
  show bindC kindOf ((p,w)::P.zip vs) m x=_;unfold bindC;exact wX (i:=i) (b9.mp nd).2 (by simpa using h1) (by simpa using h2) hk
noncomputable def start (N:List Str) (vs:List V):St:=vs.map v9++aw (N.length-vs.length) wb
noncomputable def zH (CX:CXT) (P:c9) (w:df) (K:aa) (mg:Str->Option ag) (base:cz) (N:List Str) (qual:Str) (scope:j4) (f:af) (cd:ag) (A:di) (outer:List Env) (s:am) (H:Hp) (E:XK):Cx where
 prog:=P
 w:=w
 K:=K
 mg:=mg
 base:=base
 A:=A.deeper (jf qual scope s.heap.objs.size f cd)
 N:=N
 s₀:=s
 H₀:=H
 env:=jf qual scope s.heap.objs.size f cd
 outer:=outer
 stack:=jf qual scope s.heap.objs.size f cd::outer
 ex:=[]
 calm:=true
 fn:=fun _=>true
 pn:=[]
 xe:=fun e s'=>ax (model P w) (A.deeper (jf qual scope s.heap.objs.size f cd)) (leaving (jf qual scope s.heap.objs.size f cd) e) (fun _ s''=>CX outer H s E e s'') (fun e' s''=>CX outer H s E e' s'') s'
theorem Bh {sc:j4} (h:sc.names.lookup x=v9 .cell):∃ c,(f9 n sc.names []).lookup x=v9 c:=by
 have q:=qv sc.names n [] (.inl h);exact l0.mp q
theorem DZ {K:aa}
  (S:kA N ps scope) (hd:A.handled=wb) (e0:Env0 P w K mg base A outer s H) (hl:vs.length=ps.length) (r:Vals vs us)
  (x:InCallC s s.heap.objs.size (bindL (jf qual scope s.heap.objs.size f cd).kindOf (ps.zip us) fun _=>wb) (f9 (s.heap.objs.size+1) scope.names []) (bindC (jf qual scope s.heap.objs.size f cd).kindOf (ps.zip us) fun _=>wb) s1):
  Inv (zH CX P w K mg base N qual scope f cd A outer s H E) [] (start N vs) H s1:=by
 have hpl:ps.length<=N.length:=by have:=congrArg k7 S.pre;rw[m8] at this;omega
 obtain⟨h1,tk,rfl,hk⟩:=x.done;have noA:∀ b:af,b∉(zH CX P w K mg base N qual scope f cd A outer s H E).ex:=fun b z=>absurd (show b∈([]:List af) from z) (by simp);refine⟨⟨e0.mod,S.kind,rfl,rfl,bp _,fun y z c h1 h2=> ?_,fun y hy=> ?_,fun y c _ h=> ?_,fun _=>hd,Around.frames_deeper e0.frames,.inr ⟨rfl,rfl⟩,fun b z=>absurd z (noA b),e0.bs,e0.bsz,fun b _ _=>noA b,fun b z=>absurd z (noA b),e0.funs,e0.frf⟩,
  rfl,e0.bare,Un.kept hk,⟨_,x.toInCall.ns,fun i y v h1 h2 h3=> ?_⟩,fun y c h=>⟨_,x.cell y c h⟩,e0.hok.fresh (bp _),fun y c h=> ?_,fun p hp=>absurd (show p∈([]:List (af×Obj)) from hp) (by simp),e0.hok.kept hk,?_⟩
 ·exact name_of_addr x.apart (fj h1) (fj h2)
 ·have hy:scope.names.lookup y=v9 .cell∨scope.names.lookup y=v9 .free:=hy;rcases hy with hy|hy
  ·exact Bh hy
  ·exact absurd rfl (S.nofree _ (fj hy))
 ·exact ip (x.above y c (fj h))
 ·have hi:i<vs.length:=by
   unfold start at h2
   by_cases hi:i<vs.length
   ·exact hi
   ·rw[gl (by simpa using hi)] at h2;rw[ga] at h2;split at h2 <;> cases h2
  have ha:vs[i]?=v9 v:=by
   unfold start at h2;rw[bi (by simpa using hi),az] at h2;cases e:vs[i]? with
   |none=>rw[e] at h2;cases h2
   |some a=>rw[e] at h2;cases h2;rfl
  obtain⟨u,hu,rv⟩:=r.get ha;have hp:ps[i]?=v9 y:=by
   rw[<- S.pre,List.getElem?_take_of_lt (by omega)];exact h1
  have ndP:ps.Nodup:=by rw[<- S.pre];exact S.nd.sublist (List.take_sublist _ _)
  refine⟨u,rv,?_⟩;rcases S.par y (eu hp) with k|k
  ·exact .inl ⟨k,wV ndP hp hu k⟩
  ·obtain⟨c,e⟩:=Bh (n:=s.heap.objs.size+1) k;refine .inr ⟨.inl k,c,e,?_⟩;have q:=x.cell y c e;rw[wX ndP hp hu (by show scope.names.lookup y≠_;rw[k];decide)] at q;exact q
 ·exact e0.hok.fresh (ip (x.above y c (fj h)))
 ·unfold start;show _=N.length;rw[bv,ao,ji];omega
theorem OX {K:aa}{dV kV doc pm cdv ct oc:ag}
    (lk:K.lookup f=v9 ⟨oc,od,.func (ic name qual params body scope dV kV doc pm an cdv ct),osl⟩) (hcd:jv K cdv qual=true) (S:kA N ps scope)
  (len:∀ vs H Q E,sp vs H Q E->vs.length=ps.length)
  (hbody:∀(A:di) (outer:List Env) (s:am) (H:Hp) (vs:List V) (Q:VK) (E:XK),Room k (A.deeper (jf qual scope s.heap.objs.size f cdv))->sp vs H Q E->
   ∃ t,PSs (zH CX P w K mg base N qual scope f cdv A outer s H E) body t/\t { nx:=fun _ H'=>Q .non H',rt:=Q } (start N vs) H):
  qH P w K mg base CX (k+1) f (ic name qual params body scope dV kV doc pm an cdv ct) ps sp:=by
 refine⟨len,fun A outer s H args us vs Q E hr e0 hb r hsp=> ?_⟩;have hl:=len _ _ _ _ hsp;have KX:K.In s.heap:=e0.mod.kin.keeps fun b o e=>(e0.bs b o e).1;have lim:s.heap.NoLimit:=e0.mod.nolimit.keeps fun b o e=>(e0.bs b o e).1;have hkind:∀ y∈ps.zip us,scope.names.lookup y.1=v9 .local∨(scope.names.lookup y.1=v9 .cell/\((f9 (s.heap.objs.size+1) scope.names []).lookup y.1).isSome=true):=fun⟨n,v⟩ hy=>by
  rcases S.par n (qk hy).1 with q|q
  ·exact .inl q
  ·exact .inr ⟨q,qv _ _ _ (.inl q)⟩
 refine codeAny_call_function hr.depth (KX _ _ lk) rfl S.co S.gen rfl (PySem.W.codeRec_of KX hcd) (hb _ _ _ _ ?_);refine wpAny_newFunctionEnv_cells S.kind hkind fun env he s1 x=> ?_;subst he;refine⟨lim.keeps x.toInCall.keep,codeAny_func ?_⟩;obtain⟨t,ht,hq⟩:=hbody A outer s H vs Q E (hr.deeper _) hsp;have I:Inv (zH CX P w K mg base N qual scope f cdv A outer s H E) [] (start N vs) H s1:=DZ S hr.hd e0 hl r x;refine gg (ht [] s1 (start N vs) H _ I hq) (fun fl s' hs=> ?_) fun e s' hs=>hs;have fin:∀ {σ':St}{H':Hp}{v:V}{u:ag},Inv (zH CX P w K mg base N qual scope f cdv A outer s H E) [] σ' H' s'->RelV v u->Q v H'->CE outer P w H s Q u s':=
  fun {σ' H' v u} J rv q=>⟨v,H',J.os,J.bare,J.base,J.hok,rv,q⟩
 cases fl with
 |ret u=>
  obtain⟨v,σ',H',J,rv,q⟩:=hs;exact fin J rv q
 |next=>
  obtain⟨σ',H',J,q⟩:=hs;exact fin (v:=V.non) (u:=hW) J rfl q
 |brk=>
  obtain⟨_,_,_,q⟩:=hs;exact ii q
 |cont=>
  obtain⟨_,_,_,q⟩:=hs;exact ii q
end L2
namespace L2
section
variable {X:Cx}{x:Str}{p pos:Pos}{e:bx}{es:List bx}{t:TA}{id T:String}{r:List V->Hp->VK->Prop}
noncomputable def tCB (r:List V->Hp->VK->Prop) (t:TA):TE:=fun σ H Q=>t σ H fun vs H1=>r vs H1 Q
theorem mK (hc:CallR X (.builtin id) r) (hg:Gl X x) (hm:X.mg x=wb) (hv:db x=v9 (.builtin id)) (ha:PA X (e::es) t) (hn:x≠"__name__":=by decide) (hdb:(x==("__debug__":Str))=false:=by decide)
  (he:aq (e::es) X.env=(false,eval e X.env)::aq es X.env:=by rfl) (hpl:(de pos (aq es X.env)).any (·.1)=false:=by rfl):PE X (.Call (.Name x p) (e::es) [] pos) (tCB r t):=by
 intro pins s σ H Q I h;refine lz (rD I hg hm hv ?_ hn hdb);exact PyProof.Rows.callWith_builtin1 (thn (ha pos pins s σ H _ I h) fun us s1 ⟨vs,H1,I1,r1,q1⟩=>hc pins s1 σ H1 vs us Q I1 r1 q1) he hpl
theorem Dm (hc:CallR X (.type T) r) (hg:Gl X x) (hm:X.mg x=wb) (hv:db x=v9 (.type T)) (ha:PA X (e::es) t) (hn:x≠"__name__":=by decide) (hdb:(x==("__debug__":Str))=false:=by decide)
  (he:aq (e::es) X.env=(false,eval e X.env)::aq es X.env:=by rfl) (hpl:(de pos (aq es X.env)).any (·.1)=false:=by rfl):PE X (.Call (.Name x p) (e::es) [] pos) (tCB r t):=by
 intro pins s σ H Q I h;refine lz (rD I hg hm hv ?_ hn hdb);exact jd (thn (ha pos pins s σ H _ I h) fun us s1 ⟨vs,H1,I1,r1,q1⟩=>hc pins s1 σ H1 vs us Q I1 r1 q1) he hpl
end
end L2
namespace HT
open PySem PyProof.Rows
noncomputable def lexLt:List Int->List Int->Bool
 |[],[]=>false
 |[],_::_=>true
 |_::_,[]=>false
 |x::xs,y::ys=>if x=y then lexLt xs ys else decide (x<y)
theorem BJ (x y:Int) (xs ys:List Int):lexLt (x::xs) (y::ys)=if x=y then lexLt xs ys else decide (x<y):=rfl
theorem sT:lexLt [] []=false:=rfl
theorem pU (y:Int) (ys:List Int):lexLt [] (y::ys)=true:=rfl
theorem pV (x:Int) (xs:List Int):lexLt (x::xs) []=false:=rfl
theorem Hm (A:di) (s:am) (a:Int) (t:Tok) (c:Int) (u:Tok):∃ e,vd A s (.int a t) (.int c u) e/\(e=true↔a=c):=
 ⟨(a==c),SeqAt.EqAt.int_int a t c u,by simp⟩
theorem FN (A:di) (s:am) (a:Int) (t:Tok) (c:Int) (u:Tok) (prog:c9) (w:df) (E:ag->am->Prop) (Q:ag->am->Prop) (h:Q (.bool (decide (a<c))) s):
  ax (model prog w) A (richCompare .Lt (.int a t) (.int c u)) Q E s:=
 (vc h:ax (model prog w) A (fh .Lt (.int a t) (.int c u)) Q E s)
section
open PySem.SeqAt
open PySem.AutoSeq1 (wpAny_loadPart')
open PySem.MeetsSeq PySem.MeetsSeq2 PySem.MeetsSeq3
theorem sD (l b:af) (items items2:Array ag) (n n2:Nat) (dd dd2:Option af) (sl sl2:Array (Option ag)) (ns ms:List Int) (hi:j8 items.toList ns) (hj:j8 items2.toList ms):
  Meets (Builtin.«tuple.__lt__» ⟨[.ref l,.ref b],[]⟩)
   (fun _ R s=>s.heap.get? l=v9 { cls:=.type "tuple",dict:=dd,data:=.seq items n,slots:=sl }/\s.heap.get? b=v9 { cls:=.type "tuple",dict:=dd2,data:=.seq items2 n2,slots:=sl2 }/\
    R (.ok (.ret (.bool (lexLt ns ms)))) s):=
 .of_wp fun prog w A R s h=>by
  obtain⟨hp,g,d,tk,os⟩:=s;obtain⟨hl,hb,h⟩:=h;have f2:=AutoSeq1.sub_tuple_tuple;have z1:items.size=ns.length:=by rw[<- hi.length];simp
  have z2:items2.size=ms.length:=by rw[<- hj.length];simp
  wp_walk using wpAny_loadPart' hl,wpAny_loadPart' hb,p7 _ (fun rest b s'=>b.1=wb/\s'=⟨hp,g,d,tk,os⟩/\∃(vs ws:List ag) (ns' ms':List Int),rest=vs.zip ws/\
   j8 vs ns'/\j8 ws ms'/\ns'.length+items2.size=ms'.length+items.size/\R (.ok (.ret (.bool (lexLt ns' ms')))) ⟨hp,g,d,tk,os⟩) _
  case turn=>
   rintro⟨y,x⟩ rest b s' ⟨hb',rfl,vs,ws,ns',ms',hz,hvi,hwi,hlen,hR⟩
   cases hvi with
   |nil=>rw[List.zip_nil_left] at hz;cases hz
   |cons a t hvi'=>
    cases hwi with
    |nil=>rw[List.zip_nil_right] at hz;cases hz
    |cons c u hwi'=>
     rw[ub] at hz;injection hz with hyx hrest
     injection hyx with hy hx
     subst hy hx;rw[BJ] at hR;simp only[bw] at hlen;obtain⟨e,he,hiff⟩:=Hm A.in1 ⟨hp,g,d,tk,os⟩ a t c u;refine ae (he prog w _ _ ?_);cases e with
     |true=>
      rw[if_pos (hiff.mp rfl)] at hR
      wp_walk
      exact⟨rfl,rfl,_,_,_,_,hrest,hvi',hwi',by omega,hR⟩
     |false=>
      rw[if_neg (fun q=>absurd (hiff.mpr q) cq)] at hR;have hri:=FN A.in1 ⟨hp,g,d,tk,os⟩ a t c u prog w
      wp_walk using hri
      exact⟨_,rfl,by simpa using hR⟩
  case fin=>
   rintro⟨b1,b2⟩ s' ⟨hb',rfl,vs,ws,ns',ms',hz,hvi,hwi,hlen,hR⟩
   simp only at hb';subst hb';have hv:lexLt ns' ms'=decide (items.size<items2.size):=by
    cases hvi with
    |nil=>
     cases hwi with
     |nil=>
      simp only[iq] at hlen;rw[sT];exact(decide_eq_false (by omega)).symm
     |cons c u hw=>
      simp only[iq,bw] at hlen;rw[pU];exact(decide_eq_true (by omega)).symm
    |cons a t hv=>
     cases hwi with
     |nil=>
      simp only[iq,bw] at hlen;rw[pV];exact(decide_eq_false (by omega)).symm
     |cons c u hw=>
      rw[ub] at hz;cases hz
   rw[hv] at hR
   wp_walk
   exact⟨_,rfl,by simpa [Builtin.Tuple.tupleCompareSizes] using hR⟩
  case h=>
   exact⟨rfl,rfl,items.toList,items2.toList,ns,ms,rfl,hi,hj,by omega,h⟩
end
section
variable {prog:c9}{w:df}{A:di}{E:ag->am->Prop}{s:am}
theorem lt_tupInts (hl:IsTup s.heap l items) (hb:IsTup s.heap b items2) (hi:j8 items.toList ns) (hj:j8 items2.toList ms)
  (hu:A.units<dn) (h:Q (.bool (lexLt ns ms)) s):ax (model prog w) A (fh .Lt (.ref l) (.ref b)) Q E s:=by
 obtain⟨⟨cls,dd,data,sl⟩,ho,hc,n,hd⟩:=id hl;obtain⟨⟨cls2,dd2,data2,sl2⟩,ho2,hc2,n2,hd2⟩:=id hb;simp only at hc hd hc2 hd2;subst hc hd hc2 hd2;exact richCompare_meets_room (op:=.Lt) ⟨_,ho,rfl⟩ ⟨_,ho2,rfl⟩ PySem.F.slot_tuple_lt PySem.F.entry_tuple_lt (PySem.F.args_tuple_lt_2 _ _) (sD l b items items2 n n2 dd dd2 sl sl2 ns ms hi hj)
  ⟨ho,ho2,show si (lexLt ns ms)≠Value.notImplemented/\Q (.bool (lexLt ns ms)) s from⟨(fun x=>nomatch x),h⟩⟩ hu
noncomputable def sIx (n d:Nat):Option Int->Nat
 |none=>d
 |some v=>if v<0 then(v+(n:Int)).toNat else min v.toNat n
theorem sIx_nat (n d k:Nat):sIx n d (v9 (k:Int))=min k n:=by
 show(if(k:Int)<0 then((k:Int)+(n:Int)).toNat else min (k:Int).toNat n)=min k n
 rw[if_neg (by omega),fu]
theorem Lm (n d:Nat) (hd:d<=n) (o:Option Int):sIx n d o<=n:=by
 cases o with
 |none=>exact hd
 |some v=>
  show(if v<0 then(v+(n:Int)).toNat else min v.toNat n)<=n
  by_cases hv:v<0
  ·rw[if_pos hv];omega
  ·rw[if_neg hv];exact Nat.min_le_right _ _
theorem EU (v:Int) (n d:Nat):(if v<0 then max (v+(n:Int)) 0 else min v (n:Int))=((sIx n d (v9 v):Nat):Int):=by
 show(if v<0 then max (v+(n:Int)) 0 else min v (n:Int))=(((if v<0 then(v+(n:Int)).toNat else min v.toNat n):Nat):Int)
 by_cases hv:v<0
 ·simp only[if_pos hv];omega
 ·simp only[if_neg hv];omega
theorem Co (lo hi:Option Int) (n:Nat):ll lo hi 1 (n:Int)=(((sIx n 0 lo:Nat):Int),((sIx n n hi:Nat):Int)):=by
 have h1:¬((1:Int)<0):=by omega
 unfold ll;simp only[h1,if_false];refine Prod.ext ?_ ?_
 ·cases lo with
  |none=>rfl
  |some v=>exact EU v n 0
 ·cases hi with
  |none=>rfl
  |some v=>exact EU v n n
theorem BB (i j:Nat):jp (i:Int) (j:Int) 1=j-i:=by
 unfold jp;have h1:(1:Int)>0:=by omega
 simp only[h1,if_true,Int.ediv_one];split <;> omega
theorem qM (p:p8 v o) (h:Q o s):ax (model prog w) A (Builtin.Slice.slicePartIndex v) Q E s:=by
 cases p with
 |none=>exact slicePart_none h
 |int i t=>exact slicePart_int h
theorem mC {lo hi:Option Int}{Q:Int×Int×Nat->am->Prop} (hs:s.heap.IsSliceOf sl vl vu .none) (pl:p8 vl lo) (pu:p8 vu hi)
  (h:Q (((sIx n 0 lo:Nat):Int),1,sIx n n hi-sIx n 0 lo) s):ax (model prog w) A (o8 (.ref sl) (pure (n:Int))) Q E s:=by
 obtain⟨os,hos,hcs,hds⟩:=id hs;unfold o8 Builtin.Slice.sliceFields;refine ae (ae (qw hos hds (x:=vl) rfl (ae (qw hos hds (x:=vu) rfl (ae (qw hos hds (x:=.none) rfl (ak ?_)))))));refine ae (slicePart_none ?_);show ax _ _ (if((1:Int)==0)=true then _ else _) _ _ s;rw[if_neg (by decide)];refine ae (qM pl (ae (qM pu (ae (ak ?_)))));show ax _ _ (match ll lo hi 1 (n:Int) with|(lo,hi)=>pure (lo,(1:Int),jp lo hi 1)) _ _ s;rw[Co lo hi n];show ax _ _ (pure (((sIx n 0 lo:Nat):Int),(1:Int),jp ((sIx n 0 lo:Nat):Int) ((sIx n n hi:Nat):Int) 1)) _ _ s;rw[BB];exact ak h
theorem FW (xs:Array ag) (i k:Nat):((bz k).filterMap fun(m:Nat)=>xs[((i:Int)+(m:Int)*1).toNat]?).toArray=((xs.toList.drop i).take k).toArray:=by
 have e:(fun(m:Nat)=>xs[((i:Int)+(m:Int)*1).toNat]?)=fun m=>xs[i+m]?:=by
  funext m
  have:((i:Int)+(m:Int)*1).toNat=i+m:=by omega
  rw[this]
 rw[e]
 have:=pick_run xs i k
 rw[List.filterMap_map] at this;have e2:((fun x=>xs[x]?)∘fun x=>i+x)=fun m=>xs[i+m]?:=rfl;rw[e2] at this;rw[this]
theorem getItem_tuple_cut {lo hi:Option Int} (ht:IsTup s.heap t items) (hs:s.heap.IsSliceOf sl vl vu .none) (pl:p8 vl lo) (pu:p8 vu hi)
  (hw:¬(sIx items.size 0 lo=0/\sIx items.size items.size hi=items.size))
  (h:Q (.ref s.heap.objs.size) { s with heap:=s.heap.push { cls:=.type "tuple",data:=.seq ((items.toList.drop (sIx items.size 0 lo)).take (sIx items.size items.size hi-sIx items.size 0 lo)).toArray } })
  (hsz:items.size<=sizeLine):ax (model prog w) A (ol (.ref t) (.ref sl)) Q E s:=by
 have htake:sizeOk (.seq ((items.toList.drop (sIx items.size 0 lo)).take (sIx items.size items.size hi-sIx items.size 0 lo)).toArray):=by
  show((items.toList.drop (sIx items.size 0 lo)).take (sIx items.size items.size hi-sIx items.size 0 lo)).toArray.size<=sizeLine
  rw[bc,m8,u3,dr];omega
 have hj:sIx items.size items.size hi<=items.size:=Lm _ _ (bp _) hi;obtain⟨os,hos,hcs,hds⟩:=id hs;have hTs:s.TypeIs (.ref sl) "slice":=⟨os,hos,hcs⟩;unfold ol
 try with_reducible refine ig ?_
 first|refine ae (ak ?_)|skip
 refine ae (wpAny_sequenceKey ht.typeIs (by decide) ?_);refine ae (i7 (name:=jl "__getitem__") ht.typeIs i8
  (g9 i8 ht.typeIs entry_tuple_getitem ?_ (args_tuple_getitem _ _)))
 show ax _ _ (Builtin.Tuple.tupleItemsOf (.ref t) >>= _) _ _ s;refine ae (tupleItemsOf_ ht ?_);refine ae (wpAny_typeOf hTs ?_);rw[if_pos (by decide)];refine ae (mC hs pl pu ?_);have hno:¬((((sIx items.size 0 lo:Nat):Int)==0&&(1:Int)==1&&(sIx items.size items.size hi-sIx items.size 0 lo)==items.size)=true):=by
  intro q;rw[bt,bt] at q;have q1:((sIx items.size 0 lo:Nat):Int)=0:=eq_of_beq q.1.1;have q2:sIx items.size items.size hi-sIx items.size 0 lo=items.size:=eq_of_beq q.2;exact hw ⟨by omega,by omega⟩
 show ax _ _ (if(((sIx items.size 0 lo:Nat):Int)==0&&(1:Int)==1&&(sIx items.size items.size hi-sIx items.size 0 lo)==items.size)=true then _ else _) _ _ s;rw[if_neg hno,FW]
 first
  |exact ae (m:=jx _) (dy (ak ⟨_,rfl,ak h⟩) htake)
  |exact ae (m:=jx _) (dy (ae (ak (ak ⟨_,rfl,ak h⟩))) htake)
  |exact ae (ae (m:=jx _) (dy (ak (ak ⟨_,rfl,ak h⟩)) htake))
  |exact ae (ae (m:=jx _) (dy (ak ⟨_,rfl,ak h⟩) htake))
end
end HT
namespace L2
noncomputable abbrev TO:=St->Hp->(Option Int->Hp->Prop)->Prop
noncomputable def PO (X:Cx) (e:Option bx) (t:TO):Prop:=
 ∀(pins:List (af×Obj)) (s:am) (σ:St) (H:Hp) (Q:Option Int->Hp->Prop),Inv X pins σ H s->t σ H Q->
  ax (model X.prog X.w) X.A (evalPart e X.env) (fun u s'=>∃ o H',Inv X pins σ H' s'/\p8 u o/\Q o H') X.xe s
noncomputable def Iw:TO:=fun _ H Q=>Q wb H
noncomputable def NP (t:TE):TO:=fun σ H Q=>t σ H fun x H1=>∃ i,x=.int i/\Q (v9 i) H1
theorem BU:∀ {us:List ag},Vals (ns.map V.int) us->j8 us ns:=by
 induction ns with
 |nil=>intro us r;rw[l7] at r;cases r;exact .nil
 |cons n ns ih=>
  intro us r;rw[bq] at r;cases r with
  |cons r1 r2=>
   obtain⟨t,e⟩:=r1;subst e;exact .cons n t (ih r2)
section
variable {X:Cx}{e:bx}{te:TE}{lo hi:Option bx}{tl th:TO}{pos p2:Pos}
theorem IS:PO X wb Iw:=by
 intro pins s σ H Q I h;rw[evalPart_none];exact ak ⟨wb,H,I,.none,h⟩
theorem IR (h:PE X e te):PO X (v9 e) (NP te):=by
 intro pins s σ H Q I hw;rw[evalPart_some];refine thn (h pins s σ H _ I hw) fun u s1 ⟨x,H1,I1,r1,q1⟩=> ?_;obtain⟨i,rfl,q⟩:=q1;obtain⟨t,rfl⟩:=r1;exact⟨v9 i,H1,I1,.int i t,q⟩
noncomputable def SlR (X:Cx) (r:V->Option Int->Option Int->Hp->VK->Prop):Prop:=
 ∀(pins:List (af×Obj)) (s:am) (σ:St) (H:Hp) (x:V) (v vl vu:ag) (lo hi:Option Int) (sl:af) (Q:VK),Inv X pins σ H s->RelV x v->s.heap.IsSliceOf sl vl vu .none->p8 vl lo->p8 vu hi->r x lo hi H Q->
  ∃ T id,sj (.type T) "__getitem__"=pure (v9 (.builtin id))/\s.TypeIs v T/\ax (model X.prog X.w) X.A (ol v (.ref sl)) (EP X pins σ Q) X.xe s
theorem SlR.or (h:SlR X r) (h':SlR X r'):SlR X (fun x lo hi H Q=>r x lo hi H Q∨r' x lo hi H Q):=by
 intro pins s σ H x v vl vu lo hi sl Q I rx hs pl pu q;rcases q with q|q
 ·exact h pins s σ H x v vl vu lo hi sl Q I rx hs pl pu q
 ·exact h' pins s σ H x v vl vu lo hi sl Q I rx hs pl pu q
noncomputable def tSl (r:V->Option Int->Option Int->Hp->VK->Prop) (te:TE) (tl th:TO):TE:=fun σ H Q=>te σ H fun x H1=>tl σ H1 fun l H2=>th σ H2 fun u H3=>r x l u H3 Q
theorem FX (hr:SlR X r) (he:PE X e te) (hl:PO X lo tl) (hu:PO X hi th):PE X (.Subscript e (.Slice lo hi wb p2) pos) (tSl r te tl th):=by
 intro pins s σ H Q I h;refine Subscript_ (thn (he pins s σ H _ I h) fun v s1 ⟨x,H1,I1,r1,q1⟩=> ?_);refine wpAny_Slice (thn (hl pins s1 σ H1 _ I1 q1) fun vl s2 ⟨l,H2,I2,pl,q2⟩=>thn (hu pins s2 σ H2 _ I2 q2) fun vu s3 ⟨u,H3,I3,pu,q3⟩=> ?_);rw[evalPart_none];refine ak ?_;have I4:Inv X pins σ H3 { s3 with heap:=s3.heap.push { cls:=.type "slice",data:=.fields #[vl,vu,.none] } }:=I3.kept (t':=s3.toks) fun b ob q=>ay _ q;obtain⟨T,id,hT,ht,hg⟩:=hr pins { s3 with heap:=s3.heap.push { cls:=.type "slice",data:=.fields #[vl,vu,.none] } } σ H3 x v vl vu l u s3.heap.objs.size Q I4 r1 (Heap.IsSliceOf.new ..) pl pu q3;show ax (model X.prog X.w) X.A (s0 e (.Slice lo hi wb p2) v (.ref s3.heap.objs.size)) (EP X pins σ Q) X.xe { s3 with heap:=s3.heap.push { cls:=.type "slice",data:=.fields #[vl,vu,.none] } };exact tail_any (ops:=[.ref s3.heap.objs.size,v]) ht hT hg (by with_unfolding_all rfl)
noncomputable def Ip (xs:List V) (lo hi:Option Int):List V:=(xs.drop (HT.sIx xs.length 0 lo)).take (HT.sIx xs.length xs.length hi-HT.sIx xs.length 0 lo)
theorem oY (xs:List V) (lo hi:Option Int):(Ip xs lo hi).length<=xs.length:=by
 unfold Ip;rw[m8,u3];omega
noncomputable def Qh (K:aa):V->Option Int->Option Int->Hp->VK->Prop:=fun x lo hi H Q=>∃ a xs,x=.ref a/\SqT K H a xs/\
 ¬(HT.sIx xs.length 0 lo=0/\HT.sIx xs.length xs.length hi=xs.length)/\∀ p,H p=wb->Q (.ref p) (upd H p (.tup (Ip xs lo hi)))
theorem Lj:SlR X (Qh X.K):=by
 intro pins s σ H x v vl vu lo hi sl Q I rx hs pl pu h;obtain⟨a,xs,rfl,hx,hw,q⟩:=h;cases rx;obtain⟨its,r,ht,hz⟩:=I.tuple hx;have hlen:its.toArray.size=xs.length:=by rw[bc];exact r.length.symm
 refine⟨"tuple",_,i8.lookup,ht.typeIs,?_⟩;refine HT.getItem_tuple_cut ht hs pl pu (by rw[hlen];exact hw) ?_ (by rw[hlen];exact hz);rw[hlen];refine⟨.ref s.heap.objs.size,_,I.laid (t':=s.toks) (o:=.tup (Ip xs lo hi)) (fun b ob q=>ay _ q) (bp _) ?_,rfl,q _ (I.hok.fresh (bp _))⟩;exact⟨ci (oY xs lo hi) hz,_,(r.drop (HT.sIx xs.length 0 lo)).take (HT.sIx xs.length xs.length hi-HT.sIx xs.length 0 lo),IsTup.new _ _⟩
end
end L2
namespace L2
noncomputable def ixN (n:Nat) (i:Int):Option Nat:=if 0<=i then(if i<n then v9 i.toNat else wb) else if -(n:Int)<=i then v9 (i+n).toNat else wb
noncomputable def atI {α:Type} (xs:List α) (i:Int):Option α:=(ixN xs.length i).bind fun j=>xs[j]?
theorem DW (h:ixN n i=v9 j):seqIndex? i n=v9 j/\j<n/\ -(n:Int)<=i/\i<n:=by
 unfold ixN at h
 by_cases h0:0<=i
 ·rw[if_pos h0] at h
  by_cases h1:i<n
  ·rw[if_pos h1] at h;have e:i.toNat=j:=b8 h;exact⟨by rw[uz h0 h1,e],by omega,by omega,h1⟩
  ·rw[if_neg h1] at h;cases h
 ·rw[if_neg h0] at h
  by_cases h1: -(n:Int)<=i
  ·rw[if_pos h1] at h;have e:(i+n).toNat=j:=b8 h;exact⟨by rw[uc (by omega) h1,e],by omega,h1,by omega⟩
  ·rw[if_neg h1] at h;cases h
theorem zL {v:α} (h:atI xs i=v9 v):∃ j,seqIndex? i xs.length=v9 j/\xs[j]?=v9 v/\j<xs.length/\ -(xs.length:Int)<=i/\i<xs.length:=by
 unfold atI at h;cases e:ixN xs.length i with
 |none=>rw[e] at h;cases h
 |some j=>
  rw[e] at h;obtain⟨h1,h2,h3,h4⟩:=DW e;exact⟨j,h1,h,h2,h3,h4⟩
noncomputable def Fk (b:bx):Prop:=∀ o i,subscripted b false o i=operate [o,i] (ol o i)
noncomputable def IxR (X:Cx) (r:R2):Prop:=
 ∀(value slice:bx) (pins:List (af×Obj)) (s:am) (σ:St) (H:Hp) (x y:V) (v u:ag) (Q:VK),Inv X pins σ H s->RelV x v->RelV y u->r x y H Q->
  subscripted slice false v u=operate [v,u] (ol v u)->ax (model X.prog X.w) X.A (s0 value slice v u) (EP X pins σ Q) X.xe s
noncomputable def MtR (X:Cx) (id:String) (r:V->List V->Hp->VK->Prop):Prop:=
 ∀(pins:List (af×Obj)) (s:am) (σ:St) (H:Hp) (x:V) (xs:List V) (v:ag) (us:List ag) (Q:VK),Inv X pins σ H s->RelV x v->Vals xs us->r x xs H Q->
  ax (model X.prog X.w) X.A (call (.builtin id) (v::us)) (EP X pins σ Q) X.xe s
section
variable {X:Cx}{a b:bx}{ta tb:TE}{pos:Pos}
theorem IxR.or (h:IxR X r) (h':IxR X r'):IxR X (fun x y H Q=>r x y H Q∨r' x y H Q):=by
 intro value slice pins s σ H x y v u Q I rx ry q hs;rcases q with q|q
 ·exact h value slice pins s σ H x y v u Q I rx ry q hs
 ·exact h' value slice pins s σ H x y v u Q I rx ry q hs
theorem On (hr:IxR X r) (ha:PE X a ta) (hb:PE X b tb) (hs:Fk b):PE X (.Subscript a b pos) (tOp r ta tb):=by
 intro pins s σ H Q I h;exact Subscript_ (Pf ha hb I h fun v u s2 x y H2 I2 rx ry q=>hr a b pins s2 σ H2 x y v u Q I2 rx ry q (hs _ _))
noncomputable def PB (K:aa):R2:=fun x y H Q=>∃ p xs i v,x=.ref p/\y=.int i/\SqL K H p xs/\atI xs i=v9 v/\Q v H
noncomputable def Py (K:aa):R2:=fun x y H Q=>∃ p xs i v,x=.ref p/\y=.int i/\SqT K H p xs/\atI xs i=v9 v/\Q v H
noncomputable def Pz:R2:=fun x y H Q=>∃ z i c,x=.str z/\y=.int i/\z.length<=sizeLine/\atI z.cps.toList i=v9 c/\Q (.str ⟨#[c]⟩) H
theorem ix_list:IxR X (PB X.K):=by
 intro value slice pins s σ H x y v u Q I rx ry h hs;obtain⟨p,xs,i,z,rfl,rfl,hq,he,q⟩:=h;cases rx;obtain⟨t,rfl⟩:=ry;obtain⟨its,r,pl,hz⟩:=I.list hq;obtain⟨j,h1,h2,h3,h4,h5⟩:=zL he;obtain⟨w,ew,rw'⟩:=r.get h2;have hl:=r.length;have hn:=rB;have fin:EP X pins σ Q w s:=⟨z,H,I,rw',q⟩
 by_cases h0:0<=i
 ·have hj:i.toNat=j:=by
   rw[uz h0 h5] at h1;exact b8 h1
  exact item_listR pl.isList h0 (by omega) (by rw[hj];simpa using ew) fin hs
 ·have hj:(i+(its.toArray.size:Int)).toNat=j:=by
   rw[uc (by omega) h4] at h1;rw[bc,<- hl];exact b8 h1
  exact qx (x:=w) pl.isList.typeIs slot_list_getitem.lookup
   (wpAny_getItem_list_neg (Q:=fun r s'=>r=w/\EP X pins σ Q r s') pl.isList (by omega) (by rw[bc] <;> omega) (by omega) (by rw[hj];simpa using ew) ⟨rfl,fin⟩) hs
theorem ix_tup:IxR X (Py X.K):=by
 intro value slice pins s σ H x y v u Q I rx ry h hs;obtain⟨p,xs,i,z,rfl,rfl,hq,he,q⟩:=h;cases rx;obtain⟨t,rfl⟩:=ry;obtain⟨its,r,pl,hz⟩:=I.tuple hq;obtain⟨j,h1,h2,h3,h4,h5⟩:=zL he;obtain⟨w,ew,rw'⟩:=r.get h2;have hl:=r.length;have hn:=rB;have fin:EP X pins σ Q w s:=⟨z,H,I,rw',q⟩;exact qx (x:=w) pl.typeIs i8.lookup
  (getItem_tuple (j:=j) (Q:=fun r s'=>r=w/\EP X pins σ Q r s') pl (by omega) (by omega) (by rw[bc,<- hl];exact h1) (by simpa using ew) ⟨rfl,fin⟩) hs
theorem MU:IxR X Pz:=by
 intro value slice pins s σ H x y v u Q I rx ry h hs;obtain⟨z,i,c,rfl,rfl,hz,he,q⟩:=h;obtain⟨t,rfl⟩:=rx;obtain⟨t',rfl⟩:=ry;obtain⟨j,h1,h2,h3,h4,h5⟩:=zL he;have hl:z.cps.toList.length=z.length:=by simp[Str.length]
 rw[hl] at h1 h4 h5;have hn:=rB;exact tail_any (typeIs_str s z t) slot_str_getitem.lookup (getItem_str (c:=c) (by
  have e1:decide (i< -(2 ^ 63:Int))=false:=decide_eq_false (by omega);have e2:decide (i≥2 ^ 63)=false:=decide_eq_false (by omega);rw[e1,e2,Bool.or_false]) (by rw[h1];simpa using h2) ⟨.str ⟨#[c]⟩,H,I.tok _,⟨_,rfl⟩,q⟩) hs
noncomputable def rIx (K:aa):R2:=fun x y H Q=>PB K x y H Q∨Py K x y H Q∨Pz x y H Q
theorem MV:IxR X (rIx X.K):=ix_list.or (ix_tup.or MU)
theorem BG (its:List ag) (n j:Nat) (u:ag):ka (·.setIfInBounds j u) { cls:=.type "list",data:=.seq its.toArray n }={ cls:=.type "list",data:=.seq (its.set j u).toArray n }:=by
 simp[ka]
theorem Inv.lst (I:Inv X pins σ H s) (h:H p=v9 (.lst xs)):
  ∃(its:List ag) (n:Nat),Vals xs its/\s.heap.get? p=v9 { cls:=.type "list",data:=.seq its.toArray n }/\xs.length<=sizeLine:=by
 obtain⟨z,its,n,r,e⟩:=I.hok p _ h;exact⟨its,n,r,e,z⟩
theorem Inv.lstUpd {its its':List ag} (I:Inv X pins σ H s) (h:H p=v9 (.lst xs))
  (ho:s.heap.get? p=v9 { cls:=.type "list",data:=.seq its.toArray n }) (hf:f { cls:=.type "list",data:=.seq its.toArray n }={ cls:=.type "list",data:=.seq its'.toArray n' }) (r:Vals ys its') (hz:ys.length<=sizeLine) (t:Nat):
  Inv X pins σ (upd H p (.lst ys)) { s with heap:=s.heap.update p f,toks:=t }:=by
 have e:(s.heap.update p f).get? p=v9 { cls:=.type "list",data:=.seq its'.toArray n' }:=by
  rw[fz f ho (by rw[hf] <;> rfl),hf]
 refine I.write (x:=p) (e:=p) (by rw[h];trivial) (.inl rfl) (fun b u hb q=>(d4 _ _ (c5 hb)).trans q) ⟨_,e⟩ ?_;exact⟨hz,its',n',r,e⟩
noncomputable def Od:V->V->V->Hp->(Hp->Prop)->Prop:=fun o i v H Q=>∃ p xs k j,o=.ref p/\i=.int k/\H p=v9 (.lst xs)/\ixN xs.length k=v9 j/\Q (upd H p (.lst (xs.set j v)))
theorem FA:PP X Od:=by
 intro pins s σ H o i v ov iv u Q I ro ri rv h;obtain⟨p,xs,k,j,rfl,rfl,hp,hj,q⟩:=h;cases ro;obtain⟨t,rfl⟩:=ri;obtain⟨its,n,r,ho,hz⟩:=I.lst hp;obtain⟨h1,h2,h3,h4⟩:=DW hj;have hl:=r.length;have hn:=rB;have I':Inv X pins σ (upd H p (.lst (xs.set j v))) { s with heap:=s.heap.update p (ka (·.setIfInBounds j u)) }:=
  I.lstUpd hp ho (BG its n j u) (r.set rv j) (by rw[c6];exact hz) s.toks
 by_cases h0:0<=k
 ·have hk:k.toNat=j:=by
   rw[uz h0 h4] at h1;exact b8 h1
  exact PySem.W.ki_setAt ho h0 (by omega) (by rw[bc,<- hl];exact h4) (by rw[hk];exact⟨_,I',q⟩)
 ·have hk:(k+(its.toArray.size:Int)).toNat=j:=by
   rw[uc (by omega) h3] at h1;rw[bc,<- hl];exact b8 h1
  exact PySem.W.ki_setBack ho (by omega) (by rw[bc,<- hl];exact h3) (by omega) (by rw[hk];exact⟨_,I',q⟩)
theorem uV (lo hi:Option Int) (n:Nat):(k8 lo hi wb n).1=((HT.sIx n 0 lo:Nat):Int)/\(k8 lo hi wb n).2.1=((HT.sIx n n hi:Nat):Int)/\(k8 lo hi wb n).2.2=1:=by
 refine⟨?_,?_,rfl⟩
 ·cases lo with
  |none=>simp[k8,HT.sIx]
  |some i=>
   simp only[k8,HT.sIx,u5,show(1:Int)>0 by decide,if_true]
   by_cases h:i<0
   ·simp only[h,if_true] <;> omega
   ·simp only[h,if_false] <;> omega
 ·cases hi with
  |none=>simp[k8,HT.sIx]
  |some i=>
   simp only[k8,HT.sIx,u5,show(1:Int)>0 by decide,if_true]
   by_cases h:i<0
   ·simp only[h,if_true] <;> omega
   ·simp only[h,if_false] <;> omega
theorem sG (its:List ag) (lo hi:Option Int):slicePick its.toArray lo hi wb=((its.drop (HT.sIx its.length 0 lo)).take (HT.sIx its.length its.length hi-HT.sIx its.length 0 lo)).toArray:=by
 obtain⟨h1,h2,h3⟩:=uV lo hi its.toArray.size;unfold slicePick;rw[h1,h2,h3];simp only[sliceRange_one,pick_run,bc] <;> rfl
noncomputable def Qi (K:aa):V->Option Int->Option Int->Hp->VK->Prop:=fun x lo hi H Q=>∃ a xs,x=.ref a/\SqL K H a xs/\∀ p,H p=wb->Q (.ref p) (upd H p (.lst (Ip xs lo hi)))
theorem sl_list:SlR X (Qi X.K):=by
 intro pins s σ H x v vl vu lo hi sl Q I rx hs pl pu h;obtain⟨a,xs,rfl,hx,q⟩:=h;cases rx;obtain⟨its,r,ht,hz⟩:=I.list hx;have hlen:=r.length;refine⟨"list",_,slot_list_getitem.lookup,ht.isList.typeIs,?_⟩;refine wpAny_getItem_list_slice ht.isList hs pl pu .none (by simp) ?_ (by rw[bc] <;> omega);rw[sG,<- hlen];refine⟨.ref s.heap.objs.size,_,I.laid (t':=s.toks) (o:=.lst (Ip xs lo hi)) (fun b ob q=>ay _ q) (bp _) ?_,rfl,q _ (I.hok.fresh (bp _))⟩;exact⟨ci (oY xs lo hi) hz,_,0,(r.drop (HT.sIx xs.length 0 lo)).take (HT.sIx xs.length xs.length hi-HT.sIx xs.length 0 lo),b0 _ rfl⟩
theorem CallR.or (h:CallR X f r) (h':CallR X f r'):CallR X f (fun xs H Q=>r xs H Q∨r' xs H Q):=by
 intro pins s σ H xs us Q I rs q;rcases q with q|q
 ·exact h pins s σ H xs us Q I rs q
 ·exact h' pins s σ H xs us Q I rs q
theorem wT:CallR X (.type "list") (fun xs H Q=>∃ p ys,xs=[.ref p]/\(SqL X.K H p ys∨SqT X.K H p ys)/\∀ l,H l=wb->Q (.ref l) (upd H l (.lst ys))):=by
 intro pins s σ H xs us Q I r h;obtain⟨p,ys,rfl,hq,q⟩:=h;obtain⟨u,rfl,rx⟩:=lG r;cases rx;have fin:∀(its:List ag),Vals ys its->ys.length<=sizeLine->∀(h':cz) (c':Nat),(∀ b o',s.heap.get? b=v9 o'->h'.get? b=v9 o')->
   h'.get? s.heap.objs.size=v9 { cls:=.type "list",dict:=wb,data:=.seq its.toArray c',slots:= #[] }->EP X pins σ Q (.ref s.heap.objs.size) { s with heap:=h' }:=fun its r' hz h' c' kp e=>
  ⟨.ref s.heap.objs.size,_,I.laid (t':=s.toks) kp (bp _) (show ObjOk X.prog X.w _ h' _ (.lst ys) from⟨hz,its,c',r',e⟩),rfl,q _ (I.hok.fresh (bp _))⟩
 rcases hq with hq|hq
 ·obtain⟨its,r',pl,hz⟩:=I.list hq;have hlen:=r'.length;obtain⟨o,ho,hc,n,hd⟩:=pl.isList;exact call_list_seq p (.inl rfl) ho hc hd (fun h' c' kp e=>fin its r' hz h' c' kp e) (by simp only[bc] <;> omega)
 ·obtain⟨its,r',pl,hz⟩:=I.tuple hq;have hlen:=r'.length;obtain⟨o,ho,hc,n,hd⟩:=pl;exact call_list_seq p (.inr rfl) ho hc hd (fun h' c' kp e=>fin its r' hz h' c' kp e) (by simp only[bc] <;> omega)
theorem tT:CallR X (.type "tuple") (fun xs H Q=>∃ p ys,xs=[.ref p]/\((SqL X.K H p ys/\∀ l,H l=wb->Q (.ref l) (upd H l (.tup ys)))∨(SqT X.K H p ys/\Q (.ref p) H))):=by
 intro pins s σ H xs us Q I r h;obtain⟨p,ys,rfl,h⟩:=h;obtain⟨u,rfl,rx⟩:=lG r;cases rx;rcases h with⟨hq,q⟩|⟨hq,q⟩
 ·obtain⟨its,r',pl,hz⟩:=I.list hq;have hlen:=r'.length;refine call_tuple_list pl.isList (fun h' kp=> ?_) (by simp only[bc] <;> omega);have I1:Inv X pins σ H { s with heap:=h' }:=I.kept (t':=s.toks) kp;have I2:Inv X pins σ (upd H h'.objs.size (.tup ys)) { s with heap:=h'.push { cls:=.type "tuple",data:=.seq its.toArray } }:=
   I1.laid (t':=s.toks) (fun b o e=>ay _ e) (bp _) (show ObjOk X.prog X.w _ _ _ (.tup ys) from⟨hz,its,r',IsTup.new _ _⟩)
  exact⟨.ref h'.objs.size,_,I2,rfl,q _ (I1.hok.fresh (bp _))⟩
 ·obtain⟨its,r',pl,hz⟩:=I.tuple hq;exact call_tuple_same pl ⟨.ref p,H,I,rfl,q⟩
noncomputable def tyV (K:aa) (T:String) (x:V) (H:Hp):Prop:=match x with
 |.str _=>T="str"
 |.int _=>T="int"
 |.ref p=>(T="list"/\∃ xs,SqL K H p xs)∨(T="tuple"/\∃ o,K.lookup p=v9 o/\o.cls=.type "tuple"/\o.dict=wb)∨
   (T="dict"/\((∃ kvs,H p=v9 (.dK kvs))∨∃ kvs,H p=v9 (.dT kvs)))∨(T="set"/\∃ S n,H p=v9 (.set S n))
 |_=>False
theorem HL (I:Inv X pins σ H s) (r:RelV x v) (ty:tyV X.K T x H):
  s.TypeIs v T/\∀ a,v=.ref a->∃ ob,s.heap.get? a=v9 ob/\ob.dict=wb:=by
 cases x with
 |str z=>
  obtain⟨t,rfl⟩:=r;cases (show T="str" from ty);exact⟨typeIs_str s z t,fun _ e=>nomatch e⟩
 |int i=>
  obtain⟨t,rfl⟩:=r;cases (show T="int" from ty);exact⟨typeIs_int s i t,fun _ e=>nomatch e⟩
 |ref p=>
  cases r;rcases ty with⟨rfl,xs,hq⟩|⟨rfl,o,hk,hc,hd⟩|⟨rfl,hk⟩|⟨rfl,S,n,hk⟩
  ·obtain⟨its,_,pl,_⟩:=I.list hq;refine⟨pl.isList.typeIs,fun a e=> ?_⟩;cases e;obtain⟨o,n,e,c,hd,_⟩:=pl;exact⟨o,e,hd⟩
  ·refine⟨⟨o,I.kIn p o hk,hc⟩,fun a e=> ?_⟩;cases e;exact⟨o,I.kIn _ o hk,hd⟩
  ·have z:∃ o,s.heap.get? p=v9 o/\o.ExactDict:=by
    rcases hk with⟨kvs,hk⟩|⟨kvs,hk⟩
    ·obtain⟨_,_,_,_,o,_,_,e,ex,_⟩:=I.hok p _ hk;exact⟨o,e,ex⟩
    ·obtain⟨_,_,_,_,o,_,_,e,ex,_⟩:=I.hok p _ hk;exact⟨o,e,ex⟩
   obtain⟨o,e,ex⟩:=z;refine⟨⟨o,e,ex.1⟩,fun a e2=> ?_⟩;cases e2;exact⟨o,e,ex.2.1⟩
  ·obtain⟨o,_,_,_,e,ex,_⟩:=I.hok p _ hk;refine⟨⟨o,e,ex.1⟩,fun a e2=> ?_⟩;cases e2;exact⟨o,e,ex.2.1⟩
 |_=>exact ii ty
noncomputable def Qe (K:aa) (T:String) (r:V->List V->Hp->VK->Prop) (to:TE):TE:=fun σ H Q=>to σ H fun x H1=>tyV K T x H1/\r x [] H1 Q
noncomputable def tBM (K:aa) (T:String) (r:V->List V->Hp->VK->Prop) (to:TE) (t:TA):TE:=fun σ H Q=>to σ H fun x H1=>tyV K T x H1/\t σ H1 fun xs H2=>r x xs H2 Q
variable {o e:bx}{es:List bx}{to:TE}{t:TA}{name:Str}{apos cpos:Pos}{T id:String}{r:V->List V->Hp->VK->Prop}
theorem LQ (pa:PlainAttrs T) (slot:Slot T name id) (hty:typeOf (.builtin id)=pure (.type "method_descriptor")) (hm:MtR X id r) (ho:PE X o to)
  (hbase:hV o name X.env (eval o X.env)=eval o X.env:=by rfl) (hline:(apos.endLine==cpos.line)=true:=by rfl):PE X (.Call (.Attribute o name apos) [] [] cpos) (Qe X.K T r to):=by
 intro pins s σ H Q I h;refine wpAny_Call_method0_late hbase hline (thn (ho pins s σ H _ I h) fun v s1 ⟨x,H1,I1,r1,ty,q1⟩=> ?_);obtain⟨h1,h2⟩:=HL I1 r1 ty;exact⟨T,id,pa,slot,hty,h1,h2,qy rfl (PySem.evalArgs_none (hm pins s1 σ H1 x [] v [] Q I1 r1 .nil q1))⟩
theorem LR (pa:PlainAttrs T) (slot:Slot T name id) (hty:typeOf (.builtin id)=pure (.type "method_descriptor")) (hm:MtR X id r) (ho:PE X o to) (ha:PA X (e::es) t)
  (hbase:hV o name X.env (eval o X.env)=eval o X.env:=by rfl)
  (hfew:((de cpos (aq (e::es) X.env)).all (fun x=> !x.1)&&(jw cpos (ib [] X.env)).all (fun x=>x.1.isSome)
   &&decide ((e::es).length+([]:List j7).length+(if([]:List j7).isEmpty then 0 else 1)<30))=true:=by rfl)
  (hline:(apos.endLine==cpos.line)=true:=by rfl) (hs:aq (e::es) X.env=(false,eval e X.env)::aq es X.env:=by rfl) (hplain:(de cpos (aq es X.env)).any (·.1)=false:=by rfl):
  PE X (.Call (.Attribute o name apos) (e::es) [] cpos) (tBM X.K T r to t):=by
 intro pins s σ H Q I h;refine wpAny_Call_method_late hbase hfew hline rfl (thn (ho pins s σ H _ I h) fun v s1 ⟨x,H1,I1,r1,ty,q1⟩=> ?_);obtain⟨h1,h2⟩:=HL I1 r1 ty;refine⟨T,id,pa,slot,hty,h1,h2,?_⟩;have hA:=ha cpos pins s1 σ H1 _ I1 q1;rw[hs] at hA ⊢;refine qy (by show(false||(de cpos (aq es X.env)).any (·.1))=false;rw[hplain] <;> rfl) (ss ?_);exact thn hA fun us s2 ⟨vs,H2,I2,r2,q2⟩=>hm pins s2 σ H2 x vs v us Q I2 r1 r2 q2
end
end L2
namespace L2
noncomputable def MtM (X:Cx) (id:String) (r:V->List V->Hp->VK->Prop):Prop:=
 ∀(pins:List (af×Obj)) (s:am) (σ:St) (H:Hp) (x:V) (xs:List V) (v:ag) (us:List ag) (Q:VK),Inv X pins σ H s->RelV x v->Vals xs us->r x xs H Q->
  ax (model X.prog X.w) X.A (call (.builtin id) (v::us)) (EP X pins σ Q) X.xe s
theorem Vals.one:∀ {x:V}{us:List ag},Vals [x] us->∃ u,us=[u]/\RelV x u
 |_,_,.cons r .nil=>⟨_,rfl,r⟩
theorem Vals.rep (h:Vals xs us):∀ k:Nat,Vals (aw k xs).flatten (aw k us).flatten
 |0=>.nil
 |k+1=>by
  rw[d6,d6,iu,iu];exact Vals.append h (Vals.rep h k)
theorem wC (its:List ag):∀(k:Nat) (acc:List ag),
  ve (fun x1 x2=>x1++x2) acc.toArray (aw k its.toArray)=(acc++(aw k its).flatten).toArray
 |0,acc=>by simp
 |k+1,acc=>by
  have e:acc.toArray++its.toArray=(acc++its).toArray:=by simp
  have e2:(acc++its)++(aw k its).flatten=acc++(aw (k+1) its).flatten:=by
   rw[d6,iu,d8]
  rw[<- e2,<- wC its k (acc++its),<- e,d6,vf]
section
variable {X:Cx}{pins:List (af×Obj)}{σ:St}{H:Hp}{s:am}{l b:af}{xs ys zs:List V}
theorem Inv.lset {its its':List ag} (I:Inv X pins σ H s) (hH:H l=v9 (.lst xs))
  (e:s.heap.get? l=v9 { cls:=.type "list",data:=.seq its.toArray n }) (hf:f its.toArray=its'.toArray) (hv:Vals ys its') (hz:ys.length<=sizeLine):
  Inv X pins σ (upd H l (.lst ys)) { s with heap:=s.heap.update l (ka f),toks:=t' }:=by
 have q:=PySem.IsL.update e f;rw[hf] at q;refine I.write (x:=l) (e:=l) (by rw[hH];exact trivial) (.inl rfl) (fun b' u hb hu=>(d4 s.heap (ka f) (c5 hb)).trans hu) ⟨_,q⟩ ?_;exact⟨hz,its',_,hv,q⟩
theorem Inv.lnew (I:Inv X pins σ H s) (hv:Vals ys its) (hz:ys.length<=sizeLine):
  Inv X pins σ (upd H s.heap.objs.size (.lst ys)) { s with heap:=s.heap.push { cls:=.type "list",data:=.seq its.toArray },toks:=t' }:=
 I.laid (fun _ _ q=>ay _ q) (bp _) ⟨hz,its,0,hv,b0 _ rfl⟩
theorem Inv.fresh (I:Inv X pins σ H s):H s.heap.objs.size=wb:=I.hok.fresh (bp _)
theorem Inv.lstM (I:Inv X pins σ H s) (hH:H l=v9 (.lst xs)):xs.length<=sizeLine/\∃(its:List ag) (n:Nat),Vals xs its/\xs.length=its.length/\s.heap.get? l=v9 { cls:=.type "list",data:=.seq its.toArray n }:=by
 obtain⟨z,its,n,r,e⟩:=I.hok l _ hH;exact⟨z,its,n,r,r.length,e⟩
theorem Gp (h:n<=sizeLine):l8 n=false:=by
 unfold l8;exact decide_eq_false (by omega)
end
section
variable {X:Cx}
noncomputable def Dg:V->List V->Hp->VK->Prop:=fun x vs H Q=>∃ l xs y,x=.ref l/\vs=[y]/\H l=v9 (.lst xs)/\xs.length<sizeLine/\Q .non (upd H l (.lst (xs++[y])))
theorem vM:MtM X "list.append" Dg:=by
 intro pins s σ H x vs v us Q I rx rv h;obtain⟨l,xs,y,rfl,rfl,hH,hz,q⟩:=h;cases rx;obtain⟨u,rfl,ru⟩:=rv.one;obtain⟨z,its,n,r,hl,e⟩:=I.lstM hH;refine call_meets rq ⟨_,e,rfl⟩ F.entry_list_append (F.args_list_append_2 _ _) (PySem.list_append l its.toArray n u (by rw[bc];omega)) ⟨e,?_⟩;refine⟨.non,_,I.lset (its':=its++[u]) hH e (by simp) (r.append (.cons ru .nil)) ?_,rfl,q⟩;rw[bv,g7];omega
noncomputable def Ql:R2:=fun x y H Q=>∃ l b xs zs,x=.ref l/\y=.ref b/\H l=v9 (.lst xs)/\H b=v9 (.lst zs)/\xs.length+zs.length<=sizeLine/\∀ p,H p=wb->Q (.ref p) (upd H p (.lst (xs++zs)))
theorem Mt:OpR X (kr .Add) Ql:=by
 intro pins s σ H x y v u Q I rx ry h;obtain⟨l,b,xs,zs,rfl,rfl,hH,hB,hz,q⟩:=h;cases rx;cases ry;obtain⟨z,its,n,r,hl,e⟩:=I.lstM hH;obtain⟨z2,its2,n2,r2,hl2,e2⟩:=I.lstM hB;refine PySem.P.add_list e e2 ?_ (by rw[bc,bc];omega);have ea:its.toArray++its2.toArray=(its++its2).toArray:=by simp
 rw[ea];exact⟨.ref _,_,I.lnew (t':=s.toks) (r.append r2) (by rw[bv];omega),rfl,q _ I.fresh⟩
noncomputable def Qj:R2:=fun x y H Q=>∃ l k xs,x=.ref l/\y=.int k/\H l=v9 (.lst xs)/\ -(2 ^ 63)<=k/\k<2 ^ 63/\xs.length*k.toNat<=sizeLine/\
 ∀ p,H p=wb->Q (.ref p) (upd H p (.lst (aw k.toNat xs).flatten))
theorem JP (xs:List α) (k:Nat):(aw k xs).flatten.length=k*xs.length:=by
 induction k with
 |zero=>simp
 |succ k ih=>rw[d6,iu,bv,ih,Nat.succ_mul,Nat.add_comm]
theorem Ml:OpR X (kr .Mult) Qj:=by
 intro pins s σ H x y v u Q I rx ry h;obtain⟨l,k,xs,rfl,rfl,hH,h1,h2,hz,q⟩:=h;cases rx;obtain⟨t,rfl⟩:=ry;obtain⟨z,its,n,r,hl,e⟩:=I.lstM hH;have hlen:its.toArray.size*k.toNat<=sizeLine:=by rw[bc,<- hl];exact hz
 have hcap:¬ its.toArray.size*k.toNat>(2 ^ 63-1) / 8:=by
  have:(sizeLine:Nat)<=(2 ^ 63-1) / 8:=by decide
  omega
 have hfit:¬(!Builtin.List.listFitsIndex k)=true:=by
  rw[fitsIndex_both h1 h2];exact cq
 have hlong:¬ l8 (its.toArray.size*k.toNat)=true:=by
  rw[Gp hlen];exact cq
 have hnew:ve (fun x1 x2=>x1++x2) #[] (aw (if its.toArray.isEmpty=true then 0 else k.toNat) its.toArray)=(aw k.toNat its).flatten.toArray:=by
  have f0:∀ m:Nat,ve (fun x1 x2=>x1++x2) #[] (aw m its.toArray)=(aw m its).flatten.toArray:=fun m=>by
   have:=wC its m []
   rw[vg] at this;exact this
  rw[f0];cases its with
  |nil=>simp
  |cons a r'=>rw[if_neg (by simp)]
 refine wpAny_binaryOp_repeat_ref (T:="list") (U:="int") (by decide) ⟨_,e,rfl⟩ (fun s'=>typeIs_int s' k t) noFill_list_mul F.fills_int_mul F.slot_int_rmul repeat_list F.slot_int_index.lookup
  (call_meets F.slot_int_rmul (typeIs_int s k t) F.entry_int_rmul (F.args_int_rmul_2 _ _) (int___rmul___int_list k t l its.toArray n)
   ⟨e,rfl,⟨_,e,rfl⟩,call_meets F.slot_list_mul ⟨_,e,rfl⟩ F.entry_list_mul (F.args_list_mul_2 _ _) (AutoListH.list___mul___list_int_3 l its.toArray n k t hfit hcap hlong) ⟨e,?_⟩⟩)
 rw[hnew];exact⟨.ref _,_,I.lnew (t':=s.toks) (r.rep k.toNat) (by rw[JP,Nat.mul_comm];exact hz),rfl,q _ I.fresh⟩
end
section
variable {prog:c9}{w:df}{A:di}{E:ag->am->Prop}{s:am}
set_option maxRecDepth 100000 in
end
section
variable {X:Cx}
end
end L2
namespace Att
open PySem PySem.W PySem.Calls PyProof.Rows
theorem oA:∀(ns:List Int) (vs:List ag),WellAll P h vs (ns.map WData.int)->j8 vs ns:=by
 intro ns
 induction ns with
 |nil=>
  intro vs w;rw[l7] at w;cases w;exact .nil
 |cons n ns ih=>
  intro vs w;rw[bq] at w;cases w with
  |cons a b=>
   cases a;exact .cons _ _ (ih _ b)
theorem CV {l:OpenLaw} (hn:l.most=v9 n)
  (hpre:l.row.toRowW.claim.pre args=true) (hwl:WellAll P h vals args):
  ∃ a vs ns,vals=[ca a]/\args=[WData.list (ns.map WData.int)]/\h.get? a=v9 { cls:=.type "list",data:=.seq vs.toArray }/\j8 vs ns/\ns.length<=n:=by
 have hsh:WShape.hasAll [] args [.list .int]=true:=(pre_splitW hpre).1;have hc:l.pre.holds [] { args:=args }=true:=(pre_splitW hpre).2;obtain⟨d,r,rfl,h1,h2⟩:=hasAllW_cons hsh;obtain rfl:=hasAllW_nil h2;obtain⟨xs,rfl,h3⟩:=hasW_list h1;obtain⟨ns,rfl⟩:=items_int h3;have hlen:ns.length<=n:=by
  unfold OpenLaw.pre at hc;have h4:(WTm.not (.lt (.lit (.int (n:Int))) (.len (.arg 0)))).holds [] { args:=[.list (ns.map .int)] }=true:=by
   have h4:=(holds_andW hc).1;rw[hn] at h4;exact h4
  have h5:=condW_of h4 (w_not (w_lt w_lit (w_len_list (w_arg rfl))));rw[ao] at h5;refine Nat.le_of_not_lt fun q=> ?_;have q':(n:Int)<((ns.length:Nat):Int):=by omega
  first
   |(rw[decide_eq_true q'] at h5;exact absurd h5 (by decide))
   |(simp at h5;omega)
 cases hwl with
 |cons w1 w2=>
  cases w2;cases w1 with
  |list ho hall=>exact⟨_,_,ns,rfl,rfl,ho,oA ns _ hall,hlen⟩
theorem Dh (l:OpenLaw) (args:List WData):l.row.toRowW.claim.post args (.bool true) args=true:=
 postW_of (r:=l.row.toRowW) (X:=(true==true))
  (show WShape.has [] (.bool true) .bool=true by first|rfl|decide|simp[WShape.has,WShape.arms,WShape.armsAll])
  (show(WTm.eq .res (.lit (.bool true))).value [] { args:=args,res:=v9 (.bool true),after:=args }=v9 (.bool (true==true)) from w_eq_bool (w_res rfl) w_lit) rfl
theorem attach_call {l:OpenLaw}
  (hn:l.most=v9 n) (hdf:d.params.defaults=[])
  (call:∀(w:df) (s₀ s₁:am) (mg mb:Str->Option ag) (fa:af) (o:Obj) (pm cd doc:ag) (a:af) (vs:List ag) (ns:List Int),
   Ground q loose [] XP w s₀ mg mb s₁.heap->YP w s₁.heap->
   s₁.heap.get? fa=v9 o->o.data=.func (docDef d.name d.params d.body d.scope pm cd doc)->s₁.heap.CodeRec cd d.name->mg d.name=v9 (.ref fa)->
   s₁.heap.get? a=v9 { cls:=.type "list",data:=.seq vs.toArray }->j8 vs ns->ns.length<=n->s₁.gens= #[]->
   nq (model l.prog w) om (.call (.ref fa) ⟨[.ref a],[]⟩) (fun r s'=>r=.ok (.ret (.bool true))/\OldK s₁.heap s'.heap/\s'.os=s₁.os/\mf s'.gens) s₁):
  WalkO q loose XP YP l.row.toRowW d [] (fun f vs=>vh f vs):=by
 intro w s₀ s₁ mg mb G Y fa o pm cd doc dV kV ho hd hcd hD hmg hg args vals as hpre hlay hrd hwl hlo;obtain rfl:dV=.none:=Dflts.none hD hdf;obtain rfl:kV=.none:=Dflts.noKw hD;obtain⟨a,vs,ns,rfl,rfl,hobj,hints,hlen⟩:=CV hn hpre hwl;refine enter_call (pz (call w s₀ s₁ mg mb fa o pm cd doc a vs ns G Y ho (fd_plain hd) hcd hmg hobj hints hlen hg) fun r s' hq=> ?_);obtain⟨rfl,h2,h3,h4⟩:=hq;exact⟨.inl ⟨.bool true,.bool true,[],rfl,fun _=>rfl,.bool true,Dh l _,fun _=>⟨List.Pairwise.nil,fun _ hm=>(nomatch hm)⟩⟩,h2,h3,h4⟩
section
variable {prog:c9}{w:df}{A:di}{E:ag->am->Prop}{s:am}{K:Frag}
end
end Att
namespace L2
theorem uK:∀ {vs:List ag}{ns:List Int},j8 vs ns->Vals (ns.map V.int) vs
 |_,_,.nil=>.nil
 |_,_,.cons n t h=>.cons ⟨t,rfl⟩ (uK h)
noncomputable def Pi (H:Hp):Prop:=∀ b,H b=wb∨∃ o xs,H b=v9 (.frz o (.lst xs))
theorem GB {K:aa}
  (KX:K.In s₁.heap) (hns:s₁.heap.Ns ce mg) (hb:s₁.heap.Ns builtinsNs mb) (hbb:∀ x:Str,x≠"__name__"->mb x=db x) (hlim:s₁.heap.NoLimit) (hg:s₁.gens= #[])
  (ha:s₁.heap.get? a=v9 { cls:=.type "list",data:=.seq vs.toArray }) (hi:j8 vs ns) (hl:ns.length<=sizeLine) (hr:Room k om)
  (F:∀ base:cz,K.In base->base.Ns ce mg->qH P w K mg base CX k fa fd [x] sp) (hbind:∀(s:am) (u:ag),rn s fd ⟨[u],[]⟩ [(x,u)])
  (hsp:∀ H:Hp,Pi H->SqL K H a (ns.map V.int)->sp [.ref a] H (fun v _=>v=.bl true) fun _ _ _=>False)
  (hCX:∀ H e s',CX [] H s₁ (fun _ _ _=>False) e s'->False):
  nq (model P w) om (.call (.ref fa) ⟨[.ref a],[]⟩) (fun r s'=>r=.ok (.ret (.bool true))/\OldK s₁.heap s'.heap/\s'.os=s₁.os/\mf s'.gens) s₁:=by
 have rv:=uK hi;have lenV:=hi.length
 -- from an abstract heap in which nothing but the script may be tracked
 have core:∀ H:Hp,Pi H->SqL K H a (ns.map V.int)->HOk P w H s₁.heap->(∀ b,H b≠wb->b=a)->(H a≠wb->K.lookup a=wb)->
   nq (model P w) om (.call (.ref fa) ⟨[.ref a],[]⟩) (fun r s'=>r=.ok (.ret (.bool true))/\OldK s₁.heap s'.heap/\s'.os=s₁.os/\mf s'.gens) s₁:=by
  intro H hO hS hok hA hK;have base_of:∀ {b:af}{o:Obj},s₁.heap.get? b=v9 o->H b=wb->(GL s₁.heap H).get? b=v9 o:=fun e n=>GK e n;have noA:∀ {b:af}{o:Obj}{es:Array kq}{ep:Nat},s₁.heap.get? b=v9 o->o.data=.dict es ep->H b=wb:=fun {b o es ep} e d=>by
   cases q:H b with
   |none=>rfl
   |some u=>
    have e':b=a:=hA b (by rw[q];simp);subst e';rw[ha] at e;cases e;have d':Data.seq vs.toArray _=vy es ep:=d;cases d'
  have nsK:∀ {b:af}{m:Str->Option ag},s₁.heap.Ns b m->(GL s₁.heap H).Ns b m:=fun {b m} ⟨o,es,ep,e,d,r⟩=>⟨o,es,ep,base_of e (noA e d),d,r⟩;have hKb:K.In (GL s₁.heap H):=fun b o e=>base_of (KX b o e) (by
   cases q:H b with
   |none=>rfl
   |some u=>
    have e':b=a:=hA b (by rw[q];simp);subst e';rw[hK (by rw[q];simp)] at e;cases e)
  have hM:Mod K mg (GL s₁.heap H):=⟨hKb,nsK hns,⟨mb,nsK hb,hbb⟩,let ⟨mc,h1,h2⟩:=hlim;⟨mc,nsK h1,h2⟩⟩;have e0:Env0 P w K mg (GL s₁.heap H) om [] s₁ H:=⟨rfl,hM,fun b o e=>Jp e,t8 (Ea _ _),trivial,fun b hb=>absurd (show b∈([]:List af) from hb) (by simp),hok,.of_eq hg⟩;refine pz ((F _ hKb (nsK hns)).run om [] s₁ H ⟨[.ref a],[]⟩ [.ref a] [.ref a] _ _ hr e0 (hbind s₁ (.ref a)) (.cons rfl .nil) (hsp H hO hS)) fun r s' h=> ?_;cases r with
  |error e=>exact(hCX H e s' h).elim
  |ok fl=>
   cases fl with
   |next=>exact ii h
   |brk=>exact ii h
   |cont=>exact ii h
   |ret u=>
    obtain⟨v,H',os,bare,un,hok',r',q⟩:=h;have q':v=.bl true:=q;subst q';obtain rfl:u=si true:=r';refine⟨rfl,OldK.of_keep fun b o e=> ?_,os,bare⟩;cases q:H b with
    |none=>exact un.keep b o e q (by intro z;exact absurd (show b∈([]:List af) from z) (by simp)) (by simp)
    |some u=>
     rcases hO b with z|⟨ob,xs,z⟩
     ·rw[q] at z;cases z
     ·have z2:=un.frzs b ob _ z;obtain⟨e1,_⟩:=hok b _ z;obtain⟨e2,_⟩:=hok' b _ z2;rw[e] at e1;cases e1;exact e2
 cases hk:K.lookup a with
 |some o=>
  -- the script is one of the module's own objects
  have e:=KX a o hk;rw[ha] at e;cases e;refine core (fun _=>wb) (fun _=>.inl rfl) (.inr ⟨_,vs.toArray,_,hk,rfl,rfl,rfl,by rw[bc,lenV];exact hl,by simpa using rv⟩) (fun b u z=>by have z':(wb:Option HO)=v9 u:=z;cases z') (fun b z=>absurd rfl z) fun z=>absurd rfl z
 |none=>
  refine core (fun b=>if b=a then v9 (.frz { cls:=.type "list",data:=.seq vs.toArray } (.lst (ns.map V.int))) else wb) (fun b=> ?_) (.inl (.inr ⟨{ cls:=.type "list",data:=.seq vs.toArray },if_pos rfl⟩)) (fun b u z=> ?_) (fun b z=> ?_) fun _=>hk
  ·by_cases hb:b=a
   ·exact .inr ⟨_,_,if_pos hb⟩
   ·exact .inl (if_neg hb)
  ·by_cases hb:b=a
   ·have z':=(if_pos hb).symm.trans z;cases z';subst hb;exact⟨ha,by rw[ao];exact hl,vs,_,rv,ha⟩
   ·have z':=(if_neg hb).symm.trans z;cases z'
  ·by_cases hb:b=a
   ·exact hb
   ·exact absurd (if_neg hb) z
end L2
namespace L2
theorem walk_of {l:vj}{K:Params->aa}{CX:df->CXT}{sp:df->Sp}
  (hn:l.most=v9 n) (hn2:n<=sizeLine) (hdf:d.params.defaults=[]) (hr:Room k om)
  (hY:∀(w:df) (h:cz),YP w h->(K w.params).In h)
  (F:∀(w:df) (mg:Str->Option ag) (fa:af) (h:cz),(K w.params).In h->h.Ns ce mg->mg d.name=v9 (.ref fa)->
   ∃ fd:jk,(∀(s:am) (u:ag),rn s fd ⟨[u],[]⟩ [(x,u)])/\
    ∀ base:cz,(K w.params).In base->base.Ns ce mg->qH l.prog w (K w.params) mg base (CX w) k fa fd [x] (sp w))
  (hsp:∀(w:df) (H:Hp) (a:af) (ns:List Int),ns.length<=n->Pi H->SqL (K w.params) H a (ns.map V.int)->sp w [.ref a] H (fun v _=>v=.bl true) fun _ _ _=>False)
  (hCX:∀(w:df) (H:Hp) (s:am) (e:ag) (s':am),CX w [] H s (fun _ _ _=>False) e s'->False):
  v4 q loose XP YP l.row.toRowW d [] (fun f vs=>vh f vs):=by
 refine Att.attach_call hn hdf fun w s₀ s₁ mg mb fa o pm cd doc a vs ns G Y ho hd hcd hmg hobj hints hlen hg=> ?_;have KX:=hY w _ Y;obtain⟨fd,hb,hF⟩:=F w mg fa _ KX G.T.g hmg;exact GB KX G.T.g G.T.b G.T.builtins G.T.nolimit hg hobj hints (ci hlen hn2) hr hF hb (fun H hO hS=>hsp w H a ns hlen hO hS) fun H e s'=>hCX w H s₁ e s'
end L2
namespace L2
noncomputable def bO (s:cx) (j:Nat):cx:=match s with
 |.ClassDef _ _ _ body _ _ _ _ _ _ _=>body.getD j (.Pass ⟨0,0,0,0⟩)
 |_=>.Pass ⟨0,0,0,0⟩
noncomputable def gS (s:cx):Arguments:=match s with
 |.FunctionDef _ a _ _ _ _ _ _ _ _=>a
 |_=>{ posonlyargs:=[],args:=[],vararg:=wb,kwonlyargs:=[],kw_defaults:=[],kwarg:=wb,defaults:=[] }
noncomputable def fR (s:cx):List cx:=match s with
 |.FunctionDef _ _ b _ _ _ _ _ _ _=>b
 |_=>[]
noncomputable def aX (s:cx):j4:=match s with
 |.FunctionDef _ _ _ _ _ _ sc _ _ _=>sc
 |_=>{ kind:=.function,names:=[],isGenerator:=false,isCoroutine:=false }
structure Fun (K:aa) (x qual:Str) (st:cx) (f:af) (fd:jk):Prop where
 ex:∃(oc:ag) (od:Option af) (kV doc pm:ag) (an:Option af) (cdv ct:ag) (osl:Array (Option ag)),
  fd=ic x qual (gS st) (fR st) (aX st) .none kV doc pm an cdv ct/\K.lookup f=v9 ⟨oc,od,.func fd,osl⟩/\jv K cdv qual=true
 kp:fy K (.ref f)=true
section
variable {P:c9}{w:df}{K:aa}{mg:Str->Option ag}{base:cz}
theorem Fun.binds {st:cx} (F:Fun K x qual st f fd)
  (h:∀(kV doc pm:ag) (an:Option af) (cdv ct:ag) (us:List ag),us.length=ps.length->bindArgs (ic x qual (gS st) (fR st) (aX st) .none kV doc pm an cdv ct) ⟨us,[]⟩=pure (ps.zip us)):Binds K fd ps []:=by
 obtain⟨oc,od,kV,doc,pm,an,cdv,ct,osl,rfl,lk,hcd⟩:=F.ex;exact .all (h kV doc pm an cdv ct)
theorem Il {st:cx}{kV doc pm cdv ct:ag} (l:K.lookup f=v9 ⟨oc,od,.func (ic x qual (gS st) (fR st) (aX st) .none kV doc pm an cdv ct),osl⟩)
  (c:jv K cdv qual=true) (k:fy K (.ref f)=true):Fun K x qual st f (ic x qual (gS st) (fR st) (aX st) .none kV doc pm an cdv ct):=⟨⟨oc,od,kV,doc,pm,an,cdv,ct,osl,rfl,l,c⟩,k⟩
end
theorem OQ (hr:Room k A):A.units+1<dn:=l9 (Nat.add_le_add_left (by decide:1<=64) _) hr.units
section
variable {X:Cx}
end
theorem KP {A B:Prop} (h:B):if false=true then A else B:=by
 rw[if_neg cq];exact h
theorem KO {A B:Prop} (h:A):if true=true then A else B:=by
 rw[if_pos rfl];exact h
noncomputable def Same (H H':Hp):Prop:=∀ b o,H b=v9 o->H' b=v9 o
theorem Same.refl (H:Hp):Same H H:=fun _ _ h=>h
theorem Same.trans (a:Same H H1) (b:Same H1 H2):Same H H2:=fun c o h=>b c o (a c o h)
theorem Same.free (e:Same H H') (h:H' l=Option.none):H l=Option.none:=by
 cases q:H l with
 |none=>rfl
 |some o=>
  rw[e l o q] at h;cases h
end L2
end
section
namespace L2
section
variable {κ:Type} [DecidableEq κ]
noncomputable def uL (kvs:List (κ×V)) (k:κ):Option V:=(kvs.find? fun kv=>decide (kv.1=k)).map (·.2)
noncomputable def pR (kvs:List (κ×V)) (k:κ) (v:V):List (κ×V):=
 if(kvs.any fun kv=>decide (kv.1=k))=true then kvs.map (fun kv=>if kv.1=k then(kv.1,v) else kv) else kvs++[(k,v)]
noncomputable def wJ (kvs:List (κ×V)) (k:κ):List (κ×V):=kvs.filter fun kv=>decide (kv.1≠k)
theorem mI {k:κ} (e:p.1=k):uL (p::r) k=v9 p.2:=by simp[uL,f8,e]
theorem kB {k:κ} (e:¬ p.1=k):uL (p::r) k=uL r k:=by simp[uL,f8,e]
theorem An (k:κ):∀ kvs:List (κ×V),(kvs.any fun kv=>decide (kv.1=k))=(uL kvs k).isSome
 |[]=>rfl
 |p::r=>by
  rw[ky]
  by_cases e:p.1=k
  ·simp only[mI e,decide_eq_true e,Bool.true_or,ud]
  ·rw[kB e,decide_eq_false e,Bool.false_or];exact An k r
theorem jT (kvs:List (κ×V)) (k:κ) (v:V):(pR kvs k v).length<=kvs.length+1:=by
 unfold pR;split
 ·rw[ao];omega
 ·rw[bv,bw,iq];omega
theorem RelO.isSome_eq (r:RelO o u):o.isSome=u.isSome:=by
 cases o with
 |none=>cases u with
  |none=>rfl
  |some _=>exact(show False from r).elim
 |some _=>cases u with
  |none=>exact(show False from r).elim
  |some _=>rfl
theorem KV.val (r:KV kvs vs) (k:κ):RelO (uL kvs k) (px vs k):=by
 unfold KV at r
 induction r with
 |nil=>exact gk
 |@cons p q ps qs h t ih=>
  obtain⟨h1,h2⟩:=h
  by_cases e:p.1=k
  ·have e':q.1=k:=h1.symm.trans e;have b:px (q::qs) k=v9 q.2:=by simp[px,f8,e']
   rw[mI e,b];exact h2
  ·have e':¬ q.1=k:=fun z=>e (h1.trans z);have b:px (q::qs) k=px qs k:=by simp[px,f8,e']
   rw[kB e,b];exact ih
theorem KV.any (r:KV kvs vs) (k:κ):(kvs.any fun kv=>decide (kv.1=k))=vs.any fun kv=>decide (kv.1=k):=by
 unfold KV at r
 induction r with
 |nil=>rfl
 |cons h t ih=>rw[ky,ky,ih,h.1]
theorem KV.repl (r:KV kvs vs) (k:κ) (ry:RelV y u):
  KV (kvs.map fun kv=>if kv.1=k then(kv.1,y) else kv) (vs.map fun kv=>if kv.1=k then(kv.1,u) else kv):=by
 unfold KV at r ⊢
 induction r with
 |nil=>exact .nil
 |@cons p q ps qs h t ih=>
  rw[bq,bq];refine .cons ?_ ih;obtain⟨h1,h2⟩:=h
  by_cases e:p.1=k
  ·rw[if_pos e,if_pos (h1.symm.trans e)];exact⟨h1,ry⟩
  ·rw[if_neg e,if_neg (fun z=>e (h1.trans z))];exact⟨h1,h2⟩
theorem KV.put (r:KV kvs vs) (k:κ) (ry:RelV y u):KV (pR kvs k y) (stored vs k u):=by
 unfold pR stored;rw[r.any k]
 by_cases e:(vs.any fun kv=>decide (kv.1=k))=true
 ·rw[if_pos e,if_pos e];exact r.repl k ry
 ·rw[if_neg e,if_neg e];exact Paired.snoc r ⟨rfl,ry⟩
theorem KV.length {vs:List (κ×ag)} (r:KV kvs vs):kvs.length=vs.length:=iy r
theorem Hs (kvs:List (κ×V)) (k:κ):(wJ kvs k).length<=kvs.length:=f6 _ _
end
theorem GF (r:RelV (kV k) u):(aJ P w).is k u=true:=by
 cases k with
 |inl i=>obtain⟨t,e⟩:=(show ∃ t,u=t4 i t from r);subst e;exact yC P w i t
 |inr x=>obtain⟨t,e⟩:=(show ∃ t,u=t6 x t from r);subst e;exact yB P w x t
theorem vR:∀ {ks:List Key}{us:List ag},Vals (ks.map kV) us->ItemsAre (aJ P w) ks us
 |[],_,r=>by rw[l7] at r;cases r;exact .nil
 |k::ks,_,r=>by
  rw[bq] at r;cases r with
  |cons h t=>exact .cons (GF h) (vR t)
noncomputable abbrev KT (H:Hp):List (List Key×V)->List (List Key×af×ag)->Prop:=j9 fun p q=>p.1=q.1/\H q.2.1=v9 (.tup (p.1.map kV))/\RelV p.2 q.2.2
theorem KT.val (r:KT H kvs xs) (k:List Key):RelO (uL kvs k) ((kt xs k).map (·.2)):=by
 induction r with
 |nil=>exact gk
 |@cons p q ps qs h t ih=>
  obtain⟨h1,_,h2⟩:=h
  by_cases e:p.1=k
  ·have e':q.1=k:=h1.symm.trans e;have b:kt (q::qs) k=v9 q.2:=by simp[kt,f8,e']
   rw[mI e,b];exact h2
  ·have e':¬ q.1=k:=fun z=>e (h1.trans z);have b:kt (q::qs) k=kt qs k:=by simp[kt,f8,e']
   rw[kB e,b];exact ih
theorem KT.repl (r:KT H kvs xs) (k:List Key) (ry:RelV y u):
  KT H (kvs.map fun kv=>if kv.1=k then(kv.1,y) else kv) (xs.map (ql k u)):=by
 induction r with
 |nil=>exact .nil
 |@cons p q ps qs h t ih=>
  rw[bq,bq];refine .cons ?_ ih;obtain⟨h1,h2,h3⟩:=h;unfold ql
  by_cases e:p.1=k
  ·rw[if_pos e,if_pos (h1.symm.trans e)];exact⟨h1,h2,ry⟩
  ·rw[if_neg e,if_neg (fun z=>e (h1.trans z))];exact⟨h1,h2,h3⟩
theorem KT.put (r:KT H kvs xs) (k:List Key) (hb:H b=v9 (.tup (k.map kV))) (ry:RelV y u):
  KT H (pR kvs k y) (jj xs k b u):=by
 have e:(kvs.any fun kv=>decide (kv.1=k))=(kt xs k).isSome:=by
  rw[An,(r.val k).isSome_eq,pe]
 unfold pR jj;rw[e]
 by_cases q:(kt xs k).isSome=true
 ·rw[if_pos q,if_pos q];exact r.repl k ry
 ·rw[if_neg q,if_neg q];exact Paired.snoc r ⟨rfl,hb,ry⟩
theorem KT.keeps (r:KT H kvs xs) (ht:∀ b ys,H b=v9 (.tup ys)->H' b=v9 (.tup ys)):KT H' kvs xs:=
 j9.mapP r fun _ _ z=>⟨z.1,ht _ _ z.2.1,z.2.2⟩
section
variable {P:c9}{w:df}{H:Hp}{h:cz}{a:af}
theorem Lo (ok:HOk P w H h) (e:Rd H a u):ObjOk P w H h a u:=e.ok ok
theorem Hu (ok:HOk P w H h) (e:Rd H a (.dK kvs)):kvs.length<=sizeLine/\(a==d9)=false/\∃ vs,KV kvs vs/\h.DictOf (aJ P w) a vs:=
 show ObjOk P w H h a (.dK kvs) from Lo ok e
theorem Pa (ok:HOk P w H h) (e:H a=v9 (.dK kvs)):kvs.length<=sizeLine/\(a==d9)=false/\∃ vs,KV kvs vs/\h.DictOf (aJ P w) a vs:=Hu ok (.inl e)
theorem vP (ok:HOk P w H h) (e:H a=v9 (.tup (ks.map kV))):(b3 (aJ P w)).is h ks a:=by
 obtain⟨_,its,r,o,h1,h2,n,h3⟩:=(show ObjOk P w H h a (.tup (ks.map kV)) from ok a _ e);exact⟨o,its.toArray,n,h1,h2,h3,by simpa using vR r⟩
theorem Hn (ok:HOk P w H h) (e:Rd H a (.dT kvs)):kvs.length<=sizeLine/\(a==d9)=false/\
  ∃ xs,KT H kvs xs/\h.DictOfH (b3 (aJ P w)) a xs:=by
 obtain⟨z,y,xs,r,o,es,ep,h1,h2,h3,h4,h5⟩:=(show ObjOk P w H h a (.dT kvs) from Lo ok e);refine⟨z,y,xs,r,o,es,ep,h1,h2,h3,h4,fun x hx=> ?_,h5⟩;have all:∀ {l:List (List Key×V)}{m:List (List Key×af×ag)},KT H l m->∀ x∈m,(b3 (aJ P w)).is h x.1 x.2.1:=by
  intro l m q
  induction q with
  |nil=>intro x hx;exact nomatch hx
  |@cons p q ps qs hq t ih=>
   intro x hx;rcases aj.mp hx with e|hx
   ·subst e;exact vP ok (by rw[<- hq.1];exact hq.2.1)
   ·exact ih x hx
 exact all r x hx
theorem Ho (ok:HOk P w H h) (e:H a=v9 (.dT kvs)):kvs.length<=sizeLine/\(a==d9)=false/\
  ∃ xs,KT H kvs xs/\h.DictOfH (b3 (aJ P w)) a xs:=Hn ok (.inl e)
end
noncomputable def DGet (H:Hp) (a:af) (y:V) (r:Option V):Prop:=
 (∃ kvs k,Rd H a (.dK kvs)/\y=kV k/\r=uL kvs k)∨∃ kvs k b,Rd H a (.dT kvs)/\y=.ref b/\H b=v9 (.tup (k.map kV))/\r=uL kvs k
noncomputable def DPut (H:Hp) (a:af) (y v:V) (H':Hp):Prop:=
 (∃ kvs k,H a=v9 (.dK kvs)/\y=kV k/\kvs.length<sizeLine/\H'=upd H a (.dK (pR kvs k v)))∨
 ∃ kvs k b,H a=v9 (.dT kvs)/\y=.ref b/\H b=v9 (.tup (k.map kV))/\kvs.length<sizeLine/\H'=upd H a (.dT (pR kvs k v))
theorem DGet.k {k:Key} (e:H a=v9 (.dK kvs)):DGet H a (kV k) (uL kvs k):=.inl ⟨kvs,k,.inl e,rfl,rfl⟩
theorem DGet.t {k:List Key} (e:H a=v9 (.dT kvs)) (eb:H b=v9 (.tup (k.map kV))):DGet H a (.ref b) (uL kvs k):=.inr ⟨kvs,k,b,.inl e,rfl,eb,rfl⟩
theorem DPut.k {k:Key} (e:H a=v9 (.dK kvs)) (hl:kvs.length<sizeLine):DPut H a (kV k) v (upd H a (.dK (pR kvs k v))):=.inl ⟨kvs,k,e,rfl,hl,rfl⟩
theorem DPut.t {k:List Key} (e:H a=v9 (.dT kvs)) (eb:H b=v9 (.tup (k.map kV))) (hl:kvs.length<sizeLine):
  DPut H a (.ref b) v (upd H a (.dT (pR kvs k v))):=.inr ⟨kvs,k,b,e,rfl,eb,hl,rfl⟩
section
variable {X:Cx}{pins:List (af×Obj)}{σ:St}{H:Hp}{s:am}{a:af}{y v:V}{u r:ag}{o:Option V}{A:di}{E:ag->am->Prop}
theorem Inv.big (I:Inv X pins σ H s):d9<s.heap.objs.size:=by
 have h:ce<s.heap.objs.size:=(I.mod.glob.keeps I.bk).lt;exact Nat.lt_trans (by decide) h
theorem ER (hu:A.units+1<dn) (I:Inv X pins σ H s) (g:DGet H a y (v9 v)) (ry:RelV y u) (h:∀ w' s',Inv X pins σ H s'->RelV v w'->Q w' s'):
  ax (model X.prog X.w) A (ol (.ref a) u) Q E s:=by
 rcases g with⟨kvs,k,e,ey,l⟩|⟨kvs,k,b,e,ey,eb,l⟩
 ·subst ey;obtain⟨z,hd,vs,rel,dd⟩:=Hu I.hok e;obtain⟨w',hw,rw'⟩:=RelO.some_of (v:=v) (o:=px vs k) (by rw[l];exact rel.val k);exact wpAny_getItem_of (GF ry) dd.mapOf hw (h w' _ (I.tok _) rw')
 ·subst ey;cases (show u=ca b from ry);obtain⟨z,hd,xs,rel,dd⟩:=Hn I.hok e;obtain⟨w',hw,rw'⟩:=RelO.some_of (v:=v) (o:=(kt xs k).map (·.2)) (by rw[l];exact rel.val k);obtain⟨p,hp,hp2⟩:=mw.mp hw;refine wpAny_getItem_heap (kc hu) (vP I.hok eb) dd hp ?_;rw[hp2];exact h w' _ (I.tok _) rw'
theorem Qz (hu:A.units+1<dn) (I:Inv X pins σ H s) (g:DGet H a y o) (ry:RelV y u) (h:∀ s',Inv X pins σ H s'->Q (.bool o.isSome) s'):
  ax (model X.prog X.w) A (fh .In u (.ref a)) Q E s:=by
 rcases g with⟨kvs,k,e,ey,l⟩|⟨kvs,k,b,e,ey,eb,l⟩
 ·subst ey;obtain⟨z,hd,vs,rel,dd⟩:=Hu I.hok e;refine wpAny_in_of (GF ry) hd dd.mapOf ?_;rw[<- (rel.val k).isSome_eq,<- l];exact h _ (I.tok _)
 ·subst ey;cases (show u=ca b from ry);obtain⟨z,hd,xs,rel,dd⟩:=Hn I.hok e;refine wpAny_in_heap (kc hu) (vP I.hok eb) hd dd ?_;have q:=(rel.val k).isSome_eq;rw[pe] at q;rw[<- q,<- l];exact h _ (I.tok _)
theorem tM (I:Inv X pins σ H s) (mu:Mut (H a)) (hs:en a s.heap h') (he:∃ q,h'.get? a=v9 q) (new:ObjOk X.prog X.w (upd H a ob) h' a ob):
  Inv X pins σ (upd H a ob) { s with heap:=h',toks:=t' }:=
 I.write (x:=a) (e:=a) mu (.inl rfl) (fun b q hb z=>(hs.2 b hb).trans z) he new
theorem Np (z:kvs.length<=sizeLine) (hd:(a==d9)=false) (rel:KV kvs vs) (dd:h'.DictOf (aJ P w) a vs):
  ObjOk P w H' h' a (.dK kvs):=⟨z,hd,vs,rel,dd⟩
theorem EM (hu:A.units+1<dn) (I:Inv X pins σ H s) (g:DPut H a y v H') (ry:RelV y u) (rv:RelV v r) (h:∀ s',Inv X pins σ H' s'->Q () s'):
  ax (model X.prog X.w) A (setItem (.ref a) u r) Q E s:=by
 rcases g with⟨kvs,k,e,ey,l,eH⟩|⟨kvs,k,b,e,ey,eb,l,eH⟩
 ·subst ey eH;obtain⟨z,hd,vs,rel,dd⟩:=Pa I.hok e;have hz:vs.length<=sizeLine:=by rw[<- rel.length];exact z
  have hl:(pR kvs k v).length<=sizeLine:=by have:=jT kvs k v;omega
  refine wpAny_setItem_pairs (hsz:=hz) (GF ry) dd fun h' dd' hs=>h _ ?_;have he:∃ q,h'.get? a=v9 q:=let ⟨q,_,_,hq,_⟩:=dd';⟨q,hq⟩;exact tM I (by rw[e];exact gk) hs he (Np hl hd (rel.put k rv) dd')
 ·subst ey eH;cases (show u=ca b from ry);obtain⟨z,hd,xs,rel,dd⟩:=Ho I.hok e;have hz:xs.length<=sizeLine:=by rw[<- iy rel];exact z
  have hl:(pR kvs k v).length<=sizeLine:=by have:=jT kvs k v;omega
  refine wpAny_setItem_heap (hsz:=hz) (kc hu) (vP I.hok eb) dd fun h' dd' hs=>h _ ?_;obtain⟨q,es,ep,hq,h2,h3,h4,_,h5⟩:=dd';refine tM I (by rw[e];exact gk) hs ⟨q,hq⟩ ⟨hl,hd,_,(rel.put k eb rv).keeps fun c ys ec=> ?_,q,es,ep,hq,h2,h3,h4,h5⟩;rw[aF (JL ec e (fun z=>nomatch z))];exact ec
end
section
variable {X:Cx}{pins:List (af×Obj)}{σ:St}{H:Hp}{s:am}{a:af}{kvs:List (Key×V)}{k:Key}{u:ag}{A:di}{E:ag->am->Prop}
end
noncomputable def Pj (i:bx):Prop:=∀ ov iv,subscripted i false ov iv=operate [ov,iv] (ol ov iv)
theorem Iy {T id:String}
  (hl:sj (.type T) "__getitem__"=pure (v9 (.builtin id))) (hs:Pj slice)
  (h:ax (model prog w) A (eval value env) (fun o s₁=>ax (model prog w) A (eval slice env) (fun i s₂=>s₂.TypeIs o T/\ax (model prog w) A (ol o i) Q E s₂) E s₁) E s):
  ax (model prog w) A (eval (.Subscript value slice pos) env) Q E s:=by
 refine Subscript_ (gg h (fun o s₁ h₁=>gg h₁ (fun i s₂ h₂=> ?_) fun _ _ x=>x) fun _ _ x=>x);obtain⟨hT,h₂⟩:=h₂;unfold s0;refine ae ?_;rw[getitemInPython_of_ne hT.not_modules];refine ae (wpAny_specialOf hT hl ?_);have fin:ax (model prog w) A (subscripted slice false o i) (fun r s₃=>ax (model prog w) A (letTemporaryGo value o r >>= fun _=>pure r) Q E s₃) E s₂:=by
  rw[hs o i];exact wpAny_operating (gg h₂ (fun r s₃ h₃=>ae (wpAny_letTemporaryGo (ak h₃))) fun _ _ x=>x)
 first
  |exact ak (ae fin)
  |exact ae (ak (ae fin))
  |exact ae fin
theorem yY (I:Inv X pins σ H s) (g:DGet H a y o):s.TypeIs (.ref a) "dict":=by
 rcases g with⟨kvs,k,e,_,_⟩|⟨kvs,k,b,e,_,_,_⟩
 ·obtain⟨_,_,vs,_,dd⟩:=Hu I.hok e;exact dd.typeIs
 ·obtain⟨_,_,xs,_,dd⟩:=Hn I.hok e;exact dd.typeIs
noncomputable def NV (td ty:TE):TE:=fun σ H Q=>td σ H fun x H1=>ty σ H1 fun y H2=>∃ a v,x=.ref a/\DGet H2 a y (v9 v)/\Q v H2
noncomputable def Qd (ty td:TE):TE:=fun σ H Q=>ty σ H fun y H1=>td σ H1 fun x H2=>∃ a o,x=.ref a/\DGet H2 a y o/\Q (.bl o.isSome) H2
noncomputable def Oa (td ty tv:TE):TS:=fun D σ H=>tv σ H fun v H1=>td σ H1 fun x H2=>ty σ H2 fun y H3=>∃ a H4,x=.ref a/\DPut H3 a y v H4/\D.nx σ H4
section
variable {X:Cx}{o i e value:bx}{pos pos' tpos:Pos}{td ty tv:TE}
theorem IY (hu:X.A.units+1<dn) (ho:PE X o td) (hi:PE X i ty) (hs:Pj i):PE X (.Subscript o i pos) (NV td ty):=by
 intro pins s σ H Q I h;refine Iy PySem.F.slot_dict_getitem.lookup hs (thn (ho pins s σ H _ I h) fun u s1 ⟨x,H1,I1,rx,q1⟩=>thn (hi pins s1 σ H1 _ I1 q1) fun iv s2 ⟨y,H2,I2,ry,a,v,ex,g,q2⟩=> ?_);subst ex;obtain rfl:u=ca a:=rx;exact⟨yY I2 g,ER hu I2 g ry fun w' s3 I3 rw'=>⟨v,H2,I3,rw',q2⟩⟩
theorem LU (hu:X.A.units+1<dn) (hi:PE X i ty) (ho:PE X o td):PC X .In i o (Qd ty td):=by
 intro pins s σ H Q I h;refine thn (hi pins s σ H _ I h) fun iv s1 ⟨y,H1,I1,ry,q1⟩=>thn (ho pins s1 σ H1 _ I1 q1) fun u s2 ⟨x,H2,I2,rx,a,ov,ex,g,q2⟩=> ?_;subst ex;obtain rfl:u=ca a:=rx;exact Qz hu I2 g ry fun s3 I3=>⟨.bl ov.isSome,H2,I3,rfl,q2⟩
theorem IP (hu:X.A.units+1<dn) (ho:PE X o td) (hi:PE X i ty) (hv:PE X value tv) (hs:jc value (v9 (.Subscript o i pos')) pos.line X.env=pure false):
  PS X (.Assign [.Subscript o i pos'] value pos) (Oa td ty tv):=by
 intro pins s σ H D I h;refine wpAny_Assign_Subscript (thn (hv pins s σ H _ I h) fun r s1 ⟨v,H1,I1,rv,q1⟩=>thn (ho pins s1 σ H1 _ I1 q1) fun u s2 ⟨x,H2,I2,rx,q2⟩=>thn (hi pins s2 σ H2 _ I2 q2) fun iv s3 ⟨y,H3,I3,ry,a,H4,ex,g,q3⟩=> ?_) hs;subst ex;obtain rfl:u=ca a:=rx;exact EM hu I3 g ry rv fun s4 I4=>⟨σ,H4,I4,q3⟩
end
theorem Hr (h:cz) (hb:d9<h.objs.size):ObjOk P w H (h.push { cls:=.type "dict",data:=.dict #[] }) h.objs.size (.dT []):=
 ⟨im _,beq_eq_false_iff_ne.mpr (c5 (cm hb)),[],.nil,_,#[],0,b0 _ rfl,⟨rfl,rfl,rfl⟩,rfl,rfl,vt⟩
noncomputable def Lf:TE:=fun _ H Q=>∀ p,H p=wb->Q (.ref p) (upd H p (.dT []))
section
variable {X:Cx}{pos:Pos}
theorem FZ:PE X (.Dict [] [] pos) Lf:=fun pins s σ H Q I h=>
 wpAny_Dict_empty ⟨.ref s.heap.objs.size,_,I.laid (a:=s.heap.objs.size) (o:=.dT []) (t':=s.toks) (fun _ _ q=>ay _ q) (bp _) (Hr s.heap I.big),rfl,h _ (I.hok.fresh (bp _))⟩
end
section
variable {X:Cx}{pins:List (af×Obj)}{σ:St}{H:Hp}{s:am}{a:af}{y d:V}{u r:ag}{o:Option V}{A:di}{E:ag->am->Prop}
end
section
variable {X:Cx}{o e f:bx}{apos cpos:Pos}{td ty tx:TE}
end
section
variable {X:Cx}{pins:List (af×Obj)}{σ:St}{H:Hp}{s:am}{a:af}{kvs:List (Key×V)}{A:di}{E:ag->am->Prop}
end
section
variable {X:Cx}{pins:List (af×Obj)}{σ:St}{H:Hp}{s:am}{a:af}{y:V}{u:ag}{A:di}{E:ag->am->Prop}
end
end L2
namespace L2
section
variable {κ:Type} [DecidableEq κ]
end
end L2
end
section
namespace L2.MB
inductive D where
 |non|bl (b:Bool)|int (i:Int)|str (x:Str)|lst (ds:List D)|tup (ds:List D)
 /-- an object that is told by its number -/
 |obj (n:Nat)
 /-- a list that is handed in and only read -/
 |scr (ds:List D)
 deriving Inhabited
structure Okk where
 p:af->Prop
 al:Nat->Option af
instance:CoeFun Okk (fun _=>af->Prop):=⟨Okk.p⟩
instance:Coe Okk (af->Prop):=⟨Okk.p⟩
noncomputable def Okk.all:Okk:=⟨fun _=>True,fun _=>wb⟩
noncomputable def RL (K:aa) (ok:Okk) (H:Hp) (a:af) (xs:List V):Prop:=ok a/\H a=v9 (.lst xs)
noncomputable def RC (K:aa) (ok:Okk) (H:Hp) (a:af) (xs:List V):Prop:=
 (ok a/\Rd H a (.lst xs))∨
  ∃(o:Obj) (its:Array ag) (n:Nat),K.lookup a=v9 o/\o.cls=.type "list"/\o.dict=wb/\o.data=.seq its n/\its.size<=sizeLine/\Vals xs its.toList
noncomputable def RT (K:aa) (ok:Okk) (H:Hp) (a:af) (xs:List V):Prop:=ok a/\H a=v9 (.tup xs)
section
variable {K:aa}{ok ok':Okk}{H H':Hp}{a:af}{xs:List V}
theorem RL.sq (h:RL K ok H a xs):SqL K H a xs:=.inl (.inl h.2)
theorem RC.sq (h:RC K ok H a xs):SqL K H a xs:=h.elim (fun z=>.inl z.2) .inr
theorem RT.sq (h:RT K ok H a xs):SqT K H a xs:=.inl (.inl h.2)
theorem Rd.mono (f:∀ b o,ok b->H b=v9 o->ok' b/\H' b=v9 o) (k:ok a) (h:Rd H a u):ok' a/\Rd H' a u:=by
 rcases h with h|⟨o,h⟩
 ·exact⟨(f _ _ k h).1,.inl (f _ _ k h).2⟩
 ·exact⟨(f _ _ k h).1,.inr ⟨o,(f _ _ k h).2⟩⟩
theorem RL.mono (f:∀ b o,ok b->H b=v9 o->ok' b/\H' b=v9 o) (h:RL K ok H a xs):RL K ok' H' a xs:=f _ _ h.1 h.2
theorem RC.mono (f:∀ b o,ok b->H b=v9 o->ok' b/\H' b=v9 o) (h:RC K ok H a xs):RC K ok' H' a xs:=
 h.elim (fun z=>.inl (Rd.mono f z.1 z.2)) .inr
theorem RT.mono (f:∀ b o,ok b->H b=v9 o->ok' b/\H' b=v9 o) (h:RT K ok H a xs):RT K ok' H' a xs:=f _ _ h.1 h.2
end
mutual
inductive Rep (K:aa) (ok:Okk) (H:Hp):V->D->Prop
 |non:Rep K ok H .non .non
 |bl (b:Bool):Rep K ok H (.bl b) (.bl b)
 |int (i:Int):Rep K ok H (.int i) (.int i)
 |str (x:Str):Rep K ok H (.str x) (.str x)
 |lst {a:af}{xs:List V}{ds:List D}:RL K ok H a xs->Reps K ok H xs ds->Rep K ok H (.ref a) (.lst ds)
 |tup {a:af}{xs:List V}{ds:List D}:RT K ok H a xs->Reps K ok H xs ds->Rep K ok H (.ref a) (.tup ds)
 |obj {n:Nat}{a:af}:ok.al n=v9 a->Rep K ok H (.ref a) (.obj n)
 |scr {a:af}{xs:List V}{ds:List D}:RC K ok H a xs->Reps K ok H xs ds->Rep K ok H (.ref a) (.scr ds)
inductive Reps (K:aa) (ok:Okk) (H:Hp):List V->List D->Prop
 |nil:Reps K ok H [] []
 |cons {v:V}{d:D}{vs:List V}{ds:List D}:Rep K ok H v d->Reps K ok H vs ds->Reps K ok H (v::vs) (d::ds)
end
section
variable {K:aa}{ok ok':Okk}{H H':Hp}
mutual
theorem Rep.mono (f:∀ b o,ok b->H b=v9 o->ok' b/\H' b=v9 o) (g:∀ n a,ok.al n=v9 a->ok'.al n=v9 a:=by exact fun _ _ h=>h):∀ {v:V}{d:D},Rep K ok H v d->Rep K ok' H' v d
 |_,_,.non=>.non
 |_,_,.bl b=>.bl b
 |_,_,.int i=>.int i
 |_,_,.str x=>.str x
 |_,_,.lst h r=>.lst (h.mono f) (Reps.mono f g r)
 |_,_,.tup h r=>.tup (h.mono f) (Reps.mono f g r)
 |_,_,.obj e=>.obj (g _ _ e)
 |_,_,.scr h r=>.scr (h.mono f) (Reps.mono f g r)
theorem Reps.mono (f:∀ b o,ok b->H b=v9 o->ok' b/\H' b=v9 o) (g:∀ n a,ok.al n=v9 a->ok'.al n=v9 a:=by exact fun _ _ h=>h):∀ {vs:List V}{ds:List D},Reps K ok H vs ds->Reps K ok' H' vs ds
 |_,_,.nil=>.nil
 |_,_,.cons h r=>.cons (Rep.mono f g h) (Reps.mono f g r)
end
theorem Rep.same {v:V}{d:D} (e:Same H H') (h:Rep K ok H v d):Rep K ok H' v d:=h.mono fun b o k q=>⟨k,e b o q⟩
theorem Reps.same {vs:List V}{ds:List D} (e:Same H H') (h:Reps K ok H vs ds):Reps K ok H' vs ds:=h.mono fun b o k q=>⟨k,e b o q⟩
theorem Rep.non_inv (h:Rep K ok H v .non):v=.non:=by cases h;rfl
theorem Rep.bl_inv (h:Rep K ok H v (.bl b)):v=.bl b:=by cases h;rfl
theorem Rep.int_inv (h:Rep K ok H v (.int i)):v=.int i:=by cases h;rfl
theorem Rep.str_inv (h:Rep K ok H v (.str x)):v=.str x:=by cases h;rfl
theorem Rep.lst_inv (h:Rep K ok H v (.lst ds)):∃ a xs,v=.ref a/\RL K ok H a xs/\Reps K ok H xs ds:=by cases h;exact⟨_,_,rfl,‹_›,‹_›⟩
theorem Rep.tup_inv (h:Rep K ok H v (.tup ds)):∃ a xs,v=.ref a/\RT K ok H a xs/\Reps K ok H xs ds:=by cases h;exact⟨_,_,rfl,‹_›,‹_›⟩
theorem Rep.scr_inv (h:Rep K ok H v (.scr ds)):∃ a xs,v=.ref a/\RC K ok H a xs/\Reps K ok H xs ds:=by cases h;exact⟨_,_,rfl,‹_›,‹_›⟩
theorem Rep.obj_inv (h:Rep K ok H v (.obj n)):∃ a,v=.ref a/\ok.al n=v9 a:=by cases h;exact⟨_,rfl,‹_›⟩
theorem Reps.length:∀ {vs:List V}{ds:List D},Reps K ok H vs ds->vs.length=ds.length
 |_,_,.nil=>rfl
 |_,_,.cons _ r=>by rw[bw,bw,Reps.length r]
theorem Reps.get:∀ {vs:List V}{ds:List D}{i:Nat}{d:D},Reps K ok H vs ds->ds[i]?=v9 d->∃ v,vs[i]?=v9 v/\Rep K ok H v d
 |_,_,_,_,.nil,e=>by simp at e
 |_,_,0,_,.cons h _,e=>by
  simp at e;subst e;exact⟨_,rfl,h⟩
 |_,_,i+1,d,.cons _ r,e=>by
  obtain⟨v,h1,h2⟩:=Reps.get (i:=i) (d:=d) r (by simpa using e);exact⟨v,by simpa using h1,h2⟩
theorem Reps.getV:∀ {vs:List V}{ds:List D}{i:Nat}{v:V},Reps K ok H vs ds->vs[i]?=v9 v->∃ d,ds[i]?=v9 d/\Rep K ok H v d
 |_,_,_,_,.nil,e=>by simp at e
 |_,_,0,_,.cons h _,e=>by
  simp at e;subst e;exact⟨_,rfl,h⟩
 |_,_,i+1,v,.cons _ r,e=>by
  obtain⟨d,h1,h2⟩:=Reps.getV (i:=i) (v:=v) r (by simpa using e);exact⟨d,by simpa using h1,h2⟩
theorem Reps.append:∀ {vs ws:List V}{ds es:List D},Reps K ok H vs ds->Reps K ok H ws es->Reps K ok H (vs++ws) (ds++es)
 |_,_,_,_,.nil,s=>s
 |_,_,_,_,.cons h r,s=>.cons h (Reps.append r s)
theorem Reps.snoc (h:Reps K ok H vs ds) (q:Rep K ok H v d):Reps K ok H (vs++[v]) (ds++[d]):=h.append (.cons q .nil)
theorem Reps.take:∀ {vs:List V}{ds:List D} (n:Nat),Reps K ok H vs ds->Reps K ok H (vs.take n) (ds.take n)
 |_,_,0,_=>.nil
 |_,_,_+1,.nil=>.nil
 |_,_,n+1,.cons h r=>.cons h (Reps.take n r)
theorem Reps.drop:∀ {vs:List V}{ds:List D} (n:Nat),Reps K ok H vs ds->Reps K ok H (vs.drop n) (ds.drop n)
 |_,_,0,r=>r
 |_,_,_+1,.nil=>.nil
 |_,_,n+1,.cons _ r=>Reps.drop n r
theorem Reps.set (q:Rep K ok H v d):∀ {vs:List V}{ds:List D} (i:Nat),Reps K ok H vs ds->Reps K ok H (vs.set i v) (ds.set i d)
 |_,_,_,.nil=>.nil
 |_,_,0,.cons _ r=>.cons q r
 |_,_,i+1,.cons h r=>.cons h (Reps.set q i r)
theorem Reps.ints:∀(ns:List Int),Reps K ok H (ns.map V.int) (ns.map D.int)
 |[]=>.nil
 |n::ns=>.cons (.int n) (Reps.ints ns)
theorem Reps.of_ints:∀ {ns:List Int}{vs:List V},Reps K ok H vs (ns.map D.int)->vs=ns.map V.int
 |[],_,.nil=>rfl
 |n::ns,_,.cons h r=>by
  cases h;rw[Reps.of_ints r];rfl
theorem Rep.lst_new {p:af}{xs:List V}{ds:List D} (k:ok p) (n:H p=wb) (r:Reps K ok H xs ds):Rep K ok (upd H p (.lst xs)) (.ref p) (.lst ds):=
 .lst ⟨k,aM⟩ (r.mono fun b o q e=>⟨q,by rw[aF (aI e n)];exact e⟩)
theorem Rep.tup_new {p:af}{xs:List V}{ds:List D} (k:ok p) (n:H p=wb) (r:Reps K ok H xs ds):Rep K ok (upd H p (.tup xs)) (.ref p) (.tup ds):=
 .tup ⟨k,aM⟩ (r.mono fun b o q e=>⟨q,by rw[aF (aI e n)];exact e⟩)
end
theorem bX {H:Hp}{p:af}{o:HO} (n:H p=wb):Same H (upd H p o):=fun b u e=>by
 rw[aF (aI e n)];exact e
noncomputable abbrev Rho:=List (Option D)
noncomputable abbrev DF:=Rho->Option D
noncomputable abbrev DB:=Rho->Option Bool
noncomputable abbrev DL:=Rho->Option (List D)
structure OkH (ok:Okk) (H:Hp):Prop where
 fn:∀ b,H b=wb->ok b
 tp:∀ b xs,H b=v9 (.tup xs)->ok b
instance {ok:Okk}{H:Hp}:CoeFun (OkH ok H) (fun _=>∀ b,H b=wb->ok b):=⟨OkH.fn⟩
theorem OkH.same {ok:Okk}{H H':Hp} (h:OkH ok H) (e:Same H H'):OkH ok H':=⟨fun b n=>h b (e.free n),fun b xs q=>by
 cases z:H b with
 |none=>exact h b z
 |some o=>
  rw[e b o z] at q;cases q;exact h.tp b xs z⟩
noncomputable def EnvR (K:aa) (ok:Okk) (H:Hp) (σ:St) (ρ:Rho):Prop:=∀(i:Nat) (d:D),ρ[i]?=v9 (v9 d)->∃ v,σ[i]?=v9 (v9 v)/\Rep K ok H v d
theorem EnvR.same {K:aa}{ok:Okk}{H H':Hp}{σ:St}{ρ:Rho} (h:EnvR K ok H σ ρ) (e:Same H H'):EnvR K ok H' σ ρ:=fun i d q=>
 let ⟨v,a,b⟩:=h i d q
 ⟨v,a,b.same e⟩
noncomputable def tD (K:aa) (f:DF):TE:=fun σ H Q=>∃(ok:Okk) (ρ:Rho) (d:D),OkH ok H/\EnvR K ok H σ ρ/\f ρ=v9 d/\∀ v H',Same H H'->Rep K ok H' v d->Q v H'
noncomputable def tDA (K:aa) (f:DL):TA:=fun σ H Q=>∃(ok:Okk) (ρ:Rho) (ds:List D),OkH ok H/\EnvR K ok H σ ρ/\f ρ=v9 ds/\∀ vs H',Same H H'->Reps K ok H' vs ds->Q vs H'
noncomputable abbrev DE (X:Cx) (e:bx) (f:DF):Prop:=PE X e (tD X.K f)
noncomputable abbrev DA (X:Cx) (es:List bx) (f:DL):Prop:=PA X es (tDA X.K f)
theorem _root_.L2.PE.imp {X:Cx}{e:bx}{t t':TE} (h:PE X e t) (f:∀ σ H Q,t' σ H Q->t σ H Q):PE X e t':=fun pins s σ H Q I q=>h pins s σ H Q I (f _ _ _ q)
theorem _root_.L2.PT.imp {X:Cx}{e:bx}{t t':TT} (h:PT X e t) (f:∀ σ H Q,t' σ H Q->t σ H Q):PT X e t':=fun pins s σ H Q I q=>h pins s σ H Q I (f _ _ _ q)
theorem _root_.L2.PA.imp {X:Cx}{e:List bx}{t t':TA} (h:PA X e t) (f:∀ σ H Q,t' σ H Q->t σ H Q):PA X e t':=fun p pins s σ H Q I q=>h p pins s σ H Q I (f _ _ _ q)
theorem _root_.L2.PS.imp {X:Cx}{e:cx}{t t':TS} (h:PS X e t) (f:∀ D σ H,t' D σ H->t D σ H):PS X e t':=fun pins s σ H D I q=>h pins s σ H D I (f _ _ _ q)
theorem _root_.L2.PSs.imp {X:Cx}{e:List cx}{t t':TS} (h:PSs X e t) (f:∀ D σ H,t' D σ H->t D σ H):PSs X e t':=fun pins s σ H D I q=>h pins s σ H D I (f _ _ _ q)
noncomputable def aD (i:Nat):DF:=fun ρ=>ρ[i]?.join
noncomputable def dC (d:D):DF:=fun _=>v9 d
noncomputable def d1 (g:D->Option D) (f:DF):DF:=fun ρ=>(f ρ).bind g
noncomputable def Pe:DL:=fun _=>v9 []
noncomputable def Ky (f:DF) (r:DL):DL:=fun ρ=>(f ρ).bind fun d=>(r ρ).map fun ds=>d::ds
theorem bind_some {α β:Type}{o:Option α}{f:α->Option β}{b:β} (h:o.bind f=v9 b):∃ a,o=v9 a/\f a=v9 b:=by
 cases o with
 |none=>cases h
 |some a=>exact⟨a,rfl,h⟩
section
variable {X:Cx}{e a b:bx}{es:List bx}{f fa fb:DF}{fl:DL}{pos:Pos}
theorem Nq (h:PE X (.Name x pos) (Pr i)):DE X (.Name x pos) (aD i):=h.imp fun σ H Q ⟨ok,ρ,d,h1,h2,h3,h4⟩=>by
 have e:ρ[i]?=v9 (v9 d):=by
  unfold aD at h3;cases q:ρ[i]? with
  |none=>rw[q] at h3;cases h3
  |some o=>rw[q] at h3;cases o with
   |none=>cases h3
   |some d'=>cases h3;rfl
 obtain⟨v,e1,e2⟩:=h2 i d e;exact⟨v,e1,h4 v H (Same.refl H) e2⟩
theorem dv (i:Nat) (hN:X.N[i]?=v9 x:=by rfl) (hv:Vis X.env.scope x:=by first|exact Or.inl rfl|exact Or.inr (Or.inl rfl)|exact Or.inr (Or.inr rfl)) (hd:(x==("__debug__":Str))=false:=by decide)
  (hcd:(x==("__classdict__":Str))=false:=by decide):DE X (.Name x pos) (aD i):=Nq (LJ hN hv hd hcd)
theorem mP (h:PE X e (tC v)) (r:∀ K ok H,Rep K ok H v d):DE X e (dC d):=h.imp fun σ H Q ⟨ok,ρ,d',h1,h2,h3,h4⟩=>by
 cases h3;exact h4 v H (Same.refl H) (r _ _ _)
theorem Bf:DE X (.Constant (.int i) j pos) (dC (.int i)):=mP LO fun _ _ _=>.int i
theorem Pc {b j pos}:DE X (.Constant (.bool b) j pos) (dC (.bl b)):=mP Oo fun _ _ _=>.bl b
theorem Nr:DE X (.Constant .none j pos) (dC .non):=mP LN fun _ _ _=>.non
theorem EL:DE X (.Constant (.str x) j pos) (dC (.str x)):=mP LK fun _ _ _=>.str x
noncomputable def Fit2 (K:aa) (r:R2) (g:D->D->Option D):Prop:=∀(ok:Okk) (H:Hp) (x y:V) (a b d:D) (Q:VK),OkH ok H->Rep K ok H x a->Rep K ok H y b->g a b=v9 d->(∀ v H',Same H H'->Rep K ok H' v d->Q v H')->r x y H Q
noncomputable def QF (K:aa) (r:V->Hp->VK->Prop) (g:D->Option D):Prop:=∀(ok:Okk) (H:Hp) (x:V) (a d:D) (Q:VK),OkH ok H->Rep K ok H x a->g a=v9 d->(∀ v H',Same H H'->Rep K ok H' v d->Q v H')->r x H Q
noncomputable def FitL (K:aa) (r:List V->Hp->VK->Prop) (g:List D->Option D):Prop:=∀(ok:Okk) (H:Hp) (xs:List V) (as:List D) (d:D) (Q:VK),OkH ok H->Reps K ok H xs as->g as=v9 d->(∀ v H',Same H H'->Rep K ok H' v d->Q v H')->r xs H Q
noncomputable def toB:D->Option Bool
 |.bl b=>v9 b
 |_=>wb
theorem mU (h:toB d=v9 k):d=.bl k:=by
 cases d with
 |bl b=>cases h;rfl
 |_=>cases h
theorem Pb (ho:UnR X (unaryOp op) r) (F:QF X.K r g) (ha:DE X a fa):DE X (.UnaryOp op a pos) (d1 g fa):=
 (Oh ho ha).imp fun σ H Q ⟨ok,ρ,d,h1,h2,h3,h4⟩=>by
  obtain⟨x,e1,h3⟩:=bind_some h3;exact⟨ok,ρ,x,h1,h2,e1,fun v H1 s1 r1=>F ok H1 v x d Q (h1.same s1) r1 h3 fun w H3 s3 r3=>h4 w H3 (s1.trans s3) r3⟩
theorem Nt:DA X [] Pe:=(PA.imp qT) fun σ H Q ⟨ok,ρ,d,h1,h2,h3,h4⟩=>by
 cases h3;exact h4 [] H (Same.refl H) .nil
theorem Ku (ha:DE X e f) (hr:DA X es fl) (hs:aq (e::es) X.env=(false,eval e X.env)::aq es X.env:=by rfl):DA X (e::es) (Ky f fl):=
 (gK ha hr hs).imp fun σ H Q ⟨ok,ρ,ds,h1,h2,h3,h4⟩=>by
  obtain⟨x,e1,h3⟩:=bind_some h3;cases e2:fl ρ with
  |none=>rw[e2] at h3;cases h3
  |some r=>
   rw[e2] at h3;cases h3;exact⟨ok,ρ,x,h1,h2,e1,fun v H1 s1 r1=>⟨ok,ρ,r,h1.same s1,h2.same s1,e2,fun vs H2 s2 r2=>h4 (v::vs) H2 (s1.trans s2) (.cons (r1.same s2) r2)⟩⟩
noncomputable def dQ (ds:List D):Option D:=if ds.length<=sizeLine then v9 (.tup ds) else wb
noncomputable def gC (ds:List D):Option D:=if ds.length<=sizeLine then v9 (.lst ds) else wb
theorem bE {α:Type}{c:Prop} [Decidable c] {a b:α} (h:(if c then v9 a else wb)=v9 b):c/\a=b:=by
 by_cases hc:c
 ·rw[if_pos hc] at h;exact⟨hc,b8 h⟩
 ·rw[if_neg hc] at h;cases h
end
end L2.MB
end
section
namespace L2.MB
noncomputable def gI (g:Int->Int->Option D) (a b:D):Option D:=match a,b with
 |.int i,.int j=>g i j
 |_,_=>wb
theorem Ik (h:gI g a b=v9 d):∃ i j,a=.int i/\b=.int j/\g i j=v9 d:=by
 unfold gI at h;split at h
 ·exact⟨_,_,rfl,rfl,h⟩
 ·cases h
noncomputable abbrev pZ:=gI fun i j=>v9 (.int (i+j))
noncomputable abbrev gSub:=gI fun i j=>v9 (.int (i-j))
noncomputable abbrev iC:=gI fun i j=>if(-1000000000000000000<i/\i<1000000000000000000)∨(-1000000000000000000<j/\j<1000000000000000000) then v9 (.int (i*j)) else wb
noncomputable abbrev cC:=gI fun i j=>if 0<j then v9 (.int (i % j)) else wb
noncomputable abbrev gLt:=gI fun i j=>v9 (.bl (decide (i<j)))
noncomputable abbrev gLe:=gI fun i j=>v9 (.bl (decide (i<=j)))
noncomputable abbrev gGt:=gI fun i j=>v9 (.bl (decide (j<i)))
theorem lV {K:aa}{g':Int->Int->D} (r:∀ i j ok H,Rep K ok H (g i j) (g' i j)):Fit2 K (rI0 g) (gI fun i j=>v9 (g' i j)):=fun ok H x y a b d Q h1 ra rb e k=>by
 obtain⟨i,j,rfl,rfl,e⟩:=Ik e;cases e;exact⟨i,j,ra.int_inv,rb.int_inv,k _ H (Same.refl H) (r i j ok H)⟩
theorem Nk {K:aa}{C C':Int->Int->Prop} [∀ i j,Decidable (C' i j)] {g:Int->Int->V}{g':Int->Int->D} (hC:∀ i j,C' i j->C i j) (r:∀ i j ok H,Rep K ok H (g i j) (g' i j)):
  Fit2 K (rI C g) (gI fun i j=>if C' i j then v9 (g' i j) else wb):=fun ok H x y a b d Q h1 ra rb e k=>by
 obtain⟨i,j,rfl,rfl,e⟩:=Ik e;obtain⟨hc,rfl⟩:=bE e;exact⟨i,j,ra.int_inv,rb.int_inv,hC i j hc,k _ H (Same.refl H) (r i j ok H)⟩
section
variable {X:Cx}{e a b c:bx}{es:List bx}{f fa fb fc:DF}{fl:DL}{pos:Pos}
noncomputable def Ij (a:D):Option D:=match a with
 |.int i=>v9 (.int (-i))
 |_=>wb
theorem Io (ha:DE X a fa):DE X (.UnaryOp .USub a pos) (d1 Ij fa):=Pb KY (fun ok H x a d Q h1 r e k=>by
 cases a with
 |int i=>cases e;exact⟨i,r.int_inv,k _ H (Same.refl H) (.int _)⟩
 |_=>cases e) ha
noncomputable def Pq:D->Option Bool
 |.non=>v9 false
 |.bl b=>v9 b
 |.int i=>v9 (i !=0)
 |.str x=>if x.length<=sizeLine then v9 ((x.length:Int) !=0) else wb
 |.lst ds=>v9 (!ds.isEmpty)
 |.tup ds=>v9 (!ds.isEmpty)
 |.obj _=>wb
 |.scr ds=>v9 (!ds.isEmpty)
theorem Reps.isEmpty {K:aa} (h:Reps K ok H vs ds):vs.isEmpty=ds.isEmpty:=by cases h <;> rfl
theorem Iv {K:aa} (h:Rep K ok H v d) (e:Pq d=v9 k):Pg K v H k:=by
 cases h with
 |non=>cases e;exact rfl
 |bl b=>cases e;exact rfl
 |int i=>cases e;exact rfl
 |str x=>
  obtain⟨hz,rfl⟩:=bE e;exact⟨hz,rfl⟩
 |lst h r=>
  cases e;exact .inl ⟨_,h.sq,by rw[r.isEmpty]⟩
 |tup h r=>
  cases e;exact .inr (.inl ⟨_,h.sq,by rw[r.isEmpty]⟩)
 |obj _=>cases e
 |scr h r=>
  cases e;exact .inl ⟨_,h.sq,by rw[r.isEmpty]⟩
theorem _root_.L2.PW.imp {X:Cx}{e:bx}{t t':TT} (h:PW X e t) (f:∀ σ H Q,t' σ H Q->t σ H Q):PW X e t':=fun wh pins s σ H Q I q=>h wh pins s σ H Q I (f _ _ _ q)
variable {ba bb:DB}{rest:List bx}
noncomputable def Qv (a:D):Option D:=(toB a).map fun k=>.bl (!k)
noncomputable def Kk (a b:D):Option D:=match a,b with
 |.str x,.str y=>if x.length+y.length<=sizeLine then v9 (.str (x++y)) else wb
 |_,_=>wb
noncomputable def gIx (a b:D):Option D:=match a,b with
 |.lst ds,.int i=>atI ds i
 |.scr ds,.int i=>atI ds i
 |.tup ds,.int i=>atI ds i
 |.str x,.int i=>if x.length<=sizeLine then(atI x.cps.toList i).map fun c=>.str ⟨#[c]⟩ else wb
 |_,_=>wb
theorem Reps.atI {K:aa} (h:Reps K ok H vs ds) (e:L2.atI ds i=v9 d):∃ v,L2.atI vs i=v9 v/\Rep K ok H v d:=by
 unfold L2.atI at e ⊢;rw[h.length];cases q:ixN ds.length i with
 |none=>rw[q] at e;cases e
 |some j=>
  rw[q] at e;exact h.get e
noncomputable def Ch (ds:List D) (lo hi:Option Int):List D:=(ds.drop (HT.sIx ds.length 0 lo)).take (HT.sIx ds.length ds.length hi-HT.sIx ds.length 0 lo)
theorem Reps.cut {K:aa} (h:Reps K ok H vs ds) (lo hi:Option Int):Reps K ok H (Ip vs lo hi) (Ch ds lo hi):=by
 unfold Ip Ch;rw[h.length];exact(h.drop _).take _
noncomputable abbrev DO:=Rho->Option (Option Int)
noncomputable def tDO (K:aa) (f:DO):TO:=fun σ H Q=>∃(ok:Okk) (ρ:Rho) (o:Option Int),OkH ok H/\EnvR K ok H σ ρ/\f ρ=v9 o/\∀ H',Same H H'->Q o H'
theorem _root_.L2.PO.imp {X:Cx}{e:Option bx}{t t':TO} (h:PO X e t) (f:∀ σ H Q,t' σ H Q->t σ H Q):PO X e t':=fun pins s σ H Q I q=>h pins s σ H Q I (f _ _ _ q)
noncomputable abbrev DOp (X:Cx) (e:Option bx) (f:DO):Prop:=PO X e (tDO X.K f)
noncomputable def dNo:DO:=fun _=>v9 wb
noncomputable def toI:D->Option Int
 |.int i=>v9 i
 |_=>wb
theorem xL (h:toI d=v9 i):d=.int i:=by
 cases d with
 |int b=>cases h;rfl
 |_=>cases h
noncomputable def dSo (f:DF):DO:=fun ρ=>(f ρ).bind fun d=>(toI d).map v9
theorem Kt:DOp X wb dNo:=PO.imp IS fun σ H Q ⟨ok,ρ,o,h1,h2,h3,h4⟩=>by
 cases h3;exact h4 H (Same.refl H)
theorem Ks (h:DE X e f):DOp X (v9 e) (dSo f):=PO.imp (IR h) fun σ H Q ⟨ok,ρ,o,h1,h2,h3,h4⟩=>by
 obtain⟨d,e1,e2⟩:=bind_some h3;cases e3:toI d with
 |none=>rw[e3] at e2;cases e2
 |some i=>
  rw[e3] at e2;cases e2;obtain rfl:=xL e3;exact⟨ok,ρ,_,h1,h2,e1,fun v H1 s1 r1=>⟨i,r1.int_inv,h4 H1 s1⟩⟩
noncomputable def gSl (a:D) (lo hi:Option Int):Option D:=match a with
 |.lst ds=>v9 (.lst (Ch ds lo hi))
 |.scr ds=>v9 (.lst (Ch ds lo hi))
 |.tup ds=>if HT.sIx ds.length 0 lo=0/\HT.sIx ds.length ds.length hi=ds.length then wb else v9 (.tup (Ch ds lo hi))
 |_=>wb
noncomputable def OU (ds:List D):Option D:=match ds with
 |[.lst xs]=>v9 (.int xs.length)
 |[.scr xs]=>v9 (.int xs.length)
 |[.tup xs]=>v9 (.int xs.length)
 |[.str x]=>if x.length<=sizeLine then v9 (.int x.length) else wb
 |_=>wb
theorem Reps.one_inv {K:aa} (h:Reps K ok H vs [d]):∃ v,vs=[v]/\Rep K ok H v d:=by
 cases h with
 |cons a r=>cases r;exact⟨_,rfl,a⟩
theorem Reps.two_inv {K:aa} (h:Reps K ok H vs [d,d']):∃ v v',vs=[v,v']/\Rep K ok H v d/\Rep K ok H v' d':=by
 cases h with
 |cons a r=>
  obtain⟨v',rfl,b⟩:=r.one_inv;exact⟨_,_,rfl,a,b⟩
theorem Kn {K:aa}:FitL K (fun xs H Q=>∃ x n,xs=[x]/\Po K x H n/\Q (.int n) H) OU:=fun ok H xs as d Q h1 r e k=>by
 unfold OU at e;split at e
 ·cases e;obtain⟨v,rfl,r1⟩:=r.one_inv;obtain⟨p,ys,rfl,g,r2⟩:=r1.lst_inv;exact⟨_,_,rfl,.inl ⟨_,g.sq,r2.length.symm⟩,k _ H (Same.refl H) (.int _)⟩
 ·cases e;obtain⟨v,rfl,r1⟩:=r.one_inv;obtain⟨p,ys,rfl,g,r2⟩:=r1.scr_inv;exact⟨_,_,rfl,.inl ⟨_,g.sq,r2.length.symm⟩,k _ H (Same.refl H) (.int _)⟩
 ·cases e;obtain⟨v,rfl,r1⟩:=r.one_inv;obtain⟨p,ys,rfl,g,r2⟩:=r1.tup_inv;exact⟨_,_,rfl,.inr ⟨_,g.sq,r2.length.symm⟩,k _ H (Same.refl H) (.int _)⟩
 ·obtain⟨hz,rfl⟩:=bE e;obtain⟨v,rfl,r1⟩:=r.one_inv;obtain rfl:=r1.str_inv;exact⟨_,_,rfl,⟨hz,rfl⟩,k _ H (Same.refl H) (.int _)⟩
 ·cases e
end
noncomputable def jO (f:D->D->Option Bool):List D->List D->Option Bool
 |[],_=>v9 true
 |_::_,[]=>v9 true
 |x::xs,y::ys=>(f x y).bind fun b=>(jO f xs ys).map fun c=>b&&c
noncomputable def eqS:D->D->Bool
 |.non,.non=>true
 |.bl a,.bl b=>a==b
 |.bl a,.int b=>(if a then 1 else 0)==b
 |.int a,.bl b=>a==(if b then 1 else 0)
 |.int a,.int b=>a==b
 |.str a,.str b=>a==b
 |_,_=>false
noncomputable def eqD:Nat->D->D->Option Bool
 |n+1,.lst xs,.lst ys=>if xs.length=ys.length then jO (eqD n) xs ys else v9 false
 |n+1,.tup xs,.tup ys=>(jO (eqD n) xs ys).map fun k=>k&&xs.length==ys.length
 |0,.lst _,.lst _=>wb
 |0,.tup _,.tup _=>wb
 |_,.obj _,_=>wb
 |_,_,.obj _=>wb
 |_,.scr _,_=>wb
 |_,_,.scr _=>wb
 |_,a,b=>v9 (eqS a b)
noncomputable def eAt (f:D->D->Option Bool) (xs ys:List D) (j:Nat):Bool:=match xs[j]?,ys[j]? with
 |some x,v9 y=>(f x y).getD false
 |_,_=>false
theorem gY:∀ {xs ys:List D}{k:Bool}{j:Nat}{x y:D},jO f xs ys=v9 k->xs[j]?=v9 x->ys[j]?=v9 y->f x y=v9 (eAt f xs ys j)
 |[],_,_,_,_,_,_,h,_=>by simp at h
 |_::_,[],_,_,_,_,_,_,h=>by simp at h
 |x'::xs,y'::ys,k,j,x,y,h,h1,h2=>by
  obtain⟨b,e1,e2⟩:=bind_some h;cases q:jO f xs ys with
  |none=>rw[q] at e2;cases e2
  |some c=>
   cases j with
   |zero=>
    simp at h1 h2;subst h1 h2;simp[eAt,e1]
   |succ j=>
    simp at h1 h2
    have:=gY q h1 h2
    simpa [eAt] using this
theorem lC:∀ {xs ys:List D}{k:Bool},jO f xs ys=v9 k->k=(bz (min xs.length ys.length)).all (eAt f xs ys)
 |[],ys,k,h=>by
  cases h;simp
 |_::_,[],k,h=>by
  cases h;simp
 |x::xs,y::ys,k,h=>by
  obtain⟨b,e1,e2⟩:=bind_some h;cases q:jO f xs ys with
  |none=>rw[q] at e2;cases e2
  |some c=>
   rw[q] at e2;cases e2;have ih:=lC q;have em:min (x::xs).length (y::ys).length=min xs.length ys.length+1:=by
    rw[bw,bw];omega
   rw[em,qz,List.all_cons,List.all_map];have e0:eAt f (x::xs) (y::ys) 0=b:=by simp[eAt,e1]
   have e3:(eAt f (x::xs) (y::ys)∘Nat.succ)=eAt f xs ys:=by
    funext j
    simp[eAt]
   rw[e0,e3,ih]
theorem cQ (n m:Nat) (b:D):eqD n (.obj m) b=wb:=by cases n <;> cases b <;> rfl
theorem bJ (n m:Nat) (a:D):eqD n a (.obj m)=wb:=by cases n <;> cases a <;> rfl
theorem cP (n:Nat) (m:List D) (b:D):eqD n (.scr m) b=wb:=by cases n <;> cases b <;> rfl
theorem bI (n:Nat) (m:List D) (a:D):eqD n a (.scr m)=wb:=by cases n <;> cases a <;> rfl
section
variable {X:Cx}{pins:List (af×Obj)}{σ:St}{H:Hp}{s:am}{ok ok':Okk}
theorem eL {A:di} (h:A.units+(n+1)<dn):A.in1.units+n<dn:=by
 show A.units+1+n<dn;omega
theorem iO (I:Inv X pins σ H s) (h:RL X.K ok H a xs) (g:RT X.K ok' H a ys):False:=by
 obtain⟨_,_,⟨o,n,e,c,_,_⟩,_⟩:=I.list h.sq;obtain⟨_,_,⟨o',e',c',_⟩,_⟩:=I.tuple g.sq;rw[e] at e';cases e';rw[c] at c';exact absurd c' (by decide)
theorem pB (ih:∀ {v:V}{a b:D}{k:Bool},Rep X.K ok H v a->Rep X.K ok' H v b->eqD n a b=v9 k->k=true):∀ {vs:List V}{ds es:List D}{k:Bool},Reps X.K ok H vs ds->Reps X.K ok' H vs es->jO (eqD n) ds es=v9 k->k=true
 |_,_,_,_,.nil,.nil,h=>by cases h;rfl
 |_,_,_,_,.cons r rs,.cons q qs,h=>by
  obtain⟨b,e1,e2⟩:=bind_some h;cases z:jO (eqD n) _ _ with
  |none=>rw[z] at e2;cases e2
  |some c=>
   rw[z] at e2;cases e2;rw[ih r q e1,pB ih rs qs z];rfl
theorem Hj (I:Inv X pins σ H s):∀(n:Nat) {v:V}{a b:D}{k:Bool},Rep X.K ok H v a->Rep X.K ok' H v b->eqD n a b=v9 k->k=true:=by
 intro n
 induction n with
 |zero=>
  intro v a b k ra rb e;cases ra with
  |lst g r=>cases rb with
   |lst g' r'=>cases e
   |tup g' r'=>exact(iO I g g').elim
   |obj _=>rw[bJ] at e;cases e
   |scr _ _=>rw[bI] at e;cases e
  |tup g r=>cases rb with
   |tup g' r'=>cases e
   |lst g' r'=>exact(iO I g' g).elim
   |obj _=>rw[bJ] at e;cases e
   |scr _ _=>rw[bI] at e;cases e
  |obj _=>rw[cQ] at e;cases e
  |scr _ _=>rw[cP] at e;cases e
  |_=>cases rb;cases e;simp[eqS]
 |succ n ih=>
  intro v a b k ra rb e;cases ra with
  |@lst p xs ds g r=>cases rb with
   |@lst _ xs' ds' g' r'=>
    obtain rfl:=I.list_inj g.sq g'.sq;have e':(if ds.length=ds'.length then jO (eqD n) ds ds' else v9 false)=v9 k:=e;rw[if_pos (by rw[<- r.length,<- r'.length])] at e';exact pB ih r r' e'
   |tup g' r'=>exact(iO I g g').elim
   |obj _=>rw[bJ] at e;cases e
   |scr _ _=>rw[bI] at e;cases e
  |@tup p xs ds g r=>cases rb with
   |@tup _ xs' ds' g' r'=>
    obtain rfl:=I.tuple_inj g.sq g'.sq;have e':((jO (eqD n) ds ds').map fun k=>k&&ds.length==ds'.length)=v9 k:=e;have hl:ds.length=ds'.length:=by rw[<- r.length,<- r'.length]
    cases q:jO (eqD n) ds ds' with
    |none=>rw[q] at e';cases e'
    |some c=>
     rw[q] at e';cases e';rw[pB ih r r' q,hl];simp
   |lst g' r'=>exact(iO I g' g).elim
   |obj _=>rw[bJ] at e;cases e
   |scr _ _=>rw[bI] at e;cases e
  |obj _=>rw[cQ] at e;cases e
  |scr _ _=>rw[cP] at e;cases e
  |_=>cases rb;cases e;simp[eqS]
theorem pD (ih:∀ {v:V}{a b c:D}{k k':Bool},Rep X.K ok H v a->Rep X.K ok' H v b->eqD n a c=v9 k->eqD n b c=v9 k'->k=k'):∀ {vs:List V}{ds es as:List D}{k k':Bool},Reps X.K ok H vs ds->Reps X.K ok' H vs es->jO (eqD n) ds as=v9 k->jO (eqD n) es as=v9 k'->k=k'
 |_,_,_,_,_,_,.nil,.nil,h,h'=>by cases h;cases h';rfl
 |_,_,_,[],_,_,.cons r rs,.cons q qs,h,h'=>by cases h;cases h';rfl
 |_,_,_,a::as,_,_,.cons r rs,.cons q qs,h,h'=>by
  obtain⟨b,e1,e2⟩:=bind_some h;obtain⟨b',e1',e2'⟩:=bind_some h';cases z:jO (eqD n) _ as with
  |none=>rw[z] at e2;cases e2
  |some c=>
   rw[z] at e2;cases e2;cases z':jO (eqD n) _ as with
   |none=>rw[z'] at e2';cases e2'
   |some c'=>
    rw[z'] at e2';cases e2';rw[ih r q e1 e1',pD ih rs qs z z']
theorem Hl (I:Inv X pins σ H s):∀(n:Nat) {v:V}{a b c:D}{k k':Bool},Rep X.K ok H v a->Rep X.K ok' H v b->eqD n a c=v9 k->eqD n b c=v9 k'->k=k':=by
 intro n
 induction n with
 |zero=>
  intro v a b c k k' ra rb e e';cases ra with
  |lst g r=>cases rb with
   |lst g' r'=>cases c <;> first|(cases e;done)|(cases e;cases e';rfl)
   |tup g' r'=>exact(iO I g g').elim
   |obj _=>rw[cQ] at e';cases e'
   |scr _ _=>rw[cP] at e';cases e'
  |tup g r=>cases rb with
   |tup g' r'=>cases c <;> first|(cases e;done)|(cases e;cases e';rfl)
   |lst g' r'=>exact(iO I g' g).elim
   |obj _=>rw[cQ] at e';cases e'
   |scr _ _=>rw[cP] at e';cases e'
  |obj _=>rw[cQ] at e;cases e
  |scr _ _=>rw[cP] at e;cases e
  |_=>cases rb;rw[e] at e';cases e';rfl
 |succ n ih=>
  intro v a b c k k' ra rb e e';cases ra with
  |@lst p xs ds g r=>cases rb with
   |@lst _ xs' ds' g' r'=>
    obtain rfl:=I.list_inj g.sq g'.sq;have hl:ds.length=ds'.length:=by rw[<- r.length,<- r'.length]
    cases c with
    |lst cs=>
     have e1:(if ds.length=cs.length then jO (eqD n) ds cs else v9 false)=v9 k:=e;have e2:(if ds'.length=cs.length then jO (eqD n) ds' cs else v9 false)=v9 k':=e';rw[<- hl] at e2
     by_cases z:ds.length=cs.length
     ·rw[if_pos z] at e1 e2;exact pD ih r r' e1 e2
     ·rw[if_neg z] at e1 e2;cases e1;cases e2;rfl
    |_=>first|(cases e;done)|(cases e;cases e';rfl)
   |tup g' r'=>exact(iO I g g').elim
   |obj _=>rw[cQ] at e';cases e'
   |scr _ _=>rw[cP] at e';cases e'
  |@tup p xs ds g r=>cases rb with
   |@tup _ xs' ds' g' r'=>
    obtain rfl:=I.tuple_inj g.sq g'.sq;have hl:ds.length=ds'.length:=by rw[<- r.length,<- r'.length]
    cases c with
    |tup cs=>
     have e1:((jO (eqD n) ds cs).map fun k=>k&&ds.length==cs.length)=v9 k:=e;have e2:((jO (eqD n) ds' cs).map fun k=>k&&ds'.length==cs.length)=v9 k':=e';rw[<- hl] at e2;cases q:jO (eqD n) ds cs with
     |none=>rw[q] at e1;cases e1
     |some x=>
      cases q':jO (eqD n) ds' cs with
      |none=>rw[q'] at e2;cases e2
      |some x'=>
       rw[q] at e1;rw[q'] at e2;cases e1;cases e2;rw[pD ih r r' q q']
    |_=>first|(cases e;done)|(cases e;cases e';rfl)
   |lst g' r'=>exact(iO I g' g).elim
   |obj _=>rw[cQ] at e';cases e'
   |scr _ _=>rw[cP] at e';cases e'
  |obj _=>rw[cQ] at e;cases e
  |scr _ _=>rw[cP] at e;cases e
  |_=>cases rb;rw[e] at e';cases e';rfl
theorem yX (I:Inv X pins σ H s) (n:Nat) (ra:Rep X.K ok H x a) (rb:Rep X.K ok' H y b) (rv:RelV x v) (ru:RelV y u) (e:eqD n a b=v9 k) (hrc:vk A s v u k):vd A s v u k:=by
 by_cases hs:v=u
 ·subst hs;obtain rfl:=rv.inj ru;rw[Hj I n ra rb e];exact SeqAt.EqAt.same v
 ·intro prog w E Q hq;unfold eqBool;refine ig ?_;refine wpAny_ite_split (fun hab=>absurd (eq_of_beq hab) hs) (fun _=> ?_);cases ra with
  |non=>cases rv;exact ae (hrc prog w E _ (dm hq))
  |bl b=>cases rv;exact ae (hrc prog w E _ (dm hq))
  |int i=>obtain⟨t,rfl⟩:=rv;exact ae (hrc prog w E _ (dm hq))
  |str z=>obtain⟨t,rfl⟩:=rv;exact ae (hrc prog w E _ (dm hq))
  |lst _ _=>cases rv;exact ae (hrc prog w E _ (dm hq))
  |tup _ _=>cases rv;exact ae (hrc prog w E _ (dm hq))
  |obj _=>rw[cQ] at e;cases e
  |scr _ _=>rw[cP] at e;cases e
theorem HN (I:Inv X pins σ H s) (n:Nat):∀ {A:di}{a b:D}{x y:V}{v u:ag}{k:Bool},Rep X.K ok H x a->Rep X.K ok' H y b->RelV x v->RelV y u->eqD n a b=v9 k->A.units+n<dn->vk A s v u k:=by
 induction n using Nat.strongRecOn with
 |_ n ih=>
  intro A a b x y v u k ra rb rv ru e hu;have hu0:A.units<dn:=by omega
  cases ra with
  |non=>
   cases rv;cases rb with
   |non=>cases ru;cases n <;> cases e <;> exact SeqAt.RcAt.none_none
   |obj _=>rw[bJ] at e;cases e
   |scr _ _=>rw[bI] at e;cases e
   |bl b=>cases ru;cases n <;> cases e <;> exact SeqAt.RcAt.none_bool b
   |int b=>obtain⟨t,rfl⟩:=ru;cases n <;> cases e <;> exact SeqAt.RcAt.none_int b t
   |str b=>obtain⟨t,rfl⟩:=ru;cases n <;> cases e <;> exact SeqAt.RcAt.none_str b t
   |lst g r=>cases ru;obtain⟨its,_,pl,_⟩:=I.list g.sq;cases n <;> cases e <;> exact SeqAt.RcAt.none_list pl.isList hu0
   |tup g r=>cases ru;obtain⟨its,_,pl,_⟩:=I.tuple g.sq;cases n <;> cases e <;> exact SeqAt.RcAt.none_tuple pl hu0
  |bl a=>
   cases rv;cases rb with
   |non=>cases ru;cases n <;> cases e <;> exact SeqAt.RcAt.bool_none a
   |obj _=>rw[bJ] at e;cases e
   |scr _ _=>rw[bI] at e;cases e
   |bl b=>cases ru;cases n <;> cases e <;> exact SeqAt.RcAt.bool_bool a b
   |int b=>obtain⟨t,rfl⟩:=ru;cases n <;> cases e <;> exact SeqAt.RcAt.bool_int a b t
   |str b=>obtain⟨t,rfl⟩:=ru;cases n <;> cases e <;> exact SeqAt.RcAt.bool_str a b t
   |lst g r=>cases ru;obtain⟨its,_,pl,_⟩:=I.list g.sq;cases n <;> cases e <;> exact SeqAt.RcAt.bool_list a pl.isList hu0
   |tup g r=>cases ru;obtain⟨its,_,pl,_⟩:=I.tuple g.sq;cases n <;> cases e <;> exact SeqAt.RcAt.bool_tuple a pl hu0
  |int a=>
   obtain⟨t',rfl⟩:=rv;cases rb with
   |non=>cases ru;cases n <;> cases e <;> exact SeqAt.RcAt.int_none a t'
   |obj _=>rw[bJ] at e;cases e
   |scr _ _=>rw[bI] at e;cases e
   |bl b=>cases ru;cases n <;> cases e <;> exact SeqAt.RcAt.int_bool a t' b
   |int b=>obtain⟨t,rfl⟩:=ru;cases n <;> cases e <;> exact SeqAt.RcAt.int_int a t' b t
   |str b=>obtain⟨t,rfl⟩:=ru;cases n <;> cases e <;> exact SeqAt.RcAt.int_str a t' b t
   |lst g r=>cases ru;obtain⟨its,_,pl,_⟩:=I.list g.sq;cases n <;> cases e <;> exact SeqAt.RcAt.int_list a t' pl.isList hu0
   |tup g r=>cases ru;obtain⟨its,_,pl,_⟩:=I.tuple g.sq;cases n <;> cases e <;> exact SeqAt.RcAt.int_tuple a t' pl hu0
  |str a=>
   obtain⟨t',rfl⟩:=rv;cases rb with
   |non=>cases ru;cases n <;> cases e <;> exact SeqAt.RcAt.str_none a t'
   |obj _=>rw[bJ] at e;cases e
   |scr _ _=>rw[bI] at e;cases e
   |bl b=>cases ru;cases n <;> cases e <;> exact SeqAt.RcAt.str_bool a t' b
   |int b=>obtain⟨t,rfl⟩:=ru;cases n <;> cases e <;> exact SeqAt.RcAt.str_int a t' b t
   |str b=>obtain⟨t,rfl⟩:=ru;cases n <;> cases e <;> exact SeqAt.RcAt.str_str a t' b t
   |lst g r=>cases ru;obtain⟨its,_,pl,_⟩:=I.list g.sq;cases n <;> cases e <;> exact SeqAt.RcAt.str_list a t' pl.isList hu0
   |tup g r=>cases ru;obtain⟨its,_,pl,_⟩:=I.tuple g.sq;cases n <;> cases e <;> exact SeqAt.RcAt.str_tuple a t' pl hu0
  |obj _=>rw[cQ] at e;cases e
  |scr _ _=>rw[cP] at e;cases e
  |@lst p xs ds g r=>
   cases rv;obtain⟨its,rr,pl,_⟩:=I.list g.sq;cases rb with
   |non=>cases ru;cases n <;> cases e <;> exact SeqAt.RcAt.list_none pl.isList hu0
   |obj _=>rw[bJ] at e;cases e
   |scr _ _=>rw[bI] at e;cases e
   |bl b=>cases ru;cases n <;> cases e <;> exact SeqAt.RcAt.list_bool b pl.isList hu0
   |int b=>obtain⟨t,rfl⟩:=ru;cases n <;> cases e <;> exact SeqAt.RcAt.list_int b t pl.isList hu0
   |str b=>obtain⟨t,rfl⟩:=ru;cases n <;> cases e <;> exact SeqAt.RcAt.list_str b t pl.isList hu0
   |tup g' r'=>cases ru;obtain⟨its',_,pl',_⟩:=I.tuple g'.sq;cases n <;> cases e <;> exact SeqAt.RcAt.list_tuple pl.isList pl' hu0
   |@lst p' xs' ds' g' r'=>
    cases ru;obtain⟨its',rr',pl',_⟩:=I.list g'.sq;have l1:its.toArray.size=ds.length:=by rw[bc,<- rr.length,r.length]
    have l2:its'.toArray.size=ds'.length:=by rw[bc,<- rr'.length,r'.length]
    cases n with
    |zero=>cases e
    |succ n=>
     have e':(if ds.length=ds'.length then jO (eqD n) ds ds' else v9 false)=v9 k:=e
     by_cases hl:ds.length=ds'.length
     ·rw[if_pos hl] at e';have hk:k=(bz its.toArray.size).all (eAt (eqD n) ds ds'):=by
       rw[lC e',l1,<- hl,ir]
      rw[hk];refine SeqAt.RcAt.lists pl.isList pl'.isList (by rw[l1,l2,hl]) hu0 fun j h1 h2=> ?_;obtain⟨d,hd,rd⟩:=r.getV (i:=j) (v:=xs[j]'(by rw[r.length,<- l1];exact h1)) (by simp);obtain⟨d',hd',rd'⟩:=r'.getV (i:=j) (v:=xs'[j]'(by rw[r'.length,<- l2];exact h2)) (by simp);obtain⟨w,hw,rw1⟩:=rr.get (i:=j) (x:=xs[j]'(by rw[r.length,<- l1];exact h1)) (by simp);obtain⟨w',hw',rw2⟩:=rr'.get (i:=j) (x:=xs'[j]'(by rw[r'.length,<- l2];exact h2)) (by simp);have ew:its.toArray[j]=w:=by
       obtain⟨_,q⟩:=bg.mp hw;simpa using q
      have ew':its'.toArray[j]=w':=by
       obtain⟨_,q⟩:=bg.mp hw';simpa using q
      rw[ew,ew'];exact yX I n rd rd' rw1 rw2 (gY e' hd hd') (ih n (m7 n) rd rd' rw1 rw2 (gY e' hd hd') (eL hu))
     ·rw[if_neg hl] at e';cases e';exact SeqAt.RcAt.lists_lengths pl.isList pl'.isList (by rw[l1,l2];simpa using hl) hu0
  |@tup p xs ds g r=>
   cases rv;obtain⟨its,rr,pl,_⟩:=I.tuple g.sq;cases rb with
   |non=>cases ru;cases n <;> cases e <;> exact SeqAt.RcAt.tuple_none pl hu0
   |obj _=>rw[bJ] at e;cases e
   |scr _ _=>rw[bI] at e;cases e
   |bl b=>cases ru;cases n <;> cases e <;> exact SeqAt.RcAt.tuple_bool b pl hu0
   |int b=>obtain⟨t,rfl⟩:=ru;cases n <;> cases e <;> exact SeqAt.RcAt.tuple_int b t pl hu0
   |str b=>obtain⟨t,rfl⟩:=ru;cases n <;> cases e <;> exact SeqAt.RcAt.tuple_str b t pl hu0
   |lst g' r'=>cases ru;obtain⟨its',_,pl',_⟩:=I.list g'.sq;cases n <;> cases e <;> exact SeqAt.RcAt.tuple_list pl pl'.isList hu0
   |@tup p' xs' ds' g' r'=>
    cases ru;obtain⟨its',rr',pl',_⟩:=I.tuple g'.sq;have l1:its.toArray.size=ds.length:=by rw[bc,<- rr.length,r.length]
    have l2:its'.toArray.size=ds'.length:=by rw[bc,<- rr'.length,r'.length]
    cases n with
    |zero=>cases e
    |succ n=>
     have e':((jO (eqD n) ds ds').map fun k=>k&&ds.length==ds'.length)=v9 k:=e;cases q:jO (eqD n) ds ds' with
     |none=>rw[q] at e';cases e'
     |some c=>
      rw[q] at e';cases e';have hk:(c&&ds.length==ds'.length)=((bz (min its.toArray.size its'.toArray.size)).all (eAt (eqD n) ds ds')&&its.toArray.size==its'.toArray.size):=by
       rw[lC q,l1,l2]
      show vk A s (ca p) (ca p') (c&&ds.length==ds'.length);rw[hk];refine SeqAt.RcAt.tuples pl pl' hu0 fun j h1 h2=> ?_;obtain⟨d,hd,rd⟩:=r.getV (i:=j) (v:=xs[j]'(by rw[r.length,<- l1];exact h1)) (by simp);obtain⟨d',hd',rd'⟩:=r'.getV (i:=j) (v:=xs'[j]'(by rw[r'.length,<- l2];exact h2)) (by simp);obtain⟨w,hw,rw1⟩:=rr.get (i:=j) (x:=xs[j]'(by rw[r.length,<- l1];exact h1)) (by simp);obtain⟨w',hw',rw2⟩:=rr'.get (i:=j) (x:=xs'[j]'(by rw[r'.length,<- l2];exact h2)) (by simp);have ew:its.toArray[j]=w:=by
       obtain⟨_,q⟩:=bg.mp hw;simpa using q
      have ew':its'.toArray[j]=w':=by
       obtain⟨_,q⟩:=bg.mp hw';simpa using q
      rw[ew,ew'];exact yX I n rd rd' rw1 rw2 (gY q hd hd') (ih n (m7 n) rd rd' rw1 rw2 (gY q hd hd') (eL hu))
theorem wG (I:Inv X pins σ H s) (n:Nat) (ra:Rep X.K ok H x a) (rb:Rep X.K ok' H y b) (rv:RelV x v) (ru:RelV y u) (e:eqD n a b=v9 k) (hu:A.units+n<dn):vd A s v u k:=
 yX I n ra rb rv ru e (HN I n ra rb rv ru e hu)
end
section
variable {X:Cx}{pins:List (af×Obj)}{σ:St}{H:Hp}{s:am}{ok ok':Okk}
theorem Lp (I:Inv X pins σ H s) (n:Nat):∀ {A:di}{a b:D}{x y:V}{v u:ag}{k:Bool},Rep X.K ok H x a->Rep X.K ok' H y b->RelV x v->RelV y u->eqD n a b=v9 k->A.units+n<dn->SeqAt.RcNeAt A s v u (!k):=by
  intro A a b x y v u k ra rb rv ru e hu;have hu0:A.units<dn:=by omega
  cases ra with
  |non=>
   cases rv;cases rb with
   |non=>cases ru;cases n <;> cases e <;> exact SeqAt.RcNeAt.none_none
   |obj _=>rw[bJ] at e;cases e
   |scr _ _=>rw[bI] at e;cases e
   |bl b=>cases ru;cases n <;> cases e <;> exact SeqAt.RcNeAt.none_bool b
   |int b=>obtain⟨t,rfl⟩:=ru;cases n <;> cases e <;> exact SeqAt.RcNeAt.none_int b t
   |str b=>obtain⟨t,rfl⟩:=ru;cases n <;> cases e <;> exact SeqAt.RcNeAt.none_str b t
   |lst g r=>cases ru;obtain⟨its,_,pl,_⟩:=I.list g.sq;cases n <;> cases e <;> exact SeqAt.RcNeAt.none_list pl.isList hu0
   |tup g r=>cases ru;obtain⟨its,_,pl,_⟩:=I.tuple g.sq;cases n <;> cases e <;> exact SeqAt.RcNeAt.none_tuple pl hu0
  |bl a=>
   cases rv;cases rb with
   |non=>cases ru;cases n <;> cases e <;> exact SeqAt.RcNeAt.bool_none a
   |obj _=>rw[bJ] at e;cases e
   |scr _ _=>rw[bI] at e;cases e
   |bl b=>cases ru;cases n <;> cases e <;> exact SeqAt.RcNeAt.bool_bool a b
   |int b=>obtain⟨t,rfl⟩:=ru;cases n <;> cases e <;> exact SeqAt.RcNeAt.bool_int a b t
   |str b=>obtain⟨t,rfl⟩:=ru;cases n <;> cases e <;> exact SeqAt.RcNeAt.bool_str a b t
   |lst g r=>cases ru;obtain⟨its,_,pl,_⟩:=I.list g.sq;cases n <;> cases e <;> exact SeqAt.RcNeAt.bool_list a pl.isList hu0
   |tup g r=>cases ru;obtain⟨its,_,pl,_⟩:=I.tuple g.sq;cases n <;> cases e <;> exact SeqAt.RcNeAt.bool_tuple a pl hu0
  |int a=>
   obtain⟨t',rfl⟩:=rv;cases rb with
   |non=>cases ru;cases n <;> cases e <;> exact SeqAt.RcNeAt.int_none a t'
   |obj _=>rw[bJ] at e;cases e
   |scr _ _=>rw[bI] at e;cases e
   |bl b=>cases ru;cases n <;> cases e <;> exact SeqAt.RcNeAt.int_bool a t' b
   |int b=>obtain⟨t,rfl⟩:=ru;cases n <;> cases e <;> exact SeqAt.RcNeAt.int_int a t' b t
   |str b=>obtain⟨t,rfl⟩:=ru;cases n <;> cases e <;> exact SeqAt.RcNeAt.int_str a t' b t
   |lst g r=>cases ru;obtain⟨its,_,pl,_⟩:=I.list g.sq;cases n <;> cases e <;> exact SeqAt.RcNeAt.int_list a t' pl.isList hu0
   |tup g r=>cases ru;obtain⟨its,_,pl,_⟩:=I.tuple g.sq;cases n <;> cases e <;> exact SeqAt.RcNeAt.int_tuple a t' pl hu0
  |str a=>
   obtain⟨t',rfl⟩:=rv;cases rb with
   |non=>cases ru;cases n <;> cases e <;> exact SeqAt.RcNeAt.str_none a t'
   |obj _=>rw[bJ] at e;cases e
   |scr _ _=>rw[bI] at e;cases e
   |bl b=>cases ru;cases n <;> cases e <;> exact SeqAt.RcNeAt.str_bool a t' b
   |int b=>obtain⟨t,rfl⟩:=ru;cases n <;> cases e <;> exact SeqAt.RcNeAt.str_int a t' b t
   |str b=>obtain⟨t,rfl⟩:=ru;cases n <;> cases e <;> exact SeqAt.RcNeAt.str_str a t' b t
   |lst g r=>cases ru;obtain⟨its,_,pl,_⟩:=I.list g.sq;cases n <;> cases e <;> exact SeqAt.RcNeAt.str_list a t' pl.isList hu0
   |tup g r=>cases ru;obtain⟨its,_,pl,_⟩:=I.tuple g.sq;cases n <;> cases e <;> exact SeqAt.RcNeAt.str_tuple a t' pl hu0
  |obj _=>rw[cQ] at e;cases e
  |scr _ _=>rw[cP] at e;cases e
  |@lst p xs ds g r=>
   cases rv;obtain⟨its,rr,pl,_⟩:=I.list g.sq;cases rb with
   |non=>cases ru;cases n <;> cases e <;> exact SeqAt.RcNeAt.list_none pl.isList hu0
   |obj _=>rw[bJ] at e;cases e
   |scr _ _=>rw[bI] at e;cases e
   |bl b=>cases ru;cases n <;> cases e <;> exact SeqAt.RcNeAt.list_bool b pl.isList hu0
   |int b=>obtain⟨t,rfl⟩:=ru;cases n <;> cases e <;> exact SeqAt.RcNeAt.list_int b t pl.isList hu0
   |str b=>obtain⟨t,rfl⟩:=ru;cases n <;> cases e <;> exact SeqAt.RcNeAt.list_str b t pl.isList hu0
   |tup g' r'=>cases ru;obtain⟨its',_,pl',_⟩:=I.tuple g'.sq;cases n <;> cases e <;> exact SeqAt.RcNeAt.list_tuple pl.isList pl' hu0
   |@lst p' xs' ds' g' r'=>
    cases ru;obtain⟨its',rr',pl',_⟩:=I.list g'.sq;have l1:its.toArray.size=ds.length:=by rw[bc,<- rr.length,r.length]
    have l2:its'.toArray.size=ds'.length:=by rw[bc,<- rr'.length,r'.length]
    cases n with
    |zero=>cases e
    |succ n=>
     have e':(if ds.length=ds'.length then jO (eqD n) ds ds' else v9 false)=v9 k:=e
     by_cases hl:ds.length=ds'.length
     ·rw[if_pos hl] at e';have hk:k=(bz its.toArray.size).all (eAt (eqD n) ds ds'):=by
       rw[lC e',l1,<- hl,ir]
      rw[hk];refine SeqAt.RcNeAt.lists pl.isList pl'.isList (by rw[l1,l2,hl]) hu0 fun j h1 h2=> ?_;obtain⟨d,hd,rd⟩:=r.getV (i:=j) (v:=xs[j]'(by rw[r.length,<- l1];exact h1)) (by simp);obtain⟨d',hd',rd'⟩:=r'.getV (i:=j) (v:=xs'[j]'(by rw[r'.length,<- l2];exact h2)) (by simp);obtain⟨w,hw,rw1⟩:=rr.get (i:=j) (x:=xs[j]'(by rw[r.length,<- l1];exact h1)) (by simp);obtain⟨w',hw',rw2⟩:=rr'.get (i:=j) (x:=xs'[j]'(by rw[r'.length,<- l2];exact h2)) (by simp);have ew:its.toArray[j]=w:=by
       obtain⟨_,q⟩:=bg.mp hw;simpa using q
      have ew':its'.toArray[j]=w':=by
       obtain⟨_,q⟩:=bg.mp hw';simpa using q
      rw[ew,ew'];exact wG I n rd rd' rw1 rw2 (gY e' hd hd') (eL hu)
     ·rw[if_neg hl] at e';cases e';exact SeqAt.RcNeAt.lists_lengths pl.isList pl'.isList (by rw[l1,l2];simpa using hl) hu0
  |@tup p xs ds g r=>
   cases rv;obtain⟨its,rr,pl,_⟩:=I.tuple g.sq;cases rb with
   |non=>cases ru;cases n <;> cases e <;> exact SeqAt.RcNeAt.tuple_none pl hu0
   |obj _=>rw[bJ] at e;cases e
   |scr _ _=>rw[bI] at e;cases e
   |bl b=>cases ru;cases n <;> cases e <;> exact SeqAt.RcNeAt.tuple_bool b pl hu0
   |int b=>obtain⟨t,rfl⟩:=ru;cases n <;> cases e <;> exact SeqAt.RcNeAt.tuple_int b t pl hu0
   |str b=>obtain⟨t,rfl⟩:=ru;cases n <;> cases e <;> exact SeqAt.RcNeAt.tuple_str b t pl hu0
   |lst g' r'=>cases ru;obtain⟨its',_,pl',_⟩:=I.list g'.sq;cases n <;> cases e <;> exact SeqAt.RcNeAt.tuple_list pl pl'.isList hu0
   |@tup p' xs' ds' g' r'=>
    cases ru;obtain⟨its',rr',pl',_⟩:=I.tuple g'.sq;have l1:its.toArray.size=ds.length:=by rw[bc,<- rr.length,r.length]
    have l2:its'.toArray.size=ds'.length:=by rw[bc,<- rr'.length,r'.length]
    cases n with
    |zero=>cases e
    |succ n=>
     have e':((jO (eqD n) ds ds').map fun k=>k&&ds.length==ds'.length)=v9 k:=e;cases q:jO (eqD n) ds ds' with
     |none=>rw[q] at e';cases e'
     |some c=>
      rw[q] at e';cases e';have hk:(c&&ds.length==ds'.length)=((bz (min its.toArray.size its'.toArray.size)).all (eAt (eqD n) ds ds')&&its.toArray.size==its'.toArray.size):=by
       rw[lC q,l1,l2]
      show SeqAt.RcNeAt A s (ca p) (ca p') (!(c&&ds.length==ds'.length));rw[hk];refine SeqAt.RcNeAt.tuples pl pl' hu0 fun j h1 h2=> ?_;obtain⟨d,hd,rd⟩:=r.getV (i:=j) (v:=xs[j]'(by rw[r.length,<- l1];exact h1)) (by simp);obtain⟨d',hd',rd'⟩:=r'.getV (i:=j) (v:=xs'[j]'(by rw[r'.length,<- l2];exact h2)) (by simp);obtain⟨w,hw,rw1⟩:=rr.get (i:=j) (x:=xs[j]'(by rw[r.length,<- l1];exact h1)) (by simp);obtain⟨w',hw',rw2⟩:=rr'.get (i:=j) (x:=xs'[j]'(by rw[r'.length,<- l2];exact h2)) (by simp);have ew:its.toArray[j]=w:=by
       obtain⟨_,q⟩:=bg.mp hw;simpa using q
      have ew':its'.toArray[j]=w':=by
       obtain⟨_,q⟩:=bg.mp hw';simpa using q
      rw[ew,ew'];exact wG I n rd rd' rw1 rw2 (gY q hd hd') (eL hu)
end
noncomputable def PF (K:aa) (n:Nat):R2:=fun x y H Q=>∃ ok a b k,Rep K ok H x a/\Rep K ok H y b/\eqD n a b=v9 k/\Q (.bl k) H
noncomputable def Px (K:aa) (n:Nat):R2:=fun x y H Q=>∃ ok a b k,Rep K ok H x a/\Rep K ok H y b/\eqD n a b=v9 k/\Q (.bl (!k)) H
noncomputable def gEq (n:Nat) (a b:D):Option D:=(eqD n a b).map D.bl
noncomputable def gNe (n:Nat) (a b:D):Option D:=(eqD n a b).map fun k=>D.bl (!k)
theorem aG {f:α->β} (h:o.map f=v9 b):∃ a,o=v9 a/\f a=b:=by
 cases o with
 |none=>cases h
 |some a=>exact⟨a,rfl,b8 h⟩
noncomputable abbrev KM (X:Cx) (n:Nat):Prop:=X.A.units+n<dn
section
variable {X:Cx}{e a b c:bx}{es:List bx}{f fa fb fc:DF}{fl:DL}{pos:Pos}
theorem HZ (hu:KM X n):OpR X (fh .Eq) (PF X.K n):=by
 intro pins s σ H x y v u Q I rx ry h;obtain⟨ok,a,b,k,ra,rb,e,q⟩:=h;exact HN I n ra rb rx ry e hu X.prog X.w X.xe _ ⟨.bl k,H,I,rfl,q⟩
theorem Mm (hu:KM X n):OpR X (fh .NotEq) (Px X.K n):=by
 intro pins s σ H x y v u Q I rx ry h;obtain⟨ok,a,b,k,ra,rb,e,q⟩:=h;exact Lp I n ra rb rx ry e hu X.prog X.w X.xe _ ⟨.bl (!k),H,I,rfl,q⟩
noncomputable def isN:D->Bool
 |.non=>true
 |_=>false
noncomputable def Ng (a b:D):Option D:=match b with
 |.non=>v9 (.bl (isN a))
 |_=>wb
theorem MW {K:aa} (h:Rep K ok H v d):decide (v=.non)=isN d:=by
 cases h <;> simp[isN]
theorem Ez {K:aa}:Fit2 K (fun x y H Q=>y=.non/\Q (.bl (decide (x=.non))) H) Ng:=fun ok H x y a b d Q h1 ra rb e k=>by
 cases b with
 |non=>
  cases e;refine⟨rb.non_inv,?_⟩;rw[MW ra];exact k _ H (Same.refl H) (.bl _)
 |_=>cases e
noncomputable def inO (f:D->Option Bool):List D->Option Bool
 |[]=>v9 false
 |x::xs=>(f x).bind fun b=>(inO f xs).map fun c=>b||c
noncomputable def inD (n:Nat) (a b:D):Option Bool:=match b with
 |.lst ds=>inO (fun d=>eqD n d a) ds
 |.tup ds=>inO (fun d=>eqD n d a) ds
 |_=>wb
noncomputable def Cn (K:aa) (ok:Okk) (H:Hp) (n:Nat) (a:D) (u:ag):Bool:=
 @decide (∃ x d,RelV x u/\Rep K ok H x d/\eqD n d a=v9 true) (j6 _)
theorem HD {a d:D} (I:Inv X pins σ H s) (r:RelV x u) (q:Rep X.K ok H x d) (e:eqD n d a=v9 k):Cn X.K ok H n a u=k:=by
 unfold Cn;cases k with
 |true=>exact @decide_eq_true _ (j6 _) ⟨x,d,r,q,e⟩
 |false=>
  refine @decide_eq_false _ (j6 _) ?_
  rintro⟨x',d',r',q',e'⟩
  obtain rfl:=r.inj r';exact nomatch Hl I n q q' e e'
theorem yJ {a:D} (I:Inv X pins σ H s):∀ {xs:List V}{us:List ag}{ds:List D}{k:Bool},Vals xs us->Reps X.K ok H xs ds->inO (fun d=>eqD n d a) ds=v9 k->
  us.any (Cn X.K ok H n a)=k/\∀ u∈us,∃ x d,RelV x u/\Rep X.K ok H x d/\eqD n d a=v9 (Cn X.K ok H n a u)
 |_,_,_,_,.nil,.nil,h=>by
  cases h;exact⟨rfl,fun u hu=>by cases hu⟩
 |_,_,_,k,.cons r rs,.cons q qs,h=>by
  obtain⟨b,e1,e2⟩:=bind_some h;obtain⟨c,e3,rfl⟩:=aG e2;obtain⟨h1,h2⟩:=yJ I rs qs e3;have hb:=HD I r q e1;refine⟨by rw[ky,hb,h1],fun u hu=> ?_⟩;rcases aj.mp hu with rfl|hu
  ·exact⟨_,_,r,q,by rw[hb];exact e1⟩
  ·exact h2 u hu
noncomputable def PD (K:aa) (n:Nat):R2:=fun x y H Q=>∃ ok a b k,Rep K ok H x a/\Rep K ok H y b/\inD n a b=v9 k/\Q (.bl k) H
theorem Mr (hu:KM X (n+1)):OpR X (fh .In) (PD X.K n):=by
 intro pins s σ H x y v u Q I rx ry h;obtain⟨ok,a,b,k,ra,rb,e,q⟩:=h;cases rb with
 |lst g r=>
  cases ry;obtain⟨its,rr,pl,_⟩:=I.list g.sq;obtain⟨h1,h2⟩:=yJ I rr r e;refine SeqAt.in_listAt (Cn X.K ok H n a) pl.isList (fun w hw=> ?_) ⟨.bl k,H,I,?_,q⟩
  ·obtain⟨x',d',r',q',e'⟩:=h2 w (by simpa using hw);exact wG I n q' ra r' rx e' (eL hu)
  ·rw[<- h1];simp[RelV]
 |tup g r=>
  cases ry;obtain⟨its,rr,pl,_⟩:=I.tuple g.sq;obtain⟨h1,h2⟩:=yJ I rr r e;refine SeqAt.in_tupleAt (Cn X.K ok H n a) pl (fun w hw=> ?_) ⟨.bl k,H,I,?_,q⟩
  ·obtain⟨x',d',r',q',e'⟩:=h2 w (by simpa using hw);exact wG I n q' ra r' rx e' (eL hu)
  ·rw[<- h1];simp[RelV]
 |_=>cases e
noncomputable def gIn (n:Nat) (a b:D):Option D:=(inD n a b).map D.bl
theorem Nj {K:aa}:Fit2 K (PD K n) (gIn n):=fun ok H x y a b d Q h1 ra rb e k=>by
 obtain⟨c,e1,rfl⟩:=aG e;exact⟨ok,a,b,c,ra,rb,e1,k _ H (Same.refl H) (.bl _)⟩
noncomputable def tyD:D->String
 |.non=>"NoneType"
 |.bl _=>"bool"
 |.int _=>"int"
 |.str _=>"str"
 |.lst _=>"list"
 |.tup _=>"tuple"
 |.obj _=>"object"
 |.scr _=>"object"
noncomputable def eN:D->Bool
 |.obj _=>true
 |.scr _=>true
 |_=>false
noncomputable def lL (T:String) (d:D):Option Bool:=
 if eN d=true then wb else if T="int" then v9 (match d with|.int _=>true|.bl _=>true|_=>false)
 else if T="bool" then v9 (match d with|.bl _=>true|_=>false)
 else if T="str" then v9 (match d with|.str _=>true|_=>false)
 else if T="list" then v9 (match d with|.lst _=>true|_=>false)
 else if T="tuple" then v9 (match d with|.tup _=>true|_=>false)
 else if T="dict" then v9 false
 else wb
theorem JR {K:aa} (h:lL T d=v9 k):PySem.W.kitOne K (.type (tyD d)) (.type T)=v9 k:=by
 unfold lL at h;split at h
 ·cases h
 rename_i hob
 split at h
 ·subst_vars;cases h;cases d <;> first|rfl|exact absurd rfl hob
 ·split at h
  ·subst_vars;cases h;cases d <;> first|rfl|exact absurd rfl hob
  ·split at h
   ·subst_vars;cases h;cases d <;> first|rfl|exact absurd rfl hob
   ·split at h
    ·subst_vars;cases h;cases d <;> first|rfl|exact absurd rfl hob
    ·split at h
     ·subst_vars;cases h;cases d <;> first|rfl|exact absurd rfl hob
     ·split at h
      ·subst_vars;cases h;cases d <;> first|rfl|exact absurd rfl hob
      ·cases h
noncomputable def Qk (K:aa):List V->Hp->VK->Prop:=fun xs H Q=>∃ x T d ok k,xs=[x,.ty T]/\Rep K ok H x d/\lL T d=v9 k/\Q (.bl k) H
theorem HA:CallR X (.builtin "isinstance") (Qk X.K):=by
 intro pins s σ H xs us Q I r h;obtain⟨x,T,d,ok,k,rfl,q,e,hq⟩:=h;obtain⟨u,w',rfl,ru,rw'⟩:=CB r;cases rw';have fin:∀ tk,EP X pins σ Q (.bool k) { s with toks:=tk }:=fun tk=>⟨.bl k,H,I.tok _,rfl,hq⟩;have ek:=JR (K:=X.K) e;cases q with
 |non=>cases ru;exact ke ur I.kIn gk ek (fun z=>nomatch z) fin
 |bl b=>cases ru;exact ke ut I.kIn gk ek (fun z=>nomatch z) fin
 |int i=>obtain⟨t,rfl⟩:=ru;exact ke u6 I.kIn gk ek (fun z=>nomatch z) fin
 |str z=>obtain⟨t,rfl⟩:=ru;exact ke u7 I.kIn gk ek (fun z=>nomatch z) fin
 |lst g r=>
  cases ru;obtain⟨its,_,⟨o,n,e1,c1,_,_⟩,_⟩:=I.list g.sq;exact ke uu I.kIn ⟨o,e1,c1⟩ ek (fun z=>nomatch z) fin
 |tup g r=>
  cases ru;obtain⟨its,_,⟨o,e1,c1,_⟩,_⟩:=I.tuple g.sq;exact ke uf I.kIn ⟨o,e1,c1⟩ ek (fun z=>nomatch z) fin
 |obj _=>exact nomatch e
 |scr _ _=>exact nomatch e
end
set_option compiler.extract_closed false
local macro_rules| `(tactic|walk_at "adr")=> `(tactic|((try unfold af at*);omega))
noncomputable def rX (env:Env):List (Str×gv)->List (Str×af)->List (Str×af)
 |[],acc=>acc
 |(n,k)::r,acc=>if k== .free then rX env r ((n,(env.cells.lookup n).getD 0)::acc) else rX env r acc
theorem tJ (f:Str×gv->List (Str×af)->Sem (ForInStep (List (Str×af))))
  (hf:∀ name kind cs,f (name,kind) cs=if kind== .free then(do let c <- cellOf env name;pure (.yield ((name,c)::cs))) else pure (.yield cs)):
  ∀(names:List (Str×gv)) (acc:List (Str×af)),(∀ y∈names,y.2=.free->∃ c,env.cells.lookup y.1=v9 c)->(forIn names acc f:Sem _)=pure (rX env names acc)
 |[],acc,_=>by rw[vv];rfl
 |(n,k)::r,acc,h=>by
  rw[List.forIn_cons,hf];have hr:∀ y∈r,y.2=.free->∃ c,env.cells.lookup y.1=v9 c:=fun y hy=>h y (ai _ hy);unfold rX
  by_cases hk:(k==gn)=true
  ·rw[if_pos hk,if_pos hk];obtain⟨c,hc⟩:=h (n,k) ar (by simpa using hk);have e:(cellOf env n:Sem af)=pure c:=by unfold cellOf;rw[hc]
   rw[e,hc];simp only[pure_bind,Option.getD_some];exact tJ f hf r _ hr
  ·rw[if_neg hk,if_neg hk];simp only[pure_bind];exact tJ f hf r _ hr
theorem rW (h:∀ y∈scope.names,y.2=.free->∃ c,env.cells.lookup y.1=v9 c):closureFor scope env=pure (rX env scope.names []):=by
 simp only[closureFor];rw[tJ (env:=env) _ (fun name kind cs=>by cases hk:kind==gn <;> simp[hk]) scope.names [] h];rfl
theorem mQ:∀ {names:List (Str×gv)}{acc:List (Str×af)}{c:af},(rX env names acc).lookup x=v9 c->acc.lookup x=v9 c∨((x,gn)∈names/\c=(env.cells.lookup x).getD 0)
 |[],acc,c,h=>.inl h
 |(n,k)::r,acc,c,h=>by
  unfold rX at h
  by_cases hk:(k==gn)=true
  ·rw[if_pos hk] at h;rcases mQ h with q|⟨q1,q2⟩
   ·rw[fg] at q;cases hx:x==n with
    |true=>
     rw[hx] at q;obtain rfl:x=n:=by simpa using hx
     have hk':k=.free:=by simpa using hk
     subst hk';exact .inr ⟨ar,by cases q;rfl⟩
    |false=>
     rw[hx] at q;exact .inl q
   ·exact .inr ⟨ai _ q1,q2⟩
  ·rw[if_neg hk] at h;rcases mQ h with q|⟨q1,q2⟩
   ·exact .inl q
   ·exact .inr ⟨ai _ q1,q2⟩
theorem oZ:∀ {names:List (Str×gv)}{acc:List (Str×af)},(∃ c,acc.lookup x=v9 c)->∃ c,(rX env names acc).lookup x=v9 c
 |[],acc,h=>h
 |(n,k)::r,acc,h=>by
  unfold rX;split
  ·refine oZ ?_;rw[fg];cases hx:x==n with
   |true=>exact⟨_,rfl⟩
   |false=>exact h
  ·exact oZ h
theorem tS:∀ {names:List (Str×gv)}{acc:List (Str×af)},(x,gn)∈names->∃ c,(rX env names acc).lookup x=v9 c
 |(n,k)::r,acc,h=>by
  unfold rX;rcases aj.mp h with e|h
  ·cases e;rw[if_pos (by rfl)];exact oZ ⟨_,by rw[fg,beq_self_eq_true]⟩
  ·split
   ·exact tS h
   ·exact tS h
theorem eZ:∀ {names:List (Str×gv)}{n:Nat}{acc:List (Str×af)}{c:af},(f9 n names acc).lookup x=v9 c->acc.lookup x=v9 c∨((x,cy)∈names/\n<=c)
 |[],n,acc,c,h=>.inl h
 |(y,k)::r,n,acc,c,h=>by
  unfold f9 at h
  by_cases hk:(k==cy)=true
  ·rw[if_pos hk] at h;rcases eZ h with q|⟨q1,q2⟩
   ·rw[fg] at q;cases hx:x==y with
    |true=>
     rw[hx] at q;obtain rfl:x=y:=by simpa using hx
     have hk':k=.cell:=by simpa using hk
     subst hk';cases q;exact .inr ⟨ar,bp _⟩
    |false=>
     rw[hx] at q;exact .inl q
   ·exact .inr ⟨ai _ q1,by walk_at "adr"⟩
  ·rw[if_neg hk] at h;rcases eZ h with q|⟨q1,q2⟩
   ·exact .inl q
   ·exact .inr ⟨ai _ q1,q2⟩
theorem gW:∀ {names:List (Str×gv)}{n:Nat}{acc:List (Str×af)},(x,cy)∉names->(f9 n names acc).lookup x=acc.lookup x
 |[],n,acc,_=>rfl
 |(y,k)::r,n,acc,h=>by
  have hr:(x,cy)∉r:=fun z=>h (ai _ z);unfold f9
  by_cases hk:(k==cy)=true
  ·rw[if_pos hk,gW hr,fg];have hk':k=.cell:=by simpa using hk
   subst hk';cases hx:x==y with
   |true=>
    obtain rfl:x=y:=by simpa using hx
    exact absurd ar h
   |false=>rfl
  ·rw[if_neg hk,gW hr]
theorem eJ:∀ {names:List (Str×gv)}{n:Nat}{acc:List (Str×af)},(∃ c,acc.lookup x=v9 c)->∃ c,(f9 n names acc).lookup x=v9 c
 |[],n,acc,h=>h
 |(y,k)::r,n,acc,h=>by
  unfold f9;split
  ·refine eJ ?_;rw[fg];cases hx:x==y with
   |true=>exact⟨_,rfl⟩
   |false=>exact h
  ·exact eJ h
theorem iV:∀ {names:List (Str×gv)}{n:Nat}{acc:List (Str×af)},(x,cy)∈names->∃ c,(f9 n names acc).lookup x=v9 c
 |(y,k)::r,n,acc,h=>by
  unfold f9;rcases aj.mp h with e|h
  ·cases e;rw[if_pos (by rfl)];exact eJ ⟨_,by rw[fg,beq_self_eq_true]⟩
  ·split
   ·exact iV h
   ·exact iV h
structure uB (h:cz) (n:Nat) (acc cs:List (Str×af)):Prop where
 cell:∀ x c,(x,c)∈cs->(x,c)∈acc∨(h.IsCell c wb/\n<=c)
 apart:∀ x y c,(x,c)∈cs->(y,c)∈cs->n<=c->x=y
theorem sQ:∀(names:List (Str×gv)) (h:cz) (n:Nat) (acc0 acc:List (Str×af)),n<=h.objs.size->uB h n acc0 acc->(∀ x c,(x,c)∈acc->c<h.objs.size)->uB (pushCells h names) n acc0 (f9 h.objs.size names acc)
 |[],h,n,acc0,acc,_,N,_=>N
 |(y,k)::r,h,n,acc0,acc,hn,N,hlt=>by
  unfold pushCells f9;split
  ·have:=sQ r (h.push { cls:=.type "cell",data:=.cell wb }) n acc0 ((y,h.objs.size)::acc) (by rw[hZ];walk_at "adr")
    ⟨fun x c hm=>by
     rcases aj.mp hm with e|hm
     ·cases e;exact .inr ⟨⟨_,b0 _ rfl,rfl⟩,hn⟩
     ·rcases N.cell x c hm with q|⟨q1,q2⟩
      ·exact .inl q
      ·exact .inr ⟨q1.keeps fun b o e=>ay _ e,q2⟩,
    fun x z c h1 h2 h3=>by
     rcases aj.mp h1 with e1|h1 <;> rcases aj.mp h2 with e2|h2
     ·cases e1;cases e2;rfl
     ·cases e1;exact absurd (hlt z _ h2) (fx _)
     ·cases e2;exact absurd (hlt x _ h1) (fx _)
     ·exact N.apart x z c h1 h2 h3⟩
    (fun x c hm=>by
     rw[hZ];rcases aj.mp hm with e|hm
     ·cases e;walk_at "adr"
     ·have:=hlt x c hm;walk_at "adr")
   rw[hZ] at this;exact this
  ·exact sQ r h n acc0 acc hn N hlt
theorem Gq
  (h:∀ h':cz,(∀ b o,s.heap.get? b=v9 o->h'.get? b=v9 o)->h'.Ns s.heap.objs.size (fun _=>wb)->uB h' (s.heap.objs.size+1) cl (f9 (s.heap.objs.size+1) scope.names cl)->
   Q { scope:=scope,locals:=s.heap.objs.size,globals:=globals,cells:=f9 (s.heap.objs.size+1) scope.names cl,qual:=qual,func:=wb,code:=env.code,frame:=env.frame,builtins:=env.builtins } { s with heap:=h' })
  (hlt:∀ x c,(x,c)∈cl->c<s.heap.objs.size):ax M A (r9 scope globals cl [] qual wb .none (v9 env)) Q E s:=by
 simp only[r9,ud,if_true];refine ae (wpAny_alloc ?_);refine ae (wpAny_layCells _ (fun name kind cells=>by cases hkc:kind==cy <;> simp[hkc]) _ _ _ _ ?_);rw[show({ s with heap:=s.heap.push { cls:=.type "dict",data:=.dict #[] } }:am).heap.objs.size=s.heap.objs.size+1 from hZ ..];rw[vv];refine ae (ak (ak (h _ (fun b o e=>pushCells_keeps _ _ b o (ay _ e)) ((Heap.Ns.new s.heap (.type "dict")).keeps (pushCells_keeps _ _)) ?_)))
 have:=sQ scope.names (s.heap.push { cls:=.type "dict",data:=.dict #[] }) (s.heap.objs.size+1) cl cl (by rw[hZ];walk_at "adr")
  ⟨fun x c hm=>.inl hm,fun x y c h1 h2 h3=>absurd (hlt x c h1) (by walk_at "adr")⟩ (fun x c hm=>by rw[hZ];have:=hlt x c hm;walk_at "adr")
 rw[hZ] at this;exact this
theorem wP (I:Nat->am->Prop)
  (turn:∀ n s,I n s->ax (model prog w) A (mv it) (fun r s₁=>match r with
   |none=>R (.ok .next) s₁
   |some v=>ax (model prog w) A (ny target it v) (fun _ s₁'=>ax (model prog w) A (assign target env v) (fun _ s₂=>
     ax (model prog w) A (forIn ifs true fun c r=>if r=true then do let ok <- isTrue c env (eval c env);pure (n6 ok) else pure (n6 r)) (fun ok s₃=>
      if ok=true then ax (model prog w) A (eval elt env) (fun x s₄=>
       ax (model prog w) A (call (.builtin "list.append") [acc,x]) (fun _ s₅=>∃ m,m<n/\I m s₅) (fun _ _=>False) s₄) (fun _ _=>False) s₃
      else ∃ m,m<n/\I m s₃) (fun _ _=>False) s₂) (fun _ _=>False) s₁') (fun _ _=>False) s₁) (fun _ _=>False) s)
  (n:Nat) (h:I n s):nq (model prog w) A (.compLoop (.ListComp elt [⟨target,iter,ifs,0⟩] scope pos) 0 it acc env) R s:=by
 refine codeAny_loop rfl I (fun n s hI=> ?_) n h;show ax _ A ((compTurn (.ListComp elt [⟨target,iter,ifs,0⟩] scope pos) 0 it acc env).onRaise (fun x=>do ug x env;theTreesLotGoes x)) _ _ s;refine wpAny_noted ?_;rw[compTurn_list];refine ae (sy (ae (gg (turn n s hI) (fun r s₁ h₁=> ?_) fun _ _ h'=>h'.elim)));cases r with
 |none=>exact ak h₁
 |some v=>
  refine ae (gg h₁ (fun _ s₁' h₁'=> ?_) fun _ _ h'=>h'.elim);refine ae (gg h₁' (fun _ s₂ h₂=>ae (gg h₂ (fun ok s₃ h₃=> ?_) fun _ _ h'=>h'.elim)) fun _ _ h'=>h'.elim);cases ok with
  |false=>exact ak ⟨rfl,h₃⟩
  |true=>
   exact ae (ae (gg h₃ (fun x s₄ h₄=>ae (gg h₄ (fun _ s₅ h₅=>ak (ak ⟨rfl,h₅⟩)) fun _ _ h'=>h'.elim)) fun _ _ h'=>h'.elim))
noncomputable def blk (X:Cx) (N':List Str) (scope:j4) (cells:List (Str×af)) (C:af) (fp:List af) (pins:List (af×Obj)) (s₀:am) (H₀:Hp):Cx where
 prog:=X.prog
 w:=X.w
 K:=X.K
 mg:=X.mg
 base:=X.base
 A:=X.A
 N:=N'
 s₀:=s₀
 H₀:=H₀
 env:=compEnvC scope cells C X.env
 outer:=X.stack
 stack:=X.stack
 ex:=fp
 fn:=fun x=>scope.names.lookup x==v9 .cell
 calm:=X.calm
 pn:=X.pn++pins
 xe:=fun _ _=>False
noncomputable def KS (X:Cx) (ifs:List bx) (tt:TT):Prop:=
 ∀(pins:List (af×Obj)) (s:am) (σ:St) (H:Hp) (Q:Bool->Hp->Prop),Inv X pins σ H s->tt σ H Q->
  ax (model X.prog X.w) X.A (forIn ifs true fun c r=>if r=true then do let ok <- isTrue c X.env (eval c X.env);pure (n6 ok) else pure (n6 r)) (TP X pins σ Q) X.xe s
noncomputable def PU:TT:=fun _ H Q=>Q true H
theorem Ka:KS X [] PU:=fun _ _ _ H _ I h=>wpAny_tests_nil ⟨H,I,h⟩
theorem JZ (h:PT X c tt):KS X [c] tt:=fun pins s σ H Q I q=>wpAny_tests_one (h pins s σ H Q I q)
noncomputable def EX (caps:List (Option Nat)) (σ:St):St:=caps.map fun o=>o.bind fun j=>(σ[j]?).join
noncomputable def Bi (X:Cx) (scope:j4) (N':List Str) (caps:List (Option Nat)):Prop:=
 caps.length=N'.length/\∀(i j:Nat),caps[i]?=v9 (v9 j)->∃ x,N'[i]?=v9 x/\X.N[j]?=v9 x/\scope.names.lookup x=v9 .free/\(x,cy)∉scope.names/\(X.env.scope.names.lookup x=v9 .cell∨X.env.scope.names.lookup x=v9 .free)
noncomputable def Ix (wi:TI) (caps:List (Option Nat)) (g:TG) (tt:TT) (te:TE):TE:=fun σ H Q=>wi σ H fun J H1=>∀ D,H1 D=wb->∃ W:Nat->Nat->St->Hp->Prop,(∃ m,W 0 m (EX caps σ) (upd H1 D (.lst [])))/\
 ∀ i m σ' H,W i m σ' H->(J.stop i H/\Q (.ref D) H)∨(J.go i H/\∀ x H',J.yld i H x H'->g x σ' H' fun σ2 H2=>tt σ2 H2 fun b H3=>
  if b=true then te σ2 H3 fun y H4=>∃ ys m',H4 D=v9 (.lst ys)/\ys.length<sizeLine/\m'<m/\W (i+1) m' σ2 (upd H4 D (.lst (ys++[y]))) else ∃ m',m'<m/\W (i+1) m' σ2 H3)
section
variable {X:Cx}{elt iter tg:bx}{ifs:List bx}{scope:j4}{pos:Pos}{N':List Str}{caps:List (Option Nat)}{wi:TI}{g:TG}{tt:TT}{te:TE}
theorem gA (h:(relabel scope env).names.lookup x=v9 k):scope.names.lookup x=v9 k∨(k=.cell/\scope.names.lookup x=v9 .free):=by
 have aux:∀(names:List (Str×gv)),(names.map fun(n,k)=>if(k==gn&&env.scope.kind== .function&&env.kindOf n==v9 .cell) then(n,cy) else(n,k)).lookup x=v9 k->
   names.lookup x=v9 k∨(k=.cell/\names.lookup x=v9 .free):=by
  intro names
  induction names with
  |nil=>intro h;cases h
  |cons p r ih=>
   obtain⟨n,kk⟩:=p;intro h;rw[bq] at h
   by_cases hc:(kk==gn&&env.scope.kind== .function&&env.kindOf n==v9 .cell)=true
   ·have h':jt x ((n,cy)::(r.map fun(n,k)=>if(k==gn&&env.scope.kind== .function&&env.kindOf n==v9 .cell) then(n,cy) else(n,k)))=v9 k:=by
     have e:(if(kk==gn&&env.scope.kind== .function&&env.kindOf n==v9 .cell)=true then(n,cy) else(n,kk))=(n,cy):=if_pos hc;rw[<- e];exact h
    rw[fg] at h' ⊢;cases hx:x==n with
    |true=>
     rw[hx] at h';cases h';have hk:kk=.free:=by
      rw[bt,bt] at hc;simpa using hc.1.1
     exact .inr ⟨rfl,by rw[hk]⟩
    |false=>
     rw[hx] at h';exact ih h'
   ·have h':jt x ((n,kk)::(r.map fun(n,k)=>if(k==gn&&env.scope.kind== .function&&env.kindOf n==v9 .cell) then(n,cy) else(n,k)))=v9 k:=by
     have e:(if(kk==gn&&env.scope.kind== .function&&env.kindOf n==v9 .cell)=true then(n,cy) else(n,kk))=(n,kk):=if_neg hc;rw[<- e];exact h
    rw[fg] at h' ⊢;cases hx:x==n with
    |true=>
     rw[hx] at h';exact .inl h'
    |false=>
     rw[hx] at h';exact ih h'
 exact aux scope.names h
theorem cX {l:List (Str×gv)} (h:l.lookup x=v9 k):(x,k)∈l:=fj h
theorem wM {Qn:V->Hp->Prop}{RR:ag->af->Result->am->Prop}
  (hc:X.calm=true) (hkind:scope.kind=.function)
  (hfree:∀ y∈scope.names,y.2=.free->X.env.scope.names.lookup y.1=v9 .cell∨X.env.scope.names.lookup y.1=v9 .free) (huniq:∀ y∈scope.names,y.2=.free->(y.1,cy)∉scope.names)
  (hcap:Bi X scope N' caps)
  (hb:∀ cells C fp pins s₀ H₀,PG (blk X N' scope cells C fp pins s₀ H₀) tg g/\KS (blk X N' scope cells C fp pins s₀ H₀) ifs tt/\PE (blk X N' scope cells C fp pins s₀ H₀) elt te)
  (I2:Inv X pins σ H2 s2) (T:KG X.prog X.w X.K tg J fp it tn) (st2:tn 0 s2.heap) (f2:∀ b∈fp,Iu X pins H2 b)
  (q:∀ D,H2 D=wb->∃ W:Nat->Nat->St->Hp->Prop,(∃ m,W 0 m (EX caps σ) (upd H2 D (.lst [])))/\
   ∀ i m σ' H,W i m σ' H->(J.stop i H/\Qn (.ref D) H)∨(J.go i H/\∀ x H',J.yld i H x H'->g x σ' H' fun σ2 H2=>tt σ2 H2 fun b H3=>
    if b=true then te σ2 H3 fun y H4=>∃ ys m',H4 D=v9 (.lst ys)/\ys.length<sizeLine/\m'<m/\W (i+1) m' σ2 (upd H4 D (.lst (ys++[y]))) else ∃ m',m'<m/\W (i+1) m' σ2 H3))
  (hfin:∀(C D:af) (s6:am) (H6:Hp),Inv X pins σ H6 s6->Qn (.ref D) H6->(∃ m,s6.heap.Ns C m)->H6 C=wb->C≠X.env.locals->X.s₀.heap.objs.size<=C->(∀ x c,X.env.cells.lookup x=v9 c->c≠C)->(∀ p∈X.pn++pins,p.1≠C)->RR (.ref D) C (.ok .next) s6):
  ax (model X.prog X.w) X.A (newList []) (fun acc s₃=>ax (model X.prog X.w) X.A (r9 scope X.env.globals (rX X.env scope.names []) [] X.env.qual wb .none (v9 X.env)) (fun cenv s₄=>
   nq (model X.prog X.w) X.A (.compStart (.ListComp elt [⟨tg,iter,ifs,0⟩] scope pos) 0 (.ref it) acc { cenv with scope:=relabel scope X.env }) (RR acc cenv.locals) s₄) E s₃) E s2:=by
 have hcells:∀ y∈scope.names,y.2=.free->∃ c,X.env.cells.lookup y.1=v9 c:=fun y hy hf=>I2.ok.has y.1 (hfree y hy hf);have hD:H2 s2.heap.objs.size=wb:=I2.hok.fresh (bp _);obtain⟨W,⟨m0,w0⟩,turn⟩:=q s2.heap.objs.size hD;refine dy ?_ (im _)
 generalize hs3:({ s2 with heap:=s2.heap.push { cls:=.type "list",dict:=wb,data:=.seq ([]:List ag).toArray } }:am)=s3
 have I3:Inv X pins σ (upd H2 s2.heap.objs.size (.lst [])) s3:=by
  subst hs3;exact I2.laid (t':=s2.toks) (fun b u e=>ay _ e) (bp _) ⟨im _,[],0,.nil,b0 _ rfl⟩
 have sz3:s3.heap.objs.size=s2.heap.objs.size+1:=by rw[<- hs3];exact hZ ..
 have k23:∀ b o,s2.heap.get? b=v9 o->s3.heap.get? b=v9 o:=fun b o e=>by rw[<- hs3];exact ay _ e
 generalize hH3:upd H2 s2.heap.objs.size (.lst [])=H3 at I3 w0
 have clLook:∀ x c,(rX X.env scope.names []).lookup x=v9 c->X.env.cells.lookup x=v9 c:=fun x c e=>by
  rcases mQ e with z|⟨z1,z2⟩
  ·cases z
  ·obtain⟨c',hc'⟩:=hcells (x,.free) z1 rfl;rw[hc'] at z2 ⊢;rw[z2];rfl
 have clMem:∀ x c,(x,c)∈rX X.env scope.names []->∃ c',X.env.cells.lookup x=v9 c'/\c=c':=by
  have aux:∀(names:List (Str×gv)) (acc:List (Str×af)),(∀ y∈names,y.2=.free->∃ c,X.env.cells.lookup y.1=v9 c)->(∀ x c,(x,c)∈acc->∃ c',X.env.cells.lookup x=v9 c'/\c=c')->
    ∀ x c,(x,c)∈rX X.env names acc->∃ c',X.env.cells.lookup x=v9 c'/\c=c':=by
   intro names
   induction names with
   |nil=>intro acc _ h x c hm;exact h x c hm
   |cons p r ih=>
    obtain⟨n,k⟩:=p;intro acc hn h x c hm;unfold rX at hm;have hr:∀ y∈r,y.2=.free->∃ c,X.env.cells.lookup y.1=v9 c:=fun y hy=>hn y (ai _ hy);split at hm
    ·rename_i hk
     refine ih _ hr (fun x c hm=> ?_) x c hm;rcases aj.mp hm with e|hm
     ·cases e;obtain⟨c',hc'⟩:=hn (n,k) ar (by simpa using hk);exact⟨c',hc',by rw[hc'];rfl⟩
     ·exact h x c hm
    ·exact ih _ hr h x c hm
  exact aux scope.names [] hcells (fun x c hm=>by cases hm)
 have cellLt:∀ x c,X.env.cells.lookup x=v9 c->c<s2.heap.objs.size:=fun x c e=>by
  obtain⟨v,z⟩:=I2.cell x c e;exact z.lt
 have hltc:∀ x c,(x,c)∈rX X.env scope.names []->c<s3.heap.objs.size:=fun x c hm=>by
  obtain⟨c',hc',rfl⟩:=clMem x c hm
  have:=cellLt x c hc'
  walk_at "adr"
 refine Gq (fun h4 k34 ns4 nc=> ?_) hltc
 generalize hC:s3.heap.objs.size=C at ns4 nc
 generalize hcs:f9 (C+1) scope.names (rX X.env scope.names [])=cells at nc
 -- the block's own invariant
 have cellOld:∀ x c,cells.lookup x=v9 c->c<C->X.env.cells.lookup x=v9 c:=fun x c e hlt=>by
  rw[<- hcs] at e;rcases eZ e with z|⟨_,z⟩
  ·exact clLook x c z
  ·walk_at "adr"
 have cellNew:∀ x c,cells.lookup x=v9 c->¬ c<C->h4.IsCell c wb/\C+1<=c:=fun x c e hge=>by
  rcases nc.cell x c (fj e) with z|z
  ·obtain⟨c',hc',rfl⟩:=clMem x c z
   have:=cellLt x c hc'
   walk_at "adr"
  ·exact z
 have sz4:C<=h4.objs.size:=ip ns4.lt;have okB:(blk X N' scope cells C fp pins s3 H3).Ok:=by
  refine⟨I3.ok.mod,hkind,I3.ok.glob,I3.ok.blt,t8 hC,fun x y c h1 h2=> ?_,fun x hx=> ?_,fun x c hf hx=> ?_,I3.ok.hd,I3.ok.frames,.inl rfl,fun b hb=>⟨?_,fun x c hx=> ?_⟩,I3.bs,ci I3.ok.bsz I3.sz,fun b o e hb=> ?_,fun b hb=> ?_,I3.stack,I3.stkFree⟩
  ·by_cases hlt:c<C
   ·exact I3.ok.inj x y c (cellOld x c h1 hlt) (cellOld y c h2 hlt)
   ·exact nc.apart x y c (fj h1) (fj h2) (cellNew x c h1 hlt).2
  ·show ∃ c,cells.lookup x=v9 c;rw[<- hcs];have hx':(relabel scope X.env).names.lookup x=v9 .cell∨(relabel scope X.env).names.lookup x=v9 .free:=hx;have fromFree:(x,gn)∈scope.names->∃ c,(f9 (C+1) scope.names (rX X.env scope.names [])).lookup x=v9 c:=fun hm=>eJ (tS hm);rcases hx' with hx'|hx'
   ·rcases gA hx' with z|⟨_,z⟩
    ·exact iV (cX z)
    ·exact fromFree (cX z)
   ·rcases gA hx' with z|⟨z,_⟩
    ·exact fromFree (cX z)
    ·cases z
  ·have hf':(x,cy)∈scope.names:=cX (by simpa using (show(scope.names.lookup x==v9 .cell)=true from hf))
   by_cases hlt:c<C
   ·exfalso
    have e:(f9 (C+1) scope.names (rX X.env scope.names [])).lookup x=v9 c:=by rw[hcs];exact hx
    rcases eZ e with z|⟨_,z⟩
    ·rcases mQ z with z|⟨z1,_⟩
     ·cases z
     ·exact huniq (x,.free) z1 rfl hf'
    ·walk_at "adr"
   ·show s3.heap.objs.size<=c
    have:=(cellNew x c hx hlt).2
    walk_at "adr"
  ·have:=(f2 b hb)
   obtain⟨o,e,_⟩:=T.obj 0 _ st2 b hb
   have:=br e
   show b≠C
   walk_at "adr"
  ·obtain⟨o,e,hcell⟩:=T.obj 0 _ st2 b hb;have hlt':=br e;intro z
   by_cases hlt:c<C
   ·exact(f2 b hb).2.2.2.2.1 x c (cellOld x c hx hlt) z
   ·have:=(cellNew x c hx hlt).2
    walk_at "adr"
  ·rcases(f2 b hb).2.2.2.1 with z|z
   ·exact I2.ok.noex b o e z
   ·have q1:=br e;have q2:=I2.ok.bsz;have q3:=I2.sz;exact absurd (cf q1 (ci q2 z)) (fx _)
  ·intro z;rcases aj.mp (I3.stkSub b z) with z|z
   ·exact(f2 b hb).2.1 z
   ·exact(f2 b hb).2.2.1 z
 have hfpC:∀ b∈fp,b<C:=fun b hb=>by
  obtain⟨o,e,_⟩:=T.obj 0 _ st2 b hb
  have:=br e
  walk_at "adr"
 have Hnew:∀ b,C<=b->H3 b=wb:=fun b hb=>by
  cases z:H3 b with
  |none=>rfl
  |some o=>
   have:=I3.hok.lt z
   walk_at "adr"
 have IB:Inv (blk X N' scope cells C fp pins s3 H3) [] (EX caps σ) H3 { s3 with heap:=h4 }:=by
  refine⟨okB,rfl,I3.bare,Un.kept k34,⟨_,ns4,fun i x v e1 e2 e3=> ?_⟩,fun x c hx=> ?_,Hnew C (bp _),fun x c hx=> ?_,fun p hp=> ?_,I3.hok.kept k34,?_⟩
  ·-- a captured name
   have e2':(EX caps σ)[i]?=v9 (v9 v):=e2;unfold EX at e2';rw[az] at e2';cases hci:caps[i]? with
   |none=>rw[hci] at e2';cases e2'
   |some o=>
    rw[hci] at e2';cases o with
    |none=>cases e2'
    |some j=>
     obtain⟨x',hx1,hx2,hx3,hx4,hx5⟩:=hcap.2 i j hci;have ex:x=x':=by
      have e1':N'[i]?=v9 x:=e1;rw[hx1] at e1';exact(b8 e1').symm
     subst ex;have hσ:σ[j]?=v9 (v9 v):=by
      have z:(σ[j]?).join=v9 v:=b8 e2';cases hj:σ[j]? with
      |none=>rw[hj] at z;cases z
      |some o=>
       rw[hj] at z;cases o with
       |none=>cases z
       |some v'=>cases z;rfl
     obtain⟨m,hn,hl⟩:=I3.loc;obtain⟨u,r,l⟩:=hl j x v hx2 hσ (hx5.elim (fun z=>.inr (.inl z)) fun z=>.inr (.inr z));refine⟨u,r,?_⟩;rcases l with⟨k,_⟩|⟨_,c,hcx,hcell⟩
     ·have k':X.env.scope.names.lookup x=v9 .local:=k;rcases hx5 with z|z
      ·rw[k'] at z;cases z
      ·rw[k'] at z;cases z
     ·have hlk:cells.lookup x=v9 c:=by
       rw[<- hcs,gW hx4];obtain⟨c',hc'⟩:=tS (env:=X.env) (acc:=[]) (cX hx3);rw[hc',<- clLook x c' hc',hcx]
      have e3':(relabel scope X.env).names.lookup x=v9 .local∨(relabel scope X.env).names.lookup x=v9 .cell∨(relabel scope X.env).names.lookup x=v9 .free:=e3;rcases e3' with z|z|z
      ·exfalso
       rcases gA z with z|⟨z,_⟩
       ·rw[hx3] at z;cases z
       ·cases z
      ·exact .inr ⟨.inl z,c,hlk,hcell.keeps k34⟩
      ·exact .inr ⟨.inr z,c,hlk,hcell.keeps k34⟩
  ·by_cases hlt:c<C
   ·obtain⟨v,z⟩:=I3.cell x c (cellOld x c hx hlt);exact⟨v,z.keeps k34⟩
   ·exact⟨wb,(cellNew x c hx hlt).1⟩
  ·by_cases hlt:c<C
   ·exact I3.freeC x c (cellOld x c hx hlt)
   ·exact Hnew c (by walk_at "adr")
  ·have hp':p∈X.pn++pins:=by
    have hp'':p∈(X.pn++pins)++[]:=hp;rwa [dh] at hp''
   obtain⟨e,n,ne,nf,d⟩:=I3.pin p hp';refine⟨k34 _ _ e,n,?_,fun z=> ?_,d⟩
   ·show p.1≠C
    have:=br e
    walk_at "adr"
   ·rcases aj.mp (I3.stkSub p.1 z) with z|z
    ·exact ne z
    ·exact nf z
  ·show(EX caps σ).length=N'.length
   unfold EX;rw[ao];exact hcap.1
 have tn4:tn 0 h4:=T.keep 0 _ _ st2 fun b hb o e=>k34 b o (k23 b o e);have fr3:∀ b∈fp,H3 b=wb:=fun b hb=>by
  obtain⟨o,e,_⟩:=T.obj 0 _ st2 b hb;rw[<- hH3,aF (cm (br e))];exact(f2 b hb).1
 have stat:∀ {H':Hp},(∀ b∈fp,H' b=wb)->∀ b∈fp,Iu (blk X N' scope cells C fp pins s3 H3) [] H' b:=fun hn b hb=>
  ⟨hn b hb,cm (hfpC b hb),fun z=>okB.exfs b hb z,.inl hb,fun x c hx=>(okB.exf b hb).2 x c hx,fun p hp=>by
   have hp':p∈X.pn++pins:=by
    have hp'':p∈(X.pn++pins)++[]:=hp;rwa [dh] at hp''
   exact(f2 b hb).2.2.2.2.2 p hp'⟩
 obtain⟨hG,hT,hE⟩:=hb cells C fp pins s3 H3;have loop:nq (model X.prog X.w) X.A (.compLoop (.ListComp elt [⟨tg,iter,ifs,0⟩] scope pos) 0 (.ref it) (.ref s2.heap.objs.size) (compEnvC scope cells C X.env)) (RR (.ref s2.heap.objs.size) C) { s3 with heap:=h4 }:=by
  refine wP (fun n s'=>∃ i σ' H',Inv (blk X N' scope cells C fp pins s3 H3) [] σ' H' s'/\tn i s'.heap/\(∀ b∈fp,H' b=wb)/\W i n σ' H') ?_ m0 ⟨0,_,_,IB,tn4,fr3,w0⟩;rintro n s5 ⟨i,σ5,H5,I5,st5,fr5,w5⟩;rcases turn i n σ5 H5 w5 with⟨stop,qn⟩|⟨go,step⟩
  ·refine thn (T.done (blk X N' scope cells C fp pins s3 H3) rfl rfl rfl hc i [] s5 σ5 H5 _ I5 (stat fr5) st5 stop) fun r s6 ⟨hr,I6⟩=> ?_;subst hr;obtain⟨m6,ns6,_⟩:=I6.loc;have un7:Un (frs X.stack) fp H3 H5 s3.heap s6.heap:=I6.base;have I8:Inv X pins σ H5 s6:=by
    refine I3.call' (ch:=fp) I6.os un7 I6.hok I6.bare fun b hb=>⟨?_,(f2 b hb).2.1,(f2 b hb).2.2.2.2.1,(f2 b hb).2.2.2.2.2⟩;exact(f2 b hb).2.2.2.1
   refine hfin C s2.heap.objs.size s6 H5 I8 qn ⟨m6,ns6⟩ I6.free ?_ (by have:=I3.sz;walk_at "adr") (fun x c e=> ?_) fun p hp=> ?_
   ·have:=I3.lt
    walk_at "adr"
   ·have:=cellLt x c e
    walk_at "adr"
   ·have:=br (I3.pin p hp).1
    walk_at "adr"
  ·refine thn (T.item (blk X N' scope cells C fp pins s3 H3) rfl rfl rfl hc i [] s5 σ5 H5 _ I5 (stat fr5) st5 go) fun r s6 ⟨u,hr,h6⟩=> ?_;subst hr;refine thn h6 fun _ s7 ⟨x,H7,I7,r7,y7,st7,fr7⟩=> ?_;have I7':=I7.pinned (stat fr7) (T.obj _ _ st7);have keepTn:∀ {σ':St}{H':Hp}{s':am},Inv (blk X N' scope cells C fp pins s3 H3) ([]++vG fp s7.heap) σ' H' s'->tn (i+1) s'.heap/\∀ b∈fp,H' b=wb:=fun {σ' H' s'} I'=>by
    refine⟨T.keep _ _ _ st7 fun b hb o e=>(I'.pin (b,o) (c7 _ (c7 _ (jC hb e)))).1,fun b hb=> ?_⟩;obtain⟨o,e,d⟩:=T.obj _ _ st7 b hb;exact(I'.pin (b,o) (c7 _ (c7 _ (jC hb e)))).2.1
   refine thn (hG _ s7 σ5 H7 x u _ I7' r7 (step x H7 y7)) fun _ s8 ⟨σ8,H8,I8,q8⟩=> ?_;refine thn (hT _ s8 σ8 H8 _ I8 q8) fun b s9 ⟨H9,I9,q9⟩=> ?_;cases b with
   |false=>
    rw[if_neg cq] at q9 ⊢;obtain⟨m',hm,w9⟩:=q9;exact⟨m',hm,i+1,σ8,H9,I9.unpinned,(keepTn I9).1,(keepTn I9).2,w9⟩
   |true=>
    rw[if_pos rfl] at q9 ⊢;refine thn (hE _ s9 σ8 H9 _ I9 q9) fun y s10 ⟨yv,H10,I10,r10,q10⟩=> ?_;obtain⟨ys,m',hy,hz,hm,w10⟩:=q10;refine thn (vM _ s10 σ8 H10 (.ref s2.heap.objs.size) [yv] (.ref s2.heap.objs.size) [y] (fun _ H'=>H'=upd H10 s2.heap.objs.size (.lst (ys++[yv]))) I10 rfl (.cons r10 .nil) ⟨_,ys,yv,rfl,rfl,hy,hz,rfl⟩) fun _ s11 ⟨_,H11,I11,_,e11⟩=> ?_;subst e11;exact⟨m',hm,i+1,σ8,_,I11.unpinned,(keepTn I11).1,(keepTn I11).2,w10⟩
 exact codeAny_compStart_list loop (T.self X.A 0 _ _ _ tn4 loop)
theorem IZ (hc:X.calm=true) (hkind:scope.kind=.function) (hnames:∀ x∈scope.names,x.2=.local->scope.names.lookup x.1=v9 .local)
  (hfree:∀ y∈scope.names,y.2=.free->X.env.scope.names.lookup y.1=v9 .cell∨X.env.scope.names.lookup y.1=v9 .free) (huniq:∀ y∈scope.names,y.2=.free->(y.1,cy)∉scope.names)
  (hcap:Bi X scope N' caps) (hi:PI X tg iter wi)
  (hb:∀ cells C fp pins s₀ H₀,PG (blk X N' scope cells C fp pins s₀ H₀) tg g/\KS (blk X N' scope cells C fp pins s₀ H₀) ifs tt/\PE (blk X N' scope cells C fp pins s₀ H₀) elt te)
  (hs:∀ x,fm iter X.env x=pure x:=by intro _;rfl):PE X (.ListComp elt [⟨tg,iter,ifs,0⟩] scope pos) (Ix wi caps g tt te):=by
 intro pins s σ H Q I h;have hclos:=rW (scope:=scope) (env:=X.env) fun y hy hf=>I.ok.has y.1 (hfree y hy hf);rw[eval_ListComp];refine p9 (use:=wb) rfl hs hclos hkind hnames (thn (hi pins s σ H _ I h) fun v s1 h1=>thn h1 fun itv s2 h2=> ?_);obtain⟨it,fp,tn,J,H2,e,I2,T,st2,f2,q⟩:=h2;subst e;refine wM (RR:=fun acc C=>compPost (model X.prog X.w) X.A X.xe wb (EP X pins σ Q) acc C) (Qn:=fun v H=>∀ a,v=.ref a->Q (.ref a) H) hc hkind hfree huniq hcap hb I2 T st2 f2 (fun D hD=> ?_) fun C D s6 H6 I6 q6 ⟨m6,ns6⟩ hC h1 h2 h3 h4=> ?_
 ·obtain⟨W,w0,turn⟩:=q D hD;refine⟨W,w0,fun i m σ' H w=> ?_⟩;rcases turn i m σ' H w with⟨a,b⟩|z
  ·exact .inl ⟨a,fun c hc=>by cases hc;exact b⟩
  ·exact .inr z
 ·refine⟨m6,ns6,fun h7 sb=> ?_⟩;have I8:Inv X pins σ H6 { s6 with heap:=h7 }:=I6.turned (t':=s6.toks) (fun b o hb e=>(sb.2 b hb).trans e) hC h1 (.inr h2) h3 h4;exact⟨.ref D,H6,I8,rfl,q6 D rfl⟩
noncomputable def Lg (wi:TI) (caps:List (Option Nat)) (g:TG) (tt:TT) (te:TE) (i:Nat):TS:=fun D σ H=>Ix wi caps g tt te σ H fun x H1=>D.nx (σ.set i (v9 x)) H1
theorem IQ (hN:X.N.Nodup) (hiy:X.N[i]?=v9 y) (hy:X.env.scope.names.lookup y=v9 .local) (hc:X.calm=true) (hkind:scope.kind=.function) (hnames:∀ x∈scope.names,x.2=.local->scope.names.lookup x.1=v9 .local)
  (hfree:∀ y∈scope.names,y.2=.free->X.env.scope.names.lookup y.1=v9 .cell∨X.env.scope.names.lookup y.1=v9 .free) (huniq:∀ y∈scope.names,y.2=.free->(y.1,cy)∉scope.names)
  (hcap:Bi X scope N' caps) (hi:PI X tg iter wi)
  (hb:∀ cells C fp pins s₀ H₀,PG (blk X N' scope cells C fp pins s₀ H₀) tg g/\KS (blk X N' scope cells C fp pins s₀ H₀) ifs tt/\PE (blk X N' scope cells C fp pins s₀ H₀) elt te)
  (hsw:jc (.ListComp elt [⟨tg,iter,ifs,0⟩] scope pos) (v9 (.Name y py)) spos.line X.env=pure true:=by rfl)
  (hs:∀ x,fm iter X.env x=pure x:=by intro _;rfl):PS X (.Assign [.Name y py] (.ListComp elt [⟨tg,iter,ifs,0⟩] scope pos) spos) (Lg wi caps g tt te i):=by
 intro pins s σ H D I h;have hclos:=rW (scope:=scope) (env:=X.env) fun y hy hf=>I.ok.has y.1 (hfree y hy hf);rw[exec_Assign_Name_used _ _ _ _ hsw];refine ae (sy (ae ?_));show ax _ X.A (do let _ <- comprehension (.ListComp elt [⟨tg,iter,ifs,0⟩] scope pos) scope X.env _ (newList []) false (eval iter X.env) (v9 (assign (.Name y py) X.env))) _ _ s;refine ae (gg (p9 (use:=v9 (assign (.Name y py) X.env)) (Q:=fun _ s'=>SP X pins D .next s') rfl hs hclos hkind hnames
  (thn (hi pins s σ H _ I h) fun v s1 h1=>thn h1 fun itv s2 h2=> ?_)) (fun _ s' hq=>ak (ak hq)) fun _ _ e=>e)
 obtain⟨it,fp,tn,J,H2,e,I2,T,st2,f2,q⟩:=h2;subst e;refine wM (RR:=fun acc C=>compPost (model X.prog X.w) X.A X.xe (v9 (assign (.Name y py) X.env)) (fun _ s'=>SP X pins D .next s') acc C) (Qn:=fun v H=>∀ a,v=.ref a->D.nx (σ.set i (v9 (.ref a))) H) hc hkind hfree huniq hcap hb I2 T st2 f2 (fun D' hD=> ?_) fun C D' s6 H6 I6 q6 ⟨m6,ns6⟩ hC h1 h2 h3 h4=> ?_
 ·obtain⟨W,w0,turn⟩:=q D' hD;refine⟨W,w0,fun i m σ' H w=> ?_⟩;rcases turn i m σ' H w with⟨a,b⟩|z
  ·exact .inl ⟨a,fun c hc=>by cases hc;exact b⟩
  ·exact .inr z
 ·show ax _ X.A (assign (.Name y py) X.env (.ref D')) _ _ _;refine wpAny_assign_Name (uU I6 hN hiy (.inl hy) (v:=.ref D') (u:=.ref D') rfl (fun s7 I7 ⟨a,sb,ha⟩=> ?_) (.inr hy));have hCa:C≠a:=by
   rcases ha with rfl|ha
   ·exact h1
   ·exact fun z=>h3 y a ha z.symm
  refine⟨m6,ns6.sameBut sb hCa,fun h8 sb8=> ?_⟩;have I8:Inv X pins (σ.set i (v9 (.ref D'))) H6 { s7 with heap:=h8 }:=I7.turned (t':=s7.toks) (fun b o hb e=>(sb8.2 b hb).trans e) hC h1 (.inr h2) h3 h4;exact⟨_,H6,I8,q6 D' rfl⟩
end
set_option compiler.extract_closed false
local macro_rules| `(tactic|walk_at "adr")=> `(tactic|((try unfold af at*);omega))
noncomputable def Itz (K:aa) (l1 l2:af):It:=
 ⟨fun i H=>∃ xs ys x y,SqL K H l1 xs/\SqL K H l2 ys/\xs[i]?=v9 x/\ys[i]?=v9 y,
  fun i H v H'=>∃ T x y,v=.ref T/\H T=wb/\(∀ xs,SqL K H l1 xs->xs[i]?=v9 x)/\(∀ ys,SqL K H l2 ys->ys[i]?=v9 y)/\H'=upd H T (.tup [x,y]),
  fun i H=>∃ xs ys,SqL K H l1 xs/\SqL K H l2 ys/\(xs.length<=i∨ys.length<=i)⟩
theorem Fz {K:aa}{z TI TO i1 i2 l1 l2:af} (D:ZipApart z TI TO i1 i2 l1 l2):KG P w K (.Tuple es k pos) (Itz K l1 l2) [z,TI,TO,i1,i2] z
  (fun i h=>IsZip h z TI TO .none/\IsPair h TI (.ref i1) (.ref i2)/\(∃ a b,IsPair h TO a b)/\h.IsListIter i1 l1 i/\h.IsListIter i2 l2 i) where
 mem:=by simp
 obj:=fun i h st b hb=>by
  obtain⟨hz,hTI,⟨a,b',hTO⟩,⟨o1,e1,c1,d1⟩,⟨o2,e2,c2,d2⟩⟩:=st;simp only[aj,cr,or_false] at hb;rcases hb with rfl|rfl|rfl|rfl|rfl
  ·exact⟨_,hz,fun v q=>by cases (show uy _=qh v from q)⟩
  ·exact⟨_,hTI,fun v q=>by cases (show Data.seq _ _=qh v from q)⟩
  ·exact⟨_,hTO,fun v q=>by cases (show Data.seq _ _=qh v from q)⟩
  ·exact⟨o1,e1,fun v q=>by rw[d1] at q;cases q⟩
  ·exact⟨o2,e2,fun v q=>by rw[d2] at q;cases q⟩
 keep:=fun i h h' st kp=>by
  obtain⟨hz,hTI,⟨a,b',hTO⟩,h1,h2⟩:=st;exact⟨kp z (by simp) _ hz,kp TI (by simp) _ hTI,⟨a,b',kp TO (by simp) _ hTO⟩,h1.at fun o e=>kp i1 (by simp) o e,h2.at fun o e=>kp i2 (by simp) o e⟩
 item:=by
  intro X hP hw hK hc i pins s σ H E I hf st hg;subst hP hw hK;obtain⟨hz,hTI,⟨a,b',hTO⟩,h1,h2⟩:=st;obtain⟨xs,ys,x,y,hq1,hq2,hx,hy⟩:=hg;obtain⟨its1,rv1,p1,hz1⟩:=I.list hq1;obtain⟨its2,rv2,p2,hz2⟩:=I.list hq2;obtain⟨u1,hu1,ru1⟩:=rv1.get hx;obtain⟨u2,hu2,ru2⟩:=rv2.get hy;have lt:∀ {c:af}{o:Obj},s.heap.get? c=v9 o->c<s.heap.objs.size:=fun e=>br e;refine wpAny_pyNext_zip_item D hz hTI hTO h1 h2 p1.isList p2.isList (x:=u1) (y:=u2) (by simpa using hu1) (by simpa using hu2) fun h' a1 a2 a3 a4 a5 a6 hk=> ?_;refine⟨_,rfl,wpAny_letOwnedTupleGo_zip (s:={ s with heap:=h' }) a1 fun h'' z1 sb=> ?_⟩;have hTf:H s.heap.objs.size=wb:=I.hok.fresh (bp _);have hzlt:=lt hz;have up:∀ b o,b≠z->b≠TO->b≠i1->b≠i2->s.heap.get? b=v9 o->h''.get? b=v9 o:=fun b o n1 n2 n3 n4 e=>(sb.2 b n1).trans (hk b o n1 n2 n3 n4 e);have fpb:∀ b,b=z∨b=TO∨b=i1∨b=i2->b∈[z,TI,TO,i1,i2]:=fun b hb=>by
   rcases hb with rfl|rfl|rfl|rfl <;> simp
  have nT:∀ b,b∈[z,TI,TO,i1,i2]->b≠s.heap.objs.size:=fun b hb=>by
   obtain⟨o1,e1,_⟩:=h1;obtain⟨o2,e2,_⟩:=h2;simp only[aj,cr,or_false] at hb;rcases hb with rfl|rfl|rfl|rfl|rfl
   ·exact cm (lt hz)
   ·exact cm (lt hTI)
   ·exact cm (lt hTO)
   ·exact cm (lt e1)
   ·exact cm (lt e2)
  have trk:∀ b u,H b=v9 u->b∉[z,TI,TO,i1,i2]:=fun b u e hb=>by
   rw[(hf b hb).1] at e;cases e
  have upH:∀ b u o,H b=v9 u->s.heap.get? b=v9 o->h''.get? b=v9 o:=fun b u o e q=>
   up b o (fun w=>trk b u e (fpb b (.inl w))) (fun w=>trk b u e (fpb b (.inr (.inl w)))) (fun w=>trk b u e (fpb b (.inr (.inr (.inl w))))) (fun w=>trk b u e (fpb b (.inr (.inr (.inr w))))) q
  have hTup:IsTup h'' s.heap.objs.size #[u1,u2]:=⟨_,(sb.2 _ (Nat.ne_of_gt hzlt)).trans a5,rfl,_,rfl⟩;have hok:HOk X.prog X.w (upd H s.heap.objs.size (.tup [x,y])) h'':=fun b u e=>by
   by_cases hb:b=s.heap.objs.size
   ·subst hb;rw[aM] at e;cases e;exact⟨by show 2<=sizeLine;decide,[u1,u2],.cons ru1 (.cons ru2 .nil),hTup⟩
   ·rw[aF hb] at e;refine(I.hok b u e).stay (fun c v hcb q=> ?_) (fun c q=>by rw[aF (aI q hTf)];exact q) fun c zs q=>by rw[aF (aI q hTf)];exact q
    rcases hcb with rfl|hcb
    ·exact upH _ _ v e q
    ·exact upH _ _ v hcb q
  have I2:Inv X pins σ (upd H s.heap.objs.size (.tup [x,y])) { s with heap:=h'' }:=by
   refine I.step (g':=s.gens) (d':=s.drawn) (t':=s.toks) (ch:=[z,TO,i1,i2]) (fun b hb=> ?_) (fun b o hL hb hcb e n=> ?_) (fun b o hL hb hcb e n=>⟨o.slots,?_⟩) (fun b o hcb e n=> ?_) (fun b o hcb e=>⟨o,?_⟩)
    (fun b zs e=>by rw[aF (aI e hTf)];exact e) (fun b ob zs e=>by rw[aF (aI e hTf)];exact e) (fun b ps e=>⟨#[],by rw[aF (aI e hTf),e];simp⟩) (fun m hm=> ?_) hok I.bare
   ·have hb':b∈[z,TI,TO,i1,i2]:=by
     simp only[aj,cr,or_false] at hb;exact fpb b hb
    obtain⟨f0,f1,f2,f3,f4,f5⟩:=hf b hb';exact⟨f3,f1,f4,f5⟩
   ·simp only[aj,cr,or_false,not_or] at hcb;exact up b o hcb.1 hcb.2.1 hcb.2.2.1 hcb.2.2.2 e
   ·simp only[aj,cr,or_false,not_or] at hcb;exact up b o hcb.1 hcb.2.1 hcb.2.2.1 hcb.2.2.2 e
   ·rw[aF (cm (lt e))];exact n
   ·simp only[aj,cr,or_false,not_or] at hcb;exact up b o hcb.1 hcb.2.1 hcb.2.2.1 hcb.2.2.2 e
   ·obtain⟨o,es',ep,ho,r⟩:=hm;exact⟨o,es',ep,up _ o (fun q=>(hf z (by simp)).2.1 q.symm) (fun q=>(hf TO (by simp)).2.1 q.symm) (fun q=>(hf i1 (by simp)).2.1 q.symm) (fun q=>(hf i2 (by simp)).2.1 q.symm) ho,r⟩
  refine⟨.ref s.heap.objs.size,_,I2,rfl,⟨s.heap.objs.size,x,y,rfl,hTf,fun zs q=>by rw[I.list_inj q hq1];exact hx,fun zs q=>by rw[I.list_inj q hq2];exact hy,rfl⟩,?_,fun b hb=> ?_⟩
  ·exact⟨z1,(sb.2 _ D.TIz).trans (hk _ _ D.TIz D.TITO D.TIi1 D.TIi2 hTI),⟨_,_,(sb.2 _ D.TOz).trans a2⟩,a3.at fun o e=>(sb.2 _ D.i1z).trans e,a4.at fun o e=>(sb.2 _ D.i2z).trans e⟩
  ·rw[aF (nT b hb)];exact(hf b hb).1
 done:=by
  intro X hP hw hK hc i pins s σ H E I hf st hg;subst hP hw hK;obtain⟨hz,hTI,⟨a,b',hTO⟩,h1,h2⟩:=st;obtain⟨xs,ys,hq1,hq2,hx⟩:=hg;obtain⟨its1,rv1,p1,hz1⟩:=I.list hq1;obtain⟨its2,rv2,p2,hz2⟩:=I.list hq2;have hl1:=rv1.length;have hl2:=rv2.length;refine wpAny_pyNext_zip_end (I.ok.hd hc) D hz hTI hTO h1 h2 p1.isList p2.isList ?_ fun h' hk=>⟨rfl,?_⟩
  ·rcases hx with hx|hx
   ·exact .inl (by simp;omega)
   ·exact .inr (by simp;omega)
  ·have trk:∀ b u,H b=v9 u->b∉[z,TI,TO,i1,i2]:=fun b u e hb=>by
    rw[(hf b hb).1] at e;cases e
   have up:∀ b o,b∉[z,TO,i1,i2]->s.heap.get? b=v9 o->h'.get? b=v9 o:=fun b o hb e=>by
    simp only[aj,cr,or_false,not_or] at hb;exact hk b o hb.1 hb.2.1 hb.2.2.1 hb.2.2.2 e
   have sub:∀ b,b∈[z,TO,i1,i2]->b∈[z,TI,TO,i1,i2]:=fun b hb=>by
    simp only[aj,cr,or_false] at hb ⊢;rcases hb with rfl|rfl|rfl|rfl <;> simp
   refine I.step (g':=s.gens) (d':=s.drawn) (t':=s.toks) (ch:=[z,TO,i1,i2]) (fun b hb=> ?_) (fun b o hL hb hcb e n=>up b o hcb e) (fun b o hL hb hcb e n=>⟨o.slots,up b o hcb e⟩) (fun b o hcb e n=>n) (fun b o hcb e=>⟨o,up b o hcb e⟩)
    (fun b zs e=>e) (fun b ob zs e=>e) (fun b ps e=>⟨#[],by rw[e];simp⟩) (fun m hm=> ?_) (fun b u e=> ?_) I.bare
   ·obtain⟨f0,f1,f2,f3,f4,f5⟩:=hf b (sub b hb);exact⟨f3,f1,f4,f5⟩
   ·obtain⟨o,es',ep,ho,r⟩:=hm;exact⟨o,es',ep,up _ o (fun q=>(hf _ (sub _ q)).2.1 rfl) ho,r⟩
   ·refine(I.hok b u e).stay (fun c v hcb q=>up c v (fun w=> ?_) q) (fun _ q=>q) fun _ _ q=>q;rcases hcb with rfl|hcb
    ·exact trk _ _ e (sub _ w)
    ·exact trk _ _ hcb (sub _ w)
 self:=fun _ _ _ _ _ st h=>wpAny_pyIter_zip st.1 h
noncomputable def Qr (K:aa) (ta:TA):TI:=fun σ H R=>ta σ H fun vs H1=>∃ a b,vs=[.ref a,.ref b]/\(∃ xs,SqL K H1 a xs)/\(∃ ys,SqL K H1 b ys)/\R (Itz K a b) H1
section
variable {X:Cx}
theorem LG (hg:Gl X "zip") (hm:X.mg "zip"=wb) (ha:PA X [a,b] ta) (hs:aq [a,b] X.env=[(false,eval a X.env),(false,eval b X.env)]:=by rfl) (hs2:aq [b] X.env=[(false,eval b X.env)]:=by rfl):
  PI X (.Tuple es k tp) (.Call (.Name "zip" p) [a,b] [] pos) (Qr X.K ta):=by
 intro pins s σ H R I h;refine Call_ (rD I hg hm PyProof.Rows.boot_zip (jd (thn (ha pos pins s σ H _ I h) fun us s1 ⟨vs,H1,I1,r1,q1⟩=> ?_) (by rw[hs,hs2]) (by rw[hs2];rfl)));obtain⟨a1,b1,e,⟨xs,hx⟩,⟨ys,hy⟩,q⟩:=q1;subst e;obtain⟨u1,u2,rfl,ru1,ru2⟩:=CB r1;cases ru1;cases ru2;obtain⟨its1,rv1,p1,hz1⟩:=I1.list hx;obtain⟨its2,rv2,p2,hz2⟩:=I1.list hy;have lt1:a1<s1.heap.objs.size:=by obtain⟨o,_,e,_⟩:=p1;exact br e
 have lt2:b1<s1.heap.objs.size:=by obtain⟨o,_,e,_⟩:=p2;exact br e
 refine call_zip_2 p1.isList p2.isList fun h' hz hTI hTO hi1 hi2 hsz hk=> ?_;have I2:Inv X pins σ H1 { s1 with heap:=h' }:=I1.kept (t':=s1.toks) hk;refine wpAny_pyIter_zip (s:={ s1 with heap:=h' }) hz ?_;refine⟨_,[_,_,_,_,_],_,_,H1,rfl,I2,Fz (zipApart_new lt1 lt2),⟨hz,hTI,⟨_,_,hTO⟩,hi1,hi2⟩,fun b hb=> ?_,q⟩;have hb':s1.heap.objs.size<=b:=by
  simp only[aj,cr,or_false] at hb;rcases hb with rfl|rfl|rfl|rfl|rfl <;> walk_at "adr"
 exact I1.fpOk hb' (I1.hok.fresh hb')
end
noncomputable def FJ (ok:Okk) (H:Hp):Hp:=fun b=>@ite _ (ok b) (j6 _) (H b) wb
theorem FG (h:ok b):FJ ok H b=H b:=by unfold FJ;rw[if_pos h]
theorem FH (h:¬ ok b):FJ ok H b=wb:=by unfold FJ;rw[if_neg h]
theorem kG (h:FJ ok H b=v9 o):ok b/\H b=v9 o:=by
 by_cases k:ok b
 ·rw[FG k] at h;exact⟨k,h⟩
 ·rw[FH k] at h;cases h
structure ItD (K:aa) (al:Nat->Option af) (H0:Hp) (J:It) (ds:List D):Prop where
 go:∀ i H,Same H0 H->i<ds.length->J.go i H
 yld:∀ i H x H' d,Same H0 H->J.yld i H x H'->ds[i]?=v9 d->Same H H'/\Rep K ⟨fun b=>H0 b≠wb∨H b=wb,al⟩ H' x d
 stop:∀ i H,Same H0 H->ds.length<=i->J.stop i H
theorem _root_.L2.PI.imp (h:PI X tg e t) (f:∀ σ H R,t' σ H R->t σ H R):PI X tg e t':=fun pins s σ H R I q=>h pins s σ H R I (f _ _ _ q)
section
variable {X:Cx}{tg e a b c:bx}{f fa fb fc:DF}{fl:DL}{pos p:Pos}
noncomputable def lF (lo:Int) (n:Nat):List D:=(bz n).map fun k=>D.int (lo+(k:Nat))
theorem kF (lo:Int) (n:Nat):(lF lo n).length=n:=by simp[lF]
theorem FE {lo:Int} (h:(lF lo n)[i]?=v9 d):i<n/\d=.int (lo+(i:Nat)):=by
 unfold lF at h;rw[az] at h;obtain⟨k,e,rfl⟩:=aG h;obtain⟨hi,e'⟩:=bg.mp e;rw[iw] at hi;rw[o5] at e';subst e';exact⟨hi,rfl⟩
theorem itD_range {K:aa}{lo:Int}:ItD K al H0 (Itr lo n) (lF lo n):=
 ⟨fun i H _ hi=>by rw[kF] at hi;exact hi,fun i H x H' d _ y hd=>by
  obtain⟨rfl,rfl⟩:=y;obtain⟨_,rfl⟩:=FE hd;exact⟨Same.refl _,.int _⟩,fun i H _ hi=>by rw[kF] at hi;exact hi⟩
noncomputable def kU (ds:List D):Option (List D):=match ds with
 |[.int j]=>if -1000000000<=j/\j<=1000000000 then v9 (lF 0 j.toNat) else wb
 |_=>wb
noncomputable def xH (xs ys:List D):List D:=bu (fun x y=>D.tup [x,y]) xs ys
noncomputable abbrev BR:=D->Rho->Option Rho
noncomputable def gR (K:aa) (bd:BR):TG:=fun v σ H Q=>∃(ok:Okk) (ρ ρ':Rho) (d:D),EnvR K ok H σ ρ/\σ.length=ρ.length/\Rep K ok H v d/\bd d ρ=v9 ρ'/\∀ σ',EnvR K ok H σ' ρ'->σ'.length=ρ'.length->Q σ' H
noncomputable def aY (i:Nat):BR:=fun d ρ=>v9 (ρ.set i (v9 d))
theorem _root_.L2.PG.imp (h:PG X tg t) (f:∀ v σ H Q,t' v σ H Q->t v σ H Q):PG X tg t':=fun pins s σ H v u Q I r q=>h pins s σ H v u Q I r (f _ _ _ _ q)
theorem EnvR.set {K:aa} (h:EnvR K ok H σ ρ) (hl:σ.length=ρ.length) (r:Rep K ok H v d) (i:Nat):EnvR K ok H (σ.set i (v9 v)) (ρ.set i (v9 d)):=fun j e hj=>by
 by_cases hij:i=j
 ·subst hij
  by_cases hi:i<ρ.length
  ·rw[ff hi] at hj;cases hj;exact⟨v,by rw[ff (by omega)],r⟩
  ·rw[c3 (by rw[c6];omega)] at hj;cases hj
 ·rw[hX hij] at hj;obtain⟨w,a,b⟩:=h j e hj;exact⟨w,by rw[hX hij];exact a,b⟩
theorem Kg (hN:X.N.Nodup) (hi:X.N[i]?=v9 x) (hx:Loc X.env.scope x) (hf:X.fn x=true∨X.env.scope.names.lookup x=v9 .local:=by first|exact .inl rfl|exact .inr rfl|assumption):PG X (.Name x tp) (gR X.K (aY i)):=
 PG.imp (xS hN hi hx hf) fun v σ H Q ⟨ok,ρ,ρ',d,h1,h2,h3,h4,h5⟩=>by
  cases h4;exact h5 _ (h1.set h2 h3 i) (by rw[c6,c6];exact h2)
noncomputable def tU (i j:Nat):BR:=fun d ρ=>match d with
 |.tup [x,y]=>v9 ((ρ.set i (v9 x)).set j (v9 y))
 |_=>wb
theorem Kf (hc:X.calm=true) (hN:X.N.Nodup) (hi:X.N[i]?=v9 x) (hj:X.N[j]?=v9 y) (hx:Loc X.env.scope x) (hy:Loc X.env.scope y)
  (hf:X.fn x=true∨X.env.scope.names.lookup x=v9 .local:=by first|exact .inl rfl|exact .inr rfl|assumption) (hf2:X.fn y=true∨X.env.scope.names.lookup y=v9 .local:=by first|exact .inl rfl|exact .inr rfl|assumption):
  PG X (.Tuple [.Name x p1,.Name y p2] k tp) (gR X.K (tU i j)):=
 PG.imp (LH (n:=2) hc (AB (xS hN hi hx hf) (AB (xS hN hj hy hf2) IV))) fun v σ H Q ⟨ok,ρ,ρ',d,h1,h2,h3,h4,h5⟩=>by
  unfold tU at h4;split at h4
  ·cases h4;obtain⟨a,xs,rfl,g,r⟩:=h3.tup_inv;obtain⟨v1,v2,rfl,r1,r2⟩:=r.two_inv;refine⟨a,_,rfl,g.sq,rfl,v1,_,rfl,v2,_,rfl,rfl,?_⟩;refine h5 _ ((h1.set h2 r1 i).set (by rw[c6,c6];exact h2) r2 j) ?_;simp only[c6];exact h2
  ·cases h4
noncomputable def Bj (caps:List (Option Nat)) (ρ:Rho):Rho:=caps.map fun o=>o.bind fun j=>(ρ[j]?).join
noncomputable def jI:DB:=fun _=>v9 true
theorem EnvR.cap {K:aa} (h:EnvR K ok H σ ρ) (caps:List (Option Nat)):EnvR K ok H (EX caps σ) (Bj caps ρ):=fun i d e=>by
 unfold Bj at e;rw[az] at e;obtain⟨o,e1,e2⟩:=aG e;cases o with
 |none=>cases e2
 |some j=>
  have e3:(ρ[j]?).join=v9 d:=e2;have e4:ρ[j]?=v9 (v9 d):=by
   cases q:ρ[j]? with
   |none=>rw[q] at e3;cases e3
   |some o=>
    rw[q] at e3;cases o with
    |none=>cases e3
    |some d'=>cases e3;rfl
  obtain⟨v,a,b⟩:=h j d e4;refine⟨v,?_,b⟩;unfold EX;rw[az,e1];show v9 ((σ[j]?).join)=_;rw[a];rfl
theorem KC (caps:List (Option Nat)) (σ:St) (ρ:Rho):(EX caps σ).length=(Bj caps ρ).length:=by simp[EX,Bj]
variable {elt iter:bx}{ifs:List bx}{scope:j4}{N':List Str}{caps:List (Option Nat)}{fi:DL}{bd:BR}{t:DB}
structure Fv (X:Cx) (scope:j4) (N':List Str) (caps:List (Option Nat)):Prop where
 calm:X.calm=true
 kind:scope.kind=.function
 names:∀ x∈scope.names,x.2=.local->scope.names.lookup x.1=v9 .local
 free:∀ y∈scope.names,y.2=.free->X.env.scope.names.lookup y.1=v9 .cell∨X.env.scope.names.lookup y.1=v9 .free
 uniq:∀ y∈scope.names,y.2=.free->(y.1,cy)∉scope.names
 cap:Bi X scope N' caps
end
section
variable {K:aa}{ok0:Okk}{H0 H H':Hp}{σ:St}{ρ:Rs}{A:Nat->Option af}
theorem CT {l:List α} (h:(l.set i a)[j]?=v9 b):(j=i/\i<l.length/\b=a)∨(j≠i/\l[j]?=v9 b):=by
 by_cases e:i=j
 ·subst e
  by_cases hi:i<l.length
  ·rw[ff hi] at h;exact .inl ⟨rfl,hi,(b8 h).symm⟩
  ·rw[c3 (by rw[c6];omega)] at h;cases h
 ·rw[hX e] at h;exact .inr ⟨fun z=>e z.symm,h⟩
end
section
variable {X:Cx}{st:cx}{rest body els:List cx}{tg e a b c iter:bx}{es:List bx}{f fa fb:DF}{fl fi:DL}{t:DB}{F G:DS}{bd:BS}{pos p:Pos}{M:List Nat}
end
theorem EK (hr:Room k A) (h:n<=200:=by decide):A.units+n<dn:=by
 have:=hr.un
 omega
end L2.MB
end
section
namespace L2.MB
noncomputable def mT:List D->Option (List Int)
 |[]=>v9 []
 |.int i::ds=>(mT ds).map fun ns=>i::ns
 |_::_=>wb
theorem qK:∀ {ds:List D}{ns:List Int},mT ds=v9 ns->ds=ns.map D.int
 |[],ns,h=>by cases h;rfl
 |.int i::ds,ns,h=>by
  have h':(mT ds).map (fun ns=>i::ns)=v9 ns:=h;obtain⟨ms,e,rfl⟩:=aG h';rw[qK e];rfl
 |.non::_,_,h=>nomatch h
 |.bl _::_,_,h=>nomatch h
 |.str _::_,_,h=>nomatch h
 |.lst _::_,_,h=>nomatch h
 |.tup _::_,_,h=>nomatch h
section
variable {X:Cx}{e a b c:bx}{es:List bx}{f fa fb fc:DF}{fl:DL}{pos p:Pos}
theorem yH (h:Vals (ns.map V.int) its):∃ xs:Array (Int×Tok),its.toArray=intItems xs/\xs.toList.map (·.1)=ns:=by
 have hi:=BU h;obtain⟨xs,e⟩:=(hi.allInts).items;refine⟨xs,e,?_⟩;rw[<- nums_intItems,<- e];exact hi.numsOf
theorem EY (hc:X.calm=true):CallR X (.builtin "sum") (fun xs H Q=>∃(p:af) (ns:List Int),xs=[.ref p]/\SqL X.K H p (ns.map V.int)/\Q (.int ns.sum) H):=by
 intro pins s σ H xs us Q I r h;obtain⟨p,ns,rfl,hq,q⟩:=h;obtain⟨u,rfl,rx⟩:=lG r;cases rx;obtain⟨its,r',pl,hz⟩:=I.list hq;obtain⟨ys,e1,e2⟩:=yH r';refine sum_intListG (I.ok.hd hc) (by rw[<- e1];exact pl.isList) fun h' tk t' k=> ?_;rw[preSum_eq,rg (by simp),e2];exact⟨.int ns.sum,H,I.kept k,⟨_,rfl⟩,q⟩
noncomputable def NH (ds:List D):Option D:=match ds with
 |[.lst xs]=>(mT xs).map fun ns=>.int ns.sum
 |_=>wb
noncomputable def Eu (ds:List D):Option D:=match ds with
 |[.int i,.int j]=>v9 (.int (if j>i then j else i))
 |_=>wb
noncomputable def GU (ds:List D):Option D:=match ds with
 |[.int i,.int j]=>v9 (.int (if j<i then j else i))
 |_=>wb
noncomputable def NJ (ds:List D):Option D:=match ds with
 |[.int i]=>v9 (.int i)
 |[.bl k]=>v9 (.int (if k then 1 else 0))
 |[.str x]=>if x.length<=640 then(oq x).map D.int else wb
 |_=>wb
theorem Qp {K:aa} (r:Reps K ok H vs [.lst xs]):∃ p ys,vs=[.ref p]/\RL K ok H p ys/\Reps K ok H ys xs:=by
 obtain⟨v,rfl,r1⟩:=r.one_inv;obtain⟨p,ys,rfl,g,r2⟩:=r1.lst_inv;exact⟨p,ys,rfl,g,r2⟩
theorem Kl {K:aa}:FitL K (fun xs H Q=>∃(p:af) (ns:List Int),xs=[.ref p]/\SqL K H p (ns.map V.int)/\Q (.int ns.sum) H) NH:=fun ok H xs as d Q h1 r e k=>by
 unfold NH at e;split at e
 ·obtain⟨ns,e1,rfl⟩:=aG e;obtain rfl:=qK e1;obtain⟨p,ys,rfl,g,r2⟩:=Qp r;obtain rfl:=r2.of_ints;exact⟨p,ns,rfl,g.sq,k _ H (Same.refl H) (.int _)⟩
 ·cases e
theorem Hh {K:aa}:FitL K (fun xs H Q=>∃ i j,xs=[.int i,.int j]/\Q (.int (if j>i then j else i)) H) Eu:=fun ok H xs as d Q h1 r e k=>by
 unfold Eu at e;split at e
 ·cases e;obtain⟨v,v',rfl,r1,r2⟩:=r.two_inv;obtain rfl:=r1.int_inv;obtain rfl:=r2.int_inv;exact⟨_,_,rfl,k _ H (Same.refl H) (.int _)⟩
 ·cases e
theorem Hg {K:aa}:FitL K (fun xs H Q=>∃ i j,xs=[.int i,.int j]/\Q (.int (if j<i then j else i)) H) GU:=fun ok H xs as d Q h1 r e k=>by
 unfold GU at e;split at e
 ·cases e;obtain⟨v,v',rfl,r1,r2⟩:=r.two_inv;obtain rfl:=r1.int_inv;obtain rfl:=r2.int_inv;exact⟨_,_,rfl,k _ H (Same.refl H) (.int _)⟩
 ·cases e
theorem Ff:CallR X (.type "int") (fun xs H Q=>∃ x n,xs=[.str x]/\x.length<=640/\oq x=v9 n/\Q (.int n) H):=by
 intro pins s σ H xs us Q I r h;obtain⟨x,n,rfl,hz,hn,q⟩:=h;obtain⟨u,rfl,t,rfl⟩:=lG r;exact PySem.W.KIN.call_text hn hz ⟨.int n,H,I.tok _,⟨_,rfl⟩,q⟩
theorem Kp {K:aa}:FitL K (fun xs H Q=>((∃ i,xs=[.int i]/\Q (.int i) H)∨∃ k,xs=[.bl k]/\Q (.int (if k then 1 else 0)) H)∨∃ x n,xs=[.str x]/\x.length<=640/\oq x=v9 n/\Q (.int n) H) NJ:=fun ok H xs as d Q h1 r e k=>by
 unfold NJ at e;split at e
 ·cases e;obtain⟨v,rfl,r1⟩:=r.one_inv;obtain rfl:=r1.int_inv;exact .inl (.inl ⟨_,rfl,k _ H (Same.refl H) (.int _)⟩)
 ·cases e;obtain⟨v,rfl,r1⟩:=r.one_inv;obtain rfl:=r1.bl_inv;exact .inl (.inr ⟨_,rfl,k _ H (Same.refl H) (.int _)⟩)
 ·rename_i x
  by_cases hz:x.length<=640
  ·rw[if_pos hz] at e;obtain⟨n,e1,rfl⟩:=aG e;obtain⟨v,rfl,r1⟩:=r.one_inv;obtain rfl:=r1.str_inv;exact .inr ⟨x,n,rfl,hz,e1,k _ H (Same.refl H) (.int _)⟩
  ·rw[if_neg hz] at e;cases e
 ·cases e
theorem Fg:CallR X (.type "int") (fun xs H Q=>((∃ i,xs=[.int i]/\Q (.int i) H)∨∃ k,xs=[.bl k]/\Q (.int (if k then 1 else 0)) H)∨∃ x n,xs=[.str x]/\x.length<=640/\oq x=v9 n/\Q (.int n) H):=call_int1.or Ff
theorem rP (a:Array Nat):∀(k:Nat) (acc:Array Nat),((aw k a).foldl (· ++·) acc).size=acc.size+k*a.size
 |0,acc=>by simp
 |k+1,acc=>by
  rw[d6,vf,rP a k,Array.size_append,Nat.succ_mul];omega
noncomputable def NF (x:Str) (n:Int):Str:=if n<1 then Str.empty else if(n==1||x.length==0)=true then x else⟨(aw n.toNat x.cps).foldl (· ++·) #[]⟩
noncomputable def Kj (a b:D):Option D:=match a,b with
 |.str x,.int n=>if 0<=n/\n<=100000/\x.length<=100 then v9 (.str (NF x n)) else wb
 |_,_=>wb
theorem Jn:OpR X (kr .Mult) (fun x y H Q=>∃ z n,x=.str z/\y=.int n/\(0<=n/\n<=100000/\z.length<=100)/\Q (.str (NF z n)) H):=by
 intro pins s σ H x y v u Q I rx ry h;obtain⟨z,n,rfl,rfl,⟨h0,h1,h2⟩,q⟩:=h;obtain⟨t,rfl⟩:=rx;obtain⟨t',rfl⟩:=ry;refine PySem.P.mul_str ?_ (fun hn _=> ?_) (fun hn _=> ?_) ?_
 ·have e1:decide (n< -(2 ^ 63:Int))=false:=decide_eq_false (by omega);have e2:decide (n≥2 ^ 63)=false:=decide_eq_false (by omega);rw[e1,e2,Bool.or_false]
 ·have h3:n<=100000:=h1
  have:(100:Int)<=(2 ^ 63-1) / n:=by
   refine(Int.le_ediv_iff_mul_le (by omega)).mpr ?_;omega
  have h4:(z.length:Int)<=100:=by omega
  omega
 ·have hle:z.length*n.toNat<=100*100000:=Nat.mul_le_mul h2 (by omega);have hs:=b7
  first|exact decide_eq_false (by omega)|(simp[Builtin.Str.tooLong];omega)|(simp[tooLong];omega)
 ·unfold NF at q;split
  ·rename_i hn
   rw[if_pos hn] at q;exact⟨by show 0<=sizeLine;exact im _,.str _,H,I.tok _,⟨_,rfl⟩,q⟩
  ·rename_i hn
   rw[if_neg hn] at q;split
   ·rename_i hz
    rw[if_pos hz] at q;exact⟨.str _,H,I,⟨_,rfl⟩,q⟩
   ·rename_i hz
    rw[if_neg hz] at q;refine⟨?_,.str _,H,I.tok _,⟨_,rfl⟩,q⟩
    show((aw n.toNat z.cps).foldl (· ++·) #[]).size<=sizeLine
    rw[rP,b7];have hle:n.toNat*z.cps.size<=100000*100:=Nat.mul_le_mul (by omega) h2;simp only[bc,iq];omega
end
noncomputable def Pp (lo c:Int) (n:Nat):It:=⟨fun i _=>i<n,fun i H x H'=>H'=H/\x=.int (lo+(i:Nat)*c),fun i _=>n<=i⟩
theorem xJ {K:aa} (it:af) (lo c:Int) (n:Nat):KG P w K tg (Pp lo c n) [it] it (fun i h=>qr h it (lo+(i:Nat)*c) ((n:Int)-(i:Nat)) c) where
 mem:=by simp
 obj:=fun i h st b hb=>by
  have e:b=it:=by simpa using hb
  subst e;exact⟨_,st,fun v z=>by
   have z':uy _=qh v:=z;cases z'⟩
 keep:=fun i h h' st k=>k it (by simp) _ st
 item:=by
  intro X hP hw hK hc i pins s σ H E I hf st hg;subst hP hw hK;obtain⟨f0,f1,f2,f3,f4,f5⟩:=hf it (by simp);have W:=Walks.range (prog:=X.prog) (w:=X.w) (I.ok.hd hc) it lo c n;refine W.item i s _ _ hg st fun v h' tk hv st' kk=> ?_;obtain⟨t,rfl⟩:=hv;have I1:Inv X pins σ H { s with heap:=h',toks:=tk }:=I.turned (fun b o hb e=>kk b o (by simpa using hb) e) f0 f1 f3 f4 f5;exact⟨_,rfl,GO (s:={ s with heap:=h',toks:=tk }) (n:="range_iterator") st' rfl rfl (by decide) ⟨.int (lo+(i:Nat)*c),H,I1,⟨t,rfl⟩,⟨rfl,rfl⟩,st',fun b hb=>(hf b hb).1⟩⟩
 done:=by
  intro X hP hw hK hc i pins s σ H E I hf st hg;subst hP hw hK;obtain⟨f0,f1,f2,f3,f4,f5⟩:=hf it (by simp);exact qt (I.ok.hd hc) st (by have:n<=i:=hg;omega) fun h' eb=>⟨rfl,I.turned (t':=s.toks) (fun b o hb e=>eb b o hb e) f0 f1 f3 f4 f5⟩
 self:=fun _ _ _ _ _ st h=>qu st h
section
variable {X:Cx}{tg e a b c:bx}{f fa fb fc:DF}{fl:DL}{pos p:Pos}
noncomputable def pQ (lo c:Int) (n:Nat):List D:=(bz n).map fun k=>D.int (lo+(k:Nat)*c)
theorem nN (lo c:Int) (n:Nat):(pQ lo c n).length=n:=by simp[pQ]
theorem itD_range3 {K:aa}{lo c:Int}:ItD K al H0 (Pp lo c n) (pQ lo c n):=
 ⟨fun i H _ hi=>by rw[nN] at hi;exact hi,fun i H x H' d _ y hd=>by
  obtain⟨rfl,rfl⟩:=y;unfold pQ at hd;rw[az] at hd;obtain⟨k,e,rfl⟩:=aG hd;obtain⟨hi,e'⟩:=bg.mp e;rw[o5] at e';subst e';exact⟨Same.refl _,.int _⟩,fun i H _ hi=>by rw[nN] at hi;exact hi⟩
end
noncomputable def zJ (scope:j4):Bool:=scope.names.all fun y=> !(y.2== .local)||scope.names.lookup y.1==v9 .local
noncomputable def EV (out scope:j4):Bool:=scope.names.all fun y=> !(y.2== .free)||((out.names.lookup y.1==v9 .cell||out.names.lookup y.1==v9 .free)&& !(scope.names.contains (y.1,cy)))
noncomputable def wQ (N:List Str) (out scope:j4) (x:Str):Option Nat->Bool
 |none=>true
 |some j=>N[j]?==v9 x&&scope.names.lookup x==v9 .free&& !(scope.names.contains (x,cy))&&(out.names.lookup x==v9 .cell||out.names.lookup x==v9 .free)
noncomputable def lY (N:List Str) (out scope:j4):List Str->List (Option Nat)->Bool
 |[],[]=>true
 |x::xs,c::cs=>wQ N out scope x c&&lY N out scope xs cs
 |_,_=>false
theorem rY:∀ {xs:List Str}{cs:List (Option Nat)},lY N out scope xs cs=true->cs.length=xs.length
 |[],[],_=>rfl
 |x::xs,c::cs,h=>by
  have h':(wQ N out scope x c&&lY N out scope xs cs)=true:=h;rw[bt] at h';simp[rY h'.2]
 |[],_::_,h=>nomatch h
 |_::_,[],h=>nomatch h
theorem rZ:∀ {xs:List Str}{cs:List (Option Nat)}{i j:Nat},lY N out scope xs cs=true->cs[i]?=v9 (v9 j)->∃ x,xs[i]?=v9 x/\wQ N out scope x (v9 j)=true
 |[],[],i,j,_,h=>by simp at h
 |x::xs,c::cs,i,j,h,h2=>by
  have h':(wQ N out scope x c&&lY N out scope xs cs)=true:=h;rw[bt] at h';cases i with
  |zero=>
   simp at h2;subst h2;exact⟨x,rfl,h'.1⟩
  |succ i=>
   simp at h2;obtain⟨y,e,q⟩:=rZ (i:=i) h'.2 h2;exact⟨y,by simpa using e,q⟩
 |[],_::_,_,_,h,_=>nomatch h
 |_::_,[],_,_,h,_=>nomatch h
theorem wO (h1:X.calm=true) (h2:scope.kind=.function) (h3:zJ scope=true) (h4:EV X.env.scope scope=true) (h5:lY X.N X.env.scope scope N' caps=true):Fv X scope N' caps:=by
 refine⟨h1,h2,fun x hx hl=> ?_,fun y hy hf=> ?_,fun y hy hf hm=> ?_,rY h5,fun i j hij=> ?_⟩
 ·have:=d5.mp h3 x hx
  rw[hl] at this;simpa using this
 ·have:=d5.mp h4 y hy
  rw[hf] at this;simp at this;exact this.1
 ·have:=d5.mp h4 y hy
  rw[hf] at this;simp at this;exact this.2 hm
 ·obtain⟨x,e,q⟩:=rZ h5 hij;unfold wQ at q;simp only[bt,gz,beq_iff_eq,uv,List.contains_eq_mem,decide_eq_false_iff_not] at q;exact⟨x,e,q.1.1.1,q.1.1.2,q.1.2,q.2⟩
namespace boot
theorem len:db "len"=v9 (.builtin "len"):=by decide+kernel
theorem sum:db "sum"=v9 (.builtin "sum"):=by decide+kernel
theorem min:db "min"=v9 (.builtin "min"):=by decide+kernel
theorem max:db "max"=v9 (.builtin "max"):=by decide+kernel
theorem sorted:db "sorted"=v9 (.builtin "sorted"):=by decide+kernel
theorem list:db "list"=v9 (.type "list"):=by decide+kernel
theorem tuple:db "tuple"=v9 (.type "tuple"):=by decide+kernel
theorem int:db "int"=v9 (.type "int"):=by decide+kernel
theorem bool:db "bool"=v9 (.type "bool"):=by decide+kernel
theorem str:db "str"=v9 (.type "str"):=by decide+kernel
end boot
structure Bn (mg:Str->Option ag):Prop where
 len:mg "len"=wb
 range:mg "range"=wb
 zip:mg "zip"=wb
 sum:mg "sum"=wb
 all:mg "all"=wb
 min:mg "min"=wb
 max:mg "max"=wb
 sorted:mg "sorted"=wb
 isinstance:mg "isinstance"=wb
 list:mg "list"=wb
 tuple:mg "tuple"=wb
 int:mg "int"=wb
 bool:mg "bool"=wb
 str:mg "str"=wb
theorem bn_mk {K:aa} (X:K.In h) (G:h.Ns ce mg) (h1:cu K ce "len"=v9 wb) (h2:cu K ce "range"=v9 wb) (h3:cu K ce "zip"=v9 wb)
  (h4:cu K ce "sum"=v9 wb) (h5:cu K ce "all"=v9 wb) (h6:cu K ce "min"=v9 wb) (h7:cu K ce "max"=v9 wb) (h8:cu K ce "sorted"=v9 wb)
  (h9:cu K ce "isinstance"=v9 wb) (h10:cu K ce "list"=v9 wb) (h11:cu K ce "tuple"=v9 wb) (h12:cu K ce "int"=v9 wb) (h13:cu K ce "bool"=v9 wb)
  (h14:cu K ce "str"=v9 wb):Bn mg:=
 ⟨c4 X G h1,c4 X G h2,c4 X G h3,c4 X G h4,c4 X G h5,c4 X G h6,c4 X G h7,c4 X G h8,c4 X G h9,c4 X G h10,c4 X G h11,c4 X G h12,
  c4 X G h13,c4 X G h14⟩
noncomputable def FnIn (K:aa) (x:Str) (st:cx):Prop:=∃(f:af) (oc:ag) (od an:Option af) (osl:Array (Option ag)) (kV doc pm cdv ct:ag),cu K ce x=v9 (v9 (.ref f))/\
 K.lookup f=v9 ⟨oc,od,.func (ic x x (gS st) (fR st) (aX st) .none kV doc pm an cdv ct),osl⟩/\jv K cdv x=true/\fy K (.ref f)=true
theorem fnIn_mk {K:aa}{st:cx}{kV doc pm cdv ct:ag} (a:cu K ce x=v9 (v9 (.ref f)))
  (l:K.lookup f=v9 ⟨oc,od,.func (ic x x (gS st) (fR st) (aX st) .none kV doc pm an cdv ct),osl⟩) (c:jv K cdv x=true) (k:fy K (.ref f)=true):FnIn K x st:=
 ⟨f,oc,od,an,osl,kV,doc,pm,cdv,ct,a,l,c,k⟩
structure NL (K:aa) (mg:Str->Option ag) (x:Str) (st:cx) (f:af) (fd:jk):Prop where
 fn:Fun K x x st f fd
 at_:mg x=v9 (.ref f)
theorem FnIn.fnAt {K:aa}{st:cx} (I:FnIn K x st) (X:K.In h) (G:h.Ns ce mg):∃ f fd,NL K mg x st f fd:=by
 obtain⟨f,oc,od,an,osl,kV,doc,pm,cdv,ct,a,l,c,k⟩:=I;exact⟨f,_,Il l c k,mz X G a⟩
inductive Ob where
 /-- an instance of the c-th class;a list;a dict by tuples;a dict by texts and ints -/
 |ins (c:Nat) (fs:List (Str×D))|ml (ds:List D)|dt (kvs:List (List Key×D))|dk (kvs:List (Key×D))
 /-- a dict by tuples while a loop walks it -/
 |dz (kvs:List (List Key×D))
noncomputable abbrev Om:=List Ob
inductive KvR {κ:Type} (K:aa) (ok:Okk) (H:Hp):List (κ×V)->List (κ×D)->Prop
 |nil:KvR K ok H [] []
 |cons {k:κ}{v:V}{d:D}{vs:List (κ×V)}{ds:List (κ×D)}:Rep K ok H v d->KvR K ok H vs ds->KvR K ok H ((k,v)::vs) ((k,d)::ds)
section
variable {κ:Type}{K:aa}{ok ok':Okk}{H H':Hp}
theorem KvR.mono (f:∀ b o,ok b->H b=v9 o->ok' b/\H' b=v9 o) (g:∀ n a,ok.al n=v9 a->ok'.al n=v9 a):∀ {vs:List (κ×V)}{ds:List (κ×D)},KvR K ok H vs ds->KvR K ok' H' vs ds
 |_,_,.nil=>.nil
 |_,_,.cons r rs=>.cons (r.mono f g) (KvR.mono f g rs)
theorem KvR.length:∀ {vs:List (κ×V)}{ds:List (κ×D)},KvR K ok H vs ds->vs.length=ds.length
 |_,_,.nil=>rfl
 |_,_,.cons _ rs=>by rw[bw,bw,KvR.length rs]
theorem KvR.keys:∀ {vs:List (κ×V)}{ds:List (κ×D)},KvR K ok H vs ds->vs.map (·.1)=ds.map (·.1)
 |_,_,.nil=>rfl
 |_,_,.cons _ rs=>by rw[bq,bq,KvR.keys rs]
theorem KvR.vals:∀ {vs:List (κ×V)}{ds:List (κ×D)},KvR K ok H vs ds->Reps K ok H (vs.map (·.2)) (ds.map (·.2))
 |_,_,.nil=>.nil
 |_,_,.cons r rs=>.cons r (KvR.vals rs)
end
section
variable {K:aa}{ok ok':Okk}{H H':Hp}
theorem KvR.look:∀ {vs:List (Str×V)}{ds:List (Str×D)},KvR K ok H vs ds->ds.lookup x=v9 d->∃ v,vs.lookup x=v9 v/\Rep K ok H v d
 |_,_,.nil,e=>by cases e
 |_,_,@KvR.cons _ _ _ _ k v d' vs ds r rs,e=>by
  rw[fg] at e ⊢;cases q:x==k with
  |true=>
   rw[q] at e;cases e;exact⟨v,rfl,r⟩
  |false=>
   rw[q] at e;exact KvR.look rs e
theorem KvR.look_none:∀ {vs:List (Str×V)}{ds:List (Str×D)},KvR K ok H vs ds->ds.lookup x=wb->vs.lookup x=wb
 |_,_,.nil,e=>rfl
 |_,_,@KvR.cons _ _ _ _ k v d' vs ds r rs,e=>by
  rw[fg] at e ⊢;cases q:x==k with
  |true=>rw[q] at e;cases e
  |false=>rw[q] at e;exact KvR.look_none rs e
end
noncomputable def CellR (cls:Nat->af) (K:aa) (ok:Okk) (H:Hp) (a:af):Ob->Prop
 |.ins c fs=>∃ dx vs,H a=v9 (.ins (cls c) dx vs)/\KvR K ok H vs fs
 |.ml ds=>∃ xs,H a=v9 (.lst xs)/\Reps K ok H xs ds
 |.dt kvs=>∃ vs,H a=v9 (.dT vs)/\KvR K ok H vs kvs
 |.dk kvs=>∃ vs,H a=v9 (.dK vs)/\KvR K ok H vs kvs
 |.dz kvs=>∃ o vs,H a=v9 (.frz o (.dT vs))/\KvR K ok H vs kvs
theorem CellR.mono {K:aa} (f:∀ b o,ok b->H b=v9 o->ok' b/\H' b=v9 o) (g:∀ n a,ok.al n=v9 a->ok'.al n=v9 a) (e:∀ o,H a=v9 o->H' a=v9 o)
  (h:CellR cls K ok H a ob):CellR cls K ok' H' a ob:=by
 cases ob with
 |ins c fs=>obtain⟨dx,vs,h1,h2⟩:=h;exact⟨dx,vs,e _ h1,h2.mono f g⟩
 |ml ds=>obtain⟨xs,h1,h2⟩:=h;exact⟨xs,e _ h1,h2.mono f g⟩
 |dt kvs=>obtain⟨xs,h1,h2⟩:=h;exact⟨xs,e _ h1,h2.mono f g⟩
 |dk kvs=>obtain⟨xs,h1,h2⟩:=h;exact⟨xs,e _ h1,h2.mono f g⟩
 |dz kvs=>obtain⟨o,xs,h1,h2⟩:=h;exact⟨o,xs,e _ h1,h2.mono f g⟩
theorem CellR.there {K:aa} (h:CellR cls K ok H a ob):∃ o,H a=v9 o/\True:=by
 cases ob with
 |ins c fs=>obtain⟨dx,vs,h1,h2⟩:=h;exact⟨_,h1,trivial⟩
 |ml ds=>obtain⟨xs,h1,h2⟩:=h;exact⟨_,h1,trivial⟩
 |dt kvs=>obtain⟨xs,h1,h2⟩:=h;exact⟨_,h1,trivial⟩
 |dk kvs=>obtain⟨xs,h1,h2⟩:=h;exact⟨_,h1,trivial⟩
 |dz kvs=>obtain⟨o,xs,h1,h2⟩:=h;exact⟨_,h1,trivial⟩
structure Stt (cls:Nat->af) (K:aa) (ok:Okk) (H:Hp) (ω:Om):Prop where
 cell:∀ n ob,ω[n]?=v9 ob->∃ a,ok.al n=v9 a/\CellR cls K ok H a ob
 dom:∀ n a,ok.al n=v9 a->n<ω.length
 inj:∀ n m a,ok.al n=v9 a->ok.al m=v9 a->n=m
 nok:∀ n a,ok.al n=v9 a->¬ ok.p a
structure Ex (ok:Okk) (H:Hp) (ok':Okk) (H':Hp):Prop where
 dat:∀ b o,ok b->H b=v9 o->ok' b/\H' b=v9 o
 ids:∀ n a,ok.al n=v9 a->ok'.al n=v9 a
 frm:∀ b o,H b=v9 o->(∀ n,ok.al n≠v9 b)->H' b=v9 o
 new:∀ n a,ok'.al n=v9 a->ok.al n=v9 a∨H a=wb
 keep:∀ b,H' b=wb->H b=wb
 sub:∀ b,ok' b->ok b∨H b=wb
 /-- what a loop walks stands still -/
 frz:∀ b o u,H b=v9 (.frz o u)->H' b=v9 (.frz o u)
structure Nw (cls:Nat->af) (K:aa) (ok:Okk) (H:Hp) (ok':Okk) (H':Hp) (ω':Om):Prop where
 ex:Ex ok H ok' H'
 okh:OkH ok' H'
 st:Stt cls K ok' H' ω'
section
variable {cls:Nat->af}{K:aa}{ok ok' ok2:Okk}{H H' H2:Hp}{ω ω' ω2:Om}{σ:St}{ρ:Rho}{a:af}{n:Nat}
theorem Stt.at_ (h:Stt cls K ok H ω) (e:ok.al n=v9 a):∃ ob,ω[n]?=v9 ob/\CellR cls K ok H a ob:=by
 have hn:=h.dom n a e;obtain⟨b,e1,c⟩:=h.cell n ω[n] (by simp[hn]);rw[e] at e1;cases e1;exact⟨_,by simp[hn],c⟩
theorem Ex.same (s:Same H H'):Ex ok H ok H':=⟨fun b o k e=>⟨k,s b o e⟩,fun _ _ e=>e,fun b o e _=>s b o e,fun _ _ e=>.inl e,fun _ e=>s.free e,fun _ e=>.inl e,fun b o u e=>s b _ e⟩
theorem Ex.trans (x:Ex ok H ok' H') (y:Ex ok' H' ok2 H2):Ex ok H ok2 H2 where
 dat:=fun b o k e=>let ⟨k',e'⟩:=x.dat b o k e;y.dat b o k' e'
 ids:=fun n a e=>y.ids n a (x.ids n a e)
 frm:=fun b o e h=>y.frm b o (x.frm b o e h) fun n z=>by
  rcases x.new n b z with z|z
  ·exact h n z
  ·rw[e] at z;cases z
 new:=fun n a e=>by
  rcases y.new n a e with z|z
  ·exact x.new n a z
  ·exact .inr (x.keep a z)
 keep:=fun b e=>x.keep b (y.keep b e)
 sub:=fun b e=>by
  rcases y.sub b e with z|z
  ·exact x.sub b z
  ·exact .inr (x.keep b z)
 frz:=fun b o u e=>y.frz b o u (x.frz b o u e)
theorem Nw.trans (x:Nw cls K ok H ok' H' ω') (y:Nw cls K ok' H' ok2 H2 ω2):Nw cls K ok H ok2 H2 ω2:=⟨x.ex.trans y.ex,y.okh,y.st⟩
theorem Stt.same (h:Stt cls K ok H ω) (s:Same H H'):Stt cls K ok H' ω:=
 ⟨fun n ob e=>let ⟨a,e1,c⟩:=h.cell n ob e;⟨a,e1,c.mono (fun b o k e=>⟨k,s b o e⟩) (fun _ _ e=>e) fun o e=>s a o e⟩,h.dom,h.inj,h.nok⟩
theorem Nw.same (h:OkH ok H) (t:Stt cls K ok H ω) (s:Same H H'):Nw cls K ok H ok H' ω:=⟨.same s,h.same s,t.same s⟩
theorem Nw.refl (h:OkH ok H) (t:Stt cls K ok H ω):Nw cls K ok H ok H ω:=.same h t (Same.refl H)
theorem Rep.ex (x:Ex ok H ok' H') (h:Rep K ok H v d):Rep K ok' H' v d:=h.mono x.dat x.ids
theorem Reps.ex (x:Ex ok H ok' H') (h:Reps K ok H v d):Reps K ok' H' v d:=h.mono x.dat x.ids
theorem EnvR.ex (x:Ex ok H ok' H') (h:EnvR K ok H σ ρ):EnvR K ok' H' σ ρ:=fun i d e=>let ⟨v,a,r⟩:=h i d e;⟨v,a,r.ex x⟩
theorem qN {l:List Ob}{a b:Ob} (h:(l.set i a)[j]?=v9 b):(j=i/\b=a)∨(j≠i/\l[j]?=v9 b):=by
 rcases CT h with⟨h1,_,h3⟩|h
 ·exact .inl ⟨h1,h3⟩
 ·exact .inr h
theorem Nw.write (h:OkH ok H) (t:Stt cls K ok H ω) (e:ok.al n=v9 a) (h0:H a=v9 o0) (c:(∀ b u,ok b->H b=v9 u->ok b/\upd H a o b=v9 u)->CellR cls K ok (upd H a o) a ob) (nt:∀ xs,o≠ .tup xs:=by intro _ z;cases z) (nz:∀ x u,o0≠ .frz x u:=by intro _ _ z;cases z):Nw cls K ok H ok (upd H a o) (ω.set n ob):=by
 have dat:∀ b u,ok b->H b=v9 u->ok b/\upd H a o b=v9 u:=fun b u k q=>⟨k,by rw[aF (show b≠a from fun z=>t.nok n a e (z ▸ k))];exact q⟩;refine⟨⟨dat,fun _ _ z=>z,fun b u q z=>by rw[aF (show b≠a from fun w=>z n (w ▸ e))];exact q,fun _ _ z=>.inl z,fun b q=> ?_,fun _ z=>.inl z,fun b x u z=>by rw[aF (show b≠a from fun w=>nz x u (b8 ((h0.symm.trans (w ▸ z)))))];exact z⟩,⟨fun b q=> ?_,fun b xs q=> ?_⟩,fun m ob' q=> ?_,fun m b q=> ?_,t.inj,t.nok⟩
 ·by_cases hb:b=a
  ·rw[hb,aM] at q;cases q
  ·rw[aF hb] at q;exact q
 ·by_cases hb:b=a
  ·rw[hb,aM] at q;cases q
  ·rw[aF hb] at q;exact h b q
 ·by_cases hb:b=a
  ·rw[hb,aM] at q;exact absurd (b8 q) (nt xs)
  ·rw[aF hb] at q;exact h.tp b xs q
 ·rcases qN q with⟨rfl,rfl⟩|⟨hm,q⟩
  ·exact⟨a,e,c dat⟩
  ·obtain⟨b,e1,c1⟩:=t.cell m ob' q;refine⟨b,e1,c1.mono dat (fun _ _ z=>z) fun u z=> ?_⟩;rw[aF (show b≠a from fun w=>hm (t.inj m n a (w ▸ e1) e))];exact z
 ·rw[c6];exact t.dom m b q
noncomputable def okN (ok:Okk) (n:Nat) (p:af):Okk:=⟨fun b=>ok b/\b≠p,fun m=>if m=n then v9 p else ok.al m⟩
theorem sM (t:Stt cls K ok H ω) (m:Nat) (b:af) (e:ok.al m=v9 b):(okN ok ω.length p).al m=v9 b:=by
 have hm:=t.dom m b e
 show(if m=ω.length then v9 p else ok.al m)=v9 b
 rw[if_neg (cm hm)];exact e
theorem xY (np:H p=wb) (b:af) (u:HO) (k:ok b) (e:H b=v9 u):okN ok n p b/\upd H p o b=v9 u:=
 ⟨⟨k,aI e np⟩,by rw[aF (aI e np)];exact e⟩
theorem Nw.make (h:OkH ok H) (t:Stt cls K ok H ω) (np:H p=wb) (c:CellR cls K (okN ok ω.length p) (upd H p o) p ob) (nt:∀ xs,o≠ .tup xs:=by intro _ z;cases z):Nw cls K ok H (okN ok ω.length p) (upd H p o) (ω++[ob]):=by
 have al:∀ m b,(okN ok ω.length p).al m=v9 b->(m=ω.length/\b=p)∨(m≠ω.length/\ok.al m=v9 b):=fun m b q=>by
  have q':(if m=ω.length then v9 p else ok.al m)=v9 b:=q
  by_cases hm:m=ω.length
  ·rw[if_pos hm] at q';exact .inl ⟨hm,(b8 q').symm⟩
  ·rw[if_neg hm] at q';exact .inr ⟨hm,q'⟩
 have tr:∀ m b,ok.al m=v9 b->b≠p:=fun m b q=>by
  obtain⟨_,_,c1⟩:=t.at_ q;obtain⟨_,z,_⟩:=c1.there;exact aI z np
 refine⟨⟨fun b u k e=>xY np b u k e,fun m b q=>sM t m b q,fun b u q z=>by rw[aF (aI q np)];exact q,fun m b q=> ?_,fun b q=> ?_,fun b k=>.inl k.1,fun b x u z=>by rw[aF (aI z np)];exact z⟩,⟨fun b q=> ?_,fun b xs q=> ?_⟩,fun m ob' q=> ?_,fun m b q=> ?_,fun m m' b q q'=> ?_,fun m b q k=> ?_⟩
 ·rcases al m b q with⟨_,rfl⟩|⟨_,q⟩
  ·exact .inr np
  ·exact .inl q
 ·by_cases hb:b=p
  ·rw[hb];exact np
  ·rw[aF hb] at q;exact q
 ·have hb:b≠p:=fun z=>by rw[z,aM] at q;cases q
  rw[aF hb] at q;exact⟨h b q,hb⟩
 ·have hb:b≠p:=fun z=>by rw[z,aM] at q;exact nt xs (b8 q)
  rw[aF hb] at q;exact⟨h.tp b xs q,hb⟩
 ·by_cases hm:m<ω.length
  ·rw[bi hm] at q;obtain⟨b,e1,c1⟩:=t.cell m ob' q;exact⟨b,sM t m b e1,c1.mono (fun b u k e=>xY np b u k e) (fun m b q=>sM t m b q) fun u z=>by rw[aF (aI z np)];exact z⟩
  ·have hm':m=ω.length:=by
    have:=(bg.mp q).1
    simp at this;omega
   subst hm';rw[gl (bp _)] at q;simp at q;subst q;exact⟨p,by show(if ω.length=ω.length then v9 p else _)=_;rw[if_pos rfl],c⟩
 ·rw[bv,g7];rcases al m b q with⟨rfl,_⟩|⟨_,q⟩
  ·omega
  ·have:=t.dom m b q
   omega
 ·rcases al m b q with⟨rfl,rfl⟩|⟨_,q⟩ <;> rcases al m' b q' with⟨rfl,w⟩|⟨_,q'⟩
  ·rfl
  ·exact absurd rfl (tr m' b q')
  ·exact absurd w (tr m b q)
  ·exact t.inj m m' b q q'
 ·rcases al m b q with⟨_,rfl⟩|⟨_,q⟩
  ·exact k.2 rfl
  ·exact t.nok m b q k.1
theorem Rep.new_obj:Rep K (okN ok n p) H (.ref p) (.obj n):=.obj (by show(if n=n then v9 p else _)=_;rw[if_pos rfl])
end
inductive Rz (α:Type) where
 |ok (a:α)|ex (c:Nat)
noncomputable abbrev OG (α:Type):=Rho->Om->Option (Rz α×Om)
noncomputable abbrev XE:=Nat->Hp->Prop
structure Pre (cls:Nat->af) (K:aa) (ok:Okk) (H:Hp) (ω:Om) (σ:St) (ρ:Rho):Prop where
 okh:OkH ok H
 st:Stt cls K ok H ω
 env:EnvR K ok H σ ρ
 len:σ.length=ρ.length
theorem Pre.nw {K:aa} (p:Pre cls K ok H ω σ ρ) (x:Nw cls K ok H ok' H' ω'):Pre cls K ok' H' ω' σ ρ:=⟨x.okh,x.st,p.env.ex x.ex,p.len⟩
noncomputable def exR (cls:Nat->af) (K:aa) (ok:Okk) (H:Hp) (ω':Om) (E:XE) (c:Nat):Prop:=∀ ok' H',Nw cls K ok H ok' H' ω'->E c H'
noncomputable def tO (cls:Nat->af) (K:aa) (f:OG D) (E:XE):TE:=fun σ H Q=>∃(ok:Okk) (ρ:Rho) (ω:Om) (r:Rz D) (ω':Om),Pre cls K ok H ω σ ρ/\f ρ ω=v9 (r,ω')/\match r with
 |.ok d=>∀ v ok' H',Nw cls K ok H ok' H' ω'->Rep K ok' H' v d->Q v H'
 |.ex c=>exR cls K ok H ω' E c
noncomputable def tOT (cls:Nat->af) (K:aa) (f:OG Bool) (E:XE):TT:=fun σ H Q=>∃(ok:Okk) (ρ:Rho) (ω:Om) (r:Rz Bool) (ω':Om),Pre cls K ok H ω σ ρ/\f ρ ω=v9 (r,ω')/\match r with
 |.ok b=>∀ ok' H',Nw cls K ok H ok' H' ω'->Q b H'
 |.ex c=>exR cls K ok H ω' E c
noncomputable def tOA (cls:Nat->af) (K:aa) (f:OG (List D)) (E:XE):TA:=fun σ H Q=>∃(ok:Okk) (ρ:Rho) (ω:Om) (r:Rz (List D)) (ω':Om),Pre cls K ok H ω σ ρ/\f ρ ω=v9 (r,ω')/\match r with
 |.ok ds=>∀ vs ok' H',Nw cls K ok H ok' H' ω'->Reps K ok' H' vs ds->Q vs H'
 |.ex c=>exR cls K ok H ω' E c
noncomputable abbrev OE (X:Cx) (cls:Nat->af) (E:XE) (e:bx) (f:OG D):Prop:=PE X e (tO cls X.K f E)
noncomputable abbrev OT (X:Cx) (cls:Nat->af) (E:XE) (e:bx) (f:OG Bool):Prop:=PT X e (tOT cls X.K f E)
noncomputable abbrev OA (X:Cx) (cls:Nat->af) (E:XE) (es:List bx) (f:OG (List D)):Prop:=PA X es (tOA cls X.K f E)
noncomputable def oB {α β:Type} (f:OG α) (g:α->OG β):OG β:=fun ρ ω=>match f ρ ω with
 |none=>wb
 |some (.ex c,ω1)=>v9 (.ex c,ω1)
 |some (.ok a,ω1)=>g a ρ ω1
theorem kL {g:α->OG β} (h:oB f g ρ ω=v9 (r,ω')):(∃ c,f ρ ω=v9 (.ex c,ω')/\r=.ex c)∨∃ a ω1,f ρ ω=v9 (.ok a,ω1)/\g a ρ ω1=v9 (r,ω'):=by
 unfold oB at h;split at h
 ·cases h
 ·cases h;exact .inl ⟨_,‹_›,rfl⟩
 ·exact .inr ⟨_,_,‹_›,h⟩
noncomputable def oR {α:Type} (o:Option (α×Om)):Option (Rz α×Om):=o.map fun p=>(.ok p.1,p.2)
theorem bW {r:Rz α} (h:oR o=v9 (r,ω')):∃ a,o=v9 (a,ω')/\r=.ok a:=by
 obtain⟨⟨a,w⟩,e1,e2⟩:=aG h;cases e2;exact⟨a,e1,rfl⟩
noncomputable def oP (f:DF):OG D:=fun ρ ω=>oR ((f ρ).map fun d=>(d,ω))
noncomputable def oPT (f:DB):OG Bool:=fun ρ ω=>oR ((f ρ).map fun d=>(d,ω))
noncomputable def pu {α:Type} (o:Option α) (ω:Om):Option (α×Om):=o.map fun d=>(d,ω)
theorem cI {a:α} (h:pu o ω=v9 (a,ω')):o=v9 a/\ω'=ω:=by
 obtain⟨b,e1,e2⟩:=aG h;cases e2;exact⟨e1,rfl⟩
section
variable {X:Cx}{cls:Nat->af}{E:XE}{e a b c:bx}{es:List bx}{f:DF}{fa fb:OG D}{fl:OG (List D)}{ft ft':OG Bool}{pos p:Pos}
theorem Jt (h:DE X e f):OE X cls E e (oP f):=h.imp fun σ H Q ⟨ok,ρ,ω,r,ω',P,h3,h4⟩=>by
 obtain⟨d,e1,rfl⟩:=bW h3;obtain⟨e2,rfl⟩:=cI e1;exact⟨ok,ρ,d,P.okh,P.env,e2,fun v H' s r=>h4 v ok H' (.same P.okh P.st s) r⟩
theorem tO.then_ {K:aa}{r:Rz α} (P:Pre cls K ok H ω σ ρ) (e:oB fa g ρ ω=v9 (r,ω')) (hx:∀ c,r=.ex c->exR cls K ok H ω' E c)
  (h:∀ d ω1 v ok1 H1,g d ρ ω1=v9 (r,ω')->Nw cls K ok H ok1 H1 ω1->Pre cls K ok1 H1 ω1 σ ρ->Rep K ok1 H1 v d->Q v H1):tO cls K fa E σ H Q:=by
 rcases kL e with⟨c,e1,rfl⟩|⟨d,ω1,e1,e2⟩
 ·exact⟨ok,ρ,ω,.ex c,ω',P,e1,hx c rfl⟩
 ·exact⟨ok,ρ,ω,.ok d,ω1,P,e1,fun v ok1 H1 n r1=>h d ω1 v ok1 H1 e2 n (P.nw n) r1⟩
theorem tOA.then_ {K:aa}{r:Rz α} (P:Pre cls K ok H ω σ ρ) (e:oB fl g ρ ω=v9 (r,ω')) (hx:∀ c,r=.ex c->exR cls K ok H ω' E c)
  (h:∀ d ω1 v ok1 H1,g d ρ ω1=v9 (r,ω')->Nw cls K ok H ok1 H1 ω1->Pre cls K ok1 H1 ω1 σ ρ->Reps K ok1 H1 v d->Q v H1):tOA cls K fl E σ H Q:=by
 rcases kL e with⟨c,e1,rfl⟩|⟨d,ω1,e1,e2⟩
 ·exact⟨ok,ρ,ω,.ex c,ω',P,e1,hx c rfl⟩
 ·exact⟨ok,ρ,ω,.ok d,ω1,P,e1,fun v ok1 H1 n r1=>h d ω1 v ok1 H1 e2 n (P.nw n) r1⟩
theorem tOT.then_ {K:aa}{r:Rz α} (P:Pre cls K ok H ω σ ρ) (e:oB ft g ρ ω=v9 (r,ω')) (hx:∀ c,r=.ex c->exR cls K ok H ω' E c)
  (h:∀ d ω1 ok1 H1,g d ρ ω1=v9 (r,ω')->Nw cls K ok H ok1 H1 ω1->Pre cls K ok1 H1 ω1 σ ρ->Q d H1):tOT cls K ft E σ H Q:=by
 rcases kL e with⟨c,e1,rfl⟩|⟨d,ω1,e1,e2⟩
 ·exact⟨ok,ρ,ω,.ex c,ω',P,e1,hx c rfl⟩
 ·exact⟨ok,ρ,ω,.ok d,ω1,P,e1,fun ok1 H1 n=>h d ω1 ok1 H1 e2 n (P.nw n)⟩
theorem exR.nw {K:aa}{c:Nat} (h:exR cls K ok H ω' E c) (n:Nw cls K ok H ok' H' ω1):exR cls K ok' H' ω' E c:=fun ok2 H2 m=>h ok2 H2 (n.trans m)
noncomputable def xC (cls:Nat->af) (K:aa) (r:R2) (g:Om->D->D->Option (D×Om)):Prop:=∀(ok:Okk) (H:Hp) (ω:Om) (x y:V) (a b d:D) (ω':Om) (Q:VK),OkH ok H->Stt cls K ok H ω->Rep K ok H x a->Rep K ok H y b->g ω a b=v9 (d,ω')->
 (∀ v ok' H',Nw cls K ok H ok' H' ω'->Rep K ok' H' v d->Q v H')->r x y H Q
noncomputable def uH (cls:Nat->af) (K:aa) (r:List V->Hp->VK->Prop) (g:Om->List D->Option (D×Om)):Prop:=∀(ok:Okk) (H:Hp) (ω:Om) (xs:List V) (as:List D) (d:D) (ω':Om) (Q:VK),OkH ok H->Stt cls K ok H ω->Reps K ok H xs as->g ω as=v9 (d,ω')->
 (∀ v ok' H',Nw cls K ok H ok' H' ω'->Rep K ok' H' v d->Q v H')->r xs H Q
theorem Fit2.lift {K:aa} (F:Fit2 K r g):xC cls K r fun ω a b=>pu (g a b) ω:=fun ok H ω x y a b d ω' Q h1 st ra rb e k=>by
 obtain⟨ue,rfl⟩:=cI e;exact F ok H x y a b d Q h1 ra rb ue fun v H' s r=>k v ok H' (.same h1 st s) r
theorem FitL.lift {K:aa} (F:FitL K r g):uH cls K r fun ω a=>pu (g a) ω:=fun ok H ω x a d ω' Q h1 st ra e k=>by
 obtain⟨ue,rfl⟩:=cI e;exact F ok H x a d Q h1 ra ue fun v H' s r=>k v ok H' (.same h1 st s) r
noncomputable def o2 (g:Om->D->D->Option (D×Om)) (f h:OG D):OG D:=oB f fun a=>oB h fun b _ ω=>oR (g ω a b)
noncomputable def oL (g:Om->List D->Option (D×Om)) (f:OG (List D)):OG D:=oB f fun as _ ω=>oR (g ω as)
theorem tO.op {K:aa} (F:xC cls K r g) (h:tO cls K (o2 g fa fb) E σ H Q):tOp r (tO cls K fa E) (tO cls K fb E) σ H Q:=by
 obtain⟨ok,ρ,ω,rz,ω',P,e,q⟩:=h;refine tO.then_ P e (fun c z=>by subst z;exact q) fun a ω1 v ok1 H1 e1 n1 P1 r1=> ?_;refine tO.then_ P1 e1 (fun c z=>by subst z;exact exR.nw q n1) fun b ω2 u ok2 H2 e2 n2 P2 r2=> ?_;obtain⟨d,e3,rfl⟩:=bW e2;exact F ok2 H2 ω2 v u a b d ω' Q P2.okh P2.st (r1.ex n2.ex) r2 e3 fun w ok3 H3 n3 r3=>q w ok3 H3 (n1.trans (n2.trans n3)) r3
theorem vH (ho:OpR X (kr op) r) (F:xC cls X.K r g) (ha:OE X cls E a fa) (hb:OE X cls E b fb):OE X cls E (.BinOp a op b pos) (o2 g fa fb):=
 (Ol ho ha hb).imp fun _ _ _ h=>tO.op F h
theorem AE (ho:OpR X (fh op) r) (F:xC cls X.K r g) (ha:OE X cls E a fa) (hb:OE X cls E b fb) (hm:iz op b=false):OE X cls E (.Compare a [op] [b] pos) (o2 g fa fb):=
 (Ja ho ha hb hm).imp fun _ _ _ h=>tO.op F h
noncomputable def cS (f:OG D):OG Bool:=oB f fun d _ ω=>oR (pu (toB d) ω)
theorem qU (ho:OpR X (fh op) r) (F:xC cls X.K r g) (ha:OE X cls E a fa) (hb:OE X cls E b fb) (hm:iz op b=false):OT X cls E (.Compare a [op] [b] pos) (cS (o2 g fa fb)):=
 (IJ ho ha hb hm).imp fun σ H Q ⟨ok,ρ,ω,r,ω',P,e,q⟩=>by
  refine tO.op F ?_;refine tO.then_ P e (fun c z=>by subst z;exact q) fun d ω1 v ok1 H1 e1 n1 P1 r1=> ?_;obtain⟨k,e3,rfl⟩:=bW e1;obtain⟨ue3,rfl⟩:=cI e3;obtain rfl:=mU ue3;exact⟨k,r1.bl_inv,q ok1 H1 n1⟩
noncomputable def gH (f:OG D):OG Bool:=oB f fun d _ ω=>oR (pu (Pq d) ω)
theorem LX (h:OE X cls E e fa) (he:∀ whole,isTrue e X.env whole=(do let v <- whole;mj e.pos;holding [v] (truthy v)):=by intro _;rfl):OT X cls E e (gH fa):=(FT h he).imp fun σ H Q ⟨ok,ρ,ω,r,ω',P,e,q⟩=>by
 refine tO.then_ P e (fun c z=>by subst z;exact q) fun d ω1 v ok1 H1 e1 n1 P1 r1=> ?_;obtain⟨k,e3,rfl⟩:=bW e1;obtain⟨ue3,rfl⟩:=cI e3;exact⟨k,Iv r1 ue3,q ok1 H1 n1⟩
noncomputable def iH (f:OG Bool):OG Bool:=oB f fun k _ ω=>v9 (.ok (!k),ω)
theorem LY (h:OT X cls E a ft):OT X cls E (.UnaryOp .Not a pos) (iH ft):=(Lz h).imp fun σ H Q ⟨ok,ρ,ω,r,ω',P,e,q⟩=>by
 refine tOT.then_ P e (fun c z=>by subst z;exact q) fun d ω1 ok1 H1 e1 n1 P1=> ?_;cases e1;exact q ok1 H1 n1
noncomputable abbrev OW (X:Cx) (cls:Nat->af) (E:XE) (e:bx) (f:OG Bool):Prop:=PW X e (tOT cls X.K f E)
noncomputable def Ib (f g:OG Bool):OG Bool:=oB f fun k ρ ω=>if k=true then g ρ ω else v9 (.ok false,ω)
noncomputable def oOr (f g:OG Bool):OG Bool:=oB f fun k ρ ω=>if k=true then v9 (.ok true,ω) else g ρ ω
variable {rest:List bx}
theorem Jc (ha:OT X cls E a ft):OW X cls E (.BoolOp .And [a] pos) ft:=II ha
theorem LV (ha:OT X cls E a ft):OW X cls E (.BoolOp .Or [a] pos) ft:=Lv ha
theorem LW (ha:OT X cls E a ft) (hb:OW X cls E (.BoolOp .And (b::rest) pos) ft'):OW X cls E (.BoolOp .And (a::b::rest) pos) (Ib ft ft'):=PW.imp (Lx ha hb) fun σ H Q ⟨ok,ρ,ω,r,ω',P,e,q⟩=>by
 refine tOT.then_ P e (fun c z=>by subst z;exact q) fun d ω1 ok1 H1 e1 n1 P1=> ?_;cases d with
 |true=>
  refine KO ⟨ok1,ρ,ω1,r,ω',P1,e1,?_⟩;cases r with
  |ok b=>exact fun ok2 H2 n2=>q ok2 H2 (n1.trans n2)
  |ex c=>exact exR.nw q n1
 |false=>
  cases e1;exact KP (q ok1 H1 n1)
theorem Oq (ha:OT X cls E a ft) (hb:OW X cls E (.BoolOp .Or (b::rest) pos) ft'):OW X cls E (.BoolOp .Or (a::b::rest) pos) (oOr ft ft'):=PW.imp (Of ha hb) fun σ H Q ⟨ok,ρ,ω,r,ω',P,e,q⟩=>by
 refine tOT.then_ P e (fun c z=>by subst z;exact q) fun d ω1 ok1 H1 e1 n1 P1=> ?_;cases d with
 |false=>
  refine KP ⟨ok1,ρ,ω1,r,ω',P1,e1,?_⟩;cases r with
  |ok b=>exact fun ok2 H2 n2=>q ok2 H2 (n1.trans n2)
  |ex c=>exact exR.nw q n1
 |true=>
  cases e1;exact KO (q ok1 H1 n1)
theorem Qo (h:OW X cls E e ft):OT X cls E e ft:=PW.pt h
noncomputable def aK:OG (List D):=fun _ ω=>v9 (.ok [],ω)
noncomputable def aC (f:OG D) (g:OG (List D)):OG (List D):=oB f fun d=>oB g fun ds _ ω=>v9 (.ok (d::ds),ω)
theorem ML:OA X cls E [] aK:=(PA.imp qT) fun σ H Q ⟨ok,ρ,ω,r,ω',P,e,q⟩=>by
 cases e;exact q [] ok H (.refl P.okh P.st) .nil
theorem JH (ha:OE X cls E e fa) (hr:OA X cls E es fl) (hs:aq (e::es) X.env=(false,eval e X.env)::aq es X.env:=by rfl):OA X cls E (e::es) (aC fa fl):=
 (gK ha hr hs).imp fun σ H Q ⟨ok,ρ,ω,r,ω',P,e,q⟩=>by
  refine tO.then_ P e (fun c z=>by subst z;exact q) fun d ω1 v ok1 H1 e1 n1 P1 r1=> ?_;refine tOA.then_ P1 e1 (fun c z=>by subst z;exact exR.nw q n1) fun ds ω2 vs ok2 H2 e2 n2 P2 r2=> ?_;cases e2;exact q (v::vs) ok2 H2 (n1.trans n2) (.cons (r1.ex n2.ex) r2)
theorem Mw (h:OA X cls E es fl):OE X cls E (.Tuple es x1 pos) (oL (fun ω ds=>pu (dQ ds) ω) fl):=(HQ h).imp fun σ H Q ⟨ok,ρ,ω,r,ω',P,e,q⟩=>by
 refine tOA.then_ P e (fun c z=>by subst z;exact q) fun ds ω1 vs ok1 H1 e1 n1 P1 r1=> ?_;obtain⟨d,e3,rfl⟩:=bW e1;obtain⟨ue3,rfl⟩:=cI e3;obtain⟨hz,rfl⟩:=bE ue3;refine⟨by rw[r1.length];exact hz,fun p n=> ?_⟩;exact q _ ok1 _ (n1.trans (.same P1.okh P1.st (bX n))) (.tup_new (P1.okh p n) n r1)
theorem ME (h:OA X cls E es fl):OE X cls E (.List es pos) (oL (fun ω ds=>pu (gC ds) ω) fl):=(HR h).imp fun σ H Q ⟨ok,ρ,ω,r,ω',P,e,q⟩=>by
 refine tOA.then_ P e (fun c z=>by subst z;exact q) fun ds ω1 vs ok1 H1 e1 n1 P1 r1=> ?_;obtain⟨d,e3,rfl⟩:=bW e1;obtain⟨ue3,rfl⟩:=cI e3;obtain⟨hz,rfl⟩:=bE ue3;refine⟨by rw[r1.length];exact hz,fun p n=> ?_⟩;exact q _ ok1 _ (n1.trans (.same P1.okh P1.st (bX n))) (.lst_new (P1.okh p n) n r1)
noncomputable def PM (ω:Om) (ds:List D):Option (D×Om):=if ds.length<=sizeLine then v9 (.obj ω.length,ω++[.ml ds]) else wb
theorem Nw.ml {K:aa}{p:af} (h:OkH ok H) (t:Stt cls K ok H ω) (np:H p=wb) (r:Reps K ok H xs ds):Nw cls K ok H (okN ok ω.length p) (upd H p (.lst xs)) (ω++[.ml ds]):=
 Nw.make h t np ⟨xs,aM,r.mono (fun b u k e=>xY np b u k e) fun m b q=>sM t m b q⟩
theorem Jx (h:OA X cls E es fl):OE X cls E (.List es pos) (oL PM fl):=(HR h).imp fun σ H Q ⟨ok,ρ,ω,r,ω',P,e,q⟩=>by
 refine tOA.then_ P e (fun c z=>by subst z;exact q) fun ds ω1 vs ok1 H1 e1 n1 P1 r1=> ?_;obtain⟨d,e3,rfl⟩:=bW e1;obtain⟨hz,e4⟩:=bE e3;cases e4;refine⟨by rw[r1.length];exact hz,fun p n=> ?_⟩;exact q _ _ _ (n1.trans (.ml P1.okh P1.st n r1)) .new_obj
theorem tO.cb {K:aa} (F:uH cls K r g) (h:tO cls K (oL g fl) E σ H Q):tCB r (tOA cls K fl E) σ H Q:=by
 obtain⟨ok,ρ,ω,rz,ω',P,e,q⟩:=h;refine tOA.then_ P e (fun c z=>by subst z;exact q) fun ds ω1 vs ok1 H1 e1 n1 P1 r1=> ?_;obtain⟨d,e3,rfl⟩:=bW e1;exact F ok1 H1 ω1 vs ds d ω' Q P1.okh P1.st r1 e3 fun w ok3 H3 n3 r3=>q w ok3 H3 (n1.trans n3) r3
theorem jA {id:String} (hc:CallR X (.builtin id) r) (F:uH cls X.K r g) (hg:Gl X x) (hm:X.mg x=wb) (hv:db x=v9 (.builtin id)) (ha:OA X cls E (e::es) fl)
  (hn:x≠"__name__":=by decide) (hdb:(x==("__debug__":Str))=false:=by decide)
  (he:aq (e::es) X.env=(false,eval e X.env)::aq es X.env:=by rfl) (hpl:(de pos (aq es X.env)).any (·.1)=false:=by rfl):OE X cls E (.Call (.Name x p) (e::es) [] pos) (oL g fl):=
 (mK hc hg hm hv ha hn hdb he hpl).imp fun _ _ _ h=>tO.cb F h
theorem nR (hc:CallR X (.type T) r) (F:uH cls X.K r g) (hg:Gl X x) (hm:X.mg x=wb) (hv:db x=v9 (.type T)) (ha:OA X cls E (e::es) fl)
  (hn:x≠"__name__":=by decide) (hdb:(x==("__debug__":Str))=false:=by decide)
  (he:aq (e::es) X.env=(false,eval e X.env)::aq es X.env:=by rfl) (hpl:(de pos (aq es X.env)).any (·.1)=false:=by rfl):OE X cls E (.Call (.Name x p) (e::es) [] pos) (oL g fl):=
 (Dm hc hg hm hv ha hn hdb he hpl).imp fun _ _ _ h=>tO.cb F h
end
end L2.MB
end
section
namespace L2.MB
mutual
noncomputable def fC:D->D->Bool
 |.non,.non=>true
 |.bl a,.bl b=>a==b
 |.int a,.int b=>a==b
 |.str a,.str b=>decide (a=b)
 |.lst a,.lst b=>sameDs a b
 |.tup a,.tup b=>sameDs a b
 |.obj a,.obj b=>a==b
 |.scr a,.scr b=>sameDs a b
 |_,_=>false
noncomputable def sameDs:List D->List D->Bool
 |[],[]=>true
 |a::as,b::bs=>fC a b&&sameDs as bs
 |_,_=>false
end
mutual
theorem Aw:∀(a b:D),fC a b=true->a=b
 |.non,b,h=>by cases b <;> first|rfl|(simp[fC] at h)
 |.bl a,b,h=>by cases b <;> simp[fC] at h;rw[h]
 |.int a,b,h=>by cases b <;> simp[fC] at h;rw[h]
 |.str a,b,h=>by cases b <;> simp[fC] at h;rw[h]
 |.obj a,b,h=>by cases b <;> simp[fC] at h;rw[h]
 |.lst a,b,h=>by
  cases b with
  |lst b=>rw[sameDs_eq a b (by simpa [fC] using h)]
  |_=>simp[fC] at h
 |.scr a,b,h=>by
  cases b with
  |scr b=>rw[sameDs_eq a b (by simpa [fC] using h)]
  |_=>simp[fC] at h
 |.tup a,b,h=>by
  cases b with
  |tup b=>rw[sameDs_eq a b (by simpa [fC] using h)]
  |_=>simp[fC] at h
theorem sameDs_eq:∀(a b:List D),sameDs a b=true->a=b
 |[],[],_=>rfl
 |[],_::_,h=>by simp[sameDs] at h
 |_::_,[],h=>by simp[sameDs] at h
 |a::as,b::bs,h=>by
  simp only[sameDs,bt] at h;rw[Aw a b h.1,sameDs_eq as bs h.2]
end
noncomputable def cellOf (ω:Om):D->Option Ob
 |.obj n=>ω[n]?
 |_=>wb
theorem dF (h:cellOf ω d=v9 ob):∃ n,d=.obj n/\ω[n]?=v9 ob:=by
 cases d with
 |obj n=>exact⟨n,rfl,h⟩
 |_=>cases h
theorem Stt.ref {K:aa} (t:Stt cls K ok H ω) (r:Rep K ok H v (.obj n)) (e:ω[n]?=v9 ob):∃ a,v=.ref a/\ok.al n=v9 a/\CellR cls K ok H a ob:=by
 obtain⟨a,rfl,e1⟩:=r.obj_inv;obtain⟨b,e2,c⟩:=t.cell n ob e;rw[e1] at e2;cases e2;exact⟨a,rfl,e1,c⟩
noncomputable def KQ (c:Nat) (x:Str) (ω:Om) (d:D):Option D:=match cellOf ω d with
 |some (.ins c' fs)=>if c'=c then fs.lookup x else wb
 |_=>wb
theorem GW (h:KQ c x ω d=v9 y):∃ n fs,d=.obj n/\ω[n]?=v9 (.ins c fs)/\fs.lookup x=v9 y:=by
 unfold KQ at h;split at h
 ·rename_i c' fs hc
  obtain⟨n,rfl,e⟩:=dF hc
  by_cases hcc:c'=c
  ·subst hcc;rw[if_pos rfl] at h;exact⟨n,fs,rfl,e,h⟩
  ·rw[if_neg hcc] at h;cases h
 ·cases h
noncomputable def fV (c:Nat) (x:Str) (f:OG D):OG D:=oB f fun d _ ω=>oR (pu (KQ c x ω d) ω)
section
variable {X:Cx}{cls:Nat->af}{E:XE}{e a b c o i value:bx}{es:List bx}{f:DF}{fa fb fo fi fv:OG D}{fl:OG (List D)}{ft ft':OG Bool}{pos p apos pos':Pos}{x m:Str}{cn:Nat}
theorem MG (hc:Cls X.K (cls cn)) (hn:NoAttr X.K (cls cn) x) (he:OE X cls E e fa) (hb:hV e x X.env (eval e X.env)=eval e X.env:=by rfl):OE X cls E (.Attribute e x pos) (fV cn x fa):=(LP he hb).imp fun σ H Q ⟨ok,ρ,ω,r,ω',P,e,q⟩=>by
 refine tO.then_ P e (fun c z=>by subst z;exact q) fun d ω1 v ok1 H1 e1 n1 P1 r1=> ?_;obtain⟨y,e3,rfl⟩:=bW e1;obtain⟨ue3,rfl⟩:=cI e3;obtain⟨n,fs,rfl,e4,e5⟩:=GW ue3;obtain⟨a,rfl,e6,dx,vs,e7,kv⟩:=P1.st.ref r1 e4;obtain⟨u,e8,ru⟩:=kv.look e5;exact⟨a,_,dx,vs,u,rfl,e7,hc,hn,e8,q u ok1 H1 n1 ru⟩
noncomputable def bH (ω:Om) (a b:D):Option D:=match cellOf ω a with
 |some (.ml ds)=>(toI b).bind fun i=>atI ds i
 |some _=>wb
 |none=>gIx a b
theorem Ko {K:aa}:xC cls K (fun x y H Q=>(∃ p xs i v,x=.ref p/\y=.int i/\SqL K H p xs/\atI xs i=v9 v/\Q v H)∨(∃ p xs i v,x=.ref p/\y=.int i/\SqT K H p xs/\atI xs i=v9 v/\Q v H)∨
  ∃ z i c,x=.str z/\y=.int i/\z.length<=sizeLine/\atI z.cps.toList i=v9 c/\Q (.str ⟨#[c]⟩) H) fun ω a b=>pu (bH ω a b) ω:=fun ok H ω x y a b d ω' Q h1 st ra rb e k=>by
 obtain⟨ue,rfl⟩:=cI e;clear e;unfold bH at ue;cases hc:cellOf ω' a with
 |some ob=>
  rw[hc] at ue;obtain⟨n,rfl,e1⟩:=dF hc;cases ob with
  |ml ds=>
   obtain⟨i,e0,ue⟩:=bind_some (show(toI b).bind _=v9 d from ue);obtain rfl:=xL e0;obtain⟨p,rfl,e2,xs,e3,r⟩:=st.ref ra e1;obtain rfl:=rb.int_inv;obtain⟨v,e4,rv⟩:=r.atI ue;exact .inl ⟨p,xs,i,v,rfl,rfl,SqL.of e3,e4,k v ok H (.refl h1 st) rv⟩
  |_=>cases ue
 |none=>
  rw[hc] at ue;have ue':gIx a b=v9 d:=ue;have k':∀ v H',Same H H'->Rep K ok H' v d->Q v H':=fun v H' s r=>k v ok H' (.same h1 st s) r;cases b with
  |int i=>
   obtain rfl:=rb.int_inv;cases a with
   |lst ds=>
    obtain⟨p,xs,rfl,h,r⟩:=ra.lst_inv;obtain⟨v,e1,r1⟩:=r.atI ue';exact .inl ⟨p,xs,i,v,rfl,rfl,h.sq,e1,k' v H (Same.refl H) r1⟩
   |scr ds=>
    obtain⟨p,xs,rfl,h,r⟩:=ra.scr_inv;obtain⟨v,e1,r1⟩:=r.atI ue';exact .inl ⟨p,xs,i,v,rfl,rfl,h.sq,e1,k' v H (Same.refl H) r1⟩
   |tup ds=>
    obtain⟨p,xs,rfl,h,r⟩:=ra.tup_inv;obtain⟨v,e1,r1⟩:=r.atI ue';exact .inr (.inl ⟨p,xs,i,v,rfl,rfl,h.sq,e1,k' v H (Same.refl H) r1⟩)
   |str z=>
    obtain rfl:=ra.str_inv;have e':(if z.length<=sizeLine then(L2.atI z.cps.toList i).map fun c=>D.str ⟨#[c]⟩ else wb)=v9 d:=ue'
    by_cases hz:z.length<=sizeLine
    ·rw[if_pos hz] at e';cases q:L2.atI z.cps.toList i with
     |none=>rw[q] at e';cases e'
     |some c=>
      rw[q] at e';cases e';exact .inr (.inr ⟨z,i,c,rfl,rfl,hz,q,k' _ H (Same.refl H) (.str _)⟩)
    ·rw[if_neg hz] at e';cases e'
   |_=>cases ue'
  |_=>cases a <;> cases ue'
theorem OB (ha:OE X cls E a fa) (hb:OE X cls E b fb) (hs:Fk b:=by intro _ _;rfl):OE X cls E (.Subscript a b pos) (o2 (fun ω a b=>pu (bH ω a b) ω) fa fb):=(On MV ha hb hs).imp fun _ _ _ h=>tO.op Ko h
noncomputable def toK:D->Option Key
 |.int i=>v9 (.inl i)
 |.str x=>v9 (.inr x)
 |_=>wb
noncomputable def Lb:List D->Option (List Key)
 |[]=>v9 []
 |d::ds=>(toK d).bind fun k=>(Lb ds).map fun ks=>k::ks
noncomputable def ofK:Key->D
 |.inl i=>.int i
 |.inr x=>.str x
theorem xK {K:aa} (h:toK d=v9 k) (r:Rep K ok H v d):v=kV k:=by
 cases d with
 |int i=>cases h;exact r.int_inv
 |str x=>cases h;exact r.str_inv
 |_=>cases h
theorem Ar {K:aa}:∀ {vs:List V}{ds:List D}{ks:List Key},Lb ds=v9 ks->Reps K ok H vs ds->vs=ks.map kV
 |_,_,_,h,.nil=>by cases h;rfl
 |_,_,_,h,.cons r rs=>by
  obtain⟨k,e1,h⟩:=bind_some h;obtain⟨ks,e2,rfl⟩:=aG h;rw[xK e1 r,Ar e2 rs];rfl
noncomputable def CK:D->Option (List Key)
 |.tup ds=>Lb ds
 |_=>wb
theorem toT'_rep {K:aa} (h:CK d=v9 ks) (r:Rep K ok H v d):∃ b,v=.ref b/\ok b/\H b=v9 (.tup (ks.map kV)):=by
 cases d with
 |tup ds=>
  obtain⟨b,xs,rfl,g,rs⟩:=r.tup_inv;rw[Ar h rs] at g;exact⟨b,rfl,g.1,g.2⟩
 |_=>cases h
section
variable {κ:Type} [DecidableEq κ]
noncomputable def iF (kvs:List (κ×D)) (k:κ):Option D:=(kvs.find? fun kv=>decide (kv.1=k)).map (·.2)
noncomputable def iG (kvs:List (κ×D)) (k:κ) (v:D):List (κ×D):=if(kvs.any fun kv=>decide (kv.1=k))=true then kvs.map (fun kv=>if kv.1=k then(kv.1,v) else kv) else kvs++[(k,v)]
noncomputable def dS (kvs:List (κ×D)) (k:κ):List (κ×D):=kvs.filter fun kv=>decide (kv.1≠k)
variable {K:aa}{ok:Okk}{H:Hp}
theorem KvR.val:∀ {vs:List (κ×V)}{ds:List (κ×D)}{d:D},KvR K ok H vs ds->iF ds k=v9 d->∃ v,uL vs k=v9 v/\Rep K ok H v d
 |_,_,_,.nil,e=>by cases e
 |_,_,d,@KvR.cons _ _ _ _ k' v d' vs ds r rs,e=>by
  by_cases q:k'=k
  ·have e':iF ((k',d')::ds) k=v9 d':=by simp[iF,f8,q]
   rw[e'] at e;cases e;exact⟨v,mI (p:=(k',v)) q,r⟩
  ·have e':iF ((k',d')::ds) k=iF ds k:=by simp[iF,f8,q]
   rw[e'] at e;obtain⟨u,e1,ru⟩:=KvR.val rs e;exact⟨u,by rw[kB (p:=(k',v)) q];exact e1,ru⟩
theorem KvR.val_none:∀ {vs:List (κ×V)}{ds:List (κ×D)},KvR K ok H vs ds->iF ds k=wb->uL vs k=wb
 |_,_,.nil,e=>rfl
 |_,_,@KvR.cons _ _ _ _ k' v d' vs ds r rs,e=>by
  by_cases q:k'=k
  ·have e':iF ((k',d')::ds) k=v9 d':=by simp[iF,f8,q]
   rw[e'] at e;cases e
  ·have e':iF ((k',d')::ds) k=iF ds k:=by simp[iF,f8,q]
   rw[e'] at e;rw[kB (p:=(k',v)) q];exact KvR.val_none rs e
theorem KvR.any:∀ {vs:List (κ×V)}{ds:List (κ×D)},KvR K ok H vs ds->(vs.any fun kv=>decide (kv.1=k))=ds.any fun kv=>decide (kv.1=k)
 |_,_,.nil=>rfl
 |_,_,.cons _ rs=>by rw[ky,ky,KvR.any rs]
theorem KvR.rep1 (q:Rep K ok H v d):∀ {vs:List (κ×V)}{ds:List (κ×D)},KvR K ok H vs ds->KvR K ok H (vs.map fun kv=>if kv.1=k then(kv.1,v) else kv) (ds.map fun kv=>if kv.1=k then(kv.1,d) else kv)
 |_,_,.nil=>.nil
 |_,_,@KvR.cons _ _ _ _ k' v' d' vs ds r rs=>by
  rw[bq,bq]
  by_cases z:k'=k
  ·rw[if_pos z,if_pos z];exact .cons q (KvR.rep1 q rs)
  ·rw[if_neg z,if_neg z];exact .cons r (KvR.rep1 q rs)
theorem KvR.snoc (q:Rep K ok H v d):∀ {vs:List (κ×V)}{ds:List (κ×D)},KvR K ok H vs ds->KvR K ok H (vs++[(k,v)]) (ds++[(k,d)])
 |_,_,.nil=>.cons q .nil
 |_,_,.cons r rs=>.cons r (KvR.snoc q rs)
theorem KvR.put {ds:List (κ×D)} (h:KvR K ok H vs ds) (q:Rep K ok H v d):KvR K ok H (pR vs k v) (iG ds k d):=by
 unfold pR iG;rw[h.any];split
 ·exact h.rep1 q
 ·exact h.snoc q
theorem KvR.drop:∀ {vs:List (κ×V)}{ds:List (κ×D)},KvR K ok H vs ds->KvR K ok H (wJ vs k) (dS ds k)
 |_,_,.nil=>.nil
 |_,_,@KvR.cons _ _ _ _ k' v' d' vs ds r rs=>by
  unfold wJ dS
  by_cases z:k'=k
  ·rw[m9,m9];simp only[z,ne_eq,not_true_eq_false,decide_false,dq,if_false];exact KvR.drop rs
  ·rw[m9,m9];simp only[z,ne_eq,not_false_eq_true,decide_true,if_true];exact .cons r (KvR.drop rs)
end
noncomputable def GX (ω:Om) (d y:D):Option (Option D):=match cellOf ω d with
 |some (.dt kvs)=>(CK y).map fun k=>iF kvs k
 |some (.dz kvs)=>(CK y).map fun k=>iF kvs k
 |some (.dk kvs)=>(toK y).map fun k=>iF kvs k
 |_=>wb
noncomputable def ResR (K:aa) (ok:Okk) (H:Hp):Option D->Option V->Prop
 |some z,u=>∃ v,u=v9 v/\Rep K ok H v z
 |none,u=>u=wb
theorem ResR.isSome {K:aa} (h:ResR K ok H r u):u.isSome=r.isSome:=by
 cases r with
 |none=>rw[show u=wb from h];rfl
 |some z=>obtain⟨v,rfl,_⟩:=h;rfl
theorem KvR.res {κ:Type} [DecidableEq κ] {K:aa}{ok:Okk}{H:Hp}{k:κ}{vs:List (κ×V)}{ds:List (κ×D)} (h:KvR K ok H vs ds):ResR K ok H (iF ds k) (uL vs k):=by
 cases q:iF ds k with
 |none=>exact h.val_none q
 |some z=>exact h.val q
theorem DGet.of {K:aa}{x y:V} (t:Stt cls K ok H ω) (rx:Rep K ok H x d) (ry:Rep K ok H y k) (e:GX ω d k=v9 r):∃ a u,x=.ref a/\DGet H a y u/\ResR K ok H r u:=by
 unfold GX at e;cases hc:cellOf ω d with
 |none=>rw[hc] at e;cases e
 |some ob=>
  rw[hc] at e;obtain⟨n,rfl,e1⟩:=dF hc;cases ob with
  |dt kvs=>
   obtain⟨a,rfl,e2,vs,e3,kv⟩:=t.ref rx e1;obtain⟨ks,e4,e5⟩:=aG (show(CK k).map _=v9 r from e);subst e5;obtain⟨b,rfl,_,hb⟩:=toT'_rep e4 ry;exact⟨a,_,rfl,DGet.t e3 hb,kv.res⟩
  |dz kvs=>
   obtain⟨a,rfl,e2,ob,vs,e3,kv⟩:=t.ref rx e1;obtain⟨ks,e4,e5⟩:=aG (show(CK k).map _=v9 r from e);subst e5;obtain⟨b,rfl,_,hb⟩:=toT'_rep e4 ry;exact⟨a,_,rfl,.inr ⟨vs,ks,b,.inr ⟨ob,e3⟩,rfl,hb,rfl⟩,kv.res⟩
  |dk kvs=>
   obtain⟨a,rfl,e2,vs,e3,kv⟩:=t.ref rx e1;obtain⟨ks,e4,e5⟩:=aG (show(toK k).map _=v9 r from e);subst e5;obtain rfl:=xK e4 ry;exact⟨a,_,rfl,DGet.k e3,kv.res⟩
  |_=>cases e
noncomputable def pY (ω:Om) (d y:D):Option D:=(GX ω d y).join
theorem JD (hu:X.A.units+1<dn) (ho:OE X cls E o fo) (hi:OE X cls E i fi) (hs:Pj i:=by intro _ _;rfl):OE X cls E (.Subscript o i pos) (o2 (fun ω a b=>pu (pY ω a b) ω) fo fi):=(IY hu ho hi hs).imp fun σ H Q ⟨ok,ρ,ω,r,ω',P,e,q⟩=>by
 refine tO.then_ P e (fun c z=>by subst z;exact q) fun d ω1 v ok1 H1 e1 n1 P1 r1=> ?_;refine tO.then_ P1 e1 (fun c z=>by subst z;exact exR.nw q n1) fun y ω2 u ok2 H2 e2 n2 P2 r2=> ?_;obtain⟨z,e3,rfl⟩:=bW e2;obtain⟨ue3,rfl⟩:=cI e3;have e4:GX ω' d y=v9 (v9 z):=by
  unfold pY at ue3;cases q:GX ω' d y with
  |none=>rw[q] at ue3;cases ue3
  |some w=>rw[q] at ue3;cases w with
   |none=>cases ue3
   |some w=>cases ue3;rfl
 obtain⟨a,w,rfl,g,w2⟩:=DGet.of P2.st (r1.ex n2.ex) r2 e4;obtain⟨v',rfl,rv⟩:=w2;exact⟨a,v',rfl,g,q v' ok2 H2 (n1.trans n2) rv⟩
noncomputable def KR (ω:Om) (y d:D):Option D:=(GX ω d y).map fun r=>.bl r.isSome
theorem Mc (hu:X.A.units+1<dn) (hi:OE X cls E i fi) (ho:OE X cls E o fo) (hm:iz .In o=false:=by with_unfolding_all rfl):OT X cls E (.Compare i [.In] [o] pos) (cS (o2 (fun ω a b=>pu (KR ω a b) ω) fi fo)):=
 (LA (LU hu hi ho) hm).imp fun σ H Q ⟨ok,ρ,ω,r,ω',P,e,q⟩=>by
 rcases kL e with⟨c,e1,rfl⟩|⟨dd,ωd,e0,e5⟩
 ·rcases kL e1 with⟨c',e2,e3⟩|⟨y,ω1,e2,e3⟩
  ·cases e3;exact⟨ok,ρ,ω,.ex c,ω',P,e2,q⟩
  ·refine⟨ok,ρ,ω,.ok y,ω1,P,e2,fun v ok1 H1 n1 r1=> ?_⟩;rcases kL e3 with⟨c',e4,e6⟩|⟨z,ω2,e4,e6⟩
   ·cases e6;exact⟨ok1,ρ,ω1,.ex c,ω',P.nw n1,e4,exR.nw q n1⟩
   ·obtain⟨_,_,w⟩:=bW e6;cases w
 ·rcases kL e0 with⟨c',e2,e3⟩|⟨y,ω1,e2,e3⟩
  ·cases e3
  ·refine⟨ok,ρ,ω,.ok y,ω1,P,e2,fun v ok1 H1 n1 r1=> ?_⟩;rcases kL e3 with⟨c',e4,e6⟩|⟨z,ω2,e4,e6⟩
   ·cases e6
   ·refine⟨ok1,ρ,ω1,.ok z,ω2,P.nw n1,e4,fun u ok2 H2 n2 r2=> ?_⟩;obtain⟨w,e7,w'⟩:=bW e6;cases w';obtain⟨ue7,rfl⟩:=cI e7;obtain⟨ro,e8,rfl⟩:=aG ue7;obtain⟨k,e9,rfl⟩:=bW e5;obtain⟨ue9,rfl⟩:=cI e9;cases ue9;obtain⟨a,w,rfl,g,w2⟩:=DGet.of n2.st r2 (r1.ex n2.ex) e8;exact⟨a,w,rfl,g,ro.isSome,by rw[w2.isSome],q ok2 H2 (n1.trans n2)⟩
noncomputable def Dz:OG D:=fun _ ω=>v9 (.ok (.obj ω.length),ω++[.dt []])
theorem Jv:OE X cls E (.Dict [] [] pos) Dz:=(PE.imp FZ) fun σ H Q ⟨ok,ρ,ω,r,ω',P,e,q⟩=>by
 cases e;exact fun p n=>q _ _ _ (Nw.make (o:=.dT []) P.okh P.st n ⟨[],aM,.nil⟩) .new_obj
end
end L2.MB
end
section
namespace L2.MB
inductive OOut where
 |nx (ρ:Rho)|rt (d:D)|bk (ρ:Rho)|ct (ρ:Rho)|ex (c:Nat)
noncomputable abbrev OS:=Rho->Om->Option (OOut×Om)
noncomputable def nxR (cls:Nat->af) (K:aa) (ok:Okk) (H:Hp) (ω':Om) (ρ:Rho) (N:St->Hp->Prop):Prop:=∀ ok' H' σ',Nw cls K ok H ok' H' ω'->EnvR K ok' H' σ' ρ->σ'.length=ρ.length->N σ' H'
noncomputable def outO (cls:Nat->af) (K:aa) (ok:Okk) (H:Hp) (ω':Om) (E:XE) (D:Br):OOut->Prop
 |.nx ρ=>nxR cls K ok H ω' ρ D.nx
 |.bk ρ=>nxR cls K ok H ω' ρ D.bk
 |.ct ρ=>nxR cls K ok H ω' ρ D.ct
 |.rt d=>∀ v ok' H',Nw cls K ok H ok' H' ω'->Rep K ok' H' v d->D.rt v H'
 |.ex c=>exR cls K ok H ω' E c
noncomputable def tOS (cls:Nat->af) (K:aa) (F:OS) (E:XE):TS:=fun D σ H=>∃(ok:Okk) (ρ:Rho) (ω:Om) (o:OOut) (ω':Om),Pre cls K ok H ω σ ρ/\F ρ ω=v9 (o,ω')/\outO cls K ok H ω' E D o
noncomputable abbrev OSt (X:Cx) (cls:Nat->af) (E:XE) (st:cx) (F:OS):Prop:=PS X st (tOS cls X.K F E)
noncomputable abbrev OSs (X:Cx) (cls:Nat->af) (E:XE) (st:List cx) (F:OS):Prop:=PSs X st (tOS cls X.K F E)
theorem nxR.nw {K:aa} (h:nxR cls K ok H ω' ρ N) (n:Nw cls K ok H ok' H' ω1):nxR cls K ok' H' ω' ρ N:=fun ok2 H2 σ2 m e l=>h ok2 H2 σ2 (n.trans m) e l
theorem outO.nw {K:aa}{D:Br} (h:outO cls K ok H ω' E D o) (n:Nw cls K ok H ok' H' ω1):outO cls K ok' H' ω' E D o:=by
 cases o with
 |nx ρ=>exact nxR.nw h n
 |bk ρ=>exact nxR.nw h n
 |ct ρ=>exact nxR.nw h n
 |rt d=>exact fun v ok2 H2 m r=>h v ok2 H2 (n.trans m) r
 |ex c=>exact exR.nw h n
noncomputable def oX {α:Type} (f:OG α) (g:α->Rho->Om->Option (OOut×Om)):OS:=fun ρ ω=>match f ρ ω with
 |none=>wb
 |some (.ex c,ω1)=>v9 (.ex c,ω1)
 |some (.ok a,ω1)=>g a ρ ω1
theorem Dx {g:α->Rho->Om->Option (OOut×Om)} (h:oX f g ρ ω=v9 (o,ω')):(∃ c,f ρ ω=v9 (.ex c,ω')/\o=.ex c)∨∃ a ω1,f ρ ω=v9 (.ok a,ω1)/\g a ρ ω1=v9 (o,ω'):=by
 unfold oX at h;split at h
 ·cases h
 ·cases h;exact .inl ⟨_,‹_›,rfl⟩
 ·exact .inr ⟨_,_,‹_›,h⟩
noncomputable def bF:OS:=fun ρ ω=>v9 (.nx ρ,ω)
noncomputable def aH (F G:OS):OS:=fun ρ ω=>match F ρ ω with
 |none=>wb
 |some (.nx ρ1,ω1)=>G ρ1 ω1
 |some (o,ω1)=>v9 (o,ω1)
theorem CW (h:aH F G ρ ω=v9 (o,ω')):(∃ ρ1 ω1,F ρ ω=v9 (.nx ρ1,ω1)/\G ρ1 ω1=v9 (o,ω'))∨(F ρ ω=v9 (o,ω')/\∀ ρ1,o≠ .nx ρ1):=by
 unfold aH at h;split at h
 ·cases h
 ·exact .inl ⟨_,_,‹_›,h⟩
 ·rename_i o1 ω1 hn q
  cases h;exact .inr ⟨q,fun ρ1 z=>hn ρ1 z⟩
noncomputable def aW (i:Nat) (f:OG D):OS:=oX f fun d ρ ω=>v9 (.nx (ρ.set i (v9 d)),ω)
noncomputable def dL (f:OG D):OS:=oX f fun _ ρ ω=>v9 (.nx ρ,ω)
noncomputable def dU (t:OG Bool) (F G:OS):OS:=oX t fun k ρ ω=>if k=true then F ρ ω else G ρ ω
noncomputable def aS (f:OG D):OS:=oX f fun d _ ω=>v9 (.rt d,ω)
section
variable {X:Cx}{cls:Nat->af}{E:XE}{st:cx}{rest body els:List cx}{tg e a b c o i iter value:bx}{es:List bx}{f:DF}{fa fb fo fi fv:OG D}{fl:OG (List D)}{ft ft':OG Bool}{F G:OS}{pos p apos pos':Pos}{x m:Str}{cn:Nat}
theorem tO.thenS {K:aa}{o:OOut}{D:Br} (P:Pre cls K ok H ω σ ρ) (e:oX fa g ρ ω=v9 (o,ω')) (hx:outO cls K ok H ω' E D o)
  (h:∀ d ω1 v ok1 H1,g d ρ ω1=v9 (o,ω')->Nw cls K ok H ok1 H1 ω1->Pre cls K ok1 H1 ω1 σ ρ->Rep K ok1 H1 v d->outO cls K ok1 H1 ω' E D o->Q v H1):tO cls K fa E σ H Q:=by
 rcases Dx e with⟨c,e1,rfl⟩|⟨d,ω1,e1,e2⟩
 ·exact⟨ok,ρ,ω,.ex c,ω',P,e1,hx⟩
 ·exact⟨ok,ρ,ω,.ok d,ω1,P,e1,fun v ok1 H1 n r1=>h d ω1 v ok1 H1 e2 n (P.nw n) r1 (hx.nw n)⟩
theorem Mf:OSs X cls E [] bF:=(PSs.imp IL) fun D σ H ⟨ok,ρ,ω,o,ω',P,e,q⟩=>by
 cases e;exact q ok H σ (.refl P.okh P.st) P.env P.len
theorem Jl (h1:OSt X cls E st F) (h2:OSs X cls E rest G):OSs X cls E (st::rest) (aH F G):=(FV h1 h2).imp fun D σ H ⟨ok,ρ,ω,o,ω',P,e,q⟩=>by
 rcases CW e with⟨ρ1,ω1,e1,e2⟩|⟨e1,hn⟩
 ·exact⟨ok,ρ,ω,_,ω1,P,e1,fun ok1 H1 σ1 n1 r1 l1=>⟨ok1,ρ1,ω1,o,ω',⟨n1.okh,n1.st,r1,l1⟩,e2,q.nw n1⟩⟩
 ·refine⟨ok,ρ,ω,o,ω',P,e1,?_⟩;cases o with
  |nx ρ1=>exact absurd rfl (hn ρ1)
  |_=>exact q
theorem Me (h1:OSt X cls E st F):OSs X cls E [st] F:=IK h1
theorem Mi {i:Nat} (hN:X.N.Nodup) (hi:X.N[i]?=v9 x) (hx:Loc X.env.scope x) (he:OE X cls E e fa) (hs:jc e (v9 (.Name x pos')) pos.line X.env=pure false:=by rfl)
  (hf:X.fn x=true∨X.env.scope.names.lookup x=v9 .local:=by first|exact .inl rfl|exact .inr rfl|assumption):OSt X cls E (.Assign [.Name x pos'] e pos) (aW i fa):=
 (LB hN hi hx he hs hf).imp fun D σ H ⟨ok,ρ,ω,o,ω',P,e,q⟩=>by
  refine tO.thenS P e q fun d ω1 v ok1 H1 e1 n1 P1 r1 q1=> ?_;cases e1;exact q1 ok1 H1 _ (.refl P1.okh P1.st) (P1.env.set P1.len r1 i) (by rw[c6,c6];exact P1.len)
theorem Jj (he:OE X cls E e fa) (hs:jc e wb pos.line X.env=pure false:=by rfl):OSt X cls E (.Expr e pos) (dL fa):=
 (IN he hs).imp fun D σ H ⟨ok,ρ,ω,o,ω',P,e,q⟩=>by
  refine tO.thenS P e q fun d ω1 v ok1 H1 e1 n1 P1 r1 q1=> ?_;cases e1;exact q1 ok1 H1 σ (.refl P1.okh P1.st) P1.env P1.len
theorem Ow (hc:OT X cls E c ft) (ha:OSs X cls E body F) (hb:OSs X cls E els G):OSt X cls E (.If c body els pos) (dU ft F G):=(Og hc ha hb).imp fun D σ H ⟨ok,ρ,ω,o,ω',P,e,q⟩=>by
 rcases Dx e with⟨c,e1,rfl⟩|⟨k,ω1,e1,e2⟩
 ·exact⟨ok,ρ,ω,.ex c,ω',P,e1,q⟩
 ·refine⟨ok,ρ,ω,.ok k,ω1,P,e1,fun ok1 H1 n1=> ?_⟩;cases k with
  |true=>exact KO ⟨ok1,ρ,ω1,o,ω',P.nw n1,e2,q.nw n1⟩
  |false=>exact KP ⟨ok1,ρ,ω1,o,ω',P.nw n1,e2,q.nw n1⟩
theorem Md (he:OE X cls E e fa):OSt X cls E (.Return (v9 e) pos) (aS fa):=(LC he).imp fun D σ H ⟨ok,ρ,ω,o,ω',P,e,q⟩=>by
 refine tO.thenS P e q fun d ω1 v ok1 H1 e1 n1 P1 r1 q1=> ?_;cases e1;exact q1 v ok1 H1 (.refl P1.okh P1.st) r1
noncomputable def kH (f:Str) (v:D):List (Str×D)->List (Str×D)
 |[]=>[(f,v)]
 |(g,x)::r=>if g=f then(g,v)::r else(g,x)::kH f v r
theorem KvR.putF {K:aa} (q:Rep K ok H v d):∀ {vs:List (Str×V)}{ds:List (Str×D)},KvR K ok H vs ds->KvR K ok H (L2.putF x v vs) (kH x d ds)
 |_,_,.nil=>.cons q .nil
 |_,_,@KvR.cons _ _ _ _ k v' d' vs ds r rs=>by
  show KvR K ok H (if k=x then(k,v)::vs else(k,v')::L2.putF x v vs) (if k=x then(k,d)::ds else(k,d')::kH x d ds)
  by_cases z:k=x
  ·rw[if_pos z,if_pos z];exact .cons q rs
  ·rw[if_neg z,if_neg z];exact .cons r (KvR.putF q rs)
noncomputable def tG (c:Nat) (x:Str) (ω:Om) (o v:D):Option Om:=match o with
 |.obj n=>match ω[n]? with
  |some (.ins c' fs)=>if c'=c/\fs.length<1000 then v9 (ω.set n (.ins c (kH x v fs))) else wb
  |_=>wb
 |_=>wb
theorem Es {c:Nat}{o v:D} (h:tG c x ω o v=v9 ω'):∃ n fs,o=.obj n/\ω[n]?=v9 (.ins c fs)/\fs.length<1000/\ω'=ω.set n (.ins c (kH x v fs)):=by
 unfold tG at h;split at h
 ·split at h
  ·obtain⟨⟨rfl,hl⟩,rfl⟩:=bE h;exact⟨_,_,rfl,‹_›,hl,rfl⟩
  ·cases h
 ·cases h
noncomputable def mD (c:Nat) (x:Str) (fo fv:OG D):OS:=oX fv fun v=>oX fo fun o ρ ω=>(tG c x ω o v).map fun ω'=>(.nx ρ,ω')
theorem Mh (hc:Cls X.K (cls cn)) (hn:NoAttr X.K (cls cn) x) (ho:OE X cls E o fo) (hv:OE X cls E value fv) (hs:jc value (v9 (.Attribute o x pos')) pos.line X.env=pure false:=by rfl):OSt X cls E (.Assign [.Attribute o x pos'] value pos) (mD cn x fo fv):=
 (LD ho hv hs).imp fun D σ H ⟨ok,ρ,ω,oo,ω',P,e,q⟩=>by
  refine tO.thenS P e q fun dv ω1 v ok1 H1 e1 n1 P1 r1 q1=> ?_;refine tO.thenS P1 e1 q1 fun d ω2 u ok2 H2 e2 n2 P2 r2 q2=> ?_;obtain⟨ω3,e3,e4⟩:=aG e2;cases e4;obtain⟨n,fs,rfl,e5,hl,rfl⟩:=Es e3;obtain⟨a,rfl,e6,dx,vs,e7,kv⟩:=P2.st.ref r2 e5;refine⟨a,_,dx,vs,rfl,e7,hc,hn,by rw[kv.length];exact hl,?_⟩;have nw:=Nw.write (o:=.ins (cls cn) dx (L2.putF x v vs)) (ob:=.ins cn (kH x dv fs)) P2.okh P2.st e6 e7 fun dat=>⟨dx,_,aM,((kv.mono dat fun _ _ z=>z).putF ((r1.ex n2.ex).mono dat))⟩;exact q2 ok2 _ σ nw (P2.env.ex nw.ex) P2.len
noncomputable def yR (ω:Om) (o i v:D):Option Om:=match o,i with
 |.obj n,.int k=>match ω[n]? with
  |some (.ml ds)=>(ixN ds.length k).map fun j=>ω.set n (.ml (ds.set j v))
  |_=>wb
 |_,_=>wb
theorem Er {o i v:D} (h:yR ω o i v=v9 ω'):∃ n k ds j,o=.obj n/\i=.int k/\ω[n]?=v9 (.ml ds)/\ixN ds.length k=v9 j/\ω'=ω.set n (.ml (ds.set j v)):=by
 unfold yR at h;split at h
 ·split at h
  ·obtain⟨j,e1,rfl⟩:=aG h;exact⟨_,_,_,j,rfl,rfl,‹_›,e1,rfl⟩
  ·cases h
 ·cases h
noncomputable def nL (g:Om->D->D->D->Option Om) (fo fi fv:OG D):OS:=oX fv fun v=>oX fo fun o=>oX fi fun i ρ ω=>(g ω o i v).map fun ω'=>(.nx ρ,ω')
theorem Jf (ho:OE X cls E o fo) (hi:OE X cls E i fi) (hv:OE X cls E value fv) (hs:swapsWithSole [.Subscript o i pos'] value pos.line X.env=pure false:=by rfl) (hw:swappedStores [.Subscript o i pos'] value X.env=pure wb:=by rfl)
  (h1:(mh [.Subscript o i pos'] X.env).map (·.2)=[assign (.Subscript o i pos') X.env]:=by rfl)
  (ha:∀ v,assign (.Subscript o i pos') X.env v=(do
   let ov <- holding [v] (eval o X.env)
   let iv <- holding [v,ov] (eval i X.env)
   mj pos'
   holding [v,ov,iv] (setItem ov iv v)
   release [v,ov,iv] []):=by intro _;rfl):OSt X cls E (.Assign [.Subscript o i pos'] value pos) (nL yR fo fi fv):=
 (LF hv (LI ho hi FA ha) hs hw h1).imp fun D σ H ⟨ok,ρ,ω,oo,ω',P,e,q⟩=>by
  refine tO.thenS P e q fun dv ω1 v ok1 H1 e1 n1 P1 r1 q1=> ?_;refine tO.thenS P1 e1 q1 fun d ω2 u ok2 H2 e2 n2 P2 r2 q2=> ?_;refine tO.thenS P2 e2 q2 fun y ω3 w ok3 H3 e3 n3 P3 r3 q3=> ?_;obtain⟨ω4,e4,e5⟩:=aG e3;cases e5;obtain⟨n,k,ds,j,rfl,rfl,e5,hj,rfl⟩:=Er e4;obtain⟨a,rfl,e6,xs,e7,rs⟩:=P3.st.ref (r2.ex n3.ex) e5;obtain rfl:=r3.int_inv;refine⟨a,xs,k,j,rfl,rfl,e7,by rw[rs.length];exact hj,?_⟩;have nw:=Nw.write (o:=.lst (xs.set j v)) (ob:=.ml (ds.set j dv)) P3.okh P3.st e6 e7 fun dat=>⟨_,aM,(rs.mono dat).set ((r1.ex (n2.ex.trans n3.ex)).mono dat) j⟩;exact q3 ok3 _ σ nw (P3.env.ex nw.ex) P3.len
noncomputable def tH (ω:Om) (o i v:D):Option Om:=match o with
 |.obj n=>match ω[n]? with
  |some (.dt kvs)=>(CK i).bind fun k=>if kvs.length<sizeLine then v9 (ω.set n (.dt (iG kvs k v))) else wb
  |some (.dk kvs)=>(toK i).bind fun k=>if kvs.length<sizeLine then v9 (ω.set n (.dk (iG kvs k v))) else wb
  |_=>wb
 |_=>wb
theorem Jk (hu:X.A.units+1<dn) (ho:OE X cls E o fo) (hi:OE X cls E i fi) (hv:OE X cls E value fv) (hs:jc value (v9 (.Subscript o i pos')) pos.line X.env=pure false:=by rfl):
  OSt X cls E (.Assign [.Subscript o i pos'] value pos) (nL tH fo fi fv):=
 (IP hu ho hi hv hs).imp fun D σ H ⟨ok,ρ,ω,oo,ω',P,e,q⟩=>by
  refine tO.thenS P e q fun dv ω1 v ok1 H1 e1 n1 P1 r1 q1=> ?_;refine tO.thenS P1 e1 q1 fun d ω2 u ok2 H2 e2 n2 P2 r2 q2=> ?_;refine tO.thenS P2 e2 q2 fun y ω3 w ok3 H3 e3 n3 P3 r3 q3=> ?_;obtain⟨ω4,e4,e5⟩:=aG e3;cases e5;have rv:=r1.ex (n2.ex.trans n3.ex);unfold tH at e4;split at e4
  ·split at e4
   ·rename_i n kvs e5
    obtain⟨ks,e8,e9⟩:=bind_some e4;obtain⟨hl,rfl⟩:=bE e9;obtain⟨a,rfl,e6,vs,e7,kv⟩:=P3.st.ref (r2.ex n3.ex) e5;obtain⟨b,rfl,_,hb⟩:=toT'_rep e8 r3;refine⟨a,_,rfl,DPut.t e7 hb (by rw[kv.length];exact hl),?_⟩;have nw:=Nw.write (o:=.dT (pR vs ks v)) (ob:=.dt (iG kvs ks dv)) P3.okh P3.st e6 e7 fun dat=>⟨_,aM,(kv.mono dat fun _ _ z=>z).put (rv.mono dat)⟩;exact q3 ok3 _ σ nw (P3.env.ex nw.ex) P3.len
   ·rename_i n kvs e5
    obtain⟨ks,e8,e9⟩:=bind_some e4;obtain⟨hl,rfl⟩:=bE e9;obtain⟨a,rfl,e6,vs,e7,kv⟩:=P3.st.ref (r2.ex n3.ex) e5;obtain rfl:=xK e8 r3;refine⟨a,_,rfl,DPut.k e7 (by rw[kv.length];exact hl),?_⟩;have nw:=Nw.write (o:=.dK (pR vs ks v)) (ob:=.dk (iG kvs ks dv)) P3.okh P3.st e6 e7 fun dat=>⟨_,aM,(kv.mono dat fun _ _ z=>z).put (rv.mono dat)⟩;exact q3 ok3 _ σ nw (P3.env.ex nw.ex) P3.len
   ·cases e4
  ·cases e4
structure ItO (cls:Nat->af) (K:aa) (ok1:Okk) (H1:Hp) (C:Om->Bool) (J:It) (ds:List D):Prop where
 go:∀ i ok H ω,Nw cls K ok1 H1 ok H ω->C ω=true->i<ds.length->J.go i H
 yld:∀ i ok H ω x H' d,Nw cls K ok1 H1 ok H ω->C ω=true->J.yld i H x H'->ds[i]?=v9 d->Same H H'/\Rep K ok H' x d
 stop:∀ i ok H ω,Nw cls K ok1 H1 ok H ω->C ω=true->ds.length<=i->J.stop i H
noncomputable abbrev OI':=OG (List D×(Om->Bool))
noncomputable def tOI (cls:Nat->af) (K:aa) (f:OI') (E:XE):TI:=fun σ H R=>∃(ok:Okk) (ρ:Rho) (ω:Om) (r:Rz (List D×(Om->Bool))) (ω':Om),Pre cls K ok H ω σ ρ/\f ρ ω=v9 (r,ω')/\match r with
 |.ok p=>∀ J ok' H',Nw cls K ok H ok' H' ω'->ItO cls K ok' H' p.2 J p.1->R J H'
 |.ex c=>exR cls K ok H ω' E c
noncomputable abbrev OI (X:Cx) (cls:Nat->af) (E:XE) (tg e:bx) (f:OI'):Prop:=PI X tg e (tOI cls X.K f E)
noncomputable def bT:Om->Bool:=fun _=>true
theorem ItD.toO {K:aa} (h:ItD K ok1.al (FJ ok1 H1) J ds):ItO cls K ok1 H1 bT J ds:=by
 have sm:∀ {ok:Okk}{H:Hp}{ω:Om},Nw cls K ok1 H1 ok H ω->Same (FJ ok1 H1) H:=fun n b u z=>(n.ex.dat b u (kG z).1 (kG z).2).2;refine⟨fun i ok H ω n _ hi=>h.go i H (sm n) hi,fun i ok H ω x H' d n _ y hd=> ?_,fun i ok H ω n _ hi=>h.stop i H (sm n) hi⟩;obtain⟨s,r⟩:=h.yld i H x H' d (sm n) y hd;refine⟨s,Rep.mono (ok:=⟨fun b=>FJ ok1 H1 b≠wb∨H b=wb,ok1.al⟩) (fun b u z w=>⟨?_,w⟩) (fun m a z=>n.ex.ids m a z) r⟩;rcases z with z|z
 ·cases q:FJ ok1 H1 b with
  |none=>exact absurd q z
  |some u'=>exact(n.ex.dat b u' (kG q).1 (kG q).2).1
 ·exact n.okh b z
noncomputable def rF (n:Nat) (ds:List D) (ω:Om):Bool:=match ω[n]? with
 |some (.ml ds')=>sameDs ds' ds
 |_=>false
theorem GH (h:rF n ds ω=true):ω[n]?=v9 (.ml ds):=by
 unfold rF at h;split at h
 ·rename_i ds' e
  rw[sameDs_eq ds' ds h] at e;exact e
 ·cases h
noncomputable def wA (ω:Om) (d:D):Option (List D×(Om->Bool)):=match d with
 |.lst ds=>v9 (ds,bT)
 |.obj n=>match ω[n]? with
  |some (.ml ds)=>v9 (ds,rF n ds)
  |_=>wb
 |_=>wb
theorem GV (h:wA ω d=v9 (ds,chk)):(d=.lst ds/\chk=bT)∨∃ n,d=.obj n/\ω[n]?=v9 (.ml ds)/\chk=rF n ds:=by
 cases d with
 |lst xs=>cases h;exact .inl ⟨rfl,rfl⟩
 |obj n=>
  have h':(match ω[n]? with
   |some (.ml ds)=>v9 (ds,rF n ds)
   |_=>wb)=v9 (ds,chk):=h
  split at h'
  ·rename_i xs e
   cases h';exact .inr ⟨n,rfl,e,rfl⟩
  ·cases h'
 |_=>cases h
theorem yT {K:aa} (e:wA ω1 d=v9 (ds,chk)) (st:Stt cls K ok1 H1 ω1) (r:Rep K ok1 H1 v d):
  ∃ a,v=.ref a/\(∃ xs,SqL K H1 a xs)/\∀ ok H ω,Nw cls K ok1 H1 ok H ω->chk ω=true->∃ xs,SqL K H a xs/\Reps K ok H xs ds:=by
 rcases GV e with⟨rfl,rfl⟩|⟨n,rfl,e1,rfl⟩
 ·obtain⟨a,xs,rfl,g,rs⟩:=r.lst_inv;refine⟨a,rfl,⟨xs,g.sq⟩,fun ok H ω n _=>⟨xs,(g.mono n.ex.dat).sq,rs.ex n.ex⟩⟩
 ·obtain⟨a,rfl,e2,xs,e3,rs⟩:=st.ref r e1;refine⟨a,rfl,⟨xs,SqL.of e3⟩,fun ok H ω nw hc=> ?_⟩;obtain⟨b,e4,xs',e5,rs'⟩:=nw.st.cell n _ (GH hc)
  have:=nw.ex.ids n a e2
  rw[e4] at this;cases this;exact⟨xs',SqL.of e5,rs'⟩
noncomputable def oIL (f:OG D):OI':=oB f fun d _ ω=>oR (pu (wA ω d) ω)
theorem Jo (h:OE X cls E e fa):OI X cls E tg e (oIL fa):=PI.imp (IT h) fun σ H R ⟨ok,ρ,ω,r,ω',P,e,q⟩=>by
 refine tO.then_ P e (fun c z=>by subst z;exact q) fun d ω1 v ok1 H1 e1 n1 P1 r1=> ?_;obtain⟨⟨ds,chk⟩,e3,rfl⟩:=bW e1;obtain⟨ue3,rfl⟩:=cI e3;obtain⟨a,rfl,hx,at_⟩:=yT ue3 P1.st r1;refine⟨a,rfl,hx,q _ ok1 H1 n1 ⟨fun i ok H ω n c hi=> ?_,fun i ok H ω x H' d n c y hd=> ?_,fun i ok H ω n c hi=> ?_⟩⟩
 ·obtain⟨xs,s1,rs⟩:=at_ ok H ω n c;have hi':i<xs.length:=by rw[rs.length];exact hi
  exact⟨xs,xs[i],s1,by simp[hi']⟩
 ·obtain⟨xs,s1,rs⟩:=at_ ok H ω n c;obtain⟨rfl,y⟩:=y;obtain⟨w,z1,z2⟩:=rs.get hd;rw[y xs s1] at z1;cases z1;exact⟨Same.refl _,z2⟩
 ·obtain⟨xs,s1,rs⟩:=at_ ok H ω n c;exact⟨xs,s1,by rw[rs.length];exact hi⟩
noncomputable def NI (ω:Om) (ds:List D):Option (List D×(Om->Bool)):=match ds with
 |[a,b]=>(wA ω a).bind fun p=>(wA ω b).map fun q=>(xH p.1 q.1,fun ω=>p.2 ω&&q.2 ω)
 |_=>wb
noncomputable def oIZ (f:OG (List D)):OI':=oB f fun ds _ ω=>oR (pu (NI ω ds) ω)
theorem Mv (hg:Gl X "zip") (hm:X.mg "zip"=wb) (ha:OA X cls E [a,b] fl) (hs:aq [a,b] X.env=[(false,eval a X.env),(false,eval b X.env)]:=by rfl) (hs2:aq [b] X.env=[(false,eval b X.env)]:=by rfl):
  OI X cls E (.Tuple ts k tp) (.Call (.Name "zip" p) [a,b] [] pos) (oIZ fl):=PI.imp (LG hg hm ha hs hs2) fun σ H R ⟨ok,ρ,ω,r,ω',P,e,q⟩=>by
 refine tOA.then_ P e (fun c z=>by subst z;exact q) fun ds ω1 vs ok1 H1 e1 n1 P1 r1=> ?_;obtain⟨⟨dz,chk⟩,e3,rfl⟩:=bW e1;obtain⟨ue3,rfl⟩:=cI e3;unfold NI at ue3;split at ue3
 ·obtain⟨⟨d1,c1⟩,e4,e5⟩:=bind_some ue3;obtain⟨⟨d2,c2⟩,e6,e7⟩:=aG e5;cases e7;obtain⟨v,v',rfl,ra,rb⟩:=r1.two_inv;obtain⟨a1,rfl,hx,at1⟩:=yT e4 P1.st ra;obtain⟨b1,rfl,hy,at2⟩:=yT e6 P1.st rb;have hl:(xH d1 d2).length=min d1.length d2.length:=by simp[xH]
  refine⟨a1,b1,rfl,hx,hy,q _ ok1 H1 n1 ⟨fun i ok H ω n c hi=> ?_,fun i ok H ω x H' d n c y hd=> ?_,fun i ok H ω n c hi=> ?_⟩⟩
  ·obtain⟨xs,s1,rs⟩:=at1 ok H ω n (bt _ _ ▸ c).1;obtain⟨ys,s2,rs2⟩:=at2 ok H ω n (bt _ _ ▸ c).2;rw[hl] at hi;have hi1:i<xs.length:=by rw[rs.length];omega
   have hi2:i<ys.length:=by rw[rs2.length];omega
   exact⟨xs,ys,xs[i],ys[i],s1,s2,by simp[hi1],by simp[hi2]⟩
  ·obtain⟨xs,s1,rs⟩:=at1 ok H ω n (bt _ _ ▸ c).1;obtain⟨ys,s2,rs2⟩:=at2 ok H ω n (bt _ _ ▸ c).2;obtain⟨T,x1,y1,rfl,hT,hx,hy,rfl⟩:=y;have hx':=hx xs s1;have hy':=hy ys s2;unfold xH at hd;rw[se] at hd;cases q1:d1[i]? with
   |none=>rw[q1] at hd;cases hd
   |some u1=>
    cases q2:d2[i]? with
    |none=>rw[q1,q2] at hd;cases hd
    |some u2=>
     rw[q1,q2] at hd;cases hd;obtain⟨w1,z1,z2⟩:=rs.get q1;rw[hx'] at z1;cases z1;obtain⟨w2,z3,z4⟩:=rs2.get q2;rw[hy'] at z3;cases z3;exact⟨bX hT,.tup_new (n.okh T hT) hT (.cons z2 (.cons z4 .nil))⟩
  ·obtain⟨xs,s1,rs⟩:=at1 ok H ω n (bt _ _ ▸ c).1;obtain⟨ys,s2,rs2⟩:=at2 ok H ω n (bt _ _ ▸ c).2;rw[hl] at hi;refine⟨xs,ys,s1,s2,?_⟩;rw[rs.length,rs2.length];omega
 ·cases ue3
noncomputable abbrev EF:XE:=fun _ _=>False
noncomputable def cR (bd:BR) (chk:Om->Bool) (F:OS):List D->OS
 |[],ρ,ω=>if chk ω=true then v9 (.nx ρ,ω) else wb
 |d::ds,ρ,ω=>if chk ω=true then(bd d ρ).bind fun ρ1=>match F ρ1 ω with
  |none=>wb
  |some (.nx ρ2,ω2)=>cR bd chk F ds ρ2 ω2
  |some (.ct ρ2,ω2)=>cR bd chk F ds ρ2 ω2
  |some (.bk ρ2,ω2)=>v9 (.nx ρ2,ω2)
  |some (.rt d,ω2)=>v9 (.rt d,ω2)
  |some (.ex _,_)=>wb else wb
noncomputable def cH (fi:OI') (bd:BR) (F:OS):OS:=oX fi fun p ρ ω=>cR bd p.2 F p.1 ρ ω
theorem cJ {α:Type}{c:Prop} [Decidable c] {a:Option α}{b:α} (h:(if c then a else wb)=v9 b):c/\a=v9 b:=by
 by_cases hc:c
 ·rw[if_pos hc] at h;exact⟨hc,h⟩
 ·rw[if_neg hc] at h;cases h
noncomputable def Qx (g:TG) (tb:TS) (D:Br) (σ:St) (J:It) (H1:Hp):Prop:=∃ W:Nat->Nat->St->Hp->Prop,(∃ m,W 0 m σ H1)/\∀ i m σ H,W i m σ H->
 (J.stop i H/\D.nx σ H)∨(J.go i H/\∃ N:St->Hp->Prop,(∀ σ' H',N σ' H'->∃ m',m'<m/\W (i+1) m' σ' H')/\∀ x H',J.yld i H x H'->g x σ H' fun σ2 H2=>tb { D with nx:=N,ct:=N,bk:=D.nx } σ2 H2)
theorem Ba {K:aa}{D:Br}{o:OOut} (it:ItO cls K ok1 H1 chk J ds) (P1:Pre cls K ok1 H1 ω1 σ ρ) (e2':cR bd chk F ds ρ ω1=v9 (o,ω')) (q1:outO cls K ok1 H1 ω' EF D o):
  Qx (gR K bd) (tOS cls K F EF) D σ J H1:=by
 refine⟨fun i m σ' H'=>∃ ok' ωc ρ',m=ds.length-i/\i<=ds.length/\Nw cls K ok1 H1 ok' H' ωc/\EnvR K ok' H' σ' ρ'/\σ'.length=ρ'.length/\cR bd chk F (ds.drop i) ρ' ωc=v9 (o,ω'),
  ⟨ds.length,ok1,ω1,ρ,by simp,im _,.refl P1.okh P1.st,P1.env,P1.len,by simpa using e2'⟩,?_⟩
 rintro i m σ' H' ⟨ok',ωc,ρ',rfl,hi,n2,env,len,ef⟩
 by_cases hlt:i<ds.length
 ·have hdrop:ds.drop i=ds[i]::ds.drop (i+1):=pi hlt;rw[hdrop] at ef;have ef':(if chk ωc=true then(bd ds[i] ρ').bind fun ρ1=>(match F ρ1 ωc with
   |none=>wb
   |some (.nx ρ2,ω2)=>cR bd chk F (ds.drop (i+1)) ρ2 ω2
   |some (.ct ρ2,ω2)=>cR bd chk F (ds.drop (i+1)) ρ2 ω2
   |some (.bk ρ2,ω2)=>v9 (.nx ρ2,ω2)
   |some (.rt d,ω2)=>v9 (.rt d,ω2)
   |some (.ex _,_)=>wb) else wb)=v9 (o,ω'):=ef
  obtain⟨hc,ef'⟩:=cJ ef';obtain⟨ρ1,e3,e4⟩:=bind_some ef';refine .inr ⟨it.go i ok' H' ωc n2 hc hlt,fun σ2 H2=>∃ ok2 ω2 ρ2,Nw cls K ok1 H1 ok2 H2 ω2/\EnvR K ok2 H2 σ2 ρ2/\σ2.length=ρ2.length/\cR bd chk F (ds.drop (i+1)) ρ2 ω2=v9 (o,ω'),
   fun σ2 H2 ⟨ok2,ω2,ρ2,z1,z2,z3,z4⟩=>⟨ds.length-(i+1),by omega,ok2,ω2,ρ2,rfl,hlt,z1,z2,z3,z4⟩,fun x H'' y=> ?_⟩
  obtain⟨s2,rx⟩:=it.yld i ok' H' ωc x H'' ds[i] n2 hc y (by simp[hlt]);have n3:Nw cls K ok1 H1 ok' H'' ωc:=n2.trans (.same n2.okh n2.st s2);refine⟨ok',ρ',ρ1,ds[i],env.same s2,len,rx,e3,fun σ2 env2 len2=> ?_⟩;cases eF:F ρ1 ωc with
  |none=>rw[eF] at e4;cases e4
  |some p=>
   obtain⟨o1,ω2⟩:=p;rw[eF] at e4;refine⟨ok',ρ1,ωc,o1,ω2,⟨n3.okh,n3.st,env2,len2⟩,eF,?_⟩;cases o1 with
   |nx ρ2=>exact fun ok3 H3 σ3 m3 r3 l3=>⟨ok3,ω2,ρ2,n3.trans m3,r3,l3,e4⟩
   |ct ρ2=>exact fun ok3 H3 σ3 m3 r3 l3=>⟨ok3,ω2,ρ2,n3.trans m3,r3,l3,e4⟩
   |bk ρ2=>
    cases e4;exact fun ok3 H3 σ3 m3 r3 l3=>q1 ok3 H3 σ3 (n3.trans m3) r3 l3
   |rt d=>
    cases e4;exact fun v ok3 H3 m3 r3=>q1 v ok3 H3 (n3.trans m3) r3
   |ex c=>cases e4
 ·have ei:i=ds.length:=by omega
  subst ei;rw[u8] at ef;have ef':(if chk ωc=true then v9 (OOut.nx ρ',ωc) else wb)=v9 (o,ω'):=ef;obtain⟨hc,ef'⟩:=bE ef';cases ef';exact .inl ⟨it.stop _ ok' H' _ n2 hc (bp _),q1 ok' H' σ' n2 env len⟩
theorem tOS.for_ {K:aa}{fi:OI'}{D:Br} (h:tOS cls K (cH fi bd F) EF D σ H):NT (tOI cls K fi EF) (gR K bd) (tOS cls K F EF) D σ H:=by
 obtain⟨ok,ρ,ω,o,ω',P,e,q⟩:=h;rcases Dx e with⟨c,e1,rfl⟩|⟨⟨ds,chk⟩,ω1,e1,e2⟩
 ·exact⟨ok,ρ,ω,.ex c,ω',P,e1,q⟩
 ·exact⟨ok,ρ,ω,.ok (ds,chk),ω1,P,e1,fun J ok1 H1 n1 it=>Ba it (P.nw n1) e2 (q.nw n1)⟩
noncomputable def sNx (F:OS):OS:=fun ρ ω=>match F ρ ω with
 |some (.ex _,_)=>wb
 |r=>r
theorem CY {o:OOut} (h:sNx F ρ ω=v9 (o,ω')):F ρ ω=v9 (o,ω')/\∀ c,o≠ .ex c:=by
 unfold sNx at h;split at h
 ·cases h
 ·rename_i hn
  exact⟨h,fun c z=>by subst z;exact hn c ω' h⟩
theorem _root_.L2.PS.nox (h:PS X.nox st t):PS X st t:=fun pins s σ H D I hw=>
 gg (h pins s σ H D (I.wish _) hw) (fun _ _ q=>q.unwish) fun _ _ z=>ii z
theorem HX (h:OSt X.nox cls EF st F):OSt X cls E st (sNx F):=(PS.nox h).imp fun D σ H ⟨ok,ρ,ω,o,ω',P,e,q⟩=>by
 obtain⟨e,hn⟩:=CY e;refine⟨ok,ρ,ω,o,ω',P,e,?_⟩;cases o with
 |ex c=>exact absurd rfl (hn c)
 |_=>exact q
theorem Mg {fi:OI'} (hc:X.calm=true) (hi:OI X.nox cls EF tg iter fi) (hg:PG X.nox tg (gR X.K bd)) (hb:OSs X.nox cls EF body F) (hs:∀ x,fm iter X.env x=pure x:=by intro _;rfl):
  OSt X cls E (.For tg iter body [] pos) (sNx (cH fi bd F)):=HX ((HP (X:=X.nox) vm hc hi hg hb hs).imp fun D σ H h=>tOS.for_ h)
end
noncomputable def compLO (bd:BR) (chk:Om->Bool) (t:OG Bool) (f:OG D):List D->Rho->Om->Option (List D×Om)
 |[],_,ω=>if chk ω=true then v9 ([],ω) else wb
 |d::ds,ρ,ω=>if chk ω=true then(bd d ρ).bind fun ρ1=>match t ρ1 ω with
  |some (.ok k,ω1)=>if k=true then(match f ρ1 ω1 with
   |some (.ok y,ω2)=>(compLO bd chk t f ds ρ1 ω2).map fun r=>(y::r.1,r.2)
   |_=>wb) else compLO bd chk t f ds ρ1 ω1
  |_=>wb else wb
noncomputable def cG (fin:Om->List D->Option (D×Om)) (fi:OI') (caps:List (Option Nat)) (bd:BR) (t:OG Bool) (f:OG D):OG D:=oB fi fun p ρ ω=>if p.1.length<=sizeLine then(compLO bd p.2 t f p.1 (Bj caps ρ) ω).bind fun r=>oR (fin r.2 r.1) else wb
noncomputable def lW (ω:Om) (ds:List D):Option (D×Om):=v9 (.lst ds,ω)
noncomputable def Nm (ω:Om) (ds:List D):Option (D×Om):=v9 (.obj ω.length,ω++[.ml ds])
noncomputable def Fin (fin:Om->List D->Option (D×Om)):Prop:=∀(cls:Nat->af) (K:aa) (ok1 ok:Okk) (H1 H:Hp) (ω ω':Om) (P:af) (vs:List V) (ds:List D) (d:D),Nw cls K ok1 H1 ok H ω->H1 P=wb->H P=v9 (.lst vs)->¬ ok.p P->(∀ n,ok.al n≠v9 P)->Reps K ok H vs ds->fin ω ds=v9 (d,ω')->
 ∃ ok',Nw cls K ok1 H1 ok' H ω'/\Rep K ok' H (.ref P) d
theorem OZ:Fin lW:=fun cls K ok1 ok H1 H ω ω' P vs ds d nw h1 hP np na rs e=>by
 cases e;have dat:∀ b o,ok.p b->H b=v9 o->(ok.p b∨b=P)/\H b=v9 o:=fun b o k e=>⟨.inl k,e⟩;refine⟨⟨fun b=>ok.p b∨b=P,ok.al⟩,⟨⟨fun b o k e=>⟨.inl (nw.ex.dat b o k e).1,(nw.ex.dat b o k e).2⟩,nw.ex.ids,nw.ex.frm,nw.ex.new,nw.ex.keep,fun b k=> ?_,nw.ex.frz⟩,⟨fun b e=>.inl (nw.okh b e),fun b xs e=>.inl (nw.okh.tp b xs e)⟩,fun n ob e=> ?_,nw.st.dom,nw.st.inj,fun n a e k=> ?_⟩,.lst ⟨.inr rfl,hP⟩ (rs.mono dat)⟩
 ·rcases k with k|rfl
  ·exact nw.ex.sub b k
  ·exact .inr h1
 ·obtain⟨a,e1,c⟩:=nw.st.cell n ob e;exact⟨a,e1,c.mono dat (fun _ _ z=>z) fun _ z=>z⟩
 ·rcases k with k|rfl
  ·exact nw.st.nok n a e k
  ·exact na n e
theorem OY:Fin Nm:=fun cls K ok1 ok H1 H ω ω' P vs ds d nw h1 hP np na rs e=>by
 cases e;have al:∀ m b,(if m=ω.length then v9 P else ok.al m)=v9 b->(m=ω.length/\b=P)∨(m≠ω.length/\ok.al m=v9 b):=fun m b q=>by
  by_cases hm:m=ω.length
  ·rw[if_pos hm] at q;exact .inl ⟨hm,(b8 q).symm⟩
  ·rw[if_neg hm] at q;exact .inr ⟨hm,q⟩
 have ids:∀ m b,ok.al m=v9 b->(if m=ω.length then v9 P else ok.al m)=v9 b:=fun m b q=>by
  rw[if_neg (cm (nw.st.dom m b q))];exact q
 have dat:∀ b o,ok.p b->H b=v9 o->ok.p b/\H b=v9 o:=fun b o k e=>⟨k,e⟩;refine⟨⟨ok.p,fun m=>if m=ω.length then v9 P else ok.al m⟩,⟨⟨nw.ex.dat,fun m b q=>ids m b (nw.ex.ids m b q),nw.ex.frm,fun m b q=> ?_,nw.ex.keep,nw.ex.sub,nw.ex.frz⟩,⟨nw.okh.fn,nw.okh.tp⟩,fun m ob q=> ?_,fun m b q=> ?_,fun m m' b q q'=> ?_,fun m b q k=> ?_⟩,.obj (by show(if ω.length=ω.length then v9 P else _)=_;rw[if_pos rfl])⟩
 ·rcases al m b q with⟨_,rfl⟩|⟨_,q⟩
  ·exact .inr h1
  ·exact nw.ex.new m b q
 ·by_cases hm:m<ω.length
  ·rw[bi hm] at q;obtain⟨b,e1,c⟩:=nw.st.cell m ob q;exact⟨b,ids m b e1,c.mono dat ids fun _ z=>z⟩
  ·have hm':m=ω.length:=by
    have:=(bg.mp q).1
    simp at this;omega
   subst hm';rw[gl (bp _)] at q;simp at q;subst q;exact⟨P,by show(if ω.length=ω.length then v9 P else _)=_;rw[if_pos rfl],vs,hP,Reps.mono (ok':=⟨ok.p,fun m=>if m=ω.length then v9 P else ok.al m⟩) dat ids rs⟩
 ·rw[bv,g7];rcases al m b q with⟨rfl,_⟩|⟨_,q⟩
  ·omega
  ·have:=nw.st.dom m b q
   omega
 ·rcases al m b q with⟨rfl,rfl⟩|⟨_,qa⟩ <;> rcases al m' b q' with⟨rfl,w⟩|⟨_,qb⟩
  ·rfl
  ·exact absurd qb (na m')
  ·rw[w] at qa;exact absurd qa (na m)
  ·exact nw.st.inj m m' b qa qb
 ·rcases al m b q with⟨_,rfl⟩|⟨_,q⟩
  ·exact np k
  ·exact nw.st.nok m b q k
theorem zI (h:compLO bd chk t f (d::ds) ρ ω=v9 (ys,ω')):
  chk ω=true/\∃ ρ1 k ω1,bd d ρ=v9 ρ1/\t ρ1 ω=v9 (.ok k,ω1)/\((k=true/\∃ y zs ω2,f ρ1 ω1=v9 (.ok y,ω2)/\compLO bd chk t f ds ρ1 ω2=v9 (zs,ω')/\ys=y::zs)∨(k=false/\compLO bd chk t f ds ρ1 ω1=v9 (ys,ω'))):=by
 obtain⟨hc,h⟩:=cJ (show(if chk ω=true then _ else wb)=_ from h);obtain⟨ρ1,e1,h⟩:=bind_some h;refine⟨hc,ρ1,?_⟩;split at h
 ·rename_i k ω1 e2
  refine⟨k,ω1,e1,e2,?_⟩;cases k with
  |true=>
   rw[if_pos rfl] at h;split at h
   ·rename_i y ω2 e3
    obtain⟨⟨zs,ω3⟩,e4,e5⟩:=aG h;cases e5;exact .inl ⟨rfl,y,zs,ω2,e3,e4,rfl⟩
   ·cases h
  |false=>
   rw[if_neg cq] at h;exact .inr ⟨rfl,h⟩
 ·cases h
section
variable {X:Cx}{cls:Nat->af}{E:XE}{tg iter elt:bx}{ifs:List bx}{scope:j4}{N':List Str}{caps:List (Option Nat)}{fi:OI'}{bd:BR}{t:OG Bool}{f:OG D}{pos:Pos}{fin:Om->List D->Option (D×Om)}
theorem tO.comp {K:aa} (Fn:Fin fin) (h:tO cls K (cG fin fi caps bd t f) E σ H Q):Ix (tOI cls K fi E) caps (gR K bd) (tOT cls K t EF) (tO cls K f EF) σ H Q:=by
 obtain⟨ok,ρ,ω,r,ω',P,e,q⟩:=h;rcases kL e with⟨c,e1,rfl⟩|⟨⟨ds,chk⟩,ω1,e1,e2⟩
 ·exact⟨ok,ρ,ω,.ex c,ω',P,e1,q⟩
 ·refine⟨ok,ρ,ω,.ok (ds,chk),ω1,P,e1,fun J ok1 H1 n1 it A hA=> ?_⟩;have P1:=P.nw n1;obtain⟨hz,e2⟩:=cJ (show(if ds.length<=sizeLine then _ else wb)=_ from e2);obtain⟨⟨out,ωf⟩,e3,e4⟩:=bind_some e2;obtain⟨d,e5,rfl⟩:=bW e4
  -- ahead of the first turn:the list that is filled stands apart
  have start:Nw cls K ok1 H1 ⟨fun b=>ok1 b/\b≠A,ok1.al⟩ (upd H1 A (.lst [])) ω1:=by
   have dat:∀ b o,ok1.p b->H1 b=v9 o->(ok1.p b/\b≠A)/\upd H1 A (.lst []) b=v9 o:=fun b o k e=>⟨⟨k,aI e hA⟩,by rw[aF (aI e hA)];exact e⟩;refine⟨⟨dat,fun _ _ z=>z,fun b o z _=>by rw[aF (aI z hA)];exact z,fun _ _ z=>.inl z,fun b z=> ?_,fun b k=>.inl k.1,fun b x u z=>by rw[aF (aI z hA)];exact z⟩,⟨fun b z=> ?_,fun b xs z=> ?_⟩,fun n ob z=> ?_,P1.st.dom,P1.st.inj,fun n a z k=>P1.st.nok n a z k.1⟩
   ·by_cases hb:b=A
    ·rw[hb];exact hA
    ·rw[aF hb] at z;exact z
   ·have hb:b≠A:=fun w=>by rw[w,aM] at z;cases z
    rw[aF hb] at z;exact⟨P1.okh b z,hb⟩
   ·have hb:b≠A:=fun w=>by rw[w,aM] at z;cases z
    rw[aF hb] at z;exact⟨P1.okh.tp b xs z,hb⟩
   ·obtain⟨a,z1,c⟩:=P1.st.cell n ob z;exact⟨a,z1,c.mono dat (fun _ _ z=>z) fun o w=>by rw[aF (aI w hA)];exact w⟩
  refine⟨fun i m σ' H'=>∃ ok' ωc ρ' vs acc rest,m=ds.length-i/\i<=ds.length/\Nw cls K ok1 H1 ok' H' ωc/\¬ ok'.p A/\(∀ n,ok'.al n≠v9 A)/\H' A=v9 (.lst vs)/\Reps K ok' H' vs acc/\EnvR K ok' H' σ' ρ'/\σ'.length=ρ'.length/\
   compLO bd chk t f (ds.drop i) ρ' ωc=v9 (rest,ωf)/\acc++rest=out/\acc.length<=i,
   ⟨ds.length,_,ω1,Bj caps ρ,[],[],out,by simp,im _,start,fun k=>k.2 rfl,fun n z=> ?_,aM,.nil,(P1.env.ex start.ex).cap caps,KC _ _ _,by simpa using e3,by simp,im _⟩,?_⟩
  ·obtain⟨_,_,c⟩:=P1.st.at_ (show ok1.al n=v9 A from z);obtain⟨_,w,_⟩:=c.there;rw[hA] at w;cases w
  ·rintro i m σ' H' ⟨ok',ωc,ρ',vs,acc,rest,rfl,hi,nw,np,na,hv,ra,re,rl,ec,ea,hal⟩
   by_cases hlt:i<ds.length
   ·have hdrop:ds.drop i=ds[i]::ds.drop (i+1):=pi hlt;rw[hdrop] at ec;obtain⟨hc,ρ1,k,ω2,b1,b2,hk⟩:=zI ec;refine .inr ⟨it.go i ok' H' ωc nw hc hlt,fun x H'' y=> ?_⟩;obtain⟨s2,rx⟩:=it.yld i ok' H' ωc x H'' ds[i] nw hc y (by simp[hlt]);have nw2:Nw cls K ok' H' ok' H'' ωc:=.same nw.okh nw.st s2;refine⟨ok',ρ',ρ1,ds[i],re.same s2,rl,rx,b1,fun σ2 re2 rl2=> ?_⟩;refine⟨ok',ρ1,ωc,.ok k,ω2,⟨nw2.okh,nw2.st,re2,rl2⟩,b2,fun ok3 H3 nw3=> ?_⟩
    -- the list that is filled stays apart
    have apart:∀ {okx:Okk}{Hx:Hp}{ωx:Om},Nw cls K ok' H' okx Hx ωx->¬ okx.p A/\(∀ n,okx.al n≠v9 A)/\Hx A=v9 (.lst vs):=by
     intro okx Hx ωx nx;refine⟨fun z=> ?_,fun n z=> ?_,nx.ex.frm A _ hv na⟩
     ·rcases nx.ex.sub A z with z|z
      ·exact np z
      ·rw[hv] at z;cases z
     ·rcases nx.ex.new n A z with z|z
      ·exact na n z
      ·rw[hv] at z;cases z
    rcases hk with⟨rfl,yd,zs,ω4,b5,b6,rfl⟩|⟨rfl,b6⟩
    ·refine KO ⟨ok3,ρ1,ω2,.ok yd,ω4,⟨nw3.okh,nw3.st,re2.ex nw3.ex,rl2⟩,b5,fun yv ok4 H4 nw4 ry=> ?_⟩;have nx:=nw2.trans (nw3.trans nw4);obtain⟨np4,na4,hv4⟩:=apart nx;have hvl:vs.length<sizeLine:=by
      rw[ra.length];omega
     have keep:∀ b o,ok4.p b->H4 b=v9 o->ok4.p b/\upd H4 A (.lst (vs++[yv])) b=v9 o:=fun b o k e=>⟨k,by rw[aF (show b≠A from fun w=>np4 (w ▸ k))];exact e⟩;have nwf:=nw.trans nx;refine⟨vs,ds.length-(i+1),hv4,hvl,by omega,ok4,ω4,ρ1,vs++[yv],acc++[yd],zs,rfl,hlt,?_,np4,na4,aM,?_,?_,rl2,b6,by simpa using ea,by simp;omega⟩
     ·have nA:∀ {b:af}{o:HO},H1 b=v9 o->b≠A:=fun z=>aI z hA;refine⟨⟨fun b o k e=>⟨(nwf.ex.dat b o k e).1,by rw[aF (nA e)];exact(nwf.ex.dat b o k e).2⟩,nwf.ex.ids,fun b o e z=>by rw[aF (nA e)];exact nwf.ex.frm b o e z,nwf.ex.new,fun b e=> ?_,nwf.ex.sub,fun b x u z=>by rw[aF (nA z)];exact nwf.ex.frz b x u z⟩,⟨fun b e=> ?_,fun b xs e=> ?_⟩,fun n ob e=> ?_,nwf.st.dom,nwf.st.inj,nwf.st.nok⟩
      ·by_cases hb:b=A
       ·rw[hb];exact hA
       ·rw[aF hb] at e;exact nwf.ex.keep b e
      ·have hb:b≠A:=fun w=>by rw[w,aM] at e;cases e
       rw[aF hb] at e;exact nwf.okh b e
      ·have hb:b≠A:=fun w=>by rw[w,aM] at e;cases e
       rw[aF hb] at e;exact nwf.okh.tp b xs e
      ·obtain⟨a,z1,c⟩:=nwf.st.cell n ob e;exact⟨a,z1,c.mono keep (fun _ _ z=>z) fun o w=>by rw[aF (show a≠A from fun w'=>na4 n (w' ▸ z1))];exact w⟩
     ·exact((ra.ex nx.ex).snoc ry).mono keep
     ·intro j dj ej;obtain⟨w,a,r⟩:=(re2.ex (nw3.trans nw4).ex) j dj ej;exact⟨w,a,r.mono keep⟩
    ·have nx:=nw2.trans nw3;obtain⟨np4,na4,hv4⟩:=apart nx;exact KP ⟨ds.length-(i+1),by omega,ok3,ω2,ρ1,vs,acc,rest,rfl,hlt,nw.trans nx,np4,na4,hv4,ra.ex nx.ex,re2.ex nw3.ex,rl2,b6,ea,by omega⟩
   ·have ei:i=ds.length:=by omega
    subst ei;rw[u8] at ec;obtain⟨hc,ec⟩:=bE (show(if chk ωc=true then v9 ([],ωc) else wb)=_ from ec);cases ec;rw[dh] at ea;subst ea;refine .inl ⟨it.stop _ ok' H' _ nw hc (bp _),?_⟩;obtain⟨ok2,nw2,rr⟩:=Fn cls K ok1 ok' H1 H' _ ω' A vs acc d nw hA hv np na ra e5;exact q _ ok2 H' (n1.trans nw2) rr
noncomputable def KJ (X:Cx) (cls:Nat->af) (E:XE) (ifs:List bx) (t:OG Bool):Prop:=KS X ifs (tOT cls X.K t E)
theorem Gf:KJ X cls E [] (oPT jI):=fun pins s σ H Q I ⟨ok,ρ,ω,r,ω',P,e,q⟩=>by
 cases e;exact Ka pins s σ H Q I (q ok H (.refl P.okh P.st))
theorem Ge (h:OT X cls E c t):KJ X cls E [c] t:=JZ h
theorem JE (Fn:Fin fin) (C:Fv X scope N' caps) (hi:OI X cls E tg iter fi)
  (hb:∀ cells C fp pins s₀ H₀,PG (blk X N' scope cells C fp pins s₀ H₀) tg (gR X.K bd)/\KJ (blk X N' scope cells C fp pins s₀ H₀) cls EF ifs t/\OE (blk X N' scope cells C fp pins s₀ H₀) cls EF elt f)
  (hs:∀ x,fm iter X.env x=pure x:=by intro _;rfl):OE X cls E (.ListComp elt [⟨tg,iter,ifs,0⟩] scope pos) (cG fin fi caps bd t f):=
 (IZ C.calm C.kind C.names C.free C.uniq C.cap hi hb hs).imp fun _ _ _ h=>tO.comp Fn h
theorem Jm (Fn:Fin fin) (hN:X.N.Nodup) (hiy:X.N[i]?=v9 y) (hy:X.env.scope.names.lookup y=v9 .local) (C:Fv X scope N' caps) (hi:OI X cls E tg iter fi)
  (hb:∀ cells C fp pins s₀ H₀,PG (blk X N' scope cells C fp pins s₀ H₀) tg (gR X.K bd)/\KJ (blk X N' scope cells C fp pins s₀ H₀) cls EF ifs t/\OE (blk X N' scope cells C fp pins s₀ H₀) cls EF elt f)
  (hsw:jc (.ListComp elt [⟨tg,iter,ifs,0⟩] scope pos) (v9 (.Name y py)) spos.line X.env=pure true:=by rfl)
  (hs:∀ x,fm iter X.env x=pure x:=by intro _;rfl):OSt X cls E (.Assign [.Name y py] (.ListComp elt [⟨tg,iter,ifs,0⟩] scope pos) spos) (aW i (cG fin fi caps bd t f)):=
 (IQ hN hiy hy C.calm C.kind C.names C.free C.uniq C.cap hi hb hsw hs).imp fun D σ H ⟨ok,ρ,ω,o,ω',P,e,q⟩=>by
  refine tO.comp (fi:=fi) (caps:=caps) (bd:=bd) (t:=t) (f:=f) (E:=E) Fn ?_;refine tO.thenS P e q fun d ω1 v ok1 H1 e1 n1 P1 r1 q1=> ?_;cases e1;exact q1 ok1 H1 _ (.refl P1.okh P1.st) (P1.env.set P1.len r1 i) (by rw[c6,c6];exact P1.len)
end
structure FlyT (exC:Nat->af) (c:Nat) (ea:af) (T:af) (h0:cz) (H:Hp) (h:cz):Prop where
 tr:∃(oe oT:Obj) (vs ts:Array ag) (a0:ag),h.get? ea=v9 oe/\oe.cls=.ref (exC c)/\oe.data=.fields vs/\vs[0]?=v9 a0/\vs[1]?=v9 (.ref T)/\T≠ea/\h.get? T=v9 oT/\oT.data=.fields ts/\ts[3]?=v9 .none
 h0e:h0.get? ea=wb
 h0T:h0.get? T=wb
 He:H ea=wb
 HT:H T=wb
structure Raw (exC:Nat->af) (c:Nat) (ea:af) (h0:cz) (H:Hp) (h:cz):Prop where
 at_:∃ t,h.get? ea=v9 { cls:=.ref (exC c),data:=.fields #[.ref t,.none,.none,.none,.bool false,.none] }
 h0e:h0.get? ea=wb
 He:H ea=wb
noncomputable def CX1 (P:c9) (w:df) (exC:Nat->af):CXT:=fun outer H s E e s'=>∃ c ea T H',e=.ref ea/\s'.os=s.os/\mf s'.gens/\Un (frs outer) [] H H' s.heap s'.heap/\HOk P w H' s'.heap/\FlyT exC c ea T s.heap H' s'.heap/\E (.ref (exC c)) wb H'
noncomputable def exK (exC:Nat->af) (E:XE):XK:=fun cv _ H'=>∃ c,cv=.ref (exC c)/\E c H'
structure Exc (X:Cx) (exC:Nat->af) (E:XE):Prop where
 fly:∀ c ea T H' pins σ' s',Inv X pins σ' H' s'->FlyT exC c ea T X.s₀.heap H' s'.heap->(∀ p∈X.pn,p.1≠ea/\p.1≠T)->E c H'->X.xe (.ref ea) s'
 ex:X.ex=[]
structure NM (X:Cx) (exC:Nat->af) (E:XE):Prop where
 raw:∀ c ea H' pins σ' s',Inv X pins σ' H' s'->Raw exC c ea X.s₀.heap H' s'.heap->E c H'->X.xe (.ref ea) s'
 ex:X.ex=[]
noncomputable abbrev Pas (X:Cx) (exC:Nat->af) (E:XE):Prop:=pE (CX1 X.prog X.w exC) X (exK exC E)
theorem Op:Pas X exC EF:=fun _ _ _ _ _ _ _ ⟨_,_,_,_,_,_,_,_,_,_,_,_,z⟩=>z.elim
theorem _root_.L2.Inv.pers (I:Inv X pins σ H s) (hx:X.ex=[]) (e:s.heap.get? b=wb):X.s₀.heap.get? b=wb:=by
 cases q:X.s₀.heap.get? b with
 |none=>rfl
 |some o=>
  obtain⟨o',z⟩:=I.base.there b o q (by rw[hx];simp);rw[e] at z;cases z
theorem Exc.pas (h:Exc X exC E):Pas X exC E:=fun pins σ H s e s' I ⟨c,ea,T,H',e1,os,bare,un,hok,fl,c',hc,hE⟩=>by
 subst e1;have I':Inv X pins σ H' s':=I.call' (ch:=[]) os un hok bare (fun b z=>absurd z (by simp));obtain⟨oe,oT,vs,ts,a0,g1,g2,g3⟩:=fl.tr;refine h.fly c' ea T H' pins σ s' I' ⟨⟨oe,oT,vs,ts,a0,g1,by rw[g2,hc],g3⟩,I.pers h.ex fl.h0e,I.pers h.ex fl.h0T,fl.He,fl.HT⟩ (fun p hp=> ?_) hE;obtain⟨w,_⟩:=I.pin p (dc _ hp);exact⟨fun z=>(by rw[z,fl.h0e] at w;cases w),fun z=>(by rw[z,fl.h0T] at w;cases w)⟩
noncomputable abbrev eK:=List D->Om->Option (Rz D×Om)
noncomputable def spO (cls exC:Nat->af) (K:aa) (φ:eK):Sp:=fun vs H Q E=>∃(ok:Okk) (ω:Om) (ds:List D) (r:Rz D) (ω':Om),OkH ok H/\Stt cls K ok H ω/\Reps K ok H vs ds/\φ ds ω=v9 (r,ω')/\match r with
 |.ok d=>∀ v ok' H',Nw cls K ok H ok' H' ω'->Rep K ok' H' v d->Q v H'
 |.ex c=>∀ ok' H',Nw cls K ok H ok' H' ω'->E (.ref (exC c)) wb H'
section
variable {X:Cx}{cls exC:Nat->af}{E:XE}{e a b c o i value:bx}{es:List bx}{fa fb fo fi fv:OG D}{fl:OG (List D)}{pos p apos pos':Pos}{x m:Str}{cn k:Nat}{fn C:af}{fd:jk}{ps:List Str}{φ:eK}
theorem spO.at {K:aa} (h1:OkH ok H) (st:Stt cls K ok H ω) (rs:Reps K ok H vs ds) (e:φ ds ω=v9 (r,ω'))
  (hq:∀ d,r=.ok d->∀ v ok' H',Nw cls K ok H ok' H' ω'->Rep K ok' H' v d->Q v H') (hx:∀ c,r=.ex c->exR cls K ok H ω' E c):spO cls exC K φ vs H Q (exK exC E):=by
 refine⟨ok,ω,ds,r,ω',h1,st,rs,e,?_⟩;cases r with
 |ok d=>exact hq d rfl
 |ex c=>exact fun ok' H' n=>⟨c,rfl,hx c rfl ok' H' n⟩
noncomputable def bC (φ:eK) (fl:OG (List D)):OG D:=oB fl fun ds _ ω=>φ ds ω
theorem xQ {K:aa}{r:Rz D}{Q:VK} (n1:Nw cls K ok H ok1 H1 ω1) (q:match r with
  |.ok d=>∀ v ok' H',Nw cls K ok H ok' H' ω'->Rep K ok' H' v d->Q v H'
  |.ex c=>exR cls K ok H ω' E c):∀ d,r=.ok d->∀ v ok' H',Nw cls K ok1 H1 ok' H' ω'->Rep K ok' H' v d->Q v H':=fun d z v ok' H' n r=>by
 subst z;exact q v ok' H' (n1.trans n) r
theorem xR {K:aa}{r:Rz D}{Q:VK} (n1:Nw cls K ok H ok1 H1 ω1) (q:match r with
  |.ok d=>∀ v ok' H',Nw cls K ok H ok' H' ω'->Rep K ok' H' v d->Q v H'
  |.ex c=>exR cls K ok H ω' E c):∀ c,r=.ex c->exR cls K ok1 H1 ω' E c:=fun c z=>by
 subst z;exact exR.nw q n1
theorem JF (F:qH X.prog X.w X.K X.mg X.base (CX1 X.prog X.w exC) k fn fd ps (spO cls exC X.K φ)) (hr:Room k X.A) (hg:Gl X x) (hm:X.mg x=v9 (.ref fn)) (hk:fy X.K (.ref fn)=true)
  (hb:Binds X.K fd ps []) (hx:Pas X exC E) (ha:OA X cls E (e::es) fl) (hdb:(x==("__debug__":Str))=false:=by decide) (he:aq (e::es) X.env=(false,eval e X.env)::aq es X.env:=by rfl) (hpl:(de pos (aq es X.env)).any (·.1)=false:=by rfl):
  OE X cls E (.Call (.Name x p) (e::es) [] pos) (bC φ fl):=
 (Jb F hr hg hm hk hb .nil hx ha hdb he hpl).imp fun σ H Q ⟨ok,ρ,ω,r,ω',P,e,q⟩=>by
  refine tOA.then_ P e (fun c z=>by subst z;exact q) fun ds ω1 vs ok1 H1 e1 n1 P1 r1=> ?_;rw[dh];exact spO.at P1.okh P1.st r1 e1 (xQ n1 q) (xR (Q:=Q) n1 q)
noncomputable def BO (c:Nat) (m:Str) (ω:Om) (d:D):Bool:=match cellOf ω d with
 |some (.ins c' fs)=>c'==c&&(fs.lookup m).isNone
 |_=>false
theorem vS {c:Nat} (h:BO c m ω d=true):∃ n fs,d=.obj n/\ω[n]?=v9 (.ins c fs)/\fs.lookup m=wb:=by
 unfold BO at h;split at h
 ·rename_i c' fs hc
  obtain⟨n,rfl,e⟩:=dF hc;simp only[bt,beq_iff_eq,Option.isNone_iff_eq_none] at h;obtain⟨rfl,h⟩:=h;exact⟨n,fs,rfl,e,h⟩
 ·cases h
noncomputable def aZ (c:Nat) (m:Str) (φ:eK) (fo:OG D) (fl:OG (List D)):OG D:=oB fo fun d ρ ω=>if BO c m ω d=true then oB fl (fun ds _ ω=>φ (d::ds) ω) ρ ω else wb
theorem Jy (ho:OE X cls E o fo) (hc:Cls X.K (cls cn)) (hm:HK X.K (cls cn) m fn) (F:qH X.prog X.w X.K X.mg X.base (CX1 X.prog X.w exC) k fn fd ps (spO cls exC X.K φ)) (hr:Room k X.A) (hb:Binds X.K fd ps []) (hx:Pas X exC E) (ha:OA X cls E (e::es) fl)
  (hst:aq (e::es) X.env=(false,eval e X.env)::aq es X.env:=by rfl) (hpl:(de pos (aq es X.env)).any (·.1)=false:=by rfl)
  (ht:eval (.Call (.Attribute o m apos) (e::es) [] pos) X.env=(do
   let ov <- eval o X.env
   mj apos.atName
   let (f,first) <- holding [ov] (lu ov m pl)
   p0 pos f first (de pos (aq (e::es) X.env)) (jw pos (ib [] X.env))):=by rfl):
  OE X cls E (.Call (.Attribute o m apos) (e::es) [] pos) (aZ cn m φ fo fl):=
 (IW (pl:=pl) ho hc hm F hr hb .nil hx ha hst hpl ht).imp fun σ H Q ⟨ok,ρ,ω,r,ω',P,e,q⟩=>by
  refine tO.then_ P e (fun c z=>by subst z;exact q) fun d ω1 v ok1 H1 e1 n1 P1 r1=> ?_;obtain⟨hi,e1⟩:=cJ e1;obtain⟨n,fs,rfl,e2,e3⟩:=vS hi;obtain⟨a,rfl,e4,dx,vs,e5,kv⟩:=P1.st.ref r1 e2;refine⟨a,dx,vs,rfl,e5,kv.look_none e3,?_⟩;refine tOA.then_ P1 e1 (fun c z=>by subst z;exact exR.nw q n1) fun ds ω2 us ok2 H2 e6 n2 P2 r2=> ?_;rw[dh];exact spO.at P2.okh P2.st (.cons (r1.ex n2.ex) r2) e6 (xQ (n1.trans n2) q) (xR (Q:=Q) (n1.trans n2) q)
theorem Gh (ho:OE X cls E o fo) (hc:Cls X.K (cls cn)) (hm:HK X.K (cls cn) m fn) (F:qH X.prog X.w X.K X.mg X.base (CX1 X.prog X.w exC) k fn fd ps (spO cls exC X.K φ)) (hr:Room k X.A) (hb:Binds X.K fd ps []) (hx:Pas X exC E)
  (ht:eval (.Call (.Attribute o m apos) [] [] pos) X.env=(do
   let ov <- eval o X.env
   mj apos.atName
   let (f,first) <- holding [ov] (lu ov m pl)
   p0 pos f first (de pos (aq [] X.env)) (jw pos (ib [] X.env))):=by rfl):
  OE X cls E (.Call (.Attribute o m apos) [] [] pos) (aZ cn m φ fo aK):=
 (FY (pl:=pl) ho hc hm F hr hb .nil hx ht).imp fun σ H Q ⟨ok,ρ,ω,r,ω',P,e,q⟩=>by
  refine tO.then_ P e (fun c z=>by subst z;exact q) fun d ω1 v ok1 H1 e1 n1 P1 r1=> ?_;obtain⟨hi,e1⟩:=cJ e1;obtain⟨n,fs,rfl,e2,e3⟩:=vS hi;obtain⟨a,rfl,e4,dx,vs,e5,kv⟩:=P1.st.ref r1 e2;refine⟨a,dx,vs,rfl,e5,kv.look_none e3,?_⟩;have e6:φ [.obj n] ω1=v9 (r,ω'):=e1;exact spO.at P1.okh P1.st (.cons r1 .nil) e6 (xQ n1 q) (xR (Q:=Q) n1 q)
noncomputable def pT (c:Nat) (φ:eK) (fl:OG (List D)):OG D:=oB fl fun ds _ ω=>match φ (.obj ω.length::ds) (ω++[.ins c []]) with
 |some (.ok .non,ω')=>v9 (.ok (.obj ω.length),ω')
 |some (.ex c,ω')=>v9 (.ex c,ω')
 |_=>wb
theorem JA (M:Mk X.K (cls cn) fn) (F:qH X.prog X.w X.K X.mg X.base (CX1 X.prog X.w exC) k fn fd ps (spO cls exC X.K φ)) (hr:Room (k+1) X.A) (hg:Gl X x) (hm:X.mg x=v9 (.ref (cls cn))) (hb:Binds X.K fd ps []) (hx:Pas X exC E)
  (ha:OA X cls E (e::es) fl) (hdb:(x==("__debug__":Str))=false:=by decide) (he:aq (e::es) X.env=(false,eval e X.env)::aq es X.env:=by rfl) (hpl:(de pos (aq es X.env)).any (·.1)=false:=by rfl):
  OE X cls E (.Call (.Name x p) (e::es) [] pos) (pT cn φ fl):=
 (IX M F hr hg hm hb .nil hx ha hdb he hpl).imp fun σ H Q ⟨ok,ρ,ω,r,ω',P,e,q⟩=>by
  refine tOA.then_ P e (fun c z=>by subst z;exact q) fun ds ω1 vs ok1 H1 e1 n1 P1 r1=> ?_;intro a dx na ndx hne;rw[dh];have n2:Nw cls X.K ok1 H1 ok1 (upd H1 dx (.own a)) ω1:=.same P1.okh P1.st (bX ndx);have n3:Nw cls X.K ok1 (upd H1 dx (.own a)) (okN ok1 ω1.length a) (upd (upd H1 dx (.own a)) a (.ins (cls cn) dx [])) (ω1++[.ins cn []]):=
   Nw.make n2.okh n2.st (by rw[aF (c5 hne)];exact na) ⟨dx,[],aM,.nil⟩
  have n4:=n1.trans (n2.trans n3);have rs:Reps X.K (okN ok1 ω1.length a) (upd (upd H1 dx (.own a)) a (.ins (cls cn) dx [])) (.ref a::vs) (.obj ω1.length::ds):=.cons .new_obj ((r1.ex n2.ex).ex n3.ex);cases eφ:φ (.obj ω1.length::ds) (ω1++[.ins cn []]) with
  |none=>rw[eφ] at e1;cases e1
  |some pr=>
   obtain⟨rz,ω2⟩:=pr;rw[eφ] at e1;refine⟨_,_,_,rz,ω2,n3.okh,n3.st,rs,eφ,?_⟩;cases rz with
   |ex c=>
    cases e1;exact fun ok' H' n=>⟨c,rfl,q ok' H' (n4.trans n)⟩
   |ok d=>
    cases d with
    |non=>
     cases e1;refine fun v ok' H' n rv=>⟨rv.non_inv,q _ ok' H' (n4.trans n) (.obj (n.ex.ids _ _ ?_))⟩
     show(if ω1.length=ω1.length then v9 a else _)=_
     rw[if_pos rfl]
    |_=>cases e1
end
theorem _root_.L2.HOk.obj (x:HOk P w H h) (e:H a=v9 o):∃ u,h.get? a=v9 u:=by
 have z:=x a o e;cases o with
 |lst xs=>obtain⟨_,_,_,_,e⟩:=z;exact⟨_,e⟩
 |tup xs=>obtain⟨_,_,_,o,e,_⟩:=z;exact⟨_,e⟩
 |dK kvs=>obtain⟨_,_,_,_,o,_,_,e,_⟩:=z;exact⟨_,e⟩
 |dT kvs=>obtain⟨_,_,_,_,o,_,_,e,_⟩:=z;exact⟨_,e⟩
 |set S n=>obtain⟨o,_,_,_,e,_⟩:=z;exact⟨_,e⟩
 |ins C dx fs=>obtain⟨_,_,_,e,_⟩:=z;exact⟨_,e⟩
 |own y=>exact z
 |xd fs=>obtain⟨_,⟨_,_,_,e,_⟩,_⟩:=z;exact⟨_,e⟩
 |rng lo hi=>obtain⟨_,_,_,e⟩:=z;exact⟨_,e⟩
 |frz ob u=>obtain⟨e,_⟩:=z;exact⟨_,e⟩
 |tbl ps=>exact⟨_,show h.get? a=v9 _ from z⟩
 |met f y=>exact⟨_,show h.get? a=v9 _ from z⟩
 |ext φ=>exact z.2.1
structure Pass (fs:List af) (ea T:af) (h h':cz):Prop where
 keep:∀ b o,h.get? b=v9 o->b∉fs->b≠ea->b≠T->h'.get? b=v9 o
 slot:∀ b o,h.get? b=v9 o->b∈fs->∃ sl,h'.get? b=v9 { o with slots:=sl }
theorem tI {h base base':cz}:∀ {l:List Env},h.FunFrames base l->(∀ b∈frs l,base'.get? b=wb)->h.FunFrames base' l
 |[],_,_=>trivial
 |env::r,⟨hk,⟨L,o,hf,hn,ho,hd⟩,hr⟩,n=>by
  refine⟨hk,⟨L,o,hf,n L ?_,ho,hd⟩,tI hr fun b hb=>n b ?_⟩
  ·unfold frs;rw[j5,hf];exact ar
  ·unfold frs at hb ⊢;rw[j5,hf];exact ai _ hb
section
variable {M:Model}{A:di}{E:ag->am->Prop}{s:am}{env:Env}{outer:List Env}{base h0:cz}{H:Hp}{exC:Nat->af}{c:Nat}{ea T L:af}{Q:Unit->am->Prop}{P:c9}{w:df}
theorem yV (hok:HOk P w H s.heap) (h0p:∀ b,s.heap.get? b=wb->h0.get? b=wb) (hb:∀ b,base'.get? b=wb->b=ea∨b=T∨b∈frs l∨s.heap.get? b=wb)
  (hl:h'.FunFrames base' l) (tr:h'.TracedW base' ea cls a0) (hc:cls=.ref (exC c)) (n1:h0.get? ea=wb) (n2:H ea=wb) (n3:h0.get? T=wb) (n4:H T=wb):∃ T',FlyT exC c ea T' h0 H h'/\(T'=T∨s.heap.get? T'=wb):=by
 obtain⟨oe,vs,T',oT,ts,e1,⟨e2,e3⟩,e4,e5,e6,e7,e8,e9,e10⟩:=tr;have hT:T'=T∨s.heap.get? T'=wb:=by
  rcases hb T' e6 with z|z|z|z
  ·exact absurd z e7
  ·exact .inl z
  ·obtain⟨_,o,q1,q2⟩:=hl.mem z;rw[e8] at q1;cases q1;exact absurd e9 (q2 ts)
  ·exact .inr z
 refine⟨T',⟨⟨oe,oT,vs,ts,a0,e1,by rw[e2,hc],e4,e3,e5,e7,e8,e9,e10⟩,n1,?_,n2,?_⟩,hT⟩
 ·rcases hT with rfl|z
  ·exact n3
  ·exact h0p _ z
 ·rcases hT with rfl|z
  ·exact n4
  ·cases q:H T' with
   |none=>rfl
   |some o=>
    obtain⟨u,w⟩:=hok.obj q;rw[z] at w;cases w
theorem yK (e:(ee h l).get? b=wb):b∈l∨h.get? b=wb:=by
 by_cases hb:b∈l
 ·exact .inl hb
 ·right;cases q:h.get? b with
  |none=>rfl
  |some o=>
   rw[j3 l q hb] at e;cases e
theorem DR (hfr:A.frames=v9 (env::outer)) (hf:env.frame=v9 L) (funs:s.heap.FunFrames base (env::outer)) (hok:HOk P w H s.heap) (h0p:∀ b,s.heap.get? b=wb->h0.get? b=wb) (fl:FlyT exC c ea T h0 H s.heap)
  (hQ:∀ h' T',Pass (frs (env::outer)) ea T s.heap h'->FlyT exC c ea T' h0 H h'->(T'=T∨s.heap.get? T'=wb)->Q () { s with heap:=h' }):ax M A (leaving env (.ref ea)) Q E s:=by
 obtain⟨oe,oT,vs,ts,a0,e1,e2,e3,e4,e5,e6,e7,e8,e9⟩:=fl.tr;have nF:∀ b∈frs (env::outer),(ee s.heap (ea::T::frs (env::outer))).get? b=wb:=fun b hb=>eg _ (ai _ (ai _ hb));have hb0:∀ b,(ee s.heap (ea::T::frs (env::outer))).get? b=wb->b=ea∨b=T∨b∈frs (env::outer)∨s.heap.get? b=wb:=fun b z=>by
  rcases yK z with z|z
  ·rcases aj.mp z with z|z
   ·exact .inl z
   ·rcases aj.mp z with z|z
    ·exact .inr (.inl z)
    ·exact .inr (.inr (.inl z))
  ·exact .inr (.inr (.inr z))
 refine wpAny_leaving_nextW (base:=ee s.heap (ea::T::frs (env::outer))) (cls:=.ref (exC c)) (a0:=a0) hfr (tI funs nF) hf ?_ (fun b o z=>lr _ z) (eg _ ar) fun h' hL=> ?_
 ·exact⟨oe,vs,T,oT,ts,e1,⟨e2,e4⟩,e3,e5,eg _ (ai _ ar),e6,e7,e8,e9⟩
 ·obtain⟨k1,k2,k3,k4⟩:=hL;obtain⟨T',f1,f2⟩:=yV (T:=T) hok h0p hb0 k2 k3 rfl fl.h0e fl.He fl.h0T fl.HT;refine hQ h' T' ⟨fun b o z n1 n2 n3=>k1 b o (j3 _ z ?_),fun b o z hb=> ?_⟩ f1 f2
  ·intro hm;rcases aj.mp hm with hm|hm
   ·exact n2 hm
   ·rcases aj.mp hm with hm|hm
    ·exact n3 hm
    ·exact n1 hm
  ·obtain⟨_,o',q1,q2⟩:=funs.mem hb;rw[z] at q1;cases q1;exact k4 b o z q2
theorem DQ (hfr:A.frames=v9 (env::outer)) (hf:env.frame=v9 L) (funs:s.heap.FunFrames base (env::outer)) (hok:HOk P w H s.heap) (h0p:∀ b,s.heap.get? b=wb->h0.get? b=wb) (fl:Raw exC c ea h0 H s.heap)
  (hQ:∀ h' T',Pass (frs (env::outer)) ea ea s.heap h'->FlyT exC c ea T' h0 H h'->s.heap.get? T'=wb->Q () { s with heap:=h' }):ax M A (leaving env (.ref ea)) Q E s:=by
 obtain⟨t,e1⟩:=fl.at_;have nF:∀ b∈frs (env::outer),(ee s.heap (ea::frs (env::outer))).get? b=wb:=fun b hb=>eg _ (ai _ hb);have hb0:∀ b,(ee s.heap (ea::frs (env::outer))).get? b=wb->b=ea∨b=ea∨b∈frs (env::outer)∨s.heap.get? b=wb:=fun b z=>by
  rcases yK z with z|z
  ·rcases aj.mp z with z|z
   ·exact .inl z
   ·exact .inr (.inr (.inl z))
  ·exact .inr (.inr (.inr z))
 refine wpAny_leaving_firstW (base:=ee s.heap (ea::frs (env::outer))) (a0:=.ref t) hfr (tI funs nF) hf e1 (fun b o z=>lr _ z) (eg _ ar) rfl rfl rfl fun h' hL=> ?_;obtain⟨k1,k2,k3,k4⟩:=hL;obtain⟨T',f1,f2⟩:=yV (T:=ea) (c:=c) (exC:=exC) hok h0p hb0 k2 k3 rfl fl.h0e fl.He fl.h0e fl.He;have hTe:T'≠ea:=by obtain⟨_,_,_,_,_,_,_,_,_,_,z,_⟩:=f1.tr;exact z
 refine hQ h' T' ⟨fun b o z n1 n2 n3=>k1 b o (j3 _ z ?_),fun b o z hb=> ?_⟩ f1 (f2.resolve_left hTe)
 ·intro hm;rcases aj.mp hm with hm|hm
  ·exact n2 hm
  ·exact n1 hm
 ·obtain⟨_,o',q1,q2⟩:=funs.mem hb;rw[z] at q1;cases q1;exact k4 b o z q2
end
theorem exc_def {K:aa}:
  Exc (zH (CX1 P w exC) P w K mg base N qual scope f cd A outer s H E) exC (fun c H'=>E (.ref (exC c)) wb H')/\NM (zH (CX1 P w exC) P w K mg base N qual scope f cd A outer s H E) exC (fun c H'=>E (.ref (exC c)) wb H'):=by
 have main:∀ {pins:List (af×Obj)}{σ':St}{H':Hp}{s':am}{c:Nat}{ea T T':af}{h'':cz},Inv (zH (CX1 P w exC) P w K mg base N qual scope f cd A outer s H E) pins σ' H' s'->
   s.heap.get? ea=wb->s.heap.get? T=wb->H' ea=wb->H' T=wb->Pass (frs (jf qual scope s.heap.objs.size f cd::outer)) ea T s'.heap h''->FlyT exC c ea T' s.heap H' h''->E (.ref (exC c)) wb H'->
   CX1 P w exC outer H s E (.ref ea) { s' with heap:=h'' }:=fun {pins σ' H' s' c ea T T' h''} I n1 n2 n3 n4 ps fl hE=>by
  have nofr:∀ b u,H' b=v9 u->b∉frs (jf qual scope s.heap.objs.size f cd::outer):=fun b u e z=>by
   have:=I.stkFree b z
   rw[e] at this;cases this
  have kb:∀ b u v,H' b=v9 u->s'.heap.get? b=v9 v->h''.get? b=v9 v:=fun b u v e z=>ps.keep b v z (nofr b u e) (fun q=>by rw[q,n3] at e;cases e) fun q=>by rw[q,n4] at e;cases e
  have old:∀ {b:af}{o:Obj},s.heap.get? b=v9 o->b≠ea/\b≠T:=fun {b o} z=>⟨fun q=>(by rw[q,n1] at z;cases z),fun q=>(by rw[q,n2] at z;cases z)⟩;have fr1:∀ b,b∈frs (jf qual scope s.heap.objs.size f cd::outer)->b=s.heap.objs.size∨b∈frs outer:=fun b hb=>by
   have hb':b∈s.heap.objs.size::frs outer:=hb;exact aj.mp hb'
  have nx:∀ b:af,b∉(zH (CX1 P w exC) P w K mg base N qual scope f cd A outer s H E).ex:=fun b z=>absurd (show b∈([]:List af) from z) (by simp);refine⟨c,ea,T',H',rfl,I.os,I.bare,⟨fun b o e n hb _=> ?_,fun b o e n hb _=> ?_,fun b o e n _=>I.base.free b o e n (nx b),fun b o e _=> ?_,I.base.tups,I.base.frzs,I.base.tbls⟩,fun b u e=> ?_,fl,hE⟩
  ·have z:=I.base.keep b o e n hb (nx b);refine ps.keep b o z (fun hm=> ?_) (old e).1 (old e).2;rcases fr1 b hm with q|q
   ·exact absurd (br e) (by rw[q];exact fx _)
   ·exact hb q
  ·obtain⟨sl,z⟩:=I.base.slot b o e n hb (nx b);obtain⟨sl2,z2⟩:=ps.slot b _ z (show b∈s.heap.objs.size::frs outer from ai _ hb);exact⟨sl2,z2⟩
  ·obtain⟨o',z⟩:=I.base.there b o e (nx b)
   by_cases hm:b∈frs (jf qual scope s.heap.objs.size f cd::outer)
   ·obtain⟨sl2,z2⟩:=ps.slot b _ z hm;exact⟨_,z2⟩
   ·exact⟨_,ps.keep b o' z hm (old e).1 (old e).2⟩
  ·refine(I.hok b u e).stay (fun c v hc q=> ?_) (fun _ q=>q) fun _ _ q=>q;rcases hc with rfl|hc
   ·exact kb c u v e q
   ·exact kb c _ v hc q
 refine⟨⟨fun c ea T H' pins σ' s' I fl _ hE=> ?_,rfl⟩,⟨fun c ea H' pins σ' s' I fl hE=> ?_,rfl⟩⟩
 ·exact DR (L:=s.heap.objs.size) I.ok.frames rfl I.stack I.hok (fun b z=>I.pers rfl z) fl fun h'' T' ps fl' _=>main I fl.h0e fl.h0T fl.He fl.HT ps fl' hE
 ·exact DQ (L:=s.heap.objs.size) I.ok.frames rfl I.stack I.hok (fun b z=>I.pers rfl z) fl fun h'' T' ps fl' _=>main I fl.h0e fl.h0e fl.He fl.He ps fl' hE
noncomputable def cD (N:List Str) (ds:List D):Rho:=ds.map v9++aw (N.length-ds.length) wb
theorem Bw {K:aa} (r:Reps K ok H vs ds):EnvR K ok H (start N vs) (cD N ds)/\(start N vs).length=(cD N ds).length:=by
 refine⟨fun i d e=> ?_,?_⟩
 ·unfold cD at e
  by_cases hi:i<ds.length
  ·rw[bi (by simpa using hi),az] at e;obtain⟨d',e1,e2⟩:=aG e;cases e2;obtain⟨v,e3,r'⟩:=r.get e1;have hv:i<vs.length:=(bg.mp e3).1;refine⟨v,?_,r'⟩;unfold start;rw[bi (by simpa using hv),az,e3];rfl
  ·rw[gl (by simpa using hi),ga] at e;split at e <;> cases e
 ·unfold start cD;rw[bv,bv,ao,ao,ji,ji,r.length]
noncomputable def eA (n:Nat) (N:List Str) (G:OS):eK:=fun ds ω=>if ds.length=n then(match G (cD N ds) ω with
 |some (.rt d,ω')=>v9 (.ok d,ω')
 |some (.nx _,ω')=>v9 (.ok .non,ω')
 |some (.ex c,ω')=>v9 (.ex c,ω')
 |_=>wb) else wb
theorem Qy {K:aa}{st:cx} (F:Fun K x qual st f fd) (S:kA N ps (aX st))
  (hbody:∀(cdv:ag) (A:di) (outer:List Env) (s:am) (H:Hp) (E:XK),Room k (A.deeper (jf qual (aX st) s.heap.objs.size f cdv))->Exc (zH (CX1 P w exC) P w K mg base N qual (aX st) f cdv A outer s H E) exC (fun c H'=>E (.ref (exC c)) wb H')->NM (zH (CX1 P w exC) P w K mg base N qual (aX st) f cdv A outer s H E) exC (fun c H'=>E (.ref (exC c)) wb H')->
   OSs (zH (CX1 P w exC) P w K mg base N qual (aX st) f cdv A outer s H E) cls (fun c H'=>E (.ref (exC c)) wb H') (fR st) G):qH P w K mg base (CX1 P w exC) (k+1) f fd ps (spO cls exC K (eA ps.length N G)):=by
 obtain⟨oc,od,kV,doc,pm,an,cdv,ct,osl,rfl,lk,hcd⟩:=F.ex;have len:∀ vs H Q E,spO cls exC K (eA ps.length N G) vs H Q E->vs.length=ps.length:=fun vs H Q E ⟨ok,ω,ds,r,ω',h1,h2,h3,h4,h5⟩=>by
  rw[h3.length];exact(cJ (show(if ds.length=ps.length then _ else wb)=_ from h4)).1
 refine OX lk hcd S len fun A outer s H vs Q E hr hsp=> ?_;obtain⟨ok,ω,ds,r,ω',h1,h2,h3,h4,h5⟩:=hsp;refine⟨_,hbody cdv A outer s H E hr exc_def.1 exc_def.2,?_⟩;obtain⟨_,h4⟩:=cJ (show(if ds.length=ps.length then _ else wb)=_ from h4);obtain⟨e1,e2⟩:=Bw (N:=N) h3;cases q:G (cD N ds) ω with
 |none=>rw[q] at h4;cases h4
 |some pr=>
  obtain⟨o,ω2⟩:=pr;rw[q] at h4;refine⟨ok,cD N ds,ω,o,ω2,⟨h1,h2,e1,e2⟩,q,?_⟩;cases o with
  |rt d=>cases h4;exact fun v ok' H' n rv=>h5 v ok' H' n rv
  |nx ρ=>cases h4;exact fun ok' H' σ' n _ _=>h5 .non ok' H' n .non
  |ex c=>cases h4;exact fun ok' H' n=>h5 ok' H' n
  |bk ρ=>cases h4
  |ct ρ=>cases h4
noncomputable abbrev Bs:List ag:=[.type "ValueError",.type "Exception",.type "BaseException",.type "object"]
noncomputable def ownIn (K:aa) (C:af) (tl:List ag):Prop:=∃(dd:Option af) (cd:ClassData) (k0 k1 k2 k3 k5:Option ag),K.lookup C=v9 ⟨.type "type",dd,.cls cd,#[k0,k1,k2,k3,v9 (.builtin "ValueError.__new__"),k5]⟩/\
 cd.mro=.ref C::tl/\cd.hasDel=false/\mm K Bs tl=true/\km K cd.ns=true/\cu K cd.ns "__init__"=v9 wb
theorem Do {K:aa} (X:K.In h) (q:ownIn K C tl):∃(nm qn:Str) (N:af) (bs:List ag) (hdct:Bool) (sn:List Str) (sub:List ag) (ab:Bool) (col:Option Bool) (dd:Option af) (k0 k1 k2 k3 k5:Option ag) (mN:Str->Option ag),
  h.get? C=v9 (excClassObj nm qn C N bs tl hdct sn sub ab col dd k0 k1 k2 k3 k5 "ValueError.__new__")/\h.Ns N mN/\mN "__init__"=wb/\OwnTail h Bs tl:=by
 obtain⟨dd,cd,k0,k1,k2,k3,k5,hl,hm,hd,ht,hn,hi⟩:=q;obtain⟨a1,a2,a3,a4,a5,a6,a7,a8,a9,b1,b2⟩:=cd;dsimp only at hm hd hn hi;subst hm hd;exact⟨a1,a5,a4,a2,a6,a7,a8,a9,b1,dd,k0,k1,k2,k3,k5,_,X _ _ hl,.of_isNs (PySem.W.isNs_of_in X hn),PySem.W.nsMap_none_of_in X hn hi,PySem.W.tail_of_in X ht⟩
noncomputable def Ax (c:Nat) (f:DF):OS:=fun ρ ω=>(f ρ).map fun _=>(.ex c,ω)
section
variable {X:Cx}{cls exC:Nat->af}{E:XE}{e:bx}{f:DF}{pos np cpos:Pos}{x:Str}{c:Nat}{tl:List ag}
theorem AC (hc:X.calm=true) (hx:NM X exC E) (hg:Gl X x) (hm:X.mg x=v9 (.ref (exC c))) (hq:ownIn X.K (exC c) tl) (he:DE X e f) (hdb:(x==("__debug__":Str))=false:=by decide)
  (hst:aq [e] X.env=(false,eval e X.env)::aq [] X.env:=by rfl) (hpl:(de cpos (aq [e] X.env)).any (·.1)=false:=by rfl):
  OSt X cls E (.Raise (v9 (.Call (.Name x np) [e] [] cpos)) wb pos) (Ax c f):=by
 rintro pins s σ H D I ⟨ok,ρ,ω,o,ω',P,e0,q⟩;obtain⟨d,e1,e2⟩:=aG e0;cases e2;obtain⟨nm,qn,N,bs,hdct,sn,sub,ab,col,dd,k0,k1,k2,k3,k5,mN,hC,hN,hni,T⟩:=Do I.mod.kin hq;refine wpAny_Raise_call_subT (C:=exC c) (N:=N) (bm:=tl) (hdct:=hdct) (sn:=sn) (sub:=sub) (ab:=ab) (col:=col) (dd:=dd) (k0:=k0) (k1:=k1) (k2:=k2) (k3:=k3) (k5:=k5) (nm:=nm) (q:=qn) (bs:=bs)
  PySem.F.excBase_ValueError (mN:=mN) (T.hasType rfl) (I.ok.hd hc) hpl hni (sU I hg hm ⟨rfl,?_⟩ hdb)
 have ha:=(Ku he Nt hst:DA X [e] (Ky f Pe)) cpos pins s σ H (fun vs H'=>vs.length<=sizeLine/\Same H H') I
  ⟨ok,ρ,[d],P.okh,P.env,by unfold Ky Pe;rw[e1];rfl,fun vs H' s' r=>⟨by rw[r.length];show 1<=sizeLine;decide,s'⟩⟩
 rw[hst] at ha ⊢;refine ss (thn ha fun us s2 ⟨vs,H2,I2,rv,hl,sm⟩=>⟨rfl,by show us.length<=_;rw[<- rv.length];exact hl,I2.bk _ _ hC,hN.keeps I2.bk,T.keeps I2.bk,fun h' ea hm'=> ?_⟩);have I3:Inv X pins σ H2 { s2 with heap:=h' }:=I2.kept (t':=s2.toks) hm'.keeps;obtain⟨t,z1,z2,z3⟩:=hm'.there;refine hx.raw c ea H2 pins σ _ I3 ⟨⟨t,z1⟩,I2.pers hx.ex hm'.new,?_⟩ (q ok H2 (.same P.okh P.st sm));cases w:H2 ea with
 |none=>rfl
 |some u=>
  obtain⟨u',w'⟩:=HOk.obj I2.hok w;rw[hm'.new] at w';cases w'
theorem _root_.L2.Inv.passed (I:Inv X pins σ H s) (hx:X.ex=[]) (ps:Pass (frs X.stack) ea T s.heap h') (n1:X.s₀.heap.get? ea=wb) (n2:X.s₀.heap.get? T=wb) (n3:H ea=wb) (n4:H T=wb)
  (hp:∀ p∈X.pn++pins,p.1≠ea/\p.1≠T) (hf:∀ b,(b=ea∨b=T)->∃ o vs,s.heap.get? b=v9 o/\o.data=.fields vs):Inv X pins σ H { s with heap:=h' }:=by
 have nofr:∀ b u,H b=v9 u->b∉frs X.stack:=fun b u e z=>by
  have:=I.stkFree b z
  rw[e] at this;cases this
 have any:∀ b o,s.heap.get? b=v9 o->(∀ vs,o.data≠ .fields vs)->∃ sl,h'.get? b=v9 { o with slots:=sl }:=fun b o e nf=>by
  by_cases hb:b∈frs X.stack
  ·exact ps.slot b o e hb
  ·refine⟨o.slots,ps.keep b o e hb (fun z=> ?_) fun z=> ?_⟩
   ·obtain⟨o',vs,w1,w2⟩:=hf b (.inl z);rw[e] at w1;cases w1;exact nf vs w2
   ·obtain⟨o',vs,w1,w2⟩:=hf b (.inr z);rw[e] at w1;cases w1;exact nf vs w2
 have kb:∀ b u v,H b=v9 u->s.heap.get? b=v9 v->h'.get? b=v9 v:=fun b u v e z=>ps.keep b v z (nofr b u e) (fun q=>by rw[q,n3] at e;cases e) fun q=>by rw[q,n4] at e;cases e
 have old:∀ {b:af}{o:Obj},X.s₀.heap.get? b=v9 o->b≠ea/\b≠T:=fun {b o} z=>⟨fun q=>(by rw[q,n1] at z;cases z),fun q=>(by rw[q,n2] at z;cases z)⟩;have locf:∀ b,b∈frs X.stack->b=X.env.locals∨b∈X.fs:=fun b hb=>aj.mp (I.stkSub b hb);obtain⟨m,⟨oL,es,ep,hoL,hdL,rL⟩,lk⟩:=id I.loc;obtain⟨slL,hL⟩:=any _ oL hoL fun vs z=>by rw[hdL] at z;cases z
 refine⟨I.ok,I.os,I.bare,⟨fun b o e n hb hxx=> ?_,fun b o e n hb hxx=> ?_,I.base.free,fun b o e hxx=> ?_,I.base.tups,I.base.frzs,I.base.tbls⟩,⟨m,⟨_,es,ep,hL,hdL,rL⟩,fun i x v e1 e2 e3=> ?_⟩,fun x c e=> ?_,I.free,I.freeC,fun p hpp=> ?_,fun b u e=> ?_,I.len⟩
 ·have z:=I.base.keep b o e n hb hxx;refine ps.keep b o z (fun hm=> ?_) (old e).1 (old e).2;rcases locf b hm with q|q
  ·exact absurd (br e) (by rw[q];exact su.mpr I.ok.above)
  ·exact hb q
 ·obtain⟨sl,z⟩:=I.base.slot b o e n hb hxx
  by_cases hm:b∈frs X.stack
  ·obtain⟨sl2,z2⟩:=ps.slot b _ z hm;exact⟨sl2,z2⟩
  ·exact⟨sl,ps.keep b _ z hm (old e).1 (old e).2⟩
 ·obtain⟨o',z⟩:=I.base.there b o e hxx
  by_cases hm:b∈frs X.stack
  ·obtain⟨sl2,z2⟩:=ps.slot b _ z hm;exact⟨_,z2⟩
  ·exact⟨_,ps.keep b o' z hm (old e).1 (old e).2⟩
 ·obtain⟨u,ru,z⟩:=lk i x v e1 e2 e3;refine⟨u,ru,?_⟩;rcases z with z|⟨k,c,e,oc,w1,w2⟩
  ·exact .inl z
  ·obtain⟨sl,w3⟩:=any c oc w1 fun vs q=>by rw[w2] at q;cases q
   exact .inr ⟨k,c,e,_,w3,w2⟩
 ·obtain⟨v,oc,w1,w2⟩:=I.cell x c e;obtain⟨sl,w3⟩:=any c oc w1 fun vs q=>by rw[w2] at q;cases q
  exact⟨v,_,w3,w2⟩
 ·obtain⟨e,n,ne,nf,d⟩:=I.pin p hpp;refine⟨ps.keep p.1 p.2 e (fun hm=> ?_) (hp p hpp).1 (hp p hpp).2,n,ne,nf,d⟩;rcases locf p.1 hm with q|q
  ·exact ne q
  ·exact nf q
 ·refine(I.hok b u e).stay (fun c v hc q=> ?_) (fun _ q=>q) fun _ _ q=>q;rcases hc with rfl|hc
  ·exact kb c u v e q
  ·exact kb c _ v hc q
end
theorem qA {K:aa} (X:K.In s.heap) (q:ownIn K C tl) (q':ownIn K C' tl') (he:s.heap.get? ea=v9 oe) (hc:oe.cls=.ref C)
  (h:Q ((ca C::tl).contains (.ref C')) s):ax M A (excMatches (.ref ea) (.ref C')) Q E s:=by
 obtain⟨nm,qn,N,bs,hdct,sn,sub,ab,col,dd,k0,k1,k2,k3,k5,mN,hC,hN,hni,T⟩:=Do X q;obtain⟨nm',qn',N',bs',hdct',sn',sub',ab',col',dd',k0',k1',k2',k3',k5',mN',hC',hN',hni',T'⟩:=Do X q';have hB:(ca C'::tl').contains (.type "BaseException")=true:=by rw[List.contains_cons,T'.hasType (X:="BaseException") (b:=true) rfl,Bool.or_true]
 have f:=tc_notTuple;obtain⟨hp,g,d,tk,os⟩:=s;unfold excMatches
 generalize hb:(ca C::tl).contains (.ref C')=b at h
 repeat (first|(with_reducible refine pf he ?_;rw[hc])|with_reducible refine pf hC' ?_|(with_reducible refine tj hC' ?_;rw[hB])|(with_reducible refine tj hC ?_;rw[hb])|wp_step)
 cases b <;> (wp_walk;exact h)
section
variable {M:Model}{A:di}{E:ag->am->Prop}{s:am}{env:Env}{outer:List Env}{base h0:cz}{H:Hp}{exC:Nat->af}{c:Nat}{ea T L:af}{Q:Unit->am->Prop}{P:c9}{w:df}
theorem Go (hfr:A.frames=v9 (env::outer)) (hf:env.frame=v9 L) (funs:s.heap.FunFrames base (env::outer)) (hok:HOk P w H s.heap) (h0p:∀ b,s.heap.get? b=wb->h0.get? b=wb) (fl:FlyT exC c ea T h0 H s.heap)
  (hQ:∀ h' T',Pass (frs (env::outer)) ea T s.heap h'->FlyT exC c ea T' h0 H h'->(T'=T∨s.heap.get? T'=wb)->Q () { s with heap:=h' }):
  ax M A (ug (.ref ea) env) (fun _ s₂=>ax M A (uh (.ref ea) wb) Q E s₂) E s:=by
 obtain⟨oe,oT,vs,ts,a0,e1,e2,e3,e4,e5,e6,e7,e8,e9⟩:=fl.tr;have nF:∀ b∈frs (env::outer),(ee s.heap (ea::T::frs (env::outer))).get? b=wb:=fun b hb=>eg _ (ai _ (ai _ hb));have hb0:∀ b,(ee s.heap (ea::T::frs (env::outer))).get? b=wb->b=ea∨b=T∨b∈frs (env::outer)∨s.heap.get? b=wb:=fun b z=>by
  rcases yK z with z|z
  ·rcases aj.mp z with z|z
   ·exact .inl z
   ·rcases aj.mp z with z|z
    ·exact .inr (.inl z)
    ·exact .inr (.inr (.inl z))
  ·exact .inr (.inr (.inr z))
 refine wpAny_noteFrame_onW (base:=ee s.heap (ea::T::frs (env::outer))) (cls:=.ref (exC c)) (a0:=a0) hfr (tI funs nF) hf ?_ (fun b o z=>lr _ z) (eg _ ar) fun h' hN=> ?_
 ·exact⟨oe,vs,T,oT,ts,e1,⟨e2,e4⟩,e3,e5,eg _ (ai _ ar),e6,e7,e8,e9⟩
 ·obtain⟨k1,k2,k3,k4⟩:=hN;refine wpAny_setFlight_noneW (base:=ee s.heap (ea::T::frs (env::outer))) (l:=env::outer) k1 k2 k3 fun h'' m1 m2 m3 m4=> ?_;obtain⟨T',f1,f2⟩:=yV (T:=T) (s:=s) hok h0p hb0 m2 m3 rfl fl.h0e fl.He fl.h0T fl.HT;refine hQ h'' T' ⟨fun b o z n1 n2 n3=>m1 b o (j3 _ z ?_),fun b o z hb=> ?_⟩ f1 f2
  ·intro hm;rcases aj.mp hm with hm|hm
   ·exact n2 hm
   ·rcases aj.mp hm with hm|hm
    ·exact n3 hm
    ·exact n1 hm
  ·obtain⟨_,o',q1,q2⟩:=funs.mem hb;rw[z] at q1;cases q1;obtain⟨sl,w1⟩:=k4 b o z q2;exact⟨sl,m4 b _ w1 q2⟩
theorem yW (funs:s.heap.FunFrames base outer) (fl:FlyT exC c ea T h0 H s.heap) (hQ:∀ h',Pass (frs outer) ea T s.heap h'->FlyT exC c ea T h0 H h'->Q () { s with heap:=h' }):ax M A (uh (.ref ea) wb) Q E s:=by
 obtain⟨oe,oT,vs,ts,a0,e1,e2,e3,e4,e5,e6,e7,e8,e9⟩:=fl.tr;have hz:3<ts.size:=(kz.mp e9).1;have oth:∀ b,b≠T->(s.heap.update T (k6 (·.setIfInBounds 3 .none))).get? b=s.heap.get? b:=fun b hb=>d4 _ _ (c5 hb);refine wpAny_setFlight_none e1 e3 e5 e7 e8 hz (hQ _ ⟨fun b o z _ _ n3=>(oth b n3).trans z,fun b o z hb=>⟨o.slots,(oth b fun q=> ?_).trans z⟩⟩ ⟨⟨oe,_,vs,_,a0,(oth ea (c5 e6)).trans e1,e2,e3,e4,e5,e6,fz _ e7 (nr (jg e8 _)),jg e8 _,by simp[hz]⟩,fl.h0e,fl.h0T,fl.He,fl.HT⟩);obtain⟨_,o',q1,q2⟩:=funs.mem hb;rw[q,e7] at q1;cases q1;exact q2 ts e8
end
noncomputable abbrev Xm (X:Cx) (ea:af):Cx:={ X with A:=X.A.mark (v9 (.ref ea)),calm:=false,xe:=fun _ _=>False }
noncomputable abbrev Xp (X:Cx) (pn:List (af×Obj)) (xe:ag->am->Prop):Cx:={ X with pn:=pn,xe:=xe }
section
variable {X:Cx}{pins pins':List (af×Obj)}{σ:St}{H:Hp}{s:am}{xe:ag->am->Prop}
theorem _root_.L2.Inv.marked (I:Inv X pins σ H s) (ea:af):Inv (Xm X ea) pins σ H s:=
 ⟨⟨I.ok.mod,I.ok.kind,I.ok.glob,I.ok.blt,I.ok.above,I.ok.inj,I.ok.has,I.ok.cab,(fun z=>nomatch z),I.ok.frames,I.ok.stk,I.ok.exf,I.ok.bs,I.ok.bsz,I.ok.noex,I.ok.exfs,I.ok.funs,I.ok.frf⟩,I.os,I.bare,I.base,I.loc,I.cell,I.free,I.freeC,I.pin,I.hok,I.len⟩
theorem _root_.L2.Inv.unmarked (k:X.calm=true->X.A.handled=wb) (I:Inv (Xm X ea) pins σ H s):Inv X pins σ H s:=
 ⟨⟨I.ok.mod,I.ok.kind,I.ok.glob,I.ok.blt,I.ok.above,I.ok.inj,I.ok.has,I.ok.cab,k,I.ok.frames,I.ok.stk,I.ok.exf,I.ok.bs,I.ok.bsz,I.ok.noex,I.ok.exfs,I.ok.funs,I.ok.frf⟩,I.os,I.bare,I.base,I.loc,I.cell,I.free,I.freeC,I.pin,I.hok,I.len⟩
theorem _root_.L2.Inv.pned (I:Inv X pins σ H s):Inv (Xp X (X.pn++pins) xe) [] σ H s:=
 ⟨⟨I.ok.mod,I.ok.kind,I.ok.glob,I.ok.blt,I.ok.above,I.ok.inj,I.ok.has,I.ok.cab,I.ok.hd,I.ok.frames,I.ok.stk,I.ok.exf,I.ok.bs,I.ok.bsz,I.ok.noex,I.ok.exfs,I.ok.funs,I.ok.frf⟩,I.os,I.bare,I.base,I.loc,I.cell,I.free,I.freeC,fun p hp=>I.pin p (by simpa using hp),I.hok,I.len⟩
theorem _root_.L2.Inv.unpned (I:Inv (Xp X (X.pn++pins) xe) pins' σ H s):Inv X pins σ H s:=
 ⟨⟨I.ok.mod,I.ok.kind,I.ok.glob,I.ok.blt,I.ok.above,I.ok.inj,I.ok.has,I.ok.cab,I.ok.hd,I.ok.frames,I.ok.stk,I.ok.exf,I.ok.bs,I.ok.bsz,I.ok.noex,I.ok.exfs,I.ok.funs,I.ok.frf⟩,I.os,I.bare,I.base,I.loc,I.cell,I.free,I.freeC,fun p hp=>I.pin p (dc _ hp),I.hok,I.len⟩
theorem SP.unpned {D:Br} (h:SP (Xp X (X.pn++pins) xe) [] D f s):SP X pins D f s:=by
 cases f with
 |next=>obtain⟨σ',H',I,q⟩:=h;exact⟨σ',H',I.unpned,q⟩
 |brk=>obtain⟨σ',H',I,q⟩:=h;exact⟨σ',H',I.unpned,q⟩
 |cont=>obtain⟨σ',H',I,q⟩:=h;exact⟨σ',H',I.unpned,q⟩
 |ret u=>obtain⟨v,σ',H',I,r,q⟩:=h;exact⟨v,σ',H',I.unpned,r,q⟩
theorem SP.unmarked {D:Br} (k:X.calm=true->X.A.handled=wb) (h:SP (Xm X ea) pins D f s):SP X pins D f s:=by
 cases f with
 |next=>obtain⟨σ',H',I,q⟩:=h;exact⟨σ',H',I.unmarked k,q⟩
 |brk=>obtain⟨σ',H',I,q⟩:=h;exact⟨σ',H',I.unmarked k,q⟩
 |cont=>obtain⟨σ',H',I,q⟩:=h;exact⟨σ',H',I.unmarked k,q⟩
 |ret u=>obtain⟨v,σ',H',I,r,q⟩:=h;exact⟨v,σ',H',I.unmarked k,r,q⟩
variable {exC:Nat->af}{c c':Nat}{ea T:af}{x:Str}{np pos:Pos}{b₀:cx}{suite:List cx}{rest:List ExceptHandler}{tl tl':List ag}{Q:Flow->am->Prop}{E:ag->am->Prop}
theorem FlyT.fields (fl:FlyT exC c ea T X.s₀.heap H s.heap):∀ b,(b=ea∨b=T)->∃ o vs,s.heap.get? b=v9 o/\o.data=.fields vs:=fun b hb=>by
 obtain⟨oe,oT,vs,ts,a0,e1,e2,e3,e4,e5,e6,e7,e8,e9⟩:=fl.tr;rcases hb with rfl|rfl
 ·exact⟨_,_,e1,e3⟩
 ·exact⟨_,_,e7,e8⟩
theorem jV (I:Inv X pins σ H s) (hex:X.ex=[]) (fl:FlyT exC c ea T X.s₀.heap H s.heap) (hp:∀ p∈X.pn++pins,p.1≠ea/\p.1≠T) (hg:Gl X x) (hm:X.mg x=v9 (.ref (exC c'))) (ho:ownIn X.K (exC c) tl) (ho':ownIn X.K (exC c') tl')
  (hit:(ca (exC c)::tl).contains (.ref (exC c'))=true->∀ s',Inv (Xm X ea) pins σ H s'->ax (model X.prog X.w) (Xm X ea).A (execs (b₀::suite) X.env) Q (fun _ _=>False) s')
  (miss:(ca (exC c)::tl).contains (.ref (exC c'))=false->ax (model X.prog X.w) X.A (handleBy (.ref ea) X.env rest) Q E s) (hdb:(x==("__debug__":Str))=false:=by decide):
  ax (model X.prog X.w) X.A (handleBy (.ref ea) X.env (.ExceptHandler (v9 (.Name x np)) wb (b₀::suite) pos::rest)) Q E s:=by
 obtain⟨oe,oT,vs,ts,a0,e1,e2,_⟩:=fl.tr;refine wpAny_handleBy_cons (codeAny_handlers_test (sU (I.marked ea) hg hm ?_ hdb)) (fun z=>nomatch z);refine qA (K:=X.K) (C:=exC c) (C':=exC c') I.kIn ho ho' e1 e2 ?_;cases hb:(ca (exC c)::tl).contains (.ref (exC c')) with
 |false=>exact miss hb
 |true=>
  refine codeAny_handlers_suite (yW I.stack fl fun h' ps fl'=> ?_);have I':Inv X pins σ H { s with heap:=h' }:=I.passed hex ps fl.h0e fl.h0T fl.He fl.HT hp fl.fields;exact gg (hit hb _ (I'.marked ea)) (fun _ _ q=>q) fun _ _ z=>z.elim
end
noncomputable def uY (F:OS) (c1:Nat) (G1:OS) (c2:Nat) (G2:OS):OS:=fun ρ ω=>match F ρ ω with
 |some (.ex c,ω1)=>if c=c1 then sNx G1 (aw ρ.length wb) ω1 else if c=c2 then sNx G2 (aw ρ.length wb) ω1 else wb
 |r=>r
section
variable {X:Cx}{cls exC:Nat->af}{E:XE}{body:List cx}{F G1 G2:OS}{c1 c2:Nat}{x1 x2:Str}{np1 np2 p1 p2 pos:Pos}{b1 b2:cx}{r1 r2:List cx}{tl1 tl2:List ag}
theorem Fy (I:Inv X pins σ H s):Inv X pins (aw σ.length wb) H s:=I.weak (by simp) fun i v e=>by
 rw[ga] at e;split at e <;> cases e
theorem Je (hex:X.ex=[]) (hc:X.calm=true) (hs:X.stack=X.env::X.outer) (hf:∃ L,X.env.frame=v9 L) (hg1:Gl X x1) (hg2:Gl X x2) (hm1:X.mg x1=v9 (.ref (exC c1))) (hm2:X.mg x2=v9 (.ref (exC c2))) (ho1:ownIn X.K (exC c1) tl1) (ho2:ownIn X.K (exC c2) tl2)
  (hne:(ca (exC c2)::tl2).contains (.ref (exC c1))=false)
  (hb:∀ pn xe E',Exc (Xp X pn xe) exC E'->OSs (Xp X pn xe) cls E' body F) (h1:∀ ea,OSs (Xm X ea) cls EF (b1::r1) G1) (h2:∀ ea,OSs (Xm X ea) cls EF (b2::r2) G2)
  (hd1:(x1==("__debug__":Str))=false:=by decide) (hd2:(x2==("__debug__":Str))=false:=by decide):
  OSt X cls E (.Try body [.ExceptHandler (v9 (.Name x1 np1)) wb (b1::r1) p1,.ExceptHandler (v9 (.Name x2 np2)) wb (b2::r2) p2] [] [] pos) (uY F c1 G1 c2 G2):=by
 rintro pins s σ H D I ⟨ok,ρ,ω,o,ω',P,e,q⟩;obtain⟨L,hL⟩:=hf
 -- what the body wants
 cases eF:F ρ ω with
 |none=>unfold uY at e;rw[eF] at e;cases e
 |some pr=>
  obtain⟨o1,ω1⟩:=pr;unfold uY at e;rw[eF] at e;refine wpAny_Try_except ?_
  -- the wish within
  have main:∀(E':XE),(∀ c H',E' c H'->∃ ok',Nw cls X.K ok H ok' H' ω1/\∃ z,o1=.ex z/\c=z)->outO cls X.K ok H ω1 E' D o1->
    ax (model X.prog X.w) X.A (execs body X.env) (fun f s₁=>match f with|.next=>ax (model X.prog X.w) X.A (execs [] X.env) (SP X pins D) X.xe s₁|f=>SP X pins D f s₁)
     (fun e s₁=>ax (model X.prog X.w) X.A (ug e X.env) (fun _ s₂=>ax (model X.prog X.w) X.A (uh e wb) (fun _ s₃=>ax (model X.prog X.w) X.A (handleBy e X.env [.ExceptHandler (v9 (.Name x1 np1)) wb (b1::r1) p1,.ExceptHandler (v9 (.Name x2 np2)) wb (b2::r2) p2]) (SP X pins D) X.xe s₃) X.xe s₂) X.xe s₁) s:=by
   intro E' hE' hout;have ex:Exc (Xp X (X.pn++pins) fun e s₁=>ax (model X.prog X.w) X.A (ug e X.env) (fun _ s₂=>ax (model X.prog X.w) X.A (uh e wb) (fun _ s₃=>ax (model X.prog X.w) X.A (handleBy e X.env [.ExceptHandler (v9 (.Name x1 np1)) wb (b1::r1) p1,.ExceptHandler (v9 (.Name x2 np2)) wb (b2::r2) p2]) (SP X pins D) X.xe s₃) X.xe s₂) X.xe s₁) exC E':=by
    refine⟨fun c ea T H' pins' σ' s' I' fl hpn hE=> ?_,hex⟩;have I1:Inv X pins σ' H' s':=I'.unpned;obtain⟨ok',nw,z,ez,rfl⟩:=hE' c H' hE;subst ez;refine Go (L:=L) (outer:=X.outer) (P:=X.prog) (w:=X.w) (by rw[I1.ok.frames,hs]) hL (by rw[<- hs];exact I1.stack) I1.hok (fun b w=>I1.pers hex w) fl fun h' T' ps fl' hT=> ?_;have hpT:∀ p∈X.pn++pins,p.1≠ea/\p.1≠T':=fun p hp=>⟨(hpn p hp).1,fun w=>by
     rcases hT with rfl|hT
     ·exact(hpn p hp).2 w
     ·have:=(I1.pin p hp).1
      rw[w,hT] at this;cases this⟩
    have I2:Inv X pins σ' H' { s' with heap:=h' }:=I1.passed hex (by rw[hs];exact ps) fl.h0e fl.h0T fl.He fl.HT hpn fl.fields;have I3:=Fy I2;have run:∀ {G:OS}{b:cx}{r:List cx}{s4:am},OSs (Xm X ea) cls EF (b::r) G->sNx G (aw ρ.length wb) ω1=v9 (o,ω')->Inv (Xm X ea) pins (aw σ'.length wb) H' s4->ax (model X.prog X.w) (Xm X ea).A (execs (b::r) X.env) (SP X pins D) (fun _ _=>False) s4:=fun {G b r s4} hG eG I4=>by
     obtain⟨eG,hn⟩:=CY eG;have hlen:σ'.length=ρ.length:=by rw[I1.len,<- I.len,P.len]
     refine gg (hG pins s4 _ H' D I4 ⟨ok',_,ω1,o,ω',⟨nw.okh,nw.st,fun i d w=> ?_,by simp[hlen]⟩,eG,?_⟩) (fun _ _ z=>SP.unmarked I.ok.hd z) fun _ _ z=>z
     ·rw[ga] at w;split at w <;> cases w
     ·have q':=q.nw nw;cases o with
      |ex c=>exact absurd rfl (hn c)
      |_=>exact q'
    have e0:(if c=c1 then sNx G1 (aw ρ.length wb) ω1 else if c=c2 then sNx G2 (aw ρ.length wb) ω1 else wb)=v9 (o,ω'):=e
    by_cases hz1:c=c1
    ·subst hz1;have e':sNx G1 (aw ρ.length wb) ω1=v9 (o,ω'):=by
      rw[if_pos rfl] at e0;exact e0
     refine jV I3 hex fl' hpT hg1 hm1 ho1 ho1 (fun _ s4 I4=>run (h1 ea) e' I4) (fun w=> ?_) hd1;exact absurd w (by simp)
    ·have e2:(if c=c2 then sNx G2 (aw ρ.length wb) ω1 else wb)=v9 (o,ω'):=by
      rw[if_neg hz1] at e0;exact e0
     obtain⟨hz2,e3⟩:=cJ e2;subst hz2;refine jV I3 hex fl' hpT hg1 hm1 ho2 ho1 (fun w=> ?_) (fun _=> ?_) hd1
     ·rw[hne] at w;cases w
     ·refine jV I3 hex fl' hpT hg2 hm2 ho2 ho2 (fun _ s4 I4=>run (h2 ea) e3 I4) (fun w=> ?_) hd2;exact absurd w (by simp)
   refine gg (hb _ _ E' ex [] s σ H D I.pned ⟨ok,ρ,ω,o1,ω1,P,eF,hout⟩) (fun f s₁ z=> ?_) fun _ _ z=>z;have z':=SP.unpned z;cases f with
   |next=>
    obtain⟨σ',H',I',q'⟩:=z';exact nv ⟨σ',H',I',q'⟩
   |_=>exact z'
  cases o1 with
  |ex c=>exact main (fun c' H'=>(∃ ok',Nw cls X.K ok H ok' H' ω1)/\c'=c) (fun c' H' ⟨⟨ok',n⟩,ez⟩=>⟨ok',n,c,rfl,ez⟩) fun ok' H' n=>⟨⟨ok',n⟩,rfl⟩
  |nx ρ1=>cases e;exact main (fun _ _=>False) (fun _ _ z=>z.elim) q
  |rt d=>cases e;exact main (fun _ _=>False) (fun _ _ z=>z.elim) q
  |bk ρ1=>cases e;exact main (fun _ _=>False) (fun _ _ z=>z.elim) q
  |ct ρ1=>cases e;exact main (fun _ _=>False) (fun _ _ z=>z.elim) q
end
noncomputable def RawD (h:cz) (d:af) (es:Array kq) (ep:Nat):Prop:=∃ o,h.get? d=v9 o/\o.ExactDict/\o.data=.dict es ep
theorem RawD.at (x:RawD h d es ep) (k:∀ o,h.get? d=v9 o->h'.get? d=v9 o):RawD h' d es ep:=let ⟨o,e,r⟩:=x;⟨o,k o e,r⟩
theorem RawD.typeIs {s:am} (x:RawD s.heap d es ep):s.TypeIs (.ref d) "dict":=let ⟨o,e,c,_⟩:=x;⟨o,e,c.1⟩
theorem RawD.lt (x:RawD h d es ep):d<h.objs.size:=let ⟨_,e,_⟩:=x;br e
section
variable {prog:c9}{w:df}{A:di}{E:ag->am->Prop}{s:am}{d v it:af}{es:Array kq}{ep i:Nat}
theorem Bz (lo:(d==d9)=false) (r:RawD s.heap d es ep) (q:Q (.ref s.heap.objs.size) { s with heap:=s.heap.push { cls:=.type "dict_values",data:=.fields #[.ref d] } }):
  ax (model prog w) A (call (.builtin "dict.values") [.ref d]) Q E s:=by
 refine ui (prog:=prog) (w:=w) qc r.typeIs PySem.F.entry_dict_values (PySem.F.args_dict_values_1 _) (S:=fun _ R t=>RawD t.heap d es ep/\R (.ok (.ret (.ref t.heap.objs.size))) { t with heap:=t.heap.push { cls:=.type "dict_values",data:=.fields #[.ref d] } }) (.of_wp fun B R t z=> ?_) ⟨r,q⟩;obtain⟨r1,q1⟩:=z;refine ae ?_;unfold Builtin.Dict.noArgs;refine ae (sf r1.typeIs ?_);show ax _ _ (pure d) _ _ t;refine ak ?_;show ax _ _ (ko d >>= _) _ _ t;unfold ko;rw[if_neg (show ¬((d==d9)=true) by rw[lo];exact cq)];exact ae (ak (ae (dy (ak ⟨_,rfl,q1⟩))))
theorem Df (vw:s.heap.IsValuesView v d) (r:RawD s.heap d es ep)
  (q:Q (.ref s.heap.objs.size) { s with heap:=s.heap.push { cls:=.type "dict_valueiterator",data:=.fields #[.ref d,.int 0 0,.int es.size 0,.int ep 0] } }):ax (model prog w) A (pyIter (.ref v)) Q E s:=by
 obtain⟨ov,v1,v2,v3⟩:=id vw;obtain⟨o,r1,r2,r3⟩:=id r;refine wpAny_pyIter_slot vw.typeIs n9 (g9 n9 vw.typeIs PySem.F.entry_dict_values_iter ?_ (PySem.F.args_dict_values_iter_1 _));unfold Builtin.«dict_values.__iter__»;refine ae (ak (ae ?_));unfold v5;refine ae (qw v1 v3 (x:=.ref d) rfl (ak (ae ?_)));unfold vn;refine ae (jm r1 r3 (ae (kh r1 r3 ?_)));have own:ia "dict_valueiterator"=false:=by decide
 simp only[own,dq,ite_false];refine dy (ak ⟨_,rfl,"dict_valueiterator",_,⟨_,b0 _ rfl,rfl⟩,fe.lookup,?_⟩);simpa [ls] using q
theorem De (vi:s.heap.IsValIter it d i es.size ep) (r:RawD s.heap d es ep) (hx:es[i]?=v9 e)
  (q:∀ h',h'.IsValIter it d (i+1) es.size ep->en it s.heap h'->Q (v9 e.val) { s with heap:=h' }):ax (model prog w) A (mv (.ref it)) Q E s:=by
 obtain⟨o,i1,i2,i3⟩:=id vi;obtain⟨od,r1,r2,r3⟩:=id r;have lt:i<es.size:=(kz.mp hx).1;have own:ia "dict_valueiterator"=false:=by decide
 unfold mv;refine ae (o9 (i7 (name:=jl "__next__") vi.typeIs fe (g9 fe vi.typeIs lq ?_ (k9 _))));refine ae (ak (ae (ae ?_)))
 first|refine ae (i4 vi.typeIs (ak ?_))|refine ae (jy vi.typeIs (ak ?_))
 refine ae (ou i1 i3 ?_);simp only[own,dq,ite_false];show ax _ _ (if(ca d==hW)=true then _ else _) _ _ s;rw[if_neg (show ¬((ca d==hW)=true) from fun z=>nomatch z)];refine ae (ak (ae (jm r1 r3 ?_)));rw[if_neg (by simp:¬ _)];refine ae (ak (ae (kh r1 r3 ?_)));rw[if_neg (by simp:¬ _)];refine ak ?_;simp only[show ¬((i:Int)<0) by omega,ite_false,fu,hx];refine ae ?_
 first|refine ae (i4 vi.typeIs (ak ?_))|refine ae (jy vi.typeIs (ak ?_))
 refine ae (nu vi.typeIs ?_);show ax _ _ (setField (.ref it) 1 (ls ((i:Int)+1)) >>= _) _ _ s;refine ae (ow i1 i3 (by simp) ?_);have vi2:(s.heap.update it (k6 (·.setIfInBounds 1 (ls ((i:Int)+1))))).IsValIter it d (i+1) es.size ep:=⟨_,fz _ i1 (nr (jg i3 _)),(uw ..).trans i2,by rw[jg i3];simp[ls]⟩;refine ae (ig (ae (nu (s:={ s with heap:=s.heap.update it (k6 (·.setIfInBounds 1 (ls ((i:Int)+1)))) }) vi2.typeIs ?_)));refine ae (nu (s:={ s with heap:=s.heap.update it (k6 (·.setIfInBounds 1 (ls ((i:Int)+1)))) }) vi2.typeIs ?_);exact ak (ak ⟨_,rfl,ak (q _ vi2 (lh ..))⟩)
theorem FO (hh:A.handled=wb) (vi:s.heap.IsValIter it d i es.size ep) (r:RawD s.heap d es ep) (hx:es.size<=i) (q:∀ h',Heap.ExtBut it s.heap h'->Q wb { s with heap:=h' }):ax (model prog w) A (mv (.ref it)) Q E s:=by
 obtain⟨o,i1,i2,i3⟩:=id vi;obtain⟨od,r1,r2,r3⟩:=id r;have own:ia "dict_valueiterator"=false:=by decide
 unfold mv;refine ae (o9 (i7 (name:=jl "__next__") vi.typeIs fe (g9 fe vi.typeIs lq ?_ (k9 _))));refine ae (ak (ae (ae ?_)))
 first|refine ae (i4 vi.typeIs (ak ?_))|refine ae (jy vi.typeIs (ak ?_))
 refine ae (ou i1 i3 ?_);simp only[own,dq,ite_false];show ax _ _ (if(ca d==hW)=true then _ else _) _ _ s;rw[if_neg (show ¬((ca d==hW)=true) from fun z=>nomatch z)];refine ae (ak (ae (jm r1 r3 ?_)));rw[if_neg (by simp:¬ _)];refine ae (ak (ae (kh r1 r3 ?_)));rw[if_neg (by simp:¬ _)];refine ak ?_;simp only[show ¬((i:Int)<0) by omega,ite_false,fu,rh hx];refine ae ?_
 first|refine ae (i4 vi.typeIs (ak ?_))|refine ae (jy vi.typeIs (ak ?_))
 show ax _ _ (setField (.ref it) 0 .none >>= _) _ _ s;refine ae (ow i1 i3 (by simp) ?_);show ax _ _ (newExc (.type "StopIteration") [] >>= _) _ _ _;refine ae ?_;simp only[newExc,newTuple];refine ae (dy (ae (m:=ox _ _) (wpAny_of_eq (a:=hW) (by first|rfl|(simp only[ox];rfl)) ?_)) (by size_fits));refine dy ?_ (by size_fits);simp only[raiseNew];refine ae (wpAny_handled ?_);rw[show A.in1.handled=wb from hh];refine ae (ak (wpAny_throw ?_));refine ae (wpAny_isInstance (T:="StopIteration") (b:=true) ⟨_,(b0 _ rfl),rfl⟩ isSubtype_stop ?_);exact ak (q _ (((lh ..).extBut.push _).push _))
theorem KU (hh:A.handled=wb) (I:af) (hne:d≠I):Walks prog w A I [I,d] [I] es.size (fun i v=>∃ e,es[i]?=v9 e/\v=e.val) (fun i h=>h.IsValIter I d i es.size ep/\RawD h d es ep) where
 sub:=fun b hb=>by simp at hb;simp[hb]
 frame:=fun _ _ _ st hk=>⟨let ⟨o,e,z⟩:=st.1;⟨o,hk I (by simp) o e,z⟩,st.2.at fun o e=>hk d (by simp) o e⟩
 item:=fun i s Q E hi st hQ=>De (e:=es[i]) st.1 st.2 (by simp[hi]) fun h' st' sb=>hQ _ h' s.toks ⟨es[i],by simp[hi],rfl⟩ ⟨st',st.2.at fun o e=>(sb.2 d hne).trans e⟩ fun b o hb e=>(sb.2 b fun z=>hb (by simp[z])).trans e
 done:=fun s Q E st hQ=>FO hh st.1 st.2 (bp _) fun h' eb=>hQ h' s.toks fun b o hb e=>eb b o (fun z=>hb (by simp[z])) e
 self:=fun _ _ _ _ st hQ=>wpAny_pyIter_valiter st.1 hQ
theorem qL:oy prog w "dict_values" v d es.size (fun i x=>∃ e,es[i]?=v9 e/\x=e.val) (fun h=>h.IsValuesView v d/\RawD h d es ep) where
 type:=fun _ z=>z.1.typeIs
 there:=fun _ z=>⟨let ⟨_,e,_⟩:=z.1;br e,z.2.lt⟩
 keep:=fun _ _ z hk=>⟨let ⟨o,e,x⟩:=z.1;⟨o,hk v (.inl rfl) o e,x⟩,z.2.at fun o e=>hk d (.inr rfl) o e⟩
 notList:=by decide
 notTuple:=by decide
 hint:=fun _ _ _ _ z hq=>PySem.W.kdl_hint_values z.1.typeIs hq
 iter:=fun _ _ hh z=>⟨_,_,(fun _ _ hq=>Df z.1 z.2 hq),KU hh _ (cm z.2.lt),⟨⟨_,b0 _ rfl,rfl,rfl⟩,z.2.at fun o e=>ay _ e⟩⟩
theorem vD (lo:(d==d9)=false) (r:RawD s.heap d es ep)
  (q:Q (.ref s.heap.objs.size) { s with heap:=s.heap.push { cls:=.type "dict_keyiterator",data:=.fields #[.ref d,.int 0 0,.int es.size 0,.int ep 0] } }):ax (model prog w) A (pyIter (.ref d)) Q E s:=by
 obtain⟨o,r1,r2,r3⟩:=id r;refine wpAny_pyIter_slot r.typeIs my (g9 my r.typeIs PySem.F.entry_dict_iter ?_ (PySem.F.args_dict_iter_1 _));unfold Builtin.«dict.__iter__»;refine ae ?_;unfold Builtin.Dict.dictSlotNone;refine ae (sf r.typeIs ?_);show ax _ _ (pure (ca d)) _ _ s;refine ak ?_;show ax _ _ (ko d >>= _) _ _ s;unfold ko;rw[if_neg (show ¬((d==d9)=true) by rw[lo];exact cq)];refine ae (ak (ae (jm r1 r3 (ae (kh r1 r3 ?_)))));refine ae (dy (ak ⟨_,rfl,"dict_keyiterator",_,⟨_,b0 _ rfl,rfl⟩,fw.lookup,?_⟩));simpa [ls] using q
theorem vC (vi:s.heap.IsKeyIter it d i es.size ep) (r:RawD s.heap d es ep) (hx:es[i]?=v9 e)
  (q:∀ h',h'.IsKeyIter it d (i+1) es.size ep->en it s.heap h'->Q (v9 e.key) { s with heap:=h' }):ax (model prog w) A (mv (.ref it)) Q E s:=by
 obtain⟨o,i1,i2,i3⟩:=id vi;obtain⟨od,r1,r2,r3⟩:=id r;have lt:i<es.size:=(kz.mp hx).1;have own:ia "dict_keyiterator"=false:=by decide
 unfold mv;refine ae (o9 (i7 (name:=jl "__next__") vi.typeIs fw (g9 fw vi.typeIs mq ?_ (ma _))));refine ae (ak (ae (ae ?_)))
 first|refine ae (i5 vi.typeIs (ak ?_))|refine ae (jz vi.typeIs (ak ?_))
 refine ae (ou i1 i3 ?_);simp only[own,dq,ite_false];show ax _ _ (if(ca d==hW)=true then _ else _) _ _ s;rw[if_neg (show ¬((ca d==hW)=true) from fun z=>nomatch z)];refine ae (ak (ae (jm r1 r3 ?_)));rw[if_neg (by simp:¬ _)];refine ae (ak (ae (kh r1 r3 ?_)));rw[if_neg (by simp:¬ _)];refine ak ?_;simp only[show ¬((i:Int)<0) by omega,ite_false,fu,hx];refine ae ?_
 first|refine ae (i5 vi.typeIs (ak ?_))|refine ae (jz vi.typeIs (ak ?_))
 refine ae (sg vi.typeIs ?_);show ax _ _ (setField (.ref it) 1 (ls ((i:Int)+1)) >>= _) _ _ s;refine ae (ow i1 i3 (by simp) ?_);have vi2:(s.heap.update it (k6 (·.setIfInBounds 1 (ls ((i:Int)+1))))).IsKeyIter it d (i+1) es.size ep:=⟨_,fz _ i1 (nr (jg i3 _)),(uw ..).trans i2,by rw[jg i3];simp[ls]⟩;refine ae (ig (ae (sg (s:={ s with heap:=s.heap.update it (k6 (·.setIfInBounds 1 (ls ((i:Int)+1)))) }) vi2.typeIs ?_)));exact ak (ak ⟨_,rfl,ak (q _ vi2 (lh ..))⟩)
theorem Ay (hh:A.handled=wb) (vi:s.heap.IsKeyIter it d i es.size ep) (r:RawD s.heap d es ep) (hx:es.size<=i) (q:∀ h',Heap.ExtBut it s.heap h'->Q wb { s with heap:=h' }):ax (model prog w) A (mv (.ref it)) Q E s:=by
 obtain⟨o,i1,i2,i3⟩:=id vi;obtain⟨od,r1,r2,r3⟩:=id r;have own:ia "dict_keyiterator"=false:=by decide
 unfold mv;refine ae (o9 (i7 (name:=jl "__next__") vi.typeIs fw (g9 fw vi.typeIs mq ?_ (ma _))));refine ae (ak (ae (ae ?_)))
 first|refine ae (i5 vi.typeIs (ak ?_))|refine ae (jz vi.typeIs (ak ?_))
 refine ae (ou i1 i3 ?_);simp only[own,dq,ite_false];show ax _ _ (if(ca d==hW)=true then _ else _) _ _ s;rw[if_neg (show ¬((ca d==hW)=true) from fun z=>nomatch z)];refine ae (ak (ae (jm r1 r3 ?_)));rw[if_neg (by simp:¬ _)];refine ae (ak (ae (kh r1 r3 ?_)));rw[if_neg (by simp:¬ _)];refine ak ?_;simp only[show ¬((i:Int)<0) by omega,ite_false,fu,rh hx];refine ae ?_
 first|refine ae (i5 vi.typeIs (ak ?_))|refine ae (jz vi.typeIs (ak ?_))
 show ax _ _ (setField (.ref it) 0 .none >>= _) _ _ s;refine ae (ow i1 i3 (by simp) ?_);show ax _ _ (newExc (.type "StopIteration") [] >>= _) _ _ _;refine ae ?_;simp only[newExc,newTuple];refine ae (dy (ae (m:=ox _ _) (wpAny_of_eq (a:=hW) (by first|rfl|(simp only[ox];rfl)) ?_)) (by size_fits));refine dy ?_ (by size_fits);simp only[raiseNew];refine ae (wpAny_handled ?_);rw[show A.in1.handled=wb from hh];refine ae (ak (wpAny_throw ?_));refine ae (wpAny_isInstance (T:="StopIteration") (b:=true) ⟨_,(b0 _ rfl),rfl⟩ isSubtype_stop ?_);exact ak (q _ (((lh ..).extBut.push _).push _))
theorem KW (hh:A.handled=wb) (I:af) (hne:d≠I):Walks prog w A I [I,d] [I] es.size (fun i v=>∃ e,es[i]?=v9 e/\v=e.key) (fun i h=>h.IsKeyIter I d i es.size ep/\RawD h d es ep) where
 sub:=fun b hb=>by simp at hb;simp[hb]
 frame:=fun _ _ _ st hk=>⟨let ⟨o,e,z⟩:=st.1;⟨o,hk I (by simp) o e,z⟩,st.2.at fun o e=>hk d (by simp) o e⟩
 item:=fun i s Q E hi st hQ=>vC (e:=es[i]) st.1 st.2 (by simp[hi]) fun h' st' sb=>hQ _ h' s.toks ⟨es[i],by simp[hi],rfl⟩ ⟨st',st.2.at fun o e=>(sb.2 d hne).trans e⟩ fun b o hb e=>(sb.2 b fun z=>hb (by simp[z])).trans e
 done:=fun s Q E st hQ=>Ay hh st.1 st.2 (bp _) fun h' eb=>hQ h' s.toks fun b o hb e=>eb b o (fun z=>hb (by simp[z])) e
 self:=fun _ _ _ _ st hQ=>sv st.1 hQ
theorem Av (lo:(d==d9)=false):oy prog w "dict" d d es.size (fun i x=>∃ e,es[i]?=v9 e/\x=e.key) (fun h=>RawD h d es ep) where
 type:=fun _ z=>z.typeIs
 there:=fun _ z=>⟨z.lt,z.lt⟩
 keep:=fun _ _ z hk=>z.at fun o e=>hk d (.inl rfl) o e
 notList:=by decide
 notTuple:=by decide
 hint:=fun _ _ _ _ z hq=>PySem.W.kdl_hint_dict z.typeIs hq
 iter:=fun _ _ hh z=>⟨_,_,(fun _ _ hq=>vD lo z hq),KW hh _ (cm z.lt),⟨⟨_,b0 _ rfl,rfl,rfl⟩,z.at fun o e=>ay _ e⟩⟩
end
theorem _root_.L2.Inv.laidN (I:Inv X pins σ H s) (k:∀ b u,s.heap.get? b=v9 u->h'.get? b=v9 u) (n:s.heap.get? a=wb) (new:ObjOk X.prog X.w (upd H a o) h' a o):
  H a=wb/\Inv X pins σ (upd H a o) { s with heap:=h',toks:=t' }:=by
 have hn:H a=wb:=by
  cases q:H a with
  |none=>rfl
  |some u=>
   obtain⟨v,w⟩:=HOk.obj I.hok q;rw[n] at w;cases w
 have ne:∀ {b:af}{u:Obj},s.heap.get? b=v9 u->b≠a:=fun e z=>by rw[z,n] at e;cases e
 refine⟨hn,I.un ⟨fun b u e _ _ _=>k b u e,fun b u e _ _ _=>⟨u.slots,k b u e⟩,fun b u e q _=>by rw[aF (ne e)];exact q,fun b u e _=>⟨u,k b u e⟩,fun b xs e=>by rw[aF (aI e hn)];exact e,fun b u v e=>by rw[aF (aI e hn)];exact e,fun b ps e=>⟨#[],by rw[aF (aI e hn),e];simp⟩⟩ fun b u e=> ?_⟩
 by_cases hb:b=a
 ·subst hb;rw[aM] at e;cases e;exact new
 ·rw[aF hb] at e;exact(I.hok b u e).stay (fun c v _ q=>k c v q) (fun c q=>by rw[aF (aI q hn)];exact q) fun c xs q=>by rw[aF (aI q hn)];exact q
section
variable {prog:c9}{w:df}{A:di}{E:ag->am->Prop}{s:am}
theorem NZ (ho:s.heap.get? a=v9 (gp "list" vs.toArray n)) (h1:vs.length<2)
  (h:P (.done (.ret .none)) { s with heap:=pj s.heap a vs ((vs.toArray.zip vs.toArray).map (·.2)) }):ax (model prog w) A (Builtin.«list.sort» ⟨[.ref a],[]⟩) P E s:=by
 have la:a<s.heap.objs.size:=br ho;have z:vs.toArray.size<2:=by rw[bc];exact h1
 obtain⟨e1,o1⟩:∃ e1,(s.heap.update a (ka fun _=> #[])).get? a=v9 (gp "list" #[] e1):=⟨_,qm ho (fun _=> #[])⟩;have o2:(((s.heap.update a (ka fun _=> #[])).push (gp "tuple" vs.toArray 0)).push (gp "list" #[] 0)).get? a=v9 (gp "list" #[] e1):=ay _ (ay _ o1);rw[list_sort_plain];refine ae (listItems_at ho rfl (ae (listUpdate_at ho rfl (ae (seqEpoch_at o1 rfl (ae (wpAny_newTuple (ae (tf (ig ?_))))))))));show ax (model prog w) A _ P E { s with heap:=((s.heap.update a (ka fun _=> #[])).push (gp "tuple" vs.toArray 0)).push (gp "list" #[] 0) };dsimp only;rw[if_pos z,if_pos z];refine ae (ak ?_);rw[StateT.run_pure];refine ae (ak ?_);dsimp only;refine ae (seqEpoch_at o2 rfl (ae (listUpdate_at o2 rfl ?_ (hsz2:=by rw[Array.size_map];show(vs.toArray.zip vs.toArray).size<=_;rw[Array.size_zip,bc,b7];omega))));simp only[bne_self_eq_false,dq,ite_false];exact ak h
theorem nE (col:∀ {R:List ag->am->Prop},(∀(h':cz) (tk:Nat) (acc:Array ag),(∀ b o,s.heap.get? b=v9 o->h'.get? b=v9 o)->ItemsOf P acc n->R acc.toList { s with heap:=h',toks:=tk })->ax (model prog w) A.in1 (collect (.ref r)) R E s) (hn:n<2)
  (h:∀(h':cz) (tk:Nat) (vs:List ag) (a:af) (c:Nat),(∀ b o,s.heap.get? b=v9 o->h'.get? b=v9 o)->s.heap.get? a=wb->vs.length=n->(∀(j:Nat) (v:ag),vs[j]?=v9 v->P j v)->h'.get? a=v9 (gp "list" vs.toArray c)->Q (.ref a) { s with heap:=h',toks:=tk }):
  ax (model prog w) A (call (.builtin "sorted") [.ref r]) Q E s:=by
 refine pk kind_sorted plain_sorted entry_sorted (args_sorted1 _) ?_;unfold Builtin.«sorted»;refine ae (m:=checkCount "sorted" 1 1 _) (ak (ae (col fun h1 tk acc kp it=> ?_)));have hl:acc.toList.length=n:=by rw[dr];exact it.1
 refine ae (tf ?_ (by rw[hl,b7];omega));have o1:(h1.push (gp "list" acc.toList.toArray 0)).get? h1.objs.size=v9 (gp "list" acc.toList.toArray 0):=b0 _ rfl;refine ae (ig (g9 slot_list_sort ⟨_,o1,rfl⟩ entry_list_sort (NZ (s:={ s with heap:=h1.push (gp "list" acc.toList.toArray 0),toks:=tk }) o1 (by rw[hl];exact hn) ⟨_,rfl,?_⟩) (args_list_sort _)));have nw:s.heap.get? h1.objs.size=wb:=by
  cases q:s.heap.get? h1.objs.size with
  |none=>rfl
  |some u=>exact absurd (br (kp _ _ q)) (fx _)
 have ez:(acc.toList.toArray.zip acc.toList.toArray).map (·.2)=acc.toList.toArray:=by
  apply Array.ext';rw[Array.toList_map,Array.toList_zip];simp[List.map_snd_zip]
 have ne:∀ b,b≠h1.objs.size->∀ o,h1.get? b=v9 o->(pj (h1.push (gp "list" acc.toList.toArray 0)) h1.objs.size acc.toList ((acc.toList.toArray.zip acc.toList.toArray).map (·.2))).get? b=v9 o:=fun b hb o e=>by
  unfold pj;rw[d4 _ _ (c5 hb)];refine ay _ (ay _ ?_);rw[d4 _ _ (c5 hb)];exact ay _ e
 have o2:=qm o1 (fun _=> #[]);have o3:=qm (ay (gp "list" #[] 0) (ay (gp "tuple" acc.toList.toArray 0) o2)) (fun _=>(acc.toList.toArray.zip acc.toList.toArray).map (·.2));have o4:∃ c,(pj (h1.push (gp "list" acc.toList.toArray 0)) h1.objs.size acc.toList ((acc.toList.toArray.zip acc.toList.toArray).map (·.2))).get? h1.objs.size=v9 (gp "list" acc.toList.toArray c):=by
  unfold pj;rw[ez] at o3 ⊢;exact⟨_,o3⟩
 obtain⟨c,o4⟩:=o4;exact ak ⟨_,rfl,h _ tk acc.toList h1.objs.size c (fun b o e=>ne b (fun z=>by rw[z,nw] at e;cases e) o (kp b o e)) nw hl (fun j v e=>it.2 j v (by rw[<- g8];exact e)) o4⟩
theorem nC (K:oy prog w T r d n P OK) (hh:A.handled=wb) (hok:OK s.heap) (hn:n<2)
  (h:∀(h':cz) (tk:Nat) (vs:List ag) (a:af) (c:Nat),(∀ b o,s.heap.get? b=v9 o->h'.get? b=v9 o)->s.heap.get? a=wb->vs.length=n->(∀(j:Nat) (v:ag),vs[j]?=v9 v->P j v)->h'.get? a=v9 (gp "list" vs.toArray c)->Q (.ref a) { s with heap:=h',toks:=tk }):
  ax (model prog w) A (call (.builtin "sorted") [.ref r]) Q E s:=
 nE (fun h=>tm (A:=A.in1) K hh hok (by rw[b7];omega) h) hn h
end
noncomputable abbrev lf (g:D->D->Option D):Om->D->D->Option (D×Om):=fun ω a b=>pu (g a b) ω
noncomputable abbrev lfL (g:List D->Option D):Om->List D->Option (D×Om):=fun ω a=>pu (g a) ω
noncomputable def Ll:OS:=fun _ _=>wb
noncomputable def dJ (ω:Om) (d:D):Option (List D):=match d with
 |.lst ds=>v9 ds
 |.obj n=>match ω[n]? with
  |some (.ml ds)=>v9 ds
  |_=>wb
 |_=>wb
theorem kE (h:dJ ω d=v9 ds):d=.lst ds∨∃ n,d=.obj n/\ω[n]?=v9 (.ml ds):=by
 cases d with
 |lst xs=>cases h;exact .inl rfl
 |obj n=>
  have h':(match ω[n]? with
   |some (.ml ds)=>v9 ds
   |_=>wb)=v9 ds:=h
  split at h'
  ·cases h';exact .inr ⟨n,rfl,‹_›⟩
  ·cases h'
 |_=>cases h
theorem fZ {K:aa} (t:Stt cls K ok H ω) (r:Rep K ok H v d) (e:dJ ω d=v9 ds):∃ a xs,v=.ref a/\H a=v9 (.lst xs)/\Reps K ok H xs ds:=by
 rcases kE e with rfl|⟨n,rfl,e1⟩
 ·obtain⟨a,xs,rfl,g,rs⟩:=r.lst_inv;exact⟨a,xs,rfl,g.2,rs⟩
 ·obtain⟨a,rfl,e2,xs,e3,rs⟩:=t.ref r e1;exact⟨a,xs,rfl,e3,rs⟩
section
variable {X:Cx}{cls exC:Nat->af}{E:XE}{e a b c o i value:bx}{es rest:List bx}{fa fb fc fo fi fv:OG D}{fl:OG (List D)}{ft ft':OG Bool}{pos p apos pos':Pos}{x m:Str}{st:cx}
theorem Jh:OSt X cls E st Ll:=fun _ _ _ _ _ _ ⟨_,_,_,_,_,_,z,_⟩=>nomatch z
theorem MK (ha:OE X cls E a fa) (hb:OE X cls E b fb):OE X cls E (.BinOp a .Add b pos) (o2 (lf pZ) fa fb):=vH Mu (Fit2.lift (lV fun _ _ _ _=>.int _)) ha hb
theorem Mx (ha:OE X cls E a fa) (hb:OE X cls E b fb):OE X cls E (.BinOp a .Sub b pos) (o2 (lf gSub) fa fb):=vH Mj (Fit2.lift (lV fun _ _ _ _=>.int _)) ha hb
theorem MA (ha:OE X cls E a fa) (hb:OE X cls E b fb):OE X cls E (.BinOp a .Mult b pos) (o2 (lf iC) fa fb):=vH Mn (Fit2.lift (Nk (fun i j h=>by unfold CMul;omega) fun _ _ _ _=>.int _)) ha hb
theorem MC (ha:OE X cls E a fa) (hb:OE X cls E b fb):OE X cls E (.BinOp a .Mod b pos) (o2 (lf cC) fa fb):=vH Mo (Fit2.lift (Nk (fun _ _ h=>h) fun _ _ _ _=>.int _)) ha hb
theorem Oz (ha:OE X cls E a fa) (hb:OE X cls E b fb):OE X cls E (.Compare a [.LtE] [b] pos) (o2 (lf gLe) fa fb):=AE Mq (Fit2.lift (lV fun _ _ _ _=>.bl _)) ha hb (kM _)
theorem OC (ha:OE X cls E a fa) (hb:OE X cls E b fb):OE X cls E (.Compare a [.Gt] [b] pos) (o2 (lf gGt) fa fb):=AE Ms (Fit2.lift (lV fun _ _ _ _=>.bl _)) ha hb (kM _)
theorem Ot (ha:OE X cls E a fa) (hb:OE X cls E b fb):OT X cls E (.Compare a [.Lt] [b] pos) (cS (o2 (lf gLt) fa fb)):=qU Mp (Fit2.lift (lV fun _ _ _ _=>.bl _)) ha hb (kM _)
theorem Ov (ha:OE X cls E a fa) (hb:OE X cls E b fb):OT X cls E (.Compare a [.Gt] [b] pos) (cS (o2 (lf gGt) fa fb)):=qU Ms (Fit2.lift (lV fun _ _ _ _=>.bl _)) ha hb (kM _)
theorem MF (ha:OE X cls E a fa) (hb:OE X cls E b fb):OE X cls E (.Compare a [.Is] [b] pos) (o2 (lf Ng) fa fb):=AE HY (Fit2.lift Ez) ha hb (kM _)
theorem Ma (ha:OE X cls E a fa) (hb:OE X cls E b fb):OT X cls E (.Compare a [.Is] [b] pos) (cS (o2 (lf Ng) fa fb)):=qU HY (Fit2.lift Ez) ha hb (kM _)
theorem Ou (hu:KM X (n+1)) (ha:OE X cls E a fa) (hb:OE X cls E b fb) (hm:iz .In b=false:=by with_unfolding_all rfl):OT X cls E (.Compare a [.In] [b] pos) (cS (o2 (lf (gIn n)) fa fb)):=qU (Mr hu) (Fit2.lift Nj) ha hb hm
noncomputable def qW (g g':D->D->Option D) (fa fb fc:OG D):OG Bool:=oB fa fun x=>oB fb fun y ρ ω=>match (g x y).bind toB with
 |none=>wb
 |some true=>oB fc (fun z _ ω=>oR (pu ((g' y z).bind toB) ω)) ρ ω
 |some false=>v9 (.ok false,ω)
theorem Dp (ho:OpR X (fh op) r) (F:Fit2 X.K r g) (ho':OpR X (fh op') r') (F':Fit2 X.K r' g') (ha:OE X cls E a fa) (hb:OE X cls E b fb) (hc:OE X cls E c fc)
  (hm:lastMarks [op,op'] [b,c]=false:=by with_unfolding_all rfl):OT X cls E (.Compare a [op,op'] [b,c] pos) (qW g g' fa fb fc):=(FU ho ho' ha hb hc hm).imp fun σ H Q ⟨ok,ρ,ω,rz,ω',P,e,q⟩=>by
 refine tO.then_ P e (fun c z=>by subst z;exact q) fun x ω1 v ok1 H1 e1 n1 P1 r1=> ?_;refine tO.then_ P1 e1 (fun c z=>by subst z;exact exR.nw q n1) fun y ω2 u ok2 H2 e2 n2 P2 r2=> ?_;cases hg:(g x y).bind toB with
 |none=>rw[hg] at e2;cases e2
 |some k=>
  rw[hg] at e2;obtain⟨dk,g1,g2⟩:=bind_some hg;obtain rfl:=mU g2;refine F ok2 H2 v u x y _ _ P2.okh (r1.ex n2.ex) r2 g1 fun w H3 s3 r3=>⟨k,r3.bl_inv,?_⟩;have n3:Nw cls X.K ok2 H2 ok2 H3 ω2:=.same P2.okh P2.st s3;cases k with
  |false=>
   cases e2;exact KP ⟨false,rfl,q ok2 H3 (n1.trans (n2.trans n3))⟩
  |true=>
   refine KO (tO.then_ (P2.nw n3) e2 (fun c z=>by subst z;exact exR.nw q (n1.trans (n2.trans n3))) fun z ω4 w4 ok4 H4 e4 n4 P4 r4=> ?_);obtain⟨k',e5,rfl⟩:=bW e4;obtain⟨ue5,rfl⟩:=cI e5;obtain⟨dk',g3,g4⟩:=bind_some ue5;obtain rfl:=mU g4;exact F' ok4 H4 u w4 y z _ _ P4.okh ((r2.ex n3.ex).ex n4.ex) r4 g3 fun w5 H5 s5 r5=>⟨k',r5.bl_inv,q ok4 H5 (n1.trans (n2.trans (n3.trans (n4.trans (.same P4.okh P4.st s5)))))⟩
theorem Ni {K:aa}:Fit2 K (rI0 fun i j=>.bl (decide (i<=j))) gLe:=lV fun _ _ _ _=>.bl _
theorem Nh {K:aa}:Fit2 K (rI0 fun i j=>.bl (decide (i<j))) gLt:=lV fun _ _ _ _=>.bl _
theorem Jd (ha:OE X cls E a fa) (hb:OE X cls E b fb) (hc:OE X cls E c fc) (hm:lastMarks [.LtE,.Lt] [b,c]=false:=by with_unfolding_all rfl):OT X cls E (.Compare a [.LtE,.Lt] [b,c] pos) (qW gLe gLt fa fb fc):=Dp Mq Ni Mp Nh ha hb hc hm
noncomputable def BD (f g:OG D):OG D:=oB f fun d ρ ω=>match toB d with
 |none=>wb
 |some true=>g ρ ω
 |some false=>v9 (.ok (.bl false),ω)
noncomputable def JI (f:OG D):OG D:=oB f fun d _ ω=>oR (pu (Qv d) ω)
theorem My (h:OE X cls E a fa):OE X cls E (.BoolOp op [a] pos) fa:=LL h
theorem MJ (ha:OE X cls E a fa) (hb:OE X cls E (.BoolOp .And (b::rest) pos) fb):OE X cls E (.BoolOp .And (a::b::rest) pos) (BD fa fb):=(LS ha hb).imp fun σ H Q ⟨ok,ρ,ω,r,ω',P,e,q⟩=>by
 refine tO.then_ P e (fun c z=>by subst z;exact q) fun d ω1 v ok1 H1 e1 n1 P1 r1=> ?_;cases hd:toB d with
 |none=>rw[hd] at e1;cases e1
 |some k=>
  rw[hd] at e1;obtain rfl:=mU hd;refine⟨k,r1.bl_inv,?_⟩;cases k with
  |true=>exact KO ⟨ok1,ρ,ω1,r,ω',P1,e1,by
   cases r with
   |ok d=>exact fun v ok' H' n r=>q v ok' H' (n1.trans n) r
   |ex c=>exact exR.nw q n1⟩
  |false=>
   cases e1;exact KP (q _ ok1 H1 n1 (.bl false))
theorem Mz (ha:OE X cls E a fa):OE X cls E (.UnaryOp .Not a pos) (JI fa):=(LM ha).imp fun σ H Q ⟨ok,ρ,ω,r,ω',P,e,q⟩=>by
 refine tO.then_ P e (fun c z=>by subst z;exact q) fun d ω1 v ok1 H1 e1 n1 P1 r1=> ?_;obtain⟨y,e3,rfl⟩:=bW e1;obtain⟨ue3,rfl⟩:=cI e3;obtain⟨k,e4,rfl⟩:=aG (show(toB d).map _=v9 y from ue3);obtain rfl:=mU e4;exact⟨k,r1.bl_inv,q _ ok1 H1 n1 (.bl _)⟩
noncomputable def lM (ω:Om) (a b:D):Option (D×Om):=(dJ ω a).bind fun xs=>(dJ ω b).bind fun ys=>if xs.length+ys.length<=sizeLine then v9 (.lst (xs++ys),ω) else wb
theorem MI (ha:OE X cls E a fa) (hb:OE X cls E b fb):OE X cls E (.BinOp a .Add b pos) (o2 lM fa fb):=vH Mt (fun ok H ω x y a b d ω' Q h1 st ra rb e k=>by
 obtain⟨xs,e1,e⟩:=bind_some e;obtain⟨ys,e2,e⟩:=bind_some e;obtain⟨hz,e3⟩:=bE e;cases e3;obtain⟨a1,us,rfl,g1,r1⟩:=fZ st ra e1;obtain⟨b1,ws,rfl,g2,r2⟩:=fZ st rb e2;exact⟨a1,b1,us,ws,rfl,rfl,g1,g2,by rw[r1.length,r2.length];exact hz,fun p n=>k _ ok _ (.same h1 st (bX n)) (.lst_new (h1 p n) n (r1.append r2))⟩) ha hb
theorem Reps.rep {K:aa} (h:Reps K ok H vs ds):∀ k:Nat,Reps K ok H (aw k vs).flatten (aw k ds).flatten
 |0=>.nil
 |k+1=>by
  rw[d6,d6,iu,iu];exact h.append (Reps.rep h k)
noncomputable def GT (ω:Om) (a b:D):Option (D×Om):=(dJ ω a).bind fun xs=>(toI b).bind fun k=>if -1000000<=k/\k<=1000000/\xs.length*k.toNat<=sizeLine then v9 (.obj ω.length,ω++[.ml (aw k.toNat xs).flatten]) else wb
theorem Js (ha:OE X cls E a fa) (hb:OE X cls E b fb):OE X cls E (.BinOp a .Mult b pos) (o2 GT fa fb):=vH Ml (fun ok H ω x y a b d ω' Q h1 st ra rb e k=>by
 obtain⟨xs,e1,e⟩:=bind_some e;obtain⟨kk,e2,e⟩:=bind_some e;obtain⟨hz,e3⟩:=bE e;cases e3;obtain rfl:=xL e2;obtain⟨a1,us,rfl,g1,r1⟩:=fZ st ra e1;exact⟨a1,kk,us,rfl,rb.int_inv,g1,by omega,by omega,by rw[r1.length];exact hz.2.2,fun p n=>k _ _ _ (.ml h1 st n (r1.rep kk.toNat)) .new_obj⟩) ha hb
noncomputable def fO (ω:Om) (ds:List D):Option (D×Om):=match ds with
 |[d]=>match dJ ω d with
  |some xs=>v9 (.int xs.length,ω)
  |none=>pu (OU [d]) ω
 |_=>wb
theorem Hi {K:aa}:uH cls K (fun xs H Q=>∃ x n,xs=[x]/\Po K x H n/\Q (.int n) H) fO:=fun ok H ω xs as d ω' Q h1 st r e k=>by
 unfold fO at e;split at e
 ·split at e
  ·rename_i d0 ys hs
   cases e;obtain⟨v,rfl,r1⟩:=r.one_inv;obtain⟨a,us,rfl,g,rs⟩:=fZ st r1 hs;exact⟨_,_,rfl,.inl ⟨_,SqL.of g,rs.length.symm⟩,k _ ok H (.refl h1 st) (.int _)⟩
  ·exact FitL.lift (cls:=cls) Kn ok H ω xs _ d ω' Q h1 st r e k
 ·cases e
noncomputable def cO (ω:Om) (d:D):Option (List D):=match d with
 |.tup ds=>v9 ds
 |d=>dJ ω d
theorem BM {K:aa} (t:Stt cls K ok H ω) (r:Rep K ok H v d) (e:cO ω d=v9 ds):∃ a xs,v=.ref a/\(SqL K H a xs∨SqT K H a xs)/\Reps K ok H xs ds:=by
 cases d with
 |tup xs=>
  cases e;obtain⟨a,ys,rfl,g,rs⟩:=r.tup_inv;exact⟨a,ys,rfl,.inr g.sq,rs⟩
 |lst xs=>
  obtain⟨a,ys,rfl,g,rs⟩:=fZ t r (show dJ ω (.lst xs)=v9 ds from e);exact⟨a,ys,rfl,.inl (SqL.of g),rs⟩
 |obj n=>
  obtain⟨a,ys,rfl,g,rs⟩:=fZ t r (show dJ ω (.obj n)=v9 ds from e);exact⟨a,ys,rfl,.inl (SqL.of g),rs⟩
 |_=>cases e
noncomputable def iD (ω:Om) (ds:List D):Option (D×Om):=match ds with
 |[d]=>(cO ω d).map fun xs=>(.lst xs,ω)
 |_=>wb
theorem Ey {K:aa}:uH cls K (fun xs H Q=>∃ p ys,xs=[.ref p]/\(SqL K H p ys∨SqT K H p ys)/\∀ l,H l=wb->Q (.ref l) (upd H l (.lst ys))) iD:=fun ok H ω xs as d ω' Q h1 st r e k=>by
 unfold iD at e;split at e
 ·obtain⟨ys,e1,e2⟩:=aG e;cases e2;obtain⟨v,rfl,r1⟩:=r.one_inv;obtain⟨a,us,rfl,g,rs⟩:=BM st r1 e1;exact⟨a,us,rfl,g,fun l n=>k _ ok _ (.same h1 st (bX n)) (.lst_new (h1 l n) n rs)⟩
 ·cases e
noncomputable def Em (ω:Om) (ds:List D):Option (D×Om):=match ds with
 |[d]=>(dJ ω d).map fun xs=>(.tup xs,ω)
 |_=>wb
theorem GZ {K:aa}:uH cls K (fun xs H Q=>∃ p ys,xs=[.ref p]/\((SqL K H p ys/\∀ l,H l=wb->Q (.ref l) (upd H l (.tup ys)))∨(SqT K H p ys/\Q (.ref p) H))) Em:=fun ok H ω xs as d ω' Q h1 st r e k=>by
 unfold Em at e;split at e
 ·obtain⟨ys,e1,e2⟩:=aG e;cases e2;obtain⟨v,rfl,r1⟩:=r.one_inv;obtain⟨a,us,rfl,g,rs⟩:=fZ st r1 e1;exact⟨a,us,rfl,.inl ⟨SqL.of g,fun l n=>k _ ok _ (.same h1 st (bX n)) (.tup_new (h1 l n) n rs)⟩⟩
 ·cases e
noncomputable def Nb (ω:Om) (a:D) (lo hi:Option Int):Option D:=match dJ ω a with
 |some ds=>v9 (.lst (Ch ds lo hi))
 |none=>gSl a lo hi
noncomputable def oSl (f:OG D) (l u:DO):OG D:=oB f fun a ρ ω=>(l ρ).bind fun lo=>(u ρ).bind fun hi=>oR (pu (Nb ω a lo hi) ω)
theorem Gg {lo hi:Option bx} (he:OE X cls E e fa) (hl:DOp X lo l) (hu:DOp X hi u):OE X cls E (.Subscript e (.Slice lo hi wb p2) pos) (oSl fa l u):=(FX (sl_list.or Lj) he hl hu).imp fun σ H Q ⟨ok,ρ,ω,r,ω',P,e,q⟩=>by
 refine tO.then_ P e (fun c z=>by subst z;exact q) fun a ω1 v ok1 H1 e1 n1 P1 r1=> ?_;obtain⟨il,g1,e1⟩:=bind_some e1;obtain⟨ih,g2,e1⟩:=bind_some e1;obtain⟨d,e3,rfl⟩:=bW e1;obtain⟨ue3,rfl⟩:=cI e3;refine⟨ok1,ρ,il,P1.okh,P1.env,g1,fun H2 s2=>⟨ok1,ρ,ih,P1.okh.same s2,P1.env.same s2,g2,fun H3 s3=> ?_⟩⟩;have sx:=s2.trans s3;have ra:=r1.same sx;have st3:=P1.st.same sx;have okh:=P1.okh.same sx;have q':∀ v H',Same H3 H'->Rep X.K ok1 H' v d->Q v H':=fun v H' s r=>q v ok1 H' (n1.trans (.same P1.okh P1.st (sx.trans s))) r;unfold Nb at ue3;cases hs:dJ ω' a with
 |some ds=>
  rw[hs] at ue3;cases ue3;obtain⟨p,xs,rfl,g,rs⟩:=fZ st3 ra hs;exact .inl ⟨p,xs,rfl,SqL.of g,fun p' n=>q' _ _ (bX n) (.lst_new (okh p' n) n (rs.cut il ih))⟩
 |none=>
  rw[hs] at ue3;have ue4:gSl a il ih=v9 d:=ue3;cases a with
  |lst ds=>cases hs
  |scr ds=>
   cases ue4;obtain⟨p,xs,rfl,g,rs⟩:=ra.scr_inv;exact .inl ⟨p,xs,rfl,g.sq,fun p' n=>q' _ _ (bX n) (.lst_new (okh p' n) n (rs.cut il ih))⟩
  |tup ds=>
   have h3':(if HT.sIx ds.length 0 il=0/\HT.sIx ds.length ds.length ih=ds.length then wb else v9 (D.tup (Ch ds il ih)))=v9 d:=ue4;obtain⟨p,xs,rfl,g,rs⟩:=ra.tup_inv
   by_cases hw:HT.sIx ds.length 0 il=0/\HT.sIx ds.length ds.length ih=ds.length
   ·rw[if_pos hw] at h3';cases h3'
   ·rw[if_neg hw] at h3';cases h3';exact .inr ⟨p,xs,rfl,g.sq,by rw[rs.length];exact hw,fun p' n=>q' _ _ (bX n) (.tup_new (okh p' n) n (rs.cut il ih))⟩
  |_=>cases ue4
end
noncomputable def lS (T:String) (ω:Om) (d:D):Option Bool:=match dJ ω d with
 |some ds=>lL T (.lst ds)
 |none=>lL T d
noncomputable def JW (ω:Om) (d:D):Option Bool:=match dJ ω d with
 |some _=>v9 true
 |none=>if eN d=true then wb else v9 (match d with|.tup _=>true|_=>false)
theorem GD {K:aa} (h:eN d=false):PySem.W.kitAny K (.type (tyD d)) [.type "list",.type "tuple"]=v9 (match d with|.lst _=>true|.tup _=>true|_=>false):=by
 cases d <;> first|rfl|cases h
theorem Rep.wide {K:aa} (r:Rep K ok H v d):Rep K ⟨fun _=>True,ok.al⟩ H v d:=Rep.mono (ok:=ok) (ok':=⟨fun _=>True,ok.al⟩) (fun _ _ _ e=>⟨trivial,e⟩) (fun _ _ h=>h) r
theorem Reps.wide {K:aa} (r:Reps K ok H v d):Reps K ⟨fun _=>True,ok.al⟩ H v d:=Reps.mono (ok:=ok) (ok':=⟨fun _=>True,ok.al⟩) (fun _ _ _ e=>⟨trivial,e⟩) (fun _ _ h=>h) r
theorem nI {K:aa} (t:Stt cls K ok H ω) (r:Rep K ok H v d) (e:dJ ω d=v9 ds):Rep K ⟨fun _=>True,ok.al⟩ H v (.lst ds):=by
 obtain⟨a,xs,rfl,g,rs⟩:=fZ t r e;exact .lst ⟨trivial,g⟩ rs.wide
section
variable {X:Cx}{cls exC:Nat->af}{E:XE}{e a b c o i value:bx}{es rest:List bx}{fa fb fc fo fi fv:OG D}{fl:OG (List D)}{ft ft':OG Bool}{pos p apos pos' cpos:Pos}{x m:Str}{st:cx}
noncomputable def jL (T:String) (f:OG D):OG D:=oB f fun d _ ω=>oR (pu ((lS T ω d).map D.bl) ω)
theorem JV {K:aa} (t:Stt cls K ok H ω) (r:Rep K ok H v d) (e:lS T ω d=v9 k):∃ d',Rep K ⟨fun _=>True,ok.al⟩ H v d'/\lL T d'=v9 k:=by
 unfold lS at e;cases hs:dJ ω d with
 |some ds=>rw[hs] at e;exact⟨_,nI t r hs,e⟩
 |none=>rw[hs] at e;exact⟨d,r.wide,e⟩
theorem qV (he:OE X cls E e fa) (hg:Gl X "isinstance") (hm:X.mg "isinstance"=wb) (hgT:Gl X T) (hmT:X.mg T=wb) (hv:db T=v9 (.type Tn)) (hn:T≠"__name__":=by decide) (hdb:(T==("__debug__":Str))=false:=by decide)
  (h1:aq [e,.Name T p2] X.env=(false,eval e X.env)::aq [.Name T p2] X.env:=by rfl) (h2:aq [.Name T p2] X.env=(false,eval (.Name T p2) X.env)::aq [] X.env:=by rfl) (hpl:(de pos (aq [.Name T p2] X.env)).any (·.1)=false:=by rfl):
  OE X cls E (.Call (.Name "isinstance" p) [e,.Name T p2] [] pos) (jL Tn fa):=
 (mK HA hg hm (by decide+kernel) (gK he (gK (xU (v:=.ty Tn) hgT hmT hv rfl hn hdb) qT h2) h1) (by decide) (by decide) h1 hpl).imp fun σ H Q ⟨ok,ρ,ω,r,ω',P,e,q⟩=>by
  refine tO.then_ P e (fun c z=>by subst z;exact q) fun d ω1 v ok1 H1 e1 n1 P1 r1=> ?_;obtain⟨y,e3,rfl⟩:=bW e1;obtain⟨ue3,rfl⟩:=cI e3;obtain⟨k,e4,rfl⟩:=aG ue3;obtain⟨d',rd,e5⟩:=JV P1.st r1 e4;exact⟨v,Tn,d',_,k,rfl,rd,e5,q _ ok1 H1 n1 (.bl _)⟩
noncomputable def Oe (K:aa):List V->Hp->VK->Prop:=fun xs H Q=>∃ x t d ok,xs=[x,.ref t]/\H t=v9 (.tup [.ty "list",.ty "tuple"])/\Rep K ok H x d/\eN d=false/\Q (.bl (match d with|.lst _=>true|.tup _=>true|_=>false)) H
theorem Fe:CallR X (.builtin "isinstance") (Oe X.K):=by
 intro pins s σ H xs us Q I r h;obtain⟨x,t,d,ok,rfl,ht,q,e,hq⟩:=h;obtain⟨u,w',rfl,ru,rw'⟩:=CB r;cases rw';obtain⟨its,rt,⟨ot,t1,t2,n,t3⟩,_⟩:=I.tuple (show SqT X.K H t _ from .inl (.inl ht));have hit:its=[jo "list",jo "tuple"]:=by
  cases rt with
  |cons a1 b1=>cases b1 with
   |cons a2 b2=>cases b2;cases a1;cases a2;rfl
 subst hit;obtain⟨oc,od,odt,osl⟩:=ot;dsimp only at t2 t3;subst t2 t3;have fin:∀ tk,EP X pins σ Q (.bool (match d with|.lst _=>true|.tup _=>true|_=>false)) { s with toks:=tk }:=fun tk=>⟨.bl _,H,I.tok _,rfl,hq⟩;have ek:=GD (K:=X.K) e;cases q with
 |non=>cases ru;exact ki ur I.kIn gk t1 ek (fun z=>nomatch z) fin
 |bl b=>cases ru;exact ki ut I.kIn gk t1 ek (fun z=>nomatch z) fin
 |int i=>obtain⟨t',rfl⟩:=ru;exact ki u6 I.kIn gk t1 ek (fun z=>nomatch z) fin
 |str z=>obtain⟨t',rfl⟩:=ru;exact ki u7 I.kIn gk t1 ek (fun z=>nomatch z) fin
 |lst g r=>
  cases ru;obtain⟨its,_,⟨o,n,e1,c1,_,_⟩,_⟩:=I.list g.sq;exact ki uu I.kIn ⟨o,e1,c1⟩ t1 ek (fun z=>nomatch z) fin
 |tup g r=>
  cases ru;obtain⟨its,_,⟨o,e1,c1,_⟩,_⟩:=I.tuple g.sq;exact ki uf I.kIn ⟨o,e1,c1⟩ t1 ek (fun z=>nomatch z) fin
 |obj _=>cases e
 |scr _ _=>cases e
noncomputable def DC (f:OG D):OG D:=oB f fun d _ ω=>oR (pu ((JW ω d).map D.bl) ω)
theorem GG {K:aa} (t:Stt cls K ok H ω) (r:Rep K ok H v d) (e:JW ω d=v9 k):∃ d',Rep K ⟨fun _=>True,ok.al⟩ H v d'/\eN d'=false/\(match d' with|.lst _=>true|.tup _=>true|_=>false)=k:=by
 unfold JW at e;cases hs:dJ ω d with
 |some ds=>rw[hs] at e;cases e;exact⟨_,nI t r hs,rfl,rfl⟩
 |none=>
  rw[hs] at e;cases d with
  |lst ds=>cases hs
  |obj n=>cases e
  |scr n=>cases e
  |non=>cases e;exact⟨_,r.wide,rfl,rfl⟩
  |bl z=>cases e;exact⟨_,r.wide,rfl,rfl⟩
  |int z=>cases e;exact⟨_,r.wide,rfl,rfl⟩
  |str z=>cases e;exact⟨_,r.wide,rfl,rfl⟩
  |tup z=>cases e;exact⟨_,r.wide,rfl,rfl⟩
theorem JC (he:OE X cls E e fa) (hg:Gl X "isinstance") (hm:X.mg "isinstance"=wb) (hgL:Gl X "list") (hmL:X.mg "list"=wb) (hgT:Gl X "tuple") (hmT:X.mg "tuple"=wb)
  (h1:aq [e,.Tuple [.Name "list" p2,.Name "tuple" p3] k4 p4] X.env=(false,eval e X.env)::aq [.Tuple [.Name "list" p2,.Name "tuple" p3] k4 p4] X.env:=by rfl)
  (h2:aq [.Tuple [.Name "list" p2,.Name "tuple" p3] k4 p4] X.env=(false,eval (.Tuple [.Name "list" p2,.Name "tuple" p3] k4 p4) X.env)::aq [] X.env:=by rfl)
  (h3:aq [.Name "list" p2,.Name "tuple" p3] X.env=(false,eval (.Name "list" p2) X.env)::aq [.Name "tuple" p3] X.env:=by rfl) (h4:aq [.Name "tuple" p3] X.env=(false,eval (.Name "tuple" p3) X.env)::aq [] X.env:=by rfl)
  (hpl:(de pos (aq [.Tuple [.Name "list" p2,.Name "tuple" p3] k4 p4] X.env)).any (·.1)=false:=by rfl):
  OE X cls E (.Call (.Name "isinstance" p) [e,.Tuple [.Name "list" p2,.Name "tuple" p3] k4 p4] [] pos) (DC fa):=
 (mK Fe hg hm (by decide+kernel) (gK he (gK (HQ (gK (xU (v:=.ty "list") hgL hmL boot.list rfl) (gK (xU (v:=.ty "tuple") hgT hmT boot.tuple rfl) qT h4) h3)) qT h2) h1) (by decide) (by decide) h1 hpl).imp fun σ H Q ⟨ok,ρ,ω,r,ω',P,e,q⟩=>by
  refine tO.then_ P e (fun c z=>by subst z;exact q) fun d ω1 v ok1 H1 e1 n1 P1 r1=> ?_;obtain⟨y,e3,rfl⟩:=bW e1;obtain⟨ue3,rfl⟩:=cI e3;obtain⟨k,e4,rfl⟩:=aG ue3;refine⟨by show 2<=sizeLine;decide,fun t n=> ?_⟩;have n2:Nw cls X.K ok1 H1 ok1 (upd H1 t (.tup [.ty "list",.ty "tuple"])) ω':=.same P1.okh P1.st (bX n);obtain⟨d',rd,e5,e6⟩:=GG n2.st (r1.ex n2.ex) e4;refine⟨v,t,d',_,rfl,aM,rd,e5,?_⟩;rw[e6];exact q _ ok1 _ (n1.trans n2) (.bl _)
noncomputable def BN (ω:Om) (d:D):Bool:=match cellOf ω d with
 |some (.ml _)=>true
 |_=>false
theorem DX (h:BN ω d=true):∃ n ds,d=.obj n/\ω[n]?=v9 (.ml ds):=by
 unfold BN at h;split at h
 ·obtain⟨n,rfl,e⟩:=dF ‹_›;exact⟨n,_,rfl,e⟩
 ·cases h
noncomputable def vI (g:Om->D->List D->Option (D×Om)) (fo:OG D) (fl:OG (List D)):OG D:=oB fo fun d ρ ω=>if BN ω d=true then oB fl (fun ds _ ω=>oR (g ω d ds)) ρ ω else wb
noncomputable def Fu (cls:Nat->af) (K:aa) (r:V->List V->Hp->VK->Prop) (g:Om->D->List D->Option (D×Om)):Prop:=∀(ok:Okk) (H:Hp) (ω:Om) (x:V) (xs:List V) (a:D) (as:List D) (d:D) (ω':Om) (Q:VK),OkH ok H->Stt cls K ok H ω->Rep K ok H x a->Reps K ok H xs as->g ω a as=v9 (d,ω')->
 (∀ v ok' H',Nw cls K ok H ok' H' ω'->Rep K ok' H' v d->Q v H')->r x xs H Q
theorem Oy {id:String} (slot:Slot "list" m id) (hty:typeOf (.builtin id)=pure (.type "method_descriptor")) (hm:MtR X id r) (F:Fu cls X.K r g) (ho:OE X cls E o fo) (ha:OA X cls E (e::es) fl)
  (hbase:hV o m X.env (eval o X.env)=eval o X.env:=by rfl)
  (hfew:((de cpos (aq (e::es) X.env)).all (fun x=> !x.1)&&(jw cpos (ib [] X.env)).all (fun x=>x.1.isSome)
   &&decide ((e::es).length+([]:List j7).length+(if([]:List j7).isEmpty then 0 else 1)<30))=true:=by rfl)
  (hline:(apos.endLine==cpos.line)=true:=by rfl) (hs:aq (e::es) X.env=(false,eval e X.env)::aq es X.env:=by rfl) (hplain:(de cpos (aq es X.env)).any (·.1)=false:=by rfl):
  OE X cls E (.Call (.Attribute o m apos) (e::es) [] cpos) (vI g fo fl):=
 (LR PySem.F.plainAttrs_list slot hty hm ho ha hbase hfew hline hs hplain).imp fun σ H Q ⟨ok,ρ,ω,r,ω',P,e,q⟩=>by
  refine tO.then_ P e (fun c z=>by subst z;exact q) fun d ω1 v ok1 H1 e1 n1 P1 r1=> ?_;obtain⟨hi,e1⟩:=cJ e1;obtain⟨n,ds0,rfl,e2⟩:=DX hi;obtain⟨a,rfl,e4,xs,e5,rs⟩:=P1.st.ref r1 e2;refine⟨.inl ⟨rfl,xs,SqL.of e5⟩,?_⟩;refine tOA.then_ P1 e1 (fun c z=>by subst z;exact exR.nw q n1) fun ds ω2 us ok2 H2 e6 n2 P2 r2=> ?_;obtain⟨y,e7,rfl⟩:=bW e6;exact F ok2 H2 ω2 _ us _ ds y ω' Q P2.okh P2.st (r1.ex n2.ex) r2 e7 fun w ok3 H3 n3 r3=>q w ok3 H3 (n1.trans (n2.trans n3)) r3
noncomputable def Cd (ω:Om) (d:D) (as:List D):Option (D×Om):=match d,as with
 |.obj n,[v]=>match ω[n]? with
  |some (.ml ds)=>if ds.length<sizeLine then v9 (.non,ω.set n (.ml (ds++[v]))) else wb
  |_=>wb
 |_,_=>wb
theorem Ew (h:Cd ω d as=v9 (y,ω')):∃ n v ds,d=.obj n/\as=[v]/\ω[n]?=v9 (.ml ds)/\ds.length<sizeLine/\y=.non/\ω'=ω.set n (.ml (ds++[v])):=by
 unfold Cd at h;split at h
 ·split at h
  ·obtain⟨hz,e3⟩:=bE h;cases e3;exact⟨_,_,_,rfl,rfl,‹_›,hz,rfl,rfl⟩
  ·cases h
 ·cases h
theorem Kq {K:aa}:Fu cls K Dg Cd:=fun ok H ω x xs a as d ω' Q h1 st ra rs e k=>by
 obtain⟨n,v,ds,rfl,rfl,hc,hz,rfl,rfl⟩:=Ew e;obtain⟨a1,rfl,e4,us,e5,r5⟩:=st.ref ra hc;obtain⟨w,rfl,rw'⟩:=rs.one_inv;refine⟨a1,us,w,rfl,rfl,e5,by rw[r5.length];exact hz,?_⟩;exact k _ ok _ (Nw.write (o:=.lst (us++[w])) (ob:=.ml (ds++[v])) h1 st e4 e5 fun dat=>⟨_,aM,(r5.snoc rw').mono dat⟩) .non
theorem Dw (ho:OE X cls E o fo) (ha:OA X cls E [e] fl) (hbase:hV o "append" X.env (eval o X.env)=eval o X.env:=by rfl)
  (hfew:((de cpos (aq [e] X.env)).all (fun x=> !x.1)&&(jw cpos (ib [] X.env)).all (fun x=>x.1.isSome)
   &&decide ([e].length+([]:List j7).length+(if([]:List j7).isEmpty then 0 else 1)<30))=true:=by rfl)
  (hline:(apos.endLine==cpos.line)=true:=by rfl) (hs:aq [e] X.env=(false,eval e X.env)::aq [] X.env:=by rfl) (hplain:(de cpos (aq [] X.env)).any (·.1)=false:=by rfl):
  OE X cls E (.Call (.Attribute o "append" apos) [e] [] cpos) (vI Cd fo fl):=Oy rq PySem.F.type_list_append (fun pins s σ H x xs v us Q=>vM pins s σ H x xs v us Q) Kq ho ha hbase hfew hline hs hplain
end
theorem j9.get2:∀ {l:List α}{l':List β}{i:Nat}{b:β},j9 F l l'->l'[i]?=v9 b->∃ a,l[i]?=v9 a/\F a b
 |_,_,_,_,.nil,e=>by simp at e
 |_,_,0,_,.cons r _,e=>by simp at e;subst e;exact⟨_,rfl,r⟩
 |_,_,i+1,b,.cons _ t,e=>by
  obtain⟨a,h1,h2⟩:=j9.get2 (i:=i) (b:=b) t (by simpa using e);exact⟨a,by simpa using h1,h2⟩
section
variable {X:Cx}{pins:List (af×Obj)}{σ:St}{H:Hp}{s:am}{d:af}{kvs:List (List Key×V)}
theorem oW (I:Inv X pins σ H s) (e:Rd H d (.dT kvs)):(d==d9)=false/\kvs.length<=sizeLine/\∃ es ep,RawD s.heap d es ep/\es.size=kvs.length/\
  ∀(i:Nat) (y:kq),es[i]?=v9 y->∃ p,kvs[i]?=v9 p/\RelV p.2 y.val/\∃ a,y.key=.ref a/\H a=v9 (.tup (p.1.map kV)):=by
 obtain⟨z,lo,xs,pr,o,es,ep,h1,h2,h3,h4,h5⟩:=(show ObjOk X.prog X.w H s.heap d (.dT kvs) from e.ok I.hok);have hl:es.size=kvs.length:=by
  have:=congrArg k7 h4
  rw[ao,dr] at this;rw[this,<- iy pr]
 refine⟨lo,z,es,ep,⟨o,h1,h2,h3⟩,hl,fun i y hy=> ?_⟩;have hy':(xs.map (fk (b3 (aJ X.prog X.w))))[i]?=v9 y:=by rw[<- h4,g8];exact hy
 rw[az] at hy';obtain⟨q,q1,q2⟩:=aG hy';obtain⟨p,p1,p2,p3,p4⟩:=j9.get2 pr q1;subst q2;exact⟨p,p1,p4,q.2.1,rfl,p3⟩
end
noncomputable def KN (v d:af):HO:=.ext fun h=>h.IsValuesView v d
section
variable {X:Cx}{cls exC:Nat->af}{E:XE}{e a b c o i value:bx}{es rest:List bx}{fa fb fc fo fi fv:OG D}{fl:OG (List D)}{ft ft':OG Bool}{pos p apos pos' cpos:Pos}{x m:Str}{st:cx}
theorem DK:MtR X "dict.values" fun x xs H Q=>∃ d kvs,x=.ref d/\xs=[]/\H d=v9 (.dT kvs)/\∀ p,H p=wb->Q (.ref p) (upd H p (KN p d)):=by
 intro pins s σ H x xs v us Q I rx rs h;obtain⟨d,kvs,rfl,rfl,hd,q⟩:=h;cases rx;cases rs;obtain⟨lo,_,es,ep,r,_,_⟩:=oW I (.inl hd);refine Bz lo r ?_;have e1:(s.heap.push { cls:=.type "dict_values",data:=.fields #[.ref d] }).get? s.heap.objs.size=v9 { cls:=.type "dict_values",data:=.fields #[.ref d] }:=b0 _ rfl;refine⟨.ref _,_,I.laid (t':=s.toks) (fun b u q=>ay _ q) (bp _) ?_,rfl,q _ (I.hok.fresh (bp _))⟩;exact⟨⟨_,e1,rfl,rfl⟩,⟨_,e1⟩,fun h1 h2 z k=>let ⟨o,y1,y2⟩:=z;⟨o,k o y1,y2⟩⟩
theorem sS {a:af}{c:Nat} (r:Vals xs vs) (hz:xs.length<=sizeLine) (e:h.get? a=v9 (gp "list" vs.toArray c)):ObjOk P w H h a (.lst xs):=⟨hz,vs,c,r,e⟩
theorem xI (hl:vs.length=xs.length) (h:∀(j:Nat) (v:ag),vs[j]?=v9 v->∃ x,xs[j]?=v9 x/\RelV x v):Vals xs vs:=by
 induction vs generalizing xs with
 |nil=>
  cases xs with
  |nil=>exact .nil
  |cons _ _=>cases hl
 |cons v vs ih=>
  cases xs with
  |nil=>cases hl
  |cons x xs=>
   obtain⟨y,e,r⟩:=h 0 v rfl;simp at e;subst e;exact .cons r (ih (by simpa using hl) fun j u hu=>by simpa using h (j+1) u (by simpa using hu))
theorem wS (hc:X.calm=true):CallR X (.builtin "sorted") (fun xs H Q=>∃ v d kvs,xs=[.ref v]/\H v=v9 (KN v d)/\H d=v9 (.dT kvs)/\kvs.length<2/\∀ l,H l=wb->Q (.ref l) (upd H l (.lst (kvs.map (·.2))))):=by
 intro pins s σ H xs us Q I r h;obtain⟨v,d,kvs,rfl,hv,hd,hl,q⟩:=h;obtain⟨u,rfl,rx⟩:=lG r;cases rx;obtain⟨lo,hz,es,ep,rd,sz,it⟩:=oW I (.inl hd);have vw:s.heap.IsValuesView v d:=(show ObjOk X.prog X.w H s.heap v (KN v d) from I.hok v _ hv).1;refine nC (qL (d:=d) (es:=es) (ep:=ep)) (I.ok.hd hc) ⟨vw,rd⟩ (by rw[sz];exact hl) fun h' tk vs a c kp na hlen hP ha=> ?_;have rv:Vals (kvs.map (·.2)) vs:=xI (by rw[hlen,sz,ao]) fun j w hw=>by
  obtain⟨y,y1,y2⟩:=hP j w hw;obtain⟨p,p1,p2,_⟩:=it j y y1;exact⟨p.2,by rw[az,p1];rfl,by rw[y2];exact p2⟩
 obtain⟨hn,I'⟩:=I.laidN (t':=tk) kp na (sS (H:=upd H a (.lst (kvs.map (·.2)))) rv (by rw[ao];exact hz) ha);exact⟨.ref a,_,I',rfl,q a hn⟩
end
section
variable {X:Cx}{pins:List (af×Obj)}{σ:St}{H:Hp}{s:am}{d:af}{kvs:List (List Key×V)}{o:Obj}
theorem AR (x:HOk P w H h) (hd:H d=v9 u) (h1:∀ y,u≠ .own y) (h2:∀ ys,u≠ .tup ys) (new:ObjOk P w (upd H d u') h d u'):HOk P w (upd H d u') h:=fun b v e=>by
 by_cases hb:b=d
 ·subst hb;rw[aM] at e;cases e;exact new
 ·rw[aF hb] at e;exact(x b v e).stay (fun c q _ z=>z) (fun c q=>by rw[aF (fun z=>by rw[z,hd] at q;exact h1 _ (b8 q))];exact q) fun c xs q=>by rw[aF (fun z=>by rw[z,hd] at q;exact h2 _ (b8 q))];exact q
theorem AF (x:ObjOk P w H h b v) (hd:H d=v9 u) (h1:∀ y,u≠ .own y) (h2:∀ ys,u≠ .tup ys):ObjOk P w (upd H d u') h b v:=
 x.stay (fun c q _ z=>z) (fun c q=>by rw[aF (fun z=>by rw[z,hd] at q;exact h1 _ (b8 q))];exact q) fun c xs q=>by rw[aF (fun z=>by rw[z,hd] at q;exact h2 _ (b8 q))];exact q
theorem _root_.L2.Inv.frozen (I:Inv X pins σ H s) (hd:H d=v9 (.dT kvs)) (ho:s.heap.get? d=v9 o):Inv X pins σ (upd H d (.frz o (.dT kvs))) s:=by
 have nn:∀ b,H b=wb->upd H d (.frz o (.dT kvs)) b=wb:=fun b e=>by rw[aF (fun z=>by rw[z,hd] at e;cases e)];exact e
 refine⟨I.ok,I.os,I.bare,⟨I.base.keep,I.base.slot,fun b u e n x=>nn b (I.base.free b u e n x),I.base.there,fun b xs e=> ?_,fun b u v e=> ?_,fun b ps e=> ?_⟩,I.loc,I.cell,nn _ I.free,fun x c e=>nn _ (I.freeC x c e),fun p hp=> ?_,AR I.hok hd (fun _ z=>nomatch z) (fun _ z=>nomatch z) ⟨ho,AF (I.hok d _ hd) hd (fun _ z=>nomatch z) (fun _ z=>nomatch z)⟩,I.len⟩
 ·have z:=I.base.tups b xs e;rw[aF (fun q=>by rw[q,hd] at z;cases z)];exact z
 ·have z:=I.base.frzs b u v e;rw[aF (fun q=>by rw[q,hd] at z;cases z)];exact z
 ·obtain⟨m,z⟩:=I.base.tbls b ps e;exact⟨m,by rw[aF (fun q=>by rw[q,hd] at z;cases z)];exact z⟩
 ·obtain⟨z1,z2,z3⟩:=I.pin p hp;exact⟨z1,nn _ z2,z3⟩
theorem _root_.L2.Inv.thawed (I:Inv X pins σ H s) (hd:H d=v9 (.frz o (.dT kvs))) (hn:∀ o u,X.H₀ d≠v9 (.frz o u)):Inv X pins σ (upd H d (.dT kvs)) s:=by
 have nn:∀ b,H b=wb->upd H d (.dT kvs) b=wb:=fun b e=>by rw[aF (fun z=>by rw[z,hd] at e;cases e)];exact e
 refine⟨I.ok,I.os,I.bare,⟨I.base.keep,I.base.slot,fun b u e n x=>nn b (I.base.free b u e n x),I.base.there,fun b xs e=> ?_,fun b u v e=> ?_,fun b ps e=> ?_⟩,I.loc,I.cell,nn _ I.free,fun x c e=>nn _ (I.freeC x c e),fun p hp=> ?_,AR I.hok hd (fun _ z=>nomatch z) (fun _ z=>nomatch z) (AF (show ObjOk X.prog X.w H s.heap d (.dT kvs) from(I.hok d _ hd).2) hd (fun _ z=>nomatch z) (fun _ z=>nomatch z)),I.len⟩
 ·have z:=I.base.tups b xs e;rw[aF (fun q=>by rw[q,hd] at z;cases z)];exact z
 ·have z:=I.base.frzs b u v e;rw[aF (fun q=>hn u v (by rw[<- q];exact e))];exact z
 ·obtain⟨m,z⟩:=I.base.tbls b ps e;exact⟨m,by rw[aF (fun q=>by rw[q,hd] at z;cases z)];exact z⟩
 ·obtain⟨z1,z2,z3⟩:=I.pin p hp;exact⟨z1,nn _ z2,z3⟩
end
noncomputable def Itk (d:af) (o:Obj) (kvs:List (List Key×V)):It:=
 ⟨fun i H=>H d=v9 (.frz o (.dT kvs))/\i<kvs.length,fun i H x H'=>H'=H/\∃ b p,x=.ref b/\kvs[i]?=v9 p/\H b=v9 (.tup (p.1.map kV)),fun i H=>H d=v9 (.frz o (.dT kvs))/\kvs.length<=i⟩
theorem CI {K:aa} (d it:af) (o:Obj) (kvs:List (List Key×V)) (es:Array kq) (ep:Nat) (hod:o.data=.dict es ep) (hsz:es.size=kvs.length):KG P w K tg (Itk d o kvs) [it] it (fun i h=>h.IsKeyIter it d i es.size ep) where
 mem:=by simp
 obj:=fun i h st b hb=>by
  have e:b=it:=by simpa using hb
  subst e;obtain⟨o,e,c,d⟩:=st;exact⟨o,e,fun v z=>by rw[d] at z;cases z⟩
 keep:=fun i h h' st k=>let ⟨o,e,z⟩:=st;⟨o,k it (by simp) o e,z⟩
 item:=by
  intro X hP hw hK hc i pins s σ H E I hf st hg;subst hP hw hK;obtain⟨hd,hi⟩:=hg;obtain⟨f0,f1,f2,f3,f4,f5⟩:=hf it (by simp);obtain⟨lo,_,es',ep',⟨o',r1,r2,r3⟩,sz,its⟩:=oW I (.inr ⟨o,hd⟩);have ho:s.heap.get? d=v9 o:=(I.hok d _ hd).1;rw[ho] at r1;cases r1;rw[hod] at r3;cases r3;have hi':i<es.size:=by rw[hsz];exact hi
  obtain⟨p,p1,_,a,p2,p3⟩:=its i es[i] (by simp[hi']);refine vC (e:=es[i]) st ⟨o,ho,r2,hod⟩ (by simp[hi']) fun h' st' sb=> ?_;have I1:Inv X pins σ H { s with heap:=h' }:=I.turned (t':=s.toks) (fun b o hb e=>(sb.2 b hb).trans e) f0 f1 f3 f4 f5;obtain⟨oi,e1,c1,d1⟩:=id st';exact⟨_,rfl,GO (s:={ s with heap:=h' }) e1 c1 d1 (by decide) ⟨.ref a,H,I1,p2,⟨rfl,a,p,rfl,p1,p3⟩,st',fun b hb=>(hf b hb).1⟩⟩
 done:=by
  intro X hP hw hK hc i pins s σ H E I hf st hg;subst hP hw hK;obtain⟨hd,hi⟩:=hg;obtain⟨f0,f1,f2,f3,f4,f5⟩:=hf it (by simp);obtain⟨lo,_,es',ep',⟨o',r1,r2,r3⟩,sz,its⟩:=oW I (.inr ⟨o,hd⟩);have ho:s.heap.get? d=v9 o:=(I.hok d _ hd).1;rw[ho] at r1;cases r1;exact Ay (I.ok.hd hc) st ⟨o,ho,r2,hod⟩ (by rw[hsz];exact hi) fun h' eb=>⟨rfl,I.turned (t':=s.toks) (fun b o hb e=>eb b o hb e) f0 f1 f3 f4 f5⟩
 self:=fun _ _ _ _ _ st h=>sv st h
noncomputable def MY (H₀:Hp) (to:TE):TI:=fun σ H R=>to σ H fun x H1=>∃ d kvs,x=.ref d/\H1 d=v9 (.dT kvs)/\∀ o,(∀ o' u,H₀ d≠v9 (.frz o' u))->R (Itk d o kvs) (upd H1 d (.frz o (.dT kvs)))
section
variable {X:Cx}{cls exC:Nat->af}{E:XE}{e a b c o i value tg iter:bx}{es rest:List bx}{fa fb fc fo fi fv:OG D}{fl:OG (List D)}{ft ft':OG Bool}{pos p apos pos' cpos:Pos}{x m:Str}{st:cx}{body:List cx}{F:OS}
theorem IU (ho:PE X iter to):PI X tg iter (MY X.H₀ to):=by
 intro pins s σ H R I h;refine thn (ho pins s σ H _ I h) fun v s1 ⟨x,H1,I1,rx,d,kvs,ex,hd,q⟩=> ?_;subst ex;cases rx;obtain⟨lo,_,es,ep,⟨o,r1,r2,r3⟩,sz,its⟩:=oW I1 (.inl hd);have nf:∀ o' u,X.H₀ d≠v9 (.frz o' u):=fun o' u z=>by
  have:=I1.base.frzs d o' u z
  rw[hd] at this;cases this
 have I2:=I1.frozen hd r1;refine vD lo ⟨o,r1,r2,r3⟩ ?_;have nd:d≠s1.heap.objs.size:=cm (br r1);have hn:upd H1 d (.frz o (.dT kvs)) s1.heap.objs.size=wb:=by rw[aF (c5 nd)];exact I1.hok.fresh (bp _)
 refine⟨s1.heap.objs.size,[s1.heap.objs.size],_,Itk d o kvs,_,rfl,I2.kept (t':=s1.toks) (fun b u e=>ay _ e),CI d _ o kvs es ep r3 sz,⟨_,b0 _ rfl,rfl,rfl⟩,fun b hb=> ?_,q o nf⟩;have e:b=s1.heap.objs.size:=by simpa using hb
 subst e;exact(I1.fpOk (bp _) hn)
noncomputable def Kx (H₀:Hp) (D:Br):Br:={ nx:=fun σ H=>∃ d o kvs,H d=v9 (.frz o (.dT kvs))/\(∀ o' u,H₀ d≠v9 (.frz o' u))/\D.nx σ (upd H d (.dT kvs)),rt:=fun _ _=>False }
theorem IM (hp:PassesOwn (model X.prog X.w) X.A X.env X.xe) (hc:X.calm=true) (ho:PE X iter to) (hg:PG X tg g) (hb:PSs X body tb) (hs:∀ x,fm iter X.env x=pure x:=by intro _;rfl):
  PS X (.For tg iter body [] pos) (fun D σ H=>NT (MY X.H₀ to) g tb (Kx X.H₀ D) σ H):=fun pins s σ H D I h=>by
 refine thn (HP (pos:=pos) hp hc (IU ho) hg hb hs pins s σ H (Kx X.H₀ D) I h) fun f s' z=> ?_;cases f with
 |next=>
  obtain⟨σ',H',I',d,o,kvs,h1,h2,h3⟩:=z;exact⟨σ',_,I'.thawed h1 h2,h3⟩
 |brk=>obtain⟨_,_,_,q⟩:=z;exact q.elim
 |cont=>obtain⟨_,_,_,q⟩:=z;exact q.elim
 |ret u=>obtain⟨_,_,_,_,_,q⟩:=z;exact q.elim
noncomputable def bP (k:List Key):D:=.tup (k.map ofK)
noncomputable def qO:List (List Key×D)->List (List Key×D)->Bool
 |[],[]=>true
 |a::as,b::bs=>decide (a.1=b.1)&&fC a.2 b.2&&qO as bs
 |_,_=>false
theorem uX:∀ {a b:List (List Key×D)},qO a b=true->a=b
 |[],[],_=>rfl
 |[],_::_,h=>nomatch h
 |_::_,[],h=>nomatch h
 |a::as,b::bs,h=>by
  simp only[qO,bt,decide_eq_true_eq] at h;rw[uX h.2,show a=b from Prod.ext h.1.1 (Aw _ _ h.1.2)]
noncomputable def vT (n:Nat) (kvs:List (List Key×D)) (ω:Om):Bool:=match ω[n]? with
 |some (.dz k)=>qO k kvs
 |_=>false
theorem GI (h:vT n kvs ω=true):ω[n]?=v9 (.dz kvs):=by
 unfold vT at h;split at h
 ·rename_i k e
  rw[uX h] at e;exact e
 ·cases h
noncomputable def Cc (ω:Om) (d:D):Option (Nat×List (List Key×D)):=match d with
 |.obj n=>match ω[n]? with
  |some (.dt kvs)=>v9 (n,kvs)
  |_=>wb
 |_=>wb
theorem Ev (h:Cc ω d=v9 (n,kvs)):d=.obj n/\ω[n]?=v9 (.dt kvs):=by
 unfold Cc at h;split at h
 ·split at h
  ·cases h;exact⟨rfl,‹_›⟩
  ·cases h
 ·cases h
noncomputable def ID (fo:OG D) (bd:BR) (F:OS):OS:=oX fo fun d ρ ω=>(Cc ω d).bind fun p=>match cR bd (vT p.1 p.2) F (p.2.map fun kv=>bP kv.1) ρ (ω.set p.1 (.dz p.2)) with
 |some (.nx ρ',ω')=>if vT p.1 p.2 ω'=true then v9 (.nx ρ',ω'.set p.1 (.dt p.2)) else wb
 |_=>wb
theorem MT {K:aa} (k:Key):Rep K ok H (kV k) (ofK k):=by
 cases k with
 |inl i=>exact .int i
 |inr x=>exact .str x
theorem yE {K:aa}:∀ ks:List Key,Reps K ok H (ks.map kV) (ks.map ofK)
 |[]=>.nil
 |k::ks=>.cons (MT k) (yE ks)
end
section
variable {X:Cx}{cls exC:Nat->af}{E:XE}{e a b c o i value tg iter:bx}{es rest:List bx}{fa fb fc fo fi fv:OG D}{fl:OG (List D)}{ft ft':OG Bool}{pos p apos pos' cpos:Pos}{x m:Str}{st:cx}{body:List cx}{F:OS}
noncomputable def oIA (g:List D->Option (List D)) (f:OG (List D)):OI':=oB f fun ds _ ω=>oR (pu ((g ds).map fun xs=>(xs,bT)) ω)
theorem Du (hg:Gl X "range") (hm:X.mg "range"=wb) (ha:OA X cls E [a] fl) (hs:aq [a] X.env=[(false,eval a X.env)]:=by rfl):OI X cls E tg (.Call (.Name "range" p) [a] [] pos) (oIA kU fl):=
 PI.imp (Dl hg hm ha hs) fun σ H R ⟨ok,ρ,ω,r,ω',P,e,q⟩=>by
  refine tOA.then_ P e (fun c z=>by subst z;exact q) fun ds ω1 vs ok1 H1 e1 n1 P1 r1=> ?_;obtain⟨⟨dz,chk⟩,e3,rfl⟩:=bW e1;obtain⟨ue3,rfl⟩:=cI e3;obtain⟨xs,e4,e5⟩:=aG ue3;cases e5;unfold kU at e4;split at e4
  ·obtain⟨⟨hl,hh⟩,rfl⟩:=bE e4;obtain⟨v,rfl,rv⟩:=r1.one_inv;obtain rfl:=rv.int_inv;exact⟨_,rfl,by omega,by omega,q _ ok1 H1 n1 itD_range.toO⟩
  ·cases e4
end
noncomputable def iW (K:aa) (ns:List Str) (n:Nat):af:=match cu K ce (ns.getD n "") with
 |some (v9 (.ref a))=>a
 |_=>0
theorem mR {K:aa} (hx:ns.getD n ""=x) (h:cu K ce x=v9 (v9 (.ref a))):iW K ns n=a:=by
 unfold iW;rw[hx,h]
structure pN (P:c9) (w:df) (K:aa) (mg:Str->Option ag) (base:cz) (cls exC:Nat->af) (k:Nat) (x:Str) (ps:List Str) (φ:eK):Prop where
 ex:∃ f fd,qH P w K mg base (CX1 P w exC) k f fd ps (spO cls exC K φ)/\mg x=v9 (.ref f)/\fy K (.ref f)=true/\Binds K fd ps []
structure pM (P:c9) (w:df) (K:aa) (mg:Str->Option ag) (base:cz) (cls exC:Nat->af) (k c:Nat) (m:Str) (ps:List Str) (φ:eK):Prop where
 ex:∃ f fd,qH P w K mg base (CX1 P w exC) k f fd ps (spO cls exC K φ)/\HK K (cls c) m f/\Binds K fd ps []
 cl:Cls K (cls c)
structure NK (P:c9) (w:df) (K:aa) (mg:Str->Option ag) (base:cz) (cls exC:Nat->af) (k c:Nat) (x:Str) (ps:List Str) (φ:eK):Prop where
 ex:∃ f fd,qH P w K mg base (CX1 P w exC) k f fd ps (spO cls exC K φ)/\Mk K (cls c) f/\Binds K fd ps []
 at_:mg x=v9 (.ref (cls c))
section
variable {X:Cx}{cls exC:Nat->af}{E:XE}{e a b c o i value:bx}{es:List bx}{fa fb fo fi fv:OG D}{fl:OG (List D)}{pos p apos pos':Pos}{x m:Str}{cn k:Nat}{ps:List Str}{φ:eK}
theorem Gk (F:pN X.prog X.w X.K X.mg X.base cls exC k x ps φ) (hr:Room k X.A) (hg:Gl X x) (hx:Pas X exC E) (ha:OA X cls E (e::es) fl) (hdb:(x==("__debug__":Str))=false:=by decide)
  (he:aq (e::es) X.env=(false,eval e X.env)::aq es X.env:=by rfl) (hpl:(de pos (aq es X.env)).any (·.1)=false:=by rfl):OE X cls E (.Call (.Name x p) (e::es) [] pos) (bC φ fl):=by
 obtain⟨f,fd,h1,h2,h3,h4⟩:=F.ex;exact JF h1 hr hg h2 h3 h4 hx ha hdb he hpl
theorem Jz (F:pM X.prog X.w X.K X.mg X.base cls exC k cn m ps φ) (hr:Room k X.A) (hx:Pas X exC E) (ho:OE X cls E o fo) (ha:OA X cls E (e::es) fl)
  (hst:aq (e::es) X.env=(false,eval e X.env)::aq es X.env:=by rfl) (hpl:(de pos (aq es X.env)).any (·.1)=false:=by rfl)
  (ht:eval (.Call (.Attribute o m apos) (e::es) [] pos) X.env=(do
   let ov <- eval o X.env
   mj apos.atName
   let (f,first) <- holding [ov] (lu ov m pl)
   p0 pos f first (de pos (aq (e::es) X.env)) (jw pos (ib [] X.env))):=by rfl):
  OE X cls E (.Call (.Attribute o m apos) (e::es) [] pos) (aZ cn m φ fo fl):=by
 obtain⟨f,fd,h1,h2,h4⟩:=F.ex;exact Jy (pl:=pl) ho F.cl h2 h1 hr h4 hx ha hst hpl ht
theorem Gi (F:pM X.prog X.w X.K X.mg X.base cls exC k cn m ps φ) (hr:Room k X.A) (hx:Pas X exC E) (ho:OE X cls E o fo)
  (ht:eval (.Call (.Attribute o m apos) [] [] pos) X.env=(do
   let ov <- eval o X.env
   mj apos.atName
   let (f,first) <- holding [ov] (lu ov m pl)
   p0 pos f first (de pos (aq [] X.env)) (jw pos (ib [] X.env))):=by rfl):
  OE X cls E (.Call (.Attribute o m apos) [] [] pos) (aZ cn m φ fo aK):=by
 obtain⟨f,fd,h1,h2,h4⟩:=F.ex;exact Gh (pl:=pl) ho F.cl h2 h1 hr h4 hx ht
theorem JB (F:NK X.prog X.w X.K X.mg X.base cls exC k cn x ps φ) (hr:Room (k+1) X.A) (hg:Gl X x) (hx:Pas X exC E) (ha:OA X cls E (e::es) fl) (hdb:(x==("__debug__":Str))=false:=by decide)
  (he:aq (e::es) X.env=(false,eval e X.env)::aq es X.env:=by rfl) (hpl:(de pos (aq es X.env)).any (·.1)=false:=by rfl):OE X cls E (.Call (.Name x p) (e::es) [] pos) (pT cn φ fl):=by
 obtain⟨f,fd,h1,h2,h3⟩:=F.ex;exact JA h2 h1 hr hg F.at_ h3 hx ha hdb he hpl
end
theorem boot.dict:db "dict"=v9 (.type "dict"):=by decide+kernel
theorem JQ {K:aa}{ns:List Int} (h:φ [.scr (ns.map D.int)] []=v9 (.ok (.bl true),ω')) (hS:SqL K H a (ns.map V.int)):spO cls exC K φ [.ref a] H (fun v _=>v=.bl true) fun _ _ _=>False:=by
 refine⟨Okk.all,[],[.scr (ns.map D.int)],.ok (.bl true),ω',⟨fun _ _=>trivial,fun _ _ _=>trivial⟩,⟨fun n ob e=>by simp at e,(fun _ _ e=>nomatch e),(fun _ _ _ e=>nomatch e),(fun _ _ e=>nomatch e)⟩,.cons (.scr ?_ (Reps.ints ns)) .nil,h,fun v ok' H' _ r=>r.bl_inv⟩;rcases hS with h|h
 ·exact .inl ⟨trivial,h⟩
 ·exact .inr h
theorem law_walkO {l:vj}{K:Params->aa} (hn:l.most=v9 63) (hdf:d.params.defaults=[]) (hr:Room k om)
  (hY:∀(w:df) (h:cz),YP w h->(K w.params).In h) (hφ:∀ ns:List Int,ns.length<=63->∃ ω',φ [.scr (ns.map D.int)] []=v9 (.ok (.bl true),ω'))
  (F:∀(w:df) (mg:Str->Option ag) (fa:af) (h:cz),(K w.params).In h->h.Ns ce mg->mg d.name=v9 (.ref fa)->
   ∃ fd:jk,(∀(s:am) (u:ag),rn s fd ⟨[u],[]⟩ [(x,u)])/\∀ base:cz,(K w.params).In base->base.Ns ce mg->qH l.prog w (K w.params) mg base (CX1 l.prog w (iW (K w.params) es)) k fa fd [x] (spO (iW (K w.params) cs) (iW (K w.params) es) (K w.params) φ)):
  v4 q loose XP YP l.row.toRowW d [] (fun f vs=>vh f vs):=
 L2.walk_of (n:=63) (k:=k) (x:=x) (CX:=fun w=>CX1 l.prog w (iW (K w.params) es)) (sp:=fun w=>spO (iW (K w.params) cs) (iW (K w.params) es) (K w.params) φ) hn (by decide) hdf hr hY F (fun _ _ a ns hl _ hS=>let ⟨_,h⟩:=hφ ns hl;JQ h hS) fun _ _ _ _ _ ⟨_,_,_,_,_,_,_,_,_,_,z⟩=>z
section
variable {α β:Type}{f h:OG D}{fl:OG (List D)}{ρ:Rho}{ω ω1 ω2 ω3:Om}{a b d:D}{ds:List D}{F G:OS}
theorem bB {f:OG α}{g:α->OG β} (e:f ρ ω=v9 (.ok x,ω1)):oB f g ρ ω=g x ρ ω1:=by unfold oB;rw[e]
theorem cV {f:OG α} (e:f ρ ω=v9 (.ok x,ω1)):oX f g ρ ω=g x ρ ω1:=by unfold oX;rw[e]
theorem OD {f:DF} (e:f ρ=v9 d):oP f ρ ω=v9 (.ok d,ω):=by unfold oP;rw[e];rfl
theorem aB (e:ρ[i]?=v9 (v9 d)):oP (aD i) ρ ω=v9 (.ok d,ω):=OD (by unfold aD;rw[e];rfl)
theorem aV:oP (dC d) ρ ω=v9 (.ok d,ω):=rfl
theorem gB (e1:f ρ ω=v9 (.ok a,ω1)) (e2:h ρ ω1=v9 (.ok b,ω2)) (e3:g ω2 a b=v9 (d,ω3)):o2 g f h ρ ω=v9 (.ok d,ω3):=by
 unfold o2;rw[bB e1,bB e2];show oR (g ω2 a b)=_;rw[e3];rfl
theorem fH (e1:f ρ ω=v9 (.ok a,ω1)) (e2:h ρ ω1=v9 (.ok b,ω2)) (e3:g a b=v9 d):o2 (lf g) f h ρ ω=v9 (.ok d,ω2):=gB e1 e2 (by show pu (g a b) ω2=_;rw[e3];rfl)
theorem aE:aK ρ ω=v9 (.ok [],ω):=rfl
theorem aA (e1:f ρ ω=v9 (.ok a,ω1)) (e2:fl ρ ω1=v9 (.ok ds,ω2)):aC f fl ρ ω=v9 (.ok (a::ds),ω2):=by
 unfold aC;rw[bB e1,bB e2]
theorem eX (e1:fl ρ ω=v9 (.ok ds,ω1)) (e2:g ω1 ds=v9 (d,ω2)):oL g fl ρ ω=v9 (.ok d,ω2):=by
 unfold oL;rw[bB e1];show oR (g ω1 ds)=_;rw[e2];rfl
theorem aQ (e1:fl ρ ω=v9 (.ok ds,ω1)) (e2:φ ds ω1=v9 (r,ω2)):bC φ fl ρ ω=v9 (r,ω2):=by
 unfold bC;rw[bB e1];exact e2
theorem aN (e:f ρ ω=v9 (.ok d,ω1)):aH (aW i f) G ρ ω=G (ρ.set i (v9 d)) ω1:=by
 unfold aH aW;rw[cV e]
theorem bG (e:F ρ ω=v9 (.nx ρ1,ω1)):aH F G ρ ω=G ρ1 ω1:=by
 unfold aH;rw[e]
theorem bZ (e:f ρ ω=v9 (.ok (.bl k),ω1)):cS f ρ ω=v9 (.ok k,ω1):=by
 unfold cS;rw[bB e];rfl
theorem uZ (e:t ρ ω=v9 (.ok true,ω1)):dU t F G ρ ω=F ρ ω1:=by unfold dU;rw[cV e];rfl
theorem nM (e:t ρ ω=v9 (.ok false,ω1)):dU t F G ρ ω=G ρ ω1:=by unfold dU;rw[cV e];rfl
theorem bA (e:f ρ ω=v9 (.ok d,ω1)):aS f ρ ω=v9 (.rt d,ω1):=by unfold aS;rw[cV e]
theorem aT (hl:ds.length=n) (e:G (cD N ds) ω=v9 (.rt d,ω1)):eA n N G ds ω=v9 (.ok d,ω1):=by
 unfold eA;rw[if_pos hl,e]
theorem Nd (h: -1000000000000000000<j/\j<1000000000000000000):iC (.int i) (.int j)=v9 (.int (i*j)):=by
 show(if _ then _ else _)=_
 rw[if_pos (.inr h)]
theorem Nf (h:0<j):cC (.int i) (.int j)=v9 (.int (i % j)):=by
 show(if _ then _ else _)=_
 rw[if_pos h]
end
section
variable {X:Cx}{cls exC:Nat->af}{E:XE}{e a b c o i value tg iter:bx}{es rest:List bx}{fa fb fc fo fi fv:OG D}{fl:OG (List D)}{ft ft':OG Bool}{pos p apos pos' cpos:Pos}{x m:Str}{st:cx}{body:List cx}{F:OS}
theorem Nw.freeze {K:aa}{a:af} (P:OkH ok H) (st:Stt cls K ok H ω) (e:ok.al n=v9 a) (h:H a=v9 (.dT vs)) (kv:KvR K ok H vs kvs):
  Nw cls K ok H ok (upd H a (.frz oo (.dT vs))) (ω.set n (.dz kvs)):=Nw.write P st e h fun dat=>⟨oo,vs,aM,kv.mono dat fun _ _ z=>z⟩
theorem OM {K:aa}{a:af} (e:ok1.al n=v9 a) (h:H1 a=v9 (.frz oo (.dT vs))) (kv:KvR K ok1 H1 vs kvs):
  ItO cls K ok1 H1 (vT n kvs) (Itk a oo vs) (kvs.map fun kv=>bP kv.1):=by
 refine⟨fun i ok H ω nw _ hi=>⟨nw.ex.frz _ _ _ h,by rw[kv.length];simpa using hi⟩,fun i ok H ω x H' d nw _ y hd=> ?_,fun i ok H ω nw _ hi=>⟨nw.ex.frz _ _ _ h,by rw[kv.length];simpa using hi⟩⟩;obtain⟨rfl,b,p,rfl,hp,ht⟩:=y;refine⟨Same.refl _,?_⟩;have hk:=kv.keys;have e1:(vs.map (·.1))[i]?=v9 p.1:=by rw[az,hp];rfl
 rw[hk,az] at e1;obtain⟨q,e2,e3⟩:=aG e1;rw[az,e2] at hd;cases hd;show Rep K ok _ _ (bP q.1);rw[e3];exact .tup ⟨nw.okh.tp b _ ht,ht⟩ (yE p.1)
theorem Nw.thaw {K:aa}{a:af} (st1:Stt cls K ok1 H1 ω1) (e:ok1.al n=v9 a) (h:H1 a=v9 (.dT vs)) (nw:Nw cls K ok1 (upd H1 a (.frz oo (.dT vs))) ok H ω) (hc:ω[n]?=v9 (.dz kvs)):
  ∃ ws,H a=v9 (.frz oo (.dT ws))/\ws=vs/\Nw cls K ok1 H1 ok (upd H a (.dT vs)) (ω.set n (.dt kvs)):=by
 have hf:H a=v9 (.frz oo (.dT vs)):=nw.ex.frz _ _ _ aM;have ea:=nw.ex.ids n a e;obtain⟨b,e1,o',vs',e2,kv⟩:=nw.st.cell n _ hc;rw[ea] at e1;cases e1;rw[hf] at e2;cases e2;have na:¬ ok1.p a:=st1.nok n a e;have na':¬ ok.p a:=nw.st.nok n a ea;have dat:∀ b o,ok.p b->H b=v9 o->ok.p b/\upd H a (.dT vs) b=v9 o:=fun b o k z=>⟨k,by rw[aF (show b≠a from fun w=>na' (w ▸ k))];exact z⟩;refine⟨vs,hf,rfl,⟨⟨fun b o k z=> ?_,nw.ex.ids,fun b o z w=> ?_,fun m b z=> ?_,fun b z=> ?_,fun b k=> ?_,fun b x u z=> ?_⟩,⟨fun b z=> ?_,fun b xs z=> ?_⟩,fun m ob z=> ?_,fun m b z=>by rw[c6];exact nw.st.dom m b z,nw.st.inj,nw.st.nok⟩⟩
 ·have hb:b≠a:=fun w=>na (w ▸ k)
  have:=nw.ex.dat b o k (by rw[aF hb];exact z)
  exact⟨this.1,by rw[aF hb];exact this.2⟩
 ·have hb:b≠a:=fun q=>w n (q ▸ e);rw[aF hb];exact nw.ex.frm b o (by rw[aF hb];exact z) w
 ·rcases nw.ex.new m b z with w|w
  ·exact .inl w
  ·by_cases hb:b=a
   ·rw[hb,aM] at w;cases w
   ·rw[aF hb] at w;exact .inr w
 ·by_cases hb:b=a
  ·rw[hb,aM] at z;cases z
  ·rw[aF hb] at z
   have:=nw.ex.keep b z
   rw[aF hb] at this;exact this
 ·rcases nw.ex.sub b k with w|w
  ·exact .inl w
  ·by_cases hb:b=a
   ·rw[hb,aM] at w;cases w
   ·rw[aF hb] at w;exact .inr w
 ·have hb:b≠a:=fun w=>by rw[w,h] at z;cases z
  rw[aF hb];exact nw.ex.frz b x u (by rw[aF hb];exact z)
 ·by_cases hb:b=a
  ·rw[hb,aM] at z;cases z
  ·rw[aF hb] at z;exact nw.okh b z
 ·by_cases hb:b=a
  ·rw[hb,aM] at z;cases z
  ·rw[aF hb] at z;exact nw.okh.tp b xs z
 ·rcases qN z with⟨rfl,rfl⟩|⟨hm,z⟩
  ·exact⟨a,ea,vs,aM,kv.mono dat fun _ _ z=>z⟩
  ·obtain⟨b,e1,c1⟩:=nw.st.cell m ob z;refine⟨b,e1,c1.mono dat (fun _ _ z=>z) fun u q=> ?_⟩;rw[aF (show b≠a from fun w=>hm (nw.st.inj m n a (w ▸ e1) ea))];exact q
theorem Ji (hc:X.calm=true) (ho:OE X.nox cls EF iter fo) (hg:PG X.nox tg (gR X.K bd)) (hb:OSs X.nox cls EF body F) (hs:∀ x,fm iter X.env x=pure x:=by intro _;rfl):
  OSt X cls E (.For tg iter body [] pos) (sNx (ID fo bd F)):=HX ((IM (X:=X.nox) vm hc ho hg hb hs).imp fun D σ H ⟨ok,ρ,ω,oo,ω',P,e,q⟩=>by
 refine tO.thenS P e q fun d ω1 v ok1 H1 e1 n1 P1 r1 q1=> ?_;obtain⟨⟨n,kvs⟩,hd,e2⟩:=bind_some e1;obtain⟨rfl,e3⟩:=Ev hd;obtain⟨a,rfl,e4,vs,e5,kv⟩:=P1.st.ref r1 e3;refine⟨a,vs,rfl,e5,fun o nf=> ?_⟩;have nf1:Nw cls X.K ok1 H1 ok1 (upd H1 a (.frz o (.dT vs))) (ω1.set n (.dz kvs)):=.freeze P1.okh P1.st e4 e5 kv;dsimp only at e2;split at e2
 ·rename_i ρ' ω2 hF
  obtain⟨hz,e6⟩:=bE e2;cases e6;refine Ba (D:=Kx X.H₀ D) (OM e4 aM (kv.mono nf1.ex.dat nf1.ex.ids)) (P1.nw nf1) hF fun ok2 H2 σ2 nw2 env2 len2=> ?_;obtain⟨ws,w1,rfl,nw3⟩:=Nw.thaw P1.st e4 e5 nw2 (GI hz);refine⟨a,o,ws,w1,nf,q1 ok2 _ σ2 nw3 ?_ len2⟩;intro j dj ej;obtain⟨u,z1,z2⟩:=env2 j dj ej;refine⟨u,z1,z2.mono (fun b u' k z=>⟨k,?_⟩) fun _ _ z=>z⟩;rw[aF (show b≠a from fun w=>nw2.st.nok n a (nw2.ex.ids n a e4) (w ▸ k))];exact z
 ·cases e2)
end
end L2.MB
end
section
namespace L2.MB
open PySem PySem.Spec PyProof.Rows PySem.Builtin
theorem nodup_ix {xs:List (α×β)} (h:(xs.map (·.1)).Nodup) {i j:Nat} (h1:xs[i]?=v9 (k,p)) (h2:xs[j]?=v9 (k,q)):i=j:=by
 have a1:(xs.map (·.1))[i]?=v9 k:=by rw[az,h1];rfl
 have a2:(xs.map (·.1))[j]?=v9 k:=by rw[az,h2];rfl
 exact(List.getElem?_inj (bg.mp a1).1 h).mp (a1.trans a2.symm)
theorem Dj (d b:af):MeetsIn P w («dict.pop» { pos:=[.ref d,.ref b] }) fun A R s=>
  A.units+1<dn/\∃(xs:List (List Key×af×ag)) (j:Nat) (p:af×ag),ie (b3 (aJ P w)) s.heap d xs/\xs.length<=sizeLine/\(b3 (aJ P w)).is s.heap k b/\xs[j]?=v9 (k,p)/\
   ∀ h' t,ie (b3 (aJ P w)) h' d (xs.eraseIdx j)->en d s.heap h'->R (.ok (.ret p.2)) { s with heap:=h',toks:=t }:=by
 rintro A R s ⟨hu,xs,j,p,dd,hz,hk,hj,hR⟩;obtain⟨o,es,ep,h1,h2,h3,h4,h5,h6⟩:=dd;obtain⟨oc,od,odt,osl⟩:=o;obtain⟨q1,q2,q3⟩:=h2;dsimp only at q1 q2 q3 h3;subst q1 q2 q3 h3;have hne:es.isEmpty=false:=by
  have:es.toList≠[]:=by
   rw[h4];intro z;rw[List.map_eq_nil_iff] at z;rw[z] at hj;simp at hj
  cases q:es.isEmpty with
  |false=>rfl
  |true=>rw[mr] at q;rw[q] at this;exact absurd rfl this
 have hr:(b3 (aJ P w)).room A.in1:=kc hu;have hes:es[j]?=v9 (fk (b3 (aJ P w)) (k,p)):=by
  rw[<- g8,h4,az,hj];rfl
 unfold «dict.pop» Dict.keyAndDefault
 repeat (first|with_reducible refine HeapKind.pyHash (b3 (aJ P w)) hr hk ?_|(with_reducible refine tq hr hk h1 rfl h4 h5 h6 (fun z=>absurd hj (z j p)) fun i q hi=> ?_)|wp_step)
 obtain rfl:=nodup_ix h6 hj hi;rw[hes]
 repeat (first|(with_reducible refine sw h1 rfl ?_ ?_ ?_)|wp_step)
 ·have sb:en d s.heap (s.heap.update d (qo fun x=>x.eraseIdxIfInBounds j)):=⟨ng _ _ _,fun b hb=>d4 _ _ (c5 hb)⟩;refine hR _ _ ⟨_,es.eraseIdxIfInBounds j,ep+1,fz _ h1 ?_,⟨rfl,rfl,rfl⟩,rfl,?_,fun x hx=>(b3 (aJ P w)).keeps (h5 x (List.mem_of_mem_eraseIdx hx)) h1 rfl sb,?_⟩ sb
  ·rfl
  ·have em:∀(l:List (List Key×af×ag)) (n:Nat),(l.eraseIdx n).map (fk (b3 (aJ P w)))=(l.map (fk (b3 (aJ P w)))).eraseIdx n:=fun l=>by
    induction l with
    |nil=>intro n;rfl
    |cons x r ih=>intro n;cases n with
     |zero=>rfl
     |succ n=>simp[ih n]
   rw[em,<- h4];unfold Array.eraseIdxIfInBounds;split
   ·simp
   ·rename_i hn
    rw[List.eraseIdx_of_length_le (by simpa using hn)]
  ·exact h6.sublist ((List.eraseIdx_sublist xs j).map _)
 ·have:=congrArg k7 h4
  rw[ao,dr] at this;rw[this];exact hz
 ·have:=PySem.size_eraseIdxIfInBounds_le es j
  omega
theorem lX {α β:Type} [DecidableEq α] {k:α}{p:β}:∀ {xs:List (α×β)}{j:Nat},(xs.map (·.1)).Nodup->xs[j]?=v9 (k,p)->xs.eraseIdx j=xs.filter fun x=>decide (x.1≠k)
 |[],j,_,h=>by simp at h
 |x::r,0,nd,h=>by
  have h':x=(k,p):=by simpa using h
  subst h';rw[bq,b9] at nd;rw[List.eraseIdx_cons_zero,du (by simp)]
  symm
  rw[tu];intro a ha
  have:a.1≠k:=fun z=>nd.1 (av.mpr ⟨a,ha,z⟩)
  simpa using this
 |x::r,j+1,nd,h=>by
  rw[bq,b9] at nd;have h':r[j]?=v9 (k,p):=by simpa using h
  have hm:k∈r.map (·.1):=av.mpr ⟨_,eu h',rfl⟩;have hx:x.1≠k:=fun z=>nd.1 (z ▸ hm);rw[List.eraseIdx_cons_succ,dw (by simpa using hx),lX nd.2 h']
theorem KT.drop (r:KT H kvs xs) (k:List Key):KT H (wJ kvs k) (xs.filter fun x=>decide (x.1≠k)):=by
 induction r with
 |nil=>exact .nil
 |@cons p q ps qs h t ih=>
  unfold wJ at ih ⊢
  by_cases e:p.1=k
  ·have e':q.1=k:=h.1.symm.trans e;rw[du (by simp[e]),du (by simp[e'])];exact ih
  ·have e':¬ q.1=k:=fun z=>e (h.1.trans z);rw[dw (by simp[e]),dw (by simp[e'])];exact .cons h ih
theorem HB {k:List Key} (h:kt xs k=v9 p):∃ j:Nat,xs[j]?=v9 (k,p):=by
 unfold kt at h;obtain⟨q,e1,e2⟩:=aG h;have m:=pp e1;have e3:=vo e1;obtain⟨j,hj⟩:=jq m;refine⟨j,?_⟩;rw[hj]
 have:q.1=k:=by simpa using e3
 rw[<- this,<- e2]
section
variable {X:Cx}{pins:List (af×Obj)}{σ:St}{H:Hp}{s:am}{a b:af}{kvs:List (List Key×V)}{k:List Key}{A:di}{E:ag->am->Prop}
theorem Nv (hu:A.units+1<dn) (I:Inv X pins σ H s) (e:H a=v9 (.dT kvs)) (eb:H b=v9 (.tup (k.map kV))) (l:uL kvs k=v9 v)
  (h:∀ w' s',Inv X pins σ (upd H a (.dT (wJ kvs k))) s'->RelV v w'->Q w' s'):ax (model X.prog X.w) A (call (.builtin "dict.pop") [.ref a,.ref b]) Q E s:=by
 obtain⟨z,hd,xs,rel,dd⟩:=Ho I.hok e;obtain⟨w',hw,rw'⟩:=RelO.some_of (v:=v) (o:=(kt xs k).map (·.2)) (by rw[<- l];exact rel.val k);obtain⟨p,hp,hp2⟩:=mw.mp hw;obtain⟨j,hj⟩:=HB hp;have hz:xs.length<=sizeLine:=by rw[<- iy rel];exact z
 have nd:(xs.map (·.1)).Nodup:=by obtain⟨_,_,_,_,_,_,_,_,q⟩:=dd;exact q
 refine ui sh dd.typeIs PySem.F.entry_dict_pop (PySem.F.args_dict_pop_2 _ _) (Dj (k:=k) a b) ⟨hu,xs,j,p,dd,hz,vP I.hok eb,hj,fun h' t dd' hs=>h p.2 _ ?_ (hp2 ▸ rw')⟩;rw[lX nd hj] at dd';obtain⟨q,es,ep,hq,h2,h3,h4,_,h5⟩:=dd';refine tM I (by rw[e];exact gk) hs ⟨q,hq⟩ ⟨ci (Hs kvs k) z,hd,_,KT.keeps (KT.drop rel k) fun c ys ec=> ?_,q,es,ep,hq,h2,h3,h4,h5⟩;rw[aF (JL ec e (fun z=>nomatch z))];exact ec
noncomputable def Lu:V->List V->Hp->VK->Prop:=fun x xs H Q=>∃ a b kvs k v,x=.ref a/\xs=[.ref b]/\H a=v9 (.dT kvs)/\H b=v9 (.tup (k.map kV))/\uL kvs k=v9 v/\Q v (upd H a (.dT (wJ kvs k)))
theorem JO (hu:X.A.units+1<dn):MtR X "dict.pop" Lu:=by
 intro pins s σ H x xs v us Q I rx rs h;obtain⟨a,b,kvs,k,y,rfl,rfl,ha,hb,l,q⟩:=h;obtain⟨u,rfl,ru⟩:=lG rs;cases rx;cases ru;exact Nv hu I ha hb l fun w' s' I' r=>⟨y,_,I',r,q⟩
end
section
variable {X:Cx}{cls exC:Nat->af}{E:XE}{e a b c o i value:bx}{es rest:List bx}{fa fb fc fo fi fv:OG D}{fl:OG (List D)}{ft ft':OG Bool}{pos p apos pos' cpos:Pos}{x m:Str}{st:cx}
noncomputable def BQ (ω:Om) (d:D):Bool:=match cellOf ω d with
 |some (.dt _)=>true
 |_=>false
theorem DY (h:BQ ω d=true):∃ n kvs,d=.obj n/\ω[n]?=v9 (.dt kvs):=by
 unfold BQ at h;split at h
 ·obtain⟨n,rfl,e⟩:=dF ‹_›;exact⟨n,_,rfl,e⟩
 ·cases h
noncomputable def nS (g:Om->D->List D->Option (D×Om)) (fo:OG D) (fl:OG (List D)):OG D:=oB fo fun d ρ ω=>if BQ ω d=true then oB fl (fun ds _ ω=>oR (g ω d ds)) ρ ω else wb
theorem MD {id:String} (slot:Slot "dict" m id) (hty:typeOf (.builtin id)=pure (.type "method_descriptor")) (hm:MtR X id r) (F:Fu cls X.K r g) (ho:OE X cls E o fo) (ha:OA X cls E (e::es) fl)
  (hbase:hV o m X.env (eval o X.env)=eval o X.env:=by rfl)
  (hfew:((de cpos (aq (e::es) X.env)).all (fun x=> !x.1)&&(jw cpos (ib [] X.env)).all (fun x=>x.1.isSome)
   &&decide ((e::es).length+([]:List j7).length+(if([]:List j7).isEmpty then 0 else 1)<30))=true:=by rfl)
  (hline:(apos.endLine==cpos.line)=true:=by rfl) (hs:aq (e::es) X.env=(false,eval e X.env)::aq es X.env:=by rfl) (hplain:(de cpos (aq es X.env)).any (·.1)=false:=by rfl):
  OE X cls E (.Call (.Attribute o m apos) (e::es) [] cpos) (nS g fo fl):=
 (LR qg slot hty hm ho ha hbase hfew hline hs hplain).imp fun σ H Q ⟨ok,ρ,ω,r,ω',P,e,q⟩=>by
  refine tO.then_ P e (fun c z=>by subst z;exact q) fun d ω1 v ok1 H1 e1 n1 P1 r1=> ?_;obtain⟨hi,e1⟩:=cJ e1;obtain⟨n,ds0,rfl,e2⟩:=DY hi;obtain⟨a,rfl,e4,xs,e5,rs⟩:=P1.st.ref r1 e2;refine⟨.inr (.inr (.inl ⟨rfl,.inr ⟨xs,e5⟩⟩)),?_⟩;refine tOA.then_ P1 e1 (fun c z=>by subst z;exact exR.nw q n1) fun ds ω2 us ok2 H2 e6 n2 P2 r2=> ?_;obtain⟨y,e7,rfl⟩:=bW e6;exact F ok2 H2 ω2 _ us _ ds y ω' Q P2.okh P2.st (r1.ex n2.ex) r2 e7 fun w ok3 H3 n3 r3=>q w ok3 H3 (n1.trans (n2.trans n3)) r3
noncomputable def Et (ω:Om) (d:D) (as:List D):Option (D×Om):=match d,as with
 |.obj n,[y]=>match ω[n]? with
  |some (.dt kvs)=>(CK y).bind fun k=>(iF kvs k).map fun v=>(v,ω.set n (.dt (dS kvs k)))
  |_=>wb
 |_,_=>wb
theorem Hf {K:aa}:Fu cls K Lu Et:=fun ok H ω x xs a as d ω' Q h1 st ra rs e k=>by
 unfold Et at e;split at e
 ·rename_i n y
  split at e
  ·rename_i kvs hc
   obtain⟨ks,e8,e⟩:=bind_some e;obtain⟨v,e9,e10⟩:=aG e;cases e10;obtain⟨a1,rfl,e4,vs,e5,kv⟩:=st.ref ra hc;obtain⟨w,rfl,rw'⟩:=rs.one_inv;obtain⟨b,rfl,_,hb⟩:=toT'_rep e8 rw';obtain⟨u,l,ru⟩:=kv.val e9;refine⟨a1,b,vs,ks,u,rfl,rfl,e5,hb,l,?_⟩;have nw:=Nw.write (o:=.dT (wJ vs ks)) (ob:=.dt (dS kvs ks)) h1 st e4 e5 fun dat=>⟨_,aM,(KvR.drop (k:=ks) kv).mono dat fun _ _ z=>z⟩;exact k _ ok _ nw (ru.ex nw.ex)
  ·cases e
 ·cases e
theorem Ju (hu:X.A.units+1<dn) (ho:OE X cls E o fo) (ha:OA X cls E [e] fl) (hbase:hV o "pop" X.env (eval o X.env)=eval o X.env:=by rfl)
  (hfew:((de cpos (aq [e] X.env)).all (fun x=> !x.1)&&(jw cpos (ib [] X.env)).all (fun x=>x.1.isSome)
   &&decide ([e].length+([]:List j7).length+(if([]:List j7).isEmpty then 0 else 1)<30))=true:=by rfl)
  (hline:(apos.endLine==cpos.line)=true:=by rfl) (hs:aq [e] X.env=(false,eval e X.env)::aq [] X.env:=by rfl) (hplain:(de cpos (aq [] X.env)).any (·.1)=false:=by rfl):
  OE X cls E (.Call (.Attribute o "pop" apos) [e] [] cpos) (nS Et fo fl):=MD sh PySem.F.type_dict_pop (JO hu) Hf ho ha hbase hfew hline hs hplain
end
end L2.MB
end
section
namespace L2.MB
open PySem PySem.Spec PyProof.Rows PySem.Builtin
section
variable {P:c9}{w:df}{K:Type} [DecidableEq K] {knd:HeapKind P w K}{A:di}{E:ag->am->Prop}{s:am}{d a:af}{xs ys:List (K×af×ag)}{k:K}{v:ag}{Q:Unit->am->Prop}
theorem sA (h:∀(j:Nat) (p:af×ag),xs[j]?≠v9 (k,p)):kt xs k=wb:=by
 unfold kt;rw[Option.map_eq_none_iff,uj];intro x hx;obtain⟨j,hj⟩:=jq hx;intro z;have e:x.1=k:=by simpa using z
 exact h j x.2 (by rw[hj,<- e])
theorem Ck {j:Nat} (h:xs[j]?=v9 (k,p)):(kt xs k).isSome=true:=by
 unfold kt;rw[pe,List.find?_isSome];exact⟨(k,p),eu h,by simp⟩
theorem BE (nd:(xs.map (·.1)).Nodup) (h:xs[j]?=v9 (k,p)):(xs.map (fk knd)).modify j (fun e=>{ hash:=e.hash,key:=e.key,val:=v })=(xs.map (ql k v)).map (fk knd):=by
 apply kj;intro i;rw[List.getElem?_modify,az,az,az];cases q:xs[i]? with
 |none=>rfl
 |some x=>
  show v9 _=v9 _
  by_cases e:j=i
  ·subst e;rw[h] at q;cases q;simp[ql,fk]
  ·have hx:x.1≠k:=fun z=>e (nodup_ix nd h (show xs[i]?=v9 (k,x.2) by rw[q,<- z]));simp[ql,e,hx]
theorem GE:(xs.map (ql k v)).map (·.1)=xs.map (·.1):=by
 rw[f7];apply gw;intro x _;unfold ql
 show(if _ then _ else _:K×af×ag).1=_
 split <;> rfl
theorem FB (hr:knd.room A) (hk:knd.is s.heap k a) (hd:ie knd s.heap d xs) (hz:xs.length<=sizeLine) (h:∀ h',ie knd h' d (jj xs k a v)->en d s.heap h'->Q () { s with heap:=h' }):
  ax (model P w) A (dictSetHashed d (.ref a) (knd.hash k) v) Q E s:=by
 obtain⟨o,es,ep,h1,h2,h3,h4,h5,h6⟩:=hd;obtain⟨oc,od,odt,osl⟩:=o;obtain⟨q1,q2,q3⟩:=h2;dsimp only at q1 q2 q3 h3;subst q1 q2 q3 h3;have hs:es.size=xs.length:=by
  have:=congrArg k7 h4
  rw[ao,dr] at this;exact this
 unfold dictSetHashed
 repeat (first|(with_reducible refine tq hr hk h1 rfl h4 h5 h6 (fun hn=> ?none) fun j p hj=> ?some)|(with_reducible refine sw h1 rfl ?main ?sz ?gr)|wp_step)
 case main=>
   have sb:en d s.heap (s.heap.update d (qo fun x=>x.push { hash:=knd.hash k,key:=.ref a,val:=v })):=⟨ng _ _ _,fun b hb=>d4 _ _ (c5 hb)⟩;have e1:jj xs k a v=xs++[(k,a,v)]:=by
    unfold jj;rw[sA hn];rfl
   refine h _ ⟨_,es.push { hash:=knd.hash k,key:=.ref a,val:=v },ep+1,fz _ h1 rfl,⟨rfl,rfl,rfl⟩,rfl,?_,fun x hx=> ?_,?_⟩ sb
   ·rw[e1,Array.toList_push,h4,ck];rfl
   ·rw[e1] at hx;rcases cj.mp hx with hx|hx
    ·exact knd.keeps (h5 x hx) h1 rfl sb
    ·rw[cg] at hx;subst hx;exact knd.keeps hk h1 rfl sb
   ·rw[e1,ck];refine jn.mpr ⟨h6,by simp,fun x hx y hy z=> ?_⟩;have hy':y=k:=by simpa using hy
    rw[z,hy'] at hx;obtain⟨q,q1,q2⟩:=av.mp hx;obtain⟨j,hj⟩:=jq q1;exact hn j q.2 (by rw[hj,<- q2])
 case sz=>rw[hs];exact hz
 case gr=>simp
 case some=>
  have e1:jj xs k a v=xs.map (ql k v):=by
   unfold jj;rw[if_pos (Ck hj)]
  repeat (first|(with_reducible refine wpAny_updateDict h1 rfl ?_ ?_)|wp_step)
  ·have sb:en d s.heap (s.heap.update d (Obj.mapDict fun x=>x.modify j fun e=>{ hash:=e.hash,key:=e.key,val:=v })):=⟨ng _ _ _,fun b hb=>d4 _ _ (c5 hb)⟩;refine h _ ⟨_,es.modify j fun e=>{ hash:=e.hash,key:=e.key,val:=v },ep,fz _ h1 rfl,⟨rfl,rfl,rfl⟩,rfl,?_,fun x hx=> ?_,?_⟩ sb
   ·rw[e1,Array.toList_modify,h4];exact BE h6 hj
   ·rw[e1] at hx;obtain⟨q,q1,q2⟩:=av.mp hx;subst q2
    have:=knd.keeps (h5 q q1) h1 rfl sb
    unfold ql;split
    ·exact this
    ·exact this
   ·rw[e1,GE];exact h6
  ·simp
end
section
variable {P:c9}{w:df}{A:di}{E:ag->am->Prop}{s:am}{d o:af}{xs ys:List (List Key×af×ag)}{k:List Key}{v:ag}{Q:Unit->am->Prop}{id:String}
noncomputable def fJ (xs ys:List (List Key×af×ag)):List (List Key×af×ag):=ys.foldl (fun acc y=>jj acc y.1 y.2.1 y.2.2) xs
theorem xN:(jj xs k a v).length<=xs.length+1:=by
 unfold jj;split
 ·rw[ao];omega
 ·rw[bv,g7];omega
theorem nV:fJ xs (ys++[y])=jj (fJ xs ys) y.1 y.2.1 y.2.2:=by
 unfold fJ;rw[List.foldl_append];rfl
theorem vN:∀ {ys xs:List (List Key×af×ag)},((xs++ys).map (·.1)).Nodup->fJ xs ys=xs++ys
 |[],xs,_=>by rw[dh];rfl
 |y::r,xs,nd=>by
  have e1:fJ xs (y::r)=fJ (jj xs y.1 y.2.1 y.2.2) r:=rfl;have e2:jj xs y.1 y.2.1 y.2.2=xs++[y]:=by
   unfold jj;rw[sA (fun j p hj=> ?_)]
   ·rfl
   ·have m1:y.1∈xs.map (·.1):=av.mpr ⟨_,eu hj,rfl⟩;rw[ck,jn] at nd;exact nd.2.2 _ m1 _ (av.mpr ⟨y,ar,rfl⟩) rfl
  rw[e1,e2,vN (by rw[d8];exact nd),d8];rfl
theorem DM (nd:(ys.map (·.1)).Nodup):fJ [] ys=ys:=vN (by simpa using nd)
theorem jB (hne:d≠o) (hsys:(o==d9)=false) (hr:(b3 (aJ P w)).room A) (hd:ie (b3 (aJ P w)) s.heap d xs) (ho:ie (b3 (aJ P w)) s.heap o ys) (hz:xs.length+ys.length<=sizeLine)
  (hh:∀(i j:Nat) x y,ys[i]?=v9 x->ys[j]?=v9 y->(b3 (aJ P w)).hash x.1=(b3 (aJ P w)).hash y.1->i=j)
  (h:∀ h',ie (b3 (aJ P w)) h' d (fJ xs ys)->en d s.heap h'->Q () { s with heap:=h' }):ax (model P w) A (Dict.mergeDict id d o) Q E s:=by
 have hd0:=hd;obtain⟨o1,es,ep,h1,h2,h3,h4,h5,h6⟩:=hd;obtain⟨oc,od,odt,osl⟩:=o1;obtain⟨q1,q2,q3⟩:=h2;dsimp only at q1 q2 q3 h3;subst q1 q2 q3 h3;obtain⟨o2,fs,fp,g1,g2,g3,g4,g5,g6⟩:=ho;obtain⟨oc,od,odt,osl⟩:=o2;obtain⟨q1,q2,q3⟩:=g2;dsimp only at q1 q2 q3 g3;subst q1 q2 q3 g3;have hn:(d==o)=false:=by simpa using hne
 unfold Dict.mergeDict;simp only[tw];rw[hn];simp only[dq,if_false]
 repeat wp_step
 have fl:fs.size=ys.length:=by
  have:=congrArg k7 g4
  rw[ao,dr] at this;exact this
 have el:es.size=xs.length:=by
  have:=congrArg k7 h4
  rw[ao,dr] at this;exact this
 have few:(decide (fs.size<=8)&&fs.all fun e=>(keyPart e.key).isSome)=decide (ys=[]):=by
  rw[<- u9,g4];cases ys with
  |nil=>simp[fl]
  |cons y r=>simp[fk,keyPart]
 rw[few]
 by_cases hy:ys=[]
 ·rw[decide_eq_true hy];simp only[Bool.not_true,dq,if_false];have e0:da ([:fs.size]:j0).start ([:fs.size]:j0).size ([:fs.size]:j0).step=[]:=by rw[fl,hy];rfl
  subst hy
  repeat (first|(with_reducible refine p7 _ (fun rest _ s'=>rest=[]/\s'=s) _ ?step ?fin _ _ ?init)|wp_step)
  case init=>exact⟨e0,rfl⟩
  case step=>rintro i rest b s' ⟨z,_⟩;cases z
  case fin=>
   rintro b s' ⟨_,rfl⟩
   repeat wp_step
   exact h _ hd0 ⟨rfl,fun _ _=>rfl⟩
 ·rw[decide_eq_false hy];simp only[vx,if_true]
  repeat wp_step
  by_cases hx:xs=[]
  ·have e0:es.isEmpty=true:=by
    rw[mr];apply Array.eq_empty_of_size_eq_zero;rw[el,hx];rfl
   rw[e0];simp only[if_true];unfold Dict.entriesForEmpty
   repeat (first|(with_reducible refine wpAny_forIn_array' _ (fun(rest:List kq) _ s'=>(∀ e∈rest,∃ i:Nat,fs[i]?=v9 e)/\s'=s) _ ?step ?fin _ _ ?init)|wp_step)
   case init=>exact⟨fun e he=>by obtain⟨i,hi⟩:=jq he;exact⟨i,by rw[<- g8];exact hi⟩,rfl⟩
   case step=>
    rintro e rest b s' ⟨hi,rfl⟩;obtain⟨i,hi0⟩:=hi e ar;have hi1:(ys.map (fk (b3 (aJ P w))))[i]?=v9 e:=by rw[<- g4,g8];exact hi0
    rw[az] at hi1;obtain⟨y,hy1,rfl⟩:=aG hi1;obtain⟨ot,its,nt,t1,t2,t3,_⟩:=(show IsTupleKey (aJ P w) s'.heap y.1 y.2.1 from g5 y (eu hy1));show ax _ _ (do let __do_lift <- Dict.quietEq (ca y.2.1);_) _ _ _;unfold Dict.quietEq;have small:¬(Array.filter (fun x=>x.hash==(fk (b3 (aJ P w)) y).hash) fs).size>1:=by
     have:(fs.filter (fun x=>x.hash==(fk (b3 (aJ P w)) y).hash)).toList.length<=1:=by
      rw[Array.toList_filter,g4,List.filter_map,ao];have nd:∀(l:List (List Key×af×ag)),(∀(i j:Nat) x y,l[i]?=v9 x->l[j]?=v9 y->(b3 (aJ P w)).hash x.1=(b3 (aJ P w)).hash y.1->i=j)->∀ c:Int,(l.filter ((fun x:kq=>x.hash==c)∘fk (b3 (aJ P w)))).length<=1:=by
       intro l
       induction l with
       |nil=>intro _ _;simp
       |cons z r ih=>
        intro hl c;have ih':=ih (fun i j x y h1 h2 e=>by have:=hl (i+1) (j+1) x y (by simpa using h1) (by simpa using h2) e;omega) c
        by_cases hc:(b3 (aJ P w)).hash z.1=c
        ·rw[dw (by simpa [fk] using hc)]
         have:r.filter ((fun x:kq=>x.hash==c)∘fk (b3 (aJ P w)))=[]:=by
          rw[rj];intro q hq z';obtain⟨j,hj⟩:=jq hq;have e:(b3 (aJ P w)).hash q.1=c:=by simpa [fk] using z'
          have:=hl 0 (j+1) z q (by simp) (by simpa using hj) (hc.trans e.symm)
          omega
         rw[this];simp
        ·rw[du (by simpa [fk] using hc)];exact ih'
      exact nd ys hh _
     rw[dr] at this;omega
    repeat wp_step
    rw[t2,show sj (jo "tuple") (jl "__eq__")=pure (v9 (.builtin "tuple.__eq__")) from PySem.F.slot_tuple_eq.lookup]
    repeat wp_step
    rw[if_neg small]
    repeat wp_step
    exact⟨fun e he=>hi e (ai _ he),rfl⟩
   case fin=>
    rintro b s' ⟨_,rfl⟩
    repeat wp_step
    have f0:fs.isEmpty=false:=by
     cases q:fs.isEmpty with
     |false=>rfl
     |true=>
      rw[mr] at q;rw[q] at fl;exact absurd (List.eq_nil_of_length_eq_zero fl.symm) hy
    rw[f0];simp only[vx,if_true];have sb:en d s'.heap (s'.heap.update d (qo fun _=>fs)):=⟨ng _ _ _,fun b hb=>d4 _ _ (c5 hb)⟩;have mg:fJ xs ys=ys:=by
     rw[hx];exact DM g6
    repeat (first|(with_reducible refine wpAny_updateDictKeysTo h1 rfl ?main ?sz)|wp_step)
    case sz=>show fs.size<=_;rw[fl];omega
    case main=>
     refine h _ ⟨_,fs,ep+1,fz _ h1 rfl,⟨rfl,rfl,rfl⟩,rfl,?_,fun x hx'=> ?_,?_⟩ sb
     ·rw[mg];exact g4
     ·rw[mg] at hx';exact(b3 (aJ P w)).keeps (g5 x hx') h1 rfl sb
     ·rw[mg];exact g6
  ·have e0:es.isEmpty=false:=by
    cases q:es.isEmpty with
    |false=>rfl
    |true=>
     rw[mr] at q;rw[q] at el;exact absurd (List.eq_nil_of_length_eq_zero el.symm) hx
   rw[e0];simp only[dq,if_false];have e1:da ([:fs.size]:j0).start ([:fs.size]:j0).size ([:fs.size]:j0).step=da 0 ys.length:=by
    rw[fl];simp[v8]
   have len:∀ n,n<=ys.length->(fJ xs (ys.take n)).length<=xs.length+n:=fun n=>by
    induction n with
    |zero=>intro _;simp[fJ]
    |succ n ih=>
     intro hn;have hn':n<ys.length:=hn;rw[nh hn',nV]
     have:=ih (ip hn')
     exact ci xN (by omega)
   repeat (first|(with_reducible refine p7 _ (fun(rest:List Nat) _ s'=>∃(i:Nat) (h':cz),rest=da i (ys.length-i)/\i<=ys.length/\s'={ s with heap:=h' }/\ie (b3 (aJ P w)) h' d (fJ xs (ys.take i))/\en d s.heap h') _ ?step ?fin _ _ ?init)|wp_step)
   case init=>exact⟨0,s.heap,e1,im _,rfl,hd0,⟨rfl,fun _ _=>rfl⟩⟩
   case step=>
    rintro i rest b s' ⟨j,h',e2,hj,rfl,dd,sb⟩;have hlt:j<ys.length:=by
     rcases md j ys.length with z|z
     ·exact z
     ·rw[Nat.sub_eq_zero_of_le z] at e2;cases e2
    have e3:ys.length-j=(ys.length-(j+1))+1:=by omega
    rw[e3,ku] at e2;cases e2;have go:h'.get? o=v9 { cls:=jo "dict",data:=vy fs fp }:=(sb.2 o (c5 hne)).trans g1;have hes:fs[i]?=v9 { hash:=(b3 (aJ P w)).hash ys[i].1,key:=.ref ys[i].2.1,val:=ys[i].2.2 }:=by
     rw[<- g8,g4,az,bj hlt];rfl
    have hk:(b3 (aJ P w)).is h' ys[i].1 ys[i].2.1:=(b3 (aJ P w)).keeps (g5 _ (ij hlt)) h1 rfl sb
    repeat wp_step
    rw[hes]
    repeat (first|(with_reducible refine FB hr hk dd (ci (len i (ip hlt)) (by omega)) fun h2 dd2 sb2=> ?_)|wp_step)
    have go2:h2.get? o=v9 { cls:=jo "dict",data:=vy fs fp }:=(sb2.2 o (c5 hne)).trans go
    repeat (first|(with_reducible refine pf go2 ?_)|wp_step)
    simp only[bne_self_eq_false,dq,if_false]
    repeat wp_step
    refine⟨i+1,h2,rfl,hlt,rfl,?_,sb.trans sb2⟩;rw[nh hlt,nV];exact dd2
   case fin=>
    rintro b s' ⟨j,h',e2,hj,rfl,dd,sb⟩
    have:j=ys.length:=by
     have:=congrArg k7 e2
     simp at this;omega
    subst this;rw[List.take_length] at dd
    repeat wp_step
    exact h h' dd sb
end
end L2.MB
end
section
namespace L2.MB
open PySem PySem.Spec PyProof.Rows PySem.Builtin
theorem CG (d b:af) (hne:d≠b) (hsys:(b==d9)=false):MeetsIn P w («dict.update» { pos:=[.ref d,.ref b] }) fun A R s=>
  A.units+1<dn/\∃ xs ys:List (List Key×af×ag),ie (b3 (aJ P w)) s.heap d xs/\ie (b3 (aJ P w)) s.heap b ys/\xs.length+ys.length<=sizeLine/\
   (∀(i j:Nat) x y,ys[i]?=v9 x->ys[j]?=v9 y->(b3 (aJ P w)).hash x.1=(b3 (aJ P w)).hash y.1->i=j)/\
   ∀ h',ie (b3 (aJ P w)) h' d (fJ xs ys)->en d s.heap h'->R (.ok (.ret .none)) { s with heap:=h' }:=by
 rintro A R s ⟨hu,xs,ys,hd,ho,hz,hh,hR⟩;have hr:(b3 (aJ P w)).room A.in1:=kc hu;have hd0:=hd;have ho0:=ho;obtain⟨o1,es,ep,h1,h2,h3,h4,h5,h6⟩:=hd;obtain⟨oc,od,odt,osl⟩:=o1;obtain⟨q1,q2,q3⟩:=h2;dsimp only at q1 q2 q3 h3;subst q1 q2 q3 h3;obtain⟨o2,fs,fp,g1,g2,g3,g4,g5,g6⟩:=ho;obtain⟨oc,od,odt,osl⟩:=o2;obtain⟨q1,q2,q3⟩:=g2;dsimp only at q1 q2 q3 g3;subst q1 q2 q3 g3;unfold «dict.update» Dict.selfAndRest
 repeat (first|(with_reducible refine jB hne hsys hr hd0 ho0 hz hh fun h' dd sb=> ?_)|wp_step)
 simp only[bne_self_eq_false,dq,if_false]
 repeat (first|(with_reducible refine jB hne hsys hr hd0 ho0 hz hh fun h' dd sb=> ?_)|wp_step)
 rw[PySem.isSubtype_dict_dict]
 repeat (first|(with_reducible refine jB hne hsys hr hd0 ho0 hz hh fun h' dd sb=> ?_)|wp_step)
 rw[show sj (jo "dict") (jl "__iter__")=pure (v9 (.builtin "dict.__iter__")) from my.lookup]
 repeat (first|(with_reducible refine jB hne hsys hr hd0 ho0 hz hh fun h' dd sb=> ?_)|wp_step)
 exact hR h' dd sb
noncomputable def JY:List Key->Option (List Int)
 |[]=>v9 []
 |.inl i::r=>(JY r).map fun is=>i::is
 |.inr _::_=>wb
noncomputable def eR (k:List Key):Option Int:=(JY k).map fun is=>reduceHash (pq (is.map hashInt))
theorem vU:∀ {k:List Key}{is:List Int},JY k=v9 is->k=is.map nj
 |[],_,h=>by cases h;rfl
 |.inl i::r,_,h=>by
  obtain⟨js,e,rfl⟩:=aG h;rw[vU e];rfl
 |.inr _::_,_,h=>nomatch h
theorem AT (h:eR k=v9 c):(b3 (aJ P w)).hash k=c:=by
 obtain⟨is,e,rfl⟩:=aG h;rw[vU e];show reduceHash (pq ((is.map nj).map (aJ P w).hash))=_;rw[f7];rfl
noncomputable def eP:List (List Key)->Bool
 |[]=>true
 |k::r=>(eR k).isSome&&r.all (fun k'=>match eR k,eR k' with
  |some a,v9 b=>decide (a≠b)
  |_,_=>false)&&eP r
theorem rH:∀ {ks:List (List Key)},eP ks=true->∀(i j:Nat) x y,ks[i]?=v9 x->ks[j]?=v9 y->(b3 (aJ P w)).hash x=(b3 (aJ P w)).hash y->i=j
 |[],_,i,j,x,y,h1,_,_=>by simp at h1
 |k::r,h,i,j,x,y,h1,h2,e=>by
  have h':((eR k).isSome&&r.all (fun k'=>match eR k,eR k' with
   |some a,v9 b=>decide (a≠b)
   |_,_=>false)&&eP r)=true:=h
  rw[bt,bt] at h';obtain⟨⟨_,ha⟩,hr⟩:=h';have main:∀ y,y∈r->(b3 (aJ P w)).hash k=(b3 (aJ P w)).hash y->False:=fun y hy e=>by
   have:=d5.mp ha y hy
   split at this
   ·rename_i a b e1 e2
    rw[AT e1,AT e2] at e;simp at this;exact this e
   ·cases this
  cases i with
  |zero=>
   cases j with
   |zero=>rfl
   |succ j=>
    simp at h1 h2;subst h1;exact(main y (eu h2) e).elim
  |succ i=>
   cases j with
   |zero=>
    simp at h1 h2;subst h2;exact(main x (eu h1) e.symm).elim
   |succ j=>
    simp at h1 h2;rw[rH hr i j x y h1 h2 e]
noncomputable def lQ (kvs more:List (List Key×V)):List (List Key×V):=more.foldl (fun acc p=>pR acc p.1 p.2) kvs
noncomputable def nW (kvs more:List (List Key×D)):List (List Key×D):=more.foldl (fun acc p=>iG acc p.1 p.2) kvs
theorem KT.merge:∀ {ms:List (List Key×V)}{ys:List (List Key×af×ag)},KT H ms ys->∀ {kvs:List (List Key×V)}{xs:List (List Key×af×ag)},KT H kvs xs->KT H (lQ kvs ms) (fJ xs ys)
 |_,_,.nil,_,_,r=>r
 |_,_,.cons (a:=p) (b:=q) h t,kvs,xs,r=>by
  obtain⟨h1,h2,h3⟩:=h;have r':=r.put p.1 h2 h3;rw[h1] at r'
  have:=KT.merge t r'
  rw[<- h1] at this;show KT H (lQ (pR kvs p.1 p.2) _) (fJ (jj xs q.1 q.2.1 q.2.2) _);rw[<- h1];exact this
theorem KvR.mergeR {K:aa}:∀ {ms:List (List Key×V)}{ns:List (List Key×D)},KvR K ok H ms ns->∀ {vs:List (List Key×V)}{ds:List (List Key×D)},KvR K ok H vs ds->KvR K ok H (lQ vs ms) (nW ds ns)
 |_,_,.nil,_,_,r=>r
 |_,_,.cons h t,vs,ds,r=>KvR.mergeR t (r.put h)
theorem FQ {k:List Key}:(pR kvs k v).length<=kvs.length+1:=jT kvs k v
theorem qY:∀ {ms kvs:List (List Key×V)},(lQ kvs ms).length<=kvs.length+ms.length
 |[],_=>bp _
 |p::r,kvs=>by
  have:=qY (ms:=r) (kvs:=pR kvs p.1 p.2)
  have:=FQ (kvs:=kvs) (k:=p.1) (v:=p.2)
  show(lQ (pR kvs p.1 p.2) r).length<=kvs.length+(r.length+1)
  omega
section
variable {X:Cx}{pins:List (af×Obj)}{σ:St}{H:Hp}{s:am}{a b:af}{kvs ms:List (List Key×V)}{A:di}{E:ag->am->Prop}
theorem Nu (hu:A.units+1<dn) (I:Inv X pins σ H s) (ea:H a=v9 (.dT kvs)) (eb:H b=v9 (.dT ms)) (hne:a≠b) (hl:kvs.length+ms.length<=sizeLine) (hh:eP (ms.map (·.1))=true)
  (h:∀ s',Inv X pins σ (upd H a (.dT (lQ kvs ms))) s'->Q .none s'):ax (model X.prog X.w) A (call (.builtin "dict.update") [.ref a,.ref b]) Q E s:=by
 obtain⟨z,hd,xs,rel,dd⟩:=Ho I.hok ea;obtain⟨z2,hd2,ys,rel2,dd2⟩:=Ho I.hok eb;have lx:kvs.length=xs.length:=iy rel;have ly:ms.length=ys.length:=iy rel2;have keys:ms.map (·.1)=ys.map (·.1):=by
  clear dd2 ly z2 hl hh eb h
  induction rel2 with
  |nil=>rfl
  |cons h t ih=>rw[bq,bq,ih,h.1]
 rw[keys] at hh;refine ui qd dd.typeIs PySem.F.entry_dict_update (PySem.F.args_dict_update_2 _ _) (CG a b hne hd2) ⟨hu,xs,ys,dd,dd2,by omega,fun i j x y h1 h2 e=> ?_,fun h' dd' hs=>h _ ?_⟩
 ·exact rH hh i j x.1 y.1 (by rw[az,h1];rfl) (by rw[az,h2];rfl) e
 ·obtain⟨q,es,ep,hq,h2,h3,h4,_,h5⟩:=dd';refine tM I (by rw[ea];exact gk) hs ⟨q,hq⟩ ⟨ci qY hl,hd,_,KT.keeps (KT.merge rel2 rel) fun c ws ec=> ?_,q,es,ep,hq,h2,h3,h4,h5⟩;rw[aF (JL ec ea (fun z=>nomatch z))];exact ec
noncomputable def Lq:V->List V->Hp->VK->Prop:=fun x xs H Q=>∃ a b kvs ms,x=.ref a/\xs=[.ref b]/\H a=v9 (.dT kvs)/\H b=v9 (.dT ms)/\a≠b/\kvs.length+ms.length<=sizeLine/\eP (ms.map (·.1))=true/\Q .non (upd H a (.dT (lQ kvs ms)))
theorem JN (hu:X.A.units+1<dn):MtR X "dict.update" Lq:=by
 intro pins s σ H x xs v us Q I rx rs h;obtain⟨a,b,kvs,ms,rfl,rfl,ha,hb,hne,hl,hh,q⟩:=h;obtain⟨u,rfl,ru⟩:=lG rs;cases rx;cases ru;exact Nu hu I ha hb hne hl hh fun s' I'=>⟨.non,_,I',rfl,q⟩
end
section
variable {X:Cx}{cls exC:Nat->af}{E:XE}{e a b c o i value:bx}{es rest:List bx}{fa fb fc fo fi fv:OG D}{fl:OG (List D)}{ft ft':OG Bool}{pos p apos pos' cpos:Pos}{x m:Str}{st:cx}
noncomputable def El (ω:Om) (d:D) (as:List D):Option (D×Om):=match d,as with
 |.obj n,[.obj m]=>match ω[n]?,ω[m]? with
  |some (.dt kvs),v9 (.dt ms)=>if n≠m/\kvs.length+ms.length<=sizeLine/\eP (ms.map (·.1))=true then v9 (.non,ω.set n (.dt (nW kvs ms))) else wb
  |_,_=>wb
 |_,_=>wb
theorem GY {K:aa}:Fu cls K Lq El:=fun ok H ω x xs a as d ω' Q h1 st ra rs e k=>by
 unfold El at e;split at e
 ·rename_i n m
  split at e
  ·rename_i kvs ms hc hc2
   obtain⟨⟨hnm,hl,hh⟩,e3⟩:=bE e;cases e3;obtain⟨a1,rfl,e4,vs,e5,kv⟩:=st.ref ra hc;obtain⟨w,rfl,rw'⟩:=rs.one_inv;obtain⟨b1,rfl,e6,us,e7,kv2⟩:=st.ref rw' hc2;refine⟨a1,b1,vs,us,rfl,rfl,e5,e7,fun z=>hnm (st.inj n m a1 e4 (z ▸ e6)),by rw[kv.length,kv2.length];exact hl,by rw[kv2.keys];exact hh,?_⟩;have nw:=Nw.write (o:=.dT (lQ vs us)) (ob:=.dt (nW kvs ms)) h1 st e4 e5 fun dat=>⟨_,aM,(kv2.mergeR kv).mono dat fun _ _ z=>z⟩;exact k _ ok _ nw .non
  ·cases e
 ·cases e
theorem Jq (hu:X.A.units+1<dn) (ho:OE X cls E o fo) (ha:OA X cls E [e] fl) (hbase:hV o "update" X.env (eval o X.env)=eval o X.env:=by rfl)
  (hfew:((de cpos (aq [e] X.env)).all (fun x=> !x.1)&&(jw cpos (ib [] X.env)).all (fun x=>x.1.isSome)
   &&decide ([e].length+([]:List j7).length+(if([]:List j7).isEmpty then 0 else 1)<30))=true:=by rfl)
  (hline:(apos.endLine==cpos.line)=true:=by rfl) (hs:aq [e] X.env=(false,eval e X.env)::aq [] X.env:=by rfl) (hplain:(de cpos (aq [] X.env)).any (·.1)=false:=by rfl):
  OE X cls E (.Call (.Attribute o "update" apos) [e] [] cpos) (nS El fo fl):=MD qd PySem.F.type_dict_update (JN hu) GY ho ha hbase hfew hline hs hplain
end
end L2.MB
end
section
namespace L2.MB
theorem _root_.L2.Inv.movedN (I:Inv X pins σ H s) (k:∀ b o,b≠X.env.locals->s.heap.get? b=v9 o->h'.get? b=v9 o) (ns:∀ m,s.heap.Ns X.env.locals m->h'.Ns X.env.locals m)
  (old:∀ b o,s.heap.get? b=v9 o->H' b=H b) (sub:∀ b u,H b=v9 u->H' b=v9 u) (hok:HOk X.prog X.w H' h'):Inv X pins σ H' { s with heap:=h',toks:=t' }:=by
 obtain⟨m,hn,lk⟩:=I.loc;obtain⟨oL,esL,epL,hoL,hdL,rL⟩:=id hn;have nl:∀ {b:af}{o:Obj},X.s₀.heap.get? b=v9 o->b≠X.env.locals:=fun e z=>absurd (br e) (by rw[z];exact su.mpr I.ok.above);have nc:∀ {c:af}{v:Option ag}{o:Obj},s.heap.get? c=v9 o->o.data=.cell v->c≠X.env.locals:=fun {c v o} e1 e2 z=>by
  rw[z,hoL] at e1;cases e1;rw[hdL] at e2;cases e2
 have th:∀ b o,s.heap.get? b=v9 o->H b=wb->H' b=wb:=fun b o e n=>(old b o e).trans n;refine⟨I.ok,I.os,I.bare,⟨fun b o e n hb hx=>k b o (nl e) (I.base.keep b o e n hb hx),fun b o e n hb hx=> ?_,fun b o e n hx=> ?_,fun b o e hx=> ?_,fun b xs e=>sub _ _ (I.base.tups b xs e),fun b u v e=>sub _ _ (I.base.frzs b u v e),fun b ps e=> ?_⟩,⟨m,ns m hn,fun i x v e1 e2 e3=> ?_⟩,fun x c e=> ?_,th _ _ hoL I.free,fun x c e=> ?_,fun p hp=> ?_,hok,I.len⟩
 ·obtain⟨sl,z⟩:=I.base.slot b o e n hb hx;exact⟨sl,k b _ (nl e) z⟩
 ·obtain⟨o',z⟩:=I.base.there b o e hx;exact th b o' z (I.base.free b o e n hx)
 ·obtain⟨o',z⟩:=I.base.there b o e hx;exact⟨o',k b o' (nl e) z⟩
 ·obtain⟨m,z⟩:=I.base.tbls b ps e;exact⟨m,sub _ _ z⟩
 ·obtain⟨u,ru,z⟩:=lk i x v e1 e2 e3;refine⟨u,ru,?_⟩;rcases z with z|⟨q,c,e,oc,w1,w2⟩
  ·exact .inl z
  ·exact .inr ⟨q,c,e,oc,k c oc (nc w1 w2) w1,w2⟩
 ·obtain⟨v,oc,w1,w2⟩:=I.cell x c e;exact⟨v,oc,k c oc (nc w1 w2) w1,w2⟩
 ·obtain⟨v,oc,w1,w2⟩:=I.cell x c e;exact th c oc w1 (I.freeC x c e)
 ·obtain⟨z1,z2,z3,z4⟩:=I.pin p hp;exact⟨k p.1 p.2 z3 z1,th _ _ z1 z2,z3,z4⟩
theorem _root_.L2.Inv.moved (I:Inv X pins σ H s) (k:∀ b o,b≠X.env.locals->s.heap.get? b=v9 o->h'.get? b=v9 o) (ns:∀ m,s.heap.Ns X.env.locals m->h'.Ns X.env.locals m):Inv X pins σ H { s with heap:=h',toks:=t' }:=
 I.movedN k ns (fun _ _ _=>rfl) (fun _ _ e=>e) fun b u e=>by
  have nl:∀ {c:af}{o:HO},H c=v9 o->c≠X.env.locals:=fun e z=>by rw[z,I.free] at e;cases e
  refine(I.hok b u e).stay (fun c v hc q=> ?_) (fun _ q=>q) fun _ _ q=>q;rcases hc with rfl|hc
  ·exact k c v (nl e) q
  ·exact k c v (nl hc) q
noncomputable def OL:List Int->List Int->Bool:=HT.lexLt
noncomputable def GJ:List D->Option (List Int)
 |[]=>v9 []
 |.int i::r=>(GJ r).map fun is=>i::is
 |_::_=>wb
noncomputable def fK (a b:D):Option Bool:=match a,b with
 |.int i,.int j=>v9 (decide (i<j))
 |.str x,.str y=>v9 (decide (x.cps.toList<y.cps.toList))
 |.tup xs,.tup ys=>(GJ xs).bind fun is=>(GJ ys).map fun js=>OL is js
 |_,_=>wb
noncomputable def NG (n:Nat):List D->List D->Bool->Option Bool
 |a::r,b::r',fin=>match eqD n a b with
  |some true=>NG n r r' fin
  |some false=>fK a b
  |none=>wb
 |_,_,fin=>v9 fin
noncomputable def IE {α:Type} (lt:Nat->Nat->Option Bool):v6 α->Option α
 |.ret a=>v9 a
 |.ask i j k=>(lt i j).bind fun c=>IE lt (k c)
theorem Dc (hc:∀ i j c C,lt i j=v9 c->C c s->cmp i j C s):∀ {t:v6 α}{a:α},IE lt t=v9 a->Q a s->PySem.W.KasT.kasWp cmp t Q s
 |.ret b,a,h,q=>by
  rw[PySem.W.KasT.kasWp.eq_1];cases h;exact q
 |.ask i j k,a,h,q=>by
  rw[PySem.W.KasT.kasWp.eq_2];obtain⟨c,e1,e2⟩:=bind_some (show(lt i j).bind _=_ from h);exact hc i j c _ e1 (Dc hc e2 q)
noncomputable def dG (n:Nat) (a b:D):Option Bool:=match a,b with
 |.tup xs,.tup ys=>NG n xs ys (decide (xs.length<ys.length))
 |_,_=>wb
noncomputable def jU:D->Option Bool
 |.tup (.int _::_)=>v9 true
 |.tup (.str _::_)=>v9 false
 |_=>wb
noncomputable def iN (ds:List D):Bool:=ds.all (fun d=>jU d==v9 true)||ds.all (fun d=>jU d==v9 false)
noncomputable def dI (n:Nat) (ds:List D):Option (List D):=if ds.length<2 then v9 ds else if ds.length<64/\iN ds=true then
 (IE (fun i j=>dG n (ds.getD i .non) (ds.getD j .non)) (PySem.W.kas_sort ds.length)).bind fun p=>if p.toList.length<=64 then v9 (p.toList.map fun i=>ds.getD i .non) else wb else wb
section
variable {X:Cx}{pins:List (af×Obj)}{σ:St}{H:Hp}{s:am}{ok:Okk}{A:di}{E:ag->am->Prop}
theorem yG {K:aa}:∀ {ds:List D}{is:List Int}{xs:List V}{us:List ag},GJ ds=v9 is->Reps K ok H xs ds->Vals xs us->j8 us is
 |[],_,_,_,h,.nil,.nil=>by cases h;exact .nil
 |.int i::r,_,_,_,h,.cons rr rs,.cons v vs=>by
  obtain⟨js,e,rfl⟩:=aG h;obtain rfl:=rr.int_inv;obtain⟨t,rfl⟩:=v;exact .cons _ _ (yG e rs vs)
theorem JU (I:Inv X pins σ H s) (f:Bool) (hf:f=true->jU (.tup [a])≠wb/\jU (.tup [b])≠wb) (ra:Rep X.K ok H x a) (rb:Rep X.K ok H y b) (rv:RelV x v) (ru:RelV y u) (e:fK a b=v9 k) (hu:A.units<dn) (q:Q k s):
  ax (model X.prog X.w) A (oneLt' f v u) Q E s:=by
 unfold fK at e;split at e
 ·cases e;obtain rfl:=ra.int_inv;obtain rfl:=rb.int_inv;obtain⟨t,rfl⟩:=rv;obtain⟨t',rfl⟩:=ru;cases f with
  |true=>exact PySem.W.kat_lt_int q
  |false=>exact qp _ _ (vc q)
 ·cases e;obtain rfl:=ra.str_inv;obtain rfl:=rb.str_inv;obtain⟨t,rfl⟩:=rv;obtain⟨t',rfl⟩:=ru;cases f with
  |true=>exact PySem.W.kas_lt_str q
  |false=>exact qp _ _ (lt_str q)
 ·obtain⟨is,e1,e⟩:=bind_some e;obtain⟨js,e2,rfl⟩:=aG e;cases f with
  |true=>exact absurd rfl (hf rfl).1
  |false=>
   obtain⟨p,xs,rfl,g,rs⟩:=ra.tup_inv;obtain⟨p',xs',rfl,g',rs'⟩:=rb.tup_inv;cases rv;cases ru;obtain⟨its,rr,pl,_⟩:=I.tuple g.sq;obtain⟨its',rr',pl',_⟩:=I.tuple g'.sq;exact qp _ _ (HT.lt_tupInts pl pl' (by simpa using yG e1 rs rr) (by simpa using yG e2 rs' rr') hu q)
 ·cases e
theorem Ig (I:Inv X pins σ H s) (hu:A.units+n<dn) (q:Q k s):∀ {as bs:List D}{xs ys:List V}{vs us:List ag} (i:Nat),(i=0->jU (.tup as)≠wb/\jU (.tup bs)≠wb)->Reps X.K ok H xs as->Reps X.K ok H ys bs->Vals xs vs->Vals ys us->NG n as bs fin=v9 k->
  PySem.W.KatLex X.prog X.w A true fin Q (vs.zip us) i s
 |[],bs,_,_,_,us,i,_,.nil,r2,.nil,v2,e=>by
  have e':v9 fin=v9 k:=e;cases e';exact vp q
 |a::as,[],_,_,_,_,i,_,.cons r1 rs1,.nil,.cons w1 ws1,.nil,e=>by
  have e':v9 fin=v9 k:=e;cases e';exact vp q
 |a::as,b::bs,_,_,_,_,i,hk,.cons r1 rs1,.cons r2 rs2,.cons w1 ws1,.cons w2 ws2,e=>by
  refine PySem.W.kat_cons ?_;have e':(match eqD n a b with
   |some true=>NG n as bs fin
   |some false=>fK a b
   |none=>wb)=v9 k:=e
  cases hq:eqD n a b with
  |none=>rw[hq] at e';cases e'
  |some c=>
   rw[hq] at e';refine wG I n r1 r2 w1 w2 hq hu X.prog X.w _ _ ?_;cases c with
   |true=>exact PySem.W.kat_yes (Ig I hu q (i+1) (fun z=>absurd z (Nat.succ_ne_zero i)) rs1 rs2 ws1 ws2 e')
   |false=>
    refine PySem.W.kat_no ?_;refine JU I (true&&i==0) (fun hf=> ?_) r1 r2 w1 w2 e' (by omega) q;have hi:i=0:=by simpa using hf
    obtain⟨h1,h2⟩:=hk hi;constructor
    ·intro z;apply h1;cases a <;> first|rfl|cases z
    ·intro z;apply h2;cases b <;> first|rfl|cases z
theorem Ny (I:Inv X pins σ H s) (hu:A.units+n<dn) (h1:jU a≠wb) (h2:jU b≠wb) (ra:Rep X.K ok H x a) (rb:Rep X.K ok H y b) (rv:RelV x v) (ru:RelV y u) (e:dG n a b=v9 k) (q:Q k s):
  ax (model X.prog X.w) A (keyLt' (tuples' true) v u) Q E s:=by
 unfold dG at e;split at e
 ·rename_i as bs
  obtain⟨p,xs,rfl,g,rs⟩:=ra.tup_inv;obtain⟨p',xs',rfl,g',rs'⟩:=rb.tup_inv;cases rv;cases ru;obtain⟨its,rr,⟨o,t1,t2,m,t3⟩,_⟩:=I.tuple g.sq;obtain⟨its',rr',⟨o',t1',t2',m',t3'⟩,_⟩:=I.tuple g'.sq;refine PySem.W.kat_lt t1 t3 t1' t3' ?_;have l1:its.toArray.size=as.length:=by rw[bc,<- rr.length,rs.length]
  have l2:its'.toArray.size=bs.length:=by rw[bc,<- rr'.length,rs'.length]
  rw[l1,l2];simpa using Ig I hu q 0 (fun _=>⟨h1,h2⟩) rs rs' rr rr' e
 ·cases e
theorem Vals.getD (r:Vals xs vs) (i:Nat):RelV (xs.getD i .non) (vs.getD i .none):=by
 rcases md i xs.length with h|h
 ·obtain⟨u,e,ru⟩:=r.get (i:=i) (x:=xs[i]) (by simp[h]);rw[au,au,e,bj h];exact ru
 ·rw[au,au,c3 h,c3 (by rw[<- r.length];exact h)];rfl
theorem Reps.getD {K:aa} (r:Reps K ok H xs ds) (i:Nat):Rep K ok H (xs.getD i .non) (ds.getD i .non):=by
 rcases md i ds.length with h|h
 ·obtain⟨v,e,rv⟩:=r.get (i:=i) (d:=ds[i]) (by simp[h]);rw[au,au,e,bj h];exact rv
 ·rw[au,au,c3 h,c3 (by rw[r.length];exact h)];exact .non
theorem Reps.pick {K:aa} (r:Reps K ok H xs ds):∀ is:List Nat,Reps K ok H (is.map fun i=>xs.getD i .non) (is.map fun i=>ds.getD i .non)
 |[]=>.nil
 |i::r'=>.cons (Reps.getD r i) (Reps.pick r r')
theorem Vals.pick (r:Vals xs vs):∀ is:List Nat,Vals (is.map fun i=>xs.getD i .non) (is.map fun i=>vs.getD i .none)
 |[]=>.nil
 |i::r'=>.cons (Vals.getD r i) (Vals.pick r r')
theorem wD (I:Inv X pins σ H s) (c:Bool):∀ {ds:List D}{xs:List V}{vs:List ag},ds.all (fun d=>jU d==v9 c)=true->Reps X.K ok H xs ds->Vals xs vs->∃ fs,PySem.W.KatTups s.heap vs fs/\fs.length=ds.length/\∀ v∈fs,PySem.W.Looks (model X.prog X.w) s.heap (typeOf v) (.type (if c then "int" else "str"))
 |[],_,_,_,.nil,.nil=>⟨[],by rw[PySem.W.KatTups.eq_1];trivial,rfl,fun v hv=>absurd hv (by simp)⟩
 |d::ds,_,_,h,.cons r rs,.cons w ws=>by
  rw[List.all_cons,bt] at h;obtain⟨fs,h1,h2,h3⟩:=wD I c h.2 rs ws;have hd:jU d=v9 c:=by simpa using h.1
  cases d with
  |tup as=>
   cases as with
   |nil=>cases hd
   |cons a as=>
    obtain⟨p,xs,rfl,g,rs'⟩:=r.tup_inv;cases w;cases rs' with
    |cons ra rs'=>
     obtain⟨its,rr,⟨o,t1,t2,m,t3⟩,_⟩:=I.tuple g.sq;cases rr with
     |cons wa rr=>
      rename_i u us
      refine⟨u::fs,?_,by simp[h2],fun v hv=> ?_⟩
      ·rw[PySem.W.KatTups.eq_2];exact⟨⟨p,o,_,m,rfl,t1,t2,t3,by simp⟩,h1⟩
      ·rcases aj.mp hv with rfl|hv
       ·cases a with
        |int i=>
         cases hd;obtain rfl:=ra.int_inv;obtain⟨t,rfl⟩:=wa;intro A Q E s' _ q;exact ak q
        |str i=>
         cases hd;obtain rfl:=ra.str_inv;obtain⟨t,rfl⟩:=wa;intro A Q E s' _ q;exact ak q
        |_=>cases hd
       ·exact h3 v hv
  |_=>cases hd
end
noncomputable def vK (h h0:cz) (L a:af):List (af×Obj):=(bz h.objs.size).filterMap fun b=>if b=L∨b=a∨(h0.get? b).isSome=true then wb else(h.get? b).map fun o=>(b,o)
theorem BF (e:h.get? b=v9 o) (h1:b≠L) (h2:b≠a) (h3:h0.get? b=wb):(b,o)∈vK h h0 L a:=by
 unfold vK;refine je.mpr ⟨b,gq.mpr (br e),?_⟩;rw[if_neg (by simp[h1,h2,h3]),e];rfl
theorem nQ (hp:p∈vK h h0 L a):h.get? p.1=v9 p.2/\p.1≠L/\p.1≠a/\h0.get? p.1=wb:=by
 obtain⟨b,_,e⟩:=je.mp hp
 by_cases hc:b=L∨b=a∨(h0.get? b).isSome=true
 ·rw[if_pos hc] at e;cases e
 ·rw[if_neg hc] at e;obtain⟨o,e1,e2⟩:=aG e;subst e2;refine⟨e1,fun z=>hc (.inl z),fun z=>hc (.inr (.inl z)),?_⟩;cases q:h0.get? b with
  |none=>rfl
  |some u=>exact absurd (.inr (.inr (by rw[q];rfl))) hc
theorem MN {h:cz} (h1:h.Ns a m) (h2:h.Ns a m'):m=m':=by
 obtain⟨o,es,ep,e1,e2,_,e3⟩:=h1;obtain⟨o',es',ep',g1,g2,_,g3⟩:=h2;rw[e1] at g1;cases g1;rw[e2] at g2;cases g2
 funext x
 rw[<- e3,g3]
theorem Dn:∀ {us:List ag},xs.length=us.length->(∀(j:Nat) x v,xs[j]?=v9 x->us[j]?=v9 v->RelV x v)->Vals xs us:=by
 induction xs with
 |nil=>
  intro us h _;cases us with
  |nil=>exact .nil
  |cons _ _=>cases h
 |cons x r ih=>
  intro us h g;cases us with
  |nil=>cases h
  |cons u us=>exact .cons (g 0 x u rfl rfl) (ih (by simpa using h) fun j y v e1 e2=>g (j+1) y v (by simpa using e1) (by simpa using e2))
section
variable {X:Cx}{pins:List (af×Obj)}{σ:St}{H:Hp}{s:am}{ok:Okk}{A:di}{E:ag->am->Prop}
theorem JS (hk:iN ds=true) (e:dG n (ds.getD i .non) (ds.getD j .non)=v9 c):jU (ds.getD i .non)≠wb/\jU (ds.getD j .non)≠wb:=by
 have inr:∀ i,ds.getD i .non≠ .non->jU (ds.getD i .non)≠wb:=fun i hi=>by
  have hlt:i<ds.length:=by
   rcases md i ds.length with h|h
   ·exact h
   ·rw[au,c3 h] at hi;exact absurd rfl hi
  have hm:ds.getD i .non∈ds:=by
   rw[au,bj hlt];exact ij hlt
  unfold iN at hk;rw[gz] at hk;rcases hk with hk|hk
  ·have:=d5.mp hk _ hm
   intro z;rw[z] at this;cases this
  ·have:=d5.mp hk _ hm
   intro z;rw[z] at this;cases this
 refine⟨inr i fun z=> ?_,inr j fun z=> ?_⟩
 ·rw[z] at e;cases e
 ·rw[z] at e;unfold dG at e;split at e
  ·rename_i h2
   cases h2
  ·cases e
theorem nD (I:Inv X pins σ H s) (col:∀ {R:List ag->am->Prop},(∀(h':cz) (tk:Nat) (acc:Array ag),(∀ b o,s.heap.get? b=v9 o->h'.get? b=v9 o)->ItemsOf P acc n->R acc.toList { s with heap:=h',toks:=tk })->ax (model X.prog X.w) A.in1 (collect (.ref r)) R E s) (hn2:2<=n) (hn:n<64) (hu:A.units+(m+2)<dn)
  (hx:xs.length=n) (hP:∀(j:Nat) v x,P j v->xs[j]?=v9 x->RelV x v) (rs:Reps X.K ok H xs ds) (hs:dI m ds=v9 out)
  (h:∀(h':cz) (tk:Nat) (ys:List V) (l:af),H l=wb->Inv X pins σ (upd H l (.lst ys)) { s with heap:=h',toks:=tk }->Reps X.K ok H ys out->Q (.ref l) { s with heap:=h',toks:=tk }):
  ax (model X.prog X.w) A (call (.builtin "sorted") [.ref r]) Q E s:=by
 have hl':ds.length=n:=by rw[<- rs.length];exact hx
 unfold dI at hs;rw[if_neg (by omega)] at hs;obtain⟨⟨_,hk⟩,hs⟩:=cJ hs;obtain⟨p,hrun,hs⟩:=bind_some hs;obtain⟨hpl,hs⟩:=bE hs;refine pk kind_sorted plain_sorted entry_sorted (args_sorted1 _) ?_;unfold Builtin.«sorted»;refine ae (m:=checkCount "sorted" 1 1 _) (ak (ae (col fun h1 tk acc kp it=> ?_)));have hl:acc.toList.length=n:=by rw[dr];exact it.1
 refine ae (tf ?_ (by rw[hl,b7];omega));have o1:(h1.push (gp "list" acc.toList.toArray 0)).get? h1.objs.size=v9 (gp "list" acc.toList.toArray 0):=b0 _ rfl;have nw:s.heap.get? h1.objs.size=wb:=by
  cases q:s.heap.get? h1.objs.size with
  |none=>rfl
  |some u=>exact absurd (br (kp _ _ q)) (fx _)
 have hH:H h1.objs.size=wb:=by
  cases q:H h1.objs.size with
  |none=>rfl
  |some u=>
   obtain⟨v,w⟩:=HOk.obj I.hok q;rw[nw] at w;cases w
 obtain⟨mL,hnL,_⟩:=I.loc;have kp2:∀ b o,s.heap.get? b=v9 o->(h1.push (gp "list" acc.toList.toArray 0)).get? b=v9 o:=fun b o e=>ay _ (kp b o e);have fr:Fr X.base X.env.locals (h1.push (gp "list" acc.toList.toArray 0)) mL:=⟨hnL.keeps kp2,fun b o e=>kp2 b o (I.bk b o e),ci I.ok.bsz I.ok.above⟩;have aL:h1.objs.size≠X.env.locals:=fun z=>by
  obtain⟨oL,_,_,hoL,_⟩:=id hnL;rw[<- z,nw] at hoL;cases hoL
 have hb0:X.base.get? h1.objs.size=wb:=by
  cases q:X.base.get? h1.objs.size with
  |none=>rfl
  |some u=>
   have:=I.bk _ _ q
   rw[nw] at this;cases this
 have rv:Vals xs acc.toList:=by
  refine Dn (by rw[hx,hl]) fun j x v e1 e2=> ?_;exact hP j v x (it.2 j v (by rw[<- g8];exact e2)) e1
 refine ae (ig (g9 slot_list_sort ⟨_,o1,rfl⟩ entry_list_sort (PySem.W.kat_list_sort (s:={ s with heap:=h1.push (gp "list" acc.toList.toArray 0),toks:=tk }) (news:=vK (h1.push (gp "list" acc.toList.toArray 0)) X.base X.env.locals h1.objs.size) fr (fun q hq=>let ⟨z1,z2,z3,z4⟩:=nQ hq;⟨z1,z2,z4⟩) o1 aL hb0 (fun q hq=>(nQ hq).2.2.1) (by rw[hl];exact hn2) (by rw[hl];exact hn) fun e1 h' fr' nw'=> ?_) (args_list_sort _)))
 -- the state in its midst
 have keep:∀ {h':cz},Fr X.base X.env.locals h' mL->News X.base X.env.locals h' (vK (h1.push (gp "list" acc.toList.toArray 0)) X.base X.env.locals h1.objs.size)->∀ b o,b≠X.env.locals->s.heap.get? b=v9 o->h'.get? b=v9 o:=fun {h'} fr' nw' b o hb e=>by
  have hne:b≠h1.objs.size:=fun z=>by rw[z,nw] at e;cases e
  cases q:X.base.get? b with
  |some u=>
   have:=I.bk b u q
   rw[e] at this;cases this;exact fr'.keep b _ q
  |none=>exact(nw' _ (BF (kp2 b o e) hb hne q)).1
 have nsk:∀ {h':cz},Fr X.base X.env.locals h' mL->∀ m,s.heap.Ns X.env.locals m->h'.Ns X.env.locals m:=fun {h'} fr' m hm=>by
  rw[MN hm hnL];exact fr'.ns
 have I1:Inv X pins σ H { s with heap:=h',toks:=tk }:=I.moved (keep fr' fun q hq=>nw' q (ai _ hq)) (nsk fr');have hka:∃ c:Bool,ds.all (fun d=>jU d==v9 c)=true:=by
  unfold iN at hk;rw[gz] at hk;rcases hk with hk|hk
  ·exact⟨true,hk⟩
  ·exact⟨false,hk⟩
 obtain⟨c,hka⟩:=hka;obtain⟨fs,f1,f2,f3⟩:=wD I1 c hka rs rv;refine PySem.W.kat_kind f1 (by rw[f2];omega) f3 (by cases c <;> rfl) ?_;have hT:((jo (if c=true then "int" else "str")) !=jo "tuple")=true:=by cases c <;> rfl
 rw[hT,hl,<- hl'];refine Dc (fun i j c C e q=> ?_) hrun ?_
 ·obtain⟨k1,k2⟩:=JS hk e;exact Ny I1 (eL (eL hu)) k1 k2 (Reps.getD rs i) (Reps.getD rs j) (Vals.getD rv i) (Vals.getD rv j) e q
 ·refine⟨_,_,fr',nw',.head (fun q hq=>(nQ hq).2.2.1),fun h2 cc fr2 nw2=>⟨_,rfl,?_⟩⟩;have na2:h2.get? h1.objs.size=v9 (PySem.W.listOf (List.map (fun i=>acc.toList.getD i hW) p.toList).toArray cc):=(nw2 _ ar).1;have I2:Inv X pins σ (upd H h1.objs.size (.lst (p.toList.map fun i=>xs.getD i .non))) { s with heap:=h2,toks:=tk }:=by
   have kk:=keep fr2 fun q hq=>nw2 q (ai _ hq);refine I.movedN kk (nsk fr2) (fun b o e=> ?_) (fun b u e=> ?_) fun b u e=> ?_
   ·rw[aF (fun z=>by rw[z,nw] at e;cases e)]
   ·rw[aF (aI e hH)];exact e
   ·by_cases hb:b=h1.objs.size
    ·subst hb;rw[aM] at e;cases e;refine⟨?_,_,cc,Vals.pick rv p.toList,na2⟩;rw[ao,b7];omega
    ·rw[aF hb] at e;have nl:∀ {c:af}{o:HO},H c=v9 o->c≠X.env.locals:=fun e z=>by rw[z,I.free] at e;cases e
     refine(I.hok b u e).stay (fun c v hc q=> ?_) (fun c q=>by rw[aF (aI q hH)];exact q) fun c xs q=>by rw[aF (aI q hH)];exact q
     rcases hc with rfl|hc
     ·exact kk c v (nl e) q
     ·exact kk c v (nl hc) q
  cases hs;exact ak ⟨_,rfl,h h2 tk _ _ hH I2 (Reps.pick rs p.toList)⟩
theorem nB (I:Inv X pins σ H s) (K:oy X.prog X.w T r d n P OK) (hh:A.handled=wb) (hok:OK s.heap) (hn2:2<=n) (hn:n<64) (hu:A.units+(m+2)<dn)
  (hx:xs.length=n) (hP:∀(j:Nat) v x,P j v->xs[j]?=v9 x->RelV x v) (rs:Reps X.K ok H xs ds) (hs:dI m ds=v9 out)
  (h:∀(h':cz) (tk:Nat) (ys:List V) (l:af),H l=wb->Inv X pins σ (upd H l (.lst ys)) { s with heap:=h',toks:=tk }->Reps X.K ok H ys out->Q (.ref l) { s with heap:=h',toks:=tk }):
  ax (model X.prog X.w) A (call (.builtin "sorted") [.ref r]) Q E s:=
 nD I (fun h=>tm (A:=A.in1) K hh hok (by rw[b7];omega) h) hn2 hn hu hx hP rs hs h
end
section
variable {X:Cx}{cls exC:Nat->af}{E:XE}{e a b c o i value:bx}{es rest:List bx}{fa fb fc fo fi fv:OG D}{fl:OG (List D)}{ft ft':OG Bool}{pos p apos pos' cpos:Pos}{x m:Str}{st:cx}
noncomputable def Oc (K:aa) (n:Nat):List V->Hp->VK->Prop:=fun xs H Q=>∃ v d kvs ds out ok,xs=[.ref v]/\H v=v9 (KN v d)/\H d=v9 (.dT kvs)/\Reps K ok H (kvs.map (·.2)) ds/\dI n ds=v9 out/\∀ l ys,H l=wb->Reps K ok H ys out->Q (.ref l) (upd H l (.lst ys))
theorem nH (h:dI n ds=v9 out) (hl:ds.length<2):out=ds:=by
 unfold dI at h;rw[if_pos hl] at h;cases h;rfl
theorem nG (h:dI n ds=v9 out) (hl:¬ ds.length<2):ds.length<64:=by
 unfold dI at h;rw[if_neg hl] at h;exact(cJ h).1.1
theorem EZ (hc:X.calm=true) (hu:X.A.units+(n+2)<dn):CallR X (.builtin "sorted") (Oc X.K n):=by
 intro pins s σ H xs us Q I r h;obtain⟨v,d,kvs,ds,out,ok,rfl,hv,hd,rs,hs,q⟩:=h;have hlen:ds.length=kvs.length:=by rw[<- rs.length,ao]
 by_cases hl:ds.length<2
 ·obtain rfl:=nH hs hl;exact wS hc pins s σ H _ us Q I r ⟨v,d,kvs,rfl,hv,hd,by omega,fun l nl=>q l _ nl rs⟩
 ·obtain⟨u,rfl,rx⟩:=lG r;cases rx;obtain⟨lo,hz,es,ep,rd,sz,it⟩:=oW I (.inl hd);have vw:s.heap.IsValuesView v d:=(show ObjOk X.prog X.w H s.heap v (KN v d) from I.hok v _ hv).1;have h64:=nG hs hl;refine nB I (qL (d:=d) (es:=es) (ep:=ep)) (I.ok.hd hc) ⟨vw,rd⟩ (by omega) (by omega) hu (by rw[ao,sz]) (fun j v x hp hx=> ?_) rs hs fun h' tk ys l nl I' rs'=>⟨.ref l,_,I',rfl,q l ys nl rs'⟩;obtain⟨y,y1,y2⟩:=hp;obtain⟨p,p1,p2,_⟩:=it j y y1;rw[az,p1] at hx;cases hx;rw[y2];exact p2
noncomputable def En (n:Nat) (ω:Om) (d:D):Option D:=match cellOf ω d with
 |some (.dt kvs)=>(dI n (kvs.map (·.2))).map D.lst
 |_=>wb
noncomputable def Gm (n:Nat) (f:OG D):OG D:=oB f fun d _ ω=>oR (pu (En n ω d) ω)
theorem Jr (hu:X.A.units+(n+2)<dn) (hc:X.calm=true) (hg:Gl X "sorted") (hm:X.mg "sorted"=wb) (ho:OE X cls E o fo) (hbase:hV o "values" X.env (eval o X.env)=eval o X.env:=by rfl) (hline:(ap.endLine==cp.line)=true:=by rfl)
  (he:aq [.Call (.Attribute o "values" ap) [] [] cp] X.env=(false,eval (.Call (.Attribute o "values" ap) [] [] cp) X.env)::aq [] X.env:=by rfl) (hpl:(de pos (aq [] X.env)).any (·.1)=false:=by rfl):
  OE X cls E (.Call (.Name "sorted" p) [.Call (.Attribute o "values" ap) [] [] cp] [] pos) (Gm n fo):=
 (mK (EZ hc hu) hg hm boot.sorted (gK (LQ qg qc PySem.F.type_dict_values DK ho hbase hline) qT he) (by decide) (by decide) he hpl).imp fun σ H Q ⟨ok,ρ,ω,r,ω',P,e,q⟩=>by
  refine tO.then_ P e (fun c z=>by subst z;exact q) fun d ω1 v ok1 H1 e1 n1 P1 r1=> ?_;obtain⟨y,e3,rfl⟩:=bW e1;obtain⟨ue3,rfl⟩:=cI e3;unfold En at ue3;split at ue3
  ·rename_i kvs hcell
   obtain⟨k,rfl,e4⟩:=dF hcell;obtain⟨out,e5,rfl⟩:=aG ue3;obtain⟨a,rfl,e6,vs,e7,kv⟩:=P1.st.ref r1 e4;refine⟨.inr (.inr (.inl ⟨rfl,.inr ⟨vs,e7⟩⟩)),a,vs,rfl,rfl,e7,fun w nw=> ?_⟩;have hne:a≠w:=aI e7 nw;have s2:=bX (o:=KN w a) nw;refine⟨w,a,vs,_,out,ok1,rfl,aM,by rw[aF hne];exact e7,kv.vals.same s2,e5,fun l ys nl rs=> ?_⟩;have s3:=bX (o:=.lst ys) nl;exact q _ ok1 _ (n1.trans (.same P1.okh P1.st (s2.trans s3))) (.lst_new (P1.okh l (s2.free nl)) nl rs)
  ·cases ue3
noncomputable def Ls (K:aa) (n:Nat):List V->Hp->VK->Prop:=fun xs H Q=>∃ d kvs out ok,xs=[.ref d]/\H d=v9 (.dT kvs)/\OkH ok H/\dI n (kvs.map fun p=>bP p.1)=v9 out/\∀ l ys,H l=wb->Reps K ok H ys out->Q (.ref l) (upd H l (.lst ys))
theorem vO {K:aa} (hok:OkH ok H):∀ {kvs:List (List Key×V)}{as:List af},as.length=kvs.length->(∀(j:Nat) p a,kvs[j]?=v9 p->as[j]?=v9 a->H a=v9 (.tup (p.1.map kV)))->Reps K ok H (as.map V.ref) (kvs.map fun p=>bP p.1)
 |[],[],_,_=>.nil
 |p::kvs,a::as,hl,h=>by
  refine .cons ?_ (vO hok (by simpa using hl) fun j q b e1 e2=>h (j+1) q b (by simpa using e1) (by simpa using e2))
  have:=h 0 p a rfl rfl
  exact .tup ⟨hok.tp a _ this,this⟩ (yE p.1)
 |[],_::_,hl,_=>by cases hl
 |_::_,[],hl,_=>by cases hl
theorem Fb (hc:X.calm=true) (hu:X.A.units+(n+2)<dn):CallR X (.builtin "sorted") (Ls X.K n):=by
 intro pins s σ H xs us Q I r h;obtain⟨d,kvs,out,ok,rfl,hd,hok,hs,q⟩:=h;obtain⟨u,rfl,rx⟩:=lG r;cases rx;obtain⟨lo,hz,es,ep,rd,sz,it⟩:=oW I (.inl hd)
 -- the keys' addresses
 have hex:∀ j,j<es.size->∃ a,∃ y p,es[j]?=v9 y/\kvs[j]?=v9 p/\y.key=.ref a/\H a=v9 (.tup (p.1.map kV)):=fun j hj=>by
  obtain⟨p,p1,_,a,p2,p3⟩:=it j es[j] (by simp[hj]);exact⟨a,_,p,by simp[hj],p1,p2,p3⟩
 have hass:∃ as:List af,as.length=kvs.length/\∀(j:Nat) a,as[j]?=v9 a->∃ y p,es[j]?=v9 y/\kvs[j]?=v9 p/\y.key=.ref a/\H a=v9 (.tup (p.1.map kV)):=by
  refine⟨(bz es.size).map fun j=>if hj:j<es.size then(hex j hj).choose else 0,by simp[sz],fun j a ha=> ?_⟩;rw[az] at ha;obtain⟨j',e1,e2⟩:=aG ha;have hj0:j<es.size:=by
   rcases md j es.size with z|z
   ·exact z
   ·rw[c3 (by simpa using z)] at e1;cases e1
  have hj:j<es.size/\j'=j:=by
   rw[gx hj0] at e1;cases e1;exact⟨hj0,rfl⟩
  obtain⟨hj,rfl⟩:=hj;rw[dif_pos hj] at e2;rw[<- e2];exact(hex _ hj).choose_spec
 obtain⟨as,al,ah⟩:=hass;have rs:Reps X.K ok H (as.map V.ref) (kvs.map fun p=>bP p.1):=vO hok al fun j p a e1 e2=>by
  obtain⟨y,p',_,g2,_,g4⟩:=ah j a e2;rw[e1] at g2;cases g2;exact g4
 have hPP:∀(j:Nat) v x,(∃ e,es[j]?=v9 e/\v=e.key)->(as.map V.ref)[j]?=v9 x->RelV x v:=fun j v x ⟨e,e1,e2⟩ hx=>by
  rw[az] at hx;obtain⟨a,a1,a2⟩:=aG hx;subst a2;obtain⟨y,p,g1,_,g3,_⟩:=ah j a a1;rw[e1] at g1;cases g1;rw[e2,g3];rfl
 by_cases hl:kvs.length<2
 ·obtain rfl:=nH hs (by simpa using hl);refine nC (Av (d:=d) (es:=es) (ep:=ep) lo) (I.ok.hd hc) rd (by rw[sz];exact hl) fun h' tk vs a c kp na hlen hP ha=> ?_;have rv:Vals (as.map V.ref) vs:=xI (by rw[hlen,sz,ao,al]) fun j w hw=>by
   have hj:j<as.length:=by
    have:=(bg.mp hw).1
    rw[al,<- sz,<- hlen];exact this
   exact⟨.ref as[j],by rw[az,bj hj];rfl,hPP j w _ (hP j w hw) (by rw[az,bj hj];rfl)⟩
  obtain⟨hn,I'⟩:=I.laidN (t':=tk) kp na (sS (H:=upd H a (.lst (as.map V.ref))) rv (by rw[ao,al];exact hz) ha);exact⟨.ref a,_,I',rfl,q a _ hn rs⟩
 ·have h64:=nG hs (by simpa using hl);rw[ao] at h64;exact nB I (Av (d:=d) (es:=es) (ep:=ep) lo) (I.ok.hd hc) rd (by omega) (by omega) hu (by rw[ao,al,sz]) hPP rs hs fun h' tk ys l nl I' rs'=>⟨.ref l,_,I',rfl,q l ys nl rs'⟩
noncomputable def Ep (n:Nat) (ω:Om) (ds:List D):Option (D×Om):=match ds with
 |[d]=>match cellOf ω d with
  |some (.dt kvs)=>(dI n (kvs.map fun p=>bP p.1)).map fun out=>(.lst out,ω)
  |_=>wb
 |_=>wb
theorem Hc {K:aa}:uH cls K (Ls K n) (Ep n):=fun ok H ω xs as d ω' Q h1 st r e k=>by
 unfold Ep at e;split at e
 ·split at e
  ·rename_i kvs hcell
   obtain⟨out,e5,e6⟩:=aG e;cases e6;obtain⟨n,rfl,e1⟩:=dF hcell;obtain⟨v,rfl,r1⟩:=r.one_inv;obtain⟨a,rfl,e6,vs,e7,kv⟩:=st.ref r1 e1;have hk:(vs.map fun p=>bP p.1)=kvs.map fun p=>bP p.1:=by
    have:=congrArg (List.map bP) kv.keys
    rw[f7,f7] at this;exact this
   refine⟨a,vs,out,ok,rfl,e7,h1,?_,fun l ys nl rs=>k _ ok _ (.same h1 st (bX nl)) (.lst_new (h1 l nl) nl rs)⟩;rw[hk];exact e5
  ·cases e
 ·cases e
end
section
variable {X:Cx}{cls exC:Nat->af}{E:XE}{e a b c o i o2 i2 value:bx}{es rest:List bx}{fa fb fc fo fi fo2 fi2 fv:OG D}{fl:OG (List D)}{ft ft':OG Bool}{pos p apos pos' pos2 tp cpos:Pos}{x m:Str}{st:cx}
theorem JG (ha:OE X cls E a fa) (hb:OE X cls E b fb):OE X cls E (.BinOp a .Add b pos) (MB.o2 (lf Kk) fa fb):=vH BC (Fit2.lift (fun ok H x y a b d Q h1 ra rb e k=>by
 cases a with
 |str u=>cases b with
  |str v=>
   obtain⟨hz,rfl⟩:=bE (show(if u.length+v.length<=sizeLine then v9 (D.str (u++v)) else wb)=v9 d from e);exact⟨u,v,ra.str_inv,rb.str_inv,hz,k _ H (Same.refl H) (.str _)⟩
  |_=>cases e
 |_=>cases e)) ha hb
theorem Jw (ha:OE X cls E a fa) (hb:OE X cls E b fb):OE X cls E (.BinOp a .Mult b pos) (MB.o2 (lf Kj) fa fb):=vH Jn (Fit2.lift (fun ok H x y a b d Q h1 ra rb e k=>by
 cases a with
 |str u=>cases b with
  |int v=>
   obtain⟨hz,rfl⟩:=bE (show(if 0<=v/\v<=100000/\u.length<=100 then v9 (D.str (NF u v)) else wb)=v9 d from e);exact⟨u,v,ra.str_inv,rb.int_inv,hz,k _ H (Same.refl H) (.str _)⟩
  |_=>cases e
 |_=>cases e)) ha hb
noncomputable def kX (ω:Om) (d:D):D:=match dJ ω d with
 |some ds=>.lst ds
 |none=>d
theorem jG {K:aa} (t:Stt cls K ok H ω) (r:Rep K ok H v d):Rep K ⟨fun _=>True,ok.al⟩ H v (kX ω d):=by
 unfold kX;cases hs:dJ ω d with
 |some ds=>exact nI t r hs
 |none=>exact r.wide
noncomputable def kW (n:Nat) (ω:Om) (a b:D):Option (D×Om):=pu (gEq n (kX ω a) (kX ω b)) ω
noncomputable def uI (n:Nat) (ω:Om) (a b:D):Option (D×Om):=pu (gNe n (kX ω a) (kX ω b)) ω
theorem EA {K:aa}:xC cls K (PF K n) (kW n):=fun ok H ω x y a b d ω' Q h1 st ra rb e k=>by
 obtain⟨ue,rfl⟩:=cI e;obtain⟨c,e1,rfl⟩:=aG ue;exact⟨_,_,_,c,jG st ra,jG st rb,e1,k _ ok H (.refl h1 st) (.bl _)⟩
theorem Km {K:aa}:xC cls K (Px K n) (uI n):=fun ok H ω x y a b d ω' Q h1 st ra rb e k=>by
 obtain⟨ue,rfl⟩:=cI e;obtain⟨c,e1,rfl⟩:=aG ue;exact⟨_,_,_,c,jG st ra,jG st rb,e1,k _ ok H (.refl h1 st) (.bl _)⟩
theorem MH (hu:KM X n) (ha:OE X cls E a fa) (hb:OE X cls E b fb):OE X cls E (.Compare a [.Eq] [b] pos) (MB.o2 (kW n) fa fb):=AE (HZ hu) EA ha hb (kM _)
theorem Mb (hu:KM X n) (ha:OE X cls E a fa) (hb:OE X cls E b fb):OT X cls E (.Compare a [.Eq] [b] pos) (cS (MB.o2 (kW n) fa fb)):=qU (HZ hu) EA ha hb (kM _)
theorem LZ (hu:KM X n) (ha:OE X cls E a fa) (hb:OE X cls E b fb):OT X cls E (.Compare a [.NotEq] [b] pos) (cS (MB.o2 (uI n) fa fb)):=qU (Mm hu) Km ha hb (kM _)
end
end L2.MB
end
section
namespace L2.MB
open PySem PySem.Spec PyProof.Rows PySem.W
noncomputable def Tree {α:Type} (n:Nat) (Q:α->Prop):KasT α->Prop
 |.ret a=>Q a
 |.ask i j k=>i<n/\j<n/\∀ b,Tree n Q (k b)
theorem Tree.bind {f:α->KasT β} (g:∀ a,Q a->Tree n R (f a)):∀ {t:KasT α},Tree n Q t->Tree n R (t.bind f)
 |.ret a,h=>by rw[KasT.bind.eq_1];exact g a h
 |.ask i j k,h=>by
  rw[KasT.bind.eq_2];exact⟨h.1,h.2.1,fun b=>Tree.bind g (h.2.2 b)⟩
theorem Tree.run (hl:∀ i j,i<n->j<n->∃ c,lt i j=v9 c):∀ {t:KasT α},Tree n Q t->∃ a,IE lt t=v9 a/\Q a
 |.ret a,h=>⟨a,rfl,h⟩
 |.ask i j k,h=>by
  obtain⟨c,e⟩:=hl i j h.1 h.2.1;obtain⟨a,e2,q⟩:=Tree.run hl (h.2.2 c);refine⟨a,?_,q⟩
  show(lt i j).bind _=_
  rw[e];exact e2
noncomputable def Pm (n:Nat) (p:Array Nat):Prop:=p.Perm (bz n).toArray
theorem Pm.lt (h:Pm n p) (h0:0<n) (i:Nat):p.getD i 0<n:=by
 rw[cw];cases q:p[i]? with
 |none=>exact h0
 |some x=>
  have hm:x∈p:=Array.mem_of_getElem? q
  have:x∈(bz n).toArray:=(h.mem_iff).mp hm
  simpa using this
theorem Pm.rev (h:Pm n p) (i j:Nat):Pm n (kas_rev p i j):=(mirror_perm p i j _).trans h
theorem Pm.bub (h:Pm n p) (k d:Nat):Pm n (bubble p k d):=(bubble_perm p k d).trans h
section
variable {n:Nat} (h0:0<n)
include h0
theorem sE (hp:Pm n p):∀(f m:Nat),Tree n (fun _=>True) (kas_asc p f m)
 |0,m=>by rw[kas_asc.eq_def];trivial
 |f+1,m=>by
  rw[kas_asc.eq_def];refine⟨hp.lt h0 _,hp.lt h0 _,fun b=> ?_⟩;cases b with
  |true=>(dsimp only;rw[if_pos rfl]);trivial
  |false=>(dsimp only;rw[if_neg cq]);exact sE hp f (m+1)
theorem kD:∀(f:Nat) {p:Array Nat} (m q:Nat),Pm n p->Tree n (fun r:Array Nat×Nat×Nat=>Pm n r.1) (kas_desc f p m q)
 |0,p,m,q,hp=>by rw[kas_desc.eq_def];exact hp
 |f+1,p,m,q,hp=>by
  rw[kas_desc.eq_def];refine⟨hp.lt h0 _,hp.lt h0 _,fun b=> ?_⟩;cases b with
  |true=>
   (dsimp only;rw[if_pos rfl])
   by_cases hq:q>0
   ·rw[if_pos hq];exact kD f _ _ (hp.rev _ _)
   ·rw[if_neg hq];exact kD f _ _ hp
  |false=>
   (dsimp only;rw[if_neg cq])
   refine⟨hp.lt h0 _,hp.lt h0 _,fun b=> ?_⟩;cases b with
   |true=>(dsimp only;rw[if_pos rfl]);exact hp
   |false=>(dsimp only;rw[if_neg cq]);exact kD f _ _ hp
theorem uN (m r:Nat) (hp:Pm n p):Tree n (fun r:Nat×Array Nat=>Pm n r.2) (kas_tail3 m r p):=by
 unfold kas_tail3;refine Tree.bind (Q:=fun _=>True) (fun a _=> ?_) (sE h0 (hp.rev _ _) _ _);exact hp.rev _ _
theorem kC (m r:Nat) (hp:Pm n p):Tree n (fun r:Nat×Array Nat=>Pm n r.2) (kas_descPart m r p):=by
 unfold kas_descPart;refine(kD h0 _ _ _ hp).bind fun a ha=> ?_;split
 ·exact uN h0 _ _ (Pm.rev ha _ _)
 ·exact uN h0 _ _ ha
theorem Bu (r:Nat) (hp:Pm n p):Tree n (fun r:Nat×Array Nat=>Pm n r.2) (kas_count r p):=by
 unfold kas_count;refine(sE h0 hp _ _).bind fun a _=> ?_;split
 ·exact hp
 ·split
  ·refine⟨hp.lt h0 _,hp.lt h0 _,fun b=> ?_⟩;cases b with
   |true=>(dsimp only;rw[if_pos rfl]);exact hp
   |false=>(dsimp only;rw[if_neg cq]);exact kC h0 _ _ (hp.rev _ _)
  ·exact kC h0 _ _ hp
theorem lH (hp:Pm n p) (k:Nat):∀(f l r:Nat),Tree n (fun _=>True) (kas_place p k f l r)
 |0,l,r=>by rw[kas_place.eq_def];trivial
 |f+1,l,r=>by
  rw[kas_place.eq_def];show Tree n _ (if l≥r then _ else _);split
  ·trivial
  ·refine⟨hp.lt h0 _,hp.lt h0 _,fun b=> ?_⟩;cases b with
   |true=>(dsimp only;rw[if_pos rfl]);exact lH hp k f _ _
   |false=>(dsimp only;rw[if_neg cq]);exact lH hp k f _ _
theorem Ap:∀(f:Nat) {p:Array Nat} (k:Nat),Pm n p->Tree n (fun r:Array Nat=>Pm n r) (kas_bin f p k)
 |0,p,k,hp=>by rw[kas_bin.eq_def];exact hp
 |f+1,p,k,hp=>by
  rw[kas_bin.eq_def];exact(lH h0 hp k _ _ _).bind fun l _=>Ap f _ (hp.bub _ _)
theorem uO:Tree n (fun r:Array Nat=>Pm n r) (kas_sort n):=by
 unfold kas_sort;refine(Bu h0 _ (vq _)).bind fun r hr=> ?_;split
 ·exact Ap h0 _ _ hr
 ·exact hr
end
theorem sF (h64:ds.length<64) (hk:iN ds=true) (hl:∀ a∈ds,∀ b∈ds,∃ c,dG m a b=v9 c):∃ out,dI m ds=v9 out/\out.Perm ds:=by
 unfold dI
 by_cases h2:ds.length<2
 ·rw[if_pos h2];exact⟨ds,rfl,.refl _⟩
 ·rw[if_neg h2,if_pos ⟨h64,hk⟩];have gm:∀ i,i<ds.length->ds.getD i .non∈ds:=fun i hi=>by
   rw[au,bj hi];exact ij hi
  obtain⟨p,e,hp⟩:=Tree.run (n:=ds.length) (lt:=fun i j=>dG m (ds.getD i .non) (ds.getD j .non)) (fun i j hi hj=>hl _ (gm i hi) _ (gm j hj)) (uO (n:=ds.length) (by omega));rw[e];have pl:p.toList.Perm (bz ds.length):=by
   have:=hp
   unfold Pm at this;rw[pb] at this;simpa using this
  have hl2:p.toList.length<=64:=by rw[pl.length_eq,iw];omega
  refine⟨_,by show(if p.toList.length<=64 then _ else wb)=_;rw[if_pos hl2],?_⟩;refine(pl.map _).trans ?_
  have:(bz ds.length).map (fun i=>ds.getD i .non)=ds:=by
   apply kj;intro i;rw[az];rcases md i ds.length with h|h
   ·rw[gx h,bj h];show v9 (ds.getD i .non)=_;rw[au,bj h];rfl
   ·rw[c3 h,c3 (by simpa using h)];rfl
  rw[this]
noncomputable def TreeL {α:Type} (L:Nat->Nat->Bool) (Q:α->Prop):KasT α->Prop
 |.ret a=>Q a
 |.ask i j k=>TreeL L Q (k (L i j))
theorem TreeL.bind {f:α->KasT β} (g:∀ a,Q a->TreeL L R (f a)):∀ {t:KasT α},TreeL L Q t->TreeL L R (t.bind f)
 |.ret a,h=>by rw[KasT.bind.eq_1];exact g a h
 |.ask i j k,h=>by
  rw[KasT.bind.eq_2];exact TreeL.bind g h
theorem TreeL.run:∀ {t:KasT α}{a:α},TreeL (fun i j=>lt i j==v9 true) Q t->IE lt t=v9 a->Q a
 |.ret a,_,h,e=>by cases e;exact h
 |.ask i j k,a,h,e=>by
  change TreeL _ Q (k (lt i j==v9 true)) at h
  change (lt i j).bind (fun c=>IE lt (k c))=v9 a at e
  cases hq:lt i j with
  |none=>rw[hq] at e;cases e
  |some c=>
   rw[hq] at e h
   have:(v9 c==v9 true)=c:=by cases c <;> rfl
   rw[this] at h;exact TreeL.run h e
theorem Tree.run':∀ {t:KasT α}{a:α},Tree n Q t->IE lt t=v9 a->Q a
 |.ret a,_,h,e=>by cases e;exact h
 |.ask i j k,a,h,e=>by
  obtain⟨c,e1,e2⟩:=bind_some (show(lt i j).bind _=_ from e);exact Tree.run' (h.2.2 c) e2
section
variable {n:Nat}{L:Nat->Nat->Bool} (ht:∀ i j,i<n->j<n->i≠j->L i j=false->L j i=true) (hr:∀ i j k,i<n->j<n->k<n->L i j=true->L j k=true->L i k=true)
noncomputable def Asc (L:Nat->Nat->Bool) (p:Array Nat) (m:Nat):Prop:=∀ i j,i<j->j<m->L (p.getD i 0) (p.getD j 0)=true
noncomputable def Dsc (L:Nat->Nat->Bool) (p:Array Nat) (m:Nat):Prop:=∀ i j,i<j->j<m->L (p.getD j 0) (p.getD i 0)=true
theorem Pm.size (h:Pm n p):p.size=n:=by
 have:=h.size_eq
 simpa using this
theorem Pm.ne (h:Pm n p) (hi:i<n) (hj:j<n) (hne:i≠j):p.getD i 0≠p.getD j 0:=by
 have pl:p.toList.Perm (bz n):=by
  have:=h
  unfold Pm at this;rw[pb] at this;simpa using this
 have nd:p.toList.Nodup:=pl.nodup_iff.mpr List.nodup_range;have hs:=h.size;intro z;have gi:p.getD i 0=p.toList[i]'(by simp[hs,hi]):=by
  rw[cw,jr (by omega)];simp
 have gj:p.getD j 0=p.toList[j]'(by simp[hs,hj]):=by
  rw[cw,jr (by omega)];simp
 rw[gi,gj] at z;have pw:=lm.mp nd;rcases Nat.lt_or_gt_of_ne hne with q|q
 ·exact pw i j _ _ q z
 ·exact pw j i _ _ q z.symm
include ht hr in
theorem HC {p:Array Nat} (h0:0<n) (hp:Pm n p) {m:Nat} (h1:1<=m) (hm:m<n) (a:Asc L p m) (c:L (p.getD m 0) (p.getD (m-1) 0)=false):Asc L p (m+1):=by
 have up:=ht _ _ (hp.lt h0 m) (hp.lt h0 (m-1)) (hp.ne hm (by omega) (by omega)) c;intro i j hij hj
 by_cases e:j=m
 ·subst e
  by_cases e2:i=j-1
  ·rw[e2];exact up
  ·exact hr _ _ _ (hp.lt h0 _) (hp.lt h0 _) (hp.lt h0 _) (a i (j-1) (by omega) (by omega)) up
 ·exact a i j hij (by omega)
include ht hr in
theorem xX {p:Array Nat} (h0:0<n) (hp:Pm n p):∀(f m:Nat),1<=m->m+f<=n->Asc L p m->TreeL L (fun q=>m<=q/\q<=m+f/\Asc L p q/\(q<m+f->L (p.getD q 0) (p.getD (q-1) 0)=true)) (kas_asc p f m)
 |0,m,h1,hm,a=>by
  rw[kas_asc.eq_def];exact⟨bp _,bp _,a,fun z=>by omega⟩
 |f+1,m,h1,hm,a=>by
  rw[kas_asc.eq_def];show TreeL L _ (if L (p.getD m 0) (p.getD (m-1) 0)=true then KasT.ret m else kas_asc p f (m+1));cases c:L (p.getD m 0) (p.getD (m-1) 0) with
  |true=>
   rw[if_pos rfl];exact⟨bp _,by omega,a,fun _=>c⟩
  |false=>
   rw[if_neg cq];have ih:=xX h0 hp f (m+1) (by omega) (by omega) (HC ht hr h0 hp h1 (by omega) a c)
   have:m+1+f=m+(f+1):=by omega
   rw[this] at ih;have mono:∀ {t:KasT Nat},TreeL L (fun q=>m+1<=q/\q<=m+(f+1)/\Asc L p q/\(q<m+(f+1)->L (p.getD q 0) (p.getD (q-1) 0)=true)) t->TreeL L (fun q=>m<=q/\q<=m+(f+1)/\Asc L p q/\(q<m+(f+1)->L (p.getD q 0) (p.getD (q-1) 0)=true)) t:=by
    intro t
    induction t with
    |ret a=>exact fun h=>⟨by have:=h.1;omega,h.2⟩
    |ask i j k ih=>exact fun h=>ih _ h
   exact mono ih
include ht hr in
theorem AD {p:Array Nat} (h0:0<n) (hp:Pm n p):∀(f m:Nat),1<=m->m+f<=n->Dsc L p m->TreeL L (fun r:Array Nat×Nat×Nat=>r.1=p/\r.2.2=0/\m<=r.2.1/\r.2.1<=m+f/\Dsc L p r.2.1) (kas_desc f p m 0)
 |0,m,h1,hm,a=>by
  rw[kas_desc.eq_def];exact⟨rfl,rfl,bp _,bp _,a⟩
 |f+1,m,h1,hm,a=>by
  rw[kas_desc.eq_def];show TreeL L _ (if L (p.getD m 0) (p.getD (m-1) 0)=true then(if 0>0 then kas_desc f (kas_rev p (m-(0+1)) m) (m+1) 0 else kas_desc f p (m+1) 0) else KasT.ask (p.getD (m-1) 0) (p.getD m 0) fun d=>if d=true then .ret (p,m,0) else kas_desc f p (m+1) (0+1));cases c:L (p.getD m 0) (p.getD (m-1) 0) with
  |true=>
   rw[if_pos rfl,if_neg (fx 0)];have a':Dsc L p (m+1):=by
    intro i j hij hj
    by_cases e:j=m
    ·subst e
     by_cases e2:i=j-1
     ·rw[e2];exact c
     ·exact hr _ _ _ (hp.lt h0 _) (hp.lt h0 _) (hp.lt h0 _) c (a i (j-1) (by omega) (by omega))
    ·exact a i j hij (by omega)
   have ih:=AD h0 hp f (m+1) (by omega) (by omega) a';have mono:∀ {t:KasT (Array Nat×Nat×Nat)},TreeL L (fun r:Array Nat×Nat×Nat=>r.1=p/\r.2.2=0/\m+1<=r.2.1/\r.2.1<=m+1+f/\Dsc L p r.2.1) t->TreeL L (fun r:Array Nat×Nat×Nat=>r.1=p/\r.2.2=0/\m<=r.2.1/\r.2.1<=m+(f+1)/\Dsc L p r.2.1) t:=by
    intro t
    induction t with
    |ret a=>exact fun h=>⟨h.1,h.2.1,by have:=h.2.2.1;omega,by have:=h.2.2.2.1;omega,h.2.2.2.2⟩
    |ask i j k ih=>exact fun h=>ih _ h
   exact mono ih
  |false=>
   rw[if_neg cq];show TreeL L _ (if L (p.getD (m-1) 0) (p.getD m 0)=true then KasT.ret (p,m,0) else _);rw[if_pos (ht _ _ (hp.lt h0 _) (hp.lt h0 _) (hp.ne (by omega) (by omega) (by omega)) c)];exact⟨rfl,rfl,bp _,by show m<=m+(f+1);omega,a⟩
theorem AV (hm:m<=p.size) (hk:k<m):(kas_rev p 0 m).getD k 0=p.getD (m-1-k) 0:=by
 unfold kas_rev;rw[cw,cw,getElem?_mirror_all hm,if_pos ⟨im _,hk⟩,Nat.zero_add]
theorem Dsc.rev (hm:m<=p.size) (d:Dsc L p m):Asc L (kas_rev p 0 m) m:=fun i j hij hj=>by
 rw[AV hm (by omega),AV hm hj];exact d _ _ (by omega) (by omega)
include ht hr in
theorem Dr {p:Array Nat} (h2:2<=n) (hp:Pm n p):TreeL L (fun r:Nat×Array Nat=>Pm n r.2/\1<=r.1/\r.1<=n/\Asc L r.2 r.1) (kas_count n p):=by
 have h0:0<n:=by omega
 unfold kas_count;refine(xX ht hr h0 hp (n-1) 1 (bp _) (by omega) fun i j hij hj=>by omega).bind fun q hq=> ?_;obtain⟨q1,q2,qa,qs⟩:=hq
 by_cases e:q=n
 ·rw[if_pos (by simpa using e)];exact⟨hp,q1,by omega,qa⟩
 ·rw[if_neg (by simpa using e)]
  by_cases h1:q>1
  ·rw[if_pos h1];show TreeL L _ (if L (p.getD 0 0) (p.getD (q-1) 0)=true then KasT.ret (q,p) else _);rw[if_pos (qa 0 (q-1) (by omega) (by omega))];exact⟨hp,q1,by omega,qa⟩
  ·rw[if_neg h1];have hq1:q=1:=by omega
   subst hq1;have c:=qs (by omega);unfold kas_descPart;refine(AD ht hr h0 hp (n-(1+1)) (1+1) (by omega) (by omega) fun i j hij hj=> ?_).bind fun r hrr=> ?_
   ·have:i=0/\j=1:=by omega
    rw[this.1,this.2];exact c
   ·obtain⟨r1,r2,r3,r4,r5⟩:=hrr;rw[if_neg (by omega),r1];unfold kas_tail3;have hs:=hp.size;refine(xX ht hr h0 (hp.rev 0 r.2.1) (n-r.2.1) r.2.1 (by omega) (by omega) (r5.rev (by omega))).bind fun m hm=> ?_;exact⟨hp.rev _ _,by have:=hm.1;show 1<=m;omega,by have:=hm.2.1;show m<=n;omega,hm.2.2.1⟩
include ht hr in
theorem nP {p:Array Nat} (h0:0<n) (hp:Pm n p) {k:Nat} (hk:k<n) (a:Asc L p k):∀(f l r:Nat),l<=r->r<=k->r-l<=f->(∀ i,i<l->L (p.getD i 0) (p.getD k 0)=true)->(∀ i,r<=i->i<k->L (p.getD k 0) (p.getD i 0)=true)->TreeL L (fun q=>q<=k/\(∀ i,i<q->L (p.getD i 0) (p.getD k 0)=true)/\(∀ i,q<=i->i<k->L (p.getD k 0) (p.getD i 0)=true)) (kas_place p k f l r)
 |0,l,r,h1,h2,h3,h4,h5=>by
  rw[kas_place.eq_def]
  have:r=l:=by omega
  subst this;exact⟨h2,h4,h5⟩
 |f+1,l,r,h1,h2,h3,h4,h5=>by
  rw[kas_place.eq_def];show TreeL L _ (if l≥r then KasT.ret l else _)
  by_cases e:l≥r
  ·rw[if_pos e]
   have:r=l:=by omega
   subst this;exact⟨h2,h4,h5⟩
  ·rw[if_neg e];show TreeL L _ (if L (p.getD k 0) (p.getD ((l+r) / 2) 0)=true then kas_place p k f l ((l+r) / 2) else kas_place p k f ((l+r) / 2+1) r);cases c:L (p.getD k 0) (p.getD ((l+r) / 2) 0) with
   |true=>
    rw[if_pos rfl];refine nP h0 hp hk a f l ((l+r) / 2) (by omega) (by omega) (by omega) h4 fun i hi hik=> ?_
    by_cases e2:i=(l+r) / 2
    ·rw[e2];exact c
    ·exact hr _ _ _ (hp.lt h0 _) (hp.lt h0 _) (hp.lt h0 _) c (a _ _ (by omega) hik)
   |false=>
    rw[if_neg cq];have up:=ht _ _ (hp.lt h0 _) (hp.lt h0 _) (hp.ne hk (by omega) (by omega)) c;refine nP h0 hp hk a f ((l+r) / 2+1) r (by omega) (by omega) (by omega) (fun i hi=> ?_) h5
    by_cases e2:i=(l+r) / 2
    ·rw[e2];exact up
    ·exact hr _ _ _ (hp.lt h0 _) (hp.lt h0 _) (hp.lt h0 _) (a _ _ (by omega) (by omega)) up
theorem AW (hk:k<p.size) (hl:l<=k):(bubble p k (k-l)).getD i 0=if i=l then p.getD k 0 else if l<i/\i<=k then p.getD (i-1) 0 else p.getD i 0:=by
 rw[cw,getElem?_bubble hk (k-l) (by omega)]
 have:k-(k-l)=l:=by omega
 rw[this]
 by_cases h1:i=l
 ·rw[if_pos h1,if_pos h1,cw]
 ·rw[if_neg h1,if_neg h1]
  by_cases h2:l<i/\i<=k
  ·rw[if_pos h2,if_pos h2,cw]
  ·rw[if_neg h2,if_neg h2,cw]
theorem Asc.bub (hk:k<p.size) (hl:l<=k) (a:Asc L p k) (h1:∀ i,i<l->L (p.getD i 0) (p.getD k 0)=true) (h2:∀ i,l<=i->i<k->L (p.getD k 0) (p.getD i 0)=true):Asc L (bubble p k (k-l)) (k+1):=by
 intro i j hij hj;rw[AW hk hl,AW hk hl]
 by_cases i1:i=l
 ·rw[if_pos i1,if_neg (by omega),if_pos (by omega)];exact h2 _ (by omega) (by omega)
 ·rw[if_neg i1]
  by_cases i2:l<i/\i<=k
  ·rw[if_pos i2,if_neg (by omega),if_pos (by omega)];exact a _ _ (by omega) (by omega)
  ·rw[if_neg i2]
   by_cases j1:j=l
   ·rw[if_pos j1];exact h1 _ (by omega)
   ·rw[if_neg j1]
    by_cases j2:l<j/\j<=k
    ·rw[if_pos j2];exact a _ _ (by omega) (by omega)
    ·rw[if_neg j2];exact a _ _ (by omega) (by omega)
include ht hr in
theorem Ds:∀(f:Nat) {p:Array Nat} (k:Nat),Pm n p->1<=k->k+f=n->Asc L p k->TreeL L (fun r:Array Nat=>Pm n r/\Asc L r n) (kas_bin f p k)
 |0,p,k,hp,_,hk,a=>by
  rw[kas_bin.eq_def]
  have:k=n:=by omega
  subst this;exact⟨hp,a⟩
 |f+1,p,k,hp,h1,hk,a=>by
  rw[kas_bin.eq_def];have hs:=hp.size;refine(nP ht hr (by omega) hp (by omega) a k 0 k (by omega) (bp _) (by omega) (fun i hi=>by omega) fun i hi hik=>by omega).bind fun l hl=> ?_;exact Ds f (k+1) (hp.bub _ _) (by omega) (by omega) (Asc.bub (by omega) hl.1 a hl.2.1 hl.2.2)
include ht hr in
theorem Gd (h2:2<=n):TreeL L (fun r:Array Nat=>Asc L r n) (kas_sort n):=by
 unfold kas_sort;refine(Dr ht hr h2 (vq _)).bind fun r hrr=> ?_;obtain⟨r1,r2,r3,r4⟩:=hrr;have weak:∀ {t:KasT (Array Nat)},TreeL L (fun r:Array Nat=>Pm n r/\Asc L r n) t->TreeL L (fun r:Array Nat=>Asc L r n) t:=by
  intro t
  induction t with
  |ret a=>exact fun h=>h.2
  |ask i j k ih=>exact fun h=>ih _ h
 by_cases e:r.1<n
 ·rw[if_pos e,Nat.max_eq_left r2];exact weak (Ds ht hr (n-r.1) r.1 r1 r2 (by omega) r4)
 ·rw[if_neg e]
  have:r.1=n:=by omega
  rw[this] at r4;exact r4
end
theorem CP (hs:dI m ds=v9 out) (ht:∀ i j,i<ds.length->j<ds.length->i≠j->dG m (ds.getD i .non) (ds.getD j .non)=v9 true∨dG m (ds.getD j .non) (ds.getD i .non)=v9 true)
  (hr:∀ a∈ds,∀ b∈ds,∀ c∈ds,dG m a b=v9 true->dG m b c=v9 true->dG m a c=v9 true):out.Pairwise fun a b=>dG m a b=v9 true:=by
 unfold dI at hs
 by_cases h2:ds.length<2
 ·rw[if_pos h2] at hs;cases hs
  match ds,h2 with
  |[],_=>exact .nil
  |[a],_=>simp
 ·rw[if_neg h2] at hs;obtain⟨h64,hs⟩:=cJ hs;obtain⟨p,e1,e2⟩:=bind_some hs;obtain⟨_,e3⟩:=cJ e2;cases e3;have gm:∀ i,i<ds.length->ds.getD i .non∈ds:=fun i hi=>by
   rw[au,bj hi];exact ij hi
  have A:=TreeL.run (Gd (n:=ds.length) (L:=fun i j=>dG m (ds.getD i .non) (ds.getD j .non)==v9 true) (fun i j hi hj hne c=>by
   rcases ht i j hi hj hne with z|z
   ·rw[z] at c;cases c
   ·rw[z];rfl) (fun i j k hi hj hk a b=>by
   have a':dG m (ds.getD i .non) (ds.getD j .non)=v9 true:=by simpa using a
   have b':dG m (ds.getD j .non) (ds.getD k .non)=v9 true:=by simpa using b
   rw[hr _ (gm i hi) _ (gm j hj) _ (gm k hk) a' b'];rfl) (by omega)) e1
  have hp:Pm ds.length p:=by
   exact Tree.run' (uO (n:=ds.length) (by omega)) e1
  have sz:=hp.size;rw[List.pairwise_map,lm];intro i j hi hj hij;have hi':i<p.size:=by simpa using hi
  have hj':j<p.size:=by simpa using hj
  have:=A i j hij (by omega)
  rw[cw,jr hi',cw,jr hj'] at this;simpa using this
noncomputable def sLt (x y:Str):Prop:=x.cps.toList<y.cps.toList
theorem CZ (h1:sLt x y) (h2:sLt y z):sLt x z:=List.lt_trans h1 h2
theorem qQ (x:Str):¬ sLt x x:=List.lt_irrefl _
theorem Da (h:x≠y):sLt x y∨sLt y x:=by
 by_cases q:x.cps.toList<y.cps.toList
 ·exact .inl q
 ·by_cases q2:y.cps.toList<x.cps.toList
  ·exact .inr q2
  ·exfalso
   apply h
   have:x.cps.toList=y.cps.toList:=List.le_antisymm (List.not_lt.mp q2) (List.not_lt.mp q)
   cases x;cases y;simp at this;simp[this]
noncomputable abbrev mLt (a b a' b':Int):Prop:=a<a'∨(a=a'/\b<b')
noncomputable def eLt (x:Str) (a b v:Int) (x':Str) (a' b' v':Int):Prop:=sLt x x'∨(x=x'/\(mLt a b a' b'∨(a=a'/\b=b'/\v<v')))
theorem GA (a b a' b':Int):OL [a,b] [a',b']=decide (mLt a b a' b'):=by
 show(if a=a' then(if b=b' then false else decide (b<b')) else decide (a<a'))=_
 unfold mLt
 by_cases h:a=a'
 ·rw[if_pos h]
  by_cases h2:b=b'
  ·rw[if_pos h2];simp[h,h2]
  ·rw[if_neg h2];simp[h]
 ·rw[if_neg h];simp[h]
theorem Hk (a b a' b':Int):eqD 4 (.tup [.int a,.int b]) (.tup [.int a',.int b'])=v9 (decide (a=a'/\b=b')):=by
 have:eqD 4 (.tup [.int a,.int b]) (.tup [.int a',.int b'])=v9 ((a==a'&&(b==b'&&true))&&true):=rfl
 rw[this]
 congr 1
 by_cases h:a=a' <;> by_cases h2:b=b' <;> simp[h,h2]
theorem No (n:Nat) (x y:Str):eqD n (.str x) (.str y)=v9 (decide (x=y)):=by cases n <;> rfl
theorem AJ (x:Str) (a b v:Int) (x':Str) (a' b' v':Int):dG 4 (.tup [.str x,.tup [.int a,.int b],.int v]) (.tup [.str x',.tup [.int a',.int b'],.int v'])=v9 true↔eLt x a b v x' a' b' v':=by
 show(match eqD 4 (.str x) (.str x') with
  |some true=>(match eqD 4 (.tup [.int a,.int b]) (.tup [.int a',.int b']) with
   |some true=>(match eqD 4 (.int v) (.int v') with
    |some true=>v9 (decide (3<3))
    |some false=>fK (.int v) (.int v')
    |none=>wb)
   |some false=>fK (.tup [.int a,.int b]) (.tup [.int a',.int b'])
   |none=>wb)
  |some false=>fK (.str x) (.str x')
  |none=>wb)=v9 true↔_
 rw[No,Hk];have e3:eqD 4 (.int v) (.int v')=v9 (decide (v=v')):=rfl;rw[e3];unfold eLt
 by_cases hx:x=x'
 ·rw[decide_eq_true hx]
  show(match v9 (decide (a=a'/\b=b')) with
   |some true=>(match v9 (decide (v=v')) with
    |some true=>v9 (decide (3<3))
    |some false=>fK (.int v) (.int v')
    |none=>wb)
   |some false=>fK (.tup [.int a,.int b]) (.tup [.int a',.int b'])
   |none=>wb)=v9 true↔_
  have nx:¬ sLt x x':=by rw[hx];exact qQ _
  by_cases hm:a=a'/\b=b'
  ·rw[decide_eq_true hm];have nm:¬ mLt a b a' b':=by unfold mLt;omega
   by_cases hv:v=v'
   ·rw[decide_eq_true hv];show v9 (decide (3<3))=v9 true↔_;constructor
    ·intro z;simp at z
    ·rintro(z|⟨_,z|z⟩)
     ·exact absurd z nx
     ·exact absurd z nm
     ·omega
   ·rw[decide_eq_false hv];show v9 (decide (v<v'))=v9 true↔_;constructor
    ·intro z;exact .inr ⟨hx,.inr ⟨hm.1,hm.2,by simpa using z⟩⟩
    ·rintro(z|⟨_,z|z⟩)
     ·exact absurd z nx
     ·exact absurd z nm
     ·simpa using z.2.2
  ·rw[decide_eq_false hm];show v9 (OL [a,b] [a',b'])=v9 true↔_;rw[GA];constructor
   ·intro z;exact .inr ⟨hx,.inl (by simpa using z)⟩
   ·rintro(z|⟨_,z|z⟩)
    ·exact absurd z nx
    ·simpa using z
    ·exact absurd ⟨z.1,z.2.1⟩ hm
 ·rw[decide_eq_false hx];show v9 (decide (x.cps.toList<x'.cps.toList))=v9 true↔_;constructor
  ·intro z;exact .inl (by simpa [sLt] using z)
  ·rintro(z|⟨z,_⟩)
   ·simpa [sLt] using z
   ·exact absurd z hx
theorem EI (h1:eLt x a b v x' a' b' v') (h2:eLt x' a' b' v' x2 a2 b2 v2):eLt x a b v x2 a2 b2 v2:=by
 unfold eLt at*;rcases h1 with h1|⟨rfl,h1⟩
 ·rcases h2 with h2|⟨rfl,h2⟩
  ·exact .inl (CZ h1 h2)
  ·exact .inl h1
 ·rcases h2 with h2|⟨rfl,h2⟩
  ·exact .inl h2
  ·refine .inr ⟨rfl,?_⟩;unfold mLt at*;omega
theorem iM {r:α->α->Prop} (ha:∀ a b,r a b->r b a->False):∀ {l m:List α},l.Perm m->l.Pairwise r->m.Pairwise r->l=m
 |[],m,h,_,_=>(List.nil_perm.mp h).symm
 |a::l,m,h,h1,h2=>by
  cases m with
  |nil=>exact absurd h.length_eq (by simp)
  |cons b m=>
   rw[List.pairwise_cons] at h1 h2;have e:a=b:=by
    have m1:a∈b::m:=h.mem_iff.mp ar;have m2:b∈a::l:=h.mem_iff.mpr ar;rcases aj.mp m1 with z|z
    ·exact z
    ·rcases aj.mp m2 with w|w
     ·exact w.symm
     ·exact(ha a b (h1.1 b w) (h2.1 a z)).elim
   subst e;rw[iM ha (List.Perm.cons_inv h) h1.2 h2.2]
section
variable {X:Cx}{cls exC:Nat->af}{E:XE}{e a b c o i value:bx}{es rest:List bx}{fa fb fc fo fi fv:OG D}{fl:OG (List D)}{pos p apos pos' cpos:Pos}{x m:Str}{st:cx}
theorem AL {E:ag->am->Prop}{vs:List ag} (hl:s.heap.IsList l vs.toArray) (hz:vs.length<=sizeLine)
  (h:∀(h':cz) (tk:Nat) (acc:Array ag),(∀ b o,s.heap.get? b=v9 o->h'.get? b=v9 o)->ItemsOf (fun j v=>vs[j]?=v9 v) acc vs.length->R acc.toList { s with heap:=h',toks:=tk }):ax (model prog w) A (collect (.ref l)) R E s:=by
 refine collect_list hl ?_ hz
 have:=h ((s.heap.push (gp "list" #[] 0)).update s.heap.objs.size (ka (· ++vs.toArray))) s.toks vs.toArray (fun b o q=>by
  have hlt:b<s.heap.objs.size:=br q;rw[Heap.get?_update_ne _ _ _ _ (cm hlt),Heap.get?_push_ne _ _ _ (cm hlt)];exact q) ⟨by simp,fun j v q=>by simpa using q⟩
 simpa using this
noncomputable def Lr (K:aa) (n:Nat):List V->Hp->VK->Prop:=fun xs H Q=>∃ a ys ds out ok,xs=[.ref a]/\H a=v9 (.lst ys)/\Reps K ok H ys ds/\dI n ds=v9 out/\∀ l zs,H l=wb->Reps K ok H zs out->Q (.ref l) (upd H l (.lst zs))
theorem Fa (hu:X.A.units+(n+2)<dn):CallR X (.builtin "sorted") (Lr X.K n):=by
 intro pins s σ H xs us Q I r h;obtain⟨a,ys,ds,out,ok,rfl,ha,rs,hs,q⟩:=h;obtain⟨u,rfl,rx⟩:=lG r;cases rx;obtain⟨hz,its,c,rv,hlen,eo⟩:=I.lstM ha;have hli:s.heap.IsList a its.toArray:=⟨_,eo,rfl,c,rfl⟩;have hPP:∀(j:Nat) v x,its[j]?=v9 v->ys[j]?=v9 x->RelV x v:=fun j v x e1 e2=>by
  obtain⟨v',e3,r3⟩:=rv.get e2;rw[e1] at e3;cases e3;exact r3
 have dl:ds.length=its.length:=by rw[<- rs.length,hlen]
 by_cases hl:ds.length<2
 ·obtain rfl:=nH hs hl;refine nE (fun h=>AL hli (by omega) h) (by omega) fun h' tk vs l c kp na hvl hP ho=> ?_;have rv2:Vals ys vs:=xI (by omega) fun j w hw=>by
   have hj:j<ys.length:=by
    have:=(bg.mp hw).1
    omega
   exact⟨ys[j],bj hj,hPP j w _ (hP j w hw) (bj hj)⟩
  obtain⟨hn,I'⟩:=I.laidN (t':=tk) kp na (sS (H:=upd H l (.lst ys)) rv2 hz ho);exact⟨.ref l,_,I',rfl,q l _ hn rs⟩
 ·have h64:=nG hs hl;exact nD I (fun h=>AL hli (by omega) h) (by omega) (by omega) hu (by omega) hPP rs hs fun h' tk ys l nl I' rs'=>⟨.ref l,_,I',rfl,q l ys nl rs'⟩
noncomputable def Eo (n:Nat) (ω:Om) (ds:List D):Option (D×Om):=match ds with
 |[d]=>match dJ ω d with
  |some xs=>(dI n xs).map fun out=>(.lst out,ω)
  |none=>wb
 |_=>wb
theorem Ha {K:aa}:uH cls K (Lr K n) (Eo n):=fun ok H ω xs as d ω' Q h1 st r e k=>by
 unfold Eo at e;split at e
 ·split at e
  ·rename_i ys hseq
   obtain⟨out,e5,e6⟩:=aG e;cases e6;obtain⟨v,rfl,r1⟩:=r.one_inv;obtain⟨a,xs,rfl,g,rs⟩:=fZ st r1 hseq;exact⟨a,xs,ys,out,ok,rfl,g,rs,e5,fun l zs nl rz=>k _ ok _ (.same h1 st (bX nl)) (.lst_new (h1 l nl) nl rz)⟩
  ·cases e
 ·cases e
end
section
variable {X:Cx}{cls exC:Nat->af}{E:XE}{e a b c o i value:bx}{es rest:List bx}{fa fb fc fo fi fv:OG D}{fl:OG (List D)}{pos p apos pos' cpos:Pos}{x m:Str}{st:cx}
end
section
variable {P:c9}{w:df}{K:aa}{mg:Str->Option ag}{base:cz}{cls exC:Nat->af}
noncomputable def Bod (P:c9) (w:df) (K:aa) (mg:Str->Option ag) (base:cz) (cls exC:Nat->af) (k:Nat) (N:List Str) (q:Str) (st:cx) (G:OS):Prop:=∀(f:af) (cdv:ag) (A:di) (outer:List Env) (s:am) (H:Hp) (E:XK),Room k (A.deeper (jf q (aX st) s.heap.objs.size f cdv))->(A.deeper (jf q (aX st) s.heap.objs.size f cdv)).units+8<dn->(A.deeper (jf q (aX st) s.heap.objs.size f cdv)).units+1<dn->(A.deeper (jf q (aX st) s.heap.objs.size f cdv)).units+(4+2)<dn->
 Exc (zH (CX1 P w exC) P w K mg base N q (aX st) f cdv A outer s H E) exC (fun c H'=>E (.ref (exC c)) wb H')->NM (zH (CX1 P w exC) P w K mg base N q (aX st) f cdv A outer s H E) exC (fun c H'=>E (.ref (exC c)) wb H')->OSs (zH (CX1 P w exC) P w K mg base N q (aX st) f cdv A outer s H E) cls (fun c H'=>E (.ref (exC c)) wb H') (fR st) G
theorem Bk {x q:Str}{st:cx}{f:af}{fd:jk}{N ps:List Str}{k:Nat}{G:OS} (F:Fun K x q st f fd) (sc:kA N ps (aX st)) (b:Bod P w K mg base cls exC k N q st G):qH P w K mg base (CX1 P w exC) (k+1) f fd ps (spO cls exC K (eA ps.length N G)):=
 Qy F sc fun cdv A outer s H E hr hE hR=>b f cdv A outer s H E hr (EK hr) (OQ hr) (by have h8:(A.deeper (jf q (aX st) s.heap.objs.size f cdv)).units+8<dn:=EK hr;omega) hE hR
noncomputable def All:Nat->(List ag->Prop)->Prop
 |0,Q=>Q []
 |n+1,Q=>∀ a,All n fun l=>Q (a::l)
theorem All.out:∀ {n:Nat}{Q:List ag->Prop},All n Q->∀ us:List ag,us.length=n->Q us
 |0,_,h,[],_=>h
 |_+1,_,h,a::_,e=>(h a).out _ (Nat.succ.inj e)
noncomputable def Bnd (x q:Str) (st:cx) (ps:List Str):Prop:=All ps.length fun us=>∀(kV doc pm:ag) (an:Option af) (cdv ct:ag),bindArgs (ic x q (gS st) (fR st) (aX st) .none kV doc pm an cdv ct) ⟨us,[]⟩=pure (ps.zip us)
theorem Bnd.out {x q:Str}{st:cx}{ps:List Str}{f:af}{fd:jk} (h:Bnd x q st ps) (F:Fun K x q st f fd):Binds K fd ps []:=F.binds fun _ _ _ _ _ _ us e=>All.out h us e _ _ _ _ _ _
theorem dfD {x:Str}{st:cx}{N ps:List Str}{k:Nat}{G:OS} (e:∃ f fd,NL K mg x st f fd) (b:Bod P w K mg base cls exC k N x st G) (sc:kA N ps (aX st):=by constructor <;> first|rfl|decide+kernel) (hb:Bnd x x st ps:=by first|exact fun _ _ _ _ _ _ _=>rfl|exact fun _ _ _ _ _ _ _ _=>rfl|exact fun _ _ _ _ _ _ _ _ _=>rfl|exact fun _ _ _ _ _ _ _ _ _ _=>rfl):pN P w K mg base cls exC (k+1) x ps (eA ps.length N G):=
 let ⟨f,fd,F⟩:=e
 ⟨f,fd,Bk F.fn sc b,F.at_,F.fn.kp,hb.out F.fn⟩
theorem dfM {x q:Str}{st:cx}{N ps:List Str}{k c:Nat}{G:OS} (e:∃ f fd,Fun K x q st f fd/\HK K (cls c) x f) (hc:Cls K (cls c)) (b:Bod P w K mg base cls exC k N q st G) (sc:kA N ps (aX st):=by constructor <;> first|rfl|decide+kernel) (hb:Bnd x q st ps:=by first|exact fun _ _ _ _ _ _ _=>rfl|exact fun _ _ _ _ _ _ _ _=>rfl|exact fun _ _ _ _ _ _ _ _ _=>rfl|exact fun _ _ _ _ _ _ _ _ _ _=>rfl):pM P w K mg base cls exC (k+1) c x ps (eA ps.length N G):=
 let ⟨f,fd,F,M⟩:=e
 ⟨⟨f,fd,Bk F sc b,M,hb.out F⟩,hc⟩
theorem dfI {x q:Str}{st:cx}{N ps:List Str}{k c:Nat}{C:Str}{G:OS} (e:∃ f fd,Fun K x q st f fd/\Mk K (cls c) f) (hm:mg C=v9 (.ref (cls c))) (b:Bod P w K mg base cls exC k N q st G) (sc:kA N ps (aX st):=by constructor <;> first|rfl|decide+kernel) (hb:Bnd x q st ps:=by first|exact fun _ _ _ _ _ _ _=>rfl|exact fun _ _ _ _ _ _ _ _=>rfl|exact fun _ _ _ _ _ _ _ _ _=>rfl|exact fun _ _ _ _ _ _ _ _ _ _=>rfl):NK P w K mg base cls exC (k+1) c C ps (eA ps.length N G):=
 let ⟨f,fd,F,M⟩:=e
 ⟨⟨f,fd,Bk F sc b,M,hb.out F⟩,hm⟩
end
noncomputable abbrev FF (K:aa) (mg:Str->Option ag) (x:Str) (st:cx):Prop:=∃ f fd,NL K mg x st f fd
noncomputable abbrev FM (K:aa) (C:af) (x q:Str) (st:cx):Prop:=∃ f fd,Fun K x q st f fd/\HK K C x f
noncomputable abbrev FI (K:aa) (C:af) (x q:Str) (st:cx):Prop:=∃ f fd,Fun K x q st f fd/\Mk K C f
noncomputable def AllP (p:Str->Str->cx->Prop):List (Str×Str×cx)->Prop
 |[]=>True
 |(x,q,s)::r=>p x q s/\AllP p r
theorem AllP.imp {p p':Str->Str->cx->Prop} (f:∀ x q s,p x q s->p' x q s):∀ {l:List (Str×Str×cx)},AllP p l->AllP p' l
 |[],_=>trivial
 |(_,_,_)::_,⟨a,b⟩=>⟨f _ _ _ a,AllP.imp f b⟩
theorem AllP.get {p:Str->Str->cx->Prop}{x q:Str}{s:cx}:∀ {l:List (Str×Str×cx)} (_:AllP p l) (i:Nat) (_:l[i]?=v9 (x,q,s)),p x q s
 |(_,_,_)::_,⟨a,_⟩,0,e=>by cases e;exact a
 |(_,_,_)::_,⟨_,b⟩,i+1,e=>b.get i e
noncomputable def PQ (K:aa) (C:af) (m qual:Str) (st:cx) (f:af):Prop:=∃(oc:ag) (od an:Option af) (osl:Array (Option ag)) (kV doc pm cdv ct:ag),gs K (.ref C) m=v9 (v9 (.ref f))/\n5 K (.ref f)=true/\
 K.lookup f=v9 ⟨oc,od,.func (ic m qual (gS st) (fR st) (aX st) .none kV doc pm an cdv ct),osl⟩/\jv K cdv qual=true/\fy K (.ref f)=true
theorem mtIn_mk {K:aa}{C:af}{m qual:Str}{st:cx}{f:af}{oc:ag}{od an:Option af}{osl:Array (Option ag)}{kV doc pm cdv ct:ag} (a:gs K (.ref C) m=v9 (v9 (.ref f)))
  (l:K.lookup f=v9 ⟨oc,od,.func (ic m qual (gS st) (fR st) (aX st) .none kV doc pm an cdv ct),osl⟩) (b:n5 K (.ref f)=true) (c:jv K cdv qual=true) (k:fy K (.ref f)=true):PQ K C m qual st f:=
 ⟨oc,od,an,osl,kV,doc,pm,cdv,ct,a,b,l,c,k⟩
noncomputable def mtF (K:aa) (C:af) (m qual:Str) (st:cx):Prop:=∃ f,PQ K C m qual st f
theorem mtF.out {K:aa}{C:af}{m qual:Str}{st:cx} (h:mtF K C m qual st):∃ f fd,Fun K m qual st f fd/\HK K C m f:=by
 obtain⟨f,oc,od,an,osl,kV,doc,pm,cdv,ct,a,b,l,c,k⟩:=h;exact⟨f,_,Il l c k,a,b,k⟩
noncomputable def clsIn (K:aa) (x:Str) (C:af):Prop:=cu K ce x=v9 (v9 (.ref C))
noncomputable def mkIn (K:aa) (C:af):Prop:=qj K C=true/\fy K (.ref C)=true
theorem mtF.mk {K:aa}{C:af}{qual:Str}{st:cx} (h:mtF K C "__init__" qual st) (k:mkIn K C):FI K C "__init__" qual st:=match h.out with|⟨f,fd,F,M⟩=>⟨f,fd,F,⟨k.1,M.at_,M.fn,k.2⟩⟩
theorem own_mk {K:aa}{C:af}{tl:List ag}{dd:Option af}{cd:ClassData}{k0 k1 k2 k3 k5:Option ag} (h1:K.lookup C=v9 ⟨.type "type",dd,.cls cd,#[k0,k1,k2,k3,v9 (.builtin "ValueError.__new__"),k5]⟩)
  (h2:cd.mro=.ref C::tl) (h3:cd.hasDel=false) (h4:mm K Bs tl=true) (h5:km K cd.ns=true) (h6:cu K cd.ns "__init__"=v9 wb):ownIn K C tl:=⟨dd,cd,k0,k1,k2,k3,k5,h1,h2,h3,h4,h5,h6⟩
theorem nsOk_mk {K:aa}{N:af}{c:ag}{d:Option af}{es:Array kq}{ep:Nat}{sl:Array (Option ag)} (l:K.lookup N=v9 ⟨c,d,.dict es ep,sl⟩) (h:(es.toList.all fun e=>match e.key with|.str _ _=>true|_=>false)=true):km K N=true:=by
 unfold km;rw[l];exact u9.symm.trans h
theorem tail_mk {K:aa}{A:af}{r:List ag}{c:ag}{dd:Option af}{cd:ClassData}{sl:Array (Option ag)} (l:K.lookup A=v9 ⟨c,dd,.cls cd,sl⟩) (h1:km K cd.ns=true) (h2:cu K cd.ns "__init__"=v9 wb) (h3:mm K Bs r=true):mm K Bs (.ref A::r)=true:=by
 rw[PySem.W.tailIn.eq_2,l]
 show(_||(km K cd.ns&&cu K cd.ns _==v9 wb&&mm K Bs r))=true
 rw[h1,h3,show cu K cd.ns (jl "__init__")=v9 wb from h2];simp
noncomputable def nTg:bx->List Str
 |.Name x _=>[x]
 |.Tuple es _ _=>es.filterMap fun|.Name x _=>v9 x|_=>wb
 |_=>[]
noncomputable def DJ (N:List Str):List (Option Nat)->List Str->List Str
 |[],_=>[]
 |none::r,t::ts=>t::DJ N r ts
 |some i::r,ts=>N.getD i ""::DJ N r ts
 |none::r,[]=>DJ N r []
noncomputable def OJ (sc:j4) (x:Str):Bool:=sc.names.lookup x==v9 .local||sc.names.lookup x==v9 .cell
noncomputable def slB (N:List Str) (i:Nat) (x:Str):Bool:=decide (N[i]?=v9 x)
section
variable {X:Cx}{x y:Str}{i j:Nat}
theorem DH:∀ {a b:Option gv},(a==b)=true->a=b:=by
 intro a b h;cases a with
 |none=>cases b with
  |none=>rfl
  |some _=>cases h
 |some a=>cases b with
  |none=>cases h
  |some b=>cases a <;> cases b <;> first|rfl|cases h
theorem AK (h:OJ sc x=true):Loc sc x:=(Bool.or_eq_true_iff.mp h).imp DH DH
theorem xO {N:List Str} (h:slB N i x=true):N[i]?=v9 x:=of_decide_eq_true h
theorem dvk (h:(slB X.N i x&&(OJ X.env.scope x||X.env.scope.names.lookup x==v9 .free)&& !(x==("__debug__":Str))&& !(x==("__classdict__":Str)))=true):DE X (.Name x pos) (aD i):=by
 simp only[bt,gz,uv] at h;refine dv i (xO h.1.1.1) ?_ h.1.2 h.2;rcases h.1.1.2 with z|z
 ·rcases AK z with z|z
  ·exact .inl z
  ·exact .inr (.inl z)
 ·exact .inr (.inr (DH z))
noncomputable def nsB (X:Cx) (x:Str) (i:Nat):Bool:=slB X.N i x&&OJ X.env.scope x&&decide X.N.Nodup&&(X.fn x||X.env.scope.names.lookup x==v9 .local)
theorem sN (h:nsB X x i=true):X.N.Nodup/\X.N[i]?=v9 x/\Loc X.env.scope x/\(X.fn x=true∨X.env.scope.names.lookup x=v9 .local):=by
 unfold nsB at h;simp only[bt,gz] at h;exact⟨of_decide_eq_true h.1.2,xO h.1.1.1,AK h.1.1.2,h.2.imp id DH⟩
theorem Qt (h:nsB X x i=true):PG X (.Name x tp) (gR X.K (aY i)):=let ⟨a,b,c,d⟩:=sN h;Kg a b c d
theorem Qs (hc:X.calm=true) (h:nsB X x i=true) (h':nsB X y j=true):PG X (.Tuple [.Name x p1,.Name y p2] k tp) (gR X.K (tU i j)):=let ⟨a,b,c,d⟩:=sN h;let ⟨_,b',c',d'⟩:=sN h';Kf hc a b b' c c' d d'
theorem QA {cls:Nat->af}{E:XE}{e:bx}{fa:OG D}{pos pos':Pos} (h:nsB X x i=true) (he:OE X cls E e fa) (hs:jc e (v9 (.Name x pos')) pos.line X.env=pure false:=by rfl):OSt X cls E (.Assign [.Name x pos'] e pos) (aW i fa):=
 let ⟨a,b,c,d⟩:=sN h
 Mi a b c he hs (hf:=d)
theorem Gj {cls:Nat->af}{E:XE}{tg iter elt:bx}{ifs:List bx}{scope:j4}{caps:List (Option Nat)}{fi:OI'}{bd:BR}{t:OG Bool}{f:OG D}{pos:Pos} (Fn:Fin fin) (h1:X.calm=true) (h2:scope.kind=.function) (h3:(zJ scope&&EV X.env.scope scope&&lY X.N X.env.scope scope (DJ X.N caps (nTg tg)) caps)=true) (hi:OI X cls E tg iter fi)
  (hb:∀ cells C fp pins s₀ H₀,PG (blk X (DJ X.N caps (nTg tg)) scope cells C fp pins s₀ H₀) tg (gR X.K bd)/\KJ (blk X (DJ X.N caps (nTg tg)) scope cells C fp pins s₀ H₀) cls EF ifs t/\OE (blk X (DJ X.N caps (nTg tg)) scope cells C fp pins s₀ H₀) cls EF elt f)
  (hs:∀ x,fm iter X.env x=pure x:=by intro _;rfl):OE X cls E (.ListComp elt [⟨tg,iter,ifs,0⟩] scope pos) (cG fin fi caps bd t f):=by
 simp only[bt] at h3;exact JE Fn (wO h1 h2 h3.1.1 h3.1.2 h3.2) hi hb hs
theorem Gc {cls:Nat->af}{E:XE}{tg iter elt:bx}{ifs:List bx}{scope:j4}{caps:List (Option Nat)}{fi:OI'}{bd:BR}{t:OG Bool}{f:OG D}{pos spos py:Pos} (Fn:Fin fin) (h:(slB X.N i y&&(X.env.scope.names.lookup y==v9 .local)&&decide X.N.Nodup)=true) (h1:X.calm=true) (h2:scope.kind=.function) (h3:(zJ scope&&EV X.env.scope scope&&lY X.N X.env.scope scope (DJ X.N caps (nTg tg)) caps)=true) (hi:OI X cls E tg iter fi)
  (hb:∀ cells C fp pins s₀ H₀,PG (blk X (DJ X.N caps (nTg tg)) scope cells C fp pins s₀ H₀) tg (gR X.K bd)/\KJ (blk X (DJ X.N caps (nTg tg)) scope cells C fp pins s₀ H₀) cls EF ifs t/\OE (blk X (DJ X.N caps (nTg tg)) scope cells C fp pins s₀ H₀) cls EF elt f)
  (hsw:jc (.ListComp elt [⟨tg,iter,ifs,0⟩] scope pos) (v9 (.Name y py)) spos.line X.env=pure true:=by rfl)
  (hs:∀ x,fm iter X.env x=pure x:=by intro _;rfl):OSt X cls E (.Assign [.Name y py] (.ListComp elt [⟨tg,iter,ifs,0⟩] scope pos) spos) (aW i (cG fin fi caps bd t f)):=by
 simp only[bt] at h h3;exact Jm Fn (of_decide_eq_true h.2) (xO h.1.1) (DH h.1.2) (wO h1 h2 h3.1.1 h3.1.2 h3.2) hi hb hsw hs
end
noncomputable def CD (a b:Int):Prop:=(-1000000000<=a/\a<=1000000000)/\(-1000000000<=b/\b<=1000000000)
instance (a b:Int):Decidable (CD a b):=by unfold CD;infer_instance
theorem Lk (a b:Int):i6 a b (-1)=((a-b).toNat:Int):=by
 unfold i6;rw[if_neg (by decide),show(- (-1:Int))=1 from rfl,Int.ediv_one];split <;> omega
theorem Li {a b:Int} (h:CD a b):tz a b (-1)=true:=by
 unfold tz;rw[Lk];obtain⟨⟨h1,h2⟩,h3,h4⟩:=h;simp only[Builtin.Range.rangeFitsLong,bt,gz,decide_eq_true_eq,beq_iff_eq,show ¬((-1:Int)>0) from by decide,if_false];omega
noncomputable def GS (ds:List D):Option (List D):=match ds with
 |[.int i,.int j,.int k]=>if CD i j/\k= -1 then v9 (pQ i (-1) (i-j).toNat) else wb
 |_=>wb
section
variable {X:Cx}{tg a b c:bx}{pos p:Pos}{cls:Nat->af}{E:XE}{fl:OG (List D)}
noncomputable def ON (ta:TA):TI:=fun σ H R=>ta σ H fun vs H1=>∃ i j:Int,vs=[.int i,.int j,.int (-1)]/\CD i j/\R (Pp i (-1) (i-j).toNat) H1
theorem Dk (hg:Gl X "range") (hm:X.mg "range"=wb) (ha:PA X [a,b,c] ta) (hs:aq [a,b,c] X.env=(false,eval a X.env)::aq [b,c] X.env:=by rfl) (hpl:(de pos (aq [b,c] X.env)).any (·.1)=false:=by rfl):
  PI X tg (.Call (.Name "range" p) [a,b,c] [] pos) (ON ta):=by
 intro pins s σ H R I h;refine Call_ (rD I hg hm boot_range (jd (thn (ha pos pins s σ H _ I h) fun us s1 ⟨vs,H1,I1,r1,q1⟩=> ?_) hs hpl));obtain⟨i,j,e,hC,q⟩:=q1;subst e;cases r1 with
 |cons r rr=>
  cases rr with
  |cons r' rr=>
   cases rr with
   |cons r'' rr=>
    cases rr;obtain⟨t,rfl⟩:=r;obtain⟨t',rfl⟩:=r';obtain⟨t'',rfl⟩:=r'';have hC':=hC;obtain⟨⟨h1,h2⟩,h3,h4⟩:=hC';refine call_range_3 (by omega) ?_ (.inl (PyProof.noPylong_small (by omega)));refine wpAny_pyIter_range (v7 ..) (Li hC) ?_;have I2:Inv X pins σ H1 { s1 with heap:=s1.heap.push { cls:=.type "range",data:=.fields #[.int i t,.int j t',.int (-1) t''] },toks:=s1.toks }:=I1.kept fun b o e=>ay _ e;refine⟨_,[_],_,_,H1,rfl,I2.kept (t':=s1.toks) fun b o e=>ay _ e,xJ _ i (-1) (i-j).toNat,?_,fun b hb=> ?_,q⟩
    ·have e1:i+((0:Nat):Int)* -1=i:=by simp
     show qr _ _ (i+((0:Nat):Int)* -1) (((i-j).toNat:Int)-((0:Nat):Int)) (-1);rw[e1,<- Lk];have e2:i6 i j (-1)-((0:Nat):Int)=i6 i j (-1):=by simp
     rw[e2];exact b0 _ rfl
    ·have e:b=(s1.heap.push { cls:=.type "range",data:=.fields #[.int i t,.int j t',.int (-1) t''] }).objs.size:=by simpa using hb
     subst e;exact I2.fpOk (bp _) (I2.hok.fresh (bp _))
theorem Dt (hg:Gl X "range") (hm:X.mg "range"=wb) (ha:OA X cls E [a,b,c] fl) (hs:aq [a,b,c] X.env=(false,eval a X.env)::aq [b,c] X.env:=by rfl) (hpl:(de pos (aq [b,c] X.env)).any (·.1)=false:=by rfl):
  OI X cls E tg (.Call (.Name "range" p) [a,b,c] [] pos) (oIA GS fl):=
 PI.imp (Dk hg hm ha hs hpl) fun σ H R ⟨ok,ρ,ω,r,ω',P,e,q⟩=>by
  refine tOA.then_ P e (fun c z=>by subst z;exact q) fun ds ω1 vs ok1 H1 e1 n1 P1 r1=> ?_;obtain⟨⟨dz,chk⟩,e3,rfl⟩:=bW e1;obtain⟨ue3,rfl⟩:=cI e3;obtain⟨xs,e4,e5⟩:=aG ue3;cases e5;unfold GS at e4;split at e4
  ·obtain⟨⟨hl,rfl⟩,rfl⟩:=bE e4;cases r1 with
   |cons r rr=>
    obtain⟨v,v',rfl,rv,rv'⟩:=rr.two_inv;obtain rfl:=r.int_inv;obtain rfl:=rv.int_inv;obtain rfl:=rv'.int_inv;exact⟨_,_,rfl,hl,q _ ok1 H1 n1 itD_range3.toO⟩
  ·cases e4
end
end L2.MB
end
section
namespace L2.MB.Lw
open PySem PySem.Spec PyProof.Rows L2.MB
noncomputable abbrev Cu:List Str:=["seen","mark"]
noncomputable abbrev Cq:List Str:=["seen","mark"]
noncomputable abbrev Ca:OS:=(aS (o2 (lf gLe) (o2 (fun ω a b=>pu (bH ω a b) ω) (oP (aD 1)) (oP (dC (.int 1)))) (o2 (fun ω a b=>pu (bH ω a b) ω) (oP (aD 0)) (o2 (fun ω a b=>pu (bH ω a b) ω) (oP (aD 1)) (oP (dC (.int 0)))))))
noncomputable def fB:eK:=eA 2 Cu Ca
noncomputable abbrev Bq:List Str:=["one","other"]
noncomputable abbrev HH:List Str:=["one","other"]
noncomputable abbrev GQ:OS:=(aS (cG Nm (oIZ (aC (oP (aD 0)) (aC (oP (aD 1)) aK))) [wb,wb] (tU 0 1) (oPT jI) (oL (lfL Eu) (aC (oP (aD 0)) (aC (oP (aD 1)) aK)))))
noncomputable def gO:eK:=eA 2 Bq GQ
noncomputable abbrev uC:List Str:=["rows","least","row"]
noncomputable abbrev HJ:List Str:=["rows"]
noncomputable abbrev fM:OS:=(aW 1 (cG lW (oIZ (aC (oP (aD 1)) (aC (oP (aD 2)) aK))) [wb,wb] (tU 0 1) (oPT jI) (oL (lfL GU) (aC (oP (aD 0)) (aC (oP (aD 1)) aK)))))
noncomputable abbrev AX:OS:=(aH (aW 1 (oL iD (aC (o2 (fun ω a b=>pu (bH ω a b) ω) (oP (aD 0)) (oP (dC (.int 0)))) aK))) (aH (sNx (cH (oIL (oSl (oP (aD 0)) (dSo (dC (.int 1))) dNo)) (aY 2) fM)) (aS (oP (aD 1)))))
noncomputable def mM:eK:=eA 1 uC AX
noncomputable abbrev Fp:List Str:=["one","other"]
noncomputable abbrev KH:List Str:=["one","other"]
noncomputable abbrev Ki:OS:=(aS (oL (lfL NH) (aC (cG lW (oIZ (aC (oP (aD 0)) (aC (oP (aD 1)) aK))) [wb,wb] (tU 0 1) (oPT jI) (oL (lfL Eu) (aC (o2 (lf gSub) (oP (aD 1)) (oP (aD 0))) (aC (oP (dC (.int 0))) aK)))) aK)))
noncomputable def xV:eK:=eA 2 Fp Ki
noncomputable abbrev zZ:List Str:=["rows","name"]
noncomputable abbrev zM:List Str:=["rows","name"]
noncomputable abbrev yM:OS:=(aS (cG lW (oIL (oP (aD 0))) [wb,v9 1] (aY 0) (cS (o2 (kW 8) (o2 (fun ω a b=>pu (bH ω a b) ω) (oP (aD 0)) (oP (dC (.int 0)))) (oP (aD 1)))) (o2 (fun ω a b=>pu (bH ω a b) ω) (oP (aD 0)) (oP (dC (.int 2))))))
noncomputable def jR:eK:=eA 2 zZ yM
noncomputable abbrev Ae:List Str:=["self"]
noncomputable abbrev zS:List Str:=["self"]
noncomputable abbrev yP:OS:=(aS (o2 (fun ω a b=>pu (bH ω a b) ω) (fV 0 "knows" (oP (aD 0))) (fV 0 "number" (oP (aD 0)))))
noncomputable def bL:eK:=eA 1 Ae yP
noncomputable abbrev Fq:List Str:=["entries","hand"]
noncomputable abbrev Fl:List Str:=["entries","hand"]
noncomputable abbrev Ei:OS:=(aS (cG lW (oIL (oP (aD 0))) [wb,v9 1] (aY 0) (oOr (cS (o2 (fun ω a b=>pu (KR ω a b) ω) (o2 (fun ω a b=>pu (bH ω a b) ω) (oP (aD 0)) (oP (dC (.int 1)))) (fV 0 "table" (oP (aD 1))))) (iH (gH (bC fB (aC (aZ 0 "seen" bL (oP (aD 1)) aK) (aC (o2 (fun ω a b=>pu (bH ω a b) ω) (oP (aD 0)) (oP (dC (.int 1)))) aK)))))) (oP (aD 0))))
noncomputable def kJ:eK:=eA 2 Fq Ei
noncomputable abbrev uD:List Str:=["self","number","count"]
noncomputable abbrev tW:List Str:=["self","number","count"]
noncomputable abbrev kR:OS:=(aH (mD 0 "number" (oP (aD 0)) (oP (aD 1))) (aH (mD 0 "knows" (oP (aD 0)) (cG Nm (oIA kU (aC (oP (aD 2)) aK)) [wb,v9 2] (aY 0) (oPT jI) (o2 GT (oL (fun ω ds=>pu (gC ds) ω) (aC (oP (dC (.int 0))) aK)) (oP (aD 1))))) (aH (mD 0 "table" (oP (aD 0)) Dz) (mD 0 "kept" (oP (aD 0)) Dz))))
noncomputable def dN:eK:=eA 3 uD kR
noncomputable abbrev qG:List Str:=["self"]
noncomputable abbrev qE:List Str:=["self"]
noncomputable abbrev pX:OS:=(aS (Gm 4 (fV 0 "table" (oP (aD 0)))))
noncomputable def bK:eK:=eA 1 qG pX
noncomputable abbrev xB:List Str:=["self"]
noncomputable abbrev wZ:List Str:=["self"]
noncomputable abbrev vZ:OS:=(aS (cG lW (oIL (fV 0 "knows" (oP (aD 0)))) [wb] (aY 0) (oPT jI) (oL iD (aC (oP (aD 0)) aK))))
noncomputable def fX:eK:=eA 1 xB vZ
noncomputable abbrev qF:List Str:=["self"]
noncomputable abbrev qD:List Str:=["self"]
noncomputable abbrev pW:OS:=(aS (cG lW (oIL (oL (Ep 4) (aC (fV 0 "kept" (oP (aD 0))) aK))) [wb,v9 0] (aY 0) (oPT jI) (oL (fun ω ds=>pu (dQ ds) ω) (aC (oP (aD 0)) (aC (oL iD (aC (o2 (fun ω a b=>pu (pY ω a b) ω) (fV 0 "kept" (oP (aD 1))) (oP (aD 0))) aK)) aK)))))
noncomputable def eB:eK:=eA 1 qF pW
noncomputable abbrev pL:List Str:=["self","seen"]
noncomputable abbrev pH:List Str:=["self"]
noncomputable abbrev iR:OS:=(aH (aW 1 (aZ 0 "seen" bL (oP (aD 0)) aK)) (aH (nL yR (oP (aD 1)) (fV 0 "number" (oP (aD 0))) (o2 (lf pZ) (o2 (fun ω a b=>pu (bH ω a b) ω) (oP (aD 1)) (fV 0 "number" (oP (aD 0)))) (oP (dC (.int 1))))) (aS (oL (fun ω ds=>pu (dQ ds) ω) (aC (fV 0 "number" (oP (aD 0))) (aC (o2 (fun ω a b=>pu (bH ω a b) ω) (oP (aD 1)) (fV 0 "number" (oP (aD 0)))) aK))))))
noncomputable def cM:eK:=eA 1 pL iR
noncomputable abbrev Cv:List Str:=["self","name","value","mark"]
noncomputable abbrev Cr:List Str:=["self","name","value"]
noncomputable abbrev rO:OS:=(aH (aW 3 (aZ 0 "new_mark" cM (oP (aD 0)) aK)) (aH (nL tH (fV 0 "table" (oP (aD 0))) (oP (aD 3)) (oL (fun ω ds=>pu (dQ ds) ω) (aC (oP (aD 1)) (aC (oP (aD 3)) (aC (oP (aD 2)) aK))))) (aS (oP (aD 3)))))
noncomputable def dX:eK:=eA 3 Cv rO
noncomputable abbrev gZ:List Str:=["self","seen_by_all","kept","deed"]
noncomputable abbrev tX:List Str:=["self"]
noncomputable abbrev aP:OS:=(dU (iH (gH (bC fB (aC (oP (aD 1)) (aC (oP (aD 3)) aK))))) (nL tH (oP (aD 2)) (oP (aD 3)) (o2 (fun ω a b=>pu (pY ω a b) ω) (fV 0 "kept" (oP (aD 0))) (oP (aD 3)))) bF)
noncomputable abbrev gQ:OS:=(aH (aW 1 (bC mM (aC (fV 0 "knows" (oP (aD 0))) aK))) (aH (aW 2 Dz) (aH (sNx (ID (fV 0 "kept" (oP (aD 0))) (aY 3) aP)) (mD 0 "kept" (oP (aD 0)) (oP (aD 2))))))
noncomputable def eV:eK:=eA 1 gZ gQ
noncomputable abbrev iX:List Str:=["self","deed","marks","mark"]
noncomputable abbrev pG:List Str:=["self","deed","marks"]
noncomputable abbrev bR:OS:=(dL (nS Et (fV 0 "table" (oP (aD 0))) (aC (oP (aD 3)) aK)))
noncomputable abbrev iQ:OS:=(aH (sNx (cH (oIL (oP (aD 2))) (aY 3) bR)) (aH (dU (gH (oP (aD 2))) (nL tH (fV 0 "kept" (oP (aD 0))) (oP (aD 1)) (oL Em (aC (oP (aD 2)) aK))) bF) (dL (aZ 0 "forget" eV (oP (aD 0)) aK))))
noncomputable def cL:eK:=eA 3 iX iQ
noncomputable abbrev iY:List Str:=["self","name"]
noncomputable abbrev pI:List Str:=["self","name"]
noncomputable abbrev oI:OS:=(aS (cG lW (oIL (aZ 0 "entries" bK (oP (aD 0)) aK)) [wb,v9 1] (aY 0) (cS (o2 (kW 8) (o2 (fun ω a b=>pu (bH ω a b) ω) (oP (aD 0)) (oP (dC (.int 0)))) (oP (aD 1)))) (o2 (fun ω a b=>pu (bH ω a b) ω) (oP (aD 0)) (oP (dC (.int 1))))))
noncomputable def cN:eK:=eA 2 iY oI
noncomputable abbrev uE:List Str:=["self","name","value","marks","mark"]
noncomputable abbrev tY:List Str:=["self","name","value"]
noncomputable abbrev kS:OS:=(aH (aW 3 (aZ 0 "marks_of" cN (oP (aD 0)) (aC (oP (aD 1)) aK))) (aH (aW 4 (aZ 0 "put" dX (oP (aD 0)) (aC (oP (aD 1)) (aC (oP (aD 2)) aK)))) (aH (dL (aZ 0 "take_out" cL (oP (aD 0)) (aC (oP (aD 4)) (aC (oP (aD 3)) aK)))) (aS (oP (aD 4))))))
noncomputable def dO:eK:=eA 3 uE kS
noncomputable abbrev Ad:List Str:=["self","name","marks"]
noncomputable abbrev zR:List Str:=["self","name"]
noncomputable abbrev jW:OS:=(aH (aW 2 (aZ 0 "marks_of" cN (oP (aD 0)) (aC (oP (aD 1)) aK))) (aH (dU (iH (gH (oP (aD 2)))) (aS (oP (dC .non))) bF) (aH (dL (aZ 0 "take_out" cL (oP (aD 0)) (aC (aZ 0 "new_mark" cM (oP (aD 0)) aK) (aC (oP (aD 2)) aK)))) (aS (oP (aD 2))))))
noncomputable def fD:eK:=eA 2 Ad jW
noncomputable abbrev Af:List Str:=["self","teller","many","seen","table","entry"]
noncomputable abbrev zT:List Str:=["self","teller"]
noncomputable abbrev eI:OS:=(nL tH (oP (aD 4)) (o2 (fun ω a b=>pu (bH ω a b) ω) (oP (aD 5)) (oP (dC (.int 1)))) (oP (aD 5)))
noncomputable abbrev oJ:OS:=(aH (aW 2 (bC xV (aC (aZ 0 "seen" bL (oP (aD 0)) aK) (aC (aZ 0 "seen" bL (oP (aD 1)) aK) aK)))) (aH (aW 3 (bC gO (aC (aZ 0 "seen" bL (oP (aD 0)) aK) (aC (aZ 0 "seen" bL (oP (aD 1)) aK) aK)))) (aH (aW 4 Dz) (aH (sNx (cH (oIL (o2 lM (bC kJ (aC (aZ 0 "entries" bK (oP (aD 0)) aK) (aC (oP (aD 1)) aK))) (bC kJ (aC (aZ 0 "entries" bK (oP (aD 1)) aK) (aC (oP (aD 0)) aK))))) (aY 5) eI)) (aH (mD 0 "table" (oP (aD 0)) (oP (aD 4))) (aH (mD 0 "knows" (oP (aD 0)) (cG Nm (oIZ (aC (fV 0 "knows" (oP (aD 0))) (aC (fV 0 "knows" (oP (aD 1))) aK))) [wb,wb] (tU 0 1) (oPT jI) (bC gO (aC (oP (aD 0)) (aC (oP (aD 1)) aK))))) (aH (nL yR (fV 0 "knows" (oP (aD 0))) (fV 0 "number" (oP (aD 0))) (oP (aD 3))) (aH (dL (nS El (fV 0 "kept" (oP (aD 0))) (aC (fV 0 "kept" (oP (aD 1))) aK))) (aH (dL (aZ 0 "forget" eV (oP (aD 0)) aK)) (aS (oP (aD 2))))))))))))
noncomputable def bY:eK:=eA 2 Af oJ
noncomputable abbrev uF:List Str:=["self","count"]
noncomputable abbrev tZ:List Str:=["self","count"]
noncomputable abbrev kT:OS:=(mD 1 "hands" (oP (aD 0)) (cG lW (oIA kU (aC (oP (aD 1)) aK)) [wb,v9 1] (aY 0) (oPT jI) (pT 0 dN (aC (oP (aD 0)) (aC (oP (aD 1)) aK)))))
noncomputable def eW:eK:=eA 2 uF kT
noncomputable abbrev Ak:List Str:=["self","number"]
noncomputable abbrev zY:List Str:=["self","number"]
noncomputable abbrev jZ:OS:=(aH (dU (iH (qW gLe gLt (oP (dC (.int 0))) (oP (aD 1)) (oL fO (aC (fV 1 "hands" (oP (aD 0))) aK)))) (Ax 0 (dC (.str "there is no hand of that number"))) bF) (aS (o2 (fun ω a b=>pu (bH ω a b) ω) (fV 1 "hands" (oP (aD 0))) (oP (aD 1)))))
noncomputable def bD:eK:=eA 2 Ak jZ
noncomputable abbrev Ai:List Str:=["self","one","other","hands"]
noncomputable abbrev zW:List Str:=["self","one","other"]
noncomputable abbrev fN:OS:=(aH (aW 3 (oL (fun ω ds=>pu (dQ ds) ω) (aC (aZ 1 "hand" bD (oP (aD 0)) (aC (oP (aD 1)) aK)) (aC (aZ 1 "hand" bD (oP (aD 0)) (aC (oP (aD 2)) aK)) aK)))) (aH (dU (cS (o2 (kW 8) (oP (aD 1)) (oP (aD 2)))) (Ax 1 (dC (.str "a hand can't tell or meet itself"))) bF) (aS (oP (aD 3)))))
noncomputable def bM:eK:=eA 3 Ai fN
noncomputable abbrev Cw:List Str:=["self","number","name","value"]
noncomputable abbrev Cs:List Str:=["self","number","name","value"]
noncomputable abbrev Cb:OS:=(aS (aZ 0 "put" dX (aZ 1 "hand" bD (oP (aD 0)) (aC (oP (aD 1)) aK)) (aC (oP (aD 2)) (aC (oP (aD 3)) aK))))
noncomputable def gF:eK:=eA 4 Cw Cb
noncomputable abbrev uG:List Str:=["self","number","name","value"]
noncomputable abbrev uA:List Str:=["self","number","name","value"]
noncomputable abbrev tF:OS:=(aS (aZ 0 "change" dO (aZ 1 "hand" bD (oP (aD 0)) (aC (oP (aD 1)) aK)) (aC (oP (aD 2)) (aC (oP (aD 3)) aK))))
noncomputable def dP:eK:=eA 4 uG tF
noncomputable abbrev Ah:List Str:=["self","number","name"]
noncomputable abbrev zV:List Str:=["self","number","name"]
noncomputable abbrev yQ:OS:=(aS (aZ 0 "take" fD (aZ 1 "hand" bD (oP (aD 0)) (aC (oP (aD 1)) aK)) (aC (oP (aD 2)) aK)))
noncomputable def fF:eK:=eA 3 Ah yQ
noncomputable abbrev Ag:List Str:=["self","one","other","hands"]
noncomputable abbrev zU:List Str:=["self","one","other"]
noncomputable abbrev jX:OS:=(aH (aW 3 (aZ 1 "pair" bM (oP (aD 0)) (aC (oP (aD 1)) (aC (oP (aD 2)) aK)))) (aS (aZ 0 "hear" bY (o2 (fun ω a b=>pu (bH ω a b) ω) (oP (aD 3)) (oP (dC (.int 1)))) (aC (o2 (fun ω a b=>pu (bH ω a b) ω) (oP (aD 3)) (oP (dC (.int 0)))) aK))))
noncomputable def fE:eK:=eA 3 Ag jX
noncomputable abbrev Aj:List Str:=["self","one","other","hands","many","gained"]
noncomputable abbrev zX:List Str:=["self","one","other"]
noncomputable abbrev jY:OS:=(aH (aW 3 (aZ 1 "pair" bM (oP (aD 0)) (aC (oP (aD 1)) (aC (oP (aD 2)) aK)))) (aH (aW 4 (aZ 0 "hear" bY (o2 (fun ω a b=>pu (bH ω a b) ω) (oP (aD 3)) (oP (dC (.int 1)))) (aC (o2 (fun ω a b=>pu (bH ω a b) ω) (oP (aD 3)) (oP (dC (.int 0)))) aK))) (aH (aW 5 (oL (fun ω ds=>pu (dQ ds) ω) (aC (aZ 0 "hear" bY (o2 (fun ω a b=>pu (bH ω a b) ω) (oP (aD 3)) (oP (dC (.int 0)))) (aC (o2 (fun ω a b=>pu (bH ω a b) ω) (oP (aD 3)) (oP (dC (.int 1)))) aK)) (aC (oP (aD 4)) aK)))) (aH (dL (aZ 0 "hear" bY (o2 (fun ω a b=>pu (bH ω a b) ω) (oP (aD 3)) (oP (dC (.int 1)))) (aC (o2 (fun ω a b=>pu (bH ω a b) ω) (oP (aD 3)) (oP (dC (.int 0)))) aK))) (aS (oP (aD 5)))))))
noncomputable def fG:eK:=eA 3 Aj jY
noncomputable abbrev ND:List Str:=["hall","deed","kind"]
noncomputable abbrev NC:List Str:=["hall","deed"]
noncomputable abbrev rN:OS:=(aH (aW 2 (o2 (fun ω a b=>pu (bH ω a b) ω) (oP (aD 1)) (oP (dC (.int 0))))) (aH (dU (cS (o2 (kW 8) (oP (aD 2)) (oP (dC (.str "put"))))) (aS (aZ 1 "put" gF (oP (aD 0)) (aC (o2 (fun ω a b=>pu (bH ω a b) ω) (oP (aD 1)) (oP (dC (.int 1)))) (aC (o2 (fun ω a b=>pu (bH ω a b) ω) (oP (aD 1)) (oP (dC (.int 2)))) (aC (o2 (fun ω a b=>pu (bH ω a b) ω) (oP (aD 1)) (oP (dC (.int 3)))) aK))))) bF) (aH (dU (cS (o2 (kW 8) (oP (aD 2)) (oP (dC (.str "change"))))) (aS (aZ 1 "change" dP (oP (aD 0)) (aC (o2 (fun ω a b=>pu (bH ω a b) ω) (oP (aD 1)) (oP (dC (.int 1)))) (aC (o2 (fun ω a b=>pu (bH ω a b) ω) (oP (aD 1)) (oP (dC (.int 2)))) (aC (o2 (fun ω a b=>pu (bH ω a b) ω) (oP (aD 1)) (oP (dC (.int 3)))) aK))))) bF) (aH (dU (cS (o2 (kW 8) (oP (aD 2)) (oP (dC (.str "take"))))) (aS (aZ 1 "take" fF (oP (aD 0)) (aC (o2 (fun ω a b=>pu (bH ω a b) ω) (oP (aD 1)) (oP (dC (.int 1)))) (aC (o2 (fun ω a b=>pu (bH ω a b) ω) (oP (aD 1)) (oP (dC (.int 2)))) aK)))) bF) (aH (dU (cS (o2 (kW 8) (oP (aD 2)) (oP (dC (.str "tell"))))) (aS (aZ 1 "tell" fE (oP (aD 0)) (aC (o2 (fun ω a b=>pu (bH ω a b) ω) (oP (aD 1)) (oP (dC (.int 1)))) (aC (o2 (fun ω a b=>pu (bH ω a b) ω) (oP (aD 1)) (oP (dC (.int 2)))) aK)))) bF) (aS (aZ 1 "meet" fG (oP (aD 0)) (aC (o2 (fun ω a b=>pu (bH ω a b) ω) (oP (aD 1)) (oP (dC (.int 1)))) (aC (o2 (fun ω a b=>pu (bH ω a b) ω) (oP (aD 1)) (oP (dC (.int 2)))) aK)))))))))
noncomputable def jM:eK:=eA 2 ND rN
noncomputable abbrev Ac:List Str:=["hall","deed"]
noncomputable abbrev zQ:List Str:=["hall","deed"]
noncomputable abbrev gP:OS:=(uY (aS (bC jM (aC (oP (aD 0)) (aC (oP (aD 1)) aK)))) 0 (aS (oP (dC (.str "no hand")))) 1 (aS (oP (dC (.str "same hand")))))
noncomputable def bS:eK:=eA 2 Ac gP
noncomputable abbrev xA:List Str:=["count","deeds","hall"]
noncomputable abbrev Fo:List Str:=["count","deeds"]
noncomputable abbrev vY:OS:=(aH (aW 2 (pT 1 eW (aC (oP (aD 0)) aK))) (aS (cG lW (oIL (oP (aD 1))) [wb,v9 2] (aY 0) (oPT jI) (bC bS (aC (oP (aD 1)) (aC (oP (aD 0)) aK))))))
noncomputable def nO:eK:=eA 2 xA vY
noncomputable abbrev Ft:List Str:=["count","deeds","hall","deed"]
noncomputable abbrev KI:List Str:=["count","deeds"]
noncomputable abbrev dZ:OS:=(dL (bC bS (aC (oP (aD 2)) (aC (oP (aD 3)) aK))))
noncomputable abbrev Ek:OS:=(aH (aW 2 (pT 1 eW (aC (oP (aD 0)) aK))) (aH (sNx (cH (oIL (oP (aD 1))) (aY 3) dZ)) (aS (oL (fun ω ds=>pu (dQ ds) ω) (aC (cG lW (oIL (fV 1 "hands" (oP (aD 2)))) [wb] (aY 0) (oPT jI) (aZ 0 "entries" bK (oP (aD 0)) aK)) (aC (cG lW (oIL (fV 1 "hands" (oP (aD 2)))) [wb] (aY 0) (oPT jI) (oL iD (aC (aZ 0 "seen" bL (oP (aD 0)) aK) aK))) (aC (cG lW (oIL (fV 1 "hands" (oP (aD 2)))) [wb] (aY 0) (oPT jI) (aZ 0 "known" fX (oP (aD 0)) aK)) (aC (cG lW (oIL (fV 1 "hands" (oP (aD 2)))) [wb] (aY 0) (oPT jI) (aZ 0 "in_mind" eB (oP (aD 0)) aK)) aK))))))))
noncomputable def xW:eK:=eA 2 Ft Ek
noncomputable abbrev Bp:List Str:=["_law_found","_law_meant","_law_k"]
noncomputable abbrev Bo:List Str:=["_law_found","_law_meant"]
noncomputable abbrev sW (φ:eK):OS:=(aH (dU (cS (o2 (lf Ng) (oP (aD 1)) (oP (dC .non)))) (aS (o2 (lf Ng) (oP (aD 0)) (oP (dC .non)))) bF) (aH (dU (gH (jL "bool" (oP (aD 1)))) (aS (BD (jL "bool" (oP (aD 0))) (o2 (kW 8) (oP (aD 0)) (oP (aD 1))))) bF) (aH (dU (gH (jL "int" (oP (aD 1)))) (aS (BD (jL "int" (oP (aD 0))) (BD (JI (jL "bool" (oP (aD 0)))) (o2 (kW 8) (oP (aD 0)) (oP (aD 1)))))) bF) (aH (dU (gH (jL "str" (oP (aD 1)))) (aS (BD (jL "str" (oP (aD 0))) (o2 (kW 8) (oP (aD 0)) (oP (aD 1))))) bF) (aH (dU (gH (jL "dict" (oP (aD 1)))) Ll bF) (aH (dU (cS (o2 (uI 8) (jL "tuple" (oP (aD 1))) (jL "tuple" (oP (aD 0))))) (aS (oP (dC (.bl false)))) bF) (aH (dU (oOr (cS (o2 (uI 8) (jL "list" (oP (aD 1))) (jL "list" (oP (aD 0))))) (iH (gH (DC (oP (aD 1)))))) (aS (oP (dC (.bl false)))) bF) (aH (dU (cS (o2 (uI 8) (oL fO (aC (oP (aD 0)) aK)) (oL fO (aC (oP (aD 1)) aK)))) (aS (oP (dC (.bl false)))) bF) (aH (sNx (cH (oIA kU (aC (oL fO (aC (oP (aD 1)) aK)) aK)) (aY 2) (dU (iH (gH (bC φ (aC (o2 (fun ω a b=>pu (bH ω a b) ω) (oP (aD 0)) (oP (aD 2))) (aC (o2 (fun ω a b=>pu (bH ω a b) ω) (oP (aD 1)) (oP (aD 2))) aK))))) (aS (oP (dC (.bl false)))) bF))) (aS (oP (dC (.bl true)))))))))))))
noncomputable def dA:Nat->eK
 |0=>fun _ _=>wb
 |n+1=>eA 2 Bp (sW (dA n))
noncomputable abbrev Aa:List Str:=["_law_found"]
noncomputable abbrev zN:List Str:=["_law_found"]
noncomputable abbrev yN:OS:=(aS (BD (jL "int" (oP (aD 0))) (JI (jL "bool" (oP (aD 0))))))
noncomputable def gL:eK:=eA 1 Aa yN
noncomputable abbrev mS:List Str:=["_law_script","_law_k"]
noncomputable abbrev HG:List Str:=["_law_script","_law_k"]
noncomputable abbrev tE:OS:=(aH (dU (cS (o2 (lf gLt) (oP (aD 1)) (oL fO (aC (oP (aD 0)) aK)))) (aS (o2 (fun ω a b=>pu (bH ω a b) ω) (oP (aD 0)) (oP (aD 1)))) bF) (aS (oP (dC (.int 0)))))
noncomputable def kK:eK:=eA 2 mS tE
noncomputable abbrev pK:List Str:=["_law_count","_law_deeds","_law_handed","_law_found"]
noncomputable abbrev pF:List Str:=["_law_count","_law_deeds"]
noncomputable abbrev iP:OS:=(aH (aW 2 (oL iD (aC (oP (aD 1)) aK))) (aH (aW 3 (bC xW (aC (oP (aD 0)) (aC (oP (aD 2)) aK)))) (aH (dU (oOr (cS (o2 (uI 8) (oP (aD 2)) (oP (aD 1)))) (oOr (iH (gH (jL "tuple" (oP (aD 3))))) (cS (o2 (uI 8) (oL fO (aC (oP (aD 3)) aK)) (oP (dC (.int 4))))))) (aS (oL (fun ω ds=>pu (dQ ds) ω) (aC (oP (dC .non)) (aC (oP (dC .non)) (aC (oP (dC .non)) (aC (oP (dC .non)) aK)))))) bF) (aS (oP (aD 3))))))
noncomputable def dM:eK:=eA 2 pK iP
noncomputable abbrev Fs:List Str:=["_law_count","_law_large"]
noncomputable abbrev Fm:List Str:=["_law_count"]
noncomputable abbrev Ej:OS:=(aH (aW 1 (oP (dC (.int 100000000000000000000)))) (aS (oL (fun ω ds=>pu (gC ds) ω) (aC (oP (d1 Ij (dC (.int 1)))) (aC (oP (aD 0)) (aC (oP (d1 Ij (dC (.int 2)))) (aC (o2 (lf gSub) (oP (dC (.int 0))) (oP (aD 0))) (aC (oP (aD 1)) (aC (o2 (lf gSub) (oP (dC (.int 0))) (oP (aD 1))) aK)))))))))
noncomputable def eM:eK:=eA 1 Fs Ej
noncomputable abbrev Ct:List Str:=["_law_j","_law_count"]
noncomputable abbrev Cp:List Str:=["_law_j","_law_count"]
noncomputable abbrev BZ:OS:=(aH (dU (cS (o2 (kW 8) (o2 (lf cC) (oP (aD 1)) (oP (dC (.int 2)))) (oP (dC (.int 0))))) (aS (o2 (lf Kk) (o2 (lf Kk) (o2 (lf Kj) (oP (dC (.str "o"))) (o2 (lf cC) (oP (aD 1)) (oP (dC (.int 5))))) (o2 (fun ω a b=>pu (bH ω a b) ω) (oP (dC (.str "abcd"))) (oP (aD 0)))) (o2 (lf Kj) (oP (dC (.str "o"))) (o2 (lf gSub) (oP (dC (.int 5))) (o2 (lf cC) (oP (aD 1)) (oP (dC (.int 5)))))))) bF) (aS (o2 (fun ω a b=>pu (bH ω a b) ω) (oL (fun ω ds=>pu (gC ds) ω) (aC (oP (dC (.str "oats"))) (aC (oP (dC (.str "oat"))) (aC (oP (dC (.str ""))) (aC (oP (dC (.str "oatsack"))) aK))))) (oP (aD 0)))))
noncomputable def dE:eK:=eA 2 Ct BZ
noncomputable abbrev lD:List Str:=["_law_cell","_law_k","_law_count","_law_way","_law_one","_law_other","_law_name","_law_values","_law_value"]
noncomputable abbrev tV:List Str:=["_law_cell","_law_k","_law_count"]
noncomputable abbrev sX:OS:=(aH (aW 3 (o2 (lf cC) (o2 (lf cC) (o2 (lf iC) (oP (aD 0)) (oP (dC (.int 48271)))) (oP (dC (.int 1009)))) (oP (dC (.int 16))))) (aH (aW 4 (o2 (lf cC) (o2 (lf cC) (o2 (lf iC) (o2 (lf pZ) (oP (aD 0)) (oP (aD 1))) (oP (dC (.int 48271)))) (oP (dC (.int 1013)))) (oP (aD 2)))) (aH (aW 5 (oP (aD 4))) (aH (dU (Ib (cS (o2 (lf gGt) (oP (aD 2)) (oP (dC (.int 1))))) (cS (o2 (lf gGt) (o2 (lf cC) (o2 (lf cC) (o2 (lf iC) (oP (aD 0)) (oP (dC (.int 48271)))) (oP (dC (.int 1019)))) (oP (dC (.int 19)))) (oP (dC (.int 0)))))) (aW 5 (o2 (lf cC) (o2 (lf pZ) (o2 (lf pZ) (oP (aD 4)) (oP (dC (.int 1)))) (o2 (lf cC) (o2 (lf cC) (o2 (lf iC) (oP (aD 0)) (oP (dC (.int 48271)))) (oP (dC (.int 1021)))) (o2 (lf gSub) (oP (aD 2)) (oP (dC (.int 1)))))) (oP (aD 2)))) bF) (aH (aW 6 (bC dE (aC (o2 (lf cC) (o2 (lf cC) (o2 (lf iC) (oP (aD 0)) (oP (dC (.int 48271)))) (oP (dC (.int 1031)))) (oP (dC (.int 4)))) (aC (oP (aD 2)) aK)))) (aH (aW 7 (oL (fun ω ds=>pu (gC ds) ω) (aC (o2 (lf gSub) (o2 (lf cC) (o2 (lf cC) (o2 (lf iC) (oP (aD 0)) (oP (dC (.int 48271)))) (oP (dC (.int 1033)))) (oP (dC (.int 9)))) (oP (dC (.int 4)))) (aC (o2 (lf gSub) (oP (dC (.int 0))) (oP (aD 1))) (aC (o2 (lf pZ) (oP (dC (.int 100000000000000000000))) (oP (aD 1))) aK))))) (aH (aW 8 (o2 (fun ω a b=>pu (bH ω a b) ω) (oP (aD 7)) (o2 (lf cC) (o2 (lf cC) (o2 (lf iC) (oP (aD 0)) (oP (dC (.int 48271)))) (oP (dC (.int 1039)))) (oP (dC (.int 3)))))) (aH (dU (cS (o2 (kW 8) (o2 (lf cC) (o2 (lf cC) (o2 (lf iC) (oP (aD 0)) (oP (dC (.int 48271)))) (oP (dC (.int 1049)))) (oP (dC (.int 31)))) (oP (dC (.int 30))))) (aW 4 (o2 (fun ω a b=>pu (bH ω a b) ω) (bC eM (aC (oP (aD 2)) aK)) (o2 (lf cC) (o2 (lf cC) (o2 (lf iC) (oP (aD 0)) (oP (dC (.int 48271)))) (oP (dC (.int 1051)))) (oP (dC (.int 6)))))) bF) (aH (dU (cS (o2 (kW 8) (o2 (lf cC) (o2 (lf cC) (o2 (lf iC) (oP (aD 0)) (oP (dC (.int 48271)))) (oP (dC (.int 1061)))) (oP (dC (.int 31)))) (oP (dC (.int 30))))) (aW 5 (o2 (fun ω a b=>pu (bH ω a b) ω) (bC eM (aC (oP (aD 2)) aK)) (o2 (lf cC) (o2 (lf cC) (o2 (lf iC) (oP (aD 0)) (oP (dC (.int 48271)))) (oP (dC (.int 1063)))) (oP (dC (.int 6)))))) bF) (aH (dU (cS (o2 (lf gLt) (oP (aD 3)) (oP (dC (.int 5))))) (aS (oL (fun ω ds=>pu (dQ ds) ω) (aC (oP (dC (.str "put"))) (aC (oP (aD 4)) (aC (oP (aD 6)) (aC (oP (aD 8)) aK)))))) bF) (aH (dU (cS (o2 (lf gLt) (oP (aD 3)) (oP (dC (.int 7))))) (aS (oL (fun ω ds=>pu (dQ ds) ω) (aC (oP (dC (.str "take"))) (aC (oP (aD 4)) (aC (oP (aD 6)) aK))))) bF) (aH (dU (cS (o2 (lf gLt) (oP (aD 3)) (oP (dC (.int 9))))) (aS (oL (fun ω ds=>pu (dQ ds) ω) (aC (oP (dC (.str "change"))) (aC (oP (aD 4)) (aC (oP (aD 6)) (aC (oP (aD 8)) aK)))))) bF) (aS (oL (fun ω ds=>pu (dQ ds) ω) (aC (o2 (fun ω a b=>pu (bH ω a b) ω) (oL (fun ω ds=>pu (gC ds) ω) (aC (oP (dC (.str "tell"))) (aC (oP (dC (.str "meet"))) aK))) (oL (lfL NJ) (aC (o2 (lf gGt) (oP (aD 3)) (oP (dC (.int 11)))) aK))) (aC (oP (aD 4)) (aC (oP (aD 5)) aK)))))))))))))))))
noncomputable def gN:eK:=eA 3 lD sX
noncomputable abbrev pJ:List Str:=["_law_cells","_law_count","_law_deeds","_law_k"]
noncomputable abbrev zP:List Str:=["_law_cells","_law_count"]
noncomputable abbrev eD:OS:=(dL (vI Cd (oP (aD 2)) (aC (bC gN (aC (o2 (lf pZ) (o2 (fun ω a b=>pu (bH ω a b) ω) (oP (aD 0)) (oP (aD 3))) (o2 (lf iC) (oP (dC (.int 7))) (oP (aD 3)))) (aC (oP (aD 3)) (aC (oP (aD 1)) aK)))) aK)))
noncomputable abbrev oH:OS:=(aH (aW 2 (oL PM aK)) (aH (sNx (cH (oIA kU (aC (oL fO (aC (oP (aD 0)) aK)) aK)) (aY 3) eD)) (aS (oP (aD 2)))))
noncomputable def jS:eK:=eA 2 pJ oH
noncomputable abbrev mH:List Str:=["_law_found","_law_count","_law_rows","_law_row"]
noncomputable abbrev mG:List Str:=["_law_found","_law_count"]
noncomputable abbrev dB:OS:=(aH (dU (oOr (iH (gH (jL "tuple" (oP (aD 3))))) (oOr (cS (o2 (uI 8) (oL fO (aC (oP (aD 3)) aK)) (oP (dC (.int 3))))) (iH (gH (jL "str" (o2 (fun ω a b=>pu (bH ω a b) ω) (oP (aD 3)) (oP (dC (.int 0))))))))) (aS (oP (dC (.bl false)))) bF) (aH (dU (oOr (iH (gH (jL "tuple" (o2 (fun ω a b=>pu (bH ω a b) ω) (oP (aD 3)) (oP (dC (.int 1))))))) (oOr (cS (o2 (uI 8) (oL fO (aC (o2 (fun ω a b=>pu (bH ω a b) ω) (oP (aD 3)) (oP (dC (.int 1)))) aK)) (oP (dC (.int 2))))) (iH (gH (bC gL (aC (o2 (fun ω a b=>pu (bH ω a b) ω) (oP (aD 3)) (oP (dC (.int 2)))) aK)))))) (aS (oP (dC (.bl false)))) bF) (dU (oOr (iH (gH (bC gL (aC (o2 (fun ω a b=>pu (bH ω a b) ω) (o2 (fun ω a b=>pu (bH ω a b) ω) (oP (aD 3)) (oP (dC (.int 1)))) (oP (dC (.int 0)))) aK)))) (iH (gH (bC gL (aC (o2 (fun ω a b=>pu (bH ω a b) ω) (o2 (fun ω a b=>pu (bH ω a b) ω) (oP (aD 3)) (oP (dC (.int 1)))) (oP (dC (.int 1)))) aK))))) (aS (oP (dC (.bl false)))) bF)))
noncomputable abbrev cB:OS:=(aH (dU (iH (gH (jL "list" (oP (aD 2))))) (aS (oP (dC (.bl false)))) bF) (sNx (cH (oIL (oP (aD 2))) (aY 3) dB)))
noncomputable abbrev iB:OS:=(aH (dU (oOr (iH (gH (jL "list" (oP (aD 0))))) (cS (o2 (uI 8) (oL fO (aC (oP (aD 0)) aK)) (oP (aD 1))))) (aS (oP (dC (.bl false)))) bF) (aH (sNx (cH (oIL (oP (aD 0))) (aY 2) cB)) (aS (oP (dC (.bl true))))))
noncomputable def cE:eK:=eA 2 mH iB
noncomputable abbrev Ab:List Str:=["_law_count","_law_deeds"]
noncomputable abbrev zO:List Str:=["_law_count"]
noncomputable abbrev yO:OS:=(aH (aW 1 (cG lW (oIA kU (aC (o2 (lf gSub) (oP (aD 0)) (oP (dC (.int 1)))) aK)) [wb] (aY 0) (oPT jI) (oL (fun ω ds=>pu (dQ ds) ω) (aC (oP (dC (.str "meet"))) (aC (oP (aD 0)) (aC (o2 (lf pZ) (oP (aD 0)) (oP (dC (.int 1)))) aK)))))) (aS (o2 lM (oP (aD 1)) (cG lW (oIA GS (aC (o2 (lf gSub) (oP (aD 0)) (oP (dC (.int 2)))) (aC (oP (d1 Ij (dC (.int 1)))) (aC (oP (d1 Ij (dC (.int 1)))) aK)))) [wb] (aY 0) (oPT jI) (oL (fun ω ds=>pu (dQ ds) ω) (aC (oP (dC (.str "meet"))) (aC (o2 (lf pZ) (oP (aD 0)) (oP (dC (.int 1)))) (aC (oP (aD 0)) aK))))))))
noncomputable def gM:eK:=eA 1 Ab yO
noncomputable abbrev Pk:List Str:=["_law_script","_law_count","_law_own","_law_words","_law_name","_law_deeds","_law_before","_law_rest","_law_there","_law_longer","_law_told","_law_mark","_law_behind","_law_rows","_law_handed","_law_one","_law_found","_law_due"]
noncomputable abbrev Ph:List Str:=["_law_script"]
noncomputable abbrev sZ:OS:=(aH (aW 16 (bC jR (aC (oP (aD 14)) (aC (oP (aD 15)) aK)))) (aH (aW 17 (cG lW (oIL (oP (aD 7))) [wb,v9 15] (aY 0) (cS (o2 (kW 8) (o2 (fun ω a b=>pu (bH ω a b) ω) (oP (aD 0)) (oP (dC (.int 0)))) (oP (aD 1)))) (o2 (fun ω a b=>pu (bH ω a b) ω) (oP (aD 0)) (oP (dC (.int 2)))))) (aH (dU (cS (o2 (kW 8) (oP (aD 15)) (oP (aD 4)))) (aW 17 (oL (fun ω ds=>pu (gC ds) ω) (aC (oP (dC (.int 77))) aK))) bF) (dU (oOr (iH (gH (jL "list" (oP (aD 16))))) (oOr (iH (gH (bC (dA 8) (aC (oP (aD 16)) (aC (oP (aD 17)) aK))))) (cS (o2 (uI 8) (oP (aD 14)) (oP (aD 13)))))) (aS (oP (dC (.bl false)))) bF))))
noncomputable abbrev sY:OS:=(aH (dU (iH (gH (bC (dA 8) (aC (oP (aD 13)) (aC (oL (Eo 4) (aC (o2 lM (oP (aD 7)) (oL (fun ω ds=>pu (gC ds) ω) (aC (oL (fun ω ds=>pu (dQ ds) ω) (aC (oP (aD 4)) (aC (oP (aD 11)) (aC (oP (dC (.int 77))) aK)))) aK))) aK)) aK))))) (aS (oP (dC (.bl false)))) bF) (aH (aW 14 (oL iD (aC (oP (aD 13)) aK))) (sNx (cH (oIL (oP (aD 3))) (aY 15) sZ))))
noncomputable abbrev Na:OS:=(aH (aW 1 (o2 (fun ω a b=>pu (bH ω a b) ω) (oL (fun ω ds=>pu (gC ds) ω) (aC (oP (dC (.int 1))) (aC (oP (dC (.int 2))) (aC (oP (dC (.int 3))) (aC (oP (dC (.int 4))) (aC (oP (dC (.int 2))) (aC (oP (dC (.int 3))) (aC (oP (dC (.int 4))) (aC (oP (dC (.int 8))) aK))))))))) (o2 (lf cC) (o2 (lf cC) (o2 (lf iC) (bC kK (aC (oP (aD 0)) (aC (oP (dC (.int 0))) aK))) (oP (dC (.int 48271)))) (oP (dC (.int 1069)))) (oP (dC (.int 8)))))) (aH (aW 2 (o2 (lf cC) (o2 (lf cC) (o2 (lf iC) (bC kK (aC (oP (aD 0)) (aC (oP (dC (.int 1))) aK))) (oP (dC (.int 48271)))) (oP (dC (.int 1087)))) (oP (aD 1)))) (aH (aW 3 (o2 lM (cG lW (oIA kU (aC (oP (dC (.int 4))) aK)) [wb,v9 1] (aY 0) (oPT jI) (bC dE (aC (oP (aD 0)) (aC (oP (aD 1)) aK)))) (oL (fun ω ds=>pu (gC ds) ω) (aC (oP (dC (.str "corn"))) aK)))) (aH (aW 4 (o2 (fun ω a b=>pu (bH ω a b) ω) (oP (aD 3)) (o2 (fun ω a b=>pu (bH ω a b) ω) (oL (fun ω ds=>pu (gC ds) ω) (aC (oP (dC (.int 0))) (aC (oP (dC (.int 1))) (aC (oP (dC (.int 2))) (aC (oP (dC (.int 4))) aK))))) (o2 (lf cC) (o2 (lf cC) (o2 (lf iC) (bC kK (aC (oP (aD 0)) (aC (oP (dC (.int 1))) aK))) (oP (dC (.int 48271)))) (oP (dC (.int 1091)))) (oP (dC (.int 4))))))) (aH (aW 5 (o2 lM (bC jS (aC (oSl (oP (aD 0)) (dSo (dC (.int 2))) (dSo (dC (.int 20)))) (aC (oP (aD 1)) aK))) (bC gM (aC (oP (aD 1)) aK)))) (aH (aW 6 (o2 (fun ω a b=>pu (bH ω a b) ω) (bC dM (aC (oP (aD 1)) (aC (oP (aD 5)) aK))) (oP (dC (.int 0))))) (aH (dU (iH (gH (bC cE (aC (oP (aD 6)) (aC (oP (aD 1)) aK))))) (aS (oP (dC (.bl false)))) bF) (aH (aW 7 (cG lW (oIL (o2 (fun ω a b=>pu (bH ω a b) ω) (oP (aD 6)) (oP (aD 2)))) [wb,v9 4] (aY 0) (cS (o2 (uI 8) (o2 (fun ω a b=>pu (bH ω a b) ω) (oP (aD 0)) (oP (dC (.int 0)))) (oP (aD 1)))) (oP (aD 0)))) (aH (aW 8 (cG lW (oIL (o2 (fun ω a b=>pu (bH ω a b) ω) (oP (aD 6)) (oP (aD 2)))) [wb,v9 4] (aY 0) (cS (o2 (kW 8) (o2 (fun ω a b=>pu (bH ω a b) ω) (oP (aD 0)) (oP (dC (.int 0)))) (oP (aD 1)))) (o2 (fun ω a b=>pu (bH ω a b) ω) (oP (aD 0)) (oP (dC (.int 1)))))) (aH (aW 9 (o2 lM (o2 lM (oP (aD 5)) (oL (fun ω ds=>pu (gC ds) ω) (aC (oL (fun ω ds=>pu (dQ ds) ω) (aC (oP (dC (.str "change"))) (aC (oP (aD 2)) (aC (oP (aD 4)) (aC (oP (dC (.int 77))) aK))))) aK))) (bC gM (aC (oP (aD 1)) aK)))) (aH (aW 10 (bC nO (aC (oP (aD 1)) (aC (o2 lM (oP (aD 9)) (oL (fun ω ds=>pu (gC ds) ω) (aC (oL (fun ω ds=>pu (dQ ds) ω) (aC (oP (dC (.str "take"))) (aC (oP (aD 2)) (aC (oP (aD 4)) aK)))) aK))) aK)))) (aH (dU (oOr (iH (gH (jL "list" (oP (aD 10))))) (cS (o2 (uI 8) (oL fO (aC (oP (aD 10)) aK)) (o2 (lf pZ) (oL fO (aC (oP (aD 9)) aK)) (oP (dC (.int 1))))))) (aS (oP (dC (.bl false)))) bF) (aH (aW 11 (o2 (fun ω a b=>pu (bH ω a b) ω) (oP (aD 10)) (oL fO (aC (oP (aD 5)) aK)))) (aH (dU (oOr (iH (gH (jL "tuple" (oP (aD 11))))) (oOr (cS (o2 (uI 8) (oL fO (aC (oP (aD 11)) aK)) (oP (dC (.int 2))))) (cS (o2 (lf (gIn 7)) (oP (aD 11)) (oP (aD 8)))))) (aS (oP (dC (.bl false)))) bF) (aH (dU (iH (gH (bC (dA 8) (aC (o2 (fun ω a b=>pu (bH ω a b) ω) (oP (aD 10)) (oP (d1 Ij (dC (.int 1))))) (aC (oL (fun ω ds=>pu (gC ds) ω) (aC (oP (aD 11)) aK)) aK))))) (aS (oP (dC (.bl false)))) bF) (aH (aW 12 (o2 (fun ω a b=>pu (bH ω a b) ω) (bC dM (aC (oP (aD 1)) (aC (oP (aD 9)) aK))) (oP (dC (.int 0))))) (aH (dU (iH (gH (bC cE (aC (oP (aD 12)) (aC (oP (aD 1)) aK))))) (aS (oP (dC (.bl false)))) bF) (aH (sNx (cH (oIL (oP (aD 12))) (aY 13) sY)) (aS (oP (dC (.bl true))))))))))))))))))))))
noncomputable def p_law:eK:=eA 1 Pk Na
theorem fS (J:Rho->Prop) (hc:chk ω=true):∀ {ds:List D}{ρ:Rho},J ρ->(∀ d∈ds,∀ ρ,J ρ->∃ ρ1,bd d ρ=v9 ρ1/\J ρ1/\t ρ1 ω=v9 (.ok (p d),ω)/\(p d=true->f ρ1 ω=v9 (.ok (g d),ω)))->
  compLO bd chk t f ds ρ ω=v9 ((ds.filter p).map g,ω)
 |[],ρ,_,_=>by
  show(if chk ω=true then v9 ([],ω) else wb)=_
  rw[if_pos hc];rfl
 |d::ds,ρ,hJ,h=>by
  obtain⟨ρ1,h1,h2,h3,h4⟩:=h d ar ρ hJ;have ih:=fS J hc h2 fun d' hd=>h d' (ai _ hd);unfold compLO;rw[if_pos hc,h1]
  show(match t ρ1 ω with
   |some (.ok k,ω1)=>_
   |_=>_)=_
  rw[h3];cases hp:p d with
  |true=>
   rw[dw hp]
   show(if true=true then(match f ρ1 ω with
    |some (.ok y,ω2)=>_
    |_=>wb) else _)=_
   rw[if_pos rfl,h4 hp]
   show(compLO bd chk t f ds ρ1 ω).map _=_
   rw[ih];rfl
  |false=>
   rw[du (by rw[hp];exact cq)];exact ih
theorem fY (J:Rho->Prop) (hc:chk ω=true) (hJ:J ρ) (h:∀ d∈ds,∀ ρ,J ρ->∃ ρ1,bd d ρ=v9 ρ1/\J ρ1/\f ρ1 ω=v9 (.ok (g d),ω)):
  compLO bd chk (oPT jI) f ds ρ ω=v9 (ds.map g,ω):=by
 have:=fS (t:=oPT jI) (p:=fun _=>true) (g:=g) J hc hJ fun d hd ρ hρ=>let ⟨ρ1,h1,h2,h3⟩:=h d hd ρ hρ;⟨ρ1,h1,h2,rfl,fun _=>h3⟩
 rw[this]
 congr 2
 rw[tu.mpr (fun _ _=>rfl)]
theorem dY (h1:fi ρ ω=v9 (.ok (ds,chk),ω1)) (hl:ds.length<=sizeLine) (h2:compLO bd chk t f ds (Bj caps ρ) ω1=v9 (out,ω2)):cG lW fi caps bd t f ρ ω=v9 (.ok (.lst out),ω2):=by
 unfold cG;rw[bB h1]
 show(if ds.length<=sizeLine then _ else wb)=_
 rw[if_pos hl]
 show(compLO bd chk t f ds (Bj caps ρ) ω1).bind _=_
 rw[h2];rfl
theorem xZ (h1:fi ρ ω=v9 (.ok (ds,chk),ω1)) (hl:ds.length<=sizeLine) (h2:compLO bd chk t f ds (Bj caps ρ) ω1=v9 (out,ω2)):cG Nm fi caps bd t f ρ ω=v9 (.ok (.obj ω2.length),ω2++[.ml out]):=by
 unfold cG;rw[bB h1]
 show(if ds.length<=sizeLine then _ else wb)=_
 rw[if_pos hl]
 show(compLO bd chk t f ds (Bj caps ρ) ω1).bind _=_
 rw[h2];rfl
theorem eY (hc:chk ω=true) (hb:bd d ρ=v9 ρ1) (hF:F ρ1 ω=v9 (.nx ρ2,ω2)):cR bd chk F (d::ds) ρ ω=cR bd chk F ds ρ2 ω2:=by
 show(if chk ω=true then(bd d ρ).bind (fun ρ1=>match F ρ1 ω with
  |none=>wb
  |some (.nx ρ2,ω2)=>cR bd chk F ds ρ2 ω2
  |some (.ct ρ2,ω2)=>cR bd chk F ds ρ2 ω2
  |some (.bk ρ2,ω2)=>v9 (.nx ρ2,ω2)
  |some (.rt d,ω2)=>v9 (.rt d,ω2)
  |some (.ex _,_)=>wb) else wb)=_
 rw[if_pos hc,hb]
 show(match F ρ1 ω with
  |none=>wb
  |some (.nx ρ2,ω2)=>cR bd chk F ds ρ2 ω2
  |some (.ct ρ2,ω2)=>cR bd chk F ds ρ2 ω2
  |some (.bk ρ2,ω2)=>v9 (.nx ρ2,ω2)
  |some (.rt d,ω2)=>v9 (.rt d,ω2)
  |some (.ex _,_)=>wb)=_
 rw[hF]
theorem wN (hc:chk ω=true) (hb:bd d ρ=v9 ρ1) (hf:f ρ1 ω=v9 (.ok y,ω2)):compLO bd chk (oPT jI) f (d::ds) ρ ω=(compLO bd chk (oPT jI) f ds ρ1 ω2).map fun r=>(y::r.1,r.2):=by
 rw[compLO.eq_2,if_pos hc,hb]
 show(match f ρ1 ω with
  |some (.ok y,ω2)=>(compLO bd chk (oPT jI) f ds ρ1 ω2).map fun r:List D×Om=>(y::r.1,r.2)
  |_=>wb)=_
 rw[hf]
mutual
theorem qP:∀ a:D,fC a a=true
 |.non=>by simp[fC]
 |.bl a=>by simp[fC]
 |.int a=>by simp[fC]
 |.str a=>by simp[fC]
 |.obj a=>by simp[fC]
 |.lst a=>by simpa [fC] using sameDs_refl a
 |.tup a=>by simpa [fC] using sameDs_refl a
 |.scr a=>by simpa [fC] using sameDs_refl a
theorem sameDs_refl:∀ a:List D,sameDs a a=true
 |[]=>by simp[sameDs]
 |a::as=>by simp[sameDs,qP a,sameDs_refl as]
end
noncomputable def iv (xs:List Int):List D:=xs.map D.int
noncomputable def RowV (ω:Om) (d:D) (xs:List Int):Prop:=dJ ω d=v9 (iv xs)
theorem RowV.it (h:RowV ω d xs):∃ chk,wA ω d=v9 (iv xs,chk)/\chk ω=true:=by
 rcases kE h with rfl|⟨n,rfl,e⟩
 ·exact⟨bT,rfl,rfl⟩
 ·refine⟨rF n (iv xs),?_,?_⟩
  ·show(match ω[n]? with
    |some (.ml ds)=>v9 (ds,rF n ds)
    |_=>wb)=_
   rw[e]
  ·unfold rF;rw[e];exact sameDs_refl _
theorem yS (e:ω[n]?=v9 (.ml ds)):bH ω (.obj n) (.int a)=atI ds a:=by
 simp only[bH,cellOf,e];rfl
theorem RowV.ix (h:RowV ω d xs) {a:Int} (h0:0<=a) (h1:a<xs.length):bH ω d (.int a)=v9 (.int (xs.getD a.toNat 0)):=by
 have key:atI (iv xs) a=v9 (.int (xs.getD a.toNat 0)):=by
  unfold atI ixN iv;have hl:a<((xs.map D.int).length:Int):=by simpa using h1
  rw[if_pos h0,if_pos hl]
  show(xs.map D.int)[a.toNat]?=_
  have:a.toNat<xs.length:=by omega
  rw[az,bj this,au,bj this];rfl
 rcases kE h with rfl|⟨n,rfl,e⟩
 ·exact key
 ·rw[yS e];exact key
theorem aU (e1:f ρ ω=v9 (.ok a,ω1)) (e2:h ρ ω1=v9 (.ok b,ω2)) (e3:bH ω2 a b=v9 d):o2 (fun ω a b=>pu (bH ω a b) ω) f h ρ ω=v9 (.ok d,ω2):=gB e1 e2 (by show pu (bH ω2 a b) ω2=_;rw[e3];rfl)
theorem oE (h:RowV ω d xs) {a b:Int} (h0:0<=a) (h1:a<xs.length):fB [d,.tup [.int a,.int b]] ω=v9 (.ok (.bl (decide (b<=xs.getD a.toNat 0))),ω):=by
 refine aT rfl (bA (fH (aU (aB (d:=.tup [.int a,.int b]) rfl) aV rfl) (aU (aB (d:=d) rfl) (aU (aB (d:=.tup [.int a,.int b]) rfl) aV rfl) (h.ix h0 h1)) rfl))
theorem Cy (e1:f ρ ω=v9 (.ok a,ω)) (e2:h ρ ω=v9 (.ok b,ω)) (h1:RowV ω a xs) (h2:RowV ω b ys):∃ chk,oIZ (aC f (aC h aK)) ρ ω=v9 (.ok (xH (iv xs) (iv ys),chk),ω)/\chk ω=true:=by
 obtain⟨c1,g1,k1⟩:=h1.it;obtain⟨c2,g2,k2⟩:=h2.it;refine⟨fun ω=>c1 ω&&c2 ω,?_,by simp[k1,k2]⟩;unfold oIZ;rw[bB (aA e1 (aA e2 aE))];show oR (pu (NI ω [a,b]) ω)=_;unfold NI;show oR (pu ((wA ω a).bind _) ω)=_;rw[g1];show oR (pu ((wA ω b).map _) ω)=_;rw[g2];rfl
theorem sC (hG:∀ x y,G (.tup [.int x,.int y])=.int (g x y)):(xH (iv xs) (iv ys)).map G=iv (bu g xs ys):=by
 unfold xH iv;rw[va]
 induction xs generalizing ys with
 |nil=>rfl
 |cons x r ih=>
  cases ys with
  |nil=>rfl
  |cons y r'=>simp only[i9,bq,hG,ih]
theorem xF (h:d∈xH (iv xs) (iv ys)):∃ x y,d=.tup [.int x,.int y]:=by
 unfold xH iv at h;rw[va] at h
 induction xs generalizing ys with
 |nil=>simp at h
 |cons x r ih=>
  cases ys with
  |nil=>simp at h
  |cons y r'=>
   rw[i9] at h;rcases aj.mp h with h|h
   ·exact⟨x,y,h⟩
   ·exact ih h
theorem xG (h:xs.length<=sizeLine):(xH (iv xs) (iv ys)).length<=sizeLine:=by
 unfold xH iv;rw[d7,ao,ao];omega
noncomputable def D2 (g:Int->Int->Int):D->D
 |.tup [.int x,.int y]=>.int (g x y)
 |d=>d
noncomputable def mx (i j:Int):Int:=if j>i then j else i
noncomputable def mn (i j:Int):Int:=if j<i then j else i
theorem uQ:∀ xs:List Int,mT (iv xs)=v9 xs
 |[]=>rfl
 |x::r=>by
  show(mT (iv r)).map _=_
  rw[uQ r];rfl
theorem vQ (h1:RowV ω a xs) (h2:RowV ω b ys) (hl:xs.length<=sizeLine):gO [a,b] ω=v9 (.ok (.obj ω.length),ω++[.ml (iv (bu mx xs ys))]):=by
 obtain⟨chk,z1,z2⟩:=Cy (f:=oP (aD 0)) (h:=oP (aD 1)) (ρ:=cD Bq [a,b]) (aB (d:=a) rfl) (aB (d:=b) rfl) h1 h2;refine aT rfl (bA (xZ z1 (xG hl) ?_));rw[<- sC (G:=D2 mx) (fun _ _=>rfl)];refine fY (fun ρ=>ρ.length=2) z2 rfl fun d hd ρ hρ=> ?_;obtain⟨x,y,rfl⟩:=xF hd
 match ρ,hρ with
 |[u,v],_=>exact⟨_,rfl,rfl,rfl⟩
theorem Gs (h1:RowV ω a xs) (h2:RowV ω b ys) (hl:xs.length<=sizeLine):xV [a,b] ω=v9 (.ok (.int (bu (fun x y=>mx (y-x) 0) xs ys).sum),ω):=by
 obtain⟨chk,z1,z2⟩:=Cy (f:=oP (aD 0)) (h:=oP (aD 1)) (ρ:=cD Fp [a,b]) (aB (d:=a) rfl) (aB (d:=b) rfl) h1 h2;refine aT rfl (bA (eX (aA (dY (ω2:=ω) (out:=iv (bu (fun x y=>mx (y-x) 0) xs ys)) z1 (xG hl) ?_) aE) ?_))
 ·rw[<- sC (G:=D2 fun x y=>mx (y-x) 0) (fun _ _=>rfl)];refine fY (fun ρ=>ρ.length=2) z2 rfl fun d hd ρ hρ=> ?_;obtain⟨x,y,rfl⟩:=xF hd
  match ρ,hρ with
  |[u,v],_=>exact⟨_,rfl,rfl,rfl⟩
 ·show pu ((mT (iv _)).map _) ω=_;rw[uQ];rfl
theorem AZ (R:α->Rho->Om->Prop) (st:α->D->α) (hc:∀ a ρ ω,R a ρ ω->chk ω=true):∀ {ds:List D}{a:α}{ρ:Rho}{ω:Om},R a ρ ω->(∀ d∈ds,∀ a ρ ω,R a ρ ω->∃ ρ1 ρ2 ω2,bd d ρ=v9 ρ1/\F ρ1 ω=v9 (.nx ρ2,ω2)/\R (st a d) ρ2 ω2)->
  ∃ ρ' ω',cR bd chk F ds ρ ω=v9 (.nx ρ',ω')/\R (ds.foldl st a) ρ' ω'
 |[],a,ρ,ω,h,_=>⟨ρ,ω,by show(if chk ω=true then _ else wb)=_;rw[if_pos (hc a ρ ω h)],h⟩
 |d::ds,a,ρ,ω,h,g=>by
  obtain⟨ρ1,ρ2,ω2,e1,e2,h2⟩:=g d ar a ρ ω h;obtain⟨ρ',ω',e3,h3⟩:=AZ R st hc h2 fun d' hd=>g d' (ai _ hd);refine⟨ρ',ω',?_,h3⟩;exact(eY (hc a ρ ω h) e1 e2).trans e3
theorem iL (h:F ρ ω=v9 (.nx ρ',ω')):sNx F ρ ω=v9 (.nx ρ',ω'):=by
 unfold sNx;rw[h]
structure Hd where
 knows:List (List Int)
 table:List (List Key×D)
 kept:List (List Key×D)
noncomputable def RowsAt (ω:Om):List Nat->List (List Int)->Prop:=j9 fun r xs=>ω[r]?=v9 (Ob.ml (iv xs))
structure HandAt (ω:Om) (h:Nat) (i:Int) (hd:Hd) (k t e:Nat) (rs:List Nat):Prop where
 obj:ω[h]?=v9 (.ins 0 [("number",.int i),("knows",.obj k),("table",.obj t),("kept",.obj e)])
 kn:ω[k]?=v9 (.ml (rs.map D.obj))
 rows:RowsAt ω rs hd.knows
 tb:ω[t]?=v9 (.dt hd.table)
 kp:ω[e]?=v9 (.dt hd.kept)
 nd:(h::k::t::e::rs).Nodup
theorem RowsAt.get (h:RowsAt ω rs kn) {j:Nat} (e:kn[j]?=v9 xs):∃ r,rs[j]?=v9 r/\ω[r]?=v9 (.ml (iv xs)):=by
 induction h generalizing j with
 |nil=>simp at e
 |cons hr _ ih=>
  cases j with
  |zero=>simp at e;subst e;exact⟨_,rfl,hr⟩
  |succ j=>simp at e;obtain⟨r,e1,e2⟩:=ih e;exact⟨r,by simpa using e1,e2⟩
theorem RowsAt.length (h:RowsAt ω rs kn):rs.length=kn.length:=iy h
theorem fP (e1:f ρ ω=v9 (.ok (.obj n),ω1)) (e2:ω1[n]?=v9 (.ins c fs)) (e3:fs.lookup x=v9 d):fV c x f ρ ω=v9 (.ok d,ω1):=by
 unfold fV;rw[bB e1];show oR (pu (KQ c x ω1 (.obj n)) ω1)=_
 have:KQ c x ω1 (.obj n)=v9 d:=by
  simp[KQ,cellOf,e2,e3]
 rw[this];rfl
theorem bN (e1:fo ρ ω=v9 (.ok (.obj n),ω1)) (e2:ω1[n]?=v9 (.ins c fs)) (e3:fs.lookup m=wb) (e4:fl ρ ω1=v9 (.ok ds,ω2)) (e5:φ (.obj n::ds) ω2=v9 (r,ω3)):
  aZ c m φ fo fl ρ ω=v9 (r,ω3):=by
 unfold aZ;rw[bB e1]
 have:BO c m ω1 (.obj n)=true:=by
  simp only[BO,cellOf,e2,e3];simp
 show(if BO c m ω1 (.obj n)=true then _ else wb)=_
 rw[if_pos this,bB e4];exact e5
section
variable {ω:Om}{h k t e:Nat}{i:Int}{hd:Hd}{rs:List Nat}{ρ:Rho}{f:OG D}
theorem HandAt.number (H:HandAt ω h i hd k t e rs) (ef:f ρ ω=v9 (.ok (.obj h),ω)):fV 0 "number" f ρ ω=v9 (.ok (.int i),ω):=fP ef H.obj rfl
theorem HandAt.knows (H:HandAt ω h i hd k t e rs) (ef:f ρ ω=v9 (.ok (.obj h),ω)):fV 0 "knows" f ρ ω=v9 (.ok (.obj k),ω):=fP ef H.obj rfl
theorem HandAt.table (H:HandAt ω h i hd k t e rs) (ef:f ρ ω=v9 (.ok (.obj h),ω)):fV 0 "table" f ρ ω=v9 (.ok (.obj t),ω):=fP ef H.obj rfl
theorem HandAt.kept (H:HandAt ω h i hd k t e rs) (ef:f ρ ω=v9 (.ok (.obj h),ω)):fV 0 "kept" f ρ ω=v9 (.ok (.obj e),ω):=fP ef H.obj rfl
noncomputable def Hd.seen (hd:Hd) (i:Nat):List Int:=hd.knows.getD i []
theorem jQ {i:Nat} (H:HandAt ω h i hd k t e rs) (hr:rs[i]?=v9 r):bL [.obj h] ω=v9 (.ok (.obj r),ω):=by
 refine aT rfl (bA (aU (H.knows (aB rfl)) (H.number (aB rfl)) ?_));rw[yS H.kn];have hl:i<rs.length:=(bg.mp hr).1;unfold atI ixN;rw[if_pos (jh i),if_pos (by simpa using hl)]
 show(rs.map D.obj)[i]?=_
 rw[az,hr];rfl
theorem HandAt.seenRow {i:Nat} (H:HandAt ω h i hd k t e rs) (hi:i<hd.knows.length):∃ r,rs[i]?=v9 r/\ω[r]?=v9 (.ml (iv (hd.seen i))):=by
 refine H.rows.get ?_;unfold Hd.seen;rw[au,bj hi];rfl
noncomputable def Hd.entries (hd:Hd):Option (List D):=dI 4 (hd.table.map (·.2))
theorem jF (H:HandAt ω h i hd k t e rs) (hs:hd.entries=v9 out):bK [.obj h] ω=v9 (.ok (.lst out),ω):=by
 refine aT rfl (bA ?_);unfold Gm;rw[bB (H.table (aB rfl))];show oR (pu (En 4 ω (.obj t)) ω)=_
 have:En 4 ω (.obj t)=v9 (.lst out):=by
  simp only[En,cellOf,H.tb]
  show(hd.entries).map _=_
  rw[hs];rfl
 rw[this];rfl
theorem bQ (e1:fo ρ ω=v9 (.ok (.obj n),ω1)) (e2:ω1[n]?=v9 (.ins c fs)) (e3:fs.lookup m=wb) (e5:φ [.obj n] ω1=v9 (r,ω3)):
  aZ c m φ fo aK ρ ω=v9 (r,ω3):=bN e1 e2 e3 aE e5
noncomputable def marksIn (name:D) (rows:List D):List D:=(rows.filter fun d=>match d with|.tup (a::_)=>(eqD 8 a name)==v9 true|_=>false).map fun d=>match d with|.tup (_::m::_)=>m|_=>.non
noncomputable def bV (d:D):Prop:=∃ x a b v,d=.tup [.str x,.tup [.int a,.int b],.int v]
theorem gD (n:Nat) (x y:Str):eqD n (.str x) (.str y)=v9 (decide (x=y)):=by cases n <;> rfl
theorem Gy (H:HandAt ω h i hd k t e rs) (hs:hd.entries=v9 out) (he:∀ d∈out,bV d) (hl:out.length<=sizeLine) (y:Str):cN [.obj h,.str y] ω=v9 (.ok (.lst (marksIn (.str y) out)),ω):=by
 have e1:aZ 0 "entries" bK (oP (aD 0)) aK (cD iY [.obj h,.str y]) ω=v9 (.ok (.lst out),ω):=bQ (aB rfl) H.obj rfl (jF H hs);refine aT rfl (bA (dY (ds:=out) (chk:=bT) (ω1:=ω) ?_ hl ?_))
 ·unfold oIL;rw[bB e1];rfl
 ·unfold marksIn;refine fS (fun ρ=>∃ u,ρ=[u,v9 (.str y)]) rfl ⟨_,rfl⟩ fun d hd ρ hρ=> ?_;obtain⟨x,a,b,v,rfl⟩:=he d hd;obtain⟨u,rfl⟩:=hρ;refine⟨_,rfl,⟨_,rfl⟩,?_,fun _=>rfl⟩;refine bZ (gB (aU (aB rfl) aV rfl) (aB rfl) ?_);show pu ((eqD 8 (.str x) (.str y)).map D.bl) ω=_;rw[gD];show v9 (D.bl (decide (x=y)),ω)=v9 (D.bl (eqD 8 (.str x) (.str y)==v9 true),ω);rw[gD];cases decide (x=y) <;> rfl
theorem lI {o i v:D} (e1:fv ρ ω=v9 (.ok v,ω1)) (e2:fo ρ ω1=v9 (.ok o,ω2)) (e3:fi ρ ω2=v9 (.ok i,ω3)) (e4:g ω3 o i v=v9 ω4):nL g fo fi fv ρ ω=v9 (.nx ρ,ω4):=by
 unfold nL;rw[cV e1,cV e2,cV e3]
 show(g ω3 o i v).map _=_
 rw[e4];rfl
theorem CU {j:Nat} (e:ω[n]?=v9 (.ml ds)) (hj:j<ds.length):yR ω (.obj n) (.int j) v=v9 (ω.set n (.ml (ds.set j v))):=by
 simp only[yR,e];unfold ixN;rw[if_pos (jh j),if_pos (by simpa using hj)];simp
theorem aR (h:m≠n):(ω.set n ob)[m]?=ω[m]?:=hX (c5 h)
theorem cT (h:ω[n]?=v9 ob'):(ω.set n ob)[n]?=v9 ob:=by
 have hl:n<ω.length:=(bg.mp h).1;simp[hl]
theorem RowsAt.mono (h:RowsAt ω rs kn) (k:∀ r∈rs,ω'[r]?=ω[r]?):RowsAt ω' rs kn:=by
 induction h with
 |nil=>exact .nil
 |cons hr _ ih=>exact .cons ((k _ ar).trans hr) (ih fun r hr=>k r (ai _ hr))
theorem HandAt.mono (H:HandAt ω h i hd k t e rs) (g:∀ n∈h::k::t::e::rs,ω'[n]?=ω[n]?):HandAt ω' h i hd k t e rs:=
 ⟨(g h (by simp)).trans H.obj,(g k (by simp)).trans H.kn,H.rows.mono fun r hr=>g r (by simp[hr]),(g t (by simp)).trans H.tb,(g e (by simp)).trans H.kp,H.nd⟩
theorem RowsAt.set (h:RowsAt ω rs kn) (nd:rs.Nodup) (hr:rs[j]?=v9 r):RowsAt (ω.set r (.ml (iv xs))) rs (kn.set j xs):=by
 induction h generalizing j with
 |nil=>simp at hr
 |@cons r0 x0 rs' kn' h0 t ih=>
  rw[b9] at nd;cases j with
  |zero=>
   simp at hr;subst hr;rw[uk];refine .cons (cT h0) (RowsAt.mono t fun q hq=>aR fun z=>nd.1 (z ▸ hq))
  |succ j=>
   simp at hr;rw[ul];refine .cons ?_ (ih nd.2 hr)
   show(ω.set r (.ml (iv xs)))[r0]?=_
   rw[aR (show r0≠r from fun z=>nd.1 (by rw[z];exact eu hr))];exact h0
noncomputable def Keep (fp:List Nat) (ω ω':Om):Prop:=ω.length<=ω'.length/\∀ n,n<ω.length->n∉fp->ω'[n]?=ω[n]?
theorem Keep.refl (fp:List Nat) (ω:Om):Keep fp ω ω:=⟨bp _,fun _ _ _=>rfl⟩
theorem Keep.trans (a:Keep fp ω ω1) (b:Keep fp ω1 ω2):Keep fp ω ω2:=⟨ci a.1 b.1,fun n h1 h2=>(b.2 n (cf h1 a.1) h2).trans (a.2 n h1 h2)⟩
theorem Keep.set (h:n∈fp):Keep fp ω (ω.set n ob):=⟨by simp,fun m _ hm=>aR fun z=>hm (z ▸ h)⟩
noncomputable def Hd.bump (hd:Hd) (i:Nat):Hd:={ hd with knows:=hd.knows.set i ((hd.seen i).set i ((hd.seen i).getD i 0+1)) }
theorem nU {i:Nat} (H:HandAt ω h i hd k t e rs) (hi:i<hd.knows.length) (hs:i<(hd.seen i).length):∃ ω',cM [.obj h] ω=v9 (.ok (.tup [.int i,.int ((hd.seen i).getD i 0+1)]),ω')/\HandAt ω' h i (hd.bump i) k t e rs/\Keep rs ω ω'/\ω'.length=ω.length:=by
 obtain⟨r,hr,er⟩:=H.seenRow hi;have hm:r∈rs:=eu hr;have nd:=H.nd;simp only[b9,aj,not_or] at nd;obtain⟨⟨h1,h2,h3,h4⟩,⟨h5,h6,h7⟩,⟨h8,h9⟩,h10,h11⟩:=nd;have ne:∀ {n:Nat},n∉rs->n≠r:=fun hn z=>hn (z ▸ hm);refine⟨ω.set r (.ml (iv ((hd.seen i).set i ((hd.seen i).getD i 0+1)))),?_,⟨?_,?_,H.rows.set h11 hr,?_,?_,H.nd⟩,Keep.set hm,by simp⟩
 ·have ix:bH ω (.obj r) (.int i)=v9 (.int ((hd.seen i).getD i 0)):=by
   have:=RowV.ix (ω:=ω) (d:=.obj r) (xs:=hd.seen i) (by unfold RowV dJ;simp only[er]) (a:=i) (jh i) (by simpa using hs)
   simpa using this
  refine aT rfl ?_;unfold iR;rw[aN (bQ (aB rfl) H.obj rfl (jQ H hr))];have e2:(ω.set r (.ml (iv ((hd.seen i).set i ((hd.seen i).getD i 0+1)))))[h]?=ω[h]?:=aR (ne h4);rw[bG (lI (fH (aU (aB (d:=.obj r) rfl) (H.number (aB rfl)) ix) aV rfl) (aB (d:=.obj r) rfl) (H.number (aB rfl)) (CU er (by unfold iv;simpa using hs)))];have e3:(iv (hd.seen i)).set i (.int ((hd.seen i).getD i 0+1))=iv ((hd.seen i).set i ((hd.seen i).getD i 0+1)):=by
   unfold iv;rw[List.map_set]
  rw[e3];have H2:fV 0 "number" (oP (aD 0)) [v9 (.obj h),v9 (.obj r)] (ω.set r (.ml (iv ((hd.seen i).set i ((hd.seen i).getD i 0+1)))))=v9 (.ok (.int i),ω.set r (.ml (iv ((hd.seen i).set i ((hd.seen i).getD i 0+1))))):=fP (aB rfl) (e2.trans H.obj) rfl;have er2:=cT (ob:=.ml (iv ((hd.seen i).set i ((hd.seen i).getD i 0+1)))) er;refine bA (eX (aA H2 (aA (aU (d:=.int ((hd.seen i).getD i 0+1)) (aB (d:=.obj r) rfl) H2 ?_) aE)) rfl)
  have:=RowV.ix (ω:=ω.set r (.ml (iv ((hd.seen i).set i ((hd.seen i).getD i 0+1))))) (d:=.obj r) (xs:=(hd.seen i).set i ((hd.seen i).getD i 0+1)) (by unfold RowV dJ;simp only[er2]) (a:=i) (jh i) (by simpa using hs)
  rw[this];simp[hs]
 ·rw[aR (ne h4)];exact H.obj
 ·rw[aR (ne h7)];exact H.kn
 ·rw[aR (ne h9)];exact H.tb
 ·rw[aR (ne h10)];exact H.kp
end
section
variable {ω:Om}{h k t e:Nat}{i:Nat}{hd:Hd}{rs:List Nat}{ρ:Rho}{f:OG D}
theorem HandAt.ne (H:HandAt ω h i hd k t e rs):(h≠k/\h≠t/\h≠e/\h∉rs)/\(k≠t/\k≠e/\k∉rs)/\(t≠e/\t∉rs)/\e∉rs/\rs.Nodup:=by
 have nd:=H.nd;simp only[b9,aj,not_or] at nd;obtain⟨⟨h1,h2,h3,h4⟩,⟨h5,h6,h7⟩,⟨h8,h9⟩,h10,h11⟩:=nd;exact⟨⟨h1,h2,h3,h4⟩,⟨h5,h6,h7⟩,⟨h8,h9⟩,h10,h11⟩
theorem HandAt.setT (H:HandAt ω h i hd k t e rs) (T:List (List Key×D)):HandAt (ω.set t (.dt T)) h i { hd with table:=T } k t e rs:=by
 obtain⟨⟨h1,h2,h3,h4⟩,⟨h5,h6,h7⟩,⟨h8,h9⟩,h10,h11⟩:=H.ne;refine⟨?_,?_,H.rows.mono fun r hr=>aR fun z=>h9 (z ▸ hr),cT H.tb,?_,H.nd⟩
 ·rw[aR h2];exact H.obj
 ·rw[aR h5];exact H.kn
 ·rw[aR (c5 h8)];exact H.kp
theorem HandAt.setE (H:HandAt ω h i hd k t e rs) (T:List (List Key×D)):HandAt (ω.set e (.dt T)) h i { hd with kept:=T } k t e rs:=by
 obtain⟨⟨h1,h2,h3,h4⟩,⟨h5,h6,h7⟩,⟨h8,h9⟩,h10,h11⟩:=H.ne;refine⟨?_,?_,H.rows.mono fun r hr=>aR fun z=>h10 (z ▸ hr),?_,cT H.kp,H.nd⟩
 ·rw[aR h3];exact H.obj
 ·rw[aR h6];exact H.kn
 ·rw[aR h8];exact H.tb
theorem HandAt.lt (H:HandAt ω h i hd k t e rs):∀ n∈h::k::t::e::rs,n<ω.length:=by
 intro n hn;have lt:∀ {m:Nat}{o:Ob},ω[m]?=v9 o->m<ω.length:=fun q=>(bg.mp q).1;rcases aj.mp hn with rfl|hn
 ·exact lt H.obj
 rcases aj.mp hn with rfl|hn
 ·exact lt H.kn
 rcases aj.mp hn with rfl|hn
 ·exact lt H.tb
 rcases aj.mp hn with rfl|hn
 ·exact lt H.kp
 ·have:∀ {rs:List Nat}{kn:List (List Int)},RowsAt ω rs kn->∀ n∈rs,n<ω.length:=by
   intro rs kn hR
   induction hR with
   |nil=>intro n hn;simp at hn
   |cons hr _ ih=>
    intro n hn;rcases aj.mp hn with rfl|hn
    ·exact lt hr
    ·exact ih n hn
  exact this H.rows n hn
noncomputable def fI (i:Nat) (b:Int):List Key:=[.inl (i:Int),.inl b]
noncomputable def mkD (i:Nat) (b:Int):D:=.tup [.int i,.int b]
noncomputable def Hd.next (hd:Hd) (i:Nat):Int:=(hd.seen i).getD i 0+1
noncomputable def Hd.put (hd:Hd) (i:Nat) (x:Str) (v:Int):Hd:={ hd.bump i with table:=iG hd.table (fI i (hd.next i)) (.tup [.str x,mkD i (hd.next i),.int v]) }
theorem tL (e:ω[n]?=v9 (.dt kvs)) (hk:CK y=v9 ks) (hl:kvs.length<sizeLine):tH ω (.obj n) y v=v9 (ω.set n (.dt (iG kvs ks v))):=by
 simp only[tH,e,hk]
 show(if kvs.length<sizeLine then _ else wb)=_
 rw[if_pos hl]
theorem Ly (H:HandAt ω h i hd k t e rs) (hi:i<hd.knows.length) (hs:i<(hd.seen i).length) (hl:hd.table.length<sizeLine) (x:Str) (v:Int):
  ∃ ω',dX [.obj h,.str x,.int v] ω=v9 (.ok (mkD i (hd.next i)),ω')/\HandAt ω' h i (hd.put i x v) k t e rs/\Keep (t::rs) ω ω'/\ω'.length=ω.length:=by
 obtain⟨ω1,e1,H1,K1,L1⟩:=nU H hi hs;have hb:(hd.bump i).table=hd.table:=rfl;refine⟨ω1.set t (.dt (iG hd.table (fI i (hd.next i)) (.tup [.str x,mkD i (hd.next i),.int v]))),?_,?_,⟨by simp[L1],fun n hn hm=> ?_⟩,by simp[L1]⟩
 ·refine aT rfl ?_;unfold rO;rw[aN (bQ (aB rfl) H.obj rfl e1)];rw[bG (lI (eX (aA (aB (d:=.str x) rfl) (aA (aB (d:=mkD i (hd.next i)) rfl) (aA (aB (d:=.int v) rfl) aE))) rfl) (H1.table (aB rfl)) (aB (d:=mkD i (hd.next i)) rfl) (tL (ks:=fI i (hd.next i)) H1.tb rfl hl))];exact bA (aB rfl)
 ·exact H1.setT _
 ·rw[aR (fun z=>hm (by rw[z];simp))];exact K1.2 n hn fun z=>hm (ai _ z)
noncomputable def common:List (List Int)->List Int
 |[]=>[]
 |r::rest=>rest.foldl (bu mn) r
theorem ET (hk:ω[k]?=v9 (.ml (rs.map D.obj))) (hr:RowsAt ω rs kn) (hne:kn≠[]) (hl:∀ xs∈kn,xs.length<=sizeLine):mM [.obj k] ω=v9 (.ok (.lst (iv (common kn))),ω):=by
 cases hr with
 |nil=>exact absurd rfl hne
 |@cons r0 x0 rs kn h0 ht=>
  refine aT rfl ?_;unfold AX;have e0:bH ω (.obj k) (.int 0)=v9 (.obj r0):=by
   rw[yS hk];unfold atI ixN;simp
  rw[aN (d:=.lst (iv x0)) (eX (aA (aU (aB (d:=.obj k) rfl) aV e0) aE) (by
   show(cO ω (.obj r0)).map _=_
   have:cO ω (.obj r0)=v9 (iv x0):=by simp only[cO,dJ,h0]
   rw[this];rfl))]
  have e1:oSl (oP (aD 0)) (dSo (dC (.int 1))) dNo ((cD uC [.obj k]).set 1 (v9 (.lst (iv x0)))) ω=v9 (.ok (.lst (rs.map D.obj)),ω):=by
   unfold oSl;rw[bB (aB (d:=.obj k) rfl)];show oR (pu (Nb ω (.obj k) (v9 1) wb) ω)=_
   have:Nb ω (.obj k) (v9 1) wb=v9 (.lst (Ch ((r0::rs).map D.obj) (v9 1) wb)):=by simp only[Nb,dJ,hk]
   rw[this];have c1:Ch ((r0::rs).map D.obj) (v9 1) wb=rs.map D.obj:=by
    simp only[Ch,HT.sIx];simp[rg]
   rw[c1];rfl
  have hloop:∃ ρ' ω',cR (aY 2) bT fM (rs.map D.obj) ((cD uC [.obj k]).set 1 (v9 (.lst (iv x0)))) ω=v9 (.nx ρ',ω')/\(ω'=ω/\∃ v,ρ'=[v9 (.obj k),v9 (.lst (iv (kn.foldl (bu mn) x0))),v]):=by
   have gen:∀ {rs:List Nat}{kn:List (List Int)},RowsAt ω rs kn->(∀ xs∈kn,xs.length<=sizeLine)->∀(x0:List Int) (v:Option D),x0.length<=sizeLine->∃ ρ' ω',cR (aY 2) bT fM (rs.map D.obj) [v9 (.obj k),v9 (.lst (iv x0)),v] ω=v9 (.nx ρ',ω')/\(ω'=ω/\∃ v,ρ'=[v9 (.obj k),v9 (.lst (iv (kn.foldl (bu mn) x0))),v]):=by
    intro rs kn hR
    induction hR with
    |nil=>intro _ x0 v _;exact⟨_,_,rfl,rfl,_,rfl⟩
    |@cons r1 x1 rs kn h1 _ ih=>
     intro hl x0 v hx;obtain⟨ρ',ω',g1,g2,g3⟩:=ih (fun xs hxs=>hl xs (ai _ hxs)) (bu mn x0 x1) (v9 (.obj r1)) (by rw[d7];omega);refine⟨ρ',ω',?_,g2,g3⟩;rw[<- g1];have step:fM [v9 (.obj k),v9 (.lst (iv x0)),v9 (.obj r1)] ω=v9 (.nx [v9 (.obj k),v9 (.lst (iv (bu mn x0 x1))),v9 (.obj r1)],ω):=by
      obtain⟨chk,z1,z2⟩:=Cy (f:=oP (aD 1)) (h:=oP (aD 2)) (ρ:=[v9 (.obj k),v9 (.lst (iv x0)),v9 (.obj r1)]) (ω:=ω) (a:=.lst (iv x0)) (b:=.obj r1) (xs:=x0) (ys:=x1) (aB rfl) (aB rfl) rfl (by unfold RowV dJ;simp only[h1]);unfold fM aW;rw[cV (dY (ω2:=ω) (out:=iv (bu mn x0 x1)) z1 (xG hx) (by
       rw[<- sC (G:=D2 mn) (fun _ _=>rfl)];refine fY (fun ρ=>ρ.length=2) z2 rfl fun d hd ρ hρ=> ?_;obtain⟨x,y,rfl⟩:=xF hd
       match ρ,hρ with
       |[u,v],_=>exact⟨_,rfl,rfl,rfl⟩))]
      rfl
     exact eY rfl rfl step
   exact gen ht (fun xs hxs=>hl xs (ai _ hxs)) x0 wb (hl x0 ar)
  obtain⟨ρ',ω',g1,rfl,v,rfl⟩:=hloop;rw[bG (iL (by
   unfold cH oIL;rw[cV (bB e1)];exact g1))]
  exact bA (aB rfl)
end
theorem sI (hl:ds.length=n) (e:G (cD N ds) ω=v9 (.nx ρ1,ω1)):eA n N G ds ω=v9 (.ok .non,ω1):=by
 unfold eA;rw[if_pos hl,e]
theorem nK:∀ kvs:List (List Key×D),qO kvs kvs=true
 |[]=>rfl
 |a::r=>by simp[qO,qP,nK r]
theorem yF (h:ω[n]?=v9 (.dz kvs)):vT n kvs ω=true:=by
 unfold vT;rw[h];exact nK kvs
noncomputable def Pn (c:Nat) (k:List Key):Prop:=∃ a b:Int,k=[.inl a,.inl b]/\0<=a/\a<c
noncomputable def fU (xs:List Int):List Key->Bool
 |[.inl a,.inl b]=>decide (b<=xs.getD a.toNat 0)
 |_=>false
theorem CC (nd:(kvs.map (·.1)).Nodup) {kv:List Key×D} (h:kv∈kvs):iF kvs kv.1=v9 kv.2:=by
 induction kvs with
 |nil=>simp at h
 |cons p r ih=>
  rw[bq,b9] at nd;unfold iF;rcases aj.mp h with rfl|h
  ·simp[f8]
  ·have hne:p.1≠kv.1:=fun z=>nd.1 (z ▸ av.mpr ⟨kv,h,rfl⟩);rw[List.find?_cons_of_neg (by simpa using hne)];exact ih nd.2 h
theorem AA {k:List Key} (h:k∉kvs.map (·.1)):iG kvs k v=kvs++[(k,v)]:=by
 unfold iG;rw[if_neg];simp only[ni,decide_eq_true_eq,not_exists,not_and];intro x hx z;exact h (av.mpr ⟨x,hx,z⟩)
section
variable {ω:Om}{h k t e:Nat}{i:Nat}{hd:Hd}{rs:List Nat}{ρ:Rho}{f:OG D}
noncomputable def Hd.forget (hd:Hd):Hd:={ hd with kept:=hd.kept.filter fun kv=> !fU (common hd.knows) kv.1 }
structure Hd.Ok (c:Nat) (hd:Hd):Prop where
 len:hd.knows.length=c
 row:∀ xs∈hd.knows,xs.length=c
 small:c<=8
 pos:0<c
 kk:∀ kv∈hd.kept,Pn c kv.1
 kn:(hd.kept.map (·.1)).Nodup
 kl:hd.kept.length<64
 tk:∀ kv∈hd.table,∃ a b:Int,0<=a/\a<c/\kv.1=[.inl a,.inl b]/\∃ x v,kv.2=.tup [.str x,.tup [.int a,.int b],.int v]
 tn:(hd.table.map (·.1)).Nodup
 tl:hd.table.length<64
theorem Ci:∀ {kn:List (List Int)},kn≠[]->(∀ xs∈kn,xs.length=c)->(common kn).length=c
 |[],hne,_=>absurd rfl hne
 |r::rest,_,h=>by
  have gen:∀(rest:List (List Int)) (r:List Int),r.length=c->(∀ xs∈rest,xs.length=c)->(rest.foldl (bu mn) r).length=c:=by
   intro rest
   induction rest with
   |nil=>intro r hr _;exact hr
   |cons x rest ih=>
    intro r hr hx;refine ih _ ?_ fun xs hxs=>hx xs (ai _ hxs);rw[d7,hr,hx x ar,ir]
  exact gen rest r (h r ar) fun xs hxs=>h xs (ai _ hxs)
theorem wB (H:HandAt ω h i hd k t e rs) (W:hd.Ok c):∃ ω',eV [.obj h] ω=v9 (.ok .non,ω')/\HandAt ω' h i hd.forget k t ω.length rs/\Keep [h] ω ω':=by
 have hne:hd.knows≠[]:=fun z=>by have:=W.len;rw[z] at this;have:=W.pos;simp at*;omega
 have hcl:=Ci hne W.row;obtain⟨⟨h1,h2,h3,h4⟩,⟨h5,h6,h7⟩,⟨h8,h9⟩,h10,h11⟩:=H.ne;have ltn:∀ {n:Nat},n∈h::k::t::e::rs->n≠ω.length:=fun hn z=>absurd (H.lt _ hn) (by rw[z];exact fx _);have e1:bC mM (aC (fV 0 "knows" (oP (aD 0))) aK) (cD gZ [.obj h]) ω=v9 (.ok (.lst (iv (common hd.knows))),ω):=aQ (aA (H.knows (aB rfl)) aE) (ET H.kn H.rows hne fun xs hx=>by rw[W.row xs hx,b7];have:=W.small;omega)
 -- the loop
 have loop:∀(post pre:List (List Key×D)) (v:Option D) (ω1:Om),hd.kept=pre++post->ω1[ω.length]?=v9 (.dt (pre.filter fun kv=> !fU (common hd.knows) kv.1))->ω1[e]?=v9 (.dz hd.kept)->(∀ n,n<ω.length->n≠e->ω1[n]?=ω[n]?)->ω1.length=ω.length+1->
   ∃ ρ' ω',cR (aY 3) (vT e hd.kept) aP (post.map fun kv=>bP kv.1) [v9 (.obj h),v9 (.lst (iv (common hd.knows))),v9 (.obj ω.length),v] ω1=v9 (.nx ρ',ω')/\(∃ v,ρ'=[v9 (.obj h),v9 (.lst (iv (common hd.knows))),v9 (.obj ω.length),v])/\
    ω'[ω.length]?=v9 (.dt (hd.kept.filter fun kv=> !fU (common hd.knows) kv.1))/\ω'[e]?=v9 (.dz hd.kept)/\(∀ n,n<ω.length->n≠e->ω'[n]?=ω[n]?)/\ω'.length=ω.length+1:=by
  intro post
  induction post with
  |nil=>
   intro pre v ω1 hp g1 g2 g3 g4;rw[dh] at hp;refine⟨_,ω1,by show(if vT e hd.kept ω1=true then _ else wb)=_;rw[if_pos (yF g2)],⟨v,rfl⟩,by rw[hp];exact g1,g2,g3,g4⟩
  |cons kv post ih=>
   intro pre v ω1 hp g1 g2 g3 g4;have hm:kv∈hd.kept:=by rw[hp];simp
   obtain⟨a,b,hk,ha0,ha1⟩:=W.kk kv hm;have hdk:bP kv.1=.tup [.int a,.int b]:=by rw[hk];rfl
   have hseen:fB [.lst (iv (common hd.knows)),.tup [.int a,.int b]] ω1=v9 (.ok (.bl (fU (common hd.knows) kv.1)),ω1):=by
    rw[hk];exact oE (ω:=ω1) (d:=.lst (iv (common hd.knows))) (xs:=common hd.knows) (show dJ ω1 (.lst (iv (common hd.knows)))=_ from rfl) ha0 (by rw[hcl];exact ha1)
   have hobj:ω1[h]?=v9 (.ins 0 [("number",.int i),("knows",.obj k),("table",.obj t),("kept",.obj e)]):=by rw[g3 h (H.lt h (by simp)) h3];exact H.obj
   have hp':hd.kept=(pre++[kv])++post:=by rw[d8];exact hp
   have first:∀ ω2,aP [v9 (.obj h),v9 (.lst (iv (common hd.knows))),v9 (.obj ω.length),v9 (.tup [.int a,.int b])] ω1=v9 (.nx [v9 (.obj h),v9 (.lst (iv (common hd.knows))),v9 (.obj ω.length),v9 (.tup [.int a,.int b])],ω2)->
     cR (aY 3) (vT e hd.kept) aP ((kv::post).map fun kv=>bP kv.1) [v9 (.obj h),v9 (.lst (iv (common hd.knows))),v9 (.obj ω.length),v] ω1=cR (aY 3) (vT e hd.kept) aP (post.map fun kv=>bP kv.1) [v9 (.obj h),v9 (.lst (iv (common hd.knows))),v9 (.obj ω.length),v9 (.tup [.int a,.int b])] ω2:=fun ω2 q=>by
    rw[bq,hdk]
    show(if vT e hd.kept ω1=true then(match aP [v9 (.obj h),v9 (.lst (iv (common hd.knows))),v9 (.obj ω.length),v9 (.tup [.int a,.int b])] ω1 with
     |none=>wb
     |some (.nx ρ2,ω2)=>cR (aY 3) (vT e hd.kept) aP (post.map fun kv=>bP kv.1) ρ2 ω2
     |some (.ct ρ2,ω2)=>cR (aY 3) (vT e hd.kept) aP (post.map fun kv=>bP kv.1) ρ2 ω2
     |some (.bk ρ2,ω2)=>v9 (.nx ρ2,ω2)
     |some (.rt d,ω2)=>v9 (.rt d,ω2)
     |some (.ex _,_)=>wb) else wb)=_
    rw[if_pos (yF g2),q]
   have tst:iH (gH (bC fB (aC (oP (aD 1)) (aC (oP (aD 3)) aK)))) [v9 (.obj h),v9 (.lst (iv (common hd.knows))),v9 (.obj ω.length),v9 (.tup [.int a,.int b])] ω1=v9 (.ok (!fU (common hd.knows) kv.1),ω1):=by
    unfold iH gH;rw[bB (bB (aQ (aA (aB rfl) (aA (aB rfl) aE)) hseen))]
   cases hs:fU (common hd.knows) kv.1 with
   |true=>
    have b1:aP [v9 (.obj h),v9 (.lst (iv (common hd.knows))),v9 (.obj ω.length),v9 (.tup [.int a,.int b])] ω1=v9 (.nx [v9 (.obj h),v9 (.lst (iv (common hd.knows))),v9 (.obj ω.length),v9 (.tup [.int a,.int b])],ω1):=by
     unfold aP;rw[hs] at tst;rw[nM tst];rfl
    rw[first ω1 b1];refine ih (pre++[kv]) _ ω1 hp' ?_ g2 g3 g4;rw[me,du (by rw[hs];decide),qq,dh];exact g1
   |false=>
    have nin:kv.1∉(pre.filter fun kv=> !fU (common hd.knows) kv.1).map (·.1):=fun z=>by
     obtain⟨q,q1,q2⟩:=av.mp z;have nd:=W.kn;rw[hp,ck,jn] at nd;exact nd.2.2 _ (av.mpr ⟨q,(b4.mp q1).1,rfl⟩) _ (av.mpr ⟨kv,ar,rfl⟩) q2
    have fl:(pre.filter fun kv=> !fU (common hd.knows) kv.1).length<sizeLine:=by
     have h1:=f6 (fun kv:List Key×D=> !fU (common hd.knows) kv.1) pre;have h2:=W.kl;rw[hp,bv] at h2;rw[b7];omega
    have dg:pY ω1 (.obj e) (.tup [.int a,.int b])=v9 kv.2:=by
     have:iF hd.kept [.inl a,.inl b]=v9 kv.2:=by rw[<- hk];exact CC W.kn hm
     simp only[pY,GX,cellOf,g2]
     show(((v9 [.inl a,.inl b]:Option (List Key)).map fun k=>iF hd.kept k)).join=_
     show(v9 (iF hd.kept [.inl a,.inl b])).join=_
     rw[this];rfl
    have b1:aP [v9 (.obj h),v9 (.lst (iv (common hd.knows))),v9 (.obj ω.length),v9 (.tup [.int a,.int b])] ω1=v9 (.nx [v9 (.obj h),v9 (.lst (iv (common hd.knows))),v9 (.obj ω.length),v9 (.tup [.int a,.int b])],ω1.set ω.length (.dt ((pre.filter fun kv=> !fU (common hd.knows) kv.1)++[kv]))):=by
     unfold aP;rw[hs] at tst;rw[uZ tst];refine lI (v:=kv.2) (ω1:=ω1) (ω2:=ω1) (ω3:=ω1) (o:=.obj ω.length) (i:=.tup [.int a,.int b]) (gB (fP (aB rfl) hobj rfl) (aB rfl) ?_) (aB rfl) (aB rfl) ?_
     ·show pu (pY ω1 (.obj e) (.tup [.int a,.int b])) ω1=_;rw[dg];rfl
     ·rw[tL (ks:=kv.1) g1 (by rw[hk];rfl) fl,AA nin]
    rw[first _ b1];refine ih (pre++[kv]) _ _ hp' ?_ ?_ (fun n hn hne=> ?_) (by simp[g4])
    ·rw[cT g1,me,dw (by rw[hs];decide),qq]
    ·rw[aR (ltn (by simp))];exact g2
    ·rw[aR (by omega)];exact g3 n hn hne
 have ge:(ω++[Ob.dt []])[e]?=v9 (.dt hd.kept):=by rw[bi (H.lt e (by simp))];exact H.kp
 obtain⟨ρ',ω2,l1,⟨v,rfl⟩,l3,l4,l5,l6⟩:=loop hd.kept [] wb ((ω++[Ob.dt []]).set e (.dz hd.kept)) rfl (by rw[aR (c5 (ltn (by simp)))];simp) (cT ge) (fun n hn hne=>by rw[aR hne,bi hn]) (by simp);have l3':(ω2.set e (.dt hd.kept))[ω.length]?=v9 (.dt (hd.kept.filter fun kv=> !fU (common hd.knows) kv.1)):=by rw[aR (c5 (ltn (by simp)))];exact l3
 have ho:(ω2.set e (.dt hd.kept))[h]?=v9 (.ins 0 [("number",.int i),("knows",.obj k),("table",.obj t),("kept",.obj e)]):=by rw[aR h3,l5 h (H.lt h (by simp)) h3];exact H.obj
 refine⟨(ω2.set e (.dt hd.kept)).set h (.ins 0 [("number",.int i),("knows",.obj k),("table",.obj t),("kept",.obj ω.length)]),?_,⟨cT ho,?_,?_,?_,?_,?_⟩,⟨by simp[l6],fun n hn hm=> ?_⟩⟩
 ·have body:gQ (cD gZ [.obj h]) ω=v9 (.nx [v9 (.obj h),v9 (.lst (iv (common hd.knows))),v9 (.obj ω.length),v],(ω2.set e (.dt hd.kept)).set h (.ins 0 [("number",.int i),("knows",.obj k),("table",.obj t),("kept",.obj ω.length)])):=by
   unfold gQ;rw[aN e1];rw[aN (d:=.obj ω.length) (ω1:=ω++[.dt []]) rfl];have ho1:(ω++[Ob.dt []])[h]?=v9 (.ins 0 [("number",.int i),("knows",.obj k),("table",.obj t),("kept",.obj e)]):=by rw[bi (H.lt h (by simp))];exact H.obj
   rw[bG (iL (by
    unfold ID;rw[cV (fP (aB (d:=.obj h) rfl) ho1 rfl)]
    have:Cc (ω++[Ob.dt []]) (.obj e)=v9 (e,hd.kept):=by simp only[Cc,ge]
    show(Cc (ω++[Ob.dt []]) (.obj e)).bind _=_
    rw[this]
    show(match cR (aY 3) (vT e hd.kept) aP (hd.kept.map fun kv=>bP kv.1) [v9 (.obj h),v9 (.lst (iv (common hd.knows))),v9 (.obj ω.length),wb] ((ω++[Ob.dt []]).set e (.dz hd.kept)) with
     |some (.nx ρ',ω')=>if vT e hd.kept ω'=true then v9 (OOut.nx ρ',ω'.set e (.dt hd.kept)) else wb
     |_=>wb)=_
    rw[l1]
    show(if vT e hd.kept ω2=true then _ else wb)=_
    rw[if_pos (yF l4)]))]
   unfold mD;rw[cV (aB (d:=.obj ω.length) rfl),cV (aB (d:=.obj h) rfl)]
   have:tG 0 "kept" (ω2.set e (.dt hd.kept)) (.obj h) (.obj ω.length)=v9 ((ω2.set e (.dt hd.kept)).set h (.ins 0 [("number",.int i),("knows",.obj k),("table",.obj t),("kept",.obj ω.length)])):=by
    simp only[tG,ho];rfl
   show(tG 0 "kept" (ω2.set e (.dt hd.kept)) (.obj h) (.obj ω.length)).map _=_
   rw[this];rfl
  exact sI rfl body
 ·rw[aR (c5 h1),aR h6,l5 k (H.lt k (by simp)) h6];exact H.kn
 ·refine H.rows.mono fun r hr=> ?_;rw[aR (show r≠h from fun z=>h4 (z ▸ hr)),aR (show r≠e from fun z=>h10 (z ▸ hr)),l5 r (H.lt r (by simp[hr])) (fun z=>h10 (z ▸ hr))]
 ·rw[aR (c5 h2),aR h8,l5 t (H.lt t (by simp)) h8];exact H.tb
 ·rw[aR (c5 (ltn (by simp)))];exact l3'
 ·have nn:∀ n∈h::k::t::rs,n≠ω.length:=fun n hn=>ltn (by
   simp only[aj] at hn ⊢;rcases hn with z|z|z|z
   ·exact .inl z
   ·exact .inr (.inl z)
   ·exact .inr (.inr (.inl z))
   ·exact .inr (.inr (.inr (.inr z))))
  simp only[b9,aj,not_or];exact⟨⟨h1,h2,nn h (by simp),h4⟩,⟨h5,nn k (by simp),h7⟩,⟨nn t (by simp),h9⟩,fun z=>nn _ (by simp[z]) rfl,h11⟩
 ·rw[aR (fun z=>hm (by rw[z];simp))]
  by_cases he:n=e
  ·subst he;rw[cT l4];exact H.kp.symm
  ·rw[aR he];exact l5 n hn he
end
theorem sH {ω:Om}{n:Nat}{ob:Ob} (h:ω[n]?=v9 ob):ω.set n ob=ω:=by
 apply kj;intro m
 by_cases hm:m=n
 ·subst hm;rw[cT h,h]
 ·rw[aR hm]
theorem Lc (k:Key):toK (ofK k)=v9 k:=by cases k <;> rfl
theorem CL:∀ ks:List Key,Lb (ks.map ofK)=v9 ks
 |[]=>rfl
 |k::r=>by
  show(toK (ofK k)).bind _=_
  rw[Lc]
  show(Lb (r.map ofK)).map _=_
  rw[CL r];rfl
theorem Aq (k:List Key):CK (bP k)=v9 k:=CL k
theorem Im (ha:bV a) (hb:bV b):∃ c,dG 4 a b=v9 c:=by
 obtain⟨x,p,q,v,rfl⟩:=ha;obtain⟨x',p',q',v',rfl⟩:=hb;show ∃ c,(match eqD 4 (.str x) (.str x') with
  |some true=>(match eqD 4 (.tup [.int p,.int q]) (.tup [.int p',.int q']) with
   |some true=>(match eqD 4 (.int v) (.int v') with
    |some true=>v9 _
    |some false=>fK (.int v) (.int v')
    |none=>wb)
   |some false=>fK (.tup [.int p,.int q]) (.tup [.int p',.int q'])
   |none=>wb)
  |some false=>fK (.str x) (.str x')
  |none=>wb)=v9 c
 rw[gD];cases decide (x=x') with
 |false=>exact⟨_,rfl⟩
 |true=>
  have e2:∃ c,eqD 4 (.tup [.int p,.int q]) (.tup [.int p',.int q'])=v9 c:=⟨_,rfl⟩;obtain⟨c,e2⟩:=e2;rw[e2];cases c with
  |false=>exact⟨_,rfl⟩
  |true=>
   show ∃ c,(match eqD 4 (.int v) (.int v') with
    |some true=>v9 _
    |some false=>fK (.int v) (.int v')
    |none=>wb)=v9 c
   have e3:eqD 4 (.int v) (.int v')=v9 (decide (v=v')):=rfl;rw[e3];cases decide (v=v') with
   |false=>exact⟨_,rfl⟩
   |true=>exact⟨_,rfl⟩
theorem Bc (h:bV d):jU d=v9 false:=by
 obtain⟨x,a,b,v,rfl⟩:=h;rfl
section
variable {ω:Om}{h k t e:Nat}{i:Nat}{hd:Hd}{rs:List Nat}{ρ:Rho}{f:OG D}
theorem Hd.Ok.ent (W:hd.Ok c):∀ d∈hd.table.map (·.2),bV d:=fun d hd'=>by
 obtain⟨kv,h1,rfl⟩:=av.mp hd';obtain⟨a,b,_,_,_,x,v,e⟩:=W.tk kv h1;exact⟨x,a,b,v,e⟩
theorem Hd.Ok.sorts (W:hd.Ok c):∃ out,hd.entries=v9 out/\out.Perm (hd.table.map (·.2)):=by
 refine sF (by rw[ao];exact W.tl) ?_ fun a ha b hb=>Im (W.ent a ha) (W.ent b hb);unfold iN;rw[gz];right;rw[d5];intro d hd';rw[Bc (W.ent d hd')];rfl
noncomputable def Hd.takeOut0 (hd:Hd) (mk:List Key) (ks:List (List Key)):Hd:={ hd with table:=ks.foldl dS hd.table,kept:=if ks=[] then hd.kept else iG hd.kept mk (.tup (ks.map bP)) }
noncomputable def Hd.takeOut (hd:Hd) (mk:List Key) (ks:List (List Key)):Hd:=(hd.takeOut0 mk ks).forget
theorem AI {g:Om->D->List D->Option (D×Om)}{fo:OG D}{fl:OG (List D)}{ρ:Rho}{ω ω1 ω2 ω3:Om}{n:Nat}{kvs:List (List Key×D)}{ds:List D}{r:D} (e1:fo ρ ω=v9 (.ok (.obj n),ω1)) (e2:ω1[n]?=v9 (.dt kvs)) (e3:fl ρ ω1=v9 (.ok ds,ω2)) (e4:g ω2 (.obj n) ds=v9 (r,ω3)):nS g fo fl ρ ω=v9 (.ok r,ω3):=by
 unfold nS;rw[bB e1]
 have:BQ ω1 (.obj n)=true:=by simp only[BQ,cellOf,e2]
 show(if BQ ω1 (.obj n)=true then _ else wb)=_
 rw[if_pos this,bB e3];show oR (g ω2 (.obj n) ds)=_;rw[e4];rfl
theorem Ce {kvs:List (List Key×D)}{q k:List Key} (h:q∈kvs.map (·.1)) (hn:q≠k):q∈(dS kvs k).map (·.1):=by
 obtain⟨p,h1,rfl⟩:=av.mp h;exact av.mpr ⟨p,b4.mpr ⟨h1,by simpa using hn⟩,rfl⟩
theorem CF {kvs:List (List Key×D)}{k:List Key} (h:k∈kvs.map (·.1)):∃ v,iF kvs k=v9 v:=by
 obtain⟨p,h1,h2⟩:=av.mp h;unfold iF;cases q:kvs.find? fun kv=>decide (kv.1=k) with
 |some u=>exact⟨u.2,rfl⟩
 |none=>
  rw[uj] at q;exact absurd (by simpa using h2) (q p h1)
theorem Di:∀ {ks:List (List Key)}{T:List (List Key×D)}{v:Option D}{ω:Om},ω[h]?=v9 (.ins 0 [("number",.int i),("knows",.obj k),("table",.obj t),("kept",.obj e)])->ω[t]?=v9 (.dt T)->h≠t->ks.Nodup->(∀ q∈ks,q∈T.map (·.1))->
  ∃ ρ',cR (aY 3) bT bR (ks.map bP) [v9 (.obj h),v9 mk,v9 ms,v] ω=v9 (.nx ρ',ω.set t (.dt (ks.foldl dS T)))/\∃ v,ρ'=[v9 (.obj h),v9 mk,v9 ms,v]
 |[],T,v,ω,_,ht,_,_,_=>⟨_,by
   show v9 (OOut.nx _,ω)=_
   congr 2
   exact(sH ht).symm,v,rfl⟩
 |q::ks,T,v,ω,ho,ht,hne,hk,hin=>by
  rw[b9] at hk;obtain⟨u,hu⟩:=CF (hin q ar);have b1:bR [v9 (.obj h),v9 mk,v9 ms,v9 (bP q)] ω=v9 (.nx [v9 (.obj h),v9 mk,v9 ms,v9 (bP q)],ω.set t (.dt (dS T q))):=by
   unfold bR dL;rw[cV (AI (r:=u) (ω3:=ω.set t (.dt (dS T q))) (fP (aB rfl) ho rfl) ht (aA (aB rfl) aE) (by
    simp only[Et,ht]
    show(CK (bP q)).bind _=_
    rw[Aq]
    show(iF T q).map _=_
    rw[hu];rfl))]
  obtain⟨ρ',g1,v',g2⟩:=Di (mk:=mk) (ms:=ms) (ks:=ks) (T:=dS T q) (v:=v9 (bP q)) (ω:=ω.set t (.dt (dS T q))) (by rw[aR hne];exact ho) (cT ht) hne hk.2 fun q' hq'=>Ce (hin q' (ai _ hq')) fun z=>hk.1 (z ▸ hq');refine⟨ρ',?_,v',g2⟩;rw[um] at g1;rw[bq];refine(eY rfl rfl (b1)).trans ?_;exact g1
theorem xM (H:HandAt ω h i hd k t e rs) (hk:ks.Nodup) (hin:∀ q∈ks,q∈hd.table.map (·.1)) (hl:hd.kept.length<sizeLine) (W:(hd.takeOut0 mk ks).Ok c):
  ∃ ω' e',cL [.obj h,bP mk,.lst (ks.map bP)] ω=v9 (.ok .non,ω')/\HandAt ω' h i (hd.takeOut mk ks) k t e' rs/\Keep [h,t,e] ω ω'/\ω.length<=e':=by
 obtain⟨⟨h1,h2,h3,h4⟩,⟨h5,h6,h7⟩,⟨h8,h9⟩,h10,h11⟩:=H.ne;obtain⟨ρ1,g1,v,rfl⟩:=Di (h:=h) (i:=i) (k:=k) (t:=t) (e:=e) (mk:=bP mk) (ms:=.lst (ks.map bP)) (ks:=ks) (T:=hd.table) (v:=wb) (ω:=ω) H.obj H.tb h2 hk hin;have H1:HandAt (ω.set t (.dt (ks.foldl dS hd.table))) h i { hd with table:=ks.foldl dS hd.table } k t e rs:=H.setT _;have l1:sNx (cH (oIL (oP (aD 2))) (aY 3) bR) (cD iX [.obj h,bP mk,.lst (ks.map bP)]) ω=v9 (.nx [v9 (.obj h),v9 (bP mk),v9 (.lst (ks.map bP)),v],ω.set t (.dt (ks.foldl dS hd.table))):=iL (by
  unfold cH oIL;rw[cV (bB (aB (d:=.lst (ks.map bP)) rfl))];exact g1)
 have mid:∃ ω2,dU (gH (oP (aD 2))) (nL tH (fV 0 "kept" (oP (aD 0))) (oP (aD 1)) (oL Em (aC (oP (aD 2)) aK))) bF [v9 (.obj h),v9 (bP mk),v9 (.lst (ks.map bP)),v] (ω.set t (.dt (ks.foldl dS hd.table)))=v9 (.nx [v9 (.obj h),v9 (bP mk),v9 (.lst (ks.map bP)),v],ω2)/\HandAt ω2 h i (hd.takeOut0 mk ks) k t e rs/\Keep [t,e] ω ω2/\ω2.length=ω.length:=by
  cases hks:ks with
  |nil=>
   refine⟨ω.set t (.dt (([]:List (List Key)).foldl dS hd.table)),?_,?_,Keep.set (by simp),by simp⟩
   ·rw[nM (ω1:=ω.set t (.dt (([]:List (List Key)).foldl dS hd.table))) (by
     unfold gH;rw[bB (aB (d:=.lst []) rfl)];rfl)]
    rfl
   ·subst hks;exact H1
  |cons q r=>
   have hks':ks≠[]:=by rw[hks];simp
   rw[<- hks];refine⟨(ω.set t (.dt (ks.foldl dS hd.table))).set e (.dt (iG hd.kept mk (.tup (ks.map bP)))),?_,?_,(Keep.set (by simp)).trans (Keep.set (by simp)),by simp⟩
   ·rw[uZ (ω1:=ω.set t (.dt (ks.foldl dS hd.table))) (by
     unfold gH;rw[bB (aB (d:=.lst (ks.map bP)) rfl)];rw[hks];rfl)]
    exact lI (eX (aA (aB (d:=.lst (ks.map bP)) rfl) aE) rfl) (H1.kept (aB rfl)) (aB (d:=bP mk) rfl) (tL (ks:=mk) H1.kp (Aq mk) hl)
   ·have:=H1.setE (iG hd.kept mk (.tup (ks.map bP)))
    have e0:hd.takeOut0 mk ks={ hd with table:=ks.foldl dS hd.table,kept:=iG hd.kept mk (.tup (ks.map bP)) }:=by
     unfold Hd.takeOut0;rw[if_neg hks']
    rw[e0];exact this
 obtain⟨ω2,m1,H2,K2,L2⟩:=mid;obtain⟨ω3,f1,H3,K3⟩:=wB H2 W;refine⟨ω3,ω2.length,?_,H3,⟨by rw[<- L2];exact K3.1,fun n hn hm=> ?_⟩,by rw[L2];exact bp _⟩
 ·refine sI (ρ1:=[v9 (.obj h),v9 (bP mk),v9 (.lst (ks.map bP)),v]) rfl ?_;unfold iQ;rw[bG l1,bG m1];unfold dL;rw[cV (bQ (aB rfl) H2.obj rfl f1)]
 ·simp only[aj,cr,or_false,not_or] at hm;rw[K3.2 n (by rw[L2];exact hn) (by simpa using hm.1)];exact K2.2 n hn (by simp[hm.2.1,hm.2.2])
end
noncomputable def aO:D->List Key
 |.tup [_,.tup [.int a,.int b],_]=>[.inl a,.inl b]
 |_=>[]
noncomputable def cZ (y:Str):D->Bool
 |.tup [.str x,_,_]=>decide (x=y)
 |_=>false
noncomputable def Hd.ents (hd:Hd):List D:=hd.entries.getD []
noncomputable def Hd.marksK (hd:Hd) (y:Str):List (List Key):=(hd.ents.filter (cZ y)).map aO
theorem rA:∀ {out:List D},(∀ d∈out,bV d)->marksIn (.str y) out=((out.filter (cZ y)).map aO).map bP
 |[],_=>rfl
 |d::r,h=>by
  have ih:=rA (y:=y) (out:=r) fun d hd=>h d (ai _ hd);obtain⟨x,a,b,v,rfl⟩:=h d ar;unfold marksIn at ih ⊢;have e0:(eqD 8 (.str x) (.str y)==v9 true)=decide (x=y):=by rw[gD];cases decide (x=y) <;> rfl
  by_cases hx:x=y
  ·rw[dw (by show(eqD 8 (.str x) (.str y)==v9 true)=true;rw[e0];exact decide_eq_true hx),dw (by show decide (x=y)=true;exact decide_eq_true hx)];rw[bq,bq,bq,ih];rfl
  ·rw[du (by show ¬(eqD 8 (.str x) (.str y)==v9 true)=true;rw[e0];simpa using hx),du (by show ¬ decide (x=y)=true;simpa using hx)];exact ih
section
variable {ω ω1 ω2:Om}{h k t e:Nat}{i c:Nat}{hd hd1 hd2:Hd}{rs fp:List Nat}
theorem Hd.Ok.ents (W:hd.Ok c):hd.entries=v9 hd.ents/\hd.ents.Perm (hd.table.map (·.2)):=by
 obtain⟨out,e1,e2⟩:=W.sorts
 have:hd.ents=out:=by unfold Hd.ents;rw[e1];rfl
 rw[this];exact⟨e1,e2⟩
theorem Hd.Ok.entsEnt (W:hd.Ok c):∀ d∈hd.ents,bV d:=fun d hd'=>W.ent d (W.ents.2.mem_iff.mp hd')
theorem Hd.Ok.keys (W:hd.Ok c):(hd.table.map (·.2)).map aO=hd.table.map (·.1):=by
 rw[f7];apply gw;intro kv hkv;obtain⟨a,b,_,_,e1,x,v,e2⟩:=W.tk kv hkv;show aO kv.2=kv.1;rw[e2,e1];rfl
theorem Hd.Ok.entsKeys (W:hd.Ok c):(hd.ents.map aO).Perm (hd.table.map (·.1)):=by
 rw[<- W.keys];exact W.ents.2.map aO
theorem Hd.Ok.entsNodup (W:hd.Ok c):(hd.ents.map aO).Nodup:=W.entsKeys.nodup_iff.mpr W.tn
theorem Hd.Ok.entsLen (W:hd.Ok c):hd.ents.length<64:=by rw[W.ents.2.length_eq,ao];exact W.tl
theorem Hd.Ok.marksNodup (W:hd.Ok c) (y:Str):(hd.marksK y).Nodup:=W.entsNodup.sublist (gy.map aO)
theorem Hd.Ok.marksIn (W:hd.Ok c) (y:Str):∀ q∈hd.marksK y,q∈hd.table.map (·.1):=fun q hq=>W.entsKeys.mem_iff.mp ((gy.map aO).subset hq)
theorem Hd.Ok.seenMem (W:hd.Ok c) (hi:i<c):hd.seen i∈hd.knows:=by
 unfold Hd.seen
 have:i<hd.knows.length:=by rw[W.len];exact hi
 rw[au,bj this];exact ij this
theorem Hd.Ok.seenLen (W:hd.Ok c) (hi:i<c):(hd.seen i).length=c:=W.row _ (W.seenMem hi)
theorem fA (h:n<64):n<sizeLine:=by rw[b7];omega
noncomputable def HandS (ω:Om) (h i:Nat) (hd:Hd) (fp:List Nat):Prop:=∃ k t e rs,HandAt ω h i hd k t e rs/\fp=h::k::t::e::rs
noncomputable def Did (ω:Om) (h i:Nat) (fp:List Nat) (ω':Om) (hd':Hd):Prop:=∃ fp',HandS ω' h i hd' fp'/\Keep fp ω ω'/\∀ n∈fp',n∈fp∨ω.length<=n
theorem HandS.obj (H:HandS ω h i hd fp):∃ k t e,ω[h]?=v9 (.ins 0 [("number",.int i),("knows",.obj k),("table",.obj t),("kept",.obj e)]):=by
 obtain⟨k,t,e,rs,H,_⟩:=H;exact⟨k,t,e,H.obj⟩
theorem HandS.lt (H:HandS ω h i hd fp):∀ n∈fp,n<ω.length:=by
 obtain⟨k,t,e,rs,H,rfl⟩:=H;exact H.lt
theorem HandS.mono (H:HandS ω h i hd fp) (g:∀ n∈fp,ω'[n]?=ω[n]?):HandS ω' h i hd fp:=by
 obtain⟨k,t,e,rs,H,rfl⟩:=H;exact⟨k,t,e,rs,H.mono g,rfl⟩
theorem Did.refl (H:HandS ω h i hd fp):Did ω h i fp ω hd:=⟨fp,H,Keep.refl _ _,fun n hn=>.inl hn⟩
theorem Did.trans (a:Did ω h i fp ω1 hd1) (b:∀ fp1,HandS ω1 h i hd1 fp1->Did ω1 h i fp1 ω2 hd2):Did ω h i fp ω2 hd2:=by
 obtain⟨fp1,H1,K1,F1⟩:=a;obtain⟨fp2,H2,K2,F2⟩:=b fp1 H1;refine⟨fp2,H2,⟨ci K1.1 K2.1,fun n hn hf=> ?_⟩,fun n hn=> ?_⟩
 ·rw[K2.2 n (cf hn K1.1) fun z=>(F1 n z).elim hf fun q=>absurd hn (su.mpr q)];exact K1.2 n hn hf
 ·rcases F2 n hn with z|z
  ·exact F1 n z
  ·exact .inr (ci K1.1 z)
theorem Keep.sub (a:Keep fp ω ω') (h:∀ n∈fp,n∈fq):Keep fq ω ω':=⟨a.1,fun n hn hf=>a.2 n hn fun z=>hf (h n z)⟩
theorem PH (H:HandS ω h i hd fp) (W:hd.Ok c) (hi:i<c) (x:Str) (v:Int):∃ ω',dX [.obj h,.str x,.int v] ω=v9 (.ok (mkD i (hd.next i)),ω')/\Did ω h i fp ω' (hd.put i x v):=by
 obtain⟨k,t,e,rs,H,rfl⟩:=H;obtain⟨ω',e1,H',K,L⟩:=Ly H (by rw[W.len];exact hi) (by rw[W.seenLen hi];exact hi) (fA W.tl) x v;exact⟨ω',e1,_,⟨k,t,e,rs,H',rfl⟩,K.sub (fun n hn=>by simp only[aj] at hn ⊢;rcases hn with z|z <;> simp[z]),fun n hn=>.inl hn⟩
theorem DI (H:HandS ω h i hd fp) (W:hd.Ok c) (hi:i<c):∃ ω',cM [.obj h] ω=v9 (.ok (mkD i (hd.next i)),ω')/\Did ω h i fp ω' (hd.bump i):=by
 obtain⟨k,t,e,rs,H,rfl⟩:=H;obtain⟨ω',e1,H',K,L⟩:=nU H (by rw[W.len];exact hi) (by rw[W.seenLen hi];exact hi);exact⟨ω',e1,_,⟨k,t,e,rs,H',rfl⟩,K.sub (fun n hn=>by simp[hn]),fun n hn=>.inl hn⟩
theorem Ie (H:HandS ω h i hd fp) (W:hd.Ok c) (y:Str):cN [.obj h,.str y] ω=v9 (.ok (.lst ((hd.marksK y).map bP)),ω):=by
 obtain⟨k,t,e,rs,H,rfl⟩:=H;rw[Gy H W.ents.1 W.entsEnt (ip (fA W.entsLen)) y,rA W.entsEnt];rfl
theorem mJ {mk:List Key}{ks:List (List Key)} (H:HandS ω h i hd fp) (hk:ks.Nodup) (hin:∀ q∈ks,q∈hd.table.map (·.1)) (hl:hd.kept.length<64) (W:(hd.takeOut0 mk ks).Ok c):∃ ω',cL [.obj h,bP mk,.lst (ks.map bP)] ω=v9 (.ok .non,ω')/\Did ω h i fp ω' (hd.takeOut mk ks):=by
 obtain⟨k,t,e,rs,H,rfl⟩:=H;obtain⟨ω',e',e1,H',K,L⟩:=xM H hk hin (fA hl) W;refine⟨ω',e1,_,⟨k,t,e',rs,H',rfl⟩,K.sub (fun n hn=>by simp only[aj,cr,or_false] at hn ⊢;rcases hn with z|z|z <;> simp[z]),fun n hn=> ?_⟩;simp only[aj] at hn ⊢;rcases hn with z|z|z|z|z
 ·exact .inl (.inl z)
 ·exact .inl (.inr (.inl z))
 ·exact .inl (.inr (.inr (.inl z)))
 ·exact .inr (z ▸ L)
 ·exact .inl (.inr (.inr (.inr (.inr z))))
theorem vF {kvs:List (List Key×D)}{q k:List Key}{v:D} (h:q∈kvs.map (·.1)):q∈(iG kvs k v).map (·.1):=by
 unfold iG;split
 ·obtain⟨p,h1,h2⟩:=av.mp h;refine av.mpr ⟨if p.1=k then(p.1,v) else p,av.mpr ⟨p,h1,rfl⟩,?_⟩;split <;> exact h2
 ·rw[ck];exact dc _ h
noncomputable def Hd.change (hd:Hd) (i:Nat) (x:Str) (v:Int):Hd:=(hd.put i x v).takeOut (fI i (hd.next i)) (hd.marksK x)
theorem KA (H:HandS ω h i hd fp) (W:hd.Ok c) (hi:i<c) (x:Str) (v:Int) (W2:((hd.put i x v).takeOut0 (fI i (hd.next i)) (hd.marksK x)).Ok c):∃ ω',dO [.obj h,.str x,.int v] ω=v9 (.ok (mkD i (hd.next i)),ω')/\Did ω h i fp ω' (hd.change i x v):=by
 obtain⟨ω1,e1,D1⟩:=PH H W hi x v;obtain⟨fp1,H1,K1,F1⟩:=id D1;obtain⟨ω2,e2,D2⟩:=mJ (mk:=fI i (hd.next i)) (ks:=hd.marksK x) H1 (W.marksNodup x) (fun q hq=>vF (W.marksIn x q hq)) W.kl W2;refine⟨ω2,?_,D1.trans fun fq Hq=> ?_⟩
 ·obtain⟨k0,t0,e0,ho⟩:=H.obj;obtain⟨k1,t1,e1',ho1⟩:=H1.obj;refine aT rfl ?_;unfold kS;rw[aN (bN (aB rfl) ho rfl (aA (aB rfl) aE) (Ie H W x))];rw[aN (bN (aB (d:=.obj h) rfl) ho rfl (aA (aB (d:=.str x) rfl) (aA (aB (d:=.int v) rfl) aE)) e1)];rw[bG (ρ1:=[v9 (.obj h),v9 (.str x),v9 (.int v),v9 (.lst ((hd.marksK x).map bP)),v9 (mkD i (hd.next i))]) (ω1:=ω2) (by
   unfold dL;rw[cV (bN (aB (d:=.obj h) rfl) ho1 rfl (aA (aB (d:=bP (fI i (hd.next i))) rfl) (aA (aB (d:=.lst ((hd.marksK x).map bP)) rfl) aE)) e2)];rfl)]
  exact bA (aB rfl)
 ·obtain⟨ωq,eq,Dq⟩:=mJ (mk:=fI i (hd.next i)) (ks:=hd.marksK x) Hq (W.marksNodup x) (fun q hq=>vF (W.marksIn x q hq)) W.kl W2;rw[e2] at eq;cases eq;exact Dq
noncomputable def Hd.take (hd:Hd) (i:Nat) (x:Str):Hd:=if hd.marksK x=[] then hd else(hd.bump i).takeOut (fI i (hd.next i)) (hd.marksK x)
noncomputable def Hd.takeA (hd:Hd) (x:Str):D:=if hd.marksK x=[] then .non else .lst ((hd.marksK x).map bP)
theorem NN (H:HandS ω h i hd fp) (W:hd.Ok c) (hi:i<c) (x:Str) (W2:((hd.bump i).takeOut0 (fI i (hd.next i)) (hd.marksK x)).Ok c):∃ ω',fD [.obj h,.str x] ω=v9 (.ok (hd.takeA x),ω')/\Did ω h i fp ω' (hd.take i x):=by
 obtain⟨k0,t0,e0,ho⟩:=H.obj;unfold Hd.take Hd.takeA;have m1:=Ie H W x;cases hm:hd.marksK x with
 |nil=>
  rw[if_pos rfl,if_pos rfl];refine⟨ω,?_,Did.refl H⟩;refine aT rfl ?_;unfold jW;rw[hm] at m1;rw[aN (bN (aB rfl) ho rfl (aA (aB rfl) aE) m1)];rfl
 |cons q r=>
  rw[if_neg (by simp),if_neg (by simp)];rw[hm] at m1 W2;obtain⟨ω1,e1,D1⟩:=DI H W hi;obtain⟨fp1,H1,K1,F1⟩:=id D1;have nd:=W.marksNodup x;have mi:=W.marksIn x;rw[hm] at nd mi;obtain⟨ω2,e2,D2⟩:=mJ (mk:=fI i (hd.next i)) (ks:=q::r) H1 nd mi W.kl W2;refine⟨ω2,?_,D1.trans fun fq Hq=> ?_⟩
  ·obtain⟨k1,t1,e1',ho1⟩:=H1.obj;refine aT rfl ?_;unfold jW;rw[aN (bN (aB rfl) ho rfl (aA (aB rfl) aE) m1)];rw[bG (ρ1:=[v9 (.obj h),v9 (.str x),v9 (.lst ((q::r).map bP))]) (ω1:=ω) rfl];rw[bG (ρ1:=[v9 (.obj h),v9 (.str x),v9 (.lst ((q::r).map bP))]) (ω1:=ω2) (by
    unfold dL;rw[cV (bN (aB (d:=.obj h) rfl) ho rfl (aA (a:=bP (fI i (hd.next i))) (bQ (aB rfl) ho rfl e1) (aA (aB (d:=.lst ((q::r).map bP)) rfl) aE)) e2)])]
   exact bA (aB rfl)
  ·obtain⟨ωq,eq,Dq⟩:=mJ (mk:=fI i (hd.next i)) (ks:=q::r) Hq nd mi W.kl W2;rw[e2] at eq;cases eq;exact Dq
end
theorem gJ (er:ω[r]?=v9 (.ml (iv xs))):RowV ω (.obj r) xs:=by unfold RowV dJ;simp only[er]
theorem BY {ω:Om} (h:ω[n]?=v9 o):n<ω.length:=(bg.mp h).1
theorem RowsAt.app (h:RowsAt ω rs kn) (obs:List Ob):RowsAt (ω++obs) rs kn:=by
 induction h with
 |nil=>exact .nil
 |cons hr _ ih=>exact .cons ((bi (BY hr)).trans hr) ih
theorem RowsAt.setAt (h:RowsAt ω rs kn) (hr:ω[r]?=v9 (.ml (iv xs))):RowsAt ω (rs.set j r) (kn.set j xs):=by
 induction h generalizing j with
 |nil=>exact .nil
 |cons h0 t ih=>
  cases j with
  |zero=>exact .cons hr t
  |succ j=>exact .cons h0 ih
theorem DG {l:List Nat} (h:l.Nodup) (ha:a∉l) (j:Nat):(l.set j a).Nodup:=by
 induction l generalizing j with
 |nil=>exact h
 |cons x r ih=>
  rw[b9] at h;simp only[aj,not_or] at ha;cases j with
  |zero=>rw[uk,b9];exact⟨ha.2,h.2⟩
  |succ j=>
   rw[ul,b9];refine⟨fun z=> ?_,ih h.2 ha.2 j⟩;rcases ik z with z|z
   ·exact h.1 z
   ·exact ha.1 z.symm
noncomputable def Hd.leaves (tl:Hd) (j:Nat) (d:D):Bool:=(iF tl.table (aO d)).isSome|| !fU (tl.seen j) (aO d)
noncomputable def PR (c:Nat) (d:D):Prop:=∃(x:Str) (a b:Int) (v:Int),d=.tup [.str x,.tup [.int a,.int b],.int v]/\0<=a/\a<c
section
variable {ω:Om}{h k t e h2 k2 t2 e2:Nat}{i j c:Nat}{hd tl:Hd}{rs rs2 fp:List Nat}
theorem rC (G:HandAt ω h2 j tl k2 t2 e2 rs2) (V:tl.Ok c) (hj:j<c) (ho:∀ d∈out,PR c d) (hl:out.length<=sizeLine):kJ [.lst out,.obj h2] ω=v9 (.ok (.lst (out.filter (tl.leaves j))),ω):=by
 obtain⟨r,hr,er⟩:=G.seenRow (by rw[V.len];exact hj);refine aT rfl (bA (dY (ds:=out) (chk:=bT) (ω1:=ω) ?_ hl ?_))
 ·unfold oIL;rw[bB (aB (d:=.lst out) rfl)];rfl
 ·have e0:out.filter (tl.leaves j)=(out.filter (tl.leaves j)).map fun d=>d:=by simp
  rw[e0];refine fS (fun ρ=>∃ u,ρ=[u,v9 (.obj h2)]) rfl ⟨_,rfl⟩ fun d hd ρ hρ=> ?_;obtain⟨x,a,b,v,rfl,ha0,ha1⟩:=ho d hd;obtain⟨u,rfl⟩:=hρ;refine⟨_,rfl,⟨_,rfl⟩,?_,fun _=>aB rfl⟩;have d1:cS (o2 (fun ω a b=>pu (KR ω a b) ω) (o2 (fun ω a b=>pu (bH ω a b) ω) (oP (aD 0)) (oP (dC (.int 1)))) (fV 0 "table" (oP (aD 1)))) [v9 (.tup [.str x,.tup [.int a,.int b],.int v]),v9 (.obj h2)] ω=v9 (.ok (iF tl.table [.inl a,.inl b]).isSome,ω):=
   bZ (gB (aU (aB (d:=.tup [.str x,.tup [.int a,.int b],.int v]) rfl) aV rfl) (G.table (aB rfl)) (by
    show pu (KR ω (.tup [.int a,.int b]) (.obj t2)) ω=_
    have:KR ω (.tup [.int a,.int b]) (.obj t2)=v9 (.bl (iF tl.table [.inl a,.inl b]).isSome):=by
     simp only[KR,GX,cellOf,G.tb];rfl
    rw[this];rfl))
  have lv:tl.leaves j (.tup [.str x,.tup [.int a,.int b],.int v])=((iF tl.table [.inl a,.inl b]).isSome|| !decide (b<=(tl.seen j).getD a.toNat 0)):=rfl;rw[lv];show oOr _ _ _ _=_;unfold oOr;show oB _ _ [v9 (.tup [.str x,.tup [.int a,.int b],.int v]),v9 (.obj h2)] ω=_;rw[bB d1];cases hv:(iF tl.table [.inl a,.inl b]).isSome with
  |true=>rfl
  |false=>
   have s1:=oE (ω:=ω) (d:=.obj r) (xs:=tl.seen j) (gJ er) (a:=a) (b:=b) ha0 (by rw[V.seenLen hj];exact ha1);show iH _ _ _=_;unfold iH;rw[bB (x:=decide (b<=(tl.seen j).getD a.toNat 0)) (ω1:=ω) (by
    unfold gH;rw[bB (aQ (aA (bQ (aB rfl) G.obj rfl (jQ G hr)) (aA (aU (aB (d:=.tup [.str x,.tup [.int a,.int b],.int v]) rfl) aV rfl) aE)) s1)];rfl)]
   rfl
noncomputable def NE (xs ys:List Int):Int:=(bu (fun x y=>mx (y-x) 0) xs ys).sum
noncomputable def mY (out:List D) (T:List (List Key×D)):List (List Key×D):=out.foldl (fun T d=>iG T (aO d) d) T
theorem FR (kvs:List (List Key×D)) (k:List Key) (v:D):(iG kvs k v).length<=kvs.length+1:=by
 unfold iG;split
 ·simp
 ·simp
theorem vV {h h2 n0 n1:Nat}:∀ {out:List D}{T:List (List Key×D)}{v:Option D}{ω:Om},(∀ d∈out,bV d)->ω[n1]?=v9 (.dt T)->T.length+out.length<sizeLine->
  ∃ v',cR (aY 5) bT eI out [v9 (.obj h),v9 (.obj h2),v9 m,v9 (.obj n0),v9 (.obj n1),v] ω=v9 (.nx [v9 (.obj h),v9 (.obj h2),v9 m,v9 (.obj n0),v9 (.obj n1),v'],ω.set n1 (.dt (mY out T)))
 |[],T,v,ω,_,ht,_=>⟨v,by
   show v9 (OOut.nx _,ω)=_;rw[show mY [] T=T from rfl,sH ht]⟩
 |d::out,T,v,ω,he,ht,hl=>by
  rw[bw] at hl;have hd:=he d ar;obtain⟨x,a,b,w,rfl⟩:=hd;have b1:eI [v9 (.obj h),v9 (.obj h2),v9 m,v9 (.obj n0),v9 (.obj n1),v9 (.tup [.str x,.tup [.int a,.int b],.int w])] ω=v9 (.nx [v9 (.obj h),v9 (.obj h2),v9 m,v9 (.obj n0),v9 (.obj n1),v9 (.tup [.str x,.tup [.int a,.int b],.int w])],ω.set n1 (.dt (iG T [.inl a,.inl b] (.tup [.str x,.tup [.int a,.int b],.int w])))):=by
   unfold eI;exact lI (aB rfl) (aB (d:=.obj n1) rfl) (aU (aB (d:=.tup [.str x,.tup [.int a,.int b],.int w]) rfl) aV rfl) (tL (ks:=[.inl a,.inl b]) ht rfl (by omega))
  have hp:=FR T [.inl a,.inl b] (.tup [.str x,.tup [.int a,.int b],.int w]);obtain⟨v',g1⟩:=vV (h:=h) (h2:=h2) (n0:=n0) (n1:=n1) (m:=m) (out:=out) (T:=iG T [.inl a,.inl b] (.tup [.str x,.tup [.int a,.int b],.int w])) (v:=v9 (.tup [.str x,.tup [.int a,.int b],.int w])) (ω:=ω.set n1 (.dt (iG T [.inl a,.inl b] (.tup [.str x,.tup [.int a,.int b],.int w])))) (fun d hd=>he d (ai _ hd)) (cT ht) (by omega);refine⟨v',?_⟩;rw[um] at g1;refine(eY rfl rfl (b1)).trans ?_;exact g1
theorem AN:∀ {rs1 rs2:List Nat}{kn1 kn2:List (List Int)}{ω:Om}{ρ:Rho},ρ.length=2->RowsAt ω rs1 kn1->RowsAt ω rs2 kn2->(∀ xs∈kn1,xs.length<=sizeLine)->(∀ obs,chk (ω++obs)=true)->
  compLO (tU 0 1) chk (oPT jI) (bC gO (aC (oP (aD 0)) (aC (oP (aD 1)) aK))) (xH (rs1.map D.obj) (rs2.map D.obj)) ρ ω=v9 ((da ω.length (bu (bu mx) kn1 kn2).length).map D.obj,ω++(bu (bu mx) kn1 kn2).map fun xs=>Ob.ml (iv xs))
 |_,rs2,_,kn2,ω,ρ,hρ,.nil,_,_,hc=>by
  show(if chk ω=true then v9 ([],ω) else wb)=_
  rw[if_pos (by have:=hc [];rwa [dh] at this)];simp
 |_,_,_,_,ω,ρ,hρ,.cons _ _,.nil,_,hc=>by
  show(if chk ω=true then v9 ([],ω) else wb)=_
  rw[if_pos (by have:=hc [];rwa [dh] at this)];simp
 |_,_,_,_,ω,ρ,hρ,@Paired.cons _ _ _ r1 x1 rs1 kn1 a1 t1,@Paired.cons _ _ _ r2 x2 rs2 kn2 a2 t2,hl,hc=>by
  match ρ,hρ with
  |[u,v],_=>
   have j1:=vQ (ω:=ω) (gJ a1) (gJ a2) (hl x1 ar);have ih:=AN (chk:=chk) (ω:=ω++[.ml (iv (bu mx x1 x2))]) (ρ:=[v9 (.obj r1),v9 (.obj r2)]) rfl (RowsAt.app t1 _) (RowsAt.app t2 _) (fun xs hx=>hl xs (ai _ hx)) (fun obs=>by rw[d8];exact hc _)
   show(if chk ω=true then(match bC gO (aC (oP (aD 0)) (aC (oP (aD 1)) aK)) [v9 (.obj r1),v9 (.obj r2)] ω with
    |some (.ok y,ω2)=>(compLO (tU 0 1) chk (oPT jI) (bC gO (aC (oP (aD 0)) (aC (oP (aD 1)) aK))) (xH (rs1.map D.obj) (rs2.map D.obj)) [v9 (.obj r1),v9 (.obj r2)] ω2).map fun r=>(y::r.1,r.2)
    |_=>wb) else wb)=_
   rw[if_pos (by have:=hc [];rwa [dh] at this),aQ (aA (aB (d:=.obj r1) rfl) (aA (aB (d:=.obj r2) rfl) aE)) j1]
   show(compLO _ _ _ _ _ _ _).map _=_
   rw[ih];rw[i9,bw,ku,bq,bq,bv];show v9 (_,_)=_;rw[d8];rfl
theorem lJ:∀(kn:List (List Int)) (pre post:Om),RowsAt (pre++(kn.map fun xs=>Ob.ml (iv xs))++post) (da pre.length kn.length) kn
 |[],_,_=>.nil
 |x::r,pre,post=>by
  rw[bw,ku];refine .cons (by simp) ?_
  have:=lJ r (pre++[.ml (iv x)]) post
  unfold RowsAt at this;simpa using this
theorem jP (e1:fv ρ ω=v9 (.ok v,ω1)) (e2:fo ρ ω1=v9 (.ok (.obj n),ω2)) (e3:ω2[n]?=v9 (.ins c fs)) (hl:fs.length<1000):mD c x fo fv ρ ω=v9 (.nx ρ,ω2.set n (.ins c (kH x v fs))):=by
 unfold mD;rw[cV e1,cV e2]
 have:tG c x ω2 (.obj n) v=v9 (ω2.set n (.ins c (kH x v fs))):=by
  simp only[tG,e3];rw[if_pos ⟨trivial,hl⟩]
 show(tG c x ω2 (.obj n) v).map _=_
 rw[this];rfl
noncomputable def Hd.hearT (hd:Hd) (i:Nat) (tl:Hd) (j:Nat):List D:=hd.ents.filter (tl.leaves j)++tl.ents.filter (hd.leaves i)
noncomputable def Hd.hear0 (hd:Hd) (i:Nat) (tl:Hd) (j:Nat):Hd:=⟨(bu (bu mx) hd.knows tl.knows).set i (bu mx (hd.seen i) (tl.seen j)),mY (hd.hearT i tl j) [],nW hd.kept tl.kept⟩
noncomputable def Hd.hear (hd:Hd) (i:Nat) (tl:Hd) (j:Nat):Hd:=(hd.hear0 i tl j).forget
theorem Hd.Ok.entC (W:hd.Ok c):∀ d∈hd.ents,PR c d:=fun d hd'=>by
 obtain⟨kv,h1,rfl⟩:=av.mp (W.ents.2.mem_iff.mp hd');obtain⟨a,b,ha0,ha1,_,x,v,e⟩:=W.tk kv h1;exact⟨x,a,b,v,e,ha0,ha1⟩
theorem Kc (H:HandAt ω h i hd k t e rs) (G:HandAt ω h2 j tl k2 t2 e2 rs2) (hij:∀ n∈h::k::t::e::rs,n∉h2::k2::t2::e2::rs2) (W:hd.Ok c) (V:tl.Ok c) (hi:i<c) (hj:j<c) (hh:eP (tl.kept.map (·.1))=true) (W2:(hd.hear0 i tl j).Ok c):
  ∃ ω' k' t' e' rs',bY [.obj h,.obj h2] ω=v9 (.ok (.int (NE (hd.seen i) (tl.seen j))),ω')/\HandAt ω' h i (hd.hear i tl j) k' t' e' rs'/\Keep [h,e] ω ω'/\∀ n∈k'::t'::e'::rs',ω.length<=n:=by
 obtain⟨r,hr,er⟩:=H.seenRow (by rw[W.len];exact hi);obtain⟨r2,hr2,er2⟩:=G.seenRow (by rw[V.len];exact hj);obtain⟨⟨h1,h2',h3,h4⟩,⟨h5,h6,h7⟩,⟨h8,h9⟩,h10,h11⟩:=H.ne;have ltH:=H.lt;have ltG:=G.lt;have c8:∀ {n:Nat},n=c->n<=sizeLine:=fun z=>by rw[z,b7];have:=W.small;omega
 have hs1:(hd.seen i).length<=sizeLine:=c8 (W.seenLen hi);have hh2:h2≠h:=fun z=>hij h (by simp) (by simp[z]);have he2:e2≠e:=fun z=>hij e (by simp) (by simp[z]);have hk2h:k2≠h:=fun z=>hij h (by simp) (by simp[z]);have he2h:e2≠h:=fun z=>hij h (by simp) (by simp[z]);have hrs2h:∀ r∈rs2,r≠h:=fun r hr z=>hij h (by simp) (by rw[<- z];simp[hr])
 -- the stages of the store
 obtain⟨s,hs⟩:∃ s,s=bu mx (hd.seen i) (tl.seen j):=⟨_,rfl⟩;obtain⟨ωa,hωa⟩:∃ ωa,ωa=ω++[Ob.ml (iv s)]:=⟨_,rfl⟩;obtain⟨ωb,hωb⟩:∃ ωb,ωb=ωa++[Ob.dt []]:=⟨_,rfl⟩;have la:ωa.length=ω.length+1:=by rw[hωa];simp
 have lb:ωb.length=ω.length+2:=by rw[hωb];simp[la]
 have gb:∀ n,n<ω.length->ωb[n]?=ω[n]?:=fun n hn=>by rw[hωb,bi (by omega),hωa,bi hn]
 have Hb:HandAt ωb h i hd k t e rs:=H.mono fun n hn=>gb n (ltH n hn);have Gb:HandAt ωb h2 j tl k2 t2 e2 rs2:=G.mono fun n hn=>gb n (ltG n hn);have nb:ωb[ωa.length]?=v9 (.dt []):=by rw[hωb];simp
 have sb:ωb[ω.length]?=v9 (.ml (iv s)):=by rw[hωb,bi (by omega),hωa];simp
 -- the table
 have l1:(hd.ents.filter (tl.leaves j)).length<64:=l9 (f6 ..) W.entsLen;have l2:(tl.ents.filter (hd.leaves i)).length<64:=l9 (f6 ..) V.entsLen;have lT:(hd.hearT i tl j).length<128:=by unfold Hd.hearT;rw[bv];omega
 have entT:∀ d∈hd.hearT i tl j,bV d:=fun d hd'=>by
  rcases cj.mp hd' with z|z
  ·exact W.entsEnt d (b4.mp z).1
  ·exact V.entsEnt d (b4.mp z).1
 obtain⟨v',loop⟩:=vV (h:=h) (h2:=h2) (n0:=ω.length) (n1:=ωa.length) (m:=.int (NE (hd.seen i) (tl.seen j))) (out:=hd.hearT i tl j) (T:=[]) (v:=wb) (ω:=ωb) entT nb (by rw[b7];simp;omega);obtain⟨T,hT⟩:∃ T,T=mY (hd.hearT i tl j) []:=⟨_,rfl⟩;rw[<- hT] at loop;obtain⟨ωc,hωc⟩:∃ ωc,ωc=ωb.set ωa.length (.dt T):=⟨_,rfl⟩;rw[<- hωc] at loop;have lc:ωc.length=ω.length+2:=by rw[hωc];simp[lb]
 have gc:∀ n,n<ω.length->ωc[n]?=ω[n]?:=fun n hn=>by rw[hωc,aR (by omega)];exact gb n hn
 have tc:ωc[ωa.length]?=v9 (.dt T):=by rw[hωc];exact cT nb
 have sc:ωc[ω.length]?=v9 (.ml (iv s)):=by rw[hωc,aR (by omega)];exact sb
 have oc:ωc[h]?=v9 (.ins 0 [("number",.int i),("knows",.obj k),("table",.obj t),("kept",.obj e)]):=by rw[gc h (ltH h (by simp))];exact H.obj
 -- table set
 obtain⟨ωd,hωd⟩:∃ ωd,ωd=ωc.set h (.ins 0 [("number",.int i),("knows",.obj k),("table",.obj ωa.length),("kept",.obj e)]):=⟨_,rfl⟩;have ld:ωd.length=ω.length+2:=by rw[hωd];simp[lc]
 have hlt:=ltH h (by simp);have gd:∀ n,n<ω.length->n≠h->ωd[n]?=ω[n]?:=fun n hn hne=>by rw[hωd,aR hne];exact gc n hn
 have od:ωd[h]?=v9 (.ins 0 [("number",.int i),("knows",.obj k),("table",.obj ωa.length),("kept",.obj e)]):=by rw[hωd];exact cT oc
 have td:ωd[ωa.length]?=v9 (.dt T):=by rw[hωd,aR (by omega)];exact tc
 have sd:ωd[ω.length]?=v9 (.ml (iv s)):=by rw[hωd,aR (by omega)];exact sc
 have kd:ωd[k]?=v9 (.ml (rs.map D.obj)):=by rw[gd k (ltH k (by simp)) (c5 h1)];exact H.kn
 have kd2:ωd[k2]?=v9 (.ml (rs2.map D.obj)):=by rw[gd k2 (ltG k2 (by simp)) hk2h];exact G.kn
 have od2:ωd[h2]?=_:=(gd h2 (ltG h2 (by simp)) hh2).trans G.obj;have rd:RowsAt ωd rs hd.knows:=H.rows.mono fun r hr=>gd r (ltH r (by simp[hr])) fun z=>h4 (z ▸ hr);have rd2:RowsAt ωd rs2 tl.knows:=G.rows.mono fun r hr=>gd r (ltG r (by simp[hr])) (hrs2h r hr)
 -- rows joined
 obtain⟨kn,hkn⟩:∃ kn,kn=bu (bu mx) hd.knows tl.knows:=⟨_,rfl⟩;have lkn:kn.length=c:=by rw[hkn,d7,W.len,V.len,ir]
 have joins:=AN (chk:=fun ω=>rF k (rs.map D.obj) ω&&rF k2 (rs2.map D.obj) ω) (ω:=ωd) (ρ:=[wb,wb]) rfl rd rd2 (fun xs hx=>c8 (W.row xs hx)) (fun obs=>by
  rw[bt];constructor
  ·unfold rF;rw[bi (BY kd),kd];exact sameDs_refl _
  ·unfold rF;rw[bi (BY kd2),kd2];exact sameDs_refl _)
 rw[<- hkn] at joins;obtain⟨ωe,hωe⟩:∃ ωe,ωe=ωd++kn.map fun xs=>Ob.ml (iv xs):=⟨_,rfl⟩;rw[<- hωe] at joins;have le:ωe.length=ω.length+2+c:=by rw[hωe];simp[ld,lkn]
 obtain⟨ωf,hωf⟩:∃ ωf,ωf=ωe++[Ob.ml ((da ωd.length kn.length).map D.obj)]:=⟨_,rfl⟩;have lf:ωf.length=ω.length+3+c:=by rw[hωf];simp[le];omega
 have gf:∀ n,n<ω.length+2->ωf[n]?=ωd[n]?:=fun n hn=>by rw[hωf,bi (by omega),hωe,bi (by omega)]
 have kf:ωf[ωe.length]?=v9 (.ml ((da ωd.length kn.length).map D.obj)):=by rw[hωf];simp
 have rf:RowsAt ωf (da ωd.length kn.length) kn:=by rw[hωf,hωe];exact lJ kn ωd _
 have of:ωf[h]?=v9 (.ins 0 [("number",.int i),("knows",.obj k),("table",.obj ωa.length),("kept",.obj e)]):=by rw[gf h (by omega)];exact od
 obtain⟨ωg,hωg⟩:∃ ωg,ωg=ωf.set h (.ins 0 [("number",.int i),("knows",.obj ωe.length),("table",.obj ωa.length),("kept",.obj e)]):=⟨_,rfl⟩;have og:ωg[h]?=v9 (.ins 0 [("number",.int i),("knows",.obj ωe.length),("table",.obj ωa.length),("kept",.obj e)]):=by rw[hωg];exact cT of
 have kg:ωg[ωe.length]?=v9 (.ml ((da ωd.length kn.length).map D.obj)):=by rw[hωg,aR (by omega)];exact kf
 obtain⟨rs',hrs'⟩:∃ rs',rs'=(da ωd.length kn.length).set i ω.length:=⟨_,rfl⟩;have hset:((da ωd.length kn.length).map D.obj).set i (.obj ω.length)=rs'.map D.obj:=by rw[hrs',List.map_set]
 obtain⟨ωh,hωh⟩:∃ ωh,ωh=ωg.set ωe.length (.ml (rs'.map D.obj)):=⟨_,rfl⟩;have elt:=ltH e (by simp);have oh:ωh[h]?=v9 (.ins 0 [("number",.int i),("knows",.obj ωe.length),("table",.obj ωa.length),("kept",.obj e)]):=by rw[hωh,aR (by omega)];exact og
 have gh:∀ n,n<ω.length+2->n≠h->ωh[n]?=ωd[n]?:=fun n hn hne=>by rw[hωh,aR (by omega),hωg,aR hne];exact gf n hn
 have eh:ωh[e]?=v9 (.dt hd.kept):=by rw[gh e (by omega) (c5 h3),gd e elt (c5 h3)];exact H.kp
 have eh2:ωh[e2]?=v9 (.dt tl.kept):=by rw[gh e2 (by have:=ltG e2 (by simp);omega) he2h,gd e2 (ltG e2 (by simp)) he2h];exact G.kp
 have oh2:ωh[h2]?=_:=(gh h2 (by have:=ltG h2 (by simp);omega) hh2).trans od2;obtain⟨ωi,hωi⟩:∃ ωi,ωi=ωh.set e (.dt (nW hd.kept tl.kept)):=⟨_,rfl⟩;have li:ωi.length=ω.length+3+c:=by rw[hωi,hωh,hωg];simp[lf]
 have gi:∀ n,n<ω.length+2->n≠h->n≠e->ωi[n]?=ωd[n]?:=fun n hn hne hee=>by rw[hωi,aR hee];exact gh n hn hne
 have rin:∀ q∈da ωd.length kn.length,ω.length+2<=q/\q<ω.length+2+c:=fun q hq=>by
  rw[ph,ld,lkn] at hq;exact hq
 have rsin:∀ q∈rs',ω.length<=q/\q≠ωa.length/\q<ω.length+2+c:=fun q hq=>by
  rw[hrs'] at hq;rcases ik hq with z|z
  ·have:=rin q z;omega
  ·omega
 have HI:HandAt ωi h i (hd.hear0 i tl j) ωe.length ωa.length e rs':=by
  refine⟨?_,?_,?_,?_,?_,?_⟩
  ·rw[hωi,aR h3];exact oh
  ·rw[hωi,aR (by omega),hωh];exact cT kg
  ·show RowsAt ωi rs' ((bu (bu mx) hd.knows tl.knows).set i (bu mx (hd.seen i) (tl.seen j)));rw[<- hkn,<- hs,hrs'];refine RowsAt.setAt (rf.mono fun q hq=> ?_) ?_
   ·have:=rin q hq
    rw[hωi,aR (by omega),hωh,aR (by omega),hωg,aR (by omega)]
   ·rw[gi _ (by omega) (by omega) (by omega)];exact sd
  ·show ωi[ωa.length]?=v9 (.dt (mY (hd.hearT i tl j) []));rw[gi _ (by omega) (by omega) (by omega),<- hT];exact td
  ·rw[hωi];exact cT eh
  ·have hnd:rs'.Nodup:=by
    rw[hrs'];exact DG (ux) (fun z=>by have:=rin _ z;omega) i
   simp only[b9,aj,not_or];refine⟨⟨by omega,by omega,h3,fun z=>by have:=rsin _ z;omega⟩,⟨by omega,by omega,fun z=>by have:=rsin _ z;omega⟩,⟨by omega,fun z=>(rsin _ z).2.1 rfl⟩,fun z=>by have:=rsin _ z;omega,hnd⟩
 obtain⟨ω',f1,HF,KF⟩:=wB HI W2;refine⟨ω',ωe.length,ωa.length,ωi.length,rs',?_,HF,⟨?_,fun n hn hm=> ?_⟩,fun n hn=> ?_⟩
 ·refine aT rfl ?_;unfold oJ;rw[aN (aQ (aA (bQ (aB rfl) H.obj rfl (jQ H hr)) (aA (bQ (aB rfl) G.obj rfl (jQ G hr2)) aE)) (Gs (gJ er) (gJ er2) hs1))];rw[aN (aQ (aA (bQ (aB rfl) H.obj rfl (jQ H hr)) (aA (bQ (aB rfl) G.obj rfl (jQ G hr2)) aE)) (vQ (gJ er) (gJ er2) hs1))];rw[<- hs,<- hωa];rw[aN (d:=.obj ωa.length) (ω1:=ωb) (by rw[hωb];rfl)];rw[bG (iL (by
   unfold cH oIL;rw[cV (x:=(hd.hearT i tl j,bT)) (ω1:=ωb) (by
    rw[bB (x:=.lst (hd.hearT i tl j)) (ω1:=ωb) (gB (aQ (aA (bQ (aB (d:=.obj h) rfl) Hb.obj rfl (jF Hb W.ents.1)) (aA (aB (d:=.obj h2) rfl) aE)) (rC Gb V hj W.entC (ip (fA W.entsLen)))) (aQ (aA (bQ (aB (d:=.obj h2) rfl) Gb.obj rfl (jF Gb V.ents.1)) (aA (aB (d:=.obj h) rfl) aE)) (rC Hb W hi V.entC (ip (fA V.entsLen)))) (by
     show(if(hd.ents.filter (tl.leaves j)).length+(tl.ents.filter (hd.leaves i)).length<=sizeLine then v9 (D.lst (hd.hearT i tl j),ωb) else wb)=_
     rw[if_pos (by rw[b7];omega)]))]
    rfl)]
   exact loop))]
  rw[bG (jP (aB (d:=.obj ωa.length) rfl) (aB (d:=.obj h) rfl) oc (by simp))];rw[show ωc.set h (.ins 0 (kH "table" (.obj ωa.length) [("number",.int i),("knows",.obj k),("table",.obj t),("kept",.obj e)]))=ωd from by rw[hωd];rfl];rw[bG (jP (xZ (ω1:=ωd) (ω2:=ωe) (ds:=xH (rs.map D.obj) (rs2.map D.obj)) (chk:=fun ω=>rF k (rs.map D.obj) ω&&rF k2 (rs2.map D.obj) ω) (by
    unfold oIZ;rw[bB (aA (fP (aB (d:=.obj h) rfl) od rfl) (aA (fP (aB (d:=.obj h2) rfl) od2 rfl) aE))];have z1:wA ωd (.obj k)=v9 (rs.map D.obj,rF k (rs.map D.obj)):=by simp only[wA,kd]
    have z2:wA ωd (.obj k2)=v9 (rs2.map D.obj,rF k2 (rs2.map D.obj)):=by simp only[wA,kd2]
    show oR (pu ((wA ωd (.obj k)).bind _) ωd)=_;rw[z1];show oR (pu ((wA ωd (.obj k2)).map _) ωd)=_;rw[z2];rfl) (by
     unfold xH;rw[d7,ao,ao,rd.length,rd2.length,W.len,V.len,ir];exact c8 rfl) joins) (by rw[<- hωf];exact aB (d:=.obj h) rfl) of (by simp))]
  rw[show ωf.set h (.ins 0 (kH "knows" (.obj ωe.length) [("number",.int i),("knows",.obj k),("table",.obj ωa.length),("kept",.obj e)]))=ωg from by rw[hωg];rfl];rw[bG (lI (aB (d:=.obj ω.length) rfl) (fP (aB (d:=.obj h) rfl) og rfl) (fP (aB (d:=.obj h) rfl) og rfl) (CU kg (by rw[ao,List.length_range',lkn];exact hi)))];rw[hset,<- hωh];rw[bG (ω1:=ωi) (by
   unfold dL;rw[cV (AI (r:=.non) (ω3:=ωi) (fP (aB (d:=.obj h) rfl) oh rfl) eh (aA (fP (aB (d:=.obj h2) rfl) oh2 rfl) aE) (by
    simp only[El,eh,eh2];rw[if_pos ⟨c5 he2,by have:=W.kl;have:=V.kl;rw[b7];omega,hh⟩,<- hωi]))])]
  rw[bG (ω1:=ω') (by
   unfold dL;rw[cV (bQ (aB (d:=.obj h) rfl) HI.obj rfl f1)])]
  exact bA (aB rfl)
 ·have:=KF.1;omega
 ·simp only[aj,cr,or_false,not_or] at hm;rw[KF.2 n (by omega) (by simpa using hm.1),gi n (by omega) hm.1 hm.2,gd n hn hm.1]
 ·simp only[aj] at hn;rcases hn with z|z|z|z
  ·omega
  ·omega
  ·omega
  ·exact(rsin n z).1
theorem OR (H:HandS ω h i hd fp) (G:HandS ω h2 j tl fq) (hij:∀ n∈fp,n∉fq) (W:hd.Ok c) (V:tl.Ok c) (hi:i<c) (hj:j<c) (hh:eP (tl.kept.map (·.1))=true) (W2:(hd.hear0 i tl j).Ok c):
  ∃ ω',bY [.obj h,.obj h2] ω=v9 (.ok (.int (NE (hd.seen i) (tl.seen j))),ω')/\Did ω h i fp ω' (hd.hear i tl j):=by
 obtain⟨k,t,e,rs,H,rfl⟩:=H;obtain⟨k2,t2,e2,rs2,G,rfl⟩:=G;obtain⟨ω',k',t',e',rs',e1,H',K,F⟩:=Kc H G hij W V hi hj hh W2;refine⟨ω',e1,_,⟨k',t',e',rs',H',rfl⟩,K.sub (fun n hn=>by simp only[aj,cr,or_false] at hn ⊢;rcases hn with z|z <;> simp[z]),fun n hn=> ?_⟩;rcases aj.mp hn with z|z
 ·exact .inl (by simp[z])
 ·exact .inr (F n z)
end
noncomputable def KeyIn (c:Nat) (own:Nat->Nat) (k:List Key):Prop:=∃ a b:Nat,a<c/\1<=b/\b<=own a/\k=fI a b
noncomputable def tot (c:Nat) (own:Nat->Nat):Nat:=((bz c).map own).sum
noncomputable def univ (c:Nat) (own:Nat->Nat):List (List Key):=(bz c).flatMap fun a=>(bz (own a)).map fun b=>fI a ((b+1:Nat):Int)
theorem Ao (c:Nat) (own:Nat->Nat):(univ c own).length=tot c own:=by
 unfold univ tot;rw[List.length_flatMap]
 congr 1
 apply gw;intro a _;simp
theorem KeyIn.univ (h:KeyIn c own k):k∈univ c own:=by
 obtain⟨a,b,h1,h2,h3,rfl⟩:=h;unfold Lw.univ;rw[qe];refine⟨a,gq.mpr h1,av.mpr ⟨b-1,gq.mpr (by omega),?_⟩⟩;rw[Nat.sub_add_cancel h2]
theorem KeyIn.mono (h:KeyIn c own k) (le:∀ a,own a<=own' a):KeyIn c own' k:=by
 obtain⟨a,b,h1,h2,h3,e⟩:=h;exact⟨a,b,h1,h2,ci h3 (le a),e⟩
theorem sP {α:Type} [DecidableEq α]:∀ {l m:List α},l.Nodup->(∀ x∈l,x∈m)->l.length<=m.length
 |[],m,_,_=>im _
 |a::r,m,h,hs=>by
  rw[b9] at h;have ha:=hs a ar;have h1:=sP (l:=r) (m:=m.erase a) h.2 fun x hx=>(List.mem_erase_of_ne (fun z:x=a=>h.1 (z ▸ hx))).mpr (hs x (ai _ hx));rw[List.length_erase_of_mem ha] at h1;have h2:=List.length_pos_of_mem ha;rw[bw];omega
structure Hd.In (c:Nat) (own:Nat->Nat) (hd:Hd):Prop where
 len:hd.knows.length=c
 row:∀ xs∈hd.knows,xs.length=c
 kb:∀ xs∈hd.knows,∀ a,a<c->0<=xs.getD a 0/\xs.getD a 0<=own a
 kk:∀ kv∈hd.kept,KeyIn c own kv.1
 kn:(hd.kept.map (·.1)).Nodup
 kv:∀ kv∈hd.kept,∃ ks:List (List Key),kv.2=.tup (ks.map bP)/\ks.length<64/\∀ q∈ks,KeyIn c own q
 tk:∀ kv∈hd.table,∃ a b:Nat,a<c/\1<=b/\b<=own a/\kv.1=fI a b/\∃(x:Str) (v:Int),kv.2=.tup [.str x,mkD a b,.int v]
 tn:(hd.table.map (·.1)).Nodup
section
variable {c:Nat}{own own':Nat->Nat}{hd tl:Hd}{i j:Nat}
theorem Hd.In.ok (W:hd.In c own) (c0:0<c) (c8:c<=8) (ht:tot c own<64):hd.Ok c where
 len:=W.len
 row:=W.row
 small:=c8
 pos:=c0
 kk:=fun kv h=>by
  obtain⟨a,b,h1,_,_,e⟩:=W.kk kv h;exact⟨a,b,e,by omega,by omega⟩
 kn:=W.kn
 kl:=by
  have:=sP W.kn (m:=univ c own) fun x hx=>by
   obtain⟨kv,h1,rfl⟩:=av.mp hx;exact(W.kk kv h1).univ
  rw[Ao,ao] at this;omega
 tk:=fun kv h=>by
  obtain⟨a,b,h1,_,_,e,x,v,e2⟩:=W.tk kv h;exact⟨a,b,by omega,by omega,e,x,v,e2⟩
 tn:=W.tn
 tl:=by
  have:=sP W.tn (m:=univ c own) fun x hx=>by
   obtain⟨kv,h1,rfl⟩:=av.mp hx;obtain⟨a,b,h2,h3,h4,e,_⟩:=W.tk kv h1;exact KeyIn.univ ⟨a,b,h2,h3,h4,e⟩
  rw[Ao,ao] at this;omega
theorem Hd.In.mono (W:hd.In c own) (le:∀ a,own a<=own' a):hd.In c own' where
 len:=W.len
 row:=W.row
 kb:=fun xs hx a ha=>⟨(W.kb xs hx a ha).1,Int.le_trans (W.kb xs hx a ha).2 (by have:=le a;omega)⟩
 kk:=fun kv h=>(W.kk kv h).mono le
 kn:=W.kn
 kv:=fun kv h=>by
  obtain⟨ks,e,hl,h2⟩:=W.kv kv h;exact⟨ks,e,hl,fun q hq=>(h2 q hq).mono le⟩
 tk:=fun kv h=>by
  obtain⟨a,b,h1,h2,h3,r⟩:=W.tk kv h;exact⟨a,b,h1,h2,ci h3 (le a),r⟩
 tn:=W.tn
theorem kI {p:List Key×D} (h:p∈iG kvs k v):p=(k,v)∨p∈kvs:=by
 unfold iG at h;split at h
 ·obtain⟨q,h1,h2⟩:=av.mp h
  by_cases hq:q.1=k
  ·rw[if_pos hq] at h2;exact .inl (by rw[<- h2,hq])
  ·rw[if_neg hq] at h2;exact .inr (h2 ▸ h1)
 ·rcases cj.mp h with z|z
  ·exact .inr z
  ·exact .inl (by simpa using z)
theorem iZ {k:List Key} (h:(kvs.map (·.1)).Nodup):((iG kvs k v).map (·.1)).Nodup:=by
 unfold iG;split
 ·rw[f7];rw[show kvs.map ((·.1)∘fun kv=>if kv.1=k then(kv.1,v) else kv)=kvs.map (·.1) from gw fun kv _=>by
   show(if kv.1=k then(kv.1,v) else kv).1=kv.1
   split <;> rfl]
  exact h
 ·rename_i hn
  rw[ck,jn];refine⟨h,by simp,fun a ha b hb z=>hn ?_⟩;rw[ni];obtain⟨p,h1,h2⟩:=av.mp ha;refine⟨p,h1,decide_eq_true ?_⟩;have hb':b=k:=by simpa using hb
  rw[h2,z,hb']
theorem EJ (kvs:List (List Key×D)) (k:List Key):(dS kvs k).Sublist kvs:=gy
theorem oK:∀(ks:List (List Key)) (kvs:List (List Key×D)),(ks.foldl dS kvs).Sublist kvs
 |[],kvs=>List.Sublist.refl _
 |k::ks,kvs=>(oK ks (dS kvs k)).trans (EJ kvs k)
theorem mV:∀ {out:List D}{T:List (List Key×D)},(T.map (·.1)).Nodup->((mY out T).map (·.1)).Nodup
 |[],T,h=>h
 |d::out,T,h=>mV (out:=out) (iZ h)
theorem mW:∀ {out:List D}{T:List (List Key×D)}{p:List Key×D},p∈mY out T->p∈T∨∃ d∈out,p=(aO d,d)
 |[],T,p,h=>.inl h
 |d::out,T,p,h=>by
  rcases mW (out:=out) (T:=iG T (aO d) d) h with z|⟨d',h1,h2⟩
  ·rcases kI z with z|z
   ·exact .inr ⟨d,ar,z⟩
   ·exact .inl z
  ·exact .inr ⟨d',ai _ h1,h2⟩
theorem lR:∀ {ms kvs:List (List Key×D)},(kvs.map (·.1)).Nodup->((nW kvs ms).map (·.1)).Nodup
 |[],kvs,h=>h
 |d::ms,kvs,h=>lR (ms:=ms) (kvs:=iG kvs d.1 d.2) (iZ h)
theorem lK:∀ {ms kvs:List (List Key×D)}{p:List Key×D},p∈nW kvs ms->p∈kvs∨p∈ms
 |[],kvs,p,h=>.inl h
 |d::ms,kvs,p,h=>by
  rcases lK (ms:=ms) (kvs:=iG kvs d.1 d.2) h with z|z
  ·rcases kI z with z|z
   ·exact .inr (by rw[z];exact ar)
   ·exact .inl z
  ·exact .inr (ai _ z)
theorem jD (xs:List Int) (i a:Nat) (v:Int) (hi:i<xs.length):(xs.set i v).getD a 0=if a=i then v else xs.getD a 0:=by
 rw[au,au,List.getElem?_set]
 by_cases h:a=i
 ·subst h;simp[hi]
 ·rw[if_neg (c5 h),if_neg h]
theorem uJ {f:Int->Int->Int}{xs ys:List Int}{a:Nat} (h1:a<xs.length) (h2:a<ys.length):(bu f xs ys).getD a 0=f (xs.getD a 0) (ys.getD a 0):=by
 simp[au,se,bj h1,bj h2]
theorem Ic {α β γ:Type}{f:α->β->γ}:∀ {xs:List α}{ys:List β}{z:γ},z∈bu f xs ys->∃ x∈xs,∃ y∈ys,z=f x y
 |[],_,_,h=>by simp at h
 |_::_,[],_,h=>by simp at h
 |x::xs,y::ys,z,h=>by
  rw[i9] at h;rcases aj.mp h with h|h
  ·exact⟨x,ar,y,ar,h⟩
  ·obtain⟨x',h1,y',h2,e⟩:=Ic h;exact⟨x',ai _ h1,y',ai _ h2,e⟩
noncomputable def cK (own:Nat->Nat) (i:Nat):Nat->Nat:=fun a=>if a=i then own a+1 else own a
theorem gX (own:Nat->Nat) (i a:Nat):own a<=cK own i a:=by
 unfold cK;split <;> omega
theorem Hd.In.seenMem (W:hd.In c own) (hi:i<c):hd.seen i∈hd.knows:=by
 unfold Hd.seen
 have:i<hd.knows.length:=by rw[W.len];exact hi
 rw[au,bj this];exact ij this
theorem Hd.In.seenLen (W:hd.In c own) (hi:i<c):(hd.seen i).length=c:=W.row _ (W.seenMem hi)
theorem Hd.In.bump (W:hd.In c own) (hi:i<c) (hs:(hd.seen i).getD i 0=own i):(hd.bump i).In c (cK own i):=by
 have W':=W.mono (gX own i);refine⟨?_,?_,?_,W'.kk,W'.kn,W'.kv,W'.tk,W'.tn⟩
 ·show(hd.knows.set i _).length=c
  rw[c6];exact W.len
 ·intro xs hx;rcases ik hx with z|z
  ·exact W.row xs z
  ·rw[z,c6];exact W.seenLen hi
 ·intro xs hx a ha;rcases ik hx with z|z
  ·exact W'.kb xs z a ha
  ·rw[z,jD _ _ _ _ (by rw[W.seenLen hi];exact hi)]
   by_cases h:a=i
   ·rw[if_pos h,hs,h];unfold cK;rw[if_pos rfl];omega
   ·rw[if_neg h];exact W'.kb _ (W.seenMem hi) a ha
theorem jH (W:hd.In c own) (hi:i<c) (hs:(hd.seen i).getD i 0=own i):((hd.bump i).seen i).getD i 0=cK own i i:=by
 have:(hd.bump i).seen i=(hd.seen i).set i ((hd.seen i).getD i 0+1):=by
  show(hd.knows.set i _).getD i []=_
  rw[au,ff (by rw[W.len];exact hi)];rfl
 rw[this,jD _ _ _ _ (by rw[W.seenLen hi];exact hi),if_pos rfl,hs];unfold cK;rw[if_pos rfl];omega
theorem Gr (hs:(hd.seen i).getD i 0=own i):hd.next i=((cK own i i:Nat):Int):=by
 unfold Hd.next cK;rw[hs,if_pos rfl];omega
theorem kO (hi:i<c) (hs:(hd.seen i).getD i 0=own i):KeyIn c (cK own i) (fI i (hd.next i)):=by
 rw[Gr hs];refine⟨i,cK own i i,hi,?_,bp _,rfl⟩;unfold cK;rw[if_pos rfl];omega
theorem Hd.In.put (W:hd.In c own) (hi:i<c) (hs:(hd.seen i).getD i 0=own i) (x:Str) (v:Int):(hd.put i x v).In c (cK own i):=by
 have B:=W.bump hi hs;refine⟨B.len,B.row,B.kb,B.kk,B.kn,B.kv,?_,iZ W.tn⟩;intro kv hkv;rcases kI hkv with z|z
 ·obtain⟨a,b,h1,h2,h3,e⟩:=kO hi hs;have hab:(i:Int)=a/\hd.next i=b:=by
   unfold fI at e;simp at e;omega
  refine⟨a,b,h1,h2,h3,by rw[z];exact e,x,v,?_⟩;rw[z];show D.tup [.str x,mkD i (hd.next i),.int v]=D.tup [.str x,mkD a b,.int v];unfold mkD;rw[hab.1,hab.2]
 ·exact B.tk kv z
theorem Hd.In.takeOut0 (W:hd.In c own) {mk:List Key} (hm:KeyIn c own mk) (hl:ks.length<64) (hk:∀ q∈ks,KeyIn c own q):(hd.takeOut0 mk ks).In c own:=by
 refine⟨W.len,W.row,W.kb,?_,?_,?_,fun kv h=>W.tk kv ((oK ks hd.table).subset h),?_⟩
 ·intro kv h
  change kv∈(if ks=[] then hd.kept else _) at h
  split at h
  ·exact W.kk kv h
  ·rcases kI h with z|z
   ·rw[z];exact hm
   ·exact W.kk kv z
 ·show((if ks=[] then hd.kept else _).map (·.1)).Nodup
  split
  ·exact W.kn
  ·exact iZ W.kn
 ·intro kv h
  change kv∈(if ks=[] then hd.kept else _) at h
  split at h
  ·exact W.kv kv h
  ·rcases kI h with z|z
   ·rw[z];exact⟨ks,rfl,hl,hk⟩
   ·exact W.kv kv z
 ·exact W.tn.sublist ((oK ks hd.table).map _)
theorem Hd.In.forget (W:hd.In c own):hd.forget.In c own:=
 ⟨W.len,W.row,W.kb,fun kv h=>W.kk kv (b4.mp h).1,W.kn.sublist (gy.map _),fun kv h=>W.kv kv (b4.mp h).1,W.tk,W.tn⟩
theorem Hd.In.hear0 (W:hd.In c own) (V:tl.In c own) (Wo:hd.Ok c) (Vo:tl.Ok c) (hi:i<c) (hj:j<c):(hd.hear0 i tl j).In c own:=by
 have joinB:∀ xs ys:List Int,xs.length=c->ys.length=c->(∀ a,a<c->0<=xs.getD a 0/\xs.getD a 0<=own a)->(∀ a,a<c->0<=ys.getD a 0/\ys.getD a 0<=own a)->(bu mx xs ys).length=c/\∀ a,a<c->0<=(bu mx xs ys).getD a 0/\(bu mx xs ys).getD a 0<=own a:=by
  intro xs ys h1 h2 h3 h4;refine⟨by rw[d7,h1,h2,ir],fun a ha=> ?_⟩;rw[uJ (by omega) (by omega)];unfold mx;split
  ·exact h4 a ha
  ·exact h3 a ha
 have rowsB:∀ zs∈(hd.hear0 i tl j).knows,zs.length=c/\∀ a,a<c->0<=zs.getD a 0/\zs.getD a 0<=own a:=by
  intro zs hz;rcases ik hz with z|z
  ·obtain⟨x,hx,y,hy,rfl⟩:=Ic z;exact joinB x y (W.row x hx) (V.row y hy) (W.kb x hx) (V.kb y hy)
  ·rw[z];exact joinB _ _ (W.seenLen hi) (V.seenLen hj) (W.kb _ (W.seenMem hi)) (V.kb _ (V.seenMem hj))
 have entT:∀ {hd:Hd},hd.In c own->hd.Ok c->∀ d∈hd.ents,∃ a b:Nat,a<c/\1<=b/\b<=own a/\aO d=fI a b/\∃(x:Str) (v:Int),d=.tup [.str x,mkD a b,.int v]:=by
  intro hd W Wo d hd';obtain⟨kv,h1,rfl⟩:=av.mp (Wo.ents.2.mem_iff.mp hd');obtain⟨a,b,h2,h3,h4,e,x,v,e2⟩:=W.tk kv h1;exact⟨a,b,h2,h3,h4,by rw[e2];rfl,x,v,e2⟩
 refine⟨?_,fun xs hx=>(rowsB xs hx).1,fun xs hx=>(rowsB xs hx).2,?_,lR W.kn,?_,?_,mV (by simp)⟩
 ·show((bu (bu mx) hd.knows tl.knows).set i _).length=c
  rw[c6,d7,W.len,V.len,ir]
 ·intro kv h;rcases lK h with z|z
  ·exact W.kk kv z
  ·exact V.kk kv z
 ·intro kv h;rcases lK h with z|z
  ·exact W.kv kv z
  ·exact V.kv kv z
 ·intro kv h;rcases mW h with z|⟨d,hd',rfl⟩
  ·simp at z
  ·rcases cj.mp hd' with z|z
   ·exact entT W Wo d (b4.mp z).1
   ·exact entT V Vo d (b4.mp z).1
theorem AS (W:hd.In c own) (V:tl.In c own) (hi:i<c) (hj:j<c) (hs:(hd.seen i).getD i 0=own i):((hd.hear i tl j).seen i).getD i 0=own i:=by
 have:(hd.hear i tl j).seen i=bu mx (hd.seen i) (tl.seen j):=by
  show((bu (bu mx) hd.knows tl.knows).set i _).getD i []=_
  rw[au,ff (by rw[d7,W.len,V.len,ir];exact hi)];rfl
 rw[this,uJ (by rw[W.seenLen hi];exact hi) (by rw[V.seenLen hj];exact hi),hs]
 have:=(V.kb _ (V.seenMem hj) i hi).2
 unfold mx;rw[if_neg (by omega)]
theorem Hd.Ok.marksLen (Wo:hd.Ok c) (x:Str):(hd.marksK x).length<64:=by
 unfold Hd.marksK;rw[ao];exact l9 (f6 ..) Wo.entsLen
theorem Hd.In.marks (W:hd.In c own) (Wo:hd.Ok c) (x:Str):∀ q∈hd.marksK x,KeyIn c own q:=fun q hq=>by
 obtain⟨kv,h1,rfl⟩:=av.mp (Wo.marksIn x q hq);obtain⟨a,b,h2,h3,h4,e,_⟩:=W.tk kv h1;exact⟨a,b,h2,h3,h4,e⟩
end
theorem oC:∀ {U:List (List Key)},eP U=true->(∀ k∈U,∃ a,eR k=v9 a)/\∀ k∈U,∀ k'∈U,eR k=eR k'->k=k'
 |[],_=>⟨fun k h=>by simp at h,fun k h=>by simp at h⟩
 |k::r,h=>by
  have h':((eR k).isSome&&r.all (fun k'=>match eR k,eR k' with
   |some a,v9 b=>decide (a≠b)
   |_,_=>false)&&eP r)=true:=h
  rw[bt,bt] at h';obtain⟨⟨h0,ha⟩,hr⟩:=h';obtain⟨i1,i2⟩:=oC hr;have main:∀ y∈r,eR k=eR y->False:=fun y hy e=>by
   have:=d5.mp ha y hy
   split at this
   ·rename_i a b e1 e2
    rw[e1,e2] at e;cases e;simp at this
   ·cases this
  refine⟨fun q hq=> ?_,fun q hq q' hq' e=> ?_⟩
  ·rcases aj.mp hq with rfl|hq
   ·exact l0.mp h0
   ·exact i1 q hq
  ·rcases aj.mp hq with z|hq1
   ·rcases aj.mp hq' with z'|hq2
    ·rw[z,z']
    ·rw[z] at e;exact(main q' hq2 e).elim
   ·rcases aj.mp hq' with z'|hq2
    ·rw[z'] at e;exact(main q hq1 e.symm).elim
    ·exact i2 q hq1 q' hq2 e
theorem lU (hU:eP U=true):∀ {ks:List (List Key)},(∀ k∈ks,k∈U)->ks.Nodup->eP ks=true
 |[],_,_=>rfl
 |k::r,hs,nd=>by
  rw[b9] at nd;obtain⟨s1,s2⟩:=oC hU;have hk:=hs k ar;obtain⟨a,ea⟩:=s1 k hk
  show((eR k).isSome&&r.all (fun k'=>match eR k,eR k' with
   |some a,v9 b=>decide (a≠b)
   |_,_=>false)&&eP r)=true
  rw[bt,bt];refine⟨⟨by rw[ea];rfl,?_⟩,lU hU (fun q hq=>hs q (ai _ hq)) nd.2⟩;rw[d5];intro k' hk';obtain⟨b,eb⟩:=s1 k' (hs k' (ai _ hk'));rw[ea,eb];show decide (a≠b)=true;refine decide_eq_true fun z=>nd.1 ?_;rw[s2 k hk k' (hs k' (ai _ hk')) (by rw[ea,eb,z])];exact hk'
theorem RowsAt.mem (h:RowsAt ω rs kn):∀ r∈rs,∃ xs,ω[r]?=v9 (.ml (iv xs)):=by
 induction h with
 |nil=>intro r hr;simp at hr
 |cons h0 _ ih=>
  intro r hr;rcases aj.mp hr with rfl|hr
  ·exact⟨_,h0⟩
  ·exact ih r hr
theorem By (h:RowsAt ω rs kn):(rs.map D.obj).map (fun d=>D.lst ((cO ω d).getD []))=kn.map fun xs=>D.lst (iv xs):=by
 induction h with
 |nil=>rfl
 |@cons r x rs kn h0 _ ih=>
  rw[bq,bq,bq,ih]
  have:cO ω (.obj r)=v9 (iv x):=by simp only[cO,dJ,h0]
  rw[this];rfl
theorem JX (h:ω[n]?=v9 (.ml ds)):rF n ds ω=true:=by
 unfold rF;rw[h];exact sameDs_refl _
theorem MQ (a b a' b':Int):∃ c,dG 4 (.tup [.int a,.int b]) (.tup [.int a',.int b'])=v9 c:=by
 show ∃ c,(match eqD 4 (.int a) (.int a') with
  |some true=>(match eqD 4 (.int b) (.int b') with
   |some true=>v9 _
   |some false=>fK (.int b) (.int b')
   |none=>wb)
  |some false=>fK (.int a) (.int a')
  |none=>wb)=v9 c
 have e1:eqD 4 (.int a) (.int a')=v9 (decide (a=a')):=rfl;have e2:eqD 4 (.int b) (.int b')=v9 (decide (b=b')):=rfl;rw[e1,e2];cases decide (a=a') with
 |false=>exact⟨_,rfl⟩
 |true=>
  cases decide (b=b') with
  |false=>exact⟨_,rfl⟩
  |true=>exact⟨_,rfl⟩
section
variable {ω:Om}{h k t e:Nat}{i c:Nat}{hd:Hd}{rs fp:List Nat}{own:Nat->Nat}
theorem GC (H:HandAt ω h i hd k t e rs) (hl:rs.length<=sizeLine):fX [.obj h] ω=v9 (.ok (.lst (hd.knows.map fun xs=>.lst (iv xs))),ω):=by
 refine aT rfl (bA (dY (ds:=rs.map D.obj) (chk:=rF k (rs.map D.obj)) (ω1:=ω) ?_ (by simpa using hl) ?_))
 ·unfold oIL;rw[bB (H.knows (aB rfl))]
  have:wA ω (.obj k)=v9 (rs.map D.obj,rF k (rs.map D.obj)):=by simp only[wA,H.kn]
  show oR (pu (wA ω (.obj k)) ω)=_;rw[this];rfl
 ·rw[<- By H.rows];refine fY (fun ρ=>ρ.length=1) (JX H.kn) rfl fun d hd ρ hρ=> ?_;obtain⟨r,hr,rfl⟩:=av.mp hd;obtain⟨xs,ex⟩:=H.rows.mem r hr
  match ρ,hρ with
  |[u],_=>
   refine⟨_,rfl,rfl,eX (aA (aB (d:=.obj r) rfl) aE) ?_⟩
   have:cO ω (.obj r)=v9 (iv xs):=by simp only[cO,dJ,ex]
   show(cO ω (.obj r)).map _=_
   rw[this];rfl
theorem FC (H:HandAt ω h i hd k t e rs) (hi:i<hd.knows.length) (ef:f ρ ω=v9 (.ok (.obj h),ω)):oL iD (aC (aZ 0 "seen" bL f aK) aK) ρ ω=v9 (.ok (.lst (iv (hd.seen i))),ω):=by
 obtain⟨r,hr,er⟩:=H.seenRow hi;refine eX (aA (bQ ef H.obj rfl (jQ H hr)) aE) ?_
 have:cO ω (.obj r)=v9 (iv (hd.seen i)):=by simp only[cO,dJ,er]
 show(cO ω (.obj r)).map _=_
 rw[this];rfl
noncomputable def Hd.mindK (hd:Hd):List D:=(dI 4 (hd.kept.map fun p=>bP p.1)).getD []
noncomputable def Hd.mindV (hd:Hd) (q:D):D:=match CK q with
 |some k=>(match iF hd.kept k with
  |some (.tup ds)=>.lst ds
  |_=>.non)
 |none=>.non
noncomputable def Hd.mind (hd:Hd):List D:=hd.mindK.map fun q=>.tup [q,hd.mindV q]
theorem Hd.Ok.mindK (W:hd.Ok c):dI 4 (hd.kept.map fun p=>bP p.1)=v9 hd.mindK/\hd.mindK.Perm (hd.kept.map fun p=>bP p.1):=by
 have key:∀ d∈hd.kept.map fun p=>bP p.1,∃ a b:Int,d=.tup [.int a,.int b]:=fun d hd'=>by
  obtain⟨kv,h1,rfl⟩:=av.mp hd';obtain⟨a,b,e,_⟩:=W.kk kv h1;exact⟨a,b,by show bP kv.1=_;rw[e];rfl⟩
 obtain⟨out,e1,e2⟩:=sF (m:=4) (ds:=hd.kept.map fun p=>bP p.1) (by rw[ao];exact W.kl) (by
  unfold iN;rw[gz];left;rw[d5];intro d hd';obtain⟨a,b,rfl⟩:=key d hd';rfl) (fun x hx y hy=>by
  obtain⟨a,b,rfl⟩:=key x hx;obtain⟨a',b',rfl⟩:=key y hy;exact MQ a b a' b')
 have:hd.mindK=out:=by unfold Hd.mindK;rw[e1];rfl
 rw[this];exact⟨e1,e2⟩
theorem Gw (W:hd.In c own) (hq:q∈hd.kept):∃ ks:List (List Key),iF hd.kept q.1=v9 (.tup (ks.map bP))/\hd.mindV (bP q.1)=.lst (ks.map bP)/\ks.length<64/\∀ x∈ks,KeyIn c own x:=by
 obtain⟨ks,e,hl,h2⟩:=W.kv q hq;have e1:=CC W.kn hq;rw[e] at e1;refine⟨ks,e1,?_,hl,h2⟩;unfold Hd.mindV;rw[Aq]
 show(match iF hd.kept q.1 with
  |some (.tup ds)=>D.lst ds
  |_=>.non)=_
 rw[e1]
theorem BV (H:HandAt ω h i hd k t e rs) (W:hd.Ok c) (I:hd.In c own):eB [.obj h] ω=v9 (.ok (.lst hd.mind),ω):=by
 have hl:hd.mindK.length<64:=by rw[W.mindK.2.length_eq,ao];exact W.kl
 refine aT rfl (bA (dY (ds:=hd.mindK) (chk:=bT) (ω1:=ω) ?_ (ip (fA hl)) ?_))
 ·unfold oIL;rw[bB (eX (d:=.lst hd.mindK) (ω2:=ω) (aA (H.kept (aB rfl)) aE) (by
   simp only[Ep,cellOf,H.kp];rw[W.mindK.1];rfl))]
  rfl
 ·refine fY (fun ρ=>∃ u,ρ=[u,v9 (.obj h)]) rfl ⟨_,rfl⟩ fun d hd' ρ hρ=> ?_;obtain⟨q,hq,rfl⟩:=av.mp (W.mindK.2.mem_iff.mp hd');obtain⟨ks,e1,e2,_⟩:=Gw I hq;obtain⟨u,rfl⟩:=hρ;refine⟨_,rfl,⟨_,rfl⟩,eX (aA (aB (d:=bP q.1) rfl) (aA (eX (aA (gB (d:=.tup (ks.map bP)) (H.kept (aB rfl)) (aB (d:=bP q.1) rfl) (by
   show pu (pY ω (.obj e) (bP q.1)) ω=_
   have:pY ω (.obj e) (bP q.1)=v9 (.tup (ks.map bP)):=by
    simp only[pY,GX,cellOf,H.kp,Aq];rw[Option.map_some,e1];rfl
   rw[this];rfl)) aE) (d:=.lst (ks.map bP)) rfl) aE)) ?_⟩
  show pu (dQ [bP q.1,.lst (ks.map bP)]) ω=v9 (D.tup [bP q.1,hd.mindV (bP q.1)],ω);rw[e2];unfold dQ;rw[if_pos (by rw[b7];simp)];rfl
end
noncomputable def Hd0 (c:Nat):Hd:=⟨aw c (aw c 0),[],[]⟩
theorem Bb:∀ c:Nat,(aw c [D.int 0]).flatten=iv (aw c 0)
 |0=>rfl
 |c+1=>by
  rw[d6,iu,Bb c];rfl
theorem EB {c:Nat} (c8:c<=8):∀(ds:List D) (u:Option D) (ω:Om),compLO (aY 0) bT (oPT jI) (o2 GT (oL (fun ω ds=>pu (gC ds) ω) (aC (oP (dC (.int 0))) aK)) (oP (aD 1))) ds [u,v9 (.int c)] ω=v9 ((da ω.length ds.length).map D.obj,ω++aw ds.length (.ml (iv (aw c 0))))
 |[],u,ω=>by
  show v9 ([],ω)=_;simp
 |d::ds,u,ω=>by
  have ih:=EB c8 ds (v9 d) (ω++[.ml (iv (aw c 0))]);have b1:o2 GT (oL (fun ω ds=>pu (gC ds) ω) (aC (oP (dC (.int 0))) aK)) (oP (aD 1)) [v9 d,v9 (.int c)] ω=v9 (.ok (.obj ω.length),ω++[.ml (iv (aw c 0))]):=by
   refine gB (ω1:=ω) (ω2:=ω) (a:=.lst [.int 0]) (b:=.int c) (eX (aA aV aE) ?_) (aB rfl) ?_
   ·show pu (gC [.int 0]) ω=_;unfold gC;rw[if_pos (by rw[b7];simp)];rfl
   ·show(if -1000000<=(c:Int)/\(c:Int)<=1000000/\1*(c:Int).toNat<=sizeLine then v9 (D.obj ω.length,ω++[.ml (aw (c:Int).toNat [D.int 0]).flatten]) else wb)=_
    rw[if_pos ⟨by omega,by omega,by rw[b7];omega⟩,fu,Bb]
  refine(wN rfl rfl (b1)).trans ?_;rw[ih,bw,ku,bq,d6,bv];show v9 (_,_)=_;rw[d8];rfl
theorem GR {c:Nat} (c8:c<=1000):kU [.int (c:Int)]=v9 (lF 0 c):=by
 show(if -1000000000<=(c:Int)/\(c:Int)<=1000000000 then v9 (lF 0 (c:Int).toNat) else wb)=_
 rw[if_pos ⟨by omega,by omega⟩,fu]
theorem qR (e:f ρ ω=v9 (.ok (.int c),ω1)) (c8:c<=1000):oIA kU (aC f aK) ρ ω=v9 (.ok (lF 0 c,bT),ω1):=by
 unfold oIA;rw[bB (aA e aE)];show oR (pu ((kU [.int (c:Int)]).map _) ω1)=_;rw[GR c8];rfl
theorem Ed {i c:Nat} (c8:c<=8):∃ ω' fp,dN [.obj ω.length,.int i,.int c] (ω++[.ins 0 []])=v9 (.ok .non,ω')/\HandS ω' ω.length i (Hd0 c) fp/\Keep [] ω ω'/\∀ n∈fp,ω.length<=n:=by
 obtain⟨ω1,hω1⟩:∃ ω1,ω1=(ω++[Ob.ins 0 []]).set ω.length (.ins 0 [("number",.int i)]):=⟨_,rfl⟩;have g0:(ω++[Ob.ins 0 []])[ω.length]?=v9 (.ins 0 []):=by simp
 have g1:ω1[ω.length]?=v9 (.ins 0 [("number",.int i)]):=by rw[hω1];exact cT g0
 have l1:ω1.length=ω.length+1:=by rw[hω1];simp
 have k1:∀ n,n<ω.length->ω1[n]?=ω[n]?:=fun n hn=>by rw[hω1,aR (by omega),bi hn]
 have fill:=EB c8 (lF 0 c) wb ω1;rw[kF] at fill;obtain⟨ω2,hω2⟩:∃ ω2,ω2=ω1++aw c (Ob.ml (iv (aw c 0))):=⟨_,rfl⟩;rw[<- hω2] at fill;have l2:ω2.length=ω.length+1+c:=by rw[hω2];simp[l1]
 obtain⟨ω3,hω3⟩:∃ ω3,ω3=ω2++[Ob.ml ((da ω1.length c).map D.obj)]:=⟨_,rfl⟩;have l3:ω3.length=ω.length+2+c:=by rw[hω3];simp[l2];omega
 have k3:∀ n,n<ω.length+1->ω3[n]?=ω1[n]?:=fun n hn=>by rw[hω3,bi (by omega),hω2,bi (by omega)]
 have g3:ω3[ω.length]?=v9 (.ins 0 [("number",.int i)]):=by rw[k3 _ (by omega)];exact g1
 have r3:RowsAt ω3 (da ω1.length c) (aw c (aw c 0)):=by
  have:=lJ (aw c (aw c 0)) ω1 [Ob.ml ((da ω1.length c).map D.obj)]
  rw[List.map_replicate,ji,<- hω2,<- hω3] at this;exact this
 have kk3:ω3[ω2.length]?=v9 (.ml ((da ω1.length c).map D.obj)):=by rw[hω3];simp
 obtain⟨ω4,hω4⟩:∃ ω4,ω4=ω3.set ω.length (.ins 0 [("number",.int i),("knows",.obj ω2.length)]):=⟨_,rfl⟩;have l4:ω4.length=ω.length+2+c:=by rw[hω4];simp[l3]
 have g4:ω4[ω.length]?=v9 (.ins 0 [("number",.int i),("knows",.obj ω2.length)]):=by rw[hω4];exact cT g3
 obtain⟨ω5,hω5⟩:∃ ω5,ω5=(ω4++[Ob.dt []]).set ω.length (.ins 0 [("number",.int i),("knows",.obj ω2.length),("table",.obj ω4.length)]):=⟨_,rfl⟩;have g4':(ω4++[Ob.dt []])[ω.length]?=v9 (.ins 0 [("number",.int i),("knows",.obj ω2.length)]):=by rw[bi (by omega)];exact g4
 have l5:ω5.length=ω.length+3+c:=by rw[hω5];simp[l4];omega
 have g5:ω5[ω.length]?=v9 (.ins 0 [("number",.int i),("knows",.obj ω2.length),("table",.obj ω4.length)]):=by rw[hω5];exact cT g4'
 have t5:ω5[ω4.length]?=v9 (.dt []):=by rw[hω5,aR (by omega)];simp
 obtain⟨ω6,hω6⟩:∃ ω6,ω6=(ω5++[Ob.dt []]).set ω.length (.ins 0 [("number",.int i),("knows",.obj ω2.length),("table",.obj ω4.length),("kept",.obj ω5.length)]):=⟨_,rfl⟩;have g5':(ω5++[Ob.dt []])[ω.length]?=v9 (.ins 0 [("number",.int i),("knows",.obj ω2.length),("table",.obj ω4.length)]):=by rw[bi (by omega)];exact g5
 have l6:ω6.length=ω.length+4+c:=by rw[hω6];simp[l5];omega
 have g6:∀ n,n<ω.length+2+c->n≠ω.length->ω6[n]?=ω3[n]?:=fun n hn hne=>by
  rw[hω6,aR hne,bi (by omega),hω5,aR hne,bi (by omega),hω4,aR hne]
 have rin:∀ q∈da ω1.length c,ω.length+1<=q/\q<ω.length+1+c:=fun q hq=>by
  rw[ph,l1] at hq;exact hq
 refine⟨ω6,ω.length::ω2.length::ω4.length::ω5.length::da ω1.length c,?_,⟨ω2.length,ω4.length,ω5.length,da ω1.length c,⟨?_,?_,?_,?_,?_,?_⟩,rfl⟩,⟨by omega,fun n hn _=> ?_⟩,fun n hn=> ?_⟩
 ·refine sI (ρ1:=[v9 (.obj ω.length),v9 (.int i),v9 (.int c)]) rfl ?_;unfold kR;rw[bG (jP (aB (d:=.int i) rfl) (aB (d:=.obj ω.length) rfl) g0 (by simp))];rw[show(ω++[Ob.ins 0 []]).set ω.length (.ins 0 (kH "number" (.int i) []))=ω1 from by rw[hω1];rfl];rw[bG (jP (xZ (ω2:=ω2) (qR (c:=c) (aB rfl) (by omega)) (by rw[kF,b7];omega) fill) (by rw[<- hω3];exact aB (d:=.obj ω.length) rfl) g3 (by simp))];rw[show ω3.set ω.length (.ins 0 (kH "knows" (.obj ω2.length) [("number",.int i)]))=ω4 from by rw[hω4];rfl];rw[bG (jP (v:=.obj ω4.length) (ω1:=ω4++[.dt []]) rfl (aB (d:=.obj ω.length) rfl) g4' (by simp))];rw[show(ω4++[Ob.dt []]).set ω.length (.ins 0 (kH "table" (.obj ω4.length) [("number",.int i),("knows",.obj ω2.length)]))=ω5 from by rw[hω5];rfl];rw[jP (v:=.obj ω5.length) (ω1:=ω5++[.dt []]) rfl (aB (d:=.obj ω.length) rfl) g5' (by simp)];rw[show(ω5++[Ob.dt []]).set ω.length (.ins 0 (kH "kept" (.obj ω5.length) [("number",.int i),("knows",.obj ω2.length),("table",.obj ω4.length)]))=ω6 from by rw[hω6];rfl];rfl
 ·rw[hω6];exact cT g5'
 ·rw[g6 _ (by omega) (by omega)];exact kk3
 ·exact r3.mono fun q hq=>by have:=rin q hq;exact g6 q (by omega) (by omega)
 ·rw[hω6,aR (by omega),bi (by omega)];exact t5
 ·rw[hω6,aR (by omega)];simp[Hd0]
 ·simp only[b9,aj,not_or];refine⟨⟨by omega,by omega,by omega,fun z=>by have:=rin _ z;omega⟩,⟨by omega,by omega,fun z=>by have:=rin _ z;omega⟩,⟨by omega,fun z=>by have:=rin _ z;omega⟩,fun z=>by have:=rin _ z;omega,ux⟩
 ·rw[g6 n (by omega) (by omega),k3 n (by omega)];exact k1 n hn
 ·simp only[aj] at hn;rcases hn with z|z|z|z|z
  ·omega
  ·omega
  ·omega
  ·omega
  ·have:=rin n z;omega
theorem DN (e1:fl ρ ω=v9 (.ok ds,ω1)) (e2:φ (.obj ω1.length::ds) (ω1++[.ins cl []])=v9 (.ok .non,ω2)):pT cl φ fl ρ ω=v9 (.ok (.obj ω1.length),ω2):=by
 unfold pT;rw[bB e1]
 show(match φ (.obj ω1.length::ds) (ω1++[.ins cl []]) with
  |some (.ok .non,ω')=>v9 (Rz.ok (D.obj ω1.length),ω')
  |some (.ex c,ω')=>v9 (.ex c,ω')
  |_=>wb)=_
 rw[e2]
theorem vB (s:Int) (m:Nat):lF s (m+1)=.int s::lF (s+1) m:=by
 unfold lF;rw[qz,bq,f7]
 congr 1
 ·simp
 ·apply gw;intro k _;show D.int (s+((k+1:Nat):Int))=D.int (s+1+(k:Int))
  congr 1
  omega
theorem AU {c:Nat} (c8:c<=8):∀(m s:Nat) (u:Option D) (ω:Om),∃(ω':Om) (hs:Nat->Nat) (fp:Nat->List Nat),compLO (aY 0) bT (oPT jI) (pT 0 dN (aC (oP (aD 0)) (aC (oP (aD 1)) aK))) (lF s m) [u,v9 (.int c)] ω=v9 ((da s m).map fun i=>D.obj (hs i),ω')/\
  (∀ i,s<=i->i<s+m->HandS ω' (hs i) i (Hd0 c) (fp i))/\(∀ i,s<=i->i<s+m->∀ n∈fp i,ω.length<=n)/\(∀ i,s<=i->i<s+m->∀ j,s<=j->j<s+m->i≠j->∀ n∈fp i,n∉fp j)/\Keep [] ω ω'
 |0,s,u,ω=>⟨ω,fun _=>0,fun _=>[],rfl,fun i h1 h2=>by omega,fun i h1 h2=>by omega,fun i h1 h2=>by omega,Keep.refl _ _⟩
 |m+1,s,u,ω=>by
  obtain⟨ω1,fp0,e1,H1,K1,F1⟩:=Ed (ω:=ω) (i:=s) c8;obtain⟨ω2,hs,fp,e2,H2,F2,A2,K2⟩:=AU c8 m (s+1) (v9 (.int s)) ω1;have ltH:=H1.lt;refine⟨ω2,fun i=>if i=s then ω.length else hs i,fun i=>if i=s then fp0 else fp i,?_,fun i h1 h2=> ?_,fun i h1 h2 n hn=> ?_,fun i h1 h2 j h3 h4 hne n hn=> ?_,⟨ci K1.1 K2.1,fun n hn _=> ?_⟩⟩
  ·rw[vB];have mk:pT 0 dN (aC (oP (aD 0)) (aC (oP (aD 1)) aK)) [v9 (.int s),v9 (.int c)] ω=v9 (.ok (.obj ω.length),ω1):=DN (aA (aB rfl) (aA (aB rfl) aE)) e1;refine(wN rfl rfl (mk)).trans ?_
   show(compLO _ _ _ _ (lF ((s+1:Nat):Int) m) _ _).map _=_
   rw[e2,ku,bq];show v9 (_::_,_)=_
   congr 3
   ·simp
   ·apply gw;intro i hi;rw[ph] at hi;show D.obj (hs i)=D.obj (if i=s then ω.length else hs i);rw[if_neg (by omega)]
  ·by_cases hi:i=s
   ·subst hi;simp only[if_pos];exact H1.mono fun n hn=>K2.2 n (ltH n hn) (by simp)
   ·simp only[if_neg hi];exact H2 i (by omega) (by omega)
  ·by_cases hi:i=s
   ·simp only[if_pos hi] at hn;exact F1 n hn
   ·simp only[if_neg hi] at hn;exact ci K1.1 (F2 i (by omega) (by omega) n hn)
  ·by_cases hi:i=s
   ·by_cases hj:j=s
    ·exact absurd (hi.trans hj.symm) hne
    ·simp only[if_pos hi] at hn;simp only[if_neg hj];intro z
     have:=F2 j (by omega) (by omega) n z
     have:=ltH n hn
     omega
   ·simp only[if_neg hi] at hn
    by_cases hj:j=s
    ·simp only[if_pos hj];intro z
     have:=F2 i (by omega) (by omega) n hn
     have:=ltH n z
     omega
    ·simp only[if_neg hj];exact A2 i (by omega) (by omega) j (by omega) (by omega) hne n hn
  ·rw[K2.2 n (cf hn K1.1) (by simp)];exact K1.2 n hn (by simp)
structure HallS (B ω:Om) (g c:Nat) (hs:Nat->Nat) (fp:Nat->List Nat) (S:Nat->Hd):Prop where
 obj:ω[g]?=v9 (.ins 1 [("hands",.lst ((bz c).map fun i=>.obj (hs i)))])
 hand:∀ i,i<c->HandS ω (hs i) i (S i) (fp i)
 apart:∀ i,i<c->∀ j,j<c->i≠j->∀ n∈fp i,n∉fp j
 out:∀ i,i<c->g∉fp i
 low:∀ i,i<c->∀ n∈fp i,B.length<=n
 bas:B.length<=ω.length/\∀ n,n<B.length->ω[n]?=B[n]?
theorem vW (c8:c<=8) (e:fl ρ ω=v9 (.ok [.int c],ω)):∃ ω' hs fp,pT 1 eW fl ρ ω=v9 (.ok (.obj ω.length),ω')/\HallS ω ω' ω.length c hs fp (fun _=>Hd0 c):=by
 obtain⟨ω1,hs,fp,e1,H1,F1,A1,K1⟩:=AU c8 c 0 wb (ω++[Ob.ins 1 []]);have g0:(ω++[Ob.ins 1 []])[ω.length]?=v9 (.ins 1 []):=by simp
 have g1:ω1[ω.length]?=v9 (.ins 1 []):=(K1.2 _ (by simp) (by simp)).trans g0;have l1:=K1.1;rw[bv] at l1;have hl:[Ob.ins 1 []].length=1:=rfl;have f1:∀ i,i<c->∀ n∈fp i,n≠ω.length:=fun i hi n hn z=>by
  have:=F1 i (by omega) (by omega) n hn
  rw[bv] at this;omega
 refine⟨ω1.set ω.length (.ins 1 [("hands",.lst ((bz c).map fun i=>.obj (hs i)))]),hs,fp,DN e ?_,⟨cT g1,fun i hi=> ?_,fun i hi j hj=>A1 i (by omega) (by omega) j (by omega) (by omega),fun i hi z=>f1 i hi _ z rfl,fun i hi n hn=> ?_,⟨by simp;omega,fun n hn=> ?_⟩⟩⟩
 ·refine sI (ρ1:=[v9 (.obj ω.length),v9 (.int c)]) rfl ?_;unfold kT;rw[jP (dY (ω2:=ω1) (qR (c:=c) (aB rfl) (by omega)) (by rw[kF,b7];omega) e1) (aB (d:=.obj ω.length) rfl) g1 (by simp)];rw[<- List.range_eq_range'];rfl
 ·exact(H1 i (by omega) (by omega)).mono fun n hn=>aR (f1 i hi n hn)
 ·have:=F1 i (by omega) (by omega) n hn
  rw[bv] at this;omega
 ·rw[aR (by omega),K1.2 n (by simp;omega) (by simp),bi hn]
noncomputable def Kz:List (List Key)->Nat->Bool
 |[],_=>true
 |k::r,acc=>match eR k with
  |some h=> !(acc.testBit (h % 4096).toNat)&&Kz r (acc|||(1<<<(h % 4096).toNat))
  |none=>false
theorem Iq (acc i j:Nat):(acc|||(1<<<i)).testBit j=(acc.testBit j||decide (j=i)):=by
 rw[Nat.testBit_or,Nat.testBit_shiftLeft]
 congr 1
 by_cases h:j=i
 ·subst h;simp
 ·rw[decide_eq_false h]
  by_cases h2:j≥i
  ·have:j-i≠0:=by omega
   obtain⟨n,hn⟩:∃ n,j-i=n+1:=⟨j-i-1,by omega⟩;rw[hn,Nat.testBit_succ];simp
  ·simp[h2]
theorem wR:∀ {l:List (List Key)}{acc:Nat},Kz l acc=true->∀ k∈l,∃ h,eR k=v9 h/\acc.testBit (h % 4096).toNat=false
 |[],_,_,k,hk=>by simp at hk
 |k::r,acc,h,q,hq=>by
  unfold Kz at h;cases hh:eR k with
  |none=>rw[hh] at h;cases h
  |some a=>
   rw[hh] at h;have h':(!(acc.testBit (a % 4096).toNat)&&Kz r (acc|||(1<<<(a % 4096).toNat)))=true:=h;rw[bt] at h';rcases aj.mp hq with rfl|hq
   ·exact⟨a,hh,by simpa using h'.1⟩
   ·obtain⟨b,e1,e2⟩:=wR h'.2 q hq;rw[Iq,Bool.or_eq_false_iff] at e2;exact⟨b,e1,e2.1⟩
theorem EW:∀ {l:List (List Key)}{acc:Nat},Kz l acc=true->eP l=true
 |[],_,_=>rfl
 |k::r,acc,h=>by
  unfold Kz at h;cases hh:eR k with
  |none=>rw[hh] at h;cases h
  |some a=>
   rw[hh] at h;have h':(!(acc.testBit (a % 4096).toNat)&&Kz r (acc|||(1<<<(a % 4096).toNat)))=true:=h;rw[bt] at h'
   show((eR k).isSome&&r.all (fun k'=>match eR k,eR k' with
    |some a,v9 b=>decide (a≠b)
    |_,_=>false)&&eP r)=true
   rw[bt,bt];refine⟨⟨by rw[hh];rfl,?_⟩,EW h'.2⟩;rw[d5];intro k' hk';obtain⟨b,e1,e2⟩:=wR h'.2 k' hk';rw[hh,e1];refine decide_eq_true fun z=> ?_;rw[Iq,<- z] at e2;simp at e2
theorem Eb:eP (univ 8 fun _=>63)=true:=EW (acc:=0) (by decide+kernel)
noncomputable def iE (S:Nat->Hd) (i:Nat) (hd:Hd):Nat->Hd:=fun j=>if j=i then hd else S j
theorem iJ:iE S i hd i=hd:=if_pos rfl
theorem iI (h:j≠i):iE S i hd j=S j:=if_neg h
inductive Deed where
 |put (a:Int) (x:Str) (v:Int)
 |change (a:Int) (x:Str) (v:Int)
 |take (a:Int) (x:Str)
 |tell (a b:Int)
 |meet (a b:Int)
noncomputable def Deed.d:Deed->D
 |.put a x v=>.tup [.str "put",.int a,.str x,.int v]
 |.change a x v=>.tup [.str "change",.int a,.str x,.int v]
 |.take a x=>.tup [.str "take",.int a,.str x]
 |.tell a b=>.tup [.str "tell",.int a,.int b]
 |.meet a b=>.tup [.str "meet",.int a,.int b]
noncomputable def jJ (S:Nat->Hd) (a b:Nat):Nat->Hd:=iE S b ((S b).hear b (S a) a)
noncomputable def pP (S:Nat->Hd) (a b:Nat):Int:=NE ((S b).seen b) ((S a).seen a)
noncomputable def sR (S:Nat->Hd) (a b:Nat):Nat->Hd:=jJ (jJ (jJ S a b) b a) a b
noncomputable def step (c:Nat) (S:Nat->Hd):Deed->D×(Nat->Hd)
 |.put a x v=>if 0<=a/\a<c then(mkD a.toNat ((S a.toNat).next a.toNat),iE S a.toNat ((S a.toNat).put a.toNat x v)) else(.str "no hand",S)
 |.change a x v=>if 0<=a/\a<c then(mkD a.toNat ((S a.toNat).next a.toNat),iE S a.toNat ((S a.toNat).change a.toNat x v)) else(.str "no hand",S)
 |.take a x=>if 0<=a/\a<c then((S a.toNat).takeA x,iE S a.toNat ((S a.toNat).take a.toNat x)) else(.str "no hand",S)
 |.tell a b=>if(0<=a/\a<c)/\(0<=b/\b<c) then(if a=b then(.str "same hand",S) else(.int (pP S a.toNat b.toNat),jJ S a.toNat b.toNat)) else(.str "no hand",S)
 |.meet a b=>if(0<=a/\a<c)/\(0<=b/\b<c) then(if a=b then(.str "same hand",S) else(.tup [.int (pP (jJ S a.toNat b.toNat) b.toNat a.toNat),.int (pP S a.toNat b.toNat)],sR S a.toNat b.toNat)) else(.str "no hand",S)
noncomputable def HInv (c:Nat) (own:Nat->Nat) (S:Nat->Hd):Prop:=∀ a,a<c->(S a).In c own/\((S a).seen a).getD a 0=own a
theorem fW (own:Nat->Nat) (i:Nat):∀ c,tot c (cK own i)=tot c own+if i<c then 1 else 0
 |0=>rfl
 |c+1=>by
  have ih:=fW own i c;unfold tot at ih ⊢;rw[ln,ck,ck,n8,n8,ih];simp only[bq,l7,List.sum_cons,List.sum_nil];unfold cK
  by_cases h1:i<c
  ·rw[if_pos h1,if_neg (by omega),if_pos (by omega)];omega
  ·rw[if_neg h1]
   by_cases h2:c=i
   ·rw[if_pos h2,if_pos (by omega)];omega
   ·rw[if_neg h2,if_neg (by omega)];omega
theorem HW (own:Nat->Nat) (a:Nat):∀ c,a<c->own a<=tot c own
 |0,h=>by omega
 |c+1,h=>by
  have ih:=HW own a c;unfold tot at ih ⊢;rw[ln,ck,n8];simp only[bq,l7,List.sum_cons,List.sum_nil]
  by_cases h1:a<c
  ·have:=ih h1;omega
  ·have:a=c:=by omega
   subst this;omega
section
variable {B:Om}{c g i j:Nat}{own:Nat->Nat}{S:Nat->Hd}{ω ω':Om}{hs:Nat->Nat}{fp:Nat->List Nat}{hd':Hd}
theorem HInv.upd (I:HInv c own S) (W:hd'.In c own) (e:(hd'.seen i).getD i 0=own i):HInv c own (iE S i hd'):=fun a ha=>by
 by_cases h:a=i
 ·subst h;rw[iJ];exact⟨W,e⟩
 ·rw[iI h];exact I a ha
theorem HInv.updB (I:HInv c own S) (W:hd'.In c (cK own i)) (e:(hd'.seen i).getD i 0=cK own i i):HInv c (cK own i) (iE S i hd'):=fun a ha=>by
 by_cases h:a=i
 ·subst h;rw[iJ];exact⟨W,e⟩
 ·rw[iI h];refine⟨(I a ha).1.mono (gX own i),?_⟩;rw[(I a ha).2];unfold cK;rw[if_neg h]
theorem HallS.did (L:HallS B ω g c hs fp S) (hi:i<c) (D:Did ω (hs i) i (fp i) ω' hd'):∃ fp',HallS B ω' g c hs fp' (iE S i hd'):=by
 obtain⟨fi,H',K,F⟩:=D;refine⟨fun j=>if j=i then fi else fp j,⟨?_,fun j hj=> ?_,fun a ha b hb hne n hn=> ?_,fun j hj=> ?_,fun j hj n hn=> ?_,⟨ci L.bas.1 K.1,fun n hn=> ?_⟩⟩⟩
 ·rw[K.2 g (BY L.obj) (L.out i hi)];exact L.obj
 ·by_cases h:j=i
  ·subst h;rw[iJ];simp only[if_pos];exact H'
  ·rw[iI h];simp only[if_neg h];exact(L.hand j hj).mono fun n hn=>K.2 n ((L.hand j hj).lt n hn) fun z=>L.apart j hj i hi h n hn z
 ·by_cases h1:a=i
  ·simp only[if_pos h1] at hn
   by_cases h2:b=i
   ·exact absurd (h1.trans h2.symm) hne
   ·simp only[if_neg h2];intro z;rcases F n hn with q|q
    ·exact L.apart i hi b hb (fun w=>h2 w.symm) n q z
    ·have:=(L.hand b hb).lt n z
     omega
  ·simp only[if_neg h1] at hn
   by_cases h2:b=i
   ·simp only[if_pos h2];intro z;rcases F n z with q|q
    ·exact L.apart a ha i hi h1 n hn q
    ·have:=(L.hand a ha).lt n hn
     omega
   ·simp only[if_neg h2];exact L.apart a ha b hb hne n hn
 ·by_cases h:j=i
  ·simp only[if_pos h];intro z;rcases F g z with q|q
   ·exact L.out i hi q
   ·have:=BY L.obj
    omega
  ·simp only[if_neg h];exact L.out j hj
 ·by_cases h:j=i
  ·simp only[if_pos h] at hn;rcases F n hn with q|q
   ·exact L.low i hi n q
   ·exact ci L.bas.1 q
  ·simp only[if_neg h] at hn;exact L.low j hj n hn
 ·rw[K.2 n (cf hn L.bas.1) fun z=>absurd hn (su.mpr (L.low i hi n z))];exact L.bas.2 n hn
end
section
variable {α β:Type}{f h fo:OG D}{fl:OG (List D)}{ρ:Rho}{ω ω1 ω2 ω3:Om}{a b d:D}{ds:List D}{F G:OS}{x:Nat}{r:Rz D}
theorem Gn {f:OG α}{g:α->OG β} (e:f ρ ω=v9 (.ex x,ω1)):oB f g ρ ω=v9 (.ex x,ω1):=by unfold oB;rw[e]
theorem yD (e:fo ρ ω=v9 (.ex x,ω1)):aZ c m φ fo fl ρ ω=v9 (.ex x,ω1):=Gn e
theorem vJ (e:f ρ ω=v9 (.ex x,ω1)):aC f fl ρ ω=v9 (.ex x,ω1):=Gn e
theorem DD (e1:f ρ ω=v9 (.ok a,ω1)) (e2:fl ρ ω1=v9 (.ex x,ω2)):aC f fl ρ ω=v9 (.ex x,ω2):=by
 unfold aC;rw[bB e1,Gn e2]
theorem MM (e:fl ρ ω=v9 (.ex x,ω1)):oL g fl ρ ω=v9 (.ex x,ω1):=Gn e
theorem Dy {f:OG α} (e:f ρ ω=v9 (.ex x,ω1)):oX f g ρ ω=v9 (.ex x,ω1):=by unfold oX;rw[e]
noncomputable def Ln:Rz D->OOut
 |.ok d=>.rt d
 |.ex c=>.ex c
theorem iK (e:f ρ ω=v9 (r,ω1)):aS f ρ ω=v9 (Ln r,ω1):=by
 cases r with
 |ok d=>exact bA e
 |ex c=>exact Dy e
theorem xP (e:F ρ ω=v9 (Ln r,ω1)):aH F G ρ ω=v9 (Ln r,ω1):=by
 unfold aH;rw[e];cases r <;> rfl
theorem dW (hl:ds.length=n) (e:G (cD N ds) ω=v9 (Ln r,ω1)):eA n N G ds ω=v9 (r,ω1):=by
 unfold eA;rw[if_pos hl,e];cases r <;> rfl
end
section
variable {B:Om}{c g i j:Nat}{own:Nat->Nat}{S:Nat->Hd}{ω ω':Om}{hs:Nat->Nat}{fp:Nat->List Nat}{hd':Hd}
theorem oF (L:HallS B ω g c hs fp S) (ef:f ρ ω=v9 (.ok (.obj g),ω)):fV 1 "hands" f ρ ω=v9 (.ok (.lst ((bz c).map fun i=>.obj (hs i))),ω):=fP ef L.obj rfl
theorem kQ (L:HallS B ω g c hs fp S) (a:Int):bD [.obj g,.int a] ω=if 0<=a/\a<c then v9 (.ok (.obj (hs a.toNat)),ω) else v9 (.ex 0,ω):=by
 have len:oL fO (aC (fV 1 "hands" (oP (aD 0))) aK) [v9 (.obj g),v9 (.int a)] ω=v9 (.ok (.int c),ω):=eX (aA (oF L (aB rfl)) aE) (by
  show v9 (D.int (((bz c).map fun i=>D.obj (hs i)).length:Nat),ω)=_;rw[ao,iw])
 have ch:qW gLe gLt (oP (dC (.int 0))) (oP (aD 1)) (oL fO (aC (fV 1 "hands" (oP (aD 0))) aK)) [v9 (.obj g),v9 (.int a)] ω=v9 (.ok (decide (0<=a/\a<c)),ω):=by
  unfold qW;rw[bB aV,bB (aB (d:=.int a) rfl)]
  show(match v9 (decide (0<=a)) with
   |none=>wb
   |some true=>oB _ (fun z _ ω=>oR (pu ((gLt (.int a) z).bind toB) ω)) [v9 (.obj g),v9 (.int a)] ω
   |some false=>v9 (Rz.ok false,ω))=_
  by_cases h0:0<=a
  ·rw[decide_eq_true h0];show oB _ (fun z _ ω=>oR (pu ((gLt (.int a) z).bind toB) ω)) [v9 (.obj g),v9 (.int a)] ω=_;rw[bB len];show v9 (Rz.ok (decide (a<(c:Int))),ω)=_;simp[h0]
  ·rw[decide_eq_false h0];simp[h0]
 have nt:iH (qW gLe gLt (oP (dC (.int 0))) (oP (aD 1)) (oL fO (aC (fV 1 "hands" (oP (aD 0))) aK))) [v9 (.obj g),v9 (.int a)] ω=v9 (.ok (!decide (0<=a/\a<c)),ω):=by
  unfold iH;rw[bB ch]
 by_cases h:0<=a/\a<c
 ·rw[if_pos h];rw[decide_eq_true h] at nt;refine aT rfl ?_;unfold jZ;rw[bG (ρ1:=[v9 (.obj g),v9 (.int a)]) (ω1:=ω) (by
   show dU _ _ _ [v9 (.obj g),v9 (.int a)] ω=_;rw[nM nt];rfl)]
  refine bA (aU (oF L (aB rfl)) (aB (d:=.int a) rfl) ?_);show atI ((bz c).map fun i=>D.obj (hs i)) a=_;unfold atI ixN;rw[if_pos h.1,if_pos (by rw[ao,iw];exact h.2)]
  show((bz c).map fun i=>D.obj (hs i))[a.toNat]?=_
  rw[az,gx (by omega)];rfl
 ·rw[if_neg h];rw[decide_eq_false h] at nt;refine dW (r:=.ex 0) rfl ?_;unfold jZ;refine xP (r:=.ex 0) ?_;show dU _ _ _ [v9 (.obj g),v9 (.int a)] ω=_;rw[uZ nt];rfl
theorem MX (h1:ρ[k]?=v9 (v9 (.int a))) (h2:ρ[l]?=v9 (v9 (.int b))):cS (o2 (kW 8) (oP (aD k)) (oP (aD l))) ρ ω=v9 (.ok (decide (a=b)),ω):=bZ (gB (aB h1) (aB h2) rfl)
theorem oG (L:HallS B ω g c hs fp S) (a b:Int):bM [.obj g,.int a,.int b] ω=if(0<=a/\a<c)/\(0<=b/\b<c) then(if a=b then v9 (.ex 1,ω) else v9 (.ok (.tup [.obj (hs a.toNat),.obj (hs b.toNat)]),ω)) else v9 (.ex 0,ω):=by
 have ha:=kQ L a;have hb:=kQ L b;have m1:∀ {r:Rz D}{fa:OG D}{n:Int},bD [.obj g,.int n] ω=v9 (r,ω)->fa [v9 (.obj g),v9 (.int a),v9 (.int b),wb] ω=v9 (.ok (.int n),ω)->aZ 1 "hand" bD (oP (aD 0)) (aC fa aK) [v9 (.obj g),v9 (.int a),v9 (.int b),wb] ω=v9 (r,ω):=fun e q=>bN (aB rfl) L.obj rfl (aA q aE) e
 by_cases h1:0<=a/\a<c
 ·rw[if_pos h1] at ha
  by_cases h2:0<=b/\b<c
  ·rw[if_pos h2] at hb;rw[if_pos ⟨h1,h2⟩];have tup:oL (fun ω ds=>pu (dQ ds) ω) (aC (aZ 1 "hand" bD (oP (aD 0)) (aC (oP (aD 1)) aK)) (aC (aZ 1 "hand" bD (oP (aD 0)) (aC (oP (aD 2)) aK)) aK)) [v9 (.obj g),v9 (.int a),v9 (.int b),wb] ω=v9 (.ok (.tup [.obj (hs a.toNat),.obj (hs b.toNat)]),ω):=eX (aA (m1 ha (aB rfl)) (aA (m1 hb (aB rfl)) aE)) (by
    show pu (dQ _) ω=_;unfold dQ;rw[if_pos (by rw[b7];simp)];rfl)
   by_cases h3:a=b
   ·rw[if_pos h3];refine dW (r:=.ex 1) rfl ?_;unfold fN;refine(aN tup).trans ?_;refine xP (r:=.ex 1) ?_;rw[uZ (ω1:=ω) (by rw[MX (a:=a) (b:=b) rfl rfl,decide_eq_true h3])];rfl
   ·rw[if_neg h3];refine aT rfl ?_;unfold fN;refine(aN tup).trans ?_;rw[bG (ρ1:=[v9 (.obj g),v9 (.int a),v9 (.int b),v9 (.tup [.obj (hs a.toNat),.obj (hs b.toNat)])]) (ω1:=ω) (by
     rw[nM (ω1:=ω) (by rw[MX (a:=a) (b:=b) rfl rfl,decide_eq_false h3])];rfl)]
    exact bA (aB rfl)
  ·rw[if_neg h2] at hb;rw[if_neg (fun z=>h2 z.2)];refine dW (r:=.ex 0) rfl ?_;unfold fN;refine xP (r:=.ex 0) (Dy (MM (DD (m1 ha (aB rfl)) (vJ (m1 hb (aB rfl))))))
 ·rw[if_neg h1] at ha;rw[if_neg (fun z=>h1 z.1)];refine dW (r:=.ex 0) rfl ?_;unfold fN;refine xP (r:=.ex 0) (Dy (MM (vJ (m1 ha (aB rfl)))))
end
end L2.MB.Lw
end
section
namespace L2.MB.Lw
open PySem PySem.Spec PyProof.Rows L2.MB
section
variable {B:Om}{c g i j:Nat}{own:Nat->Nat}{S:Nat->Hd}{ω ω':Om}{hs:Nat->Nat}{fp:Nat->List Nat}{hd hd':Hd}
theorem Hd.In.hash (W:hd.In c own) (c8:c<=8) (ht:tot c own<64):eP (hd.kept.map (·.1))=true:=lU Eb (fun k hk=>by
 obtain⟨kv,h1,rfl⟩:=av.mp hk;obtain⟨a,b,h2,h3,h4,e⟩:=W.kk kv h1
 have:=HW own a c h2
 exact KeyIn.univ (own:=fun _=>63) ⟨a,b,by omega,h3,(by show b<=63;omega),e⟩) W.kn
theorem GM (L:HallS B ω g c hs fp S) (I:HInv c own S) (c0:0<c) (c8:c<=8) (ht:tot c own<64) (hi:i<c) (hj:j<c) (hne:i≠j):∃ ω' fp',bY [.obj (hs i),.obj (hs j)] ω=v9 (.ok (.int (pP S j i)),ω')/\HallS B ω' g c hs fp' (jJ S j i)/\HInv c own (jJ S j i):=by
 have Wi:=(I i hi).1;have Wj:=(I j hj).1;have Oi:=Wi.ok c0 c8 ht;have Oj:=Wj.ok c0 c8 ht;have H0:=Wi.hear0 Wj Oi Oj hi hj;obtain⟨ω',e,D⟩:=OR (L.hand i hi) (L.hand j hj) (fun n hn=>L.apart i hi j hj hne n hn) Oi Oj hi hj (Wj.hash c8 ht) (H0.ok c0 c8 ht);obtain⟨fp',L'⟩:=L.did hi D;exact⟨ω',fp',e,L',I.upd H0.forget (AS Wi Wj hi hj (I i hi).2)⟩
theorem Qm (L:HallS B ω g c hs fp S) (I:HInv c own S) (c0:0<c) (c8:c<=8) (ht:tot c own<63) (hi:i<c) (x:Str) (v:Int):∃ ω' fp',dX [.obj (hs i),.str x,.int v] ω=v9 (.ok (mkD i ((S i).next i)),ω')/\HallS B ω' g c hs fp' (iE S i ((S i).put i x v))/\HInv c (cK own i) (iE S i ((S i).put i x v)):=by
 have W:=(I i hi).1;have O:=W.ok c0 c8 (by omega);obtain⟨ω',e,D⟩:=PH (L.hand i hi) O hi x v;obtain⟨fp',L'⟩:=L.did hi D;exact⟨ω',fp',e,L',I.updB (W.put hi (I i hi).2 x v) (jH W hi (I i hi).2)⟩
theorem uP (hi:i<c) (ht:tot c own<63):tot c (cK own i)<64:=by
 rw[fW,if_pos hi];omega
theorem KB (L:HallS B ω g c hs fp S) (I:HInv c own S) (c0:0<c) (c8:c<=8) (ht:tot c own<63) (hi:i<c) (x:Str) (v:Int):∃ ω' fp',dO [.obj (hs i),.str x,.int v] ω=v9 (.ok (mkD i ((S i).next i)),ω')/\HallS B ω' g c hs fp' (iE S i ((S i).change i x v))/\HInv c (cK own i) (iE S i ((S i).change i x v)):=by
 have W:=(I i hi).1;have O:=W.ok c0 c8 (by omega);have P:=W.put hi (I i hi).2 x v;have T:=P.takeOut0 (mk:=fI i ((S i).next i)) (ks:=(S i).marksK x) (kO hi (I i hi).2) (O.marksLen x) fun q hq=>(W.marks O x q hq).mono (gX own i);obtain⟨ω',e,D⟩:=KA (L.hand i hi) O hi x v (T.ok c0 c8 (uP hi ht));obtain⟨fp',L'⟩:=L.did hi D;exact⟨ω',fp',e,L',I.updB T.forget (jH W hi (I i hi).2)⟩
theorem NO (L:HallS B ω g c hs fp S) (I:HInv c own S) (c0:0<c) (c8:c<=8) (ht:tot c own<63) (hi:i<c) (x:Str):∃ ω' fp' own',fD [.obj (hs i),.str x] ω=v9 (.ok ((S i).takeA x),ω')/\HallS B ω' g c hs fp' (iE S i ((S i).take i x))/\HInv c own' (iE S i ((S i).take i x))/\tot c own'<=tot c own+1:=by
 have W:=(I i hi).1;have O:=W.ok c0 c8 (by omega);have P:=W.bump hi (I i hi).2;have T:=P.takeOut0 (mk:=fI i ((S i).next i)) (ks:=(S i).marksK x) (kO hi (I i hi).2) (O.marksLen x) fun q hq=>(W.marks O x q hq).mono (gX own i);obtain⟨ω',e,D⟩:=NN (L.hand i hi) O hi x (T.ok c0 c8 (uP hi ht));obtain⟨fp',L'⟩:=L.did hi D
 by_cases hm:(S i).marksK x=[]
 ·refine⟨ω',fp',own,e,L',?_,by omega⟩
  have:(S i).take i x=S i:=by unfold Hd.take;rw[if_pos hm]
  rw[this];exact I.upd W (I i hi).2
 ·refine⟨ω',fp',cK own i,e,L',?_,by rw[fW,if_pos hi];omega⟩
  have:(S i).take i x=((S i).bump i).takeOut (fI i ((S i).next i)) ((S i).marksK x):=by unfold Hd.take;rw[if_neg hm]
  rw[this];exact I.updB T.forget (jH W hi (I i hi).2)
theorem AM (h:ρ[2]?=v9 (v9 (.str y))):cS (o2 (kW 8) (oP (aD 2)) (oP (dC (.str y)))) ρ ω=v9 (.ok true,ω):=bZ (gB (aB h) aV (by
 show pu ((eqD 8 (.str y) (.str y)).map D.bl) ω=_;rw[gD,decide_eq_true rfl];rfl))
theorem jN (h:ρ[2]?=v9 (v9 (.str x))) (hne:x≠y):cS (o2 (kW 8) (oP (aD 2)) (oP (dC (.str y)))) ρ ω=v9 (.ok false,ω):=bZ (gB (aB h) aV (by
 show pu ((eqD 8 (.str x) (.str y)).map D.bl) ω=_;rw[gD,decide_eq_false hne];rfl))
theorem skip (e:t ρ ω=v9 (.ok false,ω)):aH (dU t F bF) G ρ ω=G ρ ω:=bG (by rw[nM e];rfl)
theorem Kb (e:t ρ ω=v9 (.ok true,ω)) (e2:f ρ ω=v9 (r,ω')):aH (dU t (aS f) bF) G ρ ω=v9 (Ln r,ω'):=xP (by rw[uZ e];exact iK e2)
variable {fs:List (Str×D)}{r:Rz D}{a b v:Int}{x:Str}
theorem Be (ho:ω[g]?=v9 (.ins 1 fs)) (hf:fs.lookup ("put":Str)=wb) (e:gF [.obj g,.int a,.str x,.int v] ω=v9 (r,ω')):jM [.obj g,(Deed.put a x v).d] ω=v9 (r,ω'):=by
 refine dW rfl ?_;unfold rN;rw[aN (d:=.str "put") (aU (aB (d:=(Deed.put a x v).d) rfl) aV rfl)];exact Kb (AM rfl) (bN (aB (d:=.obj g) rfl) ho hf (aA (aU (aB (d:=(Deed.put a x v).d) rfl) aV rfl) (aA (aU (aB (d:=(Deed.put a x v).d) rfl) aV rfl) (aA (aU (aB (d:=(Deed.put a x v).d) rfl) aV rfl) aE))) e)
theorem oO (ho:ω[g]?=v9 (.ins 1 fs)) (hf:fs.lookup ("change":Str)=wb) (e:dP [.obj g,.int a,.str x,.int v] ω=v9 (r,ω')):jM [.obj g,(Deed.change a x v).d] ω=v9 (r,ω'):=by
 refine dW rfl ?_;unfold rN;rw[aN (d:=.str "change") (aU (aB (d:=(Deed.change a x v).d) rfl) aV rfl)];rw[skip (jN (x:="change") rfl (by decide))];exact Kb (AM rfl) (bN (aB (d:=.obj g) rfl) ho hf (aA (aU (aB (d:=(Deed.change a x v).d) rfl) aV rfl) (aA (aU (aB (d:=(Deed.change a x v).d) rfl) aV rfl) (aA (aU (aB (d:=(Deed.change a x v).d) rfl) aV rfl) aE))) e)
theorem wK (ho:ω[g]?=v9 (.ins 1 fs)) (hf:fs.lookup ("take":Str)=wb) (e:fF [.obj g,.int a,.str x] ω=v9 (r,ω')):jM [.obj g,(Deed.take a x).d] ω=v9 (r,ω'):=by
 refine dW rfl ?_;unfold rN;rw[aN (d:=.str "take") (aU (aB (d:=(Deed.take a x).d) rfl) aV rfl)];rw[skip (jN (x:="take") rfl (by decide)),skip (jN (x:="take") rfl (by decide))];exact Kb (AM rfl) (bN (aB (d:=.obj g) rfl) ho hf (aA (aU (aB (d:=(Deed.take a x).d) rfl) aV rfl) (aA (aU (aB (d:=(Deed.take a x).d) rfl) aV rfl) aE)) e)
theorem oM (ho:ω[g]?=v9 (.ins 1 fs)) (hf:fs.lookup ("tell":Str)=wb) (e:fE [.obj g,.int a,.int b] ω=v9 (r,ω')):jM [.obj g,(Deed.tell a b).d] ω=v9 (r,ω'):=by
 refine dW rfl ?_;unfold rN;rw[aN (d:=.str "tell") (aU (aB (d:=(Deed.tell a b).d) rfl) aV rfl)];rw[skip (jN (x:="tell") rfl (by decide)),skip (jN (x:="tell") rfl (by decide)),skip (jN (x:="tell") rfl (by decide))];exact Kb (AM rfl) (bN (aB (d:=.obj g) rfl) ho hf (aA (aU (aB (d:=(Deed.tell a b).d) rfl) aV rfl) (aA (aU (aB (d:=(Deed.tell a b).d) rfl) aV rfl) aE)) e)
theorem oN (ho:ω[g]?=v9 (.ins 1 fs)) (hf:fs.lookup ("meet":Str)=wb) (e:fG [.obj g,.int a,.int b] ω=v9 (r,ω')):jM [.obj g,(Deed.meet a b).d] ω=v9 (r,ω'):=by
 refine dW rfl ?_;unfold rN;rw[aN (d:=.str "meet") (aU (aB (d:=(Deed.meet a b).d) rfl) aV rfl)];rw[skip (jN (x:="meet") rfl (by decide)),skip (jN (x:="meet") rfl (by decide)),skip (jN (x:="meet") rfl (by decide)),skip (jN (x:="meet") rfl (by decide))];exact iK (bN (aB (d:=.obj g) rfl) ho hf (aA (aU (aB (d:=(Deed.meet a b).d) rfl) aV rfl) (aA (aU (aB (d:=(Deed.meet a b).d) rfl) aV rfl) aE)) e)
theorem HallS.handObj (L:HallS B ω g c hs fp S) (hi:i<c):∃ fs,ω[hs i]?=v9 (.ins 0 fs)/\fs.lookup ("put":Str)=wb/\fs.lookup ("change":Str)=wb/\fs.lookup ("take":Str)=wb/\fs.lookup ("hear":Str)=wb:=by
 obtain⟨k,t,e,h⟩:=(L.hand i hi).obj;exact⟨_,h,rfl,rfl,rfl,rfl⟩
theorem Ke (L:HallS B ω g c hs fp S) (ef:f ρ ω=v9 (.ok (.obj g),ω)) (ea:fa ρ ω=v9 (.ok (.int a),ω)) (h:0<=a/\a<c):aZ 1 "hand" bD f (aC fa aK) ρ ω=v9 (.ok (.obj (hs a.toNat)),ω):=bN ef L.obj rfl (aA ea aE) (by rw[kQ L a,if_pos h])
theorem Kd (L:HallS B ω g c hs fp S) (ef:f ρ ω=v9 (.ok (.obj g),ω)) (ea:fa ρ ω=v9 (.ok (.int a),ω)) (h:¬(0<=a/\a<c)):aZ 1 "hand" bD f (aC fa aK) ρ ω=v9 (.ex 0,ω):=bN ef L.obj rfl (aA ea aE) (by rw[kQ L a,if_neg h])
theorem GN (L:HallS B ω g c hs fp S) (h:0<=a/\a<c) (e:dX [.obj (hs a.toNat),.str x,.int v] ω=v9 (r,ω')):gF [.obj g,.int a,.str x,.int v] ω=v9 (r,ω'):=by
 obtain⟨fs,ho,h1,_⟩:=L.handObj (i:=a.toNat) (by omega);exact dW rfl (iK (bN (Ke L (aB rfl) (aB rfl) h) ho h1 (aA (aB rfl) (aA (aB rfl) aE)) e))
theorem Eg (L:HallS B ω g c hs fp S) (h:¬(0<=a/\a<c)):gF [.obj g,.int a,.str x,.int v] ω=v9 (.ex 0,ω):=dW (r:=.ex 0) rfl (iK (yD (Kd (a:=a) L (aB rfl) (aB rfl) h)))
theorem yL (L:HallS B ω g c hs fp S) (h:0<=a/\a<c) (e:dO [.obj (hs a.toNat),.str x,.int v] ω=v9 (r,ω')):dP [.obj g,.int a,.str x,.int v] ω=v9 (r,ω'):=by
 obtain⟨fs,ho,_,h1,_⟩:=L.handObj (i:=a.toNat) (by omega);exact dW rfl (iK (bN (Ke L (aB rfl) (aB rfl) h) ho h1 (aA (aB rfl) (aA (aB rfl) aE)) e))
theorem vX (L:HallS B ω g c hs fp S) (h:¬(0<=a/\a<c)):dP [.obj g,.int a,.str x,.int v] ω=v9 (.ex 0,ω):=dW (r:=.ex 0) rfl (iK (yD (Kd (a:=a) L (aB rfl) (aB rfl) h)))
theorem Ef (L:HallS B ω g c hs fp S) (h:0<=a/\a<c) (e:fD [.obj (hs a.toNat),.str x] ω=v9 (r,ω')):fF [.obj g,.int a,.str x] ω=v9 (r,ω'):=by
 obtain⟨fs,ho,_,_,h1,_⟩:=L.handObj (i:=a.toNat) (by omega);exact dW rfl (iK (bN (Ke L (aB rfl) (aB rfl) h) ho h1 (aA (aB rfl) aE) e))
theorem BW (L:HallS B ω g c hs fp S) (h:¬(0<=a/\a<c)):fF [.obj g,.int a,.str x] ω=v9 (.ex 0,ω):=dW (r:=.ex 0) rfl (iK (yD (Kd (a:=a) L (aB rfl) (aB rfl) h)))
theorem Ga {p:Option (Rz D×Om)} (L:HallS B ω g c hs fp S) (ef:f ρ ω=v9 (.ok (.obj g),ω)) (ea:fa ρ ω=v9 (.ok (.int a),ω)) (eb:fb ρ ω=v9 (.ok (.int b),ω)) (e:bM [.obj g,.int a,.int b] ω=v9 (r,ω)):aZ 1 "pair" bM f (aC fa (aC fb aK)) ρ ω=v9 (r,ω):=bN ef L.obj rfl (aA ea (aA eb aE)) e
theorem HU (L:HallS B ω g c hs fp S) (h:(0<=a/\a<c)/\(0<=b/\b<c)) (hne:a≠b):bM [.obj g,.int a,.int b] ω=v9 (.ok (.tup [.obj (hs a.toNat),.obj (hs b.toNat)]),ω):=by rw[oG L,if_pos h,if_neg hne]
theorem HV (L:HallS B ω g c hs fp S) (h:(0<=a/\a<c)/\(0<=b/\b<c)) (hne:a=b):bM [.obj g,.int a,.int b] ω=v9 (.ex 1,ω):=by rw[oG L,if_pos h,if_pos hne]
theorem HS (L:HallS B ω g c hs fp S) (h:¬((0<=a/\a<c)/\(0<=b/\b<c))):bM [.obj g,.int a,.int b] ω=v9 (.ex 0,ω):=by rw[oG L,if_neg h]
theorem rJ (L:HallS B ω g c hs fp S) (e:bM [.obj g,.int a,.int b] ω=v9 (.ex n,ω)):fE [.obj g,.int a,.int b] ω=v9 (.ex n,ω):=by
 refine dW (r:=.ex n) rfl ?_;unfold jX;exact xP (r:=.ex n) (Dy (Ga (p:=wb) L (aB rfl) (aB rfl) (aB rfl) e))
theorem rK (L:HallS B ω g c hs fp S) (e:bM [.obj g,.int a,.int b] ω=v9 (.ex n,ω)):fG [.obj g,.int a,.int b] ω=v9 (.ex n,ω):=by
 refine dW (r:=.ex n) rfl ?_;unfold jY;exact xP (r:=.ex n) (Dy (Ga (p:=wb) L (aB rfl) (aB rfl) (aB rfl) e))
theorem Ee (L:HallS B ω g c hs fp S) (h:(0<=a/\a<c)/\(0<=b/\b<c)) (hne:a≠b) (e:bY [.obj (hs b.toNat),.obj (hs a.toNat)] ω=v9 (r,ω')):fE [.obj g,.int a,.int b] ω=v9 (r,ω'):=by
 obtain⟨fs,ho,_,_,_,h1⟩:=L.handObj (i:=b.toNat) (by omega);refine dW rfl ?_;unfold jX;rw[aN (Ga (p:=wb) L (aB rfl) (aB rfl) (aB rfl) (HU L h hne))];exact iK (bN (aU (aB (d:=.tup [.obj (hs a.toNat),.obj (hs b.toNat)]) rfl) aV rfl) ho h1 (aA (aU (aB (d:=.tup [.obj (hs a.toNat),.obj (hs b.toNat)]) rfl) aV rfl) aE) e)
theorem Eh (L:HallS B ω g c hs fp S) (I:HInv c own S) (c0:0<c) (c8:c<=8) (ht:tot c own<64) (h:(0<=a/\a<c)/\(0<=b/\b<c)) (hne:a≠b):∃ ω' fp',fG [.obj g,.int a,.int b] ω=v9 (.ok (.tup [.int (pP (jJ S a.toNat b.toNat) b.toNat a.toNat),.int (pP S a.toNat b.toNat)]),ω')/\HallS B ω' g c hs fp' (sR S a.toNat b.toNat)/\HInv c own (sR S a.toNat b.toNat):=by
 have ha:a.toNat<c:=by omega
 have hb:b.toNat<c:=by omega
 have hn:a.toNat≠b.toNat:=by omega
 obtain⟨ω1,fp1,e1,L1,I1⟩:=GM L I c0 c8 ht hb ha (c5 hn);obtain⟨ω2,fp2,e2,L2,I2⟩:=GM L1 I1 c0 c8 ht ha hb hn;obtain⟨ω3,fp3,e3,L3,I3⟩:=GM L2 I2 c0 c8 ht hb ha (c5 hn);refine⟨ω3,fp3,?_,L3,I3⟩;obtain⟨fs0,ho0,_,_,_,h0⟩:=L.handObj hb;obtain⟨fs1,ho1,_,_,_,h1⟩:=L1.handObj ha;obtain⟨fs2,ho2,_,_,_,h2⟩:=L2.handObj hb;refine aT rfl ?_;unfold jY;rw[aN (Ga (p:=wb) L (aB rfl) (aB rfl) (aB rfl) (HU L h hne))];rw[aN (bN (aU (aB (d:=.tup [.obj (hs a.toNat),.obj (hs b.toNat)]) rfl) aV rfl) ho0 h0 (aA (aU (aB (d:=.tup [.obj (hs a.toNat),.obj (hs b.toNat)]) rfl) aV rfl) aE) e1)];rw[aN (d:=.tup [.int (pP (jJ S a.toNat b.toNat) b.toNat a.toNat),.int (pP S a.toNat b.toNat)]) (ω1:=ω2) (eX (aA (bN (aU (aB (d:=.tup [.obj (hs a.toNat),.obj (hs b.toNat)]) rfl) aV rfl) ho1 h1 (aA (aU (aB (d:=.tup [.obj (hs a.toNat),.obj (hs b.toNat)]) rfl) aV rfl) aE) e2) (aA (aB (d:=.int (pP S a.toNat b.toNat)) rfl) aE)) (by
  show pu (dQ _) ω2=_;unfold dQ;rw[if_pos (by rw[b7];simp)];rfl))]
 rw[bG (ω1:=ω3) (by
  unfold dL;rw[cV (bN (aU (aB (d:=.tup [.obj (hs a.toNat),.obj (hs b.toNat)]) rfl) aV rfl) ho2 h2 (aA (aU (aB (d:=.tup [.obj (hs a.toNat),.obj (hs b.toNat)]) rfl) aV rfl) aE) e3)])]
 exact bA (aB rfl)
theorem uM (e:jM [.obj g,d] ω=v9 (.ok y,ω')):bS [.obj g,d] ω=v9 (.ok y,ω'):=aT rfl (by
 unfold gP uY;rw[bA (aQ (aA (aB rfl) (aA (aB rfl) aE)) e)])
theorem CJ (e:jM [.obj g,d] ω=v9 (.ex 0,ω')):bS [.obj g,d] ω=v9 (.ok (.str "no hand"),ω'):=aT rfl (by
 unfold gP uY;rw[iK (r:=.ex 0) (aQ (aA (aB rfl) (aA (aB rfl) aE)) e)];rfl)
theorem KZ (e:jM [.obj g,d] ω=v9 (.ex 1,ω')):bS [.obj g,d] ω=v9 (.ok (.str "same hand"),ω'):=aT rfl (by
 unfold gP uY;rw[iK (r:=.ex 1) (aQ (aA (aB rfl) (aA (aB rfl) aE)) e)];rfl)
theorem wY (L:HallS B ω g c hs fp S) (I:HInv c own S) (c0:0<c) (c8:c<=8) (ht:tot c own<63) (d:Deed):∃ ω' fp' own',bS [.obj g,d.d] ω=v9 (.ok (step c S d).1,ω')/\HallS B ω' g c hs fp' (step c S d).2/\HInv c own' (step c S d).2/\tot c own'<=tot c own+1:=by
 cases d with
 |put a x v=>
  show ∃ ω' fp' own',_=v9 (Rz.ok (if 0<=a/\a<(c:Int) then(_,_) else(_,_):D×(Nat->Hd)).1,ω')/\HallS B ω' g c hs fp' (if 0<=a/\a<(c:Int) then(_,_) else(_,_):D×(Nat->Hd)).2/\HInv c own' (if 0<=a/\a<(c:Int) then(_,_) else(_,_):D×(Nat->Hd)).2/\_
  by_cases h:0<=a/\a<c
  ·rw[if_pos h];obtain⟨ω',fp',e,L',I'⟩:=Qm L I c0 c8 ht (i:=a.toNat) (by omega) x v;exact⟨ω',fp',_,uM (Be L.obj rfl (GN L h e)),L',I',by rw[fW,if_pos (by omega)];omega⟩
  ·rw[if_neg h];exact⟨ω,fp,own,CJ (Be L.obj rfl (Eg L h)),L,I,by omega⟩
 |change a x v=>
  show ∃ ω' fp' own',_=v9 (Rz.ok (if 0<=a/\a<(c:Int) then(_,_) else(_,_):D×(Nat->Hd)).1,ω')/\HallS B ω' g c hs fp' (if 0<=a/\a<(c:Int) then(_,_) else(_,_):D×(Nat->Hd)).2/\HInv c own' (if 0<=a/\a<(c:Int) then(_,_) else(_,_):D×(Nat->Hd)).2/\_
  by_cases h:0<=a/\a<c
  ·rw[if_pos h];obtain⟨ω',fp',e,L',I'⟩:=KB L I c0 c8 ht (i:=a.toNat) (by omega) x v;exact⟨ω',fp',_,uM (oO L.obj rfl (yL L h e)),L',I',by rw[fW,if_pos (by omega)];omega⟩
  ·rw[if_neg h];exact⟨ω,fp,own,CJ (oO L.obj rfl (vX L h)),L,I,by omega⟩
 |take a x=>
  show ∃ ω' fp' own',_=v9 (Rz.ok (if 0<=a/\a<(c:Int) then(_,_) else(_,_):D×(Nat->Hd)).1,ω')/\HallS B ω' g c hs fp' (if 0<=a/\a<(c:Int) then(_,_) else(_,_):D×(Nat->Hd)).2/\HInv c own' (if 0<=a/\a<(c:Int) then(_,_) else(_,_):D×(Nat->Hd)).2/\_
  by_cases h:0<=a/\a<c
  ·rw[if_pos h];obtain⟨ω',fp',own',e,L',I',t'⟩:=NO L I c0 c8 ht (i:=a.toNat) (by omega) x;exact⟨ω',fp',own',uM (wK L.obj rfl (Ef L h e)),L',I',t'⟩
  ·rw[if_neg h];exact⟨ω,fp,own,CJ (wK L.obj rfl (BW L h)),L,I,by omega⟩
 |tell a b=>
  show ∃ ω' fp' own',_=v9 (Rz.ok (if(0<=a/\a<(c:Int))/\(0<=b/\b<(c:Int)) then(if a=b then(_,_) else(_,_)) else(_,_):D×(Nat->Hd)).1,ω')/\HallS B ω' g c hs fp' (if(0<=a/\a<(c:Int))/\(0<=b/\b<(c:Int)) then(if a=b then(_,_) else(_,_)) else(_,_):D×(Nat->Hd)).2/\HInv c own' (if(0<=a/\a<(c:Int))/\(0<=b/\b<(c:Int)) then(if a=b then(_,_) else(_,_)) else(_,_):D×(Nat->Hd)).2/\_
  by_cases h:(0<=a/\a<(c:Int))/\(0<=b/\b<(c:Int))
  ·rw[if_pos h]
   by_cases hab:a=b
   ·rw[if_pos hab];exact⟨ω,fp,own,KZ (oM L.obj rfl (rJ L (HV L h hab))),L,I,by omega⟩
   ·rw[if_neg hab];obtain⟨ω',fp',e,L',I'⟩:=GM L I c0 c8 (by omega) (i:=b.toNat) (j:=a.toNat) (by omega) (by omega) (by omega);exact⟨ω',fp',own,uM (oM L.obj rfl (Ee L h hab e)),L',I',by omega⟩
  ·rw[if_neg h];exact⟨ω,fp,own,CJ (oM L.obj rfl (rJ L (HS L h))),L,I,by omega⟩
 |meet a b=>
  show ∃ ω' fp' own',_=v9 (Rz.ok (if(0<=a/\a<(c:Int))/\(0<=b/\b<(c:Int)) then(if a=b then(_,_) else(_,_)) else(_,_):D×(Nat->Hd)).1,ω')/\HallS B ω' g c hs fp' (if(0<=a/\a<(c:Int))/\(0<=b/\b<(c:Int)) then(if a=b then(_,_) else(_,_)) else(_,_):D×(Nat->Hd)).2/\HInv c own' (if(0<=a/\a<(c:Int))/\(0<=b/\b<(c:Int)) then(if a=b then(_,_) else(_,_)) else(_,_):D×(Nat->Hd)).2/\_
  by_cases h:(0<=a/\a<(c:Int))/\(0<=b/\b<(c:Int))
  ·rw[if_pos h]
   by_cases hab:a=b
   ·rw[if_pos hab];exact⟨ω,fp,own,KZ (oN L.obj rfl (rK L (HV L h hab))),L,I,by omega⟩
   ·rw[if_neg hab];obtain⟨ω',fp',e,L',I'⟩:=Eh L I c0 c8 (by omega) h hab;exact⟨ω',fp',own,uM (oN L.obj rfl e),L',I',by omega⟩
  ·rw[if_neg h];exact⟨ω,fp,own,CJ (oN L.obj rfl (rK L (HS L h))),L,I,by omega⟩
end
noncomputable def Pl:Nat->D->Prop
 |_,.non=>True
 |_,.bl _=>True
 |_,.int _=>True
 |_,.str _=>True
 |n+1,.lst ds=>ds.length<=1000/\∀ d∈ds,Pl n d
 |n+1,.tup ds=>ds.length<=1000/\∀ d∈ds,Pl n d
 |_,_=>False
theorem Pl.int (n:Nat) (i:Int):Pl n (.int i):=by cases n <;> trivial
theorem Pl.str (n:Nat) (x:Str):Pl n (.str x):=by cases n <;> trivial
theorem Pl.non (n:Nat):Pl n .non:=by cases n <;> trivial
theorem Pl.tup2 (h1:Pl n a) (h2:Pl n b):Pl (n+1) (.tup [a,b]):=⟨by simp,fun d hd=>by
 simp only[aj,cr,or_false] at hd;rcases hd with rfl|rfl
 ·exact h1
 ·exact h2⟩
theorem Pl.mkD (n i:Nat) (b:Int):Pl (n+1) (mkD i b):=Pl.tup2 (Pl.int _ _) (Pl.int _ _)
theorem Pl.key (h:KeyIn c own k) (n:Nat):Pl (n+1) (bP k):=by
 obtain⟨a,b,_,_,_,rfl⟩:=h;exact Pl.tup2 (Pl.int _ _) (Pl.int _ _)
theorem Pl.keys {ks:List (List Key)} (hl:ks.length<64) (h:∀ q∈ks,KeyIn c own q):Pl (n+2) (.lst (ks.map bP)):=⟨by rw[ao];omega,fun d hd=>by
 obtain⟨q,hq,rfl⟩:=av.mp hd;exact Pl.key (h q hq) n⟩
theorem Iz (I:HInv c own S) (c0:0<c) (c8:c<=8) (ht:tot c own<64) (d:Deed):Pl 2 (step c S d).1:=by
 cases d with
 |put a x v=>
  show Pl 2 (if 0<=a/\a<(c:Int) then(_,_) else(_,_):D×(Nat->Hd)).1;split
  ·exact Pl.mkD 1 _ _
  ·exact Pl.str _ _
 |change a x v=>
  show Pl 2 (if 0<=a/\a<(c:Int) then(_,_) else(_,_):D×(Nat->Hd)).1;split
  ·exact Pl.mkD 1 _ _
  ·exact Pl.str _ _
 |take a x=>
  show Pl 2 (if 0<=a/\a<(c:Int) then(_,_) else(_,_):D×(Nat->Hd)).1;split
  ·rename_i h
   show Pl 2 ((S a.toNat).takeA x);unfold Hd.takeA;split
   ·exact Pl.non _
   ·have W:=(I a.toNat (by omega)).1;have O:=W.ok c0 c8 ht;exact Pl.keys (O.marksLen x) (W.marks O x)
  ·exact Pl.str _ _
 |tell a b=>
  show Pl 2 (if(0<=a/\a<(c:Int))/\(0<=b/\b<(c:Int)) then(if a=b then(_,_) else(_,_)) else(_,_):D×(Nat->Hd)).1;split
  ·split
   ·exact Pl.str _ _
   ·exact Pl.int _ _
  ·exact Pl.str _ _
 |meet a b=>
  show Pl 2 (if(0<=a/\a<(c:Int))/\(0<=b/\b<(c:Int)) then(if a=b then(_,_) else(_,_)) else(_,_):D×(Nat->Hd)).1;split
  ·split
   ·exact Pl.str _ _
   ·exact Pl.tup2 (Pl.int _ _) (Pl.int _ _)
  ·exact Pl.str _ _
noncomputable def fT (c:Nat):List Deed->(Nat->Hd)->List D×(Nat->Hd)
 |[],S=>([],S)
 |d::r,S=>((step c S d).1::(fT c r (step c S d).2).1,(fT c r (step c S d).2).2)
noncomputable def eQ (c:Nat) (ds:List Deed):List D:=(fT c ds fun _=>Hd0 c).1
noncomputable def cF (c:Nat) (ds:List Deed):Nat->Hd:=(fT c ds fun _=>Hd0 c).2
theorem sK (c:Nat):∀(ds:List Deed) (S:Nat->Hd),(fT c ds S).1.length=ds.length
 |[],_=>rfl
 |d::r,S=>by
  show((step c S d).1::(fT c r (step c S d).2).1).length=_
  rw[bw,bw,sK c r]
section
variable {B:Om}{c g i j:Nat}{own:Nat->Nat}{S:Nat->Hd}{ω ω':Om}{hs:Nat->Nat}{fp:Nat->List Nat}
theorem KL (c:Nat):HInv c (fun _=>0) (fun _=>Hd0 c):=fun a ha=>by
 have hz:∀ n m:Nat,(aw n (0:Int)).getD m 0=0:=fun n m=>by
  rw[au,ga];split <;> rfl
 refine⟨⟨by simp[Hd0],fun xs hx=> ?_,fun xs hx b hb=> ?_,fun kv h=>by simp[Hd0] at h,by simp[Hd0],fun kv h=>by simp[Hd0] at h,fun kv h=>by simp[Hd0] at h,by simp[Hd0]⟩,?_⟩
 ·rw[(uo.mp hx).2,ji]
 ·rw[(uo.mp hx).2,hz];exact⟨ju _,ju _⟩
 ·show((aw c (aw c (0:Int))).getD a []).getD a 0=0
  have e1:(aw c (aw c (0:Int))).getD a []=aw c 0:=by
   rw[au,ga,if_pos ha];rfl
  rw[e1];exact hz c a
theorem La:∀ c,tot c (fun _=>0)=0
 |0=>rfl
 |c+1=>by
  have ih:=La c;unfold tot at ih ⊢;rw[ln,ck,n8,ih];rfl
theorem lZ (c0:0<c) (c8:c<=8):∀(ds:List Deed) {u:Option D}{S:Nat->Hd}{ω:Om}{fp:Nat->List Nat}{own:Nat->Nat},HallS B ω g c hs fp S->HInv c own S->tot c own+ds.length<64->∃ ω' fp' own',compLO (aY 0) bT (oPT jI) (bC bS (aC (oP (aD 1)) (aC (oP (aD 0)) aK))) (ds.map Deed.d) [u,v9 (.obj g)] ω=v9 ((fT c ds S).1,ω')/\HallS B ω' g c hs fp' (fT c ds S).2/\HInv c own' (fT c ds S).2/\tot c own'<64/\∀ x∈(fT c ds S).1,Pl 2 x
 |[],u,S,ω,fp,own,L,I,ht=>⟨ω,fp,own,rfl,L,I,by simpa using ht,fun x hx=>by simp[fT] at hx⟩
 |d::ds,u,S,ω,fp,own,L,I,ht=>by
  rw[bw] at ht;obtain⟨ω1,fp1,own1,e1,L1,I1,t1⟩:=wY L I c0 c8 (by omega) d;obtain⟨ω2,fp2,own2,e2,L2,I2,t2,p2⟩:=lZ c0 c8 ds (u:=v9 d.d) L1 I1 (by omega);refine⟨ω2,fp2,own2,?_,L2,I2,t2,fun x hx=> ?_⟩
  rotate_left
  ·rcases aj.mp (show x∈(step c S d).1::(fT c ds (step c S d).2).1 from hx) with z|z
   ·rw[z];exact Iz I c0 c8 (by omega) d
   ·exact p2 x z
  show(match bC bS (aC (oP (aD 1)) (aC (oP (aD 0)) aK)) [v9 d.d,v9 (.obj g)] ω with
   |some (.ok y,ω2)=>(compLO (aY 0) bT (oPT jI) (bC bS (aC (oP (aD 1)) (aC (oP (aD 0)) aK))) (ds.map Deed.d) [v9 d.d,v9 (.obj g)] ω2).map fun r:List D×Om=>(y::r.1,r.2)
   |_=>wb)=_
  rw[aQ (aA (aB rfl) (aA (aB rfl) aE)) e1]
  show(compLO _ _ _ _ _ _ _).map _=_
  rw[e2];rfl
theorem sB (c0:0<c) (c8:c<=8):∀(ds:List Deed) {u:Option D}{S:Nat->Hd}{ω:Om}{fp:Nat->List Nat}{own:Nat->Nat},HallS B ω g c hs fp S->HInv c own S->tot c own+ds.length<64->∃ v ω' fp' own',cR (aY 3) bT dZ (ds.map Deed.d) [v9 n,v9 l,v9 (.obj g),u] ω=v9 (.nx [v9 n,v9 l,v9 (.obj g),v],ω')/\HallS B ω' g c hs fp' (fT c ds S).2/\HInv c own' (fT c ds S).2/\tot c own'<64
 |[],u,S,ω,fp,own,L,I,ht=>⟨u,ω,fp,own,rfl,L,I,by simpa using ht⟩
 |d::ds,u,S,ω,fp,own,L,I,ht=>by
  rw[bw] at ht;obtain⟨ω1,fp1,own1,e1,L1,I1,t1⟩:=wY L I c0 c8 (by omega) d;obtain⟨v,ω2,fp2,own2,e2,L2,I2,t2⟩:=sB c0 c8 ds (u:=v9 d.d) L1 I1 (by omega);refine⟨v,ω2,fp2,own2,?_,L2,I2,t2⟩;have b1:dZ [v9 n,v9 l,v9 (.obj g),v9 d.d] ω=v9 (.nx [v9 n,v9 l,v9 (.obj g),v9 d.d],ω1):=by
   unfold dZ dL;rw[cV (aQ (aA (aB (d:=.obj g) rfl) (aA (aB (d:=d.d) rfl) aE)) e1)]
  show(match dZ [v9 n,v9 l,v9 (.obj g),v9 d.d] ω with
   |none=>wb
   |some (.nx ρ2,ω2)=>cR (aY 3) bT dZ (ds.map Deed.d) ρ2 ω2
   |some (.ct ρ2,ω2)=>cR (aY 3) bT dZ (ds.map Deed.d) ρ2 ω2
   |some (.bk ρ2,ω2)=>v9 (.nx ρ2,ω2)
   |some (.rt d,ω2)=>v9 (.rt d,ω2)
   |some (.ex _,_)=>wb)=_
  rw[b1];exact e2
theorem rV:∀ {l:List Nat}{u:Option D},(∀ i∈l,F [v9 (.obj (hs i))] ω=v9 (.ok (R i),ω))->compLO (aY 0) bT (oPT jI) F (l.map fun i=>.obj (hs i)) [u] ω=v9 (l.map R,ω)
 |[],u,_=>rfl
 |i::l,u,h=>by
  have ih:=rV (F:=F) (R:=R) (l:=l) (u:=v9 (.obj (hs i))) fun j hj=>h j (ai _ hj)
  show(match F [v9 (.obj (hs i))] ω with
   |some (.ok y,ω2)=>(compLO (aY 0) bT (oPT jI) F (l.map fun i=>.obj (hs i)) [v9 (.obj (hs i))] ω2).map fun r:List D×Om=>(y::r.1,r.2)
   |_=>wb)=_
  rw[h i ar]
  show(compLO _ _ _ _ _ _ _).map _=_
  rw[ih];rfl
theorem lA (L:HallS B ω g c hs fp S) (c8:c<=8) (ef:f ρ ω=v9 (.ok (.obj g),ω)) (h:∀ i,i<c->F [v9 (.obj (hs i))] ω=v9 (.ok (R i),ω)):cG lW (oIL (fV 1 "hands" f)) [wb] (aY 0) (oPT jI) F ρ ω=v9 (.ok (.lst ((bz c).map R)),ω):=by
 refine dY (ds:=(bz c).map fun i=>.obj (hs i)) (chk:=bT) (ω1:=ω) ?_ (by rw[ao,iw,b7];omega) (rV fun i hi=>h i (gq.mp hi));unfold oIL;rw[bB (oF L ef)];rfl
noncomputable def xD (c:Nat) (S:Nat->Hd):D:=.lst ((bz c).map fun i=>.lst (S i).ents)
noncomputable def Pu (c:Nat) (S:Nat->Hd):D:=.lst ((bz c).map fun i=>.lst (iv ((S i).seen i)))
noncomputable def Pw (c:Nat) (S:Nat->Hd):D:=.lst ((bz c).map fun i=>.lst ((S i).knows.map fun xs=>.lst (iv xs)))
noncomputable def Pv (c:Nat) (S:Nat->Hd):D:=.lst ((bz c).map fun i=>.lst (S i).mind)
theorem HE (c0:0<c) (c8:c<=8) (hl:ds.length<64) (ω:Om):∃ ω',xW [.int c,.lst (ds.map Deed.d)] ω=v9 (.ok (.tup [xD c (cF c ds),Pu c (cF c ds),Pw c (cF c ds),Pv c (cF c ds)]),ω')/\Keep [] ω ω'/\∃ own,HInv c own (cF c ds)/\tot c own<64:=by
 obtain⟨ω1,hs,fp,e1,L1⟩:=vW (ω:=ω) c8 (fl:=aC (oP (aD 0)) aK) (ρ:=cD Ft [.int c,.lst (ds.map Deed.d)]) (aA (aB rfl) aE);obtain⟨v,ω2,fp2,own2,e2,L2,I2,t2⟩:=sB c0 c8 (n:=.int c) (l:=.lst (ds.map Deed.d)) ds (u:=wb) L1 (KL c) (by rw[La];omega);refine⟨ω2,?_,⟨L2.bas.1,fun n hn _=>L2.bas.2 n hn⟩,own2,I2,t2⟩;refine aT rfl ?_;unfold Ek;rw[aN e1];rw[bG (iL (by
  unfold cH oIL;rw[cV (x:=(ds.map Deed.d,bT)) (ω1:=ω1) (by rw[bB (aB (d:=.lst (ds.map Deed.d)) rfl)];rfl)];exact e2))]
 have K:∀ i,i<c->(cF c ds i).Ok c:=fun i hi=>(I2 i hi).1.ok c0 c8 t2;have a1:=lA (ρ:=[v9 (.int c),v9 (.lst (ds.map Deed.d)),v9 (.obj ω.length),v]) (F:=aZ 0 "entries" bK (oP (aD 0)) aK) (R:=fun i=>.lst (cF c ds i).ents) (f:=oP (aD 2)) L2 c8 (aB rfl) fun i hi=>by
  obtain⟨k,t,e,rs,H,_⟩:=L2.hand i hi;exact bQ (aB rfl) H.obj rfl (jF H (K i hi).ents.1)
 have a2:=lA (ρ:=[v9 (.int c),v9 (.lst (ds.map Deed.d)),v9 (.obj ω.length),v]) (F:=oL iD (aC (aZ 0 "seen" bL (oP (aD 0)) aK) aK)) (R:=fun i=>.lst (iv ((cF c ds i).seen i))) (f:=oP (aD 2)) L2 c8 (aB rfl) fun i hi=>by
  obtain⟨k,t,e,rs,H,_⟩:=L2.hand i hi;exact FC H (Nat.lt_of_lt_of_eq hi (K i hi).len.symm) (aB rfl)
 have a3:=lA (ρ:=[v9 (.int c),v9 (.lst (ds.map Deed.d)),v9 (.obj ω.length),v]) (F:=aZ 0 "known" fX (oP (aD 0)) aK) (R:=fun i=>.lst ((cF c ds i).knows.map fun xs=>.lst (iv xs))) (f:=oP (aD 2)) L2 c8 (aB rfl) fun i hi=>by
  obtain⟨k,t,e,rs,H,_⟩:=L2.hand i hi;exact bQ (aB rfl) H.obj rfl (GC H (by rw[H.rows.length];have:=(K i hi).len;unfold cF at this;rw[this,b7];omega))
 have a4:=lA (ρ:=[v9 (.int c),v9 (.lst (ds.map Deed.d)),v9 (.obj ω.length),v]) (F:=aZ 0 "in_mind" eB (oP (aD 0)) aK) (R:=fun i=>.lst (cF c ds i).mind) (f:=oP (aD 2)) L2 c8 (aB rfl) fun i hi=>by
  obtain⟨k,t,e,rs,H,_⟩:=L2.hand i hi;exact bQ (aB rfl) H.obj rfl (BV H (K i hi) (I2 i hi).1)
 refine bA (eX (aA a1 (aA a2 (aA a3 (aA a4 aE)))) ?_);show pu (dQ _) ω2=_;unfold dQ;rw[if_pos (by rw[b7];simp)];rfl
end
section
variable {B:Om}{c g i j:Nat}{own:Nat->Nat}{S:Nat->Hd}{ω ω':Om}{hs:Nat->Nat}{fp:Nat->List Nat}
theorem Cm (c0:0<c) (c8:c<=8) {ds:List Deed} (hl:ds.length<64) (ω:Om):∃ ω',nO [.int c,.lst (ds.map Deed.d)] ω=v9 (.ok (.lst (eQ c ds)),ω')/\Keep [] ω ω'/\∀ x∈eQ c ds,Pl 2 x:=by
 obtain⟨ω1,hs,fp,e1,L1⟩:=vW (ω:=ω) c8 (fl:=aC (oP (aD 0)) aK) (ρ:=cD xA [.int c,.lst (ds.map Deed.d)]) (aA (aB rfl) aE);obtain⟨ω2,fp2,own2,e2,L2,I2,t2,p2⟩:=lZ c0 c8 ds (u:=wb) L1 (KL c) (by rw[La];omega);refine⟨ω2,?_,⟨L2.bas.1,fun n hn _=>L2.bas.2 n hn⟩,p2⟩;refine aT rfl ?_;unfold vY;rw[aN e1];refine bA (dY (ds:=ds.map Deed.d) (chk:=bT) (ω1:=ω1) ?_ (by rw[ao,b7];omega) e2);unfold oIL;rw[bB (aB (d:=.lst (ds.map Deed.d)) rfl)];rfl
end
section
variable {c:Nat}{S S':Nat->Hd}{d x y:Deed}{a b n:Nat}
theorem eU (c:Nat):∀(p q:List Deed) (S:Nat->Hd),fT c (p++q) S=((fT c p S).1++(fT c q (fT c p S).2).1,(fT c q (fT c p S).2).2)
 |[],q,S=>rfl
 |d::p,q,S=>by
  show((step c S d).1::(fT c (p++q) (step c S d).2).1,(fT c (p++q) (step c S d).2).2)=_
  rw[eU c p q];rfl
end
theorem pC:∀ {ds:List D},(∀ d∈ds,f d d=v9 true)->jO f ds ds=v9 true
 |[],_=>rfl
 |d::ds,h=>by
  show(f d d).bind _=_
  rw[h d ar]
  show(jO f ds ds).map _=_
  rw[pC fun d' hd=>h d' (ai _ hd)];rfl
theorem mO:∀ {n:Nat}{d:D},Pl n d->eqD n d d=v9 true
 |n,.non,_=>by cases n <;> rfl
 |n,.bl b,_=>by cases n <;> cases b <;> rfl
 |n,.int i,_=>by
  have:eqD n (.int i) (.int i)=v9 (i==i):=by cases n <;> rfl
  rw[this];simp
 |n,.str x,_=>by
  rw[gD];simp
 |n+1,.lst ds,h=>by
  show(if ds.length=ds.length then jO (eqD n) ds ds else v9 false)=_
  rw[if_pos rfl];exact pC fun d hd=>mO (h.2 d hd)
 |n+1,.tup ds,h=>by
  show(jO (eqD n) ds ds).map (fun k=>k&&ds.length==ds.length)=_
  rw[pC fun d hd=>mO (h.2 d hd)];simp
 |0,.lst _,h=>h.elim
 |0,.tup _,h=>h.elim
 |0,.obj _,h=>h.elim
 |n+1,.obj _,h=>h.elim
 |0,.scr _,h=>h.elim
 |n+1,.scr _,h=>h.elim
theorem Pl.mono:∀ {n m:Nat}{d:D},Pl n d->n<=m->Pl m d
 |_,m,.non,_,_=>by cases m <;> trivial
 |_,m,.bl _,_,_=>by cases m <;> trivial
 |_,m,.int _,_,_=>by cases m <;> trivial
 |_,m,.str _,_,_=>by cases m <;> trivial
 |n+1,m+1,.lst ds,h,hm=>⟨h.1,fun d hd=>Pl.mono (h.2 d hd) (by omega)⟩
 |n+1,m+1,.tup ds,h,hm=>⟨h.1,fun d hd=>Pl.mono (h.2 d hd) (by omega)⟩
 |n+1,0,.lst ds,h,hm=>by omega
 |n+1,0,.tup ds,h,hm=>by omega
 |0,_,.lst _,h,_=>h.elim
 |0,_,.tup _,h,_=>h.elim
 |0,_,.obj _,h,_=>h.elim
 |n+1,_,.obj _,h,_=>h.elim
 |0,_,.scr _,h,_=>h.elim
 |n+1,_,.scr _,h,_=>h.elim
section
variable {ω:Om}{ρ:Rho}{f h:OG D}{d:D}
theorem cY (e:f ρ ω=v9 (.ok d,ω)) (h:lS T ω d=v9 k):jL T f ρ ω=v9 (.ok (.bl k),ω):=by
 unfold jL;rw[bB e];show oR (pu ((lS T ω d).map D.bl) ω)=_;rw[h];rfl
theorem tru_ok (e:f ρ ω=v9 (.ok (.bl k),ω)):gH f ρ ω=v9 (.ok k,ω):=by
 unfold gH;rw[bB e];rfl
theorem gG (e:t ρ ω=v9 (.ok k,ω)):iH t ρ ω=v9 (.ok (!k),ω):=by
 unfold iH;rw[bB e]
theorem pS (e1:t ρ ω=v9 (.ok false,ω)) (e2:u ρ ω=v9 (.ok false,ω)):oOr t u ρ ω=v9 (.ok false,ω):=by
 unfold oOr;rw[bB e1];exact e2
theorem Gu (e1:f ρ ω=v9 (.ok (.bl b),ω)) (e2:h ρ ω=v9 (.ok (.bl b),ω)):cS (o2 (uI 8) f h) ρ ω=v9 (.ok false,ω):=bZ (gB e1 e2 (by cases b <;> rfl))
theorem vL (e1:f ρ ω=v9 (.ok (.int a),ω)) (e2:h ρ ω=v9 (.ok (.int b),ω)) (hab:a=b):cS (o2 (uI 8) f h) ρ ω=v9 (.ok false,ω):=bZ (gB e1 e2 (by
 subst hab;show v9 (D.bl (!(a==a)),ω)=_;simp))
theorem zK {ds:List D} (hk:k<ds.length):atI ds (k:Int)=v9 ds[k]:=by
 unfold atI ixN;rw[if_pos (jh k),if_pos (by omega)];show ds[(k:Int).toNat]?=_;rw[fu,bj hk]
theorem Fi {k:Nat} (h:ds[k]?=v9 d):atI ds (k:Int)=v9 d:=by
 obtain⟨hk,e⟩:=bg.mp h;rw[zK hk,e]
theorem fL (e:f ρ ω=v9 (.ok d,ω)) (hd:d=.lst ds∨d=.tup ds):oL fO (aC f aK) ρ ω=v9 (.ok (.int ds.length),ω):=by
 refine eX (aA e aE) ?_;rcases hd with rfl|rfl <;> rfl
theorem Ii {k:Nat} (e:f ρ ω=v9 (.ok d,ω)) (e2:h ρ ω=v9 (.ok (.int k),ω)) (hd:d=.lst ds∨d=.tup ds) (hk:k<ds.length):o2 (fun ω a b=>pu (bH ω a b) ω) f h ρ ω=v9 (.ok ds[k],ω):=by
 refine aU e e2 ?_;rcases hd with rfl|rfl
 ·exact zK hk
 ·exact zK hk
end
theorem IF (h:d∈lF s n):∃ k:Nat,k<n/\d=.int (s+k):=by
 unfold lF at h;obtain⟨k,hk,rfl⟩:=av.mp h;exact⟨k,gq.mp hk,rfl⟩
theorem KE:dB [F,N,R,v9 (.tup [.str x,.tup [.int a,.int b],.int v])] ω=v9 (.nx [F,N,R,v9 (.tup [.str x,.tup [.int a,.int b],.int v])],ω):=by
 rfl
theorem Bm:∀ {ds:List D}{u:Option D},(∀ d∈ds,bV d)->∃ v,cR (aY 3) bT dB ds [F,N,v9 R,u] ω=v9 (.nx [F,N,v9 R,v],ω)
 |[],u,_=>⟨u,rfl⟩
 |d::ds,u,h=>by
  obtain⟨x,a,b,w,rfl⟩:=h d ar;obtain⟨v,e⟩:=Bm (F:=F) (N:=N) (R:=R) (ω:=ω) (ds:=ds) (u:=v9 (.tup [.str x,.tup [.int a,.int b],.int w])) fun d hd=>h d (ai _ hd);refine⟨v,?_⟩;refine(eY rfl rfl (KE)).trans ?_;exact e
theorem Bl:∀ {ts:List (List D)}{u v:Option D},(∀ t∈ts,∀ d∈t,bV d)->∃ u' v',cR (aY 2) bT cB (ts.map D.lst) [F,N,u,v] ω=v9 (.nx [F,N,u',v'],ω)
 |[],u,v,_=>⟨u,v,rfl⟩
 |t::ts,u,v,h=>by
  obtain⟨w,e1⟩:=Bm (F:=F) (N:=N) (R:=.lst t) (ω:=ω) (ds:=t) (u:=v) (h t ar);obtain⟨u',v',e2⟩:=Bl (F:=F) (N:=N) (ω:=ω) (ts:=ts) (u:=v9 (.lst t)) (v:=w) fun t' ht=>h t' (ai _ ht);refine⟨u',v',?_⟩;have b2:cB [F,N,v9 (.lst t),v] ω=v9 (.nx [F,N,v9 (.lst t),w],ω):=by
   unfold cB;rw[skip (gG (k:=true) (tru_ok (cY (aB (d:=.lst t) rfl) (by simp[lS,dJ,lL,eN]))))];refine iL ?_;unfold cH oIL;rw[cV (x:=(t,bT)) (ω1:=ω) (by rw[bB (aB (d:=.lst t) rfl)];rfl)];exact e1
  refine(eY rfl rfl (b2)).trans ?_;exact e2
theorem Nz {ts:List (List D)} (h:∀ t∈ts,∀ d∈t,bV d) (hc:ts.length=c) (ω:Om):cE [.lst (ts.map D.lst),.int c] ω=v9 (.ok (.bl true),ω):=by
 obtain⟨u,v,e⟩:=Bl (F:=v9 (.lst (ts.map D.lst))) (N:=v9 (.int c)) (ω:=ω) (ts:=ts) (u:=wb) (v:=wb) h;refine aT rfl ?_;unfold iB;show aH _ _ [v9 (.lst (ts.map D.lst)),v9 (.int c),wb,wb] ω=_;rw[skip (pS (gG (k:=true) (tru_ok (cY (aB (d:=.lst (ts.map D.lst)) rfl) (by simp[lS,dJ,lL,eN])))) (vL (a:=((ts.map D.lst).length:Nat)) (b:=(c:Int)) (fL (aB (d:=.lst (ts.map D.lst)) rfl) (.inl rfl)) (aB rfl) (by rw[ao,hc])))];rw[bG (iL (by
  unfold cH oIL;rw[cV (x:=(ts.map D.lst,bT)) (ω1:=ω) (by rw[bB (aB (d:=.lst (ts.map D.lst)) rfl)];rfl)];exact e))]
 rfl
theorem CQ {φ:eK}{d:D}{ds:List D}{ω:Om} (hd:d=.lst ds∨d=.tup ds) (hl:ds.length<=1000) (hφ:∀ x∈ds,φ [x,x] ω=v9 (.ok (.bl true),ω)):∃ v,sNx (cH (oIA kU (aC (oL fO (aC (oP (aD 1)) aK)) aK)) (aY 2) (dU (iH (gH (bC φ (aC (o2 (fun ω a b=>pu (bH ω a b) ω) (oP (aD 0)) (oP (aD 2))) (aC (o2 (fun ω a b=>pu (bH ω a b) ω) (oP (aD 1)) (oP (aD 2))) aK))))) (aS (oP (dC (.bl false)))) bF)) [v9 d,v9 d,wb] ω=v9 (.nx [v9 d,v9 d,v],ω):=by
 obtain⟨ρ',ω',e,rfl,v,rfl⟩:=AZ (bd:=aY 2) (chk:=bT) (F:=dU (iH (gH (bC φ (aC (o2 (fun ω a b=>pu (bH ω a b) ω) (oP (aD 0)) (oP (aD 2))) (aC (o2 (fun ω a b=>pu (bH ω a b) ω) (oP (aD 1)) (oP (aD 2))) aK))))) (aS (oP (dC (.bl false)))) bF) (fun(_:Unit) ρ ω'=>ω'=ω/\∃ v,ρ=[v9 d,v9 d,v]) (fun _ _=>()) (fun _ _ _ _=>rfl) (ds:=lF 0 ds.length) (a:=()) (ρ:=[v9 d,v9 d,wb]) (ω:=ω) ⟨rfl,wb,rfl⟩ fun x hx _ ρ ω1 hR=>by
  obtain⟨rfl,v,rfl⟩:=hR;obtain⟨k,hk,rfl⟩:=IF hx;rw[Int.zero_add];refine⟨[v9 d,v9 d,v9 (.int k)],[v9 d,v9 d,v9 (.int k)],ω1,rfl,?_,rfl,v9 (.int k),rfl⟩;rw[nM (ω1:=ω1) (by
   have:=gG (tru_ok (k:=true) (aQ (φ:=φ) (ρ:=[v9 d,v9 d,v9 (.int k)]) (aA (Ii (f:=oP (aD 0)) (h:=oP (aD 2)) (k:=k) (aB rfl) (aB rfl) hd hk) (aA (Ii (f:=oP (aD 1)) (h:=oP (aD 2)) (k:=k) (aB rfl) (aB rfl) hd hk) aE)) (hφ _ (ij hk))))
   exact this)]
  rfl
 refine⟨v,iL ?_⟩;unfold cH;rw[cV (qR (c:=ds.length) (fL (aB rfl) hd) hl)];exact e
theorem IA:∀ {n:Nat}{d:D},Pl n d->∀ ω,dA (n+1) [d,d] ω=v9 (.ok (.bl true),ω)
 |n,.non,_,ω=>rfl
 |n,.bl true,_,ω=>rfl
 |n,.bl false,_,ω=>rfl
 |n,.int i,_,ω=>by
  have e:dA (n+1) [.int i,.int i] ω=v9 (.ok (.bl (i==i)),ω):=rfl;rw[e];simp
 |n,.str x,_,ω=>by
  have e:dA (n+1) [.str x,.str x] ω=v9 (.ok (.bl (x==x)),ω):=rfl;rw[e];simp
 |n+1,.lst ds,h,ω=>by
  obtain⟨v,lp⟩:=CQ (φ:=dA (n+1)) (d:=.lst ds) (ds:=ds) (ω:=ω) (.inl rfl) h.1 fun x hx=>IA (h.2 x hx) ω;have v0:oP (aD 0) [v9 (.lst ds),v9 (.lst ds),wb] ω=v9 (.ok (.lst ds),ω):=aB rfl;have v1:oP (aD 1) [v9 (.lst ds),v9 (.lst ds),wb] ω=v9 (.ok (.lst ds),ω):=aB rfl;refine aT rfl ?_;unfold sW;show aH _ _ [v9 (.lst ds),v9 (.lst ds),wb] ω=_;rw[skip (bZ (fH v1 aV rfl)),skip (tru_ok (cY v1 (by simp[lS,dJ,lL,eN]))),skip (tru_ok (cY v1 (by simp[lS,dJ,lL,eN]))),skip (tru_ok (cY v1 (by simp[lS,dJ,lL,eN]))),skip (tru_ok (cY v1 (by simp[lS,dJ,lL,eN])))];rw[skip (Gu (b:=false) (cY v1 (by simp[lS,dJ,lL,eN])) (cY v0 (by simp[lS,dJ,lL,eN])))];rw[skip (pS (Gu (b:=true) (cY v1 (by simp[lS,dJ,lL,eN])) (cY v0 (by simp[lS,dJ,lL,eN]))) (gG (k:=true) (tru_ok (by unfold DC;rw[bB v1];rfl))))];rw[skip (vL (fL v0 (.inl rfl)) (fL v1 (.inl rfl)) rfl)];rw[bG lp];rfl
 |n+1,.tup ds,h,ω=>by
  obtain⟨v,lp⟩:=CQ (φ:=dA (n+1)) (d:=.tup ds) (ds:=ds) (ω:=ω) (.inr rfl) h.1 fun x hx=>IA (h.2 x hx) ω;have v0:oP (aD 0) [v9 (.tup ds),v9 (.tup ds),wb] ω=v9 (.ok (.tup ds),ω):=aB rfl;have v1:oP (aD 1) [v9 (.tup ds),v9 (.tup ds),wb] ω=v9 (.ok (.tup ds),ω):=aB rfl;refine aT rfl ?_;unfold sW;show aH _ _ [v9 (.tup ds),v9 (.tup ds),wb] ω=_;rw[skip (bZ (fH v1 aV rfl)),skip (tru_ok (cY v1 (by simp[lS,dJ,lL,eN]))),skip (tru_ok (cY v1 (by simp[lS,dJ,lL,eN]))),skip (tru_ok (cY v1 (by simp[lS,dJ,lL,eN]))),skip (tru_ok (cY v1 (by simp[lS,dJ,lL,eN])))];rw[skip (Gu (b:=true) (cY v1 (by simp[lS,dJ,lL,eN])) (cY v0 (by simp[lS,dJ,lL,eN])))];rw[skip (pS (Gu (b:=false) (cY v1 (by simp[lS,dJ,lL,eN])) (cY v0 (by simp[lS,dJ,lL,eN]))) (gG (k:=true) (tru_ok (by unfold DC;rw[bB v1];rfl))))];rw[skip (vL (fL v0 (.inr rfl)) (fL v1 (.inr rfl)) rfl)];rw[bG lp];rfl
 |0,.lst _,h,_=>h.elim
 |0,.tup _,h,_=>h.elim
 |0,.obj _,h,_=>h.elim
 |n+1,.obj _,h,_=>h.elim
 |0,.scr _,h,_=>h.elim
 |n+1,.scr _,h,_=>h.elim
theorem so8 {n:Nat}{d:D} (h:Pl n d) (hn:n<=7) (ω:Om):dA 8 [d,d] ω=v9 (.ok (.bl true),ω):=IA (n:=7) (h.mono hn) ω
section
variable {ω:Om}{ρ:Rho}{f h:OG D}{a b:Int}
theorem wF (e1:f ρ ω=v9 (.ok (.int a),ω)) (e2:h ρ ω=v9 (.ok (.int b),ω)):o2 (lf pZ) f h ρ ω=v9 (.ok (.int (a+b)),ω):=fH e1 e2 rfl
theorem EC (e1:f ρ ω=v9 (.ok (.int a),ω)) (e2:h ρ ω=v9 (.ok (.int b),ω)):o2 (lf gSub) f h ρ ω=v9 (.ok (.int (a-b)),ω):=fH e1 e2 rfl
theorem ED (e1:f ρ ω=v9 (.ok (.int a),ω)) (e2:h ρ ω=v9 (.ok (.int b),ω)) (hb: -1000000000000000000<b/\b<1000000000000000000):o2 (lf iC) f h ρ ω=v9 (.ok (.int (a*b)),ω):=fH e1 e2 (Nd hb)
theorem wE (e1:f ρ ω=v9 (.ok (.int a),ω)) (e2:h ρ ω=v9 (.ok (.int b),ω)) (hb:0<b):o2 (lf cC) f h ρ ω=v9 (.ok (.int (a % b)),ω):=fH e1 e2 (Nf hb)
theorem lN {p q:Int} (e1:f ρ ω=v9 (.ok (.int a),ω)) (e2:h ρ ω=v9 (.ok (.int q),ω)) (hp:0<p) (hq:0<q):o2 (lf cC) (o2 (lf cC) (o2 (lf iC) f (oP (dC (.int 48271)))) (oP (dC (.int p)))) h ρ ω=v9 (.ok (.int (a*48271 % p % q)),ω):=wE (wE (ED e1 aV (by decide)) aV hp) e2 hq
theorem yA {x q:Int} (hq:0<q):0<=x % q/\x % q<q:=⟨Int.emod_nonneg x (by omega),Int.emod_lt_of_pos x hq⟩
theorem Nn {z:Int} (e1:f ρ ω=v9 (.ok (.int a),ω)):cS (o2 (kW 8) f (oP (dC (.int z)))) ρ ω=v9 (.ok (a==z),ω):=bZ (gB e1 aV rfl)
theorem mE {z:Int} (e1:f ρ ω=v9 (.ok (.int a),ω)):cS (o2 (lf gLt) f (oP (dC (.int z)))) ρ ω=v9 (.ok (decide (a<z)),ω):=bZ (fH e1 aV rfl)
theorem Kr {z:Int} (e1:f ρ ω=v9 (.ok (.int a),ω)):cS (o2 (lf gGt) f (oP (dC (.int z)))) ρ ω=v9 (.ok (decide (z<a)),ω):=bZ (fH e1 aV rfl)
theorem BL {xs:List Int} (e1:f ρ ω=v9 (.ok (.lst (iv xs)),ω)) (e2:h ρ ω=v9 (.ok (.int a),ω)) (h0:0<=a) (h1:a<xs.length):o2 (fun ω a b=>pu (bH ω a b) ω) f h ρ ω=v9 (.ok (.int (xs.getD a.toNat 0)),ω):=aU e1 e2 (RowV.ix (ω:=ω) (d:=.lst (iv xs)) rfl h0 h1)
theorem Fj {i:Nat}{d:D}{ω1:Om} (e:f ρ ω=v9 (.ok d,ω1)):aW i f ρ ω=v9 (.nx (ρ.set i (v9 d)),ω1):=by
 unfold aW;rw[cV e]
theorem ifI {t:OG Bool}{F:OS}{i:Nat}{a0 a1:Int}{k:Bool} (ht:t ρ ω=v9 (.ok k,ω)) (hF:F ρ ω=v9 (.nx (ρ.set i (v9 (.int a1))),ω)) (h0:ρ.set i (v9 (.int a0))=ρ):∃ a:Int,dU t F bF ρ ω=v9 (.nx (ρ.set i (v9 (.int a))),ω):=by
 cases k with
 |true=>exact⟨a1,by rw[uZ ht];exact hF⟩
 |false=>exact⟨a0,by rw[nM ht,h0];rfl⟩
theorem NA {t u:OG Bool}{k l:Bool} (e1:t ρ ω=v9 (.ok k,ω)) (e2:u ρ ω=v9 (.ok l,ω)):Ib t u ρ ω=v9 (.ok (k&&l),ω):=by
 unfold Ib;rw[bB e1];cases k with
 |true=>exact e2
 |false=>rfl
end
theorem Cz {j:Int}{c:Nat} (h0:0<=j) (h4:j<4) (c1:1<=c) (c8:c<=8) (ω:Om):∃ x,dE [.int j,.int c] ω=v9 (.ok (.str x),ω):=by
 have hj:j=0∨j=1∨j=2∨j=3:=by omega
 have hc:c=1∨c=2∨c=3∨c=4∨c=5∨c=6∨c=7∨c=8:=by omega
 rcases hj with rfl|rfl|rfl|rfl <;> rcases hc with rfl|rfl|rfl|rfl|rfl|rfl|rfl|rfl <;> exact⟨_,rfl⟩
theorem Ia (c:Nat) (ω:Om):eM [.int c] ω=v9 (.ok (.lst (iv [-1,c,-2,0-c,100000000000000000000,0-100000000000000000000])),ω):=rfl
theorem Cf (cell:Int) (k c:Nat) (c2:1<=c) (c8:c<=8) (ω:Om):∃ d:Deed,gN [.int cell,.int k,.int c] ω=v9 (.ok d.d,ω):=by
 have cpos:(0:Int)<c:=by omega
 obtain⟨way,hway⟩:∃ w,w=cell*48271 % 1009 % 16:=⟨_,rfl⟩;obtain⟨one,hone⟩:∃ w,w=(cell+k)*48271 % 1013 % c:=⟨_,rfl⟩;have q1:∃ a:Int,dU (Ib (cS (o2 (lf gGt) (oP (aD 2)) (oP (dC (.int 1))))) (cS (o2 (lf gGt) (o2 (lf cC) (o2 (lf cC) (o2 (lf iC) (oP (aD 0)) (oP (dC (.int 48271)))) (oP (dC (.int 1019)))) (oP (dC (.int 19)))) (oP (dC (.int 0)))))) (aW 5 (o2 (lf cC) (o2 (lf pZ) (o2 (lf pZ) (oP (aD 4)) (oP (dC (.int 1)))) (o2 (lf cC) (o2 (lf cC) (o2 (lf iC) (oP (aD 0)) (oP (dC (.int 48271)))) (oP (dC (.int 1021)))) (o2 (lf gSub) (oP (aD 2)) (oP (dC (.int 1)))))) (oP (aD 2)))) bF [v9 (.int cell),v9 (.int k),v9 (.int c),v9 (.int way),v9 (.int one),v9 (.int one),wb,wb,wb] ω=v9 (.nx [v9 (.int cell),v9 (.int k),v9 (.int c),v9 (.int way),v9 (.int one),v9 (.int a),wb,wb,wb],ω):=by
  by_cases c1:c=1
  ·refine⟨one,?_⟩;rw[nM (ω1:=ω) (by
    unfold Ib;rw[bB (Kr (a:=c) (aB rfl)),decide_eq_false (by omega)];rfl)]
   rfl
  ·have cpos1:(0:Int)<c-1:=by omega
   exact ifI (ω:=ω) (i:=5) (ρ:=[v9 (.int cell),v9 (.int k),v9 (.int c),v9 (.int way),v9 (.int one),v9 (.int one),wb,wb,wb]) (a0:=one)
    (t:=Ib (cS (o2 (lf gGt) (oP (aD 2)) (oP (dC (.int 1))))) (cS (o2 (lf gGt) (o2 (lf cC) (o2 (lf cC) (o2 (lf iC) (oP (aD 0)) (oP (dC (.int 48271)))) (oP (dC (.int 1019)))) (oP (dC (.int 19)))) (oP (dC (.int 0))))))
    (F:=aW 5 (o2 (lf cC) (o2 (lf pZ) (o2 (lf pZ) (oP (aD 4)) (oP (dC (.int 1)))) (o2 (lf cC) (o2 (lf cC) (o2 (lf iC) (oP (aD 0)) (oP (dC (.int 48271)))) (oP (dC (.int 1021)))) (o2 (lf gSub) (oP (aD 2)) (oP (dC (.int 1)))))) (oP (aD 2))))
    (NA (Kr (a:=c) (aB rfl)) (Kr (lN (a:=cell) (aB rfl) aV (by decide) (by decide))))
    (Fj (wE (b:=c) (wF (wF (a:=one) (aB rfl) aV) (lN (a:=cell) (aB rfl) (EC (a:=c) (aB rfl) aV) (by decide) cpos1)) (aB rfl) cpos)) rfl
 obtain⟨other,e1⟩:=q1;have r4:=yA (x:=cell*48271 % 1031) (q:=4) (by decide);obtain⟨x,ex⟩:=Cz r4.1 r4.2 (by omega:1<=c) c8 ω;obtain⟨vs,hvs⟩:∃ vs:List Int,vs=[cell*48271 % 1033 % 9-4,0-k,100000000000000000000+k]:=⟨_,rfl⟩;have r3:=yA (x:=cell*48271 % 1039) (q:=3) (by decide);obtain⟨v,hv⟩:∃ v,v=vs.getD (cell*48271 % 1039 % 3).toNat 0:=⟨_,rfl⟩;have r6:=yA (x:=cell*48271 % 1051) (q:=6) (by decide);have r6':=yA (x:=cell*48271 % 1063) (q:=6) (by decide);have q2:=ifI (ω:=ω) (i:=4) (ρ:=[v9 (.int cell),v9 (.int k),v9 (.int c),v9 (.int way),v9 (.int one),v9 (.int other),v9 (.str x),v9 (.lst (iv vs)),v9 (.int v)]) (a0:=one)
  (t:=cS (o2 (kW 8) (o2 (lf cC) (o2 (lf cC) (o2 (lf iC) (oP (aD 0)) (oP (dC (.int 48271)))) (oP (dC (.int 1049)))) (oP (dC (.int 31)))) (oP (dC (.int 30)))))
  (F:=aW 4 (o2 (fun ω a b=>pu (bH ω a b) ω) (bC eM (aC (oP (aD 2)) aK)) (o2 (lf cC) (o2 (lf cC) (o2 (lf iC) (oP (aD 0)) (oP (dC (.int 48271)))) (oP (dC (.int 1051)))) (oP (dC (.int 6))))))
  (Nn (lN (a:=cell) (aB rfl) aV (by decide) (by decide)))
  (Fj (BL (aQ (aA (aB rfl) aE) (Ia c ω)) (lN (a:=cell) (aB rfl) aV (by decide) (by decide)) r6.1 r6.2)) rfl
 obtain⟨one',e2⟩:=q2;have q3:=ifI (ω:=ω) (i:=5) (ρ:=[v9 (.int cell),v9 (.int k),v9 (.int c),v9 (.int way),v9 (.int one'),v9 (.int other),v9 (.str x),v9 (.lst (iv vs)),v9 (.int v)]) (a0:=other)
  (t:=cS (o2 (kW 8) (o2 (lf cC) (o2 (lf cC) (o2 (lf iC) (oP (aD 0)) (oP (dC (.int 48271)))) (oP (dC (.int 1061)))) (oP (dC (.int 31)))) (oP (dC (.int 30)))))
  (F:=aW 5 (o2 (fun ω a b=>pu (bH ω a b) ω) (bC eM (aC (oP (aD 2)) aK)) (o2 (lf cC) (o2 (lf cC) (o2 (lf iC) (oP (aD 0)) (oP (dC (.int 48271)))) (oP (dC (.int 1063)))) (oP (dC (.int 6))))))
  (Nn (lN (a:=cell) (aB rfl) aV (by decide) (by decide)))
  (Fj (BL (aQ (aA (aB rfl) aE) (Ia c ω)) (lN (a:=cell) (aB rfl) aV (by decide) (by decide)) r6'.1 r6'.2)) rfl
 obtain⟨other',e3⟩:=q3;have main:∀ d:Deed,∀ G:OS,G [v9 (.int cell),v9 (.int k),v9 (.int c),v9 (.int way),v9 (.int one'),v9 (.int other'),v9 (.str x),v9 (.lst (iv vs)),v9 (.int v)] ω=v9 (.rt d.d,ω)->
   aH (aW 3 (o2 (lf cC) (o2 (lf cC) (o2 (lf iC) (oP (aD 0)) (oP (dC (.int 48271)))) (oP (dC (.int 1009)))) (oP (dC (.int 16))))) (aH (aW 4 (o2 (lf cC) (o2 (lf cC) (o2 (lf iC) (o2 (lf pZ) (oP (aD 0)) (oP (aD 1))) (oP (dC (.int 48271)))) (oP (dC (.int 1013)))) (oP (aD 2)))) (aH (aW 5 (oP (aD 4))) (aH (dU (Ib (cS (o2 (lf gGt) (oP (aD 2)) (oP (dC (.int 1))))) (cS (o2 (lf gGt) (o2 (lf cC) (o2 (lf cC) (o2 (lf iC) (oP (aD 0)) (oP (dC (.int 48271)))) (oP (dC (.int 1019)))) (oP (dC (.int 19)))) (oP (dC (.int 0)))))) (aW 5 (o2 (lf cC) (o2 (lf pZ) (o2 (lf pZ) (oP (aD 4)) (oP (dC (.int 1)))) (o2 (lf cC) (o2 (lf cC) (o2 (lf iC) (oP (aD 0)) (oP (dC (.int 48271)))) (oP (dC (.int 1021)))) (o2 (lf gSub) (oP (aD 2)) (oP (dC (.int 1)))))) (oP (aD 2)))) bF) (aH (aW 6 (bC dE (aC (o2 (lf cC) (o2 (lf cC) (o2 (lf iC) (oP (aD 0)) (oP (dC (.int 48271)))) (oP (dC (.int 1031)))) (oP (dC (.int 4)))) (aC (oP (aD 2)) aK)))) (aH (aW 7 (oL (fun ω ds=>pu (gC ds) ω) (aC (o2 (lf gSub) (o2 (lf cC) (o2 (lf cC) (o2 (lf iC) (oP (aD 0)) (oP (dC (.int 48271)))) (oP (dC (.int 1033)))) (oP (dC (.int 9)))) (oP (dC (.int 4)))) (aC (o2 (lf gSub) (oP (dC (.int 0))) (oP (aD 1))) (aC (o2 (lf pZ) (oP (dC (.int 100000000000000000000))) (oP (aD 1))) aK))))) (aH (aW 8 (o2 (fun ω a b=>pu (bH ω a b) ω) (oP (aD 7)) (o2 (lf cC) (o2 (lf cC) (o2 (lf iC) (oP (aD 0)) (oP (dC (.int 48271)))) (oP (dC (.int 1039)))) (oP (dC (.int 3)))))) (aH (dU (cS (o2 (kW 8) (o2 (lf cC) (o2 (lf cC) (o2 (lf iC) (oP (aD 0)) (oP (dC (.int 48271)))) (oP (dC (.int 1049)))) (oP (dC (.int 31)))) (oP (dC (.int 30))))) (aW 4 (o2 (fun ω a b=>pu (bH ω a b) ω) (bC eM (aC (oP (aD 2)) aK)) (o2 (lf cC) (o2 (lf cC) (o2 (lf iC) (oP (aD 0)) (oP (dC (.int 48271)))) (oP (dC (.int 1051)))) (oP (dC (.int 6)))))) bF) (aH (dU (cS (o2 (kW 8) (o2 (lf cC) (o2 (lf cC) (o2 (lf iC) (oP (aD 0)) (oP (dC (.int 48271)))) (oP (dC (.int 1061)))) (oP (dC (.int 31)))) (oP (dC (.int 30))))) (aW 5 (o2 (fun ω a b=>pu (bH ω a b) ω) (bC eM (aC (oP (aD 2)) aK)) (o2 (lf cC) (o2 (lf cC) (o2 (lf iC) (oP (aD 0)) (oP (dC (.int 48271)))) (oP (dC (.int 1063)))) (oP (dC (.int 6)))))) bF) G)))))))) (cD lD [.int cell,.int k,.int c]) ω=v9 (.rt d.d,ω):=by
  intro d G hG;refine(aN (lN (a:=cell) (aB rfl) aV (by decide) (by decide))).trans ?_;rw[<- hway];refine(aN (wE (b:=c) (wE (ED (wF (a:=cell) (b:=k) (aB rfl) (aB rfl)) aV (by decide)) aV (by decide)) (aB rfl) cpos)).trans ?_;rw[<- hone];refine(aN (d:=.int one) (aB rfl)).trans ?_;refine(bG e1).trans ?_;refine(aN (d:=.str x) (ω1:=ω) (aQ (aA (lN (a:=cell) (aB rfl) aV (by decide) (by decide)) (aA (aB (d:=.int c) rfl) aE)) ex)).trans ?_;refine(aN (d:=.lst (iv vs)) (ω1:=ω) (eX (aA (EC (lN (a:=cell) (aB rfl) aV (by decide) (by decide)) aV) (aA (EC (b:=k) aV (aB rfl)) (aA (wF (b:=k) aV (aB rfl)) aE))) (by rw[hvs];rfl))).trans ?_;refine(aN (BL (xs:=vs) (aB rfl) (lN (a:=cell) (aB rfl) aV (by decide) (by decide)) r3.1 (by rw[hvs];exact r3.2))).trans ?_;rw[<- hv];refine(bG e2).trans ?_;refine(bG e3).trans ?_;exact hG
 have vw:∀ ω,oP (aD 3) [v9 (.int cell),v9 (.int k),v9 (.int c),v9 (.int way),v9 (.int one'),v9 (.int other'),v9 (.str x),v9 (.lst (iv vs)),v9 (.int v)] ω=v9 (.ok (.int way),ω):=fun ω=>aB rfl
 by_cases h5:way<5
 ·refine⟨.put one' x v,aT rfl (main _ _ ?_)⟩;exact Kb (r:=.ok _) (by rw[mE (vw ω),decide_eq_true h5]) rfl
 by_cases h7:way<7
 ·refine⟨.take one' x,aT rfl (main _ _ ?_)⟩;rw[skip (by rw[mE (vw ω),decide_eq_false h5])];exact Kb (r:=.ok _) (by rw[mE (vw ω),decide_eq_true h7]) rfl
 by_cases h9:way<9
 ·refine⟨.change one' x v,aT rfl (main _ _ ?_)⟩;rw[skip (by rw[mE (vw ω),decide_eq_false h5]),skip (by rw[mE (vw ω),decide_eq_false h7])];exact Kb (r:=.ok _) (by rw[mE (vw ω),decide_eq_true h9]) rfl
 have gt:∀ q:Bool,decide (11<way)=q->o2 (lf gGt) (oP (aD 3)) (oP (dC (.int 11))) [v9 (.int cell),v9 (.int k),v9 (.int c),v9 (.int way),v9 (.int one'),v9 (.int other'),v9 (.str x),v9 (.lst (iv vs)),v9 (.int v)] ω=v9 (.ok (.bl q),ω):=fun q hq=>by
  rw[<- hq];exact fH (vw ω) aV rfl
 by_cases h11:11<way
 ·refine⟨.meet one' other',aT rfl (main _ _ ?_)⟩;rw[skip (by rw[mE (vw ω),decide_eq_false h5]),skip (by rw[mE (vw ω),decide_eq_false h7]),skip (by rw[mE (vw ω),decide_eq_false h9])];refine bA (eX (aA (a:=.str "meet") (aU (a:=.lst [.str "tell",.str "meet"]) (b:=.int 1) rfl (eX (aA (gt true (decide_eq_true h11)) aE) rfl) rfl) (aA (aB rfl) (aA (aB rfl) aE))) rfl)
 ·refine⟨.tell one' other',aT rfl (main _ _ ?_)⟩;rw[skip (by rw[mE (vw ω),decide_eq_false h5]),skip (by rw[mE (vw ω),decide_eq_false h7]),skip (by rw[mE (vw ω),decide_eq_false h9])];refine bA (eX (aA (a:=.str "tell") (aU (a:=.lst [.str "tell",.str "meet"]) (b:=.int 0) rfl (eX (aA (gt false (decide_eq_false h11)) aE) rfl) rfl) (aA (aB rfl) (aA (aB rfl) aE))) rfl)
theorem Gx (e1:fo ρ ω=v9 (.ok (.obj n),ω1)) (e2:ω1[n]?=v9 (.ml xs)) (e3:fl ρ ω1=v9 (.ok ds,ω2)) (e4:g ω2 (.obj n) ds=v9 (r,ω3)):vI g fo fl ρ ω=v9 (.ok r,ω3):=by
 unfold vI;rw[bB e1]
 have:BN ω1 (.obj n)=true:=by simp only[BN,cellOf,e2]
 show(if BN ω1 (.obj n)=true then _ else wb)=_
 rw[if_pos this,bB e3];show oR (g ω2 (.obj n) ds)=_;rw[e4];rfl
theorem rQ {c n:Nat} (c2:1<=c) (c8:c<=8) (hx:xs.length<=1000):∀(m s:Nat) (pre:List Deed) (v:Option D) (ω:Om),ω[n]?=v9 (.ml (pre.map Deed.d))->s+m=xs.length->pre.length=s->∃ v' post,post.length=m/\cR (aY 3) bT eD (lF s m) [v9 (.lst (iv xs)),v9 (.int c),v9 (.obj n),v] ω=v9 (.nx [v9 (.lst (iv xs)),v9 (.int c),v9 (.obj n),v'],ω.set n (.ml ((pre++post).map Deed.d)))
 |0,s,pre,v,ω,ht,_,_=>⟨v,[],rfl,by
   rw[dh,sH ht];rfl⟩
 |m+1,s,pre,v,ω,ht,hs,hp=>by
  obtain⟨d,ed⟩:=Cf (xs.getD (s:Int).toNat 0+7*s) s c c2 c8 ω;have b1:eD [v9 (.lst (iv xs)),v9 (.int c),v9 (.obj n),v9 (.int s)] ω=v9 (.nx [v9 (.lst (iv xs)),v9 (.int c),v9 (.obj n),v9 (.int s)],ω.set n (.ml ((pre++[d]).map Deed.d))):=by
   unfold eD dL;rw[cV (Gx (r:=.non) (ω3:=ω.set n (.ml ((pre++[d]).map Deed.d))) (aB (d:=.obj n) rfl) ht (aA (aQ (aA (wF (BL (xs:=xs) (a:=s) (aB rfl) (aB rfl) (by omega) (by omega)) (ED (b:=s) aV (aB rfl) ⟨by omega,by omega⟩)) (aA (aB (d:=.int s) rfl) (aA (aB (d:=.int c) rfl) aE))) ed) aE) (by
    simp only[Cd,ht];rw[if_pos (by rw[ao,b7];omega),ck];rfl))]
  obtain⟨v',post,hl,e2⟩:=rQ c2 c8 hx m (s+1) (pre++[d]) (v9 (.int s)) (ω.set n (.ml ((pre++[d]).map Deed.d))) (cT ht) (by omega) (by simp[hp]);refine⟨v',d::post,by simp[hl],?_⟩;rw[vB];refine(eY rfl rfl (b1)).trans ?_;rw[um,d8] at e2;exact e2
theorem Ht {c:Nat} (c2:1<=c) (c8:c<=8) (hx:xs.length<=1000) (ω:Om):∃ ds:List Deed,ds.length=xs.length/\jS [.lst (iv xs),.int c] ω=v9 (.ok (.obj ω.length),ω++[.ml (ds.map Deed.d)]):=by
 have h0:(ω++[Ob.ml []])[ω.length]?=v9 (.ml (([]:List Deed).map Deed.d)):=by simp
 obtain⟨v',post,hl,e⟩:=rQ c2 c8 hx xs.length 0 [] wb (ω++[Ob.ml []]) h0 (by omega) rfl;refine⟨post,hl,aT rfl ?_⟩;unfold oH;rw[aN (d:=.obj ω.length) (ω1:=ω++[.ml []]) rfl];rw[bG (iL (by
  unfold cH;rw[cV (qR (c:=xs.length) (by
   have:=fL (f:=oP (aD 0)) (ρ:=(cD pJ [.lst (iv xs),.int c]).set 2 (v9 (.obj ω.length))) (ω:=ω++[.ml []]) (d:=.lst (iv xs)) (ds:=iv xs) (aB rfl) (.inl rfl)
   rw[show(iv xs).length=xs.length from by unfold iv;simp] at this;exact this) hx)]
  exact e))]
 refine(bA (aB (d:=.obj ω.length) rfl)).trans ?_;simp
theorem Ir (ns:List Int) (k:Nat) (ω:Om):∃ x:Int,kK [.scr (ns.map D.int),.int k] ω=v9 (.ok (.int x),ω):=by
 have v0:∀ ω:Om,oP (aD 0) (cD mS [.scr (ns.map D.int),.int k]) ω=v9 (.ok (.scr (ns.map D.int)),ω):=fun ω=>rfl;have v1:∀ ω:Om,oP (aD 1) (cD mS [.scr (ns.map D.int),.int k]) ω=v9 (.ok (.int k),ω):=fun ω=>rfl;have t:∀ q:Bool,decide ((k:Int)<((ns.map D.int).length:Int))=q->cS (o2 (lf gLt) (oP (aD 1)) (oL fO (aC (oP (aD 0)) aK))) (cD mS [.scr (ns.map D.int),.int k]) ω=v9 (.ok q,ω):=fun q hq=>
  bZ (fH (v1 ω) (eX (aA (v0 ω) aE) (show _=v9 (D.int ((ns.map D.int).length),ω) from rfl)) (show v9 (D.bl (decide ((k:Int)<((ns.map D.int).length:Int))))=_ by rw[hq]))
 by_cases h:k<ns.length
 ·refine⟨ns[k],aT rfl ?_⟩;have hd:decide ((k:Int)<((ns.map D.int).length:Int))=true:=by simp[h]
  unfold tE aH;rw[uZ (t true hd),bA (gB (v0 ω) (v1 ω) (show pu (atI (ns.map D.int) (k:Int)) ω=v9 (.int ns[k],ω) from ?_))];have e1:ixN (ns.map D.int).length (k:Int)=v9 k:=by
   unfold ixN;have hk:(k:Int)<((ns.map D.int).length:Int):=by simpa using hd
   rw[if_pos (jh k),if_pos hk];simp
  unfold atI;rw[e1];simp[pu,h]
 ·refine⟨0,aT rfl ?_⟩;have hd:decide ((k:Int)<((ns.map D.int).length:Int))=false:=by simp;omega
  unfold tE aH;rw[nM (t false hd)];rfl
theorem Pl.lst (hl:ds.length<=1000) (h:∀ d∈ds,Pl n d):Pl (n+1) (.lst ds):=⟨hl,h⟩
theorem Pl.ent (h:bV d):Pl (n+2) d:=by
 obtain⟨x,a,b,v,rfl⟩:=h;refine⟨by simp,fun d hd=> ?_⟩;simp only[aj,cr,or_false] at hd;rcases hd with rfl|rfl|rfl
 ·exact Pl.str _ _
 ·exact Pl.tup2 (Pl.int _ _) (Pl.int _ _)
 ·exact Pl.int _ _
theorem Pl.deed (d:Deed):Pl 1 d.d:=by
 have two:∀(x:Str) (l:List D),l.length<=3->(∀ y∈l,Pl 0 y)->Pl 1 (.tup (.str x::l)):=fun x l h1 h2=>⟨by rw[bw];omega,fun y hy=>by
  rcases aj.mp hy with rfl|hy
  ·exact Pl.str _ _
  ·exact h2 y hy⟩
 cases d with
 |put a x v=>
  refine two _ _ (by simp) fun y hy=> ?_;simp only[aj,cr,or_false] at hy;rcases hy with rfl|rfl|rfl <;> trivial
 |change a x v=>
  refine two _ _ (by simp) fun y hy=> ?_;simp only[aj,cr,or_false] at hy;rcases hy with rfl|rfl|rfl <;> trivial
 |take a x=>
  refine two _ _ (by simp) fun y hy=> ?_;simp only[aj,cr,or_false] at hy;rcases hy with rfl|rfl <;> trivial
 |tell a b=>
  refine two _ _ (by simp) fun y hy=> ?_;simp only[aj,cr,or_false] at hy;rcases hy with rfl|rfl <;> trivial
 |meet a b=>
  refine two _ _ (by simp) fun y hy=> ?_;simp only[aj,cr,or_false] at hy;rcases hy with rfl|rfl <;> trivial
theorem Pl.deeds {ds:List Deed} (hl:ds.length<=1000):Pl 2 (.lst (ds.map Deed.d)):=Pl.lst (by rw[ao];exact hl) fun d hd=>by
 obtain⟨x,_,rfl⟩:=av.mp hd;exact Pl.deed x
noncomputable def DeedsAt (ω:Om) (d:D) (ds:List Deed):Prop:=dJ ω d=v9 (ds.map Deed.d)
theorem DeedsAt.keep (h:DeedsAt ω d ds) (K:Keep [] ω ω'):DeedsAt ω' d ds:=by
 rcases kE h with rfl|⟨n,rfl,e⟩
 ·rfl
 ·have e':=(K.2 n (BY e) (by simp)).trans e;unfold DeedsAt dJ;simp only[e']
theorem DeedsAt.list (h:DeedsAt ω d ds) (e:f ρ ω=v9 (.ok d,ω)):oL iD (aC f aK) ρ ω=v9 (.ok (.lst (ds.map Deed.d)),ω):=by
 refine eX (aA e aE) ?_
 have:cO ω d=v9 (ds.map Deed.d):=by
  rcases kE h with rfl|⟨n,rfl,e2⟩
  ·rfl
  ·simp only[cO,dJ,e2]
 show(cO ω d).map _=_
 rw[this];rfl
theorem mB {c:Nat} (c0:0<c) (c8:c<=8) (hl:ds.length<64) (h:DeedsAt ω d ds):∃ ω',dM [.int c,d] ω=v9 (.ok (.tup [xD c (cF c ds),Pu c (cF c ds),Pw c (cF c ds),Pv c (cF c ds)]),ω')/\Keep [] ω ω'/\∃ own,HInv c own (cF c ds)/\tot c own<64:=by
 obtain⟨ω',e1,K,I⟩:=HE c0 c8 hl ω;refine⟨ω',?_,K,I⟩;refine aT rfl ?_;unfold iP;rw[aN (h.list (aB rfl))];rw[aN (aQ (aA (aB (d:=.int c) rfl) (aA (aB (d:=.lst (ds.map Deed.d)) rfl) aE)) e1)];rw[skip (pS (bZ (gB (aB (d:=.lst (ds.map Deed.d)) rfl) (aB (d:=d) rfl) (by
  have hd:=h.keep K
  have:kX ω' d=.lst (ds.map Deed.d):=by unfold kX;rw[hd]
  show pu ((eqD 8 (.lst (ds.map Deed.d)) (kX ω' d)).map fun k=>D.bl (!k)) ω'=_;rw[this,mO ((Pl.deeds (by omega)).mono (by decide))];rfl))) (pS (gG (k:=true) (tru_ok (cY (aB rfl) (by simp[lS,dJ,lL,eN])))) (vL (b:=4) (fL (aB rfl) (.inr rfl)) aV rfl)))]
 exact bA (aB rfl)
structure Rec where
 a:Nat
 b:Nat
 put:Option (Str×Int)
 outs:List (List Key)
noncomputable def Rec.key (r:Rec):List Key:=fI r.a r.b
noncomputable def Rec.ent (r:Rec):Option D:=r.put.map fun p=>.tup [.str p.1,mkD r.a r.b,.int p.2]
noncomputable def upF {α:Type} (f:Nat->α) (i:Nat) (x:α):Nat->α:=fun j=>if j=i then x else f j
theorem dD {x:α}:upF f i x i=x:=if_pos rfl
theorem cW {x:α} (h:j≠i):upF f i x j=f j:=if_neg h
section
variable {B ω:Om}{c h dd oo kk:Nat}{ks:Nat->Nat}{rs:List Rec}{kn:Nat->Nat->List Int}{ρ:Rho}{f:OG D}
end
noncomputable def cU (row:List Int) (r:Rec):Bool:=decide ((r.b:Int)<=row.getD r.a 0)
noncomputable def MZ (rs:List Rec) (row:List Int):List (List Key):=(rs.filter (cU row)).flatMap (·.outs)
noncomputable def CM (rs:List Rec) (row:List Int):List D:=(rs.filter (cU row)).filterMap Rec.ent
noncomputable def Fw (q:List Key) (l:List (List Key)):Bool:=l.any fun k=>decide (k=q)
theorem memK_iff:Fw q l=true↔q∈l:=by
 unfold Fw;rw[ni];constructor
 ·rintro⟨k,hk,e⟩
  rw[<- of_decide_eq_true e];exact hk
 ·exact fun h=>⟨q,h,decide_eq_true rfl⟩
noncomputable def jK (rs:List Rec) (row:List Int):List D:=(CM rs row).filter fun d=> !Fw (aO d) (MZ rs row)
structure NB (c:Nat) (own:Nat->Nat) (rs:List Rec):Prop where
 keys:(rs.map Rec.key).Nodup
 inn:∀ r∈rs,r.a<c/\1<=r.b/\r.b<=own r.a
 outs:∀ r∈rs,r.outs.length<64/\∀ q∈r.outs,KeyIn c own q
theorem EE (a b a' b':Int):eqD 7 (.tup [.int a,.int b]) (.tup [.int a',.int b'])=v9 (decide (a=a'/\b=b')):=by
 have:eqD 7 (.tup [.int a,.int b]) (.tup [.int a',.int b'])=v9 ((a==a'&&(b==b'&&true))&&true):=rfl
 rw[this]
 congr 1
 by_cases h:a=a' <;> by_cases h2:b=b' <;> simp[h,h2]
theorem AQ (a b:Nat):∀(l:List (List Key)),(∀ q∈l,∃ x y:Nat,q=fI x y)->inO (fun d=>eqD 7 d (mkD a b)) (l.map bP)=v9 (Fw (fI a b) l)
 |[],_=>rfl
 |q::l,h=>by
  obtain⟨x,y,rfl⟩:=h q ar;have ih:=AQ a b l fun q hq=>h q (ai _ hq)
  show(eqD 7 (mkD x y) (mkD a b)).bind (fun k=>(inO (fun d=>eqD 7 d (mkD a b)) (l.map bP)).map fun c=>k||c)=_
  rw[ih];unfold mkD;rw[EE];show v9 (decide ((x:Int)=a/\(y:Int)=b)||Fw (fI a b) l)=v9 (decide (fI x y=fI a b)||Fw (fI a b) l)
  have:(fI x y=fI a b)↔((x:Int)=a/\(y:Int)=b):=by
   unfold fI;simp
  rw[decide_eq_decide.mpr this]
section
variable {B ω:Om}{c h dd oo kk:Nat}{ks:Nat->Nat}{rs:List Rec}{kn:Nat->Nat->List Int}{own:Nat->Nat}
end
section
variable {B ω:Om}{c h dd oo kk:Nat}{ks:Nat->Nat}{rs:List Rec}{kn:Nat->Nat->List Int}{own:Nat->Nat}
end
noncomputable def mo (kn:Nat->Nat->List Int) (one other k j:Nat):Int:=if k=other then mx (mx ((kn one k).getD j 0) ((kn other k).getD j 0)) ((kn one one).getD j 0) else mx ((kn one k).getD j 0) ((kn other k).getD j 0)
noncomputable def moR (c:Nat) (kn:Nat->Nat->List Int) (one other k:Nat):List Int:=(bz c).map (mo kn one other k)
section
variable {B ω0:Om}{c h dd oo kk:Nat}{ks:Nat->Nat}{rs:List Rec}{kn:Nat->Nat->List Int}{one other:Nat}
end
theorem qX:∀ {l m:List α},l.Nodup->m.Nodup->(∀ x,x∈l↔x∈m)->l.Perm m
 |[],m,_,_,h=>by
  cases m with
  |nil=>exact .refl _
  |cons y m=>exact absurd ((h y).mpr ar) (by simp)
 |x::l,m,h1,h2,h=>by
  obtain⟨s,t,rfl⟩:=List.append_of_mem ((h x).mp ar);have nd:=h2;rw[b9] at h1;have pm:(s++x::t).Perm (x::(s++t)):=List.perm_middle;have nd2:=pm.nodup_iff.mp nd;rw[b9] at nd2;refine(List.Perm.cons x (qX h1.2 nd2.2 fun y=>⟨fun hy=> ?_,fun hy=> ?_⟩)).trans pm.symm
  ·have:y∈x::(s++t):=pm.mem_iff.mp ((h y).mp (ai _ hy))
   rcases aj.mp this with z|z
   ·exact absurd (z ▸ hy) h1.1
   ·exact z
  ·have:y∈x::l:=(h y).mpr (pm.mem_iff.mpr (ai _ hy))
   rcases aj.mp this with z|z
   ·exact absurd (z ▸ hy) nd2.1
   ·exact z
noncomputable def EntsOk (ds:List D):Prop:=(∀ d∈ds,bV d)/\(ds.map aO).Nodup
theorem EH (ha:bV a) (hb:bV b) (h:aO a≠aO b):dG 4 a b=v9 true∨dG 4 b a=v9 true:=by
 obtain⟨x,p,q,v,rfl⟩:=ha;obtain⟨x',p',q',v',rfl⟩:=hb;rw[AJ,AJ];unfold eLt
 by_cases hx:x=x'
 ·have:¬(p=p'/\q=q'):=fun z=>h (by unfold aO;rw[z.1,z.2])
  subst hx
  have:mLt p q p' q'∨mLt p' q' p q:=by unfold mLt;omega
  rcases this with z|z
  ·exact .inl (.inr ⟨rfl,.inl z⟩)
  ·exact .inr (.inr ⟨rfl,.inl z⟩)
 ·rcases Da hx with z|z
  ·exact .inl (.inl z)
  ·exact .inr (.inl z)
theorem wH (ha:bV a) (hb:bV b) (hc:bV c) (h1:dG 4 a b=v9 true) (h2:dG 4 b c=v9 true):dG 4 a c=v9 true:=by
 obtain⟨x,p,q,v,rfl⟩:=ha;obtain⟨x',p',q',v',rfl⟩:=hb;obtain⟨x2,p2,q2,v2,rfl⟩:=hc;rw[AJ] at*;exact EI h1 h2
theorem EntsOk.sorted (h:EntsOk ds) (hs:dI 4 ds=v9 out):out.Pairwise fun a b=>dG 4 a b=v9 true:=by
 have gm:∀ i,i<ds.length->ds.getD i .non∈ds/\ds[i]?=v9 (ds.getD i .non):=fun i hi=>by
  rw[au,bj hi];exact⟨ij hi,rfl⟩
 refine CP hs (fun i j hi hj hne=> ?_) fun a ha b hb c hc=>wH (h.1 a ha) (h.1 b hb) (h.1 c hc);refine EH (h.1 _ (gm i hi).1) (h.1 _ (gm j hj).1) fun z=>hne ?_;have pw:=lm.mp h.2;have hi':i<(ds.map aO).length:=by simpa using hi
 have hj':j<(ds.map aO).length:=by simpa using hj
 have ei:(ds.map aO)[i]=aO (ds.getD i .non):=by
  rw[vb,au,bj hi];rfl
 have ej:(ds.map aO)[j]=aO (ds.getD j .non):=by
  rw[vb,au,bj hj];rfl
 rcases Nat.lt_trichotomy i j with q|q|q
 ·exact absurd (by rw[ei,ej,z]) (pw i j hi' hj' q)
 ·exact q
 ·exact absurd (by rw[ei,ej,z]) (pw j i hj' hi' q)
theorem Bd (ha:bV a) (hb:bV b) (h1:dG 4 a b=v9 true) (h2:dG 4 b a=v9 true):False:=by
 have:=wH ha hb ha h1 h2
 obtain⟨x,p,q,v,rfl⟩:=ha;rw[AJ] at this;unfold eLt mLt at this;rcases this with z|⟨_,z⟩
 ·exact qQ _ z
 ·omega
theorem CO (h:EntsOk ds) (hp:ds.Perm ds') (hs:dI 4 ds=v9 o) (hs':dI 4 ds'=v9 o') (p1:o.Perm ds) (p2:o'.Perm ds'):o=o':=by
 have h':EntsOk ds':=⟨fun d hd=>h.1 d (hp.mem_iff.mpr hd),(hp.map aO).nodup_iff.mp h.2⟩;have s1:=h.sorted hs;have s2:=h'.sorted hs';have s1':o.Pairwise fun a b=>bV a/\bV b/\dG 4 a b=v9 true:=s1.imp_of_mem fun {a b} ha hb q=>⟨h.1 a (p1.mem_iff.mp ha),h.1 b (p1.mem_iff.mp hb),q⟩;have s2':o'.Pairwise fun a b=>bV a/\bV b/\dG 4 a b=v9 true:=s2.imp_of_mem fun {a b} ha hb q=>⟨h'.1 a (p2.mem_iff.mp ha),h'.1 b (p2.mem_iff.mp hb),q⟩;exact iM (fun a b x y=>Bd x.1 x.2.1 x.2.2 y.2.2) (p1.trans (hp.trans p2.symm)) s1' s2'
section
variable {c:Nat}{own:Nat->Nat}{rs:List Rec}{row:List Int}
theorem Hd.Ok.entsOk {hd:Hd} (W:hd.Ok c):EntsOk (hd.table.map (·.2)):=⟨W.ent,by rw[W.keys];exact W.tn⟩
theorem kN {ds:List D} (h:(ds.map aO).Nodup):ds.Nodup:=by
 induction ds with
 |nil=>exact vt
 |cons d r ih=>
  rw[bq,b9] at h;rw[b9];exact⟨fun z=>h.1 (av.mpr ⟨d,z,rfl⟩),ih h.2⟩
end
theorem vE (f:Nat->α) (c i:Nat) (x:α):((bz c).map f).set i x=(bz c).map (upF f i x):=by
 apply kj;intro j
 by_cases h:j=i
 ·subst h
  by_cases hj:j<c
  ·rw[ff (by rw[ao,iw];exact hj),az,gx hj];show _=v9 (upF f j x j);rw[dD]
  ·rw[c3 (by simp;omega),c3 (by simp;omega)]
 ·rw[hX (c5 h),az,az];cases hq:(bz c)[j]? with
  |none=>rfl
  |some k=>
   have hk:k=j:=by
    obtain⟨hlt,e⟩:=bg.mp hq;rw[o5] at e;exact e.symm
   subst hk;show v9 (f k)=v9 (upF f i x k);rw[cW h]
theorem tK {xs ys:List Int} (h1:xs.length=c) (h2:ys.length=c) (h:∀ j,j<c->xs.getD j 0=ys.getD j 0):xs=ys:=by
 apply List.ext_getElem (by omega);intro j hj hj'
 have:=h j (by omega)
 rw[au,au,bj hj,bj hj'] at this;exact this
theorem jE {f:Nat->Int} (h:j<c):((bz c).map f).getD j 0=f j:=by
 rw[au,az,gx h];rfl
theorem fQ {r:Rec} (q:r.ent=v9 d):aO d=r.key:=by
 unfold Rec.ent at q;cases hp:r.put with
 |none=>rw[hp] at q;cases q
 |some p=>rw[hp] at q;cases q;rfl
structure Rel (c:Nat) (own:Nat->Nat) (S:Nat->Hd) (rs:List Rec) (kn:Nat->Nat->List Int):Prop where
 knows:∀ i,i<c->(S i).knows=(bz c).map (kn i)
 recs:NB c own rs
 tab:∀ i,i<c->∀ e,e∈(S i).table.map (·.2)↔e∈jK rs (kn i i)
 clo:∀ i,i<c->∀ r∈rs,cU (kn i i) r=true->∀ q∈r.outs,fU (kn i i) q=true
 le:∀ i j,i<c->j<c->∀ t,t<c->(kn i j).getD t 0<=(kn j j).getD t 0
section
variable {c:Nat}{own:Nat->Nat}{S:Nat->Hd}{rs:List Rec}{kn:Nat->Nat->List Int}{i j a:Nat}
theorem Rel.seen (Q:Rel c own S rs kn) (hi:i<c):(S i).seen i=kn i i:=by
 unfold Hd.seen;rw[Q.knows i hi,au,az,gx hi];rfl
theorem Rel.row (Q:Rel c own S rs kn) (I:HInv c own S) (hi:i<c) (hj:j<c):kn i j∈(S i).knows/\(kn i j).length=c:=by
 have hm:kn i j∈(S i).knows:=by
  rw[Q.knows i hi];exact av.mpr ⟨j,gq.mpr hj,rfl⟩
 exact⟨hm,(I i hi).1.row _ hm⟩
theorem Rel.ownE (Q:Rel c own S rs kn) (I:HInv c own S) (hi:i<c):(kn i i).getD i 0=own i:=by rw[<- Q.seen hi];exact(I i hi).2
theorem mem_pres:e∈jK rs row↔(∃ r∈rs,cU row r=true/\r.ent=v9 e)/\∀ r∈rs,cU row r=true->aO e∉r.outs:=by
 unfold jK CM MZ;rw[b4];constructor
 ·rintro⟨h1,h2⟩
  obtain⟨r,hr,he⟩:=je.mp h1;have hr':=b4.mp hr;refine⟨⟨r,hr'.1,hr'.2,he⟩,fun q hq hs z=> ?_⟩
  have:Fw (aO e) ((rs.filter (cU row)).flatMap (·.outs))=true:=memK_iff.mpr (qe.mpr ⟨q,b4.mpr ⟨hq,hs⟩,z⟩)
  rw[this] at h2;cases h2
 ·rintro⟨⟨r,hr,hs,he⟩,h2⟩
  refine⟨je.mpr ⟨r,b4.mpr ⟨hr,hs⟩,he⟩,?_⟩;cases hm:Fw (aO e) ((rs.filter (cU row)).flatMap (·.outs)) with
  |false=>rfl
  |true=>
   obtain⟨q,hq,z⟩:=qe.mp (memK_iff.mp hm);have hq':=b4.mp hq;exact absurd z (h2 q hq'.1 hq'.2)
theorem Rel.note (Q:Rel c own S rs kn) (I:HInv c own S) (ha:a<c) (r1:r.a=a) (r2:r.b=own a+1) (ro:r.outs.length<64) (rk:∀ q∈r.outs,KeyIn c own q) (rs':∀ q∈r.outs,fU (kn a a) q=true)
  (k1:hd'.knows=(S a).knows.set a ((kn a a).set a r.b)) (t1:∀ e,e∈hd'.table.map (·.2)↔(e∈(S a).table.map (·.2)∨r.ent=v9 e)/\aO e∉r.outs):
  Rel c (cK own a) (iE S a hd') (rs++[r]) (upF kn a (upF (kn a) a ((kn a a).set a r.b))):=by
 have len:=(Q.row I ha ha).2;have oe:=Q.ownE I ha;have bo:cK own a a=own a+1:=by unfold cK;rw[if_pos rfl]
 have le':=gX own a
 -- what is seen
 have s1:∀ q∈rs,cU ((kn a a).set a r.b) q=cU (kn a a) q:=fun q hq=>by
  unfold cU;rw[jD _ _ _ _ (by omega)]
  by_cases h:q.a=a
  ·rw[if_pos h,h,oe]
   have:=Q.recs.inn q hq
   rw[h] at this;rw[decide_eq_true (by omega),decide_eq_true (by omega)]
  ·rw[if_neg h]
 have s2:cU ((kn a a).set a r.b) r=true:=by
  unfold cU;rw[jD _ _ _ _ (by omega),if_pos r1];exact decide_eq_true (ju _)
 have s3:∀ i,i<c->i≠a->cU (kn i i) r=false:=fun i hi hne=>by
  unfold cU;refine decide_eq_false fun z=> ?_
  have:=((I i hi).1.kb _ (Q.row I hi hi).1 a ha).2
  rw[r1] at z;omega
 have sk:∀ q,fU (kn a a) q=true->fU ((kn a a).set a r.b) q=true:=fun q hq=>by
  unfold fU at hq ⊢;split at hq
  ·rename_i x y
   have hq':=of_decide_eq_true hq;refine decide_eq_true ?_;rw[jD _ _ _ _ (by omega)]
   by_cases h:x.toNat=a
   ·rw[if_pos h];rw[h,oe] at hq';omega
   ·rw[if_neg h];exact hq'
  ·cases hq
 have nk:r.key∉rs.map Rec.key:=fun z=>by
  obtain⟨q,hq,e⟩:=av.mp z
  have:=Q.recs.inn q hq
  unfold Rec.key fI at e;simp at e;have e1:q.a=a:=by omega
  rw[e1] at this;omega
 refine⟨fun i hi=> ?_,⟨?_,fun q hq=> ?_,fun q hq=> ?_⟩,fun i hi e=> ?_,fun i hi q hq hs x hx=> ?_,fun i j hi hj t ht=> ?_⟩
 ·by_cases h:i=a
  ·subst h;rw[iJ,k1,Q.knows i hi,vE,dD]
  ·rw[iI h,cW h];exact Q.knows i hi
 ·rw[ck,jn];refine⟨Q.recs.keys,by simp,fun x hx y hy z=>nk ?_⟩
  have:y=r.key:=by simpa using hy
  rw[<- this,<- z];exact hx
 ·rcases cj.mp hq with z|z
  ·have:=Q.recs.inn q z
   exact⟨this.1,this.2.1,ci this.2.2 (le' _)⟩
  ·rw[cg.mp z,r1,r2,bo];omega
 ·rcases cj.mp hq with z|z
  ·exact⟨(Q.recs.outs q z).1,fun x hx=>((Q.recs.outs q z).2 x hx).mono le'⟩
  ·rw[cg.mp z];exact⟨ro,fun x hx=>(rk x hx).mono le'⟩
 ·by_cases h:i=a
  ·subst h;rw[iJ,dD,dD,t1,Q.tab i hi,mem_pres,mem_pres];constructor
   ·rintro⟨h1,h2⟩
    refine⟨?_,fun q hq hs=> ?_⟩
    ·rcases h1 with⟨⟨q,hq,hs,he⟩,_⟩|h1
     ·exact⟨q,dc _ hq,by rw[s1 q hq];exact hs,he⟩
     ·exact⟨r,by simp,s2,h1⟩
    ·rcases cj.mp hq with z|z
     ·rcases h1 with⟨_,h3⟩|h1
      ·exact h3 q z (by rw[<- s1 q z];exact hs)
      ·intro w
       have:=((Q.recs.outs q z).2 _ w)
       rw[fQ h1] at this;obtain⟨x,y,g1,g2,g3,e⟩:=this;unfold Rec.key fI at e;simp at e
       have:x=i:=by omega
       rw[this] at g3;omega
     ·rw[cg.mp z];exact h2
   ·rintro⟨⟨q,hq,hs,he⟩,h2⟩
    refine⟨?_,h2 r (by simp) s2⟩;rcases cj.mp hq with z|z
    ·exact .inl ⟨⟨q,z,by rw[<- s1 q z];exact hs,he⟩,fun p hp hps=>h2 p (dc _ hp) (by rw[s1 p hp];exact hps)⟩
    ·rw[cg.mp z] at he;exact .inr he
  ·rw[iI h,cW h,Q.tab i hi,mem_pres,mem_pres];constructor
   ·rintro⟨⟨q,hq,hs,he⟩,h2⟩
    refine⟨⟨q,dc _ hq,hs,he⟩,fun p hp hps=> ?_⟩;rcases cj.mp hp with z|z
    ·exact h2 p z hps
    ·rw[cg.mp z,s3 i hi h] at hps;cases hps
   ·rintro⟨⟨q,hq,hs,he⟩,h2⟩
    refine⟨?_,fun p hp hps=>h2 p (dc _ hp) hps⟩;rcases cj.mp hq with z|z
    ·exact⟨q,z,hs,he⟩
    ·rw[cg.mp z,s3 i hi h] at hs;cases hs
 ·by_cases h:i=a
  ·subst h;rw[dD,dD] at hs ⊢;rcases cj.mp hq with z|z
   ·exact sk _ (Q.clo i hi q z (by rw[<- s1 q z];exact hs) x hx)
   ·rw[cg.mp z] at hx;exact sk _ (rs' x hx)
  ·rw[cW h] at hs ⊢;rcases cj.mp hq with z|z
   ·exact Q.clo i hi q z hs x hx
   ·rw[cg.mp z,s3 i hi h] at hs;cases hs
 ·have grow:∀ t,(kn a a).getD t 0<=((kn a a).set a (r.b:Int)).getD t 0:=fun t=>by
   rw[jD _ _ _ _ (by omega)]
   by_cases h:t=a
   ·rw[if_pos h,h,oe];omega
   ·rw[if_neg h];exact ju _
  by_cases h:i=a
  ·subst h;rw[dD]
   by_cases h2:j=i
   ·subst h2;simp only[dD];exact ju _
   ·rw[cW h2,cW h2];exact Q.le i j hi hj t ht
  ·rw[cW h]
   by_cases h2:j=a
   ·subst h2;rw[dD,dD];exact Int.le_trans (Q.le i j hi hj t ht) (grow t)
   ·rw[cW h2];exact Q.le i j hi hj t ht
end
theorem FS {k:List Key}:(k,v)∈iG T k v:=by
 unfold iG;split
 ·rename_i h
  obtain⟨p,hp,e⟩:=ni.mp h;have e':=of_decide_eq_true e;exact av.mpr ⟨p,hp,by rw[if_pos e',e']⟩
 ·simp
theorem BA {p:List Key×D} (hp:p∈T) (h:p.1≠k∨p.2=v):p∈iG T k v:=by
 unfold iG;split
 ·refine av.mpr ⟨p,hp,?_⟩
  by_cases e:p.1=k
  ·rw[if_pos e];rcases h with z|z
   ·exact absurd e z
   ·rw[<- z]
  ·rw[if_neg e]
 ·exact dc _ hp
theorem mX:∀ {out:List D}{T:List (List Key×D)}{d:D},(∀ d'∈out,aO d=aO d'->d=d')->(aO d,d)∈T->(aO d,d)∈mY out T
 |[],_,_,_,h=>h
 |x::out,T,d,hu,h=>by
  refine mX (out:=out) (fun d' hd'=>hu d' (ai _ hd')) (BA h ?_)
  by_cases e:aO d=aO x
  ·exact .inr (hu x ar e)
  ·exact .inl e
theorem uR:∀ {out:List D}{T:List (List Key×D)}{d:D},(∀ d'∈out,aO d=aO d'->d=d')->d∈out->(aO d,d)∈mY out T
 |[],_,_,_,h=>by simp at h
 |x::out,T,d,hu,h=>by
  rcases aj.mp h with rfl|h
  ·exact mX (out:=out) (fun d' hd'=>hu d' (ai _ hd')) FS
  ·exact uR (out:=out) (fun d' hd'=>hu d' (ai _ hd')) h
theorem Bv (hu:∀ d∈out,∀ d'∈out,aO d=aO d'->d=d') (e:D):e∈(mY out []).map (·.2)↔e∈out:=by
 constructor
 ·intro h;obtain⟨p,hp,rfl⟩:=av.mp h;rcases mW hp with z|⟨d,hd,rfl⟩
  ·simp at z
  ·exact hd
 ·exact fun h=>av.mpr ⟨(aO e,e),uR (hu e h) h,rfl⟩
section
variable {c:Nat}{own:Nat->Nat}{S:Nat->Hd}{rs:List Rec}{kn:Nat->Nat->List Int}{one other:Nat}
theorem Al {f:List Int->List Int->List Int}:∀ l:List Nat,bu f (l.map p) (l.map q)=l.map fun k=>f (p k) (q k)
 |[]=>rfl
 |x::l=>by
  rw[bq,bq,i9,Al l,bq]
theorem DT:∀ {rs:List Rec}{r r':Rec},(rs.map Rec.key).Nodup->r∈rs->r'∈rs->r.key=r'.key->r=r'
 |[],_,_,_,hr,_,_=>by simp at hr
 |x::l,r,r',nd,hr,hr',hk=>by
  rw[bq,b9] at nd;rcases aj.mp hr with z|z
  ·rcases aj.mp hr' with w|w
   ·rw[z,w]
   ·exact absurd (av.mpr ⟨r',w,by rw[<- hk,z]⟩) nd.1
  ·rcases aj.mp hr' with w|w
   ·exact absurd (av.mpr ⟨r,z,by rw[hk,w]⟩) nd.1
   ·exact DT nd.2 z w hk
theorem nJ (row:List Int) (r:Rec):fU row r.key=cU row r:=by
 show decide ((r.b:Int)<=row.getD (r.a:Int).toNat 0)=_;rw[fu];rfl
theorem Rel.hear (Q:Rel c own S rs kn) (I:HInv c own S) (c0:0<c) (c8:c<=8) (ht:tot c own<64) (h1:one<c) (h2:other<c) (hne:one≠other):Rel c own (jJ S one other) rs (upF kn other (moR c kn one other)):=by
 have lenK:∀ i j,i<c->j<c->(kn i j).length=c:=fun i j hi hj=>(Q.row I hi hj).2;have moL:∀ k,(moR c kn one other k).length=c:=fun k=>by unfold moR;simp
 have moG:∀ k t,t<c->(moR c kn one other k).getD t 0=mo kn one other k t:=fun k t ht=>jE ht;have W1:=(I one h1).1;have W2:=(I other h2).1;have O1:=W1.ok c0 c8 ht;have O2:=W2.ok c0 c8 ht
 -- the row of what is seen
 have J:moR c kn one other other=bu mx (kn other other) (kn one one):=by
  refine tK (moL other) (by rw[d7,lenK _ _ h2 h2,lenK _ _ h1 h1,ir]) fun t htc=> ?_;rw[moG other t htc,uJ (by rw[lenK _ _ h2 h2];exact htc) (by rw[lenK _ _ h1 h1];exact htc)]
  have:=Q.le one other h1 h2 t htc
  unfold mo;rw[if_pos rfl];unfold mx;omega
 have Jg:∀ t,t<c->(moR c kn one other other).getD t 0=mx ((kn other other).getD t 0) ((kn one one).getD t 0):=fun t htc=>by
  rw[J,uJ (by rw[lenK _ _ h2 h2];exact htc) (by rw[lenK _ _ h1 h1];exact htc)]
 have sJ:∀ r∈rs,(cU (moR c kn one other other) r=true↔cU (kn other other) r=true∨cU (kn one one) r=true):=fun r hr=>by
  have hra:=(Q.recs.inn r hr).1;unfold cU;rw[Jg r.a hra];simp only[decide_eq_true_eq];unfold mx;omega
 have sKJ:∀ q,KeyIn c own q->(fU (moR c kn one other other) q=true↔fU (kn other other) q=true∨fU (kn one one) q=true):=fun q hq=>by
  obtain⟨x,y,g1,_,_,rfl⟩:=hq;show decide ((y:Int)<=(moR c kn one other other).getD (x:Int).toNat 0)=true↔decide ((y:Int)<=(kn other other).getD (x:Int).toNat 0)=true∨decide ((y:Int)<=(kn one one).getD (x:Int).toNat 0)=true;rw[fu,Jg x g1];simp only[decide_eq_true_eq];unfold mx;omega
 have uniq:∀ {r r':Rec}{e e':D},r∈rs->r'∈rs->r.ent=v9 e->r'.ent=v9 e'->aO e=aO e'->e=e':=fun {r r' e e'} hr hr' he he' hk=>by
  rw[fQ he,fQ he'] at hk
  have:r=r':=DT Q.recs.keys hr hr' hk
  rw[this,he'] at he;cases he;rfl
 have pm1:∀ e,e∈(S one).ents↔e∈jK rs (kn one one):=fun e=>by rw[O1.ents.2.mem_iff];exact Q.tab one h1 e
 have pm2:∀ e,e∈(S other).ents↔e∈jK rs (kn other other):=fun e=>by rw[O2.ents.2.mem_iff];exact Q.tab other h2 e
 have lv:∀ i,i<c->(S i).Ok c->∀ {r:Rec}{e:D},r∈rs->r.ent=v9 e->((S i).leaves i e=true↔e∈jK rs (kn i i)∨cU (kn i i) r=false):=by
  intro i hi O r e hr he;unfold Hd.leaves;rw[Q.seen hi,fQ he,nJ,gz];have h3:(iF (S i).table r.key).isSome=true↔e∈jK rs (kn i i):=by
   constructor
   ·intro z;obtain⟨v,hv⟩:=l0.mp z;unfold iF at hv;obtain⟨p,hp,rfl⟩:=mw.mp hv;have hpm:=pp hp;have hpk:p.1=r.key:=by
     have:=vo hp
     simpa using this
    have hv2:p.2∈jK rs (kn i i):=(Q.tab i hi p.2).mp (av.mpr ⟨p,hpm,rfl⟩);obtain⟨⟨r',hr',_,he'⟩,_⟩:=mem_pres.mp hv2;have hk2:aO p.2=p.1:=by
     obtain⟨x,y,_,_,_,e1,u,w,e2⟩:=(I i hi).1.tk p hpm;rw[e2,e1];rfl
    have:e=p.2:=uniq hr hr' he he' (by rw[fQ he,hk2,hpk])
    rw[this];exact hv2
   ·intro z;obtain⟨p,hp,e2⟩:=av.mp ((Q.tab i hi e).mpr z);have hk2:aO p.2=p.1:=by
     obtain⟨x,y,_,_,_,e1,u,w,e2⟩:=(I i hi).1.tk p hp;rw[e2,e1];rfl
    have:r.key∈(S i).table.map (·.1):=av.mpr ⟨p,hp,by rw[<- hk2,e2,fQ he]⟩
    obtain⟨v,hv⟩:=CF this;rw[hv];rfl
  rw[h3];cases cU (kn i i) r <;> simp
 refine⟨fun i hi=> ?_,Q.recs,fun i hi e=> ?_,fun i hi q hq hs x hx=> ?_,fun i j hi hj t htc=> ?_⟩
 ·by_cases h:i=other
  ·subst h;unfold jJ;rw[iJ,dD]
   show(bu (bu mx) (S i).knows (S one).knows).set i (bu mx ((S i).seen i) ((S one).seen one))=_
   rw[Q.knows i hi,Q.knows one h1,Al,vE,Q.seen hi,Q.seen h1];apply gw;intro k hk;have hkc:=gq.mp hk
   by_cases hki:k=i
   ·subst hki;rw[dD,J]
   ·rw[cW hki];refine tK (by rw[d7,lenK _ _ hi hkc,lenK _ _ h1 hkc,ir]) (moL k) fun t htc=> ?_;rw[moG k t htc,uJ (by rw[lenK _ _ hi hkc];exact htc) (by rw[lenK _ _ h1 hkc];exact htc)];unfold mo;rw[if_neg hki];unfold mx;omega
  ·unfold jJ;rw[iI h,cW h];exact Q.knows i hi
 ·by_cases h:i=other
  ·subst h;unfold jJ;rw[iJ,dD];show e∈(mY ((S i).hearT i (S one) one) []).map (·.2)↔_;have hrec:∀ d∈(S i).hearT i (S one) one,∃ r∈rs,r.ent=v9 d:=fun d hd=>by
    rcases cj.mp hd with z|z
    ·obtain⟨⟨r,hr,_,he⟩,_⟩:=mem_pres.mp ((pm2 d).mp (b4.mp z).1);exact⟨r,hr,he⟩
    ·obtain⟨⟨r,hr,_,he⟩,_⟩:=mem_pres.mp ((pm1 d).mp (b4.mp z).1);exact⟨r,hr,he⟩
   rw[Bv fun d hd d' hd' hk=>by
    obtain⟨r,hr,he⟩:=hrec d hd;obtain⟨r',hr',he'⟩:=hrec d' hd';exact uniq hr hr' he he' hk]
   unfold Hd.hearT;rw[cj,b4,b4,pm1,pm2];constructor
   ·intro z
    -- e is a deed's entry
    have he:∃ r∈rs,r.ent=v9 e:=by
     rcases z with z|z
     ·obtain⟨⟨r,hr,_,he⟩,_⟩:=mem_pres.mp z.1;exact⟨r,hr,he⟩
     ·obtain⟨⟨r,hr,_,he⟩,_⟩:=mem_pres.mp z.1;exact⟨r,hr,he⟩
    obtain⟨r,hr,he⟩:=he;rw[lv one h1 O1 hr he,lv i hi O2 hr he] at z;rw[mem_pres];have sr:∀ {row:List Int},e∈jK rs row->cU row r=true:=fun {row} q=>by
     obtain⟨⟨r',hr',hs',he'⟩,_⟩:=mem_pres.mp q;have hk:r'.key=r.key:=by rw[<- fQ he',fQ he]
     rw[<- nJ,<- hk,nJ];exact hs'
    have both:(e∈jK rs (kn i i)/\e∈jK rs (kn one one))∨(e∈jK rs (kn i i)/\cU (kn one one) r=false)∨(e∈jK rs (kn one one)/\cU (kn i i) r=false):=by
     rcases z with⟨z1,z2|z2⟩|⟨z1,z2|z2⟩
     ·exact .inl ⟨z1,z2⟩
     ·exact .inr (.inl ⟨z1,z2⟩)
     ·exact .inl ⟨z2,z1⟩
     ·exact .inr (.inr ⟨z1,z2⟩)
    have clos:∀ k,k<c->cU (kn k k) r=false->∀ p∈rs,cU (kn k k) p=true->aO e∉p.outs:=fun k hk hs p hp hps w=>by
     have:=Q.clo k hk p hp hps _ w
     rw[fQ he,nJ,hs] at this;cases this
    refine⟨⟨r,hr,(sJ r hr).mpr ?_,he⟩,fun p hp hps=> ?_⟩
    ·rcases both with z|z|z
     ·exact .inl (sr z.1)
     ·exact .inl (sr z.1)
     ·exact .inr (sr z.1)
    ·rcases(sJ p hp).mp hps with w|w
     ·rcases both with z|z|z
      ·exact(mem_pres.mp z.1).2 p hp w
      ·exact(mem_pres.mp z.1).2 p hp w
      ·exact clos i hi z.2 p hp w
     ·rcases both with z|z|z
      ·exact(mem_pres.mp z.2).2 p hp w
      ·exact clos one h1 z.2 p hp w
      ·exact(mem_pres.mp z.1).2 p hp w
   ·intro z;obtain⟨⟨r,hr,hs,he⟩,hn⟩:=mem_pres.mp z;have inP:∀ k,k<c->(∀ p∈rs,cU (kn k k) p=true->cU (moR c kn one i i) p=true)->cU (kn k k) r=true->e∈jK rs (kn k k):=fun k hk hsub hks=>mem_pres.mpr ⟨⟨r,hr,hks,he⟩,fun p hp hps=>hn p hp (hsub p hp hps)⟩;have p2:=inP i hi fun p hp q=>(sJ p hp).mpr (.inl q);have p1:=inP one h1 fun p hp q=>(sJ p hp).mpr (.inr q);rw[lv one h1 O1 hr he,lv i hi O2 hr he]
    rcases(sJ r hr).mp hs with w|w
    ·cases hq:cU (kn one one) r with
     |true=>exact .inl ⟨p2 w,.inl (p1 hq)⟩
     |false=>exact .inl ⟨p2 w,.inr rfl⟩
    ·cases hq:cU (kn i i) r with
     |true=>exact .inr ⟨p1 w,.inl (p2 hq)⟩
     |false=>exact .inr ⟨p1 w,.inr rfl⟩
  ·unfold jJ;rw[iI h,cW h];exact Q.tab i hi e
 ·by_cases h:i=other
  ·subst h;rw[dD] at hs ⊢;have kx:=(Q.recs.outs q hq).2 x hx
   rcases(sJ q hq).mp hs with w|w
   ·exact(sKJ x kx).mpr (.inl (Q.clo i hi q hq w x hx))
   ·exact(sKJ x kx).mpr (.inr (Q.clo one h1 q hq w x hx))
  ·rw[cW h] at hs ⊢;exact Q.clo i hi q hq hs x hx
 ·by_cases h:i=other
  ·subst h;rw[dD]
   by_cases hji:j=i
   ·subst hji;rw[dD];exact ju _
   ·rw[cW hji,moG j t htc];have e1:=Q.le one j h1 hj t htc;have e2:=Q.le i j hi hj t htc;unfold mo;rw[if_neg hji];unfold mx;omega
  ·rw[cW h]
   by_cases hji:j=other
   ·subst hji;rw[dD,Jg t htc];have e1:=Q.le i j hi hj t htc;unfold mx;omega
   ·rw[cW hji];exact Q.le i j hi hj t htc
end
theorem drops_mem:∀ {ks:List (List Key)}{T:List (List Key×D)},p∈ks.foldl dS T↔p∈T/\p.1∉ks
 |[],T=>by simp
 |k::ks,T=>by
  show p∈ks.foldl dS (dS T k)↔_;rw[drops_mem];unfold dS;rw[b4,aj,not_or];constructor
  ·rintro⟨⟨h1,h2⟩,h3⟩
   exact⟨h1,by simpa using h2,h3⟩
  ·rintro⟨h1,h2,h3⟩
   exact⟨⟨h1,by simpa using h2⟩,h3⟩
section
variable {c:Nat}{own:Nat->Nat}{S:Nat->Hd}{rs:List Rec}{kn:Nat->Nat->List Int}{a:Nat}
theorem Hd.In.tkey {hd:Hd} (W:hd.In c own) (hp:p∈hd.table):aO p.2=p.1:=by
 obtain⟨x,y,_,_,_,e1,u,w,e2⟩:=W.tk p hp;rw[e2,e1];rfl
theorem AG (I:HInv c own S) (ha:a<c):(S a).next a=((own a+1:Nat):Int):=by
 unfold Hd.next;rw[(I a ha).2];omega
theorem JK (I:HInv c own S) (ha:a<c):fI a ((own a+1:Nat):Int)∉(S a).table.map (·.1):=fun z=>by
 obtain⟨p,hp,e⟩:=av.mp z;obtain⟨x,y,_,_,g3,e1,_⟩:=(I a ha).1.tk p hp;rw[e1] at e;unfold fI at e;simp at e
 have:x=a:=by omega
 rw[this] at g3;omega
theorem lP (Q:Rel c own S rs kn) (I:HInv c own S) (ha:a<c):((S a).bump a).knows=(S a).knows.set a ((kn a a).set a ((own a+1:Nat):Int)):=by
 show(S a).knows.set a (((S a).seen a).set a (((S a).seen a).getD a 0+1))=_
 rw[(I a ha).2,Q.seen ha];rfl
theorem Az (I:HInv c own S) (ha:a<c) (x:Str) (v:Int) (e:D):e∈((S a).put a x v).table.map (·.2)↔e∈(S a).table.map (·.2)∨v9 (D.tup [.str x,mkD a ((own a+1:Nat):Int),.int v])=v9 e:=by
 show e∈(iG (S a).table (fI a ((S a).next a)) (.tup [.str x,mkD a ((S a).next a),.int v])).map (·.2)↔_;rw[AG I ha,AA (JK I ha),ck,cj];simp only[bq,l7,cg,Option.some.injEq];constructor
 ·rintro(z|z)
  ·exact .inl z
  ·exact .inr z.symm
 ·rintro(z|z)
  ·exact .inl z
  ·exact .inr z.symm
theorem IH (Q:Rel c own S rs kn) (I:HInv c own S) (ha:a<c) (x:Str) (v:Int):HInv c (cK own a) (iE S a ((S a).put a x v))/\Rel c (cK own a) (iE S a ((S a).put a x v)) (rs++[⟨a,own a+1,v9 (x,v),[]⟩]) (upF kn a (upF (kn a) a ((kn a a).set a ((own a+1:Nat):Int)))):=by
 have W:=(I a ha).1;refine⟨I.updB (W.put ha (I a ha).2 x v) (jH W ha (I a ha).2),Q.note I ha (r:=⟨a,own a+1,v9 (x,v),[]⟩) rfl rfl (by simp) (fun q hq=>by simp at hq) (fun q hq=>by simp at hq) (lP Q I ha) fun e=> ?_⟩;rw[Az I ha x v e];show _↔(_∨v9 _=v9 e)/\_;simp
theorem qZ (Q:Rel c own S rs kn) (I:HInv c own S) (O:(S a).Ok c) (ha:a<c) (x:Str):∀ q∈(S a).marksK x,fU (kn a a) q=true:=fun q hq=>by
 obtain⟨p,hp,rfl⟩:=av.mp (O.marksIn x q hq);have h1:p.2∈jK rs (kn a a):=(Q.tab a ha p.2).mp (av.mpr ⟨p,hp,rfl⟩);obtain⟨⟨r,hr,hs,he⟩,_⟩:=mem_pres.mp h1;rw[<- (I a ha).1.tkey hp,fQ he,nJ];exact hs
theorem qS (Q:Rel c own S rs kn) (I:HInv c own S) (c0:0<c) (c8:c<=8) (ht:tot c own<63) (ha:a<c) (x:Str) (v:Int):HInv c (cK own a) (iE S a ((S a).change a x v))/\Rel c (cK own a) (iE S a ((S a).change a x v)) (rs++[⟨a,own a+1,v9 (x,v),(S a).marksK x⟩]) (upF kn a (upF (kn a) a ((kn a a).set a ((own a+1:Nat):Int)))):=by
 have W:=(I a ha).1;have O:=W.ok c0 c8 (by omega);have P:=W.put ha (I a ha).2 x v;have T:=P.takeOut0 (mk:=fI a ((S a).next a)) (ks:=(S a).marksK x) (kO ha (I a ha).2) (O.marksLen x) fun q hq=>(W.marks O x q hq).mono (gX own a);refine⟨I.updB T.forget (jH W ha (I a ha).2),Q.note I ha (r:=⟨a,own a+1,v9 (x,v),(S a).marksK x⟩) rfl rfl (O.marksLen x) (W.marks O x) (qZ Q I O ha x) (lP Q I ha) fun e=> ?_⟩;show e∈(((S a).marksK x).foldl dS ((S a).put a x v).table).map (·.2)↔(_∨v9 _=v9 e)/\_;rw[<- Az I ha x v e];constructor
 ·intro z;obtain⟨p,hp,rfl⟩:=av.mp z;have hp':=drops_mem.mp hp;exact⟨av.mpr ⟨p,hp'.1,rfl⟩,by rw[P.tkey hp'.1];exact hp'.2⟩
 ·rintro⟨z,w⟩
  obtain⟨p,hp,rfl⟩:=av.mp z;rw[P.tkey hp] at w;exact av.mpr ⟨p,drops_mem.mpr ⟨hp,w⟩,rfl⟩
theorem FK (Q:Rel c own S rs kn) (I:HInv c own S) (c0:0<c) (c8:c<=8) (ht:tot c own<63) (ha:a<c) (x:Str) (hm:(S a).marksK x≠[]):HInv c (cK own a) (iE S a ((S a).take a x))/\Rel c (cK own a) (iE S a ((S a).take a x)) (rs++[⟨a,own a+1,wb,(S a).marksK x⟩]) (upF kn a (upF (kn a) a ((kn a a).set a ((own a+1:Nat):Int)))):=by
 have W:=(I a ha).1;have O:=W.ok c0 c8 (by omega);have P:=W.bump ha (I a ha).2;have T:=P.takeOut0 (mk:=fI a ((S a).next a)) (ks:=(S a).marksK x) (kO ha (I a ha).2) (O.marksLen x) fun q hq=>(W.marks O x q hq).mono (gX own a);have et:(S a).take a x=((S a).bump a).takeOut (fI a ((S a).next a)) ((S a).marksK x):=by unfold Hd.take;rw[if_neg hm]
 rw[et];refine⟨I.updB T.forget (jH W ha (I a ha).2),Q.note I ha (r:=⟨a,own a+1,wb,(S a).marksK x⟩) rfl rfl (O.marksLen x) (W.marks O x) (qZ Q I O ha x) (lP Q I ha) fun e=> ?_⟩;show e∈(((S a).marksK x).foldl dS (S a).table).map (·.2)↔(_∨wb=v9 e)/\_;constructor
 ·intro z;obtain⟨p,hp,rfl⟩:=av.mp z;have hp':=drops_mem.mp hp;exact⟨.inl (av.mpr ⟨p,hp'.1,rfl⟩),by rw[W.tkey hp'.1];exact hp'.2⟩
 ·rintro⟨z|z,w⟩
  ·obtain⟨p,hp,rfl⟩:=av.mp z;rw[W.tkey hp] at w;exact av.mpr ⟨p,drops_mem.mpr ⟨hp,w⟩,rfl⟩
  ·cases z
theorem kP (I:HInv c own S) (c0:0<c) (c8:c<=8) (ht:tot c own<64) (hi:i<c) (hj:j<c):HInv c own (jJ S j i):=by
 have Wi:=(I i hi).1;have Wj:=(I j hj).1;have H0:=Wi.hear0 Wj (Wi.ok c0 c8 ht) (Wj.ok c0 c8 ht) hi hj;exact I.upd H0.forget (AS Wi Wj hi hj (I i hi).2)
end
theorem JM {a b:Int} (h:b<=a):mx a b=a:=by unfold mx;split <;> omega
section
variable {c:Nat}{own:Nat->Nat}{S:Nat->Hd}{rs:List Rec}{kn:Nat->Nat->List Int}{a b i t:Nat}
theorem OH {one other k j:Nat} (hj:j<c):(moR c kn one other k).getD j 0=mo kn one other k j:=jE hj
theorem sV (Q:Rel c own S rs kn) (ha:a<c) (hb:b<c) (ht:t<c):(moR c kn a b b).getD t 0=mx ((kn a a).getD t 0) ((kn b b).getD t 0):=by
 rw[OH ht]
 have:=Q.le a b ha hb t ht
 unfold mo;rw[if_pos rfl];unfold mx
 repeat' split
 all_goals omega
theorem HM (Q:Rel c own S rs kn) (I:HInv c own S) (hi:i<c) (ht:t<c):(kn i i).getD t 0<=own t:=((I i hi).1.kb _ (Q.row I hi hi).1 t ht).2
theorem sL (I:HInv c own S) (Q:Rel c own S rs kn) (c0:0<c) (c8:c<=8) (ht:tot c own<64) (ha:a<c) (hb:b<c) (hne:a≠b):∃ kn',HInv c own (sR S a b)/\Rel c own (sR S a b) rs kn'/\(∀ t,t<c->(kn' a a).getD t 0=mx ((kn a a).getD t 0) ((kn b b).getD t 0))/\(∀ t,t<c->(kn' b b).getD t 0=mx ((kn a a).getD t 0) ((kn b b).getD t 0))/\∀ i,i≠a->i≠b->kn' i i=kn i i:=by
 have I1:=kP I c0 c8 ht hb ha;have Q1:=Q.hear I c0 c8 ht ha hb hne;have I2:=kP I1 c0 c8 ht ha hb;have Q2:=Q1.hear I1 c0 c8 ht hb ha (c5 hne);have I3:=kP I2 c0 c8 ht hb ha;have Q3:=Q2.hear I2 c0 c8 ht ha hb hne;have r1:∀ t,t<c->(upF kn b (moR c kn a b) b b).getD t 0=mx ((kn a a).getD t 0) ((kn b b).getD t 0):=fun t ht=>by rw[dD];exact sV Q ha hb ht
 have r1a:upF kn b (moR c kn a b) a a=kn a a:=by rw[cW hne]
 have r2:∀ t,t<c->(upF (upF kn b (moR c kn a b)) a (moR c (upF kn b (moR c kn a b)) b a) a a).getD t 0=mx ((kn a a).getD t 0) ((kn b b).getD t 0):=fun t ht=>by
  rw[dD,sV Q1 hb ha ht,r1 t ht,r1a];unfold mx
  repeat' split
  all_goals omega
 have r2b:upF (upF kn b (moR c kn a b)) a (moR c (upF kn b (moR c kn a b)) b a) b b=upF kn b (moR c kn a b) b b:=by rw[cW (c5 hne)]
 refine⟨_,I3,Q3,fun t ht=> ?_,fun t ht=> ?_,fun i hia hib=> ?_⟩
 ·rw[cW hne];exact r2 t ht
 ·rw[dD,sV Q2 ha hb ht,r2 t ht,r2b,r1 t ht];exact JM (ju _)
 ·rw[cW hib,cW hia,cW hib]
theorem mZ (ha:a<c) (hb:b<c) (hne:a≠b):(step c S (.meet (a:Int) (b:Int))).2=sR S a b:=by
 have e:step c S (.meet (a:Int) (b:Int))=(_,sR S a b):=(if_pos ⟨⟨by omega,by omega⟩,by omega,by omega⟩).trans (if_neg (by omega));rw[e]
noncomputable def iA (k:Nat):List Deed:=(bz k).map fun(j:Nat)=>.meet (j:Int) ((j:Int)+1)
noncomputable def qC (c k:Nat):List Deed:=(bz k).map fun(j:Nat)=>.meet ((c:Int)-2+(j:Int)* -1+1) ((c:Int)-2+(j:Int)* -1)
theorem As (I:HInv c own S) (Q:Rel c own S rs kn) (c0:0<c) (c8:c<=8) (ht:tot c own<64):∀ k,k<c->∃ kn',HInv c own (fT c (iA k) S).2/\Rel c own (fT c (iA k) S).2 rs kn'/\(∀ j,j<=k->∀ t,t<c->(kn j j).getD t 0<=(kn' k k).getD t 0)/\∀ j,k<j->kn' j j=kn j j
 |0,hk=>⟨kn,I,Q,fun j hj t _=>by rw[show j=0 by omega];exact ju _,fun _ _=>rfl⟩
 |k+1,hk=>by
  obtain⟨kn1,I1,Q1,h1,h2⟩:=As I Q c0 c8 ht k (by omega);obtain⟨kn2,I2,Q2,g1,g2,g3⟩:=sL I1 Q1 c0 c8 ht (a:=k) (b:=k+1) (by omega) hk (by omega);have e:(fT c (iA (k+1)) S).2=sR (fT c (iA k) S).2 k (k+1):=by
   unfold iA;rw[ln,ck,eU];exact mZ (b:=k+1) (by omega) hk (by omega)
  rw[e];refine⟨kn2,I2,Q2,fun j hj t ht=> ?_,fun j hj=> ?_⟩
  ·rw[g2 t ht,h2 (k+1) (by omega)]
   by_cases hjk:j=k+1
   ·rw[hjk];unfold mx;split <;> omega
   ·have:=h1 j (by omega) t ht
    unfold mx;split <;> omega
  ·rw[g3 j (by omega) (by omega)];exact h2 j (by omega)
theorem Fh (I:HInv c own S) (Q:Rel c own S rs kn) (c0:0<c) (c8:c<=8) (ht:tot c own<64) (full:∀ t,t<c->(kn (c-1) (c-1)).getD t 0=own t):∀ k,k<c->∃ kn',HInv c own (fT c (qC c k) S).2/\Rel c own (fT c (qC c k) S).2 rs kn'/\∀ j,c<=j+k+1->j<c->∀ t,t<c->(kn' j j).getD t 0=own t
 |0,hk=>⟨kn,I,Q,fun j hj hc t ht=>by rw[show j=c-1 by omega];exact full t ht⟩
 |k+1,hk=>by
  obtain⟨kn1,I1,Q1,h1⟩:=Fh I Q c0 c8 ht full k (by omega);obtain⟨kn2,I2,Q2,g1,g2,g3⟩:=sL I1 Q1 c0 c8 ht (a:=c-2-k+1) (b:=c-2-k) (by omega) (by omega) (by omega);have e:(fT c (qC c (k+1)) S).2=sR (fT c (qC c k) S).2 (c-2-k+1) (c-2-k):=by
   unfold qC;rw[ln,ck,eU];have e1:(c:Int)-2+(k:Int)* -1+1=((c-2-k+1:Nat):Int):=by omega
   have e2:(c:Int)-2+(k:Int)* -1=((c-2-k:Nat):Int):=by omega
   show(step c _ (.meet _ _)).2=_
   rw[e1,e2];exact mZ (by omega) (by omega) (by omega)
  rw[e];refine⟨kn2,I2,Q2,fun j hj hc t ht=> ?_⟩;have f1:=h1 (c-2-k+1) (by omega) (by omega) t ht;have f2:=HM Q1 I1 (i:=c-2-k) (by omega) ht
  by_cases ja:j=c-2-k+1
  ·rw[ja,g1 t ht,f1];exact JM f2
  ·by_cases jb:j=c-2-k
   ·rw[jb,g2 t ht,f1];exact JM f2
   ·rw[g3 j ja jb];exact h1 j (by omega) hc t ht
noncomputable def dH (c:Nat):List Deed:=iA (c-1)++qC c (c-1)
noncomputable def yU (c:Nat) (own:Nat->Nat):List Int:=(bz c).map fun t=>(own t:Int)
theorem uT (I:HInv c own S) (Q:Rel c own S rs kn) (c0:0<c) (c8:c<=8) (ht:tot c own<64):∃ kn',HInv c own (fT c (dH c) S).2/\Rel c own (fT c (dH c) S).2 rs kn'/\∀ i,i<c->kn' i i=yU c own:=by
 obtain⟨kn1,I1,Q1,h1,_⟩:=As I Q c0 c8 ht (c-1) (by omega);obtain⟨kn2,I2,Q2,h2⟩:=Fh I1 Q1 c0 c8 ht (fun t ht'=>by
  have g1:=h1 t (by omega) t ht';have g2:=HM Q1 I1 (i:=c-1) (by omega) ht';rw[Q.ownE I ht'] at g1;omega) (c-1) (by omega)
 unfold dH;rw[eU];refine⟨kn2,I2,Q2,fun i hi=>tK (Q2.row I2 hi hi).2 (by unfold yU;simp) fun t ht=> ?_⟩;unfold yU;rw[jE ht];exact h2 i (by omega) hi t ht
theorem QD (c:Nat):Rel c (fun _=>0) (fun _=>Hd0 c) [] (fun _ _=>aw c 0) where
 knows:=fun i hi=>by
  show aw c (aw c (0:Int))=_;apply kj;intro j;rw[ga,az]
  by_cases h:j<c
  ·rw[if_pos h,gx h];rfl
  ·rw[if_neg h,c3 (by simp;omega)];rfl
 recs:=⟨by simp,fun r hr=>by simp at hr,fun r hr=>by simp at hr⟩
 tab:=fun i hi e=>by simp[Hd0,jK,CM]
 clo:=fun i hi r hr=>by simp at hr
 le:=fun i j hi hj t ht=>ju _
theorem FL (I:HInv c own S) (Q:Rel c own S rs kn) (c0:0<c) (c8:c<=8) (ht:tot c own<63) (d:Deed):∃ rs' kn' own',HInv c own' (step c S d).2/\Rel c own' (step c S d).2 rs' kn'/\tot c own'<=tot c own+1:=by
 have tb:∀ {a:Nat},a<c->tot c (cK own a)<=tot c own+1:=fun {a} ha=>by rw[fW,if_pos ha];omega
 have no:∀ {x:D},∃ rs' kn' own',HInv c own' ((x,S):D×(Nat->Hd)).2/\Rel c own' ((x,S):D×(Nat->Hd)).2 rs' kn'/\tot c own'<=tot c own+1:=⟨rs,kn,own,I,Q,by omega⟩;cases d with
 |put a x v=>
  by_cases hv:0<=a/\a<(c:Int)
  ·obtain⟨n,rfl⟩:=Int.eq_ofNat_of_zero_le hv.1;rw[show step c S (.put n x v)=(mkD n ((S n).next n),iE S n ((S n).put n x v)) from if_pos hv];have RP:=IH Q I (a:=n) (by omega) x v;exact⟨_,_,_,RP.1,RP.2,tb (by omega)⟩
  ·rw[show step c S (.put a x v)=(.str "no hand",S) from if_neg hv];exact no
 |change a x v=>
  by_cases hv:0<=a/\a<(c:Int)
  ·obtain⟨n,rfl⟩:=Int.eq_ofNat_of_zero_le hv.1;rw[show step c S (.change n x v)=(mkD n ((S n).next n),iE S n ((S n).change n x v)) from if_pos hv];have RP:=qS Q I c0 c8 ht (a:=n) (by omega) x v;exact⟨_,_,_,RP.1,RP.2,tb (by omega)⟩
  ·rw[show step c S (.change a x v)=(.str "no hand",S) from if_neg hv];exact no
 |take a x=>
  by_cases hv:0<=a/\a<(c:Int)
  ·obtain⟨n,rfl⟩:=Int.eq_ofNat_of_zero_le hv.1;rw[show step c S (.take n x)=((S n).takeA x,iE S n ((S n).take n x)) from if_pos hv]
   by_cases hm:(S n).marksK x=[]
   ·have et:(S n).take n x=S n:=by unfold Hd.take;rw[if_pos hm]
    have eS:iE S n ((S n).take n x)=S:=by
     rw[et]
     funext j
     by_cases h:j=n
     ·rw[h,iJ]
     ·rw[iI h]
    rw[eS];exact no
   ·have RP:=FK Q I c0 c8 ht (a:=n) (by omega) x hm;exact⟨_,_,_,RP.1,RP.2,tb (by omega)⟩
  ·rw[show step c S (.take a x)=(.str "no hand",S) from if_neg hv];exact no
 |tell a b=>
  by_cases hv:(0<=a/\a<(c:Int))/\(0<=b/\b<(c:Int))
  ·obtain⟨n,rfl⟩:=Int.eq_ofNat_of_zero_le hv.1.1;obtain⟨m,rfl⟩:=Int.eq_ofNat_of_zero_le hv.2.1
   by_cases hnm:(n:Int)=m
   ·rw[show step c S (.tell n m)=(.str "same hand",S) from(if_pos hv).trans (if_pos hnm)];exact no
   ·rw[show step c S (.tell n m)=(.int (pP S n m),jJ S n m) from(if_pos hv).trans (if_neg hnm)];exact⟨_,_,own,kP I c0 c8 (by omega) (by omega) (by omega),Q.hear I c0 c8 (by omega) (by omega) (by omega) (by omega),by omega⟩
  ·rw[show step c S (.tell a b)=(.str "no hand",S) from if_neg hv];exact no
 |meet a b=>
  by_cases hv:(0<=a/\a<(c:Int))/\(0<=b/\b<(c:Int))
  ·obtain⟨n,rfl⟩:=Int.eq_ofNat_of_zero_le hv.1.1;obtain⟨m,rfl⟩:=Int.eq_ofNat_of_zero_le hv.2.1
   by_cases hnm:(n:Int)=m
   ·rw[show step c S (.meet n m)=(.str "same hand",S) from(if_pos hv).trans (if_pos hnm)];exact no
   ·rw[mZ (by omega) (by omega) (by omega)];obtain⟨kn',I',Q',_⟩:=sL I Q c0 c8 (by omega) (a:=n) (b:=m) (by omega) (by omega) (by omega);exact⟨_,_,own,I',Q',by omega⟩
  ·rw[show step c S (.meet a b)=(.str "no hand",S) from if_neg hv];exact no
theorem Dd (c0:0<c) (c8:c<=8):∀(ds:List Deed) {S:Nat->Hd}{own:Nat->Nat}{rs:List Rec}{kn:Nat->Nat->List Int},HInv c own S->Rel c own S rs kn->tot c own+ds.length<64->∃ rs' kn' own',HInv c own' (fT c ds S).2/\Rel c own' (fT c ds S).2 rs' kn'/\tot c own'<=tot c own+ds.length
 |[],S,own,rs,kn,I,Q,ht=>⟨rs,kn,own,I,Q,by simp⟩
 |d::ds,S,own,rs,kn,I,Q,ht=>by
  rw[bw] at ht ⊢;obtain⟨rs1,kn1,own1,I1,Q1,t1⟩:=FL I Q c0 c8 (by omega) d;obtain⟨rs2,kn2,own2,I2,Q2,t2⟩:=Dd c0 c8 ds I1 Q1 (by omega);exact⟨rs2,kn2,own2,I2,Q2,by omega⟩
end
theorem AO:∀ {ds:List D}{a b:D},(ds.map aO).Nodup->a∈ds->b∈ds->aO a=aO b->a=b
 |d::ds,a,b,h,ha,hb,e=>by
  rw[bq,b9] at h;rcases aj.mp ha with za|za <;> rcases aj.mp hb with zb|zb
  ·rw[za,zb]
  ·exact absurd (av.mpr ⟨b,zb,by rw[<- e,za]⟩) h.1
  ·exact absurd (av.mpr ⟨a,za,by rw[e,zb]⟩) h.1
  ·exact AO h.2 za zb e
theorem EntsOk.sorts {ds:List D} (E:EntsOk ds) (hl:ds.length<64):∃ out,dI 4 ds=v9 out/\out.Perm ds:=by
 refine sF hl ?_ fun a ha b hb=>Im (E.1 a ha) (E.1 b hb);unfold iN;rw[gz];right;rw[d5];intro d hd;rw[Bc (E.1 d hd)];rfl
noncomputable abbrev qI (a b:D):Prop:=bV a/\bV b/\dG 4 a b=v9 true
theorem EntsOk.pw {ds out:List D} (h:EntsOk ds) (hs:dI 4 ds=v9 out) (p:out.Perm ds):out.Pairwise qI:=(h.sorted hs).imp_of_mem fun {a b} ha hb q=>⟨h.1 a (p.mem_iff.mp ha),h.1 b (p.mem_iff.mp hb),q⟩
theorem wI {l m:List D} (p:l.Perm m) (h1:l.Pairwise qI) (h2:m.Pairwise qI):l=m:=iM (fun a b x y=>Bd x.1 x.2.1 x.2.2 y.2.2) p h1 h2
section
variable {c:Nat}{own:Nat->Nat}{S:Nat->Hd}{rs:List Rec}{kn:Nat->Nat->List Int}{a b i t:Nat}
theorem uW (R:NB c own rs) {q:Rec} (hq:q∈rs):cU (yU c own) q=true:=by
 unfold cU yU;rw[jE (R.inn q hq).1];exact decide_eq_true (by have:=(R.inn q hq).2.2;omega)
theorem AY (Q:Rel c own S rs kn) (hi:i<c) (hf:kn i i=yU c own) (e:D):e∈(S i).table.map (·.2)↔(∃ q∈rs,q.ent=v9 e)/\∀ q∈rs,aO e∉q.outs:=by
 rw[Q.tab i hi e,hf,mem_pres];exact⟨fun⟨⟨q,h1,_,h3⟩,h4⟩=>⟨⟨q,h1,h3⟩,fun q hq=>h4 q hq (uW Q.recs hq)⟩,fun⟨⟨q,h1,h3⟩,h4⟩=>⟨⟨q,h1,uW Q.recs h1,h3⟩,fun q hq _=>h4 q hq⟩⟩
noncomputable def bU (x:Str) (E:List D):List D:=E.filter fun d=> !cZ x d
noncomputable abbrev xE (a:Nat) (n:Nat) (x:Str) (v:Int):D:=.tup [.str x,mkD a (n:Int),.int v]
theorem IG {x:Str}{E:List D}:(bU x E).filter (cZ x)=[]:=by
 unfold bU;rw[List.filter_filter,rj];intro d _ z;cases h:cZ x d <;> rw[h] at z <;> simp at z
theorem Cj (I:HInv c own S) (Q:Rel c own S rs kn) (c0:0<c) (c8:c<=8) (ht:tot c own<63) (ha:a<c) (full:∀ i,i<c->kn i i=yU c own) (x:Str) (v:Int):
  ∃ kn',HInv c (cK own a) (fT c (dH c) (iE S a ((S a).change a x v))).2/\Rel c (cK own a) (fT c (dH c) (iE S a ((S a).change a x v))).2 (rs++[⟨a,own a+1,v9 (x,v),(S a).marksK x⟩]) kn'/\∀ i,i<c->
   dI 4 (bU x (S a).ents++[xE a (own a+1) x v])=v9 ((fT c (dH c) (iE S a ((S a).change a x v))).2 i).ents/\((fT c (dH c) (iE S a ((S a).change a x v))).2 i).ents.Perm (bU x (S a).ents++[xE a (own a+1) x v]):=by
 have W:=(I a ha).1;have O:=W.ok c0 c8 (by omega);have RP:=qS Q I c0 c8 ht ha x v;have ht2:tot c (cK own a)<64:=by rw[fW,if_pos ha];omega
 obtain⟨kn',I3,Q3,f3⟩:=uT RP.1 RP.2 c0 c8 ht2;refine⟨kn',I3,Q3,fun i hi=> ?_⟩
 generalize (fT c (dH c) (iE S a ((S a).change a x v))).2=S3 at I3 Q3
 have O3:=(I3 i hi).1.ok c0 c8 ht2;have memE:∀ e,e∈(S a).ents↔(∃ q∈rs,q.ent=v9 e)/\∀ q∈rs,aO e∉q.outs:=fun e=>by rw[O.ents.2.mem_iff];exact AY Q ha (full a ha) e
 have keyE:∀ e∈(S a).ents,KeyIn c own (aO e):=fun e he=>by
  obtain⟨⟨q,hq,e1⟩,_⟩:=(memE e).mp he;rw[fQ e1]
  have:=Q.recs.inn q hq
  exact⟨q.a,q.b,this.1,this.2.1,this.2.2,rfl⟩
 have newK:¬ KeyIn c own (fI a ((own a+1:Nat):Int)):=fun⟨a',b',_,_,h3,h4⟩=>by
  unfold fI at h4;simp at h4;obtain⟨h5,h6⟩:=h4;have h7:a=a':=by omega
  subst h7;omega
 have ek:aO (xE a (own a+1) x v)=fI a ((own a+1:Nat):Int):=rfl;have mem:∀ e,e∈(S3 i).table.map (·.2)↔e∈bU x (S a).ents++[xE a (own a+1) x v]:=fun e=>by
  rw[AY Q3 hi (f3 i hi) e,cj,cg];unfold bU;rw[b4];constructor
  ·rintro⟨⟨q,hq,e1⟩,h2⟩
   rcases cj.mp hq with hq|hq
   ·left;have he:e∈(S a).ents:=(memE e).mpr ⟨⟨q,hq,e1⟩,fun q hq=>h2 q (dc _ hq)⟩;refine⟨he,?_⟩;cases hx:cZ x e with
    |false=>rfl
    |true=>exact absurd (av.mpr ⟨e,b4.mpr ⟨he,hx⟩,rfl⟩) (h2 _ (c7 _ (cg.mpr rfl)))
   ·right;rw[cg.mp hq] at e1;exact(b8 e1).symm
  ·rintro(⟨he,hx⟩|rfl)
   ·obtain⟨⟨q,hq,e1⟩,h2⟩:=(memE e).mp he;refine⟨⟨q,dc _ hq,e1⟩,fun q' hq' z=> ?_⟩;rcases cj.mp hq' with hq'|hq'
    ·exact h2 q' hq' z
    ·rw[cg.mp hq'] at z;obtain⟨e',he',k'⟩:=av.mp z;obtain⟨h5,h6⟩:=b4.mp he';rw[AO O.entsNodup h5 he k'] at h6;rw[h6] at hx;cases hx
   ·refine⟨⟨_,c7 _ (cg.mpr rfl),rfl⟩,fun q' hq' z=>newK ?_⟩;rw[ek] at z;rcases cj.mp hq' with hq'|hq'
    ·exact(Q.recs.outs q' hq').2 _ z
    ·rw[cg.mp hq'] at z;exact W.marks O x _ z
 have EO:EntsOk (bU x (S a).ents++[xE a (own a+1) x v]):=by
  refine⟨fun d hd=> ?_,?_⟩
  ·rcases cj.mp hd with z|z
   ·exact O.entsEnt d (b4.mp z).1
   ·rw[cg.mp z];exact⟨x,_,_,v,rfl⟩
  ·rw[ck,List.map_singleton,ek,jn];refine⟨O.entsNodup.sublist (gy.map _),by simp,fun k hk k' hk' z=>newK ?_⟩;rw[cg] at hk';obtain⟨d,hd,e1⟩:=av.mp hk;rw[<- hk',<- z,<- e1];exact keyE d (b4.mp hd).1
 have pm:((S3 i).table.map (·.2)).Perm (bU x (S a).ents++[xE a (own a+1) x v]):=qX (kN O3.entsOk.2) (kN EO.2) mem;obtain⟨out,e1,p1⟩:=EO.sorts (by rw[<- pm.length_eq,<- O3.ents.2.length_eq];exact O3.entsLen);rw[e1,CO O3.entsOk pm O3.ents.1 e1 O3.ents.2 p1];exact⟨rfl,p1⟩
end
theorem EG {c:Nat}{hd:Hd} (W:hd.Ok c):hd.ents.Pairwise qI:=W.entsOk.pw W.ents.1 W.ents.2
theorem AH {x:Str}{a n:Nat}{v:Int}{E O:List D} (p:O.Perm (bU x E++[xE a n x v])):O.filter (cZ x)=[xE a n x v]:=by
 have:=p.filter (cZ x)
 rw[me,IG,vg,dw (by show decide (x=x)=true;simp)] at this;exact List.perm_singleton.mp this
theorem Gv {x y:Str}{a n:Nat}{v:Int}{E O:List D} (hE:E.Pairwise qI) (hO:O.Pairwise qI) (hy:x≠y) (p:O.Perm (bU x E++[xE a n x v])):O.filter (cZ y)=(bU x E).filter (cZ y):=by
 have:=p.filter (cZ y)
 rw[me,du (by show ¬ decide (x=y)=true;simp[hy]),qq,dh] at this;exact wI this (hO.sublist gy) ((hE.sublist gy).sublist gy)
theorem pA {f h:OG D}{ρ:Rho}{ω ω1 ω2:Om}{a b:D}{xs ys:List D} (e1:f ρ ω=v9 (.ok a,ω1)) (e2:h ρ ω1=v9 (.ok b,ω2)) (h1:dJ ω2 a=v9 xs) (h2:dJ ω2 b=v9 ys) (hl:xs.length+ys.length<=1000):o2 lM f h ρ ω=v9 (.ok (.lst (xs++ys)),ω2):=gB e1 e2 (by
 unfold lM;rw[h1,qf,h2,qf,if_pos (by rw[b7];omega)])
theorem uS (c:Nat):(dH c).length=(c-1)+(c-1):=by
 unfold dH iA qC;simp
theorem At {c:Nat} (c0:0<c) (c8:c<=8) (ω:Om):gM [.int c] ω=v9 (.ok (.lst ((dH c).map Deed.d)),ω):=by
 refine aT rfl ?_;have e1:cG lW (oIA kU (aC (o2 (lf gSub) (oP (aD 0)) (oP (dC (.int 1)))) aK)) [wb] (aY 0) (oPT jI) (oL (fun ω ds=>pu (dQ ds) ω) (aC (oP (dC (.str "meet"))) (aC (oP (aD 0)) (aC (o2 (lf pZ) (oP (aD 0)) (oP (dC (.int 1)))) aK)))) [v9 (.int c),wb] ω=v9 (.ok (.lst ((iA (c-1)).map Deed.d)),ω):=by
  refine dY (ds:=lF 0 (c-1)) (chk:=bT) (ω1:=ω) (qR (c:=c-1) (fH (aB (d:=.int c) rfl) aV (show v9 (D.int ((c:Int)-1))=_ from by rw[show(c:Int)-1=((c-1:Nat):Int) by omega])) (by omega)) (by unfold lF;rw[ao,iw,b7];omega) ?_;have e:(iA (c-1)).map Deed.d=(lF 0 (c-1)).map fun d=>match d with|.int k=>D.tup [.str "meet",.int k,.int (k+1)]|_=>.non:=by
   unfold iA lF;rw[f7,f7];refine gw fun k _=> ?_;show D.tup [.str "meet",.int k,.int (k+1)]=D.tup [.str "meet",.int (0+(k:Int)),.int (0+(k:Int)+1)];rw[Int.zero_add]
  rw[e];refine fY (fun ρ=>∃ u,ρ=[u]) rfl ⟨_,rfl⟩ fun d hd ρ hρ=> ?_;obtain⟨u,rfl⟩:=hρ;unfold lF at hd;obtain⟨k,_,rfl⟩:=av.mp hd;exact⟨_,rfl,⟨_,rfl⟩,rfl⟩
 have e2:cG lW (oIA GS (aC (o2 (lf gSub) (oP (aD 0)) (oP (dC (.int 2)))) (aC (oP (d1 Ij (dC (.int 1)))) (aC (oP (d1 Ij (dC (.int 1)))) aK)))) [wb] (aY 0) (oPT jI) (oL (fun ω ds=>pu (dQ ds) ω) (aC (oP (dC (.str "meet"))) (aC (o2 (lf pZ) (oP (aD 0)) (oP (dC (.int 1)))) (aC (oP (aD 0)) aK)))) [v9 (.int c),v9 (.lst ((iA (c-1)).map Deed.d))] ω=v9 (.ok (.lst ((qC c (c-1)).map Deed.d)),ω):=by
  refine dY (ds:=pQ ((c:Int)-2) (-1) (c-1)) (chk:=bT) (ω1:=ω) ?_ (by rw[nN,b7];omega) ?_
  ·unfold oIA;rw[bB (aA (a:=.int ((c:Int)-2)) (ω1:=ω) rfl (aA (a:=.int (-1)) (ω1:=ω) rfl (aA (a:=.int (-1)) (ω1:=ω) rfl aE)))];have hC:CD ((c:Int)-2) (-1)/\(-1:Int)= -1:=⟨⟨⟨by omega,by omega⟩,by decide,by decide⟩,rfl⟩;show oR (pu ((if CD ((c:Int)-2) (-1)/\(-1:Int)= -1 then v9 (pQ ((c:Int)-2) (-1) ((c:Int)-2- -1).toNat) else wb).map fun xs=>(xs,bT)) ω)=_;rw[if_pos hC,show((c:Int)-2- -1).toNat=c-1 by omega];rfl
  ·have e:(qC c (c-1)).map Deed.d=(pQ ((c:Int)-2) (-1) (c-1)).map fun d=>match d with|.int k=>D.tup [.str "meet",.int (k+1),.int k]|_=>.non:=by
    unfold qC pQ;rw[f7,f7];rfl
   rw[e];refine fY (fun ρ=>∃ u,ρ=[u]) rfl ⟨_,rfl⟩ fun d hd ρ hρ=> ?_;obtain⟨u,rfl⟩:=hρ;unfold pQ at hd;obtain⟨k,_,rfl⟩:=av.mp hd;exact⟨_,rfl,⟨_,rfl⟩,rfl⟩
 refine(aN e1).trans ?_
 have:=uS c
 unfold dH at this ⊢;rw[ck];exact bA (pA (aB (d:=.lst ((iA (c-1)).map Deed.d)) rfl) e2 rfl rfl (by rw[ao,ao,<- bv,this];omega))
noncomputable def dR:D->D
 |.tup [_,_,v]=>v
 |_=>.non
theorem JJ {d:D} (h:bV d) (y:Str) (ω:Om):cS (o2 (kW 8) (o2 (fun ω a b=>pu (bH ω a b) ω) (oP (aD 0)) (oP (dC (.int 0)))) (oP (aD 1))) [v9 d,v9 (.str y)] ω=v9 (.ok (cZ y d),ω):=by
 obtain⟨x,a,b,v,rfl⟩:=h;refine bZ (gB (aU (aB rfl) aV rfl) (aB rfl) ?_);show pu ((eqD 8 (.str x) (.str y)).map D.bl) ω=_;rw[gD];rfl
theorem OF {d:D} (h:bV d) (y:Str) (ω:Om):cS (o2 (uI 8) (o2 (fun ω a b=>pu (bH ω a b) ω) (oP (aD 0)) (oP (dC (.int 0)))) (oP (aD 1))) [v9 d,v9 (.str y)] ω=v9 (.ok (!cZ y d),ω):=by
 obtain⟨x,a,b,v,rfl⟩:=h;refine bZ (gB (aU (aB rfl) aV rfl) (aB rfl) ?_);show pu ((eqD 8 (.str x) (.str y)).map fun k=>D.bl (!k)) ω=_;rw[gD];rfl
theorem lB {ds:List D}{fl f:OG D}{t:OG Bool}{p:D->Bool}{g:D->D}{j:Nat}{y:Str}{ρ:Rho}{ω:Om} (he:∀ d∈ds,bV d) (hl:ds.length<=1000) (e:fl ρ ω=v9 (.ok (.lst ds),ω)) (hj:ρ[j]?=v9 (v9 (.str y))) (ht:∀ {d},bV d->t [v9 d,v9 (.str y)] ω=v9 (.ok (p d),ω)) (hf:∀ {d},bV d->f [v9 d,v9 (.str y)] ω=v9 (.ok (g d),ω)):
  cG lW (oIL fl) [wb,v9 j] (aY 0) t f ρ ω=v9 (.ok (.lst ((ds.filter p).map g)),ω):=by
 refine dY (ds:=ds) (chk:=bT) (ω1:=ω) ?_ (by rw[b7];omega) ?_
 ·unfold oIL;rw[bB e];rfl
 ·have e0:Bj [wb,v9 j] ρ=[wb,v9 (.str y)]:=by
   unfold Bj;simp[hj]
  rw[e0];refine fS (fun ρ=>∃ u,ρ=[u,v9 (.str y)]) rfl ⟨_,rfl⟩ fun d hd ρ hρ=> ?_;obtain⟨u,rfl⟩:=hρ;exact⟨_,rfl,⟨_,rfl⟩,ht (he d hd),fun _=>hf (he d hd)⟩
theorem JT {d:D} (h:bV d) (y:Option D) (ω:Om):o2 (fun ω a b=>pu (bH ω a b) ω) (oP (aD 0)) (oP (dC (.int 1))) [v9 d,y] ω=v9 (.ok (bP (aO d)),ω):=by
 obtain⟨x,a,b,v,rfl⟩:=h;rfl
theorem Ih {d:D} (h:bV d) (y:Option D) (ω:Om):o2 (fun ω a b=>pu (bH ω a b) ω) (oP (aD 0)) (oP (dC (.int 2))) [v9 d,y] ω=v9 (.ok (dR d),ω):=by
 obtain⟨x,a,b,v,rfl⟩:=h;rfl
theorem CA {ds:List D} (he:∀ d∈ds,bV d) (hl:ds.length<=1000) (y:Str) (ω:Om):jR [.lst ds,.str y] ω=v9 (.ok (.lst ((ds.filter (cZ y)).map dR)),ω):=
 aT rfl (bA (lB he hl (aB rfl) rfl (fun h=>JJ h y ω) fun h=>Ih h _ ω))
theorem CN {g:D->D}:∀ {l:List D},(∀ d∈l,∃ x,g d=.str x)->∃ ws:List Str,ws.length=l.length/\l.map g=ws.map D.str
 |[],_=>⟨[],rfl,rfl⟩
 |d::l,h=>by
  obtain⟨x,hx⟩:=h d ar;obtain⟨ws,h1,h2⟩:=CN fun d' hd=>h d' (ai _ hd);exact⟨x::ws,by simp[h1],by rw[bq,bq,hx,h2]⟩
theorem Fx {c:Nat} (c0:0<c) (c8:c<=8) {ρ:Rho} (h1:ρ[1]?=v9 (v9 (.int c))) (ω:Om):∃ ws:List Str,ws.length=5/\o2 lM (cG lW (oIA kU (aC (oP (dC (.int 4))) aK)) [wb,v9 1] (aY 0) (oPT jI) (bC dE (aC (oP (aD 0)) (aC (oP (aD 1)) aK)))) (oL (fun ω ds=>pu (gC ds) ω) (aC (oP (dC (.str "corn"))) aK)) ρ ω=v9 (.ok (.lst (ws.map D.str)),ω):=by
 have hw:∀ d∈lF 0 4,∃ x,dE [d,.int c] ω=v9 (.ok (.str x),ω):=fun d hd=>by
  unfold lF at hd;obtain⟨k,hk,rfl⟩:=av.mp hd
  have:=gq.mp hk
  exact Cz (by omega) (by omega) c0 c8 ω
 obtain⟨ws,l1,e1⟩:=CN (g:=fun d=>match dE [d,.int c] ω with|some (.ok y,_)=>y|_=>.non) (l:=lF 0 4) fun d hd=>by
  obtain⟨x,e⟩:=hw d hd;exact⟨x,by rw[e]⟩
 refine⟨ws++[("corn":Str)],by rw[bv,l1];rfl,?_⟩;rw[ck];refine pA (a:=.lst (ws.map D.str)) (xs:=ws.map D.str) (ys:=[.str "corn"]) (ω1:=ω) (b:=.lst [.str "corn"]) ?_ rfl rfl rfl (by rw[ao,l1];decide);refine dY (ds:=lF 0 4) (chk:=bT) (ω1:=ω) (qR (c:=4) aV (by decide)) (by decide) ?_;have e0:Bj [wb,v9 1] ρ=[wb,v9 (.int c)]:=by
  unfold Bj;simp[h1]
 rw[e0,<- e1];refine fY (fun ρ=>∃ u,ρ=[u,v9 (.int c)]) rfl ⟨_,rfl⟩ fun d hd ρ hρ=> ?_;obtain⟨u,rfl⟩:=hρ;obtain⟨x,e⟩:=hw d hd;refine⟨_,rfl,⟨_,rfl⟩,?_⟩;rw[aQ (aA (aB (d:=d) rfl) (aA (aB (d:=.int c) rfl) aE)) e];simp only[e]
noncomputable abbrev Am (sc:D) (c a:Nat) (ws:List Str) (y:Str) (ds:D) (bf rest there lg told mark bh:D) (v13 v14 v15 v16 v17:Option D):Rho:=[v9 sc,v9 (.int c),v9 (.int a),v9 (.lst (ws.map D.str)),v9 (.str y),v9 ds,v9 bf,v9 rest,v9 there,v9 lg,v9 told,v9 mark,v9 bh,v13,v14,v15,v16,v17]
section
variable {c a n:Nat}{y:Str}{E O:List D}{sc ds bf there lg told bh:D}{ω:Om}
theorem qJ {all:List Str} (hE:E.Pairwise qI) (hO:O.Pairwise qI) (p:O.Perm (bU y E++[xE a n y 77])) (eE:∀ d∈E,bV d) (eO:∀ d∈O,bV d) (lE:E.length<64) (lO:O.length<64):∀ {ws:List Str}{v15 v16 v17:Option D},∃ w15 w16 w17,cR (aY 15) bT sZ (ws.map D.str) (Am sc c a all y ds bf (.lst (bU y E)) there lg told (mkD a (n:Int)) bh (v9 (.lst O)) (v9 (.lst O)) v15 v16 v17) ω=v9 (.nx (Am sc c a all y ds bf (.lst (bU y E)) there lg told (mkD a (n:Int)) bh (v9 (.lst O)) (v9 (.lst O)) w15 w16 w17),ω)
 |[],v15,v16,v17=>⟨v15,v16,v17,rfl⟩
 |w::ws,v15,v16,v17=>by
  obtain⟨w15,w16,w17,e2⟩:=qJ (all:=all) (ws:=ws) hE hO p eE eO lE lO (v15:=v9 (.str w)) (v16:=v9 (.lst ((O.filter (cZ w)).map dR))) (v17:=v9 (.lst ((O.filter (cZ w)).map dR)));refine⟨w15,w16,w17,?_⟩;have rE:∀ d∈bU y E,bV d:=fun d hd=>eE d (b4.mp hd).1;have rl:(bU y E).length<=1000:=ci (f6 ..) (by omega);have plV:Pl 2 (.lst ((O.filter (cZ w)).map dR)):=Pl.lst (by rw[ao];exact ci (f6 ..) (by omega)) fun d hd=>by
   obtain⟨d',hd',rfl⟩:=av.mp hd;obtain⟨x,p,q,v,rfl⟩:=eO d' (b4.mp hd').1;exact Pl.int _ _
  have plO:Pl 8 (.lst O):=(Pl.lst (n:=2) (by omega) fun d hd=>Pl.ent (eO d hd)).mono (by decide);have b1:sZ (Am sc c a all y ds bf (.lst (bU y E)) there lg told (mkD a (n:Int)) bh (v9 (.lst O)) (v9 (.lst O)) (v9 (.str w)) v16 v17) ω=v9 (.nx (Am sc c a all y ds bf (.lst (bU y E)) there lg told (mkD a (n:Int)) bh (v9 (.lst O)) (v9 (.lst O)) (v9 (.str w)) (v9 (.lst ((O.filter (cZ w)).map dR))) (v9 (.lst ((O.filter (cZ w)).map dR)))),ω):=by
   refine(aN (aQ (aA (aB (d:=.lst O) rfl) (aA (aB (d:=.str w) rfl) aE)) (CA eO (by omega) w ω))).trans ?_;refine(aN (lB (y:=w) rE rl (aB rfl) rfl (fun h=>JJ h w ω) fun h=>Ih h _ ω)).trans ?_;have tst:cS (o2 (kW 8) (oP (aD 15)) (oP (aD 4))) (Am sc c a all y ds bf (.lst (bU y E)) there lg told (mkD a (n:Int)) bh (v9 (.lst O)) (v9 (.lst O)) (v9 (.str w)) (v9 (.lst ((O.filter (cZ w)).map dR))) (v9 (.lst (((bU y E).filter (cZ w)).map dR)))) ω=v9 (.ok (decide (w=y)),ω):=bZ (gB (aB (d:=.str w) rfl) (aB (d:=.str y) rfl) (by
    show pu ((eqD 8 (.str w) (.str y)).map D.bl) ω=_;rw[gD];rfl))
   have fin:∀ {u:D},u=.lst ((O.filter (cZ w)).map dR)->dU (oOr (iH (gH (jL "list" (oP (aD 16))))) (oOr (iH (gH (bC (dA 8) (aC (oP (aD 16)) (aC (oP (aD 17)) aK))))) (cS (o2 (uI 8) (oP (aD 14)) (oP (aD 13)))))) (aS (oP (dC (.bl false)))) bF (Am sc c a all y ds bf (.lst (bU y E)) there lg told (mkD a (n:Int)) bh (v9 (.lst O)) (v9 (.lst O)) (v9 (.str w)) (v9 (.lst ((O.filter (cZ w)).map dR))) (v9 u)) ω=v9 (.nx (Am sc c a all y ds bf (.lst (bU y E)) there lg told (mkD a (n:Int)) bh (v9 (.lst O)) (v9 (.lst O)) (v9 (.str w)) (v9 (.lst ((O.filter (cZ w)).map dR))) (v9 (.lst ((O.filter (cZ w)).map dR)))),ω):=fun {u} hu=>by
    subst hu;refine(nM (ω1:=ω) (pS (gG (k:=true) (tru_ok (cY (aB (d:=.lst ((O.filter (cZ w)).map dR)) rfl) (by simp[lS,dJ,lL,eN])))) (pS (gG (k:=true) (tru_ok (aQ (aA (aB (d:=.lst ((O.filter (cZ w)).map dR)) rfl) (aA (aB (d:=.lst ((O.filter (cZ w)).map dR)) rfl) aE)) (so8 plV (by decide) ω)))) (bZ (gB (aB (d:=.lst O) rfl) (aB (d:=.lst O) rfl) (by
     show pu ((eqD 8 (.lst O) (.lst O)).map fun k=>D.bl (!k)) ω=_;rw[mO plO];rfl)))))).trans ?_
    rfl
   by_cases hw:w=y
   ·refine(bG (ρ1:=Am sc c a all y ds bf (.lst (bU y E)) there lg told (mkD a (n:Int)) bh (v9 (.lst O)) (v9 (.lst O)) (v9 (.str w)) (v9 (.lst ((O.filter (cZ w)).map dR))) (v9 (.lst [.int 77]))) (ω1:=ω) ?_).trans (fin ?_)
    ·rw[decide_eq_true hw] at tst;exact(uZ tst).trans rfl
    ·subst hw;rw[AH p];rfl
   ·refine(bG (ρ1:=Am sc c a all y ds bf (.lst (bU y E)) there lg told (mkD a (n:Int)) bh (v9 (.lst O)) (v9 (.lst O)) (v9 (.str w)) (v9 (.lst ((O.filter (cZ w)).map dR))) (v9 (.lst (((bU y E).filter (cZ w)).map dR)))) (ω1:=ω) ?_).trans (fin ?_)
    ·rw[decide_eq_false hw] at tst;exact(nM tst).trans rfl
    ·rw[Gv hE hO (c5 hw) p]
  exact(eY rfl rfl b1).trans e2
theorem vA {all:List Str} (hE:E.Pairwise qI) (eE:∀ d∈E,bV d) (lE:E.length<64):∀ {Os:List (List D)}{v13 v14 v15 v16 v17:Option D},(∀ O∈Os,O.Pairwise qI/\(∀ d∈O,bV d)/\O.length<64/\dI 4 (bU y E++[xE a n y 77])=v9 O/\O.Perm (bU y E++[xE a n y 77]))->
  ∃ w13 w14 w15 w16 w17,cR (aY 13) bT sY (Os.map D.lst) (Am sc c a all y ds bf (.lst (bU y E)) there lg told (mkD a (n:Int)) bh v13 v14 v15 v16 v17) ω=v9 (.nx (Am sc c a all y ds bf (.lst (bU y E)) there lg told (mkD a (n:Int)) bh w13 w14 w15 w16 w17),ω)
 |[],v13,v14,v15,v16,v17,_=>⟨v13,v14,v15,v16,v17,rfl⟩
 |O::Os,v13,v14,v15,v16,v17,h=>by
  obtain⟨hO,eO,lO,sO,pO⟩:=h O ar;obtain⟨w15,w16,w17,e1⟩:=qJ (all:=all) (ws:=all) (c:=c) (sc:=sc) (ds:=ds) (bf:=bf) (there:=there) (lg:=lg) (told:=told) (bh:=bh) (ω:=ω) hE hO pO eE eO lE lO (v15:=v15) (v16:=v16) (v17:=v17);obtain⟨z13,z14,z15,z16,z17,e2⟩:=vA (all:=all) hE eE lE (Os:=Os) (v13:=v9 (.lst O)) (v14:=v9 (.lst O)) (v15:=w15) (v16:=w16) (v17:=w17) fun O' hO'=>h O' (ai _ hO');refine⟨z13,z14,z15,z16,z17,?_⟩;have plO:Pl 3 (.lst O):=Pl.lst (n:=2) (by omega) fun d hd=>Pl.ent (eO d hd);have srt:oL (Eo 4) (aC (o2 lM (oP (aD 7)) (oL (fun ω ds=>pu (gC ds) ω) (aC (oL (fun ω ds=>pu (dQ ds) ω) (aC (oP (aD 4)) (aC (oP (aD 11)) (aC (oP (dC (.int 77))) aK)))) aK))) aK) (Am sc c a all y ds bf (.lst (bU y E)) there lg told (mkD a (n:Int)) bh (v9 (.lst O)) v14 v15 v16 v17) ω=v9 (.ok (.lst O),ω):=by
   refine eX (aA (pA (a:=.lst (bU y E)) (b:=.lst [xE a n y 77]) (xs:=bU y E) (ys:=[xE a n y 77]) (ω1:=ω) (ω2:=ω) (aB rfl) rfl rfl rfl (by
    have:=f6 (fun d=> !cZ y d) E
    unfold bU;simp only[g7];omega)) aE) ?_
   show(match dJ ω (.lst (bU y E++[xE a n y 77])) with|some xs=>(dI 4 xs).map fun out=>(D.lst out,ω)|none=>wb)=_
   show(dI 4 (bU y E++[xE a n y 77])).map _=_
   rw[sO];rfl
  have b2:sY (Am sc c a all y ds bf (.lst (bU y E)) there lg told (mkD a (n:Int)) bh (v9 (.lst O)) v14 v15 v16 v17) ω=v9 (.nx (Am sc c a all y ds bf (.lst (bU y E)) there lg told (mkD a (n:Int)) bh (v9 (.lst O)) (v9 (.lst O)) w15 w16 w17),ω):=by
   refine(skip (gG (k:=true) (tru_ok (aQ (aA (aB (d:=.lst O) rfl) (aA srt aE)) (so8 plO (by decide) ω))))).trans ?_;refine(aN (d:=.lst O) (ω1:=ω) rfl).trans ?_;refine iL ?_;unfold cH oIL;rw[cV (x:=(all.map D.str,bT)) (ω1:=ω) (by rw[bB (aB (d:=.lst (all.map D.str)) rfl)];rfl)];exact e1
  exact(eY rfl rfl b2).trans e2
end
theorem CS {ns:List Int}{i j:Nat}{f:OG D}{l u:DO}{ρ:Rho}{ω:Om} (e:f ρ ω=v9 (.ok (.scr (ns.map D.int)),ω)) (hl:l ρ=v9 (v9 (i:Int))) (hu:u ρ=v9 (v9 (j:Int))):∃ xs:List Int,oSl f l u ρ ω=v9 (.ok (.lst (iv xs)),ω)/\xs.length<=j-i:=by
 have h1:Ch (ns.map D.int) (v9 (i:Int)) (v9 (j:Int))=iv ((ns.drop (min i ns.length)).take (min j ns.length-min i ns.length)):=by
  unfold Ch;rw[HT.sIx_nat,HT.sIx_nat,ao];unfold iv;rw[List.map_take,List.map_drop]
 refine⟨(ns.drop (min i ns.length)).take (min j ns.length-min i ns.length),?_,?_⟩
 ·unfold oSl;rw[bB e]
  show(l ρ).bind _=_
  rw[hl]
  show(u ρ).bind _=_
  rw[hu];show oR (pu (v9 (D.lst (Ch (ns.map D.int) (v9 (i:Int)) (v9 (j:Int))))) ω)=_;rw[h1];rfl
 ·rw[m8];omega
theorem law_true (ns:List Int) (hns:ns.length<=63):∃ ω',p_law [.scr (ns.map D.int)] []=v9 (.ok (.bl true),ω'):=by
 obtain⟨x0,e0⟩:=Ir ns 0 [];obtain⟨x1,e1⟩:=Ir ns 1 [];have r8:=yA (x:=x0*48271 % 1069) (q:=8) (by decide);obtain⟨c,hc,c0,c8⟩:∃ c:Nat,([1,2,3,4,2,3,4,8]:List Int).getD (x0*48271 % 1069 % 8).toNat 0=(c:Int)/\0<c/\c<=8:=by
  generalize x0*48271 % 1069 % 8=r at r8
  have hr:r=0∨r=1∨r=2∨r=3∨r=4∨r=5∨r=6∨r=7:=by omega
  rcases hr with rfl|rfl|rfl|rfl|rfl|rfl|rfl|rfl
  ·exact⟨1,rfl,by decide,by decide⟩
  ·exact⟨2,rfl,by decide,by decide⟩
  ·exact⟨3,rfl,by decide,by decide⟩
  ·exact⟨4,rfl,by decide,by decide⟩
  ·exact⟨2,rfl,by decide,by decide⟩
  ·exact⟨3,rfl,by decide,by decide⟩
  ·exact⟨4,rfl,by decide,by decide⟩
  ·exact⟨8,rfl,by decide,by decide⟩
 have rc:=yA (x:=x1*48271 % 1087) (q:=(c:Int)) (by omega);obtain⟨a,ha⟩:=Int.eq_ofNat_of_zero_le rc.1;have hac:a<c:=by omega
 have r4:=yA (x:=x1*48271 % 1091) (q:=4) (by decide);obtain⟨k,hk,k5⟩:∃ k:Nat,([0,1,2,4]:List Int).getD (x1*48271 % 1091 % 4).toNat 0=(k:Int)/\k<5:=by
  generalize x1*48271 % 1091 % 4=r at r4
  have hr:r=0∨r=1∨r=2∨r=3:=by omega
  rcases hr with rfl|rfl|rfl|rfl
  ·exact⟨0,rfl,by decide⟩
  ·exact⟨1,rfl,by decide⟩
  ·exact⟨2,rfl,by decide⟩
  ·exact⟨4,rfl,by decide⟩
 obtain⟨sc,hsc⟩:∃ sc:D,sc=.scr (ns.map D.int):=⟨_,rfl⟩;obtain⟨ws,lw,ew⟩:=Fx c0 c8 (ρ:=[v9 (.scr (ns.map D.int)),v9 (.int c),v9 (.int a),wb,wb,wb,wb,wb,wb,wb,wb,wb,wb,wb,wb,wb,wb,wb]) rfl [];obtain⟨y,hy⟩:∃ y:Str,ws[k]?=v9 y:=⟨ws[k],bj (by omega)⟩;have xy:∀ ω:Om,bH ω (.lst (ws.map D.str)) (.int (k:Int))=v9 (.str y):=fun ω=>by
  show atI _ _=_;exact Fi (by rw[az,hy];rfl)
 obtain⟨xs,es,hxs⟩:=CS (f:=oP (aD 0)) (ρ:=[v9 (.scr (ns.map D.int)),v9 (.int c),v9 (.int a),v9 (.lst (ws.map D.str)),v9 (.str y),wb,wb,wb,wb,wb,wb,wb,wb,wb,wb,wb,wb,wb]) (ω:=[]) (ns:=ns) (i:=2) (j:=20) (l:=dSo (dC (.int 2))) (u:=dSo (dC (.int 20))) (aB rfl) rfl rfl;obtain⟨d0,hd0,ed⟩:=Ht (xs:=xs) (show 1<=c from c0) c8 (by omega) [];obtain⟨ω1,hω1⟩:∃ ω1:Om,ω1=[]++[Ob.ml (d0.map Deed.d)]:=⟨_,rfl⟩;rw[<- hω1] at ed;have g1:ω1[([]:Om).length]?=v9 (.ml (d0.map Deed.d)):=by rw[hω1];rfl
 have sl:=uS c
 -- the three stories
 obtain⟨d1,hd1⟩:∃ d1:List Deed,d1=d0++dH c:=⟨_,rfl⟩;obtain⟨d2,hd2⟩:∃ d2:List Deed,d2=d1++[.change (a:Int) y 77]++dH c:=⟨_,rfl⟩;obtain⟨d3,hd3⟩:∃ d3:List Deed,d3=d2++[.take (a:Int) y]:=⟨_,rfl⟩;have l1:d1.length=d0.length+((c-1)+(c-1)):=by rw[hd1,bv,sl]
 have l2:d2.length=d1.length+1+((c-1)+(c-1)):=by rw[hd2,bv,bv,sl];rfl
 have l3:d3.length=d2.length+1:=by rw[hd3,bv];rfl
 -- what is known of them
 obtain⟨rs0,kn0,own,I0,Q0,t0⟩:=Dd c0 c8 d0 (KL c) (QD c) (by rw[La];omega);rw[La] at t0;obtain⟨kn1,I1,Q1,f1⟩:=uT I0 Q0 c0 c8 (by omega);have s1:cF c d1=(fT c (dH c) (fT c d0 fun _=>Hd0 c).2).2:=by
  unfold cF;rw[hd1,eU]
 rw[<- s1] at I1 Q1;obtain⟨kn3,I3,Q3,h3⟩:=Cj I1 Q1 c0 c8 (by omega) hac f1 y 77;have eC:step c (cF c d1) (.change (a:Int) y 77)=(mkD a ((own a+1:Nat):Int),iE (cF c d1) a ((cF c d1 a).change a y 77)):=by
  show(if 0<=(a:Int)/\(a:Int)<c then(mkD a ((cF c d1 a).next a),_) else(_,_):D×(Nat->Hd))=_
  rw[if_pos ⟨by omega,by omega⟩,AG I1 hac];rfl
 have s2:cF c d2=(fT c (dH c) (iE (cF c d1) a ((cF c d1 a).change a y 77))).2:=by
  have:(step c (cF c d1) (.change (a:Int) y 77)).2=iE (cF c d1) a ((cF c d1 a).change a y 77):=by rw[eC]
  rw[<- this];unfold cF;rw[hd2,eU,eU];rfl
 rw[<- s2] at I3 Q3 h3;have t1:tot c own<64:=by omega
 have t2:tot c (cK own a)<64:=by rw[fW,if_pos hac];omega
 have O1:=(I1 a hac).1.ok c0 c8 t1;have O3:∀ i,i<c->(cF c d2 i).Ok c:=fun i hi=>(I3 i hi).1.ok c0 c8 t2
 -- the answers
 have told3:eQ c d3=eQ c d1++(mkD a ((own a+1:Nat):Int)::((fT c (dH c) (iE (cF c d1) a ((cF c d1 a).change a y 77))).1++[.lst [mkD a ((own a+1:Nat):Int)]])):=by
  have eT:(step c (cF c d2) (.take (a:Int) y)).1=.lst [mkD a ((own a+1:Nat):Int)]:=by
   have:step c (cF c d2) (.take (a:Int) y)=((cF c d2 a).takeA y,iE (cF c d2) a ((cF c d2 a).take a y)):=if_pos ⟨by omega,by omega⟩
   rw[this];have mk:(cF c d2 a).marksK y=[fI a ((own a+1:Nat):Int)]:=by
    unfold Hd.marksK;rw[AH (h3 a hac).2];rfl
   show(cF c d2 a).takeA y=_
   unfold Hd.takeA;rw[mk];rfl
  have e2:eQ c d2=eQ c d1++(mkD a ((own a+1:Nat):Int)::(fT c (dH c) (iE (cF c d1) a ((cF c d1 a).change a y 77))).1):=by
   unfold eQ;rw[hd2,d8,eU]
   show(fT c d1 fun _=>Hd0 c).1++((step c (cF c d1) (.change (a:Int) y 77)).1::(fT c (dH c) (step c (cF c d1) (.change (a:Int) y 77)).2).1)=_
   rw[eC]
  have e3:eQ c d3=eQ c d2++[(step c (cF c d2) (.take (a:Int) y)).1]:=by
   unfold eQ;rw[hd3,eU];rfl
  rw[e3,eT,e2,d8];rfl
 have tl3:(eQ c d3).length=d3.length:=by unfold eQ;rw[sK]
 have tl1:(eQ c d1).length=d1.length:=by unfold eQ;rw[sK]
 have xm:∀ ω:Om,bH ω (.lst (eQ c d3)) (.int (d1.length:Int))=v9 (mkD a ((own a+1:Nat):Int)):=fun ω=>by
  show atI _ _=_;exact Fi (by rw[told3,<- tl1,gl (bp _)];simp)
 have xl:∀ ω:Om,bH ω (.lst (eQ c d3)) (.int (-1))=v9 (.lst [mkD a ((own a+1:Nat):Int)]):=fun ω=>by
  show atI (eQ c d3) (-1)=_;unfold atI ixN;rw[if_neg (by decide),if_pos (by rw[tl3];omega),qf];rw[told3,<- List.cons_append,<- d8];rw[gl (by simp only[bv,bw,iq];omega)];simp only[bv,bw,iq];rw[show ∀ m:Nat,(-1+((m+(0+1):Nat):Int)).toNat-m=0 from fun m=>by omega];rfl
 obtain⟨ω2,ea,K2,own2,J2,u2⟩:=mB c0 c8 (ds:=d1) (by omega) (ω:=ω1) (d:=.lst (d1.map Deed.d)) rfl;obtain⟨ω3,eb,K3,P3⟩:=Cm c0 c8 (ds:=d3) (by omega) ω2;obtain⟨ω4,ef,K4,own4,J4,u4⟩:=mB c0 c8 (ds:=d2) (by omega) (ω:=ω3) (d:=.lst (d2.map Deed.d)) rfl;have tabs:∀ {ds:List Deed}{o:Nat->Nat} (ω),HInv c o (cF c ds)->tot c o<64->cE [xD c (cF c ds),.int c] ω=v9 (.ok (.bl true),ω):=fun {ds o} ω J u=>by
  have:=Nz (ts:=(bz c).map fun i=>(cF c ds i).ents) (c:=c) (fun t ht d hd=>by
   obtain⟨i,hi,rfl⟩:=av.mp ht;exact((J i (gq.mp hi)).1.ok c0 c8 u).entsEnt d hd) (by simp) ω
  rw[f7] at this;exact this
 have xT:∀ ω:Om,bH ω (xD c (cF c d1)) (.int (a:Int))=v9 (.lst (cF c d1 a).ents):=fun ω=>by
  show atI _ (a:Int)=_;exact Fi (by rw[az,gx hac];rfl)
 have lE:(cF c d1 a).ents.length<64:=O1.entsLen;obtain⟨w13,w14,w15,w16,w17,e5⟩:=vA (c:=c) (a:=a) (n:=own a+1) (y:=y) (E:=(cF c d1 a).ents) (sc:=.scr (ns.map D.int)) (ds:=.lst (d1.map Deed.d)) (bf:=xD c (cF c d1)) (there:=.lst (((cF c d1 a).marksK y).map bP)) (lg:=.lst (d2.map Deed.d)) (told:=.lst (eQ c d3)) (bh:=xD c (cF c d2)) (ω:=ω4) (all:=ws) (EG O1) O1.entsEnt lE (Os:=(bz c).map fun i=>(cF c d2 i).ents) (v13:=wb) (v14:=wb) (v15:=wb) (v16:=wb) (v17:=wb) fun O hO=>by
  obtain⟨i,hi,rfl⟩:=av.mp hO;have hi':=gq.mp hi;exact⟨EG (O3 i hi'),(O3 i hi').entsEnt,(O3 i hi').entsLen,(h3 i hi').1,(h3 i hi').2⟩
 refine⟨ω4,aT rfl ?_⟩;unfold Na;refine(aN (d:=.int c) (ω1:=[]) (by
  rw[<- hc];exact BL (xs:=[1,2,3,4,2,3,4,8]) rfl (lN (a:=x0) (aQ (aA (aB (d:=.scr (ns.map D.int)) rfl) (aA aV aE)) e0) aV (by decide) (by decide)) r8.1 r8.2)).trans ?_
 refine(aN (d:=.int a) (ω1:=[]) (by
  rw[<- ha];exact lN (a:=x1) (aQ (aA (aB (d:=.scr (ns.map D.int)) rfl) (aA aV aE)) e1) (aB (d:=.int c) rfl) (by decide) (by omega))).trans ?_
 refine(aN ew).trans ?_;refine(aN (d:=.str y) (ω1:=[]) (aU (b:=.int (k:Int)) (ω1:=[]) (aB (d:=.lst (ws.map D.str)) rfl) (by
  rw[<- hk];exact BL (xs:=[0,1,2,4]) rfl (lN (a:=x1) (aQ (aA (aB (d:=.scr (ns.map D.int)) rfl) (aA aV aE)) e1) aV (by decide) (by decide)) r4.1 r4.2) (xy []))).trans ?_
 refine(aN (d:=.lst (d1.map Deed.d)) (ω1:=ω1) (by
  rw[hd1,ck];exact pA (aQ (aA es (aA (aB (d:=.int c) rfl) aE)) ed) (aQ (aA (aB (d:=.int c) rfl) aE) (At c0 c8 ω1)) (by unfold dJ;simp only[g1]) rfl (by rw[ao,ao,sl];omega))).trans ?_
 refine(aN (d:=xD c (cF c d1)) (ω1:=ω2) (aU (aQ (aA (aB (d:=.int c) rfl) (aA (aB (d:=.lst (d1.map Deed.d)) rfl) aE)) ea) aV rfl)).trans ?_;refine(skip (gG (k:=true) (tru_ok (aQ (aA (aB (d:=xD c (cF c d1)) rfl) (aA (aB (d:=.int c) rfl) aE)) (tabs ω2 J2 u2))))).trans ?_;refine(aN (d:=.lst (bU y (cF c d1 a).ents)) (ω1:=ω2) (by
  have:=lB (ds:=(cF c d1 a).ents) (fl:=o2 (fun ω a b=>pu (bH ω a b) ω) (oP (aD 6)) (oP (aD 2))) (f:=oP (aD 0)) (g:=fun d=>d) (j:=4) (y:=y) (ρ:=[v9 (.scr (ns.map D.int)),v9 (.int c),v9 (.int a),v9 (.lst (ws.map D.str)),v9 (.str y),v9 (.lst (d1.map Deed.d)),v9 (xD c (cF c d1)),wb,wb,wb,wb,wb,wb,wb,wb,wb,wb,wb]) (ω:=ω2) O1.entsEnt (by omega) (aU (aB (d:=xD c (cF c d1)) rfl) (aB (d:=.int a) rfl) (xT ω2)) rfl (fun h=>OF h y ω2) (fun _=>rfl)
  rw[List.map_id'] at this;exact this)).trans ?_
 refine(aN (d:=.lst (((cF c d1 a).marksK y).map bP)) (ω1:=ω2) (by
  have:=lB (ds:=(cF c d1 a).ents) (fl:=o2 (fun ω a b=>pu (bH ω a b) ω) (oP (aD 6)) (oP (aD 2))) (g:=fun d=>bP (aO d)) (j:=4) (y:=y) (ρ:=[v9 (.scr (ns.map D.int)),v9 (.int c),v9 (.int a),v9 (.lst (ws.map D.str)),v9 (.str y),v9 (.lst (d1.map Deed.d)),v9 (xD c (cF c d1)),v9 (.lst (bU y (cF c d1 a).ents)),wb,wb,wb,wb,wb,wb,wb,wb,wb,wb]) (ω:=ω2) O1.entsEnt (by omega) (aU (aB (d:=xD c (cF c d1)) rfl) (aB (d:=.int a) rfl) (xT ω2)) rfl (fun h=>JJ h y ω2) (fun h=>JT h _ ω2)
  unfold Hd.marksK;rw[f7];exact this)).trans ?_
 refine(aN (d:=.lst (d2.map Deed.d)) (ω1:=ω2) (by
  rw[hd2,ck,ck];exact pA (a:=.lst (d1.map Deed.d++[(Deed.change (a:Int) y 77).d])) (xs:=d1.map Deed.d++[(Deed.change (a:Int) y 77).d]) (ω1:=ω2) (pA (a:=.lst (d1.map Deed.d)) (b:=.lst [(Deed.change (a:Int) y 77).d]) (ω1:=ω2) (ω2:=ω2) (aB rfl) rfl rfl rfl (by rw[ao,g7];omega)) (aQ (aA (aB (d:=.int c) rfl) aE) (At c0 c8 ω2)) rfl rfl (by rw[bv,ao,ao,g7,sl];omega))).trans ?_
 refine(aN (d:=.lst (eQ c d3)) (ω1:=ω3) (aQ (aA (aB (d:=.int c) rfl) (aA (a:=.lst (d3.map Deed.d)) (ω1:=ω2) (by
  rw[hd3,ck];exact pA (a:=.lst (d2.map Deed.d)) (b:=.lst [(Deed.take (a:Int) y).d]) (ω1:=ω2) (ω2:=ω2) (aB rfl) rfl rfl rfl (by simp only[ao,bw,iq];omega)) aE)) eb)).trans ?_
 refine(skip (pS (gG (k:=true) (tru_ok (cY (aB (d:=.lst (eQ c d3)) rfl) (by simp[lS,dJ,lL,eN])))) (vL (a:=((eQ c d3).length:Int)) (b:=((d2.map Deed.d).length:Int)+1) (fL (aB (d:=.lst (eQ c d3)) rfl) (.inl rfl)) (fH (fL (aB (d:=.lst (d2.map Deed.d)) rfl) (.inl rfl)) aV rfl) (by rw[tl3,ao];omega)))).trans ?_;refine(aN (d:=mkD a ((own a+1:Nat):Int)) (ω1:=ω3) (aU (b:=.int (d1.length:Int)) (aB (d:=.lst (eQ c d3)) rfl) (by
  have:=fL (f:=oP (aD 5)) (ρ:=[v9 (.scr (ns.map D.int)),v9 (.int c),v9 (.int a),v9 (.lst (ws.map D.str)),v9 (.str y),v9 (.lst (d1.map Deed.d)),v9 (xD c (cF c d1)),v9 (.lst (bU y (cF c d1 a).ents)),v9 (.lst (((cF c d1 a).marksK y).map bP)),v9 (.lst (d2.map Deed.d)),v9 (.lst (eQ c d3)),wb,wb,wb,wb,wb,wb,wb]) (ω:=ω3) (d:=.lst (d1.map Deed.d)) (aB rfl) (.inl rfl)
  rw[ao] at this;exact this) (xm ω3))).trans ?_
 refine(skip (pS rfl (pS rfl (bZ (fH (aB (d:=mkD a ((own a+1:Nat):Int)) rfl) (aB (d:=.lst (((cF c d1 a).marksK y).map bP)) rfl) (by
  have W:=(I1 a hac).1
  show(inO (fun d=>eqD 7 d (mkD a ((own a+1:Nat):Int))) (((cF c d1 a).marksK y).map bP)).map D.bl=_
  rw[AQ a (own a+1) _ fun q hq=>by
   obtain⟨x,z,_,_,_,e⟩:=W.marks O1 y q hq;exact⟨x,z,e⟩]
  have:Fw (fI a ((own a+1:Nat):Int)) ((cF c d1 a).marksK y)=false:=by
   cases hm:Fw (fI a ((own a+1:Nat):Int)) ((cF c d1 a).marksK y) with
   |false=>rfl
   |true=>
    obtain⟨x,z,_,_,h5,h6⟩:=W.marks O1 y _ (memK_iff.mp hm);unfold fI at h6;simp at h6;obtain⟨h7,h8⟩:=h6;have h9:a=x:=by omega
    subst h9;omega
  rw[this];rfl)))))).trans ?_
 refine(skip (gG (k:=true) (tru_ok (aQ (aA (aU (aB (d:=.lst (eQ c d3)) rfl) (b:=.int (-1)) (ω2:=ω3) rfl (xl ω3)) (aA (a:=.lst [mkD a ((own a+1:Nat):Int)]) (ω1:=ω3) rfl aE)) (so8 (n:=2) (Pl.lst (by simp) fun d hd=>by
  rw[cg.mp hd];exact Pl.tup2 (Pl.int _ _) (Pl.int _ _)) (by decide) ω3))))).trans ?_
 refine(aN (d:=xD c (cF c d2)) (ω1:=ω4) (aU (aQ (aA (aB (d:=.int c) rfl) (aA (aB (d:=.lst (d2.map Deed.d)) rfl) aE)) ef) aV rfl)).trans ?_;refine(skip (gG (k:=true) (tru_ok (aQ (aA (aB (d:=xD c (cF c d2)) rfl) (aA (aB (d:=.int c) rfl) aE)) (tabs ω4 J4 u4))))).trans ?_;refine(bG (iL (by
  unfold cH oIL;rw[cV (x:=(((bz c).map fun i=>(cF c d2 i).ents).map D.lst,bT)) (ω1:=ω4) (by
   rw[bB (aB (d:=xD c (cF c d2)) rfl)];rw[f7];rfl)]
  exact e5))).trans ?_
 rfl
noncomputable def top (i:Nat):cx:=PySem.Challenge.pw_meetbook_k10_changed_by_one_who_saw_all.main.body.getD i (.Pass ⟨0,0,0,0⟩)
noncomputable abbrev lfs:List (Str×Str×cx):=[("has_seen","",top 5),("joined","",top 6),("common","",top 7),("newer","",top 8),("values_of","",top 10),("left_by","",top 11),("done","",top 16),("answer_to","",top 17),("answers","",top 18),("after","",top 19),("_law_so","",top 21),("_law_whole","",top 22),("_law_at","",top 23),("_law_all_after","",top 24),("_law_odd","",top 25),("_law_word","",top 26),("_law_deed_of","",top 27),("_law_drawn","",top 28),("_law_are_tables","",top 29),("_law_sweep","",top 30)]
noncomputable abbrev PL:List (Str×Str×cx):=[("seen","Hand.seen",bO (top 12) 1),("entries","Hand.entries",bO (top 12) 2),("known","Hand.known",bO (top 12) 3),("in_mind","Hand.in_mind",bO (top 12) 4),("new_mark","Hand.new_mark",bO (top 12) 9),("put","Hand.put",bO (top 12) 5),("forget","Hand.forget",bO (top 12) 12),("take_out","Hand.take_out",bO (top 12) 11),("marks_of","Hand.marks_of",bO (top 12) 10),("change","Hand.change",bO (top 12) 6),("take","Hand.take",bO (top 12) 7),("hear","Hand.hear",bO (top 12) 8)]
noncomputable abbrev PK:List (Str×Str×cx):=[("hand","Hall.hand",bO (top 14) 1),("pair","Hall.pair",bO (top 14) 2),("put","Hall.put",bO (top 14) 3),("change","Hall.change",bO (top 14) 4),("take","Hall.take",bO (top 14) 5),("tell","Hall.tell",bO (top 14) 6),("meet","Hall.meet",bO (top 14) 7)]
structure Txt (K:aa) (mg:Str->Option ag) (cls exC:Nat->af):Prop where
 bn:Bn mg
 dict:mg "dict"=wb
 c0:Cls K (cls 0)
 m0:mg "Hand"=v9 (.ref (cls 0))
 c1:Cls K (cls 1)
 m1:mg "Hall"=v9 (.ref (cls 1))
 a0_kept:NoAttr K (cls 0) "kept"
 a0_knows:NoAttr K (cls 0) "knows"
 a0_number:NoAttr K (cls 0) "number"
 a0_table:NoAttr K (cls 0) "table"
 a1_hands:NoAttr K (cls 1) "hands"
 x0:mg "NoHand"=v9 (.ref (exC 0))
 x1:mg "SameHand"=v9 (.ref (exC 1))
 exs:∃ tl1 tl2,ownIn K (exC 0) tl1/\ownIn K (exC 1) tl2/\(ca (exC 1)::tl2).contains (.ref (exC 0))=false
 fn:AllP (fun x _ s=>FF K mg x s) lfs
 mt0:AllP (FM K (cls 0)) PL
 in0:FI K (cls 0) "__init__" "Hand.__init__" (bO (top 12) 0)
 mt1:AllP (FM K (cls 1)) PK
 in1:FI K (cls 1) "__init__" "Hall.__init__" (bO (top 14) 0)
set_option compiler.extract_closed false
local macro_rules
 | `(tactic|apply_rules [$ts,*])=>do
 let [hu,hu1,hu6,hr,hE,hR,T]:=[`hu,`hu1,`hu6,`hr,`hE,`hR,`T].map Lean.mkIdent|o6
 let R <- `(tactic|apply_rules [$ts,*])
 let hm <- `(by first|exact $hr|exact($hr).mono (by decide))
 let hp <- `(by first|exact Op|exact($hE).pas)
 let cs <- ts.getElems.mapM fun u=>let t:Lean.TSyntax `term:=⟨u.raw[0]⟩;`(tactic|first|(refine Gi $t $hm $hp ?_) <;> $R|(refine Jz $t $hm $hp ?_ ?_) <;> $R|(refine Gk $t $hm ?_ $hp ?_) <;> $R|(refine JB $t $hm ?_ $hp ?_) <;> $R)
 `(tactic|first
  |(with_reducible apply Jt);first|with_reducible exact Bf|with_reducible exact EL|with_reducible exact Nr|with_reducible exact Pc|with_reducible exact Io Bf|exact dvk (by kernel_rfl)
  |with_reducible exact ML
  |with_reducible exact Kt
  |with_reducible exact Jv
  |with_reducible exact Gf
  |with_reducible exact Mf
  |with_reducible exact Jh
  |with_reducible exact OZ
  |with_reducible exact OY
  |(with_reducible apply JH) <;> $R
  |(with_reducible apply OB) <;> $R
  |(with_reducible apply JD) <;> $R
  |(with_reducible apply MG) <;> $R
  |(with_reducible apply MK) <;> $R
  |(with_reducible apply Mx) <;> $R
  |(with_reducible apply MA) <;> $R
  |(with_reducible apply MC) <;> $R
  |(with_reducible apply JG) <;> $R
  |(with_reducible apply Jw) <;> $R
  |(with_reducible apply Js) <;> $R
  |(with_reducible apply MI) <;> $R
  |(with_reducible apply Oz) <;> $R
  |(with_reducible apply OC) <;> $R
  |(with_reducible apply MF) <;> $R
  |(with_reducible apply Ot) <;> $R
  |(with_reducible apply Ov) <;> $R
  |(with_reducible apply Ma) <;> $R
  |(with_reducible apply MH) <;> $R
  |(with_reducible apply Mb) <;> $R
  |(with_reducible apply LZ) <;> $R
  |(with_reducible apply Ou) <;> $R
  |(with_reducible apply Mc) <;> $R
  |(with_reducible apply Jd) <;> $R
  |(with_reducible apply Mz) <;> $R
  |(with_reducible apply MJ) <;> $R
  |(with_reducible apply My) <;> $R
  |(with_reducible apply Gg) <;> $R
  |(with_reducible apply Jx) <;> $R
  |(with_reducible apply ME) <;> $R
  |(with_reducible apply Mw) <;> $R
  |(with_reducible apply Dw) <;> $R
  |(with_reducible apply Ju) <;> $R
  |(with_reducible apply Jq) <;> $R
  |(with_reducible apply Du) <;> $R
  |(with_reducible apply Dt) <;> $R
  |(with_reducible apply Mv) <;> $R
  |(with_reducible apply Jo) <;> $R
  |(with_reducible apply Ge) <;> $R
  |(with_reducible apply LW) <;> $R
  |(with_reducible apply Jc) <;> $R
  |(with_reducible apply Oq) <;> $R
  |(with_reducible apply LV) <;> $R
  |(with_reducible apply LY) <;> $R
  |(with_reducible apply LX) <;> $R
  |(with_reducible apply Qo) <;> $R
  |(with_reducible apply Jl) <;> $R
  |(with_reducible apply Me) <;> $R
  |(with_reducible apply Md) <;> $R
  |(with_reducible apply Ow) <;> $R
  |(with_reducible apply Jj) <;> $R
  |(with_reducible apply Mh) <;> $R
  |(with_reducible apply Jk) <;> $R
  |(with_reducible apply Jf) <;> $R
  |(with_reducible apply Mg) <;> $R
  |(with_reducible apply Ji) <;> $R
  |(with_reducible apply Ks) <;> $R
  |(with_reducible show OE _ _ _ _ (oL (lfL GU) _));(refine jA (Fc rfl) (FitL.lift Hg) ?_ ($T).bn.min boot.min ?_) <;> $R
  |(with_reducible show OE _ _ _ _ (oL (lfL Eu) _));(refine jA (Fd rfl) (FitL.lift Hh) ?_ ($T).bn.max boot.max ?_) <;> $R
  |(with_reducible show OE _ _ _ _ (oL (lfL NH) _));(refine jA (EY rfl) (FitL.lift Kl) ?_ ($T).bn.sum boot.sum ?_) <;> $R
  |(with_reducible show OE _ _ _ _ (oL (Eo _) _));(refine jA (Fa $hu6) Ha ?_ ($T).bn.sorted boot.sorted ?_) <;> $R
  |(with_reducible show OE _ _ _ _ (oL (Ep _) _));(refine jA (Fb rfl $hu6) Hc ?_ ($T).bn.sorted boot.sorted ?_) <;> $R
  |(with_reducible show OE _ _ _ _ (oL fO _));(refine jA Hz Hi ?_ ($T).bn.len boot.len ?_) <;> $R
  |(with_reducible show OE _ _ _ _ (oL (lfL NJ) _));(refine nR Fg (FitL.lift Kp) ?_ ($T).bn.int boot.int ?_) <;> $R
  |(with_reducible show OE _ _ _ _ (oL iD _));(refine nR wT Ey ?_ ($T).bn.list boot.list ?_) <;> $R
  |(with_reducible show OE _ _ _ _ (oL Em _));(refine nR tT GZ ?_ ($T).bn.tuple boot.tuple ?_) <;> $R
  |(with_reducible show OE _ _ _ _ (Gm _ _));(refine Jr $hu6 rfl ?_ ($T).bn.sorted ?_) <;> $R
  |(with_reducible show OE _ _ _ _ (jL "str" _));(refine qV ?_ ?_ ($T).bn.isinstance ?_ ($T).bn.str boot.str) <;> $R
  |(with_reducible show OE _ _ _ _ (jL "int" _));(refine qV ?_ ?_ ($T).bn.isinstance ?_ ($T).bn.int boot.int) <;> $R
  |(with_reducible show OE _ _ _ _ (jL "bool" _));(refine qV ?_ ?_ ($T).bn.isinstance ?_ ($T).bn.bool boot.bool) <;> $R
  |(with_reducible show OE _ _ _ _ (jL "list" _));(refine qV ?_ ?_ ($T).bn.isinstance ?_ ($T).bn.list boot.list) <;> $R
  |(with_reducible show OE _ _ _ _ (jL "tuple" _));(refine qV ?_ ?_ ($T).bn.isinstance ?_ ($T).bn.tuple boot.tuple) <;> $R
  |(with_reducible show OE _ _ _ _ (jL "dict" _));(refine qV ?_ ?_ ($T).bn.isinstance ?_ ($T).dict boot.dict) <;> $R
  |(with_reducible show OE _ _ _ _ (DC _));(refine JC ?_ ?_ ($T).bn.isinstance ?_ ($T).bn.list ?_ ($T).bn.tuple) <;> $R
  |(with_reducible show OE _ _ _ _ (cG _ _ _ _ _ _));(refine Gj ?_ rfl rfl (by kernel_rfl) ?_ (fun _ _ _ _ _ _=>⟨?_,?_,?_⟩)) <;> $R
  |(with_reducible show OSt _ _ _ _ (uY _ _ _ _ _));(obtain⟨_,_,o0,o1,hne⟩:=($T).exs;refine Je ($hE).ex rfl rfl ⟨_,rfl⟩ ?_ ?_ ($T).x0 ($T).x1 o0 o1 hne (fun _ _ _ $hE=> ?_) (fun _=> ?_) (fun _=> ?_)) <;> $R
  |with_reducible exact Bf
  |with_reducible exact Io Bf
  |(with_reducible show DE _ (.Name _ _) _);exact dvk (by kernel_rfl)
  |(with_reducible show PG _ (.Name _ _) _);exact Qt (by kernel_rfl)
  |(with_reducible show PG _ (.Tuple [_,_] _ _) _);exact Qs rfl (by kernel_rfl) (by kernel_rfl)
  |(with_reducible show Gl _ _);unfold Gl;kernel_rfl
  |(with_reducible show OSt _ _ _ _ (aW _ _));(refine QA (by kernel_rfl) ?_) <;> $R
  |(with_reducible show OSt _ _ _ _ (aW _ _));(refine Gc ?_ (by kernel_rfl) rfl rfl (by kernel_rfl) ?_ (fun _ _ _ _ _ _=>⟨?_,?_,?_⟩)) <;> $R
  |(with_reducible show OSt _ _ _ _ (Ax _ _));obtain⟨_,_,o0,o1,hne⟩:=($T).exs;first|exact AC rfl $hR (by rfl) ($T).x0 o0 EL|exact AC rfl $hR (by rfl) ($T).x1 o1 EL
  |exact rfl
  |(intro _;exact rfl)
  |(intro _ _;exact rfl)
  |exact($T).bn.range
  |exact($T).bn.zip
  |exact($T).c0
  |exact($T).c1
  |exact($T).a0_kept
  |exact($T).a0_knows
  |exact($T).a0_number
  |exact($T).a0_table
  |exact($T).a1_hands
  |exact $hu
  |exact $hu1
  |exact $hu6
  |with_unfolding_all rfl
  |decide
  $[| $cs:tactic]*)
set_option compiler.extract_closed false
local macro_rules
 | `(tactic|solve_by_elim [$ts,*])=>do
 let [hu,hu1,hu6,hr,hE,hR]:=[`hu,`hu1,`hu6,`hr,`hE,`hR].map Lean.mkIdent|o6
 `(tactic|(intro _ _ _ _ _ _ _ $hr $hu $hu1 $hu6 $hE $hR;conv=>(arg 4;whnf));apply_rules [$ts,*])
section
seal PE PT PA PS PSs PI PG PW PO KJ
variable {P:c9}{w:df}{K:aa}{mg:Str->Option ag}{base:cz}{cls exC:Nat->af} (T:Txt K mg cls exC)
include T
theorem rS:pN P w K mg base cls exC 1 "has_seen" Cq fB:=dfD (T.fn.get 0 rfl) (by solve_by_elim [])
theorem Hw:pN P w K mg base cls exC 1 "joined" HH gO:=dfD (T.fn.get 1 rfl) (by solve_by_elim [])
theorem Hy:pN P w K mg base cls exC 1 "common" HJ mM:=dfD (T.fn.get 2 rfl) (by solve_by_elim [])
theorem Kv:pN P w K mg base cls exC 1 "newer" KH xV:=dfD (T.fn.get 3 rfl) (by solve_by_elim [])
theorem yZ:pN P w K mg base cls exC 1 "values_of" zM jR:=dfD (T.fn.get 4 rfl) (by solve_by_elim [])
theorem gT:pM P w K mg base cls exC 1 0 "seen" zS bL:=dfM (T.mt0.get 0 rfl) T.c0 (by solve_by_elim [])
theorem EN:pN P w K mg base cls exC 2 "left_by" Fl kJ:=dfD (T.fn.get 5 rfl) (by solve_by_elim [gT T,rS T])
theorem tP:NK P w K mg base cls exC 1 0 "Hand" tW dN:=dfI T.in0 T.m0 (by solve_by_elim [])
theorem gE:pM P w K mg base cls exC 1 0 "entries" qE bK:=dfM (T.mt0.get 1 rfl) T.c0 (by solve_by_elim [])
theorem wL:pM P w K mg base cls exC 1 0 "known" wZ fX:=dfM (T.mt0.get 2 rfl) T.c0 (by solve_by_elim [])
theorem qB:pM P w K mg base cls exC 1 0 "in_mind" qD eB:=dfM (T.mt0.get 3 rfl) T.c0 (by solve_by_elim [])
theorem iT:pM P w K mg base cls exC 2 0 "new_mark" pH cM:=dfM (T.mt0.get 4 rfl) T.c0 (by solve_by_elim [gT T])
theorem rT:pM P w K mg base cls exC 3 0 "put" Cr dX:=dfM (T.mt0.get 5 rfl) T.c0 (by solve_by_elim [iT T])
theorem kY:pM P w K mg base cls exC 2 0 "forget" tX eV:=dfM (T.mt0.get 6 rfl) T.c0 (by solve_by_elim [rS T,Hy T])
theorem iS:pM P w K mg base cls exC 3 0 "take_out" pG cL:=dfM (T.mt0.get 7 rfl) T.c0 (by solve_by_elim [kY T])
theorem iU:pM P w K mg base cls exC 2 0 "marks_of" pI cN:=dfM (T.mt0.get 8 rfl) T.c0 (by solve_by_elim [gE T])
theorem tQ:pM P w K mg base cls exC 4 0 "change" tY dO:=dfM (T.mt0.get 9 rfl) T.c0 (by solve_by_elim [iS T,rT T,iU T])
theorem zD:pM P w K mg base cls exC 4 0 "take" zR fD:=dfM (T.mt0.get 10 rfl) T.c0 (by solve_by_elim [iS T,iT T,iU T])
theorem oU:pM P w K mg base cls exC 3 0 "hear" zT bY:=dfM (T.mt0.get 11 rfl) T.c0 (by solve_by_elim [kY T,Hw T,gE T,EN T,gT T,Kv T])
theorem kZ:NK P w K mg base cls exC 3 1 "Hall" tZ eW:=dfI T.in1 T.m1 (by solve_by_elim [tP T])
theorem gU:pM P w K mg base cls exC 1 1 "hand" zY bD:=dfM (T.mt1.get 0 rfl) T.c1 (by solve_by_elim [])
theorem oV:pM P w K mg base cls exC 2 1 "pair" zW bM:=dfM (T.mt1.get 1 rfl) T.c1 (by solve_by_elim [gU T])
theorem Cg:pM P w K mg base cls exC 4 1 "put" Cs gF:=dfM (T.mt1.get 2 rfl) T.c1 (by solve_by_elim [gU T,rT T])
theorem tR:pM P w K mg base cls exC 5 1 "change" uA dP:=dfM (T.mt1.get 3 rfl) T.c1 (by solve_by_elim [gU T,tQ T])
theorem zF:pM P w K mg base cls exC 5 1 "take" zV fF:=dfM (T.mt1.get 4 rfl) T.c1 (by solve_by_elim [gU T,zD T])
theorem zE:pM P w K mg base cls exC 4 1 "tell" zU fE:=dfM (T.mt1.get 5 rfl) T.c1 (by solve_by_elim [oU T,oV T])
theorem zG:pM P w K mg base cls exC 4 1 "meet" zX fG:=dfM (T.mt1.get 6 rfl) T.c1 (by solve_by_elim [oU T,oV T])
theorem Nx:pN P w K mg base cls exC 6 "done" NC jM:=dfD (T.fn.get 6 rfl) (by solve_by_elim [zG T,zE T,zF T,tR T,Cg T])
theorem oS:pN P w K mg base cls exC 7 "answer_to" zQ bS:=dfD (T.fn.get 7 rfl) (by solve_by_elim [Nx T])
theorem ES:pN P w K mg base cls exC 8 "answers" Fo nO:=dfD (T.fn.get 8 rfl) (by solve_by_elim [oS T,kZ T])
theorem Kw:pN P w K mg base cls exC 8 "after" KI xW:=dfD (T.fn.get 9 rfl) (by solve_by_elim [qB T,wL T,gT T,gE T,oS T,kZ T])
theorem Bg:∀ n:Nat,pN P w K mg base cls exC n "_law_so" Bo (dA n)
 |0=>match (T.fn.get 10 rfl) with|⟨f,fd,F⟩=>⟨f,fd,⟨(fun _ _ _ _ ⟨_,_,_,_,_,_,_,_,z,_⟩=>nomatch z),(fun _ _ _ _ _ _ _ _ _ _ _ _ _ ⟨_,_,_,_,_,_,_,_,z,_⟩=>nomatch z)⟩,F.at_,F.fn.kp,Bnd.out (show Bnd _ _ _ Bo from fun _ _ _ _ _ _ _ _=>rfl) F.fn⟩
 |n+1=>dfD (T.fn.get 10 rfl) (k:=n) (N:=Bp) (by have D:=Bg n;solve_by_elim [D])
theorem zA:pN P w K mg base cls exC 1 "_law_whole" zN gL:=dfD (T.fn.get 11 rfl) (by solve_by_elim [])
theorem Hv:pN P w K mg base cls exC 1 "_law_at" HG kK:=dfD (T.fn.get 12 rfl) (by solve_by_elim [])
theorem oQ:pN P w K mg base cls exC 9 "_law_all_after" pF dM:=dfD (T.fn.get 13 rfl) (by solve_by_elim [Kw T])
theorem EQ:pN P w K mg base cls exC 1 "_law_odd" Fm eM:=dfD (T.fn.get 14 rfl) (by solve_by_elim [])
theorem rR:pN P w K mg base cls exC 1 "_law_word" Cp dE:=dfD (T.fn.get 15 rfl) (by solve_by_elim [])
theorem tN:pN P w K mg base cls exC 2 "_law_deed_of" tV gN:=dfD (T.fn.get 16 rfl) (by solve_by_elim [EQ T,rR T])
theorem zC:pN P w K mg base cls exC 3 "_law_drawn" zP jS:=dfD (T.fn.get 17 rfl) (by solve_by_elim [tN T])
theorem mF:pN P w K mg base cls exC 2 "_law_are_tables" mG cE:=dfD (T.fn.get 18 rfl) (by solve_by_elim [zA T])
theorem zB:pN P w K mg base cls exC 1 "_law_sweep" zO gM:=dfD (T.fn.get 19 rfl) (by solve_by_elim [])
theorem Pd {f:af}{fd:jk} (F:NL K mg "law" (top 31) f fd):qH P w K mg base (CX1 P w exC) 10 f fd Ph (spO cls exC K p_law):=Bk F.fn (by constructor <;> first|rfl|decide+kernel) (by solve_by_elim [Bg T 8,yZ T,mF T,oQ T,ES T,zB T,zC T,Hv T,rR T])
end
noncomputable abbrev cs:List Str:=["Hand","Hall"]
noncomputable abbrev xs:List Str:=["NoHand","SameHand"]
theorem all_mk {P:c9}{w:df}{K:aa}{h:cz}{mg:Str->Option ag}{fa C0 C1 E0 E1:af}{tl0 tl1:List ag} (X:K.In h) (G:h.Ns ce mg) (hfa:mg "law"=v9 (.ref fa))
  (T:Bn mg)
  (hdict:cu K ce "dict"=v9 wb)
  (n0:clsIn K "Hand" C0) (c0:Cls K C0) (mk0:mkIn K C0)
  (a0_kept:NoAttr K C0 "kept")
  (a0_knows:NoAttr K C0 "knows")
  (a0_number:NoAttr K C0 "number")
  (a0_table:NoAttr K C0 "table")
  (n1:clsIn K "Hall" C1) (c1:Cls K C1) (mk1:mkIn K C1)
  (a1_hands:NoAttr K C1 "hands")
  (e0:clsIn K "NoHand" E0) (o0:ownIn K E0 tl0)
  (e1:clsIn K "SameHand" E1) (o1:ownIn K E1 tl1)
  (hne:(ca E1::tl1).contains (.ref E0)=false)
  (If:AllP (fun x _ s=>FnIn K x s) lfs) (I:FnIn K "law" (top 31))
  (M0:AllP (mtF K C0) PL) (i0:mtF K C0 "__init__" "Hand.__init__" (bO (top 12) 0))
  (M1:AllP (mtF K C1) PK) (i1:mtF K C1 "__init__" "Hall.__init__" (bO (top 14) 0))
  :∃ fd:jk,(∀(s:am) (v:ag),rn s fd ⟨[v],[]⟩ [("_law_script",v)])/\∀ base:cz,K.In base->base.Ns ce mg->qH P w K mg base (CX1 P w (iW K xs)) 10 fa fd ["_law_script"] (spO (iW K cs) (iW K xs) K p_law):=by
 have q0:iW K cs 0=C0:=mR rfl n0;subst q0;have q1:iW K cs 1=C1:=mR rfl n1;subst q1;have r0:iW K xs 0=E0:=mR rfl e0;subst r0;have r1:iW K xs 1=E1:=mR rfl e1;subst r1;have TT:Txt K mg (iW K cs) (iW K xs):=⟨T,c4 X G hdict,c0,mz X G n0,c1,mz X G n1,a0_kept,a0_knows,a0_number,a0_table,a1_hands,mz X G e0,mz X G e1,⟨tl0,tl1,o0,o1,hne⟩,If.imp fun _ _ _ h=>h.fnAt X G,M0.imp fun _ _ _ h=>h.out,i0.mk mk0,M1.imp fun _ _ _ h=>h.out,i1.mk mk1⟩;obtain⟨a_law,fd_law,F_law⟩:=I.fnAt X G;obtain rfl:a_law=fa:=by
  have e:=hfa.symm.trans F_law.at_;cases e;rfl
 refine⟨fd_law,fun s v=> ?_,fun base kb nb=>Pd TT F_law⟩;obtain⟨oc,od,kV,doc,pm,an,cdv,ct,osl,rfl,_,_⟩:=F_law.fn.ex;exact .of_eq rfl
end L2.MB.Lw
open PySem PySem.W PyProof.Rows
set_option maxRecDepth 100000 in
set_option maxHeartbeats 0 in
theorem PySem.Challenge.cw_meetbook_k10_changed_by_one_who_saw_all_holds : PySem.Challenge.rw_meetbook_k10_changed_by_one_who_saw_all.Holds := by
 refine Hq0.tpQ ?_
 k_fill
 refine L2.MB.law_walkO (l:=PySem.Challenge.rw_meetbook_k10_changed_by_one_who_saw_all) (k:=10) (x:="_law_script") (φ:=L2.MB.Lw.p_law) (cs:=L2.MB.Lw.cs) (es:=L2.MB.Lw.xs) rfl rfl ⟨rfl,by decide,by decide⟩ (fun w h Y=>PySem.W.kIn_of Y) (fun ns h=>L2.MB.Lw.law_true ns h) ?F
 case F=>
  intro w mg fa h KX G hmg;have T:L2.MB.Bn mg:=by
   refine' L2.MB.bn_mk KX G ?_ ?_ ?_ ?_ ?_ ?_ ?_ ?_ ?_ ?_ ?_ ?_ ?_ ?_ <;> k_is
  refine' L2.MB.Lw.all_mk KX G hmg T ?_ ?_ ?_ ?_ ?_ ?_ ?_ ?_ ?_ ?_ ?_ ?_ ?_ ?_ ?_ ?_ ?_ ?_ ?_ ?_ ?_ ?_ ?_
  any_goals (with_reducible show L2.MB.clsIn _ _ _);unfold L2.MB.clsIn;k_is
  any_goals (with_reducible show L2.Cls _ _);refine' ⟨?_,?_,?_,?_⟩ <;> k_is
  any_goals (with_reducible show L2.MB.mkIn _ _);refine' ⟨?_,?_⟩ <;> k_is
  any_goals (with_reducible show L2.NoAttr _ _ _);unfold L2.NoAttr;k_is
  any_goals (with_reducible show L2.MB.ownIn _ _ _);(refine' L2.MB.own_mk ?p1 ?p2 ?p3 ?p4 ?p5 ?p6;(case p1=>k_is);(case p2=>rfl);(case p3=>rfl);(case p4=>(refine' L2.MB.tail_mk ?q1 ?q2 ?q3 ?q4;(case q1=>k_is);(case q2=>(refine' L2.MB.nsOk_mk ?l ?h;(case l=>k_is);(case h=>rfl)));(case q3=>k_is);(case q4=>rfl)));(case p5=>(refine' L2.MB.nsOk_mk ?l ?h;(case l=>k_is);(case h=>rfl)));(case p6=>k_is))
  any_goals (with_reducible show L2.MB.AllP _ _);dsimp only[L2.MB.AllP];(repeat' with_reducible apply And.intro)
  all_goals first|k_is|exact rfl|exact trivial|(refine' L2.MB.fnIn_mk ?z1 ?z2 ?z3 ?z4;(case z1=>k_is);(case z2=>k_is);(case z3=>k_is);(case z4=>k_is))|(refine' ⟨_,L2.MB.mtIn_mk ?z1 ?z2 ?z3 ?z4 ?z5⟩;(case z1=>k_is);(case z2=>k_is);(case z3=>k_is);(case z4=>k_is);(case z5=>k_is))
end
