import PyProof.Rows.All
import Wide.All
import OpenK.AllK
import Wide.FinOn
import Lean
import PyProof.EqAt
import PyProof.EqKinds
import PyProof.TupleCall
import PyProof.NeKinds
import PyProof.StationsW
import PyProof.ExcBaseAll.ValueError
import KE.KSortTup
import PySem.Challenge.RW_meetbook_k05_whole_however_they_met
set_option compiler.extract_closed false
section
set_option Elab.async false
open PySem PySem.W PyProof.Rows
def Hq0.vwQ : Program := { PySem.Challenge.pw_meetbook_k05_whole_however_they_met with main := { PySem.Challenge.pw_meetbook_k05_whole_however_they_met.main with body := [1, 2, 3, 5, 6, 7, 8, 10, 11, 13, 15, 16, 17, 19, 20, 21, 22, 23, 24, 25, 26, 27, 28, 29, 30, 31, 32, 33, 34, 35].filterMap fun i => PySem.Challenge.pw_meetbook_k05_whole_however_they_met.main.body[i]? } }
local macro_rules
 | `(tactic| o_head $H) => `(tactic| (refine holds_open (q := Hq0.vwQ) (loose := []) (Xt := fun s => xlAt Hq0.vwQ [] s && recOk [] s) (XP := XL Hq0.vwQ []) (Yf := Hook.obs $H) (Ya := Hook.val $H) (YP := Hook.says $H) (N := 5088) ?hl (Hook.of $H) (Hook.keeps $H) (fun s e => xl_of s (Bool.and_eq_true_iff.mp e).1) XL.keeps (by rfl) (by rfl) (by rfl) (fun s e => recFacts_of (Bool.and_eq_true_iff.mp e).2) (by rfl) (by first | assumption | decide +kernel) (by decide +kernel) ⟨rfl, rfl, rfl, rfl, rfl, by decide +kernel⟩ ?hw ?hc; (case hl => (intro w; kernel_rfl))))
set_option maxRecDepth 100000 in
set_option maxHeartbeats 0 in
open_top Hq0.tpQ for PySem.Challenge.rw_meetbook_k05_whole_however_they_met
end
open PySem.W renaming Frag→aa, nsIn→cr, mg_none_of→cz, hideAll→fz, hideAll_none→f6, keepIn→gu, findIn→hZ, emptyDict→ib, fnOf→iu, instObj→i9, codeIn→j5, hideAll_get→ki, kia_one→kz, nsOkIn→lh, of_hideAll→mh, tailIn→nh, mg_of→ol, plainGet→om, isFn→pd, plainGet_of→pi, lookIn→pk, KdlSrc→p7, callWith_K→p8, methodObj→qh, hasDictIn→qi, takerIn→se, makesIn→sf, kat_one→su, cellsFrom_some→tf, methodCall_KW→t9, kdu_collect→uz, plainOver→vq, handedIn→wd, OpenLaw→wu, kat_nil→wy, WalkO→xj, KasT→xl
open PySem renaming wpAny_bind→ae, Addr→af, Value→ag, wpAny_pure→ao, Shared→aq, starEach→au, wpAny→bc, sizeLine_eq→bt, Expr→bw, tupleKind→b0, mainGlobals→ce, Stmt→cx, Heap→c5, Program→da, backTo→db, bootBuiltins→dc, World→dh, Around→dm, wpAny_truthy_bool→dq, cLine→d7, wpAny_newObj_type→ff, sysModules→fk, compareOp→fw, mem_of_lookup→gk, entryOfKey→gn, foldedSetIterable→gp, cellsFrom→gz, wpAny_mono→g8, NameKind→ic, wpAny_call_entry→ig, wpAny_holding→ii, attributeBase→ij, keywordEach→ir, behindInMarks→iy, wpAny_typeNameOfWhole_valiter→je, wpAny_typeNameOfWhole_keyiter→jf, wpAny_callSpecial?_slot→jh, swapsWith→jm, wpAny_Call_Name_kw→jn, storedH→jv, FuncData→jw, wpAny_dictEntries→jx, Paired→j6, binaryOp→j7, backToKw→j8, wpAny_typeNameOf_valiter→ka, wpAny_typeNameOf_keyiter→kc, Scope→kj, Keyword→kr, tupleKind_room_in1→ky, wpAny_dictEpoch→k6, DictEntry→lm, assignEach→lq, atKey→lr, sliceBounds→l0, wpAny_passesOwn→l9, wpAny_ite_split→md, rawInt→mj, getMethod→mm, standAt→ng, pyNext→nv, codeAny→o7, wpAny_isOneOf_valiter→o9, wpAny_execs_nil→pb, letOwnedTupleGo→pc, getItem→pp, callerA→pq, intText?→pv, wpAny_fieldsOf→px, wpAny_setField→pz, firstArgMember→p0, wpAny_attempt→qf, wpAny_loadPart_at→qk, typeLookup→ql, valueAt→qt, codeAny_mono→qu, callWith→qv, wpAny_forIn_list→qw, IsPart→qy, wpAny_comprehension_free→qz, wpAny_isInstance→rg, putAt→sh, wpAny_specialOf→si, IsRangeIter→sw, wpAny_pyNext_range_end→sy, wpAny_pyIter_rangeiter→s0, wpAny_field→tm, wpAny_isTrue_Compare1→t7, BindsTo→t8, newFunctionEnv→ub, wpAny_notOrdered_dict→ud, wpAny_isOneOf_keyiter→uf, builtinLookup_eq_fast→uh, wpAny_pyIter_keyiter→um, wpAny_updateDictKeys→uo, wpAny_standAt→ur, swapsWithSole→ut, swappedStores→uu, wpAny_newList→ux, wpAny_isSubtype_exc→uy, wpAny_dictFind_heap→u0, Within→u8, seqIndex_neg→ve, noteFrame→vg, setFlight→vh, call_meetsIn→vj, seqIndex_of→wc, call→wt
open List renaming mem_cons_of_mem→ai, mem_cons→aj, length_map→ak, getElem?_append_left→am, mem_cons_self→ar, replicate→av, getD_eq_getElem?_getD→ax, getElem?_map→ay, mem_map→az, map_cons→bg, size_toArray→bi, getElem?_eq_getElem→bj, range→bp, getElem?_eq_some_iff→bq, zipWith→bu, length_append→bx, length_cons→b4, nodup_cons→b8, map_append→b9, mem_filter→ca, length_set→cj, not_mem_nil→cm, getElem?_eq_none→cq, append_nil→cu, range'→c4, mem_append→c6, filter_cons_of_neg→c7, filter_cons_of_pos→c9, getElem?_append_right→de, getElem?_range→di, mem_append_left→dr, getElem?_set_self→du, mem_append_right→dy, length_filter_le→d8, map_congr_left→eu, getElem?_replicate→fe, mem_singleton→fg, all_eq_true→fh, map_map→fj, replicate_succ→fm, length_zipWith→fu, append_assoc→fy, getElem?_set_ne→f8, mem_of_getElem?→f9, lookup_cons→gg, length_range→gq, find?_cons→gw, mem_filterMap→gy, mem_range→hX, ext_getElem?→iq, mem_or_eq_of_mem_set→i6, flatten_cons→jc, getElem_mem→jj, zipWith_cons_cons→jl, filter_append→jt, length_replicate→ju, nodup_append→jy, getElem?_of_mem→j0, lookup→j3, range'_succ→kh, filterMap_cons→km, filter_sublist→ko, length_nil→ku, filter_nil→k7, range_succ→k8, map_nil→k9, length_singleton→lg, any_cons→ls, length→lz, pairwise_iff_getElem→me, zip_cons_cons→mr, getElem_range→my, set_set→m7, length_filterMap_le→m8, reverse_cons→nj, mem_range'_1→nu, length_take→ou, filter_cons→ow, take_succ_eq_append_getElem→oy, any_eq_true→oz, mem_flatMap→o5, sum_append→pf, length_reverse→pj, drop_eq_getElem_cons→qm, mem_of_find?_eq_some→qq, map_set→rm, length_eq_zero_iff→rq, of_mem_zip→sg, range_succ_eq_map→tw, take_of_length_le→tz, getElem?_zipWith→uc, countP_singleton→ui, range_eq_range'→uq, filter_eq_self→u3, find?_eq_none→vk, set_cons_zero→vm, set_cons_succ→vn, mem_replicate→vo, countP_append→vp, nodup_range'→vy, length_drop→we, drop_length→wg, zipWith_map→wk, getElem_map→wl, foldl→wp, foldl_cons→wq, nil_append→wr, find?_some→wx, nodup_nil→xb, forIn_nil→xc
open PySem.Heap renaming get?_push_of_some→aw, lt_size→bh, get?_push_size→bv, get?_update_other→dw, get?_update_self→fx, SameBut→f7, size_push→io, DictOfH→iw, size_update→ox
open Nat renaming le_refl→bf, lt_of_lt_of_le→b7, le_trans→cf, ne_of_lt→ci, lt_irrefl→dn, le_of_lt→g9, zero_le→ia, min_self→jp, lt_or_ge→ll, lt_of_le_of_lt→mw, lt_succ_self→oq, not_lt→ul, le_of_eq→va
open Bool renaming and_eq_true→br, false_ne_true→cg, false_eq_true→df, or_eq_true→ie, or_false→uw, not_eq_true'→vv, not_false→xf
open Ne renaming symm→bz
open Option.some renaming inj→b3
open PySem.Value renaming ref→ck, none→ik, type→i8, bool→uj, int→u6, str→u7, isStrOf→xi
open Array renaming getD_eq_getD_getElem?→cw, length_toList→d9, getElem?_toList→gv, getElem?_eq_getElem→i5, getElem?_eq_some_iff→lu, isEmpty_iff→nq, getElem?_eq_none→n9, perm_iff_toList_perm→qg, all_toList→wj
open Int renaming toNat_natCast→cy, le_refl→i7, natCast_nonneg→jr
open PySem.NameKind renaming cell→c3, free→hV
open PySem.F renaming slot_dict_valueiterator_next→ga, slot_dict_keyiterator_next→gs, args_dict_valueiterator_next_1→l7, entry_dict_valueiterator_next→mf, args_dict_keyiterator_next_1→mz, entry_dict_keyiterator_next→ni, slot_dict_iter→oj, slot_dict_values_iter→ph, args_tuple_add_2→qx, slot_dict_values→rc, slot_dict_update→rh, entry_tuple_add→rn, plainAttrs_dict→rp, slot_tuple_add→tj, slot_list_append→ua, slot_dict_pop→ug
open PyProof.Rows renaming callWith_type1→gx, seqObj→hW, slot_tuple_getitem→jk, envOfC→jo, IntsAre→kt, AllBare→m9, sortedHeap→qo, get?_update_seq→sj, subscriptTail_builtinR→tq, subscriptTail→uv, lt_int→wn
open True renaming intro→im
open PySem.Builtin.Dict_items renaming ownsTuple→ip, newIterator→ww, dictOf→xk
open False renaming elim→iz
open PySem.Obj renaming mapSeq→i4, data_mapFields→jq, mapFields→lw, isFreed_of_fields→o8, mapDictKeys→ss, cls_mapFields→vx
open PySem.Paired renaming length→jd
open PySem.Builtin.Range renaming rangeSize→jg, small→u5
open PySem.Str renaming ofString→ji
open PySem.Builtin.Slice renaming slicePlaces→jz, sliceAdjust→ma, sliceApplied→qe
open Sum renaming inr→j4, inl→o6
open PySem.Builtin.Tuple renaming tupleExact→j9, tupleHashOf→qr
open Std.Legacy renaming Range→ke
open Classical renaming propDecidable→kq
open PySem.Builtin.Dict renaming showsAll→lj
open PySem.Builtin.List renaming listExtendWith→ln, listTooLong→mv, listLengthHint→p9, listSameRef→rj, listItems→t4
open PySem.Heap.SameBut renaming update→l8
open Option renaming isSome_iff_exists→mq, map_eq_some_iff→n8, isSome_map→qj, map_some→sv, isSome_some→vf, getD_none→wf, bind_some→wm, some→xo, none→xp
open ForInStep renaming yield→pe
open Lean.Macro renaming throwUnsupported→qc
open PySem.Calls renaming Name_function_global→qd, call_function_entry→qp, callWith_builtin→tu, evalArgs_plain→uk, spliced_cons→vd, spliced_nil→vt
open PySem.Data renaming cell→r9, fields→vz, dict→xh
open Std.Legacy.Range renaming forIn_eq_forIn_range'→u4, size→xn
open PySem.Around renaming under→vb
open PySem.Code renaming isFrame→vc
open PySem.SeqAt renaming EqAt→wo
open PySem.PassesOwn renaming never→wv
open Array.Perm renaming refl→wz
open PyProof.Rows.IsTup renaming new→xg
open PySem.IsRange renaming new→xm
open PySem PySem.Spec PyProof.Rows
set_option Elab.async false
set_option linter.all false
set_option maxRecDepth 100000
set_option maxHeartbeats 4000000
section
namespace L2
abbrev Key:=Sum Int Str
noncomputable def Dg:Key->ag->Bool
 |.inl k,v=>Value.isInt k v
 |.inr x,v=>xi x v
noncomputable def Si (w:dh):Key->Int
 |.inl k=>hashInt k
 |.inr x=>hashStr w x
theorem cM:∀ {k:Key}{v:ag},Dg k v=true->(∃ i t,k=o6 i/\v=u6 i t)∨(∃ x t,k=j4 x/\v=u7 x t)
 |.inl i,v,h=>by
  obtain⟨t,e⟩:=Value.isInt_shape (k:=i) (v:=v) h;exact .inl ⟨i,t,rfl,e⟩
 |.inr x,v,h=>by
  obtain⟨t,e⟩:=Value.isStrOf_shape (x:=x) (v:=v) h;exact .inr ⟨x,t,rfl,e⟩
theorem Fo (i:Int) (t:Tok):Dg (.inl i) (.int i t)=true:=by simp[Dg,Value.isInt]
theorem Fm (x:Str) (t:Tok):Dg (.inr x) (.str x t)=true:=by simp[Dg,xi]
theorem ON (a b:Int):decide ((o6 a:Key)=o6 b)=(a==b):=by
 by_cases e:a=b
 ·subst e;simp
 ·have h:¬(o6 a:Key)=o6 b:=fun q=>e (Sum.inl.inj q);rw[decide_eq_false h];exact(beq_eq_false_iff_ne.mpr e).symm
theorem OH (a b:Str):decide ((j4 a:Key)=j4 b)=decide (a=b):=by
 by_cases e:a=b
 ·subst e;simp
 ·have h:¬(j4 a:Key)=j4 b:=fun q=>e (Sum.inr.inj q);rw[decide_eq_false h,decide_eq_false e]
theorem OM (a:Int) (b:Str):decide ((o6 a:Key)=j4 b)=false:=decide_eq_false (fun q=>nomatch q)
theorem OJ (a:Str) (b:Int):decide ((j4 a:Key)=o6 b)=false:=decide_eq_false (fun q=>nomatch q)
noncomputable def aO (prog:da) (w:dh):PySem.KeyKind prog w Key where
 is:=Dg
 hash:=Si w
 inj:=fun v a b ha hb=>by
  rcases cM ha with⟨i,t,rfl,rfl⟩|⟨x,t,rfl,rfl⟩
  ·rcases cM hb with⟨j,u,rfl,e⟩|⟨y,u,rfl,e⟩
   ·injection e with e1 _;rw[e1]
   ·exact nomatch e
  ·rcases cM hb with⟨j,u,rfl,e⟩|⟨y,u,rfl,e⟩
   ·exact nomatch e
   ·injection e with e1 _;rw[e1]
 byValue:=fun k v h=>by
  rcases cM h with⟨i,t,rfl,rfl⟩|⟨x,t,rfl,rfl⟩ <;> rfl
 pyHash:=fun hv h=>by
  rcases cM hv with⟨i,t,rfl,rfl⟩|⟨x,t,rfl,rfl⟩
  ·exact wpAny_pyHash_int h
  ·exact wpAny_pyHash_str h
 eqBool:=fun hu hv h=>by
  rcases cM hu with⟨i,t,rfl,rfl⟩|⟨x,t,rfl,rfl⟩
  ·rcases cM hv with⟨j,u,rfl,rfl⟩|⟨y,u,rfl,rfl⟩
   ·rw[ON] at h;exact wpAny_eqBool_int h
   ·rw[OM] at h;exact SeqAt.EqAt.int_str i t y u _ _ _ _ h
  ·rcases cM hv with⟨j,u,rfl,rfl⟩|⟨y,u,rfl,rfl⟩
   ·rw[OJ] at h;exact SeqAt.EqAt.str_int x t j u _ _ _ _ h
   ·rw[OH] at h;exact wpAny_eqBool_str h
 «strs» :=fun k x t v h=>by
  rcases cM h with⟨i,u,rfl,e⟩|⟨y,u,rfl,e⟩
  ·exact nomatch e
  ·injection e with e1 _
   subst e1;cases v <;> rfl
theorem Ar (prog:da) (w:dh) (i:Int) (t:Tok):(aO prog w).is (.inl i) (.int i t)=true:=Fo i t
theorem Aq (prog:da) (w:dh) (x:Str) (t:Tok):(aO prog w).is (.inr x) (.str x t)=true:=Fm x t
end L2
namespace L2
inductive V where
 |non|bl (b:Bool)|int (i:Int)|str (x:Str)|byt (b:Array UInt8)|flt (b:UInt64)|ref (a:af)|ty (n:String)
 deriving DecidableEq
def RelV:V->ag->Prop
 |.non,u=>u=ik
 |.bl b,u=>u=uj b
 |.int i,u=>∃ t,u=u6 i t
 |.str x,u=>∃ t,u=u7 x t
 |.byt b,u=>∃ t,u=Value.bytes b t
 |.flt b,u=>∃ t,u=Value.float b t
 |.ref a,u=>u=ck a
 |.ty n,u=>u=i8 n
abbrev Vals:List V->List ag->Prop:=j6 RelV
theorem Vals.length (r:Vals xs us):xs.length=us.length:=jd r
theorem Vals.get:∀ {xs:List V}{us:List ag}{i:Nat}{x:V},Vals xs us->xs[i]?=xo x->∃ u,us[i]?=xo u/\RelV x u
 |_,_,_,_,.nil,e=>by simp at e
 |_,_,0,_,.cons r _,e=>by simp at e;subst e;exact⟨_,rfl,r⟩
 |_,_,i+1,x,.cons _ t,e=>by
  obtain⟨u,h1,h2⟩:=Vals.get (i:=i) (x:=x) t (by simpa using e);exact⟨u,by simpa using h1,h2⟩
theorem Vals.set (r:RelV x u):∀ {xs:List V}{us:List ag} (i:Nat),Vals xs us->Vals (xs.set i x) (us.set i u)
 |_,_,_,.nil=>.nil
 |_,_,0,.cons _ t=>.cons r t
 |_,_,i+1,.cons q t=>.cons q (Vals.set r i t)
theorem Vals.append:∀ {xs ys:List V}{us ws:List ag},Vals xs us->Vals ys ws->Vals (xs++ys) (us++ws)
 |_,_,_,_,.nil,s=>s
 |_,_,_,_,.cons r t,s=>.cons r (Vals.append t s)
theorem Vals.take:∀ {xs:List V}{us:List ag} (n:Nat),Vals xs us->Vals (xs.take n) (us.take n)
 |_,_,0,_=>.nil
 |_,_,_+1,.nil=>.nil
 |_,_,n+1,.cons r t=>.cons r (Vals.take n t)
theorem Vals.drop:∀ {xs:List V}{us:List ag} (n:Nat),Vals xs us->Vals (xs.drop n) (us.drop n)
 |_,_,0,r=>r
 |_,_,_+1,.nil=>.nil
 |_,_,n+1,.cons _ t=>Vals.drop n t
def RelO:Option V->Option ag->Prop
 |some v,xo u=>RelV v u
 |none,xp=>True
 |_,_=>False
def KV {κ:Type}:List (κ×V)->List (κ×ag)->Prop:=j6 fun(p:κ×V) (q:κ×ag)=>p.1=q.1/\RelV p.2 q.2
noncomputable def kV:Key->V
 |.inl i=>.int i
 |.inr x=>.str x
inductive HO where
 /-- a list -/
 |lst (xs:List V)
 /-- a tuple (never changes) -/
 |tup (xs:List V)
 /-- a dict whose keys are ints and texts;one whose keys are tuples of ints and texts (the empty one is both) -/
 |dK (kvs:List (Key×V))|dT (kvs:List (List Key×V))
 /-- a set of ints:its members,its size -/
 |set (S:Int->Bool) (n:Nat)
 /-- an instance of the class at C,its dict at dx,its attributes -/
 |ins (C dx:af) (fs:List (Str×V))
 /-- the dict of the instance at x -/
 |own (x:af)
 /-- the dict of an exception -/
 |xd (fs:List (Str×V))
 /-- a bound method,f of x -/
 |met (f x:af)
 /-- a range object lo,lo+1,.. below hi -/
 |rng (lo hi:Int)
 /-- a thing that is known to the object (the script;a dict while a loop walks it):read,never written while it is so -/
 |frz (o:Obj) (u:HO)
 /-- a code object's table -/
 |tbl (ps:Array ag)
 /-- any other thing,by what is true of its one object (a def of one's own:SetO a S n:=HO.ext fun h=> ..) -/
 |ext (φ:c5->Prop)
abbrev Hp:=af->Option HO
noncomputable def upd (H:Hp) (a:af) (o:HO):Hp:=fun b=>if b=a then xo o else H b
theorem aP:upd H a o a=xo o:=by unfold upd;rw[if_pos rfl]
theorem aG (h:b≠a):upd H a o b=H b:=by unfold upd;rw[if_neg h]
theorem Ls {H:Hp} (h:H a=xo o) (h':H b=xo u) (d:o≠u):a≠b:=by
 intro e;subst e;rw[h] at h';exact d (b3 h')
theorem aN {H:Hp} (h:H a=xo o) (h':H b=xp):a≠b:=by
 intro e;subst e;rw[h] at h';cases h'
section
variable (P:da) (w:dh)
def ObjOk (H:Hp) (h:c5) (a:af):HO->Prop
 |.lst xs=>xs.length<=sizeLine/\∃(its:List ag) (n:Nat),Vals xs its/\h.get? a=xo { cls:=.type "list",data:=.seq its.toArray n }
 |.tup xs=>xs.length<=sizeLine/\∃ its:List ag,Vals xs its/\IsTup h a its.toArray
 |.dK kvs=>kvs.length<=sizeLine/\(a==fk)=false/\∃ vs,KV kvs vs/\h.DictOf (aO P w) a vs
 |.dT kvs=>kvs.length<=sizeLine/\(a==fk)=false/\∃ xs:List (List Key×af×ag),
   j6 (fun(p:List Key×V) (q:List Key×af×ag)=>p.1=q.1/\H q.2.1=xo (.tup (p.1.map kV))/\RelV p.2 q.2.2) kvs xs/\
   ∃ o es ep,h.get? a=xo o/\o.ExactDict/\o.data=.dict es ep/\es.toList=xs.map (gn (b0 (aO P w)))/\(xs.map (·.1)).Nodup
 |.set S n=>h.SetOf (intKind P w) a S n
 |.ins C dx fs=>H dx=xo (.own a)/\fs.length<=1000/\dx≠a/\h.get? a=xo (i9 C dx)/\
   ∃ mA,h.Ns1 dx mA/\(∀ f,RelO (fs.lookup f) (mA f))/\u8 mA (fs.map (·.1))
 |.own _=>∃ o,h.get? a=xo o
 |.xd fs=>∃ mA,h.Ns1 a mA/\∀ f,RelO (fs.lookup f) (mA f)
 |.rng lo hi=>∃ t u v,h.get? a=xo { cls:=.type "range",data:=.fields #[.int lo t,.int hi u,.int 1 v] }
 |.frz o u=>h.get? a=xo o/\ObjOk H h a u
 |.tbl ps=>h.get? a=xo { cls:=.none,data:=.fields ps }
 |.met f x=>h.get? a=xo (qh (.ref f) (.ref x))
 |.ext φ=>φ h/\(∃ o,h.get? a=xo o)/\∀ h1 h2:c5,φ h1->(∀ o,h1.get? a=xo o->h2.get? a=xo o)->φ h2
def HOk (H:Hp) (h:c5):Prop:=∀ a o,H a=xo o->ObjOk P w H h a o
end
section
variable {P:da}{w:dh}{H H':Hp}{h h':c5}{a:af}{o:HO}
theorem ObjOk.lt (x:ObjOk P w H h a o):a<h.objs.size:=by
 cases o with
 |lst xs=>obtain⟨_,_,_,_,e⟩:=x;exact bh e
 |tup xs=>obtain⟨_,_,_,p⟩:=x;exact p.lt
 |dK kvs=>obtain⟨_,_,_,_,o,_,_,e,_⟩:=x;exact bh e
 |dT kvs=>obtain⟨_,_,_,_,o,_,_,e,_⟩:=x;exact bh e
 |set S n=>obtain⟨o,_,_,_,e,_⟩:=x;exact bh e
 |ins C dx fs=>obtain⟨_,_,_,e,_⟩:=x;exact bh e
 |own y=>obtain⟨_,e⟩:=x;exact bh e
 |xd fs=>obtain⟨_,⟨_,_,_,e,_⟩,_⟩:=x;exact bh e
 |rng lo hi=>obtain⟨_,_,_,e⟩:=x;exact bh e
 |frz ob u=>obtain⟨e,_⟩:=x;exact bh e
 |tbl ps=>exact bh (show h.get? a=xo _ from x)
 |met f y=>exact bh (show h.get? a=xo _ from x)
 |ext φ=>obtain⟨_,⟨_,e⟩,_⟩:=x;exact bh e
theorem j6.mapP:∀ {l₁:List α}{l₂:List β},j6 F l₁ l₂->(∀ a b,F a b->G a b)->j6 G l₁ l₂
 |_,_,.nil,_=>.nil
 |_,_,.cons r t,f=>.cons (f _ _ r) (j6.mapP t f)
theorem ObjOk.stay (x:ObjOk P w H h a o) (k:∀ b u,(b=a∨H b=xo (.own a))->h.get? b=xo u->h'.get? b=xo u)
  (ho:∀ b,H b=xo (.own a)->H' b=xo (.own a)) (ht:∀ b xs,H b=xo (.tup xs)->H' b=xo (.tup xs)):ObjOk P w H' h' a o:=by
 induction o with
 |lst xs=>obtain⟨z,its,n,r,e⟩:=x;exact⟨z,its,n,r,k _ _ (.inl rfl) e⟩
 |tup xs=>obtain⟨z,its,r,ob,e,c⟩:=x;exact⟨z,its,r,ob,k _ _ (.inl rfl) e,c⟩
 |dK kvs=>obtain⟨z,y,vs,r,ob,es,ep,e,c⟩:=x;exact⟨z,y,vs,r,ob,es,ep,k _ _ (.inl rfl) e,c⟩
 |dT kvs=>
  obtain⟨z,y,xs,r,ob,es,ep,e,c⟩:=x;exact⟨z,y,xs,j6.mapP r fun p q z=>⟨z.1,ht _ _ z.2.1,z.2.2⟩,ob,es,ep,k _ _ (.inl rfl) e,c⟩
 |set S n=>obtain⟨ob,es,ep,t,e,c⟩:=x;exact⟨ob,es,ep,t,k _ _ (.inl rfl) e,c⟩
 |ins C dx fs=>
  obtain⟨d,z,ne,e,mA,⟨od,es,ep,e2,c⟩,r⟩:=x;exact⟨ho _ d,z,ne,k _ _ (.inl rfl) e,mA,⟨od,es,ep,k _ _ (.inr d) e2,c⟩,r⟩
 |own y=>obtain⟨ob,e⟩:=x;exact⟨ob,k _ _ (.inl rfl) e⟩
 |xd fs=>obtain⟨mA,⟨od,es,ep,e,c⟩,r⟩:=x;exact⟨mA,⟨od,es,ep,k _ _ (.inl rfl) e,c⟩,r⟩
 |rng lo hi=>obtain⟨t,u,v,e⟩:=x;exact⟨t,u,v,k _ _ (.inl rfl) e⟩
 |frz ob u ih=>obtain⟨e,q⟩:=x;exact⟨k _ _ (.inl rfl) e,ih q⟩
 |tbl ps=>
  have e:h.get? a=xo { cls:=.none,data:=.fields ps }:=x;show h'.get? a=xo { cls:=.none,data:=.fields ps };exact k a _ (.inl rfl) e
 |met f y=>
  have e:h.get? a=xo (qh (.ref f) (.ref y)):=x;show h'.get? a=xo (qh (.ref f) (.ref y));exact k a _ (.inl rfl) e
 |ext φ=>obtain⟨p,⟨o,e⟩,st⟩:=x;exact⟨st _ _ p fun o q=>k _ _ (.inl rfl) q,⟨o,k _ _ (.inl rfl) e⟩,st⟩
theorem HOk.lt (x:HOk P w H h) (e:H a=xo o):a<h.objs.size:=(x a o e).lt
theorem HOk.fresh (x:HOk P w H h) (e:h.objs.size<=a):H a=xp:=by
 cases q:H a with
 |none=>rfl
 |some u=>exact absurd (b7 (x.lt q) e) (dn _)
theorem HOk.kept (x:HOk P w H h) (k:∀ b u,h.get? b=xo u->h'.get? b=xo u):HOk P w H h':=fun a o e=>
 (x a o e).stay (fun b u _ q=>k b u q) (fun _ q=>q) fun _ _ q=>q
theorem HOk.laid (x:HOk P w H h) (k:∀ b u,h.get? b=xo u->h'.get? b=xo u) (hp:h.objs.size<=a) (new:ObjOk P w (upd H a o) h' a o):HOk P w (upd H a o) h':=fun b u e=>by
 have hn:=x.fresh hp
 by_cases hb:b=a
 ·subst hb;rw[aP] at e;cases e;exact new
 ·rw[aG hb] at e;exact(x b u e).stay (fun c v _ q=>k c v q) (fun c q=>by rw[aG (aN q hn)];exact q) fun c xs q=>by rw[aG (aN q hn)];exact q
end
def Rd (H:Hp) (a:af) (u:HO):Prop:=H a=xo u∨∃ o,H a=xo (.frz o u)
theorem Rd.ok (r:Rd H a u) (x:HOk P w H h):ObjOk P w H h a u:=by
 rcases r with r|⟨o,r⟩
 ·exact x a u r
 ·obtain⟨_,q⟩:=x a _ r;exact q
def Mut:Option HO->Prop
 |some (.lst _)=>True
 |some (.dK _)=>True
 |some (.dT _)=>True
 |some (.set _ _)=>True
 |some (.ins _ _ _)=>True
 |some (.ext _)=>True
 |_=>False
section
variable {P:da}{w:dh}{H:Hp}{h h':c5}{x e:af}{o':HO}
theorem HOk.write (ok:HOk P w H h) (mu:Mut (H x)) (he:e=x∨H e=xo (.own x)) (k:∀ b u,b≠e->h.get? b=xo u->h'.get? b=xo u) (heo:∃ u,h'.get? e=xo u)
  (new:ObjOk P w (upd H x o') h' x o'):HOk P w (upd H x o') h':=fun b u q=>by
 have nown:∀ c y,H c=xo (.own y)->c≠x:=fun c y r z=>by subst z;rw[r] at mu;exact mu
 have ntup:∀ c xs,H c=xo (.tup xs)->c≠x:=fun c xs r z=>by subst z;rw[r] at mu;exact mu
 by_cases hb:b=x
 ·subst hb;rw[aP] at q;cases q;exact new
 ·rw[aG hb] at q
  by_cases hbe:b=e
  ·have q':H b=xo (.own x):=by
    rcases he with z|z
    ·exact absurd (hbe.trans z) hb
    ·rw[hbe];exact z
   rw[q] at q';cases q';obtain⟨v,hv⟩:=heo;exact⟨v,by rw[hbe];exact hv⟩
  ·refine(ok b u q).stay (fun c v hc r=>k c v ?_ r) (fun c r=>by rw[aG (nown c b r)];exact r) fun c xs r=>by rw[aG (ntup c xs r)];exact r
   rcases hc with rfl|hc
   ·exact hbe
   ·rintro rfl;rcases he with z|z
    ·exact nown c b hc z
    ·rw[hc] at z;cases z;exact hb rfl
end
structure Un (fs ex:List af) (H H':Hp) (h h':c5):Prop where
 keep:∀ b o,h.get? b=xo o->H b=xp->b∉fs->b∉ex->h'.get? b=xo o
 slot:∀ b o,h.get? b=xo o->H b=xp->b∈fs->b∉ex->∃ sl,h'.get? b=xo { o with slots:=sl }
 free:∀ b o,h.get? b=xo o->H b=xp->b∉ex->H' b=xp
 there:∀ b o,h.get? b=xo o->b∉ex->∃ o',h'.get? b=xo o'
 tups:∀ b xs,H b=xo (.tup xs)->H' b=xo (.tup xs)
 frzs:∀ b o u,H b=xo (.frz o u)->H' b=xo (.frz o u)
 tbls:∀ b ps,H b=xo (.tbl ps)->∃ more,H' b=xo (.tbl (ps++more))
section
variable {fs fs' ex ex':List af}{H H1 H2:Hp}{h h1 h2 h':c5}{a x e:af}{o:HO}
theorem Un.any (u:Un fs ex H H1 h h1) (q:h.get? b=xo ob) (n:H b=xp) (hx:b∉ex):∃ sl,h1.get? b=xo { ob with slots:=sl }:=by
 by_cases hb:b∈fs
 ·exact u.slot b ob q n hb hx
 ·exact⟨ob.slots,u.keep b ob q n hb hx⟩
theorem Un.kept (k:∀ b u,h.get? b=xo u->h'.get? b=xo u):Un fs ex H H h h':=
 ⟨fun b ob q _ _ _=>k b ob q,fun b ob q _ _ _=>⟨ob.slots,k b ob q⟩,fun _ _ _ n _=>n,fun b ob q _=>⟨ob,k b ob q⟩,fun _ _ q=>q,fun _ _ _ q=>q,fun _ ps q=>⟨#[],by rw[q];simp⟩⟩
theorem Un.refl:Un fs ex H H h h:=Un.kept fun _ _ q=>q
theorem Un.laid (k:∀ b u,h.get? b=xo u->h'.get? b=xo u) (hp:h.objs.size<=a) (hn:H a=xp):Un fs ex H (upd H a o) h h' where
 keep:=fun b u q _ _ _=>k b u q
 slot:=fun b u q _ _ _=>⟨u.slots,k b u q⟩
 free:=fun b u q n _=>by rw[aG (ci (b7 (bh q) hp))];exact n
 there:=fun b u q _=>⟨u,k b u q⟩
 tups:=fun b xs q=>by rw[aG (aN q hn)];exact q
 frzs:=fun b u xs q=>by rw[aG (aN q hn)];exact q
 tbls:=fun b ps q=>⟨#[],by rw[aG (aN q hn),q];simp⟩
theorem Un.write (mu:Mut (H x)) (he:e=x∨H e=xo (.own x)) (k:∀ b u,b≠e->h.get? b=xo u->h'.get? b=xo u) (heo:∃ u,h'.get? e=xo u):Un fs ex H (upd H x o) h h':=by
 have hx:∀ b,H b=xp->b≠x:=fun b n z=>by subst z;rw[n] at mu;exact mu
 have hb:∀ b,H b=xp->b≠e:=fun b n z=>by
  subst z;rcases he with r|r
  ·exact hx b n r
  ·rw[n] at r;cases r
 have hm:∀ b u,H b=xo u->¬ Mut (xo u)->b≠x:=fun b u q nm z=>by subst z;rw[q] at mu;exact nm mu
 refine⟨fun b u q n _ _=>k b u (hb b n) q,fun b u q n _ _=>⟨u.slots,k b u (hb b n) q⟩,fun b u q n _=>by rw[aG (hx b n)];exact n,fun b u q _=> ?_,
  fun b xs q=>by rw[aG (hm b _ q fun z=>z)];exact q,fun b u xs q=>by rw[aG (hm b _ q fun z=>z)];exact q,fun b ps q=>⟨#[],by rw[aG (hm b _ q fun z=>z),q];simp⟩⟩
 by_cases hbe:b=e
 ·subst hbe;exact heo
 ·exact⟨u,k b u hbe q⟩
end
noncomputable def trk (h:c5) (H:Hp):List af:=(bp h.objs.size).filter fun a=>(H a).isSome
noncomputable def Io (h:c5) (H:Hp):c5:=fz h (trk h H)
theorem Fw (h:c5) (H:Hp):(Io h H).objs.size=h.objs.size:=PySem.W.hideAll_size _ _
theorem Im (e:h.get? b=xo o) (n:H b=xp):(Io h H).get? b=xo o:=
 ki _ e fun hm=>by
  have q:(H b).isSome=true:=(ca.mp hm).2;rw[n] at q;simp at q
theorem KW (e:(Io h H).get? b=xo o):h.get? b=xo o/\H b=xp:=by
 have e':h.get? b=xo o:=mh (trk h H) e;refine⟨e',?_⟩;cases q:H b with
 |none=>rfl
 |some x=>
  have hm:b∈trk h H:=ca.mpr ⟨hX.mpr (bh e'),by simp[q]⟩;have z:(Io h H).get? b=xp:=f6 (trk h H) hm;rw[z] at e;cases e
end L2
namespace L2
structure Mod (K:aa) (mg:Str->Option ag) (base:c5):Prop where
 kin:K.In base
 glob:base.Ns ce mg
 blt:∃ mb,base.Ns builtinsNs mb/\∀ x:Str,x≠"__name__"->mb x=dc x
 nolimit:base.NoLimit
structure Cx where
 prog:da
 w:dh
 K:aa
 mg:Str->Option ag
 base:c5
 A:dm
 N:List Str
 s₀:aq
 H₀:Hp
 env:Env
 outer:List Env
 stack:List Env
 ex:List af
 fn:Str->Bool
 calm:Bool
 pn:List (af×Obj)
 xe:ag->aq->Prop
noncomputable def frs (l:List Env):List af:=l.filterMap (·.frame)
noncomputable abbrev Cx.fs (X:Cx):List af:=frs X.outer
def Vis (sc:kj) (x:Str):Prop:=sc.names.lookup x=xo .local∨sc.names.lookup x=xo .cell∨sc.names.lookup x=xo .free
def Loc (sc:kj) (x:Str):Prop:=sc.names.lookup x=xo .local∨sc.names.lookup x=xo .cell
def Sz (env:Env) (h:c5) (m:Str->Option ag) (x:Str) (u:ag):Prop:=
 (env.kindOf x=xo .local/\m x=xo u)∨((env.kindOf x=xo .cell∨env.kindOf x=xo .free)/\∃ c,env.cells.lookup x=xo c/\h.IsCell c (xo u))
structure Cx.Ok (X:Cx):Prop where
 mod:Mod X.K X.mg X.base
 kind:X.env.scope.kind=.function
 glob:X.env.globals=ce
 blt:X.env.builtins=builtinsNs
 above:X.s₀.heap.objs.size<=X.env.locals
 inj:∀ x y c,X.env.cells.lookup x=xo c->X.env.cells.lookup y=xo c->x=y
 has:∀ x,(X.env.kindOf x=xo .cell∨X.env.kindOf x=xo .free)->∃ c,X.env.cells.lookup x=xo c
 cab:∀ x c,X.fn x=true->X.env.cells.lookup x=xo c->X.s₀.heap.objs.size<=c
 hd:X.calm=true->X.A.handled=xp
 frames:X.A.frames=xo X.stack
 stk:X.stack=X.outer∨(X.stack=X.env::X.outer/\X.env.frame=xo X.env.locals)
 exf:∀ b∈X.ex,b≠X.env.locals/\∀ x c,X.env.cells.lookup x=xo c->c≠b
 bs:∀ b o,X.base.get? b=xo o->X.s₀.heap.get? b=xo o/\X.H₀ b=xp
 bsz:X.base.objs.size<=X.s₀.heap.objs.size
 noex:∀ b o,X.base.get? b=xo o->b∉X.ex
 exfs:∀ b∈X.ex,b∉X.fs
 funs:X.s₀.heap.FunFrames X.base X.outer
 frf:∀ b∈X.fs,X.H₀ b=xp
structure Inv (X:Cx) (pins:List (af×Obj)) (σ:List (Option V)) (H:Hp) (s:aq):Prop where
 ok:X.Ok
 os:s.os=X.s₀.os
 bare:m9 s.gens
 base:Un X.fs X.ex X.H₀ H X.s₀.heap s.heap
 loc:∃ m,s.heap.Ns X.env.locals m/\∀(i:Nat) (x:Str) (v:V),X.N[i]?=xo x->σ[i]?=xo (xo v)->Vis X.env.scope x->∃ u,RelV v u/\Sz X.env s.heap m x u
 cell:∀ x c,X.env.cells.lookup x=xo c->∃ v,s.heap.IsCell c v
 free:H X.env.locals=xp
 freeC:∀ x c,X.env.cells.lookup x=xo c->H c=xp
 pin:∀ p∈X.pn++pins,s.heap.get? p.1=xo p.2/\H p.1=xp/\p.1≠X.env.locals/\p.1∉X.fs/\∀ v,p.2.data≠ .cell v
 hok:HOk X.prog X.w H s.heap
 len:σ.length=X.N.length
section
variable {X:Cx}{pins:List (af×Obj)}{σ:List (Option V)}{H H':Hp}{s:aq}{h':c5}
theorem Cx.Ok.nofr (ok:X.Ok) (e:X.base.get? b=xo o):b∉X.fs:=fun hb=>by
 have:=(ok.funs.mem hb).1
 rw[e] at this;cases this
theorem Inv.bs (I:Inv X pins σ H s):∀ b o,X.base.get? b=xo o->s.heap.get? b=xo o/\H b=xp:=fun b o e=>
 ⟨I.base.keep b o (I.ok.bs b o e).1 (I.ok.bs b o e).2 (I.ok.nofr e) (I.ok.noex b o e),I.base.free b o (I.ok.bs b o e).1 (I.ok.bs b o e).2 (I.ok.noex b o e)⟩
theorem Inv.bk (I:Inv X pins σ H s):∀ b o,X.base.get? b=xo o->s.heap.get? b=xo o:=fun b o e=>(I.bs b o e).1
theorem Inv.mod (I:Inv X pins σ H s):Mod X.K X.mg X.base:=I.ok.mod
theorem Inv.kIn (I:Inv X pins σ H s):X.K.In s.heap:=I.ok.mod.kin.keeps I.bk
theorem Inv.lt (I:Inv X pins σ H s):X.env.locals<s.heap.objs.size:=let ⟨_,hn,_⟩:=I.loc;hn.lt
theorem Inv.sz (I:Inv X pins σ H s):X.s₀.heap.objs.size<=s.heap.objs.size:=cf I.ok.above (g9 I.lt)
theorem Inv.nofs (I:Inv X pins σ H s) (h:s.heap.objs.size<=a):a∉X.fs:=fun hb=>by
 obtain⟨_,o,ho,_⟩:=I.ok.funs.mem hb;exact absurd (b7 (bh ho) (cf I.sz h)) (dn _)
theorem Inv.cne (I:Inv X pins σ H s):∀ x c,X.env.cells.lookup x=xo c->c≠X.env.locals:=fun x c e z=>by
 obtain⟨v,o,ho,hd⟩:=I.cell x c e;obtain⟨m,⟨o',es,ep,ho',hd',_⟩,_⟩:=I.loc;rw[z,ho'] at ho;cases ho;rw[hd'] at hd;cases hd
theorem Inv.funs (I:Inv X pins σ H s):s.heap.FunFrames X.base X.outer:=by
 have all:∀(l:List Env),(∀ b∈frs l,b∈X.fs)->X.s₀.heap.FunFrames X.base l->s.heap.FunFrames X.base l:=by
  intro l
  induction l with
  |nil=>intro _ _;trivial
  |cons env r ih=>
   intro hs hl;obtain⟨hk,⟨L,o,hf,hn,ho,hd⟩,hr⟩:=hl;have hL:L∈X.fs:=hs L (by unfold frs;rw[km,hf];exact ar);obtain⟨sl,e⟩:=I.base.slot L o ho (I.ok.frf L hL) hL fun z=>I.ok.exfs L z hL;exact⟨hk,⟨L,_,hf,hn,e,hd⟩,ih (fun b hb=>hs b (by unfold frs;rw[km,hf];exact ai _ hb)) hr⟩
 exact all X.outer (fun _ hb=>hb) I.ok.funs
theorem Inv.stack (I:Inv X pins σ H s):s.heap.FunFrames X.base X.stack:=by
 rcases I.ok.stk with e|⟨e,hf⟩
 ·rw[e];exact I.funs
 ·rw[e];obtain⟨m,hn,_⟩:=I.loc;refine .cons (by rw[I.ok.kind];decide) hf hn ?_ I.funs;exact Heap.get?_none_of_le (cf I.ok.bsz I.ok.above)
theorem Inv.stkSub (I:Inv X pins σ H s):∀ b∈frs X.stack,b∈X.env.locals::X.fs:=fun b hb=>by
 rcases I.ok.stk with e|⟨e,hf⟩
 ·rw[e] at hb;exact ai _ hb
 ·rw[e] at hb;unfold frs at hb;rw[km,hf] at hb;exact hb
theorem Inv.stkFree (I:Inv X pins σ H s):∀ b∈frs X.stack,H b=xp:=fun b hb=>by
 rcases aj.mp (I.stkSub b hb) with e|hb
 ·rw[e];exact I.free
 ·obtain⟨_,o,ho,_⟩:=I.ok.funs.mem hb;exact I.base.free b o ho (I.ok.frf b hb) fun z=>I.ok.exfs b z hb
theorem Inv.step {ch:List af} (I:Inv X pins σ H s)
  (hch:∀ b∈ch,(b∈X.ex∨X.s₀.heap.objs.size<=b)/\b≠X.env.locals/\(∀ x c,X.env.cells.lookup x=xo c->c≠b)/\∀ p∈X.pn++pins,p.1≠b)
  (keep:∀ b o,b≠X.env.locals->b∉X.fs->b∉ch->s.heap.get? b=xo o->H b=xp->h'.get? b=xo o)
  (slot:∀ b o,b≠X.env.locals->b∈X.fs->b∉ch->s.heap.get? b=xo o->H b=xp->∃ sl,h'.get? b=xo { o with slots:=sl }) (free:∀ b o,b∉ch->s.heap.get? b=xo o->H b=xp->H' b=xp)
  (there:∀ b o,b∉ch->s.heap.get? b=xo o->∃ o',h'.get? b=xo o')
  (tups:∀ b xs,H b=xo (.tup xs)->H' b=xo (.tup xs)) (frzs:∀ b o u,H b=xo (.frz o u)->H' b=xo (.frz o u)) (tbls:∀ b ps,H b=xo (.tbl ps)->∃ more,H' b=xo (.tbl (ps++more)))
  (ns:∀ m,s.heap.Ns X.env.locals m->h'.Ns X.env.locals m) (hok:HOk X.prog X.w H' h') (hg:m9 g'):
  Inv X pins σ H' { s with heap:=h',gens:=g',drawn:=d',toks:=t' }:=by
 have neL:∀ b o,X.s₀.heap.get? b=xo o->b≠X.env.locals:=fun b o e=>ci (b7 (bh e) I.ok.above);have neC:∀ b o,X.s₀.heap.get? b=xo o->b∉X.ex->b∉ch:=fun b o e hx hb=>by
  rcases(hch b hb).1 with z|z
  ·exact hx z
  ·exact absurd (b7 (bh e) z) (dn _)
 have cellK:∀ x c,X.env.cells.lookup x=xo c->∀ v,s.heap.IsCell c v->h'.IsCell c v:=fun x c e v ⟨o,ho,hd⟩=>by
  have nch:c∉ch:=fun z=>(hch c z).2.2.1 x c e rfl
  by_cases hc:c∈X.fs
  ·obtain⟨sl,q⟩:=slot c o (I.cne x c e) hc nch ho (I.freeC x c e);exact⟨_,q,hd⟩
  ·exact⟨o,keep c o (I.cne x c e) hc nch ho (I.freeC x c e),hd⟩
 refine⟨I.ok,I.os,hg,⟨fun b o e n hb hx=> ?_,fun b o e n hb hx=> ?_,fun b o e n hx=> ?_,fun b o e hx=> ?_,fun b xs e=>tups b xs (I.base.tups b xs e),fun b o xs e=>frzs b o xs (I.base.frzs b o xs e),fun b ps e=> ?_⟩,?_,fun x c e=> ?_,?_,fun x c e=> ?_,fun p hp=> ?_,hok,I.len⟩
 ·exact keep b o (neL b o e) hb (neC b o e hx) (I.base.keep b o e n hb hx) (I.base.free b o e n hx)
 ·obtain⟨sl,e1⟩:=I.base.slot b o e n hb hx;obtain⟨sl',e2⟩:=slot b _ (neL b o e) hb (neC b o e hx) e1 (I.base.free b o e n hx);exact⟨sl',e2⟩
 ·obtain⟨o',e1⟩:=I.base.there b o e hx;exact free b o' (neC b o e hx) e1 (I.base.free b o e n hx)
 ·obtain⟨o',e1⟩:=I.base.there b o e hx;exact there b o' (neC b o e hx) e1
 ·obtain⟨m1,e1⟩:=I.base.tbls b ps e;obtain⟨m2,e2⟩:=tbls b _ e1;exact⟨m1++m2,by rw[e2,Array.append_assoc]⟩
 ·obtain⟨m,hn,hl⟩:=I.loc;refine⟨m,ns m hn,fun i x v e1 e2 e3=> ?_⟩;obtain⟨u,r,l⟩:=hl i x v e1 e2 e3;refine⟨u,r,?_⟩;rcases l with l|⟨k,c,e,z⟩
  ·exact .inl l
  ·exact .inr ⟨k,c,e,cellK x c e _ z⟩
 ·obtain⟨v,z⟩:=I.cell x c e;exact⟨v,cellK x c e v z⟩
 ·obtain⟨m,⟨o,_,_,ho,_⟩,_⟩:=I.loc;exact free _ o (fun z=>(hch _ z).2.1 rfl) ho I.free
 ·obtain⟨v,o,ho,hd⟩:=I.cell x c e;exact free c o (fun z=>(hch c z).2.2.1 x c e rfl) ho (I.freeC x c e)
 ·obtain⟨e,n,ne,nf,d⟩:=I.pin p hp;have nch:p.1∉ch:=fun z=>(hch p.1 z).2.2.2 p hp rfl;exact⟨keep p.1 p.2 ne nf nch e n,free p.1 p.2 nch e n,ne,nf,d⟩
theorem Inv.un (I:Inv X pins σ H s) (u:Un X.fs [] H H' s.heap h') (hok:HOk X.prog X.w H' h'):Inv X pins σ H' { s with heap:=h',toks:=t' }:=by
 obtain⟨m,⟨o,es,ep,ho,r⟩,_⟩:=id I.loc;obtain⟨sl,hL⟩:=u.any ho I.free (by simp);exact I.step (g':=s.gens) (d':=s.drawn) (ch:=[]) (fun _ z=>nomatch z) (fun b o _ hb _ e n=>u.keep b o e n hb (by simp)) (fun b o _ hb _ e n=>u.slot b o e n hb (by simp)) (fun b o _ e n=>u.free b o e n (by simp)) (fun b o _ e=>u.there b o e (by simp)) u.tups u.frzs u.tbls (fun m' hm=>by
  obtain⟨o',es',ep',ho',r'⟩:=hm;rw[ho] at ho';cases ho';exact⟨_,es',ep',hL,r'⟩) hok I.bare
theorem Inv.call (I:Inv X pins σ H s) (u:Un (frs X.stack) ch H H' s.heap h') (hok:HOk X.prog X.w H' h') (hg:m9 g')
  (hch:∀ b∈ch,(b∈X.ex∨X.s₀.heap.objs.size<=b)/\b≠X.env.locals/\(∀ x c,X.env.cells.lookup x=xo c->c≠b)/\∀ p∈X.pn++pins,p.1≠b):
  Inv X pins σ H' { s with heap:=h',gens:=g',drawn:=d',toks:=t' }:=by
 obtain⟨m,⟨o,es,ep,ho,r⟩,_⟩:=id I.loc;obtain⟨sl,hL⟩:=u.any ho I.free fun z=>(hch _ z).2.1 rfl;exact I.step (ch:=ch) hch (fun b o hL hb hc e n=>u.keep b o e n (fun z=>(aj.mp (I.stkSub b z)).elim hL hb) hc) (fun b o _ _ hc e n=>u.any e n hc) (fun b o hc e n=>u.free b o e n hc) (fun b o hc e=>u.there b o e hc) u.tups u.frzs u.tbls (fun m' hm=>by
  obtain⟨o',es',ep',ho',r'⟩:=hm;rw[ho] at ho';cases ho';exact⟨_,es',ep',hL,r'⟩) hok hg
theorem Inv.turned (I:Inv X pins σ H s) (k:∀ b o,b≠it->s.heap.get? b=xo o->h'.get? b=xo o) (hn:H it=xp) (hL:it≠X.env.locals)
  (h1:it∈X.ex∨X.s₀.heap.objs.size<=it) (h2:∀ x c,X.env.cells.lookup x=xo c->c≠it) (h3:∀ p∈X.pn++pins,p.1≠it):Inv X pins σ H { s with heap:=h',toks:=t' }:=by
 have nit:∀ b u,H b=xo u->b≠it:=fun b u e z=>by rw[z,hn] at e;cases e
 refine I.step (g':=s.gens) (d':=s.drawn) (ch:=[it]) (fun b hb=> ?_) (fun b o _ _ hc e _=>k b o (fun z=>hc (by simp[z])) e) (fun b o _ _ hc e _=>⟨o.slots,k b o (fun z=>hc (by simp[z])) e⟩) (fun _ _ _ _ n=>n)
  (fun b o hc e=>⟨o,k b o (fun z=>hc (by simp[z])) e⟩) (fun _ _ e=>e) (fun _ _ _ e=>e) (fun b ps e=>⟨#[],by rw[e];simp⟩) (fun m hm=> ?_) (fun b u e=> ?_) I.bare
 ·have e:b=it:=by simpa using hb
  subst e;exact⟨h1,hL,h2,h3⟩
 ·obtain⟨o,es,ep,ho,r⟩:=hm;exact⟨o,es,ep,k _ o (bz hL) ho,r⟩
 ·refine(I.hok b u e).stay (fun c v hc q=>k c v ?_ q) (fun _ q=>q) fun _ _ q=>q;rcases hc with z|z
  ·rw[z];exact nit b u e
  ·exact nit c _ z
theorem Inv.tok (I:Inv X pins σ H s) (t:Nat):Inv X pins σ H { s with toks:=t }:=I.un (h':=s.heap) (t':=t) Un.refl I.hok
theorem Inv.kept (I:Inv X pins σ H s) (k:∀ b u,s.heap.get? b=xo u->h'.get? b=xo u):Inv X pins σ H { s with heap:=h',toks:=t' }:=I.un (Un.kept k) (I.hok.kept k)
theorem Inv.laid (I:Inv X pins σ H s) (k:∀ b u,s.heap.get? b=xo u->h'.get? b=xo u) (hp:s.heap.objs.size<=a) (new:ObjOk X.prog X.w (upd H a o) h' a o):
  Inv X pins σ (upd H a o) { s with heap:=h',toks:=t' }:=I.un (Un.laid k hp (I.hok.fresh hp)) (I.hok.laid k hp new)
theorem Inv.write (I:Inv X pins σ H s) (mu:Mut (H x)) (he:e=x∨H e=xo (.own x)) (k:∀ b u,b≠e->s.heap.get? b=xo u->h'.get? b=xo u) (heo:∃ u,h'.get? e=xo u)
  (new:ObjOk X.prog X.w (upd H x o) h' x o):Inv X pins σ (upd H x o) { s with heap:=h',toks:=t' }:=I.un (Un.write mu he k heo) (I.hok.write mu he k heo new)
theorem Inv.weak (I:Inv X pins σ H s) (hl:σ'.length=σ.length) (w:∀(i:Nat) v,σ'[i]?=xo (xo v)->σ[i]?=xo (xo v)):Inv X pins σ' H s:=
 ⟨I.ok,I.os,I.bare,I.base,let ⟨m,hn,hl'⟩:=I.loc;⟨m,hn,fun i x v e1 e2 e3=>hl' i x v e1 (w i v e2) e3⟩,I.cell,I.free,I.freeC,I.pin,I.hok,hl.trans I.len⟩
theorem Inv.pins_of (I:Inv X pins σ H s) (h:∀ p∈pins',s.heap.get? p.1=xo p.2/\H p.1=xp/\p.1≠X.env.locals/\p.1∉X.fs/\∀ v,p.2.data≠ .cell v):Inv X pins' σ H s:=
 ⟨I.ok,I.os,I.bare,I.base,I.loc,I.cell,I.free,I.freeC,fun p hp=>(c6.mp hp).elim (fun z=>I.pin p (dr _ z)) (h p),I.hok,I.len⟩
theorem nodup_ix {N:List Str} (hN:N.Nodup) {i j:Nat} (a:N[i]?=xo x) (b:N[j]?=xo x):i=j:=by
 obtain⟨h1,e1⟩:=bq.mp a;obtain⟨h2,e2⟩:=bq.mp b;exact(List.getElem_inj hN).mp (e1.trans e2.symm)
theorem xG (I:Inv X pins σ H s) (hN:X.N.Nodup) (hi:X.N[i]?=xo x) (hx:Loc X.env.scope x) (r:RelV v u)
  (h:∀ s',Inv X pins (σ.set i (xo v)) H s'->(∃ a,f7 a s.heap s'.heap/\(a=X.env.locals∨X.env.cells.lookup x=xo a))->Q () s') (hf:X.fn x=true∨X.env.scope.names.lookup x=xo .local:=by first|exact .inl rfl|exact .inr rfl|assumption):bc M A (storeName X.env x u) Q E s:=by
 obtain⟨m,hn,hl⟩:=id I.loc;have hcls:(X.env.scope.kind== .class||(X.env.scope.kind== .module&&X.env.locals !=X.env.globals))=false:=by rw[I.ok.kind];rfl
 have hiσ:i<σ.length:=by rw[I.len];exact(bq.mp hi).1
 have cne:=I.cne;have tracked:∀ {a:af}{h':c5},(∃ o,s.heap.get? a=xo o/\H a=xp)->f7 a s.heap h'->HOk X.prog X.w H h':=fun {a h'} ha hs b ob e=>by
  obtain⟨_,_,hfree⟩:=ha;refine(I.hok b ob e).stay (fun c w' hc q=>(hs.2 c ?_).trans q) (fun _ q=>q) fun _ _ q=>q;rintro rfl;rcases hc with rfl|hc
  ·rw[hfree] at e;cases e
  ·rw[hfree] at hc;cases hc
 rcases hx with hk|hk
 ·refine wpAny_storeName_local hk hn (fun h' hn' hs=> ?_) hcls;obtain⟨oL,_,_,hoL,_⟩:=id hn;refine h _ ⟨I.ok,I.os,I.bare,⟨fun b o e n hb hx=> ?_,fun b o e n hb hx=> ?_,I.base.free,fun b o e hx=> ?_,I.base.tups,I.base.frzs,I.base.tbls⟩,⟨_,hn',fun j y v' e1 e2 e3=> ?_⟩,fun y c e=> ?_,I.free,I.freeC,fun p hp=> ?_,tracked ⟨oL,hoL,I.free⟩ hs,by simpa using I.len⟩ ⟨_,hs,.inl rfl⟩
  ·exact(hs.2 b (ci (b7 (bh e) I.ok.above))).trans (I.base.keep b o e n hb hx)
  ·obtain⟨sl,e1⟩:=I.base.slot b o e n hb hx;exact⟨sl,(hs.2 b (ci (b7 (bh e) I.ok.above))).trans e1⟩
  ·obtain⟨o',e1⟩:=I.base.there b o e hx;exact⟨o',(hs.2 b (ci (b7 (bh e) I.ok.above))).trans e1⟩
  ·by_cases hj:j=i
   ·subst hj;rw[hi] at e1;cases e1;rw[du hiσ] at e2;cases e2;exact⟨u,r,.inl ⟨hk,by simp⟩⟩
   ·rw[f8 (bz hj)] at e2;obtain⟨u',r',q⟩:=hl j y v' e1 e2 e3;refine⟨u',r',?_⟩;rcases q with⟨k,e⟩|⟨k,c,e,z⟩
    ·refine .inl ⟨k,?_⟩
     have:y≠x:=fun e=>hj (nodup_ix hN e1 (e ▸ hi))
     simp[this,e]
    ·exact .inr ⟨k,c,e,z.sameBut hs (cne y c e)⟩
  ·obtain⟨w',z⟩:=I.cell y c e;exact⟨w',z.sameBut hs (cne y c e)⟩
  ·obtain⟨e,n,ne,nf,d⟩:=I.pin p hp;exact⟨(hs.2 p.1 ne).trans e,n,ne,nf,d⟩
 ·have hfn:X.fn x=true:=by
   rcases hf with z|z
   ·exact z
   ·rw[z] at hk;cases hk
  obtain⟨c,hc⟩:=I.ok.has x (.inl hk);obtain⟨w',z⟩:=I.cell x c hc;refine wpAny_storeName_cell I.ok.kind hk hc z (fun h' hc' hs=> ?_);obtain⟨oc,hoc,hocd⟩:=id z;refine h { s with heap:=h' } ⟨I.ok,I.os,I.bare,⟨fun b o e n hb hx=> ?_,fun b o e n hb hx=> ?_,I.base.free,fun b o e hx=> ?_,I.base.tups,I.base.frzs,I.base.tbls⟩,⟨m,hn.sameBut hs (bz (cne x c hc)),fun j y v' e1 e2 e3=> ?_⟩,fun y c' e=> ?_,I.free,I.freeC,fun p hp=> ?_,tracked ⟨oc,hoc,I.freeC x c hc⟩ hs,by simpa using I.len⟩ ⟨c,hs,.inr hc⟩
  ·exact(hs.2 b (ci (b7 (bh e) (I.ok.cab x c hfn hc)))).trans (I.base.keep b o e n hb hx)
  ·obtain⟨sl,e1⟩:=I.base.slot b o e n hb hx;exact⟨sl,(hs.2 b (ci (b7 (bh e) (I.ok.cab x c hfn hc)))).trans e1⟩
  ·obtain⟨o',e1⟩:=I.base.there b o e hx;exact⟨o',(hs.2 b (ci (b7 (bh e) (I.ok.cab x c hfn hc)))).trans e1⟩
  ·by_cases hj:j=i
   ·subst hj;rw[hi] at e1;cases e1;rw[du hiσ] at e2;cases e2;exact⟨u,r,.inr ⟨.inl hk,c,hc,hc'⟩⟩
   ·rw[f8 (bz hj)] at e2;obtain⟨u',r',q⟩:=hl j y v' e1 e2 e3;refine⟨u',r',?_⟩;rcases q with q|⟨k,c',e,z'⟩
    ·exact .inl q
    ·refine .inr ⟨k,c',e,z'.sameBut hs ?_⟩;rintro rfl;exact hj (nodup_ix hN e1 (I.ok.inj _ _ _ e hc ▸ hi))
  ·by_cases hcc:c'=c
   ·subst hcc;exact⟨_,hc'⟩
   ·obtain⟨w2,z2⟩:=I.cell y c' e;exact⟨w2,z2.sameBut hs hcc⟩
  ·obtain⟨e,n,ne,nf,d⟩:=I.pin p hp;refine⟨(hs.2 p.1 ?_).trans e,n,ne,nf,d⟩;intro q;rw[q,hoc] at e;have q':oc=p.2:=b3 e;exact d w' (by rw[<- q'];exact hocd)
theorem BG (I:Inv X pins σ H s) (hN:X.N.Nodup) (hi:X.N[i]?=xo x) (hx:Loc X.env.scope x) (r:RelV v u)
  (h:∀ s',Inv X pins (σ.set i (xo v)) H s'->Q () s') (hf:X.fn x=true∨X.env.scope.names.lookup x=xo .local:=by first|exact .inl rfl|exact .inr rfl|assumption):bc M A (storeName X.env x u) Q E s:=
 xG I hN hi hx r (fun s' I' _=>h s' I') hf
theorem Inv.call' (I:Inv X pins σ H s) (ho:s'.os=s.os) (u:Un (frs X.stack) ch H H' s.heap s'.heap) (hok:HOk X.prog X.w H' s'.heap) (hg:m9 s'.gens)
  (hch:∀ b∈ch,(b∈X.ex∨X.s₀.heap.objs.size<=b)/\b≠X.env.locals/\(∀ x c,X.env.cells.lookup x=xo c->c≠b)/\∀ p∈X.pn++pins,p.1≠b):Inv X pins σ H' s':=by
 obtain⟨h',g',d',t',o'⟩:=s';have e:o'=s.os:=ho;subst e;exact I.call (g':=g') (t':=t') (d':=d') u hok hg hch
end
abbrev XK:=ag->Option af->Hp->Prop
abbrev St:=List (Option V)
abbrev VK:=V->Hp->Prop
abbrev TE:=St->Hp->VK->Prop
abbrev TT:=St->Hp->(Bool->Hp->Prop)->Prop
abbrev TA:=St->Hp->(List V->Hp->Prop)->Prop
structure CG where
 nx:St->Hp->Prop
 rt:VK
 bk:St->Hp->Prop:=fun _ _=>False
 ct:St->Hp->Prop:=fun _ _=>False
abbrev TS:=CG->St->Hp->Prop
def EP (X:Cx) (pins:List (af×Obj)) (σ:St) (Q:VK) (u:ag) (s':aq):Prop:=∃ v H',Inv X pins σ H' s'/\RelV v u/\Q v H'
def TP (X:Cx) (pins:List (af×Obj)) (σ:St) (Q:Bool->Hp->Prop) (b:Bool) (s':aq):Prop:=∃ H',Inv X pins σ H' s'/\Q b H'
def AP (X:Cx) (pins:List (af×Obj)) (σ:St) (Q:List V->Hp->Prop) (us:List ag) (s':aq):Prop:=∃ vs H',Inv X pins σ H' s'/\Vals vs us/\Q vs H'
def SP (X:Cx) (pins:List (af×Obj)) (D:CG) (f:Flow) (s':aq):Prop:=
 match f with
 |.next=>∃ σ' H',Inv X pins σ' H' s'/\D.nx σ' H'
 |.brk=>∃ σ' H',Inv X pins σ' H' s'/\D.bk σ' H'
 |.cont=>∃ σ' H',Inv X pins σ' H' s'/\D.ct σ' H'
 |.ret u=>∃ v σ' H',Inv X pins σ' H' s'/\RelV v u/\D.rt v H'
def PE (X:Cx) (e:bw) (t:TE):Prop:=
 ∀(pins:List (af×Obj)) (s:aq) (σ:St) (H:Hp) (Q:VK),Inv X pins σ H s->t σ H Q->bc (model X.prog X.w) X.A (eval e X.env) (EP X pins σ Q) X.xe s
def PT (X:Cx) (e:bw) (t:TT):Prop:=
 ∀(pins:List (af×Obj)) (s:aq) (σ:St) (H:Hp) (Q:Bool->Hp->Prop),Inv X pins σ H s->t σ H Q->bc (model X.prog X.w) X.A (isTrue e X.env (eval e X.env)) (TP X pins σ Q) X.xe s
def PW (X:Cx) (e:bw) (t:TT):Prop:=
 ∀(whole:Sem ag) (pins:List (af×Obj)) (s:aq) (σ:St) (H:Hp) (Q:Bool->Hp->Prop),Inv X pins σ H s->t σ H Q->bc (model X.prog X.w) X.A (isTrue e X.env whole) (TP X pins σ Q) X.xe s
theorem PW.pt (h:PW X e t):PT X e t:=h _
def PA (X:Cx) (es:List bw) (t:TA):Prop:=
 ∀(pos:Pos) (pins:List (af×Obj)) (s:aq) (σ:St) (H:Hp) (Q:List V->Hp->Prop),Inv X pins σ H s->t σ H Q->bc (model X.prog X.w) X.A (spliced (db pos (au es X.env))) (AP X pins σ Q) X.xe s
def PS (X:Cx) (st:cx) (t:TS):Prop:=
 ∀(pins:List (af×Obj)) (s:aq) (σ:St) (H:Hp) (D:CG),Inv X pins σ H s->t D σ H->bc (model X.prog X.w) X.A (exec st X.env) (SP X pins D) X.xe s
def PSs (X:Cx) (st:List cx) (t:TS):Prop:=
 ∀(pins:List (af×Obj)) (s:aq) (σ:St) (H:Hp) (D:CG),Inv X pins σ H s->t D σ H->bc (model X.prog X.w) X.A (execs st X.env) (SP X pins D) X.xe s
theorem thn {Q Q':α->aq->Prop} (h:bc M A t Q E s) (hQ:∀ a s,Q a s->Q' a s):bc M A t Q' E s:=g8 h hQ fun _ _ x=>x
end L2
namespace L2
section
variable {X:Cx}
def Ro (i:Nat):TE:=fun σ H Q=>∃ v,σ[i]?=xo (xo v)/\Q v H
def tC (v:V):TE:=fun _ H Q=>Q v H
theorem Nq (hN:X.N[i]?=xo x) (hv:Vis X.env.scope x) (hd:(x==("__debug__":Str))=false:=by decide) (hcd:(x==("__classdict__":Str))=false:=by decide):PE X (.Name x pos) (Ro i):=by
 intro pins s σ H Q I h;obtain⟨v,e,h⟩:=h;obtain⟨m,hn,hl⟩:=I.loc;obtain⟨u,r,l⟩:=hl i x v hN e hv;have fin:EP X pins σ Q u s:=⟨v,H,I,r,h⟩;rcases l with⟨hk,hm⟩|⟨hk,c,hc,hcell⟩
 ·exact wpAny_Name (wpAny_loadName_local I.ok.kind hk hn hm fin) hd
 ·rcases hk with hk|hk
  ·exact wpAny_Name (wpAny_loadName_cell I.ok.kind hk hc hcell fin) hd
  ·exact wpAny_Name (wpAny_loadName_free I.ok.kind hk hc hcell fin hcd) hd
theorem Nz:PE X (.Constant (.int i) j pos) (tC (.int i)):=fun _ _ _ H _ I h=>wpAny_Constant_int ⟨.int i,H,I.tok _,⟨_,rfl⟩,h⟩
theorem Qw:PE X (.Constant (.bool b) j pos) (tC (.bl b)):=fun _ _ _ H _ I h=>Constant_bool ⟨.bl b,H,I,rfl,h⟩
theorem Ny:PE X (.Constant .none j pos) (tC .non):=fun _ _ _ H _ I h=>Constant_none ⟨.non,H,I,rfl,h⟩
theorem Nt:PE X (.Constant (.str x) j pos) (tC (.str x)):=fun _ _ _ H _ I h=>Calls.Constant_str ⟨.str x,H,I.tok _,⟨_,rfl⟩,h⟩
def Gl (X:Cx) (x:Str):Prop:=X.env.kindOf x=xo .globalImplicit
theorem vH (I:Inv X pins σ H s) (hg:Gl X x) (hm:X.mg x=xo u) (h:Q u s)
  (hd:(x==("__debug__":Str))=false:=by decide):bc (model X.prog X.w) X.A (eval (.Name x pos) X.env) Q E s:=
 qd I.ok.kind hg (Calls.loadGlobal_global (by rw[I.ok.glob];exact I.mod.glob.keeps I.bk) hm h) hd
theorem mZ (I:Inv X pins σ H s) (hg:Gl X x) (hm:X.mg x=xp) (hv:dc x=xo u) (h:Q u s)
  (hn:x≠"__name__":=by decide) (hd:(x==("__debug__":Str))=false:=by decide):bc (model X.prog X.w) X.A (eval (.Name x pos) X.env) Q E s:=by
 obtain⟨mb,h1,h2⟩:=I.mod.blt;exact qd I.ok.kind hg (Calls.loadGlobal_builtin (by rw[I.ok.glob];exact I.mod.glob.keeps I.bk) hm (by rw[I.ok.blt];exact h1.keeps I.bk) ((h2 x hn).trans hv) h) hd
theorem KA (hg:Gl X x) (hm:X.mg x=xp) (hv:dc x=xo u) (r:RelV v u) (hn:x≠"__name__":=by decide) (hd:(x==("__debug__":Str))=false:=by decide):PE X (.Name x pos) (tC v):=
 fun _ _ _ H _ I h=>mZ I hg hm hv ⟨v,H,I,r,h⟩ hn hd
variable {a b:bw}{ta tb:TE}{pos:Pos}
def PC (X:Cx) (op:CmpOp) (a b:bw) (t:TE):Prop:=
 ∀(pins:List (af×Obj)) (s:aq) (σ:St) (H:Hp) (Q:VK),Inv X pins σ H s->t σ H Q->
  bc (model X.prog X.w) X.A (eval a X.env) (fun v s₁=>bc (model X.prog X.w) X.A (eval b X.env) (fun u s₂=>bc (model X.prog X.w) X.A (fw op v u) (EP X pins σ Q) X.xe s₂) X.xe s₁) X.xe s
def tB (t:TE):TT:=fun σ H Q=>t σ H fun x H1=>∃ c,x=.bl c/\Q c H1
theorem Ni (h:PC X op a b t) (h1:iy op b=false:=by first|exact nobehind _ (by decide) (by decide)|rfl):PT X (.Compare a [op] [b] pos) (tB t):=by
 intro pins s σ H Q I hw;refine t7 (thn (h pins s σ H _ I hw) fun v s1 h1=>thn h1 fun u s2 h2=>thn h2 fun c s3 ⟨x,H1,I1,r1,q1⟩=> ?_) h1;obtain⟨d,rfl,q⟩:=q1;cases r1;exact dq ⟨H1,I1,q⟩
variable {tA tB':TT}{rest:List bw}
def RY (t u:TT):TT:=fun σ H Q=>t σ H fun c H1=>if c=true then u σ H1 Q else Q false H1
def tOr (t u:TT):TT:=fun σ H Q=>t σ H fun c H1=>if c=true then Q true H1 else u σ H1 Q
def RQ (t:TT):TT:=fun σ H Q=>t σ H fun c H1=>Q (!c) H1
theorem Kf (ha:PT X a tA):PW X (.BoolOp .And [a] pos) tA:=by
 intro wh pins s σ H Q I h;refine isTrue_and (thn (ha pins s σ H Q I h) fun c s1 e=> ?_);cases c with
 |true=>exact isTrue_and_nil e
 |false=>exact e
theorem Nd (ha:PT X a tA):PW X (.BoolOp .Or [a] pos) tA:=by
 intro wh pins s σ H Q I h;refine isTrue_or (thn (ha pins s σ H Q I h) fun c s1 e=> ?_);cases c with
 |false=>exact isTrue_or_nil e
 |true=>exact e
theorem Nf (ha:PT X a tA) (hb:PW X (.BoolOp .And (b::rest) pos) tB'):PW X (.BoolOp .And (a::b::rest) pos) (RY tA tB'):=by
 intro wh pins s σ H Q I h;refine isTrue_and (thn (ha pins s σ H _ I h) fun c s1 ⟨H1,I1,q1⟩=> ?_);cases c with
 |true=>exact hb wh pins s1 σ H1 Q I1 q1
 |false=>exact⟨H1,I1,q1⟩
theorem Qr (ha:PT X a tA) (hb:PW X (.BoolOp .Or (b::rest) pos) tB'):PW X (.BoolOp .Or (a::b::rest) pos) (tOr tA tB'):=by
 intro wh pins s σ H Q I h;refine isTrue_or (thn (ha pins s σ H _ I h) fun c s1 ⟨H1,I1,q1⟩=> ?_);cases c with
 |true=>exact⟨H1,I1,q1⟩
 |false=>exact hb wh pins s1 σ H1 Q I1 q1
theorem Nh (ha:PT X a tA):PT X (.UnaryOp .Not a pos) (RQ tA):=by
 intro pins s σ H Q I h;exact isTrue_not (ha pins s σ H (fun c H1=>Q (!c) H1) I h)
def Qi (ta tb:TE):TE:=fun σ H Q=>ta σ H fun x H1=>∃ c,x=.bl c/\if c=true then tb σ H1 Q else Q (.bl false) H1
def PZ (ta:TE):TE:=fun σ H Q=>ta σ H fun x H1=>∃ c,x=.bl c/\Q (.bl (!c)) H1
theorem Nv (h:PE X a t):PE X (.BoolOp op [a] pos) t:=fun pins s σ H Q I hw=>BoolOp_one (h pins s σ H Q I hw)
theorem ND (ha:PE X a ta) (hb:PE X (.BoolOp .And (b::rest) pos) tb):PE X (.BoolOp .And (a::b::rest) pos) (Qi ta tb):=by
 intro pins s σ H Q I h;refine BoolOp_and (thn (ha pins s σ H _ I h) fun v s1 ⟨x,H1,I1,r1,q1⟩=> ?_);obtain⟨c,rfl,q1⟩:=q1;cases r1;refine dq ?_;cases c with
 |true=>exact hb pins s1 σ H1 Q I1 q1
 |false=>exact⟨.bl false,H1,I1,rfl,q1⟩
theorem Nx (ha:PE X a ta):PE X (.UnaryOp .Not a pos) (PZ ta):=by
 intro pins s σ H Q I h;refine UnaryOp_ (thn (ha pins s σ H _ I h) fun v s1 ⟨x,H1,I1,r1,q1⟩=> ?_);obtain⟨c,rfl,q1⟩:=q1;cases r1;exact not_of (dq ⟨.bl (!c),H1,I1,rfl,q1⟩)
end
end L2
namespace L2
def SqL (K:aa) (H:Hp) (a:af) (xs:List V):Prop:=
 Rd H a (.lst xs)∨
  ∃(o:Obj) (its:Array ag) (n:Nat),K.lookup a=xo o/\o.cls=.type "list"/\o.dict=xp/\o.data=.seq its n/\its.size<=sizeLine/\Vals xs its.toList
def SqT (K:aa) (H:Hp) (a:af) (xs:List V):Prop:=
 Rd H a (.tup xs)∨
  ∃(o:Obj) (its:Array ag) (n:Nat),K.lookup a=xo o/\o.cls=.type "tuple"/\o.data=.seq its n/\its.size<=sizeLine/\Vals xs its.toList
noncomputable def Sw:ag->Option V
 |.none=>xo .non
 |.bool b=>xo (.bl b)
 |.int i _=>xo (.int i)
 |.str x _=>xo (.str x)
 |.bytes b _=>xo (.byt b)
 |.float b _=>xo (.flt b)
 |.ref a=>xo (.ref a)
 |.type n=>xo (.ty n)
 |_=>xp
theorem RelV.abs (r:RelV x u):Sw u=xo x:=by
 cases x with
 |non=>cases r;rfl
 |bl _=>cases r;rfl
 |int _=>obtain⟨t,rfl⟩:=r;rfl
 |str _=>obtain⟨t,rfl⟩:=r;rfl
 |byt _=>obtain⟨t,rfl⟩:=r;rfl
 |flt _=>obtain⟨t,rfl⟩:=r;rfl
 |ref _=>cases r;rfl
 |ty _=>cases r;rfl
theorem RelV.inj (r:RelV x u) (q:RelV y u):x=y:=b3 (r.abs.symm.trans q.abs)
theorem Vals.inj:∀ {xs ys:List V}{us:List ag},Vals xs us->Vals ys us->xs=ys
 |_,_,_,.nil,.nil=>rfl
 |_,_,_,.cons r t,.cons r' t'=>by rw[r.inj r',Vals.inj t t']
section
variable {X:Cx}{pins:List (af×Obj)}{σ:St}{H:Hp}{s:aq}{a:af}{xs ys:List V}
theorem SqL.of {K:aa} (h:H a=xo (.lst xs)):SqL K H a xs:=.inl (.inl h)
theorem Inv.list (I:Inv X pins σ H s) (h:SqL X.K H a xs):∃ its:List ag,Vals xs its/\PlainL s.heap a its.toArray/\xs.length<=sizeLine:=by
 rcases h with h|⟨o,its,n,hk,hc,hd,hs,hz,r⟩
 ·obtain⟨z,its,n,r,e⟩:=h.ok I.hok;exact⟨its,r,⟨_,n,e,rfl,rfl,rfl⟩,z⟩
 ·refine⟨its.toList,r,⟨o,n,I.kIn a o hk,hc,hd,by simpa using hs⟩,?_⟩;have e:=r.length;simp only[d9] at e;omega
theorem Inv.tuple (I:Inv X pins σ H s) (h:SqT X.K H a xs):∃ its:List ag,Vals xs its/\IsTup s.heap a its.toArray/\xs.length<=sizeLine:=by
 rcases h with h|⟨o,its,n,hk,hc,hs,hz,r⟩
 ·obtain⟨z,its,r,p⟩:=h.ok I.hok;exact⟨its,r,p,z⟩
 ·refine⟨its.toList,r,⟨o,I.kIn a o hk,hc,n,by simpa using hs⟩,?_⟩;have e:=r.length;simp only[d9] at e;omega
theorem Inv.list_inj (I:Inv X pins σ H s) (h:SqL X.K H a xs) (h':SqL X.K H a ys):xs=ys:=by
 obtain⟨its,r,⟨o,n,e,_,_,d⟩,_⟩:=I.list h;obtain⟨its',r',⟨o',n',e',_,_,d'⟩,_⟩:=I.list h';rw[e] at e';cases e';rw[d] at d';injection d' with d1 _
 have:its=its':=by simpa using congrArg Array.toList d1
 subst this;exact r.inj r'
theorem Inv.tuple_inj (I:Inv X pins σ H s) (h:SqT X.K H a xs) (h':SqT X.K H a ys):xs=ys:=by
 obtain⟨its,r,⟨o,e,_,n,d⟩,_⟩:=I.tuple h;obtain⟨its',r',⟨o',e',_,n',d'⟩,_⟩:=I.tuple h';rw[e] at e';cases e';rw[d] at d';injection d' with d1 _
 have:its=its':=by simpa using congrArg Array.toList d1
 subst this;exact r.inj r'
end
noncomputable abbrev Cx.wish (X:Cx) (E:ag->aq->Prop):Cx:={ X with xe:=E }
noncomputable abbrev Cx.nox (X:Cx):Cx:=X.wish fun _ _=>False
theorem Cx.Ok.wish {X:Cx} (ok:X.Ok) (E:ag->aq->Prop):(X.wish E).Ok:=
 ⟨ok.mod,ok.kind,ok.glob,ok.blt,ok.above,ok.inj,ok.has,ok.cab,ok.hd,ok.frames,ok.stk,ok.exf,ok.bs,ok.bsz,ok.noex,ok.exfs,ok.funs,ok.frf⟩
theorem Cx.Ok.unwish {X:Cx} (ok:(X.wish E).Ok):X.Ok:=
 ⟨ok.mod,ok.kind,ok.glob,ok.blt,ok.above,ok.inj,ok.has,ok.cab,ok.hd,ok.frames,ok.stk,ok.exf,ok.bs,ok.bsz,ok.noex,ok.exfs,ok.funs,ok.frf⟩
section
variable {X:Cx}{pins:List (af×Obj)}{σ:St}{H:Hp}{s:aq}{E:ag->aq->Prop}
theorem Inv.wish (I:Inv X pins σ H s) (E:ag->aq->Prop):Inv (X.wish E) pins σ H s:=⟨I.ok.wish E,I.os,I.bare,I.base,I.loc,I.cell,I.free,I.freeC,I.pin,I.hok,I.len⟩
theorem Inv.unwish (I:Inv (X.wish E) pins σ H s):Inv X pins σ H s:=⟨I.ok.unwish,I.os,I.bare,I.base,I.loc,I.cell,I.free,I.freeC,I.pin,I.hok,I.len⟩
theorem SP.unwish (h:SP (X.wish E) pins D f s'):SP X pins D f s':=by
 cases f with
 |next=>obtain⟨σ',H',I,q⟩:=h;exact⟨σ',H',I.unwish,q⟩
 |brk=>obtain⟨σ',H',I,q⟩:=h;exact⟨σ',H',I.unwish,q⟩
 |cont=>obtain⟨σ',H',I,q⟩:=h;exact⟨σ',H',I.unwish,q⟩
 |ret u=>obtain⟨v,σ',H',I,r,q⟩:=h;exact⟨v,σ',H',I.unwish,r,q⟩
end
section
variable {X:Cx}{st:cx}{rest:List cx}{t u:TS}{e:bw}{te:TE}{pos:Pos}
def Qa:TS:=fun D σ H=>D.nx σ H
def RN (t u:TS):TS:=fun D σ H=>t { D with nx:=u D } σ H
theorem Ki:PSs X [] Qa:=fun _ _ σ H _ I h=>pb ⟨σ,H,I,h⟩
theorem Hs (h1:PS X st t) (h2:PSs X rest u):PSs X (st::rest) (RN t u):=by
 intro pins s σ H D I h;refine wpAny_execs_cons (thn (h1 pins s σ H { D with nx:=u D } I h) fun f s1 q=> ?_);cases f with
 |next=>
  obtain⟨σ',H',I',q⟩:=q;exact h2 pins s1 σ' H' D I' q
 |ret v=>exact q
 |brk=>exact q
 |cont=>exact q
theorem Kh (h1:PS X st t):PSs X [st] t:=by
 intro pins s σ H D I h;refine wpAny_execs_cons (thn (h1 pins s σ H D I h) fun f s1 q=> ?_);cases f with
 |next=>exact pb q
 |ret v=>exact q
 |brk=>exact q
 |cont=>exact q
theorem Inv.quiet (I:Inv X pins σ H s):interactive X.env=false:=by simp[interactive,I.ok.kind]
def Qd (te:TE):TS:=fun D σ H=>te σ H fun _ H1=>D.nx σ H1
theorem Kk (he:PE X e te) (hs:jm e xp pos.line X.env=pure false:=by rfl):PS X (.Expr e pos) (Qd te):=by
 intro pins s σ H D I h;exact wpAny_Expr_any (thn (he pins s σ H _ I h) fun v s1 ⟨x,H1,I1,r1,q1⟩=>⟨σ,H1,I1,q1⟩) I.quiet hs
def RO (te:TE):TS:=fun D σ H=>te σ H D.rt
theorem Nk (he:PE X e te):PS X (.Return (xo e) pos) (RO te):=by
 intro pins s σ H D I h;exact wpAny_Return_some (thn (he pins s σ H _ I h) fun v s1 ⟨x,H1,I1,r1,q1⟩=>⟨x,σ,H1,I1,r1,q1⟩)
def RU (c:TT) (t u:TS):TS:=fun D σ H=>c σ H fun b H1=>if b=true then t D σ H1 else u D σ H1
theorem Qs (hc:PT X c tc) (ha:PSs X a t) (hb:PSs X b u):PS X (.If c a b pos) (RU tc t u):=by
 intro pins s σ H D I h;refine wpAny_If (thn (hc pins s σ H _ I h) fun d s1 ⟨H1,I1,q1⟩=> ?_);cases d with
 |true=>exact ha pins s1 σ H1 D I1 q1
 |false=>exact hb pins s1 σ H1 D I1 q1
end
abbrev TG:=V->St->Hp->(St->Hp->Prop)->Prop
abbrev TGs:=List V->St->Hp->(St->Hp->Prop)->Prop
def PG (X:Cx) (target:bw) (t:TG):Prop:=
 ∀(pins:List (af×Obj)) (s:aq) (σ:St) (H:Hp) (v:V) (u:ag) (Q:St->Hp->Prop),Inv X pins σ H s->RelV v u->t v σ H Q->
  bc (model X.prog X.w) X.A (assign target X.env u) (fun _ s'=>∃ σ' H',Inv X pins σ' H' s'/\Q σ' H') X.xe s
def PGs (X:Cx) (ts:List bw) (t:TGs):Prop:=
 ∀(pins:List (af×Obj)) (s:aq) (σ:St) (H:Hp) (vs:List V) (us:List ag) (Q:St->Hp->Prop),Inv X pins σ H s->Vals vs us->t vs σ H Q->
  bc (model X.prog X.w) X.A (assignInOrder ((lq ts X.env).map (·.2)) us) (fun _ s'=>∃ σ' H',Inv X pins σ' H' s'/\Q σ' H') X.xe s
abbrev RG:=V->V->V->Hp->(Hp->Prop)->Prop
def RH (X:Cx) (t:RG):Prop:=
 ∀(pins:List (af×Obj)) (s:aq) (σ:St) (H:Hp) (o i v:V) (ov iv u:ag) (Q:Hp->Prop),Inv X pins σ H s->RelV o ov->RelV i iv->RelV v u->t o i v H Q->
  bc (model X.prog X.w) X.A (setItem ov iv u) (fun _ s'=>∃ H',Inv X pins σ H' s'/\Q H') X.xe s
section
variable {X:Cx}{pos:Pos}
def OY (i:Nat):TG:=fun v σ H Q=>Q (σ.set i (xo v)) H
theorem Al (hN:X.N.Nodup) (hi:X.N[i]?=xo x) (hx:Loc X.env.scope x) (hf:X.fn x=true∨X.env.scope.names.lookup x=xo .local:=by first|exact .inl rfl|exact .inr rfl|assumption):PG X (.Name x pos) (OY i):=by
 intro pins s σ H v u Q I r h;exact wpAny_assign_Name (BG I hN hi hx r (fun s' I'=>⟨_,H,I',h⟩) hf)
noncomputable def Sq:TGs:=fun vs σ H Q=>vs=[]/\Q σ H
noncomputable def QV (t:TG) (u:TGs):TGs:=fun vs σ H Q=>∃ v r,vs=v::r/\t v σ H fun σ' H'=>u r σ' H' Q
theorem Ks:PGs X [] Sq:=by
 intro pins s σ H vs us Q I r h;obtain⟨e,h⟩:=h;subst e;cases r;exact assignInOrder_nil ⟨σ,H,I,h⟩
theorem BM (h1:PG X e t) (h2:PGs X es u)
  (hs:(lq (e::es) X.env).map (·.2)=assign e X.env::(lq es X.env).map (·.2):=by rfl):PGs X (e::es) (QV t u):=by
 intro pins s σ H vs us Q I r h;obtain⟨v,vr,e1,h⟩:=h;subst e1;cases r with
 |cons r rr=>
  rw[hs];refine assignInOrder_cons (thn (h1 pins s σ H _ _ _ I r h) fun _ s1 ⟨σ1,H1,I1,q1⟩=> ?_);exact h2 pins s1 σ1 H1 _ _ Q I1 rr q1
def Sn (K:aa) (n:Nat) (t:TGs):TG:=fun v σ H Q=>∃ a xs,v=.ref a/\SqT K H a xs/\xs.length=n/\t xs σ H Q
theorem No (hc:X.calm=true) (h:PGs X es t)
  (hn:(lq es X.env).length=n:=by rfl) (hst:(lq es X.env).findIdx? (·.1)=xp:=by rfl):PG X (.Tuple es k pos) (Sn X.K n t):=by
 intro pins s σ H v u Q I r hw;obtain⟨a,xs,e1,hq,hl,hw⟩:=hw;subst e1;cases r;obtain⟨its,rv,ht,hz⟩:=I.tuple hq;refine assign_Tuple_tuple (I.ok.hd hc) ht (by simp[hn,<- hl,rv.length]) hst fun h' hx=> ?_;have I1:Inv X pins σ H { s with heap:=h' }:=I.kept (t':=s.toks) fun b o e=>hx b o (ci (bh e)) e;exact h pins _ σ H xs _ Q I1 (by simpa using rv) hw
def gSub (to ti:TE) (t:RG):TG:=fun v σ H Q=>to σ H fun o H1=>ti σ H1 fun i H2=>t o i v H2 fun H3=>Q σ H3
theorem Np (ho:PE X o to) (hi:PE X i ti) (hs:RH X t)
  (ha:∀ v,assign (.Subscript o i pos) X.env v=(do
   let ov <- holding [v] (eval o X.env)
   let iv <- holding [v,ov] (eval i X.env)
   ng pos
   holding [v,ov,iv] (setItem ov iv v)
   release [v,ov,iv] []):=by intro _;rfl):PG X (.Subscript o i pos) (gSub to ti t):=by
 intro pins s σ H v u Q I r h;rw[ha];refine ae (ii (thn (ho pins s σ H _ I h) fun ov s1 ⟨x,H1,I1,r1,q1⟩=> ?_));refine ae (ii (thn (hi pins s1 σ H1 _ I1 q1) fun iv s2 ⟨y,H2,I2,r2,q2⟩=> ?_));refine ae (ur (ae (ii (thn (hs pins s2 σ H2 x y v ov iv u _ I2 r1 r2 r q2) fun _ s3 ⟨H3,I3,q3⟩=> ?_))));exact wpAny_release ⟨σ,H3,I3,q3⟩
def Rq (te:TE) (g:TG):TS:=fun D σ H=>te σ H fun x H1=>g x σ H1 D.nx
theorem Jw (he:PE X e te) (hg:PG X tg g) (hs:ut [tg] e pos.line X.env=pure false:=by rfl) (hw:uu [tg] e X.env=pure xp:=by rfl)
  (h1:(lq [tg] X.env).map (·.2)=[assign tg X.env]:=by rfl):PS X (.Assign [tg] e pos) (Rq te g):=by
 intro pins s σ H D I h;refine wpAny_Assign_stores (thn (he pins s σ H _ I h) fun v s1 ⟨x,H1,I1,r1,q1⟩=> ?_) hs hw;rw[h1];exact thn (hg pins s1 σ H1 x v _ I1 r1 q1) fun _ s2 q=>q
theorem Nj (hN:X.N.Nodup) (hi:X.N[i]?=xo x) (hx:Loc X.env.scope x) (he:PE X e te) (hs:jm e (xo (.Name x pos')) pos.line X.env=pure false:=by rfl) (hf:X.fn x=true∨X.env.scope.names.lookup x=xo .local:=by first|exact .inl rfl|exact .inr rfl|assumption):
  PS X (.Assign [.Name x pos'] e pos) (Rq te (OY i)):=by
 intro pins s σ H D I h;refine wpAny_Assign_Name (thn (he pins s σ H _ I h) fun v s1 ⟨y,H1,I1,r1,q1⟩=> ?_) hs;exact BG I1 hN hi hx r1 (fun s2 I2=>⟨_,H1,I2,q1⟩) hf
end
section
variable {X:Cx}{pos:Pos}
end
structure It where
 go:Nat->Hp->Prop
 yld:Nat->Hp->V->Hp->Prop
 stop:Nat->Hp->Prop
def JS (X:Cx) (pins:List (af×Obj)) (H:Hp) (b:af):Prop:=
 H b=xp/\b≠X.env.locals/\b∉X.fs/\(b∈X.ex∨X.s₀.heap.objs.size<=b)/\(∀ x c,X.env.cells.lookup x=xo c->c≠b)/\∀ p∈X.pn++pins,p.1≠b
theorem Inv.fpOk (I:Inv X pins σ H s) (hb:s.heap.objs.size<=b) (hn:H' b=xp):JS X pins H' b:=by
 refine⟨hn,Nat.ne_of_gt (b7 I.lt hb),I.nofs hb,.inr (cf I.sz hb),fun x c e z=> ?_,fun p hp z=> ?_⟩
 ·obtain⟨v,q⟩:=I.cell x c e;exact absurd (b7 q.lt (by rw[z];exact hb)) (dn _)
 ·exact absurd (b7 (bh (I.pin p hp).1) (by rw[z];exact hb)) (dn _)
structure JR (P:da) (w:dh) (K:aa) (tg:bw) (J:It) (fp:List af) (it:af) (tn:Nat->c5->Prop):Prop where
 mem:it∈fp
 obj:∀ i h,tn i h->∀ b∈fp,∃ o,h.get? b=xo o/\∀ v,o.data≠ .cell v
 keep:∀ i h h',tn i h->(∀ b∈fp,∀ o,h.get? b=xo o->h'.get? b=xo o)->tn i h'
 item:∀(X:Cx),X.prog=P->X.w=w->X.K=K->X.calm=true->∀(i:Nat) (pins:List (af×Obj)) (s:aq) (σ:St) (H:Hp) (E:ag->aq->Prop),Inv X pins σ H s->(∀ b∈fp,JS X pins H b)->tn i s.heap->J.go i H->
  bc (model P w) X.A (nv (.ref it)) (fun r s1=>∃ u,r=xo u/\
   bc (model P w) X.A (pc tg (.ref it) u) (fun _ s2=>∃ x H',Inv X pins σ H' s2/\RelV x u/\J.yld i H x H'/\tn (i+1) s2.heap/\∀ b∈fp,H' b=xp) E s1) E s
 done:∀(X:Cx),X.prog=P->X.w=w->X.K=K->X.calm=true->∀(i:Nat) (pins:List (af×Obj)) (s:aq) (σ:St) (H:Hp) (E:ag->aq->Prop),Inv X pins σ H s->(∀ b∈fp,JS X pins H b)->tn i s.heap->J.stop i H->
  bc (model P w) X.A (nv (.ref it)) (fun r s1=>r=xp/\Inv X pins σ H s1) E s
 self:∀(A:dm) (i:Nat) (s:aq) (Q:ag->aq->Prop) (E:ag->aq->Prop),tn i s.heap->Q (.ref it) s->bc (model P w) A (pyIter (.ref it)) Q E s
abbrev TI:=St->Hp->(It->Hp->Prop)->Prop
def PIE (X:Cx) (pins:List (af×Obj)) (σ:St) (tg:bw) (R:It->Hp->Prop) (itv:ag) (s2:aq):Prop:=
 ∃(it:af) (fp:List af) (tn:Nat->c5->Prop) (J:It) (H':Hp),itv=.ref it/\Inv X pins σ H' s2/\JR X.prog X.w X.K tg J fp it tn/\tn 0 s2.heap/\(∀ b∈fp,JS X pins H' b)/\R J H'
def PI (X:Cx) (tg iter:bw) (wi:TI):Prop:=
 ∀(pins:List (af×Obj)) (s:aq) (σ:St) (H:Hp) (R:It->Hp->Prop),Inv X pins σ H s->wi σ H R->
  bc (model X.prog X.w) X.A (eval iter X.env) (fun v s1=>bc (model X.prog X.w) X.A (pyIter v) (PIE X pins σ tg R) X.xe s1) X.xe s
theorem FG (ho:s.heap.get? it=xo o) (hc:o.cls=.type n) (hd:o.data=.fields vs)
  (hn:["enumerate","zip","dict_itemiterator","dict_reverseitemiterator","odict_iterator","itertools.zip_longest","itertools.pairwise"].contains n=false) (hQ:Q () s):bc M A (pc tg (.ref it) u) Q E s:=by
 unfold pc;cases tg <;> first
  |exact ao hQ
  |(cases u <;> first
    |exact ao hQ
    |(refine ae (wpAny_load ho ?_)
      rw[hc,hd];show bc M A (if(["enumerate","zip","dict_itemiterator","dict_reverseitemiterator","odict_iterator","itertools.zip_longest","itertools.pairwise"].contains n&&vs[0]?==xo (mj _))=true then _ else _) Q E s;rw[if_neg (by intro h;rw[hn,Bool.false_and] at h;cases h)];exact ao hQ))
noncomputable def Itl (K:aa) (a:af):It:=
 ⟨fun i H=>∃ xs x,SqL K H a xs/\xs[i]?=xo x,fun i H x H'=>H'=H/\∀ xs,SqL K H a xs->xs[i]?=xo x,fun i H=>∃ xs,SqL K H a xs/\xs.length<=i⟩
noncomputable def Itt (K:aa) (a:af):It:=
 ⟨fun i H=>∃ xs x,SqT K H a xs/\xs[i]?=xo x,fun i H x H'=>H'=H/\∀ xs,SqT K H a xs->xs[i]?=xo x,fun i H=>∃ xs,SqT K H a xs/\xs.length<=i⟩
noncomputable def Itr (lo:Int) (n:Nat):It:=⟨fun i _=>i<n,fun i H x H'=>H'=H/\x=.int (lo+i),fun i _=>n<=i⟩
theorem Ee {K:aa} (a it:af):JR P w K tg (Itl K a) [it] it (fun i h=>h.IsListIter it a i) where
 mem:=by simp
 obj:=fun i h st b hb=>by
  have e:b=it:=by simpa using hb
  subst e;obtain⟨o,e,c,d⟩:=st;exact⟨o,e,fun v z=>by rw[d] at z;cases z⟩
 keep:=fun i h h' st k=>st.at fun o e=>k it (by simp) o e
 item:=by
  intro X hP hw hK hc i pins s σ H E I hf st hg;subst hP hw hK;obtain⟨xs,x,hq,hx⟩:=hg;obtain⟨its,rv,p,hz⟩:=I.list hq;obtain⟨u,hu,ru⟩:=rv.get hx;obtain⟨f0,f1,f2,f3,f4,f5⟩:=hf it (by simp);refine wpAny_pyNext_list_item st p.isList (x:=u) (by simpa using hu) fun h' st' sb=> ?_;have I1:Inv X pins σ H { s with heap:=h' }:=I.turned (t':=s.toks) (fun b o hb e=>(sb.2 b hb).trans e) f0 f1 f3 f4 f5;obtain⟨o,e,c,d⟩:=id st';exact⟨u,rfl,FG (s:={ s with heap:=h' }) e c d (by decide) ⟨x,H,I1,ru,⟨rfl,fun ys hy=>by rw[I.list_inj hy hq];exact hx⟩,st',fun b hb=>(hf b hb).1⟩⟩
 done:=by
  intro X hP hw hK hc i pins s σ H E I hf st hg;subst hP hw hK;obtain⟨xs,hq,hx⟩:=hg;obtain⟨its,rv,p,hz⟩:=I.list hq;obtain⟨f0,f1,f2,f3,f4,f5⟩:=hf it (by simp);have hl:=rv.length;exact wpAny_pyNext_list_end (I.ok.hd hc) st p.isList (by simp;omega) fun h' eb=>⟨rfl,I.turned (t':=s.toks) (fun b o hb e=>eb b o hb e) f0 f1 f3 f4 f5⟩
 self:=fun _ _ _ _ _ st h=>wpAny_pyIter_listiter st h
theorem CI {K:aa} (a it:af):JR P w K tg (Itt K a) [it] it (fun i h=>h.IsTupleIter it a i) where
 mem:=by simp
 obj:=fun i h st b hb=>by
  have e:b=it:=by simpa using hb
  subst e;obtain⟨o,e,c,d⟩:=st;exact⟨o,e,fun v z=>by rw[d] at z;cases z⟩
 keep:=fun i h h' st k=>st.at fun o e=>k it (by simp) o e
 item:=by
  intro X hP hw hK hc i pins s σ H E I hf st hg;subst hP hw hK;obtain⟨xs,x,hq,hx⟩:=hg;obtain⟨its,rv,p,hz⟩:=I.tuple hq;obtain⟨u,hu,ru⟩:=rv.get hx;obtain⟨f0,f1,f2,f3,f4,f5⟩:=hf it (by simp);refine wpAny_pyNext_tuple_item st (show s.heap.IsTuple a its.toArray from p) (x:=u) (by simpa using hu) fun h' st' sb=> ?_;have I1:Inv X pins σ H { s with heap:=h' }:=I.turned (t':=s.toks) (fun b o hb e=>(sb.2 b hb).trans e) f0 f1 f3 f4 f5;obtain⟨o,e,c,d⟩:=id st';exact⟨u,rfl,FG (s:={ s with heap:=h' }) e c d (by decide) ⟨x,H,I1,ru,⟨rfl,fun ys hy=>by rw[I.tuple_inj hy hq];exact hx⟩,st',fun b hb=>(hf b hb).1⟩⟩
 done:=by
  intro X hP hw hK hc i pins s σ H E I hf st hg;subst hP hw hK;obtain⟨xs,hq,hx⟩:=hg;obtain⟨its,rv,p,hz⟩:=I.tuple hq;obtain⟨f0,f1,f2,f3,f4,f5⟩:=hf it (by simp);have hl:=rv.length;exact wpAny_pyNext_tuple_end (I.ok.hd hc) st (show s.heap.IsTuple a its.toArray from p) (by simp;omega) fun h' eb=>⟨rfl,I.turned (t':=s.toks) (fun b o hb e=>eb b o hb e) f0 f1 f3 f4 f5⟩
 self:=fun _ _ _ _ _ st h=>wpAny_pyIter_tupleiter st h
theorem CJ {K:aa} (it:af) (lo:Int) (n:Nat):JR P w K tg (Itr lo n) [it] it (fun i h=>sw h it (lo+(i:Nat)*1) ((n:Int)-(i:Nat)) 1) where
 mem:=by simp
 obj:=fun i h st b hb=>by
  have e:b=it:=by simpa using hb
  subst e;exact⟨_,st,fun v z=>by
   have z':vz _=r9 v:=z;cases z'⟩
 keep:=fun i h h' st k=>k it (by simp) _ st
 item:=by
  intro X hP hw hK hc i pins s σ H E I hf st hg;subst hP hw hK;obtain⟨f0,f1,f2,f3,f4,f5⟩:=hf it (by simp);have W:=Walks.range (prog:=X.prog) (w:=X.w) (I.ok.hd hc) it lo 1 n;refine W.item i s _ _ hg st fun v h' tk hv st' kk=> ?_;obtain⟨t,rfl⟩:=hv;have I1:Inv X pins σ H { s with heap:=h',toks:=tk }:=I.turned (fun b o hb e=>kk b o (by simpa using hb) e) f0 f1 f3 f4 f5;refine⟨_,rfl,FG (s:={ s with heap:=h',toks:=tk }) (n:="range_iterator") st' rfl rfl (by decide) ⟨.int (lo+i),H,I1,⟨t,?_⟩,⟨rfl,rfl⟩,st',fun b hb=>(hf b hb).1⟩⟩;rw[Int.mul_one]
 done:=by
  intro X hP hw hK hc i pins s σ H E I hf st hg;subst hP hw hK;obtain⟨f0,f1,f2,f3,f4,f5⟩:=hf it (by simp);exact sy (I.ok.hd hc) st (by have:n<=i:=hg;omega) fun h' eb=>⟨rfl,I.turned (t':=s.toks) (fun b o hb e=>eb b o hb e) f0 f1 f3 f4 f5⟩
 self:=fun _ _ _ _ _ st h=>s0 st h
end L2
namespace L2
section
variable {X:Cx}{tg:bw}
def QR (K:aa) (tl:TE):TI:=fun σ H R=>tl σ H fun x H1=>∃ a,x=.ref a/\(∃ xs,SqL K H1 a xs)/\R (Itl K a) H1
def Sk (K:aa) (tl:TE):TI:=fun σ H R=>tl σ H fun x H1=>∃ a,x=.ref a/\(∃ xs,SqT K H1 a xs)/\R (Itt K a) H1
theorem Kq (hl:PE X l tl):PI X tg l (QR X.K tl):=by
 intro pins s σ H R I h;refine thn (hl pins s σ H _ I h) fun v s1 ⟨x,H1,I1,r1,q1⟩=> ?_;obtain⟨a,e,⟨xs,hq⟩,q⟩:=q1;subst e;cases r1;obtain⟨its,rv,p,hz⟩:=I1.list hq;refine wpAny_pyIter_list p.isList ?_;refine⟨s1.heap.objs.size,[s1.heap.objs.size],_,_,H1,rfl,I1.kept (t':=s1.toks) fun b o e=>aw _ e,Ee a _,⟨_,bv _ rfl,rfl,rfl⟩,fun b hb=> ?_,q⟩;have e:b=s1.heap.objs.size:=by simpa using hb
 subst e;exact I1.fpOk (bf _) (I1.hok.fresh (bf _))
theorem Nn (hl:PE X l tl):PI X tg l (Sk X.K tl):=by
 intro pins s σ H R I h;refine thn (hl pins s σ H _ I h) fun v s1 ⟨x,H1,I1,r1,q1⟩=> ?_;obtain⟨a,e,⟨xs,hq⟩,q⟩:=q1;subst e;cases r1;obtain⟨its,rv,p,hz⟩:=I1.tuple hq;refine wpAny_pyIter_tuple (show s1.heap.IsTuple a its.toArray from p) ?_;refine⟨s1.heap.objs.size,[s1.heap.objs.size],_,_,H1,rfl,I1.kept (t':=s1.toks) fun b o e=>aw _ e,CI a _,⟨_,bv _ rfl,rfl,rfl⟩,fun b hb=> ?_,q⟩;have e:b=s1.heap.objs.size:=by simpa using hb
 subst e;exact I1.fpOk (bf _) (I1.hok.fresh (bf _))
theorem Hk {lo hi:Int} (I:Inv X pins σ H s) (h1: -(2 ^ 62)<=lo) (h2:lo<2 ^ 62) (h3: -(2 ^ 62)<=hi) (h4:hi<2 ^ 62)
  (q:R (Itr lo (hi-lo).toNat) H):bc (model X.prog X.w) X.A (pyIter (.ref s.heap.objs.size)) (PIE X pins σ tg R) E { s with heap:=s.heap.push { cls:=.type "range",data:=.fields #[.int lo t,.int hi u,.int 1 v] },toks:=tk }:=by
 refine wpAny_pyIter_range (xm ..) (small_one h1 h2 h3 h4) ?_;have I1:Inv X pins σ H { s with heap:=s.heap.push { cls:=.type "range",data:=.fields #[.int lo t,.int hi u,.int 1 v] },toks:=tk }:=I.kept fun b o e=>aw _ e;refine⟨(s.heap.push { cls:=.type "range",data:=.fields #[.int lo t,.int hi u,.int 1 v] }).objs.size,[(s.heap.push { cls:=.type "range",data:=.fields #[.int lo t,.int hi u,.int 1 v] }).objs.size],_,_,H,rfl,
  I1.kept (t':=tk) fun b o e=>aw _ e,CJ _ lo (hi-lo).toNat,?_,fun b hb=> ?_,q⟩
 ·have e1:lo+((0:Nat):Int)*1=lo:=by simp
  have e2:(((hi-lo).toNat:Nat):Int)-((0:Nat):Int)=jg lo hi 1:=by rw[rangeSize_one];split <;> omega
  show sw _ _ (lo+((0:Nat):Int)*1) ((((hi-lo).toNat:Nat):Int)-((0:Nat):Int)) 1;rw[e1,e2];exact bv _ rfl
 ·have e:b=(s.heap.push { cls:=.type "range",data:=.fields #[.int lo t,.int hi u,.int 1 v] }).objs.size:=by simpa using hb
  subst e;exact I1.fpOk (bf _) (I1.hok.fresh (bf _))
def QQ (ta:TA):TI:=fun σ H R=>ta σ H fun vs H1=>∃ j:Int,vs=[.int j]/\ -(2 ^ 62)<=j/\j<2 ^ 62/\R (Itr 0 j.toNat) H1
theorem EI (hg:Gl X "range") (hm:X.mg "range"=xp) (ha:PA X [a] ta) (hs:au [a] X.env=[(false,eval a X.env)]:=by rfl):PI X tg (.Call (.Name "range" p) [a] [] pos) (QQ ta):=by
 intro pins s σ H R I h;refine Call_ (mZ I hg hm boot_range (gx (thn (ha pos pins s σ H _ I h) fun us s1 ⟨vs,H1,I1,r1,q1⟩=> ?_) hs rfl));obtain⟨j,e,q1,q2,q⟩:=q1;subst e;cases r1 with
 |cons r rr=>
  cases rr;obtain⟨t,rfl⟩:=r;exact call_range_1 (Hk I1 (by omega) (by omega) q1 q2 (by simpa using q))
def Qc (wi:TI) (g:TG) (tb:TS):TS:=fun D σ H=>wi σ H fun J H1=>∃ W:Nat->Nat->St->Hp->Prop,(∃ m,W 0 m σ H1)/\∀ i m σ H,W i m σ H->
 (J.stop i H/\D.nx σ H)∨(J.go i H/\∃ N:St->Hp->Prop,(∀ σ' H',N σ' H'->∃ m',m'<m/\W (i+1) m' σ' H')/\∀ x H',J.yld i H x H'->g x σ H' fun σ2 H2=>tb { D with nx:=N,ct:=N,bk:=D.nx } σ2 H2)
noncomputable def xX (fp:List af) (h:c5):List (af×Obj):=fp.filterMap fun b=>(h.get? b).map fun o=>(b,o)
theorem jS (hb:b∈fp) (e:h.get? b=xo o):(b,o)∈xX fp h:=gy.mpr ⟨b,hb,by rw[e];rfl⟩
theorem ET (hp:p∈xX fp h):p.1∈fp/\h.get? p.1=xo p.2:=by
 obtain⟨b,hb,e⟩:=gy.mp hp;cases q:h.get? b with
 |none=>rw[q] at e;cases e
 |some o=>
  rw[q] at e;have e':(b,o)=p:=b3 e;subst e';exact⟨hb,q⟩
theorem Inv.pinned (I:Inv X pins σ H s) (hf:∀ b∈fp,JS X pins H b) (ho:∀ b∈fp,∃ o,s.heap.get? b=xo o/\∀ v,o.data≠ .cell v):Inv X (pins++xX fp s.heap) σ H s:=
 I.pins_of fun p hp=>(c6.mp hp).elim (fun z=>I.pin p (dy _ z)) fun z=>by
  obtain⟨hb,e⟩:=ET z;obtain⟨f0,f1,f2,_⟩:=hf p.1 hb;obtain⟨o,e',d⟩:=ho p.1 hb;rw[e] at e';cases e';exact⟨e,f0,f1,f2,d⟩
theorem Inv.unpinned (I:Inv X (pins++pl) σ H s):Inv X pins σ H s:=I.pins_of fun p hp=>I.pin p (dy _ (dr _ hp))
theorem Jv (hp:PassesOwn (model X.prog X.w) X.A X.env X.xe) (hc:X.calm=true) (hi:PI X tg iter wi) (hg:PG X tg g) (hb:PSs X body tb)
  (hs:∀ x,gp iter X.env x=pure x:=by intro _;rfl):PS X (.For tg iter body [] pos) (Qc wi g tb):=by
 intro pins s σ H D I h;refine wpAny_For (thn (hi pins s σ H _ I h) fun v s1 h1=>thn h1 fun itv s2 h2=> ?_) hs;obtain⟨it,fp,tn,J,H2,e,I2,T,st2,f2,W,⟨m0,w0⟩,turn⟩:=h2;subst e
 -- what stays true of the iterator's objects through the loop
 have stat:∀ {H':Hp},(∀ b∈fp,H' b=xp)->∀ b∈fp,JS X pins H' b:=fun hn b hb=>⟨hn b hb,(f2 b hb).2⟩;refine codeAny_forLoop_any (fun n s'=>∃ i σ' H',Inv X pins σ' H' s'/\tn i s'.heap/\(∀ b∈fp,H' b=xp)/\W i n σ' H') ?_ m0 ⟨0,σ,H2,I2,st2,fun b hb=>(f2 b hb).1,w0⟩;rintro n s3 ⟨i,σ3,H3,I3,st3,fr3,w3⟩;rcases turn i n σ3 H3 w3 with⟨stop,qn⟩|⟨go,N,hN,step⟩
 ·refine l9 hp (thn (T.done X rfl rfl rfl hc i pins s3 σ3 H3 X.xe I3 (stat fr3) st3 stop) fun r s4 ⟨hr,I4⟩=> ?_);subst hr;exact pb ⟨σ3,H3,I4,qn⟩
 ·refine l9 hp (thn (T.item X rfl rfl rfl hc i pins s3 σ3 H3 X.xe I3 (stat fr3) st3 go) fun r s4 ⟨u,hr,h4⟩=> ?_);subst hr;refine l9 hp (thn h4 fun _ s5 ⟨x,H5,I5,r5,y5,st5,fr5⟩=> ?_);have I5':=I5.pinned (stat fr5) (T.obj _ _ st5);refine l9 hp (thn (hg _ s5 σ3 H5 x u _ I5' r5 (step x H5 y5)) fun _ s6 ⟨σ6,H6,I6,q6⟩=> ?_);refine l9 hp (thn (hb _ s6 σ6 H6 _ I6 q6) fun f s7 q7=> ?_);have again:∀ {σ7:St}{H7:Hp},Inv X (pins++xX fp s5.heap) σ7 H7 s7->N σ7 H7->∃ m,m<n/\∃ i σ' H',Inv X pins σ' H' s7/\tn i s7.heap/\(∀ b∈fp,H' b=xp)/\W i m σ' H':=fun {σ7 H7} I7 n7=>by
   obtain⟨m',hm,w7⟩:=hN σ7 H7 n7;refine⟨m',hm,i+1,σ7,H7,I7.unpinned,T.keep _ _ _ st5 fun b hb o e=>(I7.pin (b,o) (dy _ (dy _ (jS hb e)))).1,fun b hb=> ?_,w7⟩;obtain⟨o,e,d⟩:=T.obj _ _ st5 b hb;exact(I7.pin (b,o) (dy _ (dy _ (jS hb e)))).2.1
  cases f with
  |next=>obtain⟨σ7,H7,I7,n7⟩:=q7;exact again I7 n7
  |cont=>obtain⟨σ7,H7,I7,n7⟩:=q7;exact again I7 n7
  |brk=>obtain⟨σ7,H7,I7,q7⟩:=q7;exact⟨σ7,H7,I7.unpinned,q7⟩
  |ret v=>obtain⟨x7,σ7,H7,I7,r7,q7⟩:=q7;exact⟨x7,σ7,H7,I7.unpinned,r7,q7⟩
end
end L2
namespace L2
abbrev R2:=V->V->Hp->VK->Prop
def OpR (X:Cx) (f:ag->ag->Sem ag) (r:R2):Prop:=
 ∀(pins:List (af×Obj)) (s:aq) (σ:St) (H:Hp) (x y:V) (v u:ag) (Q:VK),Inv X pins σ H s->RelV x v->RelV y u->r x y H Q->
  bc (model X.prog X.w) X.A (f v u) (EP X pins σ Q) X.xe s
def UnR (X:Cx) (f:ag->Sem ag) (r:V->Hp->VK->Prop):Prop:=
 ∀(pins:List (af×Obj)) (s:aq) (σ:St) (H:Hp) (x:V) (v:ag) (Q:VK),Inv X pins σ H s->RelV x v->r x H Q->
  bc (model X.prog X.w) X.A (f v) (EP X pins σ Q) X.xe s
def CallR (X:Cx) (f:ag) (r:List V->Hp->VK->Prop):Prop:=
 ∀(pins:List (af×Obj)) (s:aq) (σ:St) (H:Hp) (xs:List V) (us:List ag) (Q:VK),Inv X pins σ H s->Vals xs us->r xs H Q->
  bc (model X.prog X.w) X.A (call f us) (EP X pins σ Q) X.xe s
def Sx (X:Cx) (r:V->Hp->(Bool->Hp->Prop)->Prop):Prop:=
 ∀(pins:List (af×Obj)) (s:aq) (σ:St) (H:Hp) (x:V) (v:ag) (Q:Bool->Hp->Prop),Inv X pins σ H s->RelV x v->r x H Q->
  bc (model X.prog X.w) X.A (truthy v) (TP X pins σ Q) X.xe s
def tOp (r:R2) (ta tb:TE):TE:=fun σ H Q=>ta σ H fun x H1=>tb σ H1 fun y H2=>r x y H2 Q
def tUn (r:V->Hp->VK->Prop) (ta:TE):TE:=fun σ H Q=>ta σ H fun x H1=>r x H1 Q
noncomputable def rI (C:Int->Int->Prop) (g:Int->Int->V):R2:=fun x y H Q=>∃ i j,x=.int i/\y=.int j/\C i j/\Q (g i j) H
noncomputable def rI0 (g:Int->Int->V):R2:=fun x y H Q=>∃ i j,x=.int i/\y=.int j/\Q (g i j) H
def rU (g:Int->V):V->Hp->VK->Prop:=fun x H Q=>∃ i,x=.int i/\Q (g i) H
section
variable {X:Cx}{a b c:bw}{ta tb tc:TE}{pos:Pos}
theorem Re (ha:PE X a ta) (hb:PE X b tb) {R:V->V->Hp->Prop} (I:Inv X pins σ H s)
  (h:ta σ H fun x H1=>tb σ H1 fun y H2=>R x y H2) {f:ag->ag->Sem ag}
  (hf:∀ v u s2 x y H2,Inv X pins σ H2 s2->RelV x v->RelV y u->R x y H2->bc (model X.prog X.w) X.A (f v u) Q X.xe s2):
  bc (model X.prog X.w) X.A (eval a X.env) (fun v s₁=>bc (model X.prog X.w) X.A (eval b X.env) (fun u s₂=>bc (model X.prog X.w) X.A (f v u) Q X.xe s₂) X.xe s₁) X.xe s:=by
 refine thn (ha pins s σ H _ I h) fun v s1 ⟨x,H1,I1,r1,q1⟩=> ?_;refine thn (hb pins s1 σ H1 _ I1 q1) fun u s2 ⟨y,H2,I2,r2,q2⟩=> ?_;exact hf v u s2 x y H2 I2 r1 r2 q2
theorem Qu (ho:OpR X (j7 op) r) (ha:PE X a ta) (hb:PE X b tb):PE X (.BinOp a op b pos) (tOp r ta tb):=by
 intro pins s σ H Q I h;exact wpAny_BinOp (Re ha hb I h fun v u s2 x y H2 I2 rx ry q=>ho pins s2 σ H2 x y v u Q I2 rx ry q)
theorem Qt (ho:UnR X (unaryOp op) r) (ha:PE X a ta):PE X (.UnaryOp op a pos) (tUn r ta):=by
 intro pins s σ H Q I h;exact UnaryOp_ (thn (ha pins s σ H _ I h) fun v s1 ⟨x,H1,I1,r1,q1⟩=>ho pins s1 σ H1 x v Q I1 r1 q1)
theorem opI {g:Int->Int->Int}
  (rule:∀(i j:Int) (t u:Tok) (s:aq) (Q:ag->aq->Prop) (E:ag->aq->Prop),C i j->Q (.int (g i j) s.toks) { s with toks:=s.toks+1 }->bc (model X.prog X.w) X.A (f (.int i t) (.int j u)) Q E s):
  OpR X f (rI C fun i j=>.int (g i j)):=by
 intro pins s σ H x y v u Q I rx ry h;obtain⟨i,j,rfl,rfl,hc,q⟩:=h;obtain⟨t,rfl⟩:=rx;obtain⟨t',rfl⟩:=ry;exact rule i j t t' s _ _ hc ⟨.int (g i j),H,I.tok _,⟨_,rfl⟩,q⟩
theorem RD {g:Int->Int->Int}
  (rule:∀(i j:Int) (t u:Tok) (s:aq) (Q:ag->aq->Prop) (E:ag->aq->Prop),Q (.int (g i j) s.toks) { s with toks:=s.toks+1 }->bc (model X.prog X.w) X.A (f (.int i t) (.int j u)) Q E s):
  OpR X f (rI0 fun i j=>.int (g i j)):=by
 intro pins s σ H x y v u Q I rx ry h;obtain⟨i,j,rfl,rfl,q⟩:=h;obtain⟨t,rfl⟩:=rx;obtain⟨t',rfl⟩:=ry;exact rule i j t t' s _ _ ⟨.int (g i j),H,I.tok _,⟨_,rfl⟩,q⟩
theorem PF {g:Int->Int->Bool}
  (rule:∀(i j:Int) (t u:Tok) (s:aq) (Q:ag->aq->Prop) (E:ag->aq->Prop),Q (.bool (g i j)) s->bc (model X.prog X.w) X.A (f (.int i t) (.int j u)) Q E s):
  OpR X f (rI0 fun i j=>.bl (g i j)):=by
 intro pins s σ H x y v u Q I rx ry h;obtain⟨i,j,rfl,rfl,q⟩:=h;obtain⟨t,rfl⟩:=rx;obtain⟨t',rfl⟩:=ry;exact rule i j t t' s _ _ ⟨.bl (g i j),H,I,rfl,q⟩
def CMul (i j:Int):Prop:=(-(2 ^ 64)<i/\i<2 ^ 64)∨(-(2 ^ 64)<j/\j<2 ^ 64)
theorem CMul.ok (h:CMul i j):IntMulOk i j:=by
 rcases h with⟨h1,h2⟩|⟨h1,h2⟩
 ·exact .of_left (intBits_le_64 h1 h2)
 ·exact .of_right (intBits_le_64 h1 h2)
theorem Od:OpR X (j7 .Add) (rI0 fun i j=>.int (i+j)):=RD fun _ _ _ _ _ _ _ q=>add_int q
theorem NS:OpR X (j7 .Sub) (rI0 fun i j=>.int (i-j)):=RD fun _ _ _ _ _ _ _ q=>sub_int q
theorem NV:OpR X (j7 .Mult) (rI CMul fun i j=>.int (i*j)):=opI fun _ _ _ _ _ _ _ hc q=>mul_int q hc.ok
theorem NW:OpR X (j7 .Mod) (rI (fun _ j=>0<j) fun i j=>.int (i % j)):=opI fun i j _ _ _ _ _ hc q=>by
 have h1:(0:Int)<j:=hc;exact mod_int' (by omega) (by rw[Int.fmod_eq_emod_of_nonneg i (by omega)];exact q)
theorem unI {g:Int->Int}
  (rule:∀(i:Int) (t:Tok) (s:aq) (Q:ag->aq->Prop) (E:ag->aq->Prop),Q (.int (g i) s.toks) { s with toks:=s.toks+1 }->bc (model X.prog X.w) X.A (f (.int i t)) Q E s):
  UnR X f (rU fun i=>.int (g i)):=by
 intro pins s σ H x v Q I rx h;obtain⟨i,rfl,q⟩:=h;obtain⟨t,rfl⟩:=rx;exact rule i t s _ _ ⟨.int (g i),H,I.tok _,⟨_,rfl⟩,q⟩
theorem MK:UnR X (unaryOp .USub) (rU fun i=>.int (-i)):=unI fun _ _ _ _ _ q=>neg_int q
end
section
variable {X:Cx}{a b c:bw}{ta tb tc:TE}{pos:Pos}
theorem Pf (I:Inv X pins σ H s) (q:Q (.bl k) H) (e:k=k'):EP X pins σ Q (.bool k') s:=by
 subst e;exact⟨.bl k,H,I,rfl,q⟩
theorem NX:OpR X (fw .Lt) (rI0 fun i j=>.bl (decide (i<j))):=PF fun _ _ _ _ _ _ _ q=>wn q
theorem KQ:OpR X (fw .LtE) (rI0 fun i j=>.bl (decide (i<=j))):=PF fun _ _ _ _ _ _ _ q=>le_int q
theorem NZ:OpR X (fw .Gt) (rI0 fun i j=>.bl (decide (j<i))):=PF fun _ _ _ _ _ _ _ q=>gt_int q
theorem QF:OpR X (fw .GtE) (rI0 fun i j=>.bl (decide (j<=i))):=PF fun _ _ _ _ _ _ _ q=>ge_int q
theorem KO:OpR X (fw .IsNot) (fun x y H Q=>y=.non/\Q (.bl (!decide (x=.non))) H):=by
 intro pins s σ H x y v u Q I rx ry h;obtain⟨rfl,q⟩:=h;cases ry;refine isnot_none_gen (Pf I q ?_);cases x <;> first
  |(cases rx;rfl)
  |(obtain⟨t,rfl⟩:=rx;rfl)
theorem lN (b:bw) (h:op≠ .In:=by decide) (h2:op≠ .NotIn:=by decide):iy op b=false:=by
 have e1:(op==CmpOp.In)=false:=by cases op <;> first|rfl|exact absurd rfl h
 have e2:(op==CmpOp.NotIn)=false:=by cases op <;> first|rfl|exact absurd rfl h2
 cases b <;> simp[iy,e1,e2]
theorem Ky (ho:OpR X (fw op) r) (ha:PE X a ta) (hb:PE X b tb) (hm:iy op b=false):PE X (.Compare a [op] [b] pos) (tOp r ta tb):=by
 intro pins s σ H Q I h;exact wpAny_Compare1 (Re ha hb I h fun v u s2 x y H2 I2 rx ry q=>ho pins s2 σ H2 x y v u Q I2 rx ry q) hm
def MO (t:TE):TT:=fun σ H Q=>t σ H fun x H'=>∃ k,x=.bl k/\Q k H'
theorem Kg (ho:OpR X (fw op) r) (ha:PE X a ta) (hb:PE X b tb) (hm:iy op b=false):PT X (.Compare a [op] [b] pos) (MO (tOp r ta tb)):=by
 intro pins s σ H Q I h;refine t7 (thn (ha pins s σ H _ I h) fun v s1 ⟨x,H1,I1,r1,q1⟩=>thn (hb pins s1 σ H1 _ I1 q1) fun u s2 ⟨y,H2,I2,r2,q2⟩=>
  thn (ho pins s2 σ H2 x y v u _ I2 r1 r2 q2) fun c s3 ⟨z,H3,I3,r3,k,e,q3⟩=> ?_) hm
 subst e;cases r3;exact dq ⟨H3,I3,q3⟩
def MS (r r':R2) (ta tb tc:TE):TE:=fun σ H Q=>ta σ H fun x H1=>tb σ H1 fun y H2=>r x y H2 fun z H3=>∃ k,z=.bl k/\
 (if k=true then tc σ H3 fun w' H4=>r' y w' H4 Q else Q (.bl false) H3)
theorem Hr (ho:OpR X (fw op) r) (ho':OpR X (fw op') r') (ha:PE X a ta) (hb:PE X b tb) (hc:PE X c tc)
  (hm:lastMarks [op,op'] [b,c]=false:=by with_unfolding_all rfl):PT X (.Compare a [op,op'] [b,c] pos) (MO (MS r r' ta tb tc)):=by
 intro pins s σ H Q I h;refine isTrue_chain (thn (ha pins s σ H _ I h) fun v s1 ⟨x,H1,I1,r1,q1⟩=>test_link (thn (hb pins s1 σ H1 _ I1 q1) fun u s2 ⟨y,H2,I2,r2,q2⟩=>
  thn (ho pins s2 σ H2 x y v u _ I2 r1 r2 q2) fun d s3 ⟨z,H3,I3,r3,k,e,q3⟩=> ?_)) hm
 subst e;cases r3;refine dq ?_;cases k with
 |false=>
  obtain⟨k',e',q'⟩:=q3;cases e';exact ite_ff ⟨H3,I3,q'⟩
 |true=>
  refine ite_tt (test_last (thn (hc pins s3 σ H3 _ I3 q3) fun w' s4 ⟨z',H4,I4,r4,q4⟩=>thn (ho' pins s4 σ H4 y z' u w' _ I4 r2 r4 q4) fun d' s5 ⟨z2,H5,I5,r5,k2,e2,q5⟩=> ?_));subst e2;cases r5;exact dq ⟨H5,I5,q5⟩
def Rf (K:aa) (x:V) (H:Hp) (k:Bool):Prop:=
 match x with
 |.non=>k=false
 |.bl b=>k=b
 |.int i=>k=(i !=0)
 |.str y=>y.length<=sizeLine/\k=((y.length:Int) !=0)
 |.byt y=>y.size<=sizeLine/\k=((y.size:Int) !=0)
 |.ref p=>(∃ xs,SqL K H p xs/\k= !xs.isEmpty)∨(∃ xs,SqT K H p xs/\k= !xs.isEmpty)∨∃ kvs,H p=xo (.dK kvs)/\k= !kvs.isEmpty
 |_=>False
theorem Dl {vs:List (κ×ag)} (r:KV kvs vs):(!vs.isEmpty)= !kvs.isEmpty:=by
 cases r <;> rfl
theorem tN (r:Vals xs its):(!its.toArray.isEmpty)= !xs.isEmpty:=by
 cases r <;> simp
theorem tK:(sizeLine:Nat)<2 ^ 63:=by rw[bt];decide
theorem tru_ok:Sx X (fun x H Q=>∃ k,Rf X.K x H k/\Q k H):=by
 intro pins s σ H x v Q I rx h;obtain⟨k,e,q⟩:=h;have hl:=tK;have hs:sizeLine=16777216:=bt;cases x with
 |non=>
  cases rx;have e':k=false:=e;subst e';exact truthy_none ⟨H,I,q⟩
 |bl b=>
  cases rx;have e':k=b:=e;subst e';exact dq ⟨H,I,q⟩
 |int i=>
  obtain⟨t,rfl⟩:=rx;have e':k=(i !=0):=e;subst e';exact PySem.P.truthy_int ⟨H,I,q⟩
 |str y=>
  obtain⟨t,rfl⟩:=rx;obtain⟨hy,e'⟩:y.length<=sizeLine/\k=((y.length:Int) !=0):=e;subst e';exact PySem.P.truthy_str (by omega) ⟨H,I.tok _,q⟩
 |byt y=>
  obtain⟨t,rfl⟩:=rx;obtain⟨hy,e'⟩:y.size<=sizeLine/\k=((y.size:Int) !=0):=e;subst e';exact PySem.W.truthy_bytes (by omega) ⟨H,I.tok _,q⟩
 |ref p=>
  cases rx;have e':(∃ xs,SqL X.K H p xs/\k= !xs.isEmpty)∨(∃ xs,SqT X.K H p xs/\k= !xs.isEmpty)∨∃ kvs,H p=xo (.dK kvs)/\k= !kvs.isEmpty:=e;rcases e' with⟨xs,hx,e'⟩|⟨xs,hx,e'⟩|⟨kvs,hx,e'⟩
  ·subst e';obtain⟨its,r,pl,hz⟩:=I.list hx;have hlen:=r.length;exact wpAny_truthy_list pl.isList (by simp only[bi];omega) ⟨H,I.tok _,by rw[tN r];exact q⟩
  ·subst e';obtain⟨its,r,pl,hz⟩:=I.tuple hx;have hlen:=r.length;exact truthy_tuple pl (by simp only[bi];omega) ⟨H,I.tok _,by rw[tN r];exact q⟩
  ·subst e';obtain⟨hz,hS,vs,r,m⟩:kvs.length<=sizeLine/\(p==fk)=false/\∃ vs,KV kvs vs/\s.heap.DictOf (aO X.prog X.w) p vs:=I.hok p _ hx;have hlen:kvs.length=vs.length:=jd r;exact wpAny_truthy_dict hS m (by omega) ⟨H,I.tok _,by rw[Dl r];exact q⟩
 |_=>exact(show False from e).elim
theorem Ho (ha:PE X a ta) (he:∀ whole,isTrue a X.env whole=(do let v <- whole;ng a.pos;holding [v] (truthy v))):
  PT X a (fun σ H Q=>ta σ H fun x H'=>∃ k,Rf X.K x H' k/\Q k H'):=by
 intro pins s σ H Q I h;exact isTrue_plain (thn (ha pins s σ H _ I h) fun v s1 ⟨x,H1,I1,r1,q1⟩=>tru_ok pins s1 σ H1 x v Q I1 r1 q1) (he _)
theorem CV:OpR X (j7 .Add) (fun x y H Q=>∃ i j,x=.str i/\y=.str j/\i.length+j.length<=sizeLine/\Q (.str (i++j)) H):=by
 intro pins s σ H x y v u Q I rx ry h;obtain⟨i,j,rfl,rfl,hz,q⟩:=h;obtain⟨t,rfl⟩:=rx;obtain⟨t',rfl⟩:=ry;exact add_str (fun t' tk=>⟨.str (i++j),H,I.tok _,⟨_,rfl⟩,q⟩) hz
theorem lA (r:Vals [x] us):∃ u,us=[u]/\RelV x u:=by
 cases r with
 |cons r1 r2=>cases r2;exact⟨_,rfl,r1⟩
theorem GR (r:Vals [x,y] us):∃ u w',us=[u,w']/\RelV x u/\RelV y w':=by
 cases r with
 |cons r1 r2=>
  cases r2 with
  |cons r3 r4=>cases r4;exact⟨_,_,rfl,r1,r3⟩
theorem Gx (hc:X.calm=true):CallR X (.builtin "max") (fun xs H Q=>∃ i j,xs=[.int i,.int j]/\Q (.int (if j>i then j else i)) H):=by
 intro pins s σ H xs us Q I r h;obtain⟨i,j,rfl,q⟩:=h;obtain⟨u,w',rfl,⟨t,rfl⟩,⟨t',rfl⟩⟩:=GR r;refine max_two_ints (I.ok.hd hc) fun h' tk k=>⟨_,H,I.kept k,?_,q⟩
 by_cases hj:j>i
 ·rw[if_pos hj,if_pos hj];exact⟨_,rfl⟩
 ·rw[if_neg hj,if_neg hj];exact⟨_,rfl⟩
theorem Gw (hc:X.calm=true):CallR X (.builtin "min") (fun xs H Q=>∃ i j,xs=[.int i,.int j]/\Q (.int (if j<i then j else i)) H):=by
 intro pins s σ H xs us Q I r h;obtain⟨i,j,rfl,q⟩:=h;obtain⟨u,w',rfl,⟨t,rfl⟩,⟨t',rfl⟩⟩:=GR r;refine min_two_ints (I.ok.hd hc) fun h' tk k=>⟨_,H,I.kept k,?_,q⟩
 by_cases hj:j<i
 ·rw[if_pos hj,if_pos hj];exact⟨_,rfl⟩
 ·rw[if_neg hj,if_neg hj];exact⟨_,rfl⟩
theorem call_int1:CallR X (.type "int") (fun xs H Q=>(∃ i,xs=[.int i]/\Q (.int i) H)∨∃ k,xs=[.bl k]/\Q (.int (if k then 1 else 0)) H):=by
 intro pins s σ H xs us Q I r h;rcases h with⟨i,rfl,q⟩|⟨k,rfl,q⟩
 ·obtain⟨u,rfl,t,rfl⟩:=lA r;exact call_int_int ⟨.int i,H,I,⟨_,rfl⟩,q⟩
 ·obtain⟨u,rfl,r1⟩:=lA r;cases r1;exact call_int_bool ⟨.int (if k then 1 else 0),H,I.tok _,⟨_,rfl⟩,q⟩
def Rl (K:aa) (x:V) (H:Hp) (n:Nat):Prop:=
 match x with
 |.str y=>y.length<=sizeLine/\n=y.length
 |.byt y=>y.size<=sizeLine/\n=y.size
 |.ref p=>(∃ xs,SqL K H p xs/\n=xs.length)∨∃ xs,SqT K H p xs/\n=xs.length
 |_=>False
theorem Jj:CallR X (.builtin "len") (fun xs H Q=>∃ x n,xs=[x]/\Rl X.K x H n/\Q (.int n) H):=by
 intro pins s σ H xs us Q I r h;obtain⟨x,n,rfl,e,q⟩:=h;obtain⟨u,rfl,rx⟩:=lA r;have hl:=tK;have hs:sizeLine=16777216:=bt;cases x with
 |str y=>
  obtain⟨t,rfl⟩:=rx;obtain⟨hy,e'⟩:y.length<=sizeLine/\n=y.length:=e;subst e';exact len_str (by omega) ⟨.int _,H,I.tok _,⟨_,rfl⟩,q⟩
 |byt y=>
  obtain⟨t,rfl⟩:=rx;obtain⟨hy,e'⟩:y.size<=sizeLine/\n=y.size:=e;subst e';exact PySem.W.len_bytes (by omega) ⟨.int _,H,I.tok _,⟨_,rfl⟩,q⟩
 |ref p=>
  cases rx;have e':(∃ xs,SqL X.K H p xs/\n=xs.length)∨∃ xs,SqT X.K H p xs/\n=xs.length:=e;rcases e' with⟨xs,hx,e'⟩|⟨xs,hx,e'⟩
  ·subst e';obtain⟨its,r',pl,hz⟩:=I.list hx;have hlen:=r'.length;exact Calls.call_len_list pl.isList (by simp only[bi];omega) ⟨.int xs.length,H,I.tok _,⟨_,by simp only[bi];rw[hlen]⟩,q⟩
  ·subst e';obtain⟨its,r',pl,hz⟩:=I.tuple hx;have hlen:=r'.length;exact len_tuple pl (by simp only[bi];omega) ⟨.int xs.length,H,I.tok _,⟨_,by simp only[bi];rw[hlen]⟩,q⟩
 |_=>exact(show False from e).elim
end
end L2
namespace L2
structure ObjM (h:c5) (x dx C:af) (mA:Str->Option ag):Prop where
 obj:h.get? x=xo (i9 C dx)
 ns:h.Ns1 dx mA
 ne:dx≠x
theorem Fi {h:c5} (n:h.Ns1 dx mA):∃ od,h.get? dx=xo od/\∀ name,pk name od=xo (mA name):=by
 obtain⟨o,es,ep,ho,hd,hk,_,hm⟩:=n;refine⟨o,ho,fun name=> ?_⟩;have e:=hm name;unfold nsFind findBy at e;rw[<- Array.find?_toList] at e;unfold pk;rw[hd];dsimp only;split
 ·rename_i y q
  rw[q] at e;exact congrArg xo e
 ·rename_i q
  rw[q] at e;have a:es.toList.any (·.refKey)=false:=by
   rw[List.any_eq_false];intro y hy;obtain⟨z,t,hkey⟩:=hk y (Array.mem_toList_iff.mp hy);simp[DictEntry.refKey,hkey]
  have a':¬ es.toList.any (·.refKey)=true:=by rw[a];exact cg
  rw[if_neg a'];exact congrArg xo e
theorem ObjM.look (I:ObjM h x dx C mA):∃ od,PySem.W.InstAt h x (i9 C dx) C (xo od)/\∀ name,pk name od=xo (mA name):=
 let ⟨od,ho,hl⟩:=Fi I.ns
 ⟨od,⟨I.obj,rfl,rfl,ho⟩,hl⟩
section
variable {prog:da}{w:dh}{A:dm}{E:ag->aq->Prop}{s:aq}{K:aa}{x dx C f:af}{mA:Str->Option ag}{name:Str}{v:ag}
theorem LQ (X:K.In s.heap) (I:ObjM s.heap x dx C mA) (hg:om K C name=true) (hh:qi K C=true)
  (ha:hZ K (.ref C) name=xo xp) (hv:mA name=xo v) (hv':wd v=true) (h:Q v { s with toks:=s.toks+1 }):
  bc (model prog w) A (getAttr (.ref x) name expr) Q E s:=by
 obtain⟨od,J,hl⟩:=I.look;exact PySem.W.get_value X J (pi hg).1 (PySem.W.findObj_own hh ha rfl (by rw[hl,hv])) hv' h
theorem Is (X:K.In s.heap) (I:ObjM s.heap x dx C mA) (hg:om K C name=true)
  (hf:hZ K (.ref C) name=xo (xo (.ref f))) (ht:pd K (.ref f)=true) (hv:mA name=xp) (h:Q (.ref f,[.ref x]) s):
  bc (model prog w) A (mm (.ref x) name pl) Q E s:=by
 obtain⟨od,J,hl⟩:=I.look;exact PySem.W.method_fn X J (pi hg).1 (pi hg).2 hf (beq_iff_eq.mp ht) (by show(pk name od).map (·.isSome)=xo false;rw[hl,hv];rfl) h
theorem JZ (X:K.In s.heap) (I:ObjM s.heap x dx C mA)
  (hs:hZ K (.ref C) "__setattr__"=xo (xo (.builtin "object.__setattr__"))) (hp:vq K C=true) (ht:se K C name=xo xp) (hh:qi K C=true)
  (hw:u8 mA ns) (hsz:ns.length<=sizeLine)
  (h:∀ h',ObjM h' x dx C (fun y=>if y=name then xo v else mA y)->f7 dx s.heap h'->Q () { s with heap:=h',toks:=s.toks+2 }):
  bc (model prog w) A (setAttr (.ref x) name v) Q E s:=by
 obtain⟨od,J,hl⟩:=I.look;refine PySem.W.set_plain X J hs (PySem.W.osa_open (s:={ s with toks:=s.toks+1 }) (r:=xp) X J hp ht fun b=> ?_);obtain⟨cd,hc,hd'⟩:=PySem.W.any_some hh;have hx:s.heap.get? x=xo ⟨.ref C,xo dx,.plain,#[]⟩:=I.obj;refine ae (ao (ae (ae (wpAny_loadPart hx (ae (PySem.W.Looks.here (s:={ s with toks:=s.toks+1 }) (PySem.W.looks_clsIn X hc) ?_))))));rw[hd'];refine ao (a:=xo dx) (ae (ao (ae ?_)));refine wpAny_nsSet1 (s:={ s with toks:=s.toks+1 }) I.ns fun h' hn2 hs2=> ?_;obtain⟨oD,esD,epD,hoD,hdD,hcD⟩:=hn2.count (PySem.Within.cons name v hw);refine ae (wpAny_lookBehind hoD (by rw[hdD];exact pastItsLine_dict (cf hcD (by rw[b4];omega))) ?_);exact ao (h _ ⟨(hs2.2 _ (bz I.ne)).trans I.obj,hn2,I.ne⟩ hs2)
theorem Ib (X:K.In s.heap) (hm:sf K C=true)
  (hi:hZ K (.ref C) "__init__"=xo (xo (.ref f))) (hf:PySem.W.typeIn K (.ref f)=xo (.type "function"))
  (h:o7 (model prog w) (A.under (.builtin "type.__call__" ⟨.ref C::vs,kw⟩)) (.call (.ref f) ⟨.ref (s.heap.objs.size+1)::vs,kw⟩) (PySem.W.InitBack (s.heap.objs.size+1) R)
   { s with heap:=(s.heap.push ib).push (i9 C s.heap.objs.size) }):
  o7 (model prog w) A (.call (.ref C) ⟨vs,kw⟩) R s:=by
 obtain⟨hh,g,d,t,os⟩:=s;exact PySem.W.make_core (PySem.W.makes_of X hm) (PySem.W.looks_findIn X hi) (fun self=>PySem.W.bind_fn X self hf) (.inl rfl) h
end
noncomputable def putF (f:Str) (v:V):List (Str×V)->List (Str×V)
 |[]=>[(f,v)]
 |(g,x)::r=>if g=f then(g,v)::r else(g,x)::putF f v r
theorem pU (f g:Str) (v:V):∀ fs:List (Str×V),(putF f v fs).lookup g=if g=f then xo v else fs.lookup g
 |[]=>by
  show j3 g [(f,v)]=_
  by_cases h:g=f
  ·have hb:(g==f)=true:=beq_iff_eq.mpr h;simp only[j3,hb,if_pos h]
  ·have hb:(g==f)=false:=beq_eq_false_iff_ne.mpr h;simp only[j3,hb,if_neg h]
 |(k,x)::r=>by
  have ih:=pU f g v r;rw[show putF f v ((k,x)::r)=(if k=f then(k,v)::r else(k,x)::putF f v r) from rfl]
  by_cases hk:k=f
  ·rw[if_pos hk]
   by_cases h:g=k
   ·have hb:(g==k)=true:=beq_iff_eq.mpr h;simp only[j3,hb,if_pos (h.trans hk)]
   ·have hb:(g==k)=false:=beq_eq_false_iff_ne.mpr h;simp only[j3,hb,if_neg (fun e:g=f=>h (e.trans hk.symm))]
  ·rw[if_neg hk]
   by_cases h:g=k
   ·have hb:(g==k)=true:=beq_iff_eq.mpr h;simp only[j3,hb,if_neg (fun e:g=f=>hk (h.symm.trans e))]
   ·have hb:(g==k)=false:=beq_eq_false_iff_ne.mpr h;simp only[j3,hb];exact ih
theorem pW (f:Str) (v:V):∀ fs:List (Str×V),f∈(putF f v fs).map (·.1)/\∀ g,g∈fs.map (·.1)->g∈(putF f v fs).map (·.1)
 |[]=>⟨by simp[putF],fun g h=>by simp at h⟩
 |(k,x)::r=>by
  obtain⟨i1,i2⟩:=pW f v r;rw[show putF f v ((k,x)::r)=(if k=f then(k,v)::r else(k,x)::putF f v r) from rfl]
  by_cases hk:k=f
  ·rw[if_pos hk];subst hk;exact⟨by simp,fun g h=>by simpa using h⟩
  ·rw[if_neg hk];refine⟨?_,fun g h=> ?_⟩
   ·rw[bg];exact ai _ i1
   ·rw[bg] at h ⊢;rcases aj.mp h with e|e
    ·exact aj.mpr (.inl e)
    ·exact ai _ (i2 g e)
theorem pV (f:Str) (v:V):∀ fs:List (Str×V),(putF f v fs).length<=fs.length+1
 |[]=>by simp[putF]
 |(k,x)::r=>by
  have ih:=pV f v r;rw[show putF f v ((k,x)::r)=(if k=f then(k,v)::r else(k,x)::putF f v r) from rfl]
  by_cases hk:k=f
  ·rw[if_pos hk,b4,b4];omega
  ·rw[if_neg hk,b4,b4];omega
theorem RelO.some_of (r:RelO (xo v) o):∃ u,o=xo u/\RelV v u:=by
 cases o with
 |none=>exact(show False from r).elim
 |some u=>exact⟨u,rfl,r⟩
theorem RelO.none_of (r:RelO xp o):o=xp:=by
 cases o with
 |none=>rfl
 |some u=>exact(show False from r).elim
theorem Fy (r:RelV v u):wd u=true:=by
 cases v with
 |non=>cases (show u=ik from r);rfl
 |bl b=>cases (show u=uj b from r);rfl
 |int i=>obtain⟨t,e⟩:=(show ∃ t,u=u6 i t from r);cases e;rfl
 |str x=>obtain⟨t,e⟩:=(show ∃ t,u=u7 x t from r);cases e;rfl
 |byt b=>obtain⟨t,e⟩:=(show ∃ t,u=Value.bytes b t from r);cases e;rfl
 |flt b=>obtain⟨t,e⟩:=(show ∃ t,u=Value.float b t from r);cases e;rfl
 |ref a=>cases (show u=ck a from r);rfl
 |ty n=>cases (show u=i8 n from r);rfl
section
variable {P:da}{w:dh}{H H':Hp}{h h':c5}{a C dx:af}{fs fs':List (Str×V)}
theorem Ax (hok:HOk P w H h) (e:H a=xo (.ins C dx fs)):∃ mA,ObjM h a dx C mA/\(∀ f,RelO (fs.lookup f) (mA f))/\u8 mA (fs.map (·.1))/\fs.length<=1000/\H dx=xo (.own a):=by
 obtain⟨d,z,ne,ob,mA,n,r,q⟩:=(show ObjOk P w H h a (.ins C dx fs) from hok a _ e);exact⟨mA,⟨ob,n,ne⟩,r,q,z,d⟩
end
structure Cls (K:aa) (C:af):Prop where
 pg:om K C Str.empty=true
 hd:qi K C=true
 po:vq K C=true
 sa:hZ K (.ref C) "__setattr__"=xo (xo (.builtin "object.__setattr__"))
theorem Cls.get {K:aa} (c:Cls K C) (f:Str):om K C f=true:=c.pg
def NoAttr (K:aa) (C:af) (f:Str):Prop:=hZ K (.ref C) f=xo xp
theorem NoAttr.taker {K:aa} (n:NoAttr K C f):se K C f=xo xp:=by
 unfold se;rw[show hZ K (.ref C) f=xo xp from n];rfl
structure Js (K:aa) (C:af) (m:Str) (f:af):Prop where
 at_:hZ K (.ref C) m=xo (xo (.ref f))
 fn:pd K (.ref f)=true
 kp:gu K (.ref f)=true
section
variable {X:Cx}{pins:List (af×Obj)}{σ:St}{H:Hp}{s:aq}{a C dx:af}{fs:List (Str×V)}{f:Str}{v:V}{A:dm}{E:ag->aq->Prop}
theorem Dt (I:Inv X pins σ H s) (e:H a=xo (.ins C dx fs)) (c:Cls X.K C) (n:NoAttr X.K C f) (l:fs.lookup f=xo v)
  (h:∀ u s',Inv X pins σ H s'->RelV v u->Q u s'):bc (model X.prog X.w) A (getAttr (.ref a) f b) Q E s:=by
 obtain⟨mA,O,r,_,_,_⟩:=Ax I.hok e;obtain⟨u,hu,ru⟩:=RelO.some_of (v:=v) (o:=mA f) (by rw[<- l];exact r f);exact LQ I.kIn O (c.get f) c.hd n hu (Fy ru) (h u _ (I.tok _) ru)
theorem tS (I:Inv X pins σ H s) (e:H a=xo (.ins C dx fs)) (c:Cls X.K C) (k:Js X.K C m g) (l:fs.lookup m=xp)
  (h:Q (.ref g,[.ref a]) s):bc (model X.prog X.w) A (mm (.ref a) m pl) Q E s:=by
 obtain⟨mA,O,r,_,_,_⟩:=Ax I.hok e;have hn:mA m=xp:=RelO.none_of (by rw[<- l];exact r m);exact Is I.kIn O (c.get m) k.at_ k.fn hn h
theorem CN (I:Inv X pins σ H s) (e:H a=xo (.ins C dx fs)) (c:Cls X.K C) (n:NoAttr X.K C f) (hl:fs.length<1000) (ry:RelV y u)
  (h:∀ s',Inv X pins σ (upd H a (.ins C dx (putF f y fs))) s'->Q () s'):bc (model X.prog X.w) A (setAttr (.ref a) f u) Q E s:=by
 obtain⟨mA,O,r,wi,_,ho⟩:=Ax I.hok e;have hz:(fs.map (·.1)).length<=sizeLine:=by rw[ak,bt];omega
 refine JZ I.kIn O c.sa c.po n.taker c.hd wi hz fun h' O' sb=>h _ ?_;have hd:∃ o,h'.get? dx=xo o:=let ⟨o,_,_,e',_⟩:=O'.ns;⟨o,e'⟩;refine I.write (x:=a) (e:=dx) (by rw[e];exact im) (.inr ho) (fun b q hb z=>(sb.2 b hb).trans z) hd ?_;refine⟨by rw[aG O.ne];exact ho,?_,O.ne,O'.obj,_,O'.ns,fun g=> ?_,fun g hg=> ?_⟩
 ·have:=pV f y fs;omega
 ·show RelO ((putF f y fs).lookup g) (if g=f then xo u else mA g);rw[pU]
  by_cases q:g=f
  ·rw[if_pos q,if_pos q];exact ry
  ·rw[if_neg q,if_neg q];exact r g
 ·by_cases q:g=f
  ·rw[q];exact(pW f y fs).1
  ·refine(pW f y fs).2 g (wi g fun z=>hg ?_)
   show(if g=f then xo u else mA g)=xp
   rw[if_neg q];exact z
theorem Inv.made (I:Inv X pins σ H s):Inv X pins σ (upd (upd H s.heap.objs.size (.own (s.heap.objs.size+1))) (s.heap.objs.size+1) (.ins C s.heap.objs.size []))
  { s with heap:=(s.heap.push ib).push (i9 C s.heap.objs.size) }:=by
 have e1:(s.heap.push ib).get? s.heap.objs.size=xo ib:=bv s.heap rfl;have e2:((s.heap.push ib).push (i9 C s.heap.objs.size)).get? (s.heap.objs.size+1)=xo (i9 C s.heap.objs.size):=by
  have:=bv (s.heap.push ib) (o:=i9 C s.heap.objs.size) rfl
  rwa [io] at this
 have e3:(s.heap.push ib).Ns s.heap.objs.size (fun _=>xp):=⟨ib,#[],_,e1,rfl,(fun e he=>absurd he (by simp)),fun _=>rfl⟩;have I1:=I.laid (a:=s.heap.objs.size) (o:=.own (s.heap.objs.size+1)) (h':=s.heap.push ib) (t':=s.toks) (fun b u q=>aw _ q) (bf _) ⟨_,e1⟩;refine I1.laid (a:=s.heap.objs.size+1) (o:=.ins C s.heap.objs.size []) (t':=s.toks) (fun b u q=>aw _ q) (va (io _ _)) ?_;have ne:s.heap.objs.size≠s.heap.objs.size+1:=ci (oq _);refine⟨by rw[aG ne,aP],ia _,ne,e2,fun _=>xp,(Heap.Ns1.of_empty e3).at fun o q=>aw _ q,fun _=>im,fun y hy=>absurd rfl hy⟩
theorem Mu (hb:ij e f env (eval e env)=eval e env)
  (h:bc (model prog w) A (eval e env) (fun o s₁=>bc (model prog w) A (getAttr o f true) Q E s₁) E s):bc (model prog w) A (eval (.Attribute e f pos) env) Q E s:=
 Attribute_any_ h (by rw[arm_eval_Attribute,hb])
end
def RV (K:aa) (ta:TE) (f:Str):TE:=fun σ H Q=>ta σ H fun x H1=>∃ a C dx fs v,x=.ref a/\H1 a=xo (.ins C dx fs)/\Cls K C/\NoAttr K C f/\fs.lookup f=xo v/\Q v H1
def RZ (K:aa) (ta tv:TE) (f:Str):TS:=fun D σ H=>tv σ H fun y H1=>ta σ H1 fun x H2=>∃ a C dx fs,x=.ref a/\H2 a=xo (.ins C dx fs)/\Cls K C/\NoAttr K C f/\fs.length<1000/\
 D.nx σ (upd H2 a (.ins C dx (putF f y fs)))
section
variable {X:Cx}{o e value:bw}{f:Str}{pos pos' tpos:Pos}{ta tv:TE}
theorem NA (he:PE X e ta) (hb:ij e f X.env (eval e X.env)=eval e X.env):PE X (.Attribute e f pos) (RV X.K ta f):=by
 intro pins s σ H Q I h;refine Mu hb (thn (he pins s σ H _ I h) fun u s1 ⟨x,H1,I1,rx,a,C,dx,fs,v,ex,ea,c,n,l,q⟩=> ?_);subst ex;obtain rfl:u=ck a:=rx;exact Dt I1 ea c n l fun u' s2 I2 ru=>⟨v,H1,I2,ru,q⟩
theorem Nl (ha:PE X o ta) (hv:PE X value tv) (hs:jm value (xo (.Attribute o f pos')) pos.line X.env=pure false):PS X (.Assign [.Attribute o f pos'] value pos) (RZ X.K ta tv f):=by
 intro pins s σ H D I h;refine plainObj_wpAny_Assign_Attribute (thn (hv pins s σ H _ I h) fun u s1 ⟨y,H1,I1,ry,q⟩=>thn (ha pins s1 σ H1 _ I1 q) fun ov s2 ⟨x,H2,I2,rx,a,C,dx,fs,ex,ea,c,n,l,q2⟩=> ?_) hs;subst ex;obtain rfl:ov=ck a:=rx;exact CN I2 ea c n l ry fun s3 I3=>⟨σ,_,I3,q2⟩
end
section
variable {X:Cx}{pins:List (af×Obj)}{σ:St}{H:Hp}{s:aq}{A:dm}{E:ag->aq->Prop}{Q:ag->aq->Prop}{c:ag}{b:Bool}
end
end L2
namespace L2
structure Room (k:Nat) (A:dm):Prop where
 hd:A.handled=xp
 dp:A.depth+3*k+5<recursionLimit
 un:A.units+16*k+200<d7
theorem Room.mono (r:Room k A) (h:j<=k):Room j A:=⟨r.hd,by have:=r.dp;omega,by have:=r.un;omega⟩
theorem Room.deeper (r:Room (k+1) A) (env:Env):Room k (A.deeper env):=
 ⟨r.hd,by have:=r.dp;show A.depth+1+3*k+5<_;omega,by have:=r.un;show A.units+3+16*k+200<_;omega⟩
theorem Dd {A:dm}:(A.under (.builtin "type.__call__" ⟨.ref C::us,kw⟩)).depth=A.depth+1:=by
 first|rfl|simp[vb,Code.weight,Code.isCreation,Code.isGuard,Code.isCaller,Code.frames,vc,guardIds]
theorem Dc {A:dm}:(A.under (.builtin "type.__call__" ⟨.ref C::us,kw⟩)).units=A.units+1:=by
 first|rfl|simp[vb,Code.cUnits,Code.frames,vc]
theorem Room.make (r:Room (k+1) A) (C:af) (us:List ag) (kw:List (Str×ag)):Room k (A.under (.builtin "type.__call__" ⟨.ref C::us,kw⟩)):=
 ⟨r.hd,by have:=r.dp;rw[Dd];omega,by have:=r.un;rw[Dc];omega⟩
theorem Room.depth (r:Room k A):A.depth<recursionLimit:=by have:=r.dp;omega
theorem Room.units (r:Room k A):A.units+64<d7:=by have:=r.un;omega
def Rp:TA:=fun _ H Q=>Q [] H
def Qg (ta:TE) (tr:TA):TA:=fun σ H Q=>ta σ H fun x H1=>tr σ H1 fun xs H2=>Q (x::xs) H2
section
variable {X:Cx}{e:bw}{es:List bw}{te:TE}{t:TA}{pos:Pos}
theorem BO:PA X [] Rp:=fun _ _ _ _ H Q I h=>vt ⟨[],H,I,.nil,h⟩
theorem pK (ha:PE X e te) (hr:PA X es t) (hs:au (e::es) X.env=(false,eval e X.env)::au es X.env:=by rfl):PA X (e::es) (Qg te t):=by
 intro pos pins s σ H Q I h;rw[hs];show bc _ _ (spliced ((false,eval e X.env)::db pos (au es X.env))) _ _ s;refine vd (thn (ha pins s σ H _ I h) fun u s1 ⟨x,H1,I1,r1,q1⟩=> ?_);exact thn (hr pos pins s1 σ H1 _ I1 q1) fun us s2 ⟨xs,H2,I2,r2,q2⟩=>⟨x::xs,H2,I2,.cons r1 r2,q2⟩
def RM (t:TA):TE:=fun σ H Q=>t σ H fun xs H1=>xs.length<=sizeLine/\∀ p,H1 p=xp->Q (.ref p) (upd H1 p (.tup xs))
def RS (t:TA):TE:=fun σ H Q=>t σ H fun xs H1=>xs.length<=sizeLine/\∀ p,H1 p=xp->Q (.ref p) (upd H1 p (.lst xs))
theorem Nr (h:PA X es t):PE X (.Tuple es x1 pos) (RM t):=by
 intro pins s σ H Q I hq;refine wpAny_Tuple_spliced (thn (h pos pins s σ H _ I hq) fun us s1 ⟨xs,H1,I1,r,z,q⟩=>⟨by rw[<- r.length];exact z,?_⟩);have hf:H1 s1.heap.objs.size=xp:=I1.hok.fresh (bf _);refine⟨.ref s1.heap.objs.size,upd H1 s1.heap.objs.size (.tup xs),I1.laid (t':=s1.toks) (fun b u e=>aw _ e) (bf _) ?_,rfl,q _ hf⟩;exact⟨z,us,r,⟨_,bv _ rfl,rfl,_,rfl⟩⟩
theorem Jx (h:PA X es t):PE X (.List es pos) (RS t):=by
 intro pins s σ H Q I hq;refine wpAny_List_spliced (thn (h pos pins s σ H _ I hq) fun us s1 ⟨xs,H1,I1,r,z,q⟩=>⟨by rw[<- r.length];exact z,?_⟩);have hf:H1 s1.heap.objs.size=xp:=I1.hok.fresh (bf _);refine⟨.ref s1.heap.objs.size,upd H1 s1.heap.objs.size (.lst xs),I1.laid (t':=s1.toks) (fun b u e=>aw _ e) (bf _) ?_,rfl,q _ hf⟩;exact⟨z,us,0,r,bv _ rfl⟩
end
abbrev Sp:=List V->Hp->VK->XK->Prop
abbrev CXT:=List Env->Hp->aq->XK->ag->aq->Prop
structure Env0 (P:da) (w:dh) (K:aa) (mg:Str->Option ag) (base:c5) (A:dm) (outer:List Env) (s:aq) (H:Hp):Prop where
 frames:A.frames=xo outer
 mod:Mod K mg base
 bs:∀ b o,base.get? b=xo o->s.heap.get? b=xo o/\H b=xp
 bsz:base.objs.size<=s.heap.objs.size
 funs:s.heap.FunFrames base outer
 frf:∀ b∈frs outer,H b=xp
 hok:HOk P w H s.heap
 bare:m9 s.gens
def CE (outer:List Env) (P:da) (w:dh) (H:Hp) (s:aq) (Q:VK) (u:ag) (s':aq):Prop:=
 ∃ v H',s'.os=s.os/\m9 s'.gens/\Un (frs outer) [] H H' s.heap s'.heap/\HOk P w H' s'.heap/\RelV v u/\Q v H'
def CR (CX:CXT) (outer:List Env) (P:da) (w:dh) (H:Hp) (s:aq) (Q:VK) (E:XK) (r:Result) (s':aq):Prop:=
 match r with
 |.ok (.ret u)=>CE outer P w H s Q u s'
 |.ok _=>False
 |.error e=>CX outer H s E e s'
structure sO (P:da) (w:dh) (K:aa) (mg:Str->Option ag) (base:c5) (CX:CXT) (k:Nat) (f:af) (fd:jw) (ps:List Str) (sp:Sp):Prop where
 len:∀ vs H Q E,sp vs H Q E->vs.length=ps.length
 run:∀(A:dm) (outer:List Env) (s:aq) (H:Hp) (args:Args) (us:List ag) (vs:List V) (Q:VK) (E:XK),Room k A->Env0 P w K mg base A outer s H->t8 s fd args (ps.zip us)->Vals vs us->sp vs H Q E->
  o7 (model P w) A (.call (.ref f) args) (CR CX outer P w H s Q E) s
theorem Env0.make {K:aa} (e:Env0 P w K mg base A outer s H) (C:af) (us:List ag) (kw:List (Str×ag)):
  Env0 P w K mg base (A.under (.builtin "type.__call__" ⟨.ref C::us,kw⟩)) outer s H:=⟨by first|exact e.frames|(simpa [vb,Code.envs,vc,pushEnvs] using e.frames),e.mod,e.bs,e.bsz,e.funs,e.frf,e.hok,e.bare⟩
section
variable {X:Cx}{pins:List (af×Obj)}{σ:St}{H:Hp}{s s':aq}
theorem Inv.env0 (I:Inv X pins σ H s):Env0 X.prog X.w X.K X.mg X.base X.A X.stack s H:=
 ⟨I.ok.frames,I.ok.mod,I.bs,cf I.ok.bsz I.sz,I.stack,I.stkFree,I.hok,I.bare⟩
theorem Inv.after (I:Inv X pins σ H s) (h:CE X.stack X.prog X.w H s Q u s'):EP X pins σ Q u s':=by
 obtain⟨v,H',os,bare,un,hok,r,q⟩:=h;obtain⟨hh,g,d,t,os'⟩:=s';obtain rfl:os'=s.os:=os;exact⟨v,H',I.call (h':=hh) (g':=g) (d':=d) (t':=t) (ch:=[]) un hok bare (fun b z=>absurd z (by simp)),r,q⟩
end
def Qh (sp:Sp) (dvs:List V) (E:XK) (t:TA):TE:=fun σ H Q=>t σ H fun vs H1=>sp (vs++dvs) H1 Q E
def MP (C:af) (m:Str) (sp:Sp) (dvs:List V) (E:XK) (ta:TE) (t:TA):TE:=fun σ H Q=>ta σ H fun x H1=>∃ a dx fs,x=.ref a/\H1 a=xo (.ins C dx fs)/\fs.lookup m=xp/\
 t σ H1 fun vs H2=>sp (x::(vs++dvs)) H2 Q E
def Qb (C:af) (sp:Sp) (dvs:List V) (E:XK) (t:TA):TE:=fun σ H Q=>t σ H fun vs H1=>∀ x dx,H1 x=xp->H1 dx=xp->dx≠x->
 sp (.ref x::(vs++dvs)) (upd (upd H1 dx (.own x)) x (.ins C dx [])) (fun v H2=>v=.non/\Q (.ref x) H2) E
def Binds (K:aa) (fd:jw) (ps:List Str) (ds:List ag):Prop:=
 ∀(s:aq) (us:List ag),K.In s.heap->(us++ds).length=ps.length->t8 s fd ⟨us,[]⟩ (ps.zip (us++ds))
theorem Binds.all {K:aa} (h:∀ us:List ag,us.length=ps.length->bindArgs fd ⟨us,[]⟩=pure (ps.zip us)):Binds K fd ps []:=fun s us _ hl=>by
 rw[cu] at hl ⊢;exact .of_eq (h us hl)
def rD (CX:CXT) (X:Cx) (E:XK):Prop:=∀(pins:List (af×Obj)) (σ:St) (H:Hp) (s:aq) (e:ag) (s':aq),Inv X pins σ H s->CX X.stack H s E e s'->X.xe e s'
section
variable {X:Cx}{CX:CXT}{k:Nat}{f C:af}{fd:jw}{ps:List Str}{sp:Sp}{dvs:List V}{ds:List ag}{E:XK}{x m:Str}{p pos apos:Pos}{e o:bw}{es:List bw}{ta:TE}{t:TA}
theorem Ev (F:sO X.prog X.w X.K X.mg X.base CX k f fd ps sp) (hr:Room k X.A) (hb:Binds X.K fd ps ds) (hd:Vals dvs ds) (hx:rD CX X E)
  (I:Inv X pins σ H s) (r:Vals vs us) (h:sp (vs++dvs) H Q E):bc (model X.prog X.w) X.A (call (.ref f) us) (EP X pins σ Q) X.xe s:=by
 have r2:Vals (vs++dvs) (us++ds):=r.append hd;have hl:(us++ds).length=ps.length:=by rw[<- r2.length];exact F.len _ _ _ _ h
 refine wpAny_call (qu (F.run X.A X.stack s H ⟨us,[]⟩ (us++ds) (vs++dvs) Q E hr I.env0 (hb s us I.kIn hl) r2 h) fun r s' hq=> ?_);cases r with
 |error e=>exact hx pins σ H s e s' I hq
 |ok fl=>
  cases fl with
  |ret u=>exact I.after hq
  |next=>exact iz hq
  |brk=>exact iz hq
  |cont=>exact iz hq
theorem Kz (F:sO X.prog X.w X.K X.mg X.base CX k f fd ps sp) (hr:Room k X.A) (hg:Gl X x) (hm:X.mg x=xo (.ref f)) (hk:gu X.K (.ref f)=true) (hb:Binds X.K fd ps ds) (hd:Vals dvs ds) (hx:rD CX X E)
  (ha:PA X (e::es) t) (hdb:(x==("__debug__":Str))=false:=by decide) (he:au (e::es) X.env=(false,eval e X.env)::au es X.env:=by rfl) (hpl:(db pos (au es X.env)).any (·.1)=false:=by rfl):
  PE X (.Call (.Name x p) (e::es) [] pos) (Qh sp dvs E t):=by
 intro pins s σ H Q I h;refine jn (vH I hg hm ?_ hdb);refine p8 (h₀:=X.base) I.ok.mod.kin hk (thn (ha pos pins s σ H _ I h) fun us s1 ⟨vs,H1,I1,r,q⟩=>⟨I1.kIn,?_⟩) he hpl;exact Ev F hr hb hd hx I1 r q
theorem Kt (he:PE X o ta) (c:Cls X.K C) (hm:Js X.K C m f) (F:sO X.prog X.w X.K X.mg X.base CX k f fd ps sp) (hr:Room k X.A) (hb:Binds X.K fd ps ds) (hd:Vals dvs ds) (hx:rD CX X E) (ha:PA X (e::es) t)
  (hst:au (e::es) X.env=(false,eval e X.env)::au es X.env:=by rfl) (hpl:(db pos (au es X.env)).any (·.1)=false:=by rfl)
  (ht:eval (.Call (.Attribute o m apos) (e::es) [] pos) X.env=(do
   let ov <- eval o X.env
   ng apos.atName
   let (f,first) <- holding [ov] (mm ov m pl)
   qv pos f first (db pos (au (e::es) X.env)) (j8 pos (ir [] X.env))):=by rfl):
  PE X (.Call (.Attribute o m apos) (e::es) [] pos) (MP C m sp dvs E ta t):=by
 intro pins s σ H Q I h;refine t9 (pl:=pl) (thn (he pins s σ H _ I h) fun u s1 ⟨x,H1,I1,rx,a,dx,fs,ex,ea,l,q⟩=> ?_) ht;subst ex;obtain rfl:u=ck a:=rx;refine tS I1 ea c hm l ?_;refine p8 (first:=[.ref a]) (h₀:=X.base) I.ok.mod.kin hm.kp (thn (ha pos pins s1 σ H1 _ I1 q) fun us s2 ⟨vs,H2,I2,r,q2⟩=>⟨I2.kIn,?_⟩) hst hpl;exact Ev (us:=.ref a::us) (vs:=.ref a::vs) F hr hb hd hx I2 (.cons rfl r) q2
theorem Hw (he:PE X o ta) (c:Cls X.K C) (hm:Js X.K C m f) (F:sO X.prog X.w X.K X.mg X.base CX k f fd ps sp) (hr:Room k X.A) (hb:Binds X.K fd ps ds) (hd:Vals dvs ds) (hx:rD CX X E)
  (ht:eval (.Call (.Attribute o m apos) [] [] pos) X.env=(do
   let ov <- eval o X.env
   ng apos.atName
   let (f,first) <- holding [ov] (mm ov m pl)
   qv pos f first (db pos (au [] X.env)) (j8 pos (ir [] X.env))):=by rfl):
  PE X (.Call (.Attribute o m apos) [] [] pos) (MP C m sp dvs E ta Rp):=by
 intro pins s σ H Q I h;refine t9 (pl:=pl) (thn (he pins s σ H _ I h) fun u s1 ⟨x,H1,I1,rx,a,dx,fs,ex,ea,l,q⟩=> ?_) ht;subst ex;obtain rfl:u=ck a:=rx;refine tS I1 ea c hm l ?_;exact PySem.W.callWith_K0 (first:=[.ref a]) I1.kIn hm.kp (Ev (us:=[.ref a]) (vs:=[.ref a]) F hr hb hd hx I1 (.cons rfl .nil) q)
structure Mk (K:aa) (C f:af):Prop where
 makes:sf K C=true
 init:hZ K (.ref C) "__init__"=xo (xo (.ref f))
 fn:pd K (.ref f)=true
 kp:gu K (.ref C)=true
theorem GX (M:Mk X.K C f) (F:sO X.prog X.w X.K X.mg X.base CX k f fd ps sp) (hr:Room (k+1) X.A) (hb:Binds X.K fd ps ds) (hd:Vals dvs ds)
  (hx:rD CX X E) (I:Inv X pins σ H s) (r:Vals vs us)
  (h:∀ x dx,H x=xp->H dx=xp->dx≠x->sp (.ref x::(vs++dvs)) (upd (upd H dx (.own x)) x (.ins C dx [])) (fun v H2=>v=.non/\Q (.ref x) H2) E):
  bc (model X.prog X.w) X.A (call (.ref C) us) (EP X pins σ Q) X.xe s:=by
 have hq:=h (s.heap.objs.size+1) s.heap.objs.size (I.hok.fresh (Nat.le_succ _)) (I.hok.fresh (bf _)) (ci (oq _));have I2:=Inv.made (C:=C) I;have r2:Vals (V.ref (s.heap.objs.size+1)::(vs++dvs)) (ck (s.heap.objs.size+1)::(us++ds)):=.cons rfl (r.append hd);have hl:(ck (s.heap.objs.size+1)::us++ds).length=ps.length:=by
  have e:=r2.length;rw[F.len _ _ _ _ hq] at e;exact e.symm
 refine wpAny_call (Ib (f:=f) I.kIn M.makes M.init (beq_iff_eq.mp M.fn) (qu (F.run _ X.stack _ _ ⟨ck (s.heap.objs.size+1)::us,[]⟩ (ck (s.heap.objs.size+1)::(us++ds)) _ _ E (hr.make C us [])
  (I2.env0.make C us []) (hb _ (ck (s.heap.objs.size+1)::us) I2.kIn hl) r2 hq) fun r s' hq'=> ?_))
 cases r with
 |error e=>exact hx pins σ _ _ e s' I2 hq'
 |ok fl=>
  cases fl with
  |ret u=>
   obtain⟨v,H',I3,rv,ev,q3⟩:=I2.after hq';subst ev;exact⟨rv,⟨V.ref (s.heap.objs.size+1),H',I3,rfl,q3⟩⟩
  |next=>exact iz hq'
  |brk=>exact iz hq'
  |cont=>exact iz hq'
theorem Ku (M:Mk X.K C f) (F:sO X.prog X.w X.K X.mg X.base CX k f fd ps sp) (hr:Room (k+1) X.A) (hg:Gl X x) (hm:X.mg x=xo (.ref C)) (hb:Binds X.K fd ps ds) (hd:Vals dvs ds) (hx:rD CX X E)
  (ha:PA X (e::es) t) (hdb:(x==("__debug__":Str))=false:=by decide) (he:au (e::es) X.env=(false,eval e X.env)::au es X.env:=by rfl) (hpl:(db pos (au es X.env)).any (·.1)=false:=by rfl):
  PE X (.Call (.Name x p) (e::es) [] pos) (Qb C sp dvs E t):=by
 intro pins s σ H Q I h;refine jn (vH I hg hm ?_ hdb);refine p8 (h₀:=X.base) I.ok.mod.kin M.kp (thn (ha pos pins s σ H _ I h) fun us s1 ⟨vs,H1,I1,r,q⟩=>⟨I1.kIn,?_⟩) he hpl;exact GX M F hr hb hd hx I1 r q
end
section
variable {X:Cx}{CX:CXT}{k:Nat}{f C:af}{fd:jw}{ps ks:List Str}{sp:Sp}{E:XK}{x m:Str}{p pos apos kpos:Pos}{e o:bw}{es:List bw}{kws:List kr}{te ta:TE}{t tk:TA}{nm:Option Str}
variable {g:List ag->List ag->List ag}{gV:List V->List V->List V}
end
structure kZ (N P:List Str) (sc:kj):Prop where
 kind:sc.kind=.function
 co:sc.isCoroutine=false
 gen:sc.isGenerator=false
 nd:N.Nodup
 pre:N.take P.length=P
 par:∀ x∈P,sc.names.lookup x=xo .local∨sc.names.lookup x=xo .cell
 nofree:∀ y∈sc.names,y.2≠ .free
theorem zM {kindOf:Str->Option ic}:∀ {binds:List (Str×ag)}{m:Str->Option ag},(∀ v,(x,v)∉binds)->bindL kindOf binds m x=m x
 |[],_,_=>rfl
 |(n,v)::r,m,h=>by
  unfold bindL;rw[zM fun w hw=>h w (ai _ hw)];split
  ·have:x≠n:=by rintro rfl;exact h v ar
   simp[this]
  ·rfl
theorem zO {kindOf:Str->Option ic}:∀ {binds:List (Str×ag)}{m:Str->Option ag},(∀ v,(x,v)∉binds)->bindC kindOf binds m x=m x
 |[],_,_=>rfl
 |(n,v)::r,m,h=>by
  unfold bindC;rw[zO fun w hw=>h w (ai _ hw)];split
  ·rfl
  ·have:x≠n:=by rintro rfl;exact h v ar
   simp[this]
theorem zN {kindOf:Str->Option ic}:∀ {P:List Str}{vs:List ag}{i:Nat}{m:Str->Option ag},P.Nodup->P[i]?=xo x->vs[i]?=xo v->kindOf x=xo .local->
  bindL kindOf (P.zip vs) m x=xo v
 |[],_,_,_,_,h,_,_=>by simp at h
 |_::_,[],_,_,_,_,h,_=>by simp at h
 |p::P,w::vs,0,m,nd,h1,h2,hk=>by
  simp at h1 h2;subst h1;subst h2;show bindL kindOf ((p,w)::P.zip vs) m p=_;unfold bindL;rw[zM fun v hv=>(b8.mp nd).1 (sg hv).1,if_pos hk];simp
 |p::P,w::vs,i+1,m,nd,h1,h2,hk=>by
  show bindL kindOf ((p,w)::P.zip vs) m x=_;unfold bindL;exact zN (i:=i) (b8.mp nd).2 (by simpa using h1) (by simpa using h2) hk
theorem zP {kindOf:Str->Option ic}:∀ {P:List Str}{vs:List ag}{i:Nat}{m:Str->Option ag},P.Nodup->P[i]?=xo x->vs[i]?=xo v->kindOf x≠xo .local->
  bindC kindOf (P.zip vs) m x=xo v
 |[],_,_,_,_,h,_,_=>by simp at h
 |_::_,[],_,_,_,_,h,_=>by simp at h
 |p::P,w::vs,0,m,nd,h1,h2,hk=>by
  simp at h1 h2;subst h1;subst h2;show bindC kindOf ((p,w)::P.zip vs) m p=_;unfold bindC;rw[zO fun v hv=>(b8.mp nd).1 (sg hv).1,if_neg hk];simp
 |p::P,w::vs,i+1,m,nd,h1,h2,hk=>by
  show bindC kindOf ((p,w)::P.zip vs) m x=_;unfold bindC;exact zP (i:=i) (b8.mp nd).2 (by simpa using h1) (by simpa using h2) hk
noncomputable def start (N:List Str) (vs:List V):St:=vs.map xo++av (N.length-vs.length) xp
noncomputable def AV (CX:CXT) (P:da) (w:dh) (K:aa) (mg:Str->Option ag) (base:c5) (N:List Str) (qual:Str) (scope:kj) (f:af) (cd:ag) (A:dm) (outer:List Env) (s:aq) (H:Hp) (E:XK):Cx where
 prog:=P
 w:=w
 K:=K
 mg:=mg
 base:=base
 A:=A.deeper (jo qual scope s.heap.objs.size f cd)
 N:=N
 s₀:=s
 H₀:=H
 env:=jo qual scope s.heap.objs.size f cd
 outer:=outer
 stack:=jo qual scope s.heap.objs.size f cd::outer
 ex:=[]
 calm:=true
 fn:=fun _=>true
 pn:=[]
 xe:=fun e s'=>bc (model P w) (A.deeper (jo qual scope s.heap.objs.size f cd)) (leaving (jo qual scope s.heap.objs.size f cd) e) (fun _ s''=>CX outer H s E e s'') (fun e' s''=>CX outer H s E e' s'') s'
theorem Cv {sc:kj} (h:sc.names.lookup x=xo .cell):∃ c,(gz n sc.names []).lookup x=xo c:=by
 have q:=tf sc.names n [] (.inl h);exact mq.mp q
theorem Fu {K:aa}
  (S:kZ N ps scope) (hd:A.handled=xp) (e0:Env0 P w K mg base A outer s H) (hl:vs.length=ps.length) (r:Vals vs us)
  (x:InCallC s s.heap.objs.size (bindL (jo qual scope s.heap.objs.size f cd).kindOf (ps.zip us) fun _=>xp) (gz (s.heap.objs.size+1) scope.names []) (bindC (jo qual scope s.heap.objs.size f cd).kindOf (ps.zip us) fun _=>xp) s1):
  Inv (AV CX P w K mg base N qual scope f cd A outer s H E) [] (start N vs) H s1:=by
 have hpl:ps.length<=N.length:=by have:=congrArg lz S.pre;rw[ou] at this;omega
 obtain⟨h1,tk,rfl,hk⟩:=x.done;have noA:∀ b:af,b∉(AV CX P w K mg base N qual scope f cd A outer s H E).ex:=fun b z=>absurd (show b∈([]:List af) from z) (by simp);refine⟨⟨e0.mod,S.kind,rfl,rfl,bf _,fun y z c h1 h2=> ?_,fun y hy=> ?_,fun y c _ h=> ?_,fun _=>hd,Around.frames_deeper e0.frames,.inr ⟨rfl,rfl⟩,fun b z=>absurd z (noA b),e0.bs,e0.bsz,fun b _ _=>noA b,fun b z=>absurd z (noA b),e0.funs,e0.frf⟩,
  rfl,e0.bare,Un.kept hk,⟨_,x.toInCall.ns,fun i y v h1 h2 h3=> ?_⟩,fun y c h=>⟨_,x.cell y c h⟩,e0.hok.fresh (bf _),fun y c h=> ?_,fun p hp=>absurd (show p∈([]:List (af×Obj)) from hp) (by simp),e0.hok.kept hk,?_⟩
 ·exact name_of_addr x.apart (gk h1) (gk h2)
 ·have hy:scope.names.lookup y=xo .cell∨scope.names.lookup y=xo .free:=hy;rcases hy with hy|hy
  ·exact Cv hy
  ·exact absurd rfl (S.nofree _ (gk hy))
 ·exact g9 (x.above y c (gk h))
 ·have hi:i<vs.length:=by
   unfold start at h2
   by_cases hi:i<vs.length
   ·exact hi
   ·rw[de (by simpa using hi)] at h2;rw[fe] at h2;split at h2 <;> cases h2
  have ha:vs[i]?=xo v:=by
   unfold start at h2;rw[am (by simpa using hi),ay] at h2;cases e:vs[i]? with
   |none=>rw[e] at h2;cases h2
   |some a=>rw[e] at h2;cases h2;rfl
  obtain⟨u,hu,rv⟩:=r.get ha;have hp:ps[i]?=xo y:=by
   rw[<- S.pre,List.getElem?_take_of_lt (by omega)];exact h1
  have ndP:ps.Nodup:=by rw[<- S.pre];exact S.nd.sublist (List.take_sublist _ _)
  refine⟨u,rv,?_⟩;rcases S.par y (f9 hp) with k|k
  ·exact .inl ⟨k,zN ndP hp hu k⟩
  ·obtain⟨c,e⟩:=Cv (n:=s.heap.objs.size+1) k;refine .inr ⟨.inl k,c,e,?_⟩;have q:=x.cell y c e;rw[zP ndP hp hu (by show scope.names.lookup y≠_;rw[k];decide)] at q;exact q
 ·exact e0.hok.fresh (g9 (x.above y c (gk h)))
 ·unfold start;show _=N.length;rw[bx,ak,ju];omega
theorem QW {K:aa}{dV kV doc pm cdv ct oc:ag}
    (lk:K.lookup f=xo ⟨oc,od,.func (iu name qual params body scope dV kV doc pm an cdv ct),osl⟩) (hcd:j5 K cdv qual=true) (S:kZ N ps scope)
  (len:∀ vs H Q E,sp vs H Q E->vs.length=ps.length)
  (hbody:∀(A:dm) (outer:List Env) (s:aq) (H:Hp) (vs:List V) (Q:VK) (E:XK),Room k (A.deeper (jo qual scope s.heap.objs.size f cdv))->sp vs H Q E->
   ∃ t,PSs (AV CX P w K mg base N qual scope f cdv A outer s H E) body t/\t { nx:=fun _ H'=>Q .non H',rt:=Q } (start N vs) H):
  sO P w K mg base CX (k+1) f (iu name qual params body scope dV kV doc pm an cdv ct) ps sp:=by
 refine⟨len,fun A outer s H args us vs Q E hr e0 hb r hsp=> ?_⟩;have hl:=len _ _ _ _ hsp;have KX:K.In s.heap:=e0.mod.kin.keeps fun b o e=>(e0.bs b o e).1;have lim:s.heap.NoLimit:=e0.mod.nolimit.keeps fun b o e=>(e0.bs b o e).1;have hkind:∀ y∈ps.zip us,scope.names.lookup y.1=xo .local∨(scope.names.lookup y.1=xo .cell/\((gz (s.heap.objs.size+1) scope.names []).lookup y.1).isSome=true):=fun⟨n,v⟩ hy=>by
  rcases S.par n (sg hy).1 with q|q
  ·exact .inl q
  ·exact .inr ⟨q,tf _ _ _ (.inl q)⟩
 refine codeAny_call_function hr.depth (KX _ _ lk) rfl S.co S.gen rfl (PySem.W.codeRec_of KX hcd) (hb _ _ _ _ ?_);refine wpAny_newFunctionEnv_cells S.kind hkind fun env he s1 x=> ?_;subst he;refine⟨lim.keeps x.toInCall.keep,codeAny_func ?_⟩;obtain⟨t,ht,hq⟩:=hbody A outer s H vs Q E (hr.deeper _) hsp;have I:Inv (AV CX P w K mg base N qual scope f cdv A outer s H E) [] (start N vs) H s1:=Fu S hr.hd e0 hl r x;refine g8 (ht [] s1 (start N vs) H _ I hq) (fun fl s' hs=> ?_) fun e s' hs=>hs;have fin:∀ {σ':St}{H':Hp}{v:V}{u:ag},Inv (AV CX P w K mg base N qual scope f cdv A outer s H E) [] σ' H' s'->RelV v u->Q v H'->CE outer P w H s Q u s':=
  fun {σ' H' v u} J rv q=>⟨v,H',J.os,J.bare,J.base,J.hok,rv,q⟩
 cases fl with
 |ret u=>
  obtain⟨v,σ',H',J,rv,q⟩:=hs;exact fin J rv q
 |next=>
  obtain⟨σ',H',J,q⟩:=hs;exact fin (v:=V.non) (u:=ik) J rfl q
 |brk=>
  obtain⟨_,_,_,q⟩:=hs;exact iz q
 |cont=>
  obtain⟨_,_,_,q⟩:=hs;exact iz q
end L2
namespace L2
section
variable {X:Cx}{x:Str}{p pos:Pos}{e:bw}{es:List bw}{t:TA}{id T:String}{r:List V->Hp->VK->Prop}
def tCB (r:List V->Hp->VK->Prop) (t:TA):TE:=fun σ H Q=>t σ H fun vs H1=>r vs H1 Q
theorem uW (hc:CallR X (.builtin id) r) (hg:Gl X x) (hm:X.mg x=xp) (hv:dc x=xo (.builtin id)) (ha:PA X (e::es) t) (hn:x≠"__name__":=by decide) (hdb:(x==("__debug__":Str))=false:=by decide)
  (he:au (e::es) X.env=(false,eval e X.env)::au es X.env:=by rfl) (hpl:(db pos (au es X.env)).any (·.1)=false:=by rfl):PE X (.Call (.Name x p) (e::es) [] pos) (tCB r t):=by
 intro pins s σ H Q I h;refine jn (mZ I hg hm hv ?_ hn hdb);exact PyProof.Rows.callWith_builtin1 (thn (ha pos pins s σ H _ I h) fun us s1 ⟨vs,H1,I1,r1,q1⟩=>hc pins s1 σ H1 vs us Q I1 r1 q1) he hpl
theorem EJ (hc:CallR X (.type T) r) (hg:Gl X x) (hm:X.mg x=xp) (hv:dc x=xo (.type T)) (ha:PA X (e::es) t) (hn:x≠"__name__":=by decide) (hdb:(x==("__debug__":Str))=false:=by decide)
  (he:au (e::es) X.env=(false,eval e X.env)::au es X.env:=by rfl) (hpl:(db pos (au es X.env)).any (·.1)=false:=by rfl):PE X (.Call (.Name x p) (e::es) [] pos) (tCB r t):=by
 intro pins s σ H Q I h;refine jn (mZ I hg hm hv ?_ hn hdb);exact gx (thn (ha pos pins s σ H _ I h) fun us s1 ⟨vs,H1,I1,r1,q1⟩=>hc pins s1 σ H1 vs us Q I1 r1 q1) he hpl
end
end L2
namespace HT
open PySem PyProof.Rows
noncomputable def lexLt:List Int->List Int->Bool
 |[],[]=>false
 |[],_::_=>true
 |_::_,[]=>false
 |x::xs,y::ys=>if x=y then lexLt xs ys else decide (x<y)
theorem De (x y:Int) (xs ys:List Int):lexLt (x::xs) (y::ys)=if x=y then lexLt xs ys else decide (x<y):=rfl
theorem vG:lexLt [] []=false:=rfl
theorem rV (y:Int) (ys:List Int):lexLt [] (y::ys)=true:=rfl
theorem rW (x:Int) (xs:List Int):lexLt (x::xs) []=false:=rfl
theorem IR (A:dm) (s:aq) (a:Int) (t:Tok) (c:Int) (u:Tok):∃ e,wo A s (.int a t) (.int c u) e/\(e=true↔a=c):=
 ⟨(a==c),SeqAt.EqAt.int_int a t c u,by simp⟩
theorem Hi (A:dm) (s:aq) (a:Int) (t:Tok) (c:Int) (u:Tok) (prog:da) (w:dh) (E:ag->aq->Prop) (Q:ag->aq->Prop) (h:Q (.bool (decide (a<c))) s):
  bc (model prog w) A (richCompare .Lt (.int a t) (.int c u)) Q E s:=
 (wn h:bc (model prog w) A (fw .Lt (.int a t) (.int c u)) Q E s)
section
open PySem.SeqAt
open PySem.AutoSeq1 (wpAny_loadPart')
open PySem.MeetsSeq PySem.MeetsSeq2 PySem.MeetsSeq3
theorem uM (l b:af) (items items2:Array ag) (n n2:Nat) (dd dd2:Option af) (sl sl2:Array (Option ag)) (ns ms:List Int) (hi:kt items.toList ns) (hj:kt items2.toList ms):
  Meets (Builtin.«tuple.__lt__» ⟨[.ref l,.ref b],[]⟩)
   (fun _ R s=>s.heap.get? l=xo { cls:=.type "tuple",dict:=dd,data:=.seq items n,slots:=sl }/\s.heap.get? b=xo { cls:=.type "tuple",dict:=dd2,data:=.seq items2 n2,slots:=sl2 }/\
    R (.ok (.ret (.bool (lexLt ns ms)))) s):=
 .of_wp fun prog w A R s h=>by
  obtain⟨hp,g,d,tk,os⟩:=s;obtain⟨hl,hb,h⟩:=h;have f2:=AutoSeq1.sub_tuple_tuple;have z1:items.size=ns.length:=by rw[<- hi.length];simp
  have z2:items2.size=ms.length:=by rw[<- hj.length];simp
  wp_walk using wpAny_loadPart' hl,wpAny_loadPart' hb,qw _ (fun rest b s'=>b.1=xp/\s'=⟨hp,g,d,tk,os⟩/\∃(vs ws:List ag) (ns' ms':List Int),rest=vs.zip ws/\
   kt vs ns'/\kt ws ms'/\ns'.length+items2.size=ms'.length+items.size/\R (.ok (.ret (.bool (lexLt ns' ms')))) ⟨hp,g,d,tk,os⟩) _
  case turn=>
   rintro⟨y,x⟩ rest b s' ⟨hb',rfl,vs,ws,ns',ms',hz,hvi,hwi,hlen,hR⟩
   cases hvi with
   |nil=>rw[List.zip_nil_left] at hz;cases hz
   |cons a t hvi'=>
    cases hwi with
    |nil=>rw[List.zip_nil_right] at hz;cases hz
    |cons c u hwi'=>
     rw[mr] at hz;injection hz with hyx hrest
     injection hyx with hy hx
     subst hy hx;rw[De] at hR;simp only[b4] at hlen;obtain⟨e,he,hiff⟩:=IR A.in1 ⟨hp,g,d,tk,os⟩ a t c u;refine ae (he prog w _ _ ?_);cases e with
     |true=>
      rw[if_pos (hiff.mp rfl)] at hR
      wp_walk
      exact⟨rfl,rfl,_,_,_,_,hrest,hvi',hwi',by omega,hR⟩
     |false=>
      rw[if_neg (fun q=>absurd (hiff.mpr q) cg)] at hR;have hri:=Hi A.in1 ⟨hp,g,d,tk,os⟩ a t c u prog w
      wp_walk using hri
      exact⟨_,rfl,by simpa using hR⟩
  case fin=>
   rintro⟨b1,b2⟩ s' ⟨hb',rfl,vs,ws,ns',ms',hz,hvi,hwi,hlen,hR⟩
   simp only at hb';subst hb';have hv:lexLt ns' ms'=decide (items.size<items2.size):=by
    cases hvi with
    |nil=>
     cases hwi with
     |nil=>
      simp only[ku] at hlen;rw[vG];exact(decide_eq_false (by omega)).symm
     |cons c u hw=>
      simp only[ku,b4] at hlen;rw[rV];exact(decide_eq_true (by omega)).symm
    |cons a t hv=>
     cases hwi with
     |nil=>
      simp only[ku,b4] at hlen;rw[rW];exact(decide_eq_false (by omega)).symm
     |cons c u hw=>
      rw[mr] at hz;cases hz
   rw[hv] at hR
   wp_walk
   exact⟨_,rfl,by simpa [Builtin.Tuple.tupleCompareSizes] using hR⟩
  case h=>
   exact⟨rfl,rfl,items.toList,items2.toList,ns,ms,rfl,hi,hj,by omega,h⟩
end
section
variable {prog:da}{w:dh}{A:dm}{E:ag->aq->Prop}{s:aq}
theorem lt_tupInts (hl:IsTup s.heap l items) (hb:IsTup s.heap b items2) (hi:kt items.toList ns) (hj:kt items2.toList ms)
  (hu:A.units<d7) (h:Q (.bool (lexLt ns ms)) s):bc (model prog w) A (fw .Lt (.ref l) (.ref b)) Q E s:=by
 obtain⟨⟨cls,dd,data,sl⟩,ho,hc,n,hd⟩:=id hl;obtain⟨⟨cls2,dd2,data2,sl2⟩,ho2,hc2,n2,hd2⟩:=id hb;simp only at hc hd hc2 hd2;subst hc hd hc2 hd2;exact richCompare_meets_room (op:=.Lt) ⟨_,ho,rfl⟩ ⟨_,ho2,rfl⟩ PySem.F.slot_tuple_lt PySem.F.entry_tuple_lt (PySem.F.args_tuple_lt_2 _ _) (uM l b items items2 n n2 dd dd2 sl sl2 ns ms hi hj)
  ⟨ho,ho2,show uj (lexLt ns ms)≠Value.notImplemented/\Q (.bool (lexLt ns ms)) s from⟨(fun x=>nomatch x),h⟩⟩ hu
theorem cat_tup (ht:IsTup s.heap t vs.toArray) (hb:IsTup s.heap b ws.toArray) (hv:vs≠[])
  (h1:ws=[]->Q (.ref t) s) (h2:ws≠[]->Q (.ref s.heap.objs.size) { s with heap:=s.heap.push { cls:=.type "tuple",data:=.seq (vs++ws).toArray } })
  (hsz:vs.length+ws.length<=sizeLine):bc (model prog w) A (j7 .Add (.ref t) (.ref b)) Q E s:=by
 obtain⟨⟨cls,dd,data,sl⟩,ho,hc,n,hd⟩:=id ht;obtain⟨⟨cls2,dd2,data2,sl2⟩,ho2,hc2,n2,hd2⟩:=id hb;simp only at hc hd hc2 hd2;subst hc hd hc2 hd2;have e:vs.toArray++ws.toArray=(vs++ws).toArray:=by simp
 by_cases hw:ws=[]
 ·exact concat_meets ⟨_,ho,rfl⟩ ⟨_,ho2,rfl⟩ noFill_tuple_add seq_tuple_add tj rn (qx _ _)
   (tuple_addW1 t b vs.toArray ws.toArray n n2 dd dd2 sl sl2 (by simpa using hv) (by simp[hw])) ⟨ho,ho2,h1 hw⟩
 ·refine concat_meets ⟨_,ho,rfl⟩ ⟨_,ho2,rfl⟩ noFill_tuple_add seq_tuple_add tj rn (qx _ _)
   (tuple_addW2 t b vs.toArray ws.toArray n n2 dd dd2 sl sl2 (by simpa using hv) (by simpa using hw) (by rw[bi,bi];exact hsz)) ⟨ho,ho2,?_⟩
  rw[e];exact h2 hw
noncomputable def sIx (n d:Nat):Option Int->Nat
 |none=>d
 |some v=>if v<0 then(v+(n:Int)).toNat else min v.toNat n
theorem sIx_nat (n d k:Nat):sIx n d (xo (k:Int))=min k n:=by
 show(if(k:Int)<0 then((k:Int)+(n:Int)).toNat else min (k:Int).toNat n)=min k n
 rw[if_neg (by omega),cy]
theorem MW (n d:Nat) (hd:d<=n) (o:Option Int):sIx n d o<=n:=by
 cases o with
 |none=>exact hd
 |some v=>
  show(if v<0 then(v+(n:Int)).toNat else min v.toNat n)<=n
  by_cases hv:v<0
  ·rw[if_pos hv];omega
  ·rw[if_neg hv];exact Nat.min_le_right _ _
theorem Go (v:Int) (n d:Nat):(if v<0 then max (v+(n:Int)) 0 else min v (n:Int))=((sIx n d (xo v):Nat):Int):=by
 show(if v<0 then max (v+(n:Int)) 0 else min v (n:Int))=(((if v<0 then(v+(n:Int)).toNat else min v.toNat n):Nat):Int)
 by_cases hv:v<0
 ·simp only[if_pos hv];omega
 ·simp only[if_neg hv];omega
theorem DN (lo hi:Option Int) (n:Nat):ma lo hi 1 (n:Int)=(((sIx n 0 lo:Nat):Int),((sIx n n hi:Nat):Int)):=by
 have h1:¬((1:Int)<0):=by omega
 unfold ma;simp only[h1,if_false];refine Prod.ext ?_ ?_
 ·cases lo with
  |none=>rfl
  |some v=>exact Go v n 0
 ·cases hi with
  |none=>rfl
  |some v=>exact Go v n n
theorem CT (i j:Nat):jz (i:Int) (j:Int) 1=j-i:=by
 unfold jz;have h1:(1:Int)>0:=by omega
 simp only[h1,if_true,Int.ediv_one];split <;> omega
theorem sT (p:qy v o) (h:Q o s):bc (model prog w) A (Builtin.Slice.slicePartIndex v) Q E s:=by
 cases p with
 |none=>exact slicePart_none h
 |int i t=>exact slicePart_int h
theorem nH {lo hi:Option Int}{Q:Int×Int×Nat->aq->Prop} (hs:s.heap.IsSliceOf sl vl vu .none) (pl:qy vl lo) (pu:qy vu hi)
  (h:Q (((sIx n 0 lo:Nat):Int),1,sIx n n hi-sIx n 0 lo) s):bc (model prog w) A (qe (.ref sl) (pure (n:Int))) Q E s:=by
 obtain⟨os,hos,hcs,hds⟩:=id hs;unfold qe Builtin.Slice.sliceFields;refine ae (ae (tm hos hds (x:=vl) rfl (ae (tm hos hds (x:=vu) rfl (ae (tm hos hds (x:=.none) rfl (ao ?_)))))));refine ae (slicePart_none ?_);show bc _ _ (if((1:Int)==0)=true then _ else _) _ _ s;rw[if_neg (by decide)];refine ae (sT pl (ae (sT pu (ae (ao ?_)))));show bc _ _ (match ma lo hi 1 (n:Int) with|(lo,hi)=>pure (lo,(1:Int),jz lo hi 1)) _ _ s;rw[DN lo hi n];show bc _ _ (pure (((sIx n 0 lo:Nat):Int),(1:Int),jz ((sIx n 0 lo:Nat):Int) ((sIx n n hi:Nat):Int) 1)) _ _ s;rw[CT];exact ao h
theorem Hu (xs:Array ag) (i k:Nat):((bp k).filterMap fun(m:Nat)=>xs[((i:Int)+(m:Int)*1).toNat]?).toArray=((xs.toList.drop i).take k).toArray:=by
 have e:(fun(m:Nat)=>xs[((i:Int)+(m:Int)*1).toNat]?)=fun m=>xs[i+m]?:=by
  funext m
  have:((i:Int)+(m:Int)*1).toNat=i+m:=by omega
  rw[this]
 rw[e]
 have:=pick_run xs i k
 rw[List.filterMap_map] at this;have e2:((fun x=>xs[x]?)∘fun x=>i+x)=fun m=>xs[i+m]?:=rfl;rw[e2] at this;rw[this]
theorem getItem_tuple_cut {lo hi:Option Int} (ht:IsTup s.heap t items) (hs:s.heap.IsSliceOf sl vl vu .none) (pl:qy vl lo) (pu:qy vu hi)
  (hw:¬(sIx items.size 0 lo=0/\sIx items.size items.size hi=items.size))
  (h:Q (.ref s.heap.objs.size) { s with heap:=s.heap.push { cls:=.type "tuple",data:=.seq ((items.toList.drop (sIx items.size 0 lo)).take (sIx items.size items.size hi-sIx items.size 0 lo)).toArray } })
  (hsz:items.size<=sizeLine):bc (model prog w) A (pp (.ref t) (.ref sl)) Q E s:=by
 have htake:sizeOk (.seq ((items.toList.drop (sIx items.size 0 lo)).take (sIx items.size items.size hi-sIx items.size 0 lo)).toArray):=by
  show((items.toList.drop (sIx items.size 0 lo)).take (sIx items.size items.size hi-sIx items.size 0 lo)).toArray.size<=sizeLine
  rw[bi,ou,we,d9];omega
 have hj:sIx items.size items.size hi<=items.size:=MW _ _ (bf _) hi;obtain⟨os,hos,hcs,hds⟩:=id hs;have hTs:s.TypeIs (.ref sl) "slice":=⟨os,hos,hcs⟩;unfold pp
 try with_reducible refine ii ?_
 first|refine ae (ao ?_)|skip
 refine ae (wpAny_sequenceKey ht.typeIs (by decide) ?_);refine ae (jh (name:=ji "__getitem__") ht.typeIs jk
  (ig jk ht.typeIs entry_tuple_getitem ?_ (args_tuple_getitem _ _)))
 show bc _ _ (Builtin.Tuple.tupleItemsOf (.ref t) >>= _) _ _ s;refine ae (tupleItemsOf_ ht ?_);refine ae (wpAny_typeOf hTs ?_);rw[if_pos (by decide)];refine ae (nH hs pl pu ?_);have hno:¬((((sIx items.size 0 lo:Nat):Int)==0&&(1:Int)==1&&(sIx items.size items.size hi-sIx items.size 0 lo)==items.size)=true):=by
  intro q;rw[br,br] at q;have q1:((sIx items.size 0 lo:Nat):Int)=0:=eq_of_beq q.1.1;have q2:sIx items.size items.size hi-sIx items.size 0 lo=items.size:=eq_of_beq q.2;exact hw ⟨by omega,by omega⟩
 show bc _ _ (if(((sIx items.size 0 lo:Nat):Int)==0&&(1:Int)==1&&(sIx items.size items.size hi-sIx items.size 0 lo)==items.size)=true then _ else _) _ _ s;rw[if_neg hno,Hu]
 first
  |exact ae (m:=j9 _) (ff (ao ⟨_,rfl,ao h⟩) htake)
  |exact ae (m:=j9 _) (ff (ae (ao (ao ⟨_,rfl,ao h⟩))) htake)
  |exact ae (ae (m:=j9 _) (ff (ao (ao ⟨_,rfl,ao h⟩)) htake))
  |exact ae (ae (m:=j9 _) (ff (ao ⟨_,rfl,ao h⟩) htake))
end
end HT
namespace L2
abbrev TO:=St->Hp->(Option Int->Hp->Prop)->Prop
def PO (X:Cx) (e:Option bw) (t:TO):Prop:=
 ∀(pins:List (af×Obj)) (s:aq) (σ:St) (H:Hp) (Q:Option Int->Hp->Prop),Inv X pins σ H s->t σ H Q->
  bc (model X.prog X.w) X.A (evalPart e X.env) (fun u s'=>∃ o H',Inv X pins σ H' s'/\qy u o/\Q o H') X.xe s
noncomputable def JW:TO:=fun _ H Q=>Q xp H
noncomputable def PY (t:TE):TO:=fun σ H Q=>t σ H fun x H1=>∃ i,x=.int i/\Q (xo i) H1
theorem Do:∀ {us:List ag},Vals (ns.map V.int) us->kt us ns:=by
 induction ns with
 |nil=>intro us r;rw[k9] at r;cases r;exact .nil
 |cons n ns ih=>
  intro us r;rw[bg] at r;cases r with
  |cons r1 r2=>
   obtain⟨t,e⟩:=r1;subst e;exact .cons n t (ih r2)
section
variable {X:Cx}{e:bw}{te:TE}{lo hi:Option bw}{tl th:TO}{pos p2:Pos}
theorem Kp:PO X xp JW:=by
 intro pins s σ H Q I h;rw[evalPart_none];exact ao ⟨xp,H,I,.none,h⟩
theorem Ko (h:PE X e te):PO X (xo e) (PY te):=by
 intro pins s σ H Q I hw;rw[evalPart_some];refine thn (h pins s σ H _ I hw) fun u s1 ⟨x,H1,I1,r1,q1⟩=> ?_;obtain⟨i,rfl,q⟩:=q1;obtain⟨t,rfl⟩:=r1;exact⟨xo i,H1,I1,.int i t,q⟩
def SlR (X:Cx) (r:V->Option Int->Option Int->Hp->VK->Prop):Prop:=
 ∀(pins:List (af×Obj)) (s:aq) (σ:St) (H:Hp) (x:V) (v vl vu:ag) (lo hi:Option Int) (sl:af) (Q:VK),Inv X pins σ H s->RelV x v->s.heap.IsSliceOf sl vl vu .none->qy vl lo->qy vu hi->r x lo hi H Q->
  ∃ T id,ql (.type T) "__getitem__"=pure (xo (.builtin id))/\s.TypeIs v T/\bc (model X.prog X.w) X.A (pp v (.ref sl)) (EP X pins σ Q) X.xe s
theorem SlR.or (h:SlR X r) (h':SlR X r'):SlR X (fun x lo hi H Q=>r x lo hi H Q∨r' x lo hi H Q):=by
 intro pins s σ H x v vl vu lo hi sl Q I rx hs pl pu q;rcases q with q|q
 ·exact h pins s σ H x v vl vu lo hi sl Q I rx hs pl pu q
 ·exact h' pins s σ H x v vl vu lo hi sl Q I rx hs pl pu q
def tSl (r:V->Option Int->Option Int->Hp->VK->Prop) (te:TE) (tl th:TO):TE:=fun σ H Q=>te σ H fun x H1=>tl σ H1 fun l H2=>th σ H2 fun u H3=>r x l u H3 Q
theorem Hv (hr:SlR X r) (he:PE X e te) (hl:PO X lo tl) (hu:PO X hi th):PE X (.Subscript e (.Slice lo hi xp p2) pos) (tSl r te tl th):=by
 intro pins s σ H Q I h;refine Subscript_ (thn (he pins s σ H _ I h) fun v s1 ⟨x,H1,I1,r1,q1⟩=> ?_);refine wpAny_Slice (thn (hl pins s1 σ H1 _ I1 q1) fun vl s2 ⟨l,H2,I2,pl,q2⟩=>thn (hu pins s2 σ H2 _ I2 q2) fun vu s3 ⟨u,H3,I3,pu,q3⟩=> ?_);rw[evalPart_none];refine ao ?_;have I4:Inv X pins σ H3 { s3 with heap:=s3.heap.push { cls:=.type "slice",data:=.fields #[vl,vu,.none] } }:=I3.kept (t':=s3.toks) fun b ob q=>aw _ q;obtain⟨T,id,hT,ht,hg⟩:=hr pins { s3 with heap:=s3.heap.push { cls:=.type "slice",data:=.fields #[vl,vu,.none] } } σ H3 x v vl vu l u s3.heap.objs.size Q I4 r1 (Heap.IsSliceOf.new ..) pl pu q3;show bc (model X.prog X.w) X.A (uv e (.Slice lo hi xp p2) v (.ref s3.heap.objs.size)) (EP X pins σ Q) X.xe { s3 with heap:=s3.heap.push { cls:=.type "slice",data:=.fields #[vl,vu,.none] } };exact tail_any (ops:=[.ref s3.heap.objs.size,v]) ht hT hg (by with_unfolding_all rfl)
noncomputable def JP (xs:List V) (lo hi:Option Int):List V:=(xs.drop (HT.sIx xs.length 0 lo)).take (HT.sIx xs.length xs.length hi-HT.sIx xs.length 0 lo)
theorem qW (xs:List V) (lo hi:Option Int):(JP xs lo hi).length<=xs.length:=by
 unfold JP;rw[ou,we];omega
def Sa (K:aa):V->Option Int->Option Int->Hp->VK->Prop:=fun x lo hi H Q=>∃ a xs,x=.ref a/\SqT K H a xs/\
 ¬(HT.sIx xs.length 0 lo=0/\HT.sIx xs.length xs.length hi=xs.length)/\∀ p,H p=xp->Q (.ref p) (upd H p (.tup (JP xs lo hi)))
theorem MU:SlR X (Sa X.K):=by
 intro pins s σ H x v vl vu lo hi sl Q I rx hs pl pu h;obtain⟨a,xs,rfl,hx,hw,q⟩:=h;cases rx;obtain⟨its,r,ht,hz⟩:=I.tuple hx;have hlen:its.toArray.size=xs.length:=by rw[bi];exact r.length.symm
 refine⟨"tuple",_,jk.lookup,ht.typeIs,?_⟩;refine HT.getItem_tuple_cut ht hs pl pu (by rw[hlen];exact hw) ?_ (by rw[hlen];exact hz);rw[hlen];refine⟨.ref s.heap.objs.size,_,I.laid (t':=s.toks) (o:=.tup (JP xs lo hi)) (fun b ob q=>aw _ q) (bf _) ?_,rfl,q _ (I.hok.fresh (bf _))⟩;exact⟨cf (qW xs lo hi) hz,_,(r.drop (HT.sIx xs.length 0 lo)).take (HT.sIx xs.length xs.length hi-HT.sIx xs.length 0 lo),xg _ _⟩
noncomputable def Qq (K:aa):R2:=fun x y H Q=>∃ a b xs ys,x=.ref a/\y=.ref b/\SqT K H a xs/\SqT K H b ys/\xs≠[]/\xs.length+ys.length<=sizeLine/\
 (ys=[]->Q (.ref a) H)/\(ys≠[]->∀ p,H p=xp->Q (.ref p) (upd H p (.tup (xs++ys))))
theorem Vals.nil_iff (r:Vals xs us):us=[]↔xs=[]:=by
 cases r with
 |nil=>simp
 |cons _ _=>simp
theorem KR:OpR X (j7 .Add) (Qq X.K):=by
 intro pins s σ H x y v u Q I rx ry h;obtain⟨a,b,xs,ys,rfl,rfl,ha,hb,hx,hz,q1,q2⟩:=h;cases rx;cases ry;obtain⟨its,r1,p1,_⟩:=I.tuple ha;obtain⟨its2,r2,p2,_⟩:=I.tuple hb;refine HT.cat_tup p1 p2 (fun z=>hx (r1.nil_iff.mp z)) (fun z=>⟨.ref a,H,I,rfl,q1 (r2.nil_iff.mp z)⟩) (fun z=> ?_) (by rw[<- r1.length,<- r2.length];exact hz);refine⟨.ref s.heap.objs.size,_,I.laid (t':=s.toks) (o:=.tup (xs++ys)) (fun b ob q=>aw _ q) (bf _) ?_,rfl,q2 (fun w=>z (r2.nil_iff.mpr w)) _ (I.hok.fresh (bf _))⟩;exact⟨by rw[bx];exact hz,_,r1.append r2,xg _ _⟩
end
end L2
namespace L2
noncomputable def ixN (n:Nat) (i:Int):Option Nat:=if 0<=i then(if i<n then xo i.toNat else xp) else if -(n:Int)<=i then xo (i+n).toNat else xp
noncomputable def atI {α:Type} (xs:List α) (i:Int):Option α:=(ixN xs.length i).bind fun j=>xs[j]?
theorem Fq (h:ixN n i=xo j):seqIndex? i n=xo j/\j<n/\ -(n:Int)<=i/\i<n:=by
 unfold ixN at h
 by_cases h0:0<=i
 ·rw[if_pos h0] at h
  by_cases h1:i<n
  ·rw[if_pos h1] at h;have e:i.toNat=j:=b3 h;exact⟨by rw[wc h0 h1,e],by omega,by omega,h1⟩
  ·rw[if_neg h1] at h;cases h
 ·rw[if_neg h0] at h
  by_cases h1: -(n:Int)<=i
  ·rw[if_pos h1] at h;have e:(i+n).toNat=j:=b3 h;exact⟨by rw[ve (by omega) h1,e],by omega,h1,by omega⟩
  ·rw[if_neg h1] at h;cases h
theorem AY {v:α} (h:atI xs i=xo v):∃ j,seqIndex? i xs.length=xo j/\xs[j]?=xo v/\j<xs.length/\ -(xs.length:Int)<=i/\i<xs.length:=by
 unfold atI at h;cases e:ixN xs.length i with
 |none=>rw[e] at h;cases h
 |some j=>
  rw[e] at h;obtain⟨h1,h2,h3,h4⟩:=Fq e;exact⟨j,h1,h,h2,h3,h4⟩
def GD (b:bw):Prop:=∀ o i,subscripted b false o i=operate [o,i] (pp o i)
def IxR (X:Cx) (r:R2):Prop:=
 ∀(value slice:bw) (pins:List (af×Obj)) (s:aq) (σ:St) (H:Hp) (x y:V) (v u:ag) (Q:VK),Inv X pins σ H s->RelV x v->RelV y u->r x y H Q->
  subscripted slice false v u=operate [v,u] (pp v u)->bc (model X.prog X.w) X.A (uv value slice v u) (EP X pins σ Q) X.xe s
def MtR (X:Cx) (id:String) (r:V->List V->Hp->VK->Prop):Prop:=
 ∀(pins:List (af×Obj)) (s:aq) (σ:St) (H:Hp) (x:V) (xs:List V) (v:ag) (us:List ag) (Q:VK),Inv X pins σ H s->RelV x v->Vals xs us->r x xs H Q->
  bc (model X.prog X.w) X.A (call (.builtin id) (v::us)) (EP X pins σ Q) X.xe s
section
variable {X:Cx}{a b:bw}{ta tb:TE}{pos:Pos}
theorem IxR.or (h:IxR X r) (h':IxR X r'):IxR X (fun x y H Q=>r x y H Q∨r' x y H Q):=by
 intro value slice pins s σ H x y v u Q I rx ry q hs;rcases q with q|q
 ·exact h value slice pins s σ H x y v u Q I rx ry q hs
 ·exact h' value slice pins s σ H x y v u Q I rx ry q hs
theorem Qv (hr:IxR X r) (ha:PE X a ta) (hb:PE X b tb) (hs:GD b):PE X (.Subscript a b pos) (tOp r ta tb):=by
 intro pins s σ H Q I h;exact Subscript_ (Re ha hb I h fun v u s2 x y H2 I2 rx ry q=>hr a b pins s2 σ H2 x y v u Q I2 rx ry q (hs _ _))
noncomputable def Rx (K:aa):R2:=fun x y H Q=>∃ p xs i v,x=.ref p/\y=.int i/\SqL K H p xs/\atI xs i=xo v/\Q v H
noncomputable def Rv (K:aa):R2:=fun x y H Q=>∃ p xs i v,x=.ref p/\y=.int i/\SqT K H p xs/\atI xs i=xo v/\Q v H
noncomputable def Rw:R2:=fun x y H Q=>∃ z i c,x=.str z/\y=.int i/\z.length<=sizeLine/\atI z.cps.toList i=xo c/\Q (.str ⟨#[c]⟩) H
theorem ix_list:IxR X (Rx X.K):=by
 intro value slice pins s σ H x y v u Q I rx ry h hs;obtain⟨p,xs,i,z,rfl,rfl,hq,he,q⟩:=h;cases rx;obtain⟨t,rfl⟩:=ry;obtain⟨its,r,pl,hz⟩:=I.list hq;obtain⟨j,h1,h2,h3,h4,h5⟩:=AY he;obtain⟨w,ew,rw'⟩:=r.get h2;have hl:=r.length;have hn:=tK;have fin:EP X pins σ Q w s:=⟨z,H,I,rw',q⟩
 by_cases h0:0<=i
 ·have hj:i.toNat=j:=by
   rw[wc h0 h5] at h1;exact b3 h1
  exact item_listR pl.isList h0 (by omega) (by rw[hj];simpa using ew) fin hs
 ·have hj:(i+(its.toArray.size:Int)).toNat=j:=by
   rw[ve (by omega) h4] at h1;rw[bi,<- hl];exact b3 h1
  exact tq (x:=w) pl.isList.typeIs slot_list_getitem.lookup
   (wpAny_getItem_list_neg (Q:=fun r s'=>r=w/\EP X pins σ Q r s') pl.isList (by omega) (by rw[bi] <;> omega) (by omega) (by rw[hj];simpa using ew) ⟨rfl,fin⟩) hs
theorem ix_tup:IxR X (Rv X.K):=by
 intro value slice pins s σ H x y v u Q I rx ry h hs;obtain⟨p,xs,i,z,rfl,rfl,hq,he,q⟩:=h;cases rx;obtain⟨t,rfl⟩:=ry;obtain⟨its,r,pl,hz⟩:=I.tuple hq;obtain⟨j,h1,h2,h3,h4,h5⟩:=AY he;obtain⟨w,ew,rw'⟩:=r.get h2;have hl:=r.length;have hn:=tK;have fin:EP X pins σ Q w s:=⟨z,H,I,rw',q⟩;exact tq (x:=w) pl.typeIs jk.lookup
  (getItem_tuple (j:=j) (Q:=fun r s'=>r=w/\EP X pins σ Q r s') pl (by omega) (by omega) (by rw[bi,<- hl];exact h1) (by simpa using ew) ⟨rfl,fin⟩) hs
theorem OP:IxR X Rw:=by
 intro value slice pins s σ H x y v u Q I rx ry h hs;obtain⟨z,i,c,rfl,rfl,hz,he,q⟩:=h;obtain⟨t,rfl⟩:=rx;obtain⟨t',rfl⟩:=ry;obtain⟨j,h1,h2,h3,h4,h5⟩:=AY he;have hl:z.cps.toList.length=z.length:=by simp[Str.length]
 rw[hl] at h1 h4 h5;have hn:=tK;exact tail_any (typeIs_str s z t) slot_str_getitem.lookup (getItem_str (c:=c) (by
  have e1:decide (i< -(2 ^ 63:Int))=false:=decide_eq_false (by omega);have e2:decide (i≥2 ^ 63)=false:=decide_eq_false (by omega);rw[e1,e2,uw]) (by rw[h1];simpa using h2) ⟨.str ⟨#[c]⟩,H,I.tok _,⟨_,rfl⟩,q⟩) hs
noncomputable def rIx (K:aa):R2:=fun x y H Q=>Rx K x y H Q∨Rv K x y H Q∨Rw x y H Q
theorem OQ:IxR X (rIx X.K):=ix_list.or (ix_tup.or OP)
theorem Db (its:List ag) (n j:Nat) (u:ag):i4 (·.setIfInBounds j u) { cls:=.type "list",data:=.seq its.toArray n }={ cls:=.type "list",data:=.seq (its.set j u).toArray n }:=by
 simp[i4]
theorem Inv.lst (I:Inv X pins σ H s) (h:H p=xo (.lst xs)):
  ∃(its:List ag) (n:Nat),Vals xs its/\s.heap.get? p=xo { cls:=.type "list",data:=.seq its.toArray n }/\xs.length<=sizeLine:=by
 obtain⟨z,its,n,r,e⟩:=I.hok p _ h;exact⟨its,n,r,e,z⟩
theorem Inv.lstUpd {its its':List ag} (I:Inv X pins σ H s) (h:H p=xo (.lst xs))
  (ho:s.heap.get? p=xo { cls:=.type "list",data:=.seq its.toArray n }) (hf:f { cls:=.type "list",data:=.seq its.toArray n }={ cls:=.type "list",data:=.seq its'.toArray n' }) (r:Vals ys its') (hz:ys.length<=sizeLine) (t:Nat):
  Inv X pins σ (upd H p (.lst ys)) { s with heap:=s.heap.update p f,toks:=t }:=by
 have e:(s.heap.update p f).get? p=xo { cls:=.type "list",data:=.seq its'.toArray n' }:=by
  rw[fx f ho (by rw[hf] <;> rfl),hf]
 refine I.write (x:=p) (e:=p) (by rw[h];trivial) (.inl rfl) (fun b u hb q=>(dw _ _ (bz hb)).trans q) ⟨_,e⟩ ?_;exact⟨hz,its',n',r,e⟩
def Qp:V->V->V->Hp->(Hp->Prop)->Prop:=fun o i v H Q=>∃ p xs k j,o=.ref p/\i=.int k/\H p=xo (.lst xs)/\ixN xs.length k=xo j/\Q (upd H p (.lst (xs.set j v)))
theorem GT:RH X Qp:=by
 intro pins s σ H o i v ov iv u Q I ro ri rv h;obtain⟨p,xs,k,j,rfl,rfl,hp,hj,q⟩:=h;cases ro;obtain⟨t,rfl⟩:=ri;obtain⟨its,n,r,ho,hz⟩:=I.lst hp;obtain⟨h1,h2,h3,h4⟩:=Fq hj;have hl:=r.length;have hn:=tK;have I':Inv X pins σ (upd H p (.lst (xs.set j v))) { s with heap:=s.heap.update p (i4 (·.setIfInBounds j u)) }:=
  I.lstUpd hp ho (Db its n j u) (r.set rv j) (by rw[cj];exact hz) s.toks
 by_cases h0:0<=k
 ·have hk:k.toNat=j:=by
   rw[wc h0 h4] at h1;exact b3 h1
  exact PySem.W.ki_setAt ho h0 (by omega) (by rw[bi,<- hl];exact h4) (by rw[hk];exact⟨_,I',q⟩)
 ·have hk:(k+(its.toArray.size:Int)).toNat=j:=by
   rw[ve (by omega) h3] at h1;rw[bi,<- hl];exact b3 h1
  exact PySem.W.ki_setBack ho (by omega) (by rw[bi,<- hl];exact h3) (by omega) (by rw[hk];exact⟨_,I',q⟩)
theorem xI (lo hi:Option Int) (n:Nat):(l0 lo hi xp n).1=((HT.sIx n 0 lo:Nat):Int)/\(l0 lo hi xp n).2.1=((HT.sIx n n hi:Nat):Int)/\(l0 lo hi xp n).2.2=1:=by
 refine⟨?_,?_,rfl⟩
 ·cases lo with
  |none=>simp[l0,HT.sIx]
  |some i=>
   simp only[l0,HT.sIx,wf,show(1:Int)>0 by decide,if_true]
   by_cases h:i<0
   ·simp only[h,if_true] <;> omega
   ·simp only[h,if_false] <;> omega
 ·cases hi with
  |none=>simp[l0,HT.sIx]
  |some i=>
   simp only[l0,HT.sIx,wf,show(1:Int)>0 by decide,if_true]
   by_cases h:i<0
   ·simp only[h,if_true] <;> omega
   ·simp only[h,if_false] <;> omega
theorem uQ (its:List ag) (lo hi:Option Int):slicePick its.toArray lo hi xp=((its.drop (HT.sIx its.length 0 lo)).take (HT.sIx its.length its.length hi-HT.sIx its.length 0 lo)).toArray:=by
 obtain⟨h1,h2,h3⟩:=xI lo hi its.toArray.size;unfold slicePick;rw[h1,h2,h3];simp only[sliceRange_one,pick_run,bi] <;> rfl
def Sb (K:aa):V->Option Int->Option Int->Hp->VK->Prop:=fun x lo hi H Q=>∃ a xs,x=.ref a/\SqL K H a xs/\∀ p,H p=xp->Q (.ref p) (upd H p (.lst (JP xs lo hi)))
theorem sl_list:SlR X (Sb X.K):=by
 intro pins s σ H x v vl vu lo hi sl Q I rx hs pl pu h;obtain⟨a,xs,rfl,hx,q⟩:=h;cases rx;obtain⟨its,r,ht,hz⟩:=I.list hx;have hlen:=r.length;refine⟨"list",_,slot_list_getitem.lookup,ht.isList.typeIs,?_⟩;refine wpAny_getItem_list_slice ht.isList hs pl pu .none (by simp) ?_ (by rw[bi] <;> omega);rw[uQ,<- hlen];refine⟨.ref s.heap.objs.size,_,I.laid (t':=s.toks) (o:=.lst (JP xs lo hi)) (fun b ob q=>aw _ q) (bf _) ?_,rfl,q _ (I.hok.fresh (bf _))⟩;exact⟨cf (qW xs lo hi) hz,_,0,(r.drop (HT.sIx xs.length 0 lo)).take (HT.sIx xs.length xs.length hi-HT.sIx xs.length 0 lo),bv _ rfl⟩
theorem CallR.or (h:CallR X f r) (h':CallR X f r'):CallR X f (fun xs H Q=>r xs H Q∨r' xs H Q):=by
 intro pins s σ H xs us Q I rs q;rcases q with q|q
 ·exact h pins s σ H xs us Q I rs q
 ·exact h' pins s σ H xs us Q I rs q
theorem nE:CallR X (.type "list") (fun xs H Q=>∃ p ys,xs=[.ref p]/\(SqL X.K H p ys∨SqT X.K H p ys)/\∀ l,H l=xp->Q (.ref l) (upd H l (.lst ys))):=by
 intro pins s σ H xs us Q I r h;obtain⟨p,ys,rfl,hq,q⟩:=h;obtain⟨u,rfl,rx⟩:=lA r;cases rx;have fin:∀(its:List ag),Vals ys its->ys.length<=sizeLine->∀(h':c5) (c':Nat),(∀ b o',s.heap.get? b=xo o'->h'.get? b=xo o')->
   h'.get? s.heap.objs.size=xo { cls:=.type "list",dict:=xp,data:=.seq its.toArray c',slots:= #[] }->EP X pins σ Q (.ref s.heap.objs.size) { s with heap:=h' }:=fun its r' hz h' c' kp e=>
  ⟨.ref s.heap.objs.size,_,I.laid (t':=s.toks) kp (bf _) (show ObjOk X.prog X.w _ h' _ (.lst ys) from⟨hz,its,c',r',e⟩),rfl,q _ (I.hok.fresh (bf _))⟩
 rcases hq with hq|hq
 ·obtain⟨its,r',pl,hz⟩:=I.list hq;have hlen:=r'.length;obtain⟨o,ho,hc,n,hd⟩:=pl.isList;exact call_list_seq p (.inl rfl) ho hc hd (fun h' c' kp e=>fin its r' hz h' c' kp e) (by simp only[bi] <;> omega)
 ·obtain⟨its,r',pl,hz⟩:=I.tuple hq;have hlen:=r'.length;obtain⟨o,ho,hc,n,hd⟩:=pl;exact call_list_seq p (.inr rfl) ho hc hd (fun h' c' kp e=>fin its r' hz h' c' kp e) (by simp only[bi] <;> omega)
theorem wC:CallR X (.type "tuple") (fun xs H Q=>∃ p ys,xs=[.ref p]/\((SqL X.K H p ys/\∀ l,H l=xp->Q (.ref l) (upd H l (.tup ys)))∨(SqT X.K H p ys/\Q (.ref p) H))):=by
 intro pins s σ H xs us Q I r h;obtain⟨p,ys,rfl,h⟩:=h;obtain⟨u,rfl,rx⟩:=lA r;cases rx;rcases h with⟨hq,q⟩|⟨hq,q⟩
 ·obtain⟨its,r',pl,hz⟩:=I.list hq;have hlen:=r'.length;refine call_tuple_list pl.isList (fun h' kp=> ?_) (by simp only[bi] <;> omega);have I1:Inv X pins σ H { s with heap:=h' }:=I.kept (t':=s.toks) kp;have I2:Inv X pins σ (upd H h'.objs.size (.tup ys)) { s with heap:=h'.push { cls:=.type "tuple",data:=.seq its.toArray } }:=
   I1.laid (t':=s.toks) (fun b o e=>aw _ e) (bf _) (show ObjOk X.prog X.w _ _ _ (.tup ys) from⟨hz,its,r',xg _ _⟩)
  exact⟨.ref h'.objs.size,_,I2,rfl,q _ (I1.hok.fresh (bf _))⟩
 ·obtain⟨its,r',pl,hz⟩:=I.tuple hq;exact call_tuple_same pl ⟨.ref p,H,I,rfl,q⟩
def tyV (K:aa) (T:String) (x:V) (H:Hp):Prop:=match x with
 |.str _=>T="str"
 |.int _=>T="int"
 |.ref p=>(T="list"/\∃ xs,SqL K H p xs)∨(T="tuple"/\∃ o,K.lookup p=xo o/\o.cls=.type "tuple"/\o.dict=xp)∨
   (T="dict"/\((∃ kvs,H p=xo (.dK kvs))∨∃ kvs,H p=xo (.dT kvs)))∨(T="set"/\∃ S n,H p=xo (.set S n))
 |_=>False
theorem Jt (I:Inv X pins σ H s) (r:RelV x v) (ty:tyV X.K T x H):
  s.TypeIs v T/\∀ a,v=.ref a->∃ ob,s.heap.get? a=xo ob/\ob.dict=xp:=by
 cases x with
 |str z=>
  obtain⟨t,rfl⟩:=r;cases (show T="str" from ty);exact⟨typeIs_str s z t,fun _ e=>nomatch e⟩
 |int i=>
  obtain⟨t,rfl⟩:=r;cases (show T="int" from ty);exact⟨typeIs_int s i t,fun _ e=>nomatch e⟩
 |ref p=>
  cases r;rcases ty with⟨rfl,xs,hq⟩|⟨rfl,o,hk,hc,hd⟩|⟨rfl,hk⟩|⟨rfl,S,n,hk⟩
  ·obtain⟨its,_,pl,_⟩:=I.list hq;refine⟨pl.isList.typeIs,fun a e=> ?_⟩;cases e;obtain⟨o,n,e,c,hd,_⟩:=pl;exact⟨o,e,hd⟩
  ·refine⟨⟨o,I.kIn p o hk,hc⟩,fun a e=> ?_⟩;cases e;exact⟨o,I.kIn _ o hk,hd⟩
  ·have z:∃ o,s.heap.get? p=xo o/\o.ExactDict:=by
    rcases hk with⟨kvs,hk⟩|⟨kvs,hk⟩
    ·obtain⟨_,_,_,_,o,_,_,e,ex,_⟩:=I.hok p _ hk;exact⟨o,e,ex⟩
    ·obtain⟨_,_,_,_,o,_,_,e,ex,_⟩:=I.hok p _ hk;exact⟨o,e,ex⟩
   obtain⟨o,e,ex⟩:=z;refine⟨⟨o,e,ex.1⟩,fun a e2=> ?_⟩;cases e2;exact⟨o,e,ex.2.1⟩
  ·obtain⟨o,_,_,_,e,ex,_⟩:=I.hok p _ hk;refine⟨⟨o,e,ex.1⟩,fun a e2=> ?_⟩;cases e2;exact⟨o,e,ex.2.1⟩
 |_=>exact iz ty
def RX (K:aa) (T:String) (r:V->List V->Hp->VK->Prop) (to:TE):TE:=fun σ H Q=>to σ H fun x H1=>tyV K T x H1/\r x [] H1 Q
def tBM (K:aa) (T:String) (r:V->List V->Hp->VK->Prop) (to:TE) (t:TA):TE:=fun σ H Q=>to σ H fun x H1=>tyV K T x H1/\t σ H1 fun xs H2=>r x xs H2 Q
variable {o e:bw}{es:List bw}{to:TE}{t:TA}{name:Str}{apos cpos:Pos}{T id:String}{r:V->List V->Hp->VK->Prop}
theorem NB (pa:PlainAttrs T) (slot:Slot T name id) (hty:typeOf (.builtin id)=pure (.type "method_descriptor")) (hm:MtR X id r) (ho:PE X o to)
  (hbase:ij o name X.env (eval o X.env)=eval o X.env:=by rfl) (hline:(apos.endLine==cpos.line)=true:=by rfl):PE X (.Call (.Attribute o name apos) [] [] cpos) (RX X.K T r to):=by
 intro pins s σ H Q I h;refine wpAny_Call_method0_late hbase hline (thn (ho pins s σ H _ I h) fun v s1 ⟨x,H1,I1,r1,ty,q1⟩=> ?_);obtain⟨h1,h2⟩:=Jt I1 r1 ty;exact⟨T,id,pa,slot,hty,h1,h2,tu rfl (PySem.evalArgs_none (hm pins s1 σ H1 x [] v [] Q I1 r1 .nil q1))⟩
theorem NC (pa:PlainAttrs T) (slot:Slot T name id) (hty:typeOf (.builtin id)=pure (.type "method_descriptor")) (hm:MtR X id r) (ho:PE X o to) (ha:PA X (e::es) t)
  (hbase:ij o name X.env (eval o X.env)=eval o X.env:=by rfl)
  (hfew:((db cpos (au (e::es) X.env)).all (fun x=> !x.1)&&(j8 cpos (ir [] X.env)).all (fun x=>x.1.isSome)
   &&decide ((e::es).length+([]:List kr).length+(if([]:List kr).isEmpty then 0 else 1)<30))=true:=by rfl)
  (hline:(apos.endLine==cpos.line)=true:=by rfl) (hs:au (e::es) X.env=(false,eval e X.env)::au es X.env:=by rfl) (hplain:(db cpos (au es X.env)).any (·.1)=false:=by rfl):
  PE X (.Call (.Attribute o name apos) (e::es) [] cpos) (tBM X.K T r to t):=by
 intro pins s σ H Q I h;refine wpAny_Call_method_late hbase hfew hline rfl (thn (ho pins s σ H _ I h) fun v s1 ⟨x,H1,I1,r1,ty,q1⟩=> ?_);obtain⟨h1,h2⟩:=Jt I1 r1 ty;refine⟨T,id,pa,slot,hty,h1,h2,?_⟩;have hA:=ha cpos pins s1 σ H1 _ I1 q1;rw[hs] at hA ⊢;refine tu (by show(false||(db cpos (au es X.env)).any (·.1))=false;rw[hplain] <;> rfl) (uk ?_);exact thn hA fun us s2 ⟨vs,H2,I2,r2,q2⟩=>hm pins s2 σ H2 x vs v us Q I2 r1 r2 q2
end
end L2
namespace L2
def MtM (X:Cx) (id:String) (r:V->List V->Hp->VK->Prop):Prop:=
 ∀(pins:List (af×Obj)) (s:aq) (σ:St) (H:Hp) (x:V) (xs:List V) (v:ag) (us:List ag) (Q:VK),Inv X pins σ H s->RelV x v->Vals xs us->r x xs H Q->
  bc (model X.prog X.w) X.A (call (.builtin id) (v::us)) (EP X pins σ Q) X.xe s
theorem Vals.one {x:V}{us:List ag} (h:Vals [x] us):∃ u,us=[u]/\RelV x u:=by
 cases h with|cons r t=>cases t;exact⟨_,rfl,r⟩
theorem Vals.reverse (h:Vals xs us):Vals xs.reverse us.reverse:=by
 induction h with
 |nil=>exact .nil
 |cons r t ih=>rw[nj,nj];exact Vals.append ih (.cons r .nil)
theorem Vals.rep (h:Vals xs us):∀ k:Nat,Vals (av k xs).flatten (av k us).flatten
 |0=>.nil
 |k+1=>by
  rw[fm,fm,jc,jc];exact Vals.append h (Vals.rep h k)
theorem yU (its:List ag):∀(k:Nat) (acc:List ag),
  wp (fun x1 x2=>x1++x2) acc.toArray (av k its.toArray)=(acc++(av k its).flatten).toArray
 |0,acc=>by simp
 |k+1,acc=>by
  have e:acc.toArray++its.toArray=(acc++its).toArray:=by simp
  have e2:(acc++its)++(av k its).flatten=acc++(av (k+1) its).flatten:=by
   rw[fm,jc,fy]
  rw[<- e2,<- yU its k (acc++its),<- e,fm,wq]
section
variable {X:Cx}{pins:List (af×Obj)}{σ:St}{H:Hp}{s:aq}{l b:af}{xs ys zs:List V}
theorem Inv.lset {its its':List ag} (I:Inv X pins σ H s) (hH:H l=xo (.lst xs))
  (e:s.heap.get? l=xo { cls:=.type "list",data:=.seq its.toArray n }) (hf:f its.toArray=its'.toArray) (hv:Vals ys its') (hz:ys.length<=sizeLine):
  Inv X pins σ (upd H l (.lst ys)) { s with heap:=s.heap.update l (i4 f),toks:=t' }:=by
 have q:=PySem.IsL.update e f;rw[hf] at q;refine I.write (x:=l) (e:=l) (by rw[hH];exact trivial) (.inl rfl) (fun b' u hb hu=>(dw s.heap (i4 f) (bz hb)).trans hu) ⟨_,q⟩ ?_;exact⟨hz,its',_,hv,q⟩
theorem Inv.lnew (I:Inv X pins σ H s) (hv:Vals ys its) (hz:ys.length<=sizeLine):
  Inv X pins σ (upd H s.heap.objs.size (.lst ys)) { s with heap:=s.heap.push { cls:=.type "list",data:=.seq its.toArray },toks:=t' }:=
 I.laid (fun _ _ q=>aw _ q) (bf _) ⟨hz,its,0,hv,bv _ rfl⟩
theorem Inv.fresh (I:Inv X pins σ H s):H s.heap.objs.size=xp:=I.hok.fresh (bf _)
theorem Inv.lstM (I:Inv X pins σ H s) (hH:H l=xo (.lst xs)):xs.length<=sizeLine/\∃(its:List ag) (n:Nat),Vals xs its/\xs.length=its.length/\s.heap.get? l=xo { cls:=.type "list",data:=.seq its.toArray n }:=by
 obtain⟨z,its,n,r,e⟩:=I.hok l _ hH;exact⟨z,its,n,r,r.length,e⟩
theorem HR (h:n<=sizeLine):mv n=false:=by
 unfold mv;exact decide_eq_false (by omega)
end
section
variable {X:Cx}
def EC:V->List V->Hp->VK->Prop:=fun x vs H Q=>∃ l xs y,x=.ref l/\vs=[y]/\H l=xo (.lst xs)/\xs.length<sizeLine/\Q .non (upd H l (.lst (xs++[y])))
theorem yC:MtM X "list.append" EC:=by
 intro pins s σ H x vs v us Q I rx rv h;obtain⟨l,xs,y,rfl,rfl,hH,hz,q⟩:=h;cases rx;obtain⟨u,rfl,ru⟩:=rv.one;obtain⟨z,its,n,r,hl,e⟩:=I.lstM hH;refine call_meets ua ⟨_,e,rfl⟩ F.entry_list_append (F.args_list_append_2 _ _) (PySem.list_append l its.toArray n u (by rw[bi];omega)) ⟨e,?_⟩;refine⟨.non,_,I.lset (its':=its++[u]) hH e (by simp) (r.append (.cons ru .nil)) ?_,rfl,q⟩;rw[bx,lg];omega
noncomputable def Se:R2:=fun x y H Q=>∃ l b xs zs,x=.ref l/\y=.ref b/\H l=xo (.lst xs)/\H b=xo (.lst zs)/\xs.length+zs.length<=sizeLine/\∀ p,H p=xp->Q (.ref p) (upd H p (.lst (xs++zs)))
theorem Oc:OpR X (j7 .Add) Se:=by
 intro pins s σ H x y v u Q I rx ry h;obtain⟨l,b,xs,zs,rfl,rfl,hH,hB,hz,q⟩:=h;cases rx;cases ry;obtain⟨z,its,n,r,hl,e⟩:=I.lstM hH;obtain⟨z2,its2,n2,r2,hl2,e2⟩:=I.lstM hB;refine PySem.P.add_list e e2 ?_ (by rw[bi,bi];omega);have ea:its.toArray++its2.toArray=(its++its2).toArray:=by simp
 rw[ea];exact⟨.ref _,_,I.lnew (t':=s.toks) (r.append r2) (by rw[bx];omega),rfl,q _ I.fresh⟩
noncomputable def Sc:R2:=fun x y H Q=>∃ l k xs,x=.ref l/\y=.int k/\H l=xo (.lst xs)/\ -(2 ^ 63)<=k/\k<2 ^ 63/\xs.length*k.toNat<=sizeLine/\
 ∀ p,H p=xp->Q (.ref p) (upd H p (.lst (av k.toNat xs).flatten))
theorem Lz (xs:List α) (k:Nat):(av k xs).flatten.length=k*xs.length:=by
 induction k with
 |zero=>simp
 |succ k ih=>rw[fm,jc,bx,ih,Nat.succ_mul,Nat.add_comm]
theorem NT:OpR X (j7 .Mult) Sc:=by
 intro pins s σ H x y v u Q I rx ry h;obtain⟨l,k,xs,rfl,rfl,hH,h1,h2,hz,q⟩:=h;cases rx;obtain⟨t,rfl⟩:=ry;obtain⟨z,its,n,r,hl,e⟩:=I.lstM hH;have hlen:its.toArray.size*k.toNat<=sizeLine:=by rw[bi,<- hl];exact hz
 have hcap:¬ its.toArray.size*k.toNat>(2 ^ 63-1) / 8:=by
  have:(sizeLine:Nat)<=(2 ^ 63-1) / 8:=by decide
  omega
 have hfit:¬(!Builtin.List.listFitsIndex k)=true:=by
  rw[fitsIndex_both h1 h2];exact cg
 have hlong:¬ mv (its.toArray.size*k.toNat)=true:=by
  rw[HR hlen];exact cg
 have hnew:wp (fun x1 x2=>x1++x2) #[] (av (if its.toArray.isEmpty=true then 0 else k.toNat) its.toArray)=(av k.toNat its).flatten.toArray:=by
  have f0:∀ m:Nat,wp (fun x1 x2=>x1++x2) #[] (av m its.toArray)=(av m its).flatten.toArray:=fun m=>by
   have:=yU its m []
   rw[wr] at this;exact this
  rw[f0];cases its with
  |nil=>simp
  |cons a r'=>rw[if_neg (by simp)]
 refine wpAny_binaryOp_repeat_ref (T:="list") (U:="int") (by decide) ⟨_,e,rfl⟩ (fun s'=>typeIs_int s' k t) noFill_list_mul F.fills_int_mul F.slot_int_rmul repeat_list F.slot_int_index.lookup
  (call_meets F.slot_int_rmul (typeIs_int s k t) F.entry_int_rmul (F.args_int_rmul_2 _ _) (int___rmul___int_list k t l its.toArray n)
   ⟨e,rfl,⟨_,e,rfl⟩,call_meets F.slot_list_mul ⟨_,e,rfl⟩ F.entry_list_mul (F.args_list_mul_2 _ _) (AutoListH.list___mul___list_int_3 l its.toArray n k t hfit hcap hlong) ⟨e,?_⟩⟩)
 rw[hnew];exact⟨.ref _,_,I.lnew (t':=s.toks) (r.rep k.toNat) (by rw[Lz,Nat.mul_comm];exact hz),rfl,q _ I.fresh⟩
end
section
variable {prog:da}{w:dh}{A:dm}{E:ag->aq->Prop}{s:aq}
set_option maxRecDepth 100000 in
end
section
variable {X:Cx}
end
end L2
namespace Att
open PySem PySem.W PySem.Calls PyProof.Rows
theorem pY:∀(ns:List Int) (vs:List ag),WellAll P h vs (ns.map WData.int)->kt vs ns:=by
 intro ns
 induction ns with
 |nil=>
  intro vs w;rw[k9] at w;cases w;exact .nil
 |cons n ns ih=>
  intro vs w;rw[bg] at w;cases w with
  |cons a b=>
   cases a;exact .cons _ _ (ih _ b)
theorem Eo {l:OpenLaw} (hn:l.most=xo n)
  (hpre:l.row.toRowW.claim.pre args=true) (hwl:WellAll P h vals args):
  ∃ a vs ns,vals=[ck a]/\args=[WData.list (ns.map WData.int)]/\h.get? a=xo { cls:=.type "list",data:=.seq vs.toArray }/\kt vs ns/\ns.length<=n:=by
 have hsh:WShape.hasAll [] args [.list .int]=true:=(pre_splitW hpre).1;have hc:l.pre.holds [] { args:=args }=true:=(pre_splitW hpre).2;obtain⟨d,r,rfl,h1,h2⟩:=hasAllW_cons hsh;obtain rfl:=hasAllW_nil h2;obtain⟨xs,rfl,h3⟩:=hasW_list h1;obtain⟨ns,rfl⟩:=items_int h3;have hlen:ns.length<=n:=by
  unfold OpenLaw.pre at hc;have h4:(WTm.not (.lt (.lit (.int (n:Int))) (.len (.arg 0)))).holds [] { args:=[.list (ns.map .int)] }=true:=by
   have h4:=(holds_andW hc).1;rw[hn] at h4;exact h4
  have h5:=condW_of h4 (w_not (w_lt w_lit (w_len_list (w_arg rfl))));rw[ak] at h5;refine Nat.le_of_not_lt fun q=> ?_;have q':(n:Int)<((ns.length:Nat):Int):=by omega
  first
   |(rw[decide_eq_true q'] at h5;exact absurd h5 (by decide))
   |(simp at h5;omega)
 cases hwl with
 |cons w1 w2=>
  cases w2;cases w1 with
  |list ho hall=>exact⟨_,_,ns,rfl,rfl,ho,pY ns _ hall,hlen⟩
theorem ED (l:OpenLaw) (args:List WData):l.row.toRowW.claim.post args (.bool true) args=true:=
 postW_of (r:=l.row.toRowW) (X:=(true==true))
  (show WShape.has [] (.bool true) .bool=true by first|rfl|decide|simp[WShape.has,WShape.arms,WShape.armsAll])
  (show(WTm.eq .res (.lit (.bool true))).value [] { args:=args,res:=xo (.bool true),after:=args }=xo (.bool (true==true)) from w_eq_bool (w_res rfl) w_lit) rfl
theorem attach_call {l:OpenLaw}
  (hn:l.most=xo n) (hdf:d.params.defaults=[])
  (call:∀(w:dh) (s₀ s₁:aq) (mg mb:Str->Option ag) (fa:af) (o:Obj) (pm cd doc:ag) (a:af) (vs:List ag) (ns:List Int),
   Ground q loose [] XP w s₀ mg mb s₁.heap->YP w s₁.heap->
   s₁.heap.get? fa=xo o->o.data=.func (docDef d.name d.params d.body d.scope pm cd doc)->s₁.heap.CodeRec cd d.name->mg d.name=xo (.ref fa)->
   s₁.heap.get? a=xo { cls:=.type "list",data:=.seq vs.toArray }->kt vs ns->ns.length<=n->s₁.gens= #[]->
   o7 (model l.prog w) pq (.call (.ref fa) ⟨[.ref a],[]⟩) (fun r s'=>r=.ok (.ret (.bool true))/\OldK s₁.heap s'.heap/\s'.os=s₁.os/\m9 s'.gens) s₁):
  WalkO q loose XP YP l.row.toRowW d [] (fun f vs=>wt f vs):=by
 intro w s₀ s₁ mg mb G Y fa o pm cd doc dV kV ho hd hcd hD hmg hg args vals as hpre hlay hrd hwl hlo;obtain rfl:dV=.none:=Dflts.none hD hdf;obtain rfl:kV=.none:=Dflts.noKw hD;obtain⟨a,vs,ns,rfl,rfl,hobj,hints,hlen⟩:=Eo hn hpre hwl;refine enter_call (qu (call w s₀ s₁ mg mb fa o pm cd doc a vs ns G Y ho (fd_plain hd) hcd hmg hobj hints hlen hg) fun r s' hq=> ?_);obtain⟨rfl,h2,h3,h4⟩:=hq;exact⟨.inl ⟨.bool true,.bool true,[],rfl,fun _=>rfl,.bool true,ED l _,fun _=>⟨List.Pairwise.nil,fun _ hm=>(nomatch hm)⟩⟩,h2,h3,h4⟩
section
variable {prog:da}{w:dh}{A:dm}{E:ag->aq->Prop}{s:aq}{K:Frag}
end
end Att
namespace L2
theorem wW:∀ {vs:List ag}{ns:List Int},kt vs ns->Vals (ns.map V.int) vs
 |_,_,.nil=>.nil
 |_,_,.cons n t h=>.cons ⟨t,rfl⟩ (wW h)
def Rh (H:Hp):Prop:=∀ b,H b=xp∨∃ o xs,H b=xo (.frz o (.lst xs))
theorem Ie {K:aa}
  (KX:K.In s₁.heap) (hns:s₁.heap.Ns ce mg) (hb:s₁.heap.Ns builtinsNs mb) (hbb:∀ x:Str,x≠"__name__"->mb x=dc x) (hlim:s₁.heap.NoLimit) (hg:s₁.gens= #[])
  (ha:s₁.heap.get? a=xo { cls:=.type "list",data:=.seq vs.toArray }) (hi:kt vs ns) (hl:ns.length<=sizeLine) (hr:Room k pq)
  (F:∀ base:c5,K.In base->base.Ns ce mg->sO P w K mg base CX k fa fd [x] sp) (hbind:∀(s:aq) (u:ag),t8 s fd ⟨[u],[]⟩ [(x,u)])
  (hsp:∀ H:Hp,Rh H->SqL K H a (ns.map V.int)->sp [.ref a] H (fun v _=>v=.bl true) fun _ _ _=>False)
  (hCX:∀ H e s',CX [] H s₁ (fun _ _ _=>False) e s'->False):
  o7 (model P w) pq (.call (.ref fa) ⟨[.ref a],[]⟩) (fun r s'=>r=.ok (.ret (.bool true))/\OldK s₁.heap s'.heap/\s'.os=s₁.os/\m9 s'.gens) s₁:=by
 have rv:=wW hi;have lenV:=hi.length
 -- from an abstract heap in which nothing but the script may be tracked
 have core:∀ H:Hp,Rh H->SqL K H a (ns.map V.int)->HOk P w H s₁.heap->(∀ b,H b≠xp->b=a)->(H a≠xp->K.lookup a=xp)->
   o7 (model P w) pq (.call (.ref fa) ⟨[.ref a],[]⟩) (fun r s'=>r=.ok (.ret (.bool true))/\OldK s₁.heap s'.heap/\s'.os=s₁.os/\m9 s'.gens) s₁:=by
  intro H hO hS hok hA hK;have base_of:∀ {b:af}{o:Obj},s₁.heap.get? b=xo o->H b=xp->(Io s₁.heap H).get? b=xo o:=fun e n=>Im e n;have noA:∀ {b:af}{o:Obj}{es:Array lm}{ep:Nat},s₁.heap.get? b=xo o->o.data=.dict es ep->H b=xp:=fun {b o es ep} e d=>by
   cases q:H b with
   |none=>rfl
   |some u=>
    have e':b=a:=hA b (by rw[q];simp);subst e';rw[ha] at e;cases e;have d':Data.seq vs.toArray _=xh es ep:=d;cases d'
  have nsK:∀ {b:af}{m:Str->Option ag},s₁.heap.Ns b m->(Io s₁.heap H).Ns b m:=fun {b m} ⟨o,es,ep,e,d,r⟩=>⟨o,es,ep,base_of e (noA e d),d,r⟩;have hKb:K.In (Io s₁.heap H):=fun b o e=>base_of (KX b o e) (by
   cases q:H b with
   |none=>rfl
   |some u=>
    have e':b=a:=hA b (by rw[q];simp);subst e';rw[hK (by rw[q];simp)] at e;cases e)
  have hM:Mod K mg (Io s₁.heap H):=⟨hKb,nsK hns,⟨mb,nsK hb,hbb⟩,let ⟨mc,h1,h2⟩:=hlim;⟨mc,nsK h1,h2⟩⟩;have e0:Env0 P w K mg (Io s₁.heap H) pq [] s₁ H:=⟨rfl,hM,fun b o e=>KW e,va (Fw _ _),trivial,fun b hb=>absurd (show b∈([]:List af) from hb) (by simp),hok,.of_eq hg⟩;refine qu ((F _ hKb (nsK hns)).run pq [] s₁ H ⟨[.ref a],[]⟩ [.ref a] [.ref a] _ _ hr e0 (hbind s₁ (.ref a)) (.cons rfl .nil) (hsp H hO hS)) fun r s' h=> ?_;cases r with
  |error e=>exact(hCX H e s' h).elim
  |ok fl=>
   cases fl with
   |next=>exact iz h
   |brk=>exact iz h
   |cont=>exact iz h
   |ret u=>
    obtain⟨v,H',os,bare,un,hok',r',q⟩:=h;have q':v=.bl true:=q;subst q';obtain rfl:u=uj true:=r';refine⟨rfl,OldK.of_keep fun b o e=> ?_,os,bare⟩;cases q:H b with
    |none=>exact un.keep b o e q (by intro z;exact absurd (show b∈([]:List af) from z) (by simp)) (by simp)
    |some u=>
     rcases hO b with z|⟨ob,xs,z⟩
     ·rw[q] at z;cases z
     ·have z2:=un.frzs b ob _ z;obtain⟨e1,_⟩:=hok b _ z;obtain⟨e2,_⟩:=hok' b _ z2;rw[e] at e1;cases e1;exact e2
 cases hk:K.lookup a with
 |some o=>
  -- the script is one of the module's own objects
  have e:=KX a o hk;rw[ha] at e;cases e;refine core (fun _=>xp) (fun _=>.inl rfl) (.inr ⟨_,vs.toArray,_,hk,rfl,rfl,rfl,by rw[bi,lenV];exact hl,by simpa using rv⟩) (fun b u z=>by have z':(xp:Option HO)=xo u:=z;cases z') (fun b z=>absurd rfl z) fun z=>absurd rfl z
 |none=>
  refine core (fun b=>if b=a then xo (.frz { cls:=.type "list",data:=.seq vs.toArray } (.lst (ns.map V.int))) else xp) (fun b=> ?_) (.inl (.inr ⟨{ cls:=.type "list",data:=.seq vs.toArray },if_pos rfl⟩)) (fun b u z=> ?_) (fun b z=> ?_) fun _=>hk
  ·by_cases hb:b=a
   ·exact .inr ⟨_,_,if_pos hb⟩
   ·exact .inl (if_neg hb)
  ·by_cases hb:b=a
   ·have z':=(if_pos hb).symm.trans z;cases z';subst hb;exact⟨ha,by rw[ak];exact hl,vs,_,rv,ha⟩
   ·have z':=(if_neg hb).symm.trans z;cases z'
  ·by_cases hb:b=a
   ·exact hb
   ·exact absurd (if_neg hb) z
end L2
namespace L2
theorem walk_of {l:wu}{K:Params->aa}{CX:dh->CXT}{sp:dh->Sp}
  (hn:l.most=xo n) (hn2:n<=sizeLine) (hdf:d.params.defaults=[]) (hr:Room k pq)
  (hY:∀(w:dh) (h:c5),YP w h->(K w.params).In h)
  (F:∀(w:dh) (mg:Str->Option ag) (fa:af) (h:c5),(K w.params).In h->h.Ns ce mg->mg d.name=xo (.ref fa)->
   ∃ fd:jw,(∀(s:aq) (u:ag),t8 s fd ⟨[u],[]⟩ [(x,u)])/\
    ∀ base:c5,(K w.params).In base->base.Ns ce mg->sO l.prog w (K w.params) mg base (CX w) k fa fd [x] (sp w))
  (hsp:∀(w:dh) (H:Hp) (a:af) (ns:List Int),ns.length<=n->Rh H->SqL (K w.params) H a (ns.map V.int)->sp w [.ref a] H (fun v _=>v=.bl true) fun _ _ _=>False)
  (hCX:∀(w:dh) (H:Hp) (s:aq) (e:ag) (s':aq),CX w [] H s (fun _ _ _=>False) e s'->False):
  xj q loose XP YP l.row.toRowW d [] (fun f vs=>wt f vs):=by
 refine Att.attach_call hn hdf fun w s₀ s₁ mg mb fa o pm cd doc a vs ns G Y ho hd hcd hmg hobj hints hlen hg=> ?_;have KX:=hY w _ Y;obtain⟨fd,hb,hF⟩:=F w mg fa _ KX G.T.g hmg;exact Ie KX G.T.g G.T.b G.T.builtins G.T.nolimit hg hobj hints (cf hlen hn2) hr hF hb (fun H hO hS=>hsp w H a ns hlen hO hS) fun H e s'=>hCX w H s₁ e s'
end L2
namespace L2
noncomputable def bZ (s:cx) (j:Nat):cx:=match s with
 |.ClassDef _ _ _ body _ _ _ _ _ _ _=>body.getD j (.Pass ⟨0,0,0,0⟩)
 |_=>.Pass ⟨0,0,0,0⟩
noncomputable def iB (s:cx):Arguments:=match s with
 |.FunctionDef _ a _ _ _ _ _ _ _ _=>a
 |_=>{ posonlyargs:=[],args:=[],vararg:=xp,kwonlyargs:=[],kw_defaults:=[],kwarg:=xp,defaults:=[] }
noncomputable def fW (s:cx):List cx:=match s with
 |.FunctionDef _ _ b _ _ _ _ _ _ _=>b
 |_=>[]
noncomputable def bG (s:cx):kj:=match s with
 |.FunctionDef _ _ _ _ _ _ sc _ _ _=>sc
 |_=>{ kind:=.function,names:=[],isGenerator:=false,isCoroutine:=false }
structure Fun (K:aa) (x qual:Str) (st:cx) (f:af) (fd:jw):Prop where
 ex:∃(oc:ag) (od:Option af) (kV doc pm:ag) (an:Option af) (cdv ct:ag) (osl:Array (Option ag)),
  fd=iu x qual (iB st) (fW st) (bG st) .none kV doc pm an cdv ct/\K.lookup f=xo ⟨oc,od,.func fd,osl⟩/\j5 K cdv qual=true
 kp:gu K (.ref f)=true
section
variable {P:da}{w:dh}{K:aa}{mg:Str->Option ag}{base:c5}
theorem Fun.binds {st:cx} (F:Fun K x qual st f fd)
  (h:∀(kV doc pm:ag) (an:Option af) (cdv ct:ag) (us:List ag),us.length=ps.length->bindArgs (iu x qual (iB st) (fW st) (bG st) .none kV doc pm an cdv ct) ⟨us,[]⟩=pure (ps.zip us)):Binds K fd ps []:=by
 obtain⟨oc,od,kV,doc,pm,an,cdv,ct,osl,rfl,lk,hcd⟩:=F.ex;exact .all (h kV doc pm an cdv ct)
theorem JL {st:cx}{kV doc pm cdv ct:ag} (l:K.lookup f=xo ⟨oc,od,.func (iu x qual (iB st) (fW st) (bG st) .none kV doc pm an cdv ct),osl⟩)
  (c:j5 K cdv qual=true) (k:gu K (.ref f)=true):Fun K x qual st f (iu x qual (iB st) (fW st) (bG st) .none kV doc pm an cdv ct):=⟨⟨oc,od,kV,doc,pm,an,cdv,ct,osl,rfl,l,c⟩,k⟩
end
theorem QS (hr:Room k A):A.units+1<d7:=mw (Nat.add_le_add_left (by decide:1<=64) _) hr.units
section
variable {X:Cx}
end
theorem ME {A B:Prop} (h:B):if false=true then A else B:=by
 rw[if_neg cg];exact h
theorem MD {A B:Prop} (h:A):if true=true then A else B:=by
 rw[if_pos rfl];exact h
def Same (H H':Hp):Prop:=∀ b o,H b=xo o->H' b=xo o
theorem Same.refl (H:Hp):Same H H:=fun _ _ h=>h
theorem Same.trans (a:Same H H1) (b:Same H1 H2):Same H H2:=fun c o h=>b c o (a c o h)
theorem Same.free (e:Same H H') (h:H' l=Option.none):H l=Option.none:=by
 cases q:H l with
 |none=>rfl
 |some o=>
  rw[e l o q] at h;cases h
end L2
end
section
namespace L2
section
variable {κ:Type} [DecidableEq κ]
noncomputable def wX (kvs:List (κ×V)) (k:κ):Option V:=(kvs.find? fun kv=>decide (kv.1=k)).map (·.2)
noncomputable def mW (kvs:List (κ×V)) (k:κ) (v:V):List (κ×V):=
 if(kvs.any fun kv=>decide (kv.1=k))=true then kvs.map (fun kv=>if kv.1=k then(kv.1,v) else kv) else kvs++[(k,v)]
noncomputable def yY (kvs:List (κ×V)) (k:κ):List (κ×V):=kvs.filter fun kv=>decide (kv.1≠k)
theorem nV {k:κ} (e:p.1=k):wX (p::r) k=xo p.2:=by simp[wX,gw,e]
theorem lB {k:κ} (e:¬ p.1=k):wX (p::r) k=wX r k:=by simp[wX,gw,e]
theorem Bz (k:κ):∀ kvs:List (κ×V),(kvs.any fun kv=>decide (kv.1=k))=(wX kvs k).isSome
 |[]=>rfl
 |p::r=>by
  rw[ls]
  by_cases e:p.1=k
  ·simp only[nV e,decide_eq_true e,Bool.true_or,vf]
  ·rw[lB e,decide_eq_false e,Bool.false_or];exact Bz k r
theorem gW (kvs:List (κ×V)) (k:κ) (v:V):(mW kvs k v).length<=kvs.length+1:=by
 unfold mW;split
 ·rw[ak];omega
 ·rw[bx,b4,ku];omega
theorem RelO.isSome_eq (r:RelO o u):o.isSome=u.isSome:=by
 cases o with
 |none=>cases u with
  |none=>rfl
  |some _=>exact(show False from r).elim
 |some _=>cases u with
  |none=>exact(show False from r).elim
  |some _=>rfl
theorem KV.val (r:KV kvs vs) (k:κ):RelO (wX kvs k) (qt vs k):=by
 unfold KV at r
 induction r with
 |nil=>exact im
 |@cons p q ps qs h t ih=>
  obtain⟨h1,h2⟩:=h
  by_cases e:p.1=k
  ·have e':q.1=k:=h1.symm.trans e;have b:qt (q::qs) k=xo q.2:=by simp[qt,gw,e']
   rw[nV e,b];exact h2
  ·have e':¬ q.1=k:=fun z=>e (h1.trans z);have b:qt (q::qs) k=qt qs k:=by simp[qt,gw,e']
   rw[lB e,b];exact ih
theorem KV.any (r:KV kvs vs) (k:κ):(kvs.any fun kv=>decide (kv.1=k))=vs.any fun kv=>decide (kv.1=k):=by
 unfold KV at r
 induction r with
 |nil=>rfl
 |cons h t ih=>rw[ls,ls,ih,h.1]
theorem KV.repl (r:KV kvs vs) (k:κ) (ry:RelV y u):
  KV (kvs.map fun kv=>if kv.1=k then(kv.1,y) else kv) (vs.map fun kv=>if kv.1=k then(kv.1,u) else kv):=by
 unfold KV at r ⊢
 induction r with
 |nil=>exact .nil
 |@cons p q ps qs h t ih=>
  rw[bg,bg];refine .cons ?_ ih;obtain⟨h1,h2⟩:=h
  by_cases e:p.1=k
  ·rw[if_pos e,if_pos (h1.symm.trans e)];exact⟨h1,ry⟩
  ·rw[if_neg e,if_neg (fun z=>e (h1.trans z))];exact⟨h1,h2⟩
theorem KV.put (r:KV kvs vs) (k:κ) (ry:RelV y u):KV (mW kvs k y) (stored vs k u):=by
 unfold mW stored;rw[r.any k]
 by_cases e:(vs.any fun kv=>decide (kv.1=k))=true
 ·rw[if_pos e,if_pos e];exact r.repl k ry
 ·rw[if_neg e,if_neg e];exact Paired.snoc r ⟨rfl,ry⟩
theorem KV.length {vs:List (κ×ag)} (r:KV kvs vs):kvs.length=vs.length:=jd r
theorem IW (kvs:List (κ×V)) (k:κ):(yY kvs k).length<=kvs.length:=d8 _ _
end
theorem Fp (r:RelV (kV k) u):(aO P w).is k u=true:=by
 cases k with
 |inl i=>obtain⟨t,e⟩:=(show ∃ t,u=u6 i t from r);subst e;exact Ar P w i t
 |inr x=>obtain⟨t,e⟩:=(show ∃ t,u=u7 x t from r);subst e;exact Aq P w x t
theorem yI:∀ {ks:List Key}{us:List ag},Vals (ks.map kV) us->ItemsAre (aO P w) ks us
 |[],_,r=>by rw[k9] at r;cases r;exact .nil
 |k::ks,_,r=>by
  rw[bg] at r;cases r with
  |cons h t=>exact .cons (Fp h) (yI t)
abbrev KT (H:Hp):List (List Key×V)->List (List Key×af×ag)->Prop:=j6 fun p q=>p.1=q.1/\H q.2.1=xo (.tup (p.1.map kV))/\RelV p.2 q.2.2
theorem KT.val (r:KT H kvs xs) (k:List Key):RelO (wX kvs k) ((lr xs k).map (·.2)):=by
 induction r with
 |nil=>exact im
 |@cons p q ps qs h t ih=>
  obtain⟨h1,_,h2⟩:=h
  by_cases e:p.1=k
  ·have e':q.1=k:=h1.symm.trans e;have b:lr (q::qs) k=xo q.2:=by simp[lr,gw,e']
   rw[nV e,b];exact h2
  ·have e':¬ q.1=k:=fun z=>e (h1.trans z);have b:lr (q::qs) k=lr qs k:=by simp[lr,gw,e']
   rw[lB e,b];exact ih
theorem KT.repl (r:KT H kvs xs) (k:List Key) (ry:RelV y u):
  KT H (kvs.map fun kv=>if kv.1=k then(kv.1,y) else kv) (xs.map (sh k u)):=by
 induction r with
 |nil=>exact .nil
 |@cons p q ps qs h t ih=>
  rw[bg,bg];refine .cons ?_ ih;obtain⟨h1,h2,h3⟩:=h;unfold sh
  by_cases e:p.1=k
  ·rw[if_pos e,if_pos (h1.symm.trans e)];exact⟨h1,h2,ry⟩
  ·rw[if_neg e,if_neg (fun z=>e (h1.trans z))];exact⟨h1,h2,h3⟩
theorem KT.put (r:KT H kvs xs) (k:List Key) (hb:H b=xo (.tup (k.map kV))) (ry:RelV y u):
  KT H (mW kvs k y) (jv xs k b u):=by
 have e:(kvs.any fun kv=>decide (kv.1=k))=(lr xs k).isSome:=by
  rw[Bz,(r.val k).isSome_eq,qj]
 unfold mW jv;rw[e]
 by_cases q:(lr xs k).isSome=true
 ·rw[if_pos q,if_pos q];exact r.repl k ry
 ·rw[if_neg q,if_neg q];exact Paired.snoc r ⟨rfl,hb,ry⟩
theorem KT.keeps (r:KT H kvs xs) (ht:∀ b ys,H b=xo (.tup ys)->H' b=xo (.tup ys)):KT H' kvs xs:=
 j6.mapP r fun _ _ z=>⟨z.1,ht _ _ z.2.1,z.2.2⟩
section
variable {P:da}{w:dh}{H:Hp}{h:c5}{a:af}
theorem MY (ok:HOk P w H h) (e:Rd H a u):ObjOk P w H h a u:=e.ok ok
theorem IY (ok:HOk P w H h) (e:Rd H a (.dK kvs)):kvs.length<=sizeLine/\(a==fk)=false/\∃ vs,KV kvs vs/\h.DictOf (aO P w) a vs:=
 show ObjOk P w H h a (.dK kvs) from MY ok e
theorem Pn (ok:HOk P w H h) (e:H a=xo (.dK kvs)):kvs.length<=sizeLine/\(a==fk)=false/\∃ vs,KV kvs vs/\h.DictOf (aO P w) a vs:=IY ok (.inl e)
theorem yG (ok:HOk P w H h) (e:H a=xo (.tup (ks.map kV))):(b0 (aO P w)).is h ks a:=by
 obtain⟨_,its,r,o,h1,h2,n,h3⟩:=(show ObjOk P w H h a (.tup (ks.map kV)) from ok a _ e);exact⟨o,its.toArray,n,h1,h2,h3,by simpa using yI r⟩
theorem IT (ok:HOk P w H h) (e:Rd H a (.dT kvs)):kvs.length<=sizeLine/\(a==fk)=false/\
  ∃ xs,KT H kvs xs/\h.DictOfH (b0 (aO P w)) a xs:=by
 obtain⟨z,y,xs,r,o,es,ep,h1,h2,h3,h4,h5⟩:=(show ObjOk P w H h a (.dT kvs) from MY ok e);refine⟨z,y,xs,r,o,es,ep,h1,h2,h3,h4,fun x hx=> ?_,h5⟩;have all:∀ {l:List (List Key×V)}{m:List (List Key×af×ag)},KT H l m->∀ x∈m,(b0 (aO P w)).is h x.1 x.2.1:=by
  intro l m q
  induction q with
  |nil=>intro x hx;exact nomatch hx
  |@cons p q ps qs hq t ih=>
   intro x hx;rcases aj.mp hx with e|hx
   ·subst e;exact yG ok (by rw[<- hq.1];exact hq.2.1)
   ·exact ih x hx
 exact all r x hx
theorem IU (ok:HOk P w H h) (e:H a=xo (.dT kvs)):kvs.length<=sizeLine/\(a==fk)=false/\
  ∃ xs,KT H kvs xs/\h.DictOfH (b0 (aO P w)) a xs:=IT ok (.inl e)
end
def DGet (H:Hp) (a:af) (y:V) (r:Option V):Prop:=
 (∃ kvs k,Rd H a (.dK kvs)/\y=kV k/\r=wX kvs k)∨∃ kvs k b,Rd H a (.dT kvs)/\y=.ref b/\H b=xo (.tup (k.map kV))/\r=wX kvs k
def DPut (H:Hp) (a:af) (y v:V) (H':Hp):Prop:=
 (∃ kvs k,H a=xo (.dK kvs)/\y=kV k/\kvs.length<sizeLine/\H'=upd H a (.dK (mW kvs k v)))∨
 ∃ kvs k b,H a=xo (.dT kvs)/\y=.ref b/\H b=xo (.tup (k.map kV))/\kvs.length<sizeLine/\H'=upd H a (.dT (mW kvs k v))
theorem DGet.k {k:Key} (e:H a=xo (.dK kvs)):DGet H a (kV k) (wX kvs k):=.inl ⟨kvs,k,.inl e,rfl,rfl⟩
theorem DGet.t {k:List Key} (e:H a=xo (.dT kvs)) (eb:H b=xo (.tup (k.map kV))):DGet H a (.ref b) (wX kvs k):=.inr ⟨kvs,k,b,.inl e,rfl,eb,rfl⟩
theorem DPut.k {k:Key} (e:H a=xo (.dK kvs)) (hl:kvs.length<sizeLine):DPut H a (kV k) v (upd H a (.dK (mW kvs k v))):=.inl ⟨kvs,k,e,rfl,hl,rfl⟩
theorem DPut.t {k:List Key} (e:H a=xo (.dT kvs)) (eb:H b=xo (.tup (k.map kV))) (hl:kvs.length<sizeLine):
  DPut H a (.ref b) v (upd H a (.dT (mW kvs k v))):=.inr ⟨kvs,k,b,e,rfl,eb,hl,rfl⟩
section
variable {X:Cx}{pins:List (af×Obj)}{σ:St}{H:Hp}{s:aq}{a:af}{y v:V}{u r:ag}{o:Option V}{A:dm}{E:ag->aq->Prop}
theorem Inv.big (I:Inv X pins σ H s):fk<s.heap.objs.size:=by
 have h:ce<s.heap.objs.size:=(I.mod.glob.keeps I.bk).lt;exact Nat.lt_trans (by decide) h
theorem Gm (hu:A.units+1<d7) (I:Inv X pins σ H s) (g:DGet H a y (xo v)) (ry:RelV y u) (h:∀ w' s',Inv X pins σ H s'->RelV v w'->Q w' s'):
  bc (model X.prog X.w) A (pp (.ref a) u) Q E s:=by
 rcases g with⟨kvs,k,e,ey,l⟩|⟨kvs,k,b,e,ey,eb,l⟩
 ·subst ey;obtain⟨z,hd,vs,rel,dd⟩:=IY I.hok e;obtain⟨w',hw,rw'⟩:=RelO.some_of (v:=v) (o:=qt vs k) (by rw[l];exact rel.val k);exact wpAny_getItem_of (Fp ry) dd.mapOf hw (h w' _ (I.tok _) rw')
 ·subst ey;cases (show u=ck b from ry);obtain⟨z,hd,xs,rel,dd⟩:=IT I.hok e;obtain⟨w',hw,rw'⟩:=RelO.some_of (v:=v) (o:=(lr xs k).map (·.2)) (by rw[l];exact rel.val k);obtain⟨p,hp,hp2⟩:=n8.mp hw;refine wpAny_getItem_heap (ky hu) (yG I.hok eb) dd hp ?_;rw[hp2];exact h w' _ (I.tok _) rw'
theorem Su (hu:A.units+1<d7) (I:Inv X pins σ H s) (g:DGet H a y o) (ry:RelV y u) (h:∀ s',Inv X pins σ H s'->Q (.bool o.isSome) s'):
  bc (model X.prog X.w) A (fw .In u (.ref a)) Q E s:=by
 rcases g with⟨kvs,k,e,ey,l⟩|⟨kvs,k,b,e,ey,eb,l⟩
 ·subst ey;obtain⟨z,hd,vs,rel,dd⟩:=IY I.hok e;refine wpAny_in_of (Fp ry) hd dd.mapOf ?_;rw[<- (rel.val k).isSome_eq,<- l];exact h _ (I.tok _)
 ·subst ey;cases (show u=ck b from ry);obtain⟨z,hd,xs,rel,dd⟩:=IT I.hok e;refine wpAny_in_heap (ky hu) (yG I.hok eb) hd dd ?_;have q:=(rel.val k).isSome_eq;rw[qj] at q;rw[<- q,<- l];exact h _ (I.tok _)
theorem qP (I:Inv X pins σ H s) (mu:Mut (H a)) (hs:f7 a s.heap h') (he:∃ q,h'.get? a=xo q) (new:ObjOk X.prog X.w (upd H a ob) h' a ob):
  Inv X pins σ (upd H a ob) { s with heap:=h',toks:=t' }:=
 I.write (x:=a) (e:=a) mu (.inl rfl) (fun b q hb z=>(hs.2 b hb).trans z) he new
theorem JN (z:kvs.length<=sizeLine) (hd:(a==fk)=false) (rel:KV kvs vs) (dd:h'.DictOf (aO P w) a vs):
  ObjOk P w H' h' a (.dK kvs):=⟨z,hd,vs,rel,dd⟩
theorem Gh (hu:A.units+1<d7) (I:Inv X pins σ H s) (g:DPut H a y v H') (ry:RelV y u) (rv:RelV v r) (h:∀ s',Inv X pins σ H' s'->Q () s'):
  bc (model X.prog X.w) A (setItem (.ref a) u r) Q E s:=by
 rcases g with⟨kvs,k,e,ey,l,eH⟩|⟨kvs,k,b,e,ey,eb,l,eH⟩
 ·subst ey eH;obtain⟨z,hd,vs,rel,dd⟩:=Pn I.hok e;have hz:vs.length<=sizeLine:=by rw[<- rel.length];exact z
  have hl:(mW kvs k v).length<=sizeLine:=by have:=gW kvs k v;omega
  refine wpAny_setItem_pairs (hsz:=hz) (Fp ry) dd fun h' dd' hs=>h _ ?_;have he:∃ q,h'.get? a=xo q:=let ⟨q,_,_,hq,_⟩:=dd';⟨q,hq⟩;exact qP I (by rw[e];exact im) hs he (JN hl hd (rel.put k rv) dd')
 ·subst ey eH;cases (show u=ck b from ry);obtain⟨z,hd,xs,rel,dd⟩:=IU I.hok e;have hz:xs.length<=sizeLine:=by rw[<- jd rel];exact z
  have hl:(mW kvs k v).length<=sizeLine:=by have:=gW kvs k v;omega
  refine wpAny_setItem_heap (hsz:=hz) (ky hu) (yG I.hok eb) dd fun h' dd' hs=>h _ ?_;obtain⟨q,es,ep,hq,h2,h3,h4,_,h5⟩:=dd';refine qP I (by rw[e];exact im) hs ⟨q,hq⟩ ⟨hl,hd,_,(rel.put k eb rv).keeps fun c ys ec=> ?_,q,es,ep,hq,h2,h3,h4,h5⟩;rw[aG (Ls ec e (fun z=>nomatch z))];exact ec
end
section
variable {X:Cx}{pins:List (af×Obj)}{σ:St}{H:Hp}{s:aq}{a:af}{kvs:List (Key×V)}{k:Key}{u:ag}{A:dm}{E:ag->aq->Prop}
end
def Ri (i:bw):Prop:=∀ ov iv,subscripted i false ov iv=operate [ov,iv] (pp ov iv)
theorem JY {T id:String}
  (hl:ql (.type T) "__getitem__"=pure (xo (.builtin id))) (hs:Ri slice)
  (h:bc (model prog w) A (eval value env) (fun o s₁=>bc (model prog w) A (eval slice env) (fun i s₂=>s₂.TypeIs o T/\bc (model prog w) A (pp o i) Q E s₂) E s₁) E s):
  bc (model prog w) A (eval (.Subscript value slice pos) env) Q E s:=by
 refine Subscript_ (g8 h (fun o s₁ h₁=>g8 h₁ (fun i s₂ h₂=> ?_) fun _ _ x=>x) fun _ _ x=>x);obtain⟨hT,h₂⟩:=h₂;unfold uv;refine ae ?_;rw[getitemInPython_of_ne hT.not_modules];refine ae (si hT hl ?_);have fin:bc (model prog w) A (subscripted slice false o i) (fun r s₃=>bc (model prog w) A (letTemporaryGo value o r >>= fun _=>pure r) Q E s₃) E s₂:=by
  rw[hs o i];exact wpAny_operating (g8 h₂ (fun r s₃ h₃=>ae (wpAny_letTemporaryGo (ao h₃))) fun _ _ x=>x)
 first
  |exact ao (ae fin)
  |exact ae (ao (ae fin))
  |exact ae fin
theorem AL (I:Inv X pins σ H s) (g:DGet H a y o):s.TypeIs (.ref a) "dict":=by
 rcases g with⟨kvs,k,e,_,_⟩|⟨kvs,k,b,e,_,_,_⟩
 ·obtain⟨_,_,vs,_,dd⟩:=IY I.hok e;exact dd.typeIs
 ·obtain⟨_,_,xs,_,dd⟩:=IT I.hok e;exact dd.typeIs
def Qf (td ty:TE):TE:=fun σ H Q=>td σ H fun x H1=>ty σ H1 fun y H2=>∃ a v,x=.ref a/\DGet H2 a y (xo v)/\Q v H2
def RW (ty td:TE):TE:=fun σ H Q=>ty σ H fun y H1=>td σ H1 fun x H2=>∃ a o,x=.ref a/\DGet H2 a y o/\Q (.bl o.isSome) H2
def Qk (td ty tv:TE):TS:=fun D σ H=>tv σ H fun v H1=>td σ H1 fun x H2=>ty σ H2 fun y H3=>∃ a H4,x=.ref a/\DPut H3 a y v H4/\D.nx σ H4
section
variable {X:Cx}{o i e value:bw}{pos pos' tpos:Pos}{td ty tv:TE}
theorem Kw (hu:X.A.units+1<d7) (ho:PE X o td) (hi:PE X i ty) (hs:Ri i):PE X (.Subscript o i pos) (Qf td ty):=by
 intro pins s σ H Q I h;refine JY PySem.F.slot_dict_getitem.lookup hs (thn (ho pins s σ H _ I h) fun u s1 ⟨x,H1,I1,rx,q1⟩=>thn (hi pins s1 σ H1 _ I1 q1) fun iv s2 ⟨y,H2,I2,ry,a,v,ex,g,q2⟩=> ?_);subst ex;obtain rfl:u=ck a:=rx;exact⟨AL I2 g,Gm hu I2 g ry fun w' s3 I3 rw'=>⟨v,H2,I3,rw',q2⟩⟩
theorem NE (hu:X.A.units+1<d7) (hi:PE X i ty) (ho:PE X o td):PC X .In i o (RW ty td):=by
 intro pins s σ H Q I h;refine thn (hi pins s σ H _ I h) fun iv s1 ⟨y,H1,I1,ry,q1⟩=>thn (ho pins s1 σ H1 _ I1 q1) fun u s2 ⟨x,H2,I2,rx,a,ov,ex,g,q2⟩=> ?_;subst ex;obtain rfl:u=ck a:=rx;exact Su hu I2 g ry fun s3 I3=>⟨.bl ov.isSome,H2,I3,rfl,q2⟩
theorem Kl (hu:X.A.units+1<d7) (ho:PE X o td) (hi:PE X i ty) (hv:PE X value tv) (hs:jm value (xo (.Subscript o i pos')) pos.line X.env=pure false):
  PS X (.Assign [.Subscript o i pos'] value pos) (Qk td ty tv):=by
 intro pins s σ H D I h;refine wpAny_Assign_Subscript (thn (hv pins s σ H _ I h) fun r s1 ⟨v,H1,I1,rv,q1⟩=>thn (ho pins s1 σ H1 _ I1 q1) fun u s2 ⟨x,H2,I2,rx,q2⟩=>thn (hi pins s2 σ H2 _ I2 q2) fun iv s3 ⟨y,H3,I3,ry,a,H4,ex,g,q3⟩=> ?_) hs;subst ex;obtain rfl:u=ck a:=rx;exact Gh hu I3 g ry rv fun s4 I4=>⟨σ,H4,I4,q3⟩
end
theorem IZ (h:c5) (hb:fk<h.objs.size):ObjOk P w H (h.push { cls:=.type "dict",data:=.dict #[] }) h.objs.size (.dK []):=
 ⟨ia _,beq_eq_false_iff_ne.mpr (bz (ci hb)),[],.nil,Heap.DictOf.new h⟩
theorem IV (h:c5) (hb:fk<h.objs.size):ObjOk P w H (h.push { cls:=.type "dict",data:=.dict #[] }) h.objs.size (.dT []):=
 ⟨ia _,beq_eq_false_iff_ne.mpr (bz (ci hb)),[],.nil,_,#[],0,bv _ rfl,⟨rfl,rfl,rfl⟩,rfl,rfl,xb⟩
def MQ:TE:=fun _ H Q=>∀ p,H p=xp->Q (.ref p) (upd H p (.dT []))
section
variable {X:Cx}{pos:Pos}
theorem Hy:PE X (.Dict [] [] pos) MQ:=fun pins s σ H Q I h=>
 wpAny_Dict_empty ⟨.ref s.heap.objs.size,_,I.laid (a:=s.heap.objs.size) (o:=.dT []) (t':=s.toks) (fun _ _ q=>aw _ q) (bf _) (IV s.heap I.big),rfl,h _ (I.hok.fresh (bf _))⟩
end
def BE:List (TE×TE)->St->Hp->(List (V×V)->Hp->Prop)->Prop
 |[],_,H,Q=>Q [] H
 |(tk,tv)::r,σ,H,Q=>tk σ H fun x H1=>tv σ H1 fun y H2=>BE r σ H2 fun ps H3=>Q ((x,y)::ps) H3
abbrev VV:List (V×V)->List (ag×ag)->Prop:=j6 fun p q=>RelV p.1 q.1/\RelV p.2 q.2
def PPs (X:Cx) (pos:Pos) (keys:List (Option bw)) (values:List bw) (trs:List (TE×TE)):Prop:=
 ∀(pins:List (af×Obj)) (s:aq) (σ:St) (H:Hp) (Q:List (V×V)->Hp->Prop),Inv X pins σ H s->BE trs σ H Q->
  bc (model X.prog X.w) X.A (evalPairs (pairTrees keys values X.env pos)) (fun vs s'=>∃ ps H',Inv X pins σ H' s'/\VV ps vs/\Q ps H') X.xe s
theorem Kn:PPs X pos [] [] []:=fun pins s σ H Q I h=>pairTrees_nil_walk ⟨[],H,I,.nil,h⟩
theorem Ht (hk:PE X k tk) (hv:PE X v tv) (hr:PPs X pos ks vs trs):
  PPs X pos (xo k::ks) (v::vs) ((tk,tv)::trs):=fun pins s σ H Q I h=>
 pairTrees_cons_walk (thn (hk pins s σ H _ I h) fun u s1 ⟨x,H1,I1,rx,q1⟩=>thn (hv pins s1 σ H1 _ I1 q1) fun w2 s2 ⟨y,H2,I2,ry,q2⟩=>
  thn (hr pins s2 σ H2 _ I2 q2) fun ws s3 ⟨ps,H3,I3,rel,q3⟩=>⟨(x,y)::ps,H3,I3,.cons ⟨rx,ry⟩ rel,q3⟩)
noncomputable def mergeK (kvs more:List (Key×V)):List (Key×V):=more.foldl (fun acc kv=>mW acc kv.1 kv.2) kvs
theorem KV.merge:∀ {more:List (Key×V)}{rs:List (Key×ag)}{kvs:List (Key×V)}{vs:List (Key×ag)},KV more rs->KV kvs vs->KV (mergeK kvs more) (merged vs rs):=by
 intro more rs kvs vs r;unfold KV at r
 induction r generalizing kvs vs with
 |nil=>intro q;exact q
 |@cons p q ps qs h t ih=>
  intro r0;have e:KV (mW kvs p.1 p.2) (stored vs q.1 q.2):=by
   have:=r0.put p.1 h.2
   rw[<- h.1];exact this
  exact ih e
theorem lQ:∀(more kvs:List (Key×V)),(mergeK kvs more).length<=kvs.length+more.length
 |[],kvs=>by show kvs.length<=kvs.length+0;omega
 |p::r,kvs=>by
  have h1:=lQ r (mW kvs p.1 p.2);have h2:=gW kvs p.1 p.2
  show(mergeK (mW kvs p.1 p.2) r).length<=_
  rw[b4];omega
theorem uG:∀ {kvs:List (Key×V)}{ws:List (ag×ag)},VV (kvs.map fun kv=>(kV kv.1,kv.2)) ws->∃ rs,Carries (aO P w) ws rs/\KV kvs rs
 |[],_,r=>by rw[k9] at r;cases r;exact⟨[],im,.nil⟩
 |p::kvs,_,r=>by
  rw[bg] at r;cases r with
  |@cons a b as bs h t=>
   obtain⟨rs,c,q⟩:=uG (P:=P) (w:=w) t;obtain⟨b1,b2⟩:=b;exact⟨(p.1,b2)::rs,⟨Fp h.1,rfl,c⟩,.cons ⟨rfl,h.2⟩ q⟩
def Qe (trs:List (TE×TE)):TE:=fun σ H Q=>∀ p,H p=xp->BE trs σ (upd H p (.dK [])) fun ps H2=>H2 p=xo (.dK [])/\∃ kvs:List (Key×V),ps=kvs.map (fun kv=>(kV kv.1,kv.2))/\kvs.length<=15/\Q (.ref p) (upd H2 p (.dK (mergeK [] kvs)))
theorem Kv (h:PPs X pos keys values trs) (hall:keys.all (·.isSome)=true) (hl:keys.length=values.length) (h0:keys≠[])
  (h15:keys.length<=15):PE X (.Dict keys values pos) (Qe trs):=by
 intro pins s σ H Q I q;have hn:=I.hok.fresh (bf s.heap.objs.size);have I1:=I.laid (a:=s.heap.objs.size) (o:=.dK []) (h':=s.heap.push { cls:=.type "dict",data:=.dict #[] }) (t':=s.toks) (fun _ _ q=>aw _ q) (bf _) (IZ s.heap I.big);refine wpAny_Dict_walk (knd:=aO X.prog X.w) hall hl h0 h15 (thn (h pins _ σ _ _ I1 (q _ hn)) fun ws s2 ⟨ps,H2,I2,rel,e,kvs,ep,lk,q2⟩=> ?_);subst ep;obtain⟨rs,c,rk⟩:=uG (P:=X.prog) (w:=X.w) rel;obtain⟨z,hd,vs0,r0,dd⟩:=Pn I2.hok e;cases r0;refine⟨rs,c,dd,fun h' dd' hs=>⟨.ref s.heap.objs.size,_,?_,rfl,q2⟩⟩;have hz:(mergeK [] kvs).length<=sizeLine:=by
  have h1:=lQ kvs [];rw[ku] at h1;rw[bt];omega
 have he:∃ q,h'.get? s.heap.objs.size=xo q:=let ⟨q,_,_,hq,_⟩:=dd';⟨q,hq⟩;exact qP I2 (by rw[e];exact im) hs he (JN hz hd (rk.merge .nil) dd')
section
variable {X:Cx}{pins:List (af×Obj)}{σ:St}{H:Hp}{s:aq}{a:af}{y d:V}{u r:ag}{o:Option V}{A:dm}{E:ag->aq->Prop}
end
section
variable {X:Cx}{o e f:bw}{apos cpos:Pos}{td ty tx:TE}
end
section
variable {X:Cx}{pins:List (af×Obj)}{σ:St}{H:Hp}{s:aq}{a:af}{kvs:List (Key×V)}{A:dm}{E:ag->aq->Prop}
end
section
variable {X:Cx}{pins:List (af×Obj)}{σ:St}{H:Hp}{s:aq}{a:af}{y:V}{u:ag}{A:dm}{E:ag->aq->Prop}
end
end L2
namespace L2
section
variable {κ:Type} [DecidableEq κ]
end
end L2
end
section
namespace L2.MB
inductive D where
 |non|bl (b:Bool)|int (i:Int)|str (x:Str)|lst (ds:List D)|tup (ds:List D)
 /-- an object that is told by its number -/
 |obj (n:Nat)
 /-- a list that is handed in and only read -/
 |scr (ds:List D)
 deriving Inhabited
structure Okk where
 p:af->Prop
 al:Nat->Option af
instance:CoeFun Okk (fun _=>af->Prop):=⟨Okk.p⟩
instance:Coe Okk (af->Prop):=⟨Okk.p⟩
noncomputable def Okk.all:Okk:=⟨fun _=>True,fun _=>xp⟩
def RL (K:aa) (ok:Okk) (H:Hp) (a:af) (xs:List V):Prop:=ok a/\H a=xo (.lst xs)
def RC (K:aa) (ok:Okk) (H:Hp) (a:af) (xs:List V):Prop:=
 (ok a/\Rd H a (.lst xs))∨
  ∃(o:Obj) (its:Array ag) (n:Nat),K.lookup a=xo o/\o.cls=.type "list"/\o.dict=xp/\o.data=.seq its n/\its.size<=sizeLine/\Vals xs its.toList
def RT (K:aa) (ok:Okk) (H:Hp) (a:af) (xs:List V):Prop:=ok a/\H a=xo (.tup xs)
section
variable {K:aa}{ok ok':Okk}{H H':Hp}{a:af}{xs:List V}
theorem RL.sq (h:RL K ok H a xs):SqL K H a xs:=.inl (.inl h.2)
theorem RC.sq (h:RC K ok H a xs):SqL K H a xs:=h.elim (fun z=>.inl z.2) .inr
theorem RT.sq (h:RT K ok H a xs):SqT K H a xs:=.inl (.inl h.2)
theorem Rd.mono (f:∀ b o,ok b->H b=xo o->ok' b/\H' b=xo o) (k:ok a) (h:Rd H a u):ok' a/\Rd H' a u:=by
 rcases h with h|⟨o,h⟩
 ·exact⟨(f _ _ k h).1,.inl (f _ _ k h).2⟩
 ·exact⟨(f _ _ k h).1,.inr ⟨o,(f _ _ k h).2⟩⟩
theorem RL.mono (f:∀ b o,ok b->H b=xo o->ok' b/\H' b=xo o) (h:RL K ok H a xs):RL K ok' H' a xs:=f _ _ h.1 h.2
theorem RC.mono (f:∀ b o,ok b->H b=xo o->ok' b/\H' b=xo o) (h:RC K ok H a xs):RC K ok' H' a xs:=
 h.elim (fun z=>.inl (Rd.mono f z.1 z.2)) .inr
theorem RT.mono (f:∀ b o,ok b->H b=xo o->ok' b/\H' b=xo o) (h:RT K ok H a xs):RT K ok' H' a xs:=f _ _ h.1 h.2
end
mutual
inductive Rep (K:aa) (ok:Okk) (H:Hp):V->D->Prop
 |non:Rep K ok H .non .non
 |bl (b:Bool):Rep K ok H (.bl b) (.bl b)
 |int (i:Int):Rep K ok H (.int i) (.int i)
 |str (x:Str):Rep K ok H (.str x) (.str x)
 |lst {a:af}{xs:List V}{ds:List D}:RL K ok H a xs->Reps K ok H xs ds->Rep K ok H (.ref a) (.lst ds)
 |tup {a:af}{xs:List V}{ds:List D}:RT K ok H a xs->Reps K ok H xs ds->Rep K ok H (.ref a) (.tup ds)
 |obj {n:Nat}{a:af}:ok.al n=xo a->Rep K ok H (.ref a) (.obj n)
 |scr {a:af}{xs:List V}{ds:List D}:RC K ok H a xs->Reps K ok H xs ds->Rep K ok H (.ref a) (.scr ds)
inductive Reps (K:aa) (ok:Okk) (H:Hp):List V->List D->Prop
 |nil:Reps K ok H [] []
 |cons {v:V}{d:D}{vs:List V}{ds:List D}:Rep K ok H v d->Reps K ok H vs ds->Reps K ok H (v::vs) (d::ds)
end
section
variable {K:aa}{ok ok':Okk}{H H':Hp}
mutual
theorem Rep.mono (f:∀ b o,ok b->H b=xo o->ok' b/\H' b=xo o) (g:∀ n a,ok.al n=xo a->ok'.al n=xo a:=by exact fun _ _ h=>h):∀ {v:V}{d:D},Rep K ok H v d->Rep K ok' H' v d
 |_,_,.non=>.non
 |_,_,.bl b=>.bl b
 |_,_,.int i=>.int i
 |_,_,.str x=>.str x
 |_,_,.lst h r=>.lst (h.mono f) (Reps.mono f g r)
 |_,_,.tup h r=>.tup (h.mono f) (Reps.mono f g r)
 |_,_,.obj e=>.obj (g _ _ e)
 |_,_,.scr h r=>.scr (h.mono f) (Reps.mono f g r)
theorem Reps.mono (f:∀ b o,ok b->H b=xo o->ok' b/\H' b=xo o) (g:∀ n a,ok.al n=xo a->ok'.al n=xo a:=by exact fun _ _ h=>h):∀ {vs:List V}{ds:List D},Reps K ok H vs ds->Reps K ok' H' vs ds
 |_,_,.nil=>.nil
 |_,_,.cons h r=>.cons (Rep.mono f g h) (Reps.mono f g r)
end
theorem Rep.same {v:V}{d:D} (e:Same H H') (h:Rep K ok H v d):Rep K ok H' v d:=h.mono fun b o k q=>⟨k,e b o q⟩
theorem Reps.same {vs:List V}{ds:List D} (e:Same H H') (h:Reps K ok H vs ds):Reps K ok H' vs ds:=h.mono fun b o k q=>⟨k,e b o q⟩
theorem Rep.non_inv (h:Rep K ok H v .non):v=.non:=by cases h;rfl
theorem Rep.bl_inv (h:Rep K ok H v (.bl b)):v=.bl b:=by cases h;rfl
theorem Rep.int_inv (h:Rep K ok H v (.int i)):v=.int i:=by cases h;rfl
theorem Rep.str_inv (h:Rep K ok H v (.str x)):v=.str x:=by cases h;rfl
theorem Rep.lst_inv (h:Rep K ok H v (.lst ds)):∃ a xs,v=.ref a/\RL K ok H a xs/\Reps K ok H xs ds:=by cases h;exact⟨_,_,rfl,‹_›,‹_›⟩
theorem Rep.tup_inv (h:Rep K ok H v (.tup ds)):∃ a xs,v=.ref a/\RT K ok H a xs/\Reps K ok H xs ds:=by cases h;exact⟨_,_,rfl,‹_›,‹_›⟩
theorem Rep.scr_inv (h:Rep K ok H v (.scr ds)):∃ a xs,v=.ref a/\RC K ok H a xs/\Reps K ok H xs ds:=by cases h;exact⟨_,_,rfl,‹_›,‹_›⟩
theorem Rep.obj_inv (h:Rep K ok H v (.obj n)):∃ a,v=.ref a/\ok.al n=xo a:=by cases h;exact⟨_,rfl,‹_›⟩
theorem Reps.length:∀ {vs:List V}{ds:List D},Reps K ok H vs ds->vs.length=ds.length
 |_,_,.nil=>rfl
 |_,_,.cons _ r=>by rw[b4,b4,Reps.length r]
theorem Reps.get:∀ {vs:List V}{ds:List D}{i:Nat}{d:D},Reps K ok H vs ds->ds[i]?=xo d->∃ v,vs[i]?=xo v/\Rep K ok H v d
 |_,_,_,_,.nil,e=>by simp at e
 |_,_,0,_,.cons h _,e=>by
  simp at e;subst e;exact⟨_,rfl,h⟩
 |_,_,i+1,d,.cons _ r,e=>by
  obtain⟨v,h1,h2⟩:=Reps.get (i:=i) (d:=d) r (by simpa using e);exact⟨v,by simpa using h1,h2⟩
theorem Reps.getV:∀ {vs:List V}{ds:List D}{i:Nat}{v:V},Reps K ok H vs ds->vs[i]?=xo v->∃ d,ds[i]?=xo d/\Rep K ok H v d
 |_,_,_,_,.nil,e=>by simp at e
 |_,_,0,_,.cons h _,e=>by
  simp at e;subst e;exact⟨_,rfl,h⟩
 |_,_,i+1,v,.cons _ r,e=>by
  obtain⟨d,h1,h2⟩:=Reps.getV (i:=i) (v:=v) r (by simpa using e);exact⟨d,by simpa using h1,h2⟩
theorem Reps.append:∀ {vs ws:List V}{ds es:List D},Reps K ok H vs ds->Reps K ok H ws es->Reps K ok H (vs++ws) (ds++es)
 |_,_,_,_,.nil,s=>s
 |_,_,_,_,.cons h r,s=>.cons h (Reps.append r s)
theorem Reps.snoc (h:Reps K ok H vs ds) (q:Rep K ok H v d):Reps K ok H (vs++[v]) (ds++[d]):=h.append (.cons q .nil)
theorem Reps.take:∀ {vs:List V}{ds:List D} (n:Nat),Reps K ok H vs ds->Reps K ok H (vs.take n) (ds.take n)
 |_,_,0,_=>.nil
 |_,_,_+1,.nil=>.nil
 |_,_,n+1,.cons h r=>.cons h (Reps.take n r)
theorem Reps.drop:∀ {vs:List V}{ds:List D} (n:Nat),Reps K ok H vs ds->Reps K ok H (vs.drop n) (ds.drop n)
 |_,_,0,r=>r
 |_,_,_+1,.nil=>.nil
 |_,_,n+1,.cons _ r=>Reps.drop n r
theorem Reps.set (q:Rep K ok H v d):∀ {vs:List V}{ds:List D} (i:Nat),Reps K ok H vs ds->Reps K ok H (vs.set i v) (ds.set i d)
 |_,_,_,.nil=>.nil
 |_,_,0,.cons _ r=>.cons q r
 |_,_,i+1,.cons h r=>.cons h (Reps.set q i r)
theorem Reps.ints:∀(ns:List Int),Reps K ok H (ns.map V.int) (ns.map D.int)
 |[]=>.nil
 |n::ns=>.cons (.int n) (Reps.ints ns)
theorem Reps.of_ints:∀ {ns:List Int}{vs:List V},Reps K ok H vs (ns.map D.int)->vs=ns.map V.int
 |[],_,.nil=>rfl
 |n::ns,_,.cons h r=>by
  cases h;rw[Reps.of_ints r];rfl
theorem Rep.lst_new {p:af}{xs:List V}{ds:List D} (k:ok p) (n:H p=xp) (r:Reps K ok H xs ds):Rep K ok (upd H p (.lst xs)) (.ref p) (.lst ds):=
 .lst ⟨k,aP⟩ (r.mono fun b o q e=>⟨q,by rw[aG (aN e n)];exact e⟩)
theorem Rep.tup_new {p:af}{xs:List V}{ds:List D} (k:ok p) (n:H p=xp) (r:Reps K ok H xs ds):Rep K ok (upd H p (.tup xs)) (.ref p) (.tup ds):=
 .tup ⟨k,aP⟩ (r.mono fun b o q e=>⟨q,by rw[aG (aN e n)];exact e⟩)
end
theorem cH {H:Hp}{p:af}{o:HO} (n:H p=xp):Same H (upd H p o):=fun b u e=>by
 rw[aG (aN e n)];exact e
abbrev Rho:=List (Option D)
abbrev DF:=Rho->Option D
abbrev DB:=Rho->Option Bool
abbrev DL:=Rho->Option (List D)
structure OkH (ok:Okk) (H:Hp):Prop where
 fn:∀ b,H b=xp->ok b
 tp:∀ b xs,H b=xo (.tup xs)->ok b
instance {ok:Okk}{H:Hp}:CoeFun (OkH ok H) (fun _=>∀ b,H b=xp->ok b):=⟨OkH.fn⟩
theorem OkH.same {ok:Okk}{H H':Hp} (h:OkH ok H) (e:Same H H'):OkH ok H':=⟨fun b n=>h b (e.free n),fun b xs q=>by
 cases z:H b with
 |none=>exact h b z
 |some o=>
  rw[e b o z] at q;cases q;exact h.tp b xs z⟩
def EnvR (K:aa) (ok:Okk) (H:Hp) (σ:St) (ρ:Rho):Prop:=∀(i:Nat) (d:D),ρ[i]?=xo (xo d)->∃ v,σ[i]?=xo (xo v)/\Rep K ok H v d
theorem EnvR.same {K:aa}{ok:Okk}{H H':Hp}{σ:St}{ρ:Rho} (h:EnvR K ok H σ ρ) (e:Same H H'):EnvR K ok H' σ ρ:=fun i d q=>
 let ⟨v,a,b⟩:=h i d q
 ⟨v,a,b.same e⟩
def tD (K:aa) (f:DF):TE:=fun σ H Q=>∃(ok:Okk) (ρ:Rho) (d:D),OkH ok H/\EnvR K ok H σ ρ/\f ρ=xo d/\∀ v H',Same H H'->Rep K ok H' v d->Q v H'
def tDA (K:aa) (f:DL):TA:=fun σ H Q=>∃(ok:Okk) (ρ:Rho) (ds:List D),OkH ok H/\EnvR K ok H σ ρ/\f ρ=xo ds/\∀ vs H',Same H H'->Reps K ok H' vs ds->Q vs H'
abbrev DE (X:Cx) (e:bw) (f:DF):Prop:=PE X e (tD X.K f)
abbrev DA (X:Cx) (es:List bw) (f:DL):Prop:=PA X es (tDA X.K f)
theorem _root_.L2.PE.imp {X:Cx}{e:bw}{t t':TE} (h:PE X e t) (f:∀ σ H Q,t' σ H Q->t σ H Q):PE X e t':=fun pins s σ H Q I q=>h pins s σ H Q I (f _ _ _ q)
theorem _root_.L2.PT.imp {X:Cx}{e:bw}{t t':TT} (h:PT X e t) (f:∀ σ H Q,t' σ H Q->t σ H Q):PT X e t':=fun pins s σ H Q I q=>h pins s σ H Q I (f _ _ _ q)
theorem _root_.L2.PA.imp {X:Cx}{e:List bw}{t t':TA} (h:PA X e t) (f:∀ σ H Q,t' σ H Q->t σ H Q):PA X e t':=fun p pins s σ H Q I q=>h p pins s σ H Q I (f _ _ _ q)
theorem _root_.L2.PS.imp {X:Cx}{e:cx}{t t':TS} (h:PS X e t) (f:∀ D σ H,t' D σ H->t D σ H):PS X e t':=fun pins s σ H D I q=>h pins s σ H D I (f _ _ _ q)
theorem _root_.L2.PSs.imp {X:Cx}{e:List cx}{t t':TS} (h:PSs X e t) (f:∀ D σ H,t' D σ H->t D σ H):PSs X e t':=fun pins s σ H D I q=>h pins s σ H D I (f _ _ _ q)
noncomputable def DI (i:Nat):DF:=fun ρ=>ρ[i]?.join
noncomputable def dC (d:D):DF:=fun _=>xo d
noncomputable def d1 (g:D->Option D) (f:DF):DF:=fun ρ=>(f ρ).bind g
noncomputable def Rc:DL:=fun _=>xo []
noncomputable def Mp (f:DF) (r:DL):DL:=fun ρ=>(f ρ).bind fun d=>(r ρ).map fun ds=>d::ds
theorem bind_some {α β:Type}{o:Option α}{f:α->Option β}{b:β} (h:o.bind f=xo b):∃ a,o=xo a/\f a=xo b:=by
 cases o with
 |none=>cases h
 |some a=>exact⟨a,rfl,h⟩
section
variable {X:Cx}{e a b:bw}{es:List bw}{f fa fb:DF}{fl:DL}{pos:Pos}
theorem Po (h:PE X (.Name x pos) (Ro i)):DE X (.Name x pos) (DI i):=h.imp fun σ H Q ⟨ok,ρ,d,h1,h2,h3,h4⟩=>by
 have e:ρ[i]?=xo (xo d):=by
  unfold DI at h3;cases q:ρ[i]? with
  |none=>rw[q] at h3;cases h3
  |some o=>rw[q] at h3;cases o with
   |none=>cases h3
   |some d'=>cases h3;rfl
 obtain⟨v,e1,e2⟩:=h2 i d e;exact⟨v,e1,h4 v H (Same.refl H) e2⟩
theorem dv (i:Nat) (hN:X.N[i]?=xo x:=by rfl) (hv:Vis X.env.scope x:=by first|exact Or.inl rfl|exact Or.inr (Or.inl rfl)|exact Or.inr (Or.inr rfl)) (hd:(x==("__debug__":Str))=false:=by decide)
  (hcd:(x==("__classdict__":Str))=false:=by decide):DE X (.Name x pos) (DI i):=Po (Nq hN hv hd hcd)
theorem oK (h:PE X e (tC v)) (r:∀ K ok H,Rep K ok H v d):DE X e (dC d):=h.imp fun σ H Q ⟨ok,ρ,d',h1,h2,h3,h4⟩=>by
 cases h3;exact h4 v H (Same.refl H) (r _ _ _)
theorem Cu:DE X (.Constant (.int i) j pos) (dC (.int i)):=oK Nz fun _ _ _=>.int i
theorem Ra {b j pos}:DE X (.Constant (.bool b) j pos) (dC (.bl b)):=oK Qw fun _ _ _=>.bl b
theorem Pp:DE X (.Constant .none j pos) (dC .non):=oK Ny fun _ _ _=>.non
theorem Ct:DE X (.Constant (.str x) j pos) (dC (.str x)):=oK Nt fun _ _ _=>.str x
def Fit2 (K:aa) (r:R2) (g:D->D->Option D):Prop:=∀(ok:Okk) (H:Hp) (x y:V) (a b d:D) (Q:VK),OkH ok H->Rep K ok H x a->Rep K ok H y b->g a b=xo d->(∀ v H',Same H H'->Rep K ok H' v d->Q v H')->r x y H Q
def SA (K:aa) (r:V->Hp->VK->Prop) (g:D->Option D):Prop:=∀(ok:Okk) (H:Hp) (x:V) (a d:D) (Q:VK),OkH ok H->Rep K ok H x a->g a=xo d->(∀ v H',Same H H'->Rep K ok H' v d->Q v H')->r x H Q
def FitL (K:aa) (r:List V->Hp->VK->Prop) (g:List D->Option D):Prop:=∀(ok:Okk) (H:Hp) (xs:List V) (as:List D) (d:D) (Q:VK),OkH ok H->Reps K ok H xs as->g as=xo d->(∀ v H',Same H H'->Rep K ok H' v d->Q v H')->r xs H Q
noncomputable def toB:D->Option Bool
 |.bl b=>xo b
 |_=>xp
theorem oS (h:toB d=xo k):d=.bl k:=by
 cases d with
 |bl b=>cases h;rfl
 |_=>cases h
theorem QZ (ho:UnR X (unaryOp op) r) (F:SA X.K r g) (ha:DE X a fa):DE X (.UnaryOp op a pos) (d1 g fa):=
 (Qt ho ha).imp fun σ H Q ⟨ok,ρ,d,h1,h2,h3,h4⟩=>by
  obtain⟨x,e1,h3⟩:=bind_some h3;exact⟨ok,ρ,x,h1,h2,e1,fun v H1 s1 r1=>F ok H1 v x d Q (h1.same s1) r1 h3 fun w H3 s3 r3=>h4 w H3 (s1.trans s3) r3⟩
theorem Pq:DA X [] Rc:=(PA.imp BO) fun σ H Q ⟨ok,ρ,d,h1,h2,h3,h4⟩=>by
 cases h3;exact h4 [] H (Same.refl H) .nil
theorem Ml (ha:DE X e f) (hr:DA X es fl) (hs:au (e::es) X.env=(false,eval e X.env)::au es X.env:=by rfl):DA X (e::es) (Mp f fl):=
 (pK ha hr hs).imp fun σ H Q ⟨ok,ρ,ds,h1,h2,h3,h4⟩=>by
  obtain⟨x,e1,h3⟩:=bind_some h3;cases e2:fl ρ with
  |none=>rw[e2] at h3;cases h3
  |some r=>
   rw[e2] at h3;cases h3;exact⟨ok,ρ,x,h1,h2,e1,fun v H1 s1 r1=>⟨ok,ρ,r,h1.same s1,h2.same s1,e2,fun vs H2 s2 r2=>h4 (v::vs) H2 (s1.trans s2) (.cons (r1.same s2) r2)⟩⟩
noncomputable def nJ (ds:List D):Option D:=if ds.length<=sizeLine then xo (.tup ds) else xp
noncomputable def Dx (ds:List D):Option D:=if ds.length<=sizeLine then xo (.lst ds) else xp
theorem bJ {α:Type}{c:Prop} [Decidable c] {a b:α} (h:(if c then xo a else xp)=xo b):c/\a=b:=by
 by_cases hc:c
 ·rw[if_pos hc] at h;exact⟨hc,b3 h⟩
 ·rw[if_neg hc] at h;cases h
end
end L2.MB
end
section
namespace L2.MB
noncomputable def gI (g:Int->Int->Option D) (a b:D):Option D:=match a,b with
 |.int i,.int j=>g i j
 |_,_=>xp
theorem JK (h:gI g a b=xo d):∃ i j,a=.int i/\b=.int j/\g i j=xo d:=by
 unfold gI at h;split at h
 ·exact⟨_,_,rfl,rfl,h⟩
 ·cases h
noncomputable abbrev nM:=gI fun i j=>xo (.int (i+j))
noncomputable abbrev gSub:=gI fun i j=>xo (.int (i-j))
noncomputable abbrev gO:=gI fun i j=>if(-1000000000000000000<i/\i<1000000000000000000)∨(-1000000000000000000<j/\j<1000000000000000000) then xo (.int (i*j)) else xp
noncomputable abbrev cJ:=gI fun i j=>if 0<j then xo (.int (i % j)) else xp
noncomputable abbrev gLt:=gI fun i j=>xo (.bl (decide (i<j)))
noncomputable abbrev gLe:=gI fun i j=>xo (.bl (decide (i<=j)))
noncomputable abbrev gGt:=gI fun i j=>xo (.bl (decide (j<i)))
noncomputable abbrev gGe:=gI fun i j=>xo (.bl (decide (j<=i)))
theorem kH {K:aa}{g':Int->Int->D} (r:∀ i j ok H,Rep K ok H (g i j) (g' i j)):Fit2 K (rI0 g) (gI fun i j=>xo (g' i j)):=fun ok H x y a b d Q h1 ra rb e k=>by
 obtain⟨i,j,rfl,rfl,e⟩:=JK e;cases e;exact⟨i,j,ra.int_inv,rb.int_inv,k _ H (Same.refl H) (r i j ok H)⟩
theorem Pe {K:aa}{C C':Int->Int->Prop} [∀ i j,Decidable (C' i j)] {g:Int->Int->V}{g':Int->Int->D} (hC:∀ i j,C' i j->C i j) (r:∀ i j ok H,Rep K ok H (g i j) (g' i j)):
  Fit2 K (rI C g) (gI fun i j=>if C' i j then xo (g' i j) else xp):=fun ok H x y a b d Q h1 ra rb e k=>by
 obtain⟨i,j,rfl,rfl,e⟩:=JK e;obtain⟨hc,rfl⟩:=bJ e;exact⟨i,j,ra.int_inv,rb.int_inv,hC i j hc,k _ H (Same.refl H) (r i j ok H)⟩
section
variable {X:Cx}{e a b c:bw}{es:List bw}{f fa fb fc:DF}{fl:DL}{pos:Pos}
noncomputable def LU (a:D):Option D:=match a with
 |.int i=>xo (.int (-i))
 |_=>xp
theorem JO (ha:DE X a fa):DE X (.UnaryOp .USub a pos) (d1 LU fa):=QZ MK (fun ok H x a d Q h1 r e k=>by
 cases a with
 |int i=>cases e;exact⟨i,r.int_inv,k _ H (Same.refl H) (.int _)⟩
 |_=>cases e) ha
noncomputable def Rn:D->Option Bool
 |.non=>xo false
 |.bl b=>xo b
 |.int i=>xo (i !=0)
 |.str x=>if x.length<=sizeLine then xo ((x.length:Int) !=0) else xp
 |.lst ds=>xo (!ds.isEmpty)
 |.tup ds=>xo (!ds.isEmpty)
 |.obj _=>xp
 |.scr ds=>xo (!ds.isEmpty)
theorem Reps.isEmpty {K:aa} (h:Reps K ok H vs ds):vs.isEmpty=ds.isEmpty:=by cases h <;> rfl
theorem JV {K:aa} (h:Rep K ok H v d) (e:Rn d=xo k):Rf K v H k:=by
 cases h with
 |non=>cases e;exact rfl
 |bl b=>cases e;exact rfl
 |int i=>cases e;exact rfl
 |str x=>
  obtain⟨hz,rfl⟩:=bJ e;exact⟨hz,rfl⟩
 |lst h r=>
  cases e;exact .inl ⟨_,h.sq,by rw[r.isEmpty]⟩
 |tup h r=>
  cases e;exact .inr (.inl ⟨_,h.sq,by rw[r.isEmpty]⟩)
 |obj _=>cases e
 |scr h r=>
  cases e;exact .inl ⟨_,h.sq,by rw[r.isEmpty]⟩
theorem _root_.L2.PW.imp {X:Cx}{e:bw}{t t':TT} (h:PW X e t) (f:∀ σ H Q,t' σ H Q->t σ H Q):PW X e t':=fun wh pins s σ H Q I q=>h wh pins s σ H Q I (f _ _ _ q)
variable {ba bb:DB}{rest:List bw}
noncomputable def So (a:D):Option D:=(toB a).map fun k=>.bl (!k)
noncomputable def LW (a b:D):Option D:=match a,b with
 |.str x,.str y=>if x.length+y.length<=sizeLine then xo (.str (x++y)) else xp
 |_,_=>xp
noncomputable def gIx (a b:D):Option D:=match a,b with
 |.lst ds,.int i=>atI ds i
 |.scr ds,.int i=>atI ds i
 |.tup ds,.int i=>atI ds i
 |.str x,.int i=>if x.length<=sizeLine then(atI x.cps.toList i).map fun c=>.str ⟨#[c]⟩ else xp
 |_,_=>xp
theorem Reps.atI {K:aa} (h:Reps K ok H vs ds) (e:L2.atI ds i=xo d):∃ v,L2.atI vs i=xo v/\Rep K ok H v d:=by
 unfold L2.atI at e ⊢;rw[h.length];cases q:ixN ds.length i with
 |none=>rw[q] at e;cases e
 |some j=>
  rw[q] at e;exact h.get e
noncomputable def DJ (ds:List D) (lo hi:Option Int):List D:=(ds.drop (HT.sIx ds.length 0 lo)).take (HT.sIx ds.length ds.length hi-HT.sIx ds.length 0 lo)
theorem Reps.cut {K:aa} (h:Reps K ok H vs ds) (lo hi:Option Int):Reps K ok H (JP vs lo hi) (DJ ds lo hi):=by
 unfold JP DJ;rw[h.length];exact(h.drop _).take _
abbrev DO:=Rho->Option (Option Int)
noncomputable def tDO (K:aa) (f:DO):TO:=fun σ H Q=>∃(ok:Okk) (ρ:Rho) (o:Option Int),OkH ok H/\EnvR K ok H σ ρ/\f ρ=xo o/\∀ H',Same H H'->Q o H'
theorem _root_.L2.PO.imp {X:Cx}{e:Option bw}{t t':TO} (h:PO X e t) (f:∀ σ H Q,t' σ H Q->t σ H Q):PO X e t':=fun pins s σ H Q I q=>h pins s σ H Q I (f _ _ _ q)
abbrev DOp (X:Cx) (e:Option bw) (f:DO):Prop:=PO X e (tDO X.K f)
noncomputable def dNo:DO:=fun _=>xo xp
noncomputable def toI:D->Option Int
 |.int i=>xo i
 |_=>xp
theorem Af (h:toI d=xo i):d=.int i:=by
 cases d with
 |int b=>cases h;rfl
 |_=>cases h
noncomputable def dSo (f:DF):DO:=fun ρ=>(f ρ).bind fun d=>(toI d).map xo
theorem Mj:DOp X xp dNo:=PO.imp Kp fun σ H Q ⟨ok,ρ,o,h1,h2,h3,h4⟩=>by
 cases h3;exact h4 H (Same.refl H)
theorem Mi (h:DE X e f):DOp X (xo e) (dSo f):=PO.imp (Ko h) fun σ H Q ⟨ok,ρ,o,h1,h2,h3,h4⟩=>by
 obtain⟨d,e1,e2⟩:=bind_some h3;cases e3:toI d with
 |none=>rw[e3] at e2;cases e2
 |some i=>
  rw[e3] at e2;cases e2;obtain rfl:=Af e3;exact⟨ok,ρ,_,h1,h2,e1,fun v H1 s1 r1=>⟨i,r1.int_inv,h4 H1 s1⟩⟩
noncomputable def gSl (a:D) (lo hi:Option Int):Option D:=match a with
 |.lst ds=>xo (.lst (DJ ds lo hi))
 |.scr ds=>xo (.lst (DJ ds lo hi))
 |.tup ds=>if HT.sIx ds.length 0 lo=0/\HT.sIx ds.length ds.length hi=ds.length then xp else xo (.tup (DJ ds lo hi))
 |_=>xp
noncomputable def QU (ds:List D):Option D:=match ds with
 |[.lst xs]=>xo (.int xs.length)
 |[.scr xs]=>xo (.int xs.length)
 |[.tup xs]=>xo (.int xs.length)
 |[.str x]=>if x.length<=sizeLine then xo (.int x.length) else xp
 |_=>xp
theorem Reps.one_inv {K:aa} (h:Reps K ok H vs [d]):∃ v,vs=[v]/\Rep K ok H v d:=by
 cases h with
 |cons a r=>cases r;exact⟨_,rfl,a⟩
theorem Reps.two_inv {K:aa} (h:Reps K ok H vs [d,d']):∃ v v',vs=[v,v']/\Rep K ok H v d/\Rep K ok H v' d':=by
 cases h with
 |cons a r=>
  obtain⟨v',rfl,b⟩:=r.one_inv;exact⟨_,_,rfl,a,b⟩
theorem Ma {K:aa}:FitL K (fun xs H Q=>∃ x n,xs=[x]/\Rl K x H n/\Q (.int n) H) QU:=fun ok H xs as d Q h1 r e k=>by
 unfold QU at e;split at e
 ·cases e;obtain⟨v,rfl,r1⟩:=r.one_inv;obtain⟨p,ys,rfl,g,r2⟩:=r1.lst_inv;exact⟨_,_,rfl,.inl ⟨_,g.sq,r2.length.symm⟩,k _ H (Same.refl H) (.int _)⟩
 ·cases e;obtain⟨v,rfl,r1⟩:=r.one_inv;obtain⟨p,ys,rfl,g,r2⟩:=r1.scr_inv;exact⟨_,_,rfl,.inl ⟨_,g.sq,r2.length.symm⟩,k _ H (Same.refl H) (.int _)⟩
 ·cases e;obtain⟨v,rfl,r1⟩:=r.one_inv;obtain⟨p,ys,rfl,g,r2⟩:=r1.tup_inv;exact⟨_,_,rfl,.inr ⟨_,g.sq,r2.length.symm⟩,k _ H (Same.refl H) (.int _)⟩
 ·obtain⟨hz,rfl⟩:=bJ e;obtain⟨v,rfl,r1⟩:=r.one_inv;obtain rfl:=r1.str_inv;exact⟨_,_,rfl,⟨hz,rfl⟩,k _ H (Same.refl H) (.int _)⟩
 ·cases e
end
noncomputable def kJ (f:D->D->Option Bool):List D->List D->Option Bool
 |[],_=>xo true
 |_::_,[]=>xo true
 |x::xs,y::ys=>(f x y).bind fun b=>(kJ f xs ys).map fun c=>b&&c
noncomputable def eqS:D->D->Bool
 |.non,.non=>true
 |.bl a,.bl b=>a==b
 |.bl a,.int b=>(if a then 1 else 0)==b
 |.int a,.bl b=>a==(if b then 1 else 0)
 |.int a,.int b=>a==b
 |.str a,.str b=>a==b
 |_,_=>false
noncomputable def eqD:Nat->D->D->Option Bool
 |n+1,.lst xs,.lst ys=>if xs.length=ys.length then kJ (eqD n) xs ys else xo false
 |n+1,.tup xs,.tup ys=>(kJ (eqD n) xs ys).map fun k=>k&&xs.length==ys.length
 |0,.lst _,.lst _=>xp
 |0,.tup _,.tup _=>xp
 |_,.obj _,_=>xp
 |_,_,.obj _=>xp
 |_,.scr _,_=>xp
 |_,_,.scr _=>xp
 |_,a,b=>xo (eqS a b)
noncomputable def eAt (f:D->D->Option Bool) (xs ys:List D) (j:Nat):Bool:=match xs[j]?,ys[j]? with
 |some x,xo y=>(f x y).getD false
 |_,_=>false
theorem mG:∀ {xs ys:List D}{k:Bool}{j:Nat}{x y:D},kJ f xs ys=xo k->xs[j]?=xo x->ys[j]?=xo y->f x y=xo (eAt f xs ys j)
 |[],_,_,_,_,_,_,h,_=>by simp at h
 |_::_,[],_,_,_,_,_,_,h=>by simp at h
 |x'::xs,y'::ys,k,j,x,y,h,h1,h2=>by
  obtain⟨b,e1,e2⟩:=bind_some h;cases q:kJ f xs ys with
  |none=>rw[q] at e2;cases e2
  |some c=>
   cases j with
   |zero=>
    simp at h1 h2;subst h1 h2;simp[eAt,e1]
   |succ j=>
    simp at h1 h2
    have:=mG q h1 h2
    simpa [eAt] using this
theorem wE:∀ {xs ys:List D}{k:Bool},kJ f xs ys=xo k->k=(bp (min xs.length ys.length)).all (eAt f xs ys)
 |[],ys,k,h=>by
  cases h;simp
 |_::_,[],k,h=>by
  cases h;simp
 |x::xs,y::ys,k,h=>by
  obtain⟨b,e1,e2⟩:=bind_some h;cases q:kJ f xs ys with
  |none=>rw[q] at e2;cases e2
  |some c=>
   rw[q] at e2;cases e2;have ih:=wE q;have em:min (x::xs).length (y::ys).length=min xs.length ys.length+1:=by
    rw[b4,b4];omega
   rw[em,tw,List.all_cons,List.all_map];have e0:eAt f (x::xs) (y::ys) 0=b:=by simp[eAt,e1]
   have e3:(eAt f (x::xs) (y::ys)∘Nat.succ)=eAt f xs ys:=by
    funext j
    simp[eAt]
   rw[e0,e3,ih]
theorem dM (n m:Nat) (b:D):eqD n (.obj m) b=xp:=by cases n <;> cases b <;> rfl
theorem dL (n m:Nat) (a:D):eqD n a (.obj m)=xp:=by cases n <;> cases a <;> rfl
theorem dJ (n:Nat) (m:List D) (b:D):eqD n (.scr m) b=xp:=by cases n <;> cases b <;> rfl
theorem dI (n:Nat) (m:List D) (a:D):eqD n a (.scr m)=xp:=by cases n <;> cases a <;> rfl
section
variable {X:Cx}{pins:List (af×Obj)}{σ:St}{H:Hp}{s:aq}{ok ok':Okk}
theorem eV {A:dm} (h:A.units+(n+1)<d7):A.in1.units+n<d7:=by
 show A.units+1+n<d7;omega
theorem iX (I:Inv X pins σ H s) (h:RL X.K ok H a xs) (g:RT X.K ok' H a ys):False:=by
 obtain⟨_,_,⟨o,n,e,c,_,_⟩,_⟩:=I.list h.sq;obtain⟨_,_,⟨o',e',c',_⟩,_⟩:=I.tuple g.sq;rw[e] at e';cases e';rw[c] at c';exact absurd c' (by decide)
theorem rA (ih:∀ {v:V}{a b:D}{k:Bool},Rep X.K ok H v a->Rep X.K ok' H v b->eqD n a b=xo k->k=true):∀ {vs:List V}{ds es:List D}{k:Bool},Reps X.K ok H vs ds->Reps X.K ok' H vs es->kJ (eqD n) ds es=xo k->k=true
 |_,_,_,_,.nil,.nil,h=>by cases h;rfl
 |_,_,_,_,.cons r rs,.cons q qs,h=>by
  obtain⟨b,e1,e2⟩:=bind_some h;cases z:kJ (eqD n) _ _ with
  |none=>rw[z] at e2;cases e2
  |some c=>
   rw[z] at e2;cases e2;rw[ih r q e1,rA ih rs qs z];rfl
theorem IN (I:Inv X pins σ H s):∀(n:Nat) {v:V}{a b:D}{k:Bool},Rep X.K ok H v a->Rep X.K ok' H v b->eqD n a b=xo k->k=true:=by
 intro n
 induction n with
 |zero=>
  intro v a b k ra rb e;cases ra with
  |lst g r=>cases rb with
   |lst g' r'=>cases e
   |tup g' r'=>exact(iX I g g').elim
   |obj _=>rw[dL] at e;cases e
   |scr _ _=>rw[dI] at e;cases e
  |tup g r=>cases rb with
   |tup g' r'=>cases e
   |lst g' r'=>exact(iX I g' g).elim
   |obj _=>rw[dL] at e;cases e
   |scr _ _=>rw[dI] at e;cases e
  |obj _=>rw[dM] at e;cases e
  |scr _ _=>rw[dJ] at e;cases e
  |_=>cases rb;cases e;simp[eqS]
 |succ n ih=>
  intro v a b k ra rb e;cases ra with
  |@lst p xs ds g r=>cases rb with
   |@lst _ xs' ds' g' r'=>
    obtain rfl:=I.list_inj g.sq g'.sq;have e':(if ds.length=ds'.length then kJ (eqD n) ds ds' else xo false)=xo k:=e;rw[if_pos (by rw[<- r.length,<- r'.length])] at e';exact rA ih r r' e'
   |tup g' r'=>exact(iX I g g').elim
   |obj _=>rw[dL] at e;cases e
   |scr _ _=>rw[dI] at e;cases e
  |@tup p xs ds g r=>cases rb with
   |@tup _ xs' ds' g' r'=>
    obtain rfl:=I.tuple_inj g.sq g'.sq;have e':((kJ (eqD n) ds ds').map fun k=>k&&ds.length==ds'.length)=xo k:=e;have hl:ds.length=ds'.length:=by rw[<- r.length,<- r'.length]
    cases q:kJ (eqD n) ds ds' with
    |none=>rw[q] at e';cases e'
    |some c=>
     rw[q] at e';cases e';rw[rA ih r r' q,hl];simp
   |lst g' r'=>exact(iX I g' g).elim
   |obj _=>rw[dL] at e;cases e
   |scr _ _=>rw[dI] at e;cases e
  |obj _=>rw[dM] at e;cases e
  |scr _ _=>rw[dJ] at e;cases e
  |_=>cases rb;cases e;simp[eqS]
theorem rC (ih:∀ {v:V}{a b c:D}{k k':Bool},Rep X.K ok H v a->Rep X.K ok' H v b->eqD n a c=xo k->eqD n b c=xo k'->k=k'):∀ {vs:List V}{ds es as:List D}{k k':Bool},Reps X.K ok H vs ds->Reps X.K ok' H vs es->kJ (eqD n) ds as=xo k->kJ (eqD n) es as=xo k'->k=k'
 |_,_,_,_,_,_,.nil,.nil,h,h'=>by cases h;cases h';rfl
 |_,_,_,[],_,_,.cons r rs,.cons q qs,h,h'=>by cases h;cases h';rfl
 |_,_,_,a::as,_,_,.cons r rs,.cons q qs,h,h'=>by
  obtain⟨b,e1,e2⟩:=bind_some h;obtain⟨b',e1',e2'⟩:=bind_some h';cases z:kJ (eqD n) _ as with
  |none=>rw[z] at e2;cases e2
  |some c=>
   rw[z] at e2;cases e2;cases z':kJ (eqD n) _ as with
   |none=>rw[z'] at e2';cases e2'
   |some c'=>
    rw[z'] at e2';cases e2';rw[ih r q e1 e1',rC ih rs qs z z']
theorem IQ (I:Inv X pins σ H s):∀(n:Nat) {v:V}{a b c:D}{k k':Bool},Rep X.K ok H v a->Rep X.K ok' H v b->eqD n a c=xo k->eqD n b c=xo k'->k=k':=by
 intro n
 induction n with
 |zero=>
  intro v a b c k k' ra rb e e';cases ra with
  |lst g r=>cases rb with
   |lst g' r'=>cases c <;> first|(cases e;done)|(cases e;cases e';rfl)
   |tup g' r'=>exact(iX I g g').elim
   |obj _=>rw[dM] at e';cases e'
   |scr _ _=>rw[dJ] at e';cases e'
  |tup g r=>cases rb with
   |tup g' r'=>cases c <;> first|(cases e;done)|(cases e;cases e';rfl)
   |lst g' r'=>exact(iX I g' g).elim
   |obj _=>rw[dM] at e';cases e'
   |scr _ _=>rw[dJ] at e';cases e'
  |obj _=>rw[dM] at e;cases e
  |scr _ _=>rw[dJ] at e;cases e
  |_=>cases rb;rw[e] at e';cases e';rfl
 |succ n ih=>
  intro v a b c k k' ra rb e e';cases ra with
  |@lst p xs ds g r=>cases rb with
   |@lst _ xs' ds' g' r'=>
    obtain rfl:=I.list_inj g.sq g'.sq;have hl:ds.length=ds'.length:=by rw[<- r.length,<- r'.length]
    cases c with
    |lst cs=>
     have e1:(if ds.length=cs.length then kJ (eqD n) ds cs else xo false)=xo k:=e;have e2:(if ds'.length=cs.length then kJ (eqD n) ds' cs else xo false)=xo k':=e';rw[<- hl] at e2
     by_cases z:ds.length=cs.length
     ·rw[if_pos z] at e1 e2;exact rC ih r r' e1 e2
     ·rw[if_neg z] at e1 e2;cases e1;cases e2;rfl
    |_=>first|(cases e;done)|(cases e;cases e';rfl)
   |tup g' r'=>exact(iX I g g').elim
   |obj _=>rw[dM] at e';cases e'
   |scr _ _=>rw[dJ] at e';cases e'
  |@tup p xs ds g r=>cases rb with
   |@tup _ xs' ds' g' r'=>
    obtain rfl:=I.tuple_inj g.sq g'.sq;have hl:ds.length=ds'.length:=by rw[<- r.length,<- r'.length]
    cases c with
    |tup cs=>
     have e1:((kJ (eqD n) ds cs).map fun k=>k&&ds.length==cs.length)=xo k:=e;have e2:((kJ (eqD n) ds' cs).map fun k=>k&&ds'.length==cs.length)=xo k':=e';rw[<- hl] at e2;cases q:kJ (eqD n) ds cs with
     |none=>rw[q] at e1;cases e1
     |some x=>
      cases q':kJ (eqD n) ds' cs with
      |none=>rw[q'] at e2;cases e2
      |some x'=>
       rw[q] at e1;rw[q'] at e2;cases e1;cases e2;rw[rC ih r r' q q']
    |_=>first|(cases e;done)|(cases e;cases e';rfl)
   |lst g' r'=>exact(iX I g' g).elim
   |obj _=>rw[dM] at e';cases e'
   |scr _ _=>rw[dJ] at e';cases e'
  |obj _=>rw[dM] at e;cases e
  |scr _ _=>rw[dJ] at e;cases e
  |_=>cases rb;rw[e] at e';cases e';rfl
theorem AK (I:Inv X pins σ H s) (n:Nat) (ra:Rep X.K ok H x a) (rb:Rep X.K ok' H y b) (rv:RelV x v) (ru:RelV y u) (e:eqD n a b=xo k) (hrc:SeqAt.RcAt A s v u k):wo A s v u k:=by
 by_cases hs:v=u
 ·subst hs;obtain rfl:=rv.inj ru;rw[IN I n ra rb e];exact SeqAt.EqAt.same v
 ·intro prog w E Q hq;unfold eqBool;refine ii ?_;refine md (fun hab=>absurd (eq_of_beq hab) hs) (fun _=> ?_);cases ra with
  |non=>cases rv;exact ae (hrc prog w E _ (dq hq))
  |bl b=>cases rv;exact ae (hrc prog w E _ (dq hq))
  |int i=>obtain⟨t,rfl⟩:=rv;exact ae (hrc prog w E _ (dq hq))
  |str z=>obtain⟨t,rfl⟩:=rv;exact ae (hrc prog w E _ (dq hq))
  |lst _ _=>cases rv;exact ae (hrc prog w E _ (dq hq))
  |tup _ _=>cases rv;exact ae (hrc prog w E _ (dq hq))
  |obj _=>rw[dM] at e;cases e
  |scr _ _=>rw[dJ] at e;cases e
theorem both {P Q R:Prop} (h:P) (f:P->Q) (g:P->R):Q/\R:=⟨f h,g h⟩
theorem Ey (I:Inv X pins σ H s) (n:Nat):∀ {A:dm}{a b:D}{x y:V}{v u:ag}{k:Bool},Rep X.K ok H x a->Rep X.K ok' H y b->RelV x v->RelV y u->eqD n a b=xo k->A.units+n<d7->SeqAt.RcAt A s v u k/\SeqAt.RcNeAt A s v u (!k):=by
 induction n using Nat.strongRecOn with
 |_ n ih=>
  intro A a b x y v u k ra rb rv ru e hu;have hu0:A.units<d7:=by omega
  cases ra with
  |non=>
   cases rv;cases rb with
   |non=>cases ru;cases n <;> cases e <;> exact⟨.none_none,.none_none⟩
   |obj _=>rw[dL] at e;cases e
   |scr _ _=>rw[dI] at e;cases e
   |bl b=>cases ru;cases n <;> cases e <;> exact⟨.none_bool b,.none_bool b⟩
   |int b=>obtain⟨t,rfl⟩:=ru;cases n <;> cases e <;> exact⟨.none_int b t,.none_int b t⟩
   |str b=>obtain⟨t,rfl⟩:=ru;cases n <;> cases e <;> exact⟨.none_str b t,.none_str b t⟩
   |lst g r=>cases ru;obtain⟨its,_,pl,_⟩:=I.list g.sq;cases n <;> cases e <;> exact⟨.none_list pl.isList hu0,.none_list pl.isList hu0⟩
   |tup g r=>cases ru;obtain⟨its,_,pl,_⟩:=I.tuple g.sq;cases n <;> cases e <;> exact⟨.none_tuple pl hu0,.none_tuple pl hu0⟩
  |bl a=>
   cases rv;cases rb with
   |non=>cases ru;cases n <;> cases e <;> exact⟨.bool_none a,.bool_none a⟩
   |obj _=>rw[dL] at e;cases e
   |scr _ _=>rw[dI] at e;cases e
   |bl b=>cases ru;cases n <;> cases e <;> exact⟨.bool_bool a b,.bool_bool a b⟩
   |int b=>obtain⟨t,rfl⟩:=ru;cases n <;> cases e <;> exact⟨.bool_int a b t,.bool_int a b t⟩
   |str b=>obtain⟨t,rfl⟩:=ru;cases n <;> cases e <;> exact⟨.bool_str a b t,.bool_str a b t⟩
   |lst g r=>cases ru;obtain⟨its,_,pl,_⟩:=I.list g.sq;cases n <;> cases e <;> exact⟨.bool_list a pl.isList hu0,.bool_list a pl.isList hu0⟩
   |tup g r=>cases ru;obtain⟨its,_,pl,_⟩:=I.tuple g.sq;cases n <;> cases e <;> exact⟨.bool_tuple a pl hu0,.bool_tuple a pl hu0⟩
  |int a=>
   obtain⟨t',rfl⟩:=rv;cases rb with
   |non=>cases ru;cases n <;> cases e <;> exact⟨.int_none a t',.int_none a t'⟩
   |obj _=>rw[dL] at e;cases e
   |scr _ _=>rw[dI] at e;cases e
   |bl b=>cases ru;cases n <;> cases e <;> exact⟨.int_bool a t' b,.int_bool a t' b⟩
   |int b=>obtain⟨t,rfl⟩:=ru;cases n <;> cases e <;> exact⟨.int_int a t' b t,.int_int a t' b t⟩
   |str b=>obtain⟨t,rfl⟩:=ru;cases n <;> cases e <;> exact⟨.int_str a t' b t,.int_str a t' b t⟩
   |lst g r=>cases ru;obtain⟨its,_,pl,_⟩:=I.list g.sq;cases n <;> cases e <;> exact⟨.int_list a t' pl.isList hu0,.int_list a t' pl.isList hu0⟩
   |tup g r=>cases ru;obtain⟨its,_,pl,_⟩:=I.tuple g.sq;cases n <;> cases e <;> exact⟨.int_tuple a t' pl hu0,.int_tuple a t' pl hu0⟩
  |str a=>
   obtain⟨t',rfl⟩:=rv;cases rb with
   |non=>cases ru;cases n <;> cases e <;> exact⟨.str_none a t',.str_none a t'⟩
   |obj _=>rw[dL] at e;cases e
   |scr _ _=>rw[dI] at e;cases e
   |bl b=>cases ru;cases n <;> cases e <;> exact⟨.str_bool a t' b,.str_bool a t' b⟩
   |int b=>obtain⟨t,rfl⟩:=ru;cases n <;> cases e <;> exact⟨.str_int a t' b t,.str_int a t' b t⟩
   |str b=>obtain⟨t,rfl⟩:=ru;cases n <;> cases e <;> exact⟨.str_str a t' b t,.str_str a t' b t⟩
   |lst g r=>cases ru;obtain⟨its,_,pl,_⟩:=I.list g.sq;cases n <;> cases e <;> exact⟨.str_list a t' pl.isList hu0,.str_list a t' pl.isList hu0⟩
   |tup g r=>cases ru;obtain⟨its,_,pl,_⟩:=I.tuple g.sq;cases n <;> cases e <;> exact⟨.str_tuple a t' pl hu0,.str_tuple a t' pl hu0⟩
  |obj _=>rw[dM] at e;cases e
  |scr _ _=>rw[dJ] at e;cases e
  |@lst p xs ds g r=>
   cases rv;obtain⟨its,rr,pl,_⟩:=I.list g.sq;cases rb with
   |non=>cases ru;cases n <;> cases e <;> exact⟨.list_none pl.isList hu0,.list_none pl.isList hu0⟩
   |obj _=>rw[dL] at e;cases e
   |scr _ _=>rw[dI] at e;cases e
   |bl b=>cases ru;cases n <;> cases e <;> exact⟨.list_bool b pl.isList hu0,.list_bool b pl.isList hu0⟩
   |int b=>obtain⟨t,rfl⟩:=ru;cases n <;> cases e <;> exact⟨.list_int b t pl.isList hu0,.list_int b t pl.isList hu0⟩
   |str b=>obtain⟨t,rfl⟩:=ru;cases n <;> cases e <;> exact⟨.list_str b t pl.isList hu0,.list_str b t pl.isList hu0⟩
   |tup g' r'=>cases ru;obtain⟨its',_,pl',_⟩:=I.tuple g'.sq;cases n <;> cases e <;> exact⟨.list_tuple pl.isList pl' hu0,.list_tuple pl.isList pl' hu0⟩
   |@lst p' xs' ds' g' r'=>
    cases ru;obtain⟨its',rr',pl',_⟩:=I.list g'.sq;have l1:its.toArray.size=ds.length:=by rw[bi,<- rr.length,r.length]
    have l2:its'.toArray.size=ds'.length:=by rw[bi,<- rr'.length,r'.length]
    cases n with
    |zero=>cases e
    |succ n=>
     have e':(if ds.length=ds'.length then kJ (eqD n) ds ds' else xo false)=xo k:=e
     by_cases hl:ds.length=ds'.length
     ·rw[if_pos hl] at e';have hk:k=(bp its.toArray.size).all (eAt (eqD n) ds ds'):=by
       rw[wE e',l1,<- hl,jp]
      rw[hk];have z:=l1.trans (hl.trans l2.symm);refine both ?_ (SeqAt.RcAt.lists pl.isList pl'.isList z hu0) (SeqAt.RcNeAt.lists pl.isList pl'.isList z hu0);intro j h1 h2;obtain⟨d,hd,rd⟩:=r.getV (i:=j) (v:=xs[j]'(by rw[r.length,<- l1];exact h1)) (by simp);obtain⟨d',hd',rd'⟩:=r'.getV (i:=j) (v:=xs'[j]'(by rw[r'.length,<- l2];exact h2)) (by simp);obtain⟨w,hw,rw1⟩:=rr.get (i:=j) (x:=xs[j]'(by rw[r.length,<- l1];exact h1)) (by simp);obtain⟨w',hw',rw2⟩:=rr'.get (i:=j) (x:=xs'[j]'(by rw[r'.length,<- l2];exact h2)) (by simp);have ew:its.toArray[j]=w:=by
       obtain⟨_,q⟩:=bq.mp hw;simpa using q
      have ew':its'.toArray[j]=w':=by
       obtain⟨_,q⟩:=bq.mp hw';simpa using q
      rw[ew,ew'];exact AK I n rd rd' rw1 rw2 (mG e' hd hd') ((ih n (oq n) rd rd' rw1 rw2 (mG e' hd hd') (eV hu)).1)
     ·rw[if_neg hl] at e';cases e';have z:(its.toArray.size !=its'.toArray.size)=true:=by rw[l1,l2];simpa using hl
      exact⟨.lists_lengths pl.isList pl'.isList z hu0,.lists_lengths pl.isList pl'.isList z hu0⟩
  |@tup p xs ds g r=>
   cases rv;obtain⟨its,rr,pl,_⟩:=I.tuple g.sq;cases rb with
   |non=>cases ru;cases n <;> cases e <;> exact⟨.tuple_none pl hu0,.tuple_none pl hu0⟩
   |obj _=>rw[dL] at e;cases e
   |scr _ _=>rw[dI] at e;cases e
   |bl b=>cases ru;cases n <;> cases e <;> exact⟨.tuple_bool b pl hu0,.tuple_bool b pl hu0⟩
   |int b=>obtain⟨t,rfl⟩:=ru;cases n <;> cases e <;> exact⟨.tuple_int b t pl hu0,.tuple_int b t pl hu0⟩
   |str b=>obtain⟨t,rfl⟩:=ru;cases n <;> cases e <;> exact⟨.tuple_str b t pl hu0,.tuple_str b t pl hu0⟩
   |lst g' r'=>cases ru;obtain⟨its',_,pl',_⟩:=I.list g'.sq;cases n <;> cases e <;> exact⟨.tuple_list pl pl'.isList hu0,.tuple_list pl pl'.isList hu0⟩
   |@tup p' xs' ds' g' r'=>
    cases ru;obtain⟨its',rr',pl',_⟩:=I.tuple g'.sq;have l1:its.toArray.size=ds.length:=by rw[bi,<- rr.length,r.length]
    have l2:its'.toArray.size=ds'.length:=by rw[bi,<- rr'.length,r'.length]
    cases n with
    |zero=>cases e
    |succ n=>
     have e':((kJ (eqD n) ds ds').map fun k=>k&&ds.length==ds'.length)=xo k:=e;cases q:kJ (eqD n) ds ds' with
     |none=>rw[q] at e';cases e'
     |some c=>
      rw[q] at e';cases e';have hk:(c&&ds.length==ds'.length)=((bp (min its.toArray.size its'.toArray.size)).all (eAt (eqD n) ds ds')&&its.toArray.size==its'.toArray.size):=by
       rw[wE q,l1,l2]
      dsimp only;rw[hk];refine both ?_ (SeqAt.RcAt.tuples pl pl' hu0) (SeqAt.RcNeAt.tuples pl pl' hu0);intro j h1 h2;obtain⟨d,hd,rd⟩:=r.getV (i:=j) (v:=xs[j]'(by rw[r.length,<- l1];exact h1)) (by simp);obtain⟨d',hd',rd'⟩:=r'.getV (i:=j) (v:=xs'[j]'(by rw[r'.length,<- l2];exact h2)) (by simp);obtain⟨w,hw,rw1⟩:=rr.get (i:=j) (x:=xs[j]'(by rw[r.length,<- l1];exact h1)) (by simp);obtain⟨w',hw',rw2⟩:=rr'.get (i:=j) (x:=xs'[j]'(by rw[r'.length,<- l2];exact h2)) (by simp);have ew:its.toArray[j]=w:=by
       obtain⟨_,q⟩:=bq.mp hw;simpa using q
      have ew':its'.toArray[j]=w':=by
       obtain⟨_,q⟩:=bq.mp hw';simpa using q
      rw[ew,ew'];exact AK I n rd rd' rw1 rw2 (mG q hd hd') ((ih n (oq n) rd rd' rw1 rw2 (mG q hd hd') (eV hu)).1)
theorem yW (I:Inv X pins σ H s) (n:Nat) (ra:Rep X.K ok H x a) (rb:Rep X.K ok' H y b) (rv:RelV x v) (ru:RelV y u) (e:eqD n a b=xo k) (hu:A.units+n<d7):wo A s v u k:=
 AK I n ra rb rv ru e (Ey I n ra rb rv ru e hu).1
end
section
variable {X:Cx}{pins:List (af×Obj)}{σ:St}{H:Hp}{s:aq}{ok ok':Okk}
end
noncomputable def RA (K:aa) (n:Nat):R2:=fun x y H Q=>∃ ok a b k,Rep K ok H x a/\Rep K ok H y b/\eqD n a b=xo k/\Q (.bl k) H
noncomputable def Ru (K:aa) (n:Nat):R2:=fun x y H Q=>∃ ok a b k,Rep K ok H x a/\Rep K ok H y b/\eqD n a b=xo k/\Q (.bl (!k)) H
noncomputable def gEq (n:Nat) (a b:D):Option D:=(eqD n a b).map D.bl
noncomputable def gNe (n:Nat) (a b:D):Option D:=(eqD n a b).map fun k=>D.bl (!k)
theorem aH {f:α->β} (h:o.map f=xo b):∃ a,o=xo a/\f a=b:=by
 cases o with
 |none=>cases h
 |some a=>exact⟨a,rfl,b3 h⟩
abbrev JT (X:Cx) (n:Nat):Prop:=X.A.units+n<d7
section
variable {X:Cx}{e a b c:bw}{es:List bw}{f fa fb fc:DF}{fl:DL}{pos:Pos}
theorem Oa (hu:JT X n):OpR X (fw .Eq) (RA X.K n):=by
 intro pins s σ H x y v u Q I rx ry h;obtain⟨ok,a,b,k,ra,rb,e,q⟩:=h;exact(Ey I n ra rb rx ry e hu).1 X.prog X.w X.xe _ ⟨.bl k,H,I,rfl,q⟩
theorem NU (hu:JT X n):OpR X (fw .NotEq) (Ru X.K n):=by
 intro pins s σ H x y v u Q I rx ry h;obtain⟨ok,a,b,k,ra,rb,e,q⟩:=h;exact(Ey I n ra rb rx ry e hu).2 X.prog X.w X.xe _ ⟨.bl (!k),H,I,rfl,q⟩
noncomputable def isN:D->Bool
 |.non=>true
 |_=>false
noncomputable def LS (a b:D):Option D:=match b with
 |.non=>xo (.bl (!isN a))
 |_=>xp
theorem OR {K:aa} (h:Rep K ok H v d):decide (v=.non)=isN d:=by
 cases h <;> simp[isN]
theorem II {K:aa}:Fit2 K (fun x y H Q=>y=.non/\Q (.bl (!decide (x=.non))) H) LS:=fun ok H x y a b d Q h1 ra rb e k=>by
 cases b with
 |non=>
  cases e;refine⟨rb.non_inv,?_⟩;rw[OR ra];exact k _ H (Same.refl H) (.bl _)
 |_=>cases e
noncomputable def inO (f:D->Option Bool):List D->Option Bool
 |[]=>xo false
 |x::xs=>(f x).bind fun b=>(inO f xs).map fun c=>b||c
noncomputable def inD (n:Nat) (a b:D):Option Bool:=match b with
 |.lst ds=>inO (fun d=>eqD n d a) ds
 |.tup ds=>inO (fun d=>eqD n d a) ds
 |_=>xp
noncomputable def zQ (K:aa) (ok:Okk) (H:Hp) (n:Nat) (a:D) (u:ag):Bool:=
 @decide (∃ x d,RelV x u/\Rep K ok H x d/\eqD n d a=xo true) (kq _)
theorem Jn {a d:D} (I:Inv X pins σ H s) (r:RelV x u) (q:Rep X.K ok H x d) (e:eqD n d a=xo k):zQ X.K ok H n a u=k:=by
 unfold zQ;cases k with
 |true=>exact @decide_eq_true _ (kq _) ⟨x,d,r,q,e⟩
 |false=>
  refine @decide_eq_false _ (kq _) ?_
  rintro⟨x',d',r',q',e'⟩
  obtain rfl:=r.inj r';exact nomatch IQ I n q q' e e'
theorem pZ {a:D} (I:Inv X pins σ H s):∀ {xs:List V}{us:List ag}{ds:List D}{k:Bool},Vals xs us->Reps X.K ok H xs ds->inO (fun d=>eqD n d a) ds=xo k->
  us.any (zQ X.K ok H n a)=k/\∀ u∈us,∃ x d,RelV x u/\Rep X.K ok H x d/\eqD n d a=xo (zQ X.K ok H n a u)
 |_,_,_,_,.nil,.nil,h=>by
  cases h;exact⟨rfl,fun u hu=>by cases hu⟩
 |_,_,_,k,.cons r rs,.cons q qs,h=>by
  obtain⟨b,e1,e2⟩:=bind_some h;obtain⟨c,e3,rfl⟩:=aH e2;obtain⟨h1,h2⟩:=pZ I rs qs e3;have hb:=Jn I r q e1;refine⟨by rw[ls,hb,h1],fun u hu=> ?_⟩;rcases aj.mp hu with rfl|hu
  ·exact⟨_,_,r,q,by rw[hb];exact e1⟩
  ·exact h2 u hu
noncomputable def Ry (K:aa) (n:Nat):R2:=fun x y H Q=>∃ ok a b k,Rep K ok H x a/\Rep K ok H y b/\inD n a b=xo k/\Q (.bl k) H
noncomputable def EB (K:aa) (n:Nat):R2:=fun x y H Q=>∃ ok a b k,Rep K ok H x a/\Rep K ok H y b/\inD n a b=xo k/\Q (.bl (!k)) H
theorem NY (hu:JT X (n+1)):OpR X (fw .In) (Ry X.K n):=by
 intro pins s σ H x y v u Q I rx ry h;obtain⟨ok,a,b,k,ra,rb,e,q⟩:=h;cases rb with
 |lst g r=>
  cases ry;obtain⟨its,rr,pl,_⟩:=I.list g.sq;obtain⟨h1,h2⟩:=pZ I rr r e;refine SeqAt.in_listAt (zQ X.K ok H n a) pl.isList (fun w hw=> ?_) ⟨.bl k,H,I,?_,q⟩
  ·obtain⟨x',d',r',q',e'⟩:=h2 w (by simpa using hw);exact yW I n q' ra r' rx e' (eV hu)
  ·rw[<- h1];simp[RelV]
 |tup g r=>
  cases ry;obtain⟨its,rr,pl,_⟩:=I.tuple g.sq;obtain⟨h1,h2⟩:=pZ I rr r e;refine SeqAt.in_tupleAt (zQ X.K ok H n a) pl (fun w hw=> ?_) ⟨.bl k,H,I,?_,q⟩
  ·obtain⟨x',d',r',q',e'⟩:=h2 w (by simpa using hw);exact yW I n q' ra r' rx e' (eV hu)
  ·rw[<- h1];simp[RelV]
 |_=>cases e
theorem EQ (hu:JT X (n+1)):OpR X (fw .NotIn) (EB X.K n):=by
 intro pins s σ H x y v u Q I rx ry h;obtain⟨ok,a,b,k,ra,rb,e,q⟩:=h;cases rb with
 |lst g r=>
  cases ry;obtain⟨its,rr,pl,_⟩:=I.list g.sq;obtain⟨h1,h2⟩:=pZ I rr r e;refine SeqAt.notIn_listAt (zQ X.K ok H n a) pl.isList (fun w hw=> ?_) ⟨.bl (!k),H,I,?_,q⟩
  ·obtain⟨x',d',r',q',e'⟩:=h2 w (by simpa using hw);exact yW I n q' ra r' rx e' (eV hu)
  ·rw[<- h1];simp[RelV]
 |tup g r=>
  cases ry;obtain⟨its,rr,pl,_⟩:=I.tuple g.sq;obtain⟨h1,h2⟩:=pZ I rr r e;refine SeqAt.notIn_tupleAt (zQ X.K ok H n a) pl (fun w hw=> ?_) ⟨.bl (!k),H,I,?_,q⟩
  ·obtain⟨x',d',r',q',e'⟩:=h2 w (by simpa using hw);exact yW I n q' ra r' rx e' (eV hu)
  ·rw[<- h1];simp[RelV]
 |_=>cases e
noncomputable def gIn (n:Nat) (a b:D):Option D:=(inD n a b).map D.bl
noncomputable def Ck (n:Nat) (a b:D):Option D:=(inD n a b).map fun k=>D.bl (!k)
theorem Pd {K:aa}:Fit2 K (Ry K n) (gIn n):=fun ok H x y a b d Q h1 ra rb e k=>by
 obtain⟨c,e1,rfl⟩:=aH e;exact⟨ok,a,b,c,ra,rb,e1,k _ H (Same.refl H) (.bl _)⟩
theorem FW {K:aa}:Fit2 K (EB K n) (Ck n):=fun ok H x y a b d Q h1 ra rb e k=>by
 obtain⟨c,e1,rfl⟩:=aH e;exact⟨ok,a,b,c,ra,rb,e1,k _ H (Same.refl H) (.bl _)⟩
noncomputable def tyD:D->String
 |.non=>"NoneType"
 |.bl _=>"bool"
 |.int _=>"int"
 |.str _=>"str"
 |.lst _=>"list"
 |.tup _=>"tuple"
 |.obj _=>"object"
 |.scr _=>"object"
noncomputable def yJ:D->Bool
 |.obj _=>true
 |.scr _=>true
 |_=>false
noncomputable def Di (T:String) (d:D):Option Bool:=
 if yJ d=true then xp else if T="int" then xo (match d with|.int _=>true|.bl _=>true|_=>false)
 else if T="bool" then xo (match d with|.bl _=>true|_=>false)
 else if T="str" then xo (match d with|.str _=>true|_=>false)
 else if T="list" then xo (match d with|.lst _=>true|_=>false)
 else if T="tuple" then xo (match d with|.tup _=>true|_=>false)
 else if T="dict" then xo false
 else xp
theorem LB {K:aa} (h:Di T d=xo k):PySem.W.kitOne K (.type (tyD d)) (.type T)=xo k:=by
 unfold Di at h;split at h
 ·cases h
 rename_i hob
 split at h
 ·subst_vars;cases h;cases d <;> first|rfl|exact absurd rfl hob
 ·split at h
  ·subst_vars;cases h;cases d <;> first|rfl|exact absurd rfl hob
  ·split at h
   ·subst_vars;cases h;cases d <;> first|rfl|exact absurd rfl hob
   ·split at h
    ·subst_vars;cases h;cases d <;> first|rfl|exact absurd rfl hob
    ·split at h
     ·subst_vars;cases h;cases d <;> first|rfl|exact absurd rfl hob
     ·split at h
      ·subst_vars;cases h;cases d <;> first|rfl|exact absurd rfl hob
      ·cases h
def Sd (K:aa):List V->Hp->VK->Prop:=fun xs H Q=>∃ x T d ok k,xs=[x,.ty T]/\Rep K ok H x d/\Di T d=xo k/\Q (.bl k) H
theorem Jk:CallR X (.builtin "isinstance") (Sd X.K):=by
 intro pins s σ H xs us Q I r h;obtain⟨x,T,d,ok,k,rfl,q,e,hq⟩:=h;obtain⟨u,w',rfl,ru,rw'⟩:=GR r;cases rw';have fin:∀ tk,EP X pins σ Q (.bool k) { s with toks:=tk }:=fun tk=>⟨.bl k,H,I.tok _,rfl,hq⟩;have ek:=LB (K:=X.K) e;cases q with
 |non=>cases ru;exact kz PySem.W.kitx_none I.kIn im ek (fun z=>nomatch z) fin
 |bl b=>cases ru;exact kz PySem.W.kitx_bool I.kIn im ek (fun z=>nomatch z) fin
 |int i=>obtain⟨t,rfl⟩:=ru;exact kz PySem.W.kitx_int I.kIn im ek (fun z=>nomatch z) fin
 |str z=>obtain⟨t,rfl⟩:=ru;exact kz PySem.W.kitx_str I.kIn im ek (fun z=>nomatch z) fin
 |lst g r=>
  cases ru;obtain⟨its,_,⟨o,n,e1,c1,_,_⟩,_⟩:=I.list g.sq;exact kz PySem.W.kitx_list I.kIn ⟨o,e1,c1⟩ ek (fun z=>nomatch z) fin
 |tup g r=>
  cases ru;obtain⟨its,_,⟨o,e1,c1,_⟩,_⟩:=I.tuple g.sq;exact kz PySem.W.kitx_tuple I.kIn ⟨o,e1,c1⟩ ek (fun z=>nomatch z) fin
 |obj _=>exact nomatch e
 |scr _ _=>exact nomatch e
end
local macro_rules| `(tactic|walk_at "adr")=> `(tactic|((try unfold af at*);omega))
noncomputable def uD (env:Env):List (Str×ic)->List (Str×af)->List (Str×af)
 |[],acc=>acc
 |(n,k)::r,acc=>if k== .free then uD env r ((n,(env.cells.lookup n).getD 0)::acc) else uD env r acc
theorem vS (f:Str×ic->List (Str×af)->Sem (ForInStep (List (Str×af))))
  (hf:∀ name kind cs,f (name,kind) cs=if kind== .free then(do let c <- cellOf env name;pure (.yield ((name,c)::cs))) else pure (.yield cs)):
  ∀(names:List (Str×ic)) (acc:List (Str×af)),(∀ y∈names,y.2=.free->∃ c,env.cells.lookup y.1=xo c)->(forIn names acc f:Sem _)=pure (uD env names acc)
 |[],acc,_=>by rw[xc];rfl
 |(n,k)::r,acc,h=>by
  rw[List.forIn_cons,hf];have hr:∀ y∈r,y.2=.free->∃ c,env.cells.lookup y.1=xo c:=fun y hy=>h y (ai _ hy);unfold uD
  by_cases hk:(k==hV)=true
  ·rw[if_pos hk,if_pos hk];obtain⟨c,hc⟩:=h (n,k) ar (by simpa using hk);have e:(cellOf env n:Sem af)=pure c:=by unfold cellOf;rw[hc]
   rw[e,hc];simp only[pure_bind,Option.getD_some];exact vS f hf r _ hr
  ·rw[if_neg hk,if_neg hk];simp only[pure_bind];exact vS f hf r _ hr
theorem uC (h:∀ y∈scope.names,y.2=.free->∃ c,env.cells.lookup y.1=xo c):closureFor scope env=pure (uD env scope.names []):=by
 simp only[closureFor];rw[vS (env:=env) _ (fun name kind cs=>by cases hk:kind==hV <;> simp[hk]) scope.names [] h];rfl
theorem oM:∀ {names:List (Str×ic)}{acc:List (Str×af)}{c:af},(uD env names acc).lookup x=xo c->acc.lookup x=xo c∨((x,hV)∈names/\c=(env.cells.lookup x).getD 0)
 |[],acc,c,h=>.inl h
 |(n,k)::r,acc,c,h=>by
  unfold uD at h
  by_cases hk:(k==hV)=true
  ·rw[if_pos hk] at h;rcases oM h with q|⟨q1,q2⟩
   ·rw[gg] at q;cases hx:x==n with
    |true=>
     rw[hx] at q;obtain rfl:x=n:=by simpa using hx
     have hk':k=.free:=by simpa using hk
     subst hk';exact .inr ⟨ar,by cases q;rfl⟩
    |false=>
     rw[hx] at q;exact .inl q
   ·exact .inr ⟨ai _ q1,q2⟩
  ·rw[if_neg hk] at h;rcases oM h with q|⟨q1,q2⟩
   ·exact .inl q
   ·exact .inr ⟨ai _ q1,q2⟩
theorem qY:∀ {names:List (Str×ic)}{acc:List (Str×af)},(∃ c,acc.lookup x=xo c)->∃ c,(uD env names acc).lookup x=xo c
 |[],acc,h=>h
 |(n,k)::r,acc,h=>by
  unfold uD;split
  ·refine qY ?_;rw[gg];cases hx:x==n with
   |true=>exact⟨_,rfl⟩
   |false=>exact h
  ·exact qY h
theorem wB:∀ {names:List (Str×ic)}{acc:List (Str×af)},(x,hV)∈names->∃ c,(uD env names acc).lookup x=xo c
 |(n,k)::r,acc,h=>by
  unfold uD;rcases aj.mp h with e|h
  ·cases e;rw[if_pos (by rfl)];exact qY ⟨_,by rw[gg,beq_self_eq_true]⟩
  ·split
   ·exact wB h
   ·exact wB h
theorem fI:∀ {names:List (Str×ic)}{n:Nat}{acc:List (Str×af)}{c:af},(gz n names acc).lookup x=xo c->acc.lookup x=xo c∨((x,c3)∈names/\n<=c)
 |[],n,acc,c,h=>.inl h
 |(y,k)::r,n,acc,c,h=>by
  unfold gz at h
  by_cases hk:(k==c3)=true
  ·rw[if_pos hk] at h;rcases fI h with q|⟨q1,q2⟩
   ·rw[gg] at q;cases hx:x==y with
    |true=>
     rw[hx] at q;obtain rfl:x=y:=by simpa using hx
     have hk':k=.cell:=by simpa using hk
     subst hk';cases q;exact .inr ⟨ar,bf _⟩
    |false=>
     rw[hx] at q;exact .inl q
   ·exact .inr ⟨ai _ q1,by walk_at "adr"⟩
  ·rw[if_neg hk] at h;rcases fI h with q|⟨q1,q2⟩
   ·exact .inl q
   ·exact .inr ⟨ai _ q1,q2⟩
theorem iF:∀ {names:List (Str×ic)}{n:Nat}{acc:List (Str×af)},(x,c3)∉names->(gz n names acc).lookup x=acc.lookup x
 |[],n,acc,_=>rfl
 |(y,k)::r,n,acc,h=>by
  have hr:(x,c3)∉r:=fun z=>h (ai _ z);unfold gz
  by_cases hk:(k==c3)=true
  ·rw[if_pos hk,iF hr,gg];have hk':k=.cell:=by simpa using hk
   subst hk';cases hx:x==y with
   |true=>
    obtain rfl:x=y:=by simpa using hx
    exact absurd ar h
   |false=>rfl
  ·rw[if_neg hk,iF hr]
theorem eU:∀ {names:List (Str×ic)}{n:Nat}{acc:List (Str×af)},(∃ c,acc.lookup x=xo c)->∃ c,(gz n names acc).lookup x=xo c
 |[],n,acc,h=>h
 |(y,k)::r,n,acc,h=>by
  unfold gz;split
  ·refine eU ?_;rw[gg];cases hx:x==y with
   |true=>exact⟨_,rfl⟩
   |false=>exact h
  ·exact eU h
theorem jH:∀ {names:List (Str×ic)}{n:Nat}{acc:List (Str×af)},(x,c3)∈names->∃ c,(gz n names acc).lookup x=xo c
 |(y,k)::r,n,acc,h=>by
  unfold gz;rcases aj.mp h with e|h
  ·cases e;rw[if_pos (by rfl)];exact eU ⟨_,by rw[gg,beq_self_eq_true]⟩
  ·split
   ·exact jH h
   ·exact jH h
structure wN (h:c5) (n:Nat) (acc cs:List (Str×af)):Prop where
 cell:∀ x c,(x,c)∈cs->(x,c)∈acc∨(h.IsCell c xp/\n<=c)
 apart:∀ x y c,(x,c)∈cs->(y,c)∈cs->n<=c->x=y
theorem vE:∀(names:List (Str×ic)) (h:c5) (n:Nat) (acc0 acc:List (Str×af)),n<=h.objs.size->wN h n acc0 acc->(∀ x c,(x,c)∈acc->c<h.objs.size)->wN (pushCells h names) n acc0 (gz h.objs.size names acc)
 |[],h,n,acc0,acc,_,N,_=>N
 |(y,k)::r,h,n,acc0,acc,hn,N,hlt=>by
  unfold pushCells gz;split
  ·have:=vE r (h.push { cls:=.type "cell",data:=.cell xp }) n acc0 ((y,h.objs.size)::acc) (by rw[io];walk_at "adr")
    ⟨fun x c hm=>by
     rcases aj.mp hm with e|hm
     ·cases e;exact .inr ⟨⟨_,bv _ rfl,rfl⟩,hn⟩
     ·rcases N.cell x c hm with q|⟨q1,q2⟩
      ·exact .inl q
      ·exact .inr ⟨q1.keeps fun b o e=>aw _ e,q2⟩,
    fun x z c h1 h2 h3=>by
     rcases aj.mp h1 with e1|h1 <;> rcases aj.mp h2 with e2|h2
     ·cases e1;cases e2;rfl
     ·cases e1;exact absurd (hlt z _ h2) (dn _)
     ·cases e2;exact absurd (hlt x _ h1) (dn _)
     ·exact N.apart x z c h1 h2 h3⟩
    (fun x c hm=>by
     rw[io];rcases aj.mp hm with e|hm
     ·cases e;walk_at "adr"
     ·have:=hlt x c hm;walk_at "adr")
   rw[io] at this;exact this
  ·exact vE r h n acc0 acc hn N hlt
theorem HS
  (h:∀ h':c5,(∀ b o,s.heap.get? b=xo o->h'.get? b=xo o)->h'.Ns s.heap.objs.size (fun _=>xp)->wN h' (s.heap.objs.size+1) cl (gz (s.heap.objs.size+1) scope.names cl)->
   Q { scope:=scope,locals:=s.heap.objs.size,globals:=globals,cells:=gz (s.heap.objs.size+1) scope.names cl,qual:=qual,func:=xp,code:=env.code,frame:=env.frame,builtins:=env.builtins } { s with heap:=h' })
  (hlt:∀ x c,(x,c)∈cl->c<s.heap.objs.size):bc M A (ub scope globals cl [] qual xp .none (xo env)) Q E s:=by
 simp only[ub,vf,if_true];refine ae (wpAny_alloc ?_);refine ae (wpAny_layCells _ (fun name kind cells=>by cases hkc:kind==c3 <;> simp[hkc]) _ _ _ _ ?_);rw[show({ s with heap:=s.heap.push { cls:=.type "dict",data:=.dict #[] } }:aq).heap.objs.size=s.heap.objs.size+1 from io ..];rw[xc];refine ae (ao (ao (h _ (fun b o e=>pushCells_keeps _ _ b o (aw _ e)) ((Heap.Ns.new s.heap (.type "dict")).keeps (pushCells_keeps _ _)) ?_)))
 have:=vE scope.names (s.heap.push { cls:=.type "dict",data:=.dict #[] }) (s.heap.objs.size+1) cl cl (by rw[io];walk_at "adr")
  ⟨fun x c hm=>.inl hm,fun x y c h1 h2 h3=>absurd (hlt x c h1) (by walk_at "adr")⟩ (fun x c hm=>by rw[io];have:=hlt x c hm;walk_at "adr")
 rw[io] at this;exact this
theorem zE (I:Nat->aq->Prop)
  (turn:∀ n s,I n s->bc (model prog w) A (nv it) (fun r s₁=>match r with
   |none=>R (.ok .next) s₁
   |some v=>bc (model prog w) A (pc target it v) (fun _ s₁'=>bc (model prog w) A (assign target env v) (fun _ s₂=>
     bc (model prog w) A (forIn ifs true fun c r=>if r=true then do let ok <- isTrue c env (eval c env);pure (pe ok) else pure (pe r)) (fun ok s₃=>
      if ok=true then bc (model prog w) A (eval elt env) (fun x s₄=>
       bc (model prog w) A (call (.builtin "list.append") [acc,x]) (fun _ s₅=>∃ m,m<n/\I m s₅) (fun _ _=>False) s₄) (fun _ _=>False) s₃
      else ∃ m,m<n/\I m s₃) (fun _ _=>False) s₂) (fun _ _=>False) s₁') (fun _ _=>False) s₁) (fun _ _=>False) s)
  (n:Nat) (h:I n s):o7 (model prog w) A (.compLoop (.ListComp elt [⟨target,iter,ifs,0⟩] scope pos) 0 it acc env) R s:=by
 refine codeAny_loop rfl I (fun n s hI=> ?_) n h;show bc _ A ((compTurn (.ListComp elt [⟨target,iter,ifs,0⟩] scope pos) 0 it acc env).onRaise (fun x=>do vg x env;theTreesLotGoes x)) _ _ s;refine wpAny_noted ?_;rw[compTurn_list];refine ae (ur (ae (g8 (turn n s hI) (fun r s₁ h₁=> ?_) fun _ _ h'=>h'.elim)));cases r with
 |none=>exact ao h₁
 |some v=>
  refine ae (g8 h₁ (fun _ s₁' h₁'=> ?_) fun _ _ h'=>h'.elim);refine ae (g8 h₁' (fun _ s₂ h₂=>ae (g8 h₂ (fun ok s₃ h₃=> ?_) fun _ _ h'=>h'.elim)) fun _ _ h'=>h'.elim);cases ok with
  |false=>exact ao ⟨rfl,h₃⟩
  |true=>
   exact ae (ae (g8 h₃ (fun x s₄ h₄=>ae (g8 h₄ (fun _ s₅ h₅=>ao (ao ⟨rfl,h₅⟩)) fun _ _ h'=>h'.elim)) fun _ _ h'=>h'.elim))
noncomputable def blk (X:Cx) (N':List Str) (scope:kj) (cells:List (Str×af)) (C:af) (fp:List af) (pins:List (af×Obj)) (s₀:aq) (H₀:Hp):Cx where
 prog:=X.prog
 w:=X.w
 K:=X.K
 mg:=X.mg
 base:=X.base
 A:=X.A
 N:=N'
 s₀:=s₀
 H₀:=H₀
 env:=compEnvC scope cells C X.env
 outer:=X.stack
 stack:=X.stack
 ex:=fp
 fn:=fun x=>scope.names.lookup x==xo .cell
 calm:=X.calm
 pn:=X.pn++pins
 xe:=fun _ _=>False
def MH (X:Cx) (ifs:List bw) (tt:TT):Prop:=
 ∀(pins:List (af×Obj)) (s:aq) (σ:St) (H:Hp) (Q:Bool->Hp->Prop),Inv X pins σ H s->tt σ H Q->
  bc (model X.prog X.w) X.A (forIn ifs true fun c r=>if r=true then do let ok <- isTrue c X.env (eval c X.env);pure (pe ok) else pure (pe r)) (TP X pins σ Q) X.xe s
def RK:TT:=fun _ H Q=>Q true H
theorem LK:MH X [] RK:=fun _ _ _ H _ I h=>wpAny_tests_nil ⟨H,I,h⟩
theorem LJ (h:PT X c tt):MH X [c] tt:=fun pins s σ H Q I q=>wpAny_tests_one (h pins s σ H Q I q)
noncomputable def Gr (caps:List (Option Nat)) (σ:St):St:=caps.map fun o=>o.bind fun j=>(σ[j]?).join
def Cw (X:Cx) (scope:kj) (N':List Str) (caps:List (Option Nat)):Prop:=
 caps.length=N'.length/\∀(i j:Nat),caps[i]?=xo (xo j)->∃ x,N'[i]?=xo x/\X.N[j]?=xo x/\scope.names.lookup x=xo .free/\(x,c3)∉scope.names/\(X.env.scope.names.lookup x=xo .cell∨X.env.scope.names.lookup x=xo .free)
def JX (wi:TI) (caps:List (Option Nat)) (g:TG) (tt:TT) (te:TE):TE:=fun σ H Q=>wi σ H fun J H1=>∀ D,H1 D=xp->∃ W:Nat->Nat->St->Hp->Prop,(∃ m,W 0 m (Gr caps σ) (upd H1 D (.lst [])))/\
 ∀ i m σ' H,W i m σ' H->(J.stop i H/\Q (.ref D) H)∨(J.go i H/\∀ x H',J.yld i H x H'->g x σ' H' fun σ2 H2=>tt σ2 H2 fun b H3=>
  if b=true then te σ2 H3 fun y H4=>∃ ys m',H4 D=xo (.lst ys)/\ys.length<sizeLine/\m'<m/\W (i+1) m' σ2 (upd H4 D (.lst (ys++[y]))) else ∃ m',m'<m/\W (i+1) m' σ2 H3)
section
variable {X:Cx}{elt iter tg:bw}{ifs:List bw}{scope:kj}{pos:Pos}{N':List Str}{caps:List (Option Nat)}{wi:TI}{g:TG}{tt:TT}{te:TE}
theorem gE (h:(relabel scope env).names.lookup x=xo k):scope.names.lookup x=xo k∨(k=.cell/\scope.names.lookup x=xo .free):=by
 have aux:∀(names:List (Str×ic)),(names.map fun(n,k)=>if(k==hV&&env.scope.kind== .function&&env.kindOf n==xo .cell) then(n,c3) else(n,k)).lookup x=xo k->
   names.lookup x=xo k∨(k=.cell/\names.lookup x=xo .free):=by
  intro names
  induction names with
  |nil=>intro h;cases h
  |cons p r ih=>
   obtain⟨n,kk⟩:=p;intro h;rw[bg] at h
   by_cases hc:(kk==hV&&env.scope.kind== .function&&env.kindOf n==xo .cell)=true
   ·have h':j3 x ((n,c3)::(r.map fun(n,k)=>if(k==hV&&env.scope.kind== .function&&env.kindOf n==xo .cell) then(n,c3) else(n,k)))=xo k:=by
     have e:(if(kk==hV&&env.scope.kind== .function&&env.kindOf n==xo .cell)=true then(n,c3) else(n,kk))=(n,c3):=if_pos hc;rw[<- e];exact h
    rw[gg] at h' ⊢;cases hx:x==n with
    |true=>
     rw[hx] at h';cases h';have hk:kk=.free:=by
      rw[br,br] at hc;simpa using hc.1.1
     exact .inr ⟨rfl,by rw[hk]⟩
    |false=>
     rw[hx] at h';exact ih h'
   ·have h':j3 x ((n,kk)::(r.map fun(n,k)=>if(k==hV&&env.scope.kind== .function&&env.kindOf n==xo .cell) then(n,c3) else(n,k)))=xo k:=by
     have e:(if(kk==hV&&env.scope.kind== .function&&env.kindOf n==xo .cell)=true then(n,c3) else(n,kk))=(n,kk):=if_neg hc;rw[<- e];exact h
    rw[gg] at h' ⊢;cases hx:x==n with
    |true=>
     rw[hx] at h';exact .inl h'
    |false=>
     rw[hx] at h';exact ih h'
 exact aux scope.names h
theorem dG {l:List (Str×ic)} (h:l.lookup x=xo k):(x,k)∈l:=gk h
theorem zB {Qn:V->Hp->Prop}{RR:ag->af->Result->aq->Prop}
  (hc:X.calm=true) (hkind:scope.kind=.function)
  (hfree:∀ y∈scope.names,y.2=.free->X.env.scope.names.lookup y.1=xo .cell∨X.env.scope.names.lookup y.1=xo .free) (huniq:∀ y∈scope.names,y.2=.free->(y.1,c3)∉scope.names)
  (hcap:Cw X scope N' caps)
  (hb:∀ cells C fp pins s₀ H₀,PG (blk X N' scope cells C fp pins s₀ H₀) tg g/\MH (blk X N' scope cells C fp pins s₀ H₀) ifs tt/\PE (blk X N' scope cells C fp pins s₀ H₀) elt te)
  (I2:Inv X pins σ H2 s2) (T:JR X.prog X.w X.K tg J fp it tn) (st2:tn 0 s2.heap) (f2:∀ b∈fp,JS X pins H2 b)
  (q:∀ D,H2 D=xp->∃ W:Nat->Nat->St->Hp->Prop,(∃ m,W 0 m (Gr caps σ) (upd H2 D (.lst [])))/\
   ∀ i m σ' H,W i m σ' H->(J.stop i H/\Qn (.ref D) H)∨(J.go i H/\∀ x H',J.yld i H x H'->g x σ' H' fun σ2 H2=>tt σ2 H2 fun b H3=>
    if b=true then te σ2 H3 fun y H4=>∃ ys m',H4 D=xo (.lst ys)/\ys.length<sizeLine/\m'<m/\W (i+1) m' σ2 (upd H4 D (.lst (ys++[y]))) else ∃ m',m'<m/\W (i+1) m' σ2 H3))
  (hfin:∀(C D:af) (s6:aq) (H6:Hp),Inv X pins σ H6 s6->Qn (.ref D) H6->(∃ m,s6.heap.Ns C m)->H6 C=xp->C≠X.env.locals->X.s₀.heap.objs.size<=C->(∀ x c,X.env.cells.lookup x=xo c->c≠C)->(∀ p∈X.pn++pins,p.1≠C)->RR (.ref D) C (.ok .next) s6):
  bc (model X.prog X.w) X.A (newList []) (fun acc s₃=>bc (model X.prog X.w) X.A (ub scope X.env.globals (uD X.env scope.names []) [] X.env.qual xp .none (xo X.env)) (fun cenv s₄=>
   o7 (model X.prog X.w) X.A (.compStart (.ListComp elt [⟨tg,iter,ifs,0⟩] scope pos) 0 (.ref it) acc { cenv with scope:=relabel scope X.env }) (RR acc cenv.locals) s₄) E s₃) E s2:=by
 have hcells:∀ y∈scope.names,y.2=.free->∃ c,X.env.cells.lookup y.1=xo c:=fun y hy hf=>I2.ok.has y.1 (hfree y hy hf);have hD:H2 s2.heap.objs.size=xp:=I2.hok.fresh (bf _);obtain⟨W,⟨m0,w0⟩,turn⟩:=q s2.heap.objs.size hD;refine ff ?_ (ia _)
 generalize hs3:({ s2 with heap:=s2.heap.push { cls:=.type "list",dict:=xp,data:=.seq ([]:List ag).toArray } }:aq)=s3
 have I3:Inv X pins σ (upd H2 s2.heap.objs.size (.lst [])) s3:=by
  subst hs3;exact I2.laid (t':=s2.toks) (fun b u e=>aw _ e) (bf _) ⟨ia _,[],0,.nil,bv _ rfl⟩
 have sz3:s3.heap.objs.size=s2.heap.objs.size+1:=by rw[<- hs3];exact io ..
 have k23:∀ b o,s2.heap.get? b=xo o->s3.heap.get? b=xo o:=fun b o e=>by rw[<- hs3];exact aw _ e
 generalize hH3:upd H2 s2.heap.objs.size (.lst [])=H3 at I3 w0
 have clLook:∀ x c,(uD X.env scope.names []).lookup x=xo c->X.env.cells.lookup x=xo c:=fun x c e=>by
  rcases oM e with z|⟨z1,z2⟩
  ·cases z
  ·obtain⟨c',hc'⟩:=hcells (x,.free) z1 rfl;rw[hc'] at z2 ⊢;rw[z2];rfl
 have clMem:∀ x c,(x,c)∈uD X.env scope.names []->∃ c',X.env.cells.lookup x=xo c'/\c=c':=by
  have aux:∀(names:List (Str×ic)) (acc:List (Str×af)),(∀ y∈names,y.2=.free->∃ c,X.env.cells.lookup y.1=xo c)->(∀ x c,(x,c)∈acc->∃ c',X.env.cells.lookup x=xo c'/\c=c')->
    ∀ x c,(x,c)∈uD X.env names acc->∃ c',X.env.cells.lookup x=xo c'/\c=c':=by
   intro names
   induction names with
   |nil=>intro acc _ h x c hm;exact h x c hm
   |cons p r ih=>
    obtain⟨n,k⟩:=p;intro acc hn h x c hm;unfold uD at hm;have hr:∀ y∈r,y.2=.free->∃ c,X.env.cells.lookup y.1=xo c:=fun y hy=>hn y (ai _ hy);split at hm
    ·rename_i hk
     refine ih _ hr (fun x c hm=> ?_) x c hm;rcases aj.mp hm with e|hm
     ·cases e;obtain⟨c',hc'⟩:=hn (n,k) ar (by simpa using hk);exact⟨c',hc',by rw[hc'];rfl⟩
     ·exact h x c hm
    ·exact ih _ hr h x c hm
  exact aux scope.names [] hcells (fun x c hm=>by cases hm)
 have cellLt:∀ x c,X.env.cells.lookup x=xo c->c<s2.heap.objs.size:=fun x c e=>by
  obtain⟨v,z⟩:=I2.cell x c e;exact z.lt
 have hltc:∀ x c,(x,c)∈uD X.env scope.names []->c<s3.heap.objs.size:=fun x c hm=>by
  obtain⟨c',hc',rfl⟩:=clMem x c hm
  have:=cellLt x c hc'
  walk_at "adr"
 refine HS (fun h4 k34 ns4 nc=> ?_) hltc
 generalize hC:s3.heap.objs.size=C at ns4 nc
 generalize hcs:gz (C+1) scope.names (uD X.env scope.names [])=cells at nc
 -- the block's own invariant
 have cellOld:∀ x c,cells.lookup x=xo c->c<C->X.env.cells.lookup x=xo c:=fun x c e hlt=>by
  rw[<- hcs] at e;rcases fI e with z|⟨_,z⟩
  ·exact clLook x c z
  ·walk_at "adr"
 have cellNew:∀ x c,cells.lookup x=xo c->¬ c<C->h4.IsCell c xp/\C+1<=c:=fun x c e hge=>by
  rcases nc.cell x c (gk e) with z|z
  ·obtain⟨c',hc',rfl⟩:=clMem x c z
   have:=cellLt x c hc'
   walk_at "adr"
  ·exact z
 have sz4:C<=h4.objs.size:=g9 ns4.lt;have okB:(blk X N' scope cells C fp pins s3 H3).Ok:=by
  refine⟨I3.ok.mod,hkind,I3.ok.glob,I3.ok.blt,va hC,fun x y c h1 h2=> ?_,fun x hx=> ?_,fun x c hf hx=> ?_,I3.ok.hd,I3.ok.frames,.inl rfl,fun b hb=>⟨?_,fun x c hx=> ?_⟩,I3.bs,cf I3.ok.bsz I3.sz,fun b o e hb=> ?_,fun b hb=> ?_,I3.stack,I3.stkFree⟩
  ·by_cases hlt:c<C
   ·exact I3.ok.inj x y c (cellOld x c h1 hlt) (cellOld y c h2 hlt)
   ·exact nc.apart x y c (gk h1) (gk h2) (cellNew x c h1 hlt).2
  ·show ∃ c,cells.lookup x=xo c;rw[<- hcs];have hx':(relabel scope X.env).names.lookup x=xo .cell∨(relabel scope X.env).names.lookup x=xo .free:=hx;have fromFree:(x,hV)∈scope.names->∃ c,(gz (C+1) scope.names (uD X.env scope.names [])).lookup x=xo c:=fun hm=>eU (wB hm);rcases hx' with hx'|hx'
   ·rcases gE hx' with z|⟨_,z⟩
    ·exact jH (dG z)
    ·exact fromFree (dG z)
   ·rcases gE hx' with z|⟨z,_⟩
    ·exact fromFree (dG z)
    ·cases z
  ·have hf':(x,c3)∈scope.names:=dG (by simpa using (show(scope.names.lookup x==xo .cell)=true from hf))
   by_cases hlt:c<C
   ·exfalso
    have e:(gz (C+1) scope.names (uD X.env scope.names [])).lookup x=xo c:=by rw[hcs];exact hx
    rcases fI e with z|⟨_,z⟩
    ·rcases oM z with z|⟨z1,_⟩
     ·cases z
     ·exact huniq (x,.free) z1 rfl hf'
    ·walk_at "adr"
   ·show s3.heap.objs.size<=c
    have:=(cellNew x c hx hlt).2
    walk_at "adr"
  ·have:=(f2 b hb)
   obtain⟨o,e,_⟩:=T.obj 0 _ st2 b hb
   have:=bh e
   show b≠C
   walk_at "adr"
  ·obtain⟨o,e,hcell⟩:=T.obj 0 _ st2 b hb;have hlt':=bh e;intro z
   by_cases hlt:c<C
   ·exact(f2 b hb).2.2.2.2.1 x c (cellOld x c hx hlt) z
   ·have:=(cellNew x c hx hlt).2
    walk_at "adr"
  ·rcases(f2 b hb).2.2.2.1 with z|z
   ·exact I2.ok.noex b o e z
   ·have q1:=bh e;have q2:=I2.ok.bsz;have q3:=I2.sz;exact absurd (b7 q1 (cf q2 z)) (dn _)
  ·intro z;rcases aj.mp (I3.stkSub b z) with z|z
   ·exact(f2 b hb).2.1 z
   ·exact(f2 b hb).2.2.1 z
 have hfpC:∀ b∈fp,b<C:=fun b hb=>by
  obtain⟨o,e,_⟩:=T.obj 0 _ st2 b hb
  have:=bh e
  walk_at "adr"
 have Hnew:∀ b,C<=b->H3 b=xp:=fun b hb=>by
  cases z:H3 b with
  |none=>rfl
  |some o=>
   have:=I3.hok.lt z
   walk_at "adr"
 have IB:Inv (blk X N' scope cells C fp pins s3 H3) [] (Gr caps σ) H3 { s3 with heap:=h4 }:=by
  refine⟨okB,rfl,I3.bare,Un.kept k34,⟨_,ns4,fun i x v e1 e2 e3=> ?_⟩,fun x c hx=> ?_,Hnew C (bf _),fun x c hx=> ?_,fun p hp=> ?_,I3.hok.kept k34,?_⟩
  ·-- a captured name
   have e2':(Gr caps σ)[i]?=xo (xo v):=e2;unfold Gr at e2';rw[ay] at e2';cases hci:caps[i]? with
   |none=>rw[hci] at e2';cases e2'
   |some o=>
    rw[hci] at e2';cases o with
    |none=>cases e2'
    |some j=>
     obtain⟨x',hx1,hx2,hx3,hx4,hx5⟩:=hcap.2 i j hci;have ex:x=x':=by
      have e1':N'[i]?=xo x:=e1;rw[hx1] at e1';exact(b3 e1').symm
     subst ex;have hσ:σ[j]?=xo (xo v):=by
      have z:(σ[j]?).join=xo v:=b3 e2';cases hj:σ[j]? with
      |none=>rw[hj] at z;cases z
      |some o=>
       rw[hj] at z;cases o with
       |none=>cases z
       |some v'=>cases z;rfl
     obtain⟨m,hn,hl⟩:=I3.loc;obtain⟨u,r,l⟩:=hl j x v hx2 hσ (hx5.elim (fun z=>.inr (.inl z)) fun z=>.inr (.inr z));refine⟨u,r,?_⟩;rcases l with⟨k,_⟩|⟨_,c,hcx,hcell⟩
     ·have k':X.env.scope.names.lookup x=xo .local:=k;rcases hx5 with z|z
      ·rw[k'] at z;cases z
      ·rw[k'] at z;cases z
     ·have hlk:cells.lookup x=xo c:=by
       rw[<- hcs,iF hx4];obtain⟨c',hc'⟩:=wB (env:=X.env) (acc:=[]) (dG hx3);rw[hc',<- clLook x c' hc',hcx]
      have e3':(relabel scope X.env).names.lookup x=xo .local∨(relabel scope X.env).names.lookup x=xo .cell∨(relabel scope X.env).names.lookup x=xo .free:=e3;rcases e3' with z|z|z
      ·exfalso
       rcases gE z with z|⟨z,_⟩
       ·rw[hx3] at z;cases z
       ·cases z
      ·exact .inr ⟨.inl z,c,hlk,hcell.keeps k34⟩
      ·exact .inr ⟨.inr z,c,hlk,hcell.keeps k34⟩
  ·by_cases hlt:c<C
   ·obtain⟨v,z⟩:=I3.cell x c (cellOld x c hx hlt);exact⟨v,z.keeps k34⟩
   ·exact⟨xp,(cellNew x c hx hlt).1⟩
  ·by_cases hlt:c<C
   ·exact I3.freeC x c (cellOld x c hx hlt)
   ·exact Hnew c (by walk_at "adr")
  ·have hp':p∈X.pn++pins:=by
    have hp'':p∈(X.pn++pins)++[]:=hp;rwa [cu] at hp''
   obtain⟨e,n,ne,nf,d⟩:=I3.pin p hp';refine⟨k34 _ _ e,n,?_,fun z=> ?_,d⟩
   ·show p.1≠C
    have:=bh e
    walk_at "adr"
   ·rcases aj.mp (I3.stkSub p.1 z) with z|z
    ·exact ne z
    ·exact nf z
  ·show(Gr caps σ).length=N'.length
   unfold Gr;rw[ak];exact hcap.1
 have tn4:tn 0 h4:=T.keep 0 _ _ st2 fun b hb o e=>k34 b o (k23 b o e);have fr3:∀ b∈fp,H3 b=xp:=fun b hb=>by
  obtain⟨o,e,_⟩:=T.obj 0 _ st2 b hb;rw[<- hH3,aG (ci (bh e))];exact(f2 b hb).1
 have stat:∀ {H':Hp},(∀ b∈fp,H' b=xp)->∀ b∈fp,JS (blk X N' scope cells C fp pins s3 H3) [] H' b:=fun hn b hb=>
  ⟨hn b hb,ci (hfpC b hb),fun z=>okB.exfs b hb z,.inl hb,fun x c hx=>(okB.exf b hb).2 x c hx,fun p hp=>by
   have hp':p∈X.pn++pins:=by
    have hp'':p∈(X.pn++pins)++[]:=hp;rwa [cu] at hp''
   exact(f2 b hb).2.2.2.2.2 p hp'⟩
 obtain⟨hG,hT,hE⟩:=hb cells C fp pins s3 H3;have loop:o7 (model X.prog X.w) X.A (.compLoop (.ListComp elt [⟨tg,iter,ifs,0⟩] scope pos) 0 (.ref it) (.ref s2.heap.objs.size) (compEnvC scope cells C X.env)) (RR (.ref s2.heap.objs.size) C) { s3 with heap:=h4 }:=by
  refine zE (fun n s'=>∃ i σ' H',Inv (blk X N' scope cells C fp pins s3 H3) [] σ' H' s'/\tn i s'.heap/\(∀ b∈fp,H' b=xp)/\W i n σ' H') ?_ m0 ⟨0,_,_,IB,tn4,fr3,w0⟩;rintro n s5 ⟨i,σ5,H5,I5,st5,fr5,w5⟩;rcases turn i n σ5 H5 w5 with⟨stop,qn⟩|⟨go,step⟩
  ·refine thn (T.done (blk X N' scope cells C fp pins s3 H3) rfl rfl rfl hc i [] s5 σ5 H5 _ I5 (stat fr5) st5 stop) fun r s6 ⟨hr,I6⟩=> ?_;subst hr;obtain⟨m6,ns6,_⟩:=I6.loc;have un7:Un (frs X.stack) fp H3 H5 s3.heap s6.heap:=I6.base;have I8:Inv X pins σ H5 s6:=by
    refine I3.call' (ch:=fp) I6.os un7 I6.hok I6.bare fun b hb=>⟨?_,(f2 b hb).2.1,(f2 b hb).2.2.2.2.1,(f2 b hb).2.2.2.2.2⟩;exact(f2 b hb).2.2.2.1
   refine hfin C s2.heap.objs.size s6 H5 I8 qn ⟨m6,ns6⟩ I6.free ?_ (by have:=I3.sz;walk_at "adr") (fun x c e=> ?_) fun p hp=> ?_
   ·have:=I3.lt
    walk_at "adr"
   ·have:=cellLt x c e
    walk_at "adr"
   ·have:=bh (I3.pin p hp).1
    walk_at "adr"
  ·refine thn (T.item (blk X N' scope cells C fp pins s3 H3) rfl rfl rfl hc i [] s5 σ5 H5 _ I5 (stat fr5) st5 go) fun r s6 ⟨u,hr,h6⟩=> ?_;subst hr;refine thn h6 fun _ s7 ⟨x,H7,I7,r7,y7,st7,fr7⟩=> ?_;have I7':=I7.pinned (stat fr7) (T.obj _ _ st7);have keepTn:∀ {σ':St}{H':Hp}{s':aq},Inv (blk X N' scope cells C fp pins s3 H3) ([]++xX fp s7.heap) σ' H' s'->tn (i+1) s'.heap/\∀ b∈fp,H' b=xp:=fun {σ' H' s'} I'=>by
    refine⟨T.keep _ _ _ st7 fun b hb o e=>(I'.pin (b,o) (dy _ (dy _ (jS hb e)))).1,fun b hb=> ?_⟩;obtain⟨o,e,d⟩:=T.obj _ _ st7 b hb;exact(I'.pin (b,o) (dy _ (dy _ (jS hb e)))).2.1
   refine thn (hG _ s7 σ5 H7 x u _ I7' r7 (step x H7 y7)) fun _ s8 ⟨σ8,H8,I8,q8⟩=> ?_;refine thn (hT _ s8 σ8 H8 _ I8 q8) fun b s9 ⟨H9,I9,q9⟩=> ?_;cases b with
   |false=>
    rw[if_neg cg] at q9 ⊢;obtain⟨m',hm,w9⟩:=q9;exact⟨m',hm,i+1,σ8,H9,I9.unpinned,(keepTn I9).1,(keepTn I9).2,w9⟩
   |true=>
    rw[if_pos rfl] at q9 ⊢;refine thn (hE _ s9 σ8 H9 _ I9 q9) fun y s10 ⟨yv,H10,I10,r10,q10⟩=> ?_;obtain⟨ys,m',hy,hz,hm,w10⟩:=q10;refine thn (yC _ s10 σ8 H10 (.ref s2.heap.objs.size) [yv] (.ref s2.heap.objs.size) [y] (fun _ H'=>H'=upd H10 s2.heap.objs.size (.lst (ys++[yv]))) I10 rfl (.cons r10 .nil) ⟨_,ys,yv,rfl,rfl,hy,hz,rfl⟩) fun _ s11 ⟨_,H11,I11,_,e11⟩=> ?_;subst e11;exact⟨m',hm,i+1,σ8,_,I11.unpinned,(keepTn I11).1,(keepTn I11).2,w10⟩
 exact codeAny_compStart_list loop (T.self X.A 0 _ _ _ tn4 loop)
theorem Kx (hc:X.calm=true) (hkind:scope.kind=.function) (hnames:∀ x∈scope.names,x.2=.local->scope.names.lookup x.1=xo .local)
  (hfree:∀ y∈scope.names,y.2=.free->X.env.scope.names.lookup y.1=xo .cell∨X.env.scope.names.lookup y.1=xo .free) (huniq:∀ y∈scope.names,y.2=.free->(y.1,c3)∉scope.names)
  (hcap:Cw X scope N' caps) (hi:PI X tg iter wi)
  (hb:∀ cells C fp pins s₀ H₀,PG (blk X N' scope cells C fp pins s₀ H₀) tg g/\MH (blk X N' scope cells C fp pins s₀ H₀) ifs tt/\PE (blk X N' scope cells C fp pins s₀ H₀) elt te)
  (hs:∀ x,gp iter X.env x=pure x:=by intro _;rfl):PE X (.ListComp elt [⟨tg,iter,ifs,0⟩] scope pos) (JX wi caps g tt te):=by
 intro pins s σ H Q I h;have hclos:=uC (scope:=scope) (env:=X.env) fun y hy hf=>I.ok.has y.1 (hfree y hy hf);rw[eval_ListComp];refine qz (use:=xp) rfl hs hclos hkind hnames (thn (hi pins s σ H _ I h) fun v s1 h1=>thn h1 fun itv s2 h2=> ?_);obtain⟨it,fp,tn,J,H2,e,I2,T,st2,f2,q⟩:=h2;subst e;refine zB (RR:=fun acc C=>compPost (model X.prog X.w) X.A X.xe xp (EP X pins σ Q) acc C) (Qn:=fun v H=>∀ a,v=.ref a->Q (.ref a) H) hc hkind hfree huniq hcap hb I2 T st2 f2 (fun D hD=> ?_) fun C D s6 H6 I6 q6 ⟨m6,ns6⟩ hC h1 h2 h3 h4=> ?_
 ·obtain⟨W,w0,turn⟩:=q D hD;refine⟨W,w0,fun i m σ' H w=> ?_⟩;rcases turn i m σ' H w with⟨a,b⟩|z
  ·exact .inl ⟨a,fun c hc=>by cases hc;exact b⟩
  ·exact .inr z
 ·refine⟨m6,ns6,fun h7 sb=> ?_⟩;have I8:Inv X pins σ H6 { s6 with heap:=h7 }:=I6.turned (t':=s6.toks) (fun b o hb e=>(sb.2 b hb).trans e) hC h1 (.inr h2) h3 h4;exact⟨.ref D,H6,I8,rfl,q6 D rfl⟩
def MR (wi:TI) (caps:List (Option Nat)) (g:TG) (tt:TT) (te:TE) (i:Nat):TS:=fun D σ H=>JX wi caps g tt te σ H fun x H1=>D.nx (σ.set i (xo x)) H1
theorem Km (hN:X.N.Nodup) (hiy:X.N[i]?=xo y) (hy:X.env.scope.names.lookup y=xo .local) (hc:X.calm=true) (hkind:scope.kind=.function) (hnames:∀ x∈scope.names,x.2=.local->scope.names.lookup x.1=xo .local)
  (hfree:∀ y∈scope.names,y.2=.free->X.env.scope.names.lookup y.1=xo .cell∨X.env.scope.names.lookup y.1=xo .free) (huniq:∀ y∈scope.names,y.2=.free->(y.1,c3)∉scope.names)
  (hcap:Cw X scope N' caps) (hi:PI X tg iter wi)
  (hb:∀ cells C fp pins s₀ H₀,PG (blk X N' scope cells C fp pins s₀ H₀) tg g/\MH (blk X N' scope cells C fp pins s₀ H₀) ifs tt/\PE (blk X N' scope cells C fp pins s₀ H₀) elt te)
  (hsw:jm (.ListComp elt [⟨tg,iter,ifs,0⟩] scope pos) (xo (.Name y py)) spos.line X.env=pure true:=by rfl)
  (hs:∀ x,gp iter X.env x=pure x:=by intro _;rfl):PS X (.Assign [.Name y py] (.ListComp elt [⟨tg,iter,ifs,0⟩] scope pos) spos) (MR wi caps g tt te i):=by
 intro pins s σ H D I h;have hclos:=uC (scope:=scope) (env:=X.env) fun y hy hf=>I.ok.has y.1 (hfree y hy hf);rw[exec_Assign_Name_used _ _ _ _ hsw];refine ae (ur (ae ?_));show bc _ X.A (do let _ <- comprehension (.ListComp elt [⟨tg,iter,ifs,0⟩] scope pos) scope X.env _ (newList []) false (eval iter X.env) (xo (assign (.Name y py) X.env))) _ _ s;refine ae (g8 (qz (use:=xo (assign (.Name y py) X.env)) (Q:=fun _ s'=>SP X pins D .next s') rfl hs hclos hkind hnames
  (thn (hi pins s σ H _ I h) fun v s1 h1=>thn h1 fun itv s2 h2=> ?_)) (fun _ s' hq=>ao (ao hq)) fun _ _ e=>e)
 obtain⟨it,fp,tn,J,H2,e,I2,T,st2,f2,q⟩:=h2;subst e;refine zB (RR:=fun acc C=>compPost (model X.prog X.w) X.A X.xe (xo (assign (.Name y py) X.env)) (fun _ s'=>SP X pins D .next s') acc C) (Qn:=fun v H=>∀ a,v=.ref a->D.nx (σ.set i (xo (.ref a))) H) hc hkind hfree huniq hcap hb I2 T st2 f2 (fun D' hD=> ?_) fun C D' s6 H6 I6 q6 ⟨m6,ns6⟩ hC h1 h2 h3 h4=> ?_
 ·obtain⟨W,w0,turn⟩:=q D' hD;refine⟨W,w0,fun i m σ' H w=> ?_⟩;rcases turn i m σ' H w with⟨a,b⟩|z
  ·exact .inl ⟨a,fun c hc=>by cases hc;exact b⟩
  ·exact .inr z
 ·show bc _ X.A (assign (.Name y py) X.env (.ref D')) _ _ _;refine wpAny_assign_Name (xG I6 hN hiy (.inl hy) (v:=.ref D') (u:=.ref D') rfl (fun s7 I7 ⟨a,sb,ha⟩=> ?_) (.inr hy));have hCa:C≠a:=by
   rcases ha with rfl|ha
   ·exact h1
   ·exact fun z=>h3 y a ha z.symm
  refine⟨m6,ns6.sameBut sb hCa,fun h8 sb8=> ?_⟩;have I8:Inv X pins (σ.set i (xo (.ref D'))) H6 { s7 with heap:=h8 }:=I7.turned (t':=s7.toks) (fun b o hb e=>(sb8.2 b hb).trans e) hC h1 (.inr h2) h3 h4;exact⟨_,H6,I8,q6 D' rfl⟩
end
local macro_rules| `(tactic|walk_at "adr")=> `(tactic|((try unfold af at*);omega))
noncomputable def Itz (K:aa) (l1 l2:af):It:=
 ⟨fun i H=>∃ xs ys x y,SqL K H l1 xs/\SqL K H l2 ys/\xs[i]?=xo x/\ys[i]?=xo y,
  fun i H v H'=>∃ T x y,v=.ref T/\H T=xp/\(∀ xs,SqL K H l1 xs->xs[i]?=xo x)/\(∀ ys,SqL K H l2 ys->ys[i]?=xo y)/\H'=upd H T (.tup [x,y]),
  fun i H=>∃ xs ys,SqL K H l1 xs/\SqL K H l2 ys/\(xs.length<=i∨ys.length<=i)⟩
theorem GS {K:aa}{z TI TO i1 i2 l1 l2:af} (D:ZipApart z TI TO i1 i2 l1 l2):JR P w K (.Tuple es k pos) (Itz K l1 l2) [z,TI,TO,i1,i2] z
  (fun i h=>IsZip h z TI TO .none/\IsPair h TI (.ref i1) (.ref i2)/\(∃ a b,IsPair h TO a b)/\h.IsListIter i1 l1 i/\h.IsListIter i2 l2 i) where
 mem:=by simp
 obj:=fun i h st b hb=>by
  obtain⟨hz,hTI,⟨a,b',hTO⟩,⟨o1,e1,c1,d1⟩,⟨o2,e2,c2,d2⟩⟩:=st;simp only[aj,cm,or_false] at hb;rcases hb with rfl|rfl|rfl|rfl|rfl
  ·exact⟨_,hz,fun v q=>by cases (show vz _=r9 v from q)⟩
  ·exact⟨_,hTI,fun v q=>by cases (show Data.seq _ _=r9 v from q)⟩
  ·exact⟨_,hTO,fun v q=>by cases (show Data.seq _ _=r9 v from q)⟩
  ·exact⟨o1,e1,fun v q=>by rw[d1] at q;cases q⟩
  ·exact⟨o2,e2,fun v q=>by rw[d2] at q;cases q⟩
 keep:=fun i h h' st kp=>by
  obtain⟨hz,hTI,⟨a,b',hTO⟩,h1,h2⟩:=st;exact⟨kp z (by simp) _ hz,kp TI (by simp) _ hTI,⟨a,b',kp TO (by simp) _ hTO⟩,h1.at fun o e=>kp i1 (by simp) o e,h2.at fun o e=>kp i2 (by simp) o e⟩
 item:=by
  intro X hP hw hK hc i pins s σ H E I hf st hg;subst hP hw hK;obtain⟨hz,hTI,⟨a,b',hTO⟩,h1,h2⟩:=st;obtain⟨xs,ys,x,y,hq1,hq2,hx,hy⟩:=hg;obtain⟨its1,rv1,p1,hz1⟩:=I.list hq1;obtain⟨its2,rv2,p2,hz2⟩:=I.list hq2;obtain⟨u1,hu1,ru1⟩:=rv1.get hx;obtain⟨u2,hu2,ru2⟩:=rv2.get hy;have lt:∀ {c:af}{o:Obj},s.heap.get? c=xo o->c<s.heap.objs.size:=fun e=>bh e;refine wpAny_pyNext_zip_item D hz hTI hTO h1 h2 p1.isList p2.isList (x:=u1) (y:=u2) (by simpa using hu1) (by simpa using hu2) fun h' a1 a2 a3 a4 a5 a6 hk=> ?_;refine⟨_,rfl,wpAny_letOwnedTupleGo_zip (s:={ s with heap:=h' }) a1 fun h'' z1 sb=> ?_⟩;have hTf:H s.heap.objs.size=xp:=I.hok.fresh (bf _);have hzlt:=lt hz;have up:∀ b o,b≠z->b≠TO->b≠i1->b≠i2->s.heap.get? b=xo o->h''.get? b=xo o:=fun b o n1 n2 n3 n4 e=>(sb.2 b n1).trans (hk b o n1 n2 n3 n4 e);have fpb:∀ b,b=z∨b=TO∨b=i1∨b=i2->b∈[z,TI,TO,i1,i2]:=fun b hb=>by
   rcases hb with rfl|rfl|rfl|rfl <;> simp
  have nT:∀ b,b∈[z,TI,TO,i1,i2]->b≠s.heap.objs.size:=fun b hb=>by
   obtain⟨o1,e1,_⟩:=h1;obtain⟨o2,e2,_⟩:=h2;simp only[aj,cm,or_false] at hb;rcases hb with rfl|rfl|rfl|rfl|rfl
   ·exact ci (lt hz)
   ·exact ci (lt hTI)
   ·exact ci (lt hTO)
   ·exact ci (lt e1)
   ·exact ci (lt e2)
  have trk:∀ b u,H b=xo u->b∉[z,TI,TO,i1,i2]:=fun b u e hb=>by
   rw[(hf b hb).1] at e;cases e
  have upH:∀ b u o,H b=xo u->s.heap.get? b=xo o->h''.get? b=xo o:=fun b u o e q=>
   up b o (fun w=>trk b u e (fpb b (.inl w))) (fun w=>trk b u e (fpb b (.inr (.inl w)))) (fun w=>trk b u e (fpb b (.inr (.inr (.inl w))))) (fun w=>trk b u e (fpb b (.inr (.inr (.inr w))))) q
  have hTup:IsTup h'' s.heap.objs.size #[u1,u2]:=⟨_,(sb.2 _ (Nat.ne_of_gt hzlt)).trans a5,rfl,_,rfl⟩;have hok:HOk X.prog X.w (upd H s.heap.objs.size (.tup [x,y])) h'':=fun b u e=>by
   by_cases hb:b=s.heap.objs.size
   ·subst hb;rw[aP] at e;cases e;exact⟨by show 2<=sizeLine;decide,[u1,u2],.cons ru1 (.cons ru2 .nil),hTup⟩
   ·rw[aG hb] at e;refine(I.hok b u e).stay (fun c v hcb q=> ?_) (fun c q=>by rw[aG (aN q hTf)];exact q) fun c zs q=>by rw[aG (aN q hTf)];exact q
    rcases hcb with rfl|hcb
    ·exact upH _ _ v e q
    ·exact upH _ _ v hcb q
  have I2:Inv X pins σ (upd H s.heap.objs.size (.tup [x,y])) { s with heap:=h'' }:=by
   refine I.step (g':=s.gens) (d':=s.drawn) (t':=s.toks) (ch:=[z,TO,i1,i2]) (fun b hb=> ?_) (fun b o hL hb hcb e n=> ?_) (fun b o hL hb hcb e n=>⟨o.slots,?_⟩) (fun b o hcb e n=> ?_) (fun b o hcb e=>⟨o,?_⟩)
    (fun b zs e=>by rw[aG (aN e hTf)];exact e) (fun b ob zs e=>by rw[aG (aN e hTf)];exact e) (fun b ps e=>⟨#[],by rw[aG (aN e hTf),e];simp⟩) (fun m hm=> ?_) hok I.bare
   ·have hb':b∈[z,TI,TO,i1,i2]:=by
     simp only[aj,cm,or_false] at hb;exact fpb b hb
    obtain⟨f0,f1,f2,f3,f4,f5⟩:=hf b hb';exact⟨f3,f1,f4,f5⟩
   ·simp only[aj,cm,or_false,not_or] at hcb;exact up b o hcb.1 hcb.2.1 hcb.2.2.1 hcb.2.2.2 e
   ·simp only[aj,cm,or_false,not_or] at hcb;exact up b o hcb.1 hcb.2.1 hcb.2.2.1 hcb.2.2.2 e
   ·rw[aG (ci (lt e))];exact n
   ·simp only[aj,cm,or_false,not_or] at hcb;exact up b o hcb.1 hcb.2.1 hcb.2.2.1 hcb.2.2.2 e
   ·obtain⟨o,es',ep,ho,r⟩:=hm;exact⟨o,es',ep,up _ o (fun q=>(hf z (by simp)).2.1 q.symm) (fun q=>(hf TO (by simp)).2.1 q.symm) (fun q=>(hf i1 (by simp)).2.1 q.symm) (fun q=>(hf i2 (by simp)).2.1 q.symm) ho,r⟩
  refine⟨.ref s.heap.objs.size,_,I2,rfl,⟨s.heap.objs.size,x,y,rfl,hTf,fun zs q=>by rw[I.list_inj q hq1];exact hx,fun zs q=>by rw[I.list_inj q hq2];exact hy,rfl⟩,?_,fun b hb=> ?_⟩
  ·exact⟨z1,(sb.2 _ D.TIz).trans (hk _ _ D.TIz D.TITO D.TIi1 D.TIi2 hTI),⟨_,_,(sb.2 _ D.TOz).trans a2⟩,a3.at fun o e=>(sb.2 _ D.i1z).trans e,a4.at fun o e=>(sb.2 _ D.i2z).trans e⟩
  ·rw[aG (nT b hb)];exact(hf b hb).1
 done:=by
  intro X hP hw hK hc i pins s σ H E I hf st hg;subst hP hw hK;obtain⟨hz,hTI,⟨a,b',hTO⟩,h1,h2⟩:=st;obtain⟨xs,ys,hq1,hq2,hx⟩:=hg;obtain⟨its1,rv1,p1,hz1⟩:=I.list hq1;obtain⟨its2,rv2,p2,hz2⟩:=I.list hq2;have hl1:=rv1.length;have hl2:=rv2.length;refine wpAny_pyNext_zip_end (I.ok.hd hc) D hz hTI hTO h1 h2 p1.isList p2.isList ?_ fun h' hk=>⟨rfl,?_⟩
  ·rcases hx with hx|hx
   ·exact .inl (by simp;omega)
   ·exact .inr (by simp;omega)
  ·have trk:∀ b u,H b=xo u->b∉[z,TI,TO,i1,i2]:=fun b u e hb=>by
    rw[(hf b hb).1] at e;cases e
   have up:∀ b o,b∉[z,TO,i1,i2]->s.heap.get? b=xo o->h'.get? b=xo o:=fun b o hb e=>by
    simp only[aj,cm,or_false,not_or] at hb;exact hk b o hb.1 hb.2.1 hb.2.2.1 hb.2.2.2 e
   have sub:∀ b,b∈[z,TO,i1,i2]->b∈[z,TI,TO,i1,i2]:=fun b hb=>by
    simp only[aj,cm,or_false] at hb ⊢;rcases hb with rfl|rfl|rfl|rfl <;> simp
   refine I.step (g':=s.gens) (d':=s.drawn) (t':=s.toks) (ch:=[z,TO,i1,i2]) (fun b hb=> ?_) (fun b o hL hb hcb e n=>up b o hcb e) (fun b o hL hb hcb e n=>⟨o.slots,up b o hcb e⟩) (fun b o hcb e n=>n) (fun b o hcb e=>⟨o,up b o hcb e⟩)
    (fun b zs e=>e) (fun b ob zs e=>e) (fun b ps e=>⟨#[],by rw[e];simp⟩) (fun m hm=> ?_) (fun b u e=> ?_) I.bare
   ·obtain⟨f0,f1,f2,f3,f4,f5⟩:=hf b (sub b hb);exact⟨f3,f1,f4,f5⟩
   ·obtain⟨o,es',ep,ho,r⟩:=hm;exact⟨o,es',ep,up _ o (fun q=>(hf _ (sub _ q)).2.1 rfl) ho,r⟩
   ·refine(I.hok b u e).stay (fun c v hcb q=>up c v (fun w=> ?_) q) (fun _ q=>q) fun _ _ q=>q;rcases hcb with rfl|hcb
    ·exact trk _ _ e (sub _ w)
    ·exact trk _ _ hcb (sub _ w)
 self:=fun _ _ _ _ _ st h=>wpAny_pyIter_zip st.1 h
def Sj (K:aa) (ta:TA):TI:=fun σ H R=>ta σ H fun vs H1=>∃ a b,vs=[.ref a,.ref b]/\(∃ xs,SqL K H1 a xs)/\(∃ ys,SqL K H1 b ys)/\R (Itz K a b) H1
section
variable {X:Cx}
theorem Nm (hg:Gl X "zip") (hm:X.mg "zip"=xp) (ha:PA X [a,b] ta) (hs:au [a,b] X.env=[(false,eval a X.env),(false,eval b X.env)]:=by rfl) (hs2:au [b] X.env=[(false,eval b X.env)]:=by rfl):
  PI X (.Tuple es k tp) (.Call (.Name "zip" p) [a,b] [] pos) (Sj X.K ta):=by
 intro pins s σ H R I h;refine Call_ (mZ I hg hm PyProof.Rows.boot_zip (gx (thn (ha pos pins s σ H _ I h) fun us s1 ⟨vs,H1,I1,r1,q1⟩=> ?_) (by rw[hs,hs2]) (by rw[hs2];rfl)));obtain⟨a1,b1,e,⟨xs,hx⟩,⟨ys,hy⟩,q⟩:=q1;subst e;obtain⟨u1,u2,rfl,ru1,ru2⟩:=GR r1;cases ru1;cases ru2;obtain⟨its1,rv1,p1,hz1⟩:=I1.list hx;obtain⟨its2,rv2,p2,hz2⟩:=I1.list hy;have lt1:a1<s1.heap.objs.size:=by obtain⟨o,_,e,_⟩:=p1;exact bh e
 have lt2:b1<s1.heap.objs.size:=by obtain⟨o,_,e,_⟩:=p2;exact bh e
 refine call_zip_2 p1.isList p2.isList fun h' hz hTI hTO hi1 hi2 hsz hk=> ?_;have I2:Inv X pins σ H1 { s1 with heap:=h' }:=I1.kept (t':=s1.toks) hk;refine wpAny_pyIter_zip (s:={ s1 with heap:=h' }) hz ?_;refine⟨_,[_,_,_,_,_],_,_,H1,rfl,I2,GS (zipApart_new lt1 lt2),⟨hz,hTI,⟨_,_,hTO⟩,hi1,hi2⟩,fun b hb=> ?_,q⟩;have hb':s1.heap.objs.size<=b:=by
  simp only[aj,cm,or_false] at hb;rcases hb with rfl|rfl|rfl|rfl|rfl <;> walk_at "adr"
 exact I1.fpOk hb' (I1.hok.fresh hb')
end
noncomputable def Hf (ok:Okk) (H:Hp):Hp:=fun b=>@ite _ (ok b) (kq _) (H b) xp
theorem Ha (h:ok b):Hf ok H b=H b:=by unfold Hf;rw[if_pos h]
theorem Hc (h:¬ ok b):Hf ok H b=xp:=by unfold Hf;rw[if_neg h]
theorem lH (h:Hf ok H b=xo o):ok b/\H b=xo o:=by
 by_cases k:ok b
 ·rw[Ha k] at h;exact⟨k,h⟩
 ·rw[Hc k] at h;cases h
structure ItD (K:aa) (al:Nat->Option af) (H0:Hp) (J:It) (ds:List D):Prop where
 go:∀ i H,Same H0 H->i<ds.length->J.go i H
 yld:∀ i H x H' d,Same H0 H->J.yld i H x H'->ds[i]?=xo d->Same H H'/\Rep K ⟨fun b=>H0 b≠xp∨H b=xp,al⟩ H' x d
 stop:∀ i H,Same H0 H->ds.length<=i->J.stop i H
theorem _root_.L2.PI.imp (h:PI X tg e t) (f:∀ σ H R,t' σ H R->t σ H R):PI X tg e t':=fun pins s σ H R I q=>h pins s σ H R I (f _ _ _ q)
section
variable {X:Cx}{tg e a b c:bw}{f fa fb fc:DF}{fl:DL}{pos p:Pos}
noncomputable def lG (lo:Int) (n:Nat):List D:=(bp n).map fun k=>D.int (lo+(k:Nat))
theorem gB (lo:Int) (n:Nat):(lG lo n).length=n:=by simp[lG]
theorem GZ {lo:Int} (h:(lG lo n)[i]?=xo d):i<n/\d=.int (lo+(i:Nat)):=by
 unfold lG at h;rw[ay] at h;obtain⟨k,e,rfl⟩:=aH h;obtain⟨hi,e'⟩:=bq.mp e;rw[gq] at hi;rw[my] at e';subst e';exact⟨hi,rfl⟩
theorem itD_range {K:aa}{lo:Int}:ItD K al H0 (Itr lo n) (lG lo n):=
 ⟨fun i H _ hi=>by rw[gB] at hi;exact hi,fun i H x H' d _ y hd=>by
  obtain⟨rfl,rfl⟩:=y;obtain⟨_,rfl⟩:=GZ hd;exact⟨Same.refl _,.int _⟩,fun i H _ hi=>by rw[gB] at hi;exact hi⟩
noncomputable def gN (ds:List D):Option (List D):=match ds with
 |[.int j]=>if -1000000000<=j/\j<=1000000000 then xo (lG 0 j.toNat) else xp
 |_=>xp
noncomputable def Aa (xs ys:List D):List D:=bu (fun x y=>D.tup [x,y]) xs ys
abbrev BR:=D->Rho->Option Rho
def gR (K:aa) (bd:BR):TG:=fun v σ H Q=>∃(ok:Okk) (ρ ρ':Rho) (d:D),EnvR K ok H σ ρ/\σ.length=ρ.length/\Rep K ok H v d/\bd d ρ=xo ρ'/\∀ σ',EnvR K ok H σ' ρ'->σ'.length=ρ'.length->Q σ' H
noncomputable def aS (i:Nat):BR:=fun d ρ=>xo (ρ.set i (xo d))
theorem _root_.L2.PG.imp (h:PG X tg t) (f:∀ v σ H Q,t' v σ H Q->t v σ H Q):PG X tg t':=fun pins s σ H v u Q I r q=>h pins s σ H v u Q I r (f _ _ _ _ q)
theorem EnvR.set {K:aa} (h:EnvR K ok H σ ρ) (hl:σ.length=ρ.length) (r:Rep K ok H v d) (i:Nat):EnvR K ok H (σ.set i (xo v)) (ρ.set i (xo d)):=fun j e hj=>by
 by_cases hij:i=j
 ·subst hij
  by_cases hi:i<ρ.length
  ·rw[du hi] at hj;cases hj;exact⟨v,by rw[du (by omega)],r⟩
  ·rw[cq (by rw[cj];omega)] at hj;cases hj
 ·rw[f8 hij] at hj;obtain⟨w,a,b⟩:=h j e hj;exact⟨w,by rw[f8 hij];exact a,b⟩
theorem LP (hN:X.N.Nodup) (hi:X.N[i]?=xo x) (hx:Loc X.env.scope x) (hf:X.fn x=true∨X.env.scope.names.lookup x=xo .local:=by first|exact .inl rfl|exact .inr rfl|assumption):PG X (.Name x tp) (gR X.K (aS i)):=
 PG.imp (Al hN hi hx hf) fun v σ H Q ⟨ok,ρ,ρ',d,h1,h2,h3,h4,h5⟩=>by
  cases h4;exact h5 _ (h1.set h2 h3 i) (by rw[cj,cj];exact h2)
noncomputable def qZ (i j:Nat):BR:=fun d ρ=>match d with
 |.tup [x,y]=>xo ((ρ.set i (xo x)).set j (xo y))
 |_=>xp
theorem LO (hc:X.calm=true) (hN:X.N.Nodup) (hi:X.N[i]?=xo x) (hj:X.N[j]?=xo y) (hx:Loc X.env.scope x) (hy:Loc X.env.scope y)
  (hf:X.fn x=true∨X.env.scope.names.lookup x=xo .local:=by first|exact .inl rfl|exact .inr rfl|assumption) (hf2:X.fn y=true∨X.env.scope.names.lookup y=xo .local:=by first|exact .inl rfl|exact .inr rfl|assumption):
  PG X (.Tuple [.Name x p1,.Name y p2] k tp) (gR X.K (qZ i j)):=
 PG.imp (No (n:=2) hc (BM (Al hN hi hx hf) (BM (Al hN hj hy hf2) Ks))) fun v σ H Q ⟨ok,ρ,ρ',d,h1,h2,h3,h4,h5⟩=>by
  unfold qZ at h4;split at h4
  ·cases h4;obtain⟨a,xs,rfl,g,r⟩:=h3.tup_inv;obtain⟨v1,v2,rfl,r1,r2⟩:=r.two_inv;refine⟨a,_,rfl,g.sq,rfl,v1,_,rfl,v2,_,rfl,rfl,?_⟩;refine h5 _ ((h1.set h2 r1 i).set (by rw[cj,cj];exact h2) r2 j) ?_;simp only[cj];exact h2
  ·cases h4
noncomputable def GP (caps:List (Option Nat)) (ρ:Rho):Rho:=caps.map fun o=>o.bind fun j=>(ρ[j]?).join
noncomputable def jW:DB:=fun _=>xo true
theorem EnvR.cap {K:aa} (h:EnvR K ok H σ ρ) (caps:List (Option Nat)):EnvR K ok H (Gr caps σ) (GP caps ρ):=fun i d e=>by
 unfold GP at e;rw[ay] at e;obtain⟨o,e1,e2⟩:=aH e;cases o with
 |none=>cases e2
 |some j=>
  have e3:(ρ[j]?).join=xo d:=e2;have e4:ρ[j]?=xo (xo d):=by
   cases q:ρ[j]? with
   |none=>rw[q] at e3;cases e3
   |some o=>
    rw[q] at e3;cases o with
    |none=>cases e3
    |some d'=>cases e3;rfl
  obtain⟨v,a,b⟩:=h j d e4;refine⟨v,?_,b⟩;unfold Gr;rw[ay,e1];show xo ((σ[j]?).join)=_;rw[a];rfl
theorem Mt (caps:List (Option Nat)) (σ:St) (ρ:Rho):(Gr caps σ).length=(GP caps ρ).length:=by simp[Gr,GP]
variable {elt iter:bw}{ifs:List bw}{scope:kj}{N':List Str}{caps:List (Option Nat)}{fi:DL}{bd:BR}{t:DB}
structure GM (X:Cx) (scope:kj) (N':List Str) (caps:List (Option Nat)):Prop where
 calm:X.calm=true
 kind:scope.kind=.function
 names:∀ x∈scope.names,x.2=.local->scope.names.lookup x.1=xo .local
 free:∀ y∈scope.names,y.2=.free->X.env.scope.names.lookup y.1=xo .cell∨X.env.scope.names.lookup y.1=xo .free
 uniq:∀ y∈scope.names,y.2=.free->(y.1,c3)∉scope.names
 cap:Cw X scope N' caps
end
section
variable {K:aa}{ok0:Okk}{H0 H H':Hp}{σ:St}{ρ:Rs}{A:Nat->Option af}
theorem En {l:List α} (h:(l.set i a)[j]?=xo b):(j=i/\i<l.length/\b=a)∨(j≠i/\l[j]?=xo b):=by
 by_cases e:i=j
 ·subst e
  by_cases hi:i<l.length
  ·rw[du hi] at h;exact .inl ⟨rfl,hi,(b3 h).symm⟩
  ·rw[cq (by rw[cj];omega)] at h;cases h
 ·rw[f8 e] at h;exact .inr ⟨fun z=>e z.symm,h⟩
end
section
variable {X:Cx}{st:cx}{rest body els:List cx}{tg e a b c iter:bw}{es:List bw}{f fa fb:DF}{fl fi:DL}{t:DB}{F G:DS}{bd:BS}{pos p:Pos}{M:List Nat}
end
theorem Gg (hr:Room k A) (h:n<=200:=by decide):A.units+n<d7:=by
 have:=hr.un
 omega
end L2.MB
end
section
namespace L2.MB
noncomputable def lE:List D->Option (List Int)
 |[]=>xo []
 |.int i::ds=>(lE ds).map fun ns=>i::ns
 |_::_=>xp
theorem mM:∀ {ds:List D}{ns:List Int},lE ds=xo ns->ds=ns.map D.int
 |[],ns,h=>by cases h;rfl
 |.int i::ds,ns,h=>by
  have h':(lE ds).map (fun ns=>i::ns)=xo ns:=h;obtain⟨ms,e,rfl⟩:=aH h';rw[mM e];rfl
 |.non::_,_,h=>nomatch h
 |.bl _::_,_,h=>nomatch h
 |.str _::_,_,h=>nomatch h
 |.lst _::_,_,h=>nomatch h
 |.tup _::_,_,h=>nomatch h
section
variable {X:Cx}{e a b c:bw}{es:List bw}{f fa fb fc:DF}{fl:DL}{pos p:Pos}
theorem Aw (h:Vals (ns.map V.int) its):∃ xs:Array (Int×Tok),its.toArray=intItems xs/\xs.toList.map (·.1)=ns:=by
 have hi:=Do h;obtain⟨xs,e⟩:=(hi.allInts).items;refine⟨xs,e,?_⟩;rw[<- nums_intItems,<- e];exact hi.numsOf
theorem zJ (hc:X.calm=true):CallR X (.builtin "sum") (fun xs H Q=>∃(p:af) (ns:List Int),xs=[.ref p]/\SqL X.K H p (ns.map V.int)/\Q (.int ns.sum) H):=by
 intro pins s σ H xs us Q I r h;obtain⟨p,ns,rfl,hq,q⟩:=h;obtain⟨u,rfl,rx⟩:=lA r;cases rx;obtain⟨its,r',pl,hz⟩:=I.list hq;obtain⟨ys,e1,e2⟩:=Aw r';refine sum_intListG (I.ok.hd hc) (by rw[<- e1];exact pl.isList) fun h' tk t' k=> ?_;rw[preSum_eq,tz (by simp),e2];exact⟨.int ns.sum,H,I.kept k,⟨_,rfl⟩,q⟩
noncomputable def PL (ds:List D):Option D:=match ds with
 |[.lst xs]=>(lE xs).map fun ns=>.int ns.sum
 |_=>xp
noncomputable def yS (ds:List D):Option D:=match ds with
 |[.int i,.int j]=>xo (.int (if j>i then j else i))
 |_=>xp
noncomputable def Iy (ds:List D):Option D:=match ds with
 |[.int i,.int j]=>xo (.int (if j<i then j else i))
 |_=>xp
noncomputable def PN (ds:List D):Option D:=match ds with
 |[.int i]=>xo (.int i)
 |[.bl k]=>xo (.int (if k then 1 else 0))
 |[.str x]=>if x.length<=640 then(pv x).map D.int else xp
 |_=>xp
theorem Sh {K:aa} (r:Reps K ok H vs [.lst xs]):∃ p ys,vs=[.ref p]/\RL K ok H p ys/\Reps K ok H ys xs:=by
 obtain⟨v,rfl,r1⟩:=r.one_inv;obtain⟨p,ys,rfl,g,r2⟩:=r1.lst_inv;exact⟨p,ys,rfl,g,r2⟩
theorem LX {K:aa}:FitL K (fun xs H Q=>∃(p:af) (ns:List Int),xs=[.ref p]/\SqL K H p (ns.map V.int)/\Q (.int ns.sum) H) PL:=fun ok H xs as d Q h1 r e k=>by
 unfold PL at e;split at e
 ·obtain⟨ns,e1,rfl⟩:=aH e;obtain rfl:=mM e1;obtain⟨p,ys,rfl,g,r2⟩:=Sh r;obtain rfl:=r2.of_ints;exact⟨p,ns,rfl,g.sq,k _ H (Same.refl H) (.int _)⟩
 ·cases e
theorem IK {K:aa}:FitL K (fun xs H Q=>∃ i j,xs=[.int i,.int j]/\Q (.int (if j>i then j else i)) H) yS:=fun ok H xs as d Q h1 r e k=>by
 unfold yS at e;split at e
 ·cases e;obtain⟨v,v',rfl,r1,r2⟩:=r.two_inv;obtain rfl:=r1.int_inv;obtain rfl:=r2.int_inv;exact⟨_,_,rfl,k _ H (Same.refl H) (.int _)⟩
 ·cases e
theorem IJ {K:aa}:FitL K (fun xs H Q=>∃ i j,xs=[.int i,.int j]/\Q (.int (if j<i then j else i)) H) Iy:=fun ok H xs as d Q h1 r e k=>by
 unfold Iy at e;split at e
 ·cases e;obtain⟨v,v',rfl,r1,r2⟩:=r.two_inv;obtain rfl:=r1.int_inv;obtain rfl:=r2.int_inv;exact⟨_,_,rfl,k _ H (Same.refl H) (.int _)⟩
 ·cases e
theorem Gy:CallR X (.type "int") (fun xs H Q=>∃ x n,xs=[.str x]/\x.length<=640/\pv x=xo n/\Q (.int n) H):=by
 intro pins s σ H xs us Q I r h;obtain⟨x,n,rfl,hz,hn,q⟩:=h;obtain⟨u,rfl,t,rfl⟩:=lA r;exact PySem.W.KIN.call_text hn hz ⟨.int n,H,I.tok _,⟨_,rfl⟩,q⟩
theorem Mc {K:aa}:FitL K (fun xs H Q=>((∃ i,xs=[.int i]/\Q (.int i) H)∨∃ k,xs=[.bl k]/\Q (.int (if k then 1 else 0)) H)∨∃ x n,xs=[.str x]/\x.length<=640/\pv x=xo n/\Q (.int n) H) PN:=fun ok H xs as d Q h1 r e k=>by
 unfold PN at e;split at e
 ·cases e;obtain⟨v,rfl,r1⟩:=r.one_inv;obtain rfl:=r1.int_inv;exact .inl (.inl ⟨_,rfl,k _ H (Same.refl H) (.int _)⟩)
 ·cases e;obtain⟨v,rfl,r1⟩:=r.one_inv;obtain rfl:=r1.bl_inv;exact .inl (.inr ⟨_,rfl,k _ H (Same.refl H) (.int _)⟩)
 ·rename_i x
  by_cases hz:x.length<=640
  ·rw[if_pos hz] at e;obtain⟨n,e1,rfl⟩:=aH e;obtain⟨v,rfl,r1⟩:=r.one_inv;obtain rfl:=r1.str_inv;exact .inr ⟨x,n,rfl,hz,e1,k _ H (Same.refl H) (.int _)⟩
  ·rw[if_neg hz] at e;cases e
 ·cases e
theorem Gz:CallR X (.type "int") (fun xs H Q=>((∃ i,xs=[.int i]/\Q (.int i) H)∨∃ k,xs=[.bl k]/\Q (.int (if k then 1 else 0)) H)∨∃ x n,xs=[.str x]/\x.length<=640/\pv x=xo n/\Q (.int n) H):=call_int1.or Gy
theorem tW (a:Array Nat):∀(k:Nat) (acc:Array Nat),((av k a).foldl (· ++·) acc).size=acc.size+k*a.size
 |0,acc=>by simp
 |k+1,acc=>by
  rw[fm,wq,tW a k,Array.size_append,Nat.succ_mul];omega
noncomputable def PJ (x:Str) (n:Int):Str:=if n<1 then Str.empty else if(n==1||x.length==0)=true then x else⟨(av n.toNat x.cps).foldl (· ++·) #[]⟩
noncomputable def LV (a b:D):Option D:=match a,b with
 |.str x,.int n=>if 0<=n/\n<=100000/\x.length<=100 then xo (.str (PJ x n)) else xp
 |_,_=>xp
theorem KP:OpR X (j7 .Mult) (fun x y H Q=>∃ z n,x=.str z/\y=.int n/\(0<=n/\n<=100000/\z.length<=100)/\Q (.str (PJ z n)) H):=by
 intro pins s σ H x y v u Q I rx ry h;obtain⟨z,n,rfl,rfl,⟨h0,h1,h2⟩,q⟩:=h;obtain⟨t,rfl⟩:=rx;obtain⟨t',rfl⟩:=ry;refine PySem.P.mul_str ?_ (fun hn _=> ?_) (fun hn _=> ?_) ?_
 ·have e1:decide (n< -(2 ^ 63:Int))=false:=decide_eq_false (by omega);have e2:decide (n≥2 ^ 63)=false:=decide_eq_false (by omega);rw[e1,e2,uw]
 ·have h3:n<=100000:=h1
  have:(100:Int)<=(2 ^ 63-1) / n:=by
   refine(Int.le_ediv_iff_mul_le (by omega)).mpr ?_;omega
  have h4:(z.length:Int)<=100:=by omega
  omega
 ·have hle:z.length*n.toNat<=100*100000:=Nat.mul_le_mul h2 (by omega);have hs:=bt
  first|exact decide_eq_false (by omega)|(simp[Builtin.Str.tooLong];omega)|(simp[tooLong];omega)
 ·unfold PJ at q;split
  ·rename_i hn
   rw[if_pos hn] at q;exact⟨by show 0<=sizeLine;exact ia _,.str _,H,I.tok _,⟨_,rfl⟩,q⟩
  ·rename_i hn
   rw[if_neg hn] at q;split
   ·rename_i hz
    rw[if_pos hz] at q;exact⟨.str _,H,I,⟨_,rfl⟩,q⟩
   ·rename_i hz
    rw[if_neg hz] at q;refine⟨?_,.str _,H,I.tok _,⟨_,rfl⟩,q⟩
    show((av n.toNat z.cps).foldl (· ++·) #[]).size<=sizeLine
    rw[tW,bt];have hle:n.toNat*z.cps.size<=100000*100:=Nat.mul_le_mul (by omega) h2;simp only[bi,ku];omega
end
noncomputable def Rm (lo c:Int) (n:Nat):It:=⟨fun i _=>i<n,fun i H x H'=>H'=H/\x=.int (lo+(i:Nat)*c),fun i _=>n<=i⟩
theorem Ad {K:aa} (it:af) (lo c:Int) (n:Nat):JR P w K tg (Rm lo c n) [it] it (fun i h=>sw h it (lo+(i:Nat)*c) ((n:Int)-(i:Nat)) c) where
 mem:=by simp
 obj:=fun i h st b hb=>by
  have e:b=it:=by simpa using hb
  subst e;exact⟨_,st,fun v z=>by
   have z':vz _=r9 v:=z;cases z'⟩
 keep:=fun i h h' st k=>k it (by simp) _ st
 item:=by
  intro X hP hw hK hc i pins s σ H E I hf st hg;subst hP hw hK;obtain⟨f0,f1,f2,f3,f4,f5⟩:=hf it (by simp);have W:=Walks.range (prog:=X.prog) (w:=X.w) (I.ok.hd hc) it lo c n;refine W.item i s _ _ hg st fun v h' tk hv st' kk=> ?_;obtain⟨t,rfl⟩:=hv;have I1:Inv X pins σ H { s with heap:=h',toks:=tk }:=I.turned (fun b o hb e=>kk b o (by simpa using hb) e) f0 f1 f3 f4 f5;exact⟨_,rfl,FG (s:={ s with heap:=h',toks:=tk }) (n:="range_iterator") st' rfl rfl (by decide) ⟨.int (lo+(i:Nat)*c),H,I1,⟨t,rfl⟩,⟨rfl,rfl⟩,st',fun b hb=>(hf b hb).1⟩⟩
 done:=by
  intro X hP hw hK hc i pins s σ H E I hf st hg;subst hP hw hK;obtain⟨f0,f1,f2,f3,f4,f5⟩:=hf it (by simp);exact sy (I.ok.hd hc) st (by have:n<=i:=hg;omega) fun h' eb=>⟨rfl,I.turned (t':=s.toks) (fun b o hb e=>eb b o hb e) f0 f1 f3 f4 f5⟩
 self:=fun _ _ _ _ _ st h=>s0 st h
section
variable {X:Cx}{tg e a b c:bw}{f fa fb fc:DF}{fl:DL}{pos p:Pos}
noncomputable def rS (lo c:Int) (n:Nat):List D:=(bp n).map fun k=>D.int (lo+(k:Nat)*c)
theorem pI (lo c:Int) (n:Nat):(rS lo c n).length=n:=by simp[rS]
theorem itD_range3 {K:aa}{lo c:Int}:ItD K al H0 (Rm lo c n) (rS lo c n):=
 ⟨fun i H _ hi=>by rw[pI] at hi;exact hi,fun i H x H' d _ y hd=>by
  obtain⟨rfl,rfl⟩:=y;unfold rS at hd;rw[ay] at hd;obtain⟨k,e,rfl⟩:=aH hd;obtain⟨hi,e'⟩:=bq.mp e;rw[my] at e';subst e';exact⟨Same.refl _,.int _⟩,fun i H _ hi=>by rw[pI] at hi;exact hi⟩
end
noncomputable def AX (scope:kj):Bool:=scope.names.all fun y=> !(y.2== .local)||scope.names.lookup y.1==xo .local
noncomputable def Gp (out scope:kj):Bool:=scope.names.all fun y=> !(y.2== .free)||((out.names.lookup y.1==xo .cell||out.names.lookup y.1==xo .free)&& !(scope.names.contains (y.1,c3)))
noncomputable def zF (N:List Str) (out scope:kj) (x:Str):Option Nat->Bool
 |none=>true
 |some j=>N[j]?==xo x&&scope.names.lookup x==xo .free&& !(scope.names.contains (x,c3))&&(out.names.lookup x==xo .cell||out.names.lookup x==xo .free)
noncomputable def nD (N:List Str) (out scope:kj):List Str->List (Option Nat)->Bool
 |[],[]=>true
 |x::xs,c::cs=>zF N out scope x c&&nD N out scope xs cs
 |_,_=>false
theorem uE:∀ {xs:List Str}{cs:List (Option Nat)},nD N out scope xs cs=true->cs.length=xs.length
 |[],[],_=>rfl
 |x::xs,c::cs,h=>by
  have h':(zF N out scope x c&&nD N out scope xs cs)=true:=h;rw[br] at h';simp[uE h'.2]
 |[],_::_,h=>nomatch h
 |_::_,[],h=>nomatch h
theorem uF:∀ {xs:List Str}{cs:List (Option Nat)}{i j:Nat},nD N out scope xs cs=true->cs[i]?=xo (xo j)->∃ x,xs[i]?=xo x/\zF N out scope x (xo j)=true
 |[],[],i,j,_,h=>by simp at h
 |x::xs,c::cs,i,j,h,h2=>by
  have h':(zF N out scope x c&&nD N out scope xs cs)=true:=h;rw[br] at h';cases i with
  |zero=>
   simp at h2;subst h2;exact⟨x,rfl,h'.1⟩
  |succ i=>
   simp at h2;obtain⟨y,e,q⟩:=uF (i:=i) h'.2 h2;exact⟨y,by simpa using e,q⟩
 |[],_::_,_,_,h,_=>nomatch h
 |_::_,[],_,_,h,_=>nomatch h
theorem zC (h1:X.calm=true) (h2:scope.kind=.function) (h3:AX scope=true) (h4:Gp X.env.scope scope=true) (h5:nD X.N X.env.scope scope N' caps=true):GM X scope N' caps:=by
 refine⟨h1,h2,fun x hx hl=> ?_,fun y hy hf=> ?_,fun y hy hf hm=> ?_,uE h5,fun i j hij=> ?_⟩
 ·have:=fh.mp h3 x hx
  rw[hl] at this;simpa using this
 ·have:=fh.mp h4 y hy
  rw[hf] at this;simp at this;exact this.1
 ·have:=fh.mp h4 y hy
  rw[hf] at this;simp at this;exact this.2 hm
 ·obtain⟨x,e,q⟩:=uF h5 hij;unfold zF at q;simp only[br,ie,beq_iff_eq,vv,List.contains_eq_mem,decide_eq_false_iff_not] at q;exact⟨x,e,q.1.1.1,q.1.1.2,q.1.2,q.2⟩
namespace boot
theorem len:dc "len"=xo (.builtin "len"):=by decide+kernel
theorem sum:dc "sum"=xo (.builtin "sum"):=by decide+kernel
theorem min:dc "min"=xo (.builtin "min"):=by decide+kernel
theorem max:dc "max"=xo (.builtin "max"):=by decide+kernel
theorem sorted:dc "sorted"=xo (.builtin "sorted"):=by decide+kernel
theorem list:dc "list"=xo (.type "list"):=by decide+kernel
theorem tuple:dc "tuple"=xo (.type "tuple"):=by decide+kernel
theorem int:dc "int"=xo (.type "int"):=by decide+kernel
theorem bool:dc "bool"=xo (.type "bool"):=by decide+kernel
theorem str:dc "str"=xo (.type "str"):=by decide+kernel
end boot
structure Bn (mg:Str->Option ag):Prop where
 len:mg "len"=xp
 range:mg "range"=xp
 zip:mg "zip"=xp
 sum:mg "sum"=xp
 all:mg "all"=xp
 min:mg "min"=xp
 max:mg "max"=xp
 sorted:mg "sorted"=xp
 isinstance:mg "isinstance"=xp
 list:mg "list"=xp
 tuple:mg "tuple"=xp
 int:mg "int"=xp
 bool:mg "bool"=xp
 str:mg "str"=xp
theorem bn_mk {K:aa} (X:K.In h) (G:h.Ns ce mg) (h1:cr K ce "len"=xo xp) (h2:cr K ce "range"=xo xp) (h3:cr K ce "zip"=xo xp)
  (h4:cr K ce "sum"=xo xp) (h5:cr K ce "all"=xo xp) (h6:cr K ce "min"=xo xp) (h7:cr K ce "max"=xo xp) (h8:cr K ce "sorted"=xo xp)
  (h9:cr K ce "isinstance"=xo xp) (h10:cr K ce "list"=xo xp) (h11:cr K ce "tuple"=xo xp) (h12:cr K ce "int"=xo xp) (h13:cr K ce "bool"=xo xp)
  (h14:cr K ce "str"=xo xp):Bn mg:=
 ⟨cz X G h1,cz X G h2,cz X G h3,cz X G h4,cz X G h5,cz X G h6,cz X G h7,cz X G h8,cz X G h9,cz X G h10,cz X G h11,cz X G h12,
  cz X G h13,cz X G h14⟩
def FnIn (K:aa) (x:Str) (st:cx):Prop:=∃(f:af) (oc:ag) (od an:Option af) (osl:Array (Option ag)) (kV doc pm cdv ct:ag),cr K ce x=xo (xo (.ref f))/\
 K.lookup f=xo ⟨oc,od,.func (iu x x (iB st) (fW st) (bG st) .none kV doc pm an cdv ct),osl⟩/\j5 K cdv x=true/\gu K (.ref f)=true
theorem fnIn_mk {K:aa}{st:cx}{kV doc pm cdv ct:ag} (a:cr K ce x=xo (xo (.ref f)))
  (l:K.lookup f=xo ⟨oc,od,.func (iu x x (iB st) (fW st) (bG st) .none kV doc pm an cdv ct),osl⟩) (c:j5 K cdv x=true) (k:gu K (.ref f)=true):FnIn K x st:=
 ⟨f,oc,od,an,osl,kV,doc,pm,cdv,ct,a,l,c,k⟩
structure PQ (K:aa) (mg:Str->Option ag) (x:Str) (st:cx) (f:af) (fd:jw):Prop where
 fn:Fun K x x st f fd
 at_:mg x=xo (.ref f)
theorem FnIn.fnAt {K:aa}{st:cx} (I:FnIn K x st) (X:K.In h) (G:h.Ns ce mg):∃ f fd,PQ K mg x st f fd:=by
 obtain⟨f,oc,od,an,osl,kV,doc,pm,cdv,ct,a,l,c,k⟩:=I;exact⟨f,_,JL l c k,ol X G a⟩
inductive Ob where
 /-- an instance of the c-th class;a list;a dict by tuples;a dict by texts and ints -/
 |ins (c:Nat) (fs:List (Str×D))|ml (ds:List D)|dt (kvs:List (List Key×D))|dk (kvs:List (Key×D))
 /-- a dict by tuples while a loop walks it -/
 |dz (kvs:List (List Key×D))
abbrev Om:=List Ob
inductive KvR {κ:Type} (K:aa) (ok:Okk) (H:Hp):List (κ×V)->List (κ×D)->Prop
 |nil:KvR K ok H [] []
 |cons {k:κ}{v:V}{d:D}{vs:List (κ×V)}{ds:List (κ×D)}:Rep K ok H v d->KvR K ok H vs ds->KvR K ok H ((k,v)::vs) ((k,d)::ds)
section
variable {κ:Type}{K:aa}{ok ok':Okk}{H H':Hp}
theorem KvR.mono (f:∀ b o,ok b->H b=xo o->ok' b/\H' b=xo o) (g:∀ n a,ok.al n=xo a->ok'.al n=xo a):∀ {vs:List (κ×V)}{ds:List (κ×D)},KvR K ok H vs ds->KvR K ok' H' vs ds
 |_,_,.nil=>.nil
 |_,_,.cons r rs=>.cons (r.mono f g) (KvR.mono f g rs)
theorem KvR.length:∀ {vs:List (κ×V)}{ds:List (κ×D)},KvR K ok H vs ds->vs.length=ds.length
 |_,_,.nil=>rfl
 |_,_,.cons _ rs=>by rw[b4,b4,KvR.length rs]
theorem KvR.keys:∀ {vs:List (κ×V)}{ds:List (κ×D)},KvR K ok H vs ds->vs.map (·.1)=ds.map (·.1)
 |_,_,.nil=>rfl
 |_,_,.cons _ rs=>by rw[bg,bg,KvR.keys rs]
theorem KvR.vals:∀ {vs:List (κ×V)}{ds:List (κ×D)},KvR K ok H vs ds->Reps K ok H (vs.map (·.2)) (ds.map (·.2))
 |_,_,.nil=>.nil
 |_,_,.cons r rs=>.cons r (KvR.vals rs)
end
section
variable {K:aa}{ok ok':Okk}{H H':Hp}
theorem KvR.look:∀ {vs:List (Str×V)}{ds:List (Str×D)},KvR K ok H vs ds->ds.lookup x=xo d->∃ v,vs.lookup x=xo v/\Rep K ok H v d
 |_,_,.nil,e=>by cases e
 |_,_,@KvR.cons _ _ _ _ k v d' vs ds r rs,e=>by
  rw[gg] at e ⊢;cases q:x==k with
  |true=>
   rw[q] at e;cases e;exact⟨v,rfl,r⟩
  |false=>
   rw[q] at e;exact KvR.look rs e
theorem KvR.look_none:∀ {vs:List (Str×V)}{ds:List (Str×D)},KvR K ok H vs ds->ds.lookup x=xp->vs.lookup x=xp
 |_,_,.nil,e=>rfl
 |_,_,@KvR.cons _ _ _ _ k v d' vs ds r rs,e=>by
  rw[gg] at e ⊢;cases q:x==k with
  |true=>rw[q] at e;cases e
  |false=>rw[q] at e;exact KvR.look_none rs e
end
def CellR (cls:Nat->af) (K:aa) (ok:Okk) (H:Hp) (a:af):Ob->Prop
 |.ins c fs=>∃ dx vs,H a=xo (.ins (cls c) dx vs)/\KvR K ok H vs fs
 |.ml ds=>∃ xs,H a=xo (.lst xs)/\Reps K ok H xs ds
 |.dt kvs=>∃ vs,H a=xo (.dT vs)/\KvR K ok H vs kvs
 |.dk kvs=>∃ vs,H a=xo (.dK vs)/\KvR K ok H vs kvs
 |.dz kvs=>∃ o vs,H a=xo (.frz o (.dT vs))/\KvR K ok H vs kvs
theorem CellR.mono {K:aa} (f:∀ b o,ok b->H b=xo o->ok' b/\H' b=xo o) (g:∀ n a,ok.al n=xo a->ok'.al n=xo a) (e:∀ o,H a=xo o->H' a=xo o)
  (h:CellR cls K ok H a ob):CellR cls K ok' H' a ob:=by
 cases ob with
 |ins c fs=>obtain⟨dx,vs,h1,h2⟩:=h;exact⟨dx,vs,e _ h1,h2.mono f g⟩
 |ml ds=>obtain⟨xs,h1,h2⟩:=h;exact⟨xs,e _ h1,h2.mono f g⟩
 |dt kvs=>obtain⟨xs,h1,h2⟩:=h;exact⟨xs,e _ h1,h2.mono f g⟩
 |dk kvs=>obtain⟨xs,h1,h2⟩:=h;exact⟨xs,e _ h1,h2.mono f g⟩
 |dz kvs=>obtain⟨o,xs,h1,h2⟩:=h;exact⟨o,xs,e _ h1,h2.mono f g⟩
theorem CellR.there {K:aa} (h:CellR cls K ok H a ob):∃ o,H a=xo o/\True:=by
 cases ob with
 |ins c fs=>obtain⟨dx,vs,h1,h2⟩:=h;exact⟨_,h1,trivial⟩
 |ml ds=>obtain⟨xs,h1,h2⟩:=h;exact⟨_,h1,trivial⟩
 |dt kvs=>obtain⟨xs,h1,h2⟩:=h;exact⟨_,h1,trivial⟩
 |dk kvs=>obtain⟨xs,h1,h2⟩:=h;exact⟨_,h1,trivial⟩
 |dz kvs=>obtain⟨o,xs,h1,h2⟩:=h;exact⟨_,h1,trivial⟩
structure Stt (cls:Nat->af) (K:aa) (ok:Okk) (H:Hp) (ω:Om):Prop where
 cell:∀ n ob,ω[n]?=xo ob->∃ a,ok.al n=xo a/\CellR cls K ok H a ob
 dom:∀ n a,ok.al n=xo a->n<ω.length
 inj:∀ n m a,ok.al n=xo a->ok.al m=xo a->n=m
 nok:∀ n a,ok.al n=xo a->¬ ok.p a
structure Ex (ok:Okk) (H:Hp) (ok':Okk) (H':Hp):Prop where
 dat:∀ b o,ok b->H b=xo o->ok' b/\H' b=xo o
 ids:∀ n a,ok.al n=xo a->ok'.al n=xo a
 frm:∀ b o,H b=xo o->(∀ n,ok.al n≠xo b)->H' b=xo o
 new:∀ n a,ok'.al n=xo a->ok.al n=xo a∨H a=xp
 keep:∀ b,H' b=xp->H b=xp
 sub:∀ b,ok' b->ok b∨H b=xp
 /-- what a loop walks stands still -/
 frz:∀ b o u,H b=xo (.frz o u)->H' b=xo (.frz o u)
structure Nw (cls:Nat->af) (K:aa) (ok:Okk) (H:Hp) (ok':Okk) (H':Hp) (ω':Om):Prop where
 ex:Ex ok H ok' H'
 okh:OkH ok' H'
 st:Stt cls K ok' H' ω'
section
variable {cls:Nat->af}{K:aa}{ok ok' ok2:Okk}{H H' H2:Hp}{ω ω' ω2:Om}{σ:St}{ρ:Rho}{a:af}{n:Nat}
theorem Stt.at_ (h:Stt cls K ok H ω) (e:ok.al n=xo a):∃ ob,ω[n]?=xo ob/\CellR cls K ok H a ob:=by
 have hn:=h.dom n a e;obtain⟨b,e1,c⟩:=h.cell n ω[n] (by simp[hn]);rw[e] at e1;cases e1;exact⟨_,by simp[hn],c⟩
theorem Ex.same (s:Same H H'):Ex ok H ok H':=⟨fun b o k e=>⟨k,s b o e⟩,fun _ _ e=>e,fun b o e _=>s b o e,fun _ _ e=>.inl e,fun _ e=>s.free e,fun _ e=>.inl e,fun b o u e=>s b _ e⟩
theorem Ex.trans (x:Ex ok H ok' H') (y:Ex ok' H' ok2 H2):Ex ok H ok2 H2 where
 dat:=fun b o k e=>let ⟨k',e'⟩:=x.dat b o k e;y.dat b o k' e'
 ids:=fun n a e=>y.ids n a (x.ids n a e)
 frm:=fun b o e h=>y.frm b o (x.frm b o e h) fun n z=>by
  rcases x.new n b z with z|z
  ·exact h n z
  ·rw[e] at z;cases z
 new:=fun n a e=>by
  rcases y.new n a e with z|z
  ·exact x.new n a z
  ·exact .inr (x.keep a z)
 keep:=fun b e=>x.keep b (y.keep b e)
 sub:=fun b e=>by
  rcases y.sub b e with z|z
  ·exact x.sub b z
  ·exact .inr (x.keep b z)
 frz:=fun b o u e=>y.frz b o u (x.frz b o u e)
theorem Nw.trans (x:Nw cls K ok H ok' H' ω') (y:Nw cls K ok' H' ok2 H2 ω2):Nw cls K ok H ok2 H2 ω2:=⟨x.ex.trans y.ex,y.okh,y.st⟩
theorem Stt.same (h:Stt cls K ok H ω) (s:Same H H'):Stt cls K ok H' ω:=
 ⟨fun n ob e=>let ⟨a,e1,c⟩:=h.cell n ob e;⟨a,e1,c.mono (fun b o k e=>⟨k,s b o e⟩) (fun _ _ e=>e) fun o e=>s a o e⟩,h.dom,h.inj,h.nok⟩
theorem Nw.same (h:OkH ok H) (t:Stt cls K ok H ω) (s:Same H H'):Nw cls K ok H ok H' ω:=⟨.same s,h.same s,t.same s⟩
theorem Nw.refl (h:OkH ok H) (t:Stt cls K ok H ω):Nw cls K ok H ok H ω:=.same h t (Same.refl H)
theorem Rep.ex (x:Ex ok H ok' H') (h:Rep K ok H v d):Rep K ok' H' v d:=h.mono x.dat x.ids
theorem Reps.ex (x:Ex ok H ok' H') (h:Reps K ok H v d):Reps K ok' H' v d:=h.mono x.dat x.ids
theorem EnvR.ex (x:Ex ok H ok' H') (h:EnvR K ok H σ ρ):EnvR K ok' H' σ ρ:=fun i d e=>let ⟨v,a,r⟩:=h i d e;⟨v,a,r.ex x⟩
theorem sU {l:List Ob}{a b:Ob} (h:(l.set i a)[j]?=xo b):(j=i/\b=a)∨(j≠i/\l[j]?=xo b):=by
 rcases En h with⟨h1,_,h3⟩|h
 ·exact .inl ⟨h1,h3⟩
 ·exact .inr h
theorem Nw.write (h:OkH ok H) (t:Stt cls K ok H ω) (e:ok.al n=xo a) (h0:H a=xo o0) (c:(∀ b u,ok b->H b=xo u->ok b/\upd H a o b=xo u)->CellR cls K ok (upd H a o) a ob) (nt:∀ xs,o≠ .tup xs:=by intro _ z;cases z) (nz:∀ x u,o0≠ .frz x u:=by intro _ _ z;cases z):Nw cls K ok H ok (upd H a o) (ω.set n ob):=by
 have dat:∀ b u,ok b->H b=xo u->ok b/\upd H a o b=xo u:=fun b u k q=>⟨k,by rw[aG (show b≠a from fun z=>t.nok n a e (z ▸ k))];exact q⟩;refine⟨⟨dat,fun _ _ z=>z,fun b u q z=>by rw[aG (show b≠a from fun w=>z n (w ▸ e))];exact q,fun _ _ z=>.inl z,fun b q=> ?_,fun _ z=>.inl z,fun b x u z=>by rw[aG (show b≠a from fun w=>nz x u (b3 ((h0.symm.trans (w ▸ z)))))];exact z⟩,⟨fun b q=> ?_,fun b xs q=> ?_⟩,fun m ob' q=> ?_,fun m b q=> ?_,t.inj,t.nok⟩
 ·by_cases hb:b=a
  ·rw[hb,aP] at q;cases q
  ·rw[aG hb] at q;exact q
 ·by_cases hb:b=a
  ·rw[hb,aP] at q;cases q
  ·rw[aG hb] at q;exact h b q
 ·by_cases hb:b=a
  ·rw[hb,aP] at q;exact absurd (b3 q) (nt xs)
  ·rw[aG hb] at q;exact h.tp b xs q
 ·rcases sU q with⟨rfl,rfl⟩|⟨hm,q⟩
  ·exact⟨a,e,c dat⟩
  ·obtain⟨b,e1,c1⟩:=t.cell m ob' q;refine⟨b,e1,c1.mono dat (fun _ _ z=>z) fun u z=> ?_⟩;rw[aG (show b≠a from fun w=>hm (t.inj m n a (w ▸ e1) e))];exact z
 ·rw[cj];exact t.dom m b q
noncomputable def okN (ok:Okk) (n:Nat) (p:af):Okk:=⟨fun b=>ok b/\b≠p,fun m=>if m=n then xo p else ok.al m⟩
theorem uY (t:Stt cls K ok H ω) (m:Nat) (b:af) (e:ok.al m=xo b):(okN ok ω.length p).al m=xo b:=by
 have hm:=t.dom m b e
 show(if m=ω.length then xo p else ok.al m)=xo b
 rw[if_neg (ci hm)];exact e
theorem Ap (np:H p=xp) (b:af) (u:HO) (k:ok b) (e:H b=xo u):okN ok n p b/\upd H p o b=xo u:=
 ⟨⟨k,aN e np⟩,by rw[aG (aN e np)];exact e⟩
theorem Nw.make (h:OkH ok H) (t:Stt cls K ok H ω) (np:H p=xp) (c:CellR cls K (okN ok ω.length p) (upd H p o) p ob) (nt:∀ xs,o≠ .tup xs:=by intro _ z;cases z):Nw cls K ok H (okN ok ω.length p) (upd H p o) (ω++[ob]):=by
 have al:∀ m b,(okN ok ω.length p).al m=xo b->(m=ω.length/\b=p)∨(m≠ω.length/\ok.al m=xo b):=fun m b q=>by
  have q':(if m=ω.length then xo p else ok.al m)=xo b:=q
  by_cases hm:m=ω.length
  ·rw[if_pos hm] at q';exact .inl ⟨hm,(b3 q').symm⟩
  ·rw[if_neg hm] at q';exact .inr ⟨hm,q'⟩
 have tr:∀ m b,ok.al m=xo b->b≠p:=fun m b q=>by
  obtain⟨_,_,c1⟩:=t.at_ q;obtain⟨_,z,_⟩:=c1.there;exact aN z np
 refine⟨⟨fun b u k e=>Ap np b u k e,fun m b q=>uY t m b q,fun b u q z=>by rw[aG (aN q np)];exact q,fun m b q=> ?_,fun b q=> ?_,fun b k=>.inl k.1,fun b x u z=>by rw[aG (aN z np)];exact z⟩,⟨fun b q=> ?_,fun b xs q=> ?_⟩,fun m ob' q=> ?_,fun m b q=> ?_,fun m m' b q q'=> ?_,fun m b q k=> ?_⟩
 ·rcases al m b q with⟨_,rfl⟩|⟨_,q⟩
  ·exact .inr np
  ·exact .inl q
 ·by_cases hb:b=p
  ·rw[hb];exact np
  ·rw[aG hb] at q;exact q
 ·have hb:b≠p:=fun z=>by rw[z,aP] at q;cases q
  rw[aG hb] at q;exact⟨h b q,hb⟩
 ·have hb:b≠p:=fun z=>by rw[z,aP] at q;exact nt xs (b3 q)
  rw[aG hb] at q;exact⟨h.tp b xs q,hb⟩
 ·by_cases hm:m<ω.length
  ·rw[am hm] at q;obtain⟨b,e1,c1⟩:=t.cell m ob' q;exact⟨b,uY t m b e1,c1.mono (fun b u k e=>Ap np b u k e) (fun m b q=>uY t m b q) fun u z=>by rw[aG (aN z np)];exact z⟩
  ·have hm':m=ω.length:=by
    have:=(bq.mp q).1
    simp at this;omega
   subst hm';rw[de (bf _)] at q;simp at q;subst q;exact⟨p,by show(if ω.length=ω.length then xo p else _)=_;rw[if_pos rfl],c⟩
 ·rw[bx,lg];rcases al m b q with⟨rfl,_⟩|⟨_,q⟩
  ·omega
  ·have:=t.dom m b q
   omega
 ·rcases al m b q with⟨rfl,rfl⟩|⟨_,q⟩ <;> rcases al m' b q' with⟨rfl,w⟩|⟨_,q'⟩
  ·rfl
  ·exact absurd rfl (tr m' b q')
  ·exact absurd w (tr m b q)
  ·exact t.inj m m' b q q'
 ·rcases al m b q with⟨_,rfl⟩|⟨_,q⟩
  ·exact k.2 rfl
  ·exact t.nok m b q k.1
theorem Rep.new_obj:Rep K (okN ok n p) H (.ref p) (.obj n):=.obj (by show(if n=n then xo p else _)=_;rw[if_pos rfl])
end
inductive Rz (α:Type) where
 |ok (a:α)|ex (c:Nat)
abbrev OG (α:Type):=Rho->Om->Option (Rz α×Om)
abbrev XE:=Nat->Hp->Prop
structure Pre (cls:Nat->af) (K:aa) (ok:Okk) (H:Hp) (ω:Om) (σ:St) (ρ:Rho):Prop where
 okh:OkH ok H
 st:Stt cls K ok H ω
 env:EnvR K ok H σ ρ
 len:σ.length=ρ.length
theorem Pre.nw {K:aa} (p:Pre cls K ok H ω σ ρ) (x:Nw cls K ok H ok' H' ω'):Pre cls K ok' H' ω' σ ρ:=⟨x.okh,x.st,p.env.ex x.ex,p.len⟩
def exR (cls:Nat->af) (K:aa) (ok:Okk) (H:Hp) (ω':Om) (E:XE) (c:Nat):Prop:=∀ ok' H',Nw cls K ok H ok' H' ω'->E c H'
def tO (cls:Nat->af) (K:aa) (f:OG D) (E:XE):TE:=fun σ H Q=>∃(ok:Okk) (ρ:Rho) (ω:Om) (r:Rz D) (ω':Om),Pre cls K ok H ω σ ρ/\f ρ ω=xo (r,ω')/\match r with
 |.ok d=>∀ v ok' H',Nw cls K ok H ok' H' ω'->Rep K ok' H' v d->Q v H'
 |.ex c=>exR cls K ok H ω' E c
def tOT (cls:Nat->af) (K:aa) (f:OG Bool) (E:XE):TT:=fun σ H Q=>∃(ok:Okk) (ρ:Rho) (ω:Om) (r:Rz Bool) (ω':Om),Pre cls K ok H ω σ ρ/\f ρ ω=xo (r,ω')/\match r with
 |.ok b=>∀ ok' H',Nw cls K ok H ok' H' ω'->Q b H'
 |.ex c=>exR cls K ok H ω' E c
def tOA (cls:Nat->af) (K:aa) (f:OG (List D)) (E:XE):TA:=fun σ H Q=>∃(ok:Okk) (ρ:Rho) (ω:Om) (r:Rz (List D)) (ω':Om),Pre cls K ok H ω σ ρ/\f ρ ω=xo (r,ω')/\match r with
 |.ok ds=>∀ vs ok' H',Nw cls K ok H ok' H' ω'->Reps K ok' H' vs ds->Q vs H'
 |.ex c=>exR cls K ok H ω' E c
abbrev OE (X:Cx) (cls:Nat->af) (E:XE) (e:bw) (f:OG D):Prop:=PE X e (tO cls X.K f E)
abbrev OT (X:Cx) (cls:Nat->af) (E:XE) (e:bw) (f:OG Bool):Prop:=PT X e (tOT cls X.K f E)
abbrev OA (X:Cx) (cls:Nat->af) (E:XE) (es:List bw) (f:OG (List D)):Prop:=PA X es (tOA cls X.K f E)
noncomputable def oB {α β:Type} (f:OG α) (g:α->OG β):OG β:=fun ρ ω=>match f ρ ω with
 |none=>xp
 |some (.ex c,ω1)=>xo (.ex c,ω1)
 |some (.ok a,ω1)=>g a ρ ω1
theorem kC {g:α->OG β} (h:oB f g ρ ω=xo (r,ω')):(∃ c,f ρ ω=xo (.ex c,ω')/\r=.ex c)∨∃ a ω1,f ρ ω=xo (.ok a,ω1)/\g a ρ ω1=xo (r,ω'):=by
 unfold oB at h;split at h
 ·cases h
 ·cases h;exact .inl ⟨_,‹_›,rfl⟩
 ·exact .inr ⟨_,_,‹_›,h⟩
noncomputable def oR {α:Type} (o:Option (α×Om)):Option (Rz α×Om):=o.map fun p=>(.ok p.1,p.2)
theorem cK {r:Rz α} (h:oR o=xo (r,ω')):∃ a,o=xo (a,ω')/\r=.ok a:=by
 obtain⟨⟨a,w⟩,e1,e2⟩:=aH h;cases e2;exact⟨a,e1,rfl⟩
noncomputable def oP (f:DF):OG D:=fun ρ ω=>oR ((f ρ).map fun d=>(d,ω))
noncomputable def oPT (f:DB):OG Bool:=fun ρ ω=>oR ((f ρ).map fun d=>(d,ω))
noncomputable def pu {α:Type} (o:Option α) (ω:Om):Option (α×Om):=o.map fun d=>(d,ω)
theorem cQ {a:α} (h:pu o ω=xo (a,ω')):o=xo a/\ω'=ω:=by
 obtain⟨b,e1,e2⟩:=aH h;cases e2;exact⟨e1,rfl⟩
section
variable {X:Cx}{cls:Nat->af}{E:XE}{e a b c:bw}{es:List bw}{f:DF}{fa fb:OG D}{fl:OG (List D)}{ft ft':OG Bool}{pos p:Pos}
theorem EU (h:DE X e f):OE X cls E e (oP f):=h.imp fun σ H Q ⟨ok,ρ,ω,r,ω',P,h3,h4⟩=>by
 obtain⟨d,e1,rfl⟩:=cK h3;obtain⟨e2,rfl⟩:=cQ e1;exact⟨ok,ρ,d,P.okh,P.env,e2,fun v H' s r=>h4 v ok H' (.same P.okh P.st s) r⟩
theorem tO.then_ {K:aa}{r:Rz α} (P:Pre cls K ok H ω σ ρ) (e:oB fa g ρ ω=xo (r,ω')) (hx:∀ c,r=.ex c->exR cls K ok H ω' E c)
  (h:∀ d ω1 v ok1 H1,g d ρ ω1=xo (r,ω')->Nw cls K ok H ok1 H1 ω1->Pre cls K ok1 H1 ω1 σ ρ->Rep K ok1 H1 v d->Q v H1):tO cls K fa E σ H Q:=by
 rcases kC e with⟨c,e1,rfl⟩|⟨d,ω1,e1,e2⟩
 ·exact⟨ok,ρ,ω,.ex c,ω',P,e1,hx c rfl⟩
 ·exact⟨ok,ρ,ω,.ok d,ω1,P,e1,fun v ok1 H1 n r1=>h d ω1 v ok1 H1 e2 n (P.nw n) r1⟩
theorem tOA.then_ {K:aa}{r:Rz α} (P:Pre cls K ok H ω σ ρ) (e:oB fl g ρ ω=xo (r,ω')) (hx:∀ c,r=.ex c->exR cls K ok H ω' E c)
  (h:∀ d ω1 v ok1 H1,g d ρ ω1=xo (r,ω')->Nw cls K ok H ok1 H1 ω1->Pre cls K ok1 H1 ω1 σ ρ->Reps K ok1 H1 v d->Q v H1):tOA cls K fl E σ H Q:=by
 rcases kC e with⟨c,e1,rfl⟩|⟨d,ω1,e1,e2⟩
 ·exact⟨ok,ρ,ω,.ex c,ω',P,e1,hx c rfl⟩
 ·exact⟨ok,ρ,ω,.ok d,ω1,P,e1,fun v ok1 H1 n r1=>h d ω1 v ok1 H1 e2 n (P.nw n) r1⟩
theorem tOT.then_ {K:aa}{r:Rz α} (P:Pre cls K ok H ω σ ρ) (e:oB ft g ρ ω=xo (r,ω')) (hx:∀ c,r=.ex c->exR cls K ok H ω' E c)
  (h:∀ d ω1 ok1 H1,g d ρ ω1=xo (r,ω')->Nw cls K ok H ok1 H1 ω1->Pre cls K ok1 H1 ω1 σ ρ->Q d H1):tOT cls K ft E σ H Q:=by
 rcases kC e with⟨c,e1,rfl⟩|⟨d,ω1,e1,e2⟩
 ·exact⟨ok,ρ,ω,.ex c,ω',P,e1,hx c rfl⟩
 ·exact⟨ok,ρ,ω,.ok d,ω1,P,e1,fun ok1 H1 n=>h d ω1 ok1 H1 e2 n (P.nw n)⟩
theorem exR.nw {K:aa}{c:Nat} (h:exR cls K ok H ω' E c) (n:Nw cls K ok H ok' H' ω1):exR cls K ok' H' ω' E c:=fun ok2 H2 m=>h ok2 H2 (n.trans m)
def zW (cls:Nat->af) (K:aa) (r:R2) (g:Om->D->D->Option (D×Om)):Prop:=∀(ok:Okk) (H:Hp) (ω:Om) (x y:V) (a b d:D) (ω':Om) (Q:VK),OkH ok H->Stt cls K ok H ω->Rep K ok H x a->Rep K ok H y b->g ω a b=xo (d,ω')->
 (∀ v ok' H',Nw cls K ok H ok' H' ω'->Rep K ok' H' v d->Q v H')->r x y H Q
def nU (cls:Nat->af) (K:aa) (r:List V->Hp->VK->Prop) (g:Om->List D->Option (D×Om)):Prop:=∀(ok:Okk) (H:Hp) (ω:Om) (xs:List V) (as:List D) (d:D) (ω':Om) (Q:VK),OkH ok H->Stt cls K ok H ω->Reps K ok H xs as->g ω as=xo (d,ω')->
 (∀ v ok' H',Nw cls K ok H ok' H' ω'->Rep K ok' H' v d->Q v H')->r xs H Q
theorem Fit2.lift {K:aa} (F:Fit2 K r g):zW cls K r fun ω a b=>pu (g a b) ω:=fun ok H ω x y a b d ω' Q h1 st ra rb e k=>by
 obtain⟨ue,rfl⟩:=cQ e;exact F ok H x y a b d Q h1 ra rb ue fun v H' s r=>k v ok H' (.same h1 st s) r
theorem FitL.lift {K:aa} (F:FitL K r g):nU cls K r fun ω a=>pu (g a) ω:=fun ok H ω x a d ω' Q h1 st ra e k=>by
 obtain⟨ue,rfl⟩:=cQ e;exact F ok H x a d Q h1 ra ue fun v H' s r=>k v ok H' (.same h1 st s) r
noncomputable def o2 (g:Om->D->D->Option (D×Om)) (f h:OG D):OG D:=oB f fun a=>oB h fun b _ ω=>oR (g ω a b)
noncomputable def oL (g:Om->List D->Option (D×Om)) (f:OG (List D)):OG D:=oB f fun as _ ω=>oR (g ω as)
theorem tO.op {K:aa} (F:zW cls K r g) (h:tO cls K (o2 g fa fb) E σ H Q):tOp r (tO cls K fa E) (tO cls K fb E) σ H Q:=by
 obtain⟨ok,ρ,ω,rz,ω',P,e,q⟩:=h;refine tO.then_ P e (fun c z=>by subst z;exact q) fun a ω1 v ok1 H1 e1 n1 P1 r1=> ?_;refine tO.then_ P1 e1 (fun c z=>by subst z;exact exR.nw q n1) fun b ω2 u ok2 H2 e2 n2 P2 r2=> ?_;obtain⟨d,e3,rfl⟩:=cK e2;exact F ok2 H2 ω2 v u a b d ω' Q P2.okh P2.st (r1.ex n2.ex) r2 e3 fun w ok3 H3 n3 r3=>q w ok3 H3 (n1.trans (n2.trans n3)) r3
theorem uZ (ho:OpR X (j7 op) r) (F:zW cls X.K r g) (ha:OE X cls E a fa) (hb:OE X cls E b fb):OE X cls E (.BinOp a op b pos) (o2 g fa fb):=
 (Qu ho ha hb).imp fun _ _ _ h=>tO.op F h
theorem JD (ho:OpR X (fw op) r) (F:zW cls X.K r g) (ha:OE X cls E a fa) (hb:OE X cls E b fb) (hm:iy op b=false):OE X cls E (.Compare a [op] [b] pos) (o2 g fa fb):=
 (Ky ho ha hb hm).imp fun _ _ _ h=>tO.op F h
noncomputable def cA (f:OG D):OG Bool:=oB f fun d _ ω=>oR (pu (toB d) ω)
theorem lL (ho:OpR X (fw op) r) (F:zW cls X.K r g) (ha:OE X cls E a fa) (hb:OE X cls E b fb) (hm:iy op b=false):OT X cls E (.Compare a [op] [b] pos) (cA (o2 g fa fb)):=
 (Kg ho ha hb hm).imp fun σ H Q ⟨ok,ρ,ω,r,ω',P,e,q⟩=>by
  refine tO.op F ?_;refine tO.then_ P e (fun c z=>by subst z;exact q) fun d ω1 v ok1 H1 e1 n1 P1 r1=> ?_;obtain⟨k,e3,rfl⟩:=cK e1;obtain⟨ue3,rfl⟩:=cQ e3;obtain rfl:=oS ue3;exact⟨k,r1.bl_inv,q ok1 H1 n1⟩
noncomputable def jX (f:OG D):OG Bool:=oB f fun d _ ω=>oR (pu (Rn d) ω)
theorem NH (h:OE X cls E e fa) (he:∀ whole,isTrue e X.env whole=(do let v <- whole;ng e.pos;holding [v] (truthy v)):=by intro _;rfl):OT X cls E e (jX fa):=(Ho h he).imp fun σ H Q ⟨ok,ρ,ω,r,ω',P,e,q⟩=>by
 refine tO.then_ P e (fun c z=>by subst z;exact q) fun d ω1 v ok1 H1 e1 n1 P1 r1=> ?_;obtain⟨k,e3,rfl⟩:=cK e1;obtain⟨ue3,rfl⟩:=cQ e3;exact⟨k,JV r1 ue3,q ok1 H1 n1⟩
noncomputable def jY (f:OG Bool):OG Bool:=oB f fun k _ ω=>xo (.ok (!k),ω)
theorem NI (h:OT X cls E a ft):OT X cls E (.UnaryOp .Not a pos) (jY ft):=(Nh h).imp fun σ H Q ⟨ok,ρ,ω,r,ω',P,e,q⟩=>by
 refine tOT.then_ P e (fun c z=>by subst z;exact q) fun d ω1 ok1 H1 e1 n1 P1=> ?_;cases e1;exact q ok1 H1 n1
abbrev OW (X:Cx) (cls:Nat->af) (E:XE) (e:bw) (f:OG Bool):Prop:=PW X e (tOT cls X.K f E)
noncomputable def yA (f g:OG Bool):OG Bool:=oB f fun k ρ ω=>if k=true then g ρ ω else xo (.ok false,ω)
noncomputable def oOr (f g:OG Bool):OG Bool:=oB f fun k ρ ω=>if k=true then xo (.ok true,ω) else g ρ ω
variable {rest:List bw}
theorem KB (ha:OT X cls E a ft):OW X cls E (.BoolOp .And [a] pos) ft:=Kf ha
theorem NF (ha:OT X cls E a ft):OW X cls E (.BoolOp .Or [a] pos) ft:=Nd ha
theorem NG (ha:OT X cls E a ft) (hb:OW X cls E (.BoolOp .And (b::rest) pos) ft'):OW X cls E (.BoolOp .And (a::b::rest) pos) (yA ft ft'):=PW.imp (Nf ha hb) fun σ H Q ⟨ok,ρ,ω,r,ω',P,e,q⟩=>by
 refine tOT.then_ P e (fun c z=>by subst z;exact q) fun d ω1 ok1 H1 e1 n1 P1=> ?_;cases d with
 |true=>
  refine MD ⟨ok1,ρ,ω1,r,ω',P1,e1,?_⟩;cases r with
  |ok b=>exact fun ok2 H2 n2=>q ok2 H2 (n1.trans n2)
  |ex c=>exact exR.nw q n1
 |false=>
  cases e1;exact ME (q ok1 H1 n1)
theorem Qy (ha:OT X cls E a ft) (hb:OW X cls E (.BoolOp .Or (b::rest) pos) ft'):OW X cls E (.BoolOp .Or (a::b::rest) pos) (oOr ft ft'):=PW.imp (Qr ha hb) fun σ H Q ⟨ok,ρ,ω,r,ω',P,e,q⟩=>by
 refine tOT.then_ P e (fun c z=>by subst z;exact q) fun d ω1 ok1 H1 e1 n1 P1=> ?_;cases d with
 |false=>
  refine ME ⟨ok1,ρ,ω1,r,ω',P1,e1,?_⟩;cases r with
  |ok b=>exact fun ok2 H2 n2=>q ok2 H2 (n1.trans n2)
  |ex c=>exact exR.nw q n1
 |true=>
  cases e1;exact MD (q ok1 H1 n1)
theorem Sg (h:OW X cls E e ft):OT X cls E e ft:=PW.pt h
noncomputable def aM:OG (List D):=fun _ ω=>xo (.ok [],ω)
noncomputable def aC (f:OG D) (g:OG (List D)):OG (List D):=oB f fun d=>oB g fun ds _ ω=>xo (.ok (d::ds),ω)
theorem Oy:OA X cls E [] aM:=(PA.imp BO) fun σ H Q ⟨ok,ρ,ω,r,ω',P,e,q⟩=>by
 cases e;exact q [] ok H (.refl P.okh P.st) .nil
theorem Lq (ha:OE X cls E e fa) (hr:OA X cls E es fl) (hs:au (e::es) X.env=(false,eval e X.env)::au es X.env:=by rfl):OA X cls E (e::es) (aC fa fl):=
 (pK ha hr hs).imp fun σ H Q ⟨ok,ρ,ω,r,ω',P,e,q⟩=>by
  refine tO.then_ P e (fun c z=>by subst z;exact q) fun d ω1 v ok1 H1 e1 n1 P1 r1=> ?_;refine tOA.then_ P1 e1 (fun c z=>by subst z;exact exR.nw q n1) fun ds ω2 vs ok2 H2 e2 n2 P2 r2=> ?_;cases e2;exact q (v::vs) ok2 H2 (n1.trans n2) (.cons (r1.ex n2.ex) r2)
theorem Og (h:OA X cls E es fl):OE X cls E (.Tuple es x1 pos) (oL (fun ω ds=>pu (nJ ds) ω) fl):=(Nr h).imp fun σ H Q ⟨ok,ρ,ω,r,ω',P,e,q⟩=>by
 refine tOA.then_ P e (fun c z=>by subst z;exact q) fun ds ω1 vs ok1 H1 e1 n1 P1 r1=> ?_;obtain⟨d,e3,rfl⟩:=cK e1;obtain⟨ue3,rfl⟩:=cQ e3;obtain⟨hz,rfl⟩:=bJ ue3;refine⟨by rw[r1.length];exact hz,fun p n=> ?_⟩;exact q _ ok1 _ (n1.trans (.same P1.okh P1.st (cH n))) (.tup_new (P1.okh p n) n r1)
theorem Ot (h:OA X cls E es fl):OE X cls E (.List es pos) (oL (fun ω ds=>pu (Dx ds) ω) fl):=(Jx h).imp fun σ H Q ⟨ok,ρ,ω,r,ω',P,e,q⟩=>by
 refine tOA.then_ P e (fun c z=>by subst z;exact q) fun ds ω1 vs ok1 H1 e1 n1 P1 r1=> ?_;obtain⟨d,e3,rfl⟩:=cK e1;obtain⟨ue3,rfl⟩:=cQ e3;obtain⟨hz,rfl⟩:=bJ ue3;refine⟨by rw[r1.length];exact hz,fun p n=> ?_⟩;exact q _ ok1 _ (n1.trans (.same P1.okh P1.st (cH n))) (.lst_new (P1.okh p n) n r1)
noncomputable def GO (ω:Om) (ds:List D):Option (D×Om):=if ds.length<=sizeLine then xo (.obj ω.length,ω++[.ml ds]) else xp
theorem Nw.ml {K:aa}{p:af} (h:OkH ok H) (t:Stt cls K ok H ω) (np:H p=xp) (r:Reps K ok H xs ds):Nw cls K ok H (okN ok ω.length p) (upd H p (.lst xs)) (ω++[.ml ds]):=
 Nw.make h t np ⟨xs,aP,r.mono (fun b u k e=>Ap np b u k e) fun m b q=>uY t m b q⟩
theorem Le (h:OA X cls E es fl):OE X cls E (.List es pos) (oL GO fl):=(Jx h).imp fun σ H Q ⟨ok,ρ,ω,r,ω',P,e,q⟩=>by
 refine tOA.then_ P e (fun c z=>by subst z;exact q) fun ds ω1 vs ok1 H1 e1 n1 P1 r1=> ?_;obtain⟨d,e3,rfl⟩:=cK e1;obtain⟨hz,e4⟩:=bJ e3;cases e4;refine⟨by rw[r1.length];exact hz,fun p n=> ?_⟩;exact q _ _ _ (n1.trans (.ml P1.okh P1.st n r1)) .new_obj
theorem tO.cb {K:aa} (F:nU cls K r g) (h:tO cls K (oL g fl) E σ H Q):tCB r (tOA cls K fl E) σ H Q:=by
 obtain⟨ok,ρ,ω,rz,ω',P,e,q⟩:=h;refine tOA.then_ P e (fun c z=>by subst z;exact q) fun ds ω1 vs ok1 H1 e1 n1 P1 r1=> ?_;obtain⟨d,e3,rfl⟩:=cK e1;exact F ok1 H1 ω1 vs ds d ω' Q P1.okh P1.st r1 e3 fun w ok3 H3 n3 r3=>q w ok3 H3 (n1.trans n3) r3
theorem gU {id:String} (hc:CallR X (.builtin id) r) (F:nU cls X.K r g) (hg:Gl X x) (hm:X.mg x=xp) (hv:dc x=xo (.builtin id)) (ha:OA X cls E (e::es) fl)
  (hn:x≠"__name__":=by decide) (hdb:(x==("__debug__":Str))=false:=by decide)
  (he:au (e::es) X.env=(false,eval e X.env)::au es X.env:=by rfl) (hpl:(db pos (au es X.env)).any (·.1)=false:=by rfl):OE X cls E (.Call (.Name x p) (e::es) [] pos) (oL g fl):=
 (uW hc hg hm hv ha hn hdb he hpl).imp fun _ _ _ h=>tO.cb F h
theorem lM (hc:CallR X (.type T) r) (F:nU cls X.K r g) (hg:Gl X x) (hm:X.mg x=xp) (hv:dc x=xo (.type T)) (ha:OA X cls E (e::es) fl)
  (hn:x≠"__name__":=by decide) (hdb:(x==("__debug__":Str))=false:=by decide)
  (he:au (e::es) X.env=(false,eval e X.env)::au es X.env:=by rfl) (hpl:(db pos (au es X.env)).any (·.1)=false:=by rfl):OE X cls E (.Call (.Name x p) (e::es) [] pos) (oL g fl):=
 (EJ hc hg hm hv ha hn hdb he hpl).imp fun _ _ _ h=>tO.cb F h
end
end L2.MB
end
section
namespace L2.MB
mutual
noncomputable def fL:D->D->Bool
 |.non,.non=>true
 |.bl a,.bl b=>a==b
 |.int a,.int b=>a==b
 |.str a,.str b=>decide (a=b)
 |.lst a,.lst b=>sameDs a b
 |.tup a,.tup b=>sameDs a b
 |.obj a,.obj b=>a==b
 |.scr a,.scr b=>sameDs a b
 |_,_=>false
noncomputable def sameDs:List D->List D->Bool
 |[],[]=>true
 |a::as,b::bs=>fL a b&&sameDs as bs
 |_,_=>false
end
mutual
theorem BI:∀(a b:D),fL a b=true->a=b
 |.non,b,h=>by cases b <;> first|rfl|(simp[fL] at h)
 |.bl a,b,h=>by cases b <;> simp[fL] at h;rw[h]
 |.int a,b,h=>by cases b <;> simp[fL] at h;rw[h]
 |.str a,b,h=>by cases b <;> simp[fL] at h;rw[h]
 |.obj a,b,h=>by cases b <;> simp[fL] at h;rw[h]
 |.lst a,b,h=>by
  cases b with
  |lst b=>rw[sameDs_eq a b (by simpa [fL] using h)]
  |_=>simp[fL] at h
 |.scr a,b,h=>by
  cases b with
  |scr b=>rw[sameDs_eq a b (by simpa [fL] using h)]
  |_=>simp[fL] at h
 |.tup a,b,h=>by
  cases b with
  |tup b=>rw[sameDs_eq a b (by simpa [fL] using h)]
  |_=>simp[fL] at h
theorem sameDs_eq:∀(a b:List D),sameDs a b=true->a=b
 |[],[],_=>rfl
 |[],_::_,h=>by simp[sameDs] at h
 |_::_,[],h=>by simp[sameDs] at h
 |a::as,b::bs,h=>by
  simp only[sameDs,br] at h;rw[BI a b h.1,sameDs_eq as bs h.2]
end
noncomputable def cellOf (ω:Om):D->Option Ob
 |.obj n=>ω[n]?
 |_=>xp
theorem dO (h:cellOf ω d=xo ob):∃ n,d=.obj n/\ω[n]?=xo ob:=by
 cases d with
 |obj n=>exact⟨n,rfl,h⟩
 |_=>cases h
theorem Stt.ref {K:aa} (t:Stt cls K ok H ω) (r:Rep K ok H v (.obj n)) (e:ω[n]?=xo ob):∃ a,v=.ref a/\ok.al n=xo a/\CellR cls K ok H a ob:=by
 obtain⟨a,rfl,e1⟩:=r.obj_inv;obtain⟨b,e2,c⟩:=t.cell n ob e;rw[e1] at e2;cases e2;exact⟨a,rfl,e1,c⟩
noncomputable def MF (c:Nat) (x:Str) (ω:Om) (d:D):Option D:=match cellOf ω d with
 |some (.ins c' fs)=>if c'=c then fs.lookup x else xp
 |_=>xp
theorem IA (h:MF c x ω d=xo y):∃ n fs,d=.obj n/\ω[n]?=xo (.ins c fs)/\fs.lookup x=xo y:=by
 unfold MF at h;split at h
 ·rename_i c' fs hc
  obtain⟨n,rfl,e⟩:=dO hc
  by_cases hcc:c'=c
  ·subst hcc;rw[if_pos rfl] at h;exact⟨n,fs,rfl,e,h⟩
  ·rw[if_neg hcc] at h;cases h
 ·cases h
noncomputable def fZ (c:Nat) (x:Str) (f:OG D):OG D:=oB f fun d _ ω=>oR (pu (MF c x ω d) ω)
section
variable {X:Cx}{cls:Nat->af}{E:XE}{e a b c o i value:bw}{es:List bw}{f:DF}{fa fb fo fi fv:OG D}{fl:OG (List D)}{ft ft':OG Bool}{pos p apos pos':Pos}{x m:Str}{cn:Nat}
theorem Ou (hc:Cls X.K (cls cn)) (hn:NoAttr X.K (cls cn) x) (he:OE X cls E e fa) (hb:ij e x X.env (eval e X.env)=eval e X.env:=by rfl):OE X cls E (.Attribute e x pos) (fZ cn x fa):=(NA he hb).imp fun σ H Q ⟨ok,ρ,ω,r,ω',P,e,q⟩=>by
 refine tO.then_ P e (fun c z=>by subst z;exact q) fun d ω1 v ok1 H1 e1 n1 P1 r1=> ?_;obtain⟨y,e3,rfl⟩:=cK e1;obtain⟨ue3,rfl⟩:=cQ e3;obtain⟨n,fs,rfl,e4,e5⟩:=IA ue3;obtain⟨a,rfl,e6,dx,vs,e7,kv⟩:=P1.st.ref r1 e4;obtain⟨u,e8,ru⟩:=kv.look e5;exact⟨a,_,dx,vs,u,rfl,e7,hc,hn,e8,q u ok1 H1 n1 ru⟩
noncomputable def oI (ω:Om) (a b:D):Option D:=match cellOf ω a with
 |some (.ml ds)=>(toI b).bind fun i=>atI ds i
 |some _=>xp
 |none=>gIx a b
theorem Mb {K:aa}:zW cls K (fun x y H Q=>(∃ p xs i v,x=.ref p/\y=.int i/\SqL K H p xs/\atI xs i=xo v/\Q v H)∨(∃ p xs i v,x=.ref p/\y=.int i/\SqT K H p xs/\atI xs i=xo v/\Q v H)∨
  ∃ z i c,x=.str z/\y=.int i/\z.length<=sizeLine/\atI z.cps.toList i=xo c/\Q (.str ⟨#[c]⟩) H) fun ω a b=>pu (oI ω a b) ω:=fun ok H ω x y a b d ω' Q h1 st ra rb e k=>by
 obtain⟨ue,rfl⟩:=cQ e;clear e;unfold oI at ue;cases hc:cellOf ω' a with
 |some ob=>
  rw[hc] at ue;obtain⟨n,rfl,e1⟩:=dO hc;cases ob with
  |ml ds=>
   obtain⟨i,e0,ue⟩:=bind_some (show(toI b).bind _=xo d from ue);obtain rfl:=Af e0;obtain⟨p,rfl,e2,xs,e3,r⟩:=st.ref ra e1;obtain rfl:=rb.int_inv;obtain⟨v,e4,rv⟩:=r.atI ue;exact .inl ⟨p,xs,i,v,rfl,rfl,SqL.of e3,e4,k v ok H (.refl h1 st) rv⟩
  |_=>cases ue
 |none=>
  rw[hc] at ue;have ue':gIx a b=xo d:=ue;have k':∀ v H',Same H H'->Rep K ok H' v d->Q v H':=fun v H' s r=>k v ok H' (.same h1 st s) r;cases b with
  |int i=>
   obtain rfl:=rb.int_inv;cases a with
   |lst ds=>
    obtain⟨p,xs,rfl,h,r⟩:=ra.lst_inv;obtain⟨v,e1,r1⟩:=r.atI ue';exact .inl ⟨p,xs,i,v,rfl,rfl,h.sq,e1,k' v H (Same.refl H) r1⟩
   |scr ds=>
    obtain⟨p,xs,rfl,h,r⟩:=ra.scr_inv;obtain⟨v,e1,r1⟩:=r.atI ue';exact .inl ⟨p,xs,i,v,rfl,rfl,h.sq,e1,k' v H (Same.refl H) r1⟩
   |tup ds=>
    obtain⟨p,xs,rfl,h,r⟩:=ra.tup_inv;obtain⟨v,e1,r1⟩:=r.atI ue';exact .inr (.inl ⟨p,xs,i,v,rfl,rfl,h.sq,e1,k' v H (Same.refl H) r1⟩)
   |str z=>
    obtain rfl:=ra.str_inv;have e':(if z.length<=sizeLine then(L2.atI z.cps.toList i).map fun c=>D.str ⟨#[c]⟩ else xp)=xo d:=ue'
    by_cases hz:z.length<=sizeLine
    ·rw[if_pos hz] at e';cases q:L2.atI z.cps.toList i with
     |none=>rw[q] at e';cases e'
     |some c=>
      rw[q] at e';cases e';exact .inr (.inr ⟨z,i,c,rfl,rfl,hz,q,k' _ H (Same.refl H) (.str _)⟩)
    ·rw[if_neg hz] at e';cases e'
   |_=>cases ue'
  |_=>cases a <;> cases ue'
theorem QI (ha:OE X cls E a fa) (hb:OE X cls E b fb) (hs:GD b:=by intro _ _;rfl):OE X cls E (.Subscript a b pos) (o2 (fun ω a b=>pu (oI ω a b) ω) fa fb):=(Qv OQ ha hb hs).imp fun _ _ _ h=>tO.op Mb h
noncomputable def toK:D->Option Key
 |.int i=>xo (.inl i)
 |.str x=>xo (.inr x)
 |_=>xp
noncomputable def MM:List D->Option (List Key)
 |[]=>xo []
 |d::ds=>(toK d).bind fun k=>(MM ds).map fun ks=>k::ks
noncomputable def ofK:Key->D
 |.inl i=>.int i
 |.inr x=>.str x
theorem Ae {K:aa} (h:toK d=xo k) (r:Rep K ok H v d):v=kV k:=by
 cases d with
 |int i=>cases h;exact r.int_inv
 |str x=>cases h;exact r.str_inv
 |_=>cases h
theorem BC {K:aa}:∀ {vs:List V}{ds:List D}{ks:List Key},MM ds=xo ks->Reps K ok H vs ds->vs=ks.map kV
 |_,_,_,h,.nil=>by cases h;rfl
 |_,_,_,h,.cons r rs=>by
  obtain⟨k,e1,h⟩:=bind_some h;obtain⟨ks,e2,rfl⟩:=aH h;rw[Ae e1 r,BC e2 rs];rfl
noncomputable def DY:D->Option (List Key)
 |.tup ds=>MM ds
 |_=>xp
theorem toT'_rep {K:aa} (h:DY d=xo ks) (r:Rep K ok H v d):∃ b,v=.ref b/\ok b/\H b=xo (.tup (ks.map kV)):=by
 cases d with
 |tup ds=>
  obtain⟨b,xs,rfl,g,rs⟩:=r.tup_inv;rw[BC h rs] at g;exact⟨b,rfl,g.1,g.2⟩
 |_=>cases h
section
variable {κ:Type} [DecidableEq κ]
noncomputable def iI (kvs:List (κ×D)) (k:κ):Option D:=(kvs.find? fun kv=>decide (kv.1=k)).map (·.2)
noncomputable def putD (kvs:List (κ×D)) (k:κ) (v:D):List (κ×D):=if(kvs.any fun kv=>decide (kv.1=k))=true then kvs.map (fun kv=>if kv.1=k then(kv.1,v) else kv) else kvs++[(k,v)]
noncomputable def eA (kvs:List (κ×D)) (k:κ):List (κ×D):=kvs.filter fun kv=>decide (kv.1≠k)
variable {K:aa}{ok:Okk}{H:Hp}
theorem KvR.val:∀ {vs:List (κ×V)}{ds:List (κ×D)}{d:D},KvR K ok H vs ds->iI ds k=xo d->∃ v,wX vs k=xo v/\Rep K ok H v d
 |_,_,_,.nil,e=>by cases e
 |_,_,d,@KvR.cons _ _ _ _ k' v d' vs ds r rs,e=>by
  by_cases q:k'=k
  ·have e':iI ((k',d')::ds) k=xo d':=by simp[iI,gw,q]
   rw[e'] at e;cases e;exact⟨v,nV (p:=(k',v)) q,r⟩
  ·have e':iI ((k',d')::ds) k=iI ds k:=by simp[iI,gw,q]
   rw[e'] at e;obtain⟨u,e1,ru⟩:=KvR.val rs e;exact⟨u,by rw[lB (p:=(k',v)) q];exact e1,ru⟩
theorem KvR.val_none:∀ {vs:List (κ×V)}{ds:List (κ×D)},KvR K ok H vs ds->iI ds k=xp->wX vs k=xp
 |_,_,.nil,e=>rfl
 |_,_,@KvR.cons _ _ _ _ k' v d' vs ds r rs,e=>by
  by_cases q:k'=k
  ·have e':iI ((k',d')::ds) k=xo d':=by simp[iI,gw,q]
   rw[e'] at e;cases e
  ·have e':iI ((k',d')::ds) k=iI ds k:=by simp[iI,gw,q]
   rw[e'] at e;rw[lB (p:=(k',v)) q];exact KvR.val_none rs e
theorem KvR.any:∀ {vs:List (κ×V)}{ds:List (κ×D)},KvR K ok H vs ds->(vs.any fun kv=>decide (kv.1=k))=ds.any fun kv=>decide (kv.1=k)
 |_,_,.nil=>rfl
 |_,_,.cons _ rs=>by rw[ls,ls,KvR.any rs]
theorem KvR.rep1 (q:Rep K ok H v d):∀ {vs:List (κ×V)}{ds:List (κ×D)},KvR K ok H vs ds->KvR K ok H (vs.map fun kv=>if kv.1=k then(kv.1,v) else kv) (ds.map fun kv=>if kv.1=k then(kv.1,d) else kv)
 |_,_,.nil=>.nil
 |_,_,@KvR.cons _ _ _ _ k' v' d' vs ds r rs=>by
  rw[bg,bg]
  by_cases z:k'=k
  ·rw[if_pos z,if_pos z];exact .cons q (KvR.rep1 q rs)
  ·rw[if_neg z,if_neg z];exact .cons r (KvR.rep1 q rs)
theorem KvR.snoc (q:Rep K ok H v d):∀ {vs:List (κ×V)}{ds:List (κ×D)},KvR K ok H vs ds->KvR K ok H (vs++[(k,v)]) (ds++[(k,d)])
 |_,_,.nil=>.cons q .nil
 |_,_,.cons r rs=>.cons r (KvR.snoc q rs)
theorem KvR.put {ds:List (κ×D)} (h:KvR K ok H vs ds) (q:Rep K ok H v d):KvR K ok H (mW vs k v) (putD ds k d):=by
 unfold mW putD;rw[h.any];split
 ·exact h.rep1 q
 ·exact h.snoc q
theorem KvR.drop:∀ {vs:List (κ×V)}{ds:List (κ×D)},KvR K ok H vs ds->KvR K ok H (yY vs k) (eA ds k)
 |_,_,.nil=>.nil
 |_,_,@KvR.cons _ _ _ _ k' v' d' vs ds r rs=>by
  unfold yY eA
  by_cases z:k'=k
  ·rw[ow,ow];simp only[z,ne_eq,not_true_eq_false,decide_false,df,if_false];exact KvR.drop rs
  ·rw[ow,ow];simp only[z,ne_eq,not_false_eq_true,decide_true,if_true];exact .cons r (KvR.drop rs)
end
noncomputable def Ea (ω:Om) (d y:D):Option (Option D):=match cellOf ω d with
 |some (.dt kvs)=>(DY y).map fun k=>iI kvs k
 |some (.dz kvs)=>(DY y).map fun k=>iI kvs k
 |some (.dk kvs)=>(toK y).map fun k=>iI kvs k
 |_=>xp
def ResR (K:aa) (ok:Okk) (H:Hp):Option D->Option V->Prop
 |some z,u=>∃ v,u=xo v/\Rep K ok H v z
 |none,u=>u=xp
theorem ResR.isSome {K:aa} (h:ResR K ok H r u):u.isSome=r.isSome:=by
 cases r with
 |none=>rw[show u=xp from h];rfl
 |some z=>obtain⟨v,rfl,_⟩:=h;rfl
theorem KvR.res {κ:Type} [DecidableEq κ] {K:aa}{ok:Okk}{H:Hp}{k:κ}{vs:List (κ×V)}{ds:List (κ×D)} (h:KvR K ok H vs ds):ResR K ok H (iI ds k) (wX vs k):=by
 cases q:iI ds k with
 |none=>exact h.val_none q
 |some z=>exact h.val q
theorem DGet.of {K:aa}{x y:V} (t:Stt cls K ok H ω) (rx:Rep K ok H x d) (ry:Rep K ok H y k) (e:Ea ω d k=xo r):∃ a u,x=.ref a/\DGet H a y u/\ResR K ok H r u:=by
 unfold Ea at e;cases hc:cellOf ω d with
 |none=>rw[hc] at e;cases e
 |some ob=>
  rw[hc] at e;obtain⟨n,rfl,e1⟩:=dO hc;cases ob with
  |dt kvs=>
   obtain⟨a,rfl,e2,vs,e3,kv⟩:=t.ref rx e1;obtain⟨ks,e4,e5⟩:=aH (show(DY k).map _=xo r from e);subst e5;obtain⟨b,rfl,_,hb⟩:=toT'_rep e4 ry;exact⟨a,_,rfl,DGet.t e3 hb,kv.res⟩
  |dz kvs=>
   obtain⟨a,rfl,e2,ob,vs,e3,kv⟩:=t.ref rx e1;obtain⟨ks,e4,e5⟩:=aH (show(DY k).map _=xo r from e);subst e5;obtain⟨b,rfl,_,hb⟩:=toT'_rep e4 ry;exact⟨a,_,rfl,.inr ⟨vs,ks,b,.inr ⟨ob,e3⟩,rfl,hb,rfl⟩,kv.res⟩
  |dk kvs=>
   obtain⟨a,rfl,e2,vs,e3,kv⟩:=t.ref rx e1;obtain⟨ks,e4,e5⟩:=aH (show(toK k).map _=xo r from e);subst e5;obtain rfl:=Ae e4 ry;exact⟨a,_,rfl,DGet.k e3,kv.res⟩
  |_=>cases e
noncomputable def iQ (ω:Om) (d y:D):Option D:=(Ea ω d y).join
theorem Ll (hu:X.A.units+1<d7) (ho:OE X cls E o fo) (hi:OE X cls E i fi) (hs:Ri i:=by intro _ _;rfl):OE X cls E (.Subscript o i pos) (o2 (fun ω a b=>pu (iQ ω a b) ω) fo fi):=(Kw hu ho hi hs).imp fun σ H Q ⟨ok,ρ,ω,r,ω',P,e,q⟩=>by
 refine tO.then_ P e (fun c z=>by subst z;exact q) fun d ω1 v ok1 H1 e1 n1 P1 r1=> ?_;refine tO.then_ P1 e1 (fun c z=>by subst z;exact exR.nw q n1) fun y ω2 u ok2 H2 e2 n2 P2 r2=> ?_;obtain⟨z,e3,rfl⟩:=cK e2;obtain⟨ue3,rfl⟩:=cQ e3;have e4:Ea ω' d y=xo (xo z):=by
  unfold iQ at ue3;cases q:Ea ω' d y with
  |none=>rw[q] at ue3;cases ue3
  |some w=>rw[q] at ue3;cases w with
   |none=>cases ue3
   |some w=>cases ue3;rfl
 obtain⟨a,w,rfl,g,w2⟩:=DGet.of P2.st (r1.ex n2.ex) r2 e4;obtain⟨v',rfl,rv⟩:=w2;exact⟨a,v',rfl,g,q v' ok2 H2 (n1.trans n2) rv⟩
noncomputable def MG (ω:Om) (y d:D):Option D:=(Ea ω d y).map fun r=>.bl r.isSome
theorem NL (hu:X.A.units+1<d7) (hi:OE X cls E i fi) (ho:OE X cls E o fo) (hm:iy .In o=false:=by with_unfolding_all rfl):OT X cls E (.Compare i [.In] [o] pos) (cA (o2 (fun ω a b=>pu (MG ω a b) ω) fi fo)):=
 (Ni (NE hu hi ho) hm).imp fun σ H Q ⟨ok,ρ,ω,r,ω',P,e,q⟩=>by
 rcases kC e with⟨c,e1,rfl⟩|⟨dd,ωd,e0,e5⟩
 ·rcases kC e1 with⟨c',e2,e3⟩|⟨y,ω1,e2,e3⟩
  ·cases e3;exact⟨ok,ρ,ω,.ex c,ω',P,e2,q⟩
  ·refine⟨ok,ρ,ω,.ok y,ω1,P,e2,fun v ok1 H1 n1 r1=> ?_⟩;rcases kC e3 with⟨c',e4,e6⟩|⟨z,ω2,e4,e6⟩
   ·cases e6;exact⟨ok1,ρ,ω1,.ex c,ω',P.nw n1,e4,exR.nw q n1⟩
   ·obtain⟨_,_,w⟩:=cK e6;cases w
 ·rcases kC e0 with⟨c',e2,e3⟩|⟨y,ω1,e2,e3⟩
  ·cases e3
  ·refine⟨ok,ρ,ω,.ok y,ω1,P,e2,fun v ok1 H1 n1 r1=> ?_⟩;rcases kC e3 with⟨c',e4,e6⟩|⟨z,ω2,e4,e6⟩
   ·cases e6
   ·refine⟨ok1,ρ,ω1,.ok z,ω2,P.nw n1,e4,fun u ok2 H2 n2 r2=> ?_⟩;obtain⟨w,e7,w'⟩:=cK e6;cases w';obtain⟨ue7,rfl⟩:=cQ e7;obtain⟨ro,e8,rfl⟩:=aH ue7;obtain⟨k,e9,rfl⟩:=cK e5;obtain⟨ue9,rfl⟩:=cQ e9;cases ue9;obtain⟨a,w,rfl,g,w2⟩:=DGet.of n2.st r2 (r1.ex n2.ex) e8;exact⟨a,w,rfl,g,ro.isSome,by rw[w2.isSome],q ok2 H2 (n1.trans n2)⟩
noncomputable def vA:OG D:=fun _ ω=>xo (.ok (.obj ω.length),ω++[.dt []])
theorem Lc:OE X cls E (.Dict [] [] pos) vA:=(PE.imp Hy) fun σ H Q ⟨ok,ρ,ω,r,ω',P,e,q⟩=>by
 cases e;exact fun p n=>q _ _ _ (Nw.make (o:=.dT []) P.okh P.st n ⟨[],aP,.nil⟩) .new_obj
end
end L2.MB
end
section
namespace L2.MB
inductive OOut where
 |nx (ρ:Rho)|rt (d:D)|bk (ρ:Rho)|ct (ρ:Rho)|ex (c:Nat)
abbrev OS:=Rho->Om->Option (OOut×Om)
def nxR (cls:Nat->af) (K:aa) (ok:Okk) (H:Hp) (ω':Om) (ρ:Rho) (N:St->Hp->Prop):Prop:=∀ ok' H' σ',Nw cls K ok H ok' H' ω'->EnvR K ok' H' σ' ρ->σ'.length=ρ.length->N σ' H'
def outO (cls:Nat->af) (K:aa) (ok:Okk) (H:Hp) (ω':Om) (E:XE) (D:CG):OOut->Prop
 |.nx ρ=>nxR cls K ok H ω' ρ D.nx
 |.bk ρ=>nxR cls K ok H ω' ρ D.bk
 |.ct ρ=>nxR cls K ok H ω' ρ D.ct
 |.rt d=>∀ v ok' H',Nw cls K ok H ok' H' ω'->Rep K ok' H' v d->D.rt v H'
 |.ex c=>exR cls K ok H ω' E c
def tOS (cls:Nat->af) (K:aa) (F:OS) (E:XE):TS:=fun D σ H=>∃(ok:Okk) (ρ:Rho) (ω:Om) (o:OOut) (ω':Om),Pre cls K ok H ω σ ρ/\F ρ ω=xo (o,ω')/\outO cls K ok H ω' E D o
abbrev OSt (X:Cx) (cls:Nat->af) (E:XE) (st:cx) (F:OS):Prop:=PS X st (tOS cls X.K F E)
abbrev OSs (X:Cx) (cls:Nat->af) (E:XE) (st:List cx) (F:OS):Prop:=PSs X st (tOS cls X.K F E)
theorem nxR.nw {K:aa} (h:nxR cls K ok H ω' ρ N) (n:Nw cls K ok H ok' H' ω1):nxR cls K ok' H' ω' ρ N:=fun ok2 H2 σ2 m e l=>h ok2 H2 σ2 (n.trans m) e l
theorem outO.nw {K:aa}{D:CG} (h:outO cls K ok H ω' E D o) (n:Nw cls K ok H ok' H' ω1):outO cls K ok' H' ω' E D o:=by
 cases o with
 |nx ρ=>exact nxR.nw h n
 |bk ρ=>exact nxR.nw h n
 |ct ρ=>exact nxR.nw h n
 |rt d=>exact fun v ok2 H2 m r=>h v ok2 H2 (n.trans m) r
 |ex c=>exact exR.nw h n
noncomputable def oX {α:Type} (f:OG α) (g:α->Rho->Om->Option (OOut×Om)):OS:=fun ρ ω=>match f ρ ω with
 |none=>xp
 |some (.ex c,ω1)=>xo (.ex c,ω1)
 |some (.ok a,ω1)=>g a ρ ω1
theorem EW {g:α->Rho->Om->Option (OOut×Om)} (h:oX f g ρ ω=xo (o,ω')):(∃ c,f ρ ω=xo (.ex c,ω')/\o=.ex c)∨∃ a ω1,f ρ ω=xo (.ok a,ω1)/\g a ρ ω1=xo (o,ω'):=by
 unfold oX at h;split at h
 ·cases h
 ·cases h;exact .inl ⟨_,‹_›,rfl⟩
 ·exact .inr ⟨_,_,‹_›,h⟩
noncomputable def bN:OS:=fun ρ ω=>xo (.nx ρ,ω)
noncomputable def aF (F G:OS):OS:=fun ρ ω=>match F ρ ω with
 |none=>xp
 |some (.nx ρ1,ω1)=>G ρ1 ω1
 |some (o,ω1)=>xo (o,ω1)
theorem Er (h:aF F G ρ ω=xo (o,ω')):(∃ ρ1 ω1,F ρ ω=xo (.nx ρ1,ω1)/\G ρ1 ω1=xo (o,ω'))∨(F ρ ω=xo (o,ω')/\∀ ρ1,o≠ .nx ρ1):=by
 unfold aF at h;split at h
 ·cases h
 ·exact .inl ⟨_,_,‹_›,h⟩
 ·rename_i o1 ω1 hn q
  cases h;exact .inr ⟨q,fun ρ1 z=>hn ρ1 z⟩
noncomputable def aU (i:Nat) (f:OG D):OS:=oX f fun d ρ ω=>xo (.nx (ρ.set i (xo d)),ω)
noncomputable def bQ (f:OG D):OS:=oX f fun _ ρ ω=>xo (.nx ρ,ω)
noncomputable def dQ (t:OG Bool) (F G:OS):OS:=oX t fun k ρ ω=>if k=true then F ρ ω else G ρ ω
noncomputable def aW (f:OG D):OS:=oX f fun d _ ω=>xo (.rt d,ω)
section
variable {X:Cx}{cls:Nat->af}{E:XE}{st:cx}{rest body els:List cx}{tg e a b c o i iter value:bw}{es:List bw}{f:DF}{fa fb fo fi fv:OG D}{fl:OG (List D)}{ft ft':OG Bool}{F G:OS}{pos p apos pos':Pos}{x m:Str}{cn:Nat}
theorem tO.thenS {K:aa}{o:OOut}{D:CG} (P:Pre cls K ok H ω σ ρ) (e:oX fa g ρ ω=xo (o,ω')) (hx:outO cls K ok H ω' E D o)
  (h:∀ d ω1 v ok1 H1,g d ρ ω1=xo (o,ω')->Nw cls K ok H ok1 H1 ω1->Pre cls K ok1 H1 ω1 σ ρ->Rep K ok1 H1 v d->outO cls K ok1 H1 ω' E D o->Q v H1):tO cls K fa E σ H Q:=by
 rcases EW e with⟨c,e1,rfl⟩|⟨d,ω1,e1,e2⟩
 ·exact⟨ok,ρ,ω,.ex c,ω',P,e1,hx⟩
 ·exact⟨ok,ρ,ω,.ok d,ω1,P,e1,fun v ok1 H1 n r1=>h d ω1 v ok1 H1 e2 n (P.nw n) r1 (hx.nw n)⟩
theorem NO:OSs X cls E [] bN:=(PSs.imp Ki) fun D σ H ⟨ok,ρ,ω,o,ω',P,e,q⟩=>by
 cases e;exact q ok H σ (.refl P.okh P.st) P.env P.len
theorem KL (h1:OSt X cls E st F) (h2:OSs X cls E rest G):OSs X cls E (st::rest) (aF F G):=(Hs h1 h2).imp fun D σ H ⟨ok,ρ,ω,o,ω',P,e,q⟩=>by
 rcases Er e with⟨ρ1,ω1,e1,e2⟩|⟨e1,hn⟩
 ·exact⟨ok,ρ,ω,_,ω1,P,e1,fun ok1 H1 σ1 n1 r1 l1=>⟨ok1,ρ1,ω1,o,ω',⟨n1.okh,n1.st,r1,l1⟩,e2,q.nw n1⟩⟩
 ·refine⟨ok,ρ,ω,o,ω',P,e1,?_⟩;cases o with
  |nx ρ1=>exact absurd rfl (hn ρ1)
  |_=>exact q
theorem NN (h1:OSt X cls E st F):OSs X cls E [st] F:=Kh h1
theorem NR {i:Nat} (hN:X.N.Nodup) (hi:X.N[i]?=xo x) (hx:Loc X.env.scope x) (he:OE X cls E e fa) (hs:jm e (xo (.Name x pos')) pos.line X.env=pure false:=by rfl)
  (hf:X.fn x=true∨X.env.scope.names.lookup x=xo .local:=by first|exact .inl rfl|exact .inr rfl|assumption):OSt X cls E (.Assign [.Name x pos'] e pos) (aU i fa):=
 (Nj hN hi hx he hs hf).imp fun D σ H ⟨ok,ρ,ω,o,ω',P,e,q⟩=>by
  refine tO.thenS P e q fun d ω1 v ok1 H1 e1 n1 P1 r1 q1=> ?_;cases e1;exact q1 ok1 H1 _ (.refl P1.okh P1.st) (P1.env.set P1.len r1 i) (by rw[cj,cj];exact P1.len)
theorem KI (he:OE X cls E e fa) (hs:jm e xp pos.line X.env=pure false:=by rfl):OSt X cls E (.Expr e pos) (bQ fa):=
 (Kk he hs).imp fun D σ H ⟨ok,ρ,ω,o,ω',P,e,q⟩=>by
  refine tO.thenS P e q fun d ω1 v ok1 H1 e1 n1 P1 r1 q1=> ?_;cases e1;exact q1 ok1 H1 σ (.refl P1.okh P1.st) P1.env P1.len
theorem QE (hc:OT X cls E c ft) (ha:OSs X cls E body F) (hb:OSs X cls E els G):OSt X cls E (.If c body els pos) (dQ ft F G):=(Qs hc ha hb).imp fun D σ H ⟨ok,ρ,ω,o,ω',P,e,q⟩=>by
 rcases EW e with⟨c,e1,rfl⟩|⟨k,ω1,e1,e2⟩
 ·exact⟨ok,ρ,ω,.ex c,ω',P,e1,q⟩
 ·refine⟨ok,ρ,ω,.ok k,ω1,P,e1,fun ok1 H1 n1=> ?_⟩;cases k with
  |true=>exact MD ⟨ok1,ρ,ω1,o,ω',P.nw n1,e2,q.nw n1⟩
  |false=>exact ME ⟨ok1,ρ,ω1,o,ω',P.nw n1,e2,q.nw n1⟩
theorem NM (he:OE X cls E e fa):OSt X cls E (.Return (xo e) pos) (aW fa):=(Nk he).imp fun D σ H ⟨ok,ρ,ω,o,ω',P,e,q⟩=>by
 refine tO.thenS P e q fun d ω1 v ok1 H1 e1 n1 P1 r1 q1=> ?_;cases e1;exact q1 v ok1 H1 (.refl P1.okh P1.st) r1
noncomputable def lI (f:Str) (v:D):List (Str×D)->List (Str×D)
 |[]=>[(f,v)]
 |(g,x)::r=>if g=f then(g,v)::r else(g,x)::lI f v r
theorem KvR.putF {K:aa} (q:Rep K ok H v d):∀ {vs:List (Str×V)}{ds:List (Str×D)},KvR K ok H vs ds->KvR K ok H (L2.putF x v vs) (lI x d ds)
 |_,_,.nil=>.cons q .nil
 |_,_,@KvR.cons _ _ _ _ k v' d' vs ds r rs=>by
  show KvR K ok H (if k=x then(k,v)::vs else(k,v')::L2.putF x v vs) (if k=x then(k,d)::ds else(k,d')::lI x d ds)
  by_cases z:k=x
  ·rw[if_pos z,if_pos z];exact .cons q rs
  ·rw[if_neg z,if_neg z];exact .cons r (KvR.putF q rs)
noncomputable def vP (c:Nat) (x:Str) (ω:Om) (o v:D):Option Om:=match o with
 |.obj n=>match ω[n]? with
  |some (.ins c' fs)=>if c'=c/\fs.length<1000 then xo (ω.set n (.ins c (lI x v fs))) else xp
  |_=>xp
 |_=>xp
theorem FR {c:Nat}{o v:D} (h:vP c x ω o v=xo ω'):∃ n fs,o=.obj n/\ω[n]?=xo (.ins c fs)/\fs.length<1000/\ω'=ω.set n (.ins c (lI x v fs)):=by
 unfold vP at h;split at h
 ·split at h
  ·obtain⟨⟨rfl,hl⟩,rfl⟩:=bJ h;exact⟨_,_,rfl,‹_›,hl,rfl⟩
  ·cases h
 ·cases h
noncomputable def nI (c:Nat) (x:Str) (fo fv:OG D):OS:=oX fv fun v=>oX fo fun o ρ ω=>(vP c x ω o v).map fun ω'=>(.nx ρ,ω')
theorem NQ (hc:Cls X.K (cls cn)) (hn:NoAttr X.K (cls cn) x) (ho:OE X cls E o fo) (hv:OE X cls E value fv) (hs:jm value (xo (.Attribute o x pos')) pos.line X.env=pure false:=by rfl):OSt X cls E (.Assign [.Attribute o x pos'] value pos) (nI cn x fo fv):=
 (Nl ho hv hs).imp fun D σ H ⟨ok,ρ,ω,oo,ω',P,e,q⟩=>by
  refine tO.thenS P e q fun dv ω1 v ok1 H1 e1 n1 P1 r1 q1=> ?_;refine tO.thenS P1 e1 q1 fun d ω2 u ok2 H2 e2 n2 P2 r2 q2=> ?_;obtain⟨ω3,e3,e4⟩:=aH e2;cases e4;obtain⟨n,fs,rfl,e5,hl,rfl⟩:=FR e3;obtain⟨a,rfl,e6,dx,vs,e7,kv⟩:=P2.st.ref r2 e5;refine⟨a,_,dx,vs,rfl,e7,hc,hn,by rw[kv.length];exact hl,?_⟩;have nw:=Nw.write (o:=.ins (cls cn) dx (L2.putF x v vs)) (ob:=.ins cn (lI x dv fs)) P2.okh P2.st e6 e7 fun dat=>⟨dx,_,aP,((kv.mono dat fun _ _ z=>z).putF ((r1.ex n2.ex).mono dat))⟩;exact q2 ok2 _ σ nw (P2.env.ex nw.ex) P2.len
noncomputable def nK (ω:Om) (o i v:D):Option Om:=match o,i with
 |.obj n,.int k=>match ω[n]? with
  |some (.ml ds)=>(ixN ds.length k).map fun j=>ω.set n (.ml (ds.set j v))
  |_=>xp
 |_,_=>xp
theorem FQ {o i v:D} (h:nK ω o i v=xo ω'):∃ n k ds j,o=.obj n/\i=.int k/\ω[n]?=xo (.ml ds)/\ixN ds.length k=xo j/\ω'=ω.set n (.ml (ds.set j v)):=by
 unfold nK at h;split at h
 ·split at h
  ·obtain⟨j,e1,rfl⟩:=aH h;exact⟨_,_,_,j,rfl,rfl,‹_›,e1,rfl⟩
  ·cases h
 ·cases h
noncomputable def iN (g:Om->D->D->D->Option Om) (fo fi fv:OG D):OS:=oX fv fun v=>oX fo fun o=>oX fi fun i ρ ω=>(g ω o i v).map fun ω'=>(.nx ρ,ω')
theorem KG (ho:OE X cls E o fo) (hi:OE X cls E i fi) (hv:OE X cls E value fv) (hs:ut [.Subscript o i pos'] value pos.line X.env=pure false:=by rfl) (hw:uu [.Subscript o i pos'] value X.env=pure xp:=by rfl)
  (h1:(lq [.Subscript o i pos'] X.env).map (·.2)=[assign (.Subscript o i pos') X.env]:=by rfl)
  (ha:∀ v,assign (.Subscript o i pos') X.env v=(do
   let ov <- holding [v] (eval o X.env)
   let iv <- holding [v,ov] (eval i X.env)
   ng pos'
   holding [v,ov,iv] (setItem ov iv v)
   release [v,ov,iv] []):=by intro _;rfl):OSt X cls E (.Assign [.Subscript o i pos'] value pos) (iN nK fo fi fv):=
 (Jw hv (Np ho hi GT ha) hs hw h1).imp fun D σ H ⟨ok,ρ,ω,oo,ω',P,e,q⟩=>by
  refine tO.thenS P e q fun dv ω1 v ok1 H1 e1 n1 P1 r1 q1=> ?_;refine tO.thenS P1 e1 q1 fun d ω2 u ok2 H2 e2 n2 P2 r2 q2=> ?_;refine tO.thenS P2 e2 q2 fun y ω3 w ok3 H3 e3 n3 P3 r3 q3=> ?_;obtain⟨ω4,e4,e5⟩:=aH e3;cases e5;obtain⟨n,k,ds,j,rfl,rfl,e5,hj,rfl⟩:=FQ e4;obtain⟨a,rfl,e6,xs,e7,rs⟩:=P3.st.ref (r2.ex n3.ex) e5;obtain rfl:=r3.int_inv;refine⟨a,xs,k,j,rfl,rfl,e7,by rw[rs.length];exact hj,?_⟩;have nw:=Nw.write (o:=.lst (xs.set j v)) (ob:=.ml (ds.set j dv)) P3.okh P3.st e6 e7 fun dat=>⟨_,aP,(rs.mono dat).set ((r1.ex (n2.ex.trans n3.ex)).mono dat) j⟩;exact q3 ok3 _ σ nw (P3.env.ex nw.ex) P3.len
noncomputable def nL (ω:Om) (o i v:D):Option Om:=match o with
 |.obj n=>match ω[n]? with
  |some (.dt kvs)=>(DY i).bind fun k=>if kvs.length<sizeLine then xo (ω.set n (.dt (putD kvs k v))) else xp
  |some (.dk kvs)=>(toK i).bind fun k=>if kvs.length<sizeLine then xo (ω.set n (.dk (putD kvs k v))) else xp
  |_=>xp
 |_=>xp
theorem KJ (hu:X.A.units+1<d7) (ho:OE X cls E o fo) (hi:OE X cls E i fi) (hv:OE X cls E value fv) (hs:jm value (xo (.Subscript o i pos')) pos.line X.env=pure false:=by rfl):
  OSt X cls E (.Assign [.Subscript o i pos'] value pos) (iN nL fo fi fv):=
 (Kl hu ho hi hv hs).imp fun D σ H ⟨ok,ρ,ω,oo,ω',P,e,q⟩=>by
  refine tO.thenS P e q fun dv ω1 v ok1 H1 e1 n1 P1 r1 q1=> ?_;refine tO.thenS P1 e1 q1 fun d ω2 u ok2 H2 e2 n2 P2 r2 q2=> ?_;refine tO.thenS P2 e2 q2 fun y ω3 w ok3 H3 e3 n3 P3 r3 q3=> ?_;obtain⟨ω4,e4,e5⟩:=aH e3;cases e5;have rv:=r1.ex (n2.ex.trans n3.ex);unfold nL at e4;split at e4
  ·split at e4
   ·rename_i n kvs e5
    obtain⟨ks,e8,e9⟩:=bind_some e4;obtain⟨hl,rfl⟩:=bJ e9;obtain⟨a,rfl,e6,vs,e7,kv⟩:=P3.st.ref (r2.ex n3.ex) e5;obtain⟨b,rfl,_,hb⟩:=toT'_rep e8 r3;refine⟨a,_,rfl,DPut.t e7 hb (by rw[kv.length];exact hl),?_⟩;have nw:=Nw.write (o:=.dT (mW vs ks v)) (ob:=.dt (putD kvs ks dv)) P3.okh P3.st e6 e7 fun dat=>⟨_,aP,(kv.mono dat fun _ _ z=>z).put (rv.mono dat)⟩;exact q3 ok3 _ σ nw (P3.env.ex nw.ex) P3.len
   ·rename_i n kvs e5
    obtain⟨ks,e8,e9⟩:=bind_some e4;obtain⟨hl,rfl⟩:=bJ e9;obtain⟨a,rfl,e6,vs,e7,kv⟩:=P3.st.ref (r2.ex n3.ex) e5;obtain rfl:=Ae e8 r3;refine⟨a,_,rfl,DPut.k e7 (by rw[kv.length];exact hl),?_⟩;have nw:=Nw.write (o:=.dK (mW vs ks v)) (ob:=.dk (putD kvs ks dv)) P3.okh P3.st e6 e7 fun dat=>⟨_,aP,(kv.mono dat fun _ _ z=>z).put (rv.mono dat)⟩;exact q3 ok3 _ σ nw (P3.env.ex nw.ex) P3.len
   ·cases e4
  ·cases e4
structure ItO (cls:Nat->af) (K:aa) (ok1:Okk) (H1:Hp) (C:Om->Bool) (J:It) (ds:List D):Prop where
 go:∀ i ok H ω,Nw cls K ok1 H1 ok H ω->C ω=true->i<ds.length->J.go i H
 yld:∀ i ok H ω x H' d,Nw cls K ok1 H1 ok H ω->C ω=true->J.yld i H x H'->ds[i]?=xo d->Same H H'/\Rep K ok H' x d
 stop:∀ i ok H ω,Nw cls K ok1 H1 ok H ω->C ω=true->ds.length<=i->J.stop i H
abbrev OI':=OG (List D×(Om->Bool))
def tOI (cls:Nat->af) (K:aa) (f:OI') (E:XE):TI:=fun σ H R=>∃(ok:Okk) (ρ:Rho) (ω:Om) (r:Rz (List D×(Om->Bool))) (ω':Om),Pre cls K ok H ω σ ρ/\f ρ ω=xo (r,ω')/\match r with
 |.ok p=>∀ J ok' H',Nw cls K ok H ok' H' ω'->ItO cls K ok' H' p.2 J p.1->R J H'
 |.ex c=>exR cls K ok H ω' E c
abbrev OI (X:Cx) (cls:Nat->af) (E:XE) (tg e:bw) (f:OI'):Prop:=PI X tg e (tOI cls X.K f E)
noncomputable def bK:Om->Bool:=fun _=>true
theorem ItD.toO {K:aa} (h:ItD K ok1.al (Hf ok1 H1) J ds):ItO cls K ok1 H1 bK J ds:=by
 have sm:∀ {ok:Okk}{H:Hp}{ω:Om},Nw cls K ok1 H1 ok H ω->Same (Hf ok1 H1) H:=fun n b u z=>(n.ex.dat b u (lH z).1 (lH z).2).2;refine⟨fun i ok H ω n _ hi=>h.go i H (sm n) hi,fun i ok H ω x H' d n _ y hd=> ?_,fun i ok H ω n _ hi=>h.stop i H (sm n) hi⟩;obtain⟨s,r⟩:=h.yld i H x H' d (sm n) y hd;refine⟨s,Rep.mono (ok:=⟨fun b=>Hf ok1 H1 b≠xp∨H b=xp,ok1.al⟩) (fun b u z w=>⟨?_,w⟩) (fun m a z=>n.ex.ids m a z) r⟩;rcases z with z|z
 ·cases q:Hf ok1 H1 b with
  |none=>exact absurd q z
  |some u'=>exact(n.ex.dat b u' (lH q).1 (lH q).2).1
 ·exact n.okh b z
noncomputable def iO (n:Nat) (ds:List D) (ω:Om):Bool:=match ω[n]? with
 |some (.ml ds')=>sameDs ds' ds
 |_=>false
theorem Ii (h:iO n ds ω=true):ω[n]?=xo (.ml ds):=by
 unfold iO at h;split at h
 ·rename_i ds' e
  rw[sameDs_eq ds' ds h] at e;exact e
 ·cases h
noncomputable def lX (ω:Om) (d:D):Option (List D×(Om->Bool)):=match d with
 |.lst ds=>xo (ds,bK)
 |.obj n=>match ω[n]? with
  |some (.ml ds)=>xo (ds,iO n ds)
  |_=>xp
 |_=>xp
theorem Iz (h:lX ω d=xo (ds,chk)):(d=.lst ds/\chk=bK)∨∃ n,d=.obj n/\ω[n]?=xo (.ml ds)/\chk=iO n ds:=by
 cases d with
 |lst xs=>cases h;exact .inl ⟨rfl,rfl⟩
 |obj n=>
  have h':(match ω[n]? with
   |some (.ml ds)=>xo (ds,iO n ds)
   |_=>xp)=xo (ds,chk):=h
  split at h'
  ·rename_i xs e
   cases h';exact .inr ⟨n,rfl,e,rfl⟩
  ·cases h'
 |_=>cases h
theorem AF {K:aa} (e:lX ω1 d=xo (ds,chk)) (st:Stt cls K ok1 H1 ω1) (r:Rep K ok1 H1 v d):
  ∃ a,v=.ref a/\(∃ xs,SqL K H1 a xs)/\∀ ok H ω,Nw cls K ok1 H1 ok H ω->chk ω=true->∃ xs,SqL K H a xs/\Reps K ok H xs ds:=by
 rcases Iz e with⟨rfl,rfl⟩|⟨n,rfl,e1,rfl⟩
 ·obtain⟨a,xs,rfl,g,rs⟩:=r.lst_inv;refine⟨a,rfl,⟨xs,g.sq⟩,fun ok H ω n _=>⟨xs,(g.mono n.ex.dat).sq,rs.ex n.ex⟩⟩
 ·obtain⟨a,rfl,e2,xs,e3,rs⟩:=st.ref r e1;refine⟨a,rfl,⟨xs,SqL.of e3⟩,fun ok H ω nw hc=> ?_⟩;obtain⟨b,e4,xs',e5,rs'⟩:=nw.st.cell n _ (Ii hc)
  have:=nw.ex.ids n a e2
  rw[e4] at this;cases this;exact⟨xs',SqL.of e5,rs'⟩
noncomputable def oIL (f:OG D):OI':=oB f fun d _ ω=>oR (pu (lX ω d) ω)
theorem KU (h:OE X cls E e fa):OI X cls E tg e (oIL fa):=PI.imp (Kq h) fun σ H R ⟨ok,ρ,ω,r,ω',P,e,q⟩=>by
 refine tO.then_ P e (fun c z=>by subst z;exact q) fun d ω1 v ok1 H1 e1 n1 P1 r1=> ?_;obtain⟨⟨ds,chk⟩,e3,rfl⟩:=cK e1;obtain⟨ue3,rfl⟩:=cQ e3;obtain⟨a,rfl,hx,at_⟩:=AF ue3 P1.st r1;refine⟨a,rfl,hx,q _ ok1 H1 n1 ⟨fun i ok H ω n c hi=> ?_,fun i ok H ω x H' d n c y hd=> ?_,fun i ok H ω n c hi=> ?_⟩⟩
 ·obtain⟨xs,s1,rs⟩:=at_ ok H ω n c;have hi':i<xs.length:=by rw[rs.length];exact hi
  exact⟨xs,xs[i],s1,by simp[hi']⟩
 ·obtain⟨xs,s1,rs⟩:=at_ ok H ω n c;obtain⟨rfl,y⟩:=y;obtain⟨w,z1,z2⟩:=rs.get hd;rw[y xs s1] at z1;cases z1;exact⟨Same.refl _,z2⟩
 ·obtain⟨xs,s1,rs⟩:=at_ ok H ω n c;exact⟨xs,s1,by rw[rs.length];exact hi⟩
noncomputable def PM (ω:Om) (ds:List D):Option (List D×(Om->Bool)):=match ds with
 |[a,b]=>(lX ω a).bind fun p=>(lX ω b).map fun q=>(Aa p.1 q.1,fun ω=>p.2 ω&&q.2 ω)
 |_=>xp
noncomputable def oIZ (f:OG (List D)):OI':=oB f fun ds _ ω=>oR (pu (PM ω ds) ω)
theorem Oe (hg:Gl X "zip") (hm:X.mg "zip"=xp) (ha:OA X cls E [a,b] fl) (hs:au [a,b] X.env=[(false,eval a X.env),(false,eval b X.env)]:=by rfl) (hs2:au [b] X.env=[(false,eval b X.env)]:=by rfl):
  OI X cls E (.Tuple ts k tp) (.Call (.Name "zip" p) [a,b] [] pos) (oIZ fl):=PI.imp (Nm hg hm ha hs hs2) fun σ H R ⟨ok,ρ,ω,r,ω',P,e,q⟩=>by
 refine tOA.then_ P e (fun c z=>by subst z;exact q) fun ds ω1 vs ok1 H1 e1 n1 P1 r1=> ?_;obtain⟨⟨dz,chk⟩,e3,rfl⟩:=cK e1;obtain⟨ue3,rfl⟩:=cQ e3;unfold PM at ue3;split at ue3
 ·obtain⟨⟨d1,c1⟩,e4,e5⟩:=bind_some ue3;obtain⟨⟨d2,c2⟩,e6,e7⟩:=aH e5;cases e7;obtain⟨v,v',rfl,ra,rb⟩:=r1.two_inv;obtain⟨a1,rfl,hx,at1⟩:=AF e4 P1.st ra;obtain⟨b1,rfl,hy,at2⟩:=AF e6 P1.st rb;have hl:(Aa d1 d2).length=min d1.length d2.length:=by simp[Aa]
  refine⟨a1,b1,rfl,hx,hy,q _ ok1 H1 n1 ⟨fun i ok H ω n c hi=> ?_,fun i ok H ω x H' d n c y hd=> ?_,fun i ok H ω n c hi=> ?_⟩⟩
  ·obtain⟨xs,s1,rs⟩:=at1 ok H ω n (br _ _ ▸ c).1;obtain⟨ys,s2,rs2⟩:=at2 ok H ω n (br _ _ ▸ c).2;rw[hl] at hi;have hi1:i<xs.length:=by rw[rs.length];omega
   have hi2:i<ys.length:=by rw[rs2.length];omega
   exact⟨xs,ys,xs[i],ys[i],s1,s2,by simp[hi1],by simp[hi2]⟩
  ·obtain⟨xs,s1,rs⟩:=at1 ok H ω n (br _ _ ▸ c).1;obtain⟨ys,s2,rs2⟩:=at2 ok H ω n (br _ _ ▸ c).2;obtain⟨T,x1,y1,rfl,hT,hx,hy,rfl⟩:=y;have hx':=hx xs s1;have hy':=hy ys s2;unfold Aa at hd;rw[uc] at hd;cases q1:d1[i]? with
   |none=>rw[q1] at hd;cases hd
   |some u1=>
    cases q2:d2[i]? with
    |none=>rw[q1,q2] at hd;cases hd
    |some u2=>
     rw[q1,q2] at hd;cases hd;obtain⟨w1,z1,z2⟩:=rs.get q1;rw[hx'] at z1;cases z1;obtain⟨w2,z3,z4⟩:=rs2.get q2;rw[hy'] at z3;cases z3;exact⟨cH hT,.tup_new (n.okh T hT) hT (.cons z2 (.cons z4 .nil))⟩
  ·obtain⟨xs,s1,rs⟩:=at1 ok H ω n (br _ _ ▸ c).1;obtain⟨ys,s2,rs2⟩:=at2 ok H ω n (br _ _ ▸ c).2;rw[hl] at hi;refine⟨xs,ys,s1,s2,?_⟩;rw[rs.length,rs2.length];omega
 ·cases ue3
noncomputable abbrev EF:XE:=fun _ _=>False
noncomputable def bO (bd:BR) (chk:Om->Bool) (F:OS):List D->OS
 |[],ρ,ω=>if chk ω=true then xo (.nx ρ,ω) else xp
 |d::ds,ρ,ω=>if chk ω=true then(bd d ρ).bind fun ρ1=>match F ρ1 ω with
  |none=>xp
  |some (.nx ρ2,ω2)=>bO bd chk F ds ρ2 ω2
  |some (.ct ρ2,ω2)=>bO bd chk F ds ρ2 ω2
  |some (.bk ρ2,ω2)=>xo (.nx ρ2,ω2)
  |some (.rt d,ω2)=>xo (.rt d,ω2)
  |some (.ex _,_)=>xp else xp
noncomputable def bB (fi:OI') (bd:BR) (F:OS):OS:=oX fi fun p ρ ω=>bO bd p.2 F p.1 ρ ω
theorem cR {α:Type}{c:Prop} [Decidable c] {a:Option α}{b:α} (h:(if c then a else xp)=xo b):c/\a=xo b:=by
 by_cases hc:c
 ·rw[if_pos hc] at h;exact⟨hc,h⟩
 ·rw[if_neg hc] at h;cases h
def Sr (g:TG) (tb:TS) (D:CG) (σ:St) (J:It) (H1:Hp):Prop:=∃ W:Nat->Nat->St->Hp->Prop,(∃ m,W 0 m σ H1)/\∀ i m σ H,W i m σ H->
 (J.stop i H/\D.nx σ H)∨(J.go i H/\∃ N:St->Hp->Prop,(∀ σ' H',N σ' H'->∃ m',m'<m/\W (i+1) m' σ' H')/\∀ x H',J.yld i H x H'->g x σ H' fun σ2 H2=>tb { D with nx:=N,ct:=N,bk:=D.nx } σ2 H2)
theorem Co {K:aa}{D:CG}{o:OOut} (it:ItO cls K ok1 H1 chk J ds) (P1:Pre cls K ok1 H1 ω1 σ ρ) (e2':bO bd chk F ds ρ ω1=xo (o,ω')) (q1:outO cls K ok1 H1 ω' EF D o):
  Sr (gR K bd) (tOS cls K F EF) D σ J H1:=by
 refine⟨fun i m σ' H'=>∃ ok' ωc ρ',m=ds.length-i/\i<=ds.length/\Nw cls K ok1 H1 ok' H' ωc/\EnvR K ok' H' σ' ρ'/\σ'.length=ρ'.length/\bO bd chk F (ds.drop i) ρ' ωc=xo (o,ω'),
  ⟨ds.length,ok1,ω1,ρ,by simp,ia _,.refl P1.okh P1.st,P1.env,P1.len,by simpa using e2'⟩,?_⟩
 rintro i m σ' H' ⟨ok',ωc,ρ',rfl,hi,n2,env,len,ef⟩
 by_cases hlt:i<ds.length
 ·have hdrop:ds.drop i=ds[i]::ds.drop (i+1):=qm hlt;rw[hdrop] at ef;have ef':(if chk ωc=true then(bd ds[i] ρ').bind fun ρ1=>(match F ρ1 ωc with
   |none=>xp
   |some (.nx ρ2,ω2)=>bO bd chk F (ds.drop (i+1)) ρ2 ω2
   |some (.ct ρ2,ω2)=>bO bd chk F (ds.drop (i+1)) ρ2 ω2
   |some (.bk ρ2,ω2)=>xo (.nx ρ2,ω2)
   |some (.rt d,ω2)=>xo (.rt d,ω2)
   |some (.ex _,_)=>xp) else xp)=xo (o,ω'):=ef
  obtain⟨hc,ef'⟩:=cR ef';obtain⟨ρ1,e3,e4⟩:=bind_some ef';refine .inr ⟨it.go i ok' H' ωc n2 hc hlt,fun σ2 H2=>∃ ok2 ω2 ρ2,Nw cls K ok1 H1 ok2 H2 ω2/\EnvR K ok2 H2 σ2 ρ2/\σ2.length=ρ2.length/\bO bd chk F (ds.drop (i+1)) ρ2 ω2=xo (o,ω'),
   fun σ2 H2 ⟨ok2,ω2,ρ2,z1,z2,z3,z4⟩=>⟨ds.length-(i+1),by omega,ok2,ω2,ρ2,rfl,hlt,z1,z2,z3,z4⟩,fun x H'' y=> ?_⟩
  obtain⟨s2,rx⟩:=it.yld i ok' H' ωc x H'' ds[i] n2 hc y (by simp[hlt]);have n3:Nw cls K ok1 H1 ok' H'' ωc:=n2.trans (.same n2.okh n2.st s2);refine⟨ok',ρ',ρ1,ds[i],env.same s2,len,rx,e3,fun σ2 env2 len2=> ?_⟩;cases eF:F ρ1 ωc with
  |none=>rw[eF] at e4;cases e4
  |some p=>
   obtain⟨o1,ω2⟩:=p;rw[eF] at e4;refine⟨ok',ρ1,ωc,o1,ω2,⟨n3.okh,n3.st,env2,len2⟩,eF,?_⟩;cases o1 with
   |nx ρ2=>exact fun ok3 H3 σ3 m3 r3 l3=>⟨ok3,ω2,ρ2,n3.trans m3,r3,l3,e4⟩
   |ct ρ2=>exact fun ok3 H3 σ3 m3 r3 l3=>⟨ok3,ω2,ρ2,n3.trans m3,r3,l3,e4⟩
   |bk ρ2=>
    cases e4;exact fun ok3 H3 σ3 m3 r3 l3=>q1 ok3 H3 σ3 (n3.trans m3) r3 l3
   |rt d=>
    cases e4;exact fun v ok3 H3 m3 r3=>q1 v ok3 H3 (n3.trans m3) r3
   |ex c=>cases e4
 ·have ei:i=ds.length:=by omega
  subst ei;rw[wg] at ef;have ef':(if chk ωc=true then xo (OOut.nx ρ',ωc) else xp)=xo (o,ω'):=ef;obtain⟨hc,ef'⟩:=bJ ef';cases ef';exact .inl ⟨it.stop _ ok' H' _ n2 hc (bf _),q1 ok' H' σ' n2 env len⟩
theorem tOS.for_ {K:aa}{fi:OI'}{D:CG} (h:tOS cls K (bB fi bd F) EF D σ H):Qc (tOI cls K fi EF) (gR K bd) (tOS cls K F EF) D σ H:=by
 obtain⟨ok,ρ,ω,o,ω',P,e,q⟩:=h;rcases EW e with⟨c,e1,rfl⟩|⟨⟨ds,chk⟩,ω1,e1,e2⟩
 ·exact⟨ok,ρ,ω,.ex c,ω',P,e1,q⟩
 ·exact⟨ok,ρ,ω,.ok (ds,chk),ω1,P,e1,fun J ok1 H1 n1 it=>Co it (P.nw n1) e2 (q.nw n1)⟩
noncomputable def sNx (F:OS):OS:=fun ρ ω=>match F ρ ω with
 |some (.ex _,_)=>xp
 |r=>r
theorem Es {o:OOut} (h:sNx F ρ ω=xo (o,ω')):F ρ ω=xo (o,ω')/\∀ c,o≠ .ex c:=by
 unfold sNx at h;split at h
 ·cases h
 ·rename_i hn
  exact⟨h,fun c z=>by subst z;exact hn c ω' h⟩
theorem _root_.L2.PS.nox (h:PS X.nox st t):PS X st t:=fun pins s σ H D I hw=>
 g8 (h pins s σ H D (I.wish _) hw) (fun _ _ q=>q.unwish) fun _ _ z=>iz z
theorem JC (h:OSt X.nox cls EF st F):OSt X cls E st (sNx F):=(PS.nox h).imp fun D σ H ⟨ok,ρ,ω,o,ω',P,e,q⟩=>by
 obtain⟨e,hn⟩:=Es e;refine⟨ok,ρ,ω,o,ω',P,e,?_⟩;cases o with
 |ex c=>exact absurd rfl (hn c)
 |_=>exact q
theorem NP {fi:OI'} (hc:X.calm=true) (hi:OI X.nox cls EF tg iter fi) (hg:PG X.nox tg (gR X.K bd)) (hb:OSs X.nox cls EF body F) (hs:∀ x,gp iter X.env x=pure x:=by intro _;rfl):
  OSt X cls E (.For tg iter body [] pos) (sNx (bB fi bd F)):=JC ((Jv (X:=X.nox) wv hc hi hg hb hs).imp fun D σ H h=>tOS.for_ h)
end
noncomputable def compLO (bd:BR) (chk:Om->Bool) (t:OG Bool) (f:OG D):List D->Rho->Om->Option (List D×Om)
 |[],_,ω=>if chk ω=true then xo ([],ω) else xp
 |d::ds,ρ,ω=>if chk ω=true then(bd d ρ).bind fun ρ1=>match t ρ1 ω with
  |some (.ok k,ω1)=>if k=true then(match f ρ1 ω1 with
   |some (.ok y,ω2)=>(compLO bd chk t f ds ρ1 ω2).map fun r=>(y::r.1,r.2)
   |_=>xp) else compLO bd chk t f ds ρ1 ω1
  |_=>xp else xp
noncomputable def cV (fin:Om->List D->Option (D×Om)) (fi:OI') (caps:List (Option Nat)) (bd:BR) (t:OG Bool) (f:OG D):OG D:=oB fi fun p ρ ω=>if p.1.length<=sizeLine then(compLO bd p.2 t f p.1 (GP caps ρ) ω).bind fun r=>oR (fin r.2 r.1) else xp
noncomputable def rZ (ω:Om) (ds:List D):Option (D×Om):=xo (.lst ds,ω)
noncomputable def IM (ω:Om) (ds:List D):Option (D×Om):=xo (.obj ω.length,ω++[.ml ds])
def Fin (fin:Om->List D->Option (D×Om)):Prop:=∀(cls:Nat->af) (K:aa) (ok1 ok:Okk) (H1 H:Hp) (ω ω':Om) (P:af) (vs:List V) (ds:List D) (d:D),Nw cls K ok1 H1 ok H ω->H1 P=xp->H P=xo (.lst vs)->¬ ok.p P->(∀ n,ok.al n≠xo P)->Reps K ok H vs ds->fin ω ds=xo (d,ω')->
 ∃ ok',Nw cls K ok1 H1 ok' H ω'/\Rep K ok' H (.ref P) d
theorem QY:Fin rZ:=fun cls K ok1 ok H1 H ω ω' P vs ds d nw h1 hP np na rs e=>by
 cases e;have dat:∀ b o,ok.p b->H b=xo o->(ok.p b∨b=P)/\H b=xo o:=fun b o k e=>⟨.inl k,e⟩;refine⟨⟨fun b=>ok.p b∨b=P,ok.al⟩,⟨⟨fun b o k e=>⟨.inl (nw.ex.dat b o k e).1,(nw.ex.dat b o k e).2⟩,nw.ex.ids,nw.ex.frm,nw.ex.new,nw.ex.keep,fun b k=> ?_,nw.ex.frz⟩,⟨fun b e=>.inl (nw.okh b e),fun b xs e=>.inl (nw.okh.tp b xs e)⟩,fun n ob e=> ?_,nw.st.dom,nw.st.inj,fun n a e k=> ?_⟩,.lst ⟨.inr rfl,hP⟩ (rs.mono dat)⟩
 ·rcases k with k|rfl
  ·exact nw.ex.sub b k
  ·exact .inr h1
 ·obtain⟨a,e1,c⟩:=nw.st.cell n ob e;exact⟨a,e1,c.mono dat (fun _ _ z=>z) fun _ z=>z⟩
 ·rcases k with k|rfl
  ·exact nw.st.nok n a e k
  ·exact na n e
theorem QX:Fin IM:=fun cls K ok1 ok H1 H ω ω' P vs ds d nw h1 hP np na rs e=>by
 cases e;have al:∀ m b,(if m=ω.length then xo P else ok.al m)=xo b->(m=ω.length/\b=P)∨(m≠ω.length/\ok.al m=xo b):=fun m b q=>by
  by_cases hm:m=ω.length
  ·rw[if_pos hm] at q;exact .inl ⟨hm,(b3 q).symm⟩
  ·rw[if_neg hm] at q;exact .inr ⟨hm,q⟩
 have ids:∀ m b,ok.al m=xo b->(if m=ω.length then xo P else ok.al m)=xo b:=fun m b q=>by
  rw[if_neg (ci (nw.st.dom m b q))];exact q
 have dat:∀ b o,ok.p b->H b=xo o->ok.p b/\H b=xo o:=fun b o k e=>⟨k,e⟩;refine⟨⟨ok.p,fun m=>if m=ω.length then xo P else ok.al m⟩,⟨⟨nw.ex.dat,fun m b q=>ids m b (nw.ex.ids m b q),nw.ex.frm,fun m b q=> ?_,nw.ex.keep,nw.ex.sub,nw.ex.frz⟩,⟨nw.okh.fn,nw.okh.tp⟩,fun m ob q=> ?_,fun m b q=> ?_,fun m m' b q q'=> ?_,fun m b q k=> ?_⟩,.obj (by show(if ω.length=ω.length then xo P else _)=_;rw[if_pos rfl])⟩
 ·rcases al m b q with⟨_,rfl⟩|⟨_,q⟩
  ·exact .inr h1
  ·exact nw.ex.new m b q
 ·by_cases hm:m<ω.length
  ·rw[am hm] at q;obtain⟨b,e1,c⟩:=nw.st.cell m ob q;exact⟨b,ids m b e1,c.mono dat ids fun _ z=>z⟩
  ·have hm':m=ω.length:=by
    have:=(bq.mp q).1
    simp at this;omega
   subst hm';rw[de (bf _)] at q;simp at q;subst q;exact⟨P,by show(if ω.length=ω.length then xo P else _)=_;rw[if_pos rfl],vs,hP,Reps.mono (ok':=⟨ok.p,fun m=>if m=ω.length then xo P else ok.al m⟩) dat ids rs⟩
 ·rw[bx,lg];rcases al m b q with⟨rfl,_⟩|⟨_,q⟩
  ·omega
  ·have:=nw.st.dom m b q
   omega
 ·rcases al m b q with⟨rfl,rfl⟩|⟨_,qa⟩ <;> rcases al m' b q' with⟨rfl,w⟩|⟨_,qb⟩
  ·rfl
  ·exact absurd qb (na m')
  ·rw[w] at qa;exact absurd qa (na m)
  ·exact nw.st.inj m m' b qa qb
 ·rcases al m b q with⟨_,rfl⟩|⟨_,q⟩
  ·exact np k
  ·exact nw.st.nok m b q k
theorem AW (h:compLO bd chk t f (d::ds) ρ ω=xo (ys,ω')):
  chk ω=true/\∃ ρ1 k ω1,bd d ρ=xo ρ1/\t ρ1 ω=xo (.ok k,ω1)/\((k=true/\∃ y zs ω2,f ρ1 ω1=xo (.ok y,ω2)/\compLO bd chk t f ds ρ1 ω2=xo (zs,ω')/\ys=y::zs)∨(k=false/\compLO bd chk t f ds ρ1 ω1=xo (ys,ω'))):=by
 obtain⟨hc,h⟩:=cR (show(if chk ω=true then _ else xp)=_ from h);obtain⟨ρ1,e1,h⟩:=bind_some h;refine⟨hc,ρ1,?_⟩;split at h
 ·rename_i k ω1 e2
  refine⟨k,ω1,e1,e2,?_⟩;cases k with
  |true=>
   rw[if_pos rfl] at h;split at h
   ·rename_i y ω2 e3
    obtain⟨⟨zs,ω3⟩,e4,e5⟩:=aH h;cases e5;exact .inl ⟨rfl,y,zs,ω2,e3,e4,rfl⟩
   ·cases h
  |false=>
   rw[if_neg cg] at h;exact .inr ⟨rfl,h⟩
 ·cases h
section
variable {X:Cx}{cls:Nat->af}{E:XE}{tg iter elt:bw}{ifs:List bw}{scope:kj}{N':List Str}{caps:List (Option Nat)}{fi:OI'}{bd:BR}{t:OG Bool}{f:OG D}{pos:Pos}{fin:Om->List D->Option (D×Om)}
theorem tO.comp {K:aa} (Fn:Fin fin) (h:tO cls K (cV fin fi caps bd t f) E σ H Q):JX (tOI cls K fi E) caps (gR K bd) (tOT cls K t EF) (tO cls K f EF) σ H Q:=by
 obtain⟨ok,ρ,ω,r,ω',P,e,q⟩:=h;rcases kC e with⟨c,e1,rfl⟩|⟨⟨ds,chk⟩,ω1,e1,e2⟩
 ·exact⟨ok,ρ,ω,.ex c,ω',P,e1,q⟩
 ·refine⟨ok,ρ,ω,.ok (ds,chk),ω1,P,e1,fun J ok1 H1 n1 it A hA=> ?_⟩;have P1:=P.nw n1;obtain⟨hz,e2⟩:=cR (show(if ds.length<=sizeLine then _ else xp)=_ from e2);obtain⟨⟨out,ωf⟩,e3,e4⟩:=bind_some e2;obtain⟨d,e5,rfl⟩:=cK e4
  -- ahead of the first turn:the list that is filled stands apart
  have start:Nw cls K ok1 H1 ⟨fun b=>ok1 b/\b≠A,ok1.al⟩ (upd H1 A (.lst [])) ω1:=by
   have dat:∀ b o,ok1.p b->H1 b=xo o->(ok1.p b/\b≠A)/\upd H1 A (.lst []) b=xo o:=fun b o k e=>⟨⟨k,aN e hA⟩,by rw[aG (aN e hA)];exact e⟩;refine⟨⟨dat,fun _ _ z=>z,fun b o z _=>by rw[aG (aN z hA)];exact z,fun _ _ z=>.inl z,fun b z=> ?_,fun b k=>.inl k.1,fun b x u z=>by rw[aG (aN z hA)];exact z⟩,⟨fun b z=> ?_,fun b xs z=> ?_⟩,fun n ob z=> ?_,P1.st.dom,P1.st.inj,fun n a z k=>P1.st.nok n a z k.1⟩
   ·by_cases hb:b=A
    ·rw[hb];exact hA
    ·rw[aG hb] at z;exact z
   ·have hb:b≠A:=fun w=>by rw[w,aP] at z;cases z
    rw[aG hb] at z;exact⟨P1.okh b z,hb⟩
   ·have hb:b≠A:=fun w=>by rw[w,aP] at z;cases z
    rw[aG hb] at z;exact⟨P1.okh.tp b xs z,hb⟩
   ·obtain⟨a,z1,c⟩:=P1.st.cell n ob z;exact⟨a,z1,c.mono dat (fun _ _ z=>z) fun o w=>by rw[aG (aN w hA)];exact w⟩
  refine⟨fun i m σ' H'=>∃ ok' ωc ρ' vs acc rest,m=ds.length-i/\i<=ds.length/\Nw cls K ok1 H1 ok' H' ωc/\¬ ok'.p A/\(∀ n,ok'.al n≠xo A)/\H' A=xo (.lst vs)/\Reps K ok' H' vs acc/\EnvR K ok' H' σ' ρ'/\σ'.length=ρ'.length/\
   compLO bd chk t f (ds.drop i) ρ' ωc=xo (rest,ωf)/\acc++rest=out/\acc.length<=i,
   ⟨ds.length,_,ω1,GP caps ρ,[],[],out,by simp,ia _,start,fun k=>k.2 rfl,fun n z=> ?_,aP,.nil,(P1.env.ex start.ex).cap caps,Mt _ _ _,by simpa using e3,by simp,ia _⟩,?_⟩
  ·obtain⟨_,_,c⟩:=P1.st.at_ (show ok1.al n=xo A from z);obtain⟨_,w,_⟩:=c.there;rw[hA] at w;cases w
  ·rintro i m σ' H' ⟨ok',ωc,ρ',vs,acc,rest,rfl,hi,nw,np,na,hv,ra,re,rl,ec,ea,hal⟩
   by_cases hlt:i<ds.length
   ·have hdrop:ds.drop i=ds[i]::ds.drop (i+1):=qm hlt;rw[hdrop] at ec;obtain⟨hc,ρ1,k,ω2,b1,b2,hk⟩:=AW ec;refine .inr ⟨it.go i ok' H' ωc nw hc hlt,fun x H'' y=> ?_⟩;obtain⟨s2,rx⟩:=it.yld i ok' H' ωc x H'' ds[i] nw hc y (by simp[hlt]);have nw2:Nw cls K ok' H' ok' H'' ωc:=.same nw.okh nw.st s2;refine⟨ok',ρ',ρ1,ds[i],re.same s2,rl,rx,b1,fun σ2 re2 rl2=> ?_⟩;refine⟨ok',ρ1,ωc,.ok k,ω2,⟨nw2.okh,nw2.st,re2,rl2⟩,b2,fun ok3 H3 nw3=> ?_⟩
    -- the list that is filled stays apart
    have apart:∀ {okx:Okk}{Hx:Hp}{ωx:Om},Nw cls K ok' H' okx Hx ωx->¬ okx.p A/\(∀ n,okx.al n≠xo A)/\Hx A=xo (.lst vs):=by
     intro okx Hx ωx nx;refine⟨fun z=> ?_,fun n z=> ?_,nx.ex.frm A _ hv na⟩
     ·rcases nx.ex.sub A z with z|z
      ·exact np z
      ·rw[hv] at z;cases z
     ·rcases nx.ex.new n A z with z|z
      ·exact na n z
      ·rw[hv] at z;cases z
    rcases hk with⟨rfl,yd,zs,ω4,b5,b6,rfl⟩|⟨rfl,b6⟩
    ·refine MD ⟨ok3,ρ1,ω2,.ok yd,ω4,⟨nw3.okh,nw3.st,re2.ex nw3.ex,rl2⟩,b5,fun yv ok4 H4 nw4 ry=> ?_⟩;have nx:=nw2.trans (nw3.trans nw4);obtain⟨np4,na4,hv4⟩:=apart nx;have hvl:vs.length<sizeLine:=by
      rw[ra.length];omega
     have keep:∀ b o,ok4.p b->H4 b=xo o->ok4.p b/\upd H4 A (.lst (vs++[yv])) b=xo o:=fun b o k e=>⟨k,by rw[aG (show b≠A from fun w=>np4 (w ▸ k))];exact e⟩;have nwf:=nw.trans nx;refine⟨vs,ds.length-(i+1),hv4,hvl,by omega,ok4,ω4,ρ1,vs++[yv],acc++[yd],zs,rfl,hlt,?_,np4,na4,aP,?_,?_,rl2,b6,by simpa using ea,by simp;omega⟩
     ·have nA:∀ {b:af}{o:HO},H1 b=xo o->b≠A:=fun z=>aN z hA;refine⟨⟨fun b o k e=>⟨(nwf.ex.dat b o k e).1,by rw[aG (nA e)];exact(nwf.ex.dat b o k e).2⟩,nwf.ex.ids,fun b o e z=>by rw[aG (nA e)];exact nwf.ex.frm b o e z,nwf.ex.new,fun b e=> ?_,nwf.ex.sub,fun b x u z=>by rw[aG (nA z)];exact nwf.ex.frz b x u z⟩,⟨fun b e=> ?_,fun b xs e=> ?_⟩,fun n ob e=> ?_,nwf.st.dom,nwf.st.inj,nwf.st.nok⟩
      ·by_cases hb:b=A
       ·rw[hb];exact hA
       ·rw[aG hb] at e;exact nwf.ex.keep b e
      ·have hb:b≠A:=fun w=>by rw[w,aP] at e;cases e
       rw[aG hb] at e;exact nwf.okh b e
      ·have hb:b≠A:=fun w=>by rw[w,aP] at e;cases e
       rw[aG hb] at e;exact nwf.okh.tp b xs e
      ·obtain⟨a,z1,c⟩:=nwf.st.cell n ob e;exact⟨a,z1,c.mono keep (fun _ _ z=>z) fun o w=>by rw[aG (show a≠A from fun w'=>na4 n (w' ▸ z1))];exact w⟩
     ·exact((ra.ex nx.ex).snoc ry).mono keep
     ·intro j dj ej;obtain⟨w,a,r⟩:=(re2.ex (nw3.trans nw4).ex) j dj ej;exact⟨w,a,r.mono keep⟩
    ·have nx:=nw2.trans nw3;obtain⟨np4,na4,hv4⟩:=apart nx;exact ME ⟨ds.length-(i+1),by omega,ok3,ω2,ρ1,vs,acc,rest,rfl,hlt,nw.trans nx,np4,na4,hv4,ra.ex nx.ex,re2.ex nw3.ex,rl2,b6,ea,by omega⟩
   ·have ei:i=ds.length:=by omega
    subst ei;rw[wg] at ec;obtain⟨hc,ec⟩:=bJ (show(if chk ωc=true then xo ([],ωc) else xp)=_ from ec);cases ec;rw[cu] at ea;subst ea;refine .inl ⟨it.stop _ ok' H' _ nw hc (bf _),?_⟩;obtain⟨ok2,nw2,rr⟩:=Fn cls K ok1 ok' H1 H' _ ω' A vs acc d nw hA hv np na ra e5;exact q _ ok2 H' (n1.trans nw2) rr
def MA (X:Cx) (cls:Nat->af) (E:XE) (ifs:List bw) (t:OG Bool):Prop:=MH X ifs (tOT cls X.K t E)
theorem HG:MA X cls E [] (oPT jW):=fun pins s σ H Q I ⟨ok,ρ,ω,r,ω',P,e,q⟩=>by
 cases e;exact LK pins s σ H Q I (q ok H (.refl P.okh P.st))
theorem HE (h:OT X cls E c t):MA X cls E [c] t:=LJ h
theorem Lm (Fn:Fin fin) (C:GM X scope N' caps) (hi:OI X cls E tg iter fi)
  (hb:∀ cells C fp pins s₀ H₀,PG (blk X N' scope cells C fp pins s₀ H₀) tg (gR X.K bd)/\MA (blk X N' scope cells C fp pins s₀ H₀) cls EF ifs t/\OE (blk X N' scope cells C fp pins s₀ H₀) cls EF elt f)
  (hs:∀ x,gp iter X.env x=pure x:=by intro _;rfl):OE X cls E (.ListComp elt [⟨tg,iter,ifs,0⟩] scope pos) (cV fin fi caps bd t f):=
 (Kx C.calm C.kind C.names C.free C.uniq C.cap hi hb hs).imp fun _ _ _ h=>tO.comp Fn h
theorem KM (Fn:Fin fin) (hN:X.N.Nodup) (hiy:X.N[i]?=xo y) (hy:X.env.scope.names.lookup y=xo .local) (C:GM X scope N' caps) (hi:OI X cls E tg iter fi)
  (hb:∀ cells C fp pins s₀ H₀,PG (blk X N' scope cells C fp pins s₀ H₀) tg (gR X.K bd)/\MA (blk X N' scope cells C fp pins s₀ H₀) cls EF ifs t/\OE (blk X N' scope cells C fp pins s₀ H₀) cls EF elt f)
  (hsw:jm (.ListComp elt [⟨tg,iter,ifs,0⟩] scope pos) (xo (.Name y py)) spos.line X.env=pure true:=by rfl)
  (hs:∀ x,gp iter X.env x=pure x:=by intro _;rfl):OSt X cls E (.Assign [.Name y py] (.ListComp elt [⟨tg,iter,ifs,0⟩] scope pos) spos) (aU i (cV fin fi caps bd t f)):=
 (Km hN hiy hy C.calm C.kind C.names C.free C.uniq C.cap hi hb hsw hs).imp fun D σ H ⟨ok,ρ,ω,o,ω',P,e,q⟩=>by
  refine tO.comp (fi:=fi) (caps:=caps) (bd:=bd) (t:=t) (f:=f) (E:=E) Fn ?_;refine tO.thenS P e q fun d ω1 v ok1 H1 e1 n1 P1 r1 q1=> ?_;cases e1;exact q1 ok1 H1 _ (.refl P1.okh P1.st) (P1.env.set P1.len r1 i) (by rw[cj,cj];exact P1.len)
end
structure FlyT (exC:Nat->af) (c:Nat) (ea:af) (T:af) (h0:c5) (H:Hp) (h:c5):Prop where
 tr:∃(oe oT:Obj) (vs ts:Array ag) (a0:ag),h.get? ea=xo oe/\oe.cls=.ref (exC c)/\oe.data=.fields vs/\vs[0]?=xo a0/\vs[1]?=xo (.ref T)/\T≠ea/\h.get? T=xo oT/\oT.data=.fields ts/\ts[3]?=xo .none
 h0e:h0.get? ea=xp
 h0T:h0.get? T=xp
 He:H ea=xp
 HT:H T=xp
structure Raw (exC:Nat->af) (c:Nat) (ea:af) (h0:c5) (H:Hp) (h:c5):Prop where
 at_:∃ t,h.get? ea=xo { cls:=.ref (exC c),data:=.fields #[.ref t,.none,.none,.none,.bool false,.none] }
 h0e:h0.get? ea=xp
 He:H ea=xp
noncomputable def CX1 (P:da) (w:dh) (exC:Nat->af):CXT:=fun outer H s E e s'=>∃ c ea T H',e=.ref ea/\s'.os=s.os/\m9 s'.gens/\Un (frs outer) [] H H' s.heap s'.heap/\HOk P w H' s'.heap/\FlyT exC c ea T s.heap H' s'.heap/\E (.ref (exC c)) xp H'
noncomputable def exK (exC:Nat->af) (E:XE):XK:=fun cv _ H'=>∃ c,cv=.ref (exC c)/\E c H'
structure Exc (X:Cx) (exC:Nat->af) (E:XE):Prop where
 fly:∀ c ea T H' pins σ' s',Inv X pins σ' H' s'->FlyT exC c ea T X.s₀.heap H' s'.heap->(∀ p∈X.pn,p.1≠ea/\p.1≠T)->E c H'->X.xe (.ref ea) s'
 ex:X.ex=[]
structure PR (X:Cx) (exC:Nat->af) (E:XE):Prop where
 raw:∀ c ea H' pins σ' s',Inv X pins σ' H' s'->Raw exC c ea X.s₀.heap H' s'.heap->E c H'->X.xe (.ref ea) s'
 ex:X.ex=[]
abbrev Pas (X:Cx) (exC:Nat->af) (E:XE):Prop:=rD (CX1 X.prog X.w exC) X (exK exC E)
theorem Qx:Pas X exC EF:=fun _ _ _ _ _ _ _ ⟨_,_,_,_,_,_,_,_,_,_,_,_,z⟩=>z.elim
theorem _root_.L2.Inv.pers (I:Inv X pins σ H s) (hx:X.ex=[]) (e:s.heap.get? b=xp):X.s₀.heap.get? b=xp:=by
 cases q:X.s₀.heap.get? b with
 |none=>rfl
 |some o=>
  obtain⟨o',z⟩:=I.base.there b o q (by rw[hx];simp);rw[e] at z;cases z
theorem Exc.pas (h:Exc X exC E):Pas X exC E:=fun pins σ H s e s' I ⟨c,ea,T,H',e1,os,bare,un,hok,fl,c',hc,hE⟩=>by
 subst e1;have I':Inv X pins σ H' s':=I.call' (ch:=[]) os un hok bare (fun b z=>absurd z (by simp));obtain⟨oe,oT,vs,ts,a0,g1,g2,g3⟩:=fl.tr;refine h.fly c' ea T H' pins σ s' I' ⟨⟨oe,oT,vs,ts,a0,g1,by rw[g2,hc],g3⟩,I.pers h.ex fl.h0e,I.pers h.ex fl.h0T,fl.He,fl.HT⟩ (fun p hp=> ?_) hE;obtain⟨w,_⟩:=I.pin p (dr _ hp);exact⟨fun z=>(by rw[z,fl.h0e] at w;cases w),fun z=>(by rw[z,fl.h0T] at w;cases w)⟩
abbrev eC:=List D->Om->Option (Rz D×Om)
noncomputable def spO (cls exC:Nat->af) (K:aa) (φ:eC):Sp:=fun vs H Q E=>∃(ok:Okk) (ω:Om) (ds:List D) (r:Rz D) (ω':Om),OkH ok H/\Stt cls K ok H ω/\Reps K ok H vs ds/\φ ds ω=xo (r,ω')/\match r with
 |.ok d=>∀ v ok' H',Nw cls K ok H ok' H' ω'->Rep K ok' H' v d->Q v H'
 |.ex c=>∀ ok' H',Nw cls K ok H ok' H' ω'->E (.ref (exC c)) xp H'
section
variable {X:Cx}{cls exC:Nat->af}{E:XE}{e a b c o i value:bw}{es:List bw}{fa fb fo fi fv:OG D}{fl:OG (List D)}{pos p apos pos':Pos}{x m:Str}{cn k:Nat}{fn C:af}{fd:jw}{ps:List Str}{φ:eC}
theorem spO.at {K:aa} (h1:OkH ok H) (st:Stt cls K ok H ω) (rs:Reps K ok H vs ds) (e:φ ds ω=xo (r,ω'))
  (hq:∀ d,r=.ok d->∀ v ok' H',Nw cls K ok H ok' H' ω'->Rep K ok' H' v d->Q v H') (hx:∀ c,r=.ex c->exR cls K ok H ω' E c):spO cls exC K φ vs H Q (exK exC E):=by
 refine⟨ok,ω,ds,r,ω',h1,st,rs,e,?_⟩;cases r with
 |ok d=>exact hq d rfl
 |ex c=>exact fun ok' H' n=>⟨c,rfl,hx c rfl ok' H' n⟩
noncomputable def bL (φ:eC) (fl:OG (List D)):OG D:=oB fl fun ds _ ω=>φ ds ω
theorem Aj {K:aa}{r:Rz D}{Q:VK} (n1:Nw cls K ok H ok1 H1 ω1) (q:match r with
  |.ok d=>∀ v ok' H',Nw cls K ok H ok' H' ω'->Rep K ok' H' v d->Q v H'
  |.ex c=>exR cls K ok H ω' E c):∀ d,r=.ok d->∀ v ok' H',Nw cls K ok1 H1 ok' H' ω'->Rep K ok' H' v d->Q v H':=fun d z v ok' H' n r=>by
 subst z;exact q v ok' H' (n1.trans n) r
theorem Ak {K:aa}{r:Rz D}{Q:VK} (n1:Nw cls K ok H ok1 H1 ω1) (q:match r with
  |.ok d=>∀ v ok' H',Nw cls K ok H ok' H' ω'->Rep K ok' H' v d->Q v H'
  |.ex c=>exR cls K ok H ω' E c):∀ c,r=.ex c->exR cls K ok1 H1 ω' E c:=fun c z=>by
 subst z;exact exR.nw q n1
theorem Lo (F:sO X.prog X.w X.K X.mg X.base (CX1 X.prog X.w exC) k fn fd ps (spO cls exC X.K φ)) (hr:Room k X.A) (hg:Gl X x) (hm:X.mg x=xo (.ref fn)) (hk:gu X.K (.ref fn)=true)
  (hb:Binds X.K fd ps []) (hx:Pas X exC E) (ha:OA X cls E (e::es) fl) (hdb:(x==("__debug__":Str))=false:=by decide) (he:au (e::es) X.env=(false,eval e X.env)::au es X.env:=by rfl) (hpl:(db pos (au es X.env)).any (·.1)=false:=by rfl):
  OE X cls E (.Call (.Name x p) (e::es) [] pos) (bL φ fl):=
 (Kz F hr hg hm hk hb .nil hx ha hdb he hpl).imp fun σ H Q ⟨ok,ρ,ω,r,ω',P,e,q⟩=>by
  refine tOA.then_ P e (fun c z=>by subst z;exact q) fun ds ω1 vs ok1 H1 e1 n1 P1 r1=> ?_;rw[cu];exact spO.at P1.okh P1.st r1 e1 (Aj n1 q) (Ak (Q:=Q) n1 q)
noncomputable def Dk (c:Nat) (m:Str) (ω:Om) (d:D):Bool:=match cellOf ω d with
 |some (.ins c' fs)=>c'==c&&(fs.lookup m).isNone
 |_=>false
theorem yK {c:Nat} (h:Dk c m ω d=true):∃ n fs,d=.obj n/\ω[n]?=xo (.ins c fs)/\fs.lookup m=xp:=by
 unfold Dk at h;split at h
 ·rename_i c' fs hc
  obtain⟨n,rfl,e⟩:=dO hc;simp only[br,beq_iff_eq,Option.isNone_iff_eq_none] at h;obtain⟨rfl,h⟩:=h;exact⟨n,fs,rfl,e,h⟩
 ·cases h
noncomputable def bH (c:Nat) (m:Str) (φ:eC) (fo:OG D) (fl:OG (List D)):OG D:=oB fo fun d ρ ω=>if Dk c m ω d=true then oB fl (fun ds _ ω=>φ (d::ds) ω) ρ ω else xp
theorem Lg (ho:OE X cls E o fo) (hc:Cls X.K (cls cn)) (hm:Js X.K (cls cn) m fn) (F:sO X.prog X.w X.K X.mg X.base (CX1 X.prog X.w exC) k fn fd ps (spO cls exC X.K φ)) (hr:Room k X.A) (hb:Binds X.K fd ps []) (hx:Pas X exC E) (ha:OA X cls E (e::es) fl)
  (hst:au (e::es) X.env=(false,eval e X.env)::au es X.env:=by rfl) (hpl:(db pos (au es X.env)).any (·.1)=false:=by rfl)
  (ht:eval (.Call (.Attribute o m apos) (e::es) [] pos) X.env=(do
   let ov <- eval o X.env
   ng apos.atName
   let (f,first) <- holding [ov] (mm ov m pl)
   qv pos f first (db pos (au (e::es) X.env)) (j8 pos (ir [] X.env))):=by rfl):
  OE X cls E (.Call (.Attribute o m apos) (e::es) [] pos) (bH cn m φ fo fl):=
 (Kt (pl:=pl) ho hc hm F hr hb .nil hx ha hst hpl ht).imp fun σ H Q ⟨ok,ρ,ω,r,ω',P,e,q⟩=>by
  refine tO.then_ P e (fun c z=>by subst z;exact q) fun d ω1 v ok1 H1 e1 n1 P1 r1=> ?_;obtain⟨hi,e1⟩:=cR e1;obtain⟨n,fs,rfl,e2,e3⟩:=yK hi;obtain⟨a,rfl,e4,dx,vs,e5,kv⟩:=P1.st.ref r1 e2;refine⟨a,dx,vs,rfl,e5,kv.look_none e3,?_⟩;refine tOA.then_ P1 e1 (fun c z=>by subst z;exact exR.nw q n1) fun ds ω2 us ok2 H2 e6 n2 P2 r2=> ?_;rw[cu];exact spO.at P2.okh P2.st (.cons (r1.ex n2.ex) r2) e6 (Aj (n1.trans n2) q) (Ak (Q:=Q) (n1.trans n2) q)
theorem HJ (ho:OE X cls E o fo) (hc:Cls X.K (cls cn)) (hm:Js X.K (cls cn) m fn) (F:sO X.prog X.w X.K X.mg X.base (CX1 X.prog X.w exC) k fn fd ps (spO cls exC X.K φ)) (hr:Room k X.A) (hb:Binds X.K fd ps []) (hx:Pas X exC E)
  (ht:eval (.Call (.Attribute o m apos) [] [] pos) X.env=(do
   let ov <- eval o X.env
   ng apos.atName
   let (f,first) <- holding [ov] (mm ov m pl)
   qv pos f first (db pos (au [] X.env)) (j8 pos (ir [] X.env))):=by rfl):
  OE X cls E (.Call (.Attribute o m apos) [] [] pos) (bH cn m φ fo aM):=
 (Hw (pl:=pl) ho hc hm F hr hb .nil hx ht).imp fun σ H Q ⟨ok,ρ,ω,r,ω',P,e,q⟩=>by
  refine tO.then_ P e (fun c z=>by subst z;exact q) fun d ω1 v ok1 H1 e1 n1 P1 r1=> ?_;obtain⟨hi,e1⟩:=cR e1;obtain⟨n,fs,rfl,e2,e3⟩:=yK hi;obtain⟨a,rfl,e4,dx,vs,e5,kv⟩:=P1.st.ref r1 e2;refine⟨a,dx,vs,rfl,e5,kv.look_none e3,?_⟩;have e6:φ [.obj n] ω1=xo (r,ω'):=e1;exact spO.at P1.okh P1.st (.cons r1 .nil) e6 (Aj n1 q) (Ak (Q:=Q) n1 q)
noncomputable def vB (c:Nat) (φ:eC) (fl:OG (List D)):OG D:=oB fl fun ds _ ω=>match φ (.obj ω.length::ds) (ω++[.ins c []]) with
 |some (.ok .non,ω')=>xo (.ok (.obj ω.length),ω')
 |some (.ex c,ω')=>xo (.ex c,ω')
 |_=>xp
theorem Li (M:Mk X.K (cls cn) fn) (F:sO X.prog X.w X.K X.mg X.base (CX1 X.prog X.w exC) k fn fd ps (spO cls exC X.K φ)) (hr:Room (k+1) X.A) (hg:Gl X x) (hm:X.mg x=xo (.ref (cls cn))) (hb:Binds X.K fd ps []) (hx:Pas X exC E)
  (ha:OA X cls E (e::es) fl) (hdb:(x==("__debug__":Str))=false:=by decide) (he:au (e::es) X.env=(false,eval e X.env)::au es X.env:=by rfl) (hpl:(db pos (au es X.env)).any (·.1)=false:=by rfl):
  OE X cls E (.Call (.Name x p) (e::es) [] pos) (vB cn φ fl):=
 (Ku M F hr hg hm hb .nil hx ha hdb he hpl).imp fun σ H Q ⟨ok,ρ,ω,r,ω',P,e,q⟩=>by
  refine tOA.then_ P e (fun c z=>by subst z;exact q) fun ds ω1 vs ok1 H1 e1 n1 P1 r1=> ?_;intro a dx na ndx hne;rw[cu];have n2:Nw cls X.K ok1 H1 ok1 (upd H1 dx (.own a)) ω1:=.same P1.okh P1.st (cH ndx);have n3:Nw cls X.K ok1 (upd H1 dx (.own a)) (okN ok1 ω1.length a) (upd (upd H1 dx (.own a)) a (.ins (cls cn) dx [])) (ω1++[.ins cn []]):=
   Nw.make n2.okh n2.st (by rw[aG (bz hne)];exact na) ⟨dx,[],aP,.nil⟩
  have n4:=n1.trans (n2.trans n3);have rs:Reps X.K (okN ok1 ω1.length a) (upd (upd H1 dx (.own a)) a (.ins (cls cn) dx [])) (.ref a::vs) (.obj ω1.length::ds):=.cons .new_obj ((r1.ex n2.ex).ex n3.ex);cases eφ:φ (.obj ω1.length::ds) (ω1++[.ins cn []]) with
  |none=>rw[eφ] at e1;cases e1
  |some pr=>
   obtain⟨rz,ω2⟩:=pr;rw[eφ] at e1;refine⟨_,_,_,rz,ω2,n3.okh,n3.st,rs,eφ,?_⟩;cases rz with
   |ex c=>
    cases e1;exact fun ok' H' n=>⟨c,rfl,q ok' H' (n4.trans n)⟩
   |ok d=>
    cases d with
    |non=>
     cases e1;refine fun v ok' H' n rv=>⟨rv.non_inv,q _ ok' H' (n4.trans n) (.obj (n.ex.ids _ _ ?_))⟩
     show(if ω1.length=ω1.length then xo a else _)=_
     rw[if_pos rfl]
    |_=>cases e1
end
theorem _root_.L2.HOk.obj (x:HOk P w H h) (e:H a=xo o):∃ u,h.get? a=xo u:=by
 have z:=x a o e;cases o with
 |lst xs=>obtain⟨_,_,_,_,e⟩:=z;exact⟨_,e⟩
 |tup xs=>obtain⟨_,_,_,o,e,_⟩:=z;exact⟨_,e⟩
 |dK kvs=>obtain⟨_,_,_,_,o,_,_,e,_⟩:=z;exact⟨_,e⟩
 |dT kvs=>obtain⟨_,_,_,_,o,_,_,e,_⟩:=z;exact⟨_,e⟩
 |set S n=>obtain⟨o,_,_,_,e,_⟩:=z;exact⟨_,e⟩
 |ins C dx fs=>obtain⟨_,_,_,e,_⟩:=z;exact⟨_,e⟩
 |own y=>exact z
 |xd fs=>obtain⟨_,⟨_,_,_,e,_⟩,_⟩:=z;exact⟨_,e⟩
 |rng lo hi=>obtain⟨_,_,_,e⟩:=z;exact⟨_,e⟩
 |frz ob u=>obtain⟨e,_⟩:=z;exact⟨_,e⟩
 |tbl ps=>exact⟨_,show h.get? a=xo _ from z⟩
 |met f y=>exact⟨_,show h.get? a=xo _ from z⟩
 |ext φ=>exact z.2.1
structure Pass (fs:List af) (ea T:af) (h h':c5):Prop where
 keep:∀ b o,h.get? b=xo o->b∉fs->b≠ea->b≠T->h'.get? b=xo o
 slot:∀ b o,h.get? b=xo o->b∈fs->∃ sl,h'.get? b=xo { o with slots:=sl }
theorem vQ {h base base':c5}:∀ {l:List Env},h.FunFrames base l->(∀ b∈frs l,base'.get? b=xp)->h.FunFrames base' l
 |[],_,_=>trivial
 |env::r,⟨hk,⟨L,o,hf,hn,ho,hd⟩,hr⟩,n=>by
  refine⟨hk,⟨L,o,hf,n L ?_,ho,hd⟩,vQ hr fun b hb=>n b ?_⟩
  ·unfold frs;rw[km,hf];exact ar
  ·unfold frs at hb ⊢;rw[km,hf];exact ai _ hb
section
variable {M:Model}{A:dm}{E:ag->aq->Prop}{s:aq}{env:Env}{outer:List Env}{base h0:c5}{H:Hp}{exC:Nat->af}{c:Nat}{ea T L:af}{Q:Unit->aq->Prop}{P:da}{w:dh}
theorem AH (hok:HOk P w H s.heap) (h0p:∀ b,s.heap.get? b=xp->h0.get? b=xp) (hb:∀ b,base'.get? b=xp->b=ea∨b=T∨b∈frs l∨s.heap.get? b=xp)
  (hl:h'.FunFrames base' l) (tr:h'.TracedW base' ea cls a0) (hc:cls=.ref (exC c)) (n1:h0.get? ea=xp) (n2:H ea=xp) (n3:h0.get? T=xp) (n4:H T=xp):∃ T',FlyT exC c ea T' h0 H h'/\(T'=T∨s.heap.get? T'=xp):=by
 obtain⟨oe,vs,T',oT,ts,e1,⟨e2,e3⟩,e4,e5,e6,e7,e8,e9,e10⟩:=tr;have hT:T'=T∨s.heap.get? T'=xp:=by
  rcases hb T' e6 with z|z|z|z
  ·exact absurd z e7
  ·exact .inl z
  ·obtain⟨_,o,q1,q2⟩:=hl.mem z;rw[e8] at q1;cases q1;exact absurd e9 (q2 ts)
  ·exact .inr z
 refine⟨T',⟨⟨oe,oT,vs,ts,a0,e1,by rw[e2,hc],e4,e3,e5,e7,e8,e9,e10⟩,n1,?_,n2,?_⟩,hT⟩
 ·rcases hT with rfl|z
  ·exact n3
  ·exact h0p _ z
 ·rcases hT with rfl|z
  ·exact n4
  ·cases q:H T' with
   |none=>rfl
   |some o=>
    obtain⟨u,w⟩:=hok.obj q;rw[z] at w;cases w
theorem Ay (e:(fz h l).get? b=xp):b∈l∨h.get? b=xp:=by
 by_cases hb:b∈l
 ·exact .inl hb
 ·right;cases q:h.get? b with
  |none=>rfl
  |some o=>
   rw[ki l q hb] at e;cases e
theorem Fk (hfr:A.frames=xo (env::outer)) (hf:env.frame=xo L) (funs:s.heap.FunFrames base (env::outer)) (hok:HOk P w H s.heap) (h0p:∀ b,s.heap.get? b=xp->h0.get? b=xp) (fl:FlyT exC c ea T h0 H s.heap)
  (hQ:∀ h' T',Pass (frs (env::outer)) ea T s.heap h'->FlyT exC c ea T' h0 H h'->(T'=T∨s.heap.get? T'=xp)->Q () { s with heap:=h' }):bc M A (leaving env (.ref ea)) Q E s:=by
 obtain⟨oe,oT,vs,ts,a0,e1,e2,e3,e4,e5,e6,e7,e8,e9⟩:=fl.tr;have nF:∀ b∈frs (env::outer),(fz s.heap (ea::T::frs (env::outer))).get? b=xp:=fun b hb=>f6 _ (ai _ (ai _ hb));have hb0:∀ b,(fz s.heap (ea::T::frs (env::outer))).get? b=xp->b=ea∨b=T∨b∈frs (env::outer)∨s.heap.get? b=xp:=fun b z=>by
  rcases Ay z with z|z
  ·rcases aj.mp z with z|z
   ·exact .inl z
   ·rcases aj.mp z with z|z
    ·exact .inr (.inl z)
    ·exact .inr (.inr (.inl z))
  ·exact .inr (.inr (.inr z))
 refine wpAny_leaving_nextW (base:=fz s.heap (ea::T::frs (env::outer))) (cls:=.ref (exC c)) (a0:=a0) hfr (vQ funs nF) hf ?_ (fun b o z=>mh _ z) (f6 _ ar) fun h' hL=> ?_
 ·exact⟨oe,vs,T,oT,ts,e1,⟨e2,e4⟩,e3,e5,f6 _ (ai _ ar),e6,e7,e8,e9⟩
 ·obtain⟨k1,k2,k3,k4⟩:=hL;obtain⟨T',f1,f2⟩:=AH (T:=T) hok h0p hb0 k2 k3 rfl fl.h0e fl.He fl.h0T fl.HT;refine hQ h' T' ⟨fun b o z n1 n2 n3=>k1 b o (ki _ z ?_),fun b o z hb=> ?_⟩ f1 f2
  ·intro hm;rcases aj.mp hm with hm|hm
   ·exact n2 hm
   ·rcases aj.mp hm with hm|hm
    ·exact n3 hm
    ·exact n1 hm
  ·obtain⟨_,o',q1,q2⟩:=funs.mem hb;rw[z] at q1;cases q1;exact k4 b o z q2
theorem Fj (hfr:A.frames=xo (env::outer)) (hf:env.frame=xo L) (funs:s.heap.FunFrames base (env::outer)) (hok:HOk P w H s.heap) (h0p:∀ b,s.heap.get? b=xp->h0.get? b=xp) (fl:Raw exC c ea h0 H s.heap)
  (hQ:∀ h' T',Pass (frs (env::outer)) ea ea s.heap h'->FlyT exC c ea T' h0 H h'->s.heap.get? T'=xp->Q () { s with heap:=h' }):bc M A (leaving env (.ref ea)) Q E s:=by
 obtain⟨t,e1⟩:=fl.at_;have nF:∀ b∈frs (env::outer),(fz s.heap (ea::frs (env::outer))).get? b=xp:=fun b hb=>f6 _ (ai _ hb);have hb0:∀ b,(fz s.heap (ea::frs (env::outer))).get? b=xp->b=ea∨b=ea∨b∈frs (env::outer)∨s.heap.get? b=xp:=fun b z=>by
  rcases Ay z with z|z
  ·rcases aj.mp z with z|z
   ·exact .inl z
   ·exact .inr (.inr (.inl z))
  ·exact .inr (.inr (.inr z))
 refine wpAny_leaving_firstW (base:=fz s.heap (ea::frs (env::outer))) (a0:=.ref t) hfr (vQ funs nF) hf e1 (fun b o z=>mh _ z) (f6 _ ar) rfl rfl rfl fun h' hL=> ?_;obtain⟨k1,k2,k3,k4⟩:=hL;obtain⟨T',f1,f2⟩:=AH (T:=ea) (c:=c) (exC:=exC) hok h0p hb0 k2 k3 rfl fl.h0e fl.He fl.h0e fl.He;have hTe:T'≠ea:=by obtain⟨_,_,_,_,_,_,_,_,_,_,z,_⟩:=f1.tr;exact z
 refine hQ h' T' ⟨fun b o z n1 n2 n3=>k1 b o (ki _ z ?_),fun b o z hb=> ?_⟩ f1 (f2.resolve_left hTe)
 ·intro hm;rcases aj.mp hm with hm|hm
  ·exact n2 hm
  ·exact n1 hm
 ·obtain⟨_,o',q1,q2⟩:=funs.mem hb;rw[z] at q1;cases q1;exact k4 b o z q2
end
theorem exc_def {K:aa}:
  Exc (AV (CX1 P w exC) P w K mg base N qual scope f cd A outer s H E) exC (fun c H'=>E (.ref (exC c)) xp H')/\PR (AV (CX1 P w exC) P w K mg base N qual scope f cd A outer s H E) exC (fun c H'=>E (.ref (exC c)) xp H'):=by
 have main:∀ {pins:List (af×Obj)}{σ':St}{H':Hp}{s':aq}{c:Nat}{ea T T':af}{h'':c5},Inv (AV (CX1 P w exC) P w K mg base N qual scope f cd A outer s H E) pins σ' H' s'->
   s.heap.get? ea=xp->s.heap.get? T=xp->H' ea=xp->H' T=xp->Pass (frs (jo qual scope s.heap.objs.size f cd::outer)) ea T s'.heap h''->FlyT exC c ea T' s.heap H' h''->E (.ref (exC c)) xp H'->
   CX1 P w exC outer H s E (.ref ea) { s' with heap:=h'' }:=fun {pins σ' H' s' c ea T T' h''} I n1 n2 n3 n4 ps fl hE=>by
  have nofr:∀ b u,H' b=xo u->b∉frs (jo qual scope s.heap.objs.size f cd::outer):=fun b u e z=>by
   have:=I.stkFree b z
   rw[e] at this;cases this
  have kb:∀ b u v,H' b=xo u->s'.heap.get? b=xo v->h''.get? b=xo v:=fun b u v e z=>ps.keep b v z (nofr b u e) (fun q=>by rw[q,n3] at e;cases e) fun q=>by rw[q,n4] at e;cases e
  have old:∀ {b:af}{o:Obj},s.heap.get? b=xo o->b≠ea/\b≠T:=fun {b o} z=>⟨fun q=>(by rw[q,n1] at z;cases z),fun q=>(by rw[q,n2] at z;cases z)⟩;have fr1:∀ b,b∈frs (jo qual scope s.heap.objs.size f cd::outer)->b=s.heap.objs.size∨b∈frs outer:=fun b hb=>by
   have hb':b∈s.heap.objs.size::frs outer:=hb;exact aj.mp hb'
  have nx:∀ b:af,b∉(AV (CX1 P w exC) P w K mg base N qual scope f cd A outer s H E).ex:=fun b z=>absurd (show b∈([]:List af) from z) (by simp);refine⟨c,ea,T',H',rfl,I.os,I.bare,⟨fun b o e n hb _=> ?_,fun b o e n hb _=> ?_,fun b o e n _=>I.base.free b o e n (nx b),fun b o e _=> ?_,I.base.tups,I.base.frzs,I.base.tbls⟩,fun b u e=> ?_,fl,hE⟩
  ·have z:=I.base.keep b o e n hb (nx b);refine ps.keep b o z (fun hm=> ?_) (old e).1 (old e).2;rcases fr1 b hm with q|q
   ·exact absurd (bh e) (by rw[q];exact dn _)
   ·exact hb q
  ·obtain⟨sl,z⟩:=I.base.slot b o e n hb (nx b);obtain⟨sl2,z2⟩:=ps.slot b _ z (show b∈s.heap.objs.size::frs outer from ai _ hb);exact⟨sl2,z2⟩
  ·obtain⟨o',z⟩:=I.base.there b o e (nx b)
   by_cases hm:b∈frs (jo qual scope s.heap.objs.size f cd::outer)
   ·obtain⟨sl2,z2⟩:=ps.slot b _ z hm;exact⟨_,z2⟩
   ·exact⟨_,ps.keep b o' z hm (old e).1 (old e).2⟩
  ·refine(I.hok b u e).stay (fun c v hc q=> ?_) (fun _ q=>q) fun _ _ q=>q;rcases hc with rfl|hc
   ·exact kb c u v e q
   ·exact kb c _ v hc q
 refine⟨⟨fun c ea T H' pins σ' s' I fl _ hE=> ?_,rfl⟩,⟨fun c ea H' pins σ' s' I fl hE=> ?_,rfl⟩⟩
 ·exact Fk (L:=s.heap.objs.size) I.ok.frames rfl I.stack I.hok (fun b z=>I.pers rfl z) fl fun h'' T' ps fl' _=>main I fl.h0e fl.h0T fl.He fl.HT ps fl' hE
 ·exact Fj (L:=s.heap.objs.size) I.ok.frames rfl I.stack I.hok (fun b z=>I.pers rfl z) fl fun h'' T' ps fl' _=>main I fl.h0e fl.h0e fl.He fl.He ps fl' hE
noncomputable def cB (N:List Str) (ds:List D):Rho:=ds.map xo++av (N.length-ds.length) xp
theorem CM {K:aa} (r:Reps K ok H vs ds):EnvR K ok H (start N vs) (cB N ds)/\(start N vs).length=(cB N ds).length:=by
 refine⟨fun i d e=> ?_,?_⟩
 ·unfold cB at e
  by_cases hi:i<ds.length
  ·rw[am (by simpa using hi),ay] at e;obtain⟨d',e1,e2⟩:=aH e;cases e2;obtain⟨v,e3,r'⟩:=r.get e1;have hv:i<vs.length:=(bq.mp e3).1;refine⟨v,?_,r'⟩;unfold start;rw[am (by simpa using hv),ay,e3];rfl
  ·rw[de (by simpa using hi),fe] at e;split at e <;> cases e
 ·unfold start cB;rw[bx,bx,ak,ak,ju,ju,r.length]
noncomputable def eB (n:Nat) (N:List Str) (G:OS):eC:=fun ds ω=>if ds.length=n then(match G (cB N ds) ω with
 |some (.rt d,ω')=>xo (.ok d,ω')
 |some (.nx _,ω')=>xo (.ok .non,ω')
 |some (.ex c,ω')=>xo (.ex c,ω')
 |_=>xp) else xp
theorem Ss {K:aa}{st:cx} (F:Fun K x qual st f fd) (S:kZ N ps (bG st))
  (hbody:∀(cdv:ag) (A:dm) (outer:List Env) (s:aq) (H:Hp) (E:XK),Room k (A.deeper (jo qual (bG st) s.heap.objs.size f cdv))->Exc (AV (CX1 P w exC) P w K mg base N qual (bG st) f cdv A outer s H E) exC (fun c H'=>E (.ref (exC c)) xp H')->PR (AV (CX1 P w exC) P w K mg base N qual (bG st) f cdv A outer s H E) exC (fun c H'=>E (.ref (exC c)) xp H')->
   OSs (AV (CX1 P w exC) P w K mg base N qual (bG st) f cdv A outer s H E) cls (fun c H'=>E (.ref (exC c)) xp H') (fW st) G):sO P w K mg base (CX1 P w exC) (k+1) f fd ps (spO cls exC K (eB ps.length N G)):=by
 obtain⟨oc,od,kV,doc,pm,an,cdv,ct,osl,rfl,lk,hcd⟩:=F.ex;have len:∀ vs H Q E,spO cls exC K (eB ps.length N G) vs H Q E->vs.length=ps.length:=fun vs H Q E ⟨ok,ω,ds,r,ω',h1,h2,h3,h4,h5⟩=>by
  rw[h3.length];exact(cR (show(if ds.length=ps.length then _ else xp)=_ from h4)).1
 refine QW lk hcd S len fun A outer s H vs Q E hr hsp=> ?_;obtain⟨ok,ω,ds,r,ω',h1,h2,h3,h4,h5⟩:=hsp;refine⟨_,hbody cdv A outer s H E hr exc_def.1 exc_def.2,?_⟩;obtain⟨_,h4⟩:=cR (show(if ds.length=ps.length then _ else xp)=_ from h4);obtain⟨e1,e2⟩:=CM (N:=N) h3;cases q:G (cB N ds) ω with
 |none=>rw[q] at h4;cases h4
 |some pr=>
  obtain⟨o,ω2⟩:=pr;rw[q] at h4;refine⟨ok,cB N ds,ω,o,ω2,⟨h1,h2,e1,e2⟩,q,?_⟩;cases o with
  |rt d=>cases h4;exact fun v ok' H' n rv=>h5 v ok' H' n rv
  |nx ρ=>cases h4;exact fun ok' H' σ' n _ _=>h5 .non ok' H' n .non
  |ex c=>cases h4;exact fun ok' H' n=>h5 ok' H' n
  |bk ρ=>cases h4
  |ct ρ=>cases h4
noncomputable abbrev CH:List ag:=[.type "ValueError",.type "Exception",.type "BaseException",.type "object"]
def ownIn (K:aa) (C:af) (tl:List ag):Prop:=∃(dd:Option af) (cd:ClassData) (k0 k1 k2 k3 k5:Option ag),K.lookup C=xo ⟨.type "type",dd,.cls cd,#[k0,k1,k2,k3,xo (.builtin "ValueError.__new__"),k5]⟩/\
 cd.mro=.ref C::tl/\cd.hasDel=false/\nh K CH tl=true/\lh K cd.ns=true/\cr K cd.ns "__init__"=xo xp
theorem EL {K:aa} (X:K.In h) (q:ownIn K C tl):∃(nm qn:Str) (N:af) (bs:List ag) (hdct:Bool) (sn:List Str) (sub:List ag) (ab:Bool) (col:Option Bool) (dd:Option af) (k0 k1 k2 k3 k5:Option ag) (mN:Str->Option ag),
  h.get? C=xo (excClassObj nm qn C N bs tl hdct sn sub ab col dd k0 k1 k2 k3 k5 "ValueError.__new__")/\h.Ns N mN/\mN "__init__"=xp/\OwnTail h CH tl:=by
 obtain⟨dd,cd,k0,k1,k2,k3,k5,hl,hm,hd,ht,hn,hi⟩:=q;obtain⟨a1,a2,a3,a4,a5,a6,a7,a8,a9,b1,b2⟩:=cd;dsimp only at hm hd hn hi;subst hm hd;exact⟨a1,a5,a4,a2,a6,a7,a8,a9,b1,dd,k0,k1,k2,k3,k5,_,X _ _ hl,.of_isNs (PySem.W.isNs_of_in X hn),PySem.W.nsMap_none_of_in X hn hi,PySem.W.tail_of_in X ht⟩
noncomputable def BJ (c:Nat) (f:DF):OS:=fun ρ ω=>(f ρ).map fun _=>(.ex c,ω)
section
variable {X:Cx}{cls exC:Nat->af}{E:XE}{e:bw}{f:DF}{pos np cpos:Pos}{x:Str}{c:Nat}{tl:List ag}
theorem BP (hc:X.calm=true) (hx:PR X exC E) (hg:Gl X x) (hm:X.mg x=xo (.ref (exC c))) (hq:ownIn X.K (exC c) tl) (he:DE X e f) (hdb:(x==("__debug__":Str))=false:=by decide)
  (hst:au [e] X.env=(false,eval e X.env)::au [] X.env:=by rfl) (hpl:(db cpos (au [e] X.env)).any (·.1)=false:=by rfl):
  OSt X cls E (.Raise (xo (.Call (.Name x np) [e] [] cpos)) xp pos) (BJ c f):=by
 rintro pins s σ H D I ⟨ok,ρ,ω,o,ω',P,e0,q⟩;obtain⟨d,e1,e2⟩:=aH e0;cases e2;obtain⟨nm,qn,N,bs,hdct,sn,sub,ab,col,dd,k0,k1,k2,k3,k5,mN,hC,hN,hni,T⟩:=EL I.mod.kin hq;refine wpAny_Raise_call_subT (C:=exC c) (N:=N) (bm:=tl) (hdct:=hdct) (sn:=sn) (sub:=sub) (ab:=ab) (col:=col) (dd:=dd) (k0:=k0) (k1:=k1) (k2:=k2) (k3:=k3) (k5:=k5) (nm:=nm) (q:=qn) (bs:=bs)
  PySem.F.excBase_ValueError (mN:=mN) (T.hasType rfl) (I.ok.hd hc) hpl hni (vH I hg hm ⟨rfl,?_⟩ hdb)
 have ha:=(Ml he Pq hst:DA X [e] (Mp f Rc)) cpos pins s σ H (fun vs H'=>vs.length<=sizeLine/\Same H H') I
  ⟨ok,ρ,[d],P.okh,P.env,by unfold Mp Rc;rw[e1];rfl,fun vs H' s' r=>⟨by rw[r.length];show 1<=sizeLine;decide,s'⟩⟩
 rw[hst] at ha ⊢;refine uk (thn ha fun us s2 ⟨vs,H2,I2,rv,hl,sm⟩=>⟨rfl,by show us.length<=_;rw[<- rv.length];exact hl,I2.bk _ _ hC,hN.keeps I2.bk,T.keeps I2.bk,fun h' ea hm'=> ?_⟩);have I3:Inv X pins σ H2 { s2 with heap:=h' }:=I2.kept (t':=s2.toks) hm'.keeps;obtain⟨t,z1,z2,z3⟩:=hm'.there;refine hx.raw c ea H2 pins σ _ I3 ⟨⟨t,z1⟩,I2.pers hx.ex hm'.new,?_⟩ (q ok H2 (.same P.okh P.st sm));cases w:H2 ea with
 |none=>rfl
 |some u=>
  obtain⟨u',w'⟩:=HOk.obj I2.hok w;rw[hm'.new] at w';cases w'
theorem _root_.L2.Inv.passed (I:Inv X pins σ H s) (hx:X.ex=[]) (ps:Pass (frs X.stack) ea T s.heap h') (n1:X.s₀.heap.get? ea=xp) (n2:X.s₀.heap.get? T=xp) (n3:H ea=xp) (n4:H T=xp)
  (hp:∀ p∈X.pn++pins,p.1≠ea/\p.1≠T) (hf:∀ b,(b=ea∨b=T)->∃ o vs,s.heap.get? b=xo o/\o.data=.fields vs):Inv X pins σ H { s with heap:=h' }:=by
 have nofr:∀ b u,H b=xo u->b∉frs X.stack:=fun b u e z=>by
  have:=I.stkFree b z
  rw[e] at this;cases this
 have any:∀ b o,s.heap.get? b=xo o->(∀ vs,o.data≠ .fields vs)->∃ sl,h'.get? b=xo { o with slots:=sl }:=fun b o e nf=>by
  by_cases hb:b∈frs X.stack
  ·exact ps.slot b o e hb
  ·refine⟨o.slots,ps.keep b o e hb (fun z=> ?_) fun z=> ?_⟩
   ·obtain⟨o',vs,w1,w2⟩:=hf b (.inl z);rw[e] at w1;cases w1;exact nf vs w2
   ·obtain⟨o',vs,w1,w2⟩:=hf b (.inr z);rw[e] at w1;cases w1;exact nf vs w2
 have kb:∀ b u v,H b=xo u->s.heap.get? b=xo v->h'.get? b=xo v:=fun b u v e z=>ps.keep b v z (nofr b u e) (fun q=>by rw[q,n3] at e;cases e) fun q=>by rw[q,n4] at e;cases e
 have old:∀ {b:af}{o:Obj},X.s₀.heap.get? b=xo o->b≠ea/\b≠T:=fun {b o} z=>⟨fun q=>(by rw[q,n1] at z;cases z),fun q=>(by rw[q,n2] at z;cases z)⟩;have locf:∀ b,b∈frs X.stack->b=X.env.locals∨b∈X.fs:=fun b hb=>aj.mp (I.stkSub b hb);obtain⟨m,⟨oL,es,ep,hoL,hdL,rL⟩,lk⟩:=id I.loc;obtain⟨slL,hL⟩:=any _ oL hoL fun vs z=>by rw[hdL] at z;cases z
 refine⟨I.ok,I.os,I.bare,⟨fun b o e n hb hxx=> ?_,fun b o e n hb hxx=> ?_,I.base.free,fun b o e hxx=> ?_,I.base.tups,I.base.frzs,I.base.tbls⟩,⟨m,⟨_,es,ep,hL,hdL,rL⟩,fun i x v e1 e2 e3=> ?_⟩,fun x c e=> ?_,I.free,I.freeC,fun p hpp=> ?_,fun b u e=> ?_,I.len⟩
 ·have z:=I.base.keep b o e n hb hxx;refine ps.keep b o z (fun hm=> ?_) (old e).1 (old e).2;rcases locf b hm with q|q
  ·exact absurd (bh e) (by rw[q];exact ul.mpr I.ok.above)
  ·exact hb q
 ·obtain⟨sl,z⟩:=I.base.slot b o e n hb hxx
  by_cases hm:b∈frs X.stack
  ·obtain⟨sl2,z2⟩:=ps.slot b _ z hm;exact⟨sl2,z2⟩
  ·exact⟨sl,ps.keep b _ z hm (old e).1 (old e).2⟩
 ·obtain⟨o',z⟩:=I.base.there b o e hxx
  by_cases hm:b∈frs X.stack
  ·obtain⟨sl2,z2⟩:=ps.slot b _ z hm;exact⟨_,z2⟩
  ·exact⟨_,ps.keep b o' z hm (old e).1 (old e).2⟩
 ·obtain⟨u,ru,z⟩:=lk i x v e1 e2 e3;refine⟨u,ru,?_⟩;rcases z with z|⟨k,c,e,oc,w1,w2⟩
  ·exact .inl z
  ·obtain⟨sl,w3⟩:=any c oc w1 fun vs q=>by rw[w2] at q;cases q
   exact .inr ⟨k,c,e,_,w3,w2⟩
 ·obtain⟨v,oc,w1,w2⟩:=I.cell x c e;obtain⟨sl,w3⟩:=any c oc w1 fun vs q=>by rw[w2] at q;cases q
  exact⟨v,_,w3,w2⟩
 ·obtain⟨e,n,ne,nf,d⟩:=I.pin p hpp;refine⟨ps.keep p.1 p.2 e (fun hm=> ?_) (hp p hpp).1 (hp p hpp).2,n,ne,nf,d⟩;rcases locf p.1 hm with q|q
  ·exact ne q
  ·exact nf q
 ·refine(I.hok b u e).stay (fun c v hc q=> ?_) (fun _ q=>q) fun _ _ q=>q;rcases hc with rfl|hc
  ·exact kb c u v e q
  ·exact kb c _ v hc q
end
theorem sA {K:aa} (X:K.In s.heap) (q:ownIn K C tl) (q':ownIn K C' tl') (he:s.heap.get? ea=xo oe) (hc:oe.cls=.ref C)
  (h:Q ((ck C::tl).contains (.ref C')) s):bc M A (excMatches (.ref ea) (.ref C')) Q E s:=by
 obtain⟨nm,qn,N,bs,hdct,sn,sub,ab,col,dd,k0,k1,k2,k3,k5,mN,hC,hN,hni,T⟩:=EL X q;obtain⟨nm',qn',N',bs',hdct',sn',sub',ab',col',dd',k0',k1',k2',k3',k5',mN',hC',hN',hni',T'⟩:=EL X q';have hB:(ck C'::tl').contains (.type "BaseException")=true:=by rw[List.contains_cons,T'.hasType (X:="BaseException") (b:=true) rfl,Bool.or_true]
 have f:=tc_notTuple;obtain⟨hp,g,d,tk,os⟩:=s;unfold excMatches
 generalize hb:(ck C::tl).contains (.ref C')=b at h
 repeat (first|(with_reducible refine qk he ?_;rw[hc])|with_reducible refine qk hC' ?_|(with_reducible refine uy hC' ?_;rw[hB])|(with_reducible refine uy hC ?_;rw[hb])|wp_step)
 cases b <;> (wp_walk;exact h)
section
variable {M:Model}{A:dm}{E:ag->aq->Prop}{s:aq}{env:Env}{outer:List Env}{base h0:c5}{H:Hp}{exC:Nat->af}{c:Nat}{ea T L:af}{Q:Unit->aq->Prop}{P:da}{w:dh}
theorem HQ (hfr:A.frames=xo (env::outer)) (hf:env.frame=xo L) (funs:s.heap.FunFrames base (env::outer)) (hok:HOk P w H s.heap) (h0p:∀ b,s.heap.get? b=xp->h0.get? b=xp) (fl:FlyT exC c ea T h0 H s.heap)
  (hQ:∀ h' T',Pass (frs (env::outer)) ea T s.heap h'->FlyT exC c ea T' h0 H h'->(T'=T∨s.heap.get? T'=xp)->Q () { s with heap:=h' }):
  bc M A (vg (.ref ea) env) (fun _ s₂=>bc M A (vh (.ref ea) xp) Q E s₂) E s:=by
 obtain⟨oe,oT,vs,ts,a0,e1,e2,e3,e4,e5,e6,e7,e8,e9⟩:=fl.tr;have nF:∀ b∈frs (env::outer),(fz s.heap (ea::T::frs (env::outer))).get? b=xp:=fun b hb=>f6 _ (ai _ (ai _ hb));have hb0:∀ b,(fz s.heap (ea::T::frs (env::outer))).get? b=xp->b=ea∨b=T∨b∈frs (env::outer)∨s.heap.get? b=xp:=fun b z=>by
  rcases Ay z with z|z
  ·rcases aj.mp z with z|z
   ·exact .inl z
   ·rcases aj.mp z with z|z
    ·exact .inr (.inl z)
    ·exact .inr (.inr (.inl z))
  ·exact .inr (.inr (.inr z))
 refine wpAny_noteFrame_onW (base:=fz s.heap (ea::T::frs (env::outer))) (cls:=.ref (exC c)) (a0:=a0) hfr (vQ funs nF) hf ?_ (fun b o z=>mh _ z) (f6 _ ar) fun h' hN=> ?_
 ·exact⟨oe,vs,T,oT,ts,e1,⟨e2,e4⟩,e3,e5,f6 _ (ai _ ar),e6,e7,e8,e9⟩
 ·obtain⟨k1,k2,k3,k4⟩:=hN;refine wpAny_setFlight_noneW (base:=fz s.heap (ea::T::frs (env::outer))) (l:=env::outer) k1 k2 k3 fun h'' m1 m2 m3 m4=> ?_;obtain⟨T',f1,f2⟩:=AH (T:=T) (s:=s) hok h0p hb0 m2 m3 rfl fl.h0e fl.He fl.h0T fl.HT;refine hQ h'' T' ⟨fun b o z n1 n2 n3=>m1 b o (ki _ z ?_),fun b o z hb=> ?_⟩ f1 f2
  ·intro hm;rcases aj.mp hm with hm|hm
   ·exact n2 hm
   ·rcases aj.mp hm with hm|hm
    ·exact n3 hm
    ·exact n1 hm
  ·obtain⟨_,o',q1,q2⟩:=funs.mem hb;rw[z] at q1;cases q1;obtain⟨sl,w1⟩:=k4 b o z q2;exact⟨sl,m4 b _ w1 q2⟩
theorem AI (funs:s.heap.FunFrames base outer) (fl:FlyT exC c ea T h0 H s.heap) (hQ:∀ h',Pass (frs outer) ea T s.heap h'->FlyT exC c ea T h0 H h'->Q () { s with heap:=h' }):bc M A (vh (.ref ea) xp) Q E s:=by
 obtain⟨oe,oT,vs,ts,a0,e1,e2,e3,e4,e5,e6,e7,e8,e9⟩:=fl.tr;have hz:3<ts.size:=(lu.mp e9).1;have oth:∀ b,b≠T->(s.heap.update T (lw (·.setIfInBounds 3 .none))).get? b=s.heap.get? b:=fun b hb=>dw _ _ (bz hb);refine wpAny_setFlight_none e1 e3 e5 e7 e8 hz (hQ _ ⟨fun b o z _ _ n3=>(oth b n3).trans z,fun b o z hb=>⟨o.slots,(oth b fun q=> ?_).trans z⟩⟩ ⟨⟨oe,_,vs,_,a0,(oth ea (bz e6)).trans e1,e2,e3,e4,e5,e6,fx _ e7 (o8 (jq e8 _)),jq e8 _,by simp[hz]⟩,fl.h0e,fl.h0T,fl.He,fl.HT⟩);obtain⟨_,o',q1,q2⟩:=funs.mem hb;rw[q,e7] at q1;cases q1;exact q2 ts e8
end
noncomputable abbrev Xm (X:Cx) (ea:af):Cx:={ X with A:=X.A.mark (xo (.ref ea)),calm:=false,xe:=fun _ _=>False }
noncomputable abbrev Xp (X:Cx) (pn:List (af×Obj)) (xe:ag->aq->Prop):Cx:={ X with pn:=pn,xe:=xe }
section
variable {X:Cx}{pins pins':List (af×Obj)}{σ:St}{H:Hp}{s:aq}{xe:ag->aq->Prop}
theorem _root_.L2.Inv.marked (I:Inv X pins σ H s) (ea:af):Inv (Xm X ea) pins σ H s:=
 ⟨⟨I.ok.mod,I.ok.kind,I.ok.glob,I.ok.blt,I.ok.above,I.ok.inj,I.ok.has,I.ok.cab,(fun z=>nomatch z),I.ok.frames,I.ok.stk,I.ok.exf,I.ok.bs,I.ok.bsz,I.ok.noex,I.ok.exfs,I.ok.funs,I.ok.frf⟩,I.os,I.bare,I.base,I.loc,I.cell,I.free,I.freeC,I.pin,I.hok,I.len⟩
theorem _root_.L2.Inv.unmarked (k:X.calm=true->X.A.handled=xp) (I:Inv (Xm X ea) pins σ H s):Inv X pins σ H s:=
 ⟨⟨I.ok.mod,I.ok.kind,I.ok.glob,I.ok.blt,I.ok.above,I.ok.inj,I.ok.has,I.ok.cab,k,I.ok.frames,I.ok.stk,I.ok.exf,I.ok.bs,I.ok.bsz,I.ok.noex,I.ok.exfs,I.ok.funs,I.ok.frf⟩,I.os,I.bare,I.base,I.loc,I.cell,I.free,I.freeC,I.pin,I.hok,I.len⟩
theorem _root_.L2.Inv.pned (I:Inv X pins σ H s):Inv (Xp X (X.pn++pins) xe) [] σ H s:=
 ⟨⟨I.ok.mod,I.ok.kind,I.ok.glob,I.ok.blt,I.ok.above,I.ok.inj,I.ok.has,I.ok.cab,I.ok.hd,I.ok.frames,I.ok.stk,I.ok.exf,I.ok.bs,I.ok.bsz,I.ok.noex,I.ok.exfs,I.ok.funs,I.ok.frf⟩,I.os,I.bare,I.base,I.loc,I.cell,I.free,I.freeC,fun p hp=>I.pin p (by simpa using hp),I.hok,I.len⟩
theorem _root_.L2.Inv.unpned (I:Inv (Xp X (X.pn++pins) xe) pins' σ H s):Inv X pins σ H s:=
 ⟨⟨I.ok.mod,I.ok.kind,I.ok.glob,I.ok.blt,I.ok.above,I.ok.inj,I.ok.has,I.ok.cab,I.ok.hd,I.ok.frames,I.ok.stk,I.ok.exf,I.ok.bs,I.ok.bsz,I.ok.noex,I.ok.exfs,I.ok.funs,I.ok.frf⟩,I.os,I.bare,I.base,I.loc,I.cell,I.free,I.freeC,fun p hp=>I.pin p (dr _ hp),I.hok,I.len⟩
theorem SP.unpned {D:CG} (h:SP (Xp X (X.pn++pins) xe) [] D f s):SP X pins D f s:=by
 cases f with
 |next=>obtain⟨σ',H',I,q⟩:=h;exact⟨σ',H',I.unpned,q⟩
 |brk=>obtain⟨σ',H',I,q⟩:=h;exact⟨σ',H',I.unpned,q⟩
 |cont=>obtain⟨σ',H',I,q⟩:=h;exact⟨σ',H',I.unpned,q⟩
 |ret u=>obtain⟨v,σ',H',I,r,q⟩:=h;exact⟨v,σ',H',I.unpned,r,q⟩
theorem SP.unmarked {D:CG} (k:X.calm=true->X.A.handled=xp) (h:SP (Xm X ea) pins D f s):SP X pins D f s:=by
 cases f with
 |next=>obtain⟨σ',H',I,q⟩:=h;exact⟨σ',H',I.unmarked k,q⟩
 |brk=>obtain⟨σ',H',I,q⟩:=h;exact⟨σ',H',I.unmarked k,q⟩
 |cont=>obtain⟨σ',H',I,q⟩:=h;exact⟨σ',H',I.unmarked k,q⟩
 |ret u=>obtain⟨v,σ',H',I,r,q⟩:=h;exact⟨v,σ',H',I.unmarked k,r,q⟩
variable {exC:Nat->af}{c c':Nat}{ea T:af}{x:Str}{np pos:Pos}{b₀:cx}{suite:List cx}{rest:List ExceptHandler}{tl tl':List ag}{Q:Flow->aq->Prop}{E:ag->aq->Prop}
theorem FlyT.fields (fl:FlyT exC c ea T X.s₀.heap H s.heap):∀ b,(b=ea∨b=T)->∃ o vs,s.heap.get? b=xo o/\o.data=.fields vs:=fun b hb=>by
 obtain⟨oe,oT,vs,ts,a0,e1,e2,e3,e4,e5,e6,e7,e8,e9⟩:=fl.tr;rcases hb with rfl|rfl
 ·exact⟨_,_,e1,e3⟩
 ·exact⟨_,_,e7,e8⟩
theorem kS (I:Inv X pins σ H s) (hex:X.ex=[]) (fl:FlyT exC c ea T X.s₀.heap H s.heap) (hp:∀ p∈X.pn++pins,p.1≠ea/\p.1≠T) (hg:Gl X x) (hm:X.mg x=xo (.ref (exC c'))) (ho:ownIn X.K (exC c) tl) (ho':ownIn X.K (exC c') tl')
  (hit:(ck (exC c)::tl).contains (.ref (exC c'))=true->∀ s',Inv (Xm X ea) pins σ H s'->bc (model X.prog X.w) (Xm X ea).A (execs (b₀::suite) X.env) Q (fun _ _=>False) s')
  (miss:(ck (exC c)::tl).contains (.ref (exC c'))=false->bc (model X.prog X.w) X.A (handleBy (.ref ea) X.env rest) Q E s) (hdb:(x==("__debug__":Str))=false:=by decide):
  bc (model X.prog X.w) X.A (handleBy (.ref ea) X.env (.ExceptHandler (xo (.Name x np)) xp (b₀::suite) pos::rest)) Q E s:=by
 obtain⟨oe,oT,vs,ts,a0,e1,e2,_⟩:=fl.tr;refine wpAny_handleBy_cons (codeAny_handlers_test (vH (I.marked ea) hg hm ?_ hdb)) (fun z=>nomatch z);refine sA (K:=X.K) (C:=exC c) (C':=exC c') I.kIn ho ho' e1 e2 ?_;cases hb:(ck (exC c)::tl).contains (.ref (exC c')) with
 |false=>exact miss hb
 |true=>
  refine codeAny_handlers_suite (AI I.stack fl fun h' ps fl'=> ?_);have I':Inv X pins σ H { s with heap:=h' }:=I.passed hex ps fl.h0e fl.h0T fl.He fl.HT hp fl.fields;exact g8 (hit hb _ (I'.marked ea)) (fun _ _ q=>q) fun _ _ z=>z.elim
end
noncomputable def xN (F:OS) (c1:Nat) (G1:OS) (c2:Nat) (G2:OS):OS:=fun ρ ω=>match F ρ ω with
 |some (.ex c,ω1)=>if c=c1 then sNx G1 (av ρ.length xp) ω1 else if c=c2 then sNx G2 (av ρ.length xp) ω1 else xp
 |r=>r
section
variable {X:Cx}{cls exC:Nat->af}{E:XE}{body:List cx}{F G1 G2:OS}{c1 c2:Nat}{x1 x2:Str}{np1 np2 p1 p2 pos:Pos}{b1 b2:cx}{r1 r2:List cx}{tl1 tl2:List ag}
theorem GQ (I:Inv X pins σ H s):Inv X pins (av σ.length xp) H s:=I.weak (by simp) fun i v e=>by
 rw[fe] at e;split at e <;> cases e
theorem KE (hex:X.ex=[]) (hc:X.calm=true) (hs:X.stack=X.env::X.outer) (hf:∃ L,X.env.frame=xo L) (hg1:Gl X x1) (hg2:Gl X x2) (hm1:X.mg x1=xo (.ref (exC c1))) (hm2:X.mg x2=xo (.ref (exC c2))) (ho1:ownIn X.K (exC c1) tl1) (ho2:ownIn X.K (exC c2) tl2)
  (hne:(ck (exC c2)::tl2).contains (.ref (exC c1))=false)
  (hb:∀ pn xe E',Exc (Xp X pn xe) exC E'->OSs (Xp X pn xe) cls E' body F) (h1:∀ ea,OSs (Xm X ea) cls EF (b1::r1) G1) (h2:∀ ea,OSs (Xm X ea) cls EF (b2::r2) G2)
  (hd1:(x1==("__debug__":Str))=false:=by decide) (hd2:(x2==("__debug__":Str))=false:=by decide):
  OSt X cls E (.Try body [.ExceptHandler (xo (.Name x1 np1)) xp (b1::r1) p1,.ExceptHandler (xo (.Name x2 np2)) xp (b2::r2) p2] [] [] pos) (xN F c1 G1 c2 G2):=by
 rintro pins s σ H D I ⟨ok,ρ,ω,o,ω',P,e,q⟩;obtain⟨L,hL⟩:=hf
 -- what the body wants
 cases eF:F ρ ω with
 |none=>unfold xN at e;rw[eF] at e;cases e
 |some pr=>
  obtain⟨o1,ω1⟩:=pr;unfold xN at e;rw[eF] at e;refine wpAny_Try_except ?_
  -- the wish within
  have main:∀(E':XE),(∀ c H',E' c H'->∃ ok',Nw cls X.K ok H ok' H' ω1/\∃ z,o1=.ex z/\c=z)->outO cls X.K ok H ω1 E' D o1->
    bc (model X.prog X.w) X.A (execs body X.env) (fun f s₁=>match f with|.next=>bc (model X.prog X.w) X.A (execs [] X.env) (SP X pins D) X.xe s₁|f=>SP X pins D f s₁)
     (fun e s₁=>bc (model X.prog X.w) X.A (vg e X.env) (fun _ s₂=>bc (model X.prog X.w) X.A (vh e xp) (fun _ s₃=>bc (model X.prog X.w) X.A (handleBy e X.env [.ExceptHandler (xo (.Name x1 np1)) xp (b1::r1) p1,.ExceptHandler (xo (.Name x2 np2)) xp (b2::r2) p2]) (SP X pins D) X.xe s₃) X.xe s₂) X.xe s₁) s:=by
   intro E' hE' hout;have ex:Exc (Xp X (X.pn++pins) fun e s₁=>bc (model X.prog X.w) X.A (vg e X.env) (fun _ s₂=>bc (model X.prog X.w) X.A (vh e xp) (fun _ s₃=>bc (model X.prog X.w) X.A (handleBy e X.env [.ExceptHandler (xo (.Name x1 np1)) xp (b1::r1) p1,.ExceptHandler (xo (.Name x2 np2)) xp (b2::r2) p2]) (SP X pins D) X.xe s₃) X.xe s₂) X.xe s₁) exC E':=by
    refine⟨fun c ea T H' pins' σ' s' I' fl hpn hE=> ?_,hex⟩;have I1:Inv X pins σ' H' s':=I'.unpned;obtain⟨ok',nw,z,ez,rfl⟩:=hE' c H' hE;subst ez;refine HQ (L:=L) (outer:=X.outer) (P:=X.prog) (w:=X.w) (by rw[I1.ok.frames,hs]) hL (by rw[<- hs];exact I1.stack) I1.hok (fun b w=>I1.pers hex w) fl fun h' T' ps fl' hT=> ?_;have hpT:∀ p∈X.pn++pins,p.1≠ea/\p.1≠T':=fun p hp=>⟨(hpn p hp).1,fun w=>by
     rcases hT with rfl|hT
     ·exact(hpn p hp).2 w
     ·have:=(I1.pin p hp).1
      rw[w,hT] at this;cases this⟩
    have I2:Inv X pins σ' H' { s' with heap:=h' }:=I1.passed hex (by rw[hs];exact ps) fl.h0e fl.h0T fl.He fl.HT hpn fl.fields;have I3:=GQ I2;have run:∀ {G:OS}{b:cx}{r:List cx}{s4:aq},OSs (Xm X ea) cls EF (b::r) G->sNx G (av ρ.length xp) ω1=xo (o,ω')->Inv (Xm X ea) pins (av σ'.length xp) H' s4->bc (model X.prog X.w) (Xm X ea).A (execs (b::r) X.env) (SP X pins D) (fun _ _=>False) s4:=fun {G b r s4} hG eG I4=>by
     obtain⟨eG,hn⟩:=Es eG;have hlen:σ'.length=ρ.length:=by rw[I1.len,<- I.len,P.len]
     refine g8 (hG pins s4 _ H' D I4 ⟨ok',_,ω1,o,ω',⟨nw.okh,nw.st,fun i d w=> ?_,by simp[hlen]⟩,eG,?_⟩) (fun _ _ z=>SP.unmarked I.ok.hd z) fun _ _ z=>z
     ·rw[fe] at w;split at w <;> cases w
     ·have q':=q.nw nw;cases o with
      |ex c=>exact absurd rfl (hn c)
      |_=>exact q'
    have e0:(if c=c1 then sNx G1 (av ρ.length xp) ω1 else if c=c2 then sNx G2 (av ρ.length xp) ω1 else xp)=xo (o,ω'):=e
    by_cases hz1:c=c1
    ·subst hz1;have e':sNx G1 (av ρ.length xp) ω1=xo (o,ω'):=by
      rw[if_pos rfl] at e0;exact e0
     refine kS I3 hex fl' hpT hg1 hm1 ho1 ho1 (fun _ s4 I4=>run (h1 ea) e' I4) (fun w=> ?_) hd1;exact absurd w (by simp)
    ·have e2:(if c=c2 then sNx G2 (av ρ.length xp) ω1 else xp)=xo (o,ω'):=by
      rw[if_neg hz1] at e0;exact e0
     obtain⟨hz2,e3⟩:=cR e2;subst hz2;refine kS I3 hex fl' hpT hg1 hm1 ho2 ho1 (fun w=> ?_) (fun _=> ?_) hd1
     ·rw[hne] at w;cases w
     ·refine kS I3 hex fl' hpT hg2 hm2 ho2 ho2 (fun _ s4 I4=>run (h2 ea) e3 I4) (fun w=> ?_) hd2;exact absurd w (by simp)
   refine g8 (hb _ _ E' ex [] s σ H D I.pned ⟨ok,ρ,ω,o1,ω1,P,eF,hout⟩) (fun f s₁ z=> ?_) fun _ _ z=>z;have z':=SP.unpned z;cases f with
   |next=>
    obtain⟨σ',H',I',q'⟩:=z';exact pb ⟨σ',H',I',q'⟩
   |_=>exact z'
  cases o1 with
  |ex c=>exact main (fun c' H'=>(∃ ok',Nw cls X.K ok H ok' H' ω1)/\c'=c) (fun c' H' ⟨⟨ok',n⟩,ez⟩=>⟨ok',n,c,rfl,ez⟩) fun ok' H' n=>⟨⟨ok',n⟩,rfl⟩
  |nx ρ1=>cases e;exact main (fun _ _=>False) (fun _ _ z=>z.elim) q
  |rt d=>cases e;exact main (fun _ _=>False) (fun _ _ z=>z.elim) q
  |bk ρ1=>cases e;exact main (fun _ _=>False) (fun _ _ z=>z.elim) q
  |ct ρ1=>cases e;exact main (fun _ _=>False) (fun _ _ z=>z.elim) q
end
def RawD (h:c5) (d:af) (es:Array lm) (ep:Nat):Prop:=∃ o,h.get? d=xo o/\o.ExactDict/\o.data=.dict es ep
theorem RawD.at (x:RawD h d es ep) (k:∀ o,h.get? d=xo o->h'.get? d=xo o):RawD h' d es ep:=let ⟨o,e,r⟩:=x;⟨o,k o e,r⟩
theorem RawD.typeIs {s:aq} (x:RawD s.heap d es ep):s.TypeIs (.ref d) "dict":=let ⟨o,e,c,_⟩:=x;⟨o,e,c.1⟩
theorem RawD.lt (x:RawD h d es ep):d<h.objs.size:=let ⟨_,e,_⟩:=x;bh e
section
variable {prog:da}{w:dh}{A:dm}{E:ag->aq->Prop}{s:aq}{d v it:af}{es:Array lm}{ep i:Nat}
theorem CQ (lo:(d==fk)=false) (r:RawD s.heap d es ep) (q:Q (.ref s.heap.objs.size) { s with heap:=s.heap.push { cls:=.type "dict_values",data:=.fields #[.ref d] } }):
  bc (model prog w) A (call (.builtin "dict.values") [.ref d]) Q E s:=by
 refine vj (prog:=prog) (w:=w) rc r.typeIs PySem.F.entry_dict_values (PySem.F.args_dict_values_1 _) (S:=fun _ R t=>RawD t.heap d es ep/\R (.ok (.ret (.ref t.heap.objs.size))) { t with heap:=t.heap.push { cls:=.type "dict_values",data:=.fields #[.ref d] } }) (.of_wp fun B R t z=> ?_) ⟨r,q⟩;obtain⟨r1,q1⟩:=z;refine ae ?_;unfold Builtin.Dict.noArgs;refine ae (ud r1.typeIs ?_);show bc _ _ (pure d) _ _ t;refine ao ?_;show bc _ _ (lj d >>= _) _ _ t;unfold lj;rw[if_neg (show ¬((d==fk)=true) by rw[lo];exact cg)];exact ae (ao (ae (ff (ao ⟨_,rfl,q1⟩))))
theorem EA (vw:s.heap.IsValuesView v d) (r:RawD s.heap d es ep)
  (q:Q (.ref s.heap.objs.size) { s with heap:=s.heap.push { cls:=.type "dict_valueiterator",data:=.fields #[.ref d,.int 0 0,.int es.size 0,.int ep 0] } }):bc (model prog w) A (pyIter (.ref v)) Q E s:=by
 obtain⟨ov,v1,v2,v3⟩:=id vw;obtain⟨o,r1,r2,r3⟩:=id r;refine wpAny_pyIter_slot vw.typeIs ph (ig ph vw.typeIs PySem.F.entry_dict_values_iter ?_ (PySem.F.args_dict_values_iter_1 _));unfold Builtin.«dict_values.__iter__»;refine ae (ao (ae ?_));unfold xk;refine ae (tm v1 v3 (x:=.ref d) rfl (ao (ae ?_)));unfold ww;refine ae (jx r1 r3 (ae (k6 r1 r3 ?_)));have own:ip "dict_valueiterator"=false:=by decide
 simp only[own,df,ite_false];refine ff (ao ⟨_,rfl,"dict_valueiterator",_,⟨_,bv _ rfl,rfl⟩,ga.lookup,?_⟩);simpa [mj] using q
theorem Ez (vi:s.heap.IsValIter it d i es.size ep) (r:RawD s.heap d es ep) (hx:es[i]?=xo e)
  (q:∀ h',h'.IsValIter it d (i+1) es.size ep->f7 it s.heap h'->Q (xo e.val) { s with heap:=h' }):bc (model prog w) A (nv (.ref it)) Q E s:=by
 obtain⟨o,i1,i2,i3⟩:=id vi;obtain⟨od,r1,r2,r3⟩:=id r;have lt:i<es.size:=(lu.mp hx).1;have own:ip "dict_valueiterator"=false:=by decide
 unfold nv;refine ae (qf (jh (name:=ji "__next__") vi.typeIs ga (ig ga vi.typeIs mf ?_ (l7 _))));refine ae (ao (ae (ae ?_)))
 first|refine ae (je vi.typeIs (ao ?_))|refine ae (ka vi.typeIs (ao ?_))
 refine ae (px i1 i3 ?_);simp only[own,df,ite_false];show bc _ _ (if(ck d==ik)=true then _ else _) _ _ s;rw[if_neg (show ¬((ck d==ik)=true) from fun z=>nomatch z)];refine ae (ao (ae (jx r1 r3 ?_)));rw[if_neg (by simp:¬ _)];refine ae (ao (ae (k6 r1 r3 ?_)));rw[if_neg (by simp:¬ _)];refine ao ?_;simp only[show ¬((i:Int)<0) by omega,ite_false,cy,hx];refine ae ?_
 first|refine ae (je vi.typeIs (ao ?_))|refine ae (ka vi.typeIs (ao ?_))
 refine ae (o9 vi.typeIs ?_);show bc _ _ (setField (.ref it) 1 (mj ((i:Int)+1)) >>= _) _ _ s;refine ae (pz i1 i3 (by simp) ?_);have vi2:(s.heap.update it (lw (·.setIfInBounds 1 (mj ((i:Int)+1))))).IsValIter it d (i+1) es.size ep:=⟨_,fx _ i1 (o8 (jq i3 _)),(vx ..).trans i2,by rw[jq i3];simp[mj]⟩;refine ae (ii (ae (o9 (s:={ s with heap:=s.heap.update it (lw (·.setIfInBounds 1 (mj ((i:Int)+1)))) }) vi2.typeIs ?_)));refine ae (o9 (s:={ s with heap:=s.heap.update it (lw (·.setIfInBounds 1 (mj ((i:Int)+1)))) }) vi2.typeIs ?_);exact ao (ao ⟨_,rfl,ao (q _ vi2 (l8 ..))⟩)
theorem Hj (hh:A.handled=xp) (vi:s.heap.IsValIter it d i es.size ep) (r:RawD s.heap d es ep) (hx:es.size<=i) (q:∀ h',Heap.ExtBut it s.heap h'->Q xp { s with heap:=h' }):bc (model prog w) A (nv (.ref it)) Q E s:=by
 obtain⟨o,i1,i2,i3⟩:=id vi;obtain⟨od,r1,r2,r3⟩:=id r;have own:ip "dict_valueiterator"=false:=by decide
 unfold nv;refine ae (qf (jh (name:=ji "__next__") vi.typeIs ga (ig ga vi.typeIs mf ?_ (l7 _))));refine ae (ao (ae (ae ?_)))
 first|refine ae (je vi.typeIs (ao ?_))|refine ae (ka vi.typeIs (ao ?_))
 refine ae (px i1 i3 ?_);simp only[own,df,ite_false];show bc _ _ (if(ck d==ik)=true then _ else _) _ _ s;rw[if_neg (show ¬((ck d==ik)=true) from fun z=>nomatch z)];refine ae (ao (ae (jx r1 r3 ?_)));rw[if_neg (by simp:¬ _)];refine ae (ao (ae (k6 r1 r3 ?_)));rw[if_neg (by simp:¬ _)];refine ao ?_;simp only[show ¬((i:Int)<0) by omega,ite_false,cy,n9 hx];refine ae ?_
 first|refine ae (je vi.typeIs (ao ?_))|refine ae (ka vi.typeIs (ao ?_))
 show bc _ _ (setField (.ref it) 0 .none >>= _) _ _ s;refine ae (pz i1 i3 (by simp) ?_);show bc _ _ (newExc (.type "StopIteration") [] >>= _) _ _ _;refine ae ?_;simp only[newExc,newTuple];refine ae (ff (ae (m:=p0 _ _) (wpAny_of_eq (a:=ik) (by first|rfl|(simp only[p0];rfl)) ?_)) (by size_fits));refine ff ?_ (by size_fits);simp only[raiseNew];refine ae (wpAny_handled ?_);rw[show A.in1.handled=xp from hh];refine ae (ao (wpAny_throw ?_));refine ae (rg (T:="StopIteration") (b:=true) ⟨_,(bv _ rfl),rfl⟩ isSubtype_stop ?_);exact ao (q _ (((l8 ..).extBut.push _).push _))
theorem MI (hh:A.handled=xp) (I:af) (hne:d≠I):Walks prog w A I [I,d] [I] es.size (fun i v=>∃ e,es[i]?=xo e/\v=e.val) (fun i h=>h.IsValIter I d i es.size ep/\RawD h d es ep) where
 sub:=fun b hb=>by simp at hb;simp[hb]
 frame:=fun _ _ _ st hk=>⟨let ⟨o,e,z⟩:=st.1;⟨o,hk I (by simp) o e,z⟩,st.2.at fun o e=>hk d (by simp) o e⟩
 item:=fun i s Q E hi st hQ=>Ez (e:=es[i]) st.1 st.2 (by simp[hi]) fun h' st' sb=>hQ _ h' s.toks ⟨es[i],by simp[hi],rfl⟩ ⟨st',st.2.at fun o e=>(sb.2 d hne).trans e⟩ fun b o hb e=>(sb.2 b fun z=>hb (by simp[z])).trans e
 done:=fun s Q E st hQ=>Hj hh st.1 st.2 (bf _) fun h' eb=>hQ h' s.toks fun b o hb e=>eb b o (fun z=>hb (by simp[z])) e
 self:=fun _ _ _ _ st hQ=>wpAny_pyIter_valiter st.1 hQ
theorem sS:p7 prog w "dict_values" v d es.size (fun i x=>∃ e,es[i]?=xo e/\x=e.val) (fun h=>h.IsValuesView v d/\RawD h d es ep) where
 type:=fun _ z=>z.1.typeIs
 there:=fun _ z=>⟨let ⟨_,e,_⟩:=z.1;bh e,z.2.lt⟩
 keep:=fun _ _ z hk=>⟨let ⟨o,e,x⟩:=z.1;⟨o,hk v (.inl rfl) o e,x⟩,z.2.at fun o e=>hk d (.inr rfl) o e⟩
 notList:=by decide
 notTuple:=by decide
 hint:=fun _ _ _ _ z hq=>PySem.W.kdl_hint_values z.1.typeIs hq
 iter:=fun _ _ hh z=>⟨_,_,(fun _ _ hq=>EA z.1 z.2 hq),MI hh _ (ci z.2.lt),⟨⟨_,bv _ rfl,rfl,rfl⟩,z.2.at fun o e=>aw _ e⟩⟩
theorem xR (lo:(d==fk)=false) (r:RawD s.heap d es ep)
  (q:Q (.ref s.heap.objs.size) { s with heap:=s.heap.push { cls:=.type "dict_keyiterator",data:=.fields #[.ref d,.int 0 0,.int es.size 0,.int ep 0] } }):bc (model prog w) A (pyIter (.ref d)) Q E s:=by
 obtain⟨o,r1,r2,r3⟩:=id r;refine wpAny_pyIter_slot r.typeIs oj (ig oj r.typeIs PySem.F.entry_dict_iter ?_ (PySem.F.args_dict_iter_1 _));unfold Builtin.«dict.__iter__»;refine ae ?_;unfold Builtin.Dict.dictSlotNone;refine ae (ud r.typeIs ?_);show bc _ _ (pure (ck d)) _ _ s;refine ao ?_;show bc _ _ (lj d >>= _) _ _ s;unfold lj;rw[if_neg (show ¬((d==fk)=true) by rw[lo];exact cg)];refine ae (ao (ae (jx r1 r3 (ae (k6 r1 r3 ?_)))));refine ae (ff (ao ⟨_,rfl,"dict_keyiterator",_,⟨_,bv _ rfl,rfl⟩,gs.lookup,?_⟩));simpa [mj] using q
theorem xQ (vi:s.heap.IsKeyIter it d i es.size ep) (r:RawD s.heap d es ep) (hx:es[i]?=xo e)
  (q:∀ h',h'.IsKeyIter it d (i+1) es.size ep->f7 it s.heap h'->Q (xo e.key) { s with heap:=h' }):bc (model prog w) A (nv (.ref it)) Q E s:=by
 obtain⟨o,i1,i2,i3⟩:=id vi;obtain⟨od,r1,r2,r3⟩:=id r;have lt:i<es.size:=(lu.mp hx).1;have own:ip "dict_keyiterator"=false:=by decide
 unfold nv;refine ae (qf (jh (name:=ji "__next__") vi.typeIs gs (ig gs vi.typeIs ni ?_ (mz _))));refine ae (ao (ae (ae ?_)))
 first|refine ae (jf vi.typeIs (ao ?_))|refine ae (kc vi.typeIs (ao ?_))
 refine ae (px i1 i3 ?_);simp only[own,df,ite_false];show bc _ _ (if(ck d==ik)=true then _ else _) _ _ s;rw[if_neg (show ¬((ck d==ik)=true) from fun z=>nomatch z)];refine ae (ao (ae (jx r1 r3 ?_)));rw[if_neg (by simp:¬ _)];refine ae (ao (ae (k6 r1 r3 ?_)));rw[if_neg (by simp:¬ _)];refine ao ?_;simp only[show ¬((i:Int)<0) by omega,ite_false,cy,hx];refine ae ?_
 first|refine ae (jf vi.typeIs (ao ?_))|refine ae (kc vi.typeIs (ao ?_))
 refine ae (uf vi.typeIs ?_);show bc _ _ (setField (.ref it) 1 (mj ((i:Int)+1)) >>= _) _ _ s;refine ae (pz i1 i3 (by simp) ?_);have vi2:(s.heap.update it (lw (·.setIfInBounds 1 (mj ((i:Int)+1))))).IsKeyIter it d (i+1) es.size ep:=⟨_,fx _ i1 (o8 (jq i3 _)),(vx ..).trans i2,by rw[jq i3];simp[mj]⟩;refine ae (ii (ae (uf (s:={ s with heap:=s.heap.update it (lw (·.setIfInBounds 1 (mj ((i:Int)+1)))) }) vi2.typeIs ?_)));exact ao (ao ⟨_,rfl,ao (q _ vi2 (l8 ..))⟩)
theorem BK (hh:A.handled=xp) (vi:s.heap.IsKeyIter it d i es.size ep) (r:RawD s.heap d es ep) (hx:es.size<=i) (q:∀ h',Heap.ExtBut it s.heap h'->Q xp { s with heap:=h' }):bc (model prog w) A (nv (.ref it)) Q E s:=by
 obtain⟨o,i1,i2,i3⟩:=id vi;obtain⟨od,r1,r2,r3⟩:=id r;have own:ip "dict_keyiterator"=false:=by decide
 unfold nv;refine ae (qf (jh (name:=ji "__next__") vi.typeIs gs (ig gs vi.typeIs ni ?_ (mz _))));refine ae (ao (ae (ae ?_)))
 first|refine ae (jf vi.typeIs (ao ?_))|refine ae (kc vi.typeIs (ao ?_))
 refine ae (px i1 i3 ?_);simp only[own,df,ite_false];show bc _ _ (if(ck d==ik)=true then _ else _) _ _ s;rw[if_neg (show ¬((ck d==ik)=true) from fun z=>nomatch z)];refine ae (ao (ae (jx r1 r3 ?_)));rw[if_neg (by simp:¬ _)];refine ae (ao (ae (k6 r1 r3 ?_)));rw[if_neg (by simp:¬ _)];refine ao ?_;simp only[show ¬((i:Int)<0) by omega,ite_false,cy,n9 hx];refine ae ?_
 first|refine ae (jf vi.typeIs (ao ?_))|refine ae (kc vi.typeIs (ao ?_))
 show bc _ _ (setField (.ref it) 0 .none >>= _) _ _ s;refine ae (pz i1 i3 (by simp) ?_);show bc _ _ (newExc (.type "StopIteration") [] >>= _) _ _ _;refine ae ?_;simp only[newExc,newTuple];refine ae (ff (ae (m:=p0 _ _) (wpAny_of_eq (a:=ik) (by first|rfl|(simp only[p0];rfl)) ?_)) (by size_fits));refine ff ?_ (by size_fits);simp only[raiseNew];refine ae (wpAny_handled ?_);rw[show A.in1.handled=xp from hh];refine ae (ao (wpAny_throw ?_));refine ae (rg (T:="StopIteration") (b:=true) ⟨_,(bv _ rfl),rfl⟩ isSubtype_stop ?_);exact ao (q _ (((l8 ..).extBut.push _).push _))
theorem MJ (hh:A.handled=xp) (I:af) (hne:d≠I):Walks prog w A I [I,d] [I] es.size (fun i v=>∃ e,es[i]?=xo e/\v=e.key) (fun i h=>h.IsKeyIter I d i es.size ep/\RawD h d es ep) where
 sub:=fun b hb=>by simp at hb;simp[hb]
 frame:=fun _ _ _ st hk=>⟨let ⟨o,e,z⟩:=st.1;⟨o,hk I (by simp) o e,z⟩,st.2.at fun o e=>hk d (by simp) o e⟩
 item:=fun i s Q E hi st hQ=>xQ (e:=es[i]) st.1 st.2 (by simp[hi]) fun h' st' sb=>hQ _ h' s.toks ⟨es[i],by simp[hi],rfl⟩ ⟨st',st.2.at fun o e=>(sb.2 d hne).trans e⟩ fun b o hb e=>(sb.2 b fun z=>hb (by simp[z])).trans e
 done:=fun s Q E st hQ=>BK hh st.1 st.2 (bf _) fun h' eb=>hQ h' s.toks fun b o hb e=>eb b o (fun z=>hb (by simp[z])) e
 self:=fun _ _ _ _ st hQ=>um st.1 hQ
theorem BH (lo:(d==fk)=false):p7 prog w "dict" d d es.size (fun i x=>∃ e,es[i]?=xo e/\x=e.key) (fun h=>RawD h d es ep) where
 type:=fun _ z=>z.typeIs
 there:=fun _ z=>⟨z.lt,z.lt⟩
 keep:=fun _ _ z hk=>z.at fun o e=>hk d (.inl rfl) o e
 notList:=by decide
 notTuple:=by decide
 hint:=fun _ _ _ _ z hq=>PySem.W.kdl_hint_dict z.typeIs hq
 iter:=fun _ _ hh z=>⟨_,_,(fun _ _ hq=>xR lo z hq),MJ hh _ (ci z.lt),⟨⟨_,bv _ rfl,rfl,rfl⟩,z.at fun o e=>aw _ e⟩⟩
end
theorem _root_.L2.Inv.laidN (I:Inv X pins σ H s) (k:∀ b u,s.heap.get? b=xo u->h'.get? b=xo u) (n:s.heap.get? a=xp) (new:ObjOk X.prog X.w (upd H a o) h' a o):
  H a=xp/\Inv X pins σ (upd H a o) { s with heap:=h',toks:=t' }:=by
 have hn:H a=xp:=by
  cases q:H a with
  |none=>rfl
  |some u=>
   obtain⟨v,w⟩:=HOk.obj I.hok q;rw[n] at w;cases w
 have ne:∀ {b:af}{u:Obj},s.heap.get? b=xo u->b≠a:=fun e z=>by rw[z,n] at e;cases e
 refine⟨hn,I.un ⟨fun b u e _ _ _=>k b u e,fun b u e _ _ _=>⟨u.slots,k b u e⟩,fun b u e q _=>by rw[aG (ne e)];exact q,fun b u e _=>⟨u,k b u e⟩,fun b xs e=>by rw[aG (aN e hn)];exact e,fun b u v e=>by rw[aG (aN e hn)];exact e,fun b ps e=>⟨#[],by rw[aG (aN e hn),e];simp⟩⟩ fun b u e=> ?_⟩
 by_cases hb:b=a
 ·subst hb;rw[aP] at e;cases e;exact new
 ·rw[aG hb] at e;exact(I.hok b u e).stay (fun c v _ q=>k c v q) (fun c q=>by rw[aG (aN q hn)];exact q) fun c xs q=>by rw[aG (aN q hn)];exact q
section
variable {prog:da}{w:dh}{A:dm}{E:ag->aq->Prop}{s:aq}
theorem Qj (ho:s.heap.get? a=xo (hW "list" vs.toArray n)) (h1:vs.length<2)
  (h:P (.done (.ret .none)) { s with heap:=qo s.heap a vs ((vs.toArray.zip vs.toArray).map (·.2)) }):bc (model prog w) A (Builtin.«list.sort» ⟨[.ref a],[]⟩) P E s:=by
 have la:a<s.heap.objs.size:=bh ho;have z:vs.toArray.size<2:=by rw[bi];exact h1
 obtain⟨e1,o1⟩:∃ e1,(s.heap.update a (i4 fun _=> #[])).get? a=xo (hW "list" #[] e1):=⟨_,sj ho (fun _=> #[])⟩;have o2:(((s.heap.update a (i4 fun _=> #[])).push (hW "tuple" vs.toArray 0)).push (hW "list" #[] 0)).get? a=xo (hW "list" #[] e1):=aw _ (aw _ o1);rw[list_sort_plain];refine ae (listItems_at ho rfl (ae (listUpdate_at ho rfl (ae (seqEpoch_at o1 rfl (ae (wpAny_newTuple (ae (ux (ii ?_))))))))));show bc (model prog w) A _ P E { s with heap:=((s.heap.update a (i4 fun _=> #[])).push (hW "tuple" vs.toArray 0)).push (hW "list" #[] 0) };dsimp only;rw[if_pos z,if_pos z];refine ae (ao ?_);rw[StateT.run_pure];refine ae (ao ?_);dsimp only;refine ae (seqEpoch_at o2 rfl (ae (listUpdate_at o2 rfl ?_ (hsz2:=by rw[Array.size_map];show(vs.toArray.zip vs.toArray).size<=_;rw[Array.size_zip,bi,bt];omega))));simp only[bne_self_eq_false,df,ite_false];exact ao h
theorem pD (col:∀ {R:List ag->aq->Prop},(∀(h':c5) (tk:Nat) (acc:Array ag),(∀ b o,s.heap.get? b=xo o->h'.get? b=xo o)->ItemsOf P acc n->R acc.toList { s with heap:=h',toks:=tk })->bc (model prog w) A.in1 (collect (.ref r)) R E s) (hn:n<2)
  (h:∀(h':c5) (tk:Nat) (vs:List ag) (a:af) (c:Nat),(∀ b o,s.heap.get? b=xo o->h'.get? b=xo o)->s.heap.get? a=xp->vs.length=n->(∀(j:Nat) (v:ag),vs[j]?=xo v->P j v)->h'.get? a=xo (hW "list" vs.toArray c)->Q (.ref a) { s with heap:=h',toks:=tk }):
  bc (model prog w) A (call (.builtin "sorted") [.ref r]) Q E s:=by
 refine qp kind_sorted plain_sorted entry_sorted (args_sorted1 _) ?_;unfold Builtin.«sorted»;refine ae (m:=checkCount "sorted" 1 1 _) (ao (ae (col fun h1 tk acc kp it=> ?_)));have hl:acc.toList.length=n:=by rw[d9];exact it.1
 refine ae (ux ?_ (by rw[hl,bt];omega));have o1:(h1.push (hW "list" acc.toList.toArray 0)).get? h1.objs.size=xo (hW "list" acc.toList.toArray 0):=bv _ rfl;refine ae (ii (ig slot_list_sort ⟨_,o1,rfl⟩ entry_list_sort (Qj (s:={ s with heap:=h1.push (hW "list" acc.toList.toArray 0),toks:=tk }) o1 (by rw[hl];exact hn) ⟨_,rfl,?_⟩) (args_list_sort _)));have nw:s.heap.get? h1.objs.size=xp:=by
  cases q:s.heap.get? h1.objs.size with
  |none=>rfl
  |some u=>exact absurd (bh (kp _ _ q)) (dn _)
 have ez:(acc.toList.toArray.zip acc.toList.toArray).map (·.2)=acc.toList.toArray:=by
  apply Array.ext';rw[Array.toList_map,Array.toList_zip];simp[List.map_snd_zip]
 have ne:∀ b,b≠h1.objs.size->∀ o,h1.get? b=xo o->(qo (h1.push (hW "list" acc.toList.toArray 0)) h1.objs.size acc.toList ((acc.toList.toArray.zip acc.toList.toArray).map (·.2))).get? b=xo o:=fun b hb o e=>by
  unfold qo;rw[dw _ _ (bz hb)];refine aw _ (aw _ ?_);rw[dw _ _ (bz hb)];exact aw _ e
 have o2:=sj o1 (fun _=> #[]);have o3:=sj (aw (hW "list" #[] 0) (aw (hW "tuple" acc.toList.toArray 0) o2)) (fun _=>(acc.toList.toArray.zip acc.toList.toArray).map (·.2));have o4:∃ c,(qo (h1.push (hW "list" acc.toList.toArray 0)) h1.objs.size acc.toList ((acc.toList.toArray.zip acc.toList.toArray).map (·.2))).get? h1.objs.size=xo (hW "list" acc.toList.toArray c):=by
  unfold qo;rw[ez] at o3 ⊢;exact⟨_,o3⟩
 obtain⟨c,o4⟩:=o4;exact ao ⟨_,rfl,h _ tk acc.toList h1.objs.size c (fun b o e=>ne b (fun z=>by rw[z,nw] at e;cases e) o (kp b o e)) nw hl (fun j v e=>it.2 j v (by rw[<- gv];exact e)) o4⟩
theorem pB (K:p7 prog w T r d n P OK) (hh:A.handled=xp) (hok:OK s.heap) (hn:n<2)
  (h:∀(h':c5) (tk:Nat) (vs:List ag) (a:af) (c:Nat),(∀ b o,s.heap.get? b=xo o->h'.get? b=xo o)->s.heap.get? a=xp->vs.length=n->(∀(j:Nat) (v:ag),vs[j]?=xo v->P j v)->h'.get? a=xo (hW "list" vs.toArray c)->Q (.ref a) { s with heap:=h',toks:=tk }):
  bc (model prog w) A (call (.builtin "sorted") [.ref r]) Q E s:=
 pD (fun h=>uz (A:=A.in1) K hh hok (by rw[bt];omega) h) hn h
end
noncomputable abbrev lf (g:D->D->Option D):Om->D->D->Option (D×Om):=fun ω a b=>pu (g a b) ω
noncomputable abbrev lfL (g:List D->Option D):Om->List D->Option (D×Om):=fun ω a=>pu (g a) ω
noncomputable def eJ (ω:Om) (d:D):Option (List D):=match d with
 |.lst ds=>xo ds
 |.obj n=>match ω[n]? with
  |some (.ml ds)=>xo ds
  |_=>xp
 |_=>xp
theorem fE (h:eJ ω d=xo ds):d=.lst ds∨∃ n,d=.obj n/\ω[n]?=xo (.ml ds):=by
 cases d with
 |lst xs=>cases h;exact .inl rfl
 |obj n=>
  have h':(match ω[n]? with
   |some (.ml ds)=>xo ds
   |_=>xp)=xo ds:=h
  split at h'
  ·cases h';exact .inr ⟨n,rfl,‹_›⟩
  ·cases h'
 |_=>cases h
theorem fA {K:aa} (t:Stt cls K ok H ω) (r:Rep K ok H v d) (e:eJ ω d=xo ds):∃ a xs,v=.ref a/\H a=xo (.lst xs)/\Reps K ok H xs ds:=by
 rcases fE e with rfl|⟨n,rfl,e1⟩
 ·obtain⟨a,xs,rfl,g,rs⟩:=r.lst_inv;exact⟨a,xs,rfl,g.2,rs⟩
 ·obtain⟨a,rfl,e2,xs,e3,rs⟩:=t.ref r e1;exact⟨a,xs,rfl,e3,rs⟩
section
variable {X:Cx}{cls exC:Nat->af}{E:XE}{e a b c o i value:bw}{es rest:List bw}{fa fb fc fo fi fv:OG D}{fl:OG (List D)}{ft ft':OG Bool}{pos p apos pos':Pos}{x m:Str}{st:cx}
theorem Ox (ha:OE X cls E a fa) (hb:OE X cls E b fb):OE X cls E (.BinOp a .Add b pos) (o2 (lf nM) fa fb):=uZ Od (Fit2.lift (kH fun _ _ _ _=>.int _)) ha hb
theorem Oh (ha:OE X cls E a fa) (hb:OE X cls E b fb):OE X cls E (.BinOp a .Sub b pos) (o2 (lf gSub) fa fb):=uZ NS (Fit2.lift (kH fun _ _ _ _=>.int _)) ha hb
theorem Op (ha:OE X cls E a fa) (hb:OE X cls E b fb):OE X cls E (.BinOp a .Mult b pos) (o2 (lf gO) fa fb):=uZ NV (Fit2.lift (Pe (fun i j h=>by unfold CMul;omega) fun _ _ _ _=>.int _)) ha hb
theorem Oq (ha:OE X cls E a fa) (hb:OE X cls E b fb):OE X cls E (.BinOp a .Mod b pos) (o2 (lf cJ) fa fb):=uZ NW (Fit2.lift (Pe (fun _ _ h=>h) fun _ _ _ _=>.int _)) ha hb
theorem QH (ha:OE X cls E a fa) (hb:OE X cls E b fb):OE X cls E (.Compare a [.LtE] [b] pos) (o2 (lf gLe) fa fb):=JD KQ (Fit2.lift (kH fun _ _ _ _=>.bl _)) ha hb (lN _)
theorem QJ (ha:OE X cls E a fa) (hb:OE X cls E b fb):OE X cls E (.Compare a [.Gt] [b] pos) (o2 (lf gGt) fa fb):=JD NZ (Fit2.lift (kH fun _ _ _ _=>.bl _)) ha hb (lN _)
theorem Qz (ha:OE X cls E a fa) (hb:OE X cls E b fb):OT X cls E (.Compare a [.Lt] [b] pos) (cA (o2 (lf gLt) fa fb)):=lL NX (Fit2.lift (kH fun _ _ _ _=>.bl _)) ha hb (lN _)
theorem QA (ha:OE X cls E a fa) (hb:OE X cls E b fb):OT X cls E (.Compare a [.LtE] [b] pos) (cA (o2 (lf gLe) fa fb)):=lL KQ (Fit2.lift (kH fun _ _ _ _=>.bl _)) ha hb (lN _)
theorem QC (ha:OE X cls E a fa) (hb:OE X cls E b fb):OT X cls E (.Compare a [.Gt] [b] pos) (cA (o2 (lf gGt) fa fb)):=lL NZ (Fit2.lift (kH fun _ _ _ _=>.bl _)) ha hb (lN _)
theorem QD (ha:OE X cls E a fa) (hb:OE X cls E b fb):OT X cls E (.Compare a [.GtE] [b] pos) (cA (o2 (lf gGe) fa fb)):=lL QF (Fit2.lift (kH fun _ _ _ _=>.bl _)) ha hb (lN _)
theorem KC (ha:OE X cls E a fa) (hb:OE X cls E b fb):OT X cls E (.Compare a [.IsNot] [b] pos) (cA (o2 (lf LS) fa fb)):=lL KO (Fit2.lift II) ha hb (lN _)
theorem QB (hu:JT X (n+1)) (ha:OE X cls E a fa) (hb:OE X cls E b fb) (hm:iy .In b=false:=by with_unfolding_all rfl):OT X cls E (.Compare a [.In] [b] pos) (cA (o2 (lf (gIn n)) fa fb)):=lL (NY hu) (Fit2.lift Pd) ha hb hm
theorem HA (hu:JT X (n+1)) (ha:OE X cls E a fa) (hb:OE X cls E b fb) (hm:iy .NotIn b=false:=by with_unfolding_all rfl):OT X cls E (.Compare a [.NotIn] [b] pos) (cA (o2 (lf (Ck n)) fa fb)):=lL (EQ hu) (Fit2.lift FW) ha hb hm
noncomputable def tE (g g':D->D->Option D) (fa fb fc:OG D):OG Bool:=oB fa fun x=>oB fb fun y ρ ω=>match (g x y).bind toB with
 |none=>xp
 |some true=>oB fc (fun z _ ω=>oR (pu ((g' y z).bind toB) ω)) ρ ω
 |some false=>xo (.ok false,ω)
theorem EM (ho:OpR X (fw op) r) (F:Fit2 X.K r g) (ho':OpR X (fw op') r') (F':Fit2 X.K r' g') (ha:OE X cls E a fa) (hb:OE X cls E b fb) (hc:OE X cls E c fc)
  (hm:lastMarks [op,op'] [b,c]=false:=by with_unfolding_all rfl):OT X cls E (.Compare a [op,op'] [b,c] pos) (tE g g' fa fb fc):=(Hr ho ho' ha hb hc hm).imp fun σ H Q ⟨ok,ρ,ω,rz,ω',P,e,q⟩=>by
 refine tO.then_ P e (fun c z=>by subst z;exact q) fun x ω1 v ok1 H1 e1 n1 P1 r1=> ?_;refine tO.then_ P1 e1 (fun c z=>by subst z;exact exR.nw q n1) fun y ω2 u ok2 H2 e2 n2 P2 r2=> ?_;cases hg:(g x y).bind toB with
 |none=>rw[hg] at e2;cases e2
 |some k=>
  rw[hg] at e2;obtain⟨dk,g1,g2⟩:=bind_some hg;obtain rfl:=oS g2;refine F ok2 H2 v u x y _ _ P2.okh (r1.ex n2.ex) r2 g1 fun w H3 s3 r3=>⟨k,r3.bl_inv,?_⟩;have n3:Nw cls X.K ok2 H2 ok2 H3 ω2:=.same P2.okh P2.st s3;cases k with
  |false=>
   cases e2;exact ME ⟨false,rfl,q ok2 H3 (n1.trans (n2.trans n3))⟩
  |true=>
   refine MD (tO.then_ (P2.nw n3) e2 (fun c z=>by subst z;exact exR.nw q (n1.trans (n2.trans n3))) fun z ω4 w4 ok4 H4 e4 n4 P4 r4=> ?_);obtain⟨k',e5,rfl⟩:=cK e4;obtain⟨ue5,rfl⟩:=cQ e5;obtain⟨dk',g3,g4⟩:=bind_some ue5;obtain rfl:=oS g4;exact F' ok4 H4 u w4 y z _ _ P4.okh ((r2.ex n3.ex).ex n4.ex) r4 g3 fun w5 H5 s5 r5=>⟨k',r5.bl_inv,q ok4 H5 (n1.trans (n2.trans (n3.trans (n4.trans (.same P4.okh P4.st s5)))))⟩
theorem Pc {K:aa}:Fit2 K (rI0 fun i j=>.bl (decide (i<=j))) gLe:=kH fun _ _ _ _=>.bl _
theorem Pb {K:aa}:Fit2 K (rI0 fun i j=>.bl (decide (i<j))) gLt:=kH fun _ _ _ _=>.bl _
theorem KD (ha:OE X cls E a fa) (hb:OE X cls E b fb) (hc:OE X cls E c fc) (hm:lastMarks [.LtE,.Lt] [b,c]=false:=by with_unfolding_all rfl):OT X cls E (.Compare a [.LtE,.Lt] [b,c] pos) (tE gLe gLt fa fb fc):=EM KQ Pc NX Pb ha hb hc hm
noncomputable def OC (f g:OG D):OG D:=oB f fun d ρ ω=>match toB d with
 |none=>xp
 |some true=>g ρ ω
 |some false=>xo (.ok (.bl false),ω)
noncomputable def Oz (f:OG D):OG D:=oB f fun d _ ω=>oR (pu (So d) ω)
theorem On (h:OE X cls E a fa):OE X cls E (.BoolOp op [a] pos) fa:=Nv h
theorem Ow (ha:OE X cls E a fa) (hb:OE X cls E (.BoolOp .And (b::rest) pos) fb):OE X cls E (.BoolOp .And (a::b::rest) pos) (OC fa fb):=(ND ha hb).imp fun σ H Q ⟨ok,ρ,ω,r,ω',P,e,q⟩=>by
 refine tO.then_ P e (fun c z=>by subst z;exact q) fun d ω1 v ok1 H1 e1 n1 P1 r1=> ?_;cases hd:toB d with
 |none=>rw[hd] at e1;cases e1
 |some k=>
  rw[hd] at e1;obtain rfl:=oS hd;refine⟨k,r1.bl_inv,?_⟩;cases k with
  |true=>exact MD ⟨ok1,ρ,ω1,r,ω',P1,e1,by
   cases r with
   |ok d=>exact fun v ok' H' n r=>q v ok' H' (n1.trans n) r
   |ex c=>exact exR.nw q n1⟩
  |false=>
   cases e1;exact ME (q _ ok1 H1 n1 (.bl false))
theorem Oo (ha:OE X cls E a fa):OE X cls E (.UnaryOp .Not a pos) (Oz fa):=(Nx ha).imp fun σ H Q ⟨ok,ρ,ω,r,ω',P,e,q⟩=>by
 refine tO.then_ P e (fun c z=>by subst z;exact q) fun d ω1 v ok1 H1 e1 n1 P1 r1=> ?_;obtain⟨y,e3,rfl⟩:=cK e1;obtain⟨ue3,rfl⟩:=cQ e3;obtain⟨k,e4,rfl⟩:=aH (show(toB d).map _=xo y from ue3);obtain rfl:=oS e4;exact⟨k,r1.bl_inv,q _ ok1 H1 n1 (.bl _)⟩
noncomputable def qI (ω:Om) (a b:D):Option (D×Om):=(eJ ω a).bind fun xs=>(eJ ω b).bind fun ys=>if xs.length+ys.length<=sizeLine then xo (.lst (xs++ys),ω) else xp
theorem Ov (ha:OE X cls E a fa) (hb:OE X cls E b fb):OE X cls E (.BinOp a .Add b pos) (o2 qI fa fb):=uZ Oc (fun ok H ω x y a b d ω' Q h1 st ra rb e k=>by
 obtain⟨xs,e1,e⟩:=bind_some e;obtain⟨ys,e2,e⟩:=bind_some e;obtain⟨hz,e3⟩:=bJ e;cases e3;obtain⟨a1,us,rfl,g1,r1⟩:=fA st ra e1;obtain⟨b1,ws,rfl,g2,r2⟩:=fA st rb e2;exact⟨a1,b1,us,ws,rfl,rfl,g1,g2,by rw[r1.length,r2.length];exact hz,fun p n=>k _ ok _ (.same h1 st (cH n)) (.lst_new (h1 p n) n (r1.append r2))⟩) ha hb
theorem Reps.rep {K:aa} (h:Reps K ok H vs ds):∀ k:Nat,Reps K ok H (av k vs).flatten (av k ds).flatten
 |0=>.nil
 |k+1=>by
  rw[fm,fm,jc,jc];exact h.append (Reps.rep h k)
noncomputable def yR (ω:Om) (a b:D):Option (D×Om):=(eJ ω a).bind fun xs=>(toI b).bind fun k=>if -1000000<=k/\k<=1000000/\xs.length*k.toNat<=sizeLine then xo (.obj ω.length,ω++[.ml (av k.toNat xs).flatten]) else xp
theorem La (ha:OE X cls E a fa) (hb:OE X cls E b fb):OE X cls E (.BinOp a .Mult b pos) (o2 yR fa fb):=uZ NT (fun ok H ω x y a b d ω' Q h1 st ra rb e k=>by
 obtain⟨xs,e1,e⟩:=bind_some e;obtain⟨kk,e2,e⟩:=bind_some e;obtain⟨hz,e3⟩:=bJ e;cases e3;obtain rfl:=Af e2;obtain⟨a1,us,rfl,g1,r1⟩:=fA st ra e1;exact⟨a1,kk,us,rfl,rb.int_inv,g1,by omega,by omega,by rw[r1.length];exact hz.2.2,fun p n=>k _ _ _ (.ml h1 st n (r1.rep kk.toNat)) .new_obj⟩) ha hb
noncomputable def iP (ω:Om) (ds:List D):Option (D×Om):=match ds with
 |[d]=>match eJ ω d with
  |some xs=>xo (.int xs.length,ω)
  |none=>pu (QU [d]) ω
 |_=>xp
theorem IL {K:aa}:nU cls K (fun xs H Q=>∃ x n,xs=[x]/\Rl K x H n/\Q (.int n) H) iP:=fun ok H ω xs as d ω' Q h1 st r e k=>by
 unfold iP at e;split at e
 ·split at e
  ·rename_i d0 ys hs
   cases e;obtain⟨v,rfl,r1⟩:=r.one_inv;obtain⟨a,us,rfl,g,rs⟩:=fA st r1 hs;exact⟨_,_,rfl,.inl ⟨_,SqL.of g,rs.length.symm⟩,k _ ok H (.refl h1 st) (.int _)⟩
  ·exact FitL.lift (cls:=cls) Ma ok H ω xs _ d ω' Q h1 st r e k
 ·cases e
noncomputable def bY (ω:Om) (d:D):Option (List D):=match d with
 |.tup ds=>xo ds
 |d=>eJ ω d
theorem tM {K:aa} (t:Stt cls K ok H ω) (r:Rep K ok H v d) (e:bY ω d=xo ds):∃ a xs,v=.ref a/\(SqL K H a xs∨SqT K H a xs)/\Reps K ok H xs ds:=by
 cases d with
 |tup xs=>
  cases e;obtain⟨a,ys,rfl,g,rs⟩:=r.tup_inv;exact⟨a,ys,rfl,.inr g.sq,rs⟩
 |lst xs=>
  obtain⟨a,ys,rfl,g,rs⟩:=fA t r (show eJ ω (.lst xs)=xo ds from e);exact⟨a,ys,rfl,.inl (SqL.of g),rs⟩
 |obj n=>
  obtain⟨a,ys,rfl,g,rs⟩:=fA t r (show eJ ω (.obj n)=xo ds from e);exact⟨a,ys,rfl,.inl (SqL.of g),rs⟩
 |_=>cases e
noncomputable def iL (ω:Om) (ds:List D):Option (D×Om):=match ds with
 |[d]=>(bY ω d).map fun xs=>(.lst xs,ω)
 |_=>xp
theorem FX {K:aa}:nU cls K (fun xs H Q=>∃ p ys,xs=[.ref p]/\(SqL K H p ys∨SqT K H p ys)/\∀ l,H l=xp->Q (.ref l) (upd H l (.lst ys))) iL:=fun ok H ω xs as d ω' Q h1 st r e k=>by
 unfold iL at e;split at e
 ·obtain⟨ys,e1,e2⟩:=aH e;cases e2;obtain⟨v,rfl,r1⟩:=r.one_inv;obtain⟨a,us,rfl,g,rs⟩:=tM st r1 e1;exact⟨a,us,rfl,g,fun l n=>k _ ok _ (.same h1 st (cH n)) (.lst_new (h1 l n) n rs)⟩
 ·cases e
noncomputable def tV (ω:Om) (ds:List D):Option (D×Om):=match ds with
 |[d]=>(bY ω d).map fun xs=>(.obj ω.length,ω++[.ml xs])
 |_=>xp
theorem FY {K:aa}:nU cls K (fun xs H Q=>∃ p ys,xs=[.ref p]/\(SqL K H p ys∨SqT K H p ys)/\∀ l,H l=xp->Q (.ref l) (upd H l (.lst ys))) tV:=fun ok H ω xs as d ω' Q h1 st r e k=>by
 unfold tV at e;split at e
 ·obtain⟨ys,e1,e2⟩:=aH e;cases e2;obtain⟨v,rfl,r1⟩:=r.one_inv;obtain⟨a,us,rfl,g,rs⟩:=tM st r1 e1;exact⟨a,us,rfl,g,fun l n=>k _ _ _ (.ml h1 st n rs) .new_obj⟩
 ·cases e
noncomputable def FN (ω:Om) (ds:List D):Option (D×Om):=match ds with
 |[d]=>(eJ ω d).map fun xs=>(.tup xs,ω)
 |_=>xp
theorem ID {K:aa}:nU cls K (fun xs H Q=>∃ p ys,xs=[.ref p]/\((SqL K H p ys/\∀ l,H l=xp->Q (.ref l) (upd H l (.tup ys)))∨(SqT K H p ys/\Q (.ref p) H))) FN:=fun ok H ω xs as d ω' Q h1 st r e k=>by
 unfold FN at e;split at e
 ·obtain⟨ys,e1,e2⟩:=aH e;cases e2;obtain⟨v,rfl,r1⟩:=r.one_inv;obtain⟨a,us,rfl,g,rs⟩:=fA st r1 e1;exact⟨a,us,rfl,.inl ⟨SqL.of g,fun l n=>k _ ok _ (.same h1 st (cH n)) (.tup_new (h1 l n) n rs)⟩⟩
 ·cases e
noncomputable def OX (ω:Om) (a:D) (lo hi:Option Int):Option D:=match eJ ω a with
 |some ds=>xo (.lst (DJ ds lo hi))
 |none=>gSl a lo hi
noncomputable def oSl (f:OG D) (l u:DO):OG D:=oB f fun a ρ ω=>(l ρ).bind fun lo=>(u ρ).bind fun hi=>oR (pu (OX ω a lo hi) ω)
theorem HH {lo hi:Option bw} (he:OE X cls E e fa) (hl:DOp X lo l) (hu:DOp X hi u):OE X cls E (.Subscript e (.Slice lo hi xp p2) pos) (oSl fa l u):=(Hv (sl_list.or MU) he hl hu).imp fun σ H Q ⟨ok,ρ,ω,r,ω',P,e,q⟩=>by
 refine tO.then_ P e (fun c z=>by subst z;exact q) fun a ω1 v ok1 H1 e1 n1 P1 r1=> ?_;obtain⟨il,g1,e1⟩:=bind_some e1;obtain⟨ih,g2,e1⟩:=bind_some e1;obtain⟨d,e3,rfl⟩:=cK e1;obtain⟨ue3,rfl⟩:=cQ e3;refine⟨ok1,ρ,il,P1.okh,P1.env,g1,fun H2 s2=>⟨ok1,ρ,ih,P1.okh.same s2,P1.env.same s2,g2,fun H3 s3=> ?_⟩⟩;have sx:=s2.trans s3;have ra:=r1.same sx;have st3:=P1.st.same sx;have okh:=P1.okh.same sx;have q':∀ v H',Same H3 H'->Rep X.K ok1 H' v d->Q v H':=fun v H' s r=>q v ok1 H' (n1.trans (.same P1.okh P1.st (sx.trans s))) r;unfold OX at ue3;cases hs:eJ ω' a with
 |some ds=>
  rw[hs] at ue3;cases ue3;obtain⟨p,xs,rfl,g,rs⟩:=fA st3 ra hs;exact .inl ⟨p,xs,rfl,SqL.of g,fun p' n=>q' _ _ (cH n) (.lst_new (okh p' n) n (rs.cut il ih))⟩
 |none=>
  rw[hs] at ue3;have ue4:gSl a il ih=xo d:=ue3;cases a with
  |lst ds=>cases hs
  |scr ds=>
   cases ue4;obtain⟨p,xs,rfl,g,rs⟩:=ra.scr_inv;exact .inl ⟨p,xs,rfl,g.sq,fun p' n=>q' _ _ (cH n) (.lst_new (okh p' n) n (rs.cut il ih))⟩
  |tup ds=>
   have h3':(if HT.sIx ds.length 0 il=0/\HT.sIx ds.length ds.length ih=ds.length then xp else xo (D.tup (DJ ds il ih)))=xo d:=ue4;obtain⟨p,xs,rfl,g,rs⟩:=ra.tup_inv
   by_cases hw:HT.sIx ds.length 0 il=0/\HT.sIx ds.length ds.length ih=ds.length
   ·rw[if_pos hw] at h3';cases h3'
   ·rw[if_neg hw] at h3';cases h3';exact .inr ⟨p,xs,rfl,g.sq,by rw[rs.length];exact hw,fun p' n=>q' _ _ (cH n) (.tup_new (okh p' n) n (rs.cut il ih))⟩
  |_=>cases ue4
end
noncomputable def DZ (T:String) (ω:Om) (d:D):Option Bool:=match eJ ω d with
 |some ds=>Di T (.lst ds)
 |none=>Di T d
theorem Rep.wide {K:aa} (r:Rep K ok H v d):Rep K ⟨fun _=>True,ok.al⟩ H v d:=Rep.mono (ok:=ok) (ok':=⟨fun _=>True,ok.al⟩) (fun _ _ _ e=>⟨trivial,e⟩) (fun _ _ h=>h) r
theorem Reps.wide {K:aa} (r:Reps K ok H v d):Reps K ⟨fun _=>True,ok.al⟩ H v d:=Reps.mono (ok:=ok) (ok':=⟨fun _=>True,ok.al⟩) (fun _ _ _ e=>⟨trivial,e⟩) (fun _ _ h=>h) r
theorem xJ {K:aa} (t:Stt cls K ok H ω) (r:Rep K ok H v d) (e:eJ ω d=xo ds):Rep K ⟨fun _=>True,ok.al⟩ H v (.lst ds):=by
 obtain⟨a,xs,rfl,g,rs⟩:=fA t r e;exact .lst ⟨trivial,g⟩ rs.wide
section
variable {X:Cx}{cls exC:Nat->af}{E:XE}{e a b c o i value:bw}{es rest:List bw}{fa fb fc fo fi fv:OG D}{fl:OG (List D)}{ft ft':OG Bool}{pos p apos pos' cpos:Pos}{x m:Str}{st:cx}
noncomputable def pP (T:String) (f:OG D):OG D:=oB f fun d _ ω=>oR (pu ((DZ T ω d).map D.bl) ω)
theorem LF {K:aa} (t:Stt cls K ok H ω) (r:Rep K ok H v d) (e:DZ T ω d=xo k):∃ d',Rep K ⟨fun _=>True,ok.al⟩ H v d'/\Di T d'=xo k:=by
 unfold DZ at e;cases hs:eJ ω d with
 |some ds=>rw[hs] at e;exact⟨_,xJ t r hs,e⟩
 |none=>rw[hs] at e;exact⟨d,r.wide,e⟩
theorem xY (he:OE X cls E e fa) (hg:Gl X "isinstance") (hm:X.mg "isinstance"=xp) (hgT:Gl X T) (hmT:X.mg T=xp) (hv:dc T=xo (.type Tn)) (hn:T≠"__name__":=by decide) (hdb:(T==("__debug__":Str))=false:=by decide)
  (h1:au [e,.Name T p2] X.env=(false,eval e X.env)::au [.Name T p2] X.env:=by rfl) (h2:au [.Name T p2] X.env=(false,eval (.Name T p2) X.env)::au [] X.env:=by rfl) (hpl:(db pos (au [.Name T p2] X.env)).any (·.1)=false:=by rfl):
  OE X cls E (.Call (.Name "isinstance" p) [e,.Name T p2] [] pos) (pP Tn fa):=
 (uW Jk hg hm (by decide+kernel) (pK he (pK (KA (v:=.ty Tn) hgT hmT hv rfl hn hdb) BO h2) h1) (by decide) (by decide) h1 hpl).imp fun σ H Q ⟨ok,ρ,ω,r,ω',P,e,q⟩=>by
  refine tO.then_ P e (fun c z=>by subst z;exact q) fun d ω1 v ok1 H1 e1 n1 P1 r1=> ?_;obtain⟨y,e3,rfl⟩:=cK e1;obtain⟨ue3,rfl⟩:=cQ e3;obtain⟨k,e4,rfl⟩:=aH ue3;obtain⟨d',rd,e5⟩:=LF P1.st r1 e4;exact⟨v,Tn,d',_,k,rfl,rd,e5,q _ ok1 H1 n1 (.bl _)⟩
noncomputable def Dj (ω:Om) (d:D):Bool:=match cellOf ω d with
 |some (.ml _)=>true
 |_=>false
theorem Fs (h:Dj ω d=true):∃ n ds,d=.obj n/\ω[n]?=xo (.ml ds):=by
 unfold Dj at h;split at h
 ·obtain⟨n,rfl,e⟩:=dO ‹_›;exact⟨n,_,rfl,e⟩
 ·cases h
noncomputable def kB (g:Om->D->List D->Option (D×Om)) (fo:OG D) (fl:OG (List D)):OG D:=oB fo fun d ρ ω=>if Dj ω d=true then oB fl (fun ds _ ω=>oR (g ω d ds)) ρ ω else xp
def GL (cls:Nat->af) (K:aa) (r:V->List V->Hp->VK->Prop) (g:Om->D->List D->Option (D×Om)):Prop:=∀(ok:Okk) (H:Hp) (ω:Om) (x:V) (xs:List V) (a:D) (as:List D) (d:D) (ω':Om) (Q:VK),OkH ok H->Stt cls K ok H ω->Rep K ok H x a->Reps K ok H xs as->g ω a as=xo (d,ω')->
 (∀ v ok' H',Nw cls K ok H ok' H' ω'->Rep K ok' H' v d->Q v H')->r x xs H Q
theorem QG {id:String} (slot:Slot "list" m id) (hty:typeOf (.builtin id)=pure (.type "method_descriptor")) (hm:MtR X id r) (F:GL cls X.K r g) (ho:OE X cls E o fo) (ha:OA X cls E (e::es) fl)
  (hbase:ij o m X.env (eval o X.env)=eval o X.env:=by rfl)
  (hfew:((db cpos (au (e::es) X.env)).all (fun x=> !x.1)&&(j8 cpos (ir [] X.env)).all (fun x=>x.1.isSome)
   &&decide ((e::es).length+([]:List kr).length+(if([]:List kr).isEmpty then 0 else 1)<30))=true:=by rfl)
  (hline:(apos.endLine==cpos.line)=true:=by rfl) (hs:au (e::es) X.env=(false,eval e X.env)::au es X.env:=by rfl) (hplain:(db cpos (au es X.env)).any (·.1)=false:=by rfl):
  OE X cls E (.Call (.Attribute o m apos) (e::es) [] cpos) (kB g fo fl):=
 (NC PySem.F.plainAttrs_list slot hty hm ho ha hbase hfew hline hs hplain).imp fun σ H Q ⟨ok,ρ,ω,r,ω',P,e,q⟩=>by
  refine tO.then_ P e (fun c z=>by subst z;exact q) fun d ω1 v ok1 H1 e1 n1 P1 r1=> ?_;obtain⟨hi,e1⟩:=cR e1;obtain⟨n,ds0,rfl,e2⟩:=Fs hi;obtain⟨a,rfl,e4,xs,e5,rs⟩:=P1.st.ref r1 e2;refine⟨.inl ⟨rfl,xs,SqL.of e5⟩,?_⟩;refine tOA.then_ P1 e1 (fun c z=>by subst z;exact exR.nw q n1) fun ds ω2 us ok2 H2 e6 n2 P2 r2=> ?_;obtain⟨y,e7,rfl⟩:=cK e6;exact F ok2 H2 ω2 _ us _ ds y ω' Q P2.okh P2.st (r1.ex n2.ex) r2 e7 fun w ok3 H3 n3 r3=>q w ok3 H3 (n1.trans (n2.trans n3)) r3
noncomputable def jZ (ω:Om) (d:D) (as:List D):Option (D×Om):=match d,as with
 |.obj n,[v]=>match ω[n]? with
  |some (.ml ds)=>if ds.length<sizeLine then xo (.non,ω.set n (.ml (ds++[v]))) else xp
  |_=>xp
 |_,_=>xp
theorem FV (h:jZ ω d as=xo (y,ω')):∃ n v ds,d=.obj n/\as=[v]/\ω[n]?=xo (.ml ds)/\ds.length<sizeLine/\y=.non/\ω'=ω.set n (.ml (ds++[v])):=by
 unfold jZ at h;split at h
 ·split at h
  ·obtain⟨hz,e3⟩:=bJ h;cases e3;exact⟨_,_,_,rfl,rfl,‹_›,hz,rfl,rfl⟩
  ·cases h
 ·cases h
theorem Mf {K:aa}:GL cls K EC jZ:=fun ok H ω x xs a as d ω' Q h1 st ra rs e k=>by
 obtain⟨n,v,ds,rfl,rfl,hc,hz,rfl,rfl⟩:=FV e;obtain⟨a1,rfl,e4,us,e5,r5⟩:=st.ref ra hc;obtain⟨w,rfl,rw'⟩:=rs.one_inv;refine⟨a1,us,w,rfl,rfl,e5,by rw[r5.length];exact hz,?_⟩;exact k _ ok _ (Nw.write (o:=.lst (us++[w])) (ob:=.ml (ds++[v])) h1 st e4 e5 fun dat=>⟨_,aP,(r5.snoc rw').mono dat⟩) .non
theorem EV (ho:OE X cls E o fo) (ha:OA X cls E [e] fl) (hbase:ij o "append" X.env (eval o X.env)=eval o X.env:=by rfl)
  (hfew:((db cpos (au [e] X.env)).all (fun x=> !x.1)&&(j8 cpos (ir [] X.env)).all (fun x=>x.1.isSome)
   &&decide ([e].length+([]:List kr).length+(if([]:List kr).isEmpty then 0 else 1)<30))=true:=by rfl)
  (hline:(apos.endLine==cpos.line)=true:=by rfl) (hs:au [e] X.env=(false,eval e X.env)::au [] X.env:=by rfl) (hplain:(db cpos (au [] X.env)).any (·.1)=false:=by rfl):
  OE X cls E (.Call (.Attribute o "append" apos) [e] [] cpos) (kB jZ fo fl):=QG ua PySem.F.type_list_append (fun pins s σ H x xs v us Q=>yC pins s σ H x xs v us Q) Mf ho ha hbase hfew hline hs hplain
end
theorem j6.get2:∀ {l:List α}{l':List β}{i:Nat}{b:β},j6 F l l'->l'[i]?=xo b->∃ a,l[i]?=xo a/\F a b
 |_,_,_,_,.nil,e=>by simp at e
 |_,_,0,_,.cons r _,e=>by simp at e;subst e;exact⟨_,rfl,r⟩
 |_,_,i+1,b,.cons _ t,e=>by
  obtain⟨a,h1,h2⟩:=j6.get2 (i:=i) (b:=b) t (by simpa using e);exact⟨a,by simpa using h1,h2⟩
section
variable {X:Cx}{pins:List (af×Obj)}{σ:St}{H:Hp}{s:aq}{d:af}{kvs:List (List Key×V)}
theorem qV (I:Inv X pins σ H s) (e:Rd H d (.dT kvs)):(d==fk)=false/\kvs.length<=sizeLine/\∃ es ep,RawD s.heap d es ep/\es.size=kvs.length/\
  ∀(i:Nat) (y:lm),es[i]?=xo y->∃ p,kvs[i]?=xo p/\RelV p.2 y.val/\∃ a,y.key=.ref a/\H a=xo (.tup (p.1.map kV)):=by
 obtain⟨z,lo,xs,pr,o,es,ep,h1,h2,h3,h4,h5⟩:=(show ObjOk X.prog X.w H s.heap d (.dT kvs) from e.ok I.hok);have hl:es.size=kvs.length:=by
  have:=congrArg lz h4
  rw[ak,d9] at this;rw[this,<- jd pr]
 refine⟨lo,z,es,ep,⟨o,h1,h2,h3⟩,hl,fun i y hy=> ?_⟩;have hy':(xs.map (gn (b0 (aO X.prog X.w))))[i]?=xo y:=by rw[<- h4,gv];exact hy
 rw[ay] at hy';obtain⟨q,q1,q2⟩:=aH hy';obtain⟨p,p1,p2,p3,p4⟩:=j6.get2 pr q1;subst q2;exact⟨p,p1,p4,q.2.1,rfl,p3⟩
end
noncomputable def MC (v d:af):HO:=.ext fun h=>h.IsValuesView v d
section
variable {X:Cx}{cls exC:Nat->af}{E:XE}{e a b c o i value:bw}{es rest:List bw}{fa fb fc fo fi fv:OG D}{fl:OG (List D)}{ft ft':OG Bool}{pos p apos pos' cpos:Pos}{x m:Str}{st:cx}
theorem Fe:MtR X "dict.values" fun x xs H Q=>∃ d kvs,x=.ref d/\xs=[]/\H d=xo (.dT kvs)/\∀ p,H p=xp->Q (.ref p) (upd H p (MC p d)):=by
 intro pins s σ H x xs v us Q I rx rs h;obtain⟨d,kvs,rfl,rfl,hd,q⟩:=h;cases rx;cases rs;obtain⟨lo,_,es,ep,r,_,_⟩:=qV I (.inl hd);refine CQ lo r ?_;have e1:(s.heap.push { cls:=.type "dict_values",data:=.fields #[.ref d] }).get? s.heap.objs.size=xo { cls:=.type "dict_values",data:=.fields #[.ref d] }:=bv _ rfl;refine⟨.ref _,_,I.laid (t':=s.toks) (fun b u q=>aw _ q) (bf _) ?_,rfl,q _ (I.hok.fresh (bf _))⟩;exact⟨⟨_,e1,rfl,rfl⟩,⟨_,e1⟩,fun h1 h2 z k=>let ⟨o,y1,y2⟩:=z;⟨o,k o y1,y2⟩⟩
theorem vF {a:af}{c:Nat} (r:Vals xs vs) (hz:xs.length<=sizeLine) (e:h.get? a=xo (hW "list" vs.toArray c)):ObjOk P w H h a (.lst xs):=⟨hz,vs,c,r,e⟩
theorem Ab (hl:vs.length=xs.length) (h:∀(j:Nat) (v:ag),vs[j]?=xo v->∃ x,xs[j]?=xo x/\RelV x v):Vals xs vs:=by
 induction vs generalizing xs with
 |nil=>
  cases xs with
  |nil=>exact .nil
  |cons _ _=>cases hl
 |cons v vs ih=>
  cases xs with
  |nil=>cases hl
  |cons x xs=>
   obtain⟨y,e,r⟩:=h 0 v rfl;simp at e;subst e;exact .cons r (ih (by simpa using hl) fun j u hu=>by simpa using h (j+1) u (by simpa using hu))
theorem zK (hc:X.calm=true):CallR X (.builtin "sorted") (fun xs H Q=>∃ v d kvs,xs=[.ref v]/\H v=xo (MC v d)/\H d=xo (.dT kvs)/\kvs.length<2/\∀ l,H l=xp->Q (.ref l) (upd H l (.lst (kvs.map (·.2))))):=by
 intro pins s σ H xs us Q I r h;obtain⟨v,d,kvs,rfl,hv,hd,hl,q⟩:=h;obtain⟨u,rfl,rx⟩:=lA r;cases rx;obtain⟨lo,hz,es,ep,rd,sz,it⟩:=qV I (.inl hd);have vw:s.heap.IsValuesView v d:=(show ObjOk X.prog X.w H s.heap v (MC v d) from I.hok v _ hv).1;refine pB (sS (d:=d) (es:=es) (ep:=ep)) (I.ok.hd hc) ⟨vw,rd⟩ (by rw[sz];exact hl) fun h' tk vs a c kp na hlen hP ha=> ?_;have rv:Vals (kvs.map (·.2)) vs:=Ab (by rw[hlen,sz,ak]) fun j w hw=>by
  obtain⟨y,y1,y2⟩:=hP j w hw;obtain⟨p,p1,p2,_⟩:=it j y y1;exact⟨p.2,by rw[ay,p1];rfl,by rw[y2];exact p2⟩
 obtain⟨hn,I'⟩:=I.laidN (t':=tk) kp na (vF (H:=upd H a (.lst (kvs.map (·.2)))) rv (by rw[ak];exact hz) ha);exact⟨.ref a,_,I',rfl,q a hn⟩
end
section
variable {X:Cx}{pins:List (af×Obj)}{σ:St}{H:Hp}{s:aq}{d:af}{kvs:List (List Key×V)}{o:Obj}
theorem Cd (x:HOk P w H h) (hd:H d=xo u) (h1:∀ y,u≠ .own y) (h2:∀ ys,u≠ .tup ys) (new:ObjOk P w (upd H d u') h d u'):HOk P w (upd H d u') h:=fun b v e=>by
 by_cases hb:b=d
 ·subst hb;rw[aP] at e;cases e;exact new
 ·rw[aG hb] at e;exact(x b v e).stay (fun c q _ z=>z) (fun c q=>by rw[aG (fun z=>by rw[z,hd] at q;exact h1 _ (b3 q))];exact q) fun c xs q=>by rw[aG (fun z=>by rw[z,hd] at q;exact h2 _ (b3 q))];exact q
theorem BU (x:ObjOk P w H h b v) (hd:H d=xo u) (h1:∀ y,u≠ .own y) (h2:∀ ys,u≠ .tup ys):ObjOk P w (upd H d u') h b v:=
 x.stay (fun c q _ z=>z) (fun c q=>by rw[aG (fun z=>by rw[z,hd] at q;exact h1 _ (b3 q))];exact q) fun c xs q=>by rw[aG (fun z=>by rw[z,hd] at q;exact h2 _ (b3 q))];exact q
theorem _root_.L2.Inv.frozen (I:Inv X pins σ H s) (hd:H d=xo (.dT kvs)) (ho:s.heap.get? d=xo o):Inv X pins σ (upd H d (.frz o (.dT kvs))) s:=by
 have nn:∀ b,H b=xp->upd H d (.frz o (.dT kvs)) b=xp:=fun b e=>by rw[aG (fun z=>by rw[z,hd] at e;cases e)];exact e
 refine⟨I.ok,I.os,I.bare,⟨I.base.keep,I.base.slot,fun b u e n x=>nn b (I.base.free b u e n x),I.base.there,fun b xs e=> ?_,fun b u v e=> ?_,fun b ps e=> ?_⟩,I.loc,I.cell,nn _ I.free,fun x c e=>nn _ (I.freeC x c e),fun p hp=> ?_,Cd I.hok hd (fun _ z=>nomatch z) (fun _ z=>nomatch z) ⟨ho,BU (I.hok d _ hd) hd (fun _ z=>nomatch z) (fun _ z=>nomatch z)⟩,I.len⟩
 ·have z:=I.base.tups b xs e;rw[aG (fun q=>by rw[q,hd] at z;cases z)];exact z
 ·have z:=I.base.frzs b u v e;rw[aG (fun q=>by rw[q,hd] at z;cases z)];exact z
 ·obtain⟨m,z⟩:=I.base.tbls b ps e;exact⟨m,by rw[aG (fun q=>by rw[q,hd] at z;cases z)];exact z⟩
 ·obtain⟨z1,z2,z3⟩:=I.pin p hp;exact⟨z1,nn _ z2,z3⟩
theorem _root_.L2.Inv.thawed (I:Inv X pins σ H s) (hd:H d=xo (.frz o (.dT kvs))) (hn:∀ o u,X.H₀ d≠xo (.frz o u)):Inv X pins σ (upd H d (.dT kvs)) s:=by
 have nn:∀ b,H b=xp->upd H d (.dT kvs) b=xp:=fun b e=>by rw[aG (fun z=>by rw[z,hd] at e;cases e)];exact e
 refine⟨I.ok,I.os,I.bare,⟨I.base.keep,I.base.slot,fun b u e n x=>nn b (I.base.free b u e n x),I.base.there,fun b xs e=> ?_,fun b u v e=> ?_,fun b ps e=> ?_⟩,I.loc,I.cell,nn _ I.free,fun x c e=>nn _ (I.freeC x c e),fun p hp=> ?_,Cd I.hok hd (fun _ z=>nomatch z) (fun _ z=>nomatch z) (BU (show ObjOk X.prog X.w H s.heap d (.dT kvs) from(I.hok d _ hd).2) hd (fun _ z=>nomatch z) (fun _ z=>nomatch z)),I.len⟩
 ·have z:=I.base.tups b xs e;rw[aG (fun q=>by rw[q,hd] at z;cases z)];exact z
 ·have z:=I.base.frzs b u v e;rw[aG (fun q=>hn u v (by rw[<- q];exact e))];exact z
 ·obtain⟨m,z⟩:=I.base.tbls b ps e;exact⟨m,by rw[aG (fun q=>by rw[q,hd] at z;cases z)];exact z⟩
 ·obtain⟨z1,z2,z3⟩:=I.pin p hp;exact⟨z1,nn _ z2,z3⟩
end
noncomputable def Itk (d:af) (o:Obj) (kvs:List (List Key×V)):It:=
 ⟨fun i H=>H d=xo (.frz o (.dT kvs))/\i<kvs.length,fun i H x H'=>H'=H/\∃ b p,x=.ref b/\kvs[i]?=xo p/\H b=xo (.tup (p.1.map kV)),fun i H=>H d=xo (.frz o (.dT kvs))/\kvs.length<=i⟩
theorem Ef {K:aa} (d it:af) (o:Obj) (kvs:List (List Key×V)) (es:Array lm) (ep:Nat) (hod:o.data=.dict es ep) (hsz:es.size=kvs.length):JR P w K tg (Itk d o kvs) [it] it (fun i h=>h.IsKeyIter it d i es.size ep) where
 mem:=by simp
 obj:=fun i h st b hb=>by
  have e:b=it:=by simpa using hb
  subst e;obtain⟨o,e,c,d⟩:=st;exact⟨o,e,fun v z=>by rw[d] at z;cases z⟩
 keep:=fun i h h' st k=>let ⟨o,e,z⟩:=st;⟨o,k it (by simp) o e,z⟩
 item:=by
  intro X hP hw hK hc i pins s σ H E I hf st hg;subst hP hw hK;obtain⟨hd,hi⟩:=hg;obtain⟨f0,f1,f2,f3,f4,f5⟩:=hf it (by simp);obtain⟨lo,_,es',ep',⟨o',r1,r2,r3⟩,sz,its⟩:=qV I (.inr ⟨o,hd⟩);have ho:s.heap.get? d=xo o:=(I.hok d _ hd).1;rw[ho] at r1;cases r1;rw[hod] at r3;cases r3;have hi':i<es.size:=by rw[hsz];exact hi
  obtain⟨p,p1,_,a,p2,p3⟩:=its i es[i] (by simp[hi']);refine xQ (e:=es[i]) st ⟨o,ho,r2,hod⟩ (by simp[hi']) fun h' st' sb=> ?_;have I1:Inv X pins σ H { s with heap:=h' }:=I.turned (t':=s.toks) (fun b o hb e=>(sb.2 b hb).trans e) f0 f1 f3 f4 f5;obtain⟨oi,e1,c1,d1⟩:=id st';exact⟨_,rfl,FG (s:={ s with heap:=h' }) e1 c1 d1 (by decide) ⟨.ref a,H,I1,p2,⟨rfl,a,p,rfl,p1,p3⟩,st',fun b hb=>(hf b hb).1⟩⟩
 done:=by
  intro X hP hw hK hc i pins s σ H E I hf st hg;subst hP hw hK;obtain⟨hd,hi⟩:=hg;obtain⟨f0,f1,f2,f3,f4,f5⟩:=hf it (by simp);obtain⟨lo,_,es',ep',⟨o',r1,r2,r3⟩,sz,its⟩:=qV I (.inr ⟨o,hd⟩);have ho:s.heap.get? d=xo o:=(I.hok d _ hd).1;rw[ho] at r1;cases r1;exact BK (I.ok.hd hc) st ⟨o,ho,r2,hod⟩ (by rw[hsz];exact hi) fun h' eb=>⟨rfl,I.turned (t':=s.toks) (fun b o hb e=>eb b o hb e) f0 f1 f3 f4 f5⟩
 self:=fun _ _ _ _ _ st h=>um st h
def OU (H₀:Hp) (to:TE):TI:=fun σ H R=>to σ H fun x H1=>∃ d kvs,x=.ref d/\H1 d=xo (.dT kvs)/\∀ o,(∀ o' u,H₀ d≠xo (.frz o' u))->R (Itk d o kvs) (upd H1 d (.frz o (.dT kvs)))
section
variable {X:Cx}{cls exC:Nat->af}{E:XE}{e a b c o i value tg iter:bw}{es rest:List bw}{fa fb fc fo fi fv:OG D}{fl:OG (List D)}{ft ft':OG Bool}{pos p apos pos' cpos:Pos}{x m:Str}{st:cx}{body:List cx}{F:OS}
theorem Kr (ho:PE X iter to):PI X tg iter (OU X.H₀ to):=by
 intro pins s σ H R I h;refine thn (ho pins s σ H _ I h) fun v s1 ⟨x,H1,I1,rx,d,kvs,ex,hd,q⟩=> ?_;subst ex;cases rx;obtain⟨lo,_,es,ep,⟨o,r1,r2,r3⟩,sz,its⟩:=qV I1 (.inl hd);have nf:∀ o' u,X.H₀ d≠xo (.frz o' u):=fun o' u z=>by
  have:=I1.base.frzs d o' u z
  rw[hd] at this;cases this
 have I2:=I1.frozen hd r1;refine xR lo ⟨o,r1,r2,r3⟩ ?_;have nd:d≠s1.heap.objs.size:=ci (bh r1);have hn:upd H1 d (.frz o (.dT kvs)) s1.heap.objs.size=xp:=by rw[aG (bz nd)];exact I1.hok.fresh (bf _)
 refine⟨s1.heap.objs.size,[s1.heap.objs.size],_,Itk d o kvs,_,rfl,I2.kept (t':=s1.toks) (fun b u e=>aw _ e),Ef d _ o kvs es ep r3 sz,⟨_,bv _ rfl,rfl,rfl⟩,fun b hb=> ?_,q o nf⟩;have e:b=s1.heap.objs.size:=by simpa using hb
 subst e;exact(I1.fpOk (bf _) hn)
noncomputable def Mo (H₀:Hp) (D:CG):CG:={ nx:=fun σ H=>∃ d o kvs,H d=xo (.frz o (.dT kvs))/\(∀ o' u,H₀ d≠xo (.frz o' u))/\D.nx σ (upd H d (.dT kvs)),rt:=fun _ _=>False }
theorem Kj (hp:PassesOwn (model X.prog X.w) X.A X.env X.xe) (hc:X.calm=true) (ho:PE X iter to) (hg:PG X tg g) (hb:PSs X body tb) (hs:∀ x,gp iter X.env x=pure x:=by intro _;rfl):
  PS X (.For tg iter body [] pos) (fun D σ H=>Qc (OU X.H₀ to) g tb (Mo X.H₀ D) σ H):=fun pins s σ H D I h=>by
 refine thn (Jv (pos:=pos) hp hc (Kr ho) hg hb hs pins s σ H (Mo X.H₀ D) I h) fun f s' z=> ?_;cases f with
 |next=>
  obtain⟨σ',H',I',d,o,kvs,h1,h2,h3⟩:=z;exact⟨σ',_,I'.thawed h1 h2,h3⟩
 |brk=>obtain⟨_,_,_,q⟩:=z;exact q.elim
 |cont=>obtain⟨_,_,_,q⟩:=z;exact q.elim
 |ret u=>obtain⟨_,_,_,_,_,q⟩:=z;exact q.elim
noncomputable def bI (k:List Key):D:=.tup (k.map ofK)
noncomputable def sV:List (List Key×D)->List (List Key×D)->Bool
 |[],[]=>true
 |a::as,b::bs=>decide (a.1=b.1)&&fL a.2 b.2&&sV as bs
 |_,_=>false
theorem xM:∀ {a b:List (List Key×D)},sV a b=true->a=b
 |[],[],_=>rfl
 |[],_::_,h=>nomatch h
 |_::_,[],h=>nomatch h
 |a::as,b::bs,h=>by
  simp only[sV,br,decide_eq_true_eq] at h;rw[xM h.2,show a=b from Prod.ext h.1.1 (BI _ _ h.1.2)]
noncomputable def yL (n:Nat) (kvs:List (List Key×D)) (ω:Om):Bool:=match ω[n]? with
 |some (.dz k)=>sV k kvs
 |_=>false
theorem Ij (h:yL n kvs ω=true):ω[n]?=xo (.dz kvs):=by
 unfold yL at h;split at h
 ·rename_i k e
  rw[xM h] at e;exact e
 ·cases h
noncomputable def Dy (ω:Om) (d:D):Option (Nat×List (List Key×D)):=match d with
 |.obj n=>match ω[n]? with
  |some (.dt kvs)=>xo (n,kvs)
  |_=>xp
 |_=>xp
theorem FU (h:Dy ω d=xo (n,kvs)):d=.obj n/\ω[n]?=xo (.dt kvs):=by
 unfold Dy at h;split at h
 ·split at h
  ·cases h;exact⟨rfl,‹_›⟩
  ·cases h
 ·cases h
noncomputable def Ka (fo:OG D) (bd:BR) (F:OS):OS:=oX fo fun d ρ ω=>(Dy ω d).bind fun p=>match bO bd (yL p.1 p.2) F (p.2.map fun kv=>bI kv.1) ρ (ω.set p.1 (.dz p.2)) with
 |some (.nx ρ',ω')=>if yL p.1 p.2 ω'=true then xo (.nx ρ',ω'.set p.1 (.dt p.2)) else xp
 |_=>xp
theorem OO {K:aa} (k:Key):Rep K ok H (kV k) (ofK k):=by
 cases k with
 |inl i=>exact .int i
 |inr x=>exact .str x
theorem Au {K:aa}:∀ ks:List Key,Reps K ok H (ks.map kV) (ks.map ofK)
 |[]=>.nil
 |k::ks=>.cons (OO k) (Au ks)
end
section
variable {X:Cx}{cls exC:Nat->af}{E:XE}{e a b c o i value tg iter:bw}{es rest:List bw}{fa fb fc fo fi fv:OG D}{fl:OG (List D)}{ft ft':OG Bool}{pos p apos pos' cpos:Pos}{x m:Str}{st:cx}{body:List cx}{F:OS}
noncomputable def GW (bd:BR) (f:OG D):OS:=oX f fun d ρ ω=>(bd d ρ).map fun ρ'=>(.nx ρ',ω)
theorem KN (he:OE X cls E e fa) (hg:PG X tg (gR X.K bd)) (hs:ut [tg] e pos.line X.env=pure false:=by rfl) (hw:uu [tg] e X.env=pure xp:=by rfl)
  (h1:(lq [tg] X.env).map (·.2)=[assign tg X.env]:=by rfl):OSt X cls E (.Assign [tg] e pos) (GW bd fa):=(Jw he hg hs hw h1).imp fun D σ H ⟨ok,ρ,ω,oo,ω',P,e,q⟩=>by
 refine tO.thenS P e q fun d ω1 v ok1 H1 e1 n1 P1 r1 q1=> ?_;obtain⟨ρ',e2,e3⟩:=aH e1;cases e3;exact⟨ok1,ρ,ρ',d,P1.env,P1.len,r1,e2,fun σ' env len=>q1 ok1 H1 σ' (.refl P1.okh P1.st) env len⟩
noncomputable def oIA (g:List D->Option (List D)) (f:OG (List D)):OI':=oB f fun ds _ ω=>oR (pu ((g ds).map fun xs=>(xs,bK)) ω)
theorem ES (hg:Gl X "range") (hm:X.mg "range"=xp) (ha:OA X cls E [a] fl) (hs:au [a] X.env=[(false,eval a X.env)]:=by rfl):OI X cls E tg (.Call (.Name "range" p) [a] [] pos) (oIA gN fl):=
 PI.imp (EI hg hm ha hs) fun σ H R ⟨ok,ρ,ω,r,ω',P,e,q⟩=>by
  refine tOA.then_ P e (fun c z=>by subst z;exact q) fun ds ω1 vs ok1 H1 e1 n1 P1 r1=> ?_;obtain⟨⟨dz,chk⟩,e3,rfl⟩:=cK e1;obtain⟨ue3,rfl⟩:=cQ e3;obtain⟨xs,e4,e5⟩:=aH ue3;cases e5;unfold gN at e4;split at e4
  ·obtain⟨⟨hl,hh⟩,rfl⟩:=bJ e4;obtain⟨v,rfl,rv⟩:=r1.one_inv;obtain rfl:=rv.int_inv;exact⟨_,rfl,by omega,by omega,q _ ok1 H1 n1 itD_range.toO⟩
  ·cases e4
end
noncomputable def jJ (K:aa) (ns:List Str) (n:Nat):af:=match cr K ce (ns.getD n "") with
 |some (xo (.ref a))=>a
 |_=>0
theorem oN {K:aa} (hx:ns.getD n ""=x) (h:cr K ce x=xo (xo (.ref a))):jJ K ns n=a:=by
 unfold jJ;rw[hx,h]
structure nG (P:da) (w:dh) (K:aa) (mg:Str->Option ag) (base:c5) (cls exC:Nat->af) (k:Nat) (x:Str) (ps:List Str) (φ:eC):Prop where
 ex:∃ f fd,sO P w K mg base (CX1 P w exC) k f fd ps (spO cls exC K φ)/\mg x=xo (.ref f)/\gu K (.ref f)=true/\Binds K fd ps []
structure rQ (P:da) (w:dh) (K:aa) (mg:Str->Option ag) (base:c5) (cls exC:Nat->af) (k c:Nat) (m:Str) (ps:List Str) (φ:eC):Prop where
 ex:∃ f fd,sO P w K mg base (CX1 P w exC) k f fd ps (spO cls exC K φ)/\Js K (cls c) m f/\Binds K fd ps []
 cl:Cls K (cls c)
structure PP (P:da) (w:dh) (K:aa) (mg:Str->Option ag) (base:c5) (cls exC:Nat->af) (k c:Nat) (x:Str) (ps:List Str) (φ:eC):Prop where
 ex:∃ f fd,sO P w K mg base (CX1 P w exC) k f fd ps (spO cls exC K φ)/\Mk K (cls c) f/\Binds K fd ps []
 at_:mg x=xo (.ref (cls c))
section
variable {X:Cx}{cls exC:Nat->af}{E:XE}{e a b c o i value:bw}{es:List bw}{fa fb fo fi fv:OG D}{fl:OG (List D)}{pos p apos pos':Pos}{x m:Str}{cn k:Nat}{ps:List Str}{φ:eC}
theorem HM (F:nG X.prog X.w X.K X.mg X.base cls exC k x ps φ) (hr:Room k X.A) (hg:Gl X x) (hx:Pas X exC E) (ha:OA X cls E (e::es) fl) (hdb:(x==("__debug__":Str))=false:=by decide)
  (he:au (e::es) X.env=(false,eval e X.env)::au es X.env:=by rfl) (hpl:(db pos (au es X.env)).any (·.1)=false:=by rfl):OE X cls E (.Call (.Name x p) (e::es) [] pos) (bL φ fl):=by
 obtain⟨f,fd,h1,h2,h3,h4⟩:=F.ex;exact Lo h1 hr hg h2 h3 h4 hx ha hdb he hpl
theorem Lh (F:rQ X.prog X.w X.K X.mg X.base cls exC k cn m ps φ) (hr:Room k X.A) (hx:Pas X exC E) (ho:OE X cls E o fo) (ha:OA X cls E (e::es) fl)
  (hst:au (e::es) X.env=(false,eval e X.env)::au es X.env:=by rfl) (hpl:(db pos (au es X.env)).any (·.1)=false:=by rfl)
  (ht:eval (.Call (.Attribute o m apos) (e::es) [] pos) X.env=(do
   let ov <- eval o X.env
   ng apos.atName
   let (f,first) <- holding [ov] (mm ov m pl)
   qv pos f first (db pos (au (e::es) X.env)) (j8 pos (ir [] X.env))):=by rfl):
  OE X cls E (.Call (.Attribute o m apos) (e::es) [] pos) (bH cn m φ fo fl):=by
 obtain⟨f,fd,h1,h2,h4⟩:=F.ex;exact Lg (pl:=pl) ho F.cl h2 h1 hr h4 hx ha hst hpl ht
theorem HK (F:rQ X.prog X.w X.K X.mg X.base cls exC k cn m ps φ) (hr:Room k X.A) (hx:Pas X exC E) (ho:OE X cls E o fo)
  (ht:eval (.Call (.Attribute o m apos) [] [] pos) X.env=(do
   let ov <- eval o X.env
   ng apos.atName
   let (f,first) <- holding [ov] (mm ov m pl)
   qv pos f first (db pos (au [] X.env)) (j8 pos (ir [] X.env))):=by rfl):
  OE X cls E (.Call (.Attribute o m apos) [] [] pos) (bH cn m φ fo aM):=by
 obtain⟨f,fd,h1,h2,h4⟩:=F.ex;exact HJ (pl:=pl) ho F.cl h2 h1 hr h4 hx ht
theorem Lj (F:PP X.prog X.w X.K X.mg X.base cls exC k cn x ps φ) (hr:Room (k+1) X.A) (hg:Gl X x) (hx:Pas X exC E) (ha:OA X cls E (e::es) fl) (hdb:(x==("__debug__":Str))=false:=by decide)
  (he:au (e::es) X.env=(false,eval e X.env)::au es X.env:=by rfl) (hpl:(db pos (au es X.env)).any (·.1)=false:=by rfl):OE X cls E (.Call (.Name x p) (e::es) [] pos) (vB cn φ fl):=by
 obtain⟨f,fd,h1,h2,h3⟩:=F.ex;exact Li h2 h1 hr hg F.at_ h3 hx ha hdb he hpl
end
theorem LA {K:aa}{ns:List Int} (h:φ [.scr (ns.map D.int)] []=xo (.ok (.bl true),ω')) (hS:SqL K H a (ns.map V.int)):spO cls exC K φ [.ref a] H (fun v _=>v=.bl true) fun _ _ _=>False:=by
 refine⟨Okk.all,[],[.scr (ns.map D.int)],.ok (.bl true),ω',⟨fun _ _=>trivial,fun _ _ _=>trivial⟩,⟨fun n ob e=>by simp at e,(fun _ _ e=>nomatch e),(fun _ _ _ e=>nomatch e),(fun _ _ e=>nomatch e)⟩,.cons (.scr ?_ (Reps.ints ns)) .nil,h,fun v ok' H' _ r=>r.bl_inv⟩;rcases hS with h|h
 ·exact .inl ⟨trivial,h⟩
 ·exact .inr h
theorem law_walkO {l:wu}{K:Params->aa} (hn:l.most=xo 63) (hdf:d.params.defaults=[]) (hr:Room k pq)
  (hY:∀(w:dh) (h:c5),YP w h->(K w.params).In h) (hφ:∀ ns:List Int,ns.length<=63->∃ ω',φ [.scr (ns.map D.int)] []=xo (.ok (.bl true),ω'))
  (F:∀(w:dh) (mg:Str->Option ag) (fa:af) (h:c5),(K w.params).In h->h.Ns ce mg->mg d.name=xo (.ref fa)->
   ∃ fd:jw,(∀(s:aq) (u:ag),t8 s fd ⟨[u],[]⟩ [(x,u)])/\∀ base:c5,(K w.params).In base->base.Ns ce mg->sO l.prog w (K w.params) mg base (CX1 l.prog w (jJ (K w.params) es)) k fa fd [x] (spO (jJ (K w.params) cs) (jJ (K w.params) es) (K w.params) φ)):
  xj q loose XP YP l.row.toRowW d [] (fun f vs=>wt f vs):=
 L2.walk_of (n:=63) (k:=k) (x:=x) (CX:=fun w=>CX1 l.prog w (jJ (K w.params) es)) (sp:=fun w=>spO (jJ (K w.params) cs) (jJ (K w.params) es) (K w.params) φ) hn (by decide) hdf hr hY F (fun _ _ a ns hl _ hS=>let ⟨_,h⟩:=hφ ns hl;LA h hS) fun _ _ _ _ _ ⟨_,_,_,_,_,_,_,_,_,_,z⟩=>z
section
variable {α β:Type}{f h:OG D}{fl:OG (List D)}{ρ:Rho}{ω ω1 ω2 ω3:Om}{a b d:D}{ds:List D}{F G:OS}
theorem bF {f:OG α}{g:α->OG β} (e:f ρ ω=xo (.ok x,ω1)):oB f g ρ ω=g x ρ ω1:=by unfold oB;rw[e]
theorem bP {f:OG α} (e:f ρ ω=xo (.ok x,ω1)):oX f g ρ ω=g x ρ ω1:=by unfold oX;rw[e]
theorem QK {f:DF} (e:f ρ=xo d):oP f ρ ω=xo (.ok d,ω):=by unfold oP;rw[e];rfl
theorem aB (e:ρ[i]?=xo (xo d)):oP (DI i) ρ ω=xo (.ok d,ω):=QK (by unfold DI;rw[e];rfl)
theorem aQ:oP (dC d) ρ ω=xo (.ok d,ω):=rfl
theorem dY (e1:f ρ ω=xo (.ok a,ω1)) (e2:h ρ ω1=xo (.ok b,ω2)) (e3:g ω2 a b=xo (d,ω3)):o2 g f h ρ ω=xo (.ok d,ω3):=by
 unfold o2;rw[bF e1,bF e2];show oR (g ω2 a b)=_;rw[e3];rfl
theorem gD (e1:f ρ ω=xo (.ok a,ω1)) (e2:h ρ ω1=xo (.ok b,ω2)) (e3:g a b=xo d):o2 (lf g) f h ρ ω=xo (.ok d,ω2):=dY e1 e2 (by show pu (g a b) ω2=_;rw[e3];rfl)
theorem aD:aM ρ ω=xo (.ok [],ω):=rfl
theorem aA (e1:f ρ ω=xo (.ok a,ω1)) (e2:fl ρ ω1=xo (.ok ds,ω2)):aC f fl ρ ω=xo (.ok (a::ds),ω2):=by
 unfold aC;rw[bF e1,bF e2]
theorem cI (e1:fl ρ ω=xo (.ok ds,ω1)) (e2:g ω1 ds=xo (d,ω2)):oL g fl ρ ω=xo (.ok d,ω2):=by
 unfold oL;rw[bF e1];show oR (g ω1 ds)=_;rw[e2];rfl
theorem aR (e1:fl ρ ω=xo (.ok ds,ω1)) (e2:φ ds ω1=xo (r,ω2)):bL φ fl ρ ω=xo (r,ω2):=by
 unfold bL;rw[bF e1];exact e2
theorem aI (e:f ρ ω=xo (.ok d,ω1)):aF (aU i f) G ρ ω=G (ρ.set i (xo d)) ω1:=by
 unfold aF aU;rw[bP e]
theorem aZ (e:F ρ ω=xo (.nx ρ1,ω1)):aF F G ρ ω=G ρ1 ω1:=by
 unfold aF;rw[e]
theorem cC (e:f ρ ω=xo (.ok (.bl k),ω1)):cA f ρ ω=xo (.ok k,ω1):=by
 unfold cA;rw[bF e];rfl
theorem mO (e:t ρ ω=xo (.ok true,ω1)):dQ t F G ρ ω=F ρ ω1:=by unfold dQ;rw[bP e];rfl
theorem kO (e:t ρ ω=xo (.ok false,ω1)):dQ t F G ρ ω=G ρ ω1:=by unfold dQ;rw[bP e];rfl
theorem bE (e:f ρ ω=xo (.ok d,ω1)):aW f ρ ω=xo (.rt d,ω1):=by unfold aW;rw[bP e]
theorem aT (hl:ds.length=n) (e:G (cB N ds) ω=xo (.rt d,ω1)):eB n N G ds ω=xo (.ok d,ω1):=by
 unfold eB;rw[if_pos hl,e]
theorem OZ (h: -1000000000000000000<j/\j<1000000000000000000):gO (.int i) (.int j)=xo (.int (i*j)):=by
 show(if _ then _ else _)=_
 rw[if_pos (.inr h)]
theorem Pa (h:0<j):cJ (.int i) (.int j)=xo (.int (i % j)):=by
 show(if _ then _ else _)=_
 rw[if_pos h]
end
section
variable {X:Cx}{cls exC:Nat->af}{E:XE}{e a b c o i value tg iter:bw}{es rest:List bw}{fa fb fc fo fi fv:OG D}{fl:OG (List D)}{ft ft':OG Bool}{pos p apos pos' cpos:Pos}{x m:Str}{st:cx}{body:List cx}{F:OS}
theorem Nw.freeze {K:aa}{a:af} (P:OkH ok H) (st:Stt cls K ok H ω) (e:ok.al n=xo a) (h:H a=xo (.dT vs)) (kv:KvR K ok H vs kvs):
  Nw cls K ok H ok (upd H a (.frz oo (.dT vs))) (ω.set n (.dz kvs)):=Nw.write P st e h fun dat=>⟨oo,vs,aP,kv.mono dat fun _ _ z=>z⟩
theorem QO {K:aa}{a:af} (e:ok1.al n=xo a) (h:H1 a=xo (.frz oo (.dT vs))) (kv:KvR K ok1 H1 vs kvs):
  ItO cls K ok1 H1 (yL n kvs) (Itk a oo vs) (kvs.map fun kv=>bI kv.1):=by
 refine⟨fun i ok H ω nw _ hi=>⟨nw.ex.frz _ _ _ h,by rw[kv.length];simpa using hi⟩,fun i ok H ω x H' d nw _ y hd=> ?_,fun i ok H ω nw _ hi=>⟨nw.ex.frz _ _ _ h,by rw[kv.length];simpa using hi⟩⟩;obtain⟨rfl,b,p,rfl,hp,ht⟩:=y;refine⟨Same.refl _,?_⟩;have hk:=kv.keys;have e1:(vs.map (·.1))[i]?=xo p.1:=by rw[ay,hp];rfl
 rw[hk,ay] at e1;obtain⟨q,e2,e3⟩:=aH e1;rw[ay,e2] at hd;cases hd;show Rep K ok _ _ (bI q.1);rw[e3];exact .tup ⟨nw.okh.tp b _ ht,ht⟩ (Au p.1)
theorem Nw.thaw {K:aa}{a:af} (st1:Stt cls K ok1 H1 ω1) (e:ok1.al n=xo a) (h:H1 a=xo (.dT vs)) (nw:Nw cls K ok1 (upd H1 a (.frz oo (.dT vs))) ok H ω) (hc:ω[n]?=xo (.dz kvs)):
  ∃ ws,H a=xo (.frz oo (.dT ws))/\ws=vs/\Nw cls K ok1 H1 ok (upd H a (.dT vs)) (ω.set n (.dt kvs)):=by
 have hf:H a=xo (.frz oo (.dT vs)):=nw.ex.frz _ _ _ aP;have ea:=nw.ex.ids n a e;obtain⟨b,e1,o',vs',e2,kv⟩:=nw.st.cell n _ hc;rw[ea] at e1;cases e1;rw[hf] at e2;cases e2;have na:¬ ok1.p a:=st1.nok n a e;have na':¬ ok.p a:=nw.st.nok n a ea;have dat:∀ b o,ok.p b->H b=xo o->ok.p b/\upd H a (.dT vs) b=xo o:=fun b o k z=>⟨k,by rw[aG (show b≠a from fun w=>na' (w ▸ k))];exact z⟩;refine⟨vs,hf,rfl,⟨⟨fun b o k z=> ?_,nw.ex.ids,fun b o z w=> ?_,fun m b z=> ?_,fun b z=> ?_,fun b k=> ?_,fun b x u z=> ?_⟩,⟨fun b z=> ?_,fun b xs z=> ?_⟩,fun m ob z=> ?_,fun m b z=>by rw[cj];exact nw.st.dom m b z,nw.st.inj,nw.st.nok⟩⟩
 ·have hb:b≠a:=fun w=>na (w ▸ k)
  have:=nw.ex.dat b o k (by rw[aG hb];exact z)
  exact⟨this.1,by rw[aG hb];exact this.2⟩
 ·have hb:b≠a:=fun q=>w n (q ▸ e);rw[aG hb];exact nw.ex.frm b o (by rw[aG hb];exact z) w
 ·rcases nw.ex.new m b z with w|w
  ·exact .inl w
  ·by_cases hb:b=a
   ·rw[hb,aP] at w;cases w
   ·rw[aG hb] at w;exact .inr w
 ·by_cases hb:b=a
  ·rw[hb,aP] at z;cases z
  ·rw[aG hb] at z
   have:=nw.ex.keep b z
   rw[aG hb] at this;exact this
 ·rcases nw.ex.sub b k with w|w
  ·exact .inl w
  ·by_cases hb:b=a
   ·rw[hb,aP] at w;cases w
   ·rw[aG hb] at w;exact .inr w
 ·have hb:b≠a:=fun w=>by rw[w,h] at z;cases z
  rw[aG hb];exact nw.ex.frz b x u (by rw[aG hb];exact z)
 ·by_cases hb:b=a
  ·rw[hb,aP] at z;cases z
  ·rw[aG hb] at z;exact nw.okh b z
 ·by_cases hb:b=a
  ·rw[hb,aP] at z;cases z
  ·rw[aG hb] at z;exact nw.okh.tp b xs z
 ·rcases sU z with⟨rfl,rfl⟩|⟨hm,z⟩
  ·exact⟨a,ea,vs,aP,kv.mono dat fun _ _ z=>z⟩
  ·obtain⟨b,e1,c1⟩:=nw.st.cell m ob z;refine⟨b,e1,c1.mono dat (fun _ _ z=>z) fun u q=> ?_⟩;rw[aG (show b≠a from fun w=>hm (nw.st.inj m n a (w ▸ e1) ea))];exact q
theorem KH (hc:X.calm=true) (ho:OE X.nox cls EF iter fo) (hg:PG X.nox tg (gR X.K bd)) (hb:OSs X.nox cls EF body F) (hs:∀ x,gp iter X.env x=pure x:=by intro _;rfl):
  OSt X cls E (.For tg iter body [] pos) (sNx (Ka fo bd F)):=JC ((Kj (X:=X.nox) wv hc ho hg hb hs).imp fun D σ H ⟨ok,ρ,ω,oo,ω',P,e,q⟩=>by
 refine tO.thenS P e q fun d ω1 v ok1 H1 e1 n1 P1 r1 q1=> ?_;obtain⟨⟨n,kvs⟩,hd,e2⟩:=bind_some e1;obtain⟨rfl,e3⟩:=FU hd;obtain⟨a,rfl,e4,vs,e5,kv⟩:=P1.st.ref r1 e3;refine⟨a,vs,rfl,e5,fun o nf=> ?_⟩;have nf1:Nw cls X.K ok1 H1 ok1 (upd H1 a (.frz o (.dT vs))) (ω1.set n (.dz kvs)):=.freeze P1.okh P1.st e4 e5 kv;dsimp only at e2;split at e2
 ·rename_i ρ' ω2 hF
  obtain⟨hz,e6⟩:=bJ e2;cases e6;refine Co (D:=Mo X.H₀ D) (QO e4 aP (kv.mono nf1.ex.dat nf1.ex.ids)) (P1.nw nf1) hF fun ok2 H2 σ2 nw2 env2 len2=> ?_;obtain⟨ws,w1,rfl,nw3⟩:=Nw.thaw P1.st e4 e5 nw2 (Ij hz);refine⟨a,o,ws,w1,nf,q1 ok2 _ σ2 nw3 ?_ len2⟩;intro j dj ej;obtain⟨u,z1,z2⟩:=env2 j dj ej;refine⟨u,z1,z2.mono (fun b u' k z=>⟨k,?_⟩) fun _ _ z=>z⟩;rw[aG (show b≠a from fun w=>nw2.st.nok n a (nw2.ex.ids n a e4) (w ▸ k))];exact z
 ·cases e2)
end
end L2.MB
end
section
namespace L2.MB
open PySem PySem.Spec PyProof.Rows PySem.Builtin
theorem nodup_ix {xs:List (α×β)} (h:(xs.map (·.1)).Nodup) {i j:Nat} (h1:xs[i]?=xo (k,p)) (h2:xs[j]?=xo (k,q)):i=j:=by
 have a1:(xs.map (·.1))[i]?=xo k:=by rw[ay,h1];rfl
 have a2:(xs.map (·.1))[j]?=xo k:=by rw[ay,h2];rfl
 exact(List.getElem?_inj (bq.mp a1).1 h).mp (a1.trans a2.symm)
theorem EG (d b:af):MeetsIn P w («dict.pop» { pos:=[.ref d,.ref b] }) fun A R s=>
  A.units+1<d7/\∃(xs:List (List Key×af×ag)) (j:Nat) (p:af×ag),iw (b0 (aO P w)) s.heap d xs/\xs.length<=sizeLine/\(b0 (aO P w)).is s.heap k b/\xs[j]?=xo (k,p)/\
   ∀ h' t,iw (b0 (aO P w)) h' d (xs.eraseIdx j)->f7 d s.heap h'->R (.ok (.ret p.2)) { s with heap:=h',toks:=t }:=by
 rintro A R s ⟨hu,xs,j,p,dd,hz,hk,hj,hR⟩;obtain⟨o,es,ep,h1,h2,h3,h4,h5,h6⟩:=dd;obtain⟨oc,od,odt,osl⟩:=o;obtain⟨q1,q2,q3⟩:=h2;dsimp only at q1 q2 q3 h3;subst q1 q2 q3 h3;have hne:es.isEmpty=false:=by
  have:es.toList≠[]:=by
   rw[h4];intro z;rw[List.map_eq_nil_iff] at z;rw[z] at hj;simp at hj
  cases q:es.isEmpty with
  |false=>rfl
  |true=>rw[nq] at q;rw[q] at this;exact absurd rfl this
 have hr:(b0 (aO P w)).room A.in1:=ky hu;have hes:es[j]?=xo (gn (b0 (aO P w)) (k,p)):=by
  rw[<- gv,h4,ay,hj];rfl
 unfold «dict.pop» Dict.keyAndDefault
 repeat (first|with_reducible refine HeapKind.pyHash (b0 (aO P w)) hr hk ?_|(with_reducible refine u0 hr hk h1 rfl h4 h5 h6 (fun z=>absurd hj (z j p)) fun i q hi=> ?_)|wp_step)
 obtain rfl:=nodup_ix h6 hj hi;rw[hes]
 repeat (first|(with_reducible refine uo h1 rfl ?_ ?_ ?_)|wp_step)
 ·have sb:f7 d s.heap (s.heap.update d (ss fun x=>x.eraseIdxIfInBounds j)):=⟨ox _ _ _,fun b hb=>dw _ _ (bz hb)⟩;refine hR _ _ ⟨_,es.eraseIdxIfInBounds j,ep+1,fx _ h1 ?_,⟨rfl,rfl,rfl⟩,rfl,?_,fun x hx=>(b0 (aO P w)).keeps (h5 x (List.mem_of_mem_eraseIdx hx)) h1 rfl sb,?_⟩ sb
  ·rfl
  ·have em:∀(l:List (List Key×af×ag)) (n:Nat),(l.eraseIdx n).map (gn (b0 (aO P w)))=(l.map (gn (b0 (aO P w)))).eraseIdx n:=fun l=>by
    induction l with
    |nil=>intro n;rfl
    |cons x r ih=>intro n;cases n with
     |zero=>rfl
     |succ n=>simp[ih n]
   rw[em,<- h4];unfold Array.eraseIdxIfInBounds;split
   ·simp
   ·rename_i hn
    rw[List.eraseIdx_of_length_le (by simpa using hn)]
  ·exact h6.sublist ((List.eraseIdx_sublist xs j).map _)
 ·have:=congrArg lz h4
  rw[ak,d9] at this;rw[this];exact hz
 ·have:=PySem.size_eraseIdxIfInBounds_le es j
  omega
theorem nC {α β:Type} [DecidableEq α] {k:α}{p:β}:∀ {xs:List (α×β)}{j:Nat},(xs.map (·.1)).Nodup->xs[j]?=xo (k,p)->xs.eraseIdx j=xs.filter fun x=>decide (x.1≠k)
 |[],j,_,h=>by simp at h
 |x::r,0,nd,h=>by
  have h':x=(k,p):=by simpa using h
  subst h';rw[bg,b8] at nd;rw[List.eraseIdx_cons_zero,c7 (by simp)]
  symm
  rw[u3];intro a ha
  have:a.1≠k:=fun z=>nd.1 (az.mpr ⟨a,ha,z⟩)
  simpa using this
 |x::r,j+1,nd,h=>by
  rw[bg,b8] at nd;have h':r[j]?=xo (k,p):=by simpa using h
  have hm:k∈r.map (·.1):=az.mpr ⟨_,f9 h',rfl⟩;have hx:x.1≠k:=fun z=>nd.1 (z ▸ hm);rw[List.eraseIdx_cons_succ,c9 (by simpa using hx),nC nd.2 h']
theorem KT.drop (r:KT H kvs xs) (k:List Key):KT H (yY kvs k) (xs.filter fun x=>decide (x.1≠k)):=by
 induction r with
 |nil=>exact .nil
 |@cons p q ps qs h t ih=>
  unfold yY at ih ⊢
  by_cases e:p.1=k
  ·have e':q.1=k:=h.1.symm.trans e;rw[c7 (by simp[e]),c7 (by simp[e'])];exact ih
  ·have e':¬ q.1=k:=fun z=>e (h.1.trans z);rw[c9 (by simp[e]),c9 (by simp[e'])];exact .cons h ih
theorem Jl {k:List Key} (h:lr xs k=xo p):∃ j:Nat,xs[j]?=xo (k,p):=by
 unfold lr at h;obtain⟨q,e1,e2⟩:=aH h;have m:=qq e1;have e3:=wx e1;obtain⟨j,hj⟩:=j0 m;refine⟨j,?_⟩;rw[hj]
 have:q.1=k:=by simpa using e3
 rw[<- this,<- e2]
section
variable {X:Cx}{pins:List (af×Obj)}{σ:St}{H:Hp}{s:aq}{a b:af}{kvs:List (List Key×V)}{k:List Key}{A:dm}{E:ag->aq->Prop}
theorem Ps (hu:A.units+1<d7) (I:Inv X pins σ H s) (e:H a=xo (.dT kvs)) (eb:H b=xo (.tup (k.map kV))) (l:wX kvs k=xo v)
  (h:∀ w' s',Inv X pins σ (upd H a (.dT (yY kvs k))) s'->RelV v w'->Q w' s'):bc (model X.prog X.w) A (call (.builtin "dict.pop") [.ref a,.ref b]) Q E s:=by
 obtain⟨z,hd,xs,rel,dd⟩:=IU I.hok e;obtain⟨w',hw,rw'⟩:=RelO.some_of (v:=v) (o:=(lr xs k).map (·.2)) (by rw[<- l];exact rel.val k);obtain⟨p,hp,hp2⟩:=n8.mp hw;obtain⟨j,hj⟩:=Jl hp;have hz:xs.length<=sizeLine:=by rw[<- jd rel];exact z
 have nd:(xs.map (·.1)).Nodup:=by obtain⟨_,_,_,_,_,_,_,_,q⟩:=dd;exact q
 refine vj ug dd.typeIs PySem.F.entry_dict_pop (PySem.F.args_dict_pop_2 _ _) (EG (k:=k) a b) ⟨hu,xs,j,p,dd,hz,yG I.hok eb,hj,fun h' t dd' hs=>h p.2 _ ?_ (hp2 ▸ rw')⟩;rw[nC nd hj] at dd';obtain⟨q,es,ep,hq,h2,h3,h4,_,h5⟩:=dd';refine qP I (by rw[e];exact im) hs ⟨q,hq⟩ ⟨cf (IW kvs k) z,hd,_,KT.keeps (KT.drop rel k) fun c ys ec=> ?_,q,es,ep,hq,h2,h3,h4,h5⟩;rw[aG (Ls ec e (fun z=>nomatch z))];exact ec
def Nc:V->List V->Hp->VK->Prop:=fun x xs H Q=>∃ a b kvs k v,x=.ref a/\xs=[.ref b]/\H a=xo (.dT kvs)/\H b=xo (.tup (k.map kV))/\wX kvs k=xo v/\Q v (upd H a (.dT (yY kvs k)))
theorem Lx (hu:X.A.units+1<d7):MtR X "dict.pop" Nc:=by
 intro pins s σ H x xs v us Q I rx rs h;obtain⟨a,b,kvs,k,y,rfl,rfl,ha,hb,l,q⟩:=h;obtain⟨u,rfl,ru⟩:=lA rs;cases rx;cases ru;exact Ps hu I ha hb l fun w' s' I' r=>⟨y,_,I',r,q⟩
end
section
variable {X:Cx}{cls exC:Nat->af}{E:XE}{e a b c o i value:bw}{es rest:List bw}{fa fb fc fo fi fv:OG D}{fl:OG (List D)}{ft ft':OG Bool}{pos p apos pos' cpos:Pos}{x m:Str}{st:cx}
noncomputable def Dm (ω:Om) (d:D):Bool:=match cellOf ω d with
 |some (.dt _)=>true
 |_=>false
theorem Ft (h:Dm ω d=true):∃ n kvs,d=.obj n/\ω[n]?=xo (.dt kvs):=by
 unfold Dm at h;split at h
 ·obtain⟨n,rfl,e⟩:=dO ‹_›;exact⟨n,_,rfl,e⟩
 ·cases h
noncomputable def pO (g:Om->D->List D->Option (D×Om)) (fo:OG D) (fl:OG (List D)):OG D:=oB fo fun d ρ ω=>if Dm ω d=true then oB fl (fun ds _ ω=>oR (g ω d ds)) ρ ω else xp
theorem Os {id:String} (slot:Slot "dict" m id) (hty:typeOf (.builtin id)=pure (.type "method_descriptor")) (hm:MtR X id r) (F:GL cls X.K r g) (ho:OE X cls E o fo) (ha:OA X cls E (e::es) fl)
  (hbase:ij o m X.env (eval o X.env)=eval o X.env:=by rfl)
  (hfew:((db cpos (au (e::es) X.env)).all (fun x=> !x.1)&&(j8 cpos (ir [] X.env)).all (fun x=>x.1.isSome)
   &&decide ((e::es).length+([]:List kr).length+(if([]:List kr).isEmpty then 0 else 1)<30))=true:=by rfl)
  (hline:(apos.endLine==cpos.line)=true:=by rfl) (hs:au (e::es) X.env=(false,eval e X.env)::au es X.env:=by rfl) (hplain:(db cpos (au es X.env)).any (·.1)=false:=by rfl):
  OE X cls E (.Call (.Attribute o m apos) (e::es) [] cpos) (pO g fo fl):=
 (NC rp slot hty hm ho ha hbase hfew hline hs hplain).imp fun σ H Q ⟨ok,ρ,ω,r,ω',P,e,q⟩=>by
  refine tO.then_ P e (fun c z=>by subst z;exact q) fun d ω1 v ok1 H1 e1 n1 P1 r1=> ?_;obtain⟨hi,e1⟩:=cR e1;obtain⟨n,ds0,rfl,e2⟩:=Ft hi;obtain⟨a,rfl,e4,xs,e5,rs⟩:=P1.st.ref r1 e2;refine⟨.inr (.inr (.inl ⟨rfl,.inr ⟨xs,e5⟩⟩)),?_⟩;refine tOA.then_ P1 e1 (fun c z=>by subst z;exact exR.nw q n1) fun ds ω2 us ok2 H2 e6 n2 P2 r2=> ?_;obtain⟨y,e7,rfl⟩:=cK e6;exact F ok2 H2 ω2 _ us _ ds y ω' Q P2.okh P2.st (r1.ex n2.ex) r2 e7 fun w ok3 H3 n3 r3=>q w ok3 H3 (n1.trans (n2.trans n3)) r3
noncomputable def FT (ω:Om) (d:D) (as:List D):Option (D×Om):=match d,as with
 |.obj n,[y]=>match ω[n]? with
  |some (.dt kvs)=>(DY y).bind fun k=>(iI kvs k).map fun v=>(v,ω.set n (.dt (eA kvs k)))
  |_=>xp
 |_,_=>xp
theorem IH {K:aa}:GL cls K Nc FT:=fun ok H ω x xs a as d ω' Q h1 st ra rs e k=>by
 unfold FT at e;split at e
 ·rename_i n y
  split at e
  ·rename_i kvs hc
   obtain⟨ks,e8,e⟩:=bind_some e;obtain⟨v,e9,e10⟩:=aH e;cases e10;obtain⟨a1,rfl,e4,vs,e5,kv⟩:=st.ref ra hc;obtain⟨w,rfl,rw'⟩:=rs.one_inv;obtain⟨b,rfl,_,hb⟩:=toT'_rep e8 rw';obtain⟨u,l,ru⟩:=kv.val e9;refine⟨a1,b,vs,ks,u,rfl,rfl,e5,hb,l,?_⟩;have nw:=Nw.write (o:=.dT (yY vs ks)) (ob:=.dt (eA kvs ks)) h1 st e4 e5 fun dat=>⟨_,aP,(KvR.drop (k:=ks) kv).mono dat fun _ _ z=>z⟩;exact k _ ok _ nw (ru.ex nw.ex)
  ·cases e
 ·cases e
theorem Lb (hu:X.A.units+1<d7) (ho:OE X cls E o fo) (ha:OA X cls E [e] fl) (hbase:ij o "pop" X.env (eval o X.env)=eval o X.env:=by rfl)
  (hfew:((db cpos (au [e] X.env)).all (fun x=> !x.1)&&(j8 cpos (ir [] X.env)).all (fun x=>x.1.isSome)
   &&decide ([e].length+([]:List kr).length+(if([]:List kr).isEmpty then 0 else 1)<30))=true:=by rfl)
  (hline:(apos.endLine==cpos.line)=true:=by rfl) (hs:au [e] X.env=(false,eval e X.env)::au [] X.env:=by rfl) (hplain:(db cpos (au [] X.env)).any (·.1)=false:=by rfl):
  OE X cls E (.Call (.Attribute o "pop" apos) [e] [] cpos) (pO FT fo fl):=Os ug PySem.F.type_dict_pop (Lx hu) IH ho ha hbase hfew hline hs hplain
end
end L2.MB
end
section
namespace L2.MB
open PySem PySem.Spec PyProof.Rows PySem.Builtin
section
variable {P:da}{w:dh}{K:Type} [DecidableEq K] {knd:HeapKind P w K}{A:dm}{E:ag->aq->Prop}{s:aq}{d a:af}{xs ys:List (K×af×ag)}{k:K}{v:ag}{Q:Unit->aq->Prop}
theorem uH (h:∀(j:Nat) (p:af×ag),xs[j]?≠xo (k,p)):lr xs k=xp:=by
 unfold lr;rw[Option.map_eq_none_iff,vk];intro x hx;obtain⟨j,hj⟩:=j0 hx;intro z;have e:x.1=k:=by simpa using z
 exact h j x.2 (by rw[hj,<- e])
theorem DM {j:Nat} (h:xs[j]?=xo (k,p)):(lr xs k).isSome=true:=by
 unfold lr;rw[qj,List.find?_isSome];exact⟨(k,p),f9 h,by simp⟩
theorem CY (nd:(xs.map (·.1)).Nodup) (h:xs[j]?=xo (k,p)):(xs.map (gn knd)).modify j (fun e=>{ hash:=e.hash,key:=e.key,val:=v })=(xs.map (sh k v)).map (gn knd):=by
 apply iq;intro i;rw[List.getElem?_modify,ay,ay,ay];cases q:xs[i]? with
 |none=>rfl
 |some x=>
  show xo _=xo _
  by_cases e:j=i
  ·subst e;rw[h] at q;cases q;simp[sh,gn]
  ·have hx:x.1≠k:=fun z=>e (nodup_ix nd h (show xs[i]?=xo (k,x.2) by rw[q,<- z]));simp[sh,e,hx]
theorem Ih:(xs.map (sh k v)).map (·.1)=xs.map (·.1):=by
 rw[fj];apply eu;intro x _;unfold sh
 show(if _ then _ else _:K×af×ag).1=_
 split <;> rfl
theorem GU (hr:knd.room A) (hk:knd.is s.heap k a) (hd:iw knd s.heap d xs) (hz:xs.length<=sizeLine) (h:∀ h',iw knd h' d (jv xs k a v)->f7 d s.heap h'->Q () { s with heap:=h' }):
  bc (model P w) A (dictSetHashed d (.ref a) (knd.hash k) v) Q E s:=by
 obtain⟨o,es,ep,h1,h2,h3,h4,h5,h6⟩:=hd;obtain⟨oc,od,odt,osl⟩:=o;obtain⟨q1,q2,q3⟩:=h2;dsimp only at q1 q2 q3 h3;subst q1 q2 q3 h3;have hs:es.size=xs.length:=by
  have:=congrArg lz h4
  rw[ak,d9] at this;exact this
 unfold dictSetHashed
 repeat (first|(with_reducible refine u0 hr hk h1 rfl h4 h5 h6 (fun hn=> ?none) fun j p hj=> ?some)|(with_reducible refine uo h1 rfl ?main ?sz ?gr)|wp_step)
 case main=>
   have sb:f7 d s.heap (s.heap.update d (ss fun x=>x.push { hash:=knd.hash k,key:=.ref a,val:=v })):=⟨ox _ _ _,fun b hb=>dw _ _ (bz hb)⟩;have e1:jv xs k a v=xs++[(k,a,v)]:=by
    unfold jv;rw[uH hn];rfl
   refine h _ ⟨_,es.push { hash:=knd.hash k,key:=.ref a,val:=v },ep+1,fx _ h1 rfl,⟨rfl,rfl,rfl⟩,rfl,?_,fun x hx=> ?_,?_⟩ sb
   ·rw[e1,Array.toList_push,h4,b9];rfl
   ·rw[e1] at hx;rcases c6.mp hx with hx|hx
    ·exact knd.keeps (h5 x hx) h1 rfl sb
    ·rw[fg] at hx;subst hx;exact knd.keeps hk h1 rfl sb
   ·rw[e1,b9];refine jy.mpr ⟨h6,by simp,fun x hx y hy z=> ?_⟩;have hy':y=k:=by simpa using hy
    rw[z,hy'] at hx;obtain⟨q,q1,q2⟩:=az.mp hx;obtain⟨j,hj⟩:=j0 q1;exact hn j q.2 (by rw[hj,<- q2])
 case sz=>rw[hs];exact hz
 case gr=>simp
 case some=>
  have e1:jv xs k a v=xs.map (sh k v):=by
   unfold jv;rw[if_pos (DM hj)]
  repeat (first|(with_reducible refine wpAny_updateDict h1 rfl ?_ ?_)|wp_step)
  ·have sb:f7 d s.heap (s.heap.update d (Obj.mapDict fun x=>x.modify j fun e=>{ hash:=e.hash,key:=e.key,val:=v })):=⟨ox _ _ _,fun b hb=>dw _ _ (bz hb)⟩;refine h _ ⟨_,es.modify j fun e=>{ hash:=e.hash,key:=e.key,val:=v },ep,fx _ h1 rfl,⟨rfl,rfl,rfl⟩,rfl,?_,fun x hx=> ?_,?_⟩ sb
   ·rw[e1,Array.toList_modify,h4];exact CY h6 hj
   ·rw[e1] at hx;obtain⟨q,q1,q2⟩:=az.mp hx;subst q2
    have:=knd.keeps (h5 q q1) h1 rfl sb
    unfold sh;split
    ·exact this
    ·exact this
   ·rw[e1,Ih];exact h6
  ·simp
end
section
variable {P:da}{w:dh}{A:dm}{E:ag->aq->Prop}{s:aq}{d o:af}{xs ys:List (List Key×af×ag)}{k:List Key}{v:ag}{Q:Unit->aq->Prop}{id:String}
noncomputable def fR (xs ys:List (List Key×af×ag)):List (List Key×af×ag):=ys.foldl (fun acc y=>jv acc y.1 y.2.1 y.2.2) xs
theorem Ah:(jv xs k a v).length<=xs.length+1:=by
 unfold jv;split
 ·rw[ak];omega
 ·rw[bx,lg];omega
theorem pS:fR xs (ys++[y])=jv (fR xs ys) y.1 y.2.1 y.2.2:=by
 unfold fR;rw[List.foldl_append];rfl
theorem yD:∀ {ys xs:List (List Key×af×ag)},((xs++ys).map (·.1)).Nodup->fR xs ys=xs++ys
 |[],xs,_=>by rw[cu];rfl
 |y::r,xs,nd=>by
  have e1:fR xs (y::r)=fR (jv xs y.1 y.2.1 y.2.2) r:=rfl;have e2:jv xs y.1 y.2.1 y.2.2=xs++[y]:=by
   unfold jv;rw[uH (fun j p hj=> ?_)]
   ·rfl
   ·have m1:y.1∈xs.map (·.1):=az.mpr ⟨_,f9 hj,rfl⟩;rw[b9,jy] at nd;exact nd.2.2 _ m1 _ (az.mpr ⟨y,ar,rfl⟩) rfl
  rw[e1,e2,yD (by rw[fy];exact nd),fy];rfl
theorem Ff (nd:(ys.map (·.1)).Nodup):fR [] ys=ys:=yD (by simpa using nd)
theorem jR (hne:d≠o) (hsys:(o==fk)=false) (hr:(b0 (aO P w)).room A) (hd:iw (b0 (aO P w)) s.heap d xs) (ho:iw (b0 (aO P w)) s.heap o ys) (hz:xs.length+ys.length<=sizeLine)
  (hh:∀(i j:Nat) x y,ys[i]?=xo x->ys[j]?=xo y->(b0 (aO P w)).hash x.1=(b0 (aO P w)).hash y.1->i=j)
  (h:∀ h',iw (b0 (aO P w)) h' d (fR xs ys)->f7 d s.heap h'->Q () { s with heap:=h' }):bc (model P w) A (Dict.mergeDict id d o) Q E s:=by
 have hd0:=hd;obtain⟨o1,es,ep,h1,h2,h3,h4,h5,h6⟩:=hd;obtain⟨oc,od,odt,osl⟩:=o1;obtain⟨q1,q2,q3⟩:=h2;dsimp only at q1 q2 q3 h3;subst q1 q2 q3 h3;obtain⟨o2,fs,fp,g1,g2,g3,g4,g5,g6⟩:=ho;obtain⟨oc,od,odt,osl⟩:=o2;obtain⟨q1,q2,q3⟩:=g2;dsimp only at q1 q2 q3 g3;subst q1 q2 q3 g3;have hn:(d==o)=false:=by simpa using hne
 unfold Dict.mergeDict;simp only[u4];rw[hn];simp only[df,if_false]
 repeat wp_step
 have fl:fs.size=ys.length:=by
  have:=congrArg lz g4
  rw[ak,d9] at this;exact this
 have el:es.size=xs.length:=by
  have:=congrArg lz h4
  rw[ak,d9] at this;exact this
 have few:(decide (fs.size<=8)&&fs.all fun e=>(keyPart e.key).isSome)=decide (ys=[]):=by
  rw[<- wj,g4];cases ys with
  |nil=>simp[fl]
  |cons y r=>simp[gn,keyPart]
 rw[few]
 by_cases hy:ys=[]
 ·rw[decide_eq_true hy];simp only[Bool.not_true,df,if_false];have e0:c4 ([:fs.size]:ke).start ([:fs.size]:ke).size ([:fs.size]:ke).step=[]:=by rw[fl,hy];rfl
  subst hy
  repeat (first|(with_reducible refine qw _ (fun rest _ s'=>rest=[]/\s'=s) _ ?step ?fin _ _ ?init)|wp_step)
  case init=>exact⟨e0,rfl⟩
  case step=>rintro i rest b s' ⟨z,_⟩;cases z
  case fin=>
   rintro b s' ⟨_,rfl⟩
   repeat wp_step
   exact h _ hd0 ⟨rfl,fun _ _=>rfl⟩
 ·rw[decide_eq_false hy];simp only[xf,if_true]
  repeat wp_step
  by_cases hx:xs=[]
  ·have e0:es.isEmpty=true:=by
    rw[nq];apply Array.eq_empty_of_size_eq_zero;rw[el,hx];rfl
   rw[e0];simp only[if_true];unfold Dict.entriesForEmpty
   repeat (first|(with_reducible refine wpAny_forIn_array' _ (fun(rest:List lm) _ s'=>(∀ e∈rest,∃ i:Nat,fs[i]?=xo e)/\s'=s) _ ?step ?fin _ _ ?init)|wp_step)
   case init=>exact⟨fun e he=>by obtain⟨i,hi⟩:=j0 he;exact⟨i,by rw[<- gv];exact hi⟩,rfl⟩
   case step=>
    rintro e rest b s' ⟨hi,rfl⟩;obtain⟨i,hi0⟩:=hi e ar;have hi1:(ys.map (gn (b0 (aO P w))))[i]?=xo e:=by rw[<- g4,gv];exact hi0
    rw[ay] at hi1;obtain⟨y,hy1,rfl⟩:=aH hi1;obtain⟨ot,its,nt,t1,t2,t3,_⟩:=(show IsTupleKey (aO P w) s'.heap y.1 y.2.1 from g5 y (f9 hy1));show bc _ _ (do let __do_lift <- Dict.quietEq (ck y.2.1);_) _ _ _;unfold Dict.quietEq;have small:¬(Array.filter (fun x=>x.hash==(gn (b0 (aO P w)) y).hash) fs).size>1:=by
     have:(fs.filter (fun x=>x.hash==(gn (b0 (aO P w)) y).hash)).toList.length<=1:=by
      rw[Array.toList_filter,g4,List.filter_map,ak];have nd:∀(l:List (List Key×af×ag)),(∀(i j:Nat) x y,l[i]?=xo x->l[j]?=xo y->(b0 (aO P w)).hash x.1=(b0 (aO P w)).hash y.1->i=j)->∀ c:Int,(l.filter ((fun x:lm=>x.hash==c)∘gn (b0 (aO P w)))).length<=1:=by
       intro l
       induction l with
       |nil=>intro _ _;simp
       |cons z r ih=>
        intro hl c;have ih':=ih (fun i j x y h1 h2 e=>by have:=hl (i+1) (j+1) x y (by simpa using h1) (by simpa using h2) e;omega) c
        by_cases hc:(b0 (aO P w)).hash z.1=c
        ·rw[c9 (by simpa [gn] using hc)]
         have:r.filter ((fun x:lm=>x.hash==c)∘gn (b0 (aO P w)))=[]:=by
          rw[List.filter_eq_nil_iff];intro q hq z';obtain⟨j,hj⟩:=j0 hq;have e:(b0 (aO P w)).hash q.1=c:=by simpa [gn] using z'
          have:=hl 0 (j+1) z q (by simp) (by simpa using hj) (hc.trans e.symm)
          omega
         rw[this];simp
        ·rw[c7 (by simpa [gn] using hc)];exact ih'
      exact nd ys hh _
     rw[d9] at this;omega
    repeat wp_step
    rw[t2,show ql (i8 "tuple") (ji "__eq__")=pure (xo (.builtin "tuple.__eq__")) from PySem.F.slot_tuple_eq.lookup]
    repeat wp_step
    rw[if_neg small]
    repeat wp_step
    exact⟨fun e he=>hi e (ai _ he),rfl⟩
   case fin=>
    rintro b s' ⟨_,rfl⟩
    repeat wp_step
    have f0:fs.isEmpty=false:=by
     cases q:fs.isEmpty with
     |false=>rfl
     |true=>
      rw[nq] at q;rw[q] at fl;exact absurd (List.eq_nil_of_length_eq_zero fl.symm) hy
    rw[f0];simp only[xf,if_true];have sb:f7 d s'.heap (s'.heap.update d (ss fun _=>fs)):=⟨ox _ _ _,fun b hb=>dw _ _ (bz hb)⟩;have mg:fR xs ys=ys:=by
     rw[hx];exact Ff g6
    repeat (first|(with_reducible refine wpAny_updateDictKeysTo h1 rfl ?main ?sz)|wp_step)
    case sz=>show fs.size<=_;rw[fl];omega
    case main=>
     refine h _ ⟨_,fs,ep+1,fx _ h1 rfl,⟨rfl,rfl,rfl⟩,rfl,?_,fun x hx'=> ?_,?_⟩ sb
     ·rw[mg];exact g4
     ·rw[mg] at hx';exact(b0 (aO P w)).keeps (g5 x hx') h1 rfl sb
     ·rw[mg];exact g6
  ·have e0:es.isEmpty=false:=by
    cases q:es.isEmpty with
    |false=>rfl
    |true=>
     rw[nq] at q;rw[q] at el;exact absurd (List.eq_nil_of_length_eq_zero el.symm) hx
   rw[e0];simp only[df,if_false];have e1:c4 ([:fs.size]:ke).start ([:fs.size]:ke).size ([:fs.size]:ke).step=c4 0 ys.length:=by
    rw[fl];simp[xn]
   have len:∀ n,n<=ys.length->(fR xs (ys.take n)).length<=xs.length+n:=fun n=>by
    induction n with
    |zero=>intro _;simp[fR]
    |succ n ih=>
     intro hn;have hn':n<ys.length:=hn;rw[oy hn',pS]
     have:=ih (g9 hn')
     exact cf Ah (by omega)
   repeat (first|(with_reducible refine qw _ (fun(rest:List Nat) _ s'=>∃(i:Nat) (h':c5),rest=c4 i (ys.length-i)/\i<=ys.length/\s'={ s with heap:=h' }/\iw (b0 (aO P w)) h' d (fR xs (ys.take i))/\f7 d s.heap h') _ ?step ?fin _ _ ?init)|wp_step)
   case init=>exact⟨0,s.heap,e1,ia _,rfl,hd0,⟨rfl,fun _ _=>rfl⟩⟩
   case step=>
    rintro i rest b s' ⟨j,h',e2,hj,rfl,dd,sb⟩;have hlt:j<ys.length:=by
     rcases ll j ys.length with z|z
     ·exact z
     ·rw[Nat.sub_eq_zero_of_le z] at e2;cases e2
    have e3:ys.length-j=(ys.length-(j+1))+1:=by omega
    rw[e3,kh] at e2;cases e2;have go:h'.get? o=xo { cls:=i8 "dict",data:=xh fs fp }:=(sb.2 o (bz hne)).trans g1;have hes:fs[i]?=xo { hash:=(b0 (aO P w)).hash ys[i].1,key:=.ref ys[i].2.1,val:=ys[i].2.2 }:=by
     rw[<- gv,g4,ay,bj hlt];rfl
    have hk:(b0 (aO P w)).is h' ys[i].1 ys[i].2.1:=(b0 (aO P w)).keeps (g5 _ (jj hlt)) h1 rfl sb
    repeat wp_step
    rw[hes]
    repeat (first|(with_reducible refine GU hr hk dd (cf (len i (g9 hlt)) (by omega)) fun h2 dd2 sb2=> ?_)|wp_step)
    have go2:h2.get? o=xo { cls:=i8 "dict",data:=xh fs fp }:=(sb2.2 o (bz hne)).trans go
    repeat (first|(with_reducible refine qk go2 ?_)|wp_step)
    simp only[bne_self_eq_false,df,if_false]
    repeat wp_step
    refine⟨i+1,h2,rfl,hlt,rfl,?_,sb.trans sb2⟩;rw[oy hlt,pS];exact dd2
   case fin=>
    rintro b s' ⟨j,h',e2,hj,rfl,dd,sb⟩
    have:j=ys.length:=by
     have:=congrArg lz e2
     simp at this;omega
    subst this;rw[List.take_length] at dd
    repeat wp_step
    exact h h' dd sb
end
end L2.MB
end
section
namespace L2.MB
open PySem PySem.Spec PyProof.Rows PySem.Builtin
theorem Ed (d b:af) (hne:d≠b) (hsys:(b==fk)=false):MeetsIn P w («dict.update» { pos:=[.ref d,.ref b] }) fun A R s=>
  A.units+1<d7/\∃ xs ys:List (List Key×af×ag),iw (b0 (aO P w)) s.heap d xs/\iw (b0 (aO P w)) s.heap b ys/\xs.length+ys.length<=sizeLine/\
   (∀(i j:Nat) x y,ys[i]?=xo x->ys[j]?=xo y->(b0 (aO P w)).hash x.1=(b0 (aO P w)).hash y.1->i=j)/\
   ∀ h',iw (b0 (aO P w)) h' d (fR xs ys)->f7 d s.heap h'->R (.ok (.ret .none)) { s with heap:=h' }:=by
 rintro A R s ⟨hu,xs,ys,hd,ho,hz,hh,hR⟩;have hr:(b0 (aO P w)).room A.in1:=ky hu;have hd0:=hd;have ho0:=ho;obtain⟨o1,es,ep,h1,h2,h3,h4,h5,h6⟩:=hd;obtain⟨oc,od,odt,osl⟩:=o1;obtain⟨q1,q2,q3⟩:=h2;dsimp only at q1 q2 q3 h3;subst q1 q2 q3 h3;obtain⟨o2,fs,fp,g1,g2,g3,g4,g5,g6⟩:=ho;obtain⟨oc,od,odt,osl⟩:=o2;obtain⟨q1,q2,q3⟩:=g2;dsimp only at q1 q2 q3 g3;subst q1 q2 q3 g3;unfold «dict.update» Dict.selfAndRest
 repeat (first|(with_reducible refine jR hne hsys hr hd0 ho0 hz hh fun h' dd sb=> ?_)|wp_step)
 simp only[bne_self_eq_false,df,if_false]
 repeat (first|(with_reducible refine jR hne hsys hr hd0 ho0 hz hh fun h' dd sb=> ?_)|wp_step)
 rw[PySem.isSubtype_dict_dict]
 repeat (first|(with_reducible refine jR hne hsys hr hd0 ho0 hz hh fun h' dd sb=> ?_)|wp_step)
 rw[show ql (i8 "dict") (ji "__iter__")=pure (xo (.builtin "dict.__iter__")) from oj.lookup]
 repeat (first|(with_reducible refine jR hne hsys hr hd0 ho0 hz hh fun h' dd sb=> ?_)|wp_step)
 exact hR h' dd sb
noncomputable def LH:List Key->Option (List Int)
 |[]=>xo []
 |.inl i::r=>(LH r).map fun is=>i::is
 |.inr _::_=>xp
noncomputable def fC (k:List Key):Option Int:=(LH k).map fun is=>reduceHash (qr (is.map hashInt))
theorem yM:∀ {k:List Key}{is:List Int},LH k=xo is->k=is.map o6
 |[],_,h=>by cases h;rfl
 |.inl i::r,_,h=>by
  obtain⟨js,e,rfl⟩:=aH h;rw[yM e];rfl
 |.inr _::_,_,h=>nomatch h
theorem Cf (h:fC k=xo c):(b0 (aO P w)).hash k=c:=by
 obtain⟨is,e,rfl⟩:=aH h;rw[yM e];show reduceHash (qr ((is.map o6).map (aO P w).hash))=_;rw[fj];rfl
noncomputable def eZ:List (List Key)->Bool
 |[]=>true
 |k::r=>(fC k).isSome&&r.all (fun k'=>match fC k,fC k' with
  |some a,xo b=>decide (a≠b)
  |_,_=>false)&&eZ r
theorem tP:∀ {ks:List (List Key)},eZ ks=true->∀(i j:Nat) x y,ks[i]?=xo x->ks[j]?=xo y->(b0 (aO P w)).hash x=(b0 (aO P w)).hash y->i=j
 |[],_,i,j,x,y,h1,_,_=>by simp at h1
 |k::r,h,i,j,x,y,h1,h2,e=>by
  have h':((fC k).isSome&&r.all (fun k'=>match fC k,fC k' with
   |some a,xo b=>decide (a≠b)
   |_,_=>false)&&eZ r)=true:=h
  rw[br,br] at h';obtain⟨⟨_,ha⟩,hr⟩:=h';have main:∀ y,y∈r->(b0 (aO P w)).hash k=(b0 (aO P w)).hash y->False:=fun y hy e=>by
   have:=fh.mp ha y hy
   split at this
   ·rename_i a b e1 e2
    rw[Cf e1,Cf e2] at e;simp at this;exact this e
   ·cases this
  cases i with
  |zero=>
   cases j with
   |zero=>rfl
   |succ j=>
    simp at h1 h2;subst h1;exact(main y (f9 h2) e).elim
  |succ i=>
   cases j with
   |zero=>
    simp at h1 h2;subst h2;exact(main x (f9 h1) e.symm).elim
   |succ j=>
    simp at h1 h2;rw[tP hr i j x y h1 h2 e]
noncomputable def mergeK (kvs more:List (List Key×V)):List (List Key×V):=more.foldl (fun acc p=>mW acc p.1 p.2) kvs
noncomputable def pT (kvs more:List (List Key×D)):List (List Key×D):=more.foldl (fun acc p=>putD acc p.1 p.2) kvs
theorem KT.merge:∀ {ms:List (List Key×V)}{ys:List (List Key×af×ag)},KT H ms ys->∀ {kvs:List (List Key×V)}{xs:List (List Key×af×ag)},KT H kvs xs->KT H (mergeK kvs ms) (fR xs ys)
 |_,_,.nil,_,_,r=>r
 |_,_,.cons (a:=p) (b:=q) h t,kvs,xs,r=>by
  obtain⟨h1,h2,h3⟩:=h;have r':=r.put p.1 h2 h3;rw[h1] at r'
  have:=KT.merge t r'
  rw[<- h1] at this;show KT H (mergeK (mW kvs p.1 p.2) _) (fR (jv xs q.1 q.2.1 q.2.2) _);rw[<- h1];exact this
theorem KvR.mergeR {K:aa}:∀ {ms:List (List Key×V)}{ns:List (List Key×D)},KvR K ok H ms ns->∀ {vs:List (List Key×V)}{ds:List (List Key×D)},KvR K ok H vs ds->KvR K ok H (mergeK vs ms) (pT ds ns)
 |_,_,.nil,_,_,r=>r
 |_,_,.cons h t,vs,ds,r=>KvR.mergeR t (r.put h)
theorem Hl {k:List Key}:(mW kvs k v).length<=kvs.length+1:=gW kvs k v
theorem tH:∀ {ms kvs:List (List Key×V)},(mergeK kvs ms).length<=kvs.length+ms.length
 |[],_=>bf _
 |p::r,kvs=>by
  have:=tH (ms:=r) (kvs:=mW kvs p.1 p.2)
  have:=Hl (kvs:=kvs) (k:=p.1) (v:=p.2)
  show(mergeK (mW kvs p.1 p.2) r).length<=kvs.length+(r.length+1)
  omega
section
variable {X:Cx}{pins:List (af×Obj)}{σ:St}{H:Hp}{s:aq}{a b:af}{kvs ms:List (List Key×V)}{A:dm}{E:ag->aq->Prop}
theorem Pr (hu:A.units+1<d7) (I:Inv X pins σ H s) (ea:H a=xo (.dT kvs)) (eb:H b=xo (.dT ms)) (hne:a≠b) (hl:kvs.length+ms.length<=sizeLine) (hh:eZ (ms.map (·.1))=true)
  (h:∀ s',Inv X pins σ (upd H a (.dT (mergeK kvs ms))) s'->Q .none s'):bc (model X.prog X.w) A (call (.builtin "dict.update") [.ref a,.ref b]) Q E s:=by
 obtain⟨z,hd,xs,rel,dd⟩:=IU I.hok ea;obtain⟨z2,hd2,ys,rel2,dd2⟩:=IU I.hok eb;have lx:kvs.length=xs.length:=jd rel;have ly:ms.length=ys.length:=jd rel2;have keys:ms.map (·.1)=ys.map (·.1):=by
  clear dd2 ly z2 hl hh eb h
  induction rel2 with
  |nil=>rfl
  |cons h t ih=>rw[bg,bg,ih,h.1]
 rw[keys] at hh;refine vj rh dd.typeIs PySem.F.entry_dict_update (PySem.F.args_dict_update_2 _ _) (Ed a b hne hd2) ⟨hu,xs,ys,dd,dd2,by omega,fun i j x y h1 h2 e=> ?_,fun h' dd' hs=>h _ ?_⟩
 ·exact tP hh i j x.1 y.1 (by rw[ay,h1];rfl) (by rw[ay,h2];rfl) e
 ·obtain⟨q,es,ep,hq,h2,h3,h4,_,h5⟩:=dd';refine qP I (by rw[ea];exact im) hs ⟨q,hq⟩ ⟨cf tH hl,hd,_,KT.keeps (KT.merge rel2 rel) fun c ws ec=> ?_,q,es,ep,hq,h2,h3,h4,h5⟩;rw[aG (Ls ec ea (fun z=>nomatch z))];exact ec
def MZ:V->List V->Hp->VK->Prop:=fun x xs H Q=>∃ a b kvs ms,x=.ref a/\xs=[.ref b]/\H a=xo (.dT kvs)/\H b=xo (.dT ms)/\a≠b/\kvs.length+ms.length<=sizeLine/\eZ (ms.map (·.1))=true/\Q .non (upd H a (.dT (mergeK kvs ms)))
theorem Lv (hu:X.A.units+1<d7):MtR X "dict.update" MZ:=by
 intro pins s σ H x xs v us Q I rx rs h;obtain⟨a,b,kvs,ms,rfl,rfl,ha,hb,hne,hl,hh,q⟩:=h;obtain⟨u,rfl,ru⟩:=lA rs;cases rx;cases ru;exact Pr hu I ha hb hne hl hh fun s' I'=>⟨.non,_,I',rfl,q⟩
end
section
variable {X:Cx}{cls exC:Nat->af}{E:XE}{e a b c o i value:bw}{es rest:List bw}{fa fb fc fo fi fv:OG D}{fl:OG (List D)}{ft ft':OG Bool}{pos p apos pos' cpos:Pos}{x m:Str}{st:cx}
noncomputable def FL (ω:Om) (d:D) (as:List D):Option (D×Om):=match d,as with
 |.obj n,[.obj m]=>match ω[n]?,ω[m]? with
  |some (.dt kvs),xo (.dt ms)=>if n≠m/\kvs.length+ms.length<=sizeLine/\eZ (ms.map (·.1))=true then xo (.non,ω.set n (.dt (pT kvs ms))) else xp
  |_,_=>xp
 |_,_=>xp
theorem IC {K:aa}:GL cls K MZ FL:=fun ok H ω x xs a as d ω' Q h1 st ra rs e k=>by
 unfold FL at e;split at e
 ·rename_i n m
  split at e
  ·rename_i kvs ms hc hc2
   obtain⟨⟨hnm,hl,hh⟩,e3⟩:=bJ e;cases e3;obtain⟨a1,rfl,e4,vs,e5,kv⟩:=st.ref ra hc;obtain⟨w,rfl,rw'⟩:=rs.one_inv;obtain⟨b1,rfl,e6,us,e7,kv2⟩:=st.ref rw' hc2;refine⟨a1,b1,vs,us,rfl,rfl,e5,e7,fun z=>hnm (st.inj n m a1 e4 (z ▸ e6)),by rw[kv.length,kv2.length];exact hl,by rw[kv2.keys];exact hh,?_⟩;have nw:=Nw.write (o:=.dT (mergeK vs us)) (ob:=.dt (pT kvs ms)) h1 st e4 e5 fun dat=>⟨_,aP,(kv2.mergeR kv).mono dat fun _ _ z=>z⟩;exact k _ ok _ nw .non
  ·cases e
 ·cases e
theorem KY (hu:X.A.units+1<d7) (ho:OE X cls E o fo) (ha:OA X cls E [e] fl) (hbase:ij o "update" X.env (eval o X.env)=eval o X.env:=by rfl)
  (hfew:((db cpos (au [e] X.env)).all (fun x=> !x.1)&&(j8 cpos (ir [] X.env)).all (fun x=>x.1.isSome)
   &&decide ([e].length+([]:List kr).length+(if([]:List kr).isEmpty then 0 else 1)<30))=true:=by rfl)
  (hline:(apos.endLine==cpos.line)=true:=by rfl) (hs:au [e] X.env=(false,eval e X.env)::au [] X.env:=by rfl) (hplain:(db cpos (au [] X.env)).any (·.1)=false:=by rfl):
  OE X cls E (.Call (.Attribute o "update" apos) [e] [] cpos) (pO FL fo fl):=Os rh PySem.F.type_dict_update (Lv hu) IC ho ha hbase hfew hline hs hplain
end
end L2.MB
end
section
namespace L2.MB
theorem _root_.L2.Inv.movedN (I:Inv X pins σ H s) (k:∀ b o,b≠X.env.locals->s.heap.get? b=xo o->h'.get? b=xo o) (ns:∀ m,s.heap.Ns X.env.locals m->h'.Ns X.env.locals m)
  (old:∀ b o,s.heap.get? b=xo o->H' b=H b) (sub:∀ b u,H b=xo u->H' b=xo u) (hok:HOk X.prog X.w H' h'):Inv X pins σ H' { s with heap:=h',toks:=t' }:=by
 obtain⟨m,hn,lk⟩:=I.loc;obtain⟨oL,esL,epL,hoL,hdL,rL⟩:=id hn;have nl:∀ {b:af}{o:Obj},X.s₀.heap.get? b=xo o->b≠X.env.locals:=fun e z=>absurd (bh e) (by rw[z];exact ul.mpr I.ok.above);have nc:∀ {c:af}{v:Option ag}{o:Obj},s.heap.get? c=xo o->o.data=.cell v->c≠X.env.locals:=fun {c v o} e1 e2 z=>by
  rw[z,hoL] at e1;cases e1;rw[hdL] at e2;cases e2
 have th:∀ b o,s.heap.get? b=xo o->H b=xp->H' b=xp:=fun b o e n=>(old b o e).trans n;refine⟨I.ok,I.os,I.bare,⟨fun b o e n hb hx=>k b o (nl e) (I.base.keep b o e n hb hx),fun b o e n hb hx=> ?_,fun b o e n hx=> ?_,fun b o e hx=> ?_,fun b xs e=>sub _ _ (I.base.tups b xs e),fun b u v e=>sub _ _ (I.base.frzs b u v e),fun b ps e=> ?_⟩,⟨m,ns m hn,fun i x v e1 e2 e3=> ?_⟩,fun x c e=> ?_,th _ _ hoL I.free,fun x c e=> ?_,fun p hp=> ?_,hok,I.len⟩
 ·obtain⟨sl,z⟩:=I.base.slot b o e n hb hx;exact⟨sl,k b _ (nl e) z⟩
 ·obtain⟨o',z⟩:=I.base.there b o e hx;exact th b o' z (I.base.free b o e n hx)
 ·obtain⟨o',z⟩:=I.base.there b o e hx;exact⟨o',k b o' (nl e) z⟩
 ·obtain⟨m,z⟩:=I.base.tbls b ps e;exact⟨m,sub _ _ z⟩
 ·obtain⟨u,ru,z⟩:=lk i x v e1 e2 e3;refine⟨u,ru,?_⟩;rcases z with z|⟨q,c,e,oc,w1,w2⟩
  ·exact .inl z
  ·exact .inr ⟨q,c,e,oc,k c oc (nc w1 w2) w1,w2⟩
 ·obtain⟨v,oc,w1,w2⟩:=I.cell x c e;exact⟨v,oc,k c oc (nc w1 w2) w1,w2⟩
 ·obtain⟨v,oc,w1,w2⟩:=I.cell x c e;exact th c oc w1 (I.freeC x c e)
 ·obtain⟨z1,z2,z3,z4⟩:=I.pin p hp;exact⟨k p.1 p.2 z3 z1,th _ _ z1 z2,z3,z4⟩
theorem _root_.L2.Inv.moved (I:Inv X pins σ H s) (k:∀ b o,b≠X.env.locals->s.heap.get? b=xo o->h'.get? b=xo o) (ns:∀ m,s.heap.Ns X.env.locals m->h'.Ns X.env.locals m):Inv X pins σ H { s with heap:=h',toks:=t' }:=
 I.movedN k ns (fun _ _ _=>rfl) (fun _ _ e=>e) fun b u e=>by
  have nl:∀ {c:af}{o:HO},H c=xo o->c≠X.env.locals:=fun e z=>by rw[z,I.free] at e;cases e
  refine(I.hok b u e).stay (fun c v hc q=> ?_) (fun _ q=>q) fun _ _ q=>q;rcases hc with rfl|hc
  ·exact k c v (nl e) q
  ·exact k c v (nl hc) q
noncomputable def QN:List Int->List Int->Bool:=HT.lexLt
noncomputable def Ik:List D->Option (List Int)
 |[]=>xo []
 |.int i::r=>(Ik r).map fun is=>i::is
 |_::_=>xp
noncomputable def fS (a b:D):Option Bool:=match a,b with
 |.int i,.int j=>xo (decide (i<j))
 |.str x,.str y=>xo (decide (x.cps.toList<y.cps.toList))
 |.tup xs,.tup ys=>(Ik xs).bind fun is=>(Ik ys).map fun js=>QN is js
 |_,_=>xp
noncomputable def PK (n:Nat):List D->List D->Bool->Option Bool
 |a::r,b::r',fin=>match eqD n a b with
  |some true=>PK n r r' fin
  |some false=>fS a b
  |none=>xp
 |_,_,fin=>xo fin
noncomputable def Kb {α:Type} (lt:Nat->Nat->Option Bool):xl α->Option α
 |.ret a=>xo a
 |.ask i j k=>(lt i j).bind fun c=>Kb lt (k c)
theorem Ew (hc:∀ i j c C,lt i j=xo c->C c s->cmp i j C s):∀ {t:xl α}{a:α},Kb lt t=xo a->Q a s->PySem.W.KasT.kasWp cmp t Q s
 |.ret b,a,h,q=>by
  rw[PySem.W.KasT.kasWp.eq_1];cases h;exact q
 |.ask i j k,a,h,q=>by
  rw[PySem.W.KasT.kasWp.eq_2];obtain⟨c,e1,e2⟩:=bind_some (show(lt i j).bind _=_ from h);exact hc i j c _ e1 (Ew hc e2 q)
noncomputable def dZ (n:Nat) (a b:D):Option Bool:=match a,b with
 |.tup xs,.tup ys=>PK n xs ys (decide (xs.length<ys.length))
 |_,_=>xp
noncomputable def kQ:D->Option Bool
 |.tup (.int _::_)=>xo true
 |.tup (.str _::_)=>xo false
 |_=>xp
noncomputable def iW (ds:List D):Bool:=ds.all (fun d=>kQ d==xo true)||ds.all (fun d=>kQ d==xo false)
noncomputable def eD (n:Nat) (ds:List D):Option (List D):=if ds.length<2 then xo ds else if ds.length<64/\iW ds=true then
 (Kb (fun i j=>dZ n (ds.getD i .non) (ds.getD j .non)) (PySem.W.kas_sort ds.length)).bind fun p=>if p.toList.length<=64 then xo (p.toList.map fun i=>ds.getD i .non) else xp else xp
section
variable {X:Cx}{pins:List (af×Obj)}{σ:St}{H:Hp}{s:aq}{ok:Okk}{A:dm}{E:ag->aq->Prop}
theorem Fv {K:aa}:∀ {ds:List D}{is:List Int}{xs:List V}{us:List ag},Ik ds=xo is->Reps K ok H xs ds->Vals xs us->kt us is:=by
 intro ds
 induction ds with
 |nil=>intro is xs us h r v;cases h;cases r;cases v;exact .nil
 |cons d ds ih=>
  intro is xs us h r v;cases r with|cons rr rs=>
  cases v with|cons v vs=>
  cases d with
  |int i=>
   obtain⟨js,e,rfl⟩:=aH h;obtain rfl:=rr.int_inv;obtain⟨t,rfl⟩:=v;exact .cons _ _ (ih e rs vs)
  |_=>cases h
theorem LD (I:Inv X pins σ H s) (f:Bool) (hf:f=true->kQ (.tup [a])≠xp/\kQ (.tup [b])≠xp) (ra:Rep X.K ok H x a) (rb:Rep X.K ok H y b) (rv:RelV x v) (ru:RelV y u) (e:fS a b=xo k) (hu:A.units<d7) (q:Q k s):
  bc (model X.prog X.w) A (oneLt' f v u) Q E s:=by
 unfold fS at e;split at e
 ·cases e;obtain rfl:=ra.int_inv;obtain rfl:=rb.int_inv;obtain⟨t,rfl⟩:=rv;obtain⟨t',rfl⟩:=ru;cases f with
  |true=>exact PySem.W.kat_lt_int q
  |false=>exact su _ _ (wn q)
 ·cases e;obtain rfl:=ra.str_inv;obtain rfl:=rb.str_inv;obtain⟨t,rfl⟩:=rv;obtain⟨t',rfl⟩:=ru;cases f with
  |true=>exact PySem.W.kas_lt_str q
  |false=>exact su _ _ (lt_str q)
 ·obtain⟨is,e1,e⟩:=bind_some e;obtain⟨js,e2,rfl⟩:=aH e;cases f with
  |true=>exact absurd rfl (hf rfl).1
  |false=>
   obtain⟨p,xs,rfl,g,rs⟩:=ra.tup_inv;obtain⟨p',xs',rfl,g',rs'⟩:=rb.tup_inv;cases rv;cases ru;obtain⟨its,rr,pl,_⟩:=I.tuple g.sq;obtain⟨its',rr',pl',_⟩:=I.tuple g'.sq;exact su _ _ (HT.lt_tupInts pl pl' (by simpa using Fv e1 rs rr) (by simpa using Fv e2 rs' rr') hu q)
 ·cases e
theorem OF (I:Inv X pins σ H s) (hu:A.units+n<d7) (q:Q k s):∀ {as bs:List D}{xs ys:List V}{vs us:List ag} (i:Nat),(i=0->kQ (.tup as)≠xp/\kQ (.tup bs)≠xp)->Reps X.K ok H xs as->Reps X.K ok H ys bs->Vals xs vs->Vals ys us->PK n as bs fin=xo k->
  PySem.W.KatLex X.prog X.w A true fin Q (vs.zip us) i s:=by
 intro as
 induction as with
 |nil=>
  intro bs xs ys vs us i _ r1 r2 v1 v2 e;cases r1;cases v1;cases (show xo fin=xo k from e);exact wy q
 |cons a as ih=>
  intro bs xs ys vs us i hk r1 r2 v1 v2 e;cases r1 with|cons r1 rs1=>
  cases v1 with|cons w1 ws1=>
  cases r2 with
  |nil=>
  cases v2;cases (show xo fin=xo k from e);exact wy q
  |@cons _ b _ bs r2 rs2=>
  cases v2 with|cons w2 ws2=>
  refine PySem.W.kat_cons ?_;have e':(match eqD n a b with
   |some true=>PK n as bs fin
   |some false=>fS a b
   |none=>xp)=xo k:=e
  cases hq:eqD n a b with
  |none=>rw[hq] at e';cases e'
  |some c=>
   rw[hq] at e';refine yW I n r1 r2 w1 w2 hq hu X.prog X.w _ _ ?_;cases c with
   |true=>exact PySem.W.kat_yes (ih (i+1) (fun z=>absurd z (Nat.succ_ne_zero i)) rs1 rs2 ws1 ws2 e')
   |false=>
    refine PySem.W.kat_no ?_;refine LD I (true&&i==0) (fun hf=> ?_) r1 r2 w1 w2 e' (by omega) q;have hi:i=0:=by simpa using hf
    obtain⟨h1,h2⟩:=hk hi;constructor
    ·intro z;apply h1;cases a <;> first|rfl|cases z
    ·intro z;apply h2;cases b <;> first|rfl|cases z
theorem Pw (I:Inv X pins σ H s) (hu:A.units+n<d7) (h1:kQ a≠xp) (h2:kQ b≠xp) (ra:Rep X.K ok H x a) (rb:Rep X.K ok H y b) (rv:RelV x v) (ru:RelV y u) (e:dZ n a b=xo k) (q:Q k s):
  bc (model X.prog X.w) A (keyLt' (tuples' true) v u) Q E s:=by
 unfold dZ at e;split at e
 ·rename_i as bs
  obtain⟨p,xs,rfl,g,rs⟩:=ra.tup_inv;obtain⟨p',xs',rfl,g',rs'⟩:=rb.tup_inv;cases rv;cases ru;obtain⟨its,rr,⟨o,t1,t2,m,t3⟩,_⟩:=I.tuple g.sq;obtain⟨its',rr',⟨o',t1',t2',m',t3'⟩,_⟩:=I.tuple g'.sq;refine PySem.W.kat_lt t1 t3 t1' t3' ?_;have l1:its.toArray.size=as.length:=by rw[bi,<- rr.length,rs.length]
  have l2:its'.toArray.size=bs.length:=by rw[bi,<- rr'.length,rs'.length]
  rw[l1,l2];simpa using OF I hu q 0 (fun _=>⟨h1,h2⟩) rs rs' rr rr' e
 ·cases e
theorem Vals.getD (r:Vals xs vs) (i:Nat):RelV (xs.getD i .non) (vs.getD i .none):=by
 rcases ll i xs.length with h|h
 ·obtain⟨u,e,ru⟩:=r.get (i:=i) (x:=xs[i]) (by simp[h]);rw[ax,ax,e,bj h];exact ru
 ·rw[ax,ax,cq h,cq (by rw[<- r.length];exact h)];rfl
theorem Reps.getD {K:aa} (r:Reps K ok H xs ds) (i:Nat):Rep K ok H (xs.getD i .non) (ds.getD i .non):=by
 rcases ll i ds.length with h|h
 ·obtain⟨v,e,rv⟩:=r.get (i:=i) (d:=ds[i]) (by simp[h]);rw[ax,ax,e,bj h];exact rv
 ·rw[ax,ax,cq h,cq (by rw[r.length];exact h)];exact .non
theorem Reps.pick {K:aa} (r:Reps K ok H xs ds):∀ is:List Nat,Reps K ok H (is.map fun i=>xs.getD i .non) (is.map fun i=>ds.getD i .non)
 |[]=>.nil
 |i::r'=>.cons (Reps.getD r i) (Reps.pick r r')
theorem Vals.pick (r:Vals xs vs):∀ is:List Nat,Vals (is.map fun i=>xs.getD i .non) (is.map fun i=>vs.getD i .none)
 |[]=>.nil
 |i::r'=>.cons (Vals.getD r i) (Vals.pick r r')
theorem FZ (I:Inv X pins σ H s) (c:Bool):∀ {ds:List D}{xs:List V}{vs:List ag},ds.all (fun d=>kQ d==xo c)=true->Reps X.K ok H xs ds->Vals xs vs->∃ fs,PySem.W.KatTups s.heap vs fs/\fs.length=ds.length/\∀ v∈fs,PySem.W.Looks (model X.prog X.w) s.heap (typeOf v) (.type (if c then "int" else "str")):=by
 intro ds
 induction ds with
 |nil=>intro xs vs _ r w;cases r;cases w;exact⟨[],by rw[PySem.W.KatTups.eq_1];trivial,rfl,fun v hv=>absurd hv (by simp)⟩
 |cons d ds ih=>
  intro xs vs h r w;cases r with|cons r rs=>
  cases w with|cons w ws=>
  rw[List.all_cons,br] at h;obtain⟨fs,h1,h2,h3⟩:=ih h.2 rs ws;have hd:kQ d=xo c:=by simpa using h.1
  cases d with
  |tup as=>
   cases as with
   |nil=>cases hd
   |cons a as=>
    obtain⟨p,xs,rfl,g,rs'⟩:=r.tup_inv;cases w;cases rs' with
    |cons ra rs'=>
     obtain⟨its,rr,⟨o,t1,t2,m,t3⟩,_⟩:=I.tuple g.sq;cases rr with
     |cons wa rr=>
      rename_i u us
      refine⟨u::fs,?_,by simp[h2],fun v hv=> ?_⟩
      ·rw[PySem.W.KatTups.eq_2];exact⟨⟨p,o,_,m,rfl,t1,t2,t3,by simp⟩,h1⟩
      ·rcases aj.mp hv with rfl|hv
       ·cases a with
        |int i=>
         cases hd;obtain rfl:=ra.int_inv;obtain⟨t,rfl⟩:=wa;intro A Q E s' _ q;exact ao q
        |str i=>
         cases hd;obtain rfl:=ra.str_inv;obtain⟨t,rfl⟩:=wa;intro A Q E s' _ q;exact ao q
        |_=>cases hd
       ·exact h3 v hv
  |_=>cases hd
end
noncomputable def yB (h h0:c5) (L a:af):List (af×Obj):=(bp h.objs.size).filterMap fun b=>if b=L∨b=a∨(h0.get? b).isSome=true then xp else(h.get? b).map fun o=>(b,o)
theorem Da (e:h.get? b=xo o) (h1:b≠L) (h2:b≠a) (h3:h0.get? b=xp):(b,o)∈yB h h0 L a:=by
 unfold yB;refine gy.mpr ⟨b,hX.mpr (bh e),?_⟩;rw[if_neg (by simp[h1,h2,h3]),e];rfl
theorem pN (hp:p∈yB h h0 L a):h.get? p.1=xo p.2/\p.1≠L/\p.1≠a/\h0.get? p.1=xp:=by
 obtain⟨b,_,e⟩:=gy.mp hp
 by_cases hc:b=L∨b=a∨(h0.get? b).isSome=true
 ·rw[if_pos hc] at e;cases e
 ·rw[if_neg hc] at e;obtain⟨o,e1,e2⟩:=aH e;subst e2;refine⟨e1,fun z=>hc (.inl z),fun z=>hc (.inr (.inl z)),?_⟩;cases q:h0.get? b with
  |none=>rfl
  |some u=>exact absurd (.inr (.inr (by rw[q];rfl))) hc
theorem OD {h:c5} (h1:h.Ns a m) (h2:h.Ns a m'):m=m':=by
 obtain⟨o,es,ep,e1,e2,_,e3⟩:=h1;obtain⟨o',es',ep',g1,g2,_,g3⟩:=h2;rw[e1] at g1;cases g1;rw[e2] at g2;cases g2
 funext x
 rw[<- e3,g3]
theorem EK:∀ {us:List ag},xs.length=us.length->(∀(j:Nat) x v,xs[j]?=xo x->us[j]?=xo v->RelV x v)->Vals xs us:=by
 induction xs with
 |nil=>
  intro us h _;cases us with
  |nil=>exact .nil
  |cons _ _=>cases h
 |cons x r ih=>
  intro us h g;cases us with
  |nil=>cases h
  |cons u us=>exact .cons (g 0 x u rfl rfl) (ih (by simpa using h) fun j y v e1 e2=>g (j+1) y v (by simpa using e1) (by simpa using e2))
section
variable {X:Cx}{pins:List (af×Obj)}{σ:St}{H:Hp}{s:aq}{ok:Okk}{A:dm}{E:ag->aq->Prop}
theorem LC (hk:iW ds=true) (e:dZ n (ds.getD i .non) (ds.getD j .non)=xo c):kQ (ds.getD i .non)≠xp/\kQ (ds.getD j .non)≠xp:=by
 have inr:∀ i,ds.getD i .non≠ .non->kQ (ds.getD i .non)≠xp:=fun i hi=>by
  have hlt:i<ds.length:=by
   rcases ll i ds.length with h|h
   ·exact h
   ·rw[ax,cq h] at hi;exact absurd rfl hi
  have hm:ds.getD i .non∈ds:=by
   rw[ax,bj hlt];exact jj hlt
  unfold iW at hk;rw[ie] at hk;rcases hk with hk|hk
  ·have:=fh.mp hk _ hm
   intro z;rw[z] at this;cases this
  ·have:=fh.mp hk _ hm
   intro z;rw[z] at this;cases this
 refine⟨inr i fun z=> ?_,inr j fun z=> ?_⟩
 ·rw[z] at e;cases e
 ·rw[z] at e;unfold dZ at e;split at e
  ·rename_i h2
   cases h2
  ·cases e
theorem pC (I:Inv X pins σ H s) (col:∀ {R:List ag->aq->Prop},(∀(h':c5) (tk:Nat) (acc:Array ag),(∀ b o,s.heap.get? b=xo o->h'.get? b=xo o)->ItemsOf P acc n->R acc.toList { s with heap:=h',toks:=tk })->bc (model X.prog X.w) A.in1 (collect (.ref r)) R E s) (hn2:2<=n) (hn:n<64) (hu:A.units+(m+2)<d7)
  (hx:xs.length=n) (hP:∀(j:Nat) v x,P j v->xs[j]?=xo x->RelV x v) (rs:Reps X.K ok H xs ds) (hs:eD m ds=xo out)
  (h:∀(h':c5) (tk:Nat) (ys:List V) (l:af),H l=xp->Inv X pins σ (upd H l (.lst ys)) { s with heap:=h',toks:=tk }->Reps X.K ok H ys out->Q (.ref l) { s with heap:=h',toks:=tk }):
  bc (model X.prog X.w) A (call (.builtin "sorted") [.ref r]) Q E s:=by
 have hl':ds.length=n:=by rw[<- rs.length];exact hx
 unfold eD at hs;rw[if_neg (by omega)] at hs;obtain⟨⟨_,hk⟩,hs⟩:=cR hs;obtain⟨p,hrun,hs⟩:=bind_some hs;obtain⟨hpl,hs⟩:=bJ hs;refine qp kind_sorted plain_sorted entry_sorted (args_sorted1 _) ?_;unfold Builtin.«sorted»;refine ae (m:=checkCount "sorted" 1 1 _) (ao (ae (col fun h1 tk acc kp it=> ?_)));have hl:acc.toList.length=n:=by rw[d9];exact it.1
 refine ae (ux ?_ (by rw[hl,bt];omega));have o1:(h1.push (hW "list" acc.toList.toArray 0)).get? h1.objs.size=xo (hW "list" acc.toList.toArray 0):=bv _ rfl;have nw:s.heap.get? h1.objs.size=xp:=by
  cases q:s.heap.get? h1.objs.size with
  |none=>rfl
  |some u=>exact absurd (bh (kp _ _ q)) (dn _)
 have hH:H h1.objs.size=xp:=by
  cases q:H h1.objs.size with
  |none=>rfl
  |some u=>
   obtain⟨v,w⟩:=HOk.obj I.hok q;rw[nw] at w;cases w
 obtain⟨mL,hnL,_⟩:=I.loc;have kp2:∀ b o,s.heap.get? b=xo o->(h1.push (hW "list" acc.toList.toArray 0)).get? b=xo o:=fun b o e=>aw _ (kp b o e);have fr:Fr X.base X.env.locals (h1.push (hW "list" acc.toList.toArray 0)) mL:=⟨hnL.keeps kp2,fun b o e=>kp2 b o (I.bk b o e),cf I.ok.bsz I.ok.above⟩;have aL:h1.objs.size≠X.env.locals:=fun z=>by
  obtain⟨oL,_,_,hoL,_⟩:=id hnL;rw[<- z,nw] at hoL;cases hoL
 have hb0:X.base.get? h1.objs.size=xp:=by
  cases q:X.base.get? h1.objs.size with
  |none=>rfl
  |some u=>
   have:=I.bk _ _ q
   rw[nw] at this;cases this
 have rv:Vals xs acc.toList:=by
  refine EK (by rw[hx,hl]) fun j x v e1 e2=> ?_;exact hP j v x (it.2 j v (by rw[<- gv];exact e2)) e1
 refine ae (ii (ig slot_list_sort ⟨_,o1,rfl⟩ entry_list_sort (PySem.W.kat_list_sort (s:={ s with heap:=h1.push (hW "list" acc.toList.toArray 0),toks:=tk }) (news:=yB (h1.push (hW "list" acc.toList.toArray 0)) X.base X.env.locals h1.objs.size) fr (fun q hq=>let ⟨z1,z2,z3,z4⟩:=pN hq;⟨z1,z2,z4⟩) o1 aL hb0 (fun q hq=>(pN hq).2.2.1) (by rw[hl];exact hn2) (by rw[hl];exact hn) fun e1 h' fr' nw'=> ?_) (args_list_sort _)))
 -- the state in its midst
 have keep:∀ {h':c5},Fr X.base X.env.locals h' mL->News X.base X.env.locals h' (yB (h1.push (hW "list" acc.toList.toArray 0)) X.base X.env.locals h1.objs.size)->∀ b o,b≠X.env.locals->s.heap.get? b=xo o->h'.get? b=xo o:=fun {h'} fr' nw' b o hb e=>by
  have hne:b≠h1.objs.size:=fun z=>by rw[z,nw] at e;cases e
  cases q:X.base.get? b with
  |some u=>
   have:=I.bk b u q
   rw[e] at this;cases this;exact fr'.keep b _ q
  |none=>exact(nw' _ (Da (kp2 b o e) hb hne q)).1
 have nsk:∀ {h':c5},Fr X.base X.env.locals h' mL->∀ m,s.heap.Ns X.env.locals m->h'.Ns X.env.locals m:=fun {h'} fr' m hm=>by
  rw[OD hm hnL];exact fr'.ns
 have I1:Inv X pins σ H { s with heap:=h',toks:=tk }:=I.moved (keep fr' fun q hq=>nw' q (ai _ hq)) (nsk fr');have hka:∃ c:Bool,ds.all (fun d=>kQ d==xo c)=true:=by
  unfold iW at hk;rw[ie] at hk;rcases hk with hk|hk
  ·exact⟨true,hk⟩
  ·exact⟨false,hk⟩
 obtain⟨c,hka⟩:=hka;obtain⟨fs,f1,f2,f3⟩:=FZ I1 c hka rs rv;refine PySem.W.kat_kind f1 (by rw[f2];omega) f3 (by cases c <;> rfl) ?_;have hT:((i8 (if c=true then "int" else "str")) !=i8 "tuple")=true:=by cases c <;> rfl
 rw[hT,hl,<- hl'];refine Ew (fun i j c C e q=> ?_) hrun ?_
 ·obtain⟨k1,k2⟩:=LC hk e;exact Pw I1 (eV (eV hu)) k1 k2 (Reps.getD rs i) (Reps.getD rs j) (Vals.getD rv i) (Vals.getD rv j) e q
 ·refine⟨_,_,fr',nw',.head (fun q hq=>(pN hq).2.2.1),fun h2 cc fr2 nw2=>⟨_,rfl,?_⟩⟩;have na2:h2.get? h1.objs.size=xo (PySem.W.listOf (List.map (fun i=>acc.toList.getD i ik) p.toList).toArray cc):=(nw2 _ ar).1;have I2:Inv X pins σ (upd H h1.objs.size (.lst (p.toList.map fun i=>xs.getD i .non))) { s with heap:=h2,toks:=tk }:=by
   have kk:=keep fr2 fun q hq=>nw2 q (ai _ hq);refine I.movedN kk (nsk fr2) (fun b o e=> ?_) (fun b u e=> ?_) fun b u e=> ?_
   ·rw[aG (fun z=>by rw[z,nw] at e;cases e)]
   ·rw[aG (aN e hH)];exact e
   ·by_cases hb:b=h1.objs.size
    ·subst hb;rw[aP] at e;cases e;refine⟨?_,_,cc,Vals.pick rv p.toList,na2⟩;rw[ak,bt];omega
    ·rw[aG hb] at e;have nl:∀ {c:af}{o:HO},H c=xo o->c≠X.env.locals:=fun e z=>by rw[z,I.free] at e;cases e
     refine(I.hok b u e).stay (fun c v hc q=> ?_) (fun c q=>by rw[aG (aN q hH)];exact q) fun c xs q=>by rw[aG (aN q hH)];exact q
     rcases hc with rfl|hc
     ·exact kk c v (nl e) q
     ·exact kk c v (nl hc) q
  cases hs;exact ao ⟨_,rfl,h h2 tk _ _ hH I2 (Reps.pick rs p.toList)⟩
theorem pA (I:Inv X pins σ H s) (K:p7 X.prog X.w T r d n P OK) (hh:A.handled=xp) (hok:OK s.heap) (hn2:2<=n) (hn:n<64) (hu:A.units+(m+2)<d7)
  (hx:xs.length=n) (hP:∀(j:Nat) v x,P j v->xs[j]?=xo x->RelV x v) (rs:Reps X.K ok H xs ds) (hs:eD m ds=xo out)
  (h:∀(h':c5) (tk:Nat) (ys:List V) (l:af),H l=xp->Inv X pins σ (upd H l (.lst ys)) { s with heap:=h',toks:=tk }->Reps X.K ok H ys out->Q (.ref l) { s with heap:=h',toks:=tk }):
  bc (model X.prog X.w) A (call (.builtin "sorted") [.ref r]) Q E s:=
 pC I (fun h=>uz (A:=A.in1) K hh hok (by rw[bt];omega) h) hn2 hn hu hx hP rs hs h
end
section
variable {X:Cx}{cls exC:Nat->af}{E:XE}{e a b c o i value:bw}{es rest:List bw}{fa fb fc fo fi fv:OG D}{fl:OG (List D)}{ft ft':OG Bool}{pos p apos pos' cpos:Pos}{x m:Str}{st:cx}
def Qo (K:aa) (n:Nat):List V->Hp->VK->Prop:=fun xs H Q=>∃ v d kvs ds out ok,xs=[.ref v]/\H v=xo (MC v d)/\H d=xo (.dT kvs)/\Reps K ok H (kvs.map (·.2)) ds/\eD n ds=xo out/\∀ l ys,H l=xp->Reps K ok H ys out->Q (.ref l) (upd H l (.lst ys))
theorem pF (h:eD n ds=xo out) (hl:ds.length<2):out=ds:=by
 unfold eD at h;rw[if_pos hl] at h;cases h;rfl
theorem pE (h:eD n ds=xo out) (hl:¬ ds.length<2):ds.length<64:=by
 unfold eD at h;rw[if_neg hl] at h;exact(cR h).1.1
theorem Gs (hc:X.calm=true) (hu:X.A.units+(n+2)<d7):CallR X (.builtin "sorted") (Qo X.K n):=by
 intro pins s σ H xs us Q I r h;obtain⟨v,d,kvs,ds,out,ok,rfl,hv,hd,rs,hs,q⟩:=h;have hlen:ds.length=kvs.length:=by rw[<- rs.length,ak]
 by_cases hl:ds.length<2
 ·obtain rfl:=pF hs hl;exact zK hc pins s σ H _ us Q I r ⟨v,d,kvs,rfl,hv,hd,by omega,fun l nl=>q l _ nl rs⟩
 ·obtain⟨u,rfl,rx⟩:=lA r;cases rx;obtain⟨lo,hz,es,ep,rd,sz,it⟩:=qV I (.inl hd);have vw:s.heap.IsValuesView v d:=(show ObjOk X.prog X.w H s.heap v (MC v d) from I.hok v _ hv).1;have h64:=pE hs hl;refine pA I (sS (d:=d) (es:=es) (ep:=ep)) (I.ok.hd hc) ⟨vw,rd⟩ (by omega) (by omega) hu (by rw[ak,sz]) (fun j v x hp hx=> ?_) rs hs fun h' tk ys l nl I' rs'=>⟨.ref l,_,I',rfl,q l ys nl rs'⟩;obtain⟨y,y1,y2⟩:=hp;obtain⟨p,p1,p2,_⟩:=it j y y1;rw[ay,p1] at hx;cases hx;rw[y2];exact p2
noncomputable def FO (n:Nat) (ω:Om) (d:D):Option D:=match cellOf ω d with
 |some (.dt kvs)=>(eD n (kvs.map (·.2))).map D.lst
 |_=>xp
noncomputable def HN (n:Nat) (f:OG D):OG D:=oB f fun d _ ω=>oR (pu (FO n ω d) ω)
theorem KZ (hu:X.A.units+(n+2)<d7) (hc:X.calm=true) (hg:Gl X "sorted") (hm:X.mg "sorted"=xp) (ho:OE X cls E o fo) (hbase:ij o "values" X.env (eval o X.env)=eval o X.env:=by rfl) (hline:(ap.endLine==cp.line)=true:=by rfl)
  (he:au [.Call (.Attribute o "values" ap) [] [] cp] X.env=(false,eval (.Call (.Attribute o "values" ap) [] [] cp) X.env)::au [] X.env:=by rfl) (hpl:(db pos (au [] X.env)).any (·.1)=false:=by rfl):
  OE X cls E (.Call (.Name "sorted" p) [.Call (.Attribute o "values" ap) [] [] cp] [] pos) (HN n fo):=
 (uW (Gs hc hu) hg hm boot.sorted (pK (NB rp rc PySem.F.type_dict_values Fe ho hbase hline) BO he) (by decide) (by decide) he hpl).imp fun σ H Q ⟨ok,ρ,ω,r,ω',P,e,q⟩=>by
  refine tO.then_ P e (fun c z=>by subst z;exact q) fun d ω1 v ok1 H1 e1 n1 P1 r1=> ?_;obtain⟨y,e3,rfl⟩:=cK e1;obtain⟨ue3,rfl⟩:=cQ e3;unfold FO at ue3;split at ue3
  ·rename_i kvs hcell
   obtain⟨k,rfl,e4⟩:=dO hcell;obtain⟨out,e5,rfl⟩:=aH ue3;obtain⟨a,rfl,e6,vs,e7,kv⟩:=P1.st.ref r1 e4;refine⟨.inr (.inr (.inl ⟨rfl,.inr ⟨vs,e7⟩⟩)),a,vs,rfl,rfl,e7,fun w nw=> ?_⟩;have hne:a≠w:=aN e7 nw;have s2:=cH (o:=MC w a) nw;refine⟨w,a,vs,_,out,ok1,rfl,aP,by rw[aG hne];exact e7,kv.vals.same s2,e5,fun l ys nl rs=> ?_⟩;have s3:=cH (o:=.lst ys) nl;exact q _ ok1 _ (n1.trans (.same P1.okh P1.st (s2.trans s3))) (.lst_new (P1.okh l (s2.free nl)) nl rs)
  ·cases ue3
def Nb (K:aa) (n:Nat):List V->Hp->VK->Prop:=fun xs H Q=>∃ d kvs out ok,xs=[.ref d]/\H d=xo (.dT kvs)/\OkH ok H/\eD n (kvs.map fun p=>bI p.1)=xo out/\∀ l ys,H l=xp->Reps K ok H ys out->Q (.ref l) (upd H l (.lst ys))
theorem yF {K:aa} (hok:OkH ok H):∀ {kvs:List (List Key×V)}{as:List af},as.length=kvs.length->(∀(j:Nat) p a,kvs[j]?=xo p->as[j]?=xo a->H a=xo (.tup (p.1.map kV)))->Reps K ok H (as.map V.ref) (kvs.map fun p=>bI p.1)
 |[],[],_,_=>.nil
 |p::kvs,a::as,hl,h=>by
  refine .cons ?_ (yF hok (by simpa using hl) fun j q b e1 e2=>h (j+1) q b (by simpa using e1) (by simpa using e2))
  have:=h 0 p a rfl rfl
  exact .tup ⟨hok.tp a _ this,this⟩ (Au p.1)
 |[],_::_,hl,_=>by cases hl
 |_::_,[],hl,_=>by cases hl
theorem Gv (hc:X.calm=true) (hu:X.A.units+(n+2)<d7):CallR X (.builtin "sorted") (Nb X.K n):=by
 intro pins s σ H xs us Q I r h;obtain⟨d,kvs,out,ok,rfl,hd,hok,hs,q⟩:=h;obtain⟨u,rfl,rx⟩:=lA r;cases rx;obtain⟨lo,hz,es,ep,rd,sz,it⟩:=qV I (.inl hd)
 -- the keys' addresses
 have hex:∀ j,j<es.size->∃ a,∃ y p,es[j]?=xo y/\kvs[j]?=xo p/\y.key=.ref a/\H a=xo (.tup (p.1.map kV)):=fun j hj=>by
  obtain⟨p,p1,_,a,p2,p3⟩:=it j es[j] (by simp[hj]);exact⟨a,_,p,by simp[hj],p1,p2,p3⟩
 have hass:∃ as:List af,as.length=kvs.length/\∀(j:Nat) a,as[j]?=xo a->∃ y p,es[j]?=xo y/\kvs[j]?=xo p/\y.key=.ref a/\H a=xo (.tup (p.1.map kV)):=by
  refine⟨(bp es.size).map fun j=>if hj:j<es.size then(hex j hj).choose else 0,by simp[sz],fun j a ha=> ?_⟩;rw[ay] at ha;obtain⟨j',e1,e2⟩:=aH ha;have hj0:j<es.size:=by
   rcases ll j es.size with z|z
   ·exact z
   ·rw[cq (by simpa using z)] at e1;cases e1
  have hj:j<es.size/\j'=j:=by
   rw[di hj0] at e1;cases e1;exact⟨hj0,rfl⟩
  obtain⟨hj,rfl⟩:=hj;rw[dif_pos hj] at e2;rw[<- e2];exact(hex _ hj).choose_spec
 obtain⟨as,al,ah⟩:=hass;have rs:Reps X.K ok H (as.map V.ref) (kvs.map fun p=>bI p.1):=yF hok al fun j p a e1 e2=>by
  obtain⟨y,p',_,g2,_,g4⟩:=ah j a e2;rw[e1] at g2;cases g2;exact g4
 have hPP:∀(j:Nat) v x,(∃ e,es[j]?=xo e/\v=e.key)->(as.map V.ref)[j]?=xo x->RelV x v:=fun j v x ⟨e,e1,e2⟩ hx=>by
  rw[ay] at hx;obtain⟨a,a1,a2⟩:=aH hx;subst a2;obtain⟨y,p,g1,_,g3,_⟩:=ah j a a1;rw[e1] at g1;cases g1;rw[e2,g3];rfl
 by_cases hl:kvs.length<2
 ·obtain rfl:=pF hs (by simpa using hl);refine pB (BH (d:=d) (es:=es) (ep:=ep) lo) (I.ok.hd hc) rd (by rw[sz];exact hl) fun h' tk vs a c kp na hlen hP ha=> ?_;have rv:Vals (as.map V.ref) vs:=Ab (by rw[hlen,sz,ak,al]) fun j w hw=>by
   have hj:j<as.length:=by
    have:=(bq.mp hw).1
    rw[al,<- sz,<- hlen];exact this
   exact⟨.ref as[j],by rw[ay,bj hj];rfl,hPP j w _ (hP j w hw) (by rw[ay,bj hj];rfl)⟩
  obtain⟨hn,I'⟩:=I.laidN (t':=tk) kp na (vF (H:=upd H a (.lst (as.map V.ref))) rv (by rw[ak,al];exact hz) ha);exact⟨.ref a,_,I',rfl,q a _ hn rs⟩
 ·have h64:=pE hs (by simpa using hl);rw[ak] at h64;exact pA I (BH (d:=d) (es:=es) (ep:=ep) lo) (I.ok.hd hc) rd (by omega) (by omega) hu (by rw[ak,al,sz]) hPP rs hs fun h' tk ys l nl I' rs'=>⟨.ref l,_,I',rfl,q l ys nl rs'⟩
noncomputable def FP (n:Nat) (ω:Om) (ds:List D):Option (D×Om):=match ds with
 |[d]=>match cellOf ω d with
  |some (.dt kvs)=>(eD n (kvs.map fun p=>bI p.1)).map fun out=>(.lst out,ω)
  |_=>xp
 |_=>xp
theorem IG {K:aa}:nU cls K (Nb K n) (FP n):=fun ok H ω xs as d ω' Q h1 st r e k=>by
 unfold FP at e;split at e
 ·split at e
  ·rename_i kvs hcell
   obtain⟨out,e5,e6⟩:=aH e;cases e6;obtain⟨n,rfl,e1⟩:=dO hcell;obtain⟨v,rfl,r1⟩:=r.one_inv;obtain⟨a,rfl,e6,vs,e7,kv⟩:=st.ref r1 e1;have hk:(vs.map fun p=>bI p.1)=kvs.map fun p=>bI p.1:=by
    have:=congrArg (List.map bI) kv.keys
    rw[fj,fj] at this;exact this
   refine⟨a,vs,out,ok,rfl,e7,h1,?_,fun l ys nl rs=>k _ ok _ (.same h1 st (cH nl)) (.lst_new (h1 l nl) nl rs)⟩;rw[hk];exact e5
  ·cases e
 ·cases e
end
section
variable {X:Cx}{cls exC:Nat->af}{E:XE}{e a b c o i o2 i2 value:bw}{es rest:List bw}{fa fb fc fo fi fo2 fi2 fv:OG D}{fl:OG (List D)}{ft ft':OG Bool}{pos p apos pos' pos2 tp cpos:Pos}{x m:Str}{st:cx}
theorem Lp (ha:OE X cls E a fa) (hb:OE X cls E b fb):OE X cls E (.BinOp a .Add b pos) (MB.o2 (lf LW) fa fb):=uZ CV (Fit2.lift (fun ok H x y a b d Q h1 ra rb e k=>by
 cases a with
 |str u=>cases b with
  |str v=>
   obtain⟨hz,rfl⟩:=bJ (show(if u.length+v.length<=sizeLine then xo (D.str (u++v)) else xp)=xo d from e);exact⟨u,v,ra.str_inv,rb.str_inv,hz,k _ H (Same.refl H) (.str _)⟩
  |_=>cases e
 |_=>cases e)) ha hb
theorem Ld (ha:OE X cls E a fa) (hb:OE X cls E b fb):OE X cls E (.BinOp a .Mult b pos) (MB.o2 (lf LV) fa fb):=uZ KP (Fit2.lift (fun ok H x y a b d Q h1 ra rb e k=>by
 cases a with
 |str u=>cases b with
  |int v=>
   obtain⟨hz,rfl⟩:=bJ (show(if 0<=v/\v<=100000/\u.length<=100 then xo (D.str (PJ u v)) else xp)=xo d from e);exact⟨u,v,ra.str_inv,rb.int_inv,hz,k _ H (Same.refl H) (.str _)⟩
  |_=>cases e
 |_=>cases e)) ha hb
noncomputable def mC (ω:Om) (d:D):D:=match eJ ω d with
 |some ds=>.lst ds
 |none=>d
theorem jU {K:aa} (t:Stt cls K ok H ω) (r:Rep K ok H v d):Rep K ⟨fun _=>True,ok.al⟩ H v (mC ω d):=by
 unfold mC;cases hs:eJ ω d with
 |some ds=>exact xJ t r hs
 |none=>exact r.wide
noncomputable def iM (n:Nat) (ω:Om) (a b:D):Option (D×Om):=pu (gEq n (mC ω a) (mC ω b)) ω
noncomputable def Cm (n:Nat) (ω:Om) (a b:D):Option (D×Om):=pu (gNe n (mC ω a) (mC ω b)) ω
theorem Me {K:aa}:zW cls K (RA K n) (iM n):=fun ok H ω x y a b d ω' Q h1 st ra rb e k=>by
 obtain⟨ue,rfl⟩:=cQ e;obtain⟨c,e1,rfl⟩:=aH ue;exact⟨_,_,_,c,jU st ra,jU st rb,e1,k _ ok H (.refl h1 st) (.bl _)⟩
theorem LZ {K:aa}:zW cls K (Ru K n) (Cm n):=fun ok H ω x y a b d ω' Q h1 st ra rb e k=>by
 obtain⟨ue,rfl⟩:=cQ e;obtain⟨c,e1,rfl⟩:=aH ue;exact⟨_,_,_,c,jU st ra,jU st rb,e1,k _ ok H (.refl h1 st) (.bl _)⟩
theorem NK (hu:JT X n) (ha:OE X cls E a fa) (hb:OE X cls E b fb):OT X cls E (.Compare a [.Eq] [b] pos) (cA (MB.o2 (iM n) fa fb)):=lL (Oa hu) Me ha hb (lN _)
theorem NJ (hu:JT X n) (ha:OE X cls E a fa) (hb:OE X cls E b fb):OT X cls E (.Compare a [.NotEq] [b] pos) (cA (MB.o2 (Cm n) fa fb)):=lL (NU hu) LZ ha hb (lN _)
noncomputable def oIT (f:OG D):OI':=oB f fun d _ ω=>oR (pu (match d with|.tup ds=>xo (ds,bK)|_=>xp) ω)
theorem Of (h:OE X cls E e fa):OI X cls E tg e (oIT fa):=PI.imp (Nn h) fun σ H R ⟨ok,ρ,ω,r,ω',P,e,q⟩=>by
 refine tO.then_ P e (fun c z=>by subst z;exact q) fun d ω1 v ok1 H1 e1 n1 P1 r1=> ?_;obtain⟨⟨ds,chk⟩,e3,rfl⟩:=cK e1;obtain⟨ue3,rfl⟩:=cQ e3;split at ue3
 ·cases ue3;obtain⟨a,xs,rfl,g,rs⟩:=r1.tup_inv;refine⟨a,rfl,⟨xs,g.sq⟩,q _ ok1 H1 n1 ⟨fun i ok H ω n c hi=> ?_,fun i ok H ω x H' d n c y hd=> ?_,fun i ok H ω n c hi=>⟨xs,(g.mono n.ex.dat).sq,by rw[rs.length];exact hi⟩⟩⟩
  ·have hi':i<xs.length:=by rw[rs.length];exact hi
   exact⟨xs,xs[i],(g.mono n.ex.dat).sq,by simp[hi']⟩
  ·obtain⟨rfl,y⟩:=y;have rs':=rs.ex n.ex;obtain⟨w,z1,z2⟩:=rs'.get hd;rw[y xs (g.mono n.ex.dat).sq] at z1;cases z1;exact⟨Same.refl _,z2⟩
 ·cases ue3
end
end L2.MB
end
section
namespace L2.MB
open PySem PySem.Spec PyProof.Rows PySem.W
def Tree {α:Type} (n:Nat) (Q:α->Prop):KasT α->Prop
 |.ret a=>Q a
 |.ask i j k=>i<n/\j<n/\∀ b,Tree n Q (k b)
theorem Tree.bind {f:α->KasT β} (g:∀ a,Q a->Tree n R (f a)):∀ {t:KasT α},Tree n Q t->Tree n R (t.bind f)
 |.ret a,h=>by rw[KasT.bind.eq_1];exact g a h
 |.ask i j k,h=>by
  rw[KasT.bind.eq_2];exact⟨h.1,h.2.1,fun b=>Tree.bind g (h.2.2 b)⟩
theorem Tree.run (hl:∀ i j,i<n->j<n->∃ c,lt i j=xo c):∀ {t:KasT α},Tree n Q t->∃ a,Kb lt t=xo a/\Q a
 |.ret a,h=>⟨a,rfl,h⟩
 |.ask i j k,h=>by
  obtain⟨c,e⟩:=hl i j h.1 h.2.1;obtain⟨a,e2,q⟩:=Tree.run hl (h.2.2 c);refine⟨a,?_,q⟩
  show(lt i j).bind _=_
  rw[e];exact e2
def Pm (n:Nat) (p:Array Nat):Prop:=p.Perm (bp n).toArray
theorem Pm.lt (h:Pm n p) (h0:0<n) (i:Nat):p.getD i 0<n:=by
 rw[cw];cases q:p[i]? with
 |none=>exact h0
 |some x=>
  have hm:x∈p:=Array.mem_of_getElem? q
  have:x∈(bp n).toArray:=(h.mem_iff).mp hm
  simpa using this
theorem Pm.rev (h:Pm n p) (i j:Nat):Pm n (kas_rev p i j):=(mirror_perm p i j _).trans h
theorem Pm.bub (h:Pm n p) (k d:Nat):Pm n (bubble p k d):=(bubble_perm p k d).trans h
section
variable {n:Nat} (h0:0<n)
include h0
theorem uN (hp:Pm n p):∀(f m:Nat),Tree n (fun _=>True) (kas_asc p f m)
 |0,m=>by rw[kas_asc.eq_def];trivial
 |f+1,m=>by
  rw[kas_asc.eq_def];refine⟨hp.lt h0 _,hp.lt h0 _,fun b=> ?_⟩;cases b with
  |true=>(dsimp only;rw[if_pos rfl]);trivial
  |false=>(dsimp only;rw[if_neg cg]);exact uN hp f (m+1)
theorem lD:∀(f:Nat) {p:Array Nat} (m q:Nat),Pm n p->Tree n (fun r:Array Nat×Nat×Nat=>Pm n r.1) (kas_desc f p m q)
 |0,p,m,q,hp=>by rw[kas_desc.eq_def];exact hp
 |f+1,p,m,q,hp=>by
  rw[kas_desc.eq_def];refine⟨hp.lt h0 _,hp.lt h0 _,fun b=> ?_⟩;cases b with
  |true=>
   (dsimp only;rw[if_pos rfl])
   by_cases hq:q>0
   ·rw[if_pos hq];exact lD f _ _ (hp.rev _ _)
   ·rw[if_neg hq];exact lD f _ _ hp
  |false=>
   (dsimp only;rw[if_neg cg])
   refine⟨hp.lt h0 _,hp.lt h0 _,fun b=> ?_⟩;cases b with
   |true=>(dsimp only;rw[if_pos rfl]);exact hp
   |false=>(dsimp only;rw[if_neg cg]);exact lD f _ _ hp
theorem wZ (m r:Nat) (hp:Pm n p):Tree n (fun r:Nat×Array Nat=>Pm n r.2) (kas_tail3 m r p):=by
 unfold kas_tail3;refine Tree.bind (Q:=fun _=>True) (fun a _=> ?_) (uN h0 (hp.rev _ _) _ _);exact hp.rev _ _
theorem lC (m r:Nat) (hp:Pm n p):Tree n (fun r:Nat×Array Nat=>Pm n r.2) (kas_descPart m r p):=by
 unfold kas_descPart;refine(lD h0 _ _ _ hp).bind fun a ha=> ?_;split
 ·exact wZ h0 _ _ (Pm.rev ha _ _)
 ·exact wZ h0 _ _ ha
theorem CK (r:Nat) (hp:Pm n p):Tree n (fun r:Nat×Array Nat=>Pm n r.2) (kas_count r p):=by
 unfold kas_count;refine(uN h0 hp _ _).bind fun a _=> ?_;split
 ·exact hp
 ·split
  ·refine⟨hp.lt h0 _,hp.lt h0 _,fun b=> ?_⟩;cases b with
   |true=>(dsimp only;rw[if_pos rfl]);exact hp
   |false=>(dsimp only;rw[if_neg cg]);exact lC h0 _ _ (hp.rev _ _)
  ·exact lC h0 _ _ hp
theorem mK (hp:Pm n p) (k:Nat):∀(f l r:Nat),Tree n (fun _=>True) (kas_place p k f l r)
 |0,l,r=>by rw[kas_place.eq_def];trivial
 |f+1,l,r=>by
  rw[kas_place.eq_def];show Tree n _ (if l≥r then _ else _);split
  ·trivial
  ·refine⟨hp.lt h0 _,hp.lt h0 _,fun b=> ?_⟩;cases b with
   |true=>(dsimp only;rw[if_pos rfl]);exact mK hp k f _ _
   |false=>(dsimp only;rw[if_neg cg]);exact mK hp k f _ _
theorem BA:∀(f:Nat) {p:Array Nat} (k:Nat),Pm n p->Tree n (fun r:Array Nat=>Pm n r) (kas_bin f p k)
 |0,p,k,hp=>by rw[kas_bin.eq_def];exact hp
 |f+1,p,k,hp=>by
  rw[kas_bin.eq_def];exact(mK h0 hp k _ _ _).bind fun l _=>BA f _ (hp.bub _ _)
theorem xA:Tree n (fun r:Array Nat=>Pm n r) (kas_sort n):=by
 unfold kas_sort;refine(CK h0 _ (wz _)).bind fun r hr=> ?_;split
 ·exact BA h0 _ _ hr
 ·exact hr
end
theorem uP (h64:ds.length<64) (hk:iW ds=true) (hl:∀ a∈ds,∀ b∈ds,∃ c,dZ m a b=xo c):∃ out,eD m ds=xo out/\out.Perm ds:=by
 unfold eD
 by_cases h2:ds.length<2
 ·rw[if_pos h2];exact⟨ds,rfl,.refl _⟩
 ·rw[if_neg h2,if_pos ⟨h64,hk⟩];have gm:∀ i,i<ds.length->ds.getD i .non∈ds:=fun i hi=>by
   rw[ax,bj hi];exact jj hi
  obtain⟨p,e,hp⟩:=Tree.run (n:=ds.length) (lt:=fun i j=>dZ m (ds.getD i .non) (ds.getD j .non)) (fun i j hi hj=>hl _ (gm i hi) _ (gm j hj)) (xA (n:=ds.length) (by omega));rw[e];have pl:p.toList.Perm (bp ds.length):=by
   have:=hp
   unfold Pm at this;rw[qg] at this;simpa using this
  have hl2:p.toList.length<=64:=by rw[pl.length_eq,gq];omega
  refine⟨_,by show(if p.toList.length<=64 then _ else xp)=_;rw[if_pos hl2],?_⟩;refine(pl.map _).trans ?_
  have:(bp ds.length).map (fun i=>ds.getD i .non)=ds:=by
   apply iq;intro i;rw[ay];rcases ll i ds.length with h|h
   ·rw[di h,bj h];show xo (ds.getD i .non)=_;rw[ax,bj h];rfl
   ·rw[cq h,cq (by simpa using h)];rfl
  rw[this]
def TreeL {α:Type} (L:Nat->Nat->Bool) (Q:α->Prop):KasT α->Prop
 |.ret a=>Q a
 |.ask i j k=>TreeL L Q (k (L i j))
theorem TreeL.bind {f:α->KasT β} (g:∀ a,Q a->TreeL L R (f a)):∀ {t:KasT α},TreeL L Q t->TreeL L R (t.bind f)
 |.ret a,h=>by rw[KasT.bind.eq_1];exact g a h
 |.ask i j k,h=>by
  rw[KasT.bind.eq_2];exact TreeL.bind g h
theorem TreeL.run:∀ {t:KasT α}{a:α},TreeL (fun i j=>lt i j==xo true) Q t->Kb lt t=xo a->Q a
 |.ret a,_,h,e=>by cases e;exact h
 |.ask i j k,a,h,e=>by
  change TreeL _ Q (k (lt i j==xo true)) at h
  change (lt i j).bind (fun c=>Kb lt (k c))=xo a at e
  cases hq:lt i j with
  |none=>rw[hq] at e;cases e
  |some c=>
   rw[hq] at e h
   have:(xo c==xo true)=c:=by cases c <;> rfl
   rw[this] at h;exact TreeL.run h e
theorem Tree.run':∀ {t:KasT α}{a:α},Tree n Q t->Kb lt t=xo a->Q a
 |.ret a,_,h,e=>by cases e;exact h
 |.ask i j k,a,h,e=>by
  obtain⟨c,e1,e2⟩:=bind_some (show(lt i j).bind _=_ from e);exact Tree.run' (h.2.2 c) e2
section
variable {n:Nat}{L:Nat->Nat->Bool} (ht:∀ i j,i<n->j<n->i≠j->L i j=false->L j i=true) (hr:∀ i j k,i<n->j<n->k<n->L i j=true->L j k=true->L i k=true)
def Asc (L:Nat->Nat->Bool) (p:Array Nat) (m:Nat):Prop:=∀ i j,i<j->j<m->L (p.getD i 0) (p.getD j 0)=true
def Dsc (L:Nat->Nat->Bool) (p:Array Nat) (m:Nat):Prop:=∀ i j,i<j->j<m->L (p.getD j 0) (p.getD i 0)=true
theorem Pm.size (h:Pm n p):p.size=n:=by
 have:=h.size_eq
 simpa using this
theorem Pm.ne (h:Pm n p) (hi:i<n) (hj:j<n) (hne:i≠j):p.getD i 0≠p.getD j 0:=by
 have pl:p.toList.Perm (bp n):=by
  have:=h
  unfold Pm at this;rw[qg] at this;simpa using this
 have nd:p.toList.Nodup:=pl.nodup_iff.mpr List.nodup_range;have hs:=h.size;intro z;have gi:p.getD i 0=p.toList[i]'(by simp[hs,hi]):=by
  rw[cw,i5 (by omega)];simp
 have gj:p.getD j 0=p.toList[j]'(by simp[hs,hj]):=by
  rw[cw,i5 (by omega)];simp
 rw[gi,gj] at z;have pw:=me.mp nd;rcases Nat.lt_or_gt_of_ne hne with q|q
 ·exact pw i j _ _ q z
 ·exact pw j i _ _ q z.symm
include ht hr in
theorem Jm {p:Array Nat} (h0:0<n) (hp:Pm n p) {m:Nat} (h1:1<=m) (hm:m<n) (a:Asc L p m) (c:L (p.getD m 0) (p.getD (m-1) 0)=false):Asc L p (m+1):=by
 have up:=ht _ _ (hp.lt h0 m) (hp.lt h0 (m-1)) (hp.ne hm (by omega) (by omega)) c;intro i j hij hj
 by_cases e:j=m
 ·subst e
  by_cases e2:i=j-1
  ·rw[e2];exact up
  ·exact hr _ _ _ (hp.lt h0 _) (hp.lt h0 _) (hp.lt h0 _) (a i (j-1) (by omega) (by omega)) up
 ·exact a i j hij (by omega)
include ht hr in
theorem Ao {p:Array Nat} (h0:0<n) (hp:Pm n p):∀(f m:Nat),1<=m->m+f<=n->Asc L p m->TreeL L (fun q=>m<=q/\q<=m+f/\Asc L p q/\(q<m+f->L (p.getD q 0) (p.getD (q-1) 0)=true)) (kas_asc p f m)
 |0,m,h1,hm,a=>by
  rw[kas_asc.eq_def];exact⟨bf _,bf _,a,fun z=>by omega⟩
 |f+1,m,h1,hm,a=>by
  rw[kas_asc.eq_def];show TreeL L _ (if L (p.getD m 0) (p.getD (m-1) 0)=true then KasT.ret m else kas_asc p f (m+1));cases c:L (p.getD m 0) (p.getD (m-1) 0) with
  |true=>
   rw[if_pos rfl];exact⟨bf _,by omega,a,fun _=>c⟩
  |false=>
   rw[if_neg cg];have ih:=Ao h0 hp f (m+1) (by omega) (by omega) (Jm ht hr h0 hp h1 (by omega) a c)
   have:m+1+f=m+(f+1):=by omega
   rw[this] at ih;have mono:∀ {t:KasT Nat},TreeL L (fun q=>m+1<=q/\q<=m+(f+1)/\Asc L p q/\(q<m+(f+1)->L (p.getD q 0) (p.getD (q-1) 0)=true)) t->TreeL L (fun q=>m<=q/\q<=m+(f+1)/\Asc L p q/\(q<m+(f+1)->L (p.getD q 0) (p.getD (q-1) 0)=true)) t:=by
    intro t
    induction t with
    |ret a=>exact fun h=>⟨by have:=h.1;omega,h.2⟩
    |ask i j k ih=>exact fun h=>ih _ h
   exact mono ih
include ht hr in
theorem BQ {p:Array Nat} (h0:0<n) (hp:Pm n p):∀(f m:Nat),1<=m->m+f<=n->Dsc L p m->TreeL L (fun r:Array Nat×Nat×Nat=>r.1=p/\r.2.2=0/\m<=r.2.1/\r.2.1<=m+f/\Dsc L p r.2.1) (kas_desc f p m 0)
 |0,m,h1,hm,a=>by
  rw[kas_desc.eq_def];exact⟨rfl,rfl,bf _,bf _,a⟩
 |f+1,m,h1,hm,a=>by
  rw[kas_desc.eq_def];show TreeL L _ (if L (p.getD m 0) (p.getD (m-1) 0)=true then(if 0>0 then kas_desc f (kas_rev p (m-(0+1)) m) (m+1) 0 else kas_desc f p (m+1) 0) else KasT.ask (p.getD (m-1) 0) (p.getD m 0) fun d=>if d=true then .ret (p,m,0) else kas_desc f p (m+1) (0+1));cases c:L (p.getD m 0) (p.getD (m-1) 0) with
  |true=>
   rw[if_pos rfl,if_neg (dn 0)];have a':Dsc L p (m+1):=by
    intro i j hij hj
    by_cases e:j=m
    ·subst e
     by_cases e2:i=j-1
     ·rw[e2];exact c
     ·exact hr _ _ _ (hp.lt h0 _) (hp.lt h0 _) (hp.lt h0 _) c (a i (j-1) (by omega) (by omega))
    ·exact a i j hij (by omega)
   have ih:=BQ h0 hp f (m+1) (by omega) (by omega) a';have mono:∀ {t:KasT (Array Nat×Nat×Nat)},TreeL L (fun r:Array Nat×Nat×Nat=>r.1=p/\r.2.2=0/\m+1<=r.2.1/\r.2.1<=m+1+f/\Dsc L p r.2.1) t->TreeL L (fun r:Array Nat×Nat×Nat=>r.1=p/\r.2.2=0/\m<=r.2.1/\r.2.1<=m+(f+1)/\Dsc L p r.2.1) t:=by
    intro t
    induction t with
    |ret a=>exact fun h=>⟨h.1,h.2.1,by have:=h.2.2.1;omega,by have:=h.2.2.2.1;omega,h.2.2.2.2⟩
    |ask i j k ih=>exact fun h=>ih _ h
   exact mono ih
  |false=>
   rw[if_neg cg];show TreeL L _ (if L (p.getD (m-1) 0) (p.getD m 0)=true then KasT.ret (p,m,0) else _);rw[if_pos (ht _ _ (hp.lt h0 _) (hp.lt h0 _) (hp.ne (by omega) (by omega) (by omega)) c)];exact⟨rfl,rfl,bf _,by show m<=m+(f+1);omega,a⟩
theorem Ch (hm:m<=p.size) (hk:k<m):(kas_rev p 0 m).getD k 0=p.getD (m-1-k) 0:=by
 unfold kas_rev;rw[cw,cw,getElem?_mirror_all hm,if_pos ⟨ia _,hk⟩,Nat.zero_add]
theorem Dsc.rev (hm:m<=p.size) (d:Dsc L p m):Asc L (kas_rev p 0 m) m:=fun i j hij hj=>by
 rw[Ch hm (by omega),Ch hm hj];exact d _ _ (by omega) (by omega)
include ht hr in
theorem EN {p:Array Nat} (h2:2<=n) (hp:Pm n p):TreeL L (fun r:Nat×Array Nat=>Pm n r.2/\1<=r.1/\r.1<=n/\Asc L r.2 r.1) (kas_count n p):=by
 have h0:0<n:=by omega
 unfold kas_count;refine(Ao ht hr h0 hp (n-1) 1 (bf _) (by omega) fun i j hij hj=>by omega).bind fun q hq=> ?_;obtain⟨q1,q2,qa,qs⟩:=hq
 by_cases e:q=n
 ·rw[if_pos (by simpa using e)];exact⟨hp,q1,by omega,qa⟩
 ·rw[if_neg (by simpa using e)]
  by_cases h1:q>1
  ·rw[if_pos h1];show TreeL L _ (if L (p.getD 0 0) (p.getD (q-1) 0)=true then KasT.ret (q,p) else _);rw[if_pos (qa 0 (q-1) (by omega) (by omega))];exact⟨hp,q1,by omega,qa⟩
  ·rw[if_neg h1];have hq1:q=1:=by omega
   subst hq1;have c:=qs (by omega);unfold kas_descPart;refine(BQ ht hr h0 hp (n-(1+1)) (1+1) (by omega) (by omega) fun i j hij hj=> ?_).bind fun r hrr=> ?_
   ·have:i=0/\j=1:=by omega
    rw[this.1,this.2];exact c
   ·obtain⟨r1,r2,r3,r4,r5⟩:=hrr;rw[if_neg (by omega),r1];unfold kas_tail3;have hs:=hp.size;refine(Ao ht hr h0 (hp.rev 0 r.2.1) (n-r.2.1) r.2.1 (by omega) (by omega) (r5.rev (by omega))).bind fun m hm=> ?_;exact⟨hp.rev _ _,by have:=hm.1;show 1<=m;omega,by have:=hm.2.1;show m<=n;omega,hm.2.2.1⟩
include ht hr in
theorem pM {p:Array Nat} (h0:0<n) (hp:Pm n p) {k:Nat} (hk:k<n) (a:Asc L p k):∀(f l r:Nat),l<=r->r<=k->r-l<=f->(∀ i,i<l->L (p.getD i 0) (p.getD k 0)=true)->(∀ i,r<=i->i<k->L (p.getD k 0) (p.getD i 0)=true)->TreeL L (fun q=>q<=k/\(∀ i,i<q->L (p.getD i 0) (p.getD k 0)=true)/\(∀ i,q<=i->i<k->L (p.getD k 0) (p.getD i 0)=true)) (kas_place p k f l r)
 |0,l,r,h1,h2,h3,h4,h5=>by
  rw[kas_place.eq_def]
  have:r=l:=by omega
  subst this;exact⟨h2,h4,h5⟩
 |f+1,l,r,h1,h2,h3,h4,h5=>by
  rw[kas_place.eq_def];show TreeL L _ (if l≥r then KasT.ret l else _)
  by_cases e:l≥r
  ·rw[if_pos e]
   have:r=l:=by omega
   subst this;exact⟨h2,h4,h5⟩
  ·rw[if_neg e];show TreeL L _ (if L (p.getD k 0) (p.getD ((l+r) / 2) 0)=true then kas_place p k f l ((l+r) / 2) else kas_place p k f ((l+r) / 2+1) r);cases c:L (p.getD k 0) (p.getD ((l+r) / 2) 0) with
   |true=>
    rw[if_pos rfl];refine pM h0 hp hk a f l ((l+r) / 2) (by omega) (by omega) (by omega) h4 fun i hi hik=> ?_
    by_cases e2:i=(l+r) / 2
    ·rw[e2];exact c
    ·exact hr _ _ _ (hp.lt h0 _) (hp.lt h0 _) (hp.lt h0 _) c (a _ _ (by omega) hik)
   |false=>
    rw[if_neg cg];have up:=ht _ _ (hp.lt h0 _) (hp.lt h0 _) (hp.ne hk (by omega) (by omega)) c;refine pM h0 hp hk a f ((l+r) / 2+1) r (by omega) (by omega) (by omega) (fun i hi=> ?_) h5
    by_cases e2:i=(l+r) / 2
    ·rw[e2];exact up
    ·exact hr _ _ _ (hp.lt h0 _) (hp.lt h0 _) (hp.lt h0 _) (a _ _ (by omega) (by omega)) up
theorem Ci (hk:k<p.size) (hl:l<=k):(bubble p k (k-l)).getD i 0=if i=l then p.getD k 0 else if l<i/\i<=k then p.getD (i-1) 0 else p.getD i 0:=by
 rw[cw,getElem?_bubble hk (k-l) (by omega)]
 have:k-(k-l)=l:=by omega
 rw[this]
 by_cases h1:i=l
 ·rw[if_pos h1,if_pos h1,cw]
 ·rw[if_neg h1,if_neg h1]
  by_cases h2:l<i/\i<=k
  ·rw[if_pos h2,if_pos h2,cw]
  ·rw[if_neg h2,if_neg h2,cw]
theorem Asc.bub (hk:k<p.size) (hl:l<=k) (a:Asc L p k) (h1:∀ i,i<l->L (p.getD i 0) (p.getD k 0)=true) (h2:∀ i,l<=i->i<k->L (p.getD k 0) (p.getD i 0)=true):Asc L (bubble p k (k-l)) (k+1):=by
 intro i j hij hj;rw[Ci hk hl,Ci hk hl]
 by_cases i1:i=l
 ·rw[if_pos i1,if_neg (by omega),if_pos (by omega)];exact h2 _ (by omega) (by omega)
 ·rw[if_neg i1]
  by_cases i2:l<i/\i<=k
  ·rw[if_pos i2,if_neg (by omega),if_pos (by omega)];exact a _ _ (by omega) (by omega)
  ·rw[if_neg i2]
   by_cases j1:j=l
   ·rw[if_pos j1];exact h1 _ (by omega)
   ·rw[if_neg j1]
    by_cases j2:l<j/\j<=k
    ·rw[if_pos j2];exact a _ _ (by omega) (by omega)
    ·rw[if_neg j2];exact a _ _ (by omega) (by omega)
include ht hr in
theorem EO:∀(f:Nat) {p:Array Nat} (k:Nat),Pm n p->1<=k->k+f=n->Asc L p k->TreeL L (fun r:Array Nat=>Pm n r/\Asc L r n) (kas_bin f p k)
 |0,p,k,hp,_,hk,a=>by
  rw[kas_bin.eq_def]
  have:k=n:=by omega
  subst this;exact⟨hp,a⟩
 |f+1,p,k,hp,h1,hk,a=>by
  rw[kas_bin.eq_def];have hs:=hp.size;refine(pM ht hr (by omega) hp (by omega) a k 0 k (by omega) (bf _) (by omega) (fun i hi=>by omega) fun i hi hik=>by omega).bind fun l hl=> ?_;exact EO f (k+1) (hp.bub _ _) (by omega) (by omega) (Asc.bub (by omega) hl.1 a hl.2.1 hl.2.2)
include ht hr in
theorem HC (h2:2<=n):TreeL L (fun r:Array Nat=>Asc L r n) (kas_sort n):=by
 unfold kas_sort;refine(EN ht hr h2 (wz _)).bind fun r hrr=> ?_;obtain⟨r1,r2,r3,r4⟩:=hrr;have weak:∀ {t:KasT (Array Nat)},TreeL L (fun r:Array Nat=>Pm n r/\Asc L r n) t->TreeL L (fun r:Array Nat=>Asc L r n) t:=by
  intro t
  induction t with
  |ret a=>exact fun h=>h.2
  |ask i j k ih=>exact fun h=>ih _ h
 by_cases e:r.1<n
 ·rw[if_pos e,Nat.max_eq_left r2];exact weak (EO ht hr (n-r.1) r.1 r1 r2 (by omega) r4)
 ·rw[if_neg e]
  have:r.1=n:=by omega
  rw[this] at r4;exact r4
end
theorem Em (hs:eD m ds=xo out) (ht:∀ i j,i<ds.length->j<ds.length->i≠j->dZ m (ds.getD i .non) (ds.getD j .non)=xo true∨dZ m (ds.getD j .non) (ds.getD i .non)=xo true)
  (hr:∀ a∈ds,∀ b∈ds,∀ c∈ds,dZ m a b=xo true->dZ m b c=xo true->dZ m a c=xo true):out.Pairwise fun a b=>dZ m a b=xo true:=by
 unfold eD at hs
 by_cases h2:ds.length<2
 ·rw[if_pos h2] at hs;cases hs
  match ds,h2 with
  |[],_=>exact .nil
  |[a],_=>simp
 ·rw[if_neg h2] at hs;obtain⟨h64,hs⟩:=cR hs;obtain⟨p,e1,e2⟩:=bind_some hs;obtain⟨_,e3⟩:=cR e2;cases e3;have gm:∀ i,i<ds.length->ds.getD i .non∈ds:=fun i hi=>by
   rw[ax,bj hi];exact jj hi
  have A:=TreeL.run (HC (n:=ds.length) (L:=fun i j=>dZ m (ds.getD i .non) (ds.getD j .non)==xo true) (fun i j hi hj hne c=>by
   rcases ht i j hi hj hne with z|z
   ·rw[z] at c;cases c
   ·rw[z];rfl) (fun i j k hi hj hk a b=>by
   have a':dZ m (ds.getD i .non) (ds.getD j .non)=xo true:=by simpa using a
   have b':dZ m (ds.getD j .non) (ds.getD k .non)=xo true:=by simpa using b
   rw[hr _ (gm i hi) _ (gm j hj) _ (gm k hk) a' b'];rfl) (by omega)) e1
  have hp:Pm ds.length p:=by
   exact Tree.run' (xA (n:=ds.length) (by omega)) e1
  have sz:=hp.size;rw[List.pairwise_map,me];intro i j hi hj hij;have hi':i<p.size:=by simpa using hi
  have hj':j<p.size:=by simpa using hj
  have:=A i j hij (by omega)
  rw[cw,i5 hi',cw,i5 hj'] at this;simpa using this
def sLt (x y:Str):Prop:=x.cps.toList<y.cps.toList
theorem Et (h1:sLt x y) (h2:sLt y z):sLt x z:=List.lt_trans h1 h2
theorem sX (x:Str):¬ sLt x x:=List.lt_irrefl _
theorem Eu (h:x≠y):sLt x y∨sLt y x:=by
 by_cases q:x.cps.toList<y.cps.toList
 ·exact .inl q
 ·by_cases q2:y.cps.toList<x.cps.toList
  ·exact .inr q2
  ·exfalso
   apply h
   have:x.cps.toList=y.cps.toList:=List.le_antisymm (List.not_lt.mp q2) (List.not_lt.mp q)
   cases x;cases y;simp at this;simp[this]
abbrev mLt (a b a' b':Int):Prop:=a<a'∨(a=a'/\b<b')
def eLt (x:Str) (a b v:Int) (x':Str) (a' b' v':Int):Prop:=sLt x x'∨(x=x'/\(mLt a b a' b'∨(a=a'/\b=b'/\v<v')))
theorem Ic (a b a' b':Int):QN [a,b] [a',b']=decide (mLt a b a' b'):=by
 show(if a=a' then(if b=b' then false else decide (b<b')) else decide (a<a'))=_
 unfold mLt
 by_cases h:a=a'
 ·rw[if_pos h]
  by_cases h2:b=b'
  ·rw[if_pos h2];simp[h,h2]
  ·rw[if_neg h2];simp[h]
 ·rw[if_neg h];simp[h]
theorem IP (a b a' b':Int):eqD 4 (.tup [.int a,.int b]) (.tup [.int a',.int b'])=xo (decide (a=a'/\b=b')):=by
 have:eqD 4 (.tup [.int a,.int b]) (.tup [.int a',.int b'])=xo ((a==a'&&(b==b'&&true))&&true):=rfl
 rw[this]
 congr 1
 by_cases h:a=a' <;> by_cases h2:b=b' <;> simp[h,h2]
theorem Ph (n:Nat) (x y:Str):eqD n (.str x) (.str y)=xo (decide (x=y)):=by cases n <;> rfl
theorem BX (x:Str) (a b v:Int) (x':Str) (a' b' v':Int):dZ 4 (.tup [.str x,.tup [.int a,.int b],.int v]) (.tup [.str x',.tup [.int a',.int b'],.int v'])=xo true↔eLt x a b v x' a' b' v':=by
 show(match eqD 4 (.str x) (.str x') with
  |some true=>(match eqD 4 (.tup [.int a,.int b]) (.tup [.int a',.int b']) with
   |some true=>(match eqD 4 (.int v) (.int v') with
    |some true=>xo (decide (3<3))
    |some false=>fS (.int v) (.int v')
    |none=>xp)
   |some false=>fS (.tup [.int a,.int b]) (.tup [.int a',.int b'])
   |none=>xp)
  |some false=>fS (.str x) (.str x')
  |none=>xp)=xo true↔_
 rw[Ph,IP];have e3:eqD 4 (.int v) (.int v')=xo (decide (v=v')):=rfl;rw[e3];unfold eLt
 by_cases hx:x=x'
 ·rw[decide_eq_true hx]
  show(match xo (decide (a=a'/\b=b')) with
   |some true=>(match xo (decide (v=v')) with
    |some true=>xo (decide (3<3))
    |some false=>fS (.int v) (.int v')
    |none=>xp)
   |some false=>fS (.tup [.int a,.int b]) (.tup [.int a',.int b'])
   |none=>xp)=xo true↔_
  have nx:¬ sLt x x':=by rw[hx];exact sX _
  by_cases hm:a=a'/\b=b'
  ·rw[decide_eq_true hm];have nm:¬ mLt a b a' b':=by unfold mLt;omega
   by_cases hv:v=v'
   ·rw[decide_eq_true hv];show xo (decide (3<3))=xo true↔_;constructor
    ·intro z;simp at z
    ·rintro(z|⟨_,z|z⟩)
     ·exact absurd z nx
     ·exact absurd z nm
     ·omega
   ·rw[decide_eq_false hv];show xo (decide (v<v'))=xo true↔_;constructor
    ·intro z;exact .inr ⟨hx,.inr ⟨hm.1,hm.2,by simpa using z⟩⟩
    ·rintro(z|⟨_,z|z⟩)
     ·exact absurd z nx
     ·exact absurd z nm
     ·simpa using z.2.2
  ·rw[decide_eq_false hm];show xo (QN [a,b] [a',b'])=xo true↔_;rw[Ic];constructor
   ·intro z;exact .inr ⟨hx,.inl (by simpa using z)⟩
   ·rintro(z|⟨_,z|z⟩)
    ·exact absurd z nx
    ·simpa using z
    ·exact absurd ⟨z.1,z.2.1⟩ hm
 ·rw[decide_eq_false hx];show xo (decide (x.cps.toList<x'.cps.toList))=xo true↔_;constructor
  ·intro z;exact .inl (by simpa [sLt] using z)
  ·rintro(z|⟨z,_⟩)
   ·simpa [sLt] using z
   ·exact absurd z hx
theorem Fh (h1:mLt a b a' b') (h2:mLt a' b' a2 b2):mLt a b a2 b2:=by unfold mLt at*;omega
theorem Gd (h1:eLt x a b v x' a' b' v') (h2:eLt x' a' b' v' x2 a2 b2 v2):eLt x a b v x2 a2 b2 v2:=by
 unfold eLt at*;rcases h1 with h1|⟨rfl,h1⟩
 ·rcases h2 with h2|⟨rfl,h2⟩
  ·exact .inl (Et h1 h2)
  ·exact .inl h1
 ·rcases h2 with h2|⟨rfl,h2⟩
  ·exact .inl h2
  ·refine .inr ⟨rfl,?_⟩;rcases h1 with h1|⟨rfl,rfl,h1⟩
   ·rcases h2 with h2|⟨rfl,rfl,h2⟩
    ·exact .inl (Fh h1 h2)
    ·exact .inl h1
   ·rcases h2 with h2|⟨rfl,rfl,h2⟩
    ·exact .inl h2
    ·exact .inr ⟨rfl,rfl,by omega⟩
theorem mX {r:α->α->Prop} (ha:∀ a b,r a b->r b a->False):∀ {l m:List α},l.Perm m->l.Pairwise r->m.Pairwise r->l=m
 |[],m,h,_,_=>(List.nil_perm.mp h).symm
 |a::l,m,h,h1,h2=>by
  cases m with
  |nil=>exact absurd h.length_eq (by simp)
  |cons b m=>
   rw[List.pairwise_cons] at h1 h2;have e:a=b:=by
    have m1:a∈b::m:=h.mem_iff.mp ar;have m2:b∈a::l:=h.mem_iff.mpr ar;rcases aj.mp m1 with z|z
    ·exact z
    ·rcases aj.mp m2 with w|w
     ·exact w.symm
     ·exact(ha a b (h1.1 b w) (h2.1 a z)).elim
   subst e;rw[mX ha (List.Perm.cons_inv h) h1.2 h2.2]
section
variable {X:Cx}{cls exC:Nat->af}{E:XE}{e a b c o i value:bw}{es rest:List bw}{fa fb fc fo fi fv:OG D}{fl:OG (List D)}{pos p apos pos' cpos:Pos}{x m:Str}{st:cx}
theorem BZ {E:ag->aq->Prop}{vs:List ag} (hl:s.heap.IsList l vs.toArray) (hz:vs.length<=sizeLine)
  (h:∀(h':c5) (tk:Nat) (acc:Array ag),(∀ b o,s.heap.get? b=xo o->h'.get? b=xo o)->ItemsOf (fun j v=>vs[j]?=xo v) acc vs.length->R acc.toList { s with heap:=h',toks:=tk }):bc (model prog w) A (collect (.ref l)) R E s:=by
 refine collect_list hl ?_ hz
 have:=h ((s.heap.push (hW "list" #[] 0)).update s.heap.objs.size (i4 (· ++vs.toArray))) s.toks vs.toArray (fun b o q=>by
  have hlt:b<s.heap.objs.size:=bh q;rw[Heap.get?_update_ne _ _ _ _ (ci hlt),Heap.get?_push_ne _ _ _ (ci hlt)];exact q) ⟨by simp,fun j v q=>by simpa using q⟩
 simpa using this
def Na (K:aa) (n:Nat):List V->Hp->VK->Prop:=fun xs H Q=>∃ a ys ds out ok,xs=[.ref a]/\H a=xo (.lst ys)/\Reps K ok H ys ds/\eD n ds=xo out/\∀ l zs,H l=xp->Reps K ok H zs out->Q (.ref l) (upd H l (.lst zs))
theorem Gu (hu:X.A.units+(n+2)<d7):CallR X (.builtin "sorted") (Na X.K n):=by
 intro pins s σ H xs us Q I r h;obtain⟨a,ys,ds,out,ok,rfl,ha,rs,hs,q⟩:=h;obtain⟨u,rfl,rx⟩:=lA r;cases rx;obtain⟨hz,its,c,rv,hlen,eo⟩:=I.lstM ha;have hli:s.heap.IsList a its.toArray:=⟨_,eo,rfl,c,rfl⟩;have hPP:∀(j:Nat) v x,its[j]?=xo v->ys[j]?=xo x->RelV x v:=fun j v x e1 e2=>by
  obtain⟨v',e3,r3⟩:=rv.get e2;rw[e1] at e3;cases e3;exact r3
 have dl:ds.length=its.length:=by rw[<- rs.length,hlen]
 by_cases hl:ds.length<2
 ·obtain rfl:=pF hs hl;refine pD (fun h=>BZ hli (by omega) h) (by omega) fun h' tk vs l c kp na hvl hP ho=> ?_;have rv2:Vals ys vs:=Ab (by omega) fun j w hw=>by
   have hj:j<ys.length:=by
    have:=(bq.mp hw).1
    omega
   exact⟨ys[j],bj hj,hPP j w _ (hP j w hw) (bj hj)⟩
  obtain⟨hn,I'⟩:=I.laidN (t':=tk) kp na (vF (H:=upd H l (.lst ys)) rv2 hz ho);exact⟨.ref l,_,I',rfl,q l _ hn rs⟩
 ·have h64:=pE hs hl;exact pC I (fun h=>BZ hli (by omega) h) (by omega) (by omega) hu (by omega) hPP rs hs fun h' tk ys l nl I' rs'=>⟨.ref l,_,I',rfl,q l ys nl rs'⟩
noncomputable def Iv (n:Nat) (ω:Om) (ds:List D):Option (D×Om):=match ds with
 |[d]=>match eJ ω d with
  |some xs=>(eD n xs).map fun out=>(.lst out,ω)
  |none=>xp
 |_=>xp
theorem IF {K:aa}:nU cls K (Na K n) (Iv n):=fun ok H ω xs as d ω' Q h1 st r e k=>by
 unfold Iv at e;split at e
 ·split at e
  ·rename_i ys hseq
   obtain⟨out,e5,e6⟩:=aH e;cases e6;obtain⟨v,rfl,r1⟩:=r.one_inv;obtain⟨a,xs,rfl,g,rs⟩:=fA st r1 hseq;exact⟨a,xs,ys,out,ok,rfl,g,rs,e5,fun l zs nl rz=>k _ ok _ (.same h1 st (cH nl)) (.lst_new (h1 l nl) nl rz)⟩
  ·cases e
 ·cases e
end
section
variable {X:Cx}{cls exC:Nat->af}{E:XE}{e a b c o i value:bw}{es rest:List bw}{fa fb fc fo fi fv:OG D}{fl:OG (List D)}{pos p apos pos' cpos:Pos}{x m:Str}{st:cx}
noncomputable def AG (ω:Om) (a b:D):Option (D×Om):=match a,b with
 |.tup xs,.tup ys=>if xs≠[]/\ys≠[]/\xs.length+ys.length<=sizeLine then xo (.tup (xs++ys),ω) else xp
 |_,_=>xp
theorem Ln (ha:OE X cls E a fa) (hb:OE X cls E b fb):OE X cls E (.BinOp a .Add b pos) (o2 AG fa fb):=uZ KR (fun ok H ω x y a b d ω' Q h1 st ra rb e k=>by
 unfold AG at e;split at e
 ·rename_i xs ys
  obtain⟨⟨hx,hy,hz⟩,e3⟩:=bJ e;cases e3;obtain⟨a1,us,rfl,g1,r1⟩:=ra.tup_inv;obtain⟨b1,ws,rfl,g2,r2⟩:=rb.tup_inv;have nx:us≠[]:=fun z=>hx (by have:=r1.length;rw[z] at this;exact rq.mp this.symm);have ny:ws≠[]:=fun z=>hy (by have:=r2.length;rw[z] at this;exact rq.mp this.symm);exact⟨a1,b1,us,ws,rfl,rfl,g1.sq,g2.sq,nx,by rw[r1.length,r2.length];exact hz,fun z=>absurd z ny,fun _ p n=>k _ ok _ (.same h1 st (cH n)) (.tup_new (h1 p n) n (r1.append r2))⟩
 ·cases e) ha hb
noncomputable def AE (ω:Om) (ds:List D):Option (D×Om):=match ds with
 |[d]=>(eJ ω d).bind fun xs=>(lE xs).map fun ns=>(.int ns.sum,ω)
 |_=>xp
theorem IE {K:aa}:nU cls K (fun xs H Q=>∃(p:af) (ns:List Int),xs=[.ref p]/\SqL K H p (ns.map V.int)/\Q (.int ns.sum) H) AE:=fun ok H ω xs as d ω' Q h1 st r e k=>by
 unfold AE at e;split at e
 ·obtain⟨ys,e1,e⟩:=bind_some e;obtain⟨ns,e2,e3⟩:=aH e;cases e3;obtain rfl:=mM e2;obtain⟨v,rfl,r1⟩:=r.one_inv;obtain⟨a,xs,rfl,g,rs⟩:=fA st r1 e1;obtain rfl:=rs.of_ints;exact⟨a,ns,rfl,SqL.of g,k _ ok H (.refl h1 st) (.int _)⟩
 ·cases e
noncomputable def oVs:List (OG D)->OG (List D)
 |[]=>aM
 |f::r=>aC f (oVs r)
theorem BN {K:aa}:∀ {xs:List (Str×OG D)}{H:Hp}{Q:List (V×V)->Hp->Prop},tOA cls K (oVs (xs.map (·.2))) E σ H (fun vs H'=>vs.length=xs.length->Q ((xs.map fun p=>V.str p.1).zip vs) H')->BE (xs.map fun p=>(tO cls K (oP (dC (.str p.1))) E,tO cls K p.2 E)) σ H Q
 |[],H,Q,⟨ok,ρ,ω,r,ω',P,e,q⟩=>by
  cases e;exact q [] ok H (.refl P.okh P.st) .nil rfl
 |(x,f)::xs,H,Q,⟨ok,ρ,ω,r,ω',P,e,q⟩=>by
  refine⟨ok,ρ,ω,.ok (.str x),ω,P,rfl,fun v ok1 H1 n1 r1=> ?_⟩;obtain rfl:=r1.str_inv;refine tO.then_ (P.nw n1) e (fun c z=>by subst z;exact exR.nw q n1) fun d ω1 w ok2 H2 e1 n2 P2 r2=> ?_;refine BN ?_;rcases kC e1 with⟨c,e2,rfl⟩|⟨ds,ω2,e2,e3⟩
  ·exact⟨ok2,ρ,ω1,.ex c,ω',P2,e2,exR.nw (exR.nw q n1) n2⟩
  ·cases e3;exact⟨ok2,ρ,ω1,.ok ds,ω',P2,e2,fun vs ok3 H3 n3 r3 hl=>q (w::vs) ok3 H3 (n1.trans (n2.trans n3)) (.cons (r2.ex n3.ex) r3) (by simp[hl])⟩
noncomputable def Ja (ks:List Key) (ds:List D):List (Key×D):=(ks.zip ds).foldl (fun acc p=>putD acc p.1 p.2) []
noncomputable def Dn (ω:Om) (n:Nat):Bool:=match ω[n]? with
 |some (.dk [])=>true
 |_=>false
noncomputable def CW (xs:List (Str×OG D)):OG D:=fun ρ ω=>match oVs (xs.map (·.2)) ρ (ω++[.dk []]) with
 |none=>xp
 |some (.ex c,ω2)=>xo (.ex c,ω2)
 |some (.ok ds,ω2)=>if xs.length<=15/\Dn ω2 ω.length=true then xo (.ok (.obj ω.length),ω2.set ω.length (.dk (Ja (xs.map fun p=>j4 p.1) ds))) else xp
theorem KvR.disp {K:aa}:∀ {ks:List Key}{vs:List V}{ds:List D}{kv:List (Key×V)}{kd:List (Key×D)},Reps K ok H vs ds->KvR K ok H kv kd->KvR K ok H ((ks.zip vs).foldl (fun acc p=>mW acc p.1 p.2) kv) ((ks.zip ds).foldl (fun acc p=>putD acc p.1 p.2) kd)
 |[],_,_,_,_,_,h=>h
 |k::ks,_,_,kv,kd,.nil,h=>h
 |k::ks,_,_,kv,kd,.cons r rs,h=>KvR.disp (ks:=ks) rs (h.put r)
theorem Lk (h:PPs X pos keys values (xs.map fun p=>(tO cls X.K (oP (dC (.str p.1))) E,tO cls X.K p.2 E))) (hall:keys.all (·.isSome)=true) (hl:keys.length=values.length) (h0:keys≠[]) (h15:keys.length<=15):OE X cls E (.Dict keys values pos) (CW xs):=
 (Kv h hall hl h0 h15).imp fun σ H Q ⟨ok,ρ,ω,r,ω',P,e,q⟩=>by
  intro p np;have n0:=Nw.make (o:=.dK []) (ob:=.dk []) P.okh P.st np ⟨[],aP,.nil⟩;have P0:=P.nw n0;refine BN ?_;unfold CW at e;cases hv:oVs (xs.map (·.2)) ρ (ω++[.dk []]) with
  |none=>rw[hv] at e;cases e
  |some rr=>
   obtain⟨r1,ω2⟩:=rr;rw[hv] at e;cases r1 with
   |ex c=>
    cases e;exact⟨_,ρ,_,.ex c,ω',P0,hv,exR.nw q n0⟩
   |ok ds=>
    obtain⟨⟨hx,hd⟩,e3⟩:=bJ (show(if xs.length<=15/\Dn ω2 ω.length=true then xo (Rz.ok (D.obj ω.length),ω2.set ω.length (.dk (Ja (xs.map fun p=>j4 p.1) ds))) else xp)=xo (r,ω') from e);cases e3;refine⟨_,ρ,_,.ok ds,ω2,P0,hv,fun vs ok3 H3 n3 r3 hvl=> ?_⟩;have hc:ω2[ω.length]?=xo (.dk []):=by
     unfold Dn at hd;split at hd
     ·assumption
     ·cases hd
    have al:ok3.al ω.length=xo p:=n3.ex.ids _ _ (by show(if ω.length=ω.length then xo p else _)=_;rw[if_pos rfl]);obtain⟨a,e4,vs0,e5,kv⟩:=n3.st.cell _ _ hc;rw[al] at e4;cases e4;cases kv;have ez:∀(xs:List (Str×OG D)) (vs:List V),(xs.map fun p=>V.str p.1).zip vs=((xs.map fun p=>(j4 p.1:Key)).zip vs).map fun kv=>(kV kv.1,kv.2):=by
     intro xs
     induction xs with
     |nil=>intro vs;rfl
     |cons y ys ih=>
      intro vs;cases vs with
      |nil=>rfl
      |cons v vs=>
       rw[bg,bg,mr,mr,bg,ih vs];rfl
    refine⟨e5,(xs.map fun p=>(j4 p.1:Key)).zip vs,ez xs vs,by rw[List.length_zip,ak];omega,?_⟩;have nw:=Nw.write (o:=.dK (_root_.L2.mergeK [] ((xs.map fun p:Str×OG D=>(j4 p.1:Key)).zip vs))) (ob:=.dk (Ja (xs.map fun p:Str×OG D=>(j4 p.1:Key)) ds)) n3.okh n3.st al e5 fun dat=>⟨_,aP,KvR.disp (ks:=xs.map fun p:Str×OG D=>(j4 p.1:Key)) (r3.mono dat) .nil⟩;exact q _ ok3 _ (n0.trans (n3.trans nw)) (.obj (nw.ex.ids _ _ al))
end
section
variable {P:da}{w:dh}{K:aa}{mg:Str->Option ag}{base:c5}{cls exC:Nat->af}
def Bod (P:da) (w:dh) (K:aa) (mg:Str->Option ag) (base:c5) (cls exC:Nat->af) (k:Nat) (N:List Str) (q:Str) (st:cx) (G:OS):Prop:=∀(f:af) (cdv:ag) (A:dm) (outer:List Env) (s:aq) (H:Hp) (E:XK),Room k (A.deeper (jo q (bG st) s.heap.objs.size f cdv))->(A.deeper (jo q (bG st) s.heap.objs.size f cdv)).units+8<d7->(A.deeper (jo q (bG st) s.heap.objs.size f cdv)).units+1<d7->(A.deeper (jo q (bG st) s.heap.objs.size f cdv)).units+(4+2)<d7->
 Exc (AV (CX1 P w exC) P w K mg base N q (bG st) f cdv A outer s H E) exC (fun c H'=>E (.ref (exC c)) xp H')->PR (AV (CX1 P w exC) P w K mg base N q (bG st) f cdv A outer s H E) exC (fun c H'=>E (.ref (exC c)) xp H')->OSs (AV (CX1 P w exC) P w K mg base N q (bG st) f cdv A outer s H E) cls (fun c H'=>E (.ref (exC c)) xp H') (fW st) G
theorem Cy {x q:Str}{st:cx}{f:af}{fd:jw}{N ps:List Str}{k:Nat}{G:OS} (F:Fun K x q st f fd) (sc:kZ N ps (bG st)) (b:Bod P w K mg base cls exC k N q st G):sO P w K mg base (CX1 P w exC) (k+1) f fd ps (spO cls exC K (eB ps.length N G)):=
 Ss F sc fun cdv A outer s H E hr hE hR=>b f cdv A outer s H E hr (Gg hr) (QS hr) (by have h8:(A.deeper (jo q (bG st) s.heap.objs.size f cdv)).units+8<d7:=Gg hr;omega) hE hR
def All:Nat->(List ag->Prop)->Prop
 |0,Q=>Q []
 |n+1,Q=>∀ a,All n fun l=>Q (a::l)
theorem All.out:∀ {n:Nat}{Q:List ag->Prop},All n Q->∀ us:List ag,us.length=n->Q us
 |0,_,h,[],_=>h
 |_+1,_,h,a::_,e=>(h a).out _ (Nat.succ.inj e)
def Bnd (x q:Str) (st:cx) (ps:List Str):Prop:=All ps.length fun us=>∀(kV doc pm:ag) (an:Option af) (cdv ct:ag),bindArgs (iu x q (iB st) (fW st) (bG st) .none kV doc pm an cdv ct) ⟨us,[]⟩=pure (ps.zip us)
theorem Bnd.out {x q:Str}{st:cx}{ps:List Str}{f:af}{fd:jw} (h:Bnd x q st ps) (F:Fun K x q st f fd):Binds K fd ps []:=F.binds fun _ _ _ _ _ _ us e=>All.out h us e _ _ _ _ _ _
theorem dfD {x:Str}{st:cx}{N ps:List Str}{k:Nat}{G:OS} (e:∃ f fd,PQ K mg x st f fd) (b:Bod P w K mg base cls exC k N x st G) (sc:kZ N ps (bG st):=by constructor <;> first|rfl|decide+kernel) (hb:Bnd x x st ps:=by first|exact fun _ _ _ _ _ _ _=>rfl|exact fun _ _ _ _ _ _ _ _=>rfl|exact fun _ _ _ _ _ _ _ _ _=>rfl|exact fun _ _ _ _ _ _ _ _ _ _=>rfl):nG P w K mg base cls exC (k+1) x ps (eB ps.length N G):=
 let ⟨f,fd,F⟩:=e
 ⟨f,fd,Cy F.fn sc b,F.at_,F.fn.kp,hb.out F.fn⟩
theorem dfM {x q:Str}{st:cx}{N ps:List Str}{k c:Nat}{G:OS} (e:∃ f fd,Fun K x q st f fd/\Js K (cls c) x f) (hc:Cls K (cls c)) (b:Bod P w K mg base cls exC k N q st G) (sc:kZ N ps (bG st):=by constructor <;> first|rfl|decide+kernel) (hb:Bnd x q st ps:=by first|exact fun _ _ _ _ _ _ _=>rfl|exact fun _ _ _ _ _ _ _ _=>rfl|exact fun _ _ _ _ _ _ _ _ _=>rfl|exact fun _ _ _ _ _ _ _ _ _ _=>rfl):rQ P w K mg base cls exC (k+1) c x ps (eB ps.length N G):=
 let ⟨f,fd,F,M⟩:=e
 ⟨⟨f,fd,Cy F sc b,M,hb.out F⟩,hc⟩
theorem dfI {x q:Str}{st:cx}{N ps:List Str}{k c:Nat}{C:Str}{G:OS} (e:∃ f fd,Fun K x q st f fd/\Mk K (cls c) f) (hm:mg C=xo (.ref (cls c))) (b:Bod P w K mg base cls exC k N q st G) (sc:kZ N ps (bG st):=by constructor <;> first|rfl|decide+kernel) (hb:Bnd x q st ps:=by first|exact fun _ _ _ _ _ _ _=>rfl|exact fun _ _ _ _ _ _ _ _=>rfl|exact fun _ _ _ _ _ _ _ _ _=>rfl|exact fun _ _ _ _ _ _ _ _ _ _=>rfl):PP P w K mg base cls exC (k+1) c C ps (eB ps.length N G):=
 let ⟨f,fd,F,M⟩:=e
 ⟨⟨f,fd,Cy F sc b,M,hb.out F⟩,hm⟩
end
abbrev FF (K:aa) (mg:Str->Option ag) (x:Str) (st:cx):Prop:=∃ f fd,PQ K mg x st f fd
abbrev FM (K:aa) (C:af) (x q:Str) (st:cx):Prop:=∃ f fd,Fun K x q st f fd/\Js K C x f
abbrev FI (K:aa) (C:af) (x q:Str) (st:cx):Prop:=∃ f fd,Fun K x q st f fd/\Mk K C f
def AllP (p:Str->Str->cx->Prop):List (Str×Str×cx)->Prop
 |[]=>True
 |(x,q,s)::r=>p x q s/\AllP p r
theorem AllP.imp {p p':Str->Str->cx->Prop} (f:∀ x q s,p x q s->p' x q s):∀ {l:List (Str×Str×cx)},AllP p l->AllP p' l
 |[],_=>trivial
 |(_,_,_)::_,⟨a,b⟩=>⟨f _ _ _ a,AllP.imp f b⟩
theorem AllP.get {p:Str->Str->cx->Prop}{x q:Str}{s:cx}:∀ {l:List (Str×Str×cx)} (_:AllP p l) (i:Nat) (_:l[i]?=xo (x,q,s)),p x q s
 |(_,_,_)::_,⟨a,_⟩,0,e=>by cases e;exact a
 |(_,_,_)::_,⟨_,b⟩,i+1,e=>b.get i e
def RI (K:aa) (C:af) (m qual:Str) (st:cx) (f:af):Prop:=∃(oc:ag) (od an:Option af) (osl:Array (Option ag)) (kV doc pm cdv ct:ag),hZ K (.ref C) m=xo (xo (.ref f))/\pd K (.ref f)=true/\
 K.lookup f=xo ⟨oc,od,.func (iu m qual (iB st) (fW st) (bG st) .none kV doc pm an cdv ct),osl⟩/\j5 K cdv qual=true/\gu K (.ref f)=true
theorem mtIn_mk {K:aa}{C:af}{m qual:Str}{st:cx}{f:af}{oc:ag}{od an:Option af}{osl:Array (Option ag)}{kV doc pm cdv ct:ag} (a:hZ K (.ref C) m=xo (xo (.ref f)))
  (l:K.lookup f=xo ⟨oc,od,.func (iu m qual (iB st) (fW st) (bG st) .none kV doc pm an cdv ct),osl⟩) (b:pd K (.ref f)=true) (c:j5 K cdv qual=true) (k:gu K (.ref f)=true):RI K C m qual st f:=
 ⟨oc,od,an,osl,kV,doc,pm,cdv,ct,a,b,l,c,k⟩
def mtF (K:aa) (C:af) (m qual:Str) (st:cx):Prop:=∃ f,RI K C m qual st f
theorem mtF.out {K:aa}{C:af}{m qual:Str}{st:cx} (h:mtF K C m qual st):∃ f fd,Fun K m qual st f fd/\Js K C m f:=by
 obtain⟨f,oc,od,an,osl,kV,doc,pm,cdv,ct,a,b,l,c,k⟩:=h;exact⟨f,_,JL l c k,a,b,k⟩
def clsIn (K:aa) (x:Str) (C:af):Prop:=cr K ce x=xo (xo (.ref C))
def mkIn (K:aa) (C:af):Prop:=sf K C=true/\gu K (.ref C)=true
theorem mtF.mk {K:aa}{C:af}{qual:Str}{st:cx} (h:mtF K C "__init__" qual st) (k:mkIn K C):FI K C "__init__" qual st:=match h.out with|⟨f,fd,F,M⟩=>⟨f,fd,F,⟨k.1,M.at_,M.fn,k.2⟩⟩
theorem own_mk {K:aa}{C:af}{tl:List ag}{dd:Option af}{cd:ClassData}{k0 k1 k2 k3 k5:Option ag} (h1:K.lookup C=xo ⟨.type "type",dd,.cls cd,#[k0,k1,k2,k3,xo (.builtin "ValueError.__new__"),k5]⟩)
  (h2:cd.mro=.ref C::tl) (h3:cd.hasDel=false) (h4:nh K CH tl=true) (h5:lh K cd.ns=true) (h6:cr K cd.ns "__init__"=xo xp):ownIn K C tl:=⟨dd,cd,k0,k1,k2,k3,k5,h1,h2,h3,h4,h5,h6⟩
theorem nsOk_mk {K:aa}{N:af}{c:ag}{d:Option af}{es:Array lm}{ep:Nat}{sl:Array (Option ag)} (l:K.lookup N=xo ⟨c,d,.dict es ep,sl⟩) (h:(es.toList.all fun e=>match e.key with|.str _ _=>true|_=>false)=true):lh K N=true:=by
 unfold lh;rw[l];exact wj.symm.trans h
theorem tail_mk {K:aa}{A:af}{r:List ag}{c:ag}{dd:Option af}{cd:ClassData}{sl:Array (Option ag)} (l:K.lookup A=xo ⟨c,dd,.cls cd,sl⟩) (h1:lh K cd.ns=true) (h2:cr K cd.ns "__init__"=xo xp) (h3:nh K CH r=true):nh K CH (.ref A::r)=true:=by
 rw[PySem.W.tailIn.eq_2,l]
 show(_||(lh K cd.ns&&cr K cd.ns _==xo xp&&nh K CH r))=true
 rw[h1,h3,show cr K cd.ns (ji "__init__")=xo xp from h2];simp
noncomputable def nTg:bw->List Str
 |.Name x _=>[x]
 |.Tuple es _ _=>es.filterMap fun|.Name x _=>xo x|_=>xp
 |_=>[]
noncomputable def Fd (N:List Str):List (Option Nat)->List Str->List Str
 |[],_=>[]
 |none::r,t::ts=>t::Fd N r ts
 |some i::r,ts=>N.getD i ""::Fd N r ts
 |none::r,[]=>Fd N r []
noncomputable def QM (sc:kj) (x:Str):Bool:=sc.names.lookup x==xo .local||sc.names.lookup x==xo .cell
noncomputable def slB (N:List Str) (i:Nat) (x:Str):Bool:=decide (N[i]?=xo x)
section
variable {X:Cx}{x y:Str}{i j:Nat}
theorem Fa:∀ {a b:Option ic},(a==b)=true->a=b:=by
 intro a b h;cases a with
 |none=>cases b with
  |none=>rfl
  |some _=>cases h
 |some a=>cases b with
  |none=>cases h
  |some b=>cases a <;> cases b <;> first|rfl|cases h
theorem BY (h:QM sc x=true):Loc sc x:=(Bool.or_eq_true_iff.mp h).imp Fa Fa
theorem Ai {N:List Str} (h:slB N i x=true):N[i]?=xo x:=of_decide_eq_true h
theorem dvk (h:(slB X.N i x&&(QM X.env.scope x||X.env.scope.names.lookup x==xo .free)&& !(x==("__debug__":Str))&& !(x==("__classdict__":Str)))=true):DE X (.Name x pos) (DI i):=by
 simp only[br,ie,vv] at h;refine dv i (Ai h.1.1.1) ?_ h.1.2 h.2;rcases h.1.1.2 with z|z
 ·rcases BY z with z|z
  ·exact .inl z
  ·exact .inr (.inl z)
 ·exact .inr (.inr (Fa z))
noncomputable def nsB (X:Cx) (x:Str) (i:Nat):Bool:=slB X.N i x&&QM X.env.scope x&&decide X.N.Nodup&&(X.fn x||X.env.scope.names.lookup x==xo .local)
theorem vC (h:nsB X x i=true):X.N.Nodup/\X.N[i]?=xo x/\Loc X.env.scope x/\(X.fn x=true∨X.env.scope.names.lookup x=xo .local):=by
 unfold nsB at h;simp only[br,ie] at h;exact⟨of_decide_eq_true h.1.2,Ai h.1.1.1,BY h.1.1.2,h.2.imp id Fa⟩
theorem Sm (h:nsB X x i=true):PG X (.Name x tp) (gR X.K (aS i)):=let ⟨a,b,c,d⟩:=vC h;LP a b c d
theorem Sl (hc:X.calm=true) (h:nsB X x i=true) (h':nsB X y j=true):PG X (.Tuple [.Name x p1,.Name y p2] k tp) (gR X.K (qZ i j)):=let ⟨a,b,c,d⟩:=vC h;let ⟨_,b',c',d'⟩:=vC h';LO hc a b b' c c' d d'
theorem Sv {cls:Nat->af}{E:XE}{e:bw}{fa:OG D}{pos pos':Pos} (h:nsB X x i=true) (he:OE X cls E e fa) (hs:jm e (xo (.Name x pos')) pos.line X.env=pure false:=by rfl):OSt X cls E (.Assign [.Name x pos'] e pos) (aU i fa):=
 let ⟨a,b,c,d⟩:=vC h
 NR a b c he hs (hf:=d)
theorem HL {cls:Nat->af}{E:XE}{tg iter elt:bw}{ifs:List bw}{scope:kj}{caps:List (Option Nat)}{fi:OI'}{bd:BR}{t:OG Bool}{f:OG D}{pos:Pos} (Fn:Fin fin) (h1:X.calm=true) (h2:scope.kind=.function) (h3:(AX scope&&Gp X.env.scope scope&&nD X.N X.env.scope scope (Fd X.N caps (nTg tg)) caps)=true) (hi:OI X cls E tg iter fi)
  (hb:∀ cells C fp pins s₀ H₀,PG (blk X (Fd X.N caps (nTg tg)) scope cells C fp pins s₀ H₀) tg (gR X.K bd)/\MA (blk X (Fd X.N caps (nTg tg)) scope cells C fp pins s₀ H₀) cls EF ifs t/\OE (blk X (Fd X.N caps (nTg tg)) scope cells C fp pins s₀ H₀) cls EF elt f)
  (hs:∀ x,gp iter X.env x=pure x:=by intro _;rfl):OE X cls E (.ListComp elt [⟨tg,iter,ifs,0⟩] scope pos) (cV fin fi caps bd t f):=by
 simp only[br] at h3;exact Lm Fn (zC h1 h2 h3.1.1 h3.1.2 h3.2) hi hb hs
theorem HB {cls:Nat->af}{E:XE}{tg iter elt:bw}{ifs:List bw}{scope:kj}{caps:List (Option Nat)}{fi:OI'}{bd:BR}{t:OG Bool}{f:OG D}{pos spos py:Pos} (Fn:Fin fin) (h:(slB X.N i y&&(X.env.scope.names.lookup y==xo .local)&&decide X.N.Nodup)=true) (h1:X.calm=true) (h2:scope.kind=.function) (h3:(AX scope&&Gp X.env.scope scope&&nD X.N X.env.scope scope (Fd X.N caps (nTg tg)) caps)=true) (hi:OI X cls E tg iter fi)
  (hb:∀ cells C fp pins s₀ H₀,PG (blk X (Fd X.N caps (nTg tg)) scope cells C fp pins s₀ H₀) tg (gR X.K bd)/\MA (blk X (Fd X.N caps (nTg tg)) scope cells C fp pins s₀ H₀) cls EF ifs t/\OE (blk X (Fd X.N caps (nTg tg)) scope cells C fp pins s₀ H₀) cls EF elt f)
  (hsw:jm (.ListComp elt [⟨tg,iter,ifs,0⟩] scope pos) (xo (.Name y py)) spos.line X.env=pure true:=by rfl)
  (hs:∀ x,gp iter X.env x=pure x:=by intro _;rfl):OSt X cls E (.Assign [.Name y py] (.ListComp elt [⟨tg,iter,ifs,0⟩] scope pos) spos) (aU i (cV fin fi caps bd t f)):=by
 simp only[br] at h h3;exact KM Fn (of_decide_eq_true h.2) (Ai h.1.1) (Fa h.1.2) (zC h1 h2 h3.1.1 h3.1.2 h3.2) hi hb hsw hs
end
noncomputable abbrev zV (i:Nat):OG D:=oP (DI i)
noncomputable abbrev zI (i:Int):OG D:=oP (dC (.int i))
noncomputable abbrev zS (x:Str):OG D:=oP (dC (.str x))
noncomputable abbrev zX (f g:OG D):OG D:=o2 (fun ω a b=>pu (oI ω a b) ω) f g
noncomputable abbrev zD (f g:OG D):OG D:=o2 (fun ω a b=>pu (iQ ω a b) ω) f g
noncomputable abbrev zT (f:OG (List D)):OG D:=oL (fun ω ds=>pu (nJ ds) ω) f
noncomputable abbrev zL (f:OG (List D)):OG D:=oL (fun ω ds=>pu (Dx ds) ω) f
def CD (a b:Int):Prop:=(-1000000000<=a/\a<=1000000000)/\(-1000000000<=b/\b<=1000000000)
instance (a b:Int):Decidable (CD a b):=by unfold CD;infer_instance
theorem MV (a b:Int):jg a b (-1)=((a-b).toNat:Int):=by
 unfold jg;rw[if_neg (by decide),show(- (-1:Int))=1 from rfl,Int.ediv_one];split <;> omega
theorem MT {a b:Int} (h:CD a b):u5 a b (-1)=true:=by
 unfold u5;rw[MV];obtain⟨⟨h1,h2⟩,h3,h4⟩:=h;simp only[Builtin.Range.rangeFitsLong,br,ie,decide_eq_true_eq,beq_iff_eq,show ¬((-1:Int)>0) from by decide,if_false];omega
noncomputable def Ix (ds:List D):Option (List D):=match ds with
 |[.int i,.int j,.int k]=>if CD i j/\k= -1 then xo (rS i (-1) (i-j).toNat) else xp
 |_=>xp
section
variable {X:Cx}{tg a b c:bw}{pos p:Pos}{cls:Nat->af}{E:XE}{fl:OG (List D)}
def QP (ta:TA):TI:=fun σ H R=>ta σ H fun vs H1=>∃ i j:Int,vs=[.int i,.int j,.int (-1)]/\CD i j/\R (Rm i (-1) (i-j).toNat) H1
theorem EH (hg:Gl X "range") (hm:X.mg "range"=xp) (ha:PA X [a,b,c] ta) (hs:au [a,b,c] X.env=(false,eval a X.env)::au [b,c] X.env:=by rfl) (hpl:(db pos (au [b,c] X.env)).any (·.1)=false:=by rfl):
  PI X tg (.Call (.Name "range" p) [a,b,c] [] pos) (QP ta):=by
 intro pins s σ H R I h;refine Call_ (mZ I hg hm boot_range (gx (thn (ha pos pins s σ H _ I h) fun us s1 ⟨vs,H1,I1,r1,q1⟩=> ?_) hs hpl));obtain⟨i,j,e,hC,q⟩:=q1;subst e;cases r1 with
 |cons r rr=>
  cases rr with
  |cons r' rr=>
   cases rr with
   |cons r'' rr=>
    cases rr;obtain⟨t,rfl⟩:=r;obtain⟨t',rfl⟩:=r';obtain⟨t'',rfl⟩:=r'';have hC':=hC;obtain⟨⟨h1,h2⟩,h3,h4⟩:=hC';refine call_range_3 (by omega) ?_ (.inl (PyProof.noPylong_small (by omega)));refine wpAny_pyIter_range (xm ..) (MT hC) ?_;have I2:Inv X pins σ H1 { s1 with heap:=s1.heap.push { cls:=.type "range",data:=.fields #[.int i t,.int j t',.int (-1) t''] },toks:=s1.toks }:=I1.kept fun b o e=>aw _ e;refine⟨_,[_],_,_,H1,rfl,I2.kept (t':=s1.toks) fun b o e=>aw _ e,Ad _ i (-1) (i-j).toNat,?_,fun b hb=> ?_,q⟩
    ·have e1:i+((0:Nat):Int)* -1=i:=by simp
     show sw _ _ (i+((0:Nat):Int)* -1) (((i-j).toNat:Int)-((0:Nat):Int)) (-1);rw[e1,<- MV];have e2:jg i j (-1)-((0:Nat):Int)=jg i j (-1):=by simp
     rw[e2];exact bv _ rfl
    ·have e:b=(s1.heap.push { cls:=.type "range",data:=.fields #[.int i t,.int j t',.int (-1) t''] }).objs.size:=by simpa using hb
     subst e;exact I2.fpOk (bf _) (I2.hok.fresh (bf _))
theorem ER (hg:Gl X "range") (hm:X.mg "range"=xp) (ha:OA X cls E [a,b,c] fl) (hs:au [a,b,c] X.env=(false,eval a X.env)::au [b,c] X.env:=by rfl) (hpl:(db pos (au [b,c] X.env)).any (·.1)=false:=by rfl):
  OI X cls E tg (.Call (.Name "range" p) [a,b,c] [] pos) (oIA Ix fl):=
 PI.imp (EH hg hm ha hs hpl) fun σ H R ⟨ok,ρ,ω,r,ω',P,e,q⟩=>by
  refine tOA.then_ P e (fun c z=>by subst z;exact q) fun ds ω1 vs ok1 H1 e1 n1 P1 r1=> ?_;obtain⟨⟨dz,chk⟩,e3,rfl⟩:=cK e1;obtain⟨ue3,rfl⟩:=cQ e3;obtain⟨xs,e4,e5⟩:=aH ue3;cases e5;unfold Ix at e4;split at e4
  ·obtain⟨⟨hl,rfl⟩,rfl⟩:=bJ e4;cases r1 with
   |cons r rr=>
    obtain⟨v,v',rfl,rv,rv'⟩:=rr.two_inv;obtain rfl:=r.int_inv;obtain rfl:=rv.int_inv;obtain rfl:=rv'.int_inv;exact⟨_,_,rfl,hl,q _ ok1 H1 n1 itD_range3.toO⟩
  ·cases e4
end
end L2.MB
end
section
namespace PySem
theorem F.slot_lri_hint:Slot "list_reverseiterator" "__length_hint__" "list_reverseiterator.__length_hint__":=
 .of (owner:="list_reverseiterator") (n:="__length_hint__") (by rw[typeLookup_type,uh];kernel_rfl) (by decide+kernel) (by decide+kernel) (by decide+kernel)
  (by first|exact .inl (by decide+kernel)|exact .inr (by decide+kernel)) (by rw[isSubtype_type];kernel_rfl)
theorem F.lri_no_len:ql (.type "list_reverseiterator") "__len__"=pure xp:=by rw[typeLookup_type,uh];kernel_rfl
section
variable {prog:da}{w:dh}{A:dm}{E:ag->aq->Prop}{s:aq}{I l:af}{items:Array ag}
theorem Il {i:Int}{Q:Bool->aq->Prop} (hit:s.heap.IsRevIter I l i) (h:Q false s):bc (model prog w) A (p9 (.ref I)) Q E s:=by
 unfold p9;refine ae (si hit.typeIs F.lri_no_len ?_);show bc _ A (specialOf (ck I) (ji "__length_hint__") >>= _) _ _ _;refine ae (si hit.typeIs F.slot_lri_hint.lookup ?_)
 generalize hid:("list_reverseiterator.__length_hint__":String)=id0
 wp_delta
 rw[show splitId id0=xo ("list_reverseiterator","__length_hint__") from by subst hid;decide+kernel];subst hid;refine ae (rg (T:="list_reverseiterator") (b:=true) hit.typeIs (by rw[isSubtype_type];kernel_rfl) ?_);refine md (fun hab=>absurd hab (by decide)) (fun _=> ?_);refine md (fun _=> ?_) (fun hab=>absurd (by decide+kernel) hab);refine md (fun hab=>absurd hab (by decide+kernel)) (fun _=> ?_);exact ao h
theorem Mx {acc:Array ag} (h:ItemsOf (fun i v=>items[items.size-1-i]?=xo v) acc items.size):acc=items.toList.reverse.toArray:=by
 apply Array.ext';apply iq;intro j;rw[gv];rcases ll j acc.size with hj|hj
 ·have e1:acc[j]?=xo acc[j]:=i5 hj;have e2:=h.1;rw[e1,List.getElem?_reverse (by simp;omega),<- h.2 j _ e1];simp
 ·have e2:=h.1;rw[n9 hj,cq (by simp;omega)]
theorem wD {Q:ag->aq->Prop} (hh:A.handled=xp) (hne:l≠I) (hit:s.heap.IsRevIter I l ((items.size:Int)-1)) (hl:s.heap.IsList l items) (hn:items.size<=sizeLine)
  (hQ:∀ h' tk c',(∀ b o,b≠I->s.heap.get? b=xo o->h'.get? b=xo o)->h'.get? s.heap.objs.size=xo { cls:=.type "list",dict:=xp,data:=.seq items.toList.reverse.toArray c',slots:= #[] }->Q (.ref s.heap.objs.size) { s with heap:=h',toks:=tk }):
  bc (model prog w) A (call (.type "list") [.ref I]) Q E s:=by
 refine callType_codes (Q₁:=fun obj s₁=>obj=.ref s.heap.objs.size/\s₁={ s with heap:=s.heap.push { cls:=.type "list",data:=.seq #[] } }) F.called_list (F.typeCall_list_1 _) F.entry_list_init
  (code_list_new _ ⟨rfl,rfl⟩) fun obj s₁ h₁=> ?_
 obtain⟨rfl,rfl⟩:=h₁;have hS:(s.heap.push { cls:=.type "list",data:=.seq #[] }).get? s.heap.objs.size=xo { cls:=.type "list",data:=.seq #[] }:=bv _ rfl;refine⟨⟨_,hS,rfl⟩,F.args_list_init_2 _ _,?_⟩;have hI:I≠s.heap.objs.size:=fun e=>by obtain⟨o,ho,_⟩:=hit;exact dn _ (e ▸ bh ho)
 have hL:l≠s.heap.objs.size:=fun e=>by obtain⟨o,ho,_⟩:=hl;exact dn _ (e ▸ bh ho)
 have k0:∀ b o,s.heap.get? b=xo o->(s.heap.push { cls:=.type "list",data:=.seq #[] }).get? b=xo o:=fun b o e=>aw _ e
 generalize hS0:s.heap.objs.size=S at*
 generalize hh0:s.heap.push { cls:=.type "list",data:=.seq #[] }=h0 at*
 show bc _ A.in1.in1 (do let old <- t4 (.ref S);Builtin.List.listUpdate (.ref S) (fun _=> #[]);letGo old.toList.reverse;ln (.ref S) (.ref I) .none) _ _ _;refine ae ?_;unfold t4;refine ae (wpAny_seqItems hS rfl (ao ?_));show bc _ A.in1.in1 (updateSeq S (fun _=> #[]) >>= fun _=>letGo (#[]:Array ag).toList.reverse >>= fun _=>ln (.ref S) (.ref I) .none) _ _ _;refine ae (wpAny_updateSeq hS rfl ?_);have hS₂:=fx (i4 (fun _=>(#[]:Array ag))) hS rfl;have oth:∀ b o,b≠S->h0.get? b=xo o->(h0.update S (i4 (fun _=>(#[]:Array ag)))).get? b=xo o:=
  fun b o hb e=>(dw _ _ (bz hb)).trans e
 refine ae (wpAny_letGo ?_);have hit1:(h0.update S (i4 (fun _=>(#[]:Array ag)))).IsRevIter I l ((items.size:Int)-1):=hit.at fun o e=>oth I o hI (k0 _ _ e);have hl1:(h0.update S (i4 (fun _=>(#[]:Array ag)))).IsList l items:=hl.at fun o e=>oth l o hL (k0 _ _ e);unfold ln;refine ae (wpAny_typeOf hit1.typeIs ?_);have h1:rj (.ref S) (.ref I)=false:=by simp[rj,bz hI]
 have h2:(i8 "list_reverseiterator"==i8 "list")=false:=by decide
 have h3:(i8 "list_reverseiterator"==i8 "tuple")=false:=by decide
 simp only[h1,h2,h3,uw,df,if_false];refine ae (wpAny_pyIter_revIter hit1 ?_);refine ae (ii (Il hit1 ?_));refine md (fun hab=>absurd hab (by decide+kernel)) (fun _=> ?_);have W:=(Walks.listRev (prog:=prog) (w:=w) (A:=A.in1.in1) hh I l hne items).toS;refine ao ⟨plainId_quiet F.plain_extend_loop _,codeAny_extend_loopS W hn S (by simp;exact⟨bz hI,bz hL⟩) .none items.size 0 _ #[] _ rfl (ia _) ⟨ia _,by simpa using hit1,hl1⟩ hS₂ (ItemsOf.nil _) fun s' acc' c' hm hS' hacc=> ?_⟩;rw[Moved.eq_with hm];refine⟨rfl,hQ s'.heap s'.toks c' (fun b o hb e=> ?_) ((Mx hacc) ▸ hS')⟩;have hbS:b≠S:=fun e'=>by subst e';rw[<- hS0] at e;exact dn _ (bh e)
 exact hm.heap b o (by simp;exact⟨hbS,hb⟩) (oth b o hbS (k0 _ _ e))
end
end PySem
namespace L2.MB
theorem boot.reversed:dc "reversed"=xo (.type "reversed"):=by decide+kernel
theorem Reps.reverse {K:aa}:∀ {vs:List V}{ds:List D},Reps K ok H vs ds->Reps K ok H vs.reverse ds.reverse
 |_,_,.nil=>.nil
 |_,_,.cons q r=>by rw[nj,nj];exact(Reps.reverse r).snoc q
noncomputable def FS (ω:Om) (ds:List D):Option (D×Om):=match ds with
 |[d]=>(eJ ω d).map fun xs=>(.lst xs.reverse,ω)
 |_=>xp
def Rr (K:aa) (xs:List V) (H:Hp) (Q:VK):Prop:=∃ p ys,xs=[.ref p]/\SqL K H p ys/\∀ l,H l=xp->Q (.ref l) (upd H l (.lst ys.reverse))
theorem LY {K:aa}:nU cls K (Rr K) FS:=fun ok H ω xs as d ω' Q h1 st r e k=>by
 unfold FS at e;split at e
 ·obtain⟨ys,e1,e2⟩:=aH e;cases e2;obtain⟨v,rfl,r1⟩:=r.one_inv;obtain⟨a,us,rfl,g,rs⟩:=fA st r1 e1;exact⟨a,us,rfl,SqL.of g,fun l n=>k _ ok _ (.same h1 st (cH n)) (.lst_new (h1 l n) n rs.reverse)⟩
 ·cases e
section
variable {X:Cx}{e:bw}{pos p pos2 p2:Pos}{cls:Nat->af}{E:XE}{fl:OG (List D)}
theorem Nu (hc:X.calm=true) (hg:Gl X "list") (hm:X.mg "list"=xp) (hg2:Gl X "reversed") (hm2:X.mg "reversed"=xp) (ha:PA X [e] t)
  (hs:au [.Call (.Name "reversed" p2) [e] [] pos2] X.env=[(false,eval (.Call (.Name "reversed" p2) [e] [] pos2) X.env)]:=by rfl)
  (he:au [e] X.env=(false,eval e X.env)::au [] X.env:=by rfl) (hpl:(db pos2 (au [] X.env)).any (·.1)=false:=by rfl):
  PE X (.Call (.Name "list" p) [.Call (.Name "reversed" p2) [e] [] pos2] [] pos) (tCB (Rr X.K) t):=by
 intro pins s σ H Q I h;refine jn (mZ I hg hm boot.list ?_ (by decide) (by decide));refine gx ?_ hs rfl;rw[hs];show bc _ _ (spliced ((false,eval (.Call (.Name "reversed" p2) [e] [] pos2) X.env)::[])) _ _ s;refine vd (jn (mZ I hg2 hm2 boot.reversed ?_ (by decide) (by decide)));refine gx (thn (ha pos2 pins s σ H _ I h) fun us s1 ⟨vs,H1,I1,r1,q1⟩=> ?_) he hpl;obtain⟨a,ys,rfl,hq,q⟩:=q1;obtain⟨u,rfl,rx⟩:=lA r1;cases rx;obtain⟨its,r',pl,hz⟩:=I1.list hq;have hlen:=r'.length;refine call_reversed_list pl.isList (vt ?_);have hlt:a<s1.heap.objs.size:=by obtain⟨o,ho,_⟩:=pl.isList;exact bh ho
 refine wD (I1.ok.hd hc) (ci hlt) ⟨_,bv _ rfl,rfl,rfl⟩ (pl.isList.push _) (by simp only[bi];omega) fun h' tk c' kp el=> ?_;have kp':∀ b o,s1.heap.get? b=xo o->h'.get? b=xo o:=fun b o e=>kp b o (fun e'=>by subst e';exact dn _ (bh e)) (aw _ e);have hsz:s1.heap.objs.size<=(s1.heap.push (revObj a ((its.toArray.size:Int)-1))).objs.size:=by simp[Heap.push]
 exact⟨.ref _,_,I1.laid (t':=tk) kp' hsz (show ObjOk X.prog X.w _ h' _ (.lst ys.reverse) from⟨by rw[pj];exact hz,its.reverse,c',r'.reverse,by simpa using el⟩),rfl,q _ (I1.hok.fresh hsz)⟩
theorem Ol (hc:X.calm=true) (hg:Gl X "list") (hm:X.mg "list"=xp) (hg2:Gl X "reversed") (hm2:X.mg "reversed"=xp) (ha:OA X cls E [e] fl)
  (hs:au [.Call (.Name "reversed" p2) [e] [] pos2] X.env=[(false,eval (.Call (.Name "reversed" p2) [e] [] pos2) X.env)]:=by rfl)
  (he:au [e] X.env=(false,eval e X.env)::au [] X.env:=by rfl) (hpl:(db pos2 (au [] X.env)).any (·.1)=false:=by rfl):
  OE X cls E (.Call (.Name "list" p) [.Call (.Name "reversed" p2) [e] [] pos2] [] pos) (oL FS fl):=
 (Nu hc hg hm hg2 hm2 ha hs he hpl).imp fun _ _ _ h=>tO.cb LY h
end
end L2.MB
end
section
namespace L2.MB.Lw
open PySem PySem.Spec PyProof.Rows L2.MB
abbrev DV:List Str:=["seen","mark"]
abbrev DQ:List Str:=["seen","mark"]
noncomputable abbrev Dv:OS:=(aW (o2 (lf gLe) (zX (zV 1) (zI 1)) (zX (zV 0) (zX (zV 1) (zI 0)))))
noncomputable def fJ:eC:=eB 2 DV Dv
abbrev CC:List Str:=["one","other"]
abbrev Jq:List Str:=["one","other"]
noncomputable abbrev Iu:OS:=(aW (cV IM (oIZ (aC (zV 0) (aC (zV 1) aM))) [xp,xp] (qZ 0 1) (oPT jW) (oL (lfL yS) (aC (zV 0) (aC (zV 1) aM)))))
noncomputable def gS:eC:=eB 2 CC Iu
abbrev wP:List Str:=["rows","least","row"]
abbrev Jr:List Str:=["rows"]
noncomputable abbrev fT:OS:=(aU 1 (cV rZ (oIZ (aC (zV 1) (aC (zV 2) aM))) [xp,xp] (qZ 0 1) (oPT jW) (oL (lfL Iy) (aC (zV 0) (aC (zV 1) aM)))))
noncomputable abbrev Cj:OS:=(aF (aU 1 (oL iL (aC (zX (zV 0) (zI 0)) aM))) (aF (sNx (bB (oIL (oSl (zV 0) (dSo (dC (.int 1))) dNo)) (aS 2) fT)) (aW (zV 1))))
noncomputable def nZ:eC:=eB 1 wP Cj
abbrev GH:List Str:=["one","other"]
abbrev My:List Str:=["one","other"]
noncomputable abbrev LR:OS:=(aW (oL (lfL PL) (aC (cV rZ (oIZ (aC (zV 0) (aC (zV 1) aM))) [xp,xp] (qZ 0 1) (oPT jW) (oL (lfL yS) (aC (o2 (lf gSub) (zV 1) (zV 0)) (aC (zI 0) aM)))) aM)))
noncomputable def Am:eC:=eB 2 GH LR
abbrev Br:List Str:=["self"]
abbrev Bf:List Str:=["self"]
noncomputable abbrev AC:OS:=(aW (zX (fZ 0 "knows" (zV 0)) (fZ 0 "number" (zV 0))))
noncomputable def bV:eC:=eB 1 Br AC
abbrev GI:List Str:=["entries","hand"]
abbrev GE:List Str:=["entries","hand"]
noncomputable abbrev FH:OS:=(aW (cV rZ (oIL (zV 0)) [xp,xo 1] (aS 0) (oOr (cA (o2 (fun ω a b=>pu (MG ω a b) ω) (zX (zV 0) (zI 1)) (fZ 0 "table" (zV 1)))) (jY (jX (bL fJ (aC (bH 0 "seen" bV (zV 1) aM) (aC (zX (zV 0) (zI 1)) aM)))))) (zV 0)))
noncomputable def lK:eC:=eB 2 GI FH
abbrev wQ:List Str:=["self","number","count"]
abbrev wI:List Str:=["self","number","count"]
noncomputable abbrev lU:OS:=(aF (nI 0 "number" (zV 0) (zV 1)) (aF (nI 0 "knows" (zV 0) (cV IM (oIA gN (aC (zV 2) aM)) [xp,xo 2] (aS 0) (oPT jW) (o2 yR (zL (aC (zI 0) aM)) (zV 1)))) (aF (nI 0 "table" (zV 0) vA) (nI 0 "kept" (zV 0) vA))))
noncomputable def dU:eC:=eB 3 wQ lU
abbrev sN:List Str:=["self"]
abbrev sI:List Str:=["self"]
noncomputable abbrev rY:OS:=(aW (HN 4 (fZ 0 "table" (zV 0))))
noncomputable def bT:eC:=eB 1 sN rY
abbrev zU:List Str:=["self"]
abbrev zR:List Str:=["self"]
noncomputable abbrev yQ:OS:=(aW (cV rZ (oIL (fZ 0 "knows" (zV 0))) [xp] (aS 0) (oPT jW) (oL iL (aC (zV 0) aM))))
noncomputable def gC:eC:=eB 1 zU yQ
abbrev sM:List Str:=["self"]
abbrev sH:List Str:=["self"]
noncomputable abbrev rX:OS:=(aW (cV rZ (oIL (oL (FP 4) (aC (fZ 0 "kept" (zV 0)) aM))) [xp,xo 0] (aS 0) (oPT jW) (zT (aC (zV 0) (aC (oL iL (aC (zD (fZ 0 "kept" (zV 1)) (zV 0)) aM)) aM)))))
noncomputable def eQ:eC:=eB 1 sM rX
abbrev rP:List Str:=["self","seen"]
abbrev rH:List Str:=["self"]
noncomputable abbrev jC:OS:=(aF (aU 1 (bH 0 "seen" bV (zV 0) aM)) (aF (iN nK (zV 1) (fZ 0 "number" (zV 0)) (o2 (lf nM) (zX (zV 1) (fZ 0 "number" (zV 0))) (zI 1))) (aW (zT (aC (fZ 0 "number" (zV 0)) (aC (zX (zV 1) (fZ 0 "number" (zV 0))) aM))))))
noncomputable def dA:eC:=eB 1 rP jC
abbrev DW:List Str:=["self","name","value","mark"]
abbrev DR:List Str:=["self","name","value"]
noncomputable abbrev tU:OS:=(aF (aU 3 (bH 0 "new_mark" dA (zV 0) aM)) (aF (iN nL (fZ 0 "table" (zV 0)) (zV 3) (zT (aC (zV 1) (aC (zV 3) (aC (zV 2) aM))))) (aW (zV 3))))
noncomputable def eM:eC:=eB 3 DW tU
abbrev iH:List Str:=["self","seen_by_all","kept","deed"]
abbrev wJ:List Str:=["self"]
noncomputable abbrev aV:OS:=(dQ (jY (jX (bL fJ (aC (zV 1) (aC (zV 3) aM))))) (iN nL (zV 2) (zV 3) (zD (fZ 0 "kept" (zV 0)) (zV 3))) bN)
noncomputable abbrev gZ:OS:=(aF (aU 1 (bL nZ (aC (fZ 0 "knows" (zV 0)) aM))) (aF (aU 2 vA) (aF (sNx (Ka (fZ 0 "kept" (zV 0)) (aS 3) aV)) (nI 0 "kept" (zV 0) (zV 2)))))
noncomputable def fG:eC:=eB 1 iH gZ
abbrev jL:List Str:=["self","deed","marks","mark"]
abbrev rG:List Str:=["self","deed","marks"]
noncomputable abbrev cG:OS:=(bQ (pO FT (fZ 0 "table" (zV 0)) (aC (zV 3) aM)))
noncomputable abbrev jB:OS:=(aF (sNx (bB (oIL (zV 2)) (aS 3) cG)) (aF (dQ (jX (zV 2)) (iN nL (fZ 0 "kept" (zV 0)) (zV 1) (oL FN (aC (zV 2) aM))) bN) (bQ (bH 0 "forget" fG (zV 0) aM))))
noncomputable def cZ:eC:=eB 3 jL jB
abbrev jM:List Str:=["self","name"]
abbrev rJ:List Str:=["self","name"]
noncomputable abbrev qG:OS:=(aW (cV rZ (oIL (bH 0 "entries" bT (zV 0) aM)) [xp,xo 1] (aS 0) (cA (o2 (iM 8) (zX (zV 0) (zI 0)) (zV 1))) (zX (zV 0) (zI 1))))
noncomputable def dB:eC:=eB 2 jM qG
abbrev wS:List Str:=["self","name","value","marks","mark"]
abbrev wK:List Str:=["self","name","value"]
noncomputable abbrev lV:OS:=(aF (aU 3 (bH 0 "marks_of" dB (zV 0) (aC (zV 1) aM))) (aF (aU 4 (bH 0 "put" eM (zV 0) (aC (zV 1) (aC (zV 2) aM)))) (aF (bQ (bH 0 "take_out" cZ (zV 0) (aC (zV 4) (aC (zV 3) aM)))) (aW (zV 4)))))
noncomputable def dW:eC:=eB 3 wS lV
abbrev Bq:List Str:=["self","name","marks"]
abbrev Be:List Str:=["self","name"]
noncomputable abbrev kT:OS:=(aF (aU 2 (bH 0 "marks_of" dB (zV 0) (aC (zV 1) aM))) (aF (dQ (jY (jX (zV 2))) (aW (oP (dC .non))) bN) (aF (bQ (bH 0 "take_out" cZ (zV 0) (aC (bH 0 "new_mark" dA (zV 0) aM) (aC (zV 2) aM)))) (aW (zV 2)))))
noncomputable def fN:eC:=eB 2 Bq kT
abbrev Bs:List Str:=["self","teller","many","seen","table","entry"]
abbrev Bg:List Str:=["self","teller"]
noncomputable abbrev eT:OS:=(iN nL (zV 4) (zX (zV 5) (zI 1)) (zV 5))
noncomputable abbrev qH:OS:=(aF (aU 2 (bL Am (aC (bH 0 "seen" bV (zV 0) aM) (aC (bH 0 "seen" bV (zV 1) aM) aM)))) (aF (aU 3 (bL gS (aC (bH 0 "seen" bV (zV 0) aM) (aC (bH 0 "seen" bV (zV 1) aM) aM)))) (aF (aU 4 vA) (aF (sNx (bB (oIL (o2 qI (bL lK (aC (bH 0 "entries" bT (zV 0) aM) (aC (zV 1) aM))) (bL lK (aC (bH 0 "entries" bT (zV 1) aM) (aC (zV 0) aM))))) (aS 5) eT)) (aF (nI 0 "table" (zV 0) (zV 4)) (aF (nI 0 "knows" (zV 0) (cV IM (oIZ (aC (fZ 0 "knows" (zV 0)) (aC (fZ 0 "knows" (zV 1)) aM))) [xp,xp] (qZ 0 1) (oPT jW) (bL gS (aC (zV 0) (aC (zV 1) aM))))) (aF (iN nK (fZ 0 "knows" (zV 0)) (fZ 0 "number" (zV 0)) (zV 3)) (aF (bQ (pO FL (fZ 0 "kept" (zV 0)) (aC (fZ 0 "kept" (zV 1)) aM))) (aF (bQ (bH 0 "forget" fG (zV 0) aM)) (aW (zV 2)))))))))))
noncomputable def cL:eC:=eB 2 Bs qH
abbrev wT:List Str:=["self","count"]
abbrev wL:List Str:=["self","count"]
noncomputable abbrev lW:OS:=(nI 1 "hands" (zV 0) (cV rZ (oIA gN (aC (zV 1) aM)) [xp,xo 1] (aS 0) (oPT jW) (vB 0 dU (aC (zV 0) (aC (zV 1) aM)))))
noncomputable def gT:eC:=eB 2 wT lW
abbrev Bx:List Str:=["self","number"]
abbrev Bl:List Str:=["self","number"]
noncomputable abbrev kX:OS:=(aF (dQ (jY (tE gLe gLt (zI 0) (zV 1) (oL iP (aC (fZ 1 "hands" (zV 0)) aM)))) (BJ 0 (dC (.str "there is no hand of that number"))) bN) (aW (zX (fZ 1 "hands" (zV 0)) (zV 1))))
noncomputable def bM:eC:=eB 2 Bx kX
abbrev Bv:List Str:=["self","one","other","hands"]
abbrev Bj:List Str:=["self","one","other"]
noncomputable abbrev fU:OS:=(aF (aU 3 (zT (aC (bH 1 "hand" bM (zV 0) (aC (zV 1) aM)) (aC (bH 1 "hand" bM (zV 0) (aC (zV 2) aM)) aM)))) (aF (dQ (cA (o2 (iM 8) (zV 1) (zV 2))) (BJ 1 (dC (.str "a hand can't tell or meet itself"))) bN) (aW (zV 3))))
noncomputable def bW:eC:=eB 3 Bv fU
abbrev DX:List Str:=["self","number","name","value"]
abbrev DT:List Str:=["self","number","name","value"]
noncomputable abbrev Dw:OS:=(aW (bH 0 "put" eM (bH 1 "hand" bM (zV 0) (aC (zV 1) aM)) (aC (zV 2) (aC (zV 3) aM))))
noncomputable def gK:eC:=eB 4 DX Dw
abbrev wU:List Str:=["self","number","name","value"]
abbrev wM:List Str:=["self","number","name","value"]
noncomputable abbrev vO:OS:=(aW (bH 0 "change" dW (bH 1 "hand" bM (zV 0) (aC (zV 1) aM)) (aC (zV 2) (aC (zV 3) aM))))
noncomputable def dX:eC:=eB 4 wU vO
abbrev Bu:List Str:=["self","number","name"]
abbrev Bi:List Str:=["self","number","name"]
noncomputable abbrev AD:OS:=(aW (bH 0 "take" fN (bH 1 "hand" bM (zV 0) (aC (zV 1) aM)) (aC (zV 2) aM)))
noncomputable def fP:eC:=eB 3 Bu AD
abbrev Bt:List Str:=["self","one","other","hands"]
abbrev Bh:List Str:=["self","one","other"]
noncomputable abbrev kU:OS:=(aF (aU 3 (bH 1 "pair" bW (zV 0) (aC (zV 1) (aC (zV 2) aM)))) (aW (bH 0 "hear" cL (zX (zV 3) (zI 1)) (aC (zX (zV 3) (zI 0)) aM))))
noncomputable def fO:eC:=eB 3 Bt kU
abbrev Bw:List Str:=["self","one","other","hands","many","gained"]
abbrev Bk:List Str:=["self","one","other"]
noncomputable abbrev kW:OS:=(aF (aU 3 (bH 1 "pair" bW (zV 0) (aC (zV 1) (aC (zV 2) aM)))) (aF (aU 4 (bH 0 "hear" cL (zX (zV 3) (zI 1)) (aC (zX (zV 3) (zI 0)) aM))) (aF (aU 5 (zT (aC (bH 0 "hear" cL (zX (zV 3) (zI 0)) (aC (zX (zV 3) (zI 1)) aM)) (aC (zV 4) aM)))) (aF (bQ (bH 0 "hear" cL (zX (zV 3) (zI 1)) (aC (zX (zV 3) (zI 0)) aM))) (aW (zV 5))))))
noncomputable def fQ:eC:=eB 3 Bw kW
abbrev PB:List Str:=["hall","deed","kind"]
abbrev Pz:List Str:=["hall","deed"]
noncomputable abbrev tT:OS:=(aF (aU 2 (zX (zV 1) (zI 0))) (aF (dQ (cA (o2 (iM 8) (zV 2) (zS "put"))) (aW (bH 1 "put" gK (zV 0) (aC (zX (zV 1) (zI 1)) (aC (zX (zV 1) (zI 2)) (aC (zX (zV 1) (zI 3)) aM))))) bN) (aF (dQ (cA (o2 (iM 8) (zV 2) (zS "change"))) (aW (bH 1 "change" dX (zV 0) (aC (zX (zV 1) (zI 1)) (aC (zX (zV 1) (zI 2)) (aC (zX (zV 1) (zI 3)) aM))))) bN) (aF (dQ (cA (o2 (iM 8) (zV 2) (zS "take"))) (aW (bH 1 "take" fP (zV 0) (aC (zX (zV 1) (zI 1)) (aC (zX (zV 1) (zI 2)) aM)))) bN) (aF (dQ (cA (o2 (iM 8) (zV 2) (zS "tell"))) (aW (bH 1 "tell" fO (zV 0) (aC (zX (zV 1) (zI 1)) (aC (zX (zV 1) (zI 2)) aM)))) bN) (aW (bH 1 "meet" fQ (zV 0) (aC (zX (zV 1) (zI 1)) (aC (zX (zV 1) (zI 2)) aM)))))))))
noncomputable def kA:eC:=eB 2 PB tT
abbrev Bp:List Str:=["hall","deed"]
abbrev Bd:List Str:=["hall","deed"]
noncomputable abbrev gY:OS:=(xN (aW (bL kA (aC (zV 0) (aC (zV 1) aM)))) 0 (aW (zS "no hand")) 1 (aW (zS "same hand")))
noncomputable def eL:eC:=eB 2 Bp gY
abbrev GK:List Str:=["count","deeds","hall","deed"]
abbrev Mz:List Str:=["count","deeds"]
noncomputable abbrev eN:OS:=(bQ (bL eL (aC (zV 2) (aC (zV 3) aM))))
noncomputable abbrev FK:OS:=(aF (aU 2 (vB 1 gT (aC (zV 0) aM))) (aF (sNx (bB (oIL (zV 1)) (aS 3) eN)) (aW (zT (aC (cV rZ (oIL (fZ 1 "hands" (zV 2))) [xp] (aS 0) (oPT jW) (bH 0 "entries" bT (zV 0) aM)) (aC (cV rZ (oIL (fZ 1 "hands" (zV 2))) [xp] (aS 0) (oPT jW) (oL iL (aC (bH 0 "seen" bV (zV 0) aM) aM))) (aC (cV rZ (oIL (fZ 1 "hands" (zV 2))) [xp] (aS 0) (oPT jW) (bH 0 "known" gC (zV 0) aM)) (aC (cV rZ (oIL (fZ 1 "hands" (zV 2))) [xp] (aS 0) (oPT jW) (bH 0 "in_mind" eQ (zV 0) aM)) aM))))))))
noncomputable def An:eC:=eB 2 GK FK
abbrev Bm:List Str:=["_law_found"]
abbrev AZ:List Str:=["_law_found"]
noncomputable abbrev AA:OS:=(aW (OC (pP "int" (zV 0)) (Oz (pP "bool" (zV 0)))))
noncomputable def fM:eC:=eB 1 Bm AA
abbrev oO:List Str:=["_law_script","_law_k"]
abbrev Jp:List Str:=["_law_script","_law_k"]
noncomputable abbrev vN:OS:=(aF (dQ (cA (o2 (lf gLt) (zV 1) (oL iP (aC (zV 0) aM)))) (aW (zX (zV 0) (zV 1))) bN) (aW (zI 0)))
noncomputable def uX:eC:=eB 2 oO vN
abbrev rO:List Str:=["_law_count","_law_deeds","_law_handed","_law_found"]
abbrev rF:List Str:=["_law_count","_law_deeds"]
noncomputable abbrev jA:OS:=(aF (aU 2 (oL iL (aC (zV 1) aM))) (aF (aU 3 (bL An (aC (zV 0) (aC (zV 2) aM)))) (aF (dQ (oOr (cA (o2 (Cm 8) (zV 2) (zV 1))) (oOr (jY (jX (pP "tuple" (zV 3)))) (cA (o2 (Cm 8) (oL iP (aC (zV 3) aM)) (zI 4))))) (aW (zT (aC (oP (dC .non)) (aC (oP (dC .non)) (aC (oP (dC .non)) (aC (oP (dC .non)) aM)))))) bN) (aW (zV 3)))))
noncomputable def cY:eC:=eB 2 rO jA
abbrev GJ:List Str:=["_law_count","_law_large"]
abbrev GF:List Str:=["_law_count"]
noncomputable abbrev FJ:OS:=(aF (aU 1 (zI 100000000000000000000)) (aW (zL (aC (oP (d1 LU (dC (.int 1)))) (aC (zV 0) (aC (oP (d1 LU (dC (.int 2)))) (aC (o2 (lf gSub) (zI 0) (zV 0)) (aC (zV 1) (aC (o2 (lf gSub) (zI 0) (zV 1)) aM)))))))))
noncomputable def eX:eC:=eB 1 GJ FJ
abbrev DU:List Str:=["_law_j","_law_count"]
abbrev DP:List Str:=["_law_j","_law_count"]
noncomputable abbrev Du:OS:=(aF (dQ (cA (o2 (iM 8) (o2 (lf cJ) (zV 1) (zI 2)) (zI 0))) (aW (o2 (lf LW) (o2 (lf LW) (o2 (lf LV) (zS "o") (o2 (lf cJ) (zV 1) (zI 5))) (zX (zS "abcd") (zV 0))) (o2 (lf LV) (zS "o") (o2 (lf gSub) (zI 5) (o2 (lf cJ) (zV 1) (zI 5)))))) bN) (aW (zX (zL (aC (zS "oats") (aC (zS "oat") (aC (zS "") (aC (zS "oatsack") aM))))) (zV 0))))
noncomputable def jP:eC:=eB 2 DU Du
abbrev mH:List Str:=["_law_cell","_law_k","_law_count","_law_way","_law_one","_law_other","_law_name","_law_values","_law_value"]
abbrev wH:List Str:=["_law_cell","_law_k","_law_count"]
noncomputable abbrev vJ:OS:=(aF (aU 3 (o2 (lf cJ) (o2 (lf cJ) (o2 (lf gO) (zV 0) (zI 48271)) (zI 1009)) (zI 16))) (aF (aU 4 (o2 (lf cJ) (o2 (lf cJ) (o2 (lf gO) (o2 (lf nM) (zV 0) (zV 1)) (zI 48271)) (zI 1013)) (zV 2))) (aF (aU 5 (zV 4)) (aF (dQ (yA (cA (o2 (lf gGt) (zV 2) (zI 1))) (cA (o2 (lf gGt) (o2 (lf cJ) (o2 (lf cJ) (o2 (lf gO) (zV 0) (zI 48271)) (zI 1019)) (zI 19)) (zI 0)))) (aU 5 (o2 (lf cJ) (o2 (lf nM) (o2 (lf nM) (zV 4) (zI 1)) (o2 (lf cJ) (o2 (lf cJ) (o2 (lf gO) (zV 0) (zI 48271)) (zI 1021)) (o2 (lf gSub) (zV 2) (zI 1)))) (zV 2))) bN) (aF (aU 6 (bL jP (aC (o2 (lf cJ) (o2 (lf cJ) (o2 (lf gO) (zV 0) (zI 48271)) (zI 1031)) (zI 4)) (aC (zV 2) aM)))) (aF (aU 7 (zL (aC (o2 (lf gSub) (o2 (lf cJ) (o2 (lf cJ) (o2 (lf gO) (zV 0) (zI 48271)) (zI 1033)) (zI 9)) (zI 4)) (aC (o2 (lf gSub) (zI 0) (zV 1)) (aC (o2 (lf nM) (zI 100000000000000000000) (zV 1)) aM))))) (aF (aU 8 (zX (zV 7) (o2 (lf cJ) (o2 (lf cJ) (o2 (lf gO) (zV 0) (zI 48271)) (zI 1039)) (zI 3)))) (aF (dQ (cA (o2 (iM 8) (o2 (lf cJ) (o2 (lf cJ) (o2 (lf gO) (zV 0) (zI 48271)) (zI 1049)) (zI 31)) (zI 30))) (aU 4 (zX (bL eX (aC (zV 2) aM)) (o2 (lf cJ) (o2 (lf cJ) (o2 (lf gO) (zV 0) (zI 48271)) (zI 1051)) (zI 6)))) bN) (aF (dQ (cA (o2 (iM 8) (o2 (lf cJ) (o2 (lf cJ) (o2 (lf gO) (zV 0) (zI 48271)) (zI 1061)) (zI 31)) (zI 30))) (aU 5 (zX (bL eX (aC (zV 2) aM)) (o2 (lf cJ) (o2 (lf cJ) (o2 (lf gO) (zV 0) (zI 48271)) (zI 1063)) (zI 6)))) bN) (aF (dQ (cA (o2 (lf gLt) (zV 3) (zI 5))) (aW (zT (aC (zS "put") (aC (zV 4) (aC (zV 6) (aC (zV 8) aM)))))) bN) (aF (dQ (cA (o2 (lf gLt) (zV 3) (zI 7))) (aW (zT (aC (zS "take") (aC (zV 4) (aC (zV 6) aM))))) bN) (aF (dQ (cA (o2 (lf gLt) (zV 3) (zI 9))) (aW (zT (aC (zS "change") (aC (zV 4) (aC (zV 6) (aC (zV 8) aM)))))) bN) (aW (zT (aC (zX (zL (aC (zS "tell") (aC (zS "meet") aM))) (oL (lfL PN) (aC (o2 (lf gGt) (zV 3) (zI 11)) aM))) (aC (zV 4) (aC (zV 5) aM)))))))))))))))))
noncomputable def gQ:eC:=eB 3 mH vJ
abbrev rN:List Str:=["_law_cells","_law_count","_law_deeds","_law_k"]
abbrev Bc:List Str:=["_law_cells","_law_count"]
noncomputable abbrev eR:OS:=(bQ (kB jZ (zV 2) (aC (bL gQ (aC (o2 (lf nM) (zX (zV 0) (zV 3)) (o2 (lf gO) (zI 7) (zV 3))) (aC (zV 3) (aC (zV 1) aM)))) aM)))
noncomputable abbrev qF:OS:=(aF (aU 2 (oL GO aM)) (aF (sNx (bB (oIA gN (aC (oL iP (aC (zV 0) aM)) aM)) (aS 3) eR)) (aW (zV 2))))
noncomputable def kP:eC:=eB 2 rN qF
abbrev jK:List Str:=["_law_count","_law_hall"]
abbrev GG:List Str:=["_law_count"]
noncomputable abbrev yP:OS:=(aF (aU 1 (CW [("count",(zV 0)),("deeds",vA),("order",(oL GO aM))])) (aF (iN nL (zV 1) (zS "known") (cV IM (oIA gN (aC (zV 0) aM)) [xp,xo 0] (aS 0) (oPT jW) (cV IM (oIA gN (aC (zV 1) aM)) [xp,xo 1] (aS 0) (oPT jW) (o2 yR (zL (aC (zI 0) aM)) (zV 1))))) (aW (zV 1))))
noncomputable def pL:eC:=eB 1 jK yP
abbrev wO:List Str:=["_law_hall","_law_seen","_law_gone","_law_there","_law_mark","_law_put","_law_outs"]
abbrev wG:List Str:=["_law_hall","_law_seen"]
noncomputable abbrev bC:OS:=(dQ (cA (o2 (lf gLe) (zX (zV 4) (zI 1)) (zX (zV 1) (zX (zV 4) (zI 0))))) (aF (GW (qZ 5 6) (zD (zD (zV 0) (zS "deeds")) (zV 4))) (aF (aU 2 (o2 qI (zV 2) (zV 6))) (dQ (cA (o2 (lf LS) (zV 5) (oP (dC .non)))) (bQ (kB jZ (zV 3) (aC (zT (aC (zX (zV 5) (zI 0)) (aC (zV 4) (aC (zX (zV 5) (zI 1)) aM)))) aM))) bN))) bN)
noncomputable abbrev lS:OS:=(aF (aU 2 (zL aM)) (aF (aU 3 (oL GO aM)) (aF (sNx (bB (oIL (zD (zV 0) (zS "order"))) (aS 4) bC)) (aW (oL (Iv 4) (aC (cV rZ (oIL (zV 3)) [xp,xo 2] (aS 0) (cA (o2 (lf (Ck 7)) (zX (zV 0) (zI 1)) (zV 1))) (zV 0)) aM))))))
noncomputable def fF:eC:=eB 2 wO lS
abbrev rK:List Str:=["_law_hall","_law_own","_law_put","_law_outs","_law_seen"]
abbrev Bb:List Str:=["_law_hall","_law_own","_law_put","_law_outs"]
noncomputable abbrev qE:OS:=(aF (aU 4 (oL tV (aC (zX (zX (zD (zV 0) (zS "known")) (zV 1)) (zV 1)) aM))) (aF (iN nK (zV 4) (zV 1) (o2 (lf nM) (zX (zV 4) (zV 1)) (zI 1))) (aF (iN nK (zX (zD (zV 0) (zS "known")) (zV 1)) (zV 1) (zV 4)) (aF (iN nL (zD (zV 0) (zS "deeds")) (zT (aC (zV 1) (aC (zX (zV 4) (zV 1)) aM))) (zT (aC (zV 2) (aC (zV 3) aM)))) (aF (bQ (kB jZ (zD (zV 0) (zS "order")) (aC (zT (aC (zV 1) (aC (zX (zV 4) (zV 1)) aM))) aM))) (aW (zT (aC (zV 1) (aC (zX (zV 4) (zV 1)) aM)))))))))
noncomputable def cW:eC:=eB 4 rK qE
abbrev rM:List Str:=["_law_hall","_law_one","_law_other","_law_left","_law_right","_law_before","_law_made","_law_k","_law_row","_law_j","_law_most"]
abbrev rE:List Str:=["_law_hall","_law_one","_law_other"]
noncomputable abbrev cT:OS:=(aF (aU 10 (oL (lfL yS) (aC (zX (zX (zV 3) (zV 7)) (zV 9)) (aC (zX (zX (zV 4) (zV 7)) (zV 9)) aM)))) (aF (dQ (cA (o2 (iM 8) (zV 7) (zV 2))) (aU 10 (oL (lfL yS) (aC (zV 10) (aC (zX (zX (zV 3) (zV 1)) (zV 9)) aM)))) bN) (bQ (kB jZ (zV 8) (aC (zV 10) aM)))))
noncomputable abbrev cS:OS:=(aF (aU 8 (oL GO aM)) (aF (sNx (bB (oIA gN (aC (zD (zV 0) (zS "count")) aM)) (aS 9) cT)) (bQ (kB jZ (zV 6) (aC (zV 8) aM)))))
noncomputable abbrev iZ:OS:=(aF (aU 3 (zX (zD (zV 0) (zS "known")) (zV 1))) (aF (aU 4 (zX (zD (zV 0) (zS "known")) (zV 2))) (aF (aU 5 (oL AE (aC (zX (zV 4) (zV 2)) aM))) (aF (aU 6 (oL GO aM)) (aF (sNx (bB (oIA gN (aC (zD (zV 0) (zS "count")) aM)) (aS 7) cS)) (aF (iN nK (zD (zV 0) (zS "known")) (zV 2) (zV 6)) (aW (o2 (lf gSub) (oL AE (aC (zX (zV 6) (zV 2)) aM)) (zV 5)))))))))
noncomputable def cX:eC:=eB 3 rM iZ
abbrev nR:List Str:=["_law_hall","_law_deed","_law_count","_law_number","_law_own","_law_rows","_law_marks","_law_many","_law_more"]
abbrev nP:List Str:=["_law_hall","_law_deed"]
noncomputable abbrev aE:OS:=(dQ (yA (jY (jX (pP "str" (zV 3)))) (oOr (cA (o2 (lf gLt) (zV 3) (zI 0))) (cA (o2 (lf gGe) (zV 3) (zV 2))))) (aW (zS "no hand")) bN)
noncomputable abbrev bR:OS:=(aF (aU 2 (zD (zV 0) (zS "count"))) (aF (sNx (bB (oIT (o2 AG (oSl (zV 1) (dSo (dC (.int 1))) (dSo (dC (.int 2)))) (oSl (zV 1) (dSo (dC (.int 2))) (dSo (dC (.int 3)))))) (aS 3) aE)) (aF (aU 4 (zX (zV 1) (zI 1))) (aF (dQ (cA (o2 (lf (gIn 7)) (zX (zV 1) (zI 0)) (zL (aC (zS "put") (aC (zS "take") (aC (zS "change") aM)))))) (aF (aU 5 (bL fF (aC (zV 0) (aC (zX (zX (zD (zV 0) (zS "known")) (zV 4)) (zV 4)) aM)))) (aF (aU 6 (cV rZ (oIL (zV 5)) [xp,xo 1] (aS 0) (cA (o2 (iM 8) (zX (zV 0) (zI 0)) (zX (zV 1) (zI 2)))) (zX (zV 0) (zI 1)))) (aF (dQ (cA (o2 (iM 8) (zX (zV 1) (zI 0)) (zS "put"))) (aW (bL cW (aC (zV 0) (aC (zV 4) (aC (oSl (zV 1) (dSo (dC (.int 2))) dNo) (aC (zL aM) aM)))))) bN) (aF (dQ (cA (o2 (iM 8) (zX (zV 1) (zI 0)) (zS "change"))) (aW (bL cW (aC (zV 0) (aC (zV 4) (aC (oSl (zV 1) (dSo (dC (.int 2))) dNo) (aC (zV 6) aM)))))) bN) (aF (dQ (cA (o2 (iM 8) (zV 6) (zL aM))) (aW (oP (dC .non))) bN) (aF (bQ (bL cW (aC (zV 0) (aC (zV 4) (aC (oP (dC .non)) (aC (zV 6) aM)))))) (aW (zV 6)))))))) bN) (aF (dQ (cA (o2 (iM 8) (zV 4) (zX (zV 1) (zI 2)))) (aW (zS "same hand")) bN) (aF (dQ (cA (o2 (iM 8) (zX (zV 1) (zI 0)) (zS "tell"))) (aW (bL cX (aC (zV 0) (aC (zV 4) (aC (zX (zV 1) (zI 2)) aM))))) bN) (aF (aU 7 (bL cX (aC (zV 0) (aC (zX (zV 1) (zI 2)) (aC (zV 4) aM))))) (aF (aU 8 (bL cX (aC (zV 0) (aC (zV 4) (aC (zX (zV 1) (zI 2)) aM))))) (aF (iN nK (zX (zD (zV 0) (zS "known")) (zV 4)) (zX (zV 1) (zI 2)) (oL iL (aC (zX (zX (zD (zV 0) (zS "known")) (zV 4)) (zV 4)) aM))) (aW (zT (aC (zV 7) (aC (zV 8) aM)))))))))))))
noncomputable def cD:eC:=eB 2 nR bR
abbrev nS:List Str:=["_law_found","_law_count","_law_rows","_law_row"]
abbrev nQ:List Str:=["_law_found","_law_count"]
noncomputable abbrev dN:OS:=(aF (dQ (oOr (jY (jX (pP "tuple" (zV 3)))) (oOr (cA (o2 (Cm 8) (oL iP (aC (zV 3) aM)) (zI 3))) (jY (jX (pP "str" (zX (zV 3) (zI 0))))))) (aW (oP (dC (.bl false)))) bN) (aF (dQ (oOr (jY (jX (pP "tuple" (zX (zV 3) (zI 1))))) (oOr (cA (o2 (Cm 8) (oL iP (aC (zX (zV 3) (zI 1)) aM)) (zI 2))) (jY (jX (bL fM (aC (zX (zV 3) (zI 2)) aM)))))) (aW (oP (dC (.bl false)))) bN) (dQ (oOr (jY (jX (bL fM (aC (zX (zX (zV 3) (zI 1)) (zI 0)) aM)))) (jY (jX (bL fM (aC (zX (zX (zV 3) (zI 1)) (zI 1)) aM))))) (aW (oP (dC (.bl false)))) bN)))
noncomputable abbrev cN:OS:=(aF (dQ (jY (jX (pP "list" (zV 2)))) (aW (oP (dC (.bl false)))) bN) (sNx (bB (oIL (zV 2)) (aS 3) dN)))
noncomputable abbrev iK:OS:=(aF (dQ (oOr (jY (jX (pP "list" (zV 0)))) (cA (o2 (Cm 8) (oL iP (aC (zV 0) aM)) (zV 1)))) (aW (oP (dC (.bl false)))) bN) (aF (sNx (bB (oIL (zV 0)) (aS 2) cN)) (aW (oP (dC (.bl true))))))
noncomputable def cO:eC:=eB 2 nS iK
abbrev sL:List Str:=["_law_found","_law_count","_law_row","_law_number"]
abbrev sG:List Str:=["_law_found","_law_count"]
noncomputable abbrev gM:OS:=(dQ (jY (jX (bL fM (aC (zV 3) aM)))) (aW (oP (dC (.bl false)))) bN)
noncomputable abbrev dE:OS:=(aF (dQ (oOr (jY (jX (pP "list" (zV 2)))) (cA (o2 (Cm 8) (oL iP (aC (zV 2) aM)) (zV 1)))) (aW (oP (dC (.bl false)))) bN) (sNx (bB (oIL (zV 2)) (aS 3) gM)))
noncomputable abbrev kG:OS:=(aF (dQ (oOr (jY (jX (pP "list" (zV 0)))) (cA (o2 (Cm 8) (oL iP (aC (zV 0) aM)) (zV 1)))) (aW (oP (dC (.bl false)))) bN) (aF (sNx (bB (oIL (zV 0)) (aS 2) dE)) (aW (oP (dC (.bl true))))))
noncomputable def eP:eC:=eB 2 sL kG
abbrev Bo:List Str:=["_law_count","_law_deeds"]
abbrev Ba:List Str:=["_law_count"]
noncomputable abbrev AB:OS:=(aF (aU 1 (cV rZ (oIA gN (aC (o2 (lf gSub) (zV 0) (zI 1)) aM)) [xp] (aS 0) (oPT jW) (zT (aC (zS "meet") (aC (zV 0) (aC (o2 (lf nM) (zV 0) (zI 1)) aM)))))) (aW (o2 qI (zV 1) (cV rZ (oIA Ix (aC (o2 (lf gSub) (zV 0) (zI 2)) (aC (oP (d1 LU (dC (.int 1)))) (aC (oP (d1 LU (dC (.int 1)))) aM)))) [xp] (aS 0) (oPT jW) (zT (aC (zS "meet") (aC (o2 (lf nM) (zV 0) (zI 1)) (aC (zV 0) aM))))))))
noncomputable def gP:eC:=eB 1 Bo AB
abbrev kK:List Str:=["_law_cells","_law_count","_law_deeds","_law_k","_law_cell","_law_one","_law_other"]
abbrev sF:List Str:=["_law_cells","_law_count"]
noncomputable abbrev dD:OS:=(aF (aU 4 (o2 (lf nM) (zX (zV 0) (zV 3)) (o2 (lf gO) (zI 11) (zV 3)))) (aF (aU 5 (o2 (lf cJ) (o2 (lf cJ) (o2 (lf gO) (zV 4) (zI 48271)) (zI 1087)) (zV 1))) (aF (aU 6 (o2 (lf cJ) (o2 (lf nM) (o2 (lf nM) (zV 5) (zI 1)) (o2 (lf cJ) (o2 (lf cJ) (o2 (lf gO) (zV 4) (zI 48271)) (zI 1091)) (o2 (lf gSub) (zV 1) (zI 1)))) (zV 1))) (bQ (kB jZ (zV 2) (aC (zT (aC (zX (zL (aC (zS "tell") (aC (zS "meet") aM))) (o2 (lf cJ) (o2 (lf cJ) (o2 (lf gO) (zV 4) (zI 48271)) (zI 1093)) (zI 2))) (aC (zV 5) (aC (zV 6) aM)))) aM))))))
noncomputable abbrev kF:OS:=(aF (aU 2 (oL GO aM)) (aF (sNx (bB (oIA gN (aC (oL iP (aC (zV 0) aM)) aM)) (aS 3) dD)) (aW (zV 2))))
noncomputable def gF:eC:=eB 2 kK kF
abbrev Rj:List Str:=["_law_script","_law_count","_law_deeds","_law_some","_law_one","_law_other","_law_left","_law_right","_law_both","_law_k","_law_j","_law_hall","_law_deed","_law_all_seen","_law_mark","_law_due","_law_longer","_law_tables","_law_rows"]
abbrev Rg:List Str:=["_law_script"]
noncomputable abbrev oH:OS:=(dQ (cA (o2 (Cm 8) (zV 18) (zV 15))) (aW (oP (dC (.bl false)))) bN)
noncomputable abbrev vM:OS:=(aF (aU 17 (zX (bL cY (aC (zV 1) (aC (zV 16) aM))) (zI 0))) (aF (dQ (jY (jX (bL cO (aC (zV 17) (aC (zV 1) aM))))) (aW (oP (dC (.bl false)))) bN) (sNx (bB (oIL (zV 17)) (aS 18) oH))))
noncomputable abbrev oG:OS:=(iN nK (zV 13) (zX (zV 14) (zI 0)) (o2 (lf nM) (zX (zV 13) (zX (zV 14) (zI 0))) (zI 1)))
noncomputable abbrev vL:OS:=(bQ (bL cD (aC (zV 11) (aC (zV 12) aM))))
noncomputable abbrev oF:OS:=(aF (dQ (yA (cA (o2 (iM 8) (zX (zX (zV 6) (zI 1)) (zV 9)) (zX (zX (zV 7) (zI 1)) (zV 10)))) (cA (o2 (Cm 8) (zX (zX (zV 6) (zI 0)) (zV 9)) (zX (zX (zV 7) (zI 0)) (zV 10))))) (aW (oP (dC (.bl false)))) bN) (dQ (yA (cA (o2 (iM 8) (zX (zX (zV 6) (zI 1)) (zV 9)) (zX (zX (zV 6) (zI 1)) (zV 10)))) (cA (o2 (Cm 8) (zX (zX (zV 6) (zI 0)) (zV 9)) (zX (zX (zV 6) (zI 0)) (zV 10))))) (aW (oP (dC (.bl false)))) bN))
noncomputable abbrev oE:OS:=(sNx (bB (oIA gN (aC (zV 1) aM)) (aS 10) oF))
noncomputable abbrev vK:OS:=(dQ (oOr (jY (jX (bL cO (aC (zX (zV 8) (zI 0)) (aC (zV 1) aM))))) (jY (jX (bL eP (aC (zX (zV 8) (zI 1)) (aC (zV 1) aM)))))) (aW (oP (dC (.bl false)))) bN)
noncomputable abbrev OV:OS:=(aF (aU 1 (zX (zL (aC (zI 2) (aC (zI 3) (aC (zI 4) (aC (zI 5) (aC (zI 2) (aC (zI 3) (aC (zI 4) (aC (zI 8) aM))))))))) (o2 (lf cJ) (o2 (lf cJ) (o2 (lf gO) (bL uX (aC (zV 0) (aC (zI 0) aM))) (zI 48271)) (zI 1069)) (zI 8)))) (aF (aU 2 (bL kP (aC (oSl (zV 0) (dSo (dC (.int 1))) (dSo (dC (.int 19)))) (aC (zV 1) aM)))) (aF (aU 3 (bL gF (aC (oSl (zV 0) (dSo (dC (.int 19))) (dSo (dC (.int 29)))) (aC (zV 1) aM)))) (aF (aU 4 (o2 qI (zV 2) (zV 3))) (aF (aU 5 (o2 qI (zV 2) (oL FS (aC (zV 3) aM)))) (aF (aU 6 (bL cY (aC (zV 1) (aC (zV 4) aM)))) (aF (aU 7 (bL cY (aC (zV 1) (aC (zV 5) aM)))) (aF (sNx (bB (oIL (zL (aC (zV 6) (aC (zV 7) aM)))) (aS 8) vK)) (aF (sNx (bB (oIA gN (aC (zV 1) aM)) (aS 9) oE)) (aF (aU 11 (bL pL (aC (zV 1) aM))) (aF (sNx (bB (oIL (zV 2)) (aS 12) vL)) (aF (aU 13 (o2 yR (zL (aC (zI 0) aM)) (zV 1))) (aF (sNx (bB (oIL (zD (zV 11) (zS "order"))) (aS 14) oG)) (aF (aU 15 (bL fF (aC (zV 11) (aC (zV 13) aM)))) (aF (sNx (bB (oIL (zL (aC (o2 qI (zV 4) (bL gP (aC (zV 1) aM))) (aC (o2 qI (zV 5) (bL gP (aC (zV 1) aM))) aM)))) (aS 16) vM)) (aW (oP (dC (.bl true)))))))))))))))))))
noncomputable def p_law:eC:=eB 1 Rj OV
theorem eO (J:Rho->Prop) (hc:chk ω=true):∀ {ds:List D}{ρ:Rho},J ρ->(∀ d∈ds,∀ ρ,J ρ->∃ ρ1,bd d ρ=xo ρ1/\J ρ1/\t ρ1 ω=xo (.ok (p d),ω)/\(p d=true->f ρ1 ω=xo (.ok (g d),ω)))->
  compLO bd chk t f ds ρ ω=xo ((ds.filter p).map g,ω)
 |[],ρ,_,_=>by
  show(if chk ω=true then xo ([],ω) else xp)=_
  rw[if_pos hc];rfl
 |d::ds,ρ,hJ,h=>by
  obtain⟨ρ1,h1,h2,h3,h4⟩:=h d ar ρ hJ;have ih:=eO J hc h2 fun d' hd=>h d' (ai _ hd);unfold compLO;rw[if_pos hc,h1]
  show(match t ρ1 ω with
   |some (.ok k,ω1)=>_
   |_=>_)=_
  rw[h3];cases hp:p d with
  |true=>
   rw[c9 hp]
   show(if true=true then(match f ρ1 ω with
    |some (.ok y,ω2)=>_
    |_=>xp) else _)=_
   rw[if_pos rfl,h4 hp]
   show(compLO bd chk t f ds ρ1 ω).map _=_
   rw[ih];rfl
  |false=>
   rw[c7 (by rw[hp];exact cg)];exact ih
theorem iE (J:Rho->Prop) (hc:chk ω=true) (hJ:J ρ) (h:∀ d∈ds,∀ ρ,J ρ->∃ ρ1,bd d ρ=xo ρ1/\J ρ1/\f ρ1 ω=xo (.ok (g d),ω)):
  compLO bd chk (oPT jW) f ds ρ ω=xo (ds.map g,ω):=by
 have:=eO (t:=oPT jW) (p:=fun _=>true) (g:=g) J hc hJ fun d hd ρ hρ=>let ⟨ρ1,h1,h2,h3⟩:=h d hd ρ hρ;⟨ρ1,h1,h2,rfl,fun _=>h3⟩
 rw[this]
 congr 2
 rw[u3.mpr (fun _ _=>rfl)]
theorem fB (h1:fi ρ ω=xo (.ok (ds,chk),ω1)) (hl:ds.length<=sizeLine) (h2:compLO bd chk t f ds (GP caps ρ) ω1=xo (out,ω2)):cV rZ fi caps bd t f ρ ω=xo (.ok (.lst out),ω2):=by
 unfold cV;rw[bF h1]
 show(if ds.length<=sizeLine then _ else xp)=_
 rw[if_pos hl]
 show(compLO bd chk t f ds (GP caps ρ) ω1).bind _=_
 rw[h2];rfl
theorem pQ (h1:fi ρ ω=xo (.ok (ds,chk),ω1)) (hl:ds.length<=sizeLine) (h2:compLO bd chk t f ds (GP caps ρ) ω1=xo (out,ω2)):cV IM fi caps bd t f ρ ω=xo (.ok (.obj ω2.length),ω2++[.ml out]):=by
 unfold cV;rw[bF h1]
 show(if ds.length<=sizeLine then _ else xp)=_
 rw[if_pos hl]
 show(compLO bd chk t f ds (GP caps ρ) ω1).bind _=_
 rw[h2];rfl
theorem bS (hc:chk ω=true) (hb:bd d ρ=xo ρ1) (hF:F ρ1 ω=xo (.nx ρ2,ω2)):bO bd chk F (d::ds) ρ ω=bO bd chk F ds ρ2 ω2:=by
 show(if chk ω=true then(bd d ρ).bind (fun ρ1=>match F ρ1 ω with
  |none=>xp
  |some (.nx ρ2,ω2)=>bO bd chk F ds ρ2 ω2
  |some (.ct ρ2,ω2)=>bO bd chk F ds ρ2 ω2
  |some (.bk ρ2,ω2)=>xo (.nx ρ2,ω2)
  |some (.rt d,ω2)=>xo (.rt d,ω2)
  |some (.ex _,_)=>xp) else xp)=_
 rw[if_pos hc,hb]
 show(match F ρ1 ω with
  |none=>xp
  |some (.nx ρ2,ω2)=>bO bd chk F ds ρ2 ω2
  |some (.ct ρ2,ω2)=>bO bd chk F ds ρ2 ω2
  |some (.bk ρ2,ω2)=>xo (.nx ρ2,ω2)
  |some (.rt d,ω2)=>xo (.rt d,ω2)
  |some (.ex _,_)=>xp)=_
 rw[hF]
theorem qX (hc:chk ω=true) (hb:bd d ρ=xo ρ1) (hf:f ρ1 ω=xo (.ok y,ω2)):compLO bd chk (oPT jW) f (d::ds) ρ ω=(compLO bd chk (oPT jW) f ds ρ1 ω2).map fun r=>(y::r.1,r.2):=by
 rw[compLO.eq_2,if_pos hc,hb]
 show(match f ρ1 ω with
  |some (.ok y,ω2)=>(compLO bd chk (oPT jW) f ds ρ1 ω2).map fun r:List D×Om=>(y::r.1,r.2)
  |_=>xp)=_
 rw[hf]
mutual
theorem sW:∀ a:D,fL a a=true
 |.non=>by simp[fL]
 |.bl a=>by simp[fL]
 |.int a=>by simp[fL]
 |.str a=>by simp[fL]
 |.obj a=>by simp[fL]
 |.lst a=>by simpa [fL] using sameDs_refl a
 |.tup a=>by simpa [fL] using sameDs_refl a
 |.scr a=>by simpa [fL] using sameDs_refl a
theorem sameDs_refl:∀ a:List D,sameDs a a=true
 |[]=>by simp[sameDs]
 |a::as=>by simp[sameDs,sW a,sameDs_refl as]
end
noncomputable def iv (xs:List Int):List D:=xs.map D.int
def RowV (ω:Om) (d:D) (xs:List Int):Prop:=eJ ω d=xo (iv xs)
theorem RowV.it (h:RowV ω d xs):∃ chk,lX ω d=xo (iv xs,chk)/\chk ω=true:=by
 rcases fE h with rfl|⟨n,rfl,e⟩
 ·exact⟨bK,rfl,rfl⟩
 ·refine⟨iO n (iv xs),?_,?_⟩
  ·show(match ω[n]? with
    |some (.ml ds)=>xo (ds,iO n ds)
    |_=>xp)=_
   rw[e]
  ·unfold iO;rw[e];exact sameDs_refl _
theorem kY (e:ω[n]?=xo (.ml ds)):oI ω (.obj n) (.int a)=atI ds a:=by
 simp only[oI,cellOf,e];rfl
theorem RowV.ix (h:RowV ω d xs) {a:Int} (h0:0<=a) (h1:a<xs.length):oI ω d (.int a)=xo (.int (xs.getD a.toNat 0)):=by
 have key:atI (iv xs) a=xo (.int (xs.getD a.toNat 0)):=by
  unfold atI ixN iv;have hl:a<((xs.map D.int).length:Int):=by simpa using h1
  rw[if_pos h0,if_pos hl]
  show(xs.map D.int)[a.toNat]?=_
  have:a.toNat<xs.length:=by omega
  rw[ay,bj this,ax,bj this];rfl
 rcases fE h with rfl|⟨n,rfl,e⟩
 ·exact key
 ·rw[kY e];exact key
theorem aK (e1:f ρ ω=xo (.ok a,ω1)) (e2:h ρ ω1=xo (.ok b,ω2)) (e3:oI ω2 a b=xo d):zX f h ρ ω=xo (.ok d,ω2):=dY e1 e2 (by show pu (oI ω2 a b) ω2=_;rw[e3];rfl)
theorem qB (h:RowV ω d xs) {a b:Int} (h0:0<=a) (h1:a<xs.length):fJ [d,.tup [.int a,.int b]] ω=xo (.ok (.bl (decide (b<=xs.getD a.toNat 0))),ω):=by
 refine aT rfl (bE (gD (aK (aB (d:=.tup [.int a,.int b]) rfl) aQ rfl) (aK (aB (d:=d) rfl) (aK (aB (d:=.tup [.int a,.int b]) rfl) aQ rfl) (h.ix h0 h1)) rfl))
theorem Eb (e1:f ρ ω=xo (.ok a,ω)) (e2:h ρ ω=xo (.ok b,ω)) (h1:RowV ω a xs) (h2:RowV ω b ys):∃ chk,oIZ (aC f (aC h aM)) ρ ω=xo (.ok (Aa (iv xs) (iv ys),chk),ω)/\chk ω=true:=by
 obtain⟨c1,g1,k1⟩:=h1.it;obtain⟨c2,g2,k2⟩:=h2.it;refine⟨fun ω=>c1 ω&&c2 ω,?_,by simp[k1,k2]⟩;unfold oIZ;rw[bF (aA e1 (aA e2 aD))];show oR (pu (PM ω [a,b]) ω)=_;unfold PM;show oR (pu ((lX ω a).bind _) ω)=_;rw[g1];show oR (pu ((lX ω b).map _) ω)=_;rw[g2];rfl
theorem uK (hG:∀ x y,G (.tup [.int x,.int y])=.int (g x y)):(Aa (iv xs) (iv ys)).map G=iv (bu g xs ys):=by
 unfold Aa iv;rw[wk]
 induction xs generalizing ys with
 |nil=>rfl
 |cons x r ih=>
  cases ys with
  |nil=>rfl
  |cons y r'=>simp only[jl,bg,hG,ih]
theorem zY (h:d∈Aa (iv xs) (iv ys)):∃ x y,d=.tup [.int x,.int y]:=by
 unfold Aa iv at h;rw[wk] at h
 induction xs generalizing ys with
 |nil=>simp at h
 |cons x r ih=>
  cases ys with
  |nil=>simp at h
  |cons y r'=>
   rw[jl] at h;rcases aj.mp h with h|h
   ·exact⟨x,y,h⟩
   ·exact ih h
theorem zZ (h:xs.length<=sizeLine):(Aa (iv xs) (iv ys)).length<=sizeLine:=by
 unfold Aa iv;rw[fu,ak,ak];omega
noncomputable def D2 (g:Int->Int->Int):D->D
 |.tup [.int x,.int y]=>.int (g x y)
 |d=>d
noncomputable def mx (i j:Int):Int:=if j>i then j else i
noncomputable def mn (i j:Int):Int:=if j<i then j else i
theorem oQ:∀ xs:List Int,lE (iv xs)=xo xs
 |[]=>rfl
 |x::r=>by
  show(lE (iv r)).map _=_
  rw[oQ r];rfl
theorem yH (h1:RowV ω a xs) (h2:RowV ω b ys) (hl:xs.length<=sizeLine):gS [a,b] ω=xo (.ok (.obj ω.length),ω++[.ml (iv (bu mx xs ys))]):=by
 obtain⟨chk,z1,z2⟩:=Eb (f:=zV 0) (h:=zV 1) (ρ:=cB CC [a,b]) (aB (d:=a) rfl) (aB (d:=b) rfl) h1 h2;refine aT rfl (bE (pQ z1 (zZ hl) ?_));rw[<- uK (G:=D2 mx) (fun _ _=>rfl)];refine iE (fun ρ=>ρ.length=2) z2 rfl fun d hd ρ hρ=> ?_;obtain⟨x,y,rfl⟩:=zY hd
 match ρ,hρ with
 |[u,v],_=>exact⟨_,rfl,rfl,rfl⟩
theorem HW (h1:RowV ω a xs) (h2:RowV ω b ys) (hl:xs.length<=sizeLine):Am [a,b] ω=xo (.ok (.int (bu (fun x y=>mx (y-x) 0) xs ys).sum),ω):=by
 obtain⟨chk,z1,z2⟩:=Eb (f:=zV 0) (h:=zV 1) (ρ:=cB GH [a,b]) (aB (d:=a) rfl) (aB (d:=b) rfl) h1 h2;refine aT rfl (bE (cI (aA (fB (ω2:=ω) (out:=iv (bu (fun x y=>mx (y-x) 0) xs ys)) z1 (zZ hl) ?_) aD) ?_))
 ·rw[<- uK (G:=D2 fun x y=>mx (y-x) 0) (fun _ _=>rfl)];refine iE (fun ρ=>ρ.length=2) z2 rfl fun d hd ρ hρ=> ?_;obtain⟨x,y,rfl⟩:=zY hd
  match ρ,hρ with
  |[u,v],_=>exact⟨_,rfl,rfl,rfl⟩
 ·show pu ((lE (iv _)).map _) ω=_;rw[oQ];rfl
theorem dF (h:F ρ ω=xo (.nx ρ',ω')):sNx F ρ ω=xo (.nx ρ',ω'):=by
 unfold sNx;rw[h]
structure Hd where
 knows:List (List Int)
 table:List (List Key×D)
 kept:List (List Key×D)
def RowsAt (ω:Om):List Nat->List (List Int)->Prop:=j6 fun r xs=>ω[r]?=xo (Ob.ml (iv xs))
structure HandAt (ω:Om) (h:Nat) (i:Int) (hd:Hd) (k t e:Nat) (rs:List Nat):Prop where
 obj:ω[h]?=xo (.ins 0 [("number",.int i),("knows",.obj k),("table",.obj t),("kept",.obj e)])
 kn:ω[k]?=xo (.ml (rs.map D.obj))
 rows:RowsAt ω rs hd.knows
 tb:ω[t]?=xo (.dt hd.table)
 kp:ω[e]?=xo (.dt hd.kept)
 nd:(h::k::t::e::rs).Nodup
theorem RowsAt.get (h:RowsAt ω rs kn) {j:Nat} (e:kn[j]?=xo xs):∃ r,rs[j]?=xo r/\ω[r]?=xo (.ml (iv xs)):=by
 induction h generalizing j with
 |nil=>simp at e
 |cons hr _ ih=>
  cases j with
  |zero=>simp at e;subst e;exact⟨_,rfl,hr⟩
  |succ j=>simp at e;obtain⟨r,e1,e2⟩:=ih e;exact⟨r,by simpa using e1,e2⟩
theorem RowsAt.length (h:RowsAt ω rs kn):rs.length=kn.length:=jd h
theorem fV (e1:f ρ ω=xo (.ok (.obj n),ω1)) (e2:ω1[n]?=xo (.ins c fs)) (e3:fs.lookup x=xo d):fZ c x f ρ ω=xo (.ok d,ω1):=by
 unfold fZ;rw[bF e1];show oR (pu (MF c x ω1 (.obj n)) ω1)=_
 have:MF c x ω1 (.obj n)=xo d:=by
  simp[MF,cellOf,e2,e3]
 rw[this];rfl
theorem bX (e1:fo ρ ω=xo (.ok (.obj n),ω1)) (e2:ω1[n]?=xo (.ins c fs)) (e3:fs.lookup m=xp) (e4:fl ρ ω1=xo (.ok ds,ω2)) (e5:φ (.obj n::ds) ω2=xo (r,ω3)):
  bH c m φ fo fl ρ ω=xo (r,ω3):=by
 unfold bH;rw[bF e1]
 have:Dk c m ω1 (.obj n)=true:=by
  simp only[Dk,cellOf,e2,e3];simp
 show(if Dk c m ω1 (.obj n)=true then _ else xp)=_
 rw[if_pos this,bF e4];exact e5
section
variable {ω:Om}{h k t e:Nat}{i:Int}{hd:Hd}{rs:List Nat}{ρ:Rho}{f:OG D}
theorem HandAt.number (H:HandAt ω h i hd k t e rs) (ef:f ρ ω=xo (.ok (.obj h),ω)):fZ 0 "number" f ρ ω=xo (.ok (.int i),ω):=fV ef H.obj rfl
theorem HandAt.knows (H:HandAt ω h i hd k t e rs) (ef:f ρ ω=xo (.ok (.obj h),ω)):fZ 0 "knows" f ρ ω=xo (.ok (.obj k),ω):=fV ef H.obj rfl
theorem HandAt.table (H:HandAt ω h i hd k t e rs) (ef:f ρ ω=xo (.ok (.obj h),ω)):fZ 0 "table" f ρ ω=xo (.ok (.obj t),ω):=fV ef H.obj rfl
theorem HandAt.kept (H:HandAt ω h i hd k t e rs) (ef:f ρ ω=xo (.ok (.obj h),ω)):fZ 0 "kept" f ρ ω=xo (.ok (.obj e),ω):=fV ef H.obj rfl
noncomputable def Hd.seen (hd:Hd) (i:Nat):List Int:=hd.knows.getD i []
theorem kN {i:Nat} (H:HandAt ω h i hd k t e rs) (hr:rs[i]?=xo r):bV [.obj h] ω=xo (.ok (.obj r),ω):=by
 refine aT rfl (bE (aK (H.knows (aB rfl)) (H.number (aB rfl)) ?_));rw[kY H.kn];have hl:i<rs.length:=(bq.mp hr).1;unfold atI ixN;rw[if_pos (jr i),if_pos (by simpa using hl)]
 show(rs.map D.obj)[i]?=_
 rw[ay,hr];rfl
theorem HandAt.seenRow {i:Nat} (H:HandAt ω h i hd k t e rs) (hi:i<hd.knows.length):∃ r,rs[i]?=xo r/\ω[r]?=xo (.ml (iv (hd.seen i))):=by
 refine H.rows.get ?_;unfold Hd.seen;rw[ax,bj hi];rfl
noncomputable def Hd.entries (hd:Hd):Option (List D):=eD 4 (hd.table.map (·.2))
theorem jT (H:HandAt ω h i hd k t e rs) (hs:hd.entries=xo out):bT [.obj h] ω=xo (.ok (.lst out),ω):=by
 refine aT rfl (bE ?_);unfold HN;rw[bF (H.table (aB rfl))];show oR (pu (FO 4 ω (.obj t)) ω)=_
 have:FO 4 ω (.obj t)=xo (.lst out):=by
  simp only[FO,cellOf,H.tb]
  show(hd.entries).map _=_
  rw[hs];rfl
 rw[this];rfl
theorem cF (e1:fo ρ ω=xo (.ok (.obj n),ω1)) (e2:ω1[n]?=xo (.ins c fs)) (e3:fs.lookup m=xp) (e5:φ [.obj n] ω1=xo (r,ω3)):
  bH c m φ fo aM ρ ω=xo (r,ω3):=bX e1 e2 e3 aD e5
noncomputable def marksIn (name:D) (rows:List D):List D:=(rows.filter fun d=>match d with|.tup (a::_)=>(eqD 8 a name)==xo true|_=>false).map fun d=>match d with|.tup (_::m::_)=>m|_=>.non
def fD (d:D):Prop:=∃ x a b v,d=.tup [.str x,.tup [.int a,.int b],.int v]
theorem iA (n:Nat) (x y:Str):eqD n (.str x) (.str y)=xo (decide (x=y)):=by cases n <;> rfl
theorem Ia (H:HandAt ω h i hd k t e rs) (hs:hd.entries=xo out) (he:∀ d∈out,fD d) (hl:out.length<=sizeLine) (y:Str):dB [.obj h,.str y] ω=xo (.ok (.lst (marksIn (.str y) out)),ω):=by
 have e1:bH 0 "entries" bT (zV 0) aM (cB jM [.obj h,.str y]) ω=xo (.ok (.lst out),ω):=cF (aB rfl) H.obj rfl (jT H hs);refine aT rfl (bE (fB (ds:=out) (chk:=bK) (ω1:=ω) ?_ hl ?_))
 ·unfold oIL;rw[bF e1];rfl
 ·unfold marksIn;refine eO (fun ρ=>∃ u,ρ=[u,xo (.str y)]) rfl ⟨_,rfl⟩ fun d hd ρ hρ=> ?_;obtain⟨x,a,b,v,rfl⟩:=he d hd;obtain⟨u,rfl⟩:=hρ;refine⟨_,rfl,⟨_,rfl⟩,?_,fun _=>rfl⟩;refine cC (dY (aK (aB rfl) aQ rfl) (aB rfl) ?_);show pu ((eqD 8 (.str x) (.str y)).map D.bl) ω=_;rw[iA];show xo (D.bl (decide (x=y)),ω)=xo (D.bl (eqD 8 (.str x) (.str y)==xo true),ω);rw[iA];cases decide (x=y) <;> rfl
theorem eI {o i v:D} (e1:fv ρ ω=xo (.ok v,ω1)) (e2:fo ρ ω1=xo (.ok o,ω2)) (e3:fi ρ ω2=xo (.ok i,ω3)) (e4:g ω3 o i v=xo ω4):iN g fo fi fv ρ ω=xo (.nx ρ,ω4):=by
 unfold iN;rw[bP e1,bP e2,bP e3]
 show(g ω3 o i v).map _=_
 rw[e4];rfl
theorem kL {j:Nat} (e:ω[n]?=xo (.ml ds)) (hj:j<ds.length):nK ω (.obj n) (.int j) v=xo (ω.set n (.ml (ds.set j v))):=by
 simp only[nK,e];unfold ixN;rw[if_pos (jr j),if_pos (by simpa using hj)];simp
theorem aJ (h:m≠n):(ω.set n ob)[m]?=ω[m]?:=f8 (bz h)
theorem bU (h:ω[n]?=xo ob'):(ω.set n ob)[n]?=xo ob:=by
 have hl:n<ω.length:=(bq.mp h).1;simp[hl]
theorem RowsAt.mono (h:RowsAt ω rs kn) (k:∀ r∈rs,ω'[r]?=ω[r]?):RowsAt ω' rs kn:=by
 induction h with
 |nil=>exact .nil
 |cons hr _ ih=>exact .cons ((k _ ar).trans hr) (ih fun r hr=>k r (ai _ hr))
theorem HandAt.mono (H:HandAt ω h i hd k t e rs) (g:∀ n∈h::k::t::e::rs,ω'[n]?=ω[n]?):HandAt ω' h i hd k t e rs:=
 ⟨(g h (by simp)).trans H.obj,(g k (by simp)).trans H.kn,H.rows.mono fun r hr=>g r (by simp[hr]),(g t (by simp)).trans H.tb,(g e (by simp)).trans H.kp,H.nd⟩
theorem RowsAt.set (h:RowsAt ω rs kn) (nd:rs.Nodup) (hr:rs[j]?=xo r):RowsAt (ω.set r (.ml (iv xs))) rs (kn.set j xs):=by
 induction h generalizing j with
 |nil=>simp at hr
 |@cons r0 x0 rs' kn' h0 t ih=>
  rw[b8] at nd;cases j with
  |zero=>
   simp at hr;subst hr;rw[vm];refine .cons (bU h0) (RowsAt.mono t fun q hq=>aJ fun z=>nd.1 (z ▸ hq))
  |succ j=>
   simp at hr;rw[vn];refine .cons ?_ (ih nd.2 hr)
   show(ω.set r (.ml (iv xs)))[r0]?=_
   rw[aJ (show r0≠r from fun z=>nd.1 (by rw[z];exact f9 hr))];exact h0
def Keep (fp:List Nat) (ω ω':Om):Prop:=ω.length<=ω'.length/\∀ n,n<ω.length->n∉fp->ω'[n]?=ω[n]?
theorem Keep.refl (fp:List Nat) (ω:Om):Keep fp ω ω:=⟨bf _,fun _ _ _=>rfl⟩
theorem Keep.trans (a:Keep fp ω ω1) (b:Keep fp ω1 ω2):Keep fp ω ω2:=⟨cf a.1 b.1,fun n h1 h2=>(b.2 n (b7 h1 a.1) h2).trans (a.2 n h1 h2)⟩
theorem Keep.set (h:n∈fp):Keep fp ω (ω.set n ob):=⟨by simp,fun m _ hm=>aJ fun z=>hm (z ▸ h)⟩
noncomputable def Hd.bump (hd:Hd) (i:Nat):Hd:={ hd with knows:=hd.knows.set i ((hd.seen i).set i ((hd.seen i).getD i 0+1)) }
theorem pR {i:Nat} (H:HandAt ω h i hd k t e rs) (hi:i<hd.knows.length) (hs:i<(hd.seen i).length):∃ ω',dA [.obj h] ω=xo (.ok (.tup [.int i,.int ((hd.seen i).getD i 0+1)]),ω')/\HandAt ω' h i (hd.bump i) k t e rs/\Keep rs ω ω'/\ω'.length=ω.length:=by
 obtain⟨r,hr,er⟩:=H.seenRow hi;have hm:r∈rs:=f9 hr;have nd:=H.nd;simp only[b8,aj,not_or] at nd;obtain⟨⟨h1,h2,h3,h4⟩,⟨h5,h6,h7⟩,⟨h8,h9⟩,h10,h11⟩:=nd;have ne:∀ {n:Nat},n∉rs->n≠r:=fun hn z=>hn (z ▸ hm);refine⟨ω.set r (.ml (iv ((hd.seen i).set i ((hd.seen i).getD i 0+1)))),?_,⟨?_,?_,H.rows.set h11 hr,?_,?_,H.nd⟩,Keep.set hm,by simp⟩
 ·have ix:oI ω (.obj r) (.int i)=xo (.int ((hd.seen i).getD i 0)):=by
   have:=RowV.ix (ω:=ω) (d:=.obj r) (xs:=hd.seen i) (by unfold RowV eJ;simp only[er]) (a:=i) (jr i) (by simpa using hs)
   simpa using this
  refine aT rfl ?_;unfold jC;rw[aI (cF (aB rfl) H.obj rfl (kN H hr))];have e2:(ω.set r (.ml (iv ((hd.seen i).set i ((hd.seen i).getD i 0+1)))))[h]?=ω[h]?:=aJ (ne h4);rw[aZ (eI (gD (aK (aB (d:=.obj r) rfl) (H.number (aB rfl)) ix) aQ rfl) (aB (d:=.obj r) rfl) (H.number (aB rfl)) (kL er (by unfold iv;simpa using hs)))];have e3:(iv (hd.seen i)).set i (.int ((hd.seen i).getD i 0+1))=iv ((hd.seen i).set i ((hd.seen i).getD i 0+1)):=by
   unfold iv;rw[rm]
  rw[e3];have H2:fZ 0 "number" (zV 0) [xo (.obj h),xo (.obj r)] (ω.set r (.ml (iv ((hd.seen i).set i ((hd.seen i).getD i 0+1)))))=xo (.ok (.int i),ω.set r (.ml (iv ((hd.seen i).set i ((hd.seen i).getD i 0+1))))):=fV (aB rfl) (e2.trans H.obj) rfl;have er2:=bU (ob:=.ml (iv ((hd.seen i).set i ((hd.seen i).getD i 0+1)))) er;refine bE (cI (aA H2 (aA (aK (d:=.int ((hd.seen i).getD i 0+1)) (aB (d:=.obj r) rfl) H2 ?_) aD)) rfl)
  have:=RowV.ix (ω:=ω.set r (.ml (iv ((hd.seen i).set i ((hd.seen i).getD i 0+1))))) (d:=.obj r) (xs:=(hd.seen i).set i ((hd.seen i).getD i 0+1)) (by unfold RowV eJ;simp only[er2]) (a:=i) (jr i) (by simpa using hs)
  rw[this];simp[hs]
 ·rw[aJ (ne h4)];exact H.obj
 ·rw[aJ (ne h7)];exact H.kn
 ·rw[aJ (ne h9)];exact H.tb
 ·rw[aJ (ne h10)];exact H.kp
end
section
variable {ω:Om}{h k t e:Nat}{i:Nat}{hd:Hd}{rs:List Nat}{ρ:Rho}{f:OG D}
theorem HandAt.ne (H:HandAt ω h i hd k t e rs):(h≠k/\h≠t/\h≠e/\h∉rs)/\(k≠t/\k≠e/\k∉rs)/\(t≠e/\t∉rs)/\e∉rs/\rs.Nodup:=by
 have nd:=H.nd;simp only[b8,aj,not_or] at nd;obtain⟨⟨h1,h2,h3,h4⟩,⟨h5,h6,h7⟩,⟨h8,h9⟩,h10,h11⟩:=nd;exact⟨⟨h1,h2,h3,h4⟩,⟨h5,h6,h7⟩,⟨h8,h9⟩,h10,h11⟩
theorem HandAt.setT (H:HandAt ω h i hd k t e rs) (T:List (List Key×D)):HandAt (ω.set t (.dt T)) h i { hd with table:=T } k t e rs:=by
 obtain⟨⟨h1,h2,h3,h4⟩,⟨h5,h6,h7⟩,⟨h8,h9⟩,h10,h11⟩:=H.ne;refine⟨?_,?_,H.rows.mono fun r hr=>aJ fun z=>h9 (z ▸ hr),bU H.tb,?_,H.nd⟩
 ·rw[aJ h2];exact H.obj
 ·rw[aJ h5];exact H.kn
 ·rw[aJ (bz h8)];exact H.kp
theorem HandAt.setE (H:HandAt ω h i hd k t e rs) (T:List (List Key×D)):HandAt (ω.set e (.dt T)) h i { hd with kept:=T } k t e rs:=by
 obtain⟨⟨h1,h2,h3,h4⟩,⟨h5,h6,h7⟩,⟨h8,h9⟩,h10,h11⟩:=H.ne;refine⟨?_,?_,H.rows.mono fun r hr=>aJ fun z=>h10 (z ▸ hr),?_,bU H.kp,H.nd⟩
 ·rw[aJ h3];exact H.obj
 ·rw[aJ h6];exact H.kn
 ·rw[aJ h8];exact H.tb
theorem HandAt.lt (H:HandAt ω h i hd k t e rs):∀ n∈h::k::t::e::rs,n<ω.length:=by
 intro n hn;have lt:∀ {m:Nat}{o:Ob},ω[m]?=xo o->m<ω.length:=fun q=>(bq.mp q).1;rcases aj.mp hn with rfl|hn
 ·exact lt H.obj
 rcases aj.mp hn with rfl|hn
 ·exact lt H.kn
 rcases aj.mp hn with rfl|hn
 ·exact lt H.tb
 rcases aj.mp hn with rfl|hn
 ·exact lt H.kp
 ·have:∀ {rs:List Nat}{kn:List (List Int)},RowsAt ω rs kn->∀ n∈rs,n<ω.length:=by
   intro rs kn hR
   induction hR with
   |nil=>intro n hn;simp at hn
   |cons hr _ ih=>
    intro n hn;rcases aj.mp hn with rfl|hn
    ·exact lt hr
    ·exact ih n hn
  exact this H.rows n hn
noncomputable def gG (i:Nat) (b:Int):List Key:=[.inl (i:Int),.inl b]
noncomputable def mkD (i:Nat) (b:Int):D:=.tup [.int i,.int b]
noncomputable def Hd.next (hd:Hd) (i:Nat):Int:=(hd.seen i).getD i 0+1
noncomputable def Hd.put (hd:Hd) (i:Nat) (x:Str) (v:Int):Hd:={ hd.bump i with table:=putD hd.table (gG i (hd.next i)) (.tup [.str x,mkD i (hd.next i),.int v]) }
theorem qL (e:ω[n]?=xo (.dt kvs)) (hk:DY y=xo ks) (hl:kvs.length<sizeLine):nL ω (.obj n) y v=xo (ω.set n (.dt (putD kvs ks v))):=by
 simp only[nL,e,hk]
 show(if kvs.length<sizeLine then _ else xp)=_
 rw[if_pos hl]
theorem Ng (H:HandAt ω h i hd k t e rs) (hi:i<hd.knows.length) (hs:i<(hd.seen i).length) (hl:hd.table.length<sizeLine) (x:Str) (v:Int):
  ∃ ω',eM [.obj h,.str x,.int v] ω=xo (.ok (mkD i (hd.next i)),ω')/\HandAt ω' h i (hd.put i x v) k t e rs/\Keep (t::rs) ω ω'/\ω'.length=ω.length:=by
 obtain⟨ω1,e1,H1,K1,L1⟩:=pR H hi hs;have hb:(hd.bump i).table=hd.table:=rfl;refine⟨ω1.set t (.dt (putD hd.table (gG i (hd.next i)) (.tup [.str x,mkD i (hd.next i),.int v]))),?_,?_,⟨by simp[L1],fun n hn hm=> ?_⟩,by simp[L1]⟩
 ·refine aT rfl ?_;unfold tU;rw[aI (cF (aB rfl) H.obj rfl e1)];rw[aZ (eI (cI (aA (aB (d:=.str x) rfl) (aA (aB (d:=mkD i (hd.next i)) rfl) (aA (aB (d:=.int v) rfl) aD))) rfl) (H1.table (aB rfl)) (aB (d:=mkD i (hd.next i)) rfl) (qL (ks:=gG i (hd.next i)) H1.tb rfl hl))];exact bE (aB rfl)
 ·exact H1.setT _
 ·rw[aJ (fun z=>hm (by rw[z];simp))];exact K1.2 n hn fun z=>hm (ai _ z)
noncomputable def common:List (List Int)->List Int
 |[]=>[]
 |r::rest=>rest.foldl (bu mn) r
theorem Gn (hk:ω[k]?=xo (.ml (rs.map D.obj))) (hr:RowsAt ω rs kn) (hne:kn≠[]) (hl:∀ xs∈kn,xs.length<=sizeLine):nZ [.obj k] ω=xo (.ok (.lst (iv (common kn))),ω):=by
 cases hr with
 |nil=>exact absurd rfl hne
 |@cons r0 x0 rs kn h0 ht=>
  refine aT rfl ?_;unfold Cj;have e0:oI ω (.obj k) (.int 0)=xo (.obj r0):=by
   rw[kY hk];unfold atI ixN;simp
  rw[aI (d:=.lst (iv x0)) (cI (aA (aK (aB (d:=.obj k) rfl) aQ e0) aD) (by
   show(bY ω (.obj r0)).map _=_
   have:bY ω (.obj r0)=xo (iv x0):=by simp only[bY,eJ,h0]
   rw[this];rfl))]
  have e1:oSl (zV 0) (dSo (dC (.int 1))) dNo ((cB wP [.obj k]).set 1 (xo (.lst (iv x0)))) ω=xo (.ok (.lst (rs.map D.obj)),ω):=by
   unfold oSl;rw[bF (aB (d:=.obj k) rfl)];show oR (pu (OX ω (.obj k) (xo 1) xp) ω)=_
   have:OX ω (.obj k) (xo 1) xp=xo (.lst (DJ ((r0::rs).map D.obj) (xo 1) xp)):=by simp only[OX,eJ,hk]
   rw[this];have c1:DJ ((r0::rs).map D.obj) (xo 1) xp=rs.map D.obj:=by
    simp only[DJ,HT.sIx];simp[tz]
   rw[c1];rfl
  have hloop:∃ ρ' ω',bO (aS 2) bK fT (rs.map D.obj) ((cB wP [.obj k]).set 1 (xo (.lst (iv x0)))) ω=xo (.nx ρ',ω')/\(ω'=ω/\∃ v,ρ'=[xo (.obj k),xo (.lst (iv (kn.foldl (bu mn) x0))),v]):=by
   have gen:∀ {rs:List Nat}{kn:List (List Int)},RowsAt ω rs kn->(∀ xs∈kn,xs.length<=sizeLine)->∀(x0:List Int) (v:Option D),x0.length<=sizeLine->∃ ρ' ω',bO (aS 2) bK fT (rs.map D.obj) [xo (.obj k),xo (.lst (iv x0)),v] ω=xo (.nx ρ',ω')/\(ω'=ω/\∃ v,ρ'=[xo (.obj k),xo (.lst (iv (kn.foldl (bu mn) x0))),v]):=by
    intro rs kn hR
    induction hR with
    |nil=>intro _ x0 v _;exact⟨_,_,rfl,rfl,_,rfl⟩
    |@cons r1 x1 rs kn h1 _ ih=>
     intro hl x0 v hx;obtain⟨ρ',ω',g1,g2,g3⟩:=ih (fun xs hxs=>hl xs (ai _ hxs)) (bu mn x0 x1) (xo (.obj r1)) (by rw[fu];omega);refine⟨ρ',ω',?_,g2,g3⟩;rw[<- g1];have step:fT [xo (.obj k),xo (.lst (iv x0)),xo (.obj r1)] ω=xo (.nx [xo (.obj k),xo (.lst (iv (bu mn x0 x1))),xo (.obj r1)],ω):=by
      obtain⟨chk,z1,z2⟩:=Eb (f:=zV 1) (h:=zV 2) (ρ:=[xo (.obj k),xo (.lst (iv x0)),xo (.obj r1)]) (ω:=ω) (a:=.lst (iv x0)) (b:=.obj r1) (xs:=x0) (ys:=x1) (aB rfl) (aB rfl) rfl (by unfold RowV eJ;simp only[h1]);unfold fT aU;rw[bP (fB (ω2:=ω) (out:=iv (bu mn x0 x1)) z1 (zZ hx) (by
       rw[<- uK (G:=D2 mn) (fun _ _=>rfl)];refine iE (fun ρ=>ρ.length=2) z2 rfl fun d hd ρ hρ=> ?_;obtain⟨x,y,rfl⟩:=zY hd
       match ρ,hρ with
       |[u,v],_=>exact⟨_,rfl,rfl,rfl⟩))]
      rfl
     exact bS rfl rfl step
   exact gen ht (fun xs hxs=>hl xs (ai _ hxs)) x0 xp (hl x0 ar)
  obtain⟨ρ',ω',g1,rfl,v,rfl⟩:=hloop;rw[aZ (dF (by
   unfold bB oIL;rw[bP (bF e1)];exact g1))]
  exact bE (aB rfl)
end
theorem uT (hl:ds.length=n) (e:G (cB N ds) ω=xo (.nx ρ1,ω1)):eB n N G ds ω=xo (.ok .non,ω1):=by
 unfold eB;rw[if_pos hl,e]
theorem pH:∀ kvs:List (List Key×D),sV kvs kvs=true
 |[]=>rfl
 |a::r=>by simp[sV,sW,pH r]
theorem Av (h:ω[n]?=xo (.dz kvs)):yL n kvs ω=true:=by
 unfold yL;rw[h];exact pH kvs
def Rk (c:Nat) (k:List Key):Prop:=∃ a b:Int,k=[.inl a,.inl b]/\0<=a/\a<c
noncomputable def fY (xs:List Int):List Key->Bool
 |[.inl a,.inl b]=>decide (b<=xs.getD a.toNat 0)
 |_=>false
theorem Ac (nd:(kvs.map (·.1)).Nodup) {kv:List Key×D} (h:kv∈kvs):iI kvs kv.1=xo kv.2:=by
 induction kvs with
 |nil=>simp at h
 |cons p r ih=>
  rw[bg,b8] at nd;unfold iI;rcases aj.mp h with rfl|h
  ·simp[gw]
  ·have hne:p.1≠kv.1:=fun z=>nd.1 (z ▸ az.mpr ⟨kv,h,rfl⟩);rw[List.find?_cons_of_neg (by simpa using hne)];exact ih nd.2 h
theorem uV {k:List Key} (h:k∉kvs.map (·.1)):putD kvs k v=kvs++[(k,v)]:=by
 unfold putD;rw[if_neg];simp only[oz,decide_eq_true_eq,not_exists,not_and];intro x hx z;exact h (az.mpr ⟨x,hx,z⟩)
section
variable {ω:Om}{h k t e:Nat}{i:Nat}{hd:Hd}{rs:List Nat}{ρ:Rho}{f:OG D}
noncomputable def Hd.forget (hd:Hd):Hd:={ hd with kept:=hd.kept.filter fun kv=> !fY (common hd.knows) kv.1 }
structure Hd.Ok (c:Nat) (hd:Hd):Prop where
 len:hd.knows.length=c
 row:∀ xs∈hd.knows,xs.length=c
 small:c<=8
 pos:0<c
 kk:∀ kv∈hd.kept,Rk c kv.1
 kn:(hd.kept.map (·.1)).Nodup
 kl:hd.kept.length<64
 tk:∀ kv∈hd.table,∃ a b:Int,0<=a/\a<c/\kv.1=[.inl a,.inl b]/\∃ x v,kv.2=.tup [.str x,.tup [.int a,.int b],.int v]
 tn:(hd.table.map (·.1)).Nodup
 tl:hd.table.length<64
theorem DK:∀ {kn:List (List Int)},kn≠[]->(∀ xs∈kn,xs.length=c)->(common kn).length=c
 |[],hne,_=>absurd rfl hne
 |r::rest,_,h=>by
  have gen:∀(rest:List (List Int)) (r:List Int),r.length=c->(∀ xs∈rest,xs.length=c)->(rest.foldl (bu mn) r).length=c:=by
   intro rest
   induction rest with
   |nil=>intro r hr _;exact hr
   |cons x rest ih=>
    intro r hr hx;refine ih _ ?_ fun xs hxs=>hx xs (ai _ hxs);rw[fu,hr,hx x ar,jp]
  exact gen rest r (h r ar) fun xs hxs=>h xs (ai _ hxs)
theorem yT (H:HandAt ω h i hd k t e rs) (W:hd.Ok c):∃ ω',fG [.obj h] ω=xo (.ok .non,ω')/\HandAt ω' h i hd.forget k t ω.length rs/\Keep [h] ω ω':=by
 have hne:hd.knows≠[]:=fun z=>by have:=W.len;rw[z] at this;have:=W.pos;simp at*;omega
 have hcl:=DK hne W.row;obtain⟨⟨h1,h2,h3,h4⟩,⟨h5,h6,h7⟩,⟨h8,h9⟩,h10,h11⟩:=H.ne;have ltn:∀ {n:Nat},n∈h::k::t::e::rs->n≠ω.length:=fun hn z=>absurd (H.lt _ hn) (by rw[z];exact dn _);have e1:bL nZ (aC (fZ 0 "knows" (zV 0)) aM) (cB iH [.obj h]) ω=xo (.ok (.lst (iv (common hd.knows))),ω):=aR (aA (H.knows (aB rfl)) aD) (Gn H.kn H.rows hne fun xs hx=>by rw[W.row xs hx,bt];have:=W.small;omega)
 -- the loop
 have loop:∀(post pre:List (List Key×D)) (v:Option D) (ω1:Om),hd.kept=pre++post->ω1[ω.length]?=xo (.dt (pre.filter fun kv=> !fY (common hd.knows) kv.1))->ω1[e]?=xo (.dz hd.kept)->(∀ n,n<ω.length->n≠e->ω1[n]?=ω[n]?)->ω1.length=ω.length+1->
   ∃ ρ' ω',bO (aS 3) (yL e hd.kept) aV (post.map fun kv=>bI kv.1) [xo (.obj h),xo (.lst (iv (common hd.knows))),xo (.obj ω.length),v] ω1=xo (.nx ρ',ω')/\(∃ v,ρ'=[xo (.obj h),xo (.lst (iv (common hd.knows))),xo (.obj ω.length),v])/\
    ω'[ω.length]?=xo (.dt (hd.kept.filter fun kv=> !fY (common hd.knows) kv.1))/\ω'[e]?=xo (.dz hd.kept)/\(∀ n,n<ω.length->n≠e->ω'[n]?=ω[n]?)/\ω'.length=ω.length+1:=by
  intro post
  induction post with
  |nil=>
   intro pre v ω1 hp g1 g2 g3 g4;rw[cu] at hp;refine⟨_,ω1,by show(if yL e hd.kept ω1=true then _ else xp)=_;rw[if_pos (Av g2)],⟨v,rfl⟩,by rw[hp];exact g1,g2,g3,g4⟩
  |cons kv post ih=>
   intro pre v ω1 hp g1 g2 g3 g4;have hm:kv∈hd.kept:=by rw[hp];simp
   obtain⟨a,b,hk,ha0,ha1⟩:=W.kk kv hm;have hdk:bI kv.1=.tup [.int a,.int b]:=by rw[hk];rfl
   have hseen:fJ [.lst (iv (common hd.knows)),.tup [.int a,.int b]] ω1=xo (.ok (.bl (fY (common hd.knows) kv.1)),ω1):=by
    rw[hk];exact qB (ω:=ω1) (d:=.lst (iv (common hd.knows))) (xs:=common hd.knows) (show eJ ω1 (.lst (iv (common hd.knows)))=_ from rfl) ha0 (by rw[hcl];exact ha1)
   have hobj:ω1[h]?=xo (.ins 0 [("number",.int i),("knows",.obj k),("table",.obj t),("kept",.obj e)]):=by rw[g3 h (H.lt h (by simp)) h3];exact H.obj
   have hp':hd.kept=(pre++[kv])++post:=by rw[fy];exact hp
   have first:∀ ω2,aV [xo (.obj h),xo (.lst (iv (common hd.knows))),xo (.obj ω.length),xo (.tup [.int a,.int b])] ω1=xo (.nx [xo (.obj h),xo (.lst (iv (common hd.knows))),xo (.obj ω.length),xo (.tup [.int a,.int b])],ω2)->
     bO (aS 3) (yL e hd.kept) aV ((kv::post).map fun kv=>bI kv.1) [xo (.obj h),xo (.lst (iv (common hd.knows))),xo (.obj ω.length),v] ω1=bO (aS 3) (yL e hd.kept) aV (post.map fun kv=>bI kv.1) [xo (.obj h),xo (.lst (iv (common hd.knows))),xo (.obj ω.length),xo (.tup [.int a,.int b])] ω2:=fun ω2 q=>by
    rw[bg,hdk]
    show(if yL e hd.kept ω1=true then(match aV [xo (.obj h),xo (.lst (iv (common hd.knows))),xo (.obj ω.length),xo (.tup [.int a,.int b])] ω1 with
     |none=>xp
     |some (.nx ρ2,ω2)=>bO (aS 3) (yL e hd.kept) aV (post.map fun kv=>bI kv.1) ρ2 ω2
     |some (.ct ρ2,ω2)=>bO (aS 3) (yL e hd.kept) aV (post.map fun kv=>bI kv.1) ρ2 ω2
     |some (.bk ρ2,ω2)=>xo (.nx ρ2,ω2)
     |some (.rt d,ω2)=>xo (.rt d,ω2)
     |some (.ex _,_)=>xp) else xp)=_
    rw[if_pos (Av g2),q]
   have tst:jY (jX (bL fJ (aC (zV 1) (aC (zV 3) aM)))) [xo (.obj h),xo (.lst (iv (common hd.knows))),xo (.obj ω.length),xo (.tup [.int a,.int b])] ω1=xo (.ok (!fY (common hd.knows) kv.1),ω1):=by
    unfold jY jX;rw[bF (bF (aR (aA (aB rfl) (aA (aB rfl) aD)) hseen))]
   cases hs:fY (common hd.knows) kv.1 with
   |true=>
    have b1:aV [xo (.obj h),xo (.lst (iv (common hd.knows))),xo (.obj ω.length),xo (.tup [.int a,.int b])] ω1=xo (.nx [xo (.obj h),xo (.lst (iv (common hd.knows))),xo (.obj ω.length),xo (.tup [.int a,.int b])],ω1):=by
     unfold aV;rw[hs] at tst;rw[kO tst];rfl
    rw[first ω1 b1];refine ih (pre++[kv]) _ ω1 hp' ?_ g2 g3 g4;rw[jt,c7 (by rw[hs];decide),k7,cu];exact g1
   |false=>
    have nin:kv.1∉(pre.filter fun kv=> !fY (common hd.knows) kv.1).map (·.1):=fun z=>by
     obtain⟨q,q1,q2⟩:=az.mp z;have nd:=W.kn;rw[hp,b9,jy] at nd;exact nd.2.2 _ (az.mpr ⟨q,(ca.mp q1).1,rfl⟩) _ (az.mpr ⟨kv,ar,rfl⟩) q2
    have fl:(pre.filter fun kv=> !fY (common hd.knows) kv.1).length<sizeLine:=by
     have h1:=d8 (fun kv:List Key×D=> !fY (common hd.knows) kv.1) pre;have h2:=W.kl;rw[hp,bx] at h2;rw[bt];omega
    have dg:iQ ω1 (.obj e) (.tup [.int a,.int b])=xo kv.2:=by
     have:iI hd.kept [.inl a,.inl b]=xo kv.2:=by rw[<- hk];exact Ac W.kn hm
     simp only[iQ,Ea,cellOf,g2]
     show(((xo [.inl a,.inl b]:Option (List Key)).map fun k=>iI hd.kept k)).join=_
     show(xo (iI hd.kept [.inl a,.inl b])).join=_
     rw[this];rfl
    have b1:aV [xo (.obj h),xo (.lst (iv (common hd.knows))),xo (.obj ω.length),xo (.tup [.int a,.int b])] ω1=xo (.nx [xo (.obj h),xo (.lst (iv (common hd.knows))),xo (.obj ω.length),xo (.tup [.int a,.int b])],ω1.set ω.length (.dt ((pre.filter fun kv=> !fY (common hd.knows) kv.1)++[kv]))):=by
     unfold aV;rw[hs] at tst;rw[mO tst];refine eI (v:=kv.2) (ω1:=ω1) (ω2:=ω1) (ω3:=ω1) (o:=.obj ω.length) (i:=.tup [.int a,.int b]) (dY (fV (aB rfl) hobj rfl) (aB rfl) ?_) (aB rfl) (aB rfl) ?_
     ·show pu (iQ ω1 (.obj e) (.tup [.int a,.int b])) ω1=_;rw[dg];rfl
     ·rw[qL (ks:=kv.1) g1 (by rw[hk];rfl) fl,uV nin]
    rw[first _ b1];refine ih (pre++[kv]) _ _ hp' ?_ ?_ (fun n hn hne=> ?_) (by simp[g4])
    ·rw[bU g1,jt,c9 (by rw[hs];decide),k7]
    ·rw[aJ (ltn (by simp))];exact g2
    ·rw[aJ (by omega)];exact g3 n hn hne
 have ge:(ω++[Ob.dt []])[e]?=xo (.dt hd.kept):=by rw[am (H.lt e (by simp))];exact H.kp
 obtain⟨ρ',ω2,l1,⟨v,rfl⟩,l3,l4,l5,l6⟩:=loop hd.kept [] xp ((ω++[Ob.dt []]).set e (.dz hd.kept)) rfl (by rw[aJ (bz (ltn (by simp)))];simp) (bU ge) (fun n hn hne=>by rw[aJ hne,am hn]) (by simp);have l3':(ω2.set e (.dt hd.kept))[ω.length]?=xo (.dt (hd.kept.filter fun kv=> !fY (common hd.knows) kv.1)):=by rw[aJ (bz (ltn (by simp)))];exact l3
 have ho:(ω2.set e (.dt hd.kept))[h]?=xo (.ins 0 [("number",.int i),("knows",.obj k),("table",.obj t),("kept",.obj e)]):=by rw[aJ h3,l5 h (H.lt h (by simp)) h3];exact H.obj
 refine⟨(ω2.set e (.dt hd.kept)).set h (.ins 0 [("number",.int i),("knows",.obj k),("table",.obj t),("kept",.obj ω.length)]),?_,⟨bU ho,?_,?_,?_,?_,?_⟩,⟨by simp[l6],fun n hn hm=> ?_⟩⟩
 ·have body:gZ (cB iH [.obj h]) ω=xo (.nx [xo (.obj h),xo (.lst (iv (common hd.knows))),xo (.obj ω.length),v],(ω2.set e (.dt hd.kept)).set h (.ins 0 [("number",.int i),("knows",.obj k),("table",.obj t),("kept",.obj ω.length)])):=by
   unfold gZ;rw[aI e1];rw[aI (d:=.obj ω.length) (ω1:=ω++[.dt []]) rfl];have ho1:(ω++[Ob.dt []])[h]?=xo (.ins 0 [("number",.int i),("knows",.obj k),("table",.obj t),("kept",.obj e)]):=by rw[am (H.lt h (by simp))];exact H.obj
   rw[aZ (dF (by
    unfold Ka;rw[bP (fV (aB (d:=.obj h) rfl) ho1 rfl)]
    have:Dy (ω++[Ob.dt []]) (.obj e)=xo (e,hd.kept):=by simp only[Dy,ge]
    show(Dy (ω++[Ob.dt []]) (.obj e)).bind _=_
    rw[this]
    show(match bO (aS 3) (yL e hd.kept) aV (hd.kept.map fun kv=>bI kv.1) [xo (.obj h),xo (.lst (iv (common hd.knows))),xo (.obj ω.length),xp] ((ω++[Ob.dt []]).set e (.dz hd.kept)) with
     |some (.nx ρ',ω')=>if yL e hd.kept ω'=true then xo (OOut.nx ρ',ω'.set e (.dt hd.kept)) else xp
     |_=>xp)=_
    rw[l1]
    show(if yL e hd.kept ω2=true then _ else xp)=_
    rw[if_pos (Av l4)]))]
   unfold nI;rw[bP (aB (d:=.obj ω.length) rfl),bP (aB (d:=.obj h) rfl)]
   have:vP 0 "kept" (ω2.set e (.dt hd.kept)) (.obj h) (.obj ω.length)=xo ((ω2.set e (.dt hd.kept)).set h (.ins 0 [("number",.int i),("knows",.obj k),("table",.obj t),("kept",.obj ω.length)])):=by
    simp only[vP,ho];rfl
   show(vP 0 "kept" (ω2.set e (.dt hd.kept)) (.obj h) (.obj ω.length)).map _=_
   rw[this];rfl
  exact uT rfl body
 ·rw[aJ (bz h1),aJ h6,l5 k (H.lt k (by simp)) h6];exact H.kn
 ·refine H.rows.mono fun r hr=> ?_;rw[aJ (show r≠h from fun z=>h4 (z ▸ hr)),aJ (show r≠e from fun z=>h10 (z ▸ hr)),l5 r (H.lt r (by simp[hr])) (fun z=>h10 (z ▸ hr))]
 ·rw[aJ (bz h2),aJ h8,l5 t (H.lt t (by simp)) h8];exact H.tb
 ·rw[aJ (bz (ltn (by simp)))];exact l3'
 ·have nn:∀ n∈h::k::t::rs,n≠ω.length:=fun n hn=>ltn (by
   simp only[aj] at hn ⊢;rcases hn with z|z|z|z
   ·exact .inl z
   ·exact .inr (.inl z)
   ·exact .inr (.inr (.inl z))
   ·exact .inr (.inr (.inr (.inr z))))
  simp only[b8,aj,not_or];exact⟨⟨h1,h2,nn h (by simp),h4⟩,⟨h5,nn k (by simp),h7⟩,⟨nn t (by simp),h9⟩,fun z=>nn _ (by simp[z]) rfl,h11⟩
 ·rw[aJ (fun z=>hm (by rw[z];simp))]
  by_cases he:n=e
  ·subst he;rw[bU l4];exact H.kp.symm
  ·rw[aJ he];exact l5 n hn he
end
theorem gA {ω:Om}{n:Nat}{ob:Ob} (h:ω[n]?=xo ob):ω.set n ob=ω:=by
 apply iq;intro m
 by_cases hm:m=n
 ·subst hm;rw[bU h,h]
 ·rw[aJ hm]
theorem MN (k:Key):toK (ofK k)=xo k:=by cases k <;> rfl
theorem Eh:∀ ks:List Key,MM (ks.map ofK)=xo ks
 |[]=>rfl
 |k::r=>by
  show(toK (ofK k)).bind _=_
  rw[MN]
  show(MM (r.map ofK)).map _=_
  rw[Eh r];rfl
theorem BB (k:List Key):DY (bI k)=xo k:=Eh k
theorem JM (ha:fD a) (hb:fD b):∃ c,dZ 4 a b=xo c:=by
 obtain⟨x,p,q,v,rfl⟩:=ha;obtain⟨x',p',q',v',rfl⟩:=hb;show ∃ c,(match eqD 4 (.str x) (.str x') with
  |some true=>(match eqD 4 (.tup [.int p,.int q]) (.tup [.int p',.int q']) with
   |some true=>(match eqD 4 (.int v) (.int v') with
    |some true=>xo _
    |some false=>fS (.int v) (.int v')
    |none=>xp)
   |some false=>fS (.tup [.int p,.int q]) (.tup [.int p',.int q'])
   |none=>xp)
  |some false=>fS (.str x) (.str x')
  |none=>xp)=xo c
 rw[iA];cases decide (x=x') with
 |false=>exact⟨_,rfl⟩
 |true=>
  have e2:∃ c,eqD 4 (.tup [.int p,.int q]) (.tup [.int p',.int q'])=xo c:=⟨_,rfl⟩;obtain⟨c,e2⟩:=e2;rw[e2];cases c with
  |false=>exact⟨_,rfl⟩
  |true=>
   show ∃ c,(match eqD 4 (.int v) (.int v') with
    |some true=>xo _
    |some false=>fS (.int v) (.int v')
    |none=>xp)=xo c
   have e3:eqD 4 (.int v) (.int v')=xo (decide (v=v')):=rfl;rw[e3];cases decide (v=v') with
   |false=>exact⟨_,rfl⟩
   |true=>exact⟨_,rfl⟩
theorem Cq (h:fD d):kQ d=xo false:=by
 obtain⟨x,a,b,v,rfl⟩:=h;rfl
section
variable {ω:Om}{h k t e:Nat}{i:Nat}{hd:Hd}{rs:List Nat}{ρ:Rho}{f:OG D}
theorem Hd.Ok.ent (W:hd.Ok c):∀ d∈hd.table.map (·.2),fD d:=fun d hd'=>by
 obtain⟨kv,h1,rfl⟩:=az.mp hd';obtain⟨a,b,_,_,_,x,v,e⟩:=W.tk kv h1;exact⟨x,a,b,v,e⟩
theorem Hd.Ok.sorts (W:hd.Ok c):∃ out,hd.entries=xo out/\out.Perm (hd.table.map (·.2)):=by
 refine uP (by rw[ak];exact W.tl) ?_ fun a ha b hb=>JM (W.ent a ha) (W.ent b hb);unfold iW;rw[ie];right;rw[fh];intro d hd';rw[Cq (W.ent d hd')];rfl
noncomputable def Hd.takeOut0 (hd:Hd) (mk:List Key) (ks:List (List Key)):Hd:={ hd with table:=ks.foldl eA hd.table,kept:=if ks=[] then hd.kept else putD hd.kept mk (.tup (ks.map bI)) }
noncomputable def Hd.takeOut (hd:Hd) (mk:List Key) (ks:List (List Key)):Hd:=(hd.takeOut0 mk ks).forget
theorem BW {g:Om->D->List D->Option (D×Om)}{fo:OG D}{fl:OG (List D)}{ρ:Rho}{ω ω1 ω2 ω3:Om}{n:Nat}{kvs:List (List Key×D)}{ds:List D}{r:D} (e1:fo ρ ω=xo (.ok (.obj n),ω1)) (e2:ω1[n]?=xo (.dt kvs)) (e3:fl ρ ω1=xo (.ok ds,ω2)) (e4:g ω2 (.obj n) ds=xo (r,ω3)):pO g fo fl ρ ω=xo (.ok r,ω3):=by
 unfold pO;rw[bF e1]
 have:Dm ω1 (.obj n)=true:=by simp only[Dm,cellOf,e2]
 show(if Dm ω1 (.obj n)=true then _ else xp)=_
 rw[if_pos this,bF e3];show oR (g ω2 (.obj n) ds)=_;rw[e4];rfl
theorem DC {kvs:List (List Key×D)}{q k:List Key} (h:q∈kvs.map (·.1)) (hn:q≠k):q∈(eA kvs k).map (·.1):=by
 obtain⟨p,h1,rfl⟩:=az.mp h;exact az.mpr ⟨p,ca.mpr ⟨h1,by simpa using hn⟩,rfl⟩
theorem Ec {kvs:List (List Key×D)}{k:List Key} (h:k∈kvs.map (·.1)):∃ v,iI kvs k=xo v:=by
 obtain⟨p,h1,h2⟩:=az.mp h;unfold iI;cases q:kvs.find? fun kv=>decide (kv.1=k) with
 |some u=>exact⟨u.2,rfl⟩
 |none=>
  rw[vk] at q;exact absurd (by simpa using h2) (q p h1)
theorem EE:∀ {ks:List (List Key)}{T:List (List Key×D)}{v:Option D}{ω:Om},ω[h]?=xo (.ins 0 [("number",.int i),("knows",.obj k),("table",.obj t),("kept",.obj e)])->ω[t]?=xo (.dt T)->h≠t->ks.Nodup->(∀ q∈ks,q∈T.map (·.1))->
  ∃ ρ',bO (aS 3) bK cG (ks.map bI) [xo (.obj h),xo mk,xo ms,v] ω=xo (.nx ρ',ω.set t (.dt (ks.foldl eA T)))/\∃ v,ρ'=[xo (.obj h),xo mk,xo ms,v]
 |[],T,v,ω,_,ht,_,_,_=>⟨_,by
   show xo (OOut.nx _,ω)=_
   congr 2
   exact(gA ht).symm,v,rfl⟩
 |q::ks,T,v,ω,ho,ht,hne,hk,hin=>by
  rw[b8] at hk;obtain⟨u,hu⟩:=Ec (hin q ar);have b1:cG [xo (.obj h),xo mk,xo ms,xo (bI q)] ω=xo (.nx [xo (.obj h),xo mk,xo ms,xo (bI q)],ω.set t (.dt (eA T q))):=by
   unfold cG bQ;rw[bP (BW (r:=u) (ω3:=ω.set t (.dt (eA T q))) (fV (aB rfl) ho rfl) ht (aA (aB rfl) aD) (by
    simp only[FT,ht]
    show(DY (bI q)).bind _=_
    rw[BB]
    show(iI T q).map _=_
    rw[hu];rfl))]
  obtain⟨ρ',g1,v',g2⟩:=EE (mk:=mk) (ms:=ms) (ks:=ks) (T:=eA T q) (v:=xo (bI q)) (ω:=ω.set t (.dt (eA T q))) (by rw[aJ hne];exact ho) (bU ht) hne hk.2 fun q' hq'=>DC (hin q' (ai _ hq')) fun z=>hk.1 (z ▸ hq');refine⟨ρ',?_,v',g2⟩;rw[m7] at g1;rw[bg];refine(bS rfl rfl (b1)).trans ?_;exact g1
theorem Ag (H:HandAt ω h i hd k t e rs) (hk:ks.Nodup) (hin:∀ q∈ks,q∈hd.table.map (·.1)) (hl:hd.kept.length<sizeLine) (W:(hd.takeOut0 mk ks).Ok c):
  ∃ ω' e',cZ [.obj h,bI mk,.lst (ks.map bI)] ω=xo (.ok .non,ω')/\HandAt ω' h i (hd.takeOut mk ks) k t e' rs/\Keep [h,t,e] ω ω'/\ω.length<=e':=by
 obtain⟨⟨h1,h2,h3,h4⟩,⟨h5,h6,h7⟩,⟨h8,h9⟩,h10,h11⟩:=H.ne;obtain⟨ρ1,g1,v,rfl⟩:=EE (h:=h) (i:=i) (k:=k) (t:=t) (e:=e) (mk:=bI mk) (ms:=.lst (ks.map bI)) (ks:=ks) (T:=hd.table) (v:=xp) (ω:=ω) H.obj H.tb h2 hk hin;have H1:HandAt (ω.set t (.dt (ks.foldl eA hd.table))) h i { hd with table:=ks.foldl eA hd.table } k t e rs:=H.setT _;have l1:sNx (bB (oIL (zV 2)) (aS 3) cG) (cB jL [.obj h,bI mk,.lst (ks.map bI)]) ω=xo (.nx [xo (.obj h),xo (bI mk),xo (.lst (ks.map bI)),v],ω.set t (.dt (ks.foldl eA hd.table))):=dF (by
  unfold bB oIL;rw[bP (bF (aB (d:=.lst (ks.map bI)) rfl))];exact g1)
 have mid:∃ ω2,dQ (jX (zV 2)) (iN nL (fZ 0 "kept" (zV 0)) (zV 1) (oL FN (aC (zV 2) aM))) bN [xo (.obj h),xo (bI mk),xo (.lst (ks.map bI)),v] (ω.set t (.dt (ks.foldl eA hd.table)))=xo (.nx [xo (.obj h),xo (bI mk),xo (.lst (ks.map bI)),v],ω2)/\HandAt ω2 h i (hd.takeOut0 mk ks) k t e rs/\Keep [t,e] ω ω2/\ω2.length=ω.length:=by
  cases hks:ks with
  |nil=>
   refine⟨ω.set t (.dt (([]:List (List Key)).foldl eA hd.table)),?_,?_,Keep.set (by simp),by simp⟩
   ·rw[kO (ω1:=ω.set t (.dt (([]:List (List Key)).foldl eA hd.table))) (by
     unfold jX;rw[bF (aB (d:=.lst []) rfl)];rfl)]
    rfl
   ·subst hks;exact H1
  |cons q r=>
   have hks':ks≠[]:=by rw[hks];simp
   rw[<- hks];refine⟨(ω.set t (.dt (ks.foldl eA hd.table))).set e (.dt (putD hd.kept mk (.tup (ks.map bI)))),?_,?_,(Keep.set (by simp)).trans (Keep.set (by simp)),by simp⟩
   ·rw[mO (ω1:=ω.set t (.dt (ks.foldl eA hd.table))) (by
     unfold jX;rw[bF (aB (d:=.lst (ks.map bI)) rfl)];rw[hks];rfl)]
    exact eI (cI (aA (aB (d:=.lst (ks.map bI)) rfl) aD) rfl) (H1.kept (aB rfl)) (aB (d:=bI mk) rfl) (qL (ks:=mk) H1.kp (BB mk) hl)
   ·have:=H1.setE (putD hd.kept mk (.tup (ks.map bI)))
    have e0:hd.takeOut0 mk ks={ hd with table:=ks.foldl eA hd.table,kept:=putD hd.kept mk (.tup (ks.map bI)) }:=by
     unfold Hd.takeOut0;rw[if_neg hks']
    rw[e0];exact this
 obtain⟨ω2,m1,H2,K2,L2⟩:=mid;obtain⟨ω3,f1,H3,K3⟩:=yT H2 W;refine⟨ω3,ω2.length,?_,H3,⟨by rw[<- L2];exact K3.1,fun n hn hm=> ?_⟩,by rw[L2];exact bf _⟩
 ·refine uT (ρ1:=[xo (.obj h),xo (bI mk),xo (.lst (ks.map bI)),v]) rfl ?_;unfold jB;rw[aZ l1,aZ m1];unfold bQ;rw[bP (cF (aB rfl) H2.obj rfl f1)]
 ·simp only[aj,cm,or_false,not_or] at hm;rw[K3.2 n (by rw[L2];exact hn) (by simpa using hm.1)];exact K2.2 n hn (by simp[hm.2.1,hm.2.2])
end
noncomputable def aX:D->List Key
 |.tup [_,.tup [.int a,.int b],_]=>[.inl a,.inl b]
 |_=>[]
noncomputable def LG (y:Str):D->Bool
 |.tup [.str x,_,_]=>decide (x=y)
 |_=>false
noncomputable def Hd.ents (hd:Hd):List D:=hd.entries.getD []
noncomputable def Hd.marksK (hd:Hd) (y:Str):List (List Key):=(hd.ents.filter (LG y)).map aX
theorem tJ:∀ {out:List D},(∀ d∈out,fD d)->marksIn (.str y) out=((out.filter (LG y)).map aX).map bI
 |[],_=>rfl
 |d::r,h=>by
  have ih:=tJ (y:=y) (out:=r) fun d hd=>h d (ai _ hd);obtain⟨x,a,b,v,rfl⟩:=h d ar;unfold marksIn at ih ⊢;have e0:(eqD 8 (.str x) (.str y)==xo true)=decide (x=y):=by rw[iA];cases decide (x=y) <;> rfl
  by_cases hx:x=y
  ·rw[c9 (by show(eqD 8 (.str x) (.str y)==xo true)=true;rw[e0];exact decide_eq_true hx),c9 (by show decide (x=y)=true;exact decide_eq_true hx)];rw[bg,bg,bg,ih];rfl
  ·rw[c7 (by show ¬(eqD 8 (.str x) (.str y)==xo true)=true;rw[e0];simpa using hx),c7 (by show ¬ decide (x=y)=true;simpa using hx)];exact ih
section
variable {ω ω1 ω2:Om}{h k t e:Nat}{i c:Nat}{hd hd1 hd2:Hd}{rs fp:List Nat}
theorem Hd.Ok.ents (W:hd.Ok c):hd.entries=xo hd.ents/\hd.ents.Perm (hd.table.map (·.2)):=by
 obtain⟨out,e1,e2⟩:=W.sorts
 have:hd.ents=out:=by unfold Hd.ents;rw[e1];rfl
 rw[this];exact⟨e1,e2⟩
theorem Hd.Ok.entsEnt (W:hd.Ok c):∀ d∈hd.ents,fD d:=fun d hd'=>W.ent d (W.ents.2.mem_iff.mp hd')
theorem Hd.Ok.keys (W:hd.Ok c):(hd.table.map (·.2)).map aX=hd.table.map (·.1):=by
 rw[fj];apply eu;intro kv hkv;obtain⟨a,b,_,_,e1,x,v,e2⟩:=W.tk kv hkv;show aX kv.2=kv.1;rw[e2,e1];rfl
theorem Hd.Ok.entsKeys (W:hd.Ok c):(hd.ents.map aX).Perm (hd.table.map (·.1)):=by
 rw[<- W.keys];exact W.ents.2.map aX
theorem Hd.Ok.entsNodup (W:hd.Ok c):(hd.ents.map aX).Nodup:=W.entsKeys.nodup_iff.mpr W.tn
theorem Hd.Ok.entsLen (W:hd.Ok c):hd.ents.length<64:=by rw[W.ents.2.length_eq,ak];exact W.tl
theorem Hd.Ok.marksNodup (W:hd.Ok c) (y:Str):(hd.marksK y).Nodup:=W.entsNodup.sublist (ko.map aX)
theorem Hd.Ok.marksIn (W:hd.Ok c) (y:Str):∀ q∈hd.marksK y,q∈hd.table.map (·.1):=fun q hq=>W.entsKeys.mem_iff.mp ((ko.map aX).subset hq)
theorem Hd.Ok.seenMem (W:hd.Ok c) (hi:i<c):hd.seen i∈hd.knows:=by
 unfold Hd.seen
 have:i<hd.knows.length:=by rw[W.len];exact hi
 rw[ax,bj this];exact jj this
theorem Hd.Ok.seenLen (W:hd.Ok c) (hi:i<c):(hd.seen i).length=c:=W.row _ (W.seenMem hi)
theorem eE (h:n<64):n<sizeLine:=by rw[bt];omega
def HandS (ω:Om) (h i:Nat) (hd:Hd) (fp:List Nat):Prop:=∃ k t e rs,HandAt ω h i hd k t e rs/\fp=h::k::t::e::rs
def Did (ω:Om) (h i:Nat) (fp:List Nat) (ω':Om) (hd':Hd):Prop:=∃ fp',HandS ω' h i hd' fp'/\Keep fp ω ω'/\∀ n∈fp',n∈fp∨ω.length<=n
theorem HandS.obj (H:HandS ω h i hd fp):∃ k t e,ω[h]?=xo (.ins 0 [("number",.int i),("knows",.obj k),("table",.obj t),("kept",.obj e)]):=by
 obtain⟨k,t,e,rs,H,_⟩:=H;exact⟨k,t,e,H.obj⟩
theorem HandS.lt (H:HandS ω h i hd fp):∀ n∈fp,n<ω.length:=by
 obtain⟨k,t,e,rs,H,rfl⟩:=H;exact H.lt
theorem HandS.mono (H:HandS ω h i hd fp) (g:∀ n∈fp,ω'[n]?=ω[n]?):HandS ω' h i hd fp:=by
 obtain⟨k,t,e,rs,H,rfl⟩:=H;exact⟨k,t,e,rs,H.mono g,rfl⟩
theorem Did.refl (H:HandS ω h i hd fp):Did ω h i fp ω hd:=⟨fp,H,Keep.refl _ _,fun n hn=>.inl hn⟩
theorem Did.trans (a:Did ω h i fp ω1 hd1) (b:∀ fp1,HandS ω1 h i hd1 fp1->Did ω1 h i fp1 ω2 hd2):Did ω h i fp ω2 hd2:=by
 obtain⟨fp1,H1,K1,F1⟩:=a;obtain⟨fp2,H2,K2,F2⟩:=b fp1 H1;refine⟨fp2,H2,⟨cf K1.1 K2.1,fun n hn hf=> ?_⟩,fun n hn=> ?_⟩
 ·rw[K2.2 n (b7 hn K1.1) fun z=>(F1 n z).elim hf fun q=>absurd hn (ul.mpr q)];exact K1.2 n hn hf
 ·rcases F2 n hn with z|z
  ·exact F1 n z
  ·exact .inr (cf K1.1 z)
theorem Keep.sub (a:Keep fp ω ω') (h:∀ n∈fp,n∈fq):Keep fq ω ω':=⟨a.1,fun n hn hf=>a.2 n hn fun z=>hf (h n z)⟩
theorem RB (H:HandS ω h i hd fp) (W:hd.Ok c) (hi:i<c) (x:Str) (v:Int):∃ ω',eM [.obj h,.str x,.int v] ω=xo (.ok (mkD i (hd.next i)),ω')/\Did ω h i fp ω' (hd.put i x v):=by
 obtain⟨k,t,e,rs,H,rfl⟩:=H;obtain⟨ω',e1,H',K,L⟩:=Ng H (by rw[W.len];exact hi) (by rw[W.seenLen hi];exact hi) (eE W.tl) x v;exact⟨ω',e1,_,⟨k,t,e,rs,H',rfl⟩,K.sub (fun n hn=>by simp only[aj] at hn ⊢;rcases hn with z|z <;> simp[z]),fun n hn=>.inl hn⟩
theorem Fb (H:HandS ω h i hd fp) (W:hd.Ok c) (hi:i<c):∃ ω',dA [.obj h] ω=xo (.ok (mkD i (hd.next i)),ω')/\Did ω h i fp ω' (hd.bump i):=by
 obtain⟨k,t,e,rs,H,rfl⟩:=H;obtain⟨ω',e1,H',K,L⟩:=pR H (by rw[W.len];exact hi) (by rw[W.seenLen hi];exact hi);exact⟨ω',e1,_,⟨k,t,e,rs,H',rfl⟩,K.sub (fun n hn=>by simp[hn]),fun n hn=>.inl hn⟩
theorem JG (H:HandS ω h i hd fp) (W:hd.Ok c) (y:Str):dB [.obj h,.str y] ω=xo (.ok (.lst ((hd.marksK y).map bI)),ω):=by
 obtain⟨k,t,e,rs,H,rfl⟩:=H;rw[Ia H W.ents.1 W.entsEnt (g9 (eE W.entsLen)) y,tJ W.entsEnt];rfl
theorem nX {mk:List Key}{ks:List (List Key)} (H:HandS ω h i hd fp) (hk:ks.Nodup) (hin:∀ q∈ks,q∈hd.table.map (·.1)) (hl:hd.kept.length<64) (W:(hd.takeOut0 mk ks).Ok c):∃ ω',cZ [.obj h,bI mk,.lst (ks.map bI)] ω=xo (.ok .non,ω')/\Did ω h i fp ω' (hd.takeOut mk ks):=by
 obtain⟨k,t,e,rs,H,rfl⟩:=H;obtain⟨ω',e',e1,H',K,L⟩:=Ag H hk hin (eE hl) W;refine⟨ω',e1,_,⟨k,t,e',rs,H',rfl⟩,K.sub (fun n hn=>by simp only[aj,cm,or_false] at hn ⊢;rcases hn with z|z|z <;> simp[z]),fun n hn=> ?_⟩;simp only[aj] at hn ⊢;rcases hn with z|z|z|z|z
 ·exact .inl (.inl z)
 ·exact .inl (.inr (.inl z))
 ·exact .inl (.inr (.inr (.inl z)))
 ·exact .inr (z ▸ L)
 ·exact .inl (.inr (.inr (.inr (.inr z))))
theorem xU {kvs:List (List Key×D)}{q k:List Key}{v:D} (h:q∈kvs.map (·.1)):q∈(putD kvs k v).map (·.1):=by
 unfold putD;split
 ·obtain⟨p,h1,h2⟩:=az.mp h;refine az.mpr ⟨if p.1=k then(p.1,v) else p,az.mpr ⟨p,h1,rfl⟩,?_⟩;split <;> exact h2
 ·rw[b9];exact dr _ h
noncomputable def Hd.change (hd:Hd) (i:Nat) (x:Str) (v:Int):Hd:=(hd.put i x v).takeOut (gG i (hd.next i)) (hd.marksK x)
theorem Mr (H:HandS ω h i hd fp) (W:hd.Ok c) (hi:i<c) (x:Str) (v:Int) (W2:((hd.put i x v).takeOut0 (gG i (hd.next i)) (hd.marksK x)).Ok c):∃ ω',dW [.obj h,.str x,.int v] ω=xo (.ok (mkD i (hd.next i)),ω')/\Did ω h i fp ω' (hd.change i x v):=by
 obtain⟨ω1,e1,D1⟩:=RB H W hi x v;obtain⟨fp1,H1,K1,F1⟩:=id D1;obtain⟨ω2,e2,D2⟩:=nX (mk:=gG i (hd.next i)) (ks:=hd.marksK x) H1 (W.marksNodup x) (fun q hq=>xU (W.marksIn x q hq)) W.kl W2;refine⟨ω2,?_,D1.trans fun fq Hq=> ?_⟩
 ·obtain⟨k0,t0,e0,ho⟩:=H.obj;obtain⟨k1,t1,e1',ho1⟩:=H1.obj;refine aT rfl ?_;unfold lV;rw[aI (bX (aB rfl) ho rfl (aA (aB rfl) aD) (JG H W x))];rw[aI (bX (aB (d:=.obj h) rfl) ho rfl (aA (aB (d:=.str x) rfl) (aA (aB (d:=.int v) rfl) aD)) e1)];rw[aZ (ρ1:=[xo (.obj h),xo (.str x),xo (.int v),xo (.lst ((hd.marksK x).map bI)),xo (mkD i (hd.next i))]) (ω1:=ω2) (by
   unfold bQ;rw[bP (bX (aB (d:=.obj h) rfl) ho1 rfl (aA (aB (d:=bI (gG i (hd.next i))) rfl) (aA (aB (d:=.lst ((hd.marksK x).map bI)) rfl) aD)) e2)];rfl)]
  exact bE (aB rfl)
 ·obtain⟨ωq,eq,Dq⟩:=nX (mk:=gG i (hd.next i)) (ks:=hd.marksK x) Hq (W.marksNodup x) (fun q hq=>xU (W.marksIn x q hq)) W.kl W2;rw[e2] at eq;cases eq;exact Dq
noncomputable def Hd.take (hd:Hd) (i:Nat) (x:Str):Hd:=if hd.marksK x=[] then hd else(hd.bump i).takeOut (gG i (hd.next i)) (hd.marksK x)
noncomputable def Hd.takeA (hd:Hd) (x:Str):D:=if hd.marksK x=[] then .non else .lst ((hd.marksK x).map bI)
theorem PV (H:HandS ω h i hd fp) (W:hd.Ok c) (hi:i<c) (x:Str) (W2:((hd.bump i).takeOut0 (gG i (hd.next i)) (hd.marksK x)).Ok c):∃ ω',fN [.obj h,.str x] ω=xo (.ok (hd.takeA x),ω')/\Did ω h i fp ω' (hd.take i x):=by
 obtain⟨k0,t0,e0,ho⟩:=H.obj;unfold Hd.take Hd.takeA;have m1:=JG H W x;cases hm:hd.marksK x with
 |nil=>
  rw[if_pos rfl,if_pos rfl];refine⟨ω,?_,Did.refl H⟩;refine aT rfl ?_;unfold kT;rw[hm] at m1;rw[aI (bX (aB rfl) ho rfl (aA (aB rfl) aD) m1)];rfl
 |cons q r=>
  rw[if_neg (by simp),if_neg (by simp)];rw[hm] at m1 W2;obtain⟨ω1,e1,D1⟩:=Fb H W hi;obtain⟨fp1,H1,K1,F1⟩:=id D1;have nd:=W.marksNodup x;have mi:=W.marksIn x;rw[hm] at nd mi;obtain⟨ω2,e2,D2⟩:=nX (mk:=gG i (hd.next i)) (ks:=q::r) H1 nd mi W.kl W2;refine⟨ω2,?_,D1.trans fun fq Hq=> ?_⟩
  ·obtain⟨k1,t1,e1',ho1⟩:=H1.obj;refine aT rfl ?_;unfold kT;rw[aI (bX (aB rfl) ho rfl (aA (aB rfl) aD) m1)];rw[aZ (ρ1:=[xo (.obj h),xo (.str x),xo (.lst ((q::r).map bI))]) (ω1:=ω) rfl];rw[aZ (ρ1:=[xo (.obj h),xo (.str x),xo (.lst ((q::r).map bI))]) (ω1:=ω2) (by
    unfold bQ;rw[bP (bX (aB (d:=.obj h) rfl) ho rfl (aA (a:=bI (gG i (hd.next i))) (cF (aB rfl) ho rfl e1) (aA (aB (d:=.lst ((q::r).map bI)) rfl) aD)) e2)])]
   exact bE (aB rfl)
  ·obtain⟨ωq,eq,Dq⟩:=nX (mk:=gG i (hd.next i)) (ks:=q::r) Hq nd mi W.kl W2;rw[e2] at eq;cases eq;exact Dq
end
theorem cE (er:ω[r]?=xo (.ml (iv xs))):RowV ω (.obj r) xs:=by unfold RowV eJ;simp only[er]
theorem dH {ω:Om} (h:ω[n]?=xo o):n<ω.length:=(bq.mp h).1
theorem RowsAt.app (h:RowsAt ω rs kn) (obs:List Ob):RowsAt (ω++obs) rs kn:=by
 induction h with
 |nil=>exact .nil
 |cons hr _ ih=>exact .cons ((am (dH hr)).trans hr) ih
theorem RowsAt.setAt (h:RowsAt ω rs kn) (hr:ω[r]?=xo (.ml (iv xs))):RowsAt ω (rs.set j r) (kn.set j xs):=by
 induction h generalizing j with
 |nil=>exact .nil
 |cons h0 t ih=>
  cases j with
  |zero=>exact .cons hr t
  |succ j=>exact .cons h0 ih
theorem EZ {l:List Nat} (h:l.Nodup) (ha:a∉l) (j:Nat):(l.set j a).Nodup:=by
 induction l generalizing j with
 |nil=>exact h
 |cons x r ih=>
  rw[b8] at h;simp only[aj,not_or] at ha;cases j with
  |zero=>rw[vm,b8];exact⟨ha.2,h.2⟩
  |succ j=>
   rw[vn,b8];refine⟨fun z=> ?_,ih h.2 ha.2 j⟩;rcases i6 z with z|z
   ·exact h.1 z
   ·exact ha.1 z.symm
noncomputable def Hd.leaves (tl:Hd) (j:Nat) (d:D):Bool:=(iI tl.table (aX d)).isSome|| !fY (tl.seen j) (aX d)
def RJ (c:Nat) (d:D):Prop:=∃(x:Str) (a b:Int) (v:Int),d=.tup [.str x,.tup [.int a,.int b],.int v]/\0<=a/\a<c
section
variable {ω:Om}{h k t e h2 k2 t2 e2:Nat}{i j c:Nat}{hd tl:Hd}{rs rs2 fp:List Nat}
theorem tL (G:HandAt ω h2 j tl k2 t2 e2 rs2) (V:tl.Ok c) (hj:j<c) (ho:∀ d∈out,RJ c d) (hl:out.length<=sizeLine):lK [.lst out,.obj h2] ω=xo (.ok (.lst (out.filter (tl.leaves j))),ω):=by
 obtain⟨r,hr,er⟩:=G.seenRow (by rw[V.len];exact hj);refine aT rfl (bE (fB (ds:=out) (chk:=bK) (ω1:=ω) ?_ hl ?_))
 ·unfold oIL;rw[bF (aB (d:=.lst out) rfl)];rfl
 ·have e0:out.filter (tl.leaves j)=(out.filter (tl.leaves j)).map fun d=>d:=by simp
  rw[e0];refine eO (fun ρ=>∃ u,ρ=[u,xo (.obj h2)]) rfl ⟨_,rfl⟩ fun d hd ρ hρ=> ?_;obtain⟨x,a,b,v,rfl,ha0,ha1⟩:=ho d hd;obtain⟨u,rfl⟩:=hρ;refine⟨_,rfl,⟨_,rfl⟩,?_,fun _=>aB rfl⟩;have d1:cA (o2 (fun ω a b=>pu (MG ω a b) ω) (zX (zV 0) (zI 1)) (fZ 0 "table" (zV 1))) [xo (.tup [.str x,.tup [.int a,.int b],.int v]),xo (.obj h2)] ω=xo (.ok (iI tl.table [.inl a,.inl b]).isSome,ω):=
   cC (dY (aK (aB (d:=.tup [.str x,.tup [.int a,.int b],.int v]) rfl) aQ rfl) (G.table (aB rfl)) (by
    show pu (MG ω (.tup [.int a,.int b]) (.obj t2)) ω=_
    have:MG ω (.tup [.int a,.int b]) (.obj t2)=xo (.bl (iI tl.table [.inl a,.inl b]).isSome):=by
     simp only[MG,Ea,cellOf,G.tb];rfl
    rw[this];rfl))
  have lv:tl.leaves j (.tup [.str x,.tup [.int a,.int b],.int v])=((iI tl.table [.inl a,.inl b]).isSome|| !decide (b<=(tl.seen j).getD a.toNat 0)):=rfl;rw[lv];show oOr _ _ _ _=_;unfold oOr;show oB _ _ [xo (.tup [.str x,.tup [.int a,.int b],.int v]),xo (.obj h2)] ω=_;rw[bF d1];cases hv:(iI tl.table [.inl a,.inl b]).isSome with
  |true=>rfl
  |false=>
   have s1:=qB (ω:=ω) (d:=.obj r) (xs:=tl.seen j) (cE er) (a:=a) (b:=b) ha0 (by rw[V.seenLen hj];exact ha1);show jY _ _ _=_;unfold jY;rw[bF (x:=decide (b<=(tl.seen j).getD a.toNat 0)) (ω1:=ω) (by
    unfold jX;rw[bF (aR (aA (cF (aB rfl) G.obj rfl (kN G hr)) (aA (aK (aB (d:=.tup [.str x,.tup [.int a,.int b],.int v]) rfl) aQ rfl) aD)) s1)];rfl)]
   rfl
noncomputable def PH (xs ys:List Int):Int:=(bu (fun x y=>mx (y-x) 0) xs ys).sum
noncomputable def oY (out:List D) (T:List (List Key×D)):List (List Key×D):=out.foldl (fun T d=>putD T (aX d) d) T
theorem Hm (kvs:List (List Key×D)) (k:List Key) (v:D):(putD kvs k v).length<=kvs.length+1:=by
 unfold putD;split
 ·simp
 ·simp
theorem yN {h h2 n0 n1:Nat}:∀ {out:List D}{T:List (List Key×D)}{v:Option D}{ω:Om},(∀ d∈out,fD d)->ω[n1]?=xo (.dt T)->T.length+out.length<sizeLine->
  ∃ v',bO (aS 5) bK eT out [xo (.obj h),xo (.obj h2),xo m,xo (.obj n0),xo (.obj n1),v] ω=xo (.nx [xo (.obj h),xo (.obj h2),xo m,xo (.obj n0),xo (.obj n1),v'],ω.set n1 (.dt (oY out T)))
 |[],T,v,ω,_,ht,_=>⟨v,by
   show xo (OOut.nx _,ω)=_;rw[show oY [] T=T from rfl,gA ht]⟩
 |d::out,T,v,ω,he,ht,hl=>by
  rw[b4] at hl;have hd:=he d ar;obtain⟨x,a,b,w,rfl⟩:=hd;have b1:eT [xo (.obj h),xo (.obj h2),xo m,xo (.obj n0),xo (.obj n1),xo (.tup [.str x,.tup [.int a,.int b],.int w])] ω=xo (.nx [xo (.obj h),xo (.obj h2),xo m,xo (.obj n0),xo (.obj n1),xo (.tup [.str x,.tup [.int a,.int b],.int w])],ω.set n1 (.dt (putD T [.inl a,.inl b] (.tup [.str x,.tup [.int a,.int b],.int w])))):=by
   unfold eT;exact eI (aB rfl) (aB (d:=.obj n1) rfl) (aK (aB (d:=.tup [.str x,.tup [.int a,.int b],.int w]) rfl) aQ rfl) (qL (ks:=[.inl a,.inl b]) ht rfl (by omega))
  have hp:=Hm T [.inl a,.inl b] (.tup [.str x,.tup [.int a,.int b],.int w]);obtain⟨v',g1⟩:=yN (h:=h) (h2:=h2) (n0:=n0) (n1:=n1) (m:=m) (out:=out) (T:=putD T [.inl a,.inl b] (.tup [.str x,.tup [.int a,.int b],.int w])) (v:=xo (.tup [.str x,.tup [.int a,.int b],.int w])) (ω:=ω.set n1 (.dt (putD T [.inl a,.inl b] (.tup [.str x,.tup [.int a,.int b],.int w])))) (fun d hd=>he d (ai _ hd)) (bU ht) (by omega);refine⟨v',?_⟩;rw[m7] at g1;refine(bS rfl rfl (b1)).trans ?_;exact g1
theorem Cb:∀ {rs1 rs2:List Nat}{kn1 kn2:List (List Int)}{ω:Om}{ρ:Rho},ρ.length=2->RowsAt ω rs1 kn1->RowsAt ω rs2 kn2->(∀ xs∈kn1,xs.length<=sizeLine)->(∀ obs,chk (ω++obs)=true)->
  compLO (qZ 0 1) chk (oPT jW) (bL gS (aC (zV 0) (aC (zV 1) aM))) (Aa (rs1.map D.obj) (rs2.map D.obj)) ρ ω=xo ((c4 ω.length (bu (bu mx) kn1 kn2).length).map D.obj,ω++(bu (bu mx) kn1 kn2).map fun xs=>Ob.ml (iv xs))
 |_,rs2,_,kn2,ω,ρ,hρ,.nil,_,_,hc=>by
  show(if chk ω=true then xo ([],ω) else xp)=_
  rw[if_pos (by have:=hc [];rwa [cu] at this)];simp
 |_,_,_,_,ω,ρ,hρ,.cons _ _,.nil,_,hc=>by
  show(if chk ω=true then xo ([],ω) else xp)=_
  rw[if_pos (by have:=hc [];rwa [cu] at this)];simp
 |_,_,_,_,ω,ρ,hρ,@Paired.cons _ _ _ r1 x1 rs1 kn1 a1 t1,@Paired.cons _ _ _ r2 x2 rs2 kn2 a2 t2,hl,hc=>by
  match ρ,hρ with
  |[u,v],_=>
   have j1:=yH (ω:=ω) (cE a1) (cE a2) (hl x1 ar);have ih:=Cb (chk:=chk) (ω:=ω++[.ml (iv (bu mx x1 x2))]) (ρ:=[xo (.obj r1),xo (.obj r2)]) rfl (RowsAt.app t1 _) (RowsAt.app t2 _) (fun xs hx=>hl xs (ai _ hx)) (fun obs=>by rw[fy];exact hc _)
   show(if chk ω=true then(match bL gS (aC (zV 0) (aC (zV 1) aM)) [xo (.obj r1),xo (.obj r2)] ω with
    |some (.ok y,ω2)=>(compLO (qZ 0 1) chk (oPT jW) (bL gS (aC (zV 0) (aC (zV 1) aM))) (Aa (rs1.map D.obj) (rs2.map D.obj)) [xo (.obj r1),xo (.obj r2)] ω2).map fun r=>(y::r.1,r.2)
    |_=>xp) else xp)=_
   rw[if_pos (by have:=hc [];rwa [cu] at this),aR (aA (aB (d:=.obj r1) rfl) (aA (aB (d:=.obj r2) rfl) aD)) j1]
   show(compLO _ _ _ _ _ _ _).map _=_
   rw[ih];rw[jl,b4,kh,bg,bg,bx];show xo (_,_)=_;rw[fy];rfl
theorem mP:∀(kn:List (List Int)) (pre post:Om),RowsAt (pre++(kn.map fun xs=>Ob.ml (iv xs))++post) (c4 pre.length kn.length) kn
 |[],_,_=>.nil
 |x::r,pre,post=>by
  rw[b4,kh];refine .cons (by simp) ?_
  have:=mP r (pre++[.ml (iv x)]) post
  unfold RowsAt at this;simpa using this
theorem kM (e1:fv ρ ω=xo (.ok v,ω1)) (e2:fo ρ ω1=xo (.ok (.obj n),ω2)) (e3:ω2[n]?=xo (.ins c fs)) (hl:fs.length<1000):nI c x fo fv ρ ω=xo (.nx ρ,ω2.set n (.ins c (lI x v fs))):=by
 unfold nI;rw[bP e1,bP e2]
 have:vP c x ω2 (.obj n) v=xo (ω2.set n (.ins c (lI x v fs))):=by
  simp only[vP,e3];rw[if_pos ⟨trivial,hl⟩]
 show(vP c x ω2 (.obj n) v).map _=_
 rw[this];rfl
noncomputable def Hd.hearT (hd:Hd) (i:Nat) (tl:Hd) (j:Nat):List D:=hd.ents.filter (tl.leaves j)++tl.ents.filter (hd.leaves i)
noncomputable def Hd.hear0 (hd:Hd) (i:Nat) (tl:Hd) (j:Nat):Hd:=⟨(bu (bu mx) hd.knows tl.knows).set i (bu mx (hd.seen i) (tl.seen j)),oY (hd.hearT i tl j) [],pT hd.kept tl.kept⟩
noncomputable def Hd.hear (hd:Hd) (i:Nat) (tl:Hd) (j:Nat):Hd:=(hd.hear0 i tl j).forget
theorem Hd.Ok.entC (W:hd.Ok c):∀ d∈hd.ents,RJ c d:=fun d hd'=>by
 obtain⟨kv,h1,rfl⟩:=az.mp (W.ents.2.mem_iff.mp hd');obtain⟨a,b,ha0,ha1,_,x,v,e⟩:=W.tk kv h1;exact⟨x,a,b,v,e,ha0,ha1⟩
theorem LL (H:HandAt ω h i hd k t e rs) (G:HandAt ω h2 j tl k2 t2 e2 rs2) (hij:∀ n∈h::k::t::e::rs,n∉h2::k2::t2::e2::rs2) (W:hd.Ok c) (V:tl.Ok c) (hi:i<c) (hj:j<c) (hh:eZ (tl.kept.map (·.1))=true) (W2:(hd.hear0 i tl j).Ok c):
  ∃ ω' k' t' e' rs',cL [.obj h,.obj h2] ω=xo (.ok (.int (PH (hd.seen i) (tl.seen j))),ω')/\HandAt ω' h i (hd.hear i tl j) k' t' e' rs'/\Keep [h,e] ω ω'/\∀ n∈k'::t'::e'::rs',ω.length<=n:=by
 obtain⟨r,hr,er⟩:=H.seenRow (by rw[W.len];exact hi);obtain⟨r2,hr2,er2⟩:=G.seenRow (by rw[V.len];exact hj);obtain⟨⟨h1,h2',h3,h4⟩,⟨h5,h6,h7⟩,⟨h8,h9⟩,h10,h11⟩:=H.ne;have ltH:=H.lt;have ltG:=G.lt;have c8:∀ {n:Nat},n=c->n<=sizeLine:=fun z=>by rw[z,bt];have:=W.small;omega
 have hs1:(hd.seen i).length<=sizeLine:=c8 (W.seenLen hi);have hh2:h2≠h:=fun z=>hij h (by simp) (by simp[z]);have he2:e2≠e:=fun z=>hij e (by simp) (by simp[z]);have hk2h:k2≠h:=fun z=>hij h (by simp) (by simp[z]);have he2h:e2≠h:=fun z=>hij h (by simp) (by simp[z]);have hrs2h:∀ r∈rs2,r≠h:=fun r hr z=>hij h (by simp) (by rw[<- z];simp[hr])
 -- the stages of the store
 obtain⟨s,hs⟩:∃ s,s=bu mx (hd.seen i) (tl.seen j):=⟨_,rfl⟩;obtain⟨ωa,hωa⟩:∃ ωa,ωa=ω++[Ob.ml (iv s)]:=⟨_,rfl⟩;obtain⟨ωb,hωb⟩:∃ ωb,ωb=ωa++[Ob.dt []]:=⟨_,rfl⟩;have la:ωa.length=ω.length+1:=by rw[hωa];simp
 have lb:ωb.length=ω.length+2:=by rw[hωb];simp[la]
 have gb:∀ n,n<ω.length->ωb[n]?=ω[n]?:=fun n hn=>by rw[hωb,am (by omega),hωa,am hn]
 have Hb:HandAt ωb h i hd k t e rs:=H.mono fun n hn=>gb n (ltH n hn);have Gb:HandAt ωb h2 j tl k2 t2 e2 rs2:=G.mono fun n hn=>gb n (ltG n hn);have nb:ωb[ωa.length]?=xo (.dt []):=by rw[hωb];simp
 have sb:ωb[ω.length]?=xo (.ml (iv s)):=by rw[hωb,am (by omega),hωa];simp
 -- the table
 have l1:(hd.ents.filter (tl.leaves j)).length<64:=mw (d8 ..) W.entsLen;have l2:(tl.ents.filter (hd.leaves i)).length<64:=mw (d8 ..) V.entsLen;have lT:(hd.hearT i tl j).length<128:=by unfold Hd.hearT;rw[bx];omega
 have entT:∀ d∈hd.hearT i tl j,fD d:=fun d hd'=>by
  rcases c6.mp hd' with z|z
  ·exact W.entsEnt d (ca.mp z).1
  ·exact V.entsEnt d (ca.mp z).1
 obtain⟨v',loop⟩:=yN (h:=h) (h2:=h2) (n0:=ω.length) (n1:=ωa.length) (m:=.int (PH (hd.seen i) (tl.seen j))) (out:=hd.hearT i tl j) (T:=[]) (v:=xp) (ω:=ωb) entT nb (by rw[bt];simp;omega);obtain⟨T,hT⟩:∃ T,T=oY (hd.hearT i tl j) []:=⟨_,rfl⟩;rw[<- hT] at loop;obtain⟨ωc,hωc⟩:∃ ωc,ωc=ωb.set ωa.length (.dt T):=⟨_,rfl⟩;rw[<- hωc] at loop;have lc:ωc.length=ω.length+2:=by rw[hωc];simp[lb]
 have gc:∀ n,n<ω.length->ωc[n]?=ω[n]?:=fun n hn=>by rw[hωc,aJ (by omega)];exact gb n hn
 have tc:ωc[ωa.length]?=xo (.dt T):=by rw[hωc];exact bU nb
 have sc:ωc[ω.length]?=xo (.ml (iv s)):=by rw[hωc,aJ (by omega)];exact sb
 have oc:ωc[h]?=xo (.ins 0 [("number",.int i),("knows",.obj k),("table",.obj t),("kept",.obj e)]):=by rw[gc h (ltH h (by simp))];exact H.obj
 -- table set
 obtain⟨ωd,hωd⟩:∃ ωd,ωd=ωc.set h (.ins 0 [("number",.int i),("knows",.obj k),("table",.obj ωa.length),("kept",.obj e)]):=⟨_,rfl⟩;have ld:ωd.length=ω.length+2:=by rw[hωd];simp[lc]
 have hlt:=ltH h (by simp);have gd:∀ n,n<ω.length->n≠h->ωd[n]?=ω[n]?:=fun n hn hne=>by rw[hωd,aJ hne];exact gc n hn
 have od:ωd[h]?=xo (.ins 0 [("number",.int i),("knows",.obj k),("table",.obj ωa.length),("kept",.obj e)]):=by rw[hωd];exact bU oc
 have td:ωd[ωa.length]?=xo (.dt T):=by rw[hωd,aJ (by omega)];exact tc
 have sd:ωd[ω.length]?=xo (.ml (iv s)):=by rw[hωd,aJ (by omega)];exact sc
 have kd:ωd[k]?=xo (.ml (rs.map D.obj)):=by rw[gd k (ltH k (by simp)) (bz h1)];exact H.kn
 have kd2:ωd[k2]?=xo (.ml (rs2.map D.obj)):=by rw[gd k2 (ltG k2 (by simp)) hk2h];exact G.kn
 have od2:ωd[h2]?=_:=(gd h2 (ltG h2 (by simp)) hh2).trans G.obj;have rd:RowsAt ωd rs hd.knows:=H.rows.mono fun r hr=>gd r (ltH r (by simp[hr])) fun z=>h4 (z ▸ hr);have rd2:RowsAt ωd rs2 tl.knows:=G.rows.mono fun r hr=>gd r (ltG r (by simp[hr])) (hrs2h r hr)
 -- rows joined
 obtain⟨kn,hkn⟩:∃ kn,kn=bu (bu mx) hd.knows tl.knows:=⟨_,rfl⟩;have lkn:kn.length=c:=by rw[hkn,fu,W.len,V.len,jp]
 have joins:=Cb (chk:=fun ω=>iO k (rs.map D.obj) ω&&iO k2 (rs2.map D.obj) ω) (ω:=ωd) (ρ:=[xp,xp]) rfl rd rd2 (fun xs hx=>c8 (W.row xs hx)) (fun obs=>by
  rw[br];constructor
  ·unfold iO;rw[am (dH kd),kd];exact sameDs_refl _
  ·unfold iO;rw[am (dH kd2),kd2];exact sameDs_refl _)
 rw[<- hkn] at joins;obtain⟨ωe,hωe⟩:∃ ωe,ωe=ωd++kn.map fun xs=>Ob.ml (iv xs):=⟨_,rfl⟩;rw[<- hωe] at joins;have le:ωe.length=ω.length+2+c:=by rw[hωe];simp[ld,lkn]
 obtain⟨ωf,hωf⟩:∃ ωf,ωf=ωe++[Ob.ml ((c4 ωd.length kn.length).map D.obj)]:=⟨_,rfl⟩;have lf:ωf.length=ω.length+3+c:=by rw[hωf];simp[le];omega
 have gf:∀ n,n<ω.length+2->ωf[n]?=ωd[n]?:=fun n hn=>by rw[hωf,am (by omega),hωe,am (by omega)]
 have kf:ωf[ωe.length]?=xo (.ml ((c4 ωd.length kn.length).map D.obj)):=by rw[hωf];simp
 have rf:RowsAt ωf (c4 ωd.length kn.length) kn:=by rw[hωf,hωe];exact mP kn ωd _
 have of:ωf[h]?=xo (.ins 0 [("number",.int i),("knows",.obj k),("table",.obj ωa.length),("kept",.obj e)]):=by rw[gf h (by omega)];exact od
 obtain⟨ωg,hωg⟩:∃ ωg,ωg=ωf.set h (.ins 0 [("number",.int i),("knows",.obj ωe.length),("table",.obj ωa.length),("kept",.obj e)]):=⟨_,rfl⟩;have og:ωg[h]?=xo (.ins 0 [("number",.int i),("knows",.obj ωe.length),("table",.obj ωa.length),("kept",.obj e)]):=by rw[hωg];exact bU of
 have kg:ωg[ωe.length]?=xo (.ml ((c4 ωd.length kn.length).map D.obj)):=by rw[hωg,aJ (by omega)];exact kf
 obtain⟨rs',hrs'⟩:∃ rs',rs'=(c4 ωd.length kn.length).set i ω.length:=⟨_,rfl⟩;have hset:((c4 ωd.length kn.length).map D.obj).set i (.obj ω.length)=rs'.map D.obj:=by rw[hrs',rm]
 obtain⟨ωh,hωh⟩:∃ ωh,ωh=ωg.set ωe.length (.ml (rs'.map D.obj)):=⟨_,rfl⟩;have elt:=ltH e (by simp);have oh:ωh[h]?=xo (.ins 0 [("number",.int i),("knows",.obj ωe.length),("table",.obj ωa.length),("kept",.obj e)]):=by rw[hωh,aJ (by omega)];exact og
 have gh:∀ n,n<ω.length+2->n≠h->ωh[n]?=ωd[n]?:=fun n hn hne=>by rw[hωh,aJ (by omega),hωg,aJ hne];exact gf n hn
 have eh:ωh[e]?=xo (.dt hd.kept):=by rw[gh e (by omega) (bz h3),gd e elt (bz h3)];exact H.kp
 have eh2:ωh[e2]?=xo (.dt tl.kept):=by rw[gh e2 (by have:=ltG e2 (by simp);omega) he2h,gd e2 (ltG e2 (by simp)) he2h];exact G.kp
 have oh2:ωh[h2]?=_:=(gh h2 (by have:=ltG h2 (by simp);omega) hh2).trans od2;obtain⟨ωi,hωi⟩:∃ ωi,ωi=ωh.set e (.dt (pT hd.kept tl.kept)):=⟨_,rfl⟩;have li:ωi.length=ω.length+3+c:=by rw[hωi,hωh,hωg];simp[lf]
 have gi:∀ n,n<ω.length+2->n≠h->n≠e->ωi[n]?=ωd[n]?:=fun n hn hne hee=>by rw[hωi,aJ hee];exact gh n hn hne
 have rin:∀ q∈c4 ωd.length kn.length,ω.length+2<=q/\q<ω.length+2+c:=fun q hq=>by
  rw[nu,ld,lkn] at hq;exact hq
 have rsin:∀ q∈rs',ω.length<=q/\q≠ωa.length/\q<ω.length+2+c:=fun q hq=>by
  rw[hrs'] at hq;rcases i6 hq with z|z
  ·have:=rin q z;omega
  ·omega
 have HI:HandAt ωi h i (hd.hear0 i tl j) ωe.length ωa.length e rs':=by
  refine⟨?_,?_,?_,?_,?_,?_⟩
  ·rw[hωi,aJ h3];exact oh
  ·rw[hωi,aJ (by omega),hωh];exact bU kg
  ·show RowsAt ωi rs' ((bu (bu mx) hd.knows tl.knows).set i (bu mx (hd.seen i) (tl.seen j)));rw[<- hkn,<- hs,hrs'];refine RowsAt.setAt (rf.mono fun q hq=> ?_) ?_
   ·have:=rin q hq
    rw[hωi,aJ (by omega),hωh,aJ (by omega),hωg,aJ (by omega)]
   ·rw[gi _ (by omega) (by omega) (by omega)];exact sd
  ·show ωi[ωa.length]?=xo (.dt (oY (hd.hearT i tl j) []));rw[gi _ (by omega) (by omega) (by omega),<- hT];exact td
  ·rw[hωi];exact bU eh
  ·have hnd:rs'.Nodup:=by
    rw[hrs'];exact EZ (vy) (fun z=>by have:=rin _ z;omega) i
   simp only[b8,aj,not_or];refine⟨⟨by omega,by omega,h3,fun z=>by have:=rsin _ z;omega⟩,⟨by omega,by omega,fun z=>by have:=rsin _ z;omega⟩,⟨by omega,fun z=>(rsin _ z).2.1 rfl⟩,fun z=>by have:=rsin _ z;omega,hnd⟩
 obtain⟨ω',f1,HF,KF⟩:=yT HI W2;refine⟨ω',ωe.length,ωa.length,ωi.length,rs',?_,HF,⟨?_,fun n hn hm=> ?_⟩,fun n hn=> ?_⟩
 ·refine aT rfl ?_;unfold qH;rw[aI (aR (aA (cF (aB rfl) H.obj rfl (kN H hr)) (aA (cF (aB rfl) G.obj rfl (kN G hr2)) aD)) (HW (cE er) (cE er2) hs1))];rw[aI (aR (aA (cF (aB rfl) H.obj rfl (kN H hr)) (aA (cF (aB rfl) G.obj rfl (kN G hr2)) aD)) (yH (cE er) (cE er2) hs1))];rw[<- hs,<- hωa];rw[aI (d:=.obj ωa.length) (ω1:=ωb) (by rw[hωb];rfl)];rw[aZ (dF (by
   unfold bB oIL;rw[bP (x:=(hd.hearT i tl j,bK)) (ω1:=ωb) (by
    rw[bF (x:=.lst (hd.hearT i tl j)) (ω1:=ωb) (dY (aR (aA (cF (aB (d:=.obj h) rfl) Hb.obj rfl (jT Hb W.ents.1)) (aA (aB (d:=.obj h2) rfl) aD)) (tL Gb V hj W.entC (g9 (eE W.entsLen)))) (aR (aA (cF (aB (d:=.obj h2) rfl) Gb.obj rfl (jT Gb V.ents.1)) (aA (aB (d:=.obj h) rfl) aD)) (tL Hb W hi V.entC (g9 (eE V.entsLen)))) (by
     show(if(hd.ents.filter (tl.leaves j)).length+(tl.ents.filter (hd.leaves i)).length<=sizeLine then xo (D.lst (hd.hearT i tl j),ωb) else xp)=_
     rw[if_pos (by rw[bt];omega)]))]
    rfl)]
   exact loop))]
  rw[aZ (kM (aB (d:=.obj ωa.length) rfl) (aB (d:=.obj h) rfl) oc (by simp))];rw[show ωc.set h (.ins 0 (lI "table" (.obj ωa.length) [("number",.int i),("knows",.obj k),("table",.obj t),("kept",.obj e)]))=ωd from by rw[hωd];rfl];rw[aZ (kM (pQ (ω1:=ωd) (ω2:=ωe) (ds:=Aa (rs.map D.obj) (rs2.map D.obj)) (chk:=fun ω=>iO k (rs.map D.obj) ω&&iO k2 (rs2.map D.obj) ω) (by
    unfold oIZ;rw[bF (aA (fV (aB (d:=.obj h) rfl) od rfl) (aA (fV (aB (d:=.obj h2) rfl) od2 rfl) aD))];have z1:lX ωd (.obj k)=xo (rs.map D.obj,iO k (rs.map D.obj)):=by simp only[lX,kd]
    have z2:lX ωd (.obj k2)=xo (rs2.map D.obj,iO k2 (rs2.map D.obj)):=by simp only[lX,kd2]
    show oR (pu ((lX ωd (.obj k)).bind _) ωd)=_;rw[z1];show oR (pu ((lX ωd (.obj k2)).map _) ωd)=_;rw[z2];rfl) (by
     unfold Aa;rw[fu,ak,ak,rd.length,rd2.length,W.len,V.len,jp];exact c8 rfl) joins) (by rw[<- hωf];exact aB (d:=.obj h) rfl) of (by simp))]
  rw[show ωf.set h (.ins 0 (lI "knows" (.obj ωe.length) [("number",.int i),("knows",.obj k),("table",.obj ωa.length),("kept",.obj e)]))=ωg from by rw[hωg];rfl];rw[aZ (eI (aB (d:=.obj ω.length) rfl) (fV (aB (d:=.obj h) rfl) og rfl) (fV (aB (d:=.obj h) rfl) og rfl) (kL kg (by rw[ak,List.length_range',lkn];exact hi)))];rw[hset,<- hωh];rw[aZ (ω1:=ωi) (by
   unfold bQ;rw[bP (BW (r:=.non) (ω3:=ωi) (fV (aB (d:=.obj h) rfl) oh rfl) eh (aA (fV (aB (d:=.obj h2) rfl) oh2 rfl) aD) (by
    simp only[FL,eh,eh2];rw[if_pos ⟨bz he2,by have:=W.kl;have:=V.kl;rw[bt];omega,hh⟩,<- hωi]))])]
  rw[aZ (ω1:=ω') (by
   unfold bQ;rw[bP (cF (aB (d:=.obj h) rfl) HI.obj rfl f1)])]
  exact bE (aB rfl)
 ·have:=KF.1;omega
 ·simp only[aj,cm,or_false,not_or] at hm;rw[KF.2 n (by omega) (by simpa using hm.1),gi n (by omega) hm.1 hm.2,gd n hn hm.1]
 ·simp only[aj] at hn;rcases hn with z|z|z|z
  ·omega
  ·omega
  ·omega
  ·exact(rsin n z).1
theorem QT (H:HandS ω h i hd fp) (G:HandS ω h2 j tl fq) (hij:∀ n∈fp,n∉fq) (W:hd.Ok c) (V:tl.Ok c) (hi:i<c) (hj:j<c) (hh:eZ (tl.kept.map (·.1))=true) (W2:(hd.hear0 i tl j).Ok c):
  ∃ ω',cL [.obj h,.obj h2] ω=xo (.ok (.int (PH (hd.seen i) (tl.seen j))),ω')/\Did ω h i fp ω' (hd.hear i tl j):=by
 obtain⟨k,t,e,rs,H,rfl⟩:=H;obtain⟨k2,t2,e2,rs2,G,rfl⟩:=G;obtain⟨ω',k',t',e',rs',e1,H',K,F⟩:=LL H G hij W V hi hj hh W2;refine⟨ω',e1,_,⟨k',t',e',rs',H',rfl⟩,K.sub (fun n hn=>by simp only[aj,cm,or_false] at hn ⊢;rcases hn with z|z <;> simp[z]),fun n hn=> ?_⟩;rcases aj.mp hn with z|z
 ·exact .inl (by simp[z])
 ·exact .inr (F n z)
end
def KeyIn (c:Nat) (own:Nat->Nat) (k:List Key):Prop:=∃ a b:Nat,a<c/\1<=b/\b<=own a/\k=gG a b
noncomputable def tot (c:Nat) (own:Nat->Nat):Nat:=((bp c).map own).sum
noncomputable def univ (c:Nat) (own:Nat->Nat):List (List Key):=(bp c).flatMap fun a=>(bp (own a)).map fun b=>gG a ((b+1:Nat):Int)
theorem uL (c:Nat) (own:Nat->Nat):(univ c own).length=tot c own:=by
 unfold univ tot;rw[List.length_flatMap]
 congr 1
 apply eu;intro a _;simp
theorem KeyIn.univ (h:KeyIn c own k):k∈univ c own:=by
 obtain⟨a,b,h1,h2,h3,rfl⟩:=h;unfold Lw.univ;rw[o5];refine⟨a,hX.mpr h1,az.mpr ⟨b-1,hX.mpr (by omega),?_⟩⟩;rw[Nat.sub_add_cancel h2]
theorem KeyIn.mono (h:KeyIn c own k) (le:∀ a,own a<=own' a):KeyIn c own' k:=by
 obtain⟨a,b,h1,h2,h3,e⟩:=h;exact⟨a,b,h1,h2,cf h3 (le a),e⟩
theorem oA {α:Type} [DecidableEq α]:∀ {l m:List α},l.Nodup->(∀ x∈l,x∈m)->l.length<=m.length
 |[],m,_,_=>ia _
 |a::r,m,h,hs=>by
  rw[b8] at h;have ha:=hs a ar;have h1:=oA (l:=r) (m:=m.erase a) h.2 fun x hx=>(List.mem_erase_of_ne (fun z:x=a=>h.1 (z ▸ hx))).mpr (hs x (ai _ hx));rw[List.length_erase_of_mem ha] at h1;have h2:=List.length_pos_of_mem ha;rw[b4];omega
structure Hd.In (c:Nat) (own:Nat->Nat) (hd:Hd):Prop where
 len:hd.knows.length=c
 row:∀ xs∈hd.knows,xs.length=c
 kb:∀ xs∈hd.knows,∀ a,a<c->0<=xs.getD a 0/\xs.getD a 0<=own a
 kk:∀ kv∈hd.kept,KeyIn c own kv.1
 kn:(hd.kept.map (·.1)).Nodup
 kv:∀ kv∈hd.kept,∃ ks:List (List Key),kv.2=.tup (ks.map bI)/\ks.length<64/\∀ q∈ks,KeyIn c own q
 tk:∀ kv∈hd.table,∃ a b:Nat,a<c/\1<=b/\b<=own a/\kv.1=gG a b/\∃(x:Str) (v:Int),kv.2=.tup [.str x,mkD a b,.int v]
 tn:(hd.table.map (·.1)).Nodup
section
variable {c:Nat}{own own':Nat->Nat}{hd tl:Hd}{i j:Nat}
theorem Hd.In.ok (W:hd.In c own) (c0:0<c) (c8:c<=8) (ht:tot c own<64):hd.Ok c where
 len:=W.len
 row:=W.row
 small:=c8
 pos:=c0
 kk:=fun kv h=>by
  obtain⟨a,b,h1,_,_,e⟩:=W.kk kv h;exact⟨a,b,e,by omega,by omega⟩
 kn:=W.kn
 kl:=by
  have:=oA W.kn (m:=univ c own) fun x hx=>by
   obtain⟨kv,h1,rfl⟩:=az.mp hx;exact(W.kk kv h1).univ
  rw[uL,ak] at this;omega
 tk:=fun kv h=>by
  obtain⟨a,b,h1,_,_,e,x,v,e2⟩:=W.tk kv h;exact⟨a,b,by omega,by omega,e,x,v,e2⟩
 tn:=W.tn
 tl:=by
  have:=oA W.tn (m:=univ c own) fun x hx=>by
   obtain⟨kv,h1,rfl⟩:=az.mp hx;obtain⟨a,b,h2,h3,h4,e,_⟩:=W.tk kv h1;exact KeyIn.univ ⟨a,b,h2,h3,h4,e⟩
  rw[uL,ak] at this;omega
theorem Hd.In.mono (W:hd.In c own) (le:∀ a,own a<=own' a):hd.In c own' where
 len:=W.len
 row:=W.row
 kb:=fun xs hx a ha=>⟨(W.kb xs hx a ha).1,Int.le_trans (W.kb xs hx a ha).2 (by have:=le a;omega)⟩
 kk:=fun kv h=>(W.kk kv h).mono le
 kn:=W.kn
 kv:=fun kv h=>by
  obtain⟨ks,e,hl,h2⟩:=W.kv kv h;exact⟨ks,e,hl,fun q hq=>(h2 q hq).mono le⟩
 tk:=fun kv h=>by
  obtain⟨a,b,h1,h2,h3,r⟩:=W.tk kv h;exact⟨a,b,h1,h2,cf h3 (le a),r⟩
 tn:=W.tn
theorem lJ {p:List Key×D} (h:p∈putD kvs k v):p=(k,v)∨p∈kvs:=by
 unfold putD at h;split at h
 ·obtain⟨q,h1,h2⟩:=az.mp h
  by_cases hq:q.1=k
  ·rw[if_pos hq] at h2;exact .inl (by rw[<- h2,hq])
  ·rw[if_neg hq] at h2;exact .inr (h2 ▸ h1)
 ·rcases c6.mp h with z|z
  ·exact .inr z
  ·exact .inl (by simpa using z)
theorem jO {k:List Key} (h:(kvs.map (·.1)).Nodup):((putD kvs k v).map (·.1)).Nodup:=by
 unfold putD;split
 ·rw[fj];rw[show kvs.map ((·.1)∘fun kv=>if kv.1=k then(kv.1,v) else kv)=kvs.map (·.1) from eu fun kv _=>by
   show(if kv.1=k then(kv.1,v) else kv).1=kv.1
   split <;> rfl]
  exact h
 ·rename_i hn
  rw[b9,jy];refine⟨h,by simp,fun a ha b hb z=>hn ?_⟩;rw[oz];obtain⟨p,h1,h2⟩:=az.mp ha;refine⟨p,h1,decide_eq_true ?_⟩;have hb':b=k:=by simpa using hb
  rw[h2,z,hb']
theorem Gf (kvs:List (List Key×D)) (k:List Key):(eA kvs k).Sublist kvs:=ko
theorem qK:∀(ks:List (List Key)) (kvs:List (List Key×D)),(ks.foldl eA kvs).Sublist kvs
 |[],kvs=>List.Sublist.refl _
 |k::ks,kvs=>(qK ks (eA kvs k)).trans (Gf kvs k)
theorem oU:∀ {out:List D}{T:List (List Key×D)},(T.map (·.1)).Nodup->((oY out T).map (·.1)).Nodup
 |[],T,h=>h
 |d::out,T,h=>oU (out:=out) (jO h)
theorem oV:∀ {out:List D}{T:List (List Key×D)}{p:List Key×D},p∈oY out T->p∈T∨∃ d∈out,p=(aX d,d)
 |[],T,p,h=>.inl h
 |d::out,T,p,h=>by
  rcases oV (out:=out) (T:=putD T (aX d) d) h with z|⟨d',h1,h2⟩
  ·rcases lJ z with z|z
   ·exact .inr ⟨d,ar,z⟩
   ·exact .inl z
  ·exact .inr ⟨d',ai _ h1,h2⟩
theorem mY:∀ {ms kvs:List (List Key×D)},(kvs.map (·.1)).Nodup->((pT kvs ms).map (·.1)).Nodup
 |[],kvs,h=>h
 |d::ms,kvs,h=>mY (ms:=ms) (kvs:=putD kvs d.1 d.2) (jO h)
theorem mQ:∀ {ms kvs:List (List Key×D)}{p:List Key×D},p∈pT kvs ms->p∈kvs∨p∈ms
 |[],kvs,p,h=>.inl h
 |d::ms,kvs,p,h=>by
  rcases mQ (ms:=ms) (kvs:=putD kvs d.1 d.2) h with z|z
  ·rcases lJ z with z|z
   ·exact .inr (by rw[z];exact ar)
   ·exact .inl z
  ·exact .inr (ai _ z)
theorem fH (xs:List Int) (i a:Nat) (v:Int) (hi:i<xs.length):(xs.set i v).getD a 0=if a=i then v else xs.getD a 0:=by
 rw[ax,ax,List.getElem?_set]
 by_cases h:a=i
 ·subst h;simp[hi]
 ·rw[if_neg (bz h),if_neg h]
theorem wV {f:Int->Int->Int}{xs ys:List Int}{a:Nat} (h1:a<xs.length) (h2:a<ys.length):(bu f xs ys).getD a 0=f (xs.getD a 0) (ys.getD a 0):=by
 simp[ax,uc,bj h1,bj h2]
theorem JF {α β γ:Type}{f:α->β->γ}:∀ {xs:List α}{ys:List β}{z:γ},z∈bu f xs ys->∃ x∈xs,∃ y∈ys,z=f x y
 |[],_,_,h=>by simp at h
 |_::_,[],_,h=>by simp at h
 |x::xs,y::ys,z,h=>by
  rw[jl] at h;rcases aj.mp h with h|h
  ·exact⟨x,ar,y,ar,h⟩
  ·obtain⟨x',h1,y',h2,e⟩:=JF h;exact⟨x',ai _ h1,y',ai _ h2,e⟩
noncomputable def cP (own:Nat->Nat) (i:Nat):Nat->Nat:=fun a=>if a=i then own a+1 else own a
theorem iG (own:Nat->Nat) (i a:Nat):own a<=cP own i a:=by
 unfold cP;split <;> omega
theorem Hd.In.seenMem (W:hd.In c own) (hi:i<c):hd.seen i∈hd.knows:=by
 unfold Hd.seen
 have:i<hd.knows.length:=by rw[W.len];exact hi
 rw[ax,bj this];exact jj this
theorem Hd.In.seenLen (W:hd.In c own) (hi:i<c):(hd.seen i).length=c:=W.row _ (W.seenMem hi)
theorem Hd.In.bump (W:hd.In c own) (hi:i<c) (hs:(hd.seen i).getD i 0=own i):(hd.bump i).In c (cP own i):=by
 have W':=W.mono (iG own i);refine⟨?_,?_,?_,W'.kk,W'.kn,W'.kv,W'.tk,W'.tn⟩
 ·show(hd.knows.set i _).length=c
  rw[cj];exact W.len
 ·intro xs hx;rcases i6 hx with z|z
  ·exact W.row xs z
  ·rw[z,cj];exact W.seenLen hi
 ·intro xs hx a ha;rcases i6 hx with z|z
  ·exact W'.kb xs z a ha
  ·rw[z,fH _ _ _ _ (by rw[W.seenLen hi];exact hi)]
   by_cases h:a=i
   ·rw[if_pos h,hs,h];unfold cP;rw[if_pos rfl];omega
   ·rw[if_neg h];exact W'.kb _ (W.seenMem hi) a ha
theorem jV (W:hd.In c own) (hi:i<c) (hs:(hd.seen i).getD i 0=own i):((hd.bump i).seen i).getD i 0=cP own i i:=by
 have:(hd.bump i).seen i=(hd.seen i).set i ((hd.seen i).getD i 0+1):=by
  show(hd.knows.set i _).getD i []=_
  rw[ax,du (by rw[W.len];exact hi)];rfl
 rw[this,fH _ _ _ _ (by rw[W.seenLen hi];exact hi),if_pos rfl,hs];unfold cP;rw[if_pos rfl];omega
theorem HU (hs:(hd.seen i).getD i 0=own i):hd.next i=((cP own i i:Nat):Int):=by
 unfold Hd.next cP;rw[hs,if_pos rfl];omega
theorem lP (hi:i<c) (hs:(hd.seen i).getD i 0=own i):KeyIn c (cP own i) (gG i (hd.next i)):=by
 rw[HU hs];refine⟨i,cP own i i,hi,?_,bf _,rfl⟩;unfold cP;rw[if_pos rfl];omega
theorem Hd.In.put (W:hd.In c own) (hi:i<c) (hs:(hd.seen i).getD i 0=own i) (x:Str) (v:Int):(hd.put i x v).In c (cP own i):=by
 have B:=W.bump hi hs;refine⟨B.len,B.row,B.kb,B.kk,B.kn,B.kv,?_,jO W.tn⟩;intro kv hkv;rcases lJ hkv with z|z
 ·obtain⟨a,b,h1,h2,h3,e⟩:=lP hi hs;have hab:(i:Int)=a/\hd.next i=b:=by
   unfold gG at e;simp at e;omega
  refine⟨a,b,h1,h2,h3,by rw[z];exact e,x,v,?_⟩;rw[z];show D.tup [.str x,mkD i (hd.next i),.int v]=D.tup [.str x,mkD a b,.int v];unfold mkD;rw[hab.1,hab.2]
 ·exact B.tk kv z
theorem Hd.In.takeOut0 (W:hd.In c own) {mk:List Key} (hm:KeyIn c own mk) (hl:ks.length<64) (hk:∀ q∈ks,KeyIn c own q):(hd.takeOut0 mk ks).In c own:=by
 refine⟨W.len,W.row,W.kb,?_,?_,?_,fun kv h=>W.tk kv ((qK ks hd.table).subset h),?_⟩
 ·intro kv h
  change kv∈(if ks=[] then hd.kept else _) at h
  split at h
  ·exact W.kk kv h
  ·rcases lJ h with z|z
   ·rw[z];exact hm
   ·exact W.kk kv z
 ·show((if ks=[] then hd.kept else _).map (·.1)).Nodup
  split
  ·exact W.kn
  ·exact jO W.kn
 ·intro kv h
  change kv∈(if ks=[] then hd.kept else _) at h
  split at h
  ·exact W.kv kv h
  ·rcases lJ h with z|z
   ·rw[z];exact⟨ks,rfl,hl,hk⟩
   ·exact W.kv kv z
 ·exact W.tn.sublist ((qK ks hd.table).map _)
theorem Hd.In.forget (W:hd.In c own):hd.forget.In c own:=
 ⟨W.len,W.row,W.kb,fun kv h=>W.kk kv (ca.mp h).1,W.kn.sublist (ko.map _),fun kv h=>W.kv kv (ca.mp h).1,W.tk,W.tn⟩
theorem Hd.In.hear0 (W:hd.In c own) (V:tl.In c own) (Wo:hd.Ok c) (Vo:tl.Ok c) (hi:i<c) (hj:j<c):(hd.hear0 i tl j).In c own:=by
 have joinB:∀ xs ys:List Int,xs.length=c->ys.length=c->(∀ a,a<c->0<=xs.getD a 0/\xs.getD a 0<=own a)->(∀ a,a<c->0<=ys.getD a 0/\ys.getD a 0<=own a)->(bu mx xs ys).length=c/\∀ a,a<c->0<=(bu mx xs ys).getD a 0/\(bu mx xs ys).getD a 0<=own a:=by
  intro xs ys h1 h2 h3 h4;refine⟨by rw[fu,h1,h2,jp],fun a ha=> ?_⟩;rw[wV (by omega) (by omega)];unfold mx;split
  ·exact h4 a ha
  ·exact h3 a ha
 have rowsB:∀ zs∈(hd.hear0 i tl j).knows,zs.length=c/\∀ a,a<c->0<=zs.getD a 0/\zs.getD a 0<=own a:=by
  intro zs hz;rcases i6 hz with z|z
  ·obtain⟨x,hx,y,hy,rfl⟩:=JF z;exact joinB x y (W.row x hx) (V.row y hy) (W.kb x hx) (V.kb y hy)
  ·rw[z];exact joinB _ _ (W.seenLen hi) (V.seenLen hj) (W.kb _ (W.seenMem hi)) (V.kb _ (V.seenMem hj))
 have entT:∀ {hd:Hd},hd.In c own->hd.Ok c->∀ d∈hd.ents,∃ a b:Nat,a<c/\1<=b/\b<=own a/\aX d=gG a b/\∃(x:Str) (v:Int),d=.tup [.str x,mkD a b,.int v]:=by
  intro hd W Wo d hd';obtain⟨kv,h1,rfl⟩:=az.mp (Wo.ents.2.mem_iff.mp hd');obtain⟨a,b,h2,h3,h4,e,x,v,e2⟩:=W.tk kv h1;exact⟨a,b,h2,h3,h4,by rw[e2];rfl,x,v,e2⟩
 refine⟨?_,fun xs hx=>(rowsB xs hx).1,fun xs hx=>(rowsB xs hx).2,?_,mY W.kn,?_,?_,oU (by simp)⟩
 ·show((bu (bu mx) hd.knows tl.knows).set i _).length=c
  rw[cj,fu,W.len,V.len,jp]
 ·intro kv h;rcases mQ h with z|z
  ·exact W.kk kv z
  ·exact V.kk kv z
 ·intro kv h;rcases mQ h with z|z
  ·exact W.kv kv z
  ·exact V.kv kv z
 ·intro kv h;rcases oV h with z|⟨d,hd',rfl⟩
  ·simp at z
  ·rcases c6.mp hd' with z|z
   ·exact entT W Wo d (ca.mp z).1
   ·exact entT V Vo d (ca.mp z).1
theorem Ce (W:hd.In c own) (V:tl.In c own) (hi:i<c) (hj:j<c) (hs:(hd.seen i).getD i 0=own i):((hd.hear i tl j).seen i).getD i 0=own i:=by
 have:(hd.hear i tl j).seen i=bu mx (hd.seen i) (tl.seen j):=by
  show((bu (bu mx) hd.knows tl.knows).set i _).getD i []=_
  rw[ax,du (by rw[fu,W.len,V.len,jp];exact hi)];rfl
 rw[this,wV (by rw[W.seenLen hi];exact hi) (by rw[V.seenLen hj];exact hi),hs]
 have:=(V.kb _ (V.seenMem hj) i hi).2
 unfold mx;rw[if_neg (by omega)]
theorem Hd.Ok.marksLen (Wo:hd.Ok c) (x:Str):(hd.marksK x).length<64:=by
 unfold Hd.marksK;rw[ak];exact mw (d8 ..) Wo.entsLen
theorem Hd.In.marks (W:hd.In c own) (Wo:hd.Ok c) (x:Str):∀ q∈hd.marksK x,KeyIn c own q:=fun q hq=>by
 obtain⟨kv,h1,rfl⟩:=az.mp (Wo.marksIn x q hq);obtain⟨a,b,h2,h3,h4,e,_⟩:=W.tk kv h1;exact⟨a,b,h2,h3,h4,e⟩
end
theorem qA:∀ {U:List (List Key)},eZ U=true->(∀ k∈U,∃ a,fC k=xo a)/\∀ k∈U,∀ k'∈U,fC k=fC k'->k=k'
 |[],_=>⟨fun k h=>by simp at h,fun k h=>by simp at h⟩
 |k::r,h=>by
  have h':((fC k).isSome&&r.all (fun k'=>match fC k,fC k' with
   |some a,xo b=>decide (a≠b)
   |_,_=>false)&&eZ r)=true:=h
  rw[br,br] at h';obtain⟨⟨h0,ha⟩,hr⟩:=h';obtain⟨i1,i2⟩:=qA hr;have main:∀ y∈r,fC k=fC y->False:=fun y hy e=>by
   have:=fh.mp ha y hy
   split at this
   ·rename_i a b e1 e2
    rw[e1,e2] at e;cases e;simp at this
   ·cases this
  refine⟨fun q hq=> ?_,fun q hq q' hq' e=> ?_⟩
  ·rcases aj.mp hq with rfl|hq
   ·exact mq.mp h0
   ·exact i1 q hq
  ·rcases aj.mp hq with z|hq1
   ·rcases aj.mp hq' with z'|hq2
    ·rw[z,z']
    ·rw[z] at e;exact(main q' hq2 e).elim
   ·rcases aj.mp hq' with z'|hq2
    ·rw[z'] at e;exact(main q hq1 e.symm).elim
    ·exact i2 q hq1 q' hq2 e
theorem nB (hU:eZ U=true):∀ {ks:List (List Key)},(∀ k∈ks,k∈U)->ks.Nodup->eZ ks=true
 |[],_,_=>rfl
 |k::r,hs,nd=>by
  rw[b8] at nd;obtain⟨s1,s2⟩:=qA hU;have hk:=hs k ar;obtain⟨a,ea⟩:=s1 k hk
  show((fC k).isSome&&r.all (fun k'=>match fC k,fC k' with
   |some a,xo b=>decide (a≠b)
   |_,_=>false)&&eZ r)=true
  rw[br,br];refine⟨⟨by rw[ea];rfl,?_⟩,nB hU (fun q hq=>hs q (ai _ hq)) nd.2⟩;rw[fh];intro k' hk';obtain⟨b,eb⟩:=s1 k' (hs k' (ai _ hk'));rw[ea,eb];show decide (a≠b)=true;refine decide_eq_true fun z=>nd.1 ?_;rw[s2 k hk k' (hs k' (ai _ hk')) (by rw[ea,eb,z])];exact hk'
theorem RowsAt.mem (h:RowsAt ω rs kn):∀ r∈rs,∃ xs,ω[r]?=xo (.ml (iv xs)):=by
 induction h with
 |nil=>intro r hr;simp at hr
 |cons h0 _ ih=>
  intro r hr;rcases aj.mp hr with rfl|hr
  ·exact⟨_,h0⟩
  ·exact ih r hr
theorem CO (h:RowsAt ω rs kn):(rs.map D.obj).map (fun d=>D.lst ((bY ω d).getD []))=kn.map fun xs=>D.lst (iv xs):=by
 induction h with
 |nil=>rfl
 |@cons r x rs kn h0 _ ih=>
  rw[bg,bg,bg,ih]
  have:bY ω (.obj r)=xo (iv x):=by simp only[bY,eJ,h0]
  rw[this];rfl
theorem kR (h:ω[n]?=xo (.ml ds)):iO n ds ω=true:=by
 unfold iO;rw[h];exact sameDs_refl _
theorem OL (a b a' b':Int):∃ c,dZ 4 (.tup [.int a,.int b]) (.tup [.int a',.int b'])=xo c:=by
 show ∃ c,(match eqD 4 (.int a) (.int a') with
  |some true=>(match eqD 4 (.int b) (.int b') with
   |some true=>xo _
   |some false=>fS (.int b) (.int b')
   |none=>xp)
  |some false=>fS (.int a) (.int a')
  |none=>xp)=xo c
 have e1:eqD 4 (.int a) (.int a')=xo (decide (a=a')):=rfl;have e2:eqD 4 (.int b) (.int b')=xo (decide (b=b')):=rfl;rw[e1,e2];cases decide (a=a') with
 |false=>exact⟨_,rfl⟩
 |true=>
  cases decide (b=b') with
  |false=>exact⟨_,rfl⟩
  |true=>exact⟨_,rfl⟩
section
variable {ω:Om}{h k t e:Nat}{i c:Nat}{hd:Hd}{rs fp:List Nat}{own:Nat->Nat}
theorem Ig (H:HandAt ω h i hd k t e rs) (hl:rs.length<=sizeLine):gC [.obj h] ω=xo (.ok (.lst (hd.knows.map fun xs=>.lst (iv xs))),ω):=by
 refine aT rfl (bE (fB (ds:=rs.map D.obj) (chk:=iO k (rs.map D.obj)) (ω1:=ω) ?_ (by simpa using hl) ?_))
 ·unfold oIL;rw[bF (H.knows (aB rfl))]
  have:lX ω (.obj k)=xo (rs.map D.obj,iO k (rs.map D.obj)):=by simp only[lX,H.kn]
  show oR (pu (lX ω (.obj k)) ω)=_;rw[this];rfl
 ·rw[<- CO H.rows];refine iE (fun ρ=>ρ.length=1) (kR H.kn) rfl fun d hd ρ hρ=> ?_;obtain⟨r,hr,rfl⟩:=az.mp hd;obtain⟨xs,ex⟩:=H.rows.mem r hr
  match ρ,hρ with
  |[u],_=>
   refine⟨_,rfl,rfl,cI (aA (aB (d:=.obj r) rfl) aD) ?_⟩
   have:bY ω (.obj r)=xo (iv xs):=by simp only[bY,eJ,ex]
   show(bY ω (.obj r)).map _=_
   rw[this];rfl
theorem GV (H:HandAt ω h i hd k t e rs) (hi:i<hd.knows.length) (ef:f ρ ω=xo (.ok (.obj h),ω)):oL iL (aC (bH 0 "seen" bV f aM) aM) ρ ω=xo (.ok (.lst (iv (hd.seen i))),ω):=by
 obtain⟨r,hr,er⟩:=H.seenRow hi;refine cI (aA (cF ef H.obj rfl (kN H hr)) aD) ?_
 have:bY ω (.obj r)=xo (iv (hd.seen i)):=by simp only[bY,eJ,er]
 show(bY ω (.obj r)).map _=_
 rw[this];rfl
noncomputable def Hd.mindK (hd:Hd):List D:=(eD 4 (hd.kept.map fun p=>bI p.1)).getD []
noncomputable def Hd.mindV (hd:Hd) (q:D):D:=match DY q with
 |some k=>(match iI hd.kept k with
  |some (.tup ds)=>.lst ds
  |_=>.non)
 |none=>.non
noncomputable def Hd.mind (hd:Hd):List D:=hd.mindK.map fun q=>.tup [q,hd.mindV q]
theorem Hd.Ok.mindK (W:hd.Ok c):eD 4 (hd.kept.map fun p=>bI p.1)=xo hd.mindK/\hd.mindK.Perm (hd.kept.map fun p=>bI p.1):=by
 have key:∀ d∈hd.kept.map fun p=>bI p.1,∃ a b:Int,d=.tup [.int a,.int b]:=fun d hd'=>by
  obtain⟨kv,h1,rfl⟩:=az.mp hd';obtain⟨a,b,e,_⟩:=W.kk kv h1;exact⟨a,b,by show bI kv.1=_;rw[e];rfl⟩
 obtain⟨out,e1,e2⟩:=uP (m:=4) (ds:=hd.kept.map fun p=>bI p.1) (by rw[ak];exact W.kl) (by
  unfold iW;rw[ie];left;rw[fh];intro d hd';obtain⟨a,b,rfl⟩:=key d hd';rfl) (fun x hx y hy=>by
  obtain⟨a,b,rfl⟩:=key x hx;obtain⟨a',b',rfl⟩:=key y hy;exact OL a b a' b')
 have:hd.mindK=out:=by unfold Hd.mindK;rw[e1];rfl
 rw[this];exact⟨e1,e2⟩
theorem HX (W:hd.In c own) (hq:q∈hd.kept):∃ ks:List (List Key),iI hd.kept q.1=xo (.tup (ks.map bI))/\hd.mindV (bI q.1)=.lst (ks.map bI)/\ks.length<64/\∀ x∈ks,KeyIn c own x:=by
 obtain⟨ks,e,hl,h2⟩:=W.kv q hq;have e1:=Ac W.kn hq;rw[e] at e1;refine⟨ks,e1,?_,hl,h2⟩;unfold Hd.mindV;rw[BB]
 show(match iI hd.kept q.1 with
  |some (.tup ds)=>D.lst ds
  |_=>.non)=_
 rw[e1]
theorem Dp (H:HandAt ω h i hd k t e rs) (W:hd.Ok c) (I:hd.In c own):eQ [.obj h] ω=xo (.ok (.lst hd.mind),ω):=by
 have hl:hd.mindK.length<64:=by rw[W.mindK.2.length_eq,ak];exact W.kl
 refine aT rfl (bE (fB (ds:=hd.mindK) (chk:=bK) (ω1:=ω) ?_ (g9 (eE hl)) ?_))
 ·unfold oIL;rw[bF (cI (d:=.lst hd.mindK) (ω2:=ω) (aA (H.kept (aB rfl)) aD) (by
   simp only[FP,cellOf,H.kp];rw[W.mindK.1];rfl))]
  rfl
 ·refine iE (fun ρ=>∃ u,ρ=[u,xo (.obj h)]) rfl ⟨_,rfl⟩ fun d hd' ρ hρ=> ?_;obtain⟨q,hq,rfl⟩:=az.mp (W.mindK.2.mem_iff.mp hd');obtain⟨ks,e1,e2,_⟩:=HX I hq;obtain⟨u,rfl⟩:=hρ;refine⟨_,rfl,⟨_,rfl⟩,cI (aA (aB (d:=bI q.1) rfl) (aA (cI (aA (dY (d:=.tup (ks.map bI)) (H.kept (aB rfl)) (aB (d:=bI q.1) rfl) (by
   show pu (iQ ω (.obj e) (bI q.1)) ω=_
   have:iQ ω (.obj e) (bI q.1)=xo (.tup (ks.map bI)):=by
    simp only[iQ,Ea,cellOf,H.kp,BB];rw[sv,e1];rfl
   rw[this];rfl)) aD) (d:=.lst (ks.map bI)) rfl) aD)) ?_⟩
  show pu (nJ [bI q.1,.lst (ks.map bI)]) ω=xo (D.tup [bI q.1,hd.mindV (bI q.1)],ω);rw[e2];unfold nJ;rw[if_pos (by rw[bt];simp)];rfl
end
noncomputable def Hd0 (c:Nat):Hd:=⟨av c (av c 0),[],[]⟩
theorem vT:∀ c:Nat,(av c [D.int 0]).flatten=iv (av c 0)
 |0=>rfl
 |c+1=>by
  rw[fm,jc,vT c];rfl
theorem AJ {c:Nat} (c8:c<=8):∀(ds:List D) (u:Option D) (ω:Om),compLO (aS 0) bK (oPT jW) (o2 yR (zL (aC (zI 0) aM)) (zV 1)) ds [u,xo (.int c)] ω=xo ((c4 ω.length ds.length).map D.obj,ω++av ds.length (.ml (iv (av c 0))))
 |[],u,ω=>by
  show xo ([],ω)=_;simp
 |d::ds,u,ω=>by
  have ih:=AJ c8 ds (xo d) (ω++[.ml (iv (av c 0))]);have b1:o2 yR (zL (aC (zI 0) aM)) (zV 1) [xo d,xo (.int c)] ω=xo (.ok (.obj ω.length),ω++[.ml (iv (av c 0))]):=by
   refine dY (ω1:=ω) (ω2:=ω) (a:=.lst [.int 0]) (b:=.int c) (cI (aA aQ aD) ?_) (aB rfl) ?_
   ·show pu (Dx [.int 0]) ω=_;unfold Dx;rw[if_pos (by rw[bt];simp)];rfl
   ·show(if -1000000<=(c:Int)/\(c:Int)<=1000000/\1*(c:Int).toNat<=sizeLine then xo (D.obj ω.length,ω++[.ml (av (c:Int).toNat [D.int 0]).flatten]) else xp)=_
    rw[if_pos ⟨by omega,by omega,by rw[bt];omega⟩,cy,vT]
  refine(qX rfl rfl (b1)).trans ?_;rw[ih,b4,kh,bg,fm,bx];show xo (_,_)=_;rw[fy];rfl
theorem Iw {c:Nat} (c8:c<=1000):gN [.int (c:Int)]=xo (lG 0 c):=by
 show(if -1000000000<=(c:Int)/\(c:Int)<=1000000000 then xo (lG 0 (c:Int).toNat) else xp)=_
 rw[if_pos ⟨by omega,by omega⟩,cy]
theorem iV (e:f ρ ω=xo (.ok (.int c),ω1)) (c8:c<=1000):oIA gN (aC f aM) ρ ω=xo (.ok (lG 0 c,bK),ω1):=by
 unfold oIA;rw[bF (aA e aD)];show oR (pu ((gN [.int (c:Int)]).map _) ω1)=_;rw[Iw c8];rfl
theorem Fz {i c:Nat} (c8:c<=8):∃ ω' fp,dU [.obj ω.length,.int i,.int c] (ω++[.ins 0 []])=xo (.ok .non,ω')/\HandS ω' ω.length i (Hd0 c) fp/\Keep [] ω ω'/\∀ n∈fp,ω.length<=n:=by
 obtain⟨ω1,hω1⟩:∃ ω1,ω1=(ω++[Ob.ins 0 []]).set ω.length (.ins 0 [("number",.int i)]):=⟨_,rfl⟩;have g0:(ω++[Ob.ins 0 []])[ω.length]?=xo (.ins 0 []):=by simp
 have g1:ω1[ω.length]?=xo (.ins 0 [("number",.int i)]):=by rw[hω1];exact bU g0
 have l1:ω1.length=ω.length+1:=by rw[hω1];simp
 have k1:∀ n,n<ω.length->ω1[n]?=ω[n]?:=fun n hn=>by rw[hω1,aJ (by omega),am hn]
 have fill:=AJ c8 (lG 0 c) xp ω1;rw[gB] at fill;obtain⟨ω2,hω2⟩:∃ ω2,ω2=ω1++av c (Ob.ml (iv (av c 0))):=⟨_,rfl⟩;rw[<- hω2] at fill;have l2:ω2.length=ω.length+1+c:=by rw[hω2];simp[l1]
 obtain⟨ω3,hω3⟩:∃ ω3,ω3=ω2++[Ob.ml ((c4 ω1.length c).map D.obj)]:=⟨_,rfl⟩;have l3:ω3.length=ω.length+2+c:=by rw[hω3];simp[l2];omega
 have k3:∀ n,n<ω.length+1->ω3[n]?=ω1[n]?:=fun n hn=>by rw[hω3,am (by omega),hω2,am (by omega)]
 have g3:ω3[ω.length]?=xo (.ins 0 [("number",.int i)]):=by rw[k3 _ (by omega)];exact g1
 have r3:RowsAt ω3 (c4 ω1.length c) (av c (av c 0)):=by
  have:=mP (av c (av c 0)) ω1 [Ob.ml ((c4 ω1.length c).map D.obj)]
  rw[List.map_replicate,ju,<- hω2,<- hω3] at this;exact this
 have kk3:ω3[ω2.length]?=xo (.ml ((c4 ω1.length c).map D.obj)):=by rw[hω3];simp
 obtain⟨ω4,hω4⟩:∃ ω4,ω4=ω3.set ω.length (.ins 0 [("number",.int i),("knows",.obj ω2.length)]):=⟨_,rfl⟩;have l4:ω4.length=ω.length+2+c:=by rw[hω4];simp[l3]
 have g4:ω4[ω.length]?=xo (.ins 0 [("number",.int i),("knows",.obj ω2.length)]):=by rw[hω4];exact bU g3
 obtain⟨ω5,hω5⟩:∃ ω5,ω5=(ω4++[Ob.dt []]).set ω.length (.ins 0 [("number",.int i),("knows",.obj ω2.length),("table",.obj ω4.length)]):=⟨_,rfl⟩;have g4':(ω4++[Ob.dt []])[ω.length]?=xo (.ins 0 [("number",.int i),("knows",.obj ω2.length)]):=by rw[am (by omega)];exact g4
 have l5:ω5.length=ω.length+3+c:=by rw[hω5];simp[l4];omega
 have g5:ω5[ω.length]?=xo (.ins 0 [("number",.int i),("knows",.obj ω2.length),("table",.obj ω4.length)]):=by rw[hω5];exact bU g4'
 have t5:ω5[ω4.length]?=xo (.dt []):=by rw[hω5,aJ (by omega)];simp
 obtain⟨ω6,hω6⟩:∃ ω6,ω6=(ω5++[Ob.dt []]).set ω.length (.ins 0 [("number",.int i),("knows",.obj ω2.length),("table",.obj ω4.length),("kept",.obj ω5.length)]):=⟨_,rfl⟩;have g5':(ω5++[Ob.dt []])[ω.length]?=xo (.ins 0 [("number",.int i),("knows",.obj ω2.length),("table",.obj ω4.length)]):=by rw[am (by omega)];exact g5
 have l6:ω6.length=ω.length+4+c:=by rw[hω6];simp[l5];omega
 have g6:∀ n,n<ω.length+2+c->n≠ω.length->ω6[n]?=ω3[n]?:=fun n hn hne=>by
  rw[hω6,aJ hne,am (by omega),hω5,aJ hne,am (by omega),hω4,aJ hne]
 have rin:∀ q∈c4 ω1.length c,ω.length+1<=q/\q<ω.length+1+c:=fun q hq=>by
  rw[nu,l1] at hq;exact hq
 refine⟨ω6,ω.length::ω2.length::ω4.length::ω5.length::c4 ω1.length c,?_,⟨ω2.length,ω4.length,ω5.length,c4 ω1.length c,⟨?_,?_,?_,?_,?_,?_⟩,rfl⟩,⟨by omega,fun n hn _=> ?_⟩,fun n hn=> ?_⟩
 ·refine uT (ρ1:=[xo (.obj ω.length),xo (.int i),xo (.int c)]) rfl ?_;unfold lU;rw[aZ (kM (aB (d:=.int i) rfl) (aB (d:=.obj ω.length) rfl) g0 (by simp))];rw[show(ω++[Ob.ins 0 []]).set ω.length (.ins 0 (lI "number" (.int i) []))=ω1 from by rw[hω1];rfl];rw[aZ (kM (pQ (ω2:=ω2) (iV (c:=c) (aB rfl) (by omega)) (by rw[gB,bt];omega) fill) (by rw[<- hω3];exact aB (d:=.obj ω.length) rfl) g3 (by simp))];rw[show ω3.set ω.length (.ins 0 (lI "knows" (.obj ω2.length) [("number",.int i)]))=ω4 from by rw[hω4];rfl];rw[aZ (kM (v:=.obj ω4.length) (ω1:=ω4++[.dt []]) rfl (aB (d:=.obj ω.length) rfl) g4' (by simp))];rw[show(ω4++[Ob.dt []]).set ω.length (.ins 0 (lI "table" (.obj ω4.length) [("number",.int i),("knows",.obj ω2.length)]))=ω5 from by rw[hω5];rfl];rw[kM (v:=.obj ω5.length) (ω1:=ω5++[.dt []]) rfl (aB (d:=.obj ω.length) rfl) g5' (by simp)];rw[show(ω5++[Ob.dt []]).set ω.length (.ins 0 (lI "kept" (.obj ω5.length) [("number",.int i),("knows",.obj ω2.length),("table",.obj ω4.length)]))=ω6 from by rw[hω6];rfl];rfl
 ·rw[hω6];exact bU g5'
 ·rw[g6 _ (by omega) (by omega)];exact kk3
 ·exact r3.mono fun q hq=>by have:=rin q hq;exact g6 q (by omega) (by omega)
 ·rw[hω6,aJ (by omega),am (by omega)];exact t5
 ·rw[hω6,aJ (by omega)];simp[Hd0]
 ·simp only[b8,aj,not_or];refine⟨⟨by omega,by omega,by omega,fun z=>by have:=rin _ z;omega⟩,⟨by omega,by omega,fun z=>by have:=rin _ z;omega⟩,⟨by omega,fun z=>by have:=rin _ z;omega⟩,fun z=>by have:=rin _ z;omega,vy⟩
 ·rw[g6 n (by omega) (by omega),k3 n (by omega)];exact k1 n hn
 ·simp only[aj] at hn;rcases hn with z|z|z|z|z
  ·omega
  ·omega
  ·omega
  ·omega
  ·have:=rin n z;omega
theorem Fg (e1:fl ρ ω=xo (.ok ds,ω1)) (e2:φ (.obj ω1.length::ds) (ω1++[.ins cl []])=xo (.ok .non,ω2)):vB cl φ fl ρ ω=xo (.ok (.obj ω1.length),ω2):=by
 unfold vB;rw[bF e1]
 show(match φ (.obj ω1.length::ds) (ω1++[.ins cl []]) with
  |some (.ok .non,ω')=>xo (Rz.ok (D.obj ω1.length),ω')
  |some (.ex c,ω')=>xo (.ex c,ω')
  |_=>xp)=_
 rw[e2]
theorem eW (s:Int) (m:Nat):lG s (m+1)=.int s::lG (s+1) m:=by
 unfold lG;rw[tw,bg,fj]
 congr 1
 ·simp
 ·apply eu;intro k _;show D.int (s+((k+1:Nat):Int))=D.int (s+1+(k:Int))
  congr 1
  omega
theorem Cg {c:Nat} (c8:c<=8):∀(m s:Nat) (u:Option D) (ω:Om),∃(ω':Om) (hs:Nat->Nat) (fp:Nat->List Nat),compLO (aS 0) bK (oPT jW) (vB 0 dU (aC (zV 0) (aC (zV 1) aM))) (lG s m) [u,xo (.int c)] ω=xo ((c4 s m).map fun i=>D.obj (hs i),ω')/\
  (∀ i,s<=i->i<s+m->HandS ω' (hs i) i (Hd0 c) (fp i))/\(∀ i,s<=i->i<s+m->∀ n∈fp i,ω.length<=n)/\(∀ i,s<=i->i<s+m->∀ j,s<=j->j<s+m->i≠j->∀ n∈fp i,n∉fp j)/\Keep [] ω ω'
 |0,s,u,ω=>⟨ω,fun _=>0,fun _=>[],rfl,fun i h1 h2=>by omega,fun i h1 h2=>by omega,fun i h1 h2=>by omega,Keep.refl _ _⟩
 |m+1,s,u,ω=>by
  obtain⟨ω1,fp0,e1,H1,K1,F1⟩:=Fz (ω:=ω) (i:=s) c8;obtain⟨ω2,hs,fp,e2,H2,F2,A2,K2⟩:=Cg c8 m (s+1) (xo (.int s)) ω1;have ltH:=H1.lt;refine⟨ω2,fun i=>if i=s then ω.length else hs i,fun i=>if i=s then fp0 else fp i,?_,fun i h1 h2=> ?_,fun i h1 h2 n hn=> ?_,fun i h1 h2 j h3 h4 hne n hn=> ?_,⟨cf K1.1 K2.1,fun n hn _=> ?_⟩⟩
  ·rw[eW];have mk:vB 0 dU (aC (zV 0) (aC (zV 1) aM)) [xo (.int s),xo (.int c)] ω=xo (.ok (.obj ω.length),ω1):=Fg (aA (aB rfl) (aA (aB rfl) aD)) e1;refine(qX rfl rfl (mk)).trans ?_
   show(compLO _ _ _ _ (lG ((s+1:Nat):Int) m) _ _).map _=_
   rw[e2,kh,bg];show xo (_::_,_)=_
   congr 3
   ·simp
   ·apply eu;intro i hi;rw[nu] at hi;show D.obj (hs i)=D.obj (if i=s then ω.length else hs i);rw[if_neg (by omega)]
  ·by_cases hi:i=s
   ·subst hi;simp only[if_pos];exact H1.mono fun n hn=>K2.2 n (ltH n hn) (by simp)
   ·simp only[if_neg hi];exact H2 i (by omega) (by omega)
  ·by_cases hi:i=s
   ·simp only[if_pos hi] at hn;exact F1 n hn
   ·simp only[if_neg hi] at hn;exact cf K1.1 (F2 i (by omega) (by omega) n hn)
  ·by_cases hi:i=s
   ·by_cases hj:j=s
    ·exact absurd (hi.trans hj.symm) hne
    ·simp only[if_pos hi] at hn;simp only[if_neg hj];intro z
     have:=F2 j (by omega) (by omega) n z
     have:=ltH n hn
     omega
   ·simp only[if_neg hi] at hn
    by_cases hj:j=s
    ·simp only[if_pos hj];intro z
     have:=F2 i (by omega) (by omega) n hn
     have:=ltH n z
     omega
    ·simp only[if_neg hj];exact A2 i (by omega) (by omega) j (by omega) (by omega) hne n hn
  ·rw[K2.2 n (b7 hn K1.1) (by simp)];exact K1.2 n hn (by simp)
structure HallS (B ω:Om) (g c:Nat) (hs:Nat->Nat) (fp:Nat->List Nat) (S:Nat->Hd):Prop where
 obj:ω[g]?=xo (.ins 1 [("hands",.lst ((bp c).map fun i=>.obj (hs i)))])
 hand:∀ i,i<c->HandS ω (hs i) i (S i) (fp i)
 apart:∀ i,i<c->∀ j,j<c->i≠j->∀ n∈fp i,n∉fp j
 out:∀ i,i<c->g∉fp i
 low:∀ i,i<c->∀ n∈fp i,B.length<=n
 bas:B.length<=ω.length/\∀ n,n<B.length->ω[n]?=B[n]?
theorem FE (c8:c<=8) (e:fl ρ ω=xo (.ok [.int c],ω)):∃ ω' hs fp,vB 1 gT fl ρ ω=xo (.ok (.obj ω.length),ω')/\HallS ω ω' ω.length c hs fp (fun _=>Hd0 c):=by
 obtain⟨ω1,hs,fp,e1,H1,F1,A1,K1⟩:=Cg c8 c 0 xp (ω++[Ob.ins 1 []]);have g0:(ω++[Ob.ins 1 []])[ω.length]?=xo (.ins 1 []):=by simp
 have g1:ω1[ω.length]?=xo (.ins 1 []):=(K1.2 _ (by simp) (by simp)).trans g0;have l1:=K1.1;rw[bx] at l1;have hl:[Ob.ins 1 []].length=1:=rfl;have f1:∀ i,i<c->∀ n∈fp i,n≠ω.length:=fun i hi n hn z=>by
  have:=F1 i (by omega) (by omega) n hn
  rw[bx] at this;omega
 refine⟨ω1.set ω.length (.ins 1 [("hands",.lst ((bp c).map fun i=>.obj (hs i)))]),hs,fp,Fg e ?_,⟨bU g1,fun i hi=> ?_,fun i hi j hj=>A1 i (by omega) (by omega) j (by omega) (by omega),fun i hi z=>f1 i hi _ z rfl,fun i hi n hn=> ?_,⟨by simp;omega,fun n hn=> ?_⟩⟩⟩
 ·refine uT (ρ1:=[xo (.obj ω.length),xo (.int c)]) rfl ?_;unfold lW;rw[kM (fB (ω2:=ω1) (iV (c:=c) (aB rfl) (by omega)) (by rw[gB,bt];omega) e1) (aB (d:=.obj ω.length) rfl) g1 (by simp)];rw[<- uq];rfl
 ·exact(H1 i (by omega) (by omega)).mono fun n hn=>aJ (f1 i hi n hn)
 ·have:=F1 i (by omega) (by omega) n hn
  rw[bx] at this;omega
 ·rw[aJ (by omega),K1.2 n (by simp;omega) (by simp),am hn]
noncomputable def Mq:List (List Key)->Nat->Bool
 |[],_=>true
 |k::r,acc=>match fC k with
  |some h=> !(acc.testBit (h % 4096).toNat)&&Mq r (acc|||(1<<<(h % 4096).toNat))
  |none=>false
theorem JQ (acc i j:Nat):(acc|||(1<<<i)).testBit j=(acc.testBit j||decide (j=i)):=by
 rw[Nat.testBit_or,Nat.testBit_shiftLeft]
 congr 1
 by_cases h:j=i
 ·subst h;simp
 ·rw[decide_eq_false h]
  by_cases h2:j≥i
  ·have:j-i≠0:=by omega
   obtain⟨n,hn⟩:∃ n,j-i=n+1:=⟨j-i-1,by omega⟩;rw[hn,Nat.testBit_succ];simp
  ·simp[h2]
theorem zG:∀ {l:List (List Key)}{acc:Nat},Mq l acc=true->∀ k∈l,∃ h,fC k=xo h/\acc.testBit (h % 4096).toNat=false
 |[],_,_,k,hk=>by simp at hk
 |k::r,acc,h,q,hq=>by
  unfold Mq at h;cases hh:fC k with
  |none=>rw[hh] at h;cases h
  |some a=>
   rw[hh] at h;have h':(!(acc.testBit (a % 4096).toNat)&&Mq r (acc|||(1<<<(a % 4096).toNat)))=true:=h;rw[br] at h';rcases aj.mp hq with rfl|hq
   ·exact⟨a,hh,by simpa using h'.1⟩
   ·obtain⟨b,e1,e2⟩:=zG h'.2 q hq;rw[JQ,Bool.or_eq_false_iff] at e2;exact⟨b,e1,e2.1⟩
theorem Gq:∀ {l:List (List Key)}{acc:Nat},Mq l acc=true->eZ l=true
 |[],_,_=>rfl
 |k::r,acc,h=>by
  unfold Mq at h;cases hh:fC k with
  |none=>rw[hh] at h;cases h
  |some a=>
   rw[hh] at h;have h':(!(acc.testBit (a % 4096).toNat)&&Mq r (acc|||(1<<<(a % 4096).toNat)))=true:=h;rw[br] at h'
   show((fC k).isSome&&r.all (fun k'=>match fC k,fC k' with
    |some a,xo b=>decide (a≠b)
    |_,_=>false)&&eZ r)=true
   rw[br,br];refine⟨⟨by rw[hh];rfl,?_⟩,Gq h'.2⟩;rw[fh];intro k' hk';obtain⟨b,e1,e2⟩:=zG h'.2 k' hk';rw[hh,e1];refine decide_eq_true fun z=> ?_;rw[JQ,<- z] at e2;simp at e2
theorem Fx:eZ (univ 8 fun _=>63)=true:=Gq (acc:=0) (by decide+kernel)
noncomputable def mV (S:Nat->Hd) (i:Nat) (hd:Hd):Nat->Hd:=fun j=>if j=i then hd else S j
theorem iS:mV S i hd i=hd:=if_pos rfl
theorem iR (h:j≠i):mV S i hd j=S j:=if_neg h
inductive Deed where
 |put (a:Int) (x:Str) (v:Int)
 |change (a:Int) (x:Str) (v:Int)
 |take (a:Int) (x:Str)
 |tell (a b:Int)
 |meet (a b:Int)
noncomputable def Deed.d:Deed->D
 |.put a x v=>.tup [.str "put",.int a,.str x,.int v]
 |.change a x v=>.tup [.str "change",.int a,.str x,.int v]
 |.take a x=>.tup [.str "take",.int a,.str x]
 |.tell a b=>.tup [.str "tell",.int a,.int b]
 |.meet a b=>.tup [.str "meet",.int a,.int b]
noncomputable def iT (S:Nat->Hd) (a b:Nat):Nat->Hd:=mV S b ((S b).hear b (S a) a)
noncomputable def rR (S:Nat->Hd) (a b:Nat):Int:=PH ((S b).seen b) ((S a).seen a)
noncomputable def rT (S:Nat->Hd) (a b:Nat):Nat->Hd:=iT (iT (iT S a b) b a) a b
noncomputable def step (c:Nat) (S:Nat->Hd):Deed->D×(Nat->Hd)
 |.put a x v=>if 0<=a/\a<c then(mkD a.toNat ((S a.toNat).next a.toNat),mV S a.toNat ((S a.toNat).put a.toNat x v)) else(.str "no hand",S)
 |.change a x v=>if 0<=a/\a<c then(mkD a.toNat ((S a.toNat).next a.toNat),mV S a.toNat ((S a.toNat).change a.toNat x v)) else(.str "no hand",S)
 |.take a x=>if 0<=a/\a<c then((S a.toNat).takeA x,mV S a.toNat ((S a.toNat).take a.toNat x)) else(.str "no hand",S)
 |.tell a b=>if(0<=a/\a<c)/\(0<=b/\b<c) then(if a=b then(.str "same hand",S) else(.int (rR S a.toNat b.toNat),iT S a.toNat b.toNat)) else(.str "no hand",S)
 |.meet a b=>if(0<=a/\a<c)/\(0<=b/\b<c) then(if a=b then(.str "same hand",S) else(.tup [.int (rR (iT S a.toNat b.toNat) b.toNat a.toNat),.int (rR S a.toNat b.toNat)],rT S a.toNat b.toNat)) else(.str "no hand",S)
def HInv (c:Nat) (own:Nat->Nat) (S:Nat->Hd):Prop:=∀ a,a<c->(S a).In c own/\((S a).seen a).getD a 0=own a
theorem jN (own:Nat->Nat) (i:Nat):∀ c,tot c (cP own i)=tot c own+if i<c then 1 else 0
 |0=>rfl
 |c+1=>by
  have ih:=jN own i c;unfold tot at ih ⊢;rw[k8,b9,b9,pf,pf,ih];simp only[bg,k9,List.sum_cons,List.sum_nil];unfold cP
  by_cases h1:i<c
  ·rw[if_pos h1,if_neg (by omega),if_pos (by omega)];omega
  ·rw[if_neg h1]
   by_cases h2:c=i
   ·rw[if_pos h2,if_pos (by omega)];omega
   ·rw[if_neg h2,if_neg (by omega)];omega
theorem JB (own:Nat->Nat) (a:Nat):∀ c,a<c->own a<=tot c own
 |0,h=>by omega
 |c+1,h=>by
  have ih:=JB own a c;unfold tot at ih ⊢;rw[k8,b9,pf];simp only[bg,k9,List.sum_cons,List.sum_nil]
  by_cases h1:a<c
  ·have:=ih h1;omega
  ·have:a=c:=by omega
   subst this;omega
section
variable {B:Om}{c g i j:Nat}{own:Nat->Nat}{S:Nat->Hd}{ω ω':Om}{hs:Nat->Nat}{fp:Nat->List Nat}{hd':Hd}
theorem HInv.upd (I:HInv c own S) (W:hd'.In c own) (e:(hd'.seen i).getD i 0=own i):HInv c own (mV S i hd'):=fun a ha=>by
 by_cases h:a=i
 ·subst h;rw[iS];exact⟨W,e⟩
 ·rw[iR h];exact I a ha
theorem HInv.updB (I:HInv c own S) (W:hd'.In c (cP own i)) (e:(hd'.seen i).getD i 0=cP own i i):HInv c (cP own i) (mV S i hd'):=fun a ha=>by
 by_cases h:a=i
 ·subst h;rw[iS];exact⟨W,e⟩
 ·rw[iR h];refine⟨(I a ha).1.mono (iG own i),?_⟩;rw[(I a ha).2];unfold cP;rw[if_neg h]
theorem HallS.did (L:HallS B ω g c hs fp S) (hi:i<c) (D:Did ω (hs i) i (fp i) ω' hd'):∃ fp',HallS B ω' g c hs fp' (mV S i hd'):=by
 obtain⟨fi,H',K,F⟩:=D;refine⟨fun j=>if j=i then fi else fp j,⟨?_,fun j hj=> ?_,fun a ha b hb hne n hn=> ?_,fun j hj=> ?_,fun j hj n hn=> ?_,⟨cf L.bas.1 K.1,fun n hn=> ?_⟩⟩⟩
 ·rw[K.2 g (dH L.obj) (L.out i hi)];exact L.obj
 ·by_cases h:j=i
  ·subst h;rw[iS];simp only[if_pos];exact H'
  ·rw[iR h];simp only[if_neg h];exact(L.hand j hj).mono fun n hn=>K.2 n ((L.hand j hj).lt n hn) fun z=>L.apart j hj i hi h n hn z
 ·by_cases h1:a=i
  ·simp only[if_pos h1] at hn
   by_cases h2:b=i
   ·exact absurd (h1.trans h2.symm) hne
   ·simp only[if_neg h2];intro z;rcases F n hn with q|q
    ·exact L.apart i hi b hb (fun w=>h2 w.symm) n q z
    ·have:=(L.hand b hb).lt n z
     omega
  ·simp only[if_neg h1] at hn
   by_cases h2:b=i
   ·simp only[if_pos h2];intro z;rcases F n z with q|q
    ·exact L.apart a ha i hi h1 n hn q
    ·have:=(L.hand a ha).lt n hn
     omega
   ·simp only[if_neg h2];exact L.apart a ha b hb hne n hn
 ·by_cases h:j=i
  ·simp only[if_pos h];intro z;rcases F g z with q|q
   ·exact L.out i hi q
   ·have:=dH L.obj
    omega
  ·simp only[if_neg h];exact L.out j hj
 ·by_cases h:j=i
  ·simp only[if_pos h] at hn;rcases F n hn with q|q
   ·exact L.low i hi n q
   ·exact cf L.bas.1 q
  ·simp only[if_neg h] at hn;exact L.low j hj n hn
 ·rw[K.2 n (b7 hn L.bas.1) fun z=>absurd hn (ul.mpr (L.low i hi n z))];exact L.bas.2 n hn
end
section
variable {α β:Type}{f h fo:OG D}{fl:OG (List D)}{ρ:Rho}{ω ω1 ω2 ω3:Om}{a b d:D}{ds:List D}{F G:OS}{x:Nat}{r:Rz D}
theorem HP {f:OG α}{g:α->OG β} (e:f ρ ω=xo (.ex x,ω1)):oB f g ρ ω=xo (.ex x,ω1):=by unfold oB;rw[e]
theorem As (e:fo ρ ω=xo (.ex x,ω1)):bH c m φ fo fl ρ ω=xo (.ex x,ω1):=HP e
theorem xZ (e:f ρ ω=xo (.ex x,ω1)):aC f fl ρ ω=xo (.ex x,ω1):=HP e
theorem EY (e1:f ρ ω=xo (.ok a,ω1)) (e2:fl ρ ω1=xo (.ex x,ω2)):aC f fl ρ ω=xo (.ex x,ω2):=by
 unfold aC;rw[bF e1,HP e2]
theorem OB (e:fl ρ ω=xo (.ex x,ω1)):oL g fl ρ ω=xo (.ex x,ω1):=HP e
theorem EX {f:OG α} (e:f ρ ω=xo (.ex x,ω1)):oX f g ρ ω=xo (.ex x,ω1):=by unfold oX;rw[e]
noncomputable def Kd:Rz D->OOut
 |.ok d=>.rt d
 |.ex c=>.ex c
theorem iU (e:f ρ ω=xo (r,ω1)):aW f ρ ω=xo (Kd r,ω1):=by
 cases r with
 |ok d=>exact bE e
 |ex c=>exact EX e
theorem uS (e:F ρ ω=xo (Kd r,ω1)):aF F G ρ ω=xo (Kd r,ω1):=by
 unfold aF;rw[e];cases r <;> rfl
theorem dS (hl:ds.length=n) (e:G (cB N ds) ω=xo (Kd r,ω1)):eB n N G ds ω=xo (r,ω1):=by
 unfold eB;rw[if_pos hl,e];cases r <;> rfl
end
section
variable {B:Om}{c g i j:Nat}{own:Nat->Nat}{S:Nat->Hd}{ω ω':Om}{hs:Nat->Nat}{fp:Nat->List Nat}{hd':Hd}
theorem qC (L:HallS B ω g c hs fp S) (ef:f ρ ω=xo (.ok (.obj g),ω)):fZ 1 "hands" f ρ ω=xo (.ok (.lst ((bp c).map fun i=>.obj (hs i))),ω):=fV ef L.obj rfl
theorem lR (L:HallS B ω g c hs fp S) (a:Int):bM [.obj g,.int a] ω=if 0<=a/\a<c then xo (.ok (.obj (hs a.toNat)),ω) else xo (.ex 0,ω):=by
 have len:oL iP (aC (fZ 1 "hands" (zV 0)) aM) [xo (.obj g),xo (.int a)] ω=xo (.ok (.int c),ω):=cI (aA (qC L (aB rfl)) aD) (by
  show xo (D.int (((bp c).map fun i=>D.obj (hs i)).length:Nat),ω)=_;rw[ak,gq])
 have ch:tE gLe gLt (zI 0) (zV 1) (oL iP (aC (fZ 1 "hands" (zV 0)) aM)) [xo (.obj g),xo (.int a)] ω=xo (.ok (decide (0<=a/\a<c)),ω):=by
  unfold tE;rw[bF aQ,bF (aB (d:=.int a) rfl)]
  show(match xo (decide (0<=a)) with
   |none=>xp
   |some true=>oB _ (fun z _ ω=>oR (pu ((gLt (.int a) z).bind toB) ω)) [xo (.obj g),xo (.int a)] ω
   |some false=>xo (Rz.ok false,ω))=_
  by_cases h0:0<=a
  ·rw[decide_eq_true h0];show oB _ (fun z _ ω=>oR (pu ((gLt (.int a) z).bind toB) ω)) [xo (.obj g),xo (.int a)] ω=_;rw[bF len];show xo (Rz.ok (decide (a<(c:Int))),ω)=_;simp[h0]
  ·rw[decide_eq_false h0];simp[h0]
 have nt:jY (tE gLe gLt (zI 0) (zV 1) (oL iP (aC (fZ 1 "hands" (zV 0)) aM))) [xo (.obj g),xo (.int a)] ω=xo (.ok (!decide (0<=a/\a<c)),ω):=by
  unfold jY;rw[bF ch]
 by_cases h:0<=a/\a<c
 ·rw[if_pos h];rw[decide_eq_true h] at nt;refine aT rfl ?_;unfold kX;rw[aZ (ρ1:=[xo (.obj g),xo (.int a)]) (ω1:=ω) (by
   show dQ _ _ _ [xo (.obj g),xo (.int a)] ω=_;rw[kO nt];rfl)]
  refine bE (aK (qC L (aB rfl)) (aB (d:=.int a) rfl) ?_);show atI ((bp c).map fun i=>D.obj (hs i)) a=_;unfold atI ixN;rw[if_pos h.1,if_pos (by rw[ak,gq];exact h.2)]
  show((bp c).map fun i=>D.obj (hs i))[a.toNat]?=_
  rw[ay,di (by omega)];rfl
 ·rw[if_neg h];rw[decide_eq_false h] at nt;refine dS (r:=.ex 0) rfl ?_;unfold kX;refine uS (r:=.ex 0) ?_;show dQ _ _ _ [xo (.obj g),xo (.int a)] ω=_;rw[mO nt];rfl
theorem LI (h1:ρ[k]?=xo (xo (.int a))) (h2:ρ[l]?=xo (xo (.int b))):cA (o2 (iM 8) (zV k) (zV l)) ρ ω=xo (.ok (decide (a=b)),ω):=cC (dY (aB h1) (aB h2) rfl)
theorem qD (L:HallS B ω g c hs fp S) (a b:Int):bW [.obj g,.int a,.int b] ω=if(0<=a/\a<c)/\(0<=b/\b<c) then(if a=b then xo (.ex 1,ω) else xo (.ok (.tup [.obj (hs a.toNat),.obj (hs b.toNat)]),ω)) else xo (.ex 0,ω):=by
 have ha:=lR L a;have hb:=lR L b;have m1:∀ {r:Rz D}{fa:OG D}{n:Int},bM [.obj g,.int n] ω=xo (r,ω)->fa [xo (.obj g),xo (.int a),xo (.int b),xp] ω=xo (.ok (.int n),ω)->bH 1 "hand" bM (zV 0) (aC fa aM) [xo (.obj g),xo (.int a),xo (.int b),xp] ω=xo (r,ω):=fun e q=>bX (aB rfl) L.obj rfl (aA q aD) e
 by_cases h1:0<=a/\a<c
 ·rw[if_pos h1] at ha
  by_cases h2:0<=b/\b<c
  ·rw[if_pos h2] at hb;rw[if_pos ⟨h1,h2⟩];have tup:zT (aC (bH 1 "hand" bM (zV 0) (aC (zV 1) aM)) (aC (bH 1 "hand" bM (zV 0) (aC (zV 2) aM)) aM)) [xo (.obj g),xo (.int a),xo (.int b),xp] ω=xo (.ok (.tup [.obj (hs a.toNat),.obj (hs b.toNat)]),ω):=cI (aA (m1 ha (aB rfl)) (aA (m1 hb (aB rfl)) aD)) (by
    show pu (nJ _) ω=_;unfold nJ;rw[if_pos (by rw[bt];simp)];rfl)
   by_cases h3:a=b
   ·rw[if_pos h3];refine dS (r:=.ex 1) rfl ?_;unfold fU;refine(aI tup).trans ?_;refine uS (r:=.ex 1) ?_;rw[mO (ω1:=ω) (by rw[LI (a:=a) (b:=b) rfl rfl,decide_eq_true h3])];rfl
   ·rw[if_neg h3];refine aT rfl ?_;unfold fU;refine(aI tup).trans ?_;rw[aZ (ρ1:=[xo (.obj g),xo (.int a),xo (.int b),xo (.tup [.obj (hs a.toNat),.obj (hs b.toNat)])]) (ω1:=ω) (by
     rw[kO (ω1:=ω) (by rw[LI (a:=a) (b:=b) rfl rfl,decide_eq_false h3])];rfl)]
    exact bE (aB rfl)
  ·rw[if_neg h2] at hb;rw[if_neg (fun z=>h2 z.2)];refine dS (r:=.ex 0) rfl ?_;unfold fU;refine uS (r:=.ex 0) (EX (OB (EY (m1 ha (aB rfl)) (xZ (m1 hb (aB rfl))))))
 ·rw[if_neg h1] at ha;rw[if_neg (fun z=>h1 z.1)];refine dS (r:=.ex 0) rfl ?_;unfold fU;refine uS (r:=.ex 0) (EX (OB (xZ (m1 ha (aB rfl)))))
end
end L2.MB.Lw
end
section
namespace L2.MB.Lw
open PySem PySem.Spec PyProof.Rows L2.MB
section
variable {B:Om}{c g i j:Nat}{own:Nat->Nat}{S:Nat->Hd}{ω ω':Om}{hs:Nat->Nat}{fp:Nat->List Nat}{hd hd':Hd}
theorem Hd.In.hash (W:hd.In c own) (c8:c<=8) (ht:tot c own<64):eZ (hd.kept.map (·.1))=true:=nB Fx (fun k hk=>by
 obtain⟨kv,h1,rfl⟩:=az.mp hk;obtain⟨a,b,h2,h3,h4,e⟩:=W.kk kv h1
 have:=JB own a c h2
 exact KeyIn.univ (own:=fun _=>63) ⟨a,b,by omega,h3,(by show b<=63;omega),e⟩) W.kn
theorem Ip (L:HallS B ω g c hs fp S) (I:HInv c own S) (c0:0<c) (c8:c<=8) (ht:tot c own<64) (hi:i<c) (hj:j<c) (hne:i≠j):∃ ω' fp',cL [.obj (hs i),.obj (hs j)] ω=xo (.ok (.int (rR S j i)),ω')/\HallS B ω' g c hs fp' (iT S j i)/\HInv c own (iT S j i):=by
 have Wi:=(I i hi).1;have Wj:=(I j hj).1;have Oi:=Wi.ok c0 c8 ht;have Oj:=Wj.ok c0 c8 ht;have H0:=Wi.hear0 Wj Oi Oj hi hj;obtain⟨ω',e,D⟩:=QT (L.hand i hi) (L.hand j hj) (fun n hn=>L.apart i hi j hj hne n hn) Oi Oj hi hj (Wj.hash c8 ht) (H0.ok c0 c8 ht);obtain⟨fp',L'⟩:=L.did hi D;exact⟨ω',fp',e,L',I.upd H0.forget (Ce Wi Wj hi hj (I i hi).2)⟩
theorem Sf (L:HallS B ω g c hs fp S) (I:HInv c own S) (c0:0<c) (c8:c<=8) (ht:tot c own<63) (hi:i<c) (x:Str) (v:Int):∃ ω' fp',eM [.obj (hs i),.str x,.int v] ω=xo (.ok (mkD i ((S i).next i)),ω')/\HallS B ω' g c hs fp' (mV S i ((S i).put i x v))/\HInv c (cP own i) (mV S i ((S i).put i x v)):=by
 have W:=(I i hi).1;have O:=W.ok c0 c8 (by omega);obtain⟨ω',e,D⟩:=RB (L.hand i hi) O hi x v;obtain⟨fp',L'⟩:=L.did hi D;exact⟨ω',fp',e,L',I.updB (W.put hi (I i hi).2 x v) (jV W hi (I i hi).2)⟩
theorem xB (hi:i<c) (ht:tot c own<63):tot c (cP own i)<64:=by
 rw[jN,if_pos hi];omega
theorem Ms (L:HallS B ω g c hs fp S) (I:HInv c own S) (c0:0<c) (c8:c<=8) (ht:tot c own<63) (hi:i<c) (x:Str) (v:Int):∃ ω' fp',dW [.obj (hs i),.str x,.int v] ω=xo (.ok (mkD i ((S i).next i)),ω')/\HallS B ω' g c hs fp' (mV S i ((S i).change i x v))/\HInv c (cP own i) (mV S i ((S i).change i x v)):=by
 have W:=(I i hi).1;have O:=W.ok c0 c8 (by omega);have P:=W.put hi (I i hi).2 x v;have T:=P.takeOut0 (mk:=gG i ((S i).next i)) (ks:=(S i).marksK x) (lP hi (I i hi).2) (O.marksLen x) fun q hq=>(W.marks O x q hq).mono (iG own i);obtain⟨ω',e,D⟩:=Mr (L.hand i hi) O hi x v (T.ok c0 c8 (xB hi ht));obtain⟨fp',L'⟩:=L.did hi D;exact⟨ω',fp',e,L',I.updB T.forget (jV W hi (I i hi).2)⟩
theorem PX (L:HallS B ω g c hs fp S) (I:HInv c own S) (c0:0<c) (c8:c<=8) (ht:tot c own<63) (hi:i<c) (x:Str):∃ ω' fp' own',fN [.obj (hs i),.str x] ω=xo (.ok ((S i).takeA x),ω')/\HallS B ω' g c hs fp' (mV S i ((S i).take i x))/\HInv c own' (mV S i ((S i).take i x))/\tot c own'<=tot c own+1:=by
 have W:=(I i hi).1;have O:=W.ok c0 c8 (by omega);have P:=W.bump hi (I i hi).2;have T:=P.takeOut0 (mk:=gG i ((S i).next i)) (ks:=(S i).marksK x) (lP hi (I i hi).2) (O.marksLen x) fun q hq=>(W.marks O x q hq).mono (iG own i);obtain⟨ω',e,D⟩:=PV (L.hand i hi) O hi x (T.ok c0 c8 (xB hi ht));obtain⟨fp',L'⟩:=L.did hi D
 by_cases hm:(S i).marksK x=[]
 ·refine⟨ω',fp',own,e,L',?_,by omega⟩
  have:(S i).take i x=S i:=by unfold Hd.take;rw[if_pos hm]
  rw[this];exact I.upd W (I i hi).2
 ·refine⟨ω',fp',cP own i,e,L',?_,by rw[jN,if_pos hi];omega⟩
  have:(S i).take i x=((S i).bump i).takeOut (gG i ((S i).next i)) ((S i).marksK x):=by unfold Hd.take;rw[if_neg hm]
  rw[this];exact I.updB T.forget (jV W hi (I i hi).2)
theorem Ca (h:ρ[2]?=xo (xo (.str y))):cA (o2 (iM 8) (zV 2) (zS y)) ρ ω=xo (.ok true,ω):=cC (dY (aB h) aQ (by
 show pu ((eqD 8 (.str y) (.str y)).map D.bl) ω=_;rw[iA,decide_eq_true rfl];rfl))
theorem kE (h:ρ[2]?=xo (xo (.str x))) (hne:x≠y):cA (o2 (iM 8) (zV 2) (zS y)) ρ ω=xo (.ok false,ω):=cC (dY (aB h) aQ (by
 show pu ((eqD 8 (.str x) (.str y)).map D.bl) ω=_;rw[iA,decide_eq_false hne];rfl))
theorem skip (e:t ρ ω=xo (.ok false,ω)):aF (dQ t F bN) G ρ ω=G ρ ω:=aZ (by rw[kO e];rfl)
theorem Dr (e:t ρ ω=xo (.ok true,ω)) (e2:f ρ ω=xo (r,ω')):aF (dQ t (aW f) bN) G ρ ω=xo (Kd r,ω'):=uS (by rw[mO e];exact iU e2)
variable {fs:List (Str×D)}{r:Rz D}{a b v:Int}{x:Str}
theorem Cs (ho:ω[g]?=xo (.ins 1 fs)) (hf:fs.lookup ("put":Str)=xp) (e:gK [.obj g,.int a,.str x,.int v] ω=xo (r,ω')):kA [.obj g,(Deed.put a x v).d] ω=xo (r,ω'):=by
 refine dS rfl ?_;unfold tT;rw[aI (d:=.str "put") (aK (aB (d:=(Deed.put a x v).d) rfl) aQ rfl)];exact Dr (Ca rfl) (bX (aB (d:=.obj g) rfl) ho hf (aA (aK (aB (d:=(Deed.put a x v).d) rfl) aQ rfl) (aA (aK (aB (d:=(Deed.put a x v).d) rfl) aQ rfl) (aA (aK (aB (d:=(Deed.put a x v).d) rfl) aQ rfl) aD))) e)
theorem qO (ho:ω[g]?=xo (.ins 1 fs)) (hf:fs.lookup ("change":Str)=xp) (e:dX [.obj g,.int a,.str x,.int v] ω=xo (r,ω')):kA [.obj g,(Deed.change a x v).d] ω=xo (r,ω'):=by
 refine dS rfl ?_;unfold tT;rw[aI (d:=.str "change") (aK (aB (d:=(Deed.change a x v).d) rfl) aQ rfl)];rw[skip (kE (x:="change") rfl (by decide))];exact Dr (Ca rfl) (bX (aB (d:=.obj g) rfl) ho hf (aA (aK (aB (d:=(Deed.change a x v).d) rfl) aQ rfl) (aA (aK (aB (d:=(Deed.change a x v).d) rfl) aQ rfl) (aA (aK (aB (d:=(Deed.change a x v).d) rfl) aQ rfl) aD))) e)
theorem yZ (ho:ω[g]?=xo (.ins 1 fs)) (hf:fs.lookup ("take":Str)=xp) (e:fP [.obj g,.int a,.str x] ω=xo (r,ω')):kA [.obj g,(Deed.take a x).d] ω=xo (r,ω'):=by
 refine dS rfl ?_;unfold tT;rw[aI (d:=.str "take") (aK (aB (d:=(Deed.take a x).d) rfl) aQ rfl)];rw[skip (kE (x:="take") rfl (by decide)),skip (kE (x:="take") rfl (by decide))];exact Dr (Ca rfl) (bX (aB (d:=.obj g) rfl) ho hf (aA (aK (aB (d:=(Deed.take a x).d) rfl) aQ rfl) (aA (aK (aB (d:=(Deed.take a x).d) rfl) aQ rfl) aD)) e)
theorem qM (ho:ω[g]?=xo (.ins 1 fs)) (hf:fs.lookup ("tell":Str)=xp) (e:fO [.obj g,.int a,.int b] ω=xo (r,ω')):kA [.obj g,(Deed.tell a b).d] ω=xo (r,ω'):=by
 refine dS rfl ?_;unfold tT;rw[aI (d:=.str "tell") (aK (aB (d:=(Deed.tell a b).d) rfl) aQ rfl)];rw[skip (kE (x:="tell") rfl (by decide)),skip (kE (x:="tell") rfl (by decide)),skip (kE (x:="tell") rfl (by decide))];exact Dr (Ca rfl) (bX (aB (d:=.obj g) rfl) ho hf (aA (aK (aB (d:=(Deed.tell a b).d) rfl) aQ rfl) (aA (aK (aB (d:=(Deed.tell a b).d) rfl) aQ rfl) aD)) e)
theorem qN (ho:ω[g]?=xo (.ins 1 fs)) (hf:fs.lookup ("meet":Str)=xp) (e:fQ [.obj g,.int a,.int b] ω=xo (r,ω')):kA [.obj g,(Deed.meet a b).d] ω=xo (r,ω'):=by
 refine dS rfl ?_;unfold tT;rw[aI (d:=.str "meet") (aK (aB (d:=(Deed.meet a b).d) rfl) aQ rfl)];rw[skip (kE (x:="meet") rfl (by decide)),skip (kE (x:="meet") rfl (by decide)),skip (kE (x:="meet") rfl (by decide)),skip (kE (x:="meet") rfl (by decide))];exact iU (bX (aB (d:=.obj g) rfl) ho hf (aA (aK (aB (d:=(Deed.meet a b).d) rfl) aQ rfl) (aA (aK (aB (d:=(Deed.meet a b).d) rfl) aQ rfl) aD)) e)
theorem HallS.handObj (L:HallS B ω g c hs fp S) (hi:i<c):∃ fs,ω[hs i]?=xo (.ins 0 fs)/\fs.lookup ("put":Str)=xp/\fs.lookup ("change":Str)=xp/\fs.lookup ("take":Str)=xp/\fs.lookup ("hear":Str)=xp:=by
 obtain⟨k,t,e,h⟩:=(L.hand i hi).obj;exact⟨_,h,rfl,rfl,rfl,rfl⟩
theorem LN (L:HallS B ω g c hs fp S) (ef:f ρ ω=xo (.ok (.obj g),ω)) (ea:fa ρ ω=xo (.ok (.int a),ω)) (h:0<=a/\a<c):bH 1 "hand" bM f (aC fa aM) ρ ω=xo (.ok (.obj (hs a.toNat)),ω):=bX ef L.obj rfl (aA ea aD) (by rw[lR L a,if_pos h])
theorem LM (L:HallS B ω g c hs fp S) (ef:f ρ ω=xo (.ok (.obj g),ω)) (ea:fa ρ ω=xo (.ok (.int a),ω)) (h:¬(0<=a/\a<c)):bH 1 "hand" bM f (aC fa aM) ρ ω=xo (.ex 0,ω):=bX ef L.obj rfl (aA ea aD) (by rw[lR L a,if_neg h])
theorem Iq (L:HallS B ω g c hs fp S) (h:0<=a/\a<c) (e:eM [.obj (hs a.toNat),.str x,.int v] ω=xo (r,ω')):gK [.obj g,.int a,.str x,.int v] ω=xo (r,ω'):=by
 obtain⟨fs,ho,h1,_⟩:=L.handObj (i:=a.toNat) (by omega);exact dS rfl (iU (bX (LN L (aB rfl) (aB rfl) h) ho h1 (aA (aB rfl) (aA (aB rfl) aD)) e))
theorem FC (L:HallS B ω g c hs fp S) (h:¬(0<=a/\a<c)):gK [.obj g,.int a,.str x,.int v] ω=xo (.ex 0,ω):=dS (r:=.ex 0) rfl (iU (As (LM (a:=a) L (aB rfl) (aB rfl) h)))
theorem Az (L:HallS B ω g c hs fp S) (h:0<=a/\a<c) (e:dW [.obj (hs a.toNat),.str x,.int v] ω=xo (r,ω')):dX [.obj g,.int a,.str x,.int v] ω=xo (r,ω'):=by
 obtain⟨fs,ho,_,h1,_⟩:=L.handObj (i:=a.toNat) (by omega);exact dS rfl (iU (bX (LN L (aB rfl) (aB rfl) h) ho h1 (aA (aB rfl) (aA (aB rfl) aD)) e))
theorem yO (L:HallS B ω g c hs fp S) (h:¬(0<=a/\a<c)):dX [.obj g,.int a,.str x,.int v] ω=xo (.ex 0,ω):=dS (r:=.ex 0) rfl (iU (As (LM (a:=a) L (aB rfl) (aB rfl) h)))
theorem FB (L:HallS B ω g c hs fp S) (h:0<=a/\a<c) (e:fN [.obj (hs a.toNat),.str x] ω=xo (r,ω')):fP [.obj g,.int a,.str x] ω=xo (r,ω'):=by
 obtain⟨fs,ho,_,_,h1,_⟩:=L.handObj (i:=a.toNat) (by omega);exact dS rfl (iU (bX (LN L (aB rfl) (aB rfl) h) ho h1 (aA (aB rfl) aD) e))
theorem Ds (L:HallS B ω g c hs fp S) (h:¬(0<=a/\a<c)):fP [.obj g,.int a,.str x] ω=xo (.ex 0,ω):=dS (r:=.ex 0) rfl (iU (As (LM (a:=a) L (aB rfl) (aB rfl) h)))
theorem Hz {p:Option (Rz D×Om)} (L:HallS B ω g c hs fp S) (ef:f ρ ω=xo (.ok (.obj g),ω)) (ea:fa ρ ω=xo (.ok (.int a),ω)) (eb:fb ρ ω=xo (.ok (.int b),ω)) (e:bW [.obj g,.int a,.int b] ω=xo (r,ω)):bH 1 "pair" bW f (aC fa (aC fb aM)) ρ ω=xo (r,ω):=bX ef L.obj rfl (aA ea (aA eb aD)) e
theorem Jz (L:HallS B ω g c hs fp S) (h:(0<=a/\a<c)/\(0<=b/\b<c)) (hne:a≠b):bW [.obj g,.int a,.int b] ω=xo (.ok (.tup [.obj (hs a.toNat),.obj (hs b.toNat)]),ω):=by rw[qD L,if_pos h,if_neg hne]
theorem JA (L:HallS B ω g c hs fp S) (h:(0<=a/\a<c)/\(0<=b/\b<c)) (hne:a=b):bW [.obj g,.int a,.int b] ω=xo (.ex 1,ω):=by rw[qD L,if_pos h,if_pos hne]
theorem Jy (L:HallS B ω g c hs fp S) (h:¬((0<=a/\a<c)/\(0<=b/\b<c))):bW [.obj g,.int a,.int b] ω=xo (.ex 0,ω):=by rw[qD L,if_neg h]
theorem tQ (L:HallS B ω g c hs fp S) (e:bW [.obj g,.int a,.int b] ω=xo (.ex n,ω)):fO [.obj g,.int a,.int b] ω=xo (.ex n,ω):=by
 refine dS (r:=.ex n) rfl ?_;unfold kU;exact uS (r:=.ex n) (EX (Hz (p:=xp) L (aB rfl) (aB rfl) (aB rfl) e))
theorem tR (L:HallS B ω g c hs fp S) (e:bW [.obj g,.int a,.int b] ω=xo (.ex n,ω)):fQ [.obj g,.int a,.int b] ω=xo (.ex n,ω):=by
 refine dS (r:=.ex n) rfl ?_;unfold kW;exact uS (r:=.ex n) (EX (Hz (p:=xp) L (aB rfl) (aB rfl) (aB rfl) e))
theorem FA (L:HallS B ω g c hs fp S) (h:(0<=a/\a<c)/\(0<=b/\b<c)) (hne:a≠b) (e:cL [.obj (hs b.toNat),.obj (hs a.toNat)] ω=xo (r,ω')):fO [.obj g,.int a,.int b] ω=xo (r,ω'):=by
 obtain⟨fs,ho,_,_,_,h1⟩:=L.handObj (i:=b.toNat) (by omega);refine dS rfl ?_;unfold kU;rw[aI (Hz (p:=xp) L (aB rfl) (aB rfl) (aB rfl) (Jz L h hne))];exact iU (bX (aK (aB (d:=.tup [.obj (hs a.toNat),.obj (hs b.toNat)]) rfl) aQ rfl) ho h1 (aA (aK (aB (d:=.tup [.obj (hs a.toNat),.obj (hs b.toNat)]) rfl) aQ rfl) aD) e)
theorem FD (L:HallS B ω g c hs fp S) (I:HInv c own S) (c0:0<c) (c8:c<=8) (ht:tot c own<64) (h:(0<=a/\a<c)/\(0<=b/\b<c)) (hne:a≠b):∃ ω' fp',fQ [.obj g,.int a,.int b] ω=xo (.ok (.tup [.int (rR (iT S a.toNat b.toNat) b.toNat a.toNat),.int (rR S a.toNat b.toNat)]),ω')/\HallS B ω' g c hs fp' (rT S a.toNat b.toNat)/\HInv c own (rT S a.toNat b.toNat):=by
 have ha:a.toNat<c:=by omega
 have hb:b.toNat<c:=by omega
 have hn:a.toNat≠b.toNat:=by omega
 obtain⟨ω1,fp1,e1,L1,I1⟩:=Ip L I c0 c8 ht hb ha (bz hn);obtain⟨ω2,fp2,e2,L2,I2⟩:=Ip L1 I1 c0 c8 ht ha hb hn;obtain⟨ω3,fp3,e3,L3,I3⟩:=Ip L2 I2 c0 c8 ht hb ha (bz hn);refine⟨ω3,fp3,?_,L3,I3⟩;obtain⟨fs0,ho0,_,_,_,h0⟩:=L.handObj hb;obtain⟨fs1,ho1,_,_,_,h1⟩:=L1.handObj ha;obtain⟨fs2,ho2,_,_,_,h2⟩:=L2.handObj hb;refine aT rfl ?_;unfold kW;rw[aI (Hz (p:=xp) L (aB rfl) (aB rfl) (aB rfl) (Jz L h hne))];rw[aI (bX (aK (aB (d:=.tup [.obj (hs a.toNat),.obj (hs b.toNat)]) rfl) aQ rfl) ho0 h0 (aA (aK (aB (d:=.tup [.obj (hs a.toNat),.obj (hs b.toNat)]) rfl) aQ rfl) aD) e1)];rw[aI (d:=.tup [.int (rR (iT S a.toNat b.toNat) b.toNat a.toNat),.int (rR S a.toNat b.toNat)]) (ω1:=ω2) (cI (aA (bX (aK (aB (d:=.tup [.obj (hs a.toNat),.obj (hs b.toNat)]) rfl) aQ rfl) ho1 h1 (aA (aK (aB (d:=.tup [.obj (hs a.toNat),.obj (hs b.toNat)]) rfl) aQ rfl) aD) e2) (aA (aB (d:=.int (rR S a.toNat b.toNat)) rfl) aD)) (by
  show pu (nJ _) ω2=_;unfold nJ;rw[if_pos (by rw[bt];simp)];rfl))]
 rw[aZ (ω1:=ω3) (by
  unfold bQ;rw[bP (bX (aK (aB (d:=.tup [.obj (hs a.toNat),.obj (hs b.toNat)]) rfl) aQ rfl) ho2 h2 (aA (aK (aB (d:=.tup [.obj (hs a.toNat),.obj (hs b.toNat)]) rfl) aQ rfl) aD) e3)])]
 exact bE (aB rfl)
theorem wY (e:kA [.obj g,d] ω=xo (.ok y,ω')):eL [.obj g,d] ω=xo (.ok y,ω'):=aT rfl (by
 unfold gY xN;rw[bE (aR (aA (aB rfl) (aA (aB rfl) aD)) e)])
theorem Eg (e:kA [.obj g,d] ω=xo (.ex 0,ω')):eL [.obj g,d] ω=xo (.ok (.str "no hand"),ω'):=aT rfl (by
 unfold gY xN;rw[iU (r:=.ex 0) (aR (aA (aB rfl) (aA (aB rfl) aD)) e)];rfl)
theorem ML (e:kA [.obj g,d] ω=xo (.ex 1,ω')):eL [.obj g,d] ω=xo (.ok (.str "same hand"),ω'):=aT rfl (by
 unfold gY xN;rw[iU (r:=.ex 1) (aR (aA (aB rfl) (aA (aB rfl) aD)) e)];rfl)
theorem GB (L:HallS B ω g c hs fp S) (I:HInv c own S) (c0:0<c) (c8:c<=8) (ht:tot c own<63) (d:Deed):∃ ω' fp' own',eL [.obj g,d.d] ω=xo (.ok (step c S d).1,ω')/\HallS B ω' g c hs fp' (step c S d).2/\HInv c own' (step c S d).2/\tot c own'<=tot c own+1:=by
 cases d with
 |put a x v=>
  show ∃ ω' fp' own',_=xo (Rz.ok (if 0<=a/\a<(c:Int) then(_,_) else(_,_):D×(Nat->Hd)).1,ω')/\HallS B ω' g c hs fp' (if 0<=a/\a<(c:Int) then(_,_) else(_,_):D×(Nat->Hd)).2/\HInv c own' (if 0<=a/\a<(c:Int) then(_,_) else(_,_):D×(Nat->Hd)).2/\_
  by_cases h:0<=a/\a<c
  ·rw[if_pos h];obtain⟨ω',fp',e,L',I'⟩:=Sf L I c0 c8 ht (i:=a.toNat) (by omega) x v;exact⟨ω',fp',_,wY (Cs L.obj rfl (Iq L h e)),L',I',by rw[jN,if_pos (by omega)];omega⟩
  ·rw[if_neg h];exact⟨ω,fp,own,Eg (Cs L.obj rfl (FC L h)),L,I,by omega⟩
 |change a x v=>
  show ∃ ω' fp' own',_=xo (Rz.ok (if 0<=a/\a<(c:Int) then(_,_) else(_,_):D×(Nat->Hd)).1,ω')/\HallS B ω' g c hs fp' (if 0<=a/\a<(c:Int) then(_,_) else(_,_):D×(Nat->Hd)).2/\HInv c own' (if 0<=a/\a<(c:Int) then(_,_) else(_,_):D×(Nat->Hd)).2/\_
  by_cases h:0<=a/\a<c
  ·rw[if_pos h];obtain⟨ω',fp',e,L',I'⟩:=Ms L I c0 c8 ht (i:=a.toNat) (by omega) x v;exact⟨ω',fp',_,wY (qO L.obj rfl (Az L h e)),L',I',by rw[jN,if_pos (by omega)];omega⟩
  ·rw[if_neg h];exact⟨ω,fp,own,Eg (qO L.obj rfl (yO L h)),L,I,by omega⟩
 |take a x=>
  show ∃ ω' fp' own',_=xo (Rz.ok (if 0<=a/\a<(c:Int) then(_,_) else(_,_):D×(Nat->Hd)).1,ω')/\HallS B ω' g c hs fp' (if 0<=a/\a<(c:Int) then(_,_) else(_,_):D×(Nat->Hd)).2/\HInv c own' (if 0<=a/\a<(c:Int) then(_,_) else(_,_):D×(Nat->Hd)).2/\_
  by_cases h:0<=a/\a<c
  ·rw[if_pos h];obtain⟨ω',fp',own',e,L',I',t'⟩:=PX L I c0 c8 ht (i:=a.toNat) (by omega) x;exact⟨ω',fp',own',wY (yZ L.obj rfl (FB L h e)),L',I',t'⟩
  ·rw[if_neg h];exact⟨ω,fp,own,Eg (yZ L.obj rfl (Ds L h)),L,I,by omega⟩
 |tell a b=>
  show ∃ ω' fp' own',_=xo (Rz.ok (if(0<=a/\a<(c:Int))/\(0<=b/\b<(c:Int)) then(if a=b then(_,_) else(_,_)) else(_,_):D×(Nat->Hd)).1,ω')/\HallS B ω' g c hs fp' (if(0<=a/\a<(c:Int))/\(0<=b/\b<(c:Int)) then(if a=b then(_,_) else(_,_)) else(_,_):D×(Nat->Hd)).2/\HInv c own' (if(0<=a/\a<(c:Int))/\(0<=b/\b<(c:Int)) then(if a=b then(_,_) else(_,_)) else(_,_):D×(Nat->Hd)).2/\_
  by_cases h:(0<=a/\a<(c:Int))/\(0<=b/\b<(c:Int))
  ·rw[if_pos h]
   by_cases hab:a=b
   ·rw[if_pos hab];exact⟨ω,fp,own,ML (qM L.obj rfl (tQ L (JA L h hab))),L,I,by omega⟩
   ·rw[if_neg hab];obtain⟨ω',fp',e,L',I'⟩:=Ip L I c0 c8 (by omega) (i:=b.toNat) (j:=a.toNat) (by omega) (by omega) (by omega);exact⟨ω',fp',own,wY (qM L.obj rfl (FA L h hab e)),L',I',by omega⟩
  ·rw[if_neg h];exact⟨ω,fp,own,Eg (qM L.obj rfl (tQ L (Jy L h))),L,I,by omega⟩
 |meet a b=>
  show ∃ ω' fp' own',_=xo (Rz.ok (if(0<=a/\a<(c:Int))/\(0<=b/\b<(c:Int)) then(if a=b then(_,_) else(_,_)) else(_,_):D×(Nat->Hd)).1,ω')/\HallS B ω' g c hs fp' (if(0<=a/\a<(c:Int))/\(0<=b/\b<(c:Int)) then(if a=b then(_,_) else(_,_)) else(_,_):D×(Nat->Hd)).2/\HInv c own' (if(0<=a/\a<(c:Int))/\(0<=b/\b<(c:Int)) then(if a=b then(_,_) else(_,_)) else(_,_):D×(Nat->Hd)).2/\_
  by_cases h:(0<=a/\a<(c:Int))/\(0<=b/\b<(c:Int))
  ·rw[if_pos h]
   by_cases hab:a=b
   ·rw[if_pos hab];exact⟨ω,fp,own,ML (qN L.obj rfl (tR L (JA L h hab))),L,I,by omega⟩
   ·rw[if_neg hab];obtain⟨ω',fp',e,L',I'⟩:=FD L I c0 c8 (by omega) h hab;exact⟨ω',fp',own,wY (qN L.obj rfl e),L',I',by omega⟩
  ·rw[if_neg h];exact⟨ω,fp,own,Eg (qN L.obj rfl (tR L (Jy L h))),L,I,by omega⟩
end
def Pl:Nat->D->Prop
 |_,.non=>True
 |_,.bl _=>True
 |_,.int _=>True
 |_,.str _=>True
 |n+1,.lst ds=>ds.length<=1000/\∀ d∈ds,Pl n d
 |n+1,.tup ds=>ds.length<=1000/\∀ d∈ds,Pl n d
 |_,_=>False
theorem Pl.int (n:Nat) (i:Int):Pl n (.int i):=by cases n <;> trivial
theorem Pl.str (n:Nat) (x:Str):Pl n (.str x):=by cases n <;> trivial
theorem Pl.tup2 (h1:Pl n a) (h2:Pl n b):Pl (n+1) (.tup [a,b]):=⟨by simp,fun d hd=>by
 simp only[aj,cm,or_false] at hd;rcases hd with rfl|rfl
 ·exact h1
 ·exact h2⟩
noncomputable def mI (c:Nat):List Deed->(Nat->Hd)->List D×(Nat->Hd)
 |[],S=>([],S)
 |d::r,S=>((step c S d).1::(mI c r (step c S d).2).1,(mI c r (step c S d).2).2)
noncomputable def dR (c:Nat) (ds:List Deed):Nat->Hd:=(mI c ds fun _=>Hd0 c).2
section
variable {B:Om}{c g i j:Nat}{own:Nat->Nat}{S:Nat->Hd}{ω ω':Om}{hs:Nat->Nat}{fp:Nat->List Nat}
theorem PD (c:Nat):HInv c (fun _=>0) (fun _=>Hd0 c):=fun a ha=>by
 have hz:∀ n m:Nat,(av n (0:Int)).getD m 0=0:=fun n m=>by
  rw[ax,fe];split <;> rfl
 refine⟨⟨by simp[Hd0],fun xs hx=> ?_,fun xs hx b hb=> ?_,fun kv h=>by simp[Hd0] at h,by simp[Hd0],fun kv h=>by simp[Hd0] at h,fun kv h=>by simp[Hd0] at h,by simp[Hd0]⟩,?_⟩
 ·rw[(vo.mp hx).2,ju]
 ·rw[(vo.mp hx).2,hz];exact⟨i7 _,i7 _⟩
 ·show((av c (av c (0:Int))).getD a []).getD a 0=0
  have e1:(av c (av c (0:Int))).getD a []=av c 0:=by
   rw[ax,fe,if_pos ha];rfl
  rw[e1];exact hz c a
theorem PU:∀ c,tot c (fun _=>0)=0
 |0=>rfl
 |c+1=>by
  have ih:=PU c;unfold tot at ih ⊢;rw[k8,b9,pf,ih];rfl
theorem uJ (c0:0<c) (c8:c<=8):∀(ds:List Deed) {u:Option D}{S:Nat->Hd}{ω:Om}{fp:Nat->List Nat}{own:Nat->Nat},HallS B ω g c hs fp S->HInv c own S->tot c own+ds.length<64->∃ v ω' fp' own',bO (aS 3) bK eN (ds.map Deed.d) [xo n,xo l,xo (.obj g),u] ω=xo (.nx [xo n,xo l,xo (.obj g),v],ω')/\HallS B ω' g c hs fp' (mI c ds S).2/\HInv c own' (mI c ds S).2/\tot c own'<64
 |[],u,S,ω,fp,own,L,I,ht=>⟨u,ω,fp,own,rfl,L,I,by simpa using ht⟩
 |d::ds,u,S,ω,fp,own,L,I,ht=>by
  rw[b4] at ht;obtain⟨ω1,fp1,own1,e1,L1,I1,t1⟩:=GB L I c0 c8 (by omega) d;obtain⟨v,ω2,fp2,own2,e2,L2,I2,t2⟩:=uJ c0 c8 ds (u:=xo d.d) L1 I1 (by omega);refine⟨v,ω2,fp2,own2,?_,L2,I2,t2⟩;have b1:eN [xo n,xo l,xo (.obj g),xo d.d] ω=xo (.nx [xo n,xo l,xo (.obj g),xo d.d],ω1):=by
   unfold eN bQ;rw[bP (aR (aA (aB (d:=.obj g) rfl) (aA (aB (d:=d.d) rfl) aD)) e1)]
  show(match eN [xo n,xo l,xo (.obj g),xo d.d] ω with
   |none=>xp
   |some (.nx ρ2,ω2)=>bO (aS 3) bK eN (ds.map Deed.d) ρ2 ω2
   |some (.ct ρ2,ω2)=>bO (aS 3) bK eN (ds.map Deed.d) ρ2 ω2
   |some (.bk ρ2,ω2)=>xo (.nx ρ2,ω2)
   |some (.rt d,ω2)=>xo (.rt d,ω2)
   |some (.ex _,_)=>xp)=_
  rw[b1];exact e2
theorem uB:∀ {l:List Nat}{u:Option D},(∀ i∈l,F [xo (.obj (hs i))] ω=xo (.ok (R i),ω))->compLO (aS 0) bK (oPT jW) F (l.map fun i=>.obj (hs i)) [u] ω=xo (l.map R,ω)
 |[],u,_=>rfl
 |i::l,u,h=>by
  have ih:=uB (F:=F) (R:=R) (l:=l) (u:=xo (.obj (hs i))) fun j hj=>h j (ai _ hj)
  show(match F [xo (.obj (hs i))] ω with
   |some (.ok y,ω2)=>(compLO (aS 0) bK (oPT jW) F (l.map fun i=>.obj (hs i)) [xo (.obj (hs i))] ω2).map fun r:List D×Om=>(y::r.1,r.2)
   |_=>xp)=_
  rw[h i ar]
  show(compLO _ _ _ _ _ _ _).map _=_
  rw[ih];rfl
theorem mF (L:HallS B ω g c hs fp S) (c8:c<=8) (ef:f ρ ω=xo (.ok (.obj g),ω)) (h:∀ i,i<c->F [xo (.obj (hs i))] ω=xo (.ok (R i),ω)):cV rZ (oIL (fZ 1 "hands" f)) [xp] (aS 0) (oPT jW) F ρ ω=xo (.ok (.lst ((bp c).map R)),ω):=by
 refine fB (ds:=(bp c).map fun i=>.obj (hs i)) (chk:=bK) (ω1:=ω) ?_ (by rw[ak,gq,bt];omega) (uB fun i hi=>h i (hX.mp hi));unfold oIL;rw[bF (qC L ef)];rfl
noncomputable def GN (c:Nat) (S:Nat->Hd):D:=.lst ((bp c).map fun i=>.lst (S i).ents)
noncomputable def MX (c:Nat) (S:Nat->Hd):D:=.lst ((bp c).map fun i=>.lst (iv ((S i).seen i)))
noncomputable def Qm (c:Nat) (S:Nat->Hd):D:=.lst ((bp c).map fun i=>.lst ((S i).knows.map fun xs=>.lst (iv xs)))
noncomputable def Ql (c:Nat) (S:Nat->Hd):D:=.lst ((bp c).map fun i=>.lst (S i).mind)
theorem Jo (c0:0<c) (c8:c<=8) (hl:ds.length<64) (ω:Om):∃ ω',An [.int c,.lst (ds.map Deed.d)] ω=xo (.ok (.tup [GN c (dR c ds),MX c (dR c ds),Qm c (dR c ds),Ql c (dR c ds)]),ω')/\Keep [] ω ω'/\∃ own,HInv c own (dR c ds)/\tot c own<64:=by
 obtain⟨ω1,hs,fp,e1,L1⟩:=FE (ω:=ω) c8 (fl:=aC (zV 0) aM) (ρ:=cB GK [.int c,.lst (ds.map Deed.d)]) (aA (aB rfl) aD);obtain⟨v,ω2,fp2,own2,e2,L2,I2,t2⟩:=uJ c0 c8 (n:=.int c) (l:=.lst (ds.map Deed.d)) ds (u:=xp) L1 (PD c) (by rw[PU];omega);refine⟨ω2,?_,⟨L2.bas.1,fun n hn _=>L2.bas.2 n hn⟩,own2,I2,t2⟩;refine aT rfl ?_;unfold FK;rw[aI e1];rw[aZ (dF (by
  unfold bB oIL;rw[bP (x:=(ds.map Deed.d,bK)) (ω1:=ω1) (by rw[bF (aB (d:=.lst (ds.map Deed.d)) rfl)];rfl)];exact e2))]
 have K:∀ i,i<c->(dR c ds i).Ok c:=fun i hi=>(I2 i hi).1.ok c0 c8 t2;have a1:=mF (ρ:=[xo (.int c),xo (.lst (ds.map Deed.d)),xo (.obj ω.length),v]) (F:=bH 0 "entries" bT (zV 0) aM) (R:=fun i=>.lst (dR c ds i).ents) (f:=zV 2) L2 c8 (aB rfl) fun i hi=>by
  obtain⟨k,t,e,rs,H,_⟩:=L2.hand i hi;exact cF (aB rfl) H.obj rfl (jT H (K i hi).ents.1)
 have a2:=mF (ρ:=[xo (.int c),xo (.lst (ds.map Deed.d)),xo (.obj ω.length),v]) (F:=oL iL (aC (bH 0 "seen" bV (zV 0) aM) aM)) (R:=fun i=>.lst (iv ((dR c ds i).seen i))) (f:=zV 2) L2 c8 (aB rfl) fun i hi=>by
  obtain⟨k,t,e,rs,H,_⟩:=L2.hand i hi;exact GV H (Nat.lt_of_lt_of_eq hi (K i hi).len.symm) (aB rfl)
 have a3:=mF (ρ:=[xo (.int c),xo (.lst (ds.map Deed.d)),xo (.obj ω.length),v]) (F:=bH 0 "known" gC (zV 0) aM) (R:=fun i=>.lst ((dR c ds i).knows.map fun xs=>.lst (iv xs))) (f:=zV 2) L2 c8 (aB rfl) fun i hi=>by
  obtain⟨k,t,e,rs,H,_⟩:=L2.hand i hi;exact cF (aB rfl) H.obj rfl (Ig H (by rw[H.rows.length];have:=(K i hi).len;unfold dR at this;rw[this,bt];omega))
 have a4:=mF (ρ:=[xo (.int c),xo (.lst (ds.map Deed.d)),xo (.obj ω.length),v]) (F:=bH 0 "in_mind" eQ (zV 0) aM) (R:=fun i=>.lst (dR c ds i).mind) (f:=zV 2) L2 c8 (aB rfl) fun i hi=>by
  obtain⟨k,t,e,rs,H,_⟩:=L2.hand i hi;exact cF (aB rfl) H.obj rfl (Dp H (K i hi) (I2 i hi).1)
 refine bE (cI (aA a1 (aA a2 (aA a3 (aA a4 aD)))) ?_);show pu (nJ _) ω2=_;unfold nJ;rw[if_pos (by rw[bt];simp)];rfl
end
section
variable {c:Nat}{S S':Nat->Hd}{d x y:Deed}{a b n:Nat}
theorem lF (c:Nat):∀(p q:List Deed) (S:Nat->Hd),mI c (p++q) S=((mI c p S).1++(mI c q (mI c p S).2).1,(mI c q (mI c p S).2).2)
 |[],q,S=>rfl
 |d::p,q,S=>by
  show((step c S d).1::(mI c (p++q) (step c S d).2).1,(mI c (p++q) (step c S d).2).2)=_
  rw[lF c p q];rfl
end
theorem rB:∀ {ds:List D},(∀ d∈ds,f d d=xo true)->kJ f ds ds=xo true
 |[],_=>rfl
 |d::ds,h=>by
  show(f d d).bind _=_
  rw[h d ar]
  show(kJ f ds ds).map _=_
  rw[rB fun d' hd=>h d' (ai _ hd)];rfl
theorem mB:∀ {n:Nat}{d:D},Pl n d->eqD n d d=xo true
 |n,.non,_=>by cases n <;> rfl
 |n,.bl b,_=>by cases n <;> cases b <;> rfl
 |n,.int i,_=>by
  have:eqD n (.int i) (.int i)=xo (i==i):=by cases n <;> rfl
  rw[this];simp
 |n,.str x,_=>by
  rw[iA];simp
 |n+1,.lst ds,h=>by
  show(if ds.length=ds.length then kJ (eqD n) ds ds else xo false)=_
  rw[if_pos rfl];exact rB fun d hd=>mB (h.2 d hd)
 |n+1,.tup ds,h=>by
  show(kJ (eqD n) ds ds).map (fun k=>k&&ds.length==ds.length)=_
  rw[rB fun d hd=>mB (h.2 d hd)];simp
 |0,.lst _,h=>h.elim
 |0,.tup _,h=>h.elim
 |0,.obj _,h=>h.elim
 |n+1,.obj _,h=>h.elim
 |0,.scr _,h=>h.elim
 |n+1,.scr _,h=>h.elim
theorem Pl.mono:∀ {n m:Nat}{d:D},Pl n d->n<=m->Pl m d
 |_,m,.non,_,_=>by cases m <;> trivial
 |_,m,.bl _,_,_=>by cases m <;> trivial
 |_,m,.int _,_,_=>by cases m <;> trivial
 |_,m,.str _,_,_=>by cases m <;> trivial
 |n+1,m+1,.lst ds,h,hm=>⟨h.1,fun d hd=>Pl.mono (h.2 d hd) (by omega)⟩
 |n+1,m+1,.tup ds,h,hm=>⟨h.1,fun d hd=>Pl.mono (h.2 d hd) (by omega)⟩
 |n+1,0,.lst ds,h,hm=>by omega
 |n+1,0,.tup ds,h,hm=>by omega
 |0,_,.lst _,h,_=>h.elim
 |0,_,.tup _,h,_=>h.elim
 |0,_,.obj _,h,_=>h.elim
 |n+1,_,.obj _,h,_=>h.elim
 |0,_,.scr _,h,_=>h.elim
 |n+1,_,.scr _,h,_=>h.elim
section
variable {ω:Om}{ρ:Rho}{f h:OG D}{d:D}
theorem pX (e:f ρ ω=xo (.ok d,ω)) (h:DZ T ω d=xo k):pP T f ρ ω=xo (.ok (.bl k),ω):=by
 unfold pP;rw[bF e];show oR (pu ((DZ T ω d).map D.bl) ω)=_;rw[h];rfl
theorem tru_ok (e:f ρ ω=xo (.ok (.bl k),ω)):jX f ρ ω=xo (.ok k,ω):=by
 unfold jX;rw[bF e];rfl
theorem kD (e:t ρ ω=xo (.ok k,ω)):jY t ρ ω=xo (.ok (!k),ω):=by
 unfold jY;rw[bF e]
theorem CU (e1:t ρ ω=xo (.ok false,ω)) (e2:u ρ ω=xo (.ok false,ω)):oOr t u ρ ω=xo (.ok false,ω):=by
 unfold oOr;rw[bF e1];exact e2
theorem BV (e1:f ρ ω=xo (.ok (.int a),ω)) (e2:h ρ ω=xo (.ok (.int b),ω)) (hab:a=b):cA (o2 (Cm 8) f h) ρ ω=xo (.ok false,ω):=cC (dY e1 e2 (by
 subst hab;show xo (D.bl (!(a==a)),ω)=_;simp))
theorem Mv {ds:List D} (hk:k<ds.length):atI ds (k:Int)=xo ds[k]:=by
 unfold atI ixN;rw[if_pos (jr k),if_pos (by omega)];show ds[(k:Int).toNat]?=_;rw[cy,bj hk]
theorem uI {k:Nat} (h:ds[k]?=xo d):atI ds (k:Int)=xo d:=by
 obtain⟨hk,e⟩:=bq.mp h;rw[Mv hk,e]
theorem mR (e:f ρ ω=xo (.ok d,ω)) (hd:d=.lst ds∨d=.tup ds):oL iP (aC f aM) ρ ω=xo (.ok (.int ds.length),ω):=by
 refine cI (aA e aD) ?_;rcases hd with rfl|rfl <;> rfl
end
theorem Mw:dN [F,N,R,xo (.tup [.str x,.tup [.int a,.int b],.int v])] ω=xo (.nx [F,N,R,xo (.tup [.str x,.tup [.int a,.int b],.int v])],ω):=by
 rfl
theorem CB:∀ {ds:List D}{u:Option D},(∀ d∈ds,fD d)->∃ v,bO (aS 3) bK dN ds [F,N,xo R,u] ω=xo (.nx [F,N,xo R,v],ω)
 |[],u,_=>⟨u,rfl⟩
 |d::ds,u,h=>by
  obtain⟨x,a,b,w,rfl⟩:=h d ar;obtain⟨v,e⟩:=CB (F:=F) (N:=N) (R:=R) (ω:=ω) (ds:=ds) (u:=xo (.tup [.str x,.tup [.int a,.int b],.int w])) fun d hd=>h d (ai _ hd);refine⟨v,?_⟩;refine(bS rfl rfl (Mw)).trans ?_;exact e
theorem CA:∀ {ts:List (List D)}{u v:Option D},(∀ t∈ts,∀ d∈t,fD d)->∃ u' v',bO (aS 2) bK cN (ts.map D.lst) [F,N,u,v] ω=xo (.nx [F,N,u',v'],ω)
 |[],u,v,_=>⟨u,v,rfl⟩
 |t::ts,u,v,h=>by
  obtain⟨w,e1⟩:=CB (F:=F) (N:=N) (R:=.lst t) (ω:=ω) (ds:=t) (u:=v) (h t ar);obtain⟨u',v',e2⟩:=CA (F:=F) (N:=N) (ω:=ω) (ts:=ts) (u:=xo (.lst t)) (v:=w) fun t' ht=>h t' (ai _ ht);refine⟨u',v',?_⟩;have b2:cN [F,N,xo (.lst t),v] ω=xo (.nx [F,N,xo (.lst t),w],ω):=by
   unfold cN;rw[skip (kD (k:=true) (tru_ok (pX (aB (d:=.lst t) rfl) (by simp[DZ,eJ,Di,yJ]))))];refine dF ?_;unfold bB oIL;rw[bP (x:=(t,bK)) (ω1:=ω) (by rw[bF (aB (d:=.lst t) rfl)];rfl)];exact e1
  refine(bS rfl rfl (b2)).trans ?_;exact e2
theorem Px {ts:List (List D)} (h:∀ t∈ts,∀ d∈t,fD d) (hc:ts.length=c) (ω:Om):cO [.lst (ts.map D.lst),.int c] ω=xo (.ok (.bl true),ω):=by
 obtain⟨u,v,e⟩:=CA (F:=xo (.lst (ts.map D.lst))) (N:=xo (.int c)) (ω:=ω) (ts:=ts) (u:=xp) (v:=xp) h;refine aT rfl ?_;unfold iK;show aF _ _ [xo (.lst (ts.map D.lst)),xo (.int c),xp,xp] ω=_;rw[skip (CU (kD (k:=true) (tru_ok (pX (aB (d:=.lst (ts.map D.lst)) rfl) (by simp[DZ,eJ,Di,yJ])))) (BV (a:=((ts.map D.lst).length:Nat)) (b:=(c:Int)) (mR (aB (d:=.lst (ts.map D.lst)) rfl) (.inl rfl)) (aB rfl) (by rw[ak,hc])))];rw[aZ (dF (by
  unfold bB oIL;rw[bP (x:=(ts.map D.lst,bK)) (ω1:=ω) (by rw[bF (aB (d:=.lst (ts.map D.lst)) rfl)];rfl)];exact e))]
 rfl
section
variable {ω:Om}{ρ:Rho}{f h:OG D}{a b:Int}
theorem kI (e1:f ρ ω=xo (.ok (.int a),ω)) (e2:h ρ ω=xo (.ok (.int b),ω)):o2 (lf nM) f h ρ ω=xo (.ok (.int (a+b)),ω):=gD e1 e2 rfl
theorem yV (e1:f ρ ω=xo (.ok (.int a),ω)) (e2:h ρ ω=xo (.ok (.int b),ω)):o2 (lf gSub) f h ρ ω=xo (.ok (.int (a-b)),ω):=gD e1 e2 rfl
theorem Cp (e1:f ρ ω=xo (.ok (.int a),ω)) (e2:h ρ ω=xo (.ok (.int b),ω)) (hb: -1000000000000000000<b/\b<1000000000000000000):o2 (lf gO) f h ρ ω=xo (.ok (.int (a*b)),ω):=gD e1 e2 (OZ hb)
theorem tX (e1:f ρ ω=xo (.ok (.int a),ω)) (e2:h ρ ω=xo (.ok (.int b),ω)) (hb:0<b):o2 (lf cJ) f h ρ ω=xo (.ok (.int (a % b)),ω):=gD e1 e2 (Pa hb)
theorem lZ {p q:Int} (e1:f ρ ω=xo (.ok (.int a),ω)) (e2:h ρ ω=xo (.ok (.int q),ω)) (hp:0<p) (hq:0<q):o2 (lf cJ) (o2 (lf cJ) (o2 (lf gO) f (zI 48271)) (zI p)) h ρ ω=xo (.ok (.int (a*48271 % p % q)),ω):=tX (tX (Cp e1 aQ (by decide)) aQ hp) e2 hq
theorem CZ {x q:Int} (hq:0<q):0<=x % q/\x % q<q:=⟨Int.emod_nonneg x (by omega),Int.emod_lt_of_pos x hq⟩
theorem Pg {z:Int} (e1:f ρ ω=xo (.ok (.int a),ω)):cA (o2 (iM 8) f (zI z)) ρ ω=xo (.ok (a==z),ω):=cC (dY e1 aQ rfl)
theorem mS {z:Int} (e1:f ρ ω=xo (.ok (.int a),ω)):cA (o2 (lf gLt) f (zI z)) ρ ω=xo (.ok (decide (a<z)),ω):=cC (gD e1 aQ rfl)
theorem Mg {z:Int} (e1:f ρ ω=xo (.ok (.int a),ω)):cA (o2 (lf gGt) f (zI z)) ρ ω=xo (.ok (decide (z<a)),ω):=cC (gD e1 aQ rfl)
theorem Dh {xs:List Int} (e1:f ρ ω=xo (.ok (.lst (iv xs)),ω)) (e2:h ρ ω=xo (.ok (.int a),ω)) (h0:0<=a) (h1:a<xs.length):zX f h ρ ω=xo (.ok (.int (xs.getD a.toNat 0)),ω):=aK e1 e2 (RowV.ix (ω:=ω) (d:=.lst (iv xs)) rfl h0 h1)
theorem Cz {i:Nat}{d:D}{ω1:Om} (e:f ρ ω=xo (.ok d,ω1)):aU i f ρ ω=xo (.nx (ρ.set i (xo d)),ω1):=by
 unfold aU;rw[bP e]
theorem ifI {t:OG Bool}{F:OS}{i:Nat}{a0 a1:Int}{k:Bool} (ht:t ρ ω=xo (.ok k,ω)) (hF:F ρ ω=xo (.nx (ρ.set i (xo (.int a1))),ω)) (h0:ρ.set i (xo (.int a0))=ρ):∃ a:Int,dQ t F bN ρ ω=xo (.nx (ρ.set i (xo (.int a))),ω):=by
 cases k with
 |true=>exact⟨a1,by rw[mO ht];exact hF⟩
 |false=>exact⟨a0,by rw[kO ht,h0];rfl⟩
theorem Py {t u:OG Bool}{k l:Bool} (e1:t ρ ω=xo (.ok k,ω)) (e2:u ρ ω=xo (.ok l,ω)):yA t u ρ ω=xo (.ok (k&&l),ω):=by
 unfold yA;rw[bF e1];cases k with
 |true=>exact e2
 |false=>rfl
end
theorem JU {j:Int}{c:Nat} (h0:0<=j) (h4:j<4) (c1:1<=c) (c8:c<=8) (ω:Om):∃ x,jP [.int j,.int c] ω=xo (.ok (.str x),ω):=by
 have hj:j=0∨j=1∨j=2∨j=3:=by omega
 have hc:c=1∨c=2∨c=3∨c=4∨c=5∨c=6∨c=7∨c=8:=by omega
 rcases hj with rfl|rfl|rfl|rfl <;> rcases hc with rfl|rfl|rfl|rfl|rfl|rfl|rfl|rfl <;> exact⟨_,rfl⟩
theorem JE (c:Nat) (ω:Om):eX [.int c] ω=xo (.ok (.lst (iv [-1,c,-2,0-c,100000000000000000000,0-100000000000000000000])),ω):=rfl
theorem DD (cell:Int) (k c:Nat) (c2:1<=c) (c8:c<=8) (ω:Om):∃ d:Deed,gQ [.int cell,.int k,.int c] ω=xo (.ok d.d,ω):=by
 have cpos:(0:Int)<c:=by omega
 obtain⟨way,hway⟩:∃ w,w=cell*48271 % 1009 % 16:=⟨_,rfl⟩;obtain⟨one,hone⟩:∃ w,w=(cell+k)*48271 % 1013 % c:=⟨_,rfl⟩;have q1:∃ a:Int,dQ (yA (cA (o2 (lf gGt) (zV 2) (zI 1))) (cA (o2 (lf gGt) (o2 (lf cJ) (o2 (lf cJ) (o2 (lf gO) (zV 0) (zI 48271)) (zI 1019)) (zI 19)) (zI 0)))) (aU 5 (o2 (lf cJ) (o2 (lf nM) (o2 (lf nM) (zV 4) (zI 1)) (o2 (lf cJ) (o2 (lf cJ) (o2 (lf gO) (zV 0) (zI 48271)) (zI 1021)) (o2 (lf gSub) (zV 2) (zI 1)))) (zV 2))) bN [xo (.int cell),xo (.int k),xo (.int c),xo (.int way),xo (.int one),xo (.int one),xp,xp,xp] ω=xo (.nx [xo (.int cell),xo (.int k),xo (.int c),xo (.int way),xo (.int one),xo (.int a),xp,xp,xp],ω):=by
  by_cases c1:c=1
  ·refine⟨one,?_⟩;rw[kO (ω1:=ω) (by
    unfold yA;rw[bF (Mg (a:=c) (aB rfl)),decide_eq_false (by omega)];rfl)]
   rfl
  ·have cpos1:(0:Int)<c-1:=by omega
   exact ifI (ω:=ω) (i:=5) (ρ:=[xo (.int cell),xo (.int k),xo (.int c),xo (.int way),xo (.int one),xo (.int one),xp,xp,xp]) (a0:=one)
    (t:=yA (cA (o2 (lf gGt) (zV 2) (zI 1))) (cA (o2 (lf gGt) (o2 (lf cJ) (o2 (lf cJ) (o2 (lf gO) (zV 0) (zI 48271)) (zI 1019)) (zI 19)) (zI 0))))
    (F:=aU 5 (o2 (lf cJ) (o2 (lf nM) (o2 (lf nM) (zV 4) (zI 1)) (o2 (lf cJ) (o2 (lf cJ) (o2 (lf gO) (zV 0) (zI 48271)) (zI 1021)) (o2 (lf gSub) (zV 2) (zI 1)))) (zV 2)))
    (Py (Mg (a:=c) (aB rfl)) (Mg (lZ (a:=cell) (aB rfl) aQ (by decide) (by decide))))
    (Cz (tX (b:=c) (kI (kI (a:=one) (aB rfl) aQ) (lZ (a:=cell) (aB rfl) (yV (a:=c) (aB rfl) aQ) (by decide) cpos1)) (aB rfl) cpos)) rfl
 obtain⟨other,e1⟩:=q1;have r4:=CZ (x:=cell*48271 % 1031) (q:=4) (by decide);obtain⟨x,ex⟩:=JU r4.1 r4.2 (by omega:1<=c) c8 ω;obtain⟨vs,hvs⟩:∃ vs:List Int,vs=[cell*48271 % 1033 % 9-4,0-k,100000000000000000000+k]:=⟨_,rfl⟩;have r3:=CZ (x:=cell*48271 % 1039) (q:=3) (by decide);obtain⟨v,hv⟩:∃ v,v=vs.getD (cell*48271 % 1039 % 3).toNat 0:=⟨_,rfl⟩;have r6:=CZ (x:=cell*48271 % 1051) (q:=6) (by decide);have r6':=CZ (x:=cell*48271 % 1063) (q:=6) (by decide);have q2:=ifI (ω:=ω) (i:=4) (ρ:=[xo (.int cell),xo (.int k),xo (.int c),xo (.int way),xo (.int one),xo (.int other),xo (.str x),xo (.lst (iv vs)),xo (.int v)]) (a0:=one)
  (t:=cA (o2 (iM 8) (o2 (lf cJ) (o2 (lf cJ) (o2 (lf gO) (zV 0) (zI 48271)) (zI 1049)) (zI 31)) (zI 30)))
  (F:=aU 4 (zX (bL eX (aC (zV 2) aM)) (o2 (lf cJ) (o2 (lf cJ) (o2 (lf gO) (zV 0) (zI 48271)) (zI 1051)) (zI 6))))
  (Pg (lZ (a:=cell) (aB rfl) aQ (by decide) (by decide)))
  (Cz (Dh (aR (aA (aB rfl) aD) (JE c ω)) (lZ (a:=cell) (aB rfl) aQ (by decide) (by decide)) r6.1 r6.2)) rfl
 obtain⟨one',e2⟩:=q2;have q3:=ifI (ω:=ω) (i:=5) (ρ:=[xo (.int cell),xo (.int k),xo (.int c),xo (.int way),xo (.int one'),xo (.int other),xo (.str x),xo (.lst (iv vs)),xo (.int v)]) (a0:=other)
  (t:=cA (o2 (iM 8) (o2 (lf cJ) (o2 (lf cJ) (o2 (lf gO) (zV 0) (zI 48271)) (zI 1061)) (zI 31)) (zI 30)))
  (F:=aU 5 (zX (bL eX (aC (zV 2) aM)) (o2 (lf cJ) (o2 (lf cJ) (o2 (lf gO) (zV 0) (zI 48271)) (zI 1063)) (zI 6))))
  (Pg (lZ (a:=cell) (aB rfl) aQ (by decide) (by decide)))
  (Cz (Dh (aR (aA (aB rfl) aD) (JE c ω)) (lZ (a:=cell) (aB rfl) aQ (by decide) (by decide)) r6'.1 r6'.2)) rfl
 obtain⟨other',e3⟩:=q3;have main:∀ d:Deed,∀ G:OS,G [xo (.int cell),xo (.int k),xo (.int c),xo (.int way),xo (.int one'),xo (.int other'),xo (.str x),xo (.lst (iv vs)),xo (.int v)] ω=xo (.rt d.d,ω)->
   aF (aU 3 (o2 (lf cJ) (o2 (lf cJ) (o2 (lf gO) (zV 0) (zI 48271)) (zI 1009)) (zI 16))) (aF (aU 4 (o2 (lf cJ) (o2 (lf cJ) (o2 (lf gO) (o2 (lf nM) (zV 0) (zV 1)) (zI 48271)) (zI 1013)) (zV 2))) (aF (aU 5 (zV 4)) (aF (dQ (yA (cA (o2 (lf gGt) (zV 2) (zI 1))) (cA (o2 (lf gGt) (o2 (lf cJ) (o2 (lf cJ) (o2 (lf gO) (zV 0) (zI 48271)) (zI 1019)) (zI 19)) (zI 0)))) (aU 5 (o2 (lf cJ) (o2 (lf nM) (o2 (lf nM) (zV 4) (zI 1)) (o2 (lf cJ) (o2 (lf cJ) (o2 (lf gO) (zV 0) (zI 48271)) (zI 1021)) (o2 (lf gSub) (zV 2) (zI 1)))) (zV 2))) bN) (aF (aU 6 (bL jP (aC (o2 (lf cJ) (o2 (lf cJ) (o2 (lf gO) (zV 0) (zI 48271)) (zI 1031)) (zI 4)) (aC (zV 2) aM)))) (aF (aU 7 (zL (aC (o2 (lf gSub) (o2 (lf cJ) (o2 (lf cJ) (o2 (lf gO) (zV 0) (zI 48271)) (zI 1033)) (zI 9)) (zI 4)) (aC (o2 (lf gSub) (zI 0) (zV 1)) (aC (o2 (lf nM) (zI 100000000000000000000) (zV 1)) aM))))) (aF (aU 8 (zX (zV 7) (o2 (lf cJ) (o2 (lf cJ) (o2 (lf gO) (zV 0) (zI 48271)) (zI 1039)) (zI 3)))) (aF (dQ (cA (o2 (iM 8) (o2 (lf cJ) (o2 (lf cJ) (o2 (lf gO) (zV 0) (zI 48271)) (zI 1049)) (zI 31)) (zI 30))) (aU 4 (zX (bL eX (aC (zV 2) aM)) (o2 (lf cJ) (o2 (lf cJ) (o2 (lf gO) (zV 0) (zI 48271)) (zI 1051)) (zI 6)))) bN) (aF (dQ (cA (o2 (iM 8) (o2 (lf cJ) (o2 (lf cJ) (o2 (lf gO) (zV 0) (zI 48271)) (zI 1061)) (zI 31)) (zI 30))) (aU 5 (zX (bL eX (aC (zV 2) aM)) (o2 (lf cJ) (o2 (lf cJ) (o2 (lf gO) (zV 0) (zI 48271)) (zI 1063)) (zI 6)))) bN) G)))))))) (cB mH [.int cell,.int k,.int c]) ω=xo (.rt d.d,ω):=by
  intro d G hG;refine(aI (lZ (a:=cell) (aB rfl) aQ (by decide) (by decide))).trans ?_;rw[<- hway];refine(aI (tX (b:=c) (tX (Cp (kI (a:=cell) (b:=k) (aB rfl) (aB rfl)) aQ (by decide)) aQ (by decide)) (aB rfl) cpos)).trans ?_;rw[<- hone];refine(aI (d:=.int one) (aB rfl)).trans ?_;refine(aZ e1).trans ?_;refine(aI (d:=.str x) (ω1:=ω) (aR (aA (lZ (a:=cell) (aB rfl) aQ (by decide) (by decide)) (aA (aB (d:=.int c) rfl) aD)) ex)).trans ?_;refine(aI (d:=.lst (iv vs)) (ω1:=ω) (cI (aA (yV (lZ (a:=cell) (aB rfl) aQ (by decide) (by decide)) aQ) (aA (yV (b:=k) aQ (aB rfl)) (aA (kI (b:=k) aQ (aB rfl)) aD))) (by rw[hvs];rfl))).trans ?_;refine(aI (Dh (xs:=vs) (aB rfl) (lZ (a:=cell) (aB rfl) aQ (by decide) (by decide)) r3.1 (by rw[hvs];exact r3.2))).trans ?_;rw[<- hv];refine(aZ e2).trans ?_;refine(aZ e3).trans ?_;exact hG
 have vw:∀ ω,zV 3 [xo (.int cell),xo (.int k),xo (.int c),xo (.int way),xo (.int one'),xo (.int other'),xo (.str x),xo (.lst (iv vs)),xo (.int v)] ω=xo (.ok (.int way),ω):=fun ω=>aB rfl
 by_cases h5:way<5
 ·refine⟨.put one' x v,aT rfl (main _ _ ?_)⟩;exact Dr (r:=.ok _) (by rw[mS (vw ω),decide_eq_true h5]) rfl
 by_cases h7:way<7
 ·refine⟨.take one' x,aT rfl (main _ _ ?_)⟩;rw[skip (by rw[mS (vw ω),decide_eq_false h5])];exact Dr (r:=.ok _) (by rw[mS (vw ω),decide_eq_true h7]) rfl
 by_cases h9:way<9
 ·refine⟨.change one' x v,aT rfl (main _ _ ?_)⟩;rw[skip (by rw[mS (vw ω),decide_eq_false h5]),skip (by rw[mS (vw ω),decide_eq_false h7])];exact Dr (r:=.ok _) (by rw[mS (vw ω),decide_eq_true h9]) rfl
 have gt:∀ q:Bool,decide (11<way)=q->o2 (lf gGt) (zV 3) (zI 11) [xo (.int cell),xo (.int k),xo (.int c),xo (.int way),xo (.int one'),xo (.int other'),xo (.str x),xo (.lst (iv vs)),xo (.int v)] ω=xo (.ok (.bl q),ω):=fun q hq=>by
  rw[<- hq];exact gD (vw ω) aQ rfl
 by_cases h11:11<way
 ·refine⟨.meet one' other',aT rfl (main _ _ ?_)⟩;rw[skip (by rw[mS (vw ω),decide_eq_false h5]),skip (by rw[mS (vw ω),decide_eq_false h7]),skip (by rw[mS (vw ω),decide_eq_false h9])];refine bE (cI (aA (a:=.str "meet") (aK (a:=.lst [.str "tell",.str "meet"]) (b:=.int 1) rfl (cI (aA (gt true (decide_eq_true h11)) aD) rfl) rfl) (aA (aB rfl) (aA (aB rfl) aD))) rfl)
 ·refine⟨.tell one' other',aT rfl (main _ _ ?_)⟩;rw[skip (by rw[mS (vw ω),decide_eq_false h5]),skip (by rw[mS (vw ω),decide_eq_false h7]),skip (by rw[mS (vw ω),decide_eq_false h9])];refine bE (cI (aA (a:=.str "tell") (aK (a:=.lst [.str "tell",.str "meet"]) (b:=.int 0) rfl (cI (aA (gt false (decide_eq_false h11)) aD) rfl) rfl) (aA (aB rfl) (aA (aB rfl) aD))) rfl)
theorem jQ (e1:fo ρ ω=xo (.ok (.obj n),ω1)) (e2:ω1[n]?=xo (.ml xs)) (e3:fl ρ ω1=xo (.ok ds,ω2)) (e4:g ω2 (.obj n) ds=xo (r,ω3)):kB g fo fl ρ ω=xo (.ok r,ω3):=by
 unfold kB;rw[bF e1]
 have:Dj ω1 (.obj n)=true:=by simp only[Dj,cellOf,e2]
 show(if Dj ω1 (.obj n)=true then _ else xp)=_
 rw[if_pos this,bF e3];show oR (g ω2 (.obj n) ds)=_;rw[e4];rfl
theorem tY {c n:Nat} (c2:1<=c) (c8:c<=8) (hx:xs.length<=1000):∀(m s:Nat) (pre:List Deed) (v:Option D) (ω:Om),ω[n]?=xo (.ml (pre.map Deed.d))->s+m=xs.length->pre.length=s->∃ v' post,post.length=m/\bO (aS 3) bK eR (lG s m) [xo (.lst (iv xs)),xo (.int c),xo (.obj n),v] ω=xo (.nx [xo (.lst (iv xs)),xo (.int c),xo (.obj n),v'],ω.set n (.ml ((pre++post).map Deed.d)))
 |0,s,pre,v,ω,ht,_,_=>⟨v,[],rfl,by
   rw[cu,gA ht];rfl⟩
 |m+1,s,pre,v,ω,ht,hs,hp=>by
  obtain⟨d,ed⟩:=DD (xs.getD (s:Int).toNat 0+7*s) s c c2 c8 ω;have b1:eR [xo (.lst (iv xs)),xo (.int c),xo (.obj n),xo (.int s)] ω=xo (.nx [xo (.lst (iv xs)),xo (.int c),xo (.obj n),xo (.int s)],ω.set n (.ml ((pre++[d]).map Deed.d))):=by
   unfold eR bQ;rw[bP (jQ (r:=.non) (ω3:=ω.set n (.ml ((pre++[d]).map Deed.d))) (aB (d:=.obj n) rfl) ht (aA (aR (aA (kI (Dh (xs:=xs) (a:=s) (aB rfl) (aB rfl) (by omega) (by omega)) (Cp (b:=s) aQ (aB rfl) ⟨by omega,by omega⟩)) (aA (aB (d:=.int s) rfl) (aA (aB (d:=.int c) rfl) aD))) ed) aD) (by
    simp only[jZ,ht];rw[if_pos (by rw[ak,bt];omega),b9];rfl))]
  obtain⟨v',post,hl,e2⟩:=tY c2 c8 hx m (s+1) (pre++[d]) (xo (.int s)) (ω.set n (.ml ((pre++[d]).map Deed.d))) (bU ht) (by omega) (by simp[hp]);refine⟨v',d::post,by simp[hl],?_⟩;rw[eW];refine(bS rfl rfl (b1)).trans ?_;rw[m7,fy] at e2;exact e2
theorem IX {c:Nat} (c2:1<=c) (c8:c<=8) (hx:xs.length<=1000) (ω:Om):∃ ds:List Deed,ds.length=xs.length/\kP [.lst (iv xs),.int c] ω=xo (.ok (.obj ω.length),ω++[.ml (ds.map Deed.d)]):=by
 have h0:(ω++[Ob.ml []])[ω.length]?=xo (.ml (([]:List Deed).map Deed.d)):=by simp
 obtain⟨v',post,hl,e⟩:=tY c2 c8 hx xs.length 0 [] xp (ω++[Ob.ml []]) h0 (by omega) rfl;refine⟨post,hl,aT rfl ?_⟩;unfold qF;rw[aI (d:=.obj ω.length) (ω1:=ω++[.ml []]) rfl];rw[aZ (dF (by
  unfold bB;rw[bP (iV (c:=xs.length) (by
   have:=mR (f:=zV 0) (ρ:=(cB rN [.lst (iv xs),.int c]).set 2 (xo (.obj ω.length))) (ω:=ω++[.ml []]) (d:=.lst (iv xs)) (ds:=iv xs) (aB rfl) (.inl rfl)
   rw[show(iv xs).length=xs.length from by unfold iv;simp] at this;exact this) hx)]
  exact e))]
 refine(bE (aB (d:=.obj ω.length) rfl)).trans ?_;simp
theorem Pv (ns:List Int) (k:Nat) (ω:Om):∃ x:Int,uX [.scr (ns.map D.int),.int k] ω=xo (.ok (.int x),ω):=by
 have v0:∀ ω:Om,zV 0 (cB oO [.scr (ns.map D.int),.int k]) ω=xo (.ok (.scr (ns.map D.int)),ω):=fun ω=>rfl;have v1:∀ ω:Om,zV 1 (cB oO [.scr (ns.map D.int),.int k]) ω=xo (.ok (.int k),ω):=fun ω=>rfl;have t:∀ q:Bool,decide ((k:Int)<((ns.map D.int).length:Int))=q->cA (o2 (lf gLt) (zV 1) (oL iP (aC (zV 0) aM))) (cB oO [.scr (ns.map D.int),.int k]) ω=xo (.ok q,ω):=fun q hq=>
  cC (gD (v1 ω) (cI (aA (v0 ω) aD) (show _=xo (D.int ((ns.map D.int).length),ω) from rfl)) (show xo (D.bl (decide ((k:Int)<((ns.map D.int).length:Int))))=_ by rw[hq]))
 by_cases h:k<ns.length
 ·refine⟨ns[k],aT rfl ?_⟩;have hd:decide ((k:Int)<((ns.map D.int).length:Int))=true:=by simp[h]
  unfold vN aF;rw[mO (t true hd),bE (dY (v0 ω) (v1 ω) (show pu (atI (ns.map D.int) (k:Int)) ω=xo (.int ns[k],ω) from ?_))];have e1:ixN (ns.map D.int).length (k:Int)=xo k:=by
   unfold ixN;have hk:(k:Int)<((ns.map D.int).length:Int):=by simpa using hd
   rw[if_pos (jr k),if_pos hk];simp
  unfold atI;rw[e1];simp[pu,h]
 ·refine⟨0,aT rfl ?_⟩;have hd:decide ((k:Int)<((ns.map D.int).length:Int))=false:=by simp;omega
  unfold vN aF;rw[kO (t false hd)];rfl
theorem Pl.lst (hl:ds.length<=1000) (h:∀ d∈ds,Pl n d):Pl (n+1) (.lst ds):=⟨hl,h⟩
theorem Pl.ent (h:fD d):Pl (n+2) d:=by
 obtain⟨x,a,b,v,rfl⟩:=h;refine⟨by simp,fun d hd=> ?_⟩;simp only[aj,cm,or_false] at hd;rcases hd with rfl|rfl|rfl
 ·exact Pl.str _ _
 ·exact Pl.tup2 (Pl.int _ _) (Pl.int _ _)
 ·exact Pl.int _ _
theorem Pl.deed (d:Deed):Pl 1 d.d:=by
 have two:∀(x:Str) (l:List D),l.length<=3->(∀ y∈l,Pl 0 y)->Pl 1 (.tup (.str x::l)):=fun x l h1 h2=>⟨by rw[b4];omega,fun y hy=>by
  rcases aj.mp hy with rfl|hy
  ·exact Pl.str _ _
  ·exact h2 y hy⟩
 cases d with
 |put a x v=>
  refine two _ _ (by simp) fun y hy=> ?_;simp only[aj,cm,or_false] at hy;rcases hy with rfl|rfl|rfl <;> trivial
 |change a x v=>
  refine two _ _ (by simp) fun y hy=> ?_;simp only[aj,cm,or_false] at hy;rcases hy with rfl|rfl|rfl <;> trivial
 |take a x=>
  refine two _ _ (by simp) fun y hy=> ?_;simp only[aj,cm,or_false] at hy;rcases hy with rfl|rfl <;> trivial
 |tell a b=>
  refine two _ _ (by simp) fun y hy=> ?_;simp only[aj,cm,or_false] at hy;rcases hy with rfl|rfl <;> trivial
 |meet a b=>
  refine two _ _ (by simp) fun y hy=> ?_;simp only[aj,cm,or_false] at hy;rcases hy with rfl|rfl <;> trivial
theorem Pl.deeds {ds:List Deed} (hl:ds.length<=1000):Pl 2 (.lst (ds.map Deed.d)):=Pl.lst (by rw[ak];exact hl) fun d hd=>by
 obtain⟨x,_,rfl⟩:=az.mp hd;exact Pl.deed x
def DeedsAt (ω:Om) (d:D) (ds:List Deed):Prop:=eJ ω d=xo (ds.map Deed.d)
theorem DeedsAt.keep (h:DeedsAt ω d ds) (K:Keep [] ω ω'):DeedsAt ω' d ds:=by
 rcases fE h with rfl|⟨n,rfl,e⟩
 ·rfl
 ·have e':=(K.2 n (dH e) (by simp)).trans e;unfold DeedsAt eJ;simp only[e']
theorem DeedsAt.list (h:DeedsAt ω d ds) (e:f ρ ω=xo (.ok d,ω)):oL iL (aC f aM) ρ ω=xo (.ok (.lst (ds.map Deed.d)),ω):=by
 refine cI (aA e aD) ?_
 have:bY ω d=xo (ds.map Deed.d):=by
  rcases fE h with rfl|⟨n,rfl,e2⟩
  ·rfl
  ·simp only[bY,eJ,e2]
 show(bY ω d).map _=_
 rw[this];rfl
theorem jI {c:Nat} (c0:0<c) (c8:c<=8) (hl:ds.length<64) (h:DeedsAt ω d ds):∃ ω',cY [.int c,d] ω=xo (.ok (.tup [GN c (dR c ds),MX c (dR c ds),Qm c (dR c ds),Ql c (dR c ds)]),ω')/\Keep [] ω ω'/\∃ own,HInv c own (dR c ds)/\tot c own<64:=by
 obtain⟨ω',e1,K,I⟩:=Jo c0 c8 hl ω;refine⟨ω',?_,K,I⟩;refine aT rfl ?_;unfold jA;rw[aI (h.list (aB rfl))];rw[aI (aR (aA (aB (d:=.int c) rfl) (aA (aB (d:=.lst (ds.map Deed.d)) rfl) aD)) e1)];rw[skip (CU (cC (dY (aB (d:=.lst (ds.map Deed.d)) rfl) (aB (d:=d) rfl) (by
  have hd:=h.keep K
  have:mC ω' d=.lst (ds.map Deed.d):=by unfold mC;rw[hd]
  show pu ((eqD 8 (.lst (ds.map Deed.d)) (mC ω' d)).map fun k=>D.bl (!k)) ω'=_;rw[this,mB ((Pl.deeds (by omega)).mono (by decide))];rfl))) (CU (kD (k:=true) (tru_ok (pX (aB rfl) (by simp[DZ,eJ,Di,yJ])))) (BV (b:=4) (mR (aB rfl) (.inr rfl)) aQ rfl)))]
 exact bE (aB rfl)
structure Rec where
 a:Nat
 b:Nat
 put:Option (Str×Int)
 outs:List (List Key)
noncomputable def Rec.key (r:Rec):List Key:=gG r.a r.b
noncomputable def Rec.mark (r:Rec):D:=mkD r.a r.b
noncomputable def Rec.putD (r:Rec):D:=match r.put with
 |none=>.non
 |some p=>.tup [.str p.1,.int p.2]
noncomputable def Rec.val (r:Rec):D:=.tup [r.putD,.lst (r.outs.map bI)]
noncomputable def Rec.ent (r:Rec):Option D:=r.put.map fun p=>.tup [.str p.1,mkD r.a r.b,.int p.2]
noncomputable def upF {α:Type} (f:Nat->α) (i:Nat) (x:α):Nat->α:=fun j=>if j=i then x else f j
theorem bA {x:α}:upF f i x i=x:=if_pos rfl
theorem aY {x:α} (h:j≠i):upF f i x j=f j:=if_neg h
theorem RowV.app (h:RowV ω d xs) (obs:List Ob):RowV (ω++obs) d xs:=by
 rcases fE h with rfl|⟨n,rfl,e⟩
 ·rfl
 ·exact cE ((am (dH e)).trans e)
theorem RowV.keep (h:RowV ω d xs) (g:∀ n:Nat,ω[n]?=xo (Ob.ml (iv xs))->ω'[n]?=xo (Ob.ml (iv xs))):RowV ω' d xs:=by
 rcases fE h with rfl|⟨n,rfl,e⟩
 ·rfl
 ·exact cE (g n e)
theorem RowV.noInt (h:RowV ω (.int x) xs):False:=by
 unfold RowV eJ at h;cases h
def sK (ω:Om) (n:Nat):Prop:=∀ y ys,ω[n]?≠xo (Ob.ml (iv (y::ys)))
theorem RowV.set (h:RowV ω d xs) (hx:xs≠[]) (hn:sK ω n):RowV (ω.set n ob) d xs:=h.keep fun m e=>by
 match xs,hx with
 |y::ys,_=>
  have:m≠n:=fun z=>hn y ys (z ▸ e)
  rw[aJ this];exact e
def RowsD (ω:Om) (c:Nat) (ds:List D) (kn:Nat->List Int):Prop:=ds.length=c/\∀ j,j<c->∃ d,ds[j]?=xo d/\RowV ω d (kn j)
structure LawAt (B ω:Om) (c h dd oo kk:Nat) (ks:Nat->Nat) (rs:List Rec) (kn:Nat->Nat->List Int):Prop where
 obj:ω[h]?=xo (.dk [(.inr "count",.int c),(.inr "deeds",.obj dd),(.inr "order",.obj oo),(.inr "known",.obj kk)])
 deeds:ω[dd]?=xo (.dt (rs.map fun r=>(r.key,r.val)))
 order:ω[oo]?=xo (.ml (rs.map Rec.mark))
 known:ω[kk]?=xo (.ml ((bp c).map fun i=>.obj (ks i)))
 row:∀ i,i<c->∃ ds,ω[ks i]?=xo (.ml ds)/\RowsD ω c ds (kn i)
 len:∀ i j,i<c->j<c->(kn i j).length=c
 inj:∀ i j,i<c->j<c->i≠j->ks i≠ks j
 out:∀ i,i<c->ks i≠h/\ks i≠dd/\ks i≠oo/\ks i≠kk
 nd:h≠dd/\h≠oo/\h≠kk/\dd≠oo/\dd≠kk/\oo≠kk
 low:B.length<=h/\B.length<=dd/\B.length<=oo/\B.length<=kk/\∀ i,i<c->B.length<=ks i
 bas:B.length<=ω.length/\∀ n,n<B.length->ω[n]?=B[n]?
 keys:(rs.map Rec.key).Nodup
 ra:∀ r∈rs,r.a<c
section
variable {B ω:Om}{c h dd oo kk:Nat}{ks:Nat->Nat}{rs:List Rec}{kn:Nat->Nat->List Int}{ρ:Rho}{f:OG D}
theorem oC (L:LawAt B ω c h dd oo kk ks rs kn) (ef:f ρ ω=xo (.ok (.obj h),ω)) (e:iI [((.inr "count":Key),D.int c),(.inr "deeds",.obj dd),(.inr "order",.obj oo),(.inr "known",.obj kk)] (.inr x)=xo d):zD f (zS x) ρ ω=xo (.ok d,ω):=dY ef aQ (by
 show pu (iQ ω (.obj h) (.str x)) ω=_
 have:iQ ω (.obj h) (.str x)=xo d:=by
  simp only[iQ,Ea,cellOf,L.obj,toK];rw[sv,e];rfl
 rw[this];rfl)
theorem LawAt.gCount (L:LawAt B ω c h dd oo kk ks rs kn) (ef:f ρ ω=xo (.ok (.obj h),ω)):zD f (zS "count") ρ ω=xo (.ok (.int c),ω):=oC L ef rfl
theorem LawAt.gDeeds (L:LawAt B ω c h dd oo kk ks rs kn) (ef:f ρ ω=xo (.ok (.obj h),ω)):zD f (zS "deeds") ρ ω=xo (.ok (.obj dd),ω):=oC L ef rfl
theorem LawAt.gOrder (L:LawAt B ω c h dd oo kk ks rs kn) (ef:f ρ ω=xo (.ok (.obj h),ω)):zD f (zS "order") ρ ω=xo (.ok (.obj oo),ω):=oC L ef rfl
theorem LawAt.gKnown (L:LawAt B ω c h dd oo kk ks rs kn) (ef:f ρ ω=xo (.ok (.obj h),ω)):zD f (zS "known") ρ ω=xo (.ok (.obj kk),ω):=oC L ef rfl
theorem LawAt.ixKnown (L:LawAt B ω c h dd oo kk ks rs kn) (hi:i<c):oI ω (.obj kk) (.int i)=xo (.obj (ks i)):=by
 rw[kY L.known];exact uI (by rw[ay,di hi];rfl)
theorem RowsD.ix (e:ω[n]?=xo (.ml ds)) (h:RowsD ω c ds q) (hj:j<c):∃ d,oI ω (.obj n) (.int j)=xo d/\RowV ω d (q j):=by
 obtain⟨d,e1,r⟩:=h.2 j hj;exact⟨d,by rw[kY e];exact uI e1,r⟩
theorem RowsD.noRow (e:ω[n]?=xo (.ml ds)) (h:RowsD ω c ds q) (c0:0<c):sK ω n:=fun y ys z=>by
 rw[e] at z;cases z;obtain⟨d,e1,r⟩:=h.2 0 c0;cases e1;exact r.noInt
theorem LawAt.noOrder (L:LawAt B ω c h dd oo kk ks rs kn):sK ω oo:=fun y ys z=>by
 rw[L.order] at z;cases rs with
 |nil=>cases z
 |cons r rs=>cases z
theorem LawAt.noDeeds (L:LawAt B ω c h dd oo kk ks rs kn):sK ω dd:=fun y ys z=>by
 rw[L.deeds] at z;cases z
theorem LawAt.len0 (L:LawAt B ω c h dd oo kk ks rs kn) (c0:0<c) (hi:i<c) (hj:j<c):kn i j≠[]:=fun z=>by
 have:=L.len i j hi hj
 rw[z] at this;simp at this;omega
theorem RowsD.keep (h:RowsD ω c ds q) (g:∀ d xs,xs≠[]->RowV ω d xs->RowV ω' d xs) (hl:∀ j,j<c->q j≠[]):RowsD ω' c ds q:=⟨h.1,fun j hj=>by
 obtain⟨d,e,r⟩:=h.2 j hj;exact⟨d,e,g d _ (hl j hj) r⟩⟩
theorem LawAt.mono (L:LawAt B ω c h dd oo kk ks rs kn) (c0:0<c) (hl:ω.length<=ω'.length) (g:∀ n:Nat,n<ω.length->ω'[n]?=ω[n]?):LawAt B ω' c h dd oo kk ks rs kn:=by
 have gr:∀ d xs,xs≠[]->RowV ω d xs->RowV ω' d xs:=fun d xs _ r=>r.keep fun n e=>by rw[g n (dH e)];exact e
 refine⟨?_,?_,?_,?_,fun i hi=> ?_,L.len,L.inj,L.out,L.nd,L.low,⟨cf L.bas.1 hl,fun n hn=> ?_⟩,L.keys,L.ra⟩
 ·rw[g _ (dH L.obj)];exact L.obj
 ·rw[g _ (dH L.deeds)];exact L.deeds
 ·rw[g _ (dH L.order)];exact L.order
 ·rw[g _ (dH L.known)];exact L.known
 ·obtain⟨ds,e,r⟩:=L.row i hi;exact⟨ds,by rw[g _ (dH e)];exact e,r.keep gr fun j hj=>L.len0 c0 hi hj⟩
 ·rw[g n (b7 hn L.bas.1)];exact L.bas.2 n hn
theorem LawAt.app (L:LawAt B ω c h dd oo kk ks rs kn) (c0:0<c) (obs:List Ob):LawAt B (ω++obs) c h dd oo kk ks rs kn:=L.mono c0 (by simp) fun n hn=>am hn
end
noncomputable def cU (row:List Int) (r:Rec):Bool:=decide ((r.b:Int)<=row.getD r.a 0)
noncomputable def dP (rs:List Rec) (row:List Int):List (List Key):=(rs.filter (cU row)).flatMap (·.outs)
noncomputable def bD (rs:List Rec) (row:List Int):List D:=(rs.filter (cU row)).filterMap Rec.ent
noncomputable def HY (q:List Key) (l:List (List Key)):Bool:=l.any fun k=>decide (k=q)
theorem memK_iff:HY q l=true↔q∈l:=by
 unfold HY;rw[oz];constructor
 ·rintro⟨k,hk,e⟩
  rw[<- of_decide_eq_true e];exact hk
 ·exact fun h=>⟨q,h,decide_eq_true rfl⟩
noncomputable def eK (rs:List Rec) (row:List Int):List D:=(bD rs row).filter fun d=> !HY (aX d) (dP rs row)
structure wF (c:Nat) (own:Nat->Nat) (rs:List Rec):Prop where
 keys:(rs.map Rec.key).Nodup
 inn:∀ r∈rs,r.a<c/\1<=r.b/\r.b<=own r.a
 outs:∀ r∈rs,r.outs.length<64/\∀ q∈r.outs,KeyIn c own q
theorem Ga (a b a' b':Int):eqD 7 (.tup [.int a,.int b]) (.tup [.int a',.int b'])=xo (decide (a=a'/\b=b')):=by
 have:eqD 7 (.tup [.int a,.int b]) (.tup [.int a',.int b'])=xo ((a==a'&&(b==b'&&true))&&true):=rfl
 rw[this]
 congr 1
 by_cases h:a=a' <;> by_cases h2:b=b' <;> simp[h,h2]
theorem Cc (a b:Nat):∀(l:List (List Key)),(∀ q∈l,∃ x y:Nat,q=gG x y)->inO (fun d=>eqD 7 d (mkD a b)) (l.map bI)=xo (HY (gG a b) l)
 |[],_=>rfl
 |q::l,h=>by
  obtain⟨x,y,rfl⟩:=h q ar;have ih:=Cc a b l fun q hq=>h q (ai _ hq)
  show(eqD 7 (mkD x y) (mkD a b)).bind (fun k=>(inO (fun d=>eqD 7 d (mkD a b)) (l.map bI)).map fun c=>k||c)=_
  rw[ih];unfold mkD;rw[Ga];show xo (decide ((x:Int)=a/\(y:Int)=b)||HY (gG a b) l)=xo (decide (gG x y=gG a b)||HY (gG a b) l)
  have:(gG x y=gG a b)↔((x:Int)=a/\(y:Int)=b):=by
   unfold gG;simp
  rw[decide_eq_decide.mpr this]
theorem KeyIn.mk (h:KeyIn c own q):∃ x y:Nat,q=gG x y:=by
 obtain⟨a,b,_,_,_,e⟩:=h;exact⟨a,b,e⟩
section
variable {B ω:Om}{c h dd oo kk:Nat}{ks:Nat->Nat}{rs:List Rec}{kn:Nat->Nat->List Int}{own:Nat->Nat}
theorem Jb (L:LawAt B ω c h dd oo kk ks rs kn) (hr:r∈rs):iQ ω (.obj dd) r.mark=xo r.val:=by
 have e1:DY r.mark=xo r.key:=rfl;have e2:iI (rs.map fun r=>(r.key,r.val)) r.key=xo r.val:=by
  have nd:((rs.map fun r=>(r.key,r.val)).map (·.1)).Nodup:=by
   rw[fj];exact L.keys
  exact Ac nd (az.mpr ⟨r,hr,rfl⟩)
 simp only[iQ,Ea,cellOf,L.deeds,e1];rw[sv,e2];rfl
theorem xV (hrow:row.length=c):∀(post pre:List Rec) {ω:Om}{n:Nat}{v4 v5 v6:Option D},LawAt B ω c h dd oo kk ks rs kn->0<c->wF c own rs->RowV ω rowD row->rs=pre++post->rs.length<64->ω[n]?=xo (.ml (bD pre row))->sK ω n->n≠h->n≠dd->n≠oo->n≠kk->(∀ i,i<c->n≠ks i)->B.length<=n->
  ∃ v4' v5' v6',bO (aS 4) (iO oo (rs.map Rec.mark)) bC (post.map Rec.mark) [xo (.obj h),xo rowD,xo (.lst ((dP pre row).map bI)),xo (.obj n),v4,v5,v6] ω=xo (.nx [xo (.obj h),xo rowD,xo (.lst ((dP rs row).map bI)),xo (.obj n),v4',v5',v6'],ω.set n (.ml (bD rs row)))
 |[],pre,ω,n,v4,v5,v6,L,c0,R,hr,hp,hl,hn,nr,n1,n2,n3,n4,n5,nb=>by
  rw[cu] at hp;subst hp;refine⟨v4,v5,v6,?_⟩
  show(if iO oo (rs.map Rec.mark) ω=true then _ else xp)=_
  rw[if_pos (kR L.order),gA hn]
 |r::post,pre,ω,n,v4,v5,v6,L,c0,R,hr,hp,hl,hn,nr,n1,n2,n3,n4,n5,nb=>by
  have hm:r∈rs:=by rw[hp];simp
  have hp':rs=(pre++[r])++post:=by rw[fy];exact hp
  have rin:=R.inn r hm;have step:∀(ω2:Om) (v5' v6':Option D) (g' t':D),g'=.lst ((dP (pre++[r]) row).map bI)->bC [xo (.obj h),xo rowD,xo (.lst ((dP pre row).map bI)),xo (.obj n),xo r.mark,v5,v6] ω=xo (.nx [xo (.obj h),xo rowD,xo g',xo (.obj n),xo r.mark,v5',v6'],ω2)->ω2=ω.set n (.ml (bD (pre++[r]) row))->
    ∃ v4' v5' v6',bO (aS 4) (iO oo (rs.map Rec.mark)) bC ((r::post).map Rec.mark) [xo (.obj h),xo rowD,xo (.lst ((dP pre row).map bI)),xo (.obj n),v4,v5,v6] ω=xo (.nx [xo (.obj h),xo rowD,xo (.lst ((dP rs row).map bI)),xo (.obj n),v4',v5',v6'],ω.set n (.ml (bD rs row))):=by
   intro ω2 v5' v6' g' t' hg e1 hω2;subst hg hω2;have hne:∀ m,m≠n->(ω.set n (.ml (bD (pre++[r]) row)))[m]?=ω[m]?:=fun m hm=>aJ hm;have L2:LawAt B (ω.set n (.ml (bD (pre++[r]) row))) c h dd oo kk ks rs kn:=by
    refine⟨?_,?_,?_,?_,fun i hi=> ?_,L.len,L.inj,L.out,L.nd,L.low,⟨by simpa using L.bas.1,fun m hm=> ?_⟩,L.keys,L.ra⟩
    ·rw[hne _ (bz n1)];exact L.obj
    ·rw[hne _ (bz n2)];exact L.deeds
    ·rw[hne _ (bz n3)];exact L.order
    ·rw[hne _ (bz n4)];exact L.known
    ·obtain⟨ds,e,rr⟩:=L.row i hi;exact⟨ds,by rw[hne _ (bz (n5 i hi))];exact e,rr.keep (fun d xs hx q=>q.set hx nr) fun j hj=>L.len0 c0 hi hj⟩
    ·rw[hne _ (by omega)];exact L.bas.2 m hm
   have nr2:sK (ω.set n (.ml (bD (pre++[r]) row))) n:=fun y ys z=>by
    rw[bU hn] at z;have z':bD (pre++[r]) row=iv (y::ys):=by
     injection z with z
     injection z
    have:D.int y∈bD (pre++[r]) row:=by rw[z'];exact ar
    obtain⟨q,_,e2⟩:=gy.mp this;unfold Rec.ent at e2;cases hq:q.put with
    |none=>rw[hq] at e2;cases e2
    |some p=>rw[hq] at e2;cases e2
   have row0:row≠[]:=fun z=>by rw[z] at hrow;simp at hrow;omega
   obtain⟨w4,w5,w6,e3⟩:=xV hrow post (pre++[r]) (v4:=xo r.mark) (v5:=v5') (v6:=v6') L2 c0 R (hr.set row0 nr) hp' hl (bU hn) nr2 n1 n2 n3 n4 n5 nb;refine⟨w4,w5,w6,?_⟩;rw[m7] at e3
   show(if iO oo (rs.map Rec.mark) ω=true then(match bC [xo (.obj h),xo rowD,xo (.lst ((dP pre row).map bI)),xo (.obj n),xo r.mark,v5,v6] ω with
    |none=>xp
    |some (.nx ρ2,ω2)=>bO (aS 4) (iO oo (rs.map Rec.mark)) bC (post.map Rec.mark) ρ2 ω2
    |some (.ct ρ2,ω2)=>bO (aS 4) (iO oo (rs.map Rec.mark)) bC (post.map Rec.mark) ρ2 ω2
    |some (.bk ρ2,ω2)=>xo (.nx ρ2,ω2)
    |some (.rt d,ω2)=>xo (.rt d,ω2)
    |some (.ex _,_)=>xp) else xp)=_
   rw[if_pos (kR L.order),e1];exact e3
  have tst:cA (o2 (lf gLe) (zX (zV 4) (zI 1)) (zX (zV 1) (zX (zV 4) (zI 0)))) [xo (.obj h),xo rowD,xo (.lst ((dP pre row).map bI)),xo (.obj n),xo r.mark,v5,v6] ω=xo (.ok (cU row r),ω):=
   cC (gD (aK (aB (d:=r.mark) rfl) aQ rfl) (aK (aB (d:=rowD) rfl) (aK (aB (d:=r.mark) rfl) aQ rfl) (hr.ix (a:=r.a) (by omega) (by omega))) (by
    show xo (D.bl (decide ((r.b:Int)<=row.getD (r.a:Int).toNat 0)))=_;rw[cy];rfl))
  cases hs:cU row r with
  |false=>
   rw[hs] at tst;refine step ω v5 v6 (.lst ((dP pre row).map bI)) .non ?_ ?_ ?_
   ·unfold dP;rw[jt,c7 (by rw[hs];exact cg),k7,cu]
   ·unfold bC;rw[kO tst];rfl
   ·unfold bD at hn ⊢;rw[jt,c7 (by rw[hs];exact cg),k7,cu,gA hn]
  |true=>
   rw[hs] at tst;have eg:dP (pre++[r]) row=dP pre row++r.outs:=by
    unfold dP;rw[jt,c9 hs,k7,List.flatMap_append];simp
   have et:bD (pre++[r]) row=bD pre row++r.ent.toList:=by
    unfold bD;rw[jt,c9 hs,k7,List.filterMap_append]
    congr 1
   have hgl:(dP pre row).length<=64*64:=by
    have gen:∀ l:List Rec,(∀ q∈l,q.outs.length<64)->(l.flatMap (·.outs)).length<=64*l.length:=by
     intro l
     induction l with
     |nil=>intro _;simp
     |cons q l ih=>
      intro hq;rw[List.flatMap_cons,bx,b4]
      have:=hq q ar
      have:=ih fun x hx=>hq x (ai _ hx)
      omega
    have h1:=gen (pre.filter (cU row)) fun q hq=>(R.outs q (by rw[hp];exact dr _ (ca.mp hq).1)).1;have h2:(pre.filter (cU row)).length<=pre.length:=d8 ..;have h3:pre.length<64:=by rw[hp,bx] at hl;omega
    unfold dP;omega
   have houts:=(R.outs r hm).1;have b1:∀ G:OS,aF (GW (qZ 5 6) (zD (zD (zV 0) (zS "deeds")) (zV 4))) (aF (aU 2 (o2 qI (zV 2) (zV 6))) G) [xo (.obj h),xo rowD,xo (.lst ((dP pre row).map bI)),xo (.obj n),xo r.mark,v5,v6] ω=G [xo (.obj h),xo rowD,xo (.lst ((dP (pre++[r]) row).map bI)),xo (.obj n),xo r.mark,xo r.putD,xo (.lst (r.outs.map bI))] ω:=by
    intro G;rw[aZ (ρ1:=[xo (.obj h),xo rowD,xo (.lst ((dP pre row).map bI)),xo (.obj n),xo r.mark,xo r.putD,xo (.lst (r.outs.map bI))]) (ω1:=ω) (by
     unfold GW;rw[bP (dY (d:=r.val) (ω3:=ω) (L.gDeeds (aB rfl)) (aB (d:=r.mark) rfl) (by
      show pu (iQ ω (.obj dd) r.mark) ω=_;rw[Jb L hm];rfl))]
     rfl)]
    rw[aI (d:=.lst ((dP (pre++[r]) row).map bI)) (ω1:=ω) (dY (aB (d:=.lst ((dP pre row).map bI)) rfl) (aB (d:=.lst (r.outs.map bI)) rfl) (by
     show(if((dP pre row).map bI).length+(r.outs.map bI).length<=sizeLine then xo (D.lst ((dP pre row).map bI++r.outs.map bI),ω) else xp)=_
     rw[if_pos (by rw[ak,ak,bt];omega),eg,b9]))]
    rfl
   cases hq:r.put with
   |none=>
    have ep:r.putD=.non:=by unfold Rec.putD;rw[hq]
    have ee:r.ent=xp:=by unfold Rec.ent;rw[hq];rfl
    refine step ω (xo r.putD) (xo (.lst (r.outs.map bI))) _ .non rfl ?_ ?_
    ·unfold bC;rw[mO tst,b1,ep];rfl
    ·rw[et,ee];simp only[Option.toList_none,cu];rw[gA hn]
   |some p=>
    have ep:r.putD=.tup [.str p.1,.int p.2]:=by unfold Rec.putD;rw[hq]
    have ee:r.ent=xo (.tup [.str p.1,mkD r.a r.b,.int p.2]):=by unfold Rec.ent;rw[hq];rfl
    refine step (ω.set n (.ml (bD (pre++[r]) row))) (xo r.putD) (xo (.lst (r.outs.map bI))) _ .non rfl ?_ rfl;unfold bC;rw[mO tst,b1,ep];rw[mO (ω1:=ω) rfl];unfold bQ;have tl:(bD pre row).length<=pre.length:=cf (m8 ..) (d8 ..);have h3:pre.length<64:=by rw[hp,bx] at hl;omega
    rw[bP (jQ (r:=.non) (ω3:=ω.set n (.ml (bD (pre++[r]) row))) (aB (d:=.obj n) rfl) hn (aA (cI (d:=.tup [.str p.1,mkD r.a r.b,.int p.2]) (aA (aK (aB (d:=.tup [.str p.1,.int p.2]) rfl) aQ rfl) (aA (aB (d:=r.mark) rfl) (aA (aK (aB (d:=.tup [.str p.1,.int p.2]) rfl) aQ rfl) aD))) rfl) aD) (by
     simp only[jZ,hn];rw[if_pos (by rw[bt];omega),et,ee];rfl))]
end
theorem uR {o o':Ob}:(ω++[o]).set ω.length o'=ω++[o']:=by simp
section
variable {B ω:Om}{c h dd oo kk:Nat}{ks:Nat->Nat}{rs:List Rec}{kn:Nat->Nat->List Int}{own:Nat->Nat}
theorem xC (R:wF c own rs) (hd:d∈bD rs row):∃(a b:Nat) (x:Str) (v:Int),d=.tup [.str x,mkD a b,.int v]/\a<c/\1<=b/\b<=own a:=by
 obtain⟨r,hr,e⟩:=gy.mp hd;have hin:=R.inn r (ca.mp hr).1;unfold Rec.ent at e;cases hq:r.put with
 |none=>rw[hq] at e;cases e
 |some p=>
  rw[hq] at e;cases e;exact⟨r.a,r.b,p.1,p.2,rfl,hin⟩
theorem Ir (R:wF c own rs) (hq:q∈dP rs row):KeyIn c own q:=by
 obtain⟨r,hr,e⟩:=o5.mp hq;exact(R.outs r (ca.mp hr).1).2 q e
theorem LawAt.lts (L:LawAt B ω c h dd oo kk ks rs kn):h<ω.length/\dd<ω.length/\oo<ω.length/\kk<ω.length/\∀ i,i<c->ks i<ω.length:=⟨dH L.obj,dH L.deeds,dH L.order,dH L.known,fun i hi=>by
 obtain⟨ds,e,_⟩:=L.row i hi;exact dH e⟩
theorem sY (L:LawAt B ω c h dd oo kk ks rs kn) (c0:0<c) (R:wF c own rs) (hr:RowV ω rowD row) (hrow:row.length=c) (hl:rs.length<64) (hs:eD 4 (eK rs row)=xo out):fF [.obj h,rowD] ω=xo (.ok (.lst out),ω++[.ml (bD rs row)]):=by
 obtain⟨l1,l2,l3,l4,l5⟩:=L.lts;have L1:=L.app c0 [Ob.ml []];have nr:sK (ω++[Ob.ml []]) ω.length:=fun y ys z=>by
  rw[de (bf _)] at z;simp at z;cases z
 obtain⟨v4,v5,v6,e⟩:=xV hrow rs [] (n:=ω.length) (v4:=xp) (v5:=xp) (v6:=xp) L1 c0 R (hr.app _) rfl hl (by simp[bD]) nr (by omega) (by omega) (by omega) (by omega) (fun i hi=>by have:=l5 i hi;omega) L.bas.1;rw[uR] at e;have hn:(ω++[Ob.ml (bD rs row)])[ω.length]?=xo (.ml (bD rs row)):=by simp
 have cp:cV rZ (oIL (zV 3)) [xp,xo 2] (aS 0) (cA (o2 (lf (Ck 7)) (zX (zV 0) (zI 1)) (zV 1))) (zV 0) [xo (.obj h),xo rowD,xo (.lst ((dP rs row).map bI)),xo (.obj ω.length),v4,v5,v6] (ω++[.ml (bD rs row)])=xo (.ok (.lst (eK rs row)),ω++[.ml (bD rs row)]):=by
  have tl:(bD rs row).length<=rs.length:=cf (m8 ..) (d8 ..);refine fB (ds:=bD rs row) (chk:=iO ω.length (bD rs row)) (ω1:=ω++[.ml (bD rs row)]) ?_ (by rw[bt];omega) ?_
  ·unfold oIL;rw[bF (aB (d:=.obj ω.length) rfl)]
   have:lX (ω++[Ob.ml (bD rs row)]) (.obj ω.length)=xo (bD rs row,iO ω.length (bD rs row)):=by simp only[lX,hn]
   show oR (pu (lX (ω++[Ob.ml (bD rs row)]) (.obj ω.length)) _)=_;rw[this];rfl
  ·refine(eO (p:=fun d=> !HY (aX d) (dP rs row)) (g:=fun d=>d) (fun ρ=>∃ u,ρ=[u,xo (.lst ((dP rs row).map bI))]) (kR hn) ⟨_,rfl⟩ fun d hd ρ hρ=> ?_).trans (by rw[List.map_id'];rfl);obtain⟨u,rfl⟩:=hρ;obtain⟨a,b,x,v,rfl,_⟩:=xC R hd;refine⟨_,rfl,⟨_,rfl⟩,?_,fun _=>aB rfl⟩;refine cC (gD (aK (aB (d:=.tup [.str x,mkD a b,.int v]) rfl) aQ rfl) (aB (d:=.lst ((dP rs row).map bI)) rfl) ?_)
   show(inO (fun d=>eqD 7 d (mkD a b)) ((dP rs row).map bI)).map (fun k=>D.bl (!k))=_
   rw[Cc a b _ fun q hq=>(Ir R hq).mk];rfl
 refine aT rfl ?_;unfold lS;rw[aI (d:=.lst []) (ω1:=ω) rfl];rw[aI (d:=.obj ω.length) (ω1:=ω++[.ml []]) rfl];refine(aZ (dF (by
  unfold bB oIL;rw[bP (x:=(rs.map Rec.mark,iO oo (rs.map Rec.mark))) (ω1:=ω++[Ob.ml []]) (by
   rw[bF (L1.gOrder (aB (d:=.obj h) rfl))]
   have:lX (ω++[Ob.ml []]) (.obj oo)=xo (rs.map Rec.mark,iO oo (rs.map Rec.mark)):=by simp only[lX,L1.order]
   show oR (pu (lX (ω++[Ob.ml []]) (.obj oo)) _)=_;rw[this];rfl)]
  exact e))).trans ?_
 refine bE (cI (aA cp aD) ?_)
 show(eD 4 (eK rs row)).map _=_
 rw[hs];rfl
theorem LawAt.setRow (L:LawAt B ω c h dd oo kk ks rs kn) (c0:0<c) (hi:i<c) (hj:j<c) (hd:ω[ks i]?=xo (.ml ds)) (hD:RowsD ω c ds (kn i)) (hr:RowV ω d xs) (hx:xs.length=c):LawAt B (ω.set (ks i) (.ml (ds.set j d))) c h dd oo kk ks rs (upF kn i (upF (kn i) j xs)):=by
 have nr:=hD.noRow hd c0;obtain⟨o1,o2,o3,o4⟩:=L.out i hi;have x0:xs≠[]:=fun z=>by rw[z] at hx;simp at hx;omega
 refine⟨?_,?_,?_,?_,fun k hk=> ?_,fun a b ha hb=> ?_,L.inj,L.out,L.nd,L.low,⟨by simpa using L.bas.1,fun m hm=> ?_⟩,L.keys,L.ra⟩
 ·rw[aJ (bz o1)];exact L.obj
 ·rw[aJ (bz o2)];exact L.deeds
 ·rw[aJ (bz o3)];exact L.order
 ·rw[aJ (bz o4)];exact L.known
 ·by_cases hk2:k=i
  ·subst hk2;refine⟨ds.set j d,bU hd,by rw[cj];exact hD.1,fun b hb=> ?_⟩;rw[bA]
   by_cases hb2:b=j
   ·subst hb2;rw[bA];exact⟨d,du (by rw[hD.1];exact hb),hr.set x0 nr⟩
   ·rw[aY hb2];obtain⟨d',e,r⟩:=hD.2 b hb;exact⟨d',by rw[f8 (bz hb2)];exact e,r.set (L.len0 c0 hi hb) nr⟩
  ·rw[aY hk2];obtain⟨ds',e,r⟩:=L.row k hk;exact⟨ds',by rw[aJ (L.inj k i hk hi hk2)];exact e,r.keep (fun d xs hx q=>q.set hx nr) fun b hb=>L.len0 c0 hk hb⟩
 ·by_cases hk2:a=i
  ·subst hk2;rw[bA]
   by_cases hb2:b=j
   ·subst hb2;rw[bA];exact hx
   ·rw[aY hb2];exact L.len _ _ ha hb
  ·rw[aY hk2];exact L.len _ _ ha hb
 ·rw[aJ (by have:=L.low.2.2.2.2 i hi;omega)];exact L.bas.2 m hm
theorem LawAt.addRec (L:LawAt B ω c h dd oo kk ks rs kn) (c0:0<c) (hr:r.a<c) (hk:r.key∉rs.map Rec.key):LawAt B ((ω.set dd (.dt ((rs++[r]).map fun r=>(r.key,r.val)))).set oo (.ml ((rs++[r]).map Rec.mark))) c h dd oo kk ks (rs++[r]) kn:=by
 obtain⟨d1,d2,d3,d4,d5,d6⟩:=L.nd;have nd:=L.noDeeds;have no:sK (ω.set dd (.dt ((rs++[r]).map fun r=>(r.key,r.val)))) oo:=fun y ys z=>by
  rw[aJ (bz d4)] at z;exact L.noOrder y ys z
 refine⟨?_,?_,?_,?_,fun i hi=> ?_,L.len,L.inj,L.out,L.nd,L.low,⟨by simpa using L.bas.1,fun m hm=> ?_⟩,?_,fun q hq=> ?_⟩
 ·rw[aJ d2,aJ d1];exact L.obj
 ·rw[aJ d4];exact bU L.deeds
 ·exact bU (by rw[aJ (bz d4)];exact L.order)
 ·rw[aJ (bz d6),aJ (bz d5)];exact L.known
 ·obtain⟨ds,e,rr⟩:=L.row i hi;obtain⟨o1,o2,o3,o4⟩:=L.out i hi;exact⟨ds,by rw[aJ o3,aJ o2];exact e,rr.keep (fun d xs hx q=>(q.set hx nd).set hx no) fun j hj=>L.len0 c0 hi hj⟩
 ·obtain⟨m1,m2,m3,m4,m5⟩:=L.low;rw[aJ (by omega),aJ (by omega)];exact L.bas.2 m hm
 ·rw[b9,jy];refine⟨L.keys,by simp,fun a ha b hb z=>hk ?_⟩
  have:b=r.key:=by simpa using hb
  rw[<- this,<- z];exact ha
 ·rcases c6.mp hq with z|z
  ·exact L.ra q z
  ·rw[fg.mp z];exact hr
theorem vD (L:LawAt B ω c h dd oo kk ks rs kn) (c0:0<c) (hi:own'<c) (ha:r.a=own') (hb:(r.b:Int)=(kn own' own').getD own' 0+1) (hk:r.key∉rs.map Rec.key) (hl:rs.length<64):∃ ω',cW [.obj h,.int own',r.putD,.lst (r.outs.map bI)] ω=xo (.ok r.mark,ω')/\LawAt B ω' c h dd oo kk ks (rs++[r]) (upF kn own' (upF (kn own') own' ((kn own' own').set own' r.b)))/\ω.length<=ω'.length:=by
 obtain⟨ds,e1,D1⟩:=L.row own' hi;obtain⟨d,e2,R1⟩:=D1.ix e1 hi;obtain⟨xs,hxs⟩:∃ xs,xs=kn own' own':=⟨_,rfl⟩;have hlen:xs.length=c:=by rw[hxs];exact L.len _ _ hi hi
 rw[<- hxs] at R1 hb ⊢;obtain⟨ω2,hω2⟩:∃ ω2,ω2=ω++[Ob.ml (iv (xs.set own' r.b))]:=⟨_,rfl⟩;have L2:LawAt B ω2 c h dd oo kk ks rs kn:=by rw[hω2];exact L.app c0 _
 have s2:ω2[ω.length]?=xo (.ml (iv (xs.set own' r.b))):=by rw[hω2];simp
 have e1':ω2[ks own']?=xo (.ml ds):=by rw[hω2,am (dH e1)];exact e1
 have D2:RowsD ω2 c ds (kn own'):=D1.keep (fun d xs _ q=>by rw[hω2];exact q.app _) fun j hj=>L.len0 c0 hi hj;have xr:(xs.set own' (r.b:Int)).length=c:=by rw[cj];exact hlen
 obtain⟨ω3,hω3⟩:∃ ω3,ω3=ω2.set (ks own') (.ml (ds.set own' (.obj ω.length))):=⟨_,rfl⟩;have L3:LawAt B ω3 c h dd oo kk ks rs (upF kn own' (upF (kn own') own' (xs.set own' r.b))):=by rw[hω3];exact L2.setRow c0 hi hi e1' D2 (cE s2) xr
 have nr2:=D2.noRow e1' c0;have s3:ω3[ω.length]?=xo (.ml (iv (xs.set own' r.b))):=by
  have:=L.lts.2.2.2.2 own' hi
  rw[hω3,aJ (by omega)];exact s2
 have L4:=L3.addRec (r:=r) c0 (by omega) hk;have key:r.key=gG own' r.b:=by unfold Rec.key;rw[ha]
 have mk:r.mark=mkD own' r.b:=by unfold Rec.mark;rw[ha]
 have ix3:oI ω3 (.obj ω.length) (.int own')=xo (.int r.b):=by
  have:=(cE s3).ix (a:=own') (by omega) (by rw[xr];omega)
  rw[this,cy,fH _ _ _ _ (by omega),if_pos rfl]
 refine⟨_,?_,L4,by rw[cj,cj,hω3,cj,hω2];simp⟩;refine aT rfl ?_;unfold qE;refine(aI (d:=.obj ω.length) (ω1:=ω++[.ml (iv xs)]) (cI (aA (aK (aK (L.gKnown (aB rfl)) (aB (d:=.int own') rfl) (L.ixKnown hi)) (aB (d:=.int own') rfl) e2) aD) (by
  have:bY ω d=xo (iv xs):=by
   rcases fE R1 with rfl|⟨n,rfl,e⟩
   ·rfl
   ·simp only[bY,eJ,e]
  show tV ω [d]=_;simp only[tV,this];rfl))).trans ?_
 have s1:(ω++[Ob.ml (iv xs)])[ω.length]?=xo (.ml (iv xs)):=by simp
 have ix1:oI (ω++[Ob.ml (iv xs)]) (.obj ω.length) (.int own')=xo (.int (xs.getD own' 0)):=by
  have:=(cE s1).ix (a:=own') (by omega) (by rw[hlen];omega)
  rw[this,cy]
 refine(aZ (eI (v:=.int r.b) (o:=.obj ω.length) (i:=.int own') (ω4:=ω2) (by
  have:=kI (ω:=ω++[Ob.ml (iv xs)]) (f:=zX (zV 4) (zV 1)) (h:=zI 1) (ρ:=(cB rK [.obj h,.int own',r.putD,.lst (r.outs.map bI)]).set 4 (xo (.obj ω.length))) (aK (aB (d:=.obj ω.length) rfl) (aB (d:=.int own') rfl) ix1) aQ
  rw[hb];exact this) (aB rfl) (aB rfl) (by
  rw[kL s1 (by unfold iv;rw[ak];omega),uR,hω2];unfold iv;rw[rm]))).trans ?_
 refine(aZ (eI (v:=.obj ω.length) (o:=.obj (ks own')) (i:=.int own') (ω4:=ω3) (aB rfl) (aK (L2.gKnown (aB (d:=.obj h) rfl)) (aB (d:=.int own') rfl) (L2.ixKnown hi)) (aB rfl) (by rw[kL e1' (by rw[D1.1];exact hi),hω3]))).trans ?_;refine(aZ (eI (v:=r.val) (o:=.obj dd) (i:=r.mark) (ω4:=ω3.set dd (.dt ((rs++[r]).map fun r=>(r.key,r.val)))) (cI (aA (aB (d:=r.putD) rfl) (aA (aB (d:=.lst (r.outs.map bI)) rfl) aD)) rfl) (L3.gDeeds (aB (d:=.obj h) rfl)) (cI (aA (aB (d:=.int own') rfl) (aA (aK (aB (d:=.obj ω.length) rfl) (aB (d:=.int own') rfl) ix3) aD)) (by rw[mk];rfl)) (by
  rw[qL (ks:=r.key) L3.deeds rfl (by rw[ak,bt];omega),uV (by rw[fj];exact hk),b9];rfl))).trans ?_
 obtain⟨d1,d2,d3,d4,d5,d6⟩:=L.nd;have o4:(ω3.set dd (.dt ((rs++[r]).map fun r=>(r.key,r.val))))[oo]?=xo (.ml (rs.map Rec.mark)):=by rw[aJ (bz d4)];exact L3.order
 have h4:(ω3.set dd (.dt ((rs++[r]).map fun r=>(r.key,r.val))))[h]?=xo (.dk [(.inr "count",.int c),(.inr "deeds",.obj dd),(.inr "order",.obj oo),(.inr "known",.obj kk)]):=by rw[aJ d1];exact L3.obj
 have dlt:=L.lts.2.1;have s4:(ω3.set dd (.dt ((rs++[r]).map fun r=>(r.key,r.val))))[ω.length]?=xo (.ml (iv (xs.set own' r.b))):=by rw[aJ (by omega)];exact s3
 have ix4:oI (ω3.set dd (.dt ((rs++[r]).map fun r=>(r.key,r.val)))) (.obj ω.length) (.int own')=xo (.int r.b):=by
  have:=(cE s4).ix (a:=own') (by omega) (by rw[xr];omega)
  rw[this,cy,fH _ _ _ _ (by omega),if_pos rfl]
 refine(aZ (ρ1:=[xo (.obj h),xo (.int own'),xo r.putD,xo (.lst (r.outs.map bI)),xo (.obj ω.length)]) (ω1:=(ω3.set dd (.dt ((rs++[r]).map fun r=>(r.key,r.val)))).set oo (.ml ((rs++[r]).map Rec.mark))) (by
  unfold bQ;rw[bP (jQ (r:=.non) (ω3:=(ω3.set dd (.dt ((rs++[r]).map fun r=>(r.key,r.val)))).set oo (.ml ((rs++[r]).map Rec.mark))) (dY (aB (d:=.obj h) rfl) aQ (d:=.obj oo) (ω3:=ω3.set dd (.dt ((rs++[r]).map fun r=>(r.key,r.val)))) (by
   show pu (iQ _ (.obj h) (.str "order")) _=_
   have:iQ (ω3.set dd (.dt ((rs++[r]).map fun r=>(r.key,r.val)))) (.obj h) (.str "order")=xo (.obj oo):=by
    simp only[iQ,Ea,cellOf,h4,toK];rfl
   rw[this];rfl)) o4 (aA (cI (d:=r.mark) (aA (aB (d:=.int own') rfl) (aA (aK (aB (d:=.obj ω.length) rfl) (aB (d:=.int own') rfl) ix4) aD)) (by rw[mk];rfl)) aD) (by
   simp only[jZ,o4];rw[if_pos (by rw[ak,bt];omega),show(rs++[r]).map Rec.mark=rs.map Rec.mark++[r.mark] from by simp]))]
  rfl)).trans ?_
 have olt:=L.lts.2.2.1;have s5:((ω3.set dd (.dt ((rs++[r]).map fun r=>(r.key,r.val)))).set oo (.ml ((rs++[r]).map Rec.mark)))[ω.length]?=xo (.ml (iv (xs.set own' r.b))):=by rw[aJ (by omega)];exact s4
 refine bE (cI (aA (aB (d:=.int own') rfl) (aA (aK (d:=.int r.b) (aB (d:=.obj ω.length) rfl) (aB (d:=.int own') rfl) (by
  have:=(cE s5).ix (a:=own') (by omega) (by rw[xr];omega)
  rw[this,cy,fH _ _ _ _ (by omega),if_pos rfl])) aD)) (by rw[mk];rfl))
end
noncomputable def mo (kn:Nat->Nat->List Int) (one other k j:Nat):Int:=if k=other then mx (mx ((kn one k).getD j 0) ((kn other k).getD j 0)) ((kn one one).getD j 0) else mx ((kn one k).getD j 0) ((kn other k).getD j 0)
noncomputable def moR (c:Nat) (kn:Nat->Nat->List Int) (one other k:Nat):List Int:=(bp c).map (mo kn one other k)
section
variable {B ω0:Om}{c h dd oo kk:Nat}{ks:Nat->Nat}{rs:List Rec}{kn:Nat->Nat->List Int}{one other:Nat}
theorem LawAt.ixRow (L:LawAt B ω0 c h dd oo kk ks rs kn) (g:∀ n:Nat,n<ω0.length->ω[n]?=ω0[n]?) (hi:i<c) (hj:j<c):∃ d,oI ω (.obj (ks i)) (.int j)=xo d/\RowV ω d (kn i j):=by
 obtain⟨ds,e,r⟩:=L.row i hi;obtain⟨d,e1,r1⟩:=r.2 j hj;have e':ω[ks i]?=xo (.ml ds):=by rw[g _ (dH e)];exact e
 exact⟨d,by rw[kY e'];exact uI e1,r1.keep fun n q=>by rw[g n (dH q)];exact q⟩
theorem sQ (L:LawAt B ω0 c h dd oo kk ks rs kn) (c8:c<=8) (h1:one<c) (h2:other<c) (hk:k<c) (hq:ω0.length<=q):∀(r s:Nat) {ω:Om}{v9 v10:Option D},(∀ n:Nat,n<ω0.length->ω[n]?=ω0[n]?)->ω[q]?=xo (.ml (iv ((bp s).map (mo kn one other k))))->s+r=c->
  ∃ v9' v10',bO (aS 9) bK cT (lG s r) [v0,xo (.int one),xo (.int other),xo (.obj (ks one)),xo (.obj (ks other)),v5,v6,xo (.int k),xo (.obj q),v9,v10] ω=xo (.nx [v0,xo (.int one),xo (.int other),xo (.obj (ks one)),xo (.obj (ks other)),v5,v6,xo (.int k),xo (.obj q),v9',v10'],ω.set q (.ml (iv (moR c kn one other k))))
 |0,s,ω,v9,v10,g,e,hs=>⟨v9,v10,by
   have:s=c:=by omega
   subst this;show xo (OOut.nx _,ω)=_;rw[show moR s kn one other k=(bp s).map (mo kn one other k) from rfl,gA e]⟩
 |r+1,s,ω,v9,v10,g,e,hs=>by
  have hsc:s<c:=by omega
  obtain⟨d1,i1,r1⟩:=L.ixRow g h1 hk;obtain⟨d2,i2,r2⟩:=L.ixRow g h2 hk;obtain⟨d3,i3,r3⟩:=L.ixRow g h1 h1;have rx:∀ {d:D}{xs:List Int},RowV ω d xs->xs.length=c->oI ω d (.int s)=xo (.int (xs.getD s 0)):=fun {d xs} rr hx=>by
   have:=rr.ix (a:=s) (by omega) (by omega)
   rw[this,cy]
  have b1:∃ v10',cT [v0,xo (.int one),xo (.int other),xo (.obj (ks one)),xo (.obj (ks other)),v5,v6,xo (.int k),xo (.obj q),xo (.int s),v10] ω=xo (.nx [v0,xo (.int one),xo (.int other),xo (.obj (ks one)),xo (.obj (ks other)),v5,v6,xo (.int k),xo (.obj q),xo (.int s),v10'],ω.set q (.ml (iv ((bp (s+1)).map (mo kn one other k))))):=by
   refine⟨xo (.int (mo kn one other k s)),?_⟩;unfold cT;rw[aI (d:=.int (mx ((kn one k).getD s 0) ((kn other k).getD s 0))) (ω1:=ω) (cI (aA (aK (aK (aB (d:=.obj (ks one)) rfl) (aB (d:=.int k) rfl) i1) (aB (d:=.int s) rfl) (rx r1 (L.len _ _ h1 hk))) (aA (aK (aK (aB (d:=.obj (ks other)) rfl) (aB (d:=.int k) rfl) i2) (aB (d:=.int s) rfl) (rx r2 (L.len _ _ h2 hk))) aD)) rfl)];have mid:dQ (cA (o2 (iM 8) (zV 7) (zV 2))) (aU 10 (oL (lfL yS) (aC (zV 10) (aC (zX (zX (zV 3) (zV 1)) (zV 9)) aM)))) bN [v0,xo (.int one),xo (.int other),xo (.obj (ks one)),xo (.obj (ks other)),v5,v6,xo (.int k),xo (.obj q),xo (.int s),xo (.int (mx ((kn one k).getD s 0) ((kn other k).getD s 0)))] ω=xo (.nx [v0,xo (.int one),xo (.int other),xo (.obj (ks one)),xo (.obj (ks other)),v5,v6,xo (.int k),xo (.obj q),xo (.int s),xo (.int (mo kn one other k s))],ω):=by
    have t:=LI (ω:=ω) (ρ:=[v0,xo (.int one),xo (.int other),xo (.obj (ks one)),xo (.obj (ks other)),v5,v6,xo (.int k),xo (.obj q),xo (.int s),xo (.int (mx ((kn one k).getD s 0) ((kn other k).getD s 0)))]) (k:=7) (l:=2) (a:=(k:Int)) (b:=(other:Int)) rfl rfl
    by_cases hko:k=other
    ·rw[decide_eq_true (by omega:(k:Int)=other)] at t;rw[mO t,Cz (d:=.int (mo kn one other k s)) (ω1:=ω) (cI (aA (aB (d:=.int (mx ((kn one k).getD s 0) ((kn other k).getD s 0))) rfl) (aA (aK (aK (aB (d:=.obj (ks one)) rfl) (aB (d:=.int one) rfl) i3) (aB (d:=.int s) rfl) (rx r3 (L.len _ _ h1 h1))) aD)) (by
      unfold mo;rw[if_pos hko];rfl))]
     rfl
    ·rw[decide_eq_false (by omega:¬(k:Int)=other)] at t;rw[kO t];unfold mo;rw[if_neg hko];rfl
   refine(aZ mid).trans ?_;unfold bQ;rw[bP (jQ (r:=.non) (ω3:=ω.set q (.ml (iv ((bp (s+1)).map (mo kn one other k))))) (aB (d:=.obj q) rfl) e (aA (aB (d:=.int (mo kn one other k s)) rfl) aD) (by
    simp only[jZ,e];rw[if_pos (by unfold iv;rw[ak,ak,gq,bt];omega),k8];unfold iv;rw[b9,b9];rfl))]
  obtain⟨w10,b1⟩:=b1;obtain⟨u9,u10,e2⟩:=sQ L c8 h1 h2 hk hq (v0:=v0) (v5:=v5) (v6:=v6) r (s+1) (ω:=ω.set q (.ml (iv ((bp (s+1)).map (mo kn one other k))))) (v9:=xo (.int s)) (v10:=w10) (fun n hn=>by rw[aJ (by omega)];exact g n hn) (bU e) (by omega);refine⟨u9,u10,?_⟩;rw[m7] at e2;rw[eW];refine(bS rfl rfl (b1)).trans ?_;exact e2
def CF (ω:Om) (lo m s:Nat) (ds:List D) (q:Nat->List Int):Prop:=ω[m]?=xo (.ml ds)/\ds.length=s/\∀ j,j<s->∃ n,ds[j]?=xo (.obj n)/\ω[n]?=xo (.ml (iv (q j)))/\n≠m/\lo<=n
theorem sP (L:LawAt B ω0 c h dd oo kk ks rs kn) (c0:0<c) (c8:c<=8) (h1:one<c) (h2:other<c) (hm:ω0.length<=m):∀(r s:Nat) {ω:Om}{ds:List D}{v7 v8 v9 v10:Option D},(∀ n:Nat,n<ω0.length->ω[n]?=ω0[n]?)->ω0.length<=ω.length->CF ω ω0.length m s ds (moR c kn one other)->s+r=c->
  ∃ ω' ds' v7' v8' v9' v10',bO (aS 7) bK cS (lG s r) [xo (.obj h),xo (.int one),xo (.int other),xo (.obj (ks one)),xo (.obj (ks other)),v5,xo (.obj m),v7,v8,v9,v10] ω=xo (.nx [xo (.obj h),xo (.int one),xo (.int other),xo (.obj (ks one)),xo (.obj (ks other)),v5,xo (.obj m),v7',v8',v9',v10'],ω')/\(∀ n:Nat,n<ω0.length->ω'[n]?=ω0[n]?)/\ω0.length<=ω'.length/\CF ω' ω0.length m c ds' (moR c kn one other)
 |0,s,ω,ds,v7,v8,v9,v10,g,gl,M,hs=>by
  have:s=c:=by omega
  subst this;exact⟨ω,ds,v7,v8,v9,v10,rfl,g,gl,M⟩
 |r+1,s,ω,ds,v7,v8,v9,v10,g,gl,M,hs=>by
  obtain⟨M1,M2,M3⟩:=M;have mlt:=dH M1;have g1:∀ n:Nat,n<ω0.length->(ω++[Ob.ml []])[n]?=ω0[n]?:=fun n hn=>by rw[am (by omega)];exact g n hn
  obtain⟨u9,u10,e1⟩:=sQ L c8 h1 h2 (k:=s) (q:=ω.length) (by omega) gl (v0:=xo (.obj h)) (v5:=v5) (v6:=xo (.obj m)) c 0 (ω:=ω++[Ob.ml []]) (v9:=v9) (v10:=v10) g1 (by simp[iv]) (by omega);rw[uR] at e1;have M1':(ω++[Ob.ml (iv (moR c kn one other s))])[m]?=xo (.ml ds):=by rw[am mlt];exact M1
  obtain⟨ω2,hω2⟩:∃ ω2,ω2=(ω++[Ob.ml (iv (moR c kn one other s))]).set m (.ml (ds++[.obj ω.length])):=⟨_,rfl⟩;have L1:LawAt B (ω++[Ob.ml []]) c h dd oo kk ks rs kn:=L.mono c0 (by simp;omega) g1;have b2:cS [xo (.obj h),xo (.int one),xo (.int other),xo (.obj (ks one)),xo (.obj (ks other)),v5,xo (.obj m),xo (.int s),v8,v9,v10] ω=xo (.nx [xo (.obj h),xo (.int one),xo (.int other),xo (.obj (ks one)),xo (.obj (ks other)),v5,xo (.obj m),xo (.int s),xo (.obj ω.length),u9,u10],ω2):=by
   unfold cS;rw[aI (d:=.obj ω.length) (ω1:=ω++[.ml []]) rfl];refine(aZ (dF (by
    unfold bB;rw[bP (iV (c:=c) (L1.gCount (aB (d:=.obj h) rfl)) (by omega))];exact e1))).trans ?_
   unfold bQ;rw[bP (jQ (r:=.non) (ω3:=ω2) (aB (d:=.obj m) rfl) M1' (aA (aB (d:=.obj ω.length) rfl) aD) (by
    simp only[jZ,M1'];rw[if_pos (by rw[bt];omega),hω2]))]
  have g2:∀ n:Nat,n<ω0.length->ω2[n]?=ω0[n]?:=fun n hn=>by rw[hω2,aJ (by omega),am (by omega)];exact g n hn
  have l2:ω2.length=ω.length+1:=by rw[hω2];simp
  have Md:CF ω2 ω0.length m (s+1) (ds++[.obj ω.length]) (moR c kn one other):=by
   refine⟨by rw[hω2];exact bU M1',by simp[M2],fun j hj=> ?_⟩
   by_cases hjs:j<s
   ·obtain⟨n,a1,a2,a3,a4⟩:=M3 j hjs;refine⟨n,by rw[am (by omega)];exact a1,?_,a3,a4⟩;rw[hω2,aJ a3,am (dH a2)];exact a2
   ·have:j=s:=by omega
    subst this;refine⟨ω.length,by rw[de (by omega),M2];simp,?_,by omega,gl⟩;rw[hω2,aJ (by omega)];simp
  obtain⟨ω',ds',w7,w8,w9,w10,e2,g3,l3,M4⟩:=sP L c0 c8 h1 h2 hm (v5:=v5) r (s+1) (v7:=xo (.int s)) (v8:=xo (.obj ω.length)) (v9:=u9) (v10:=u10) g2 (by omega) Md (by omega);refine⟨ω',ds',w7,w8,w9,w10,?_,g3,l3,M4⟩;rw[eW];refine(bS rfl rfl (b2)).trans ?_;exact e2
theorem Ej (e:f ρ ω=xo (.ok d,ω)) (r:RowV ω d xs):oL AE (aC f aM) ρ ω=xo (.ok (.int xs.sum),ω):=by
 refine cI (aA e aD) ?_;have r':eJ ω d=xo (iv xs):=r;simp only[AE,r']
 show(lE (iv xs)).map _=_
 rw[oQ];rfl
theorem iY (L:LawAt B ω0 c h dd oo kk ks rs kn) (c0:0<c) (c8:c<=8) (h1:one<c) (h2:other<c):∃ ω' ks',cX [.obj h,.int one,.int other] ω0=xo (.ok (.int ((moR c kn one other other).sum-(kn other other).sum)),ω')/\LawAt B ω' c h dd oo kk ks' rs (upF kn other (moR c kn one other))/\ω0.length<=ω'.length:=by
 obtain⟨l1,l2,l3,l4,l5⟩:=L.lts;obtain⟨d0,i0,r0⟩:=L.ixRow (ω:=ω0) (fun _ _=>rfl) h2 h2;have g1:∀ n:Nat,n<ω0.length->(ω0++[Ob.ml []])[n]?=ω0[n]?:=fun n hn=>am hn;have M0:CF (ω0++[Ob.ml []]) ω0.length ω0.length 0 [] (moR c kn one other):=⟨by simp,rfl,fun j hj=>by omega⟩;obtain⟨ω5,ds,v7,v8,v9,v10,e5,g5,ll5,M1,M2,M3⟩:=sP L c0 c8 h1 h2 (bf ω0.length) (v5:=xo (.int (kn other other).sum)) c 0 (v7:=xp) (v8:=xp) (v9:=xp) (v10:=xp) g1 (by simp) M0 (by omega);have L5:LawAt B ω5 c h dd oo kk ks rs kn:=L.mono c0 ll5 g5;have L1:LawAt B (ω0++[Ob.ml []]) c h dd oo kk ks rs kn:=L.app c0 _;obtain⟨ω6,hω6⟩:∃ ω6,ω6=ω5.set kk (.ml ((bp c).map fun i=>.obj (upF ks other ω0.length i))):=⟨_,rfl⟩;have kset:((bp c).map fun i=>D.obj (ks i)).set other (.obj ω0.length)=(bp c).map fun i=>.obj (upF ks other ω0.length i):=by
  apply iq;intro i
  by_cases hi:i=other
  ·subst hi;rw[du (by rw[ak,gq];exact h2),ay,di h2];show _=xo (D.obj (upF ks i ω0.length i));rw[bA]
  ·rw[f8 (bz hi),ay,ay];cases hq:(bp c)[i]? with
   |none=>rfl
   |some j=>
    have hj:j=i:=by
     obtain⟨hlt,e⟩:=bq.mp hq;rw[my] at e;exact e.symm
    subst hj;show xo (D.obj (ks j))=xo (D.obj (upF ks other ω0.length j));rw[aY hi]
 have moL:∀ k,(moR c kn one other k).length=c:=fun k=>by unfold moR;simp
 have nk:sK ω5 kk:=fun y ys z=>by
  rw[L5.known] at z;injection z with z
  injection z with z
  have:D.int y∈(bp c).map fun i=>D.obj (ks i):=by rw[z];exact ar
  obtain⟨i,_,e⟩:=az.mp this;cases e
 obtain⟨d1,d2,d3,d4,d5,d6⟩:=L.nd;have L6:LawAt B ω6 c h dd oo kk (upF ks other ω0.length) rs (upF kn other (moR c kn one other)):=by
  rw[hω6];refine⟨?_,?_,?_,bU L5.known,fun i hi=> ?_,fun i j hi hj=> ?_,fun i j hi hj hne=> ?_,fun i hi=> ?_,L.nd,⟨L.low.1,L.low.2.1,L.low.2.2.1,L.low.2.2.2.1,fun i hi=> ?_⟩,⟨by simpa using L5.bas.1,fun n hn=> ?_⟩,L.keys,L.ra⟩
  ·rw[aJ d3];exact L5.obj
  ·rw[aJ d5];exact L5.deeds
  ·rw[aJ d6];exact L5.order
  ·by_cases hio:i=other
   ·subst hio;rw[bA,bA];refine⟨ds,by rw[aJ (by omega)];exact M1,M2,fun j hj=> ?_⟩;obtain⟨n,a1,a2,a3,a4⟩:=M3 j hj;exact⟨.obj n,a1,cE (by rw[aJ (by omega)];exact a2)⟩
   ·rw[aY hio,aY hio];obtain⟨ds',e,r⟩:=L5.row i hi;exact⟨ds',by rw[aJ (L.out i hi).2.2.2];exact e,r.keep (fun d xs hx q=>q.set hx nk) fun j hj=>L.len0 c0 hi hj⟩
  ·by_cases hio:i=other
   ·subst hio;rw[bA];exact moL j
   ·rw[aY hio];exact L.len i j hi hj
  ·by_cases hio:i=other
   ·subst hio;rw[bA,aY (bz hne)]
    have:=l5 j hj
    omega
   ·rw[aY hio]
    by_cases hjo:j=other
    ·subst hjo;rw[bA]
     have:=l5 i hi
     omega
    ·rw[aY hjo];exact L.inj i j hi hj hne
  ·by_cases hio:i=other
   ·subst hio;rw[bA];omega
   ·rw[aY hio];exact L.out i hi
  ·by_cases hio:i=other
   ·subst hio;rw[bA];exact L.bas.1
   ·rw[aY hio];exact L.low.2.2.2.2 i hi
  ·rw[aJ (by have:=L.low.2.2.2.1;omega)];exact L5.bas.2 n hn
 refine⟨ω6,upF ks other ω0.length,?_,L6,by rw[hω6];simpa using ll5⟩;refine aT rfl ?_;unfold iZ;refine(aI (aK (L.gKnown (aB (d:=.obj h) rfl)) (aB (d:=.int one) rfl) (L.ixKnown h1))).trans ?_;refine(aI (aK (L.gKnown (aB (d:=.obj h) rfl)) (aB (d:=.int other) rfl) (L.ixKnown h2))).trans ?_;refine(aI (Ej (aK (aB (d:=.obj (ks other)) rfl) (aB (d:=.int other) rfl) i0) r0)).trans ?_;refine(aI (d:=.obj ω0.length) (ω1:=ω0++[.ml []]) rfl).trans ?_;refine(aZ (dF (by
  unfold bB;rw[bP (iV (c:=c) (L1.gCount (aB (d:=.obj h) rfl)) (by omega))];exact e5))).trans ?_
 refine(aZ (eI (ω4:=ω6) (aB (d:=.obj ω0.length) rfl) (L5.gKnown (aB (d:=.obj h) rfl)) (aB (d:=.int other) rfl) (by rw[kL L5.known (by rw[ak,gq];exact h2),kset,hω6]))).trans ?_;obtain⟨n,a1,a2,a3,a4⟩:=M3 other h2;have m6:ω6[ω0.length]?=xo (.ml ds):=by rw[hω6,aJ (by omega)];exact M1
 have n6:ω6[n]?=xo (.ml (iv (moR c kn one other other))):=by rw[hω6,aJ (by omega)];exact a2
 exact bE (yV (Ej (aK (aB (d:=.obj ω0.length) rfl) (aB (d:=.int other) rfl) (by rw[kY m6];exact uI a1)) (cE n6)) (aB rfl))
end
theorem Fc {c:Nat} (c8:c<=8):∀(m s:Nat) (u:Option D) (ω:Om),∃(ω':Om) (ks:Nat->Nat),compLO (aS 0) bK (oPT jW) (cV IM (oIA gN (aC (zV 1) aM)) [xp,xo 1] (aS 0) (oPT jW) (o2 yR (zL (aC (zI 0) aM)) (zV 1))) (lG s m) [u,xo (.int c)] ω=xo ((c4 s m).map fun i=>D.obj (ks i),ω')/\
  (∀ i,s<=i->i<s+m->∃ ds,ω'[ks i]?=xo (.ml ds)/\RowsD ω' c ds (fun _=>av c 0))/\(∀ i,s<=i->i<s+m->ω.length<=ks i)/\(∀ i,s<=i->i<s+m->∀ j,s<=j->j<s+m->i≠j->ks i≠ks j)/\Keep [] ω ω'
 |0,s,u,ω=>⟨ω,fun _=>0,rfl,fun i h1 h2=>by omega,fun i h1 h2=>by omega,fun i h1 h2=>by omega,Keep.refl _ _⟩
 |m+1,s,u,ω=>by
  have fill:=AJ c8 (lG 0 c) xp ω;rw[gB] at fill;obtain⟨ω1,hω1⟩:∃ ω1,ω1=ω++av c (Ob.ml (iv (av c 0))):=⟨_,rfl⟩;rw[<- hω1] at fill;have l1:ω1.length=ω.length+c:=by rw[hω1];simp
  have one:cV IM (oIA gN (aC (zV 1) aM)) [xp,xo 1] (aS 0) (oPT jW) (o2 yR (zL (aC (zI 0) aM)) (zV 1)) [xo (.int s),xo (.int c)] ω=xo (.ok (.obj ω1.length),ω1++[.ml ((c4 ω.length c).map D.obj)]):=pQ (iV (c:=c) (aB rfl) (by omega)) (by rw[gB,bt];omega) fill;obtain⟨ω2,hω2⟩:∃ ω2,ω2=ω1++[Ob.ml ((c4 ω.length c).map D.obj)]:=⟨_,rfl⟩;rw[<- hω2] at one;have l2:ω2.length=ω.length+c+1:=by rw[hω2];simp[l1]
  have k2:∀ n:Nat,n<ω.length->ω2[n]?=ω[n]?:=fun n hn=>by rw[hω2,am (by omega),hω1,am hn]
  have d2:ω2[ω1.length]?=xo (.ml ((c4 ω.length c).map D.obj)):=by rw[hω2];simp
  have r2:∀ j,j<c->ω2[ω.length+j]?=xo (.ml (iv (av c 0))):=fun j hj=>by
   rw[hω2,am (by omega),hω1,de (by omega),fe,if_pos (by omega)]
  obtain⟨ω3,ks,e3,R3,F3,A3,K3⟩:=Fc c8 m (s+1) (xo (.int s)) ω2;have g3:∀ n:Nat,n<ω2.length->ω3[n]?=ω2[n]?:=fun n hn=>K3.2 n hn (by simp);refine⟨ω3,upF ks s ω1.length,?_,fun i h1 h2=> ?_,fun i h1 h2=> ?_,fun i h1 h2 j h3 h4 hne=> ?_,⟨by have:=K3.1;omega,fun n hn _=> ?_⟩⟩
  ·rw[eW];refine(qX rfl rfl (one)).trans ?_
   show(compLO _ _ _ _ (lG ((s+1:Nat):Int) m) _ _).map _=_
   rw[e3,kh,bg];show xo (_::_,_)=_
   congr 3
   ·rw[bA]
   ·apply eu;intro i hi;rw[nu] at hi;rw[aY (by omega)]
  ·by_cases hi:i=s
   ·subst hi;rw[bA];refine⟨_,by rw[g3 _ (by omega)];exact d2,by simp,fun j hj=>⟨.obj (ω.length+j),?_,cE (by rw[g3 _ (by omega)];exact r2 j hj)⟩⟩;rw[ay,List.getElem?_range' hj];simp
   ·rw[aY hi];exact R3 i (by omega) (by omega)
  ·by_cases hi:i=s
   ·subst hi;rw[bA];omega
   ·rw[aY hi]
    have:=F3 i (by omega) (by omega)
    omega
  ·by_cases hi:i=s
   ·subst hi;rw[bA,aY (bz hne)]
    have:=F3 j (by omega) (by omega)
    omega
   ·rw[aY hi]
    by_cases hj:j=s
    ·subst hj;rw[bA]
     have:=F3 i (by omega) (by omega)
     omega
    ·rw[aY hj];exact A3 i (by omega) (by omega) j (by omega) (by omega) hne
  ·rw[g3 n (by omega)];exact k2 n hn
theorem Df {c:Nat} (c0:0<c) (c8:c<=8) (ω:Om):∃ ω' h dd oo kk ks,pL [.int c] ω=xo (.ok (.obj h),ω')/\LawAt ω ω' c h dd oo kk ks [] (fun _ _=>av c 0):=by
 obtain⟨ω2,hω2⟩:∃ ω2:Om,ω2=ω++[Ob.dk [(.inr "count",.int c),(.inr "deeds",.obj (ω.length+1)),(.inr "order",.obj (ω.length+2))],.dt [],.ml []]:=⟨_,rfl⟩;have l2:ω2.length=ω.length+3:=by rw[hω2];simp
 have h2:ω2[ω.length]?=xo (.dk [(.inr "count",.int c),(.inr "deeds",.obj (ω.length+1)),(.inr "order",.obj (ω.length+2))]):=by rw[hω2];simp
 have d2:ω2[ω.length+1]?=xo (.dt []):=by rw[hω2,de (by omega)];simp
 have o2':ω2[ω.length+2]?=xo (.ml []):=by rw[hω2,de (by omega)];simp
 have k2:∀ n:Nat,n<ω.length->ω2[n]?=ω[n]?:=fun n hn=>by rw[hω2,am hn]
 have disp:CW [("count",(zV 0)),("deeds",vA),("order",(oL GO aM))] (cB jK [.int c]) ω=xo (.ok (.obj ω.length),ω2):=by
  unfold CW;have e:oVs [zV 0,vA,oL GO aM] (cB jK [.int c]) (ω++[.dk []])=xo (.ok [.int c,.obj (ω.length+1),.obj (ω.length+2)],ω++[Ob.dk [],.dt [],.ml []]):=by
   refine aA (aB (d:=.int c) rfl) (aA (a:=.obj (ω.length+1)) (ω1:=ω++[Ob.dk [],.dt []]) (by
    show xo (Rz.ok (D.obj (ω++[Ob.dk []]).length),(ω++[Ob.dk []])++[Ob.dt []])=_;simp) (aA (a:=.obj (ω.length+2)) (ω1:=ω++[Ob.dk [],.dt [],.ml []]) (by
    show xo (Rz.ok (D.obj (ω++[Ob.dk [],Ob.dt []]).length),(ω++[Ob.dk [],Ob.dt []])++[Ob.ml []])=_;simp) aD))
  show(match oVs [zV 0,vA,oL GO aM] (cB jK [.int c]) (ω++[.dk []]) with
   |none=>xp
   |some (.ex c,ω2)=>xo (Rz.ex c,ω2)
   |some (.ok ds,ω2)=>if 3<=15/\Dn ω2 ω.length=true then xo (Rz.ok (D.obj ω.length),ω2.set ω.length (.dk (Ja [(.inr "count":Key),.inr "deeds",.inr "order"] ds))) else xp)=_
  rw[e]
  show(if 3<=15/\Dn (ω++[Ob.dk [],.dt [],.ml []]) ω.length=true then xo (Rz.ok (D.obj ω.length),(ω++[Ob.dk [],.dt [],.ml []]).set ω.length (.dk [((.inr "count":Key),D.int c),(.inr "deeds",.obj (ω.length+1)),(.inr "order",.obj (ω.length+2))])) else xp)=_
  rw[if_pos ⟨by decide,by unfold Dn;simp⟩,hω2];simp
 obtain⟨ω3,ks,e3,R3,F3,A3,K3⟩:=Fc c8 c 0 xp ω2;have g3:∀ n:Nat,n<ω2.length->ω3[n]?=ω2[n]?:=fun n hn=>K3.2 n hn (by simp);have l3:=K3.1;obtain⟨ω4,hω4⟩:∃ ω4,ω4=ω3++[Ob.ml ((bp c).map fun i=>.obj (ks i))]:=⟨_,rfl⟩;have k4:ω4[ω3.length]?=xo (.ml ((bp c).map fun i=>.obj (ks i))):=by rw[hω4];simp
 have g4:∀ n:Nat,n<ω3.length->ω4[n]?=ω3[n]?:=fun n hn=>by rw[hω4,am hn]
 obtain⟨ω5,hω5⟩:∃ ω5,ω5=ω4.set ω.length (.dk [(.inr "count",.int c),(.inr "deeds",.obj (ω.length+1)),(.inr "order",.obj (ω.length+2)),(.inr "known",.obj ω3.length)]):=⟨_,rfl⟩;have h4:ω4[ω.length]?=xo (.dk [(.inr "count",.int c),(.inr "deeds",.obj (ω.length+1)),(.inr "order",.obj (ω.length+2))]):=by rw[g4 _ (by omega),g3 _ (by omega)];exact h2
 have nrh:sK ω4 ω.length:=fun y ys z=>by rw[h4] at z;cases z
 refine⟨ω5,ω.length,ω.length+1,ω.length+2,ω3.length,ks,?_,?_⟩
 ·refine aT rfl ?_;unfold yP;refine(aI disp).trans ?_;refine(aZ (eI (v:=.obj ω3.length) (ω1:=ω4) (o:=.obj ω.length) (i:=.str "known") (ω4:=ω5) (by
   have:=pQ (fi:=oIA gN (aC (zV 0) aM)) (caps:=[xp,xo 0]) (ρ:=(cB jK [.int c]).set 1 (xo (.obj ω.length))) (ω:=ω2) (iV (c:=c) (aB rfl) (by omega)) (by rw[gB,bt];omega) e3
   rw[<- uq,<- hω4] at this;exact this) (aB rfl) aQ (by
   simp only[nL,h4]
   show(if 3<sizeLine then xo (ω4.set ω.length (.dk [((.inr "count":Key),D.int c),(.inr "deeds",.obj (ω.length+1)),(.inr "order",.obj (ω.length+2)),(.inr "known",.obj ω3.length)])) else xp)=_
   rw[if_pos (by rw[bt];decide),hω5]))).trans ?_
  exact bE (aB rfl)
 ·have lks:∀ i,i<c->ω.length+3<=ks i:=fun i hi=>by have:=F3 i (by omega) (by omega);omega
  have ltk:∀ i,i<c->ks i<ω3.length:=fun i hi=>by
   obtain⟨ds,e,_⟩:=R3 i (by omega) (by omega);exact dH e
  rw[hω5];refine⟨bU h4,?_,?_,?_,fun i hi=> ?_,fun i j hi hj=>by simp,fun i j hi hj hne=>A3 i (by omega) (by omega) j (by omega) (by omega) hne,fun i hi=> ?_,⟨by omega,by omega,by omega,by omega,by omega,by omega⟩,⟨by omega,by omega,by omega,by omega,fun i hi=>by have:=lks i hi;omega⟩,⟨?_,fun n hn=> ?_⟩,by simp,fun r hr=>by simp at hr⟩
  ·rw[aJ (by omega),g4 _ (by omega),g3 _ (by omega)];exact d2
  ·rw[aJ (by omega),g4 _ (by omega),g3 _ (by omega)];exact o2'
  ·rw[aJ (by omega)];exact k4
  ·obtain⟨ds,e,r⟩:=R3 i (by omega) (by omega)
   have:=lks i hi
   refine⟨ds,by rw[aJ (by omega),g4 _ (dH e)];exact e,r.keep (fun d xs hx q=>RowV.set (q.keep fun n z=>by rw[g4 n (dH z)];exact z) hx nrh) fun j hj z=> ?_⟩
   have:(av c (0:Int)).length=0:=by rw[z];rfl
   simp at this;omega
  ·have:=lks i hi
   have:=ltk i hi
   omega
  ·rw[cj,hω4];simp;omega
  ·rw[aJ (by omega),g4 _ (by omega),g3 _ (by omega)];exact k2 n hn
theorem tF:∀ {l m:List α},l.Nodup->m.Nodup->(∀ x,x∈l↔x∈m)->l.Perm m
 |[],m,_,_,h=>by
  cases m with
  |nil=>exact .refl _
  |cons y m=>exact absurd ((h y).mpr ar) (by simp)
 |x::l,m,h1,h2,h=>by
  obtain⟨s,t,rfl⟩:=List.append_of_mem ((h x).mp ar);have nd:=h2;rw[b8] at h1;have pm:(s++x::t).Perm (x::(s++t)):=List.perm_middle;have nd2:=pm.nodup_iff.mp nd;rw[b8] at nd2;refine(List.Perm.cons x (tF h1.2 nd2.2 fun y=>⟨fun hy=> ?_,fun hy=> ?_⟩)).trans pm.symm
  ·have:y∈x::(s++t):=pm.mem_iff.mp ((h y).mp (ai _ hy))
   rcases aj.mp this with z|z
   ·exact absurd (z ▸ hy) h1.1
   ·exact z
  ·have:y∈x::l:=(h y).mpr (pm.mem_iff.mpr (ai _ hy))
   rcases aj.mp this with z|z
   ·exact absurd (z ▸ hy) nd2.1
   ·exact z
def EntsOk (ds:List D):Prop:=(∀ d∈ds,fD d)/\(ds.map aX).Nodup
theorem Gc (ha:fD a) (hb:fD b) (h:aX a≠aX b):dZ 4 a b=xo true∨dZ 4 b a=xo true:=by
 obtain⟨x,p,q,v,rfl⟩:=ha;obtain⟨x',p',q',v',rfl⟩:=hb;rw[BX,BX];unfold eLt
 by_cases hx:x=x'
 ·have:¬(p=p'/\q=q'):=fun z=>h (by unfold aX;rw[z.1,z.2])
  subst hx
  have:mLt p q p' q'∨mLt p' q' p q:=by unfold mLt;omega
  rcases this with z|z
  ·exact .inl (.inr ⟨rfl,.inl z⟩)
  ·exact .inr (.inr ⟨rfl,.inl z⟩)
 ·rcases Eu hx with z|z
  ·exact .inl (.inl z)
  ·exact .inr (.inl z)
theorem yX (ha:fD a) (hb:fD b) (hc:fD c) (h1:dZ 4 a b=xo true) (h2:dZ 4 b c=xo true):dZ 4 a c=xo true:=by
 obtain⟨x,p,q,v,rfl⟩:=ha;obtain⟨x',p',q',v',rfl⟩:=hb;obtain⟨x2,p2,q2,v2,rfl⟩:=hc;rw[BX] at*;exact Gd h1 h2
theorem EntsOk.sorted (h:EntsOk ds) (hs:eD 4 ds=xo out):out.Pairwise fun a b=>dZ 4 a b=xo true:=by
 have gm:∀ i,i<ds.length->ds.getD i .non∈ds/\ds[i]?=xo (ds.getD i .non):=fun i hi=>by
  rw[ax,bj hi];exact⟨jj hi,rfl⟩
 refine Em hs (fun i j hi hj hne=> ?_) fun a ha b hb c hc=>yX (h.1 a ha) (h.1 b hb) (h.1 c hc);refine Gc (h.1 _ (gm i hi).1) (h.1 _ (gm j hj).1) fun z=>hne ?_;have pw:=me.mp h.2;have hi':i<(ds.map aX).length:=by simpa using hi
 have hj':j<(ds.map aX).length:=by simpa using hj
 have ei:(ds.map aX)[i]=aX (ds.getD i .non):=by
  rw[wl,ax,bj hi];rfl
 have ej:(ds.map aX)[j]=aX (ds.getD j .non):=by
  rw[wl,ax,bj hj];rfl
 rcases Nat.lt_trichotomy i j with q|q|q
 ·exact absurd (by rw[ei,ej,z]) (pw i j hi' hj' q)
 ·exact q
 ·exact absurd (by rw[ei,ej,z]) (pw j i hj' hi' q)
theorem IS (ha:fD a) (hb:fD b) (h1:dZ 4 a b=xo true) (h2:dZ 4 b a=xo true):False:=by
 have:=yX ha hb ha h1 h2
 obtain⟨x,p,q,v,rfl⟩:=ha;rw[BX] at this;unfold eLt mLt at this;rcases this with z|⟨_,z⟩
 ·exact sX _ z
 ·omega
theorem El (h:EntsOk ds) (hp:ds.Perm ds') (hs:eD 4 ds=xo o) (hs':eD 4 ds'=xo o') (p1:o.Perm ds) (p2:o'.Perm ds'):o=o':=by
 have h':EntsOk ds':=⟨fun d hd=>h.1 d (hp.mem_iff.mpr hd),(hp.map aX).nodup_iff.mp h.2⟩;have s1:=h.sorted hs;have s2:=h'.sorted hs';have s1':o.Pairwise fun a b=>fD a/\fD b/\dZ 4 a b=xo true:=s1.imp_of_mem fun {a b} ha hb q=>⟨h.1 a (p1.mem_iff.mp ha),h.1 b (p1.mem_iff.mp hb),q⟩;have s2':o'.Pairwise fun a b=>fD a/\fD b/\dZ 4 a b=xo true:=s2.imp_of_mem fun {a b} ha hb q=>⟨h'.1 a (p2.mem_iff.mp ha),h'.1 b (p2.mem_iff.mp hb),q⟩;exact mX (fun a b x y=>IS x.1 x.2.1 x.2.2 y.2.2) (p1.trans (hp.trans p2.symm)) s1' s2'
section
variable {c:Nat}{own:Nat->Nat}{rs:List Rec}{row:List Int}
theorem sR (row:List Int):∀ {rs:List Rec},(rs.map Rec.key).Nodup->((bD rs row).map aX).Nodup
 |[],_=>by simp[bD]
 |r::rs,h=>by
  rw[bg,b8] at h;have ih:=sR row (rs:=rs) h.2;unfold bD at ih ⊢
  by_cases hs:cU row r=true
  ·rw[c9 hs];cases he:r.ent with
   |none=>rw[List.filterMap_cons_none he];exact ih
   |some d=>
    rw[List.filterMap_cons_some he,bg,b8];refine⟨fun z=>h.1 ?_,ih⟩;obtain⟨d',hd',e⟩:=az.mp z;obtain⟨r',hr',e'⟩:=gy.mp hd';have key:∀ {r:Rec}{d:D},r.ent=xo d->aX d=r.key:=fun {r d} q=>by
     unfold Rec.ent at q;cases hp:r.put with
     |none=>rw[hp] at q;cases q
     |some p=>rw[hp] at q;cases q;rfl
    rw[<- key he,<- e,key e'];exact az.mpr ⟨r',(ca.mp hr').1,rfl⟩
  ·rw[c7 hs];exact ih
theorem xW (R:wF c own rs) (row:List Int):EntsOk (eK rs row):=by
 refine⟨fun d hd=> ?_,(sR row R.keys).sublist (ko.map _)⟩;obtain⟨a,b,x,v,rfl,_⟩:=xC R (ca.mp hd).1;exact⟨x,a,b,v,rfl⟩
theorem nY (R:wF c own rs):rs.length<=tot c own:=by
 have:=oA R.keys (m:=univ c own) fun k hk=>by
  obtain⟨r,hr,rfl⟩:=az.mp hk
  have:=R.inn r hr
  exact KeyIn.univ ⟨r.a,r.b,this.1,this.2.1,this.2.2,rfl⟩
 rw[uL,ak] at this;exact this
theorem sZ (R:wF c own rs) (ht:tot c own<64) (row:List Int):∃ out,eD 4 (eK rs row)=xo out/\out.Perm (eK rs row):=by
 have E:=xW R row;have hl:(eK rs row).length<64:=by
  have h1:(eK rs row).length<=(bD rs row).length:=d8 ..;have h2:(bD rs row).length<=rs.length:=cf (m8 ..) (d8 ..);have h3:=nY R;omega
 refine uP hl ?_ fun a ha b hb=>JM (E.1 a ha) (E.1 b hb);unfold iW;rw[ie];right;rw[fh];intro d hd;rw[Cq (E.1 d hd)];rfl
theorem Hd.Ok.entsOk {hd:Hd} (W:hd.Ok c):EntsOk (hd.table.map (·.2)):=⟨W.ent,by rw[W.keys];exact W.tn⟩
theorem lO {ds:List D} (h:(ds.map aX).Nodup):ds.Nodup:=by
 induction ds with
 |nil=>exact xb
 |cons d r ih=>
  rw[bg,b8] at h;rw[b8];exact⟨fun z=>h.1 (az.mpr ⟨d,z,rfl⟩),ih h.2⟩
theorem jD {hd:Hd} (W:hd.Ok c) (R:wF c own rs) (ht:tot c own<64) (h:∀ e,e∈hd.table.map (·.2)↔e∈eK rs row):eD 4 (eK rs row)=xo hd.ents:=by
 obtain⟨out,e1,p1⟩:=sZ R ht row;rw[e1];have E:=xW R row;have pm:(hd.table.map (·.2)).Perm (eK rs row):=tF (lO W.entsOk.2) (lO E.2) h;rw[El W.entsOk pm W.ents.1 e1 W.ents.2 p1]
end
theorem pJ (f:Nat->α) (c i:Nat) (x:α):((bp c).map f).set i x=(bp c).map (upF f i x):=by
 apply iq;intro j
 by_cases h:j=i
 ·subst h
  by_cases hj:j<c
  ·rw[du (by rw[ak,gq];exact hj),ay,di hj];show _=xo (upF f j x j);rw[bA]
  ·rw[cq (by simp;omega),cq (by simp;omega)]
 ·rw[f8 (bz h),ay,ay];cases hq:(bp c)[j]? with
  |none=>rfl
  |some k=>
   have hk:k=j:=by
    obtain⟨hlt,e⟩:=bq.mp hq;rw[my] at e;exact e.symm
   subst hk;show xo (f k)=xo (upF f i x k);rw[aY h]
theorem lY {xs ys:List Int} (h1:xs.length=c) (h2:ys.length=c) (h:∀ j,j<c->xs.getD j 0=ys.getD j 0):xs=ys:=by
 apply List.ext_getElem (by omega);intro j hj hj'
 have:=h j (by omega)
 rw[ax,ax,bj hj,bj hj'] at this;exact this
theorem gL {f:Nat->Int} (h:j<c):((bp c).map f).getD j 0=f j:=by
 rw[ax,ay,di h];rfl
theorem gH {r:Rec} (q:r.ent=xo d):aX d=r.key:=by
 unfold Rec.ent at q;cases hp:r.put with
 |none=>rw[hp] at q;cases q
 |some p=>rw[hp] at q;cases q;rfl
structure Rel (c:Nat) (own:Nat->Nat) (S:Nat->Hd) (rs:List Rec) (kn:Nat->Nat->List Int):Prop where
 knows:∀ i,i<c->(S i).knows=(bp c).map (kn i)
 recs:wF c own rs
 tab:∀ i,i<c->∀ e,e∈(S i).table.map (·.2)↔e∈eK rs (kn i i)
 clo:∀ i,i<c->∀ r∈rs,cU (kn i i) r=true->∀ q∈r.outs,fY (kn i i) q=true
 le:∀ i j,i<c->j<c->∀ t,t<c->(kn i j).getD t 0<=(kn j j).getD t 0
section
variable {c:Nat}{own:Nat->Nat}{S:Nat->Hd}{rs:List Rec}{kn:Nat->Nat->List Int}{i j a:Nat}
theorem Rel.seen (Q:Rel c own S rs kn) (hi:i<c):(S i).seen i=kn i i:=by
 unfold Hd.seen;rw[Q.knows i hi,ax,ay,di hi];rfl
theorem Rel.row (Q:Rel c own S rs kn) (I:HInv c own S) (hi:i<c) (hj:j<c):kn i j∈(S i).knows/\(kn i j).length=c:=by
 have hm:kn i j∈(S i).knows:=by
  rw[Q.knows i hi];exact az.mpr ⟨j,hX.mpr hj,rfl⟩
 exact⟨hm,(I i hi).1.row _ hm⟩
theorem Rel.ownE (Q:Rel c own S rs kn) (I:HInv c own S) (hi:i<c):(kn i i).getD i 0=own i:=by rw[<- Q.seen hi];exact(I i hi).2
theorem mem_pres:e∈eK rs row↔(∃ r∈rs,cU row r=true/\r.ent=xo e)/\∀ r∈rs,cU row r=true->aX e∉r.outs:=by
 unfold eK bD dP;rw[ca];constructor
 ·rintro⟨h1,h2⟩
  obtain⟨r,hr,he⟩:=gy.mp h1;have hr':=ca.mp hr;refine⟨⟨r,hr'.1,hr'.2,he⟩,fun q hq hs z=> ?_⟩
  have:HY (aX e) ((rs.filter (cU row)).flatMap (·.outs))=true:=memK_iff.mpr (o5.mpr ⟨q,ca.mpr ⟨hq,hs⟩,z⟩)
  rw[this] at h2;cases h2
 ·rintro⟨⟨r,hr,hs,he⟩,h2⟩
  refine⟨gy.mpr ⟨r,ca.mpr ⟨hr,hs⟩,he⟩,?_⟩;cases hm:HY (aX e) ((rs.filter (cU row)).flatMap (·.outs)) with
  |false=>rfl
  |true=>
   obtain⟨q,hq,z⟩:=o5.mp (memK_iff.mp hm);have hq':=ca.mp hq;exact absurd z (h2 q hq'.1 hq'.2)
theorem Rel.note (Q:Rel c own S rs kn) (I:HInv c own S) (ha:a<c) (r1:r.a=a) (r2:r.b=own a+1) (ro:r.outs.length<64) (rk:∀ q∈r.outs,KeyIn c own q) (rs':∀ q∈r.outs,fY (kn a a) q=true)
  (k1:hd'.knows=(S a).knows.set a ((kn a a).set a r.b)) (t1:∀ e,e∈hd'.table.map (·.2)↔(e∈(S a).table.map (·.2)∨r.ent=xo e)/\aX e∉r.outs):
  Rel c (cP own a) (mV S a hd') (rs++[r]) (upF kn a (upF (kn a) a ((kn a a).set a r.b))):=by
 have len:=(Q.row I ha ha).2;have oe:=Q.ownE I ha;have bo:cP own a a=own a+1:=by unfold cP;rw[if_pos rfl]
 have le':=iG own a
 -- what is seen
 have s1:∀ q∈rs,cU ((kn a a).set a r.b) q=cU (kn a a) q:=fun q hq=>by
  unfold cU;rw[fH _ _ _ _ (by omega)]
  by_cases h:q.a=a
  ·rw[if_pos h,h,oe]
   have:=Q.recs.inn q hq
   rw[h] at this;rw[decide_eq_true (by omega),decide_eq_true (by omega)]
  ·rw[if_neg h]
 have s2:cU ((kn a a).set a r.b) r=true:=by
  unfold cU;rw[fH _ _ _ _ (by omega),if_pos r1];exact decide_eq_true (i7 _)
 have s3:∀ i,i<c->i≠a->cU (kn i i) r=false:=fun i hi hne=>by
  unfold cU;refine decide_eq_false fun z=> ?_
  have:=((I i hi).1.kb _ (Q.row I hi hi).1 a ha).2
  rw[r1] at z;omega
 have sk:∀ q,fY (kn a a) q=true->fY ((kn a a).set a r.b) q=true:=fun q hq=>by
  unfold fY at hq ⊢;split at hq
  ·rename_i x y
   have hq':=of_decide_eq_true hq;refine decide_eq_true ?_;rw[fH _ _ _ _ (by omega)]
   by_cases h:x.toNat=a
   ·rw[if_pos h];rw[h,oe] at hq';omega
   ·rw[if_neg h];exact hq'
  ·cases hq
 have nk:r.key∉rs.map Rec.key:=fun z=>by
  obtain⟨q,hq,e⟩:=az.mp z
  have:=Q.recs.inn q hq
  unfold Rec.key gG at e;simp at e;have e1:q.a=a:=by omega
  rw[e1] at this;omega
 refine⟨fun i hi=> ?_,⟨?_,fun q hq=> ?_,fun q hq=> ?_⟩,fun i hi e=> ?_,fun i hi q hq hs x hx=> ?_,fun i j hi hj t ht=> ?_⟩
 ·by_cases h:i=a
  ·subst h;rw[iS,k1,Q.knows i hi,pJ,bA]
  ·rw[iR h,aY h];exact Q.knows i hi
 ·rw[b9,jy];refine⟨Q.recs.keys,by simp,fun x hx y hy z=>nk ?_⟩
  have:y=r.key:=by simpa using hy
  rw[<- this,<- z];exact hx
 ·rcases c6.mp hq with z|z
  ·have:=Q.recs.inn q z
   exact⟨this.1,this.2.1,cf this.2.2 (le' _)⟩
  ·rw[fg.mp z,r1,r2,bo];omega
 ·rcases c6.mp hq with z|z
  ·exact⟨(Q.recs.outs q z).1,fun x hx=>((Q.recs.outs q z).2 x hx).mono le'⟩
  ·rw[fg.mp z];exact⟨ro,fun x hx=>(rk x hx).mono le'⟩
 ·by_cases h:i=a
  ·subst h;rw[iS,bA,bA,t1,Q.tab i hi,mem_pres,mem_pres];constructor
   ·rintro⟨h1,h2⟩
    refine⟨?_,fun q hq hs=> ?_⟩
    ·rcases h1 with⟨⟨q,hq,hs,he⟩,_⟩|h1
     ·exact⟨q,dr _ hq,by rw[s1 q hq];exact hs,he⟩
     ·exact⟨r,by simp,s2,h1⟩
    ·rcases c6.mp hq with z|z
     ·rcases h1 with⟨_,h3⟩|h1
      ·exact h3 q z (by rw[<- s1 q z];exact hs)
      ·intro w
       have:=((Q.recs.outs q z).2 _ w)
       rw[gH h1] at this;obtain⟨x,y,g1,g2,g3,e⟩:=this;unfold Rec.key gG at e;simp at e
       have:x=i:=by omega
       rw[this] at g3;omega
     ·rw[fg.mp z];exact h2
   ·rintro⟨⟨q,hq,hs,he⟩,h2⟩
    refine⟨?_,h2 r (by simp) s2⟩;rcases c6.mp hq with z|z
    ·exact .inl ⟨⟨q,z,by rw[<- s1 q z];exact hs,he⟩,fun p hp hps=>h2 p (dr _ hp) (by rw[s1 p hp];exact hps)⟩
    ·rw[fg.mp z] at he;exact .inr he
  ·rw[iR h,aY h,Q.tab i hi,mem_pres,mem_pres];constructor
   ·rintro⟨⟨q,hq,hs,he⟩,h2⟩
    refine⟨⟨q,dr _ hq,hs,he⟩,fun p hp hps=> ?_⟩;rcases c6.mp hp with z|z
    ·exact h2 p z hps
    ·rw[fg.mp z,s3 i hi h] at hps;cases hps
   ·rintro⟨⟨q,hq,hs,he⟩,h2⟩
    refine⟨?_,fun p hp hps=>h2 p (dr _ hp) hps⟩;rcases c6.mp hq with z|z
    ·exact⟨q,z,hs,he⟩
    ·rw[fg.mp z,s3 i hi h] at hs;cases hs
 ·by_cases h:i=a
  ·subst h;rw[bA,bA] at hs ⊢;rcases c6.mp hq with z|z
   ·exact sk _ (Q.clo i hi q z (by rw[<- s1 q z];exact hs) x hx)
   ·rw[fg.mp z] at hx;exact sk _ (rs' x hx)
  ·rw[aY h] at hs ⊢;rcases c6.mp hq with z|z
   ·exact Q.clo i hi q z hs x hx
   ·rw[fg.mp z,s3 i hi h] at hs;cases hs
 ·have grow:∀ t,(kn a a).getD t 0<=((kn a a).set a (r.b:Int)).getD t 0:=fun t=>by
   rw[fH _ _ _ _ (by omega)]
   by_cases h:t=a
   ·rw[if_pos h,h,oe];omega
   ·rw[if_neg h];exact i7 _
  by_cases h:i=a
  ·subst h;rw[bA]
   by_cases h2:j=i
   ·subst h2;simp only[bA];exact i7 _
   ·rw[aY h2,aY h2];exact Q.le i j hi hj t ht
  ·rw[aY h]
   by_cases h2:j=a
   ·subst h2;rw[bA,bA];exact Int.le_trans (Q.le i j hi hj t ht) (grow t)
   ·rw[aY h2];exact Q.le i j hi hj t ht
end
theorem Hn {k:List Key}:(k,v)∈putD T k v:=by
 unfold putD;split
 ·rename_i h
  obtain⟨p,hp,e⟩:=oz.mp h;have e':=of_decide_eq_true e;exact az.mpr ⟨p,hp,by rw[if_pos e',e']⟩
 ·simp
theorem CS {p:List Key×D} (hp:p∈T) (h:p.1≠k∨p.2=v):p∈putD T k v:=by
 unfold putD;split
 ·refine az.mpr ⟨p,hp,?_⟩
  by_cases e:p.1=k
  ·rw[if_pos e];rcases h with z|z
   ·exact absurd e z
   ·rw[<- z]
  ·rw[if_neg e]
 ·exact dr _ hp
theorem oW:∀ {out:List D}{T:List (List Key×D)}{d:D},(∀ d'∈out,aX d=aX d'->d=d')->(aX d,d)∈T->(aX d,d)∈oY out T
 |[],_,_,_,h=>h
 |x::out,T,d,hu,h=>by
  refine oW (out:=out) (fun d' hd'=>hu d' (ai _ hd')) (CS h ?_)
  by_cases e:aX d=aX x
  ·exact .inr (hu x ar e)
  ·exact .inl e
theorem xD:∀ {out:List D}{T:List (List Key×D)}{d:D},(∀ d'∈out,aX d=aX d'->d=d')->d∈out->(aX d,d)∈oY out T
 |[],_,_,_,h=>by simp at h
 |x::out,T,d,hu,h=>by
  rcases aj.mp h with rfl|h
  ·exact oW (out:=out) (fun d' hd'=>hu d' (ai _ hd')) Hn
  ·exact xD (out:=out) (fun d' hd'=>hu d' (ai _ hd')) h
theorem CL (hu:∀ d∈out,∀ d'∈out,aX d=aX d'->d=d') (e:D):e∈(oY out []).map (·.2)↔e∈out:=by
 constructor
 ·intro h;obtain⟨p,hp,rfl⟩:=az.mp h;rcases oV hp with z|⟨d,hd,rfl⟩
  ·simp at z
  ·exact hd
 ·exact fun h=>az.mpr ⟨(aX e,e),xD (hu e h) h,rfl⟩
section
variable {c:Nat}{own:Nat->Nat}{S:Nat->Hd}{rs:List Rec}{kn:Nat->Nat->List Int}{one other:Nat}
theorem By {f:List Int->List Int->List Int}:∀ l:List Nat,bu f (l.map p) (l.map q)=l.map fun k=>f (p k) (q k)
 |[]=>rfl
 |x::l=>by
  rw[bg,bg,jl,By l,bg]
theorem Fl:∀ {rs:List Rec}{r r':Rec},(rs.map Rec.key).Nodup->r∈rs->r'∈rs->r.key=r'.key->r=r'
 |[],_,_,_,hr,_,_=>by simp at hr
 |x::l,r,r',nd,hr,hr',hk=>by
  rw[bg,b8] at nd;rcases aj.mp hr with z|z
  ·rcases aj.mp hr' with w|w
   ·rw[z,w]
   ·exact absurd (az.mpr ⟨r',w,by rw[<- hk,z]⟩) nd.1
  ·rcases aj.mp hr' with w|w
   ·exact absurd (az.mpr ⟨r,z,by rw[hk,w]⟩) nd.1
   ·exact Fl nd.2 z w hk
theorem pG (row:List Int) (r:Rec):fY row r.key=cU row r:=by
 show decide ((r.b:Int)<=row.getD (r.a:Int).toNat 0)=_;rw[cy];rfl
theorem Rel.hear (Q:Rel c own S rs kn) (I:HInv c own S) (c0:0<c) (c8:c<=8) (ht:tot c own<64) (h1:one<c) (h2:other<c) (hne:one≠other):Rel c own (iT S one other) rs (upF kn other (moR c kn one other)):=by
 have lenK:∀ i j,i<c->j<c->(kn i j).length=c:=fun i j hi hj=>(Q.row I hi hj).2;have moL:∀ k,(moR c kn one other k).length=c:=fun k=>by unfold moR;simp
 have moG:∀ k t,t<c->(moR c kn one other k).getD t 0=mo kn one other k t:=fun k t ht=>gL ht;have W1:=(I one h1).1;have W2:=(I other h2).1;have O1:=W1.ok c0 c8 ht;have O2:=W2.ok c0 c8 ht
 -- the row of what is seen
 have J:moR c kn one other other=bu mx (kn other other) (kn one one):=by
  refine lY (moL other) (by rw[fu,lenK _ _ h2 h2,lenK _ _ h1 h1,jp]) fun t htc=> ?_;rw[moG other t htc,wV (by rw[lenK _ _ h2 h2];exact htc) (by rw[lenK _ _ h1 h1];exact htc)]
  have:=Q.le one other h1 h2 t htc
  unfold mo;rw[if_pos rfl];unfold mx;omega
 have Jg:∀ t,t<c->(moR c kn one other other).getD t 0=mx ((kn other other).getD t 0) ((kn one one).getD t 0):=fun t htc=>by
  rw[J,wV (by rw[lenK _ _ h2 h2];exact htc) (by rw[lenK _ _ h1 h1];exact htc)]
 have sJ:∀ r∈rs,(cU (moR c kn one other other) r=true↔cU (kn other other) r=true∨cU (kn one one) r=true):=fun r hr=>by
  have hra:=(Q.recs.inn r hr).1;unfold cU;rw[Jg r.a hra];simp only[decide_eq_true_eq];unfold mx;omega
 have sKJ:∀ q,KeyIn c own q->(fY (moR c kn one other other) q=true↔fY (kn other other) q=true∨fY (kn one one) q=true):=fun q hq=>by
  obtain⟨x,y,g1,_,_,rfl⟩:=hq;show decide ((y:Int)<=(moR c kn one other other).getD (x:Int).toNat 0)=true↔decide ((y:Int)<=(kn other other).getD (x:Int).toNat 0)=true∨decide ((y:Int)<=(kn one one).getD (x:Int).toNat 0)=true;rw[cy,Jg x g1];simp only[decide_eq_true_eq];unfold mx;omega
 have uniq:∀ {r r':Rec}{e e':D},r∈rs->r'∈rs->r.ent=xo e->r'.ent=xo e'->aX e=aX e'->e=e':=fun {r r' e e'} hr hr' he he' hk=>by
  rw[gH he,gH he'] at hk
  have:r=r':=Fl Q.recs.keys hr hr' hk
  rw[this,he'] at he;cases he;rfl
 have pm1:∀ e,e∈(S one).ents↔e∈eK rs (kn one one):=fun e=>by rw[O1.ents.2.mem_iff];exact Q.tab one h1 e
 have pm2:∀ e,e∈(S other).ents↔e∈eK rs (kn other other):=fun e=>by rw[O2.ents.2.mem_iff];exact Q.tab other h2 e
 have lv:∀ i,i<c->(S i).Ok c->∀ {r:Rec}{e:D},r∈rs->r.ent=xo e->((S i).leaves i e=true↔e∈eK rs (kn i i)∨cU (kn i i) r=false):=by
  intro i hi O r e hr he;unfold Hd.leaves;rw[Q.seen hi,gH he,pG,ie];have h3:(iI (S i).table r.key).isSome=true↔e∈eK rs (kn i i):=by
   constructor
   ·intro z;obtain⟨v,hv⟩:=mq.mp z;unfold iI at hv;obtain⟨p,hp,rfl⟩:=n8.mp hv;have hpm:=qq hp;have hpk:p.1=r.key:=by
     have:=wx hp
     simpa using this
    have hv2:p.2∈eK rs (kn i i):=(Q.tab i hi p.2).mp (az.mpr ⟨p,hpm,rfl⟩);obtain⟨⟨r',hr',_,he'⟩,_⟩:=mem_pres.mp hv2;have hk2:aX p.2=p.1:=by
     obtain⟨x,y,_,_,_,e1,u,w,e2⟩:=(I i hi).1.tk p hpm;rw[e2,e1];rfl
    have:e=p.2:=uniq hr hr' he he' (by rw[gH he,hk2,hpk])
    rw[this];exact hv2
   ·intro z;obtain⟨p,hp,e2⟩:=az.mp ((Q.tab i hi e).mpr z);have hk2:aX p.2=p.1:=by
     obtain⟨x,y,_,_,_,e1,u,w,e2⟩:=(I i hi).1.tk p hp;rw[e2,e1];rfl
    have:r.key∈(S i).table.map (·.1):=az.mpr ⟨p,hp,by rw[<- hk2,e2,gH he]⟩
    obtain⟨v,hv⟩:=Ec this;rw[hv];rfl
  rw[h3];cases cU (kn i i) r <;> simp
 refine⟨fun i hi=> ?_,Q.recs,fun i hi e=> ?_,fun i hi q hq hs x hx=> ?_,fun i j hi hj t htc=> ?_⟩
 ·by_cases h:i=other
  ·subst h;unfold iT;rw[iS,bA]
   show(bu (bu mx) (S i).knows (S one).knows).set i (bu mx ((S i).seen i) ((S one).seen one))=_
   rw[Q.knows i hi,Q.knows one h1,By,pJ,Q.seen hi,Q.seen h1];apply eu;intro k hk;have hkc:=hX.mp hk
   by_cases hki:k=i
   ·subst hki;rw[bA,J]
   ·rw[aY hki];refine lY (by rw[fu,lenK _ _ hi hkc,lenK _ _ h1 hkc,jp]) (moL k) fun t htc=> ?_;rw[moG k t htc,wV (by rw[lenK _ _ hi hkc];exact htc) (by rw[lenK _ _ h1 hkc];exact htc)];unfold mo;rw[if_neg hki];unfold mx;omega
  ·unfold iT;rw[iR h,aY h];exact Q.knows i hi
 ·by_cases h:i=other
  ·subst h;unfold iT;rw[iS,bA];show e∈(oY ((S i).hearT i (S one) one) []).map (·.2)↔_;have hrec:∀ d∈(S i).hearT i (S one) one,∃ r∈rs,r.ent=xo d:=fun d hd=>by
    rcases c6.mp hd with z|z
    ·obtain⟨⟨r,hr,_,he⟩,_⟩:=mem_pres.mp ((pm2 d).mp (ca.mp z).1);exact⟨r,hr,he⟩
    ·obtain⟨⟨r,hr,_,he⟩,_⟩:=mem_pres.mp ((pm1 d).mp (ca.mp z).1);exact⟨r,hr,he⟩
   rw[CL fun d hd d' hd' hk=>by
    obtain⟨r,hr,he⟩:=hrec d hd;obtain⟨r',hr',he'⟩:=hrec d' hd';exact uniq hr hr' he he' hk]
   unfold Hd.hearT;rw[c6,ca,ca,pm1,pm2];constructor
   ·intro z
    -- e is a deed's entry
    have he:∃ r∈rs,r.ent=xo e:=by
     rcases z with z|z
     ·obtain⟨⟨r,hr,_,he⟩,_⟩:=mem_pres.mp z.1;exact⟨r,hr,he⟩
     ·obtain⟨⟨r,hr,_,he⟩,_⟩:=mem_pres.mp z.1;exact⟨r,hr,he⟩
    obtain⟨r,hr,he⟩:=he;rw[lv one h1 O1 hr he,lv i hi O2 hr he] at z;rw[mem_pres];have sr:∀ {row:List Int},e∈eK rs row->cU row r=true:=fun {row} q=>by
     obtain⟨⟨r',hr',hs',he'⟩,_⟩:=mem_pres.mp q;have hk:r'.key=r.key:=by rw[<- gH he',gH he]
     rw[<- pG,<- hk,pG];exact hs'
    have both:(e∈eK rs (kn i i)/\e∈eK rs (kn one one))∨(e∈eK rs (kn i i)/\cU (kn one one) r=false)∨(e∈eK rs (kn one one)/\cU (kn i i) r=false):=by
     rcases z with⟨z1,z2|z2⟩|⟨z1,z2|z2⟩
     ·exact .inl ⟨z1,z2⟩
     ·exact .inr (.inl ⟨z1,z2⟩)
     ·exact .inl ⟨z2,z1⟩
     ·exact .inr (.inr ⟨z1,z2⟩)
    have clos:∀ k,k<c->cU (kn k k) r=false->∀ p∈rs,cU (kn k k) p=true->aX e∉p.outs:=fun k hk hs p hp hps w=>by
     have:=Q.clo k hk p hp hps _ w
     rw[gH he,pG,hs] at this;cases this
    refine⟨⟨r,hr,(sJ r hr).mpr ?_,he⟩,fun p hp hps=> ?_⟩
    ·rcases both with z|z|z
     ·exact .inl (sr z.1)
     ·exact .inl (sr z.1)
     ·exact .inr (sr z.1)
    ·rcases(sJ p hp).mp hps with w|w
     ·rcases both with z|z|z
      ·exact(mem_pres.mp z.1).2 p hp w
      ·exact(mem_pres.mp z.1).2 p hp w
      ·exact clos i hi z.2 p hp w
     ·rcases both with z|z|z
      ·exact(mem_pres.mp z.2).2 p hp w
      ·exact clos one h1 z.2 p hp w
      ·exact(mem_pres.mp z.1).2 p hp w
   ·intro z;obtain⟨⟨r,hr,hs,he⟩,hn⟩:=mem_pres.mp z;have inP:∀ k,k<c->(∀ p∈rs,cU (kn k k) p=true->cU (moR c kn one i i) p=true)->cU (kn k k) r=true->e∈eK rs (kn k k):=fun k hk hsub hks=>mem_pres.mpr ⟨⟨r,hr,hks,he⟩,fun p hp hps=>hn p hp (hsub p hp hps)⟩;have p2:=inP i hi fun p hp q=>(sJ p hp).mpr (.inl q);have p1:=inP one h1 fun p hp q=>(sJ p hp).mpr (.inr q);rw[lv one h1 O1 hr he,lv i hi O2 hr he]
    rcases(sJ r hr).mp hs with w|w
    ·cases hq:cU (kn one one) r with
     |true=>exact .inl ⟨p2 w,.inl (p1 hq)⟩
     |false=>exact .inl ⟨p2 w,.inr rfl⟩
    ·cases hq:cU (kn i i) r with
     |true=>exact .inr ⟨p1 w,.inl (p2 hq)⟩
     |false=>exact .inr ⟨p1 w,.inr rfl⟩
  ·unfold iT;rw[iR h,aY h];exact Q.tab i hi e
 ·by_cases h:i=other
  ·subst h;rw[bA] at hs ⊢;have kx:=(Q.recs.outs q hq).2 x hx
   rcases(sJ q hq).mp hs with w|w
   ·exact(sKJ x kx).mpr (.inl (Q.clo i hi q hq w x hx))
   ·exact(sKJ x kx).mpr (.inr (Q.clo one h1 q hq w x hx))
  ·rw[aY h] at hs ⊢;exact Q.clo i hi q hq hs x hx
 ·by_cases h:i=other
  ·subst h;rw[bA]
   by_cases hji:j=i
   ·subst hji;rw[bA];exact i7 _
   ·rw[aY hji,moG j t htc];have e1:=Q.le one j h1 hj t htc;have e2:=Q.le i j hi hj t htc;unfold mo;rw[if_neg hji];unfold mx;omega
  ·rw[aY h]
   by_cases hji:j=other
   ·subst hji;rw[bA,Jg t htc];have e1:=Q.le i j hi hj t htc;unfold mx;omega
   ·rw[aY hji];exact Q.le i j hi hj t htc
end
theorem drops_mem:∀ {ks:List (List Key)}{T:List (List Key×D)},p∈ks.foldl eA T↔p∈T/\p.1∉ks
 |[],T=>by simp
 |k::ks,T=>by
  show p∈ks.foldl eA (eA T k)↔_;rw[drops_mem];unfold eA;rw[ca,aj,not_or];constructor
  ·rintro⟨⟨h1,h2⟩,h3⟩
   exact⟨h1,by simpa using h2,h3⟩
  ·rintro⟨h1,h2,h3⟩
   exact⟨⟨h1,by simpa using h2⟩,h3⟩
section
variable {c:Nat}{own:Nat->Nat}{S:Nat->Hd}{rs:List Rec}{kn:Nat->Nat->List Int}{a:Nat}
theorem Hd.In.tkey {hd:Hd} (W:hd.In c own) (hp:p∈hd.table):aX p.2=p.1:=by
 obtain⟨x,y,_,_,_,e1,u,w,e2⟩:=W.tk p hp;rw[e2,e1];rfl
theorem HV (I:HInv c own S) (ha:a<c):(S a).next a=((own a+1:Nat):Int):=by
 unfold Hd.next;rw[(I a ha).2];omega
theorem Lr (I:HInv c own S) (ha:a<c):gG a ((own a+1:Nat):Int)∉(S a).table.map (·.1):=fun z=>by
 obtain⟨p,hp,e⟩:=az.mp z;obtain⟨x,y,_,_,g3,e1,_⟩:=(I a ha).1.tk p hp;rw[e1] at e;unfold gG at e;simp at e
 have:x=a:=by omega
 rw[this] at g3;omega
theorem mU (Q:Rel c own S rs kn) (I:HInv c own S) (ha:a<c):((S a).bump a).knows=(S a).knows.set a ((kn a a).set a ((own a+1:Nat):Int)):=by
 show(S a).knows.set a (((S a).seen a).set a (((S a).seen a).getD a 0+1))=_
 rw[(I a ha).2,Q.seen ha];rfl
theorem BL (I:HInv c own S) (ha:a<c) (x:Str) (v:Int) (e:D):e∈((S a).put a x v).table.map (·.2)↔e∈(S a).table.map (·.2)∨xo (D.tup [.str x,mkD a ((own a+1:Nat):Int),.int v])=xo e:=by
 show e∈(putD (S a).table (gG a ((S a).next a)) (.tup [.str x,mkD a ((S a).next a),.int v])).map (·.2)↔_;rw[HV I ha,uV (Lr I ha),b9,c6];simp only[bg,k9,fg,Option.some.injEq];constructor
 ·rintro(z|z)
  ·exact .inl z
  ·exact .inr z.symm
 ·rintro(z|z)
  ·exact .inl z
  ·exact .inr z.symm
theorem Ke (Q:Rel c own S rs kn) (I:HInv c own S) (ha:a<c) (x:Str) (v:Int):HInv c (cP own a) (mV S a ((S a).put a x v))/\Rel c (cP own a) (mV S a ((S a).put a x v)) (rs++[⟨a,own a+1,xo (x,v),[]⟩]) (upF kn a (upF (kn a) a ((kn a a).set a ((own a+1:Nat):Int)))):=by
 have W:=(I a ha).1;refine⟨I.updB (W.put ha (I a ha).2 x v) (jV W ha (I a ha).2),Q.note I ha (r:=⟨a,own a+1,xo (x,v),[]⟩) rfl rfl (by simp) (fun q hq=>by simp at hq) (fun q hq=>by simp at hq) (mU Q I ha) fun e=> ?_⟩;rw[BL I ha x v e];show _↔(_∨xo _=xo e)/\_;simp
theorem tI (Q:Rel c own S rs kn) (I:HInv c own S) (O:(S a).Ok c) (ha:a<c) (x:Str):∀ q∈(S a).marksK x,fY (kn a a) q=true:=fun q hq=>by
 obtain⟨p,hp,rfl⟩:=az.mp (O.marksIn x q hq);have h1:p.2∈eK rs (kn a a):=(Q.tab a ha p.2).mp (az.mpr ⟨p,hp,rfl⟩);obtain⟨⟨r,hr,hs,he⟩,_⟩:=mem_pres.mp h1;rw[<- (I a ha).1.tkey hp,gH he,pG];exact hs
theorem CP (Q:Rel c own S rs kn) (I:HInv c own S) (c0:0<c) (c8:c<=8) (ht:tot c own<63) (ha:a<c) (x:Str) (v:Int):HInv c (cP own a) (mV S a ((S a).change a x v))/\Rel c (cP own a) (mV S a ((S a).change a x v)) (rs++[⟨a,own a+1,xo (x,v),(S a).marksK x⟩]) (upF kn a (upF (kn a) a ((kn a a).set a ((own a+1:Nat):Int)))):=by
 have W:=(I a ha).1;have O:=W.ok c0 c8 (by omega);have P:=W.put ha (I a ha).2 x v;have T:=P.takeOut0 (mk:=gG a ((S a).next a)) (ks:=(S a).marksK x) (lP ha (I a ha).2) (O.marksLen x) fun q hq=>(W.marks O x q hq).mono (iG own a);refine⟨I.updB T.forget (jV W ha (I a ha).2),Q.note I ha (r:=⟨a,own a+1,xo (x,v),(S a).marksK x⟩) rfl rfl (O.marksLen x) (W.marks O x) (tI Q I O ha x) (mU Q I ha) fun e=> ?_⟩;show e∈(((S a).marksK x).foldl eA ((S a).put a x v).table).map (·.2)↔(_∨xo _=xo e)/\_;rw[<- BL I ha x v e];constructor
 ·intro z;obtain⟨p,hp,rfl⟩:=az.mp z;have hp':=drops_mem.mp hp;exact⟨az.mpr ⟨p,hp'.1,rfl⟩,by rw[P.tkey hp'.1];exact hp'.2⟩
 ·rintro⟨z,w⟩
  obtain⟨p,hp,rfl⟩:=az.mp z;rw[P.tkey hp] at w;exact az.mpr ⟨p,drops_mem.mpr ⟨hp,w⟩,rfl⟩
theorem Hh (Q:Rel c own S rs kn) (I:HInv c own S) (c0:0<c) (c8:c<=8) (ht:tot c own<63) (ha:a<c) (x:Str) (hm:(S a).marksK x≠[]):HInv c (cP own a) (mV S a ((S a).take a x))/\Rel c (cP own a) (mV S a ((S a).take a x)) (rs++[⟨a,own a+1,xp,(S a).marksK x⟩]) (upF kn a (upF (kn a) a ((kn a a).set a ((own a+1:Nat):Int)))):=by
 have W:=(I a ha).1;have O:=W.ok c0 c8 (by omega);have P:=W.bump ha (I a ha).2;have T:=P.takeOut0 (mk:=gG a ((S a).next a)) (ks:=(S a).marksK x) (lP ha (I a ha).2) (O.marksLen x) fun q hq=>(W.marks O x q hq).mono (iG own a);have et:(S a).take a x=((S a).bump a).takeOut (gG a ((S a).next a)) ((S a).marksK x):=by unfold Hd.take;rw[if_neg hm]
 rw[et];refine⟨I.updB T.forget (jV W ha (I a ha).2),Q.note I ha (r:=⟨a,own a+1,xp,(S a).marksK x⟩) rfl rfl (O.marksLen x) (W.marks O x) (tI Q I O ha x) (mU Q I ha) fun e=> ?_⟩;show e∈(((S a).marksK x).foldl eA (S a).table).map (·.2)↔(_∨xp=xo e)/\_;constructor
 ·intro z;obtain⟨p,hp,rfl⟩:=az.mp z;have hp':=drops_mem.mp hp;exact⟨.inl (az.mpr ⟨p,hp'.1,rfl⟩),by rw[W.tkey hp'.1];exact hp'.2⟩
 ·rintro⟨z|z,w⟩
  ·obtain⟨p,hp,rfl⟩:=az.mp z;rw[W.tkey hp] at w;exact az.mpr ⟨p,drops_mem.mpr ⟨hp,w⟩,rfl⟩
  ·cases z
theorem eY (I:HInv c own S) (c0:0<c) (c8:c<=8) (ht:tot c own<64) (hi:i<c) (hj:j<c):HInv c own (iT S j i):=by
 have Wi:=(I i hi).1;have Wj:=(I j hj).1;have H0:=Wi.hear0 Wj (Wi.ok c0 c8 ht) (Wj.ok c0 c8 ht) hi hj;exact I.upd H0.forget (Ce Wi Wj hi hj (I i hi).2)
end
theorem LawAt.congr (L:LawAt B ω c h dd oo kk ks rs kn) (e:∀ i j,i<c->j<c->kn i j=kn' i j):LawAt B ω c h dd oo kk ks rs kn':=
 ⟨L.obj,L.deeds,L.order,L.known,fun i hi=>by
  obtain⟨ds,h1,h2⟩:=L.row i hi;exact⟨ds,h1,h2.1,fun j hj=>by rw[<- e i j hi hj];exact h2.2 j hj⟩,fun i j hi hj=>by rw[<- e i j hi hj];exact L.len i j hi hj,L.inj,L.out,L.nd,L.low,L.bas,L.keys,L.ra⟩
theorem tG {a b z:Int}:mx a b<=z↔a<=z/\b<=z:=by unfold mx;split <;> omega
theorem Dz {a b:Int} (h:∀ z,a<=z↔b<=z):a=b:=Int.le_antisymm ((h b).mpr (i7 b)) ((h a).mp (i7 a))
theorem Ly (ha:a<c) (hb:b<c) (hne:a≠b) (len:∀ i j,i<c->j<c->(kn i j).length=c) (le:∀ i j,i<c->j<c->∀ t,t<c->(kn i j).getD t 0<=(kn j j).getD t 0) (k1 k2 k3 l1 l2 l3:Nat->Nat->List Int)
  (e1:k1=upF kn b (moR c kn a b)) (e2:k2=upF k1 a (moR c k1 b a)) (e3:k3=upF k2 b (moR c k2 a b))
  (f1:l1=upF kn a (moR c kn b a)) (f2:l2=upF l1 b (moR c l1 a b)) (f3:l3=upF l2 a (upF (l2 a) b (l2 a a))):∀ i j,i<c->j<c->l3 i j=k3 i j:=by
 intro i j hi hj;have moL:∀(q:Nat->Nat->List Int) x y k,(moR c q x y k).length=c:=fun q x y k=>by unfold moR;simp
 have moG:∀(q:Nat->Nat->List Int) x y k t,t<c->(moR c q x y k).getD t 0=mo q x y k t:=fun q x y k t ht=>gL ht
 -- the values
 have K1b:∀ k t,t<c->(k1 b k).getD t 0=mo kn a b k t:=fun k t ht=>by rw[e1,bA];exact moG _ _ _ _ _ ht
 have K1a:∀ k,k1 a k=kn a k:=fun k=>by rw[e1,aY hne]
 have K2a:∀ k t,t<c->(k2 a k).getD t 0=mo k1 b a k t:=fun k t ht=>by rw[e2,bA];exact moG _ _ _ _ _ ht
 have K2b:∀ k,k2 b k=k1 b k:=fun k=>by rw[e2,aY (bz hne)]
 have K3b:∀ k t,t<c->(k3 b k).getD t 0=mo k2 a b k t:=fun k t ht=>by rw[e3,bA];exact moG _ _ _ _ _ ht
 have K3a:∀ k,k3 a k=k2 a k:=fun k=>by rw[e3,aY hne]
 have L1a:∀ k t,t<c->(l1 a k).getD t 0=mo kn b a k t:=fun k t ht=>by rw[f1,bA];exact moG _ _ _ _ _ ht
 have L1b:∀ k,l1 b k=kn b k:=fun k=>by rw[f1,aY (bz hne)]
 have L2b:∀ k t,t<c->(l2 b k).getD t 0=mo l1 a b k t:=fun k t ht=>by rw[f2,bA];exact moG _ _ _ _ _ ht
 have L2a:∀ k,l2 a k=l1 a k:=fun k=>by rw[f2,aY hne]
 have lenK:∀ k,k<c->(k3 a k).length=c/\(k3 b k).length=c:=fun k hk=>⟨by rw[K3a,e2,bA];exact moL _ _ _ _,by rw[e3,bA];exact moL _ _ _ _⟩;have lenL1:∀ k,(l1 a k).length=c:=fun k=>by rw[f1,bA];exact moL _ _ _ _
 by_cases hia:i=a
 ·subst hia;have l3a:l3 i j=if j=b then l1 i i else l1 i j:=by
   rw[f3,bA]
   by_cases h:j=b
   ·rw[if_pos h,h,bA,L2a]
   ·rw[if_neg h,aY h,L2a]
  rw[l3a];refine lY (c:=c) (by split <;> exact lenL1 _) (lenK j hj).1 fun t ht=> ?_;rw[K3a,K2a j t ht];have u1:=le i b hi hb t ht;have u2:=le b i hb hi t ht
  by_cases h:j=b
  ·subst h;rw[if_pos rfl,L1a i t ht];unfold mo;rw[if_pos rfl,if_neg (bz hne),K1b j t ht,K1a];unfold mo;rw[if_pos rfl];exact Dz fun z=>by simp only[tG];omega
  ·rw[if_neg h,L1a j t ht]
   by_cases h2:j=i
   ·subst h2;unfold mo;rw[if_pos rfl,if_pos rfl,K1b j t ht,K1b b t ht,K1a];unfold mo;rw[if_neg h,if_pos rfl];exact Dz fun z=>by simp only[tG];omega
   ·unfold mo;rw[if_neg h2,if_neg h2,K1b j t ht,K1a];unfold mo;rw[if_neg h];exact Dz fun z=>by simp only[tG];omega
 ·by_cases hib:i=b
  ·subst hib;have l3b:l3 i j=l2 i j:=by rw[f3,aY hia]
   rw[l3b];refine lY (c:=c) (by rw[f2,bA];exact moL _ _ _ _) (lenK j hj).2 fun t ht=> ?_;rw[L2b j t ht,K3b j t ht];have u1:=le a i ha hi t ht;have u2:=le i a hi ha t ht
   by_cases h:j=i
   ·subst h;unfold mo;rw[if_pos rfl,if_pos rfl,L1a j t ht,L1a a t ht,L1b,K2a j t ht,K2a a t ht,K2b,K1b j t ht];unfold mo;simp only[if_true,if_neg hne,if_neg (bz hne),K1b _ t ht,K1a];unfold mo;simp only[if_true,if_neg hne,if_neg (bz hne)];exact Dz fun z=>by simp only[tG];omega
   ·by_cases h2:j=a
    ·subst h2;unfold mo;rw[if_neg h,if_neg h,L1a j t ht,L1b,K2a j t ht,K2b,K1b j t ht];unfold mo;simp only[if_true,if_neg h,K1b _ t ht,K1a];unfold mo;simp only[if_true,if_neg h];exact Dz fun z=>by simp only[tG];omega
    ·unfold mo;rw[if_neg h,if_neg h,L1a j t ht,L1b,K2a j t ht,K2b,K1b j t ht];unfold mo;simp only[if_neg h,if_neg h2,K1b _ t ht,K1a];unfold mo;simp only[if_neg h,if_neg h2];exact Dz fun z=>by simp only[tG];omega
  ·rw[f3,aY hia,f2,aY hib,f1,aY hia,e3,aY hib,e2,aY hia,e1,aY hib]
theorem Lu {a b:Int} (h:b<=a):mx a b=a:=by unfold mx;split <;> omega
section
variable {c:Nat}{own:Nat->Nat}{S:Nat->Hd}{rs:List Rec}{kn:Nat->Nat->List Int}{a b i t:Nat}
theorem QL {one other k j:Nat} (hj:j<c):(moR c kn one other k).getD j 0=mo kn one other k j:=gL hj
theorem vI (Q:Rel c own S rs kn) (ha:a<c) (hb:b<c) (ht:t<c):(moR c kn a b b).getD t 0=mx ((kn a a).getD t 0) ((kn b b).getD t 0):=by
 rw[QL ht]
 have:=Q.le a b ha hb t ht
 unfold mo;rw[if_pos rfl];unfold mx
 repeat' split
 all_goals omega
theorem Ju (Q:Rel c own S rs kn) (I:HInv c own S) (hi:i<c) (ht:t<c):(kn i i).getD t 0<=own t:=((I i hi).1.kb _ (Q.row I hi hi).1 t ht).2
theorem uU (I:HInv c own S) (Q:Rel c own S rs kn) (c0:0<c) (c8:c<=8) (ht:tot c own<64) (ha:a<c) (hb:b<c) (hne:a≠b):∃ kn',HInv c own (rT S a b)/\Rel c own (rT S a b) rs kn'/\(∀ t,t<c->(kn' a a).getD t 0=mx ((kn a a).getD t 0) ((kn b b).getD t 0))/\(∀ t,t<c->(kn' b b).getD t 0=mx ((kn a a).getD t 0) ((kn b b).getD t 0))/\∀ i,i≠a->i≠b->kn' i i=kn i i:=by
 have I1:=eY I c0 c8 ht hb ha;have Q1:=Q.hear I c0 c8 ht ha hb hne;have I2:=eY I1 c0 c8 ht ha hb;have Q2:=Q1.hear I1 c0 c8 ht hb ha (bz hne);have I3:=eY I2 c0 c8 ht hb ha;have Q3:=Q2.hear I2 c0 c8 ht ha hb hne;have r1:∀ t,t<c->(upF kn b (moR c kn a b) b b).getD t 0=mx ((kn a a).getD t 0) ((kn b b).getD t 0):=fun t ht=>by rw[bA];exact vI Q ha hb ht
 have r1a:upF kn b (moR c kn a b) a a=kn a a:=by rw[aY hne]
 have r2:∀ t,t<c->(upF (upF kn b (moR c kn a b)) a (moR c (upF kn b (moR c kn a b)) b a) a a).getD t 0=mx ((kn a a).getD t 0) ((kn b b).getD t 0):=fun t ht=>by
  rw[bA,vI Q1 hb ha ht,r1 t ht,r1a];unfold mx
  repeat' split
  all_goals omega
 have r2b:upF (upF kn b (moR c kn a b)) a (moR c (upF kn b (moR c kn a b)) b a) b b=upF kn b (moR c kn a b) b b:=by rw[aY (bz hne)]
 refine⟨_,I3,Q3,fun t ht=> ?_,fun t ht=> ?_,fun i hia hib=> ?_⟩
 ·rw[aY hne];exact r2 t ht
 ·rw[bA,vI Q2 ha hb ht,r2 t ht,r2b,r1 t ht];exact Lu (i7 _)
 ·rw[aY hib,aY hia,aY hib]
theorem oZ (ha:a<c) (hb:b<c) (hne:a≠b):(step c S (.meet (a:Int) (b:Int))).2=rT S a b:=by
 have e:step c S (.meet (a:Int) (b:Int))=(_,rT S a b):=(if_pos ⟨⟨by omega,by omega⟩,by omega,by omega⟩).trans (if_neg (by omega));rw[e]
noncomputable def iJ (k:Nat):List Deed:=(bp k).map fun(j:Nat)=>.meet (j:Int) ((j:Int)+1)
noncomputable def sE (c k:Nat):List Deed:=(bp k).map fun(j:Nat)=>.meet ((c:Int)-2+(j:Int)* -1+1) ((c:Int)-2+(j:Int)* -1)
theorem BD (I:HInv c own S) (Q:Rel c own S rs kn) (c0:0<c) (c8:c<=8) (ht:tot c own<64):∀ k,k<c->∃ kn',HInv c own (mI c (iJ k) S).2/\Rel c own (mI c (iJ k) S).2 rs kn'/\(∀ j,j<=k->∀ t,t<c->(kn j j).getD t 0<=(kn' k k).getD t 0)/\∀ j,k<j->kn' j j=kn j j
 |0,hk=>⟨kn,I,Q,fun j hj t _=>by rw[show j=0 by omega];exact i7 _,fun _ _=>rfl⟩
 |k+1,hk=>by
  obtain⟨kn1,I1,Q1,h1,h2⟩:=BD I Q c0 c8 ht k (by omega);obtain⟨kn2,I2,Q2,g1,g2,g3⟩:=uU I1 Q1 c0 c8 ht (a:=k) (b:=k+1) (by omega) hk (by omega);have e:(mI c (iJ (k+1)) S).2=rT (mI c (iJ k) S).2 k (k+1):=by
   unfold iJ;rw[k8,b9,lF];exact oZ (b:=k+1) (by omega) hk (by omega)
  rw[e];refine⟨kn2,I2,Q2,fun j hj t ht=> ?_,fun j hj=> ?_⟩
  ·rw[g2 t ht,h2 (k+1) (by omega)]
   by_cases hjk:j=k+1
   ·rw[hjk];unfold mx;split <;> omega
   ·have:=h1 j (by omega) t ht
    unfold mx;split <;> omega
  ·rw[g3 j (by omega) (by omega)];exact h2 j (by omega)
theorem GA (I:HInv c own S) (Q:Rel c own S rs kn) (c0:0<c) (c8:c<=8) (ht:tot c own<64) (full:∀ t,t<c->(kn (c-1) (c-1)).getD t 0=own t):∀ k,k<c->∃ kn',HInv c own (mI c (sE c k) S).2/\Rel c own (mI c (sE c k) S).2 rs kn'/\∀ j,c<=j+k+1->j<c->∀ t,t<c->(kn' j j).getD t 0=own t
 |0,hk=>⟨kn,I,Q,fun j hj hc t ht=>by rw[show j=c-1 by omega];exact full t ht⟩
 |k+1,hk=>by
  obtain⟨kn1,I1,Q1,h1⟩:=GA I Q c0 c8 ht full k (by omega);obtain⟨kn2,I2,Q2,g1,g2,g3⟩:=uU I1 Q1 c0 c8 ht (a:=c-2-k+1) (b:=c-2-k) (by omega) (by omega) (by omega);have e:(mI c (sE c (k+1)) S).2=rT (mI c (sE c k) S).2 (c-2-k+1) (c-2-k):=by
   unfold sE;rw[k8,b9,lF];have e1:(c:Int)-2+(k:Int)* -1+1=((c-2-k+1:Nat):Int):=by omega
   have e2:(c:Int)-2+(k:Int)* -1=((c-2-k:Nat):Int):=by omega
   show(step c _ (.meet _ _)).2=_
   rw[e1,e2];exact oZ (by omega) (by omega) (by omega)
  rw[e];refine⟨kn2,I2,Q2,fun j hj hc t ht=> ?_⟩;have f1:=h1 (c-2-k+1) (by omega) (by omega) t ht;have f2:=Ju Q1 I1 (i:=c-2-k) (by omega) ht
  by_cases ja:j=c-2-k+1
  ·rw[ja,g1 t ht,f1];exact Lu f2
  ·by_cases jb:j=c-2-k
   ·rw[jb,g2 t ht,f1];exact Lu f2
   ·rw[g3 j ja jb];exact h1 j (by omega) hc t ht
noncomputable def fK (c:Nat):List Deed:=iJ (c-1)++sE c (c-1)
noncomputable def vR (c:Nat) (own:Nat->Nat):List Int:=(bp c).map fun t=>(own t:Int)
theorem xF (I:HInv c own S) (Q:Rel c own S rs kn) (c0:0<c) (c8:c<=8) (ht:tot c own<64):∃ kn',HInv c own (mI c (fK c) S).2/\Rel c own (mI c (fK c) S).2 rs kn'/\∀ i,i<c->kn' i i=vR c own:=by
 obtain⟨kn1,I1,Q1,h1,_⟩:=BD I Q c0 c8 ht (c-1) (by omega);obtain⟨kn2,I2,Q2,h2⟩:=GA I1 Q1 c0 c8 ht (fun t ht'=>by
  have g1:=h1 t (by omega) t ht';have g2:=Ju Q1 I1 (i:=c-1) (by omega) ht';rw[Q.ownE I ht'] at g1;omega) (c-1) (by omega)
 unfold fK;rw[lF];refine⟨kn2,I2,Q2,fun i hi=>lY (Q2.row I2 hi hi).2 (by unfold vR;simp) fun t ht=> ?_⟩;unfold vR;rw[gL ht];exact h2 i (by omega) hi t ht
theorem Sy (c:Nat):Rel c (fun _=>0) (fun _=>Hd0 c) [] (fun _ _=>av c 0) where
 knows:=fun i hi=>by
  show av c (av c (0:Int))=_;apply iq;intro j;rw[fe,ay]
  by_cases h:j<c
  ·rw[if_pos h,di h];rfl
  ·rw[if_neg h,cq (by simp;omega)];rfl
 recs:=⟨by simp,fun r hr=>by simp at hr,fun r hr=>by simp at hr⟩
 tab:=fun i hi e=>by simp[Hd0,eK,bD]
 clo:=fun i hi r hr=>by simp at hr
 le:=fun i j hi hj t ht=>i7 _
end
noncomputable def Deed.n1:Deed->Int
 |.put a _ _=>a
 |.change a _ _=>a
 |.take a _=>a
 |.tell a _=>a
 |.meet a _=>a
noncomputable def Deed.n2:Deed->D
 |.put _ x _=>.str x
 |.change _ x _=>.str x
 |.take _ x=>.str x
 |.tell _ b=>.int b
 |.meet _ b=>.int b
noncomputable def okN (c:Nat):D->Bool
 |.int n=>decide (0<=n/\n<c)
 |_=>true
noncomputable abbrev mJ (h c:Nat) (d:D) (v3 v4 v5 v6 v7 v8:Option D):Rho:=[xo (.obj h),xo d,xo (.int c),v3,v4,v5,v6,v7,v8]
section
variable {ω:Om}{h c:Nat}{v3 v4 v5 v6 v7 v8:Option D}
theorem Ge:aE (mJ h c d (xo (.int n)) v4 v5 v6 v7 v8) ω=if 0<=n/\n<c then xo (.nx (mJ h c d (xo (.int n)) v4 v5 v6 v7 v8),ω) else xo (.rt (.str "no hand"),ω):=by
 have t:yA (jY (jX (pP "str" (zV 3)))) (oOr (cA (o2 (lf gLt) (zV 3) (zI 0))) (cA (o2 (lf gGe) (zV 3) (zV 2)))) (mJ h c d (xo (.int n)) v4 v5 v6 v7 v8) ω=xo (.ok (!decide (0<=n/\n<c)),ω):=by
  have t1:jY (jX (pP "str" (zV 3))) (mJ h c d (xo (.int n)) v4 v5 v6 v7 v8) ω=xo (.ok true,ω):=kD (k:=false) (tru_ok (pX (aB (d:=.int n) rfl) (by simp[DZ,eJ,Di,yJ])));unfold yA;rw[bF t1];show oOr _ _ _ ω=_;unfold oOr;rw[bF (mS (a:=n) (z:=0) (aB rfl))]
  by_cases h0:n<0
  ·rw[decide_eq_true h0];show xo (Rz.ok true,ω)=_;rw[decide_eq_false (by omega)];rfl
  ·rw[decide_eq_false h0];show cA (o2 (lf gGe) (zV 3) (zV 2)) _ ω=_;rw[cC (k:=decide ((c:Int)<=n)) (ω1:=ω) (gD (aB (d:=.int n) rfl) (aB (d:=.int c) rfl) rfl)]
   by_cases h1:(c:Int)<=n
   ·rw[decide_eq_true h1,decide_eq_false (by omega)];rfl
   ·rw[decide_eq_false h1,decide_eq_true (by omega)];rfl
 unfold aE
 by_cases hv:0<=n/\n<c
 ·rw[if_pos hv];rw[decide_eq_true hv] at t;rw[kO t];rfl
 ·rw[if_neg hv];rw[decide_eq_false hv] at t;rw[mO t];rfl
theorem Mh:aE (mJ h c d (xo (.str x)) v4 v5 v6 v7 v8) ω=xo (.nx (mJ h c d (xo (.str x)) v4 v5 v6 v7 v8),ω):=by
 have t:yA (jY (jX (pP "str" (zV 3)))) (oOr (cA (o2 (lf gLt) (zV 3) (zI 0))) (cA (o2 (lf gGe) (zV 3) (zV 2)))) (mJ h c d (xo (.str x)) v4 v5 v6 v7 v8) ω=xo (.ok false,ω):=by
  have t1:jY (jX (pP "str" (zV 3))) (mJ h c d (xo (.str x)) v4 v5 v6 v7 v8) ω=xo (.ok false,ω):=kD (k:=true) (tru_ok (pX (aB (d:=.str x) rfl) (by simp[DZ,eJ,Di,yJ])));unfold yA;rw[bF t1];rfl
 unfold aE;rw[kO t];rfl
theorem Pk (d:Deed):oIT (o2 AG (oSl (zV 1) (dSo (dC (.int 1))) (dSo (dC (.int 2)))) (oSl (zV 1) (dSo (dC (.int 2))) (dSo (dC (.int 3))))) (mJ h c d.d xp xp xp xp xp xp) ω=xo (.ok ([.int d.n1,d.n2],bK),ω):=by
 cases d with
 |put a x v=>rfl
 |change a x v=>rfl
 |take a x=>rfl
 |tell a b=>rfl
 |meet a b=>rfl
theorem oJ (d:Deed):sNx (bB (oIT (o2 AG (oSl (zV 1) (dSo (dC (.int 1))) (dSo (dC (.int 2)))) (oSl (zV 1) (dSo (dC (.int 2))) (dSo (dC (.int 3)))))) (aS 3) aE) (mJ h c d.d xp xp xp xp xp xp) ω=if(0<=d.n1/\d.n1<c)/\okN c d.n2=true then xo (.nx (mJ h c d.d (xo d.n2) xp xp xp xp xp),ω) else xo (.rt (.str "no hand"),ω):=by
 have run:∀ r,bO (aS 3) bK aE [.int d.n1,d.n2] (mJ h c d.d xp xp xp xp xp xp) ω=xo (r,ω)->(∀ x,r≠ .ex x)->sNx (bB (oIT (o2 AG (oSl (zV 1) (dSo (dC (.int 1))) (dSo (dC (.int 2)))) (oSl (zV 1) (dSo (dC (.int 2))) (dSo (dC (.int 3)))))) (aS 3) aE) (mJ h c d.d xp xp xp xp xp xp) ω=xo (r,ω):=by
  intro r e hr
  have:bB (oIT (o2 AG (oSl (zV 1) (dSo (dC (.int 1))) (dSo (dC (.int 2)))) (oSl (zV 1) (dSo (dC (.int 2))) (dSo (dC (.int 3)))))) (aS 3) aE (mJ h c d.d xp xp xp xp xp xp) ω=xo (r,ω):=by
   unfold bB;rw[bP (Pk d)];exact e
  unfold sNx;rw[this];cases r with
  |ex x=>exact absurd rfl (hr x)
  |_=>rfl
 have s1:bO (aS 3) bK aE [.int d.n1,d.n2] (mJ h c d.d xp xp xp xp xp xp) ω=(match aE (mJ h c d.d (xo (.int d.n1)) xp xp xp xp xp) ω with
   |none=>xp
   |some (.nx ρ2,ω2)=>bO (aS 3) bK aE [d.n2] ρ2 ω2
   |some (.ct ρ2,ω2)=>bO (aS 3) bK aE [d.n2] ρ2 ω2
   |some (.bk ρ2,ω2)=>xo (.nx ρ2,ω2)
   |some (.rt d,ω2)=>xo (.rt d,ω2)
   |some (.ex _,_)=>xp):=rfl
 have s2:bO (aS 3) bK aE [d.n2] (mJ h c d.d (xo (.int d.n1)) xp xp xp xp xp) ω=(match aE (mJ h c d.d (xo d.n2) xp xp xp xp xp) ω with
   |none=>xp
   |some (.nx ρ2,ω2)=>xo (.nx ρ2,ω2)
   |some (.ct ρ2,ω2)=>xo (.nx ρ2,ω2)
   |some (.bk ρ2,ω2)=>xo (.nx ρ2,ω2)
   |some (.rt d,ω2)=>xo (.rt d,ω2)
   |some (.ex _,_)=>xp):=by
  show(match aE (mJ h c d.d (xo d.n2) xp xp xp xp xp) ω with
   |none=>xp
   |some (.nx ρ2,ω2)=>bO (aS 3) bK aE [] ρ2 ω2
   |some (.ct ρ2,ω2)=>bO (aS 3) bK aE [] ρ2 ω2
   |some (.bk ρ2,ω2)=>xo (.nx ρ2,ω2)
   |some (.rt d,ω2)=>xo (.rt d,ω2)
   |some (.ex _,_)=>xp)=_
  rfl
 rw[Ge] at s1
 by_cases h1:0<=d.n1/\d.n1<c
 ·rw[if_pos h1] at s1;have s1':bO (aS 3) bK aE [.int d.n1,d.n2] (mJ h c d.d xp xp xp xp xp xp) ω=bO (aS 3) bK aE [d.n2] (mJ h c d.d (xo (.int d.n1)) xp xp xp xp xp) ω:=s1;have shape:(∃ n,d.n2=.int n)∨∃ x,d.n2=.str x:=by
   cases d with
   |put a x v=>exact .inr ⟨x,rfl⟩
   |change a x v=>exact .inr ⟨x,rfl⟩
   |take a x=>exact .inr ⟨x,rfl⟩
   |tell a b=>exact .inl ⟨b,rfl⟩
   |meet a b=>exact .inl ⟨b,rfl⟩
  rcases shape with⟨n,e⟩|⟨x,e⟩
  ·rw[e,Ge] at s2
   by_cases h2:0<=n/\n<c
   ·rw[if_pos h2] at s2;rw[if_pos ⟨h1,by rw[e];exact decide_eq_true h2⟩];rw[e] at s1' ⊢;exact run _ (by rw[e];exact s1'.trans s2) (by intro x;exact fun z=>nomatch z)
   ·rw[if_neg h2] at s2;rw[if_neg (fun z=>by rw[e] at z;exact h2 (of_decide_eq_true z.2))];rw[e] at s1';exact run _ (by rw[e];exact s1'.trans s2) (by intro x;exact fun z=>nomatch z)
  ·rw[e,Mh] at s2;rw[if_pos ⟨h1,by rw[e];rfl⟩];rw[e] at s1' ⊢;exact run _ (by rw[e];exact s1'.trans s2) (by intro x;exact fun z=>nomatch z)
 ·rw[if_neg h1] at s1;rw[if_neg (fun z=>h1 z.1)];exact run _ s1 (by intro x;exact fun z=>nomatch z)
end
section
variable {B ω:Om}{c h dd oo kk:Nat}{ks:Nat->Nat}{rs:List Rec}{kn:Nat->Nat->List Int}{own:Nat->Nat}{S:Nat->Hd}
noncomputable abbrev KS:OS:=(aF (dQ (cA (o2 (iM 8) (zX (zV 1) (zI 0)) (zS "put"))) (aW (bL cW (aC (zV 0) (aC (zV 4) (aC (oSl (zV 1) (dSo (dC (.int 2))) dNo) (aC (zL aM) aM)))))) bN) (aF (dQ (cA (o2 (iM 8) (zX (zV 1) (zI 0)) (zS "change"))) (aW (bL cW (aC (zV 0) (aC (zV 4) (aC (oSl (zV 1) (dSo (dC (.int 2))) dNo) (aC (zV 6) aM)))))) bN) (aF (dQ (cA (o2 (iM 8) (zV 6) (zL aM))) (aW (oP (dC .non))) bN) (aF (bQ (bL cW (aC (zV 0) (aC (zV 4) (aC (oP (dC .non)) (aC (zV 6) aM)))))) (aW (zV 6))))))
theorem gX (h1:ρ[1]?=xo (xo d)) (h0:oI ω d (.int 0)=xo (.str x)):cA (o2 (iM 8) (zX (zV 1) (zI 0)) (zS y)) ρ ω=xo (.ok (decide (x=y)),ω):=cC (dY (aK (aB h1) aQ h0) aQ (by
 show pu ((eqD 8 (.str x) (.str y)).map D.bl) ω=_;rw[iA];rfl))
theorem HD:∀ {d:Deed},(∃ x,d.n2=.str x)->cA (o2 (lf (gIn 7)) (zX (zV 1) (zI 0)) (zL (aC (zS "put") (aC (zS "take") (aC (zS "change") aM))))) (mJ h c d.d (xo d.n2) (xo (.int d.n1)) xp xp xp xp) ω=xo (.ok true,ω)
 |.put a x v,_=>rfl
 |.change a x v,_=>rfl
 |.take a x,_=>rfl
 |.tell a b,⟨_,e⟩=>by cases e
 |.meet a b,⟨_,e⟩=>by cases e
theorem nW:∀ {d:Deed},(∃ b,d.n2=.int b)->cA (o2 (lf (gIn 7)) (zX (zV 1) (zI 0)) (zL (aC (zS "put") (aC (zS "take") (aC (zS "change") aM))))) (mJ h c d.d (xo d.n2) (xo (.int d.n1)) xp xp xp xp) ω=xo (.ok false,ω)
 |.put a x v,⟨_,e⟩=>by cases e
 |.change a x v,⟨_,e⟩=>by cases e
 |.take a x,⟨_,e⟩=>by cases e
 |.tell a b,_=>rfl
 |.meet a b,_=>rfl
theorem Jd (d:Deed):oI ω d.d (.int 1)=xo (.int d.n1):=by cases d <;> rfl
theorem Jc (d:Deed):oI ω d.d (.int 2)=xo d.n2:=by cases d <;> rfl
theorem qJ (L:LawAt B ω c h dd oo kk ks rs kn) {d:Deed} (hb:¬((0<=d.n1/\d.n1<c)/\okN c d.n2=true)):cD [.obj h,d.d] ω=xo (.ok (.str "no hand"),ω):=by
 refine aT rfl ?_;unfold bR;refine(aI (L.gCount (aB rfl))).trans ?_;refine uS (r:=.ok (.str "no hand")) ?_
 have:=oJ (ω:=ω) (h:=h) (c:=c) d
 rw[if_neg hb] at this;exact this
theorem vV {d:Deed} (L:LawAt B ω c h dd oo kk ks rs kn) (I:HInv c own S) (Q:Rel c own S rs kn) (c0:0<c) (c8:c<=8) (ht:tot c own<64) (ha:a<c) (e1:d.n1=a) (e2:d.n2=.str x)
  (e:KS (mJ h c d.d (xo (.str x)) (xo (.int a)) (xo (.lst (S a).ents)) (xo (.lst (((S a).marksK x).map bI))) xp xp) (ω++[.ml (bD rs (kn a a))])=xo (Kd r,ω')):cD [.obj h,d.d] ω=xo (r,ω'):=by
 have W:=(I a ha).1;have O:=W.ok c0 c8 ht;obtain⟨rd,i1,r1⟩:=L.ixRow (ω:=ω) (fun _ _=>rfl) ha ha;have rl:=nY Q.recs;have pr:=sY L c0 Q.recs r1 (L.len _ _ ha ha) (by omega) (jD O Q.recs ht (Q.tab a ha));have lp:=oJ (ω:=ω) (h:=h) (c:=c) d;rw[if_pos ⟨by rw[e1];omega,by rw[e2];rfl⟩] at lp;refine dS rfl ?_;unfold bR;refine(aI (L.gCount (aB rfl))).trans ?_;refine(aZ lp).trans ?_;refine(aI (aK (aB (d:=d.d) rfl) aQ (Jd d))).trans ?_;refine uS ?_;refine(mO (HD ⟨x,e2⟩)).trans ?_;show aF _ _ (mJ h c d.d (xo d.n2) (xo (.int d.n1)) xp xp xp xp) ω=_;rw[e1,e2];refine(aI (aR (aA (aB (d:=.obj h) rfl) (aA (aK (aK (L.gKnown (aB (d:=.obj h) rfl)) (aB (d:=.int a) rfl) (L.ixKnown ha)) (aB (d:=.int a) rfl) i1) aD)) pr)).trans ?_;refine(aI (d:=.lst (((S a).marksK x).map bI)) (ω1:=ω++[.ml (bD rs (kn a a))]) (fB (ds:=(S a).ents) (chk:=bK) (ω1:=ω++[.ml (bD rs (kn a a))]) (by
  unfold oIL;rw[bF (aB (d:=.lst (S a).ents) rfl)];rfl) (g9 (eE O.entsLen)) (by
  have e0:((S a).marksK x).map bI=((S a).ents.filter (LG x)).map fun q=>bI (aX q):=by
   unfold Hd.marksK;rw[fj];rfl
  rw[e0];refine eO (fun ρ=>∃ u,ρ=[u,xo d.d]) rfl ⟨_,rfl⟩ fun q hq ρ hρ=> ?_;obtain⟨u,rfl⟩:=hρ;obtain⟨y,p1,p2,v,rfl⟩:=O.entsEnt q hq;refine⟨_,rfl,⟨_,rfl⟩,?_,fun _=>aK (aB (d:=.tup [.str y,.tup [.int p1,.int p2],.int v]) rfl) aQ rfl⟩;refine cC (dY (aK (aB (d:=.tup [.str y,.tup [.int p1,.int p2],.int v]) rfl) aQ rfl) (aK (aB (d:=d.d) rfl) aQ (by rw[Jc,e2])) ?_);show pu ((eqD 8 (.str y) (.str x)).map D.bl) _=_;rw[iA];rfl))).trans ?_
 exact e
def Cn (own:Nat->Nat) (rs:List Rec):Prop:=∀ t,rs.countP (fun r=>r.a==t)=own t
theorem Cn.snoc {own:Nat->Nat}{rs:List Rec}{r:Rec} (N:Cn own rs) (h:r.a=a):Cn (cP own a) (rs++[r]):=fun t=>by
 rw[vp,N t,ui,h];unfold cP
 by_cases e:t=a
 ·rw[if_pos e,if_pos (by simp[e])]
 ·rw[if_neg e,if_neg (by simp;exact fun z=>e z.symm)];omega
theorem Pj (L:LawAt B ω c h dd oo kk ks rs kn) (I:HInv c own S) (Q:Rel c own S rs kn) (c0:0<c) (c8:c<=8) (ht:tot c own<63) (N:Cn own rs) (d:Deed):∃ ω' ks' rs' kn' own' ans,cD [.obj h,d.d] ω=xo (.ok ans,ω')/\LawAt B ω' c h dd oo kk ks' rs' kn'/\HInv c own' (step c S d).2/\Rel c own' (step c S d).2 rs' kn'/\tot c own'<=tot c own+1/\Cn own' rs':=by
 have nk:∀ {a:Nat} (p:Option (Str×Int)) (o:List (List Key)),a<c->(⟨a,own a+1,p,o⟩:Rec).key∉rs.map Rec.key:=fun {a} p o ha z=>by
  obtain⟨q,hq,e⟩:=az.mp z
  have:=Q.recs.inn q hq
  unfold Rec.key gG at e;simp at e;have e1:q.a=a:=by omega
  rw[e1] at this;omega
 have tb:∀ {a:Nat},a<c->tot c (cP own a)<=tot c own+1:=fun {a} ha=>by rw[jN,if_pos ha];omega
 have rl:=nY Q.recs;have ob:∀ {a:Nat},a<c->(((own a+1:Nat)):Int)=(kn a a).getD a 0+1:=fun {a} ha=>by rw[Q.ownE I ha];omega
 cases d with
 |put a x v=>
  by_cases hv:0<=a/\a<(c:Int)
  ·obtain⟨n,rfl⟩:=Int.eq_ofNat_of_zero_le hv.1;have hn:n<c:=by omega
   have e0:(step c S (.put n x v)).2=mV S n ((S n).put n x v):=by
    show(if 0<=(n:Int)/\(n:Int)<c then(_,_) else(_,_):D×(Nat->Hd)).2=_
    rw[if_pos hv];rfl
   rw[e0];have RP:=Ke Q I hn x v;have L1:=L.app c0 [.ml (bD rs (kn n n))];obtain⟨ω',e1,L2,_⟩:=vD (own':=n) L1 c0 hn (r:=⟨n,own n+1,xo (x,v),[]⟩) rfl (ob hn) (nk _ _ hn) (by omega);refine⟨ω',ks,_,_,cP own n,_,vV (d:=.put n x v) L I Q c0 c8 (by omega) hn rfl rfl (r:=.ok (mkD n ((own n+1:Nat):Int))) ?_,L2,RP.1,RP.2,tb hn,N.snoc rfl⟩;exact Dr (r:=.ok _) (by rw[gX (x:="put") rfl rfl];rfl) (aR (aA (aB rfl) (aA (aB rfl) (aA (a:=.tup [.str x,.int v]) rfl (aA (a:=.lst []) rfl aD)))) e1)
  ·have e0:(step c S (.put a x v)).2=S:=by
    show(if 0<=a/\a<(c:Int) then(_,_) else(_,_):D×(Nat->Hd)).2=_
    rw[if_neg hv]
   rw[e0];exact⟨ω,ks,rs,kn,own,_,qJ L (d:=.put a x v) fun z=>hv z.1,L,I,Q,by omega,N⟩
 |change a x v=>
  by_cases hv:0<=a/\a<(c:Int)
  ·obtain⟨n,rfl⟩:=Int.eq_ofNat_of_zero_le hv.1;have hn:n<c:=by omega
   have e0:(step c S (.change n x v)).2=mV S n ((S n).change n x v):=by
    show(if 0<=(n:Int)/\(n:Int)<c then(_,_) else(_,_):D×(Nat->Hd)).2=_
    rw[if_pos hv];rfl
   rw[e0];have RP:=CP Q I c0 c8 ht hn x v;have L1:=L.app c0 [.ml (bD rs (kn n n))];obtain⟨ω',e1,L2,_⟩:=vD (own':=n) L1 c0 hn (r:=⟨n,own n+1,xo (x,v),(S n).marksK x⟩) rfl (ob hn) (nk _ _ hn) (by omega);refine⟨ω',ks,_,_,cP own n,_,vV (d:=.change n x v) L I Q c0 c8 (by omega) hn rfl rfl (r:=.ok (mkD n ((own n+1:Nat):Int))) ?_,L2,RP.1,RP.2,tb hn,N.snoc rfl⟩;refine(skip (by rw[gX (x:="change") rfl rfl];rfl)).trans ?_;exact Dr (r:=.ok _) (by rw[gX (x:="change") rfl rfl];rfl) (aR (aA (aB rfl) (aA (aB rfl) (aA (a:=.tup [.str x,.int v]) rfl (aA (aB (d:=.lst (((S n).marksK x).map bI)) rfl) aD)))) e1)
  ·have e0:(step c S (.change a x v)).2=S:=by
    show(if 0<=a/\a<(c:Int) then(_,_) else(_,_):D×(Nat->Hd)).2=_
    rw[if_neg hv]
   rw[e0];exact⟨ω,ks,rs,kn,own,_,qJ L (d:=.change a x v) fun z=>hv z.1,L,I,Q,by omega,N⟩
 |take a x=>
  by_cases hv:0<=a/\a<(c:Int)
  ·obtain⟨n,rfl⟩:=Int.eq_ofNat_of_zero_le hv.1;have hn:n<c:=by omega
   have e0:(step c S (.take n x)).2=mV S n ((S n).take n x):=by
    show(if 0<=(n:Int)/\(n:Int)<c then(_,_) else(_,_):D×(Nat->Hd)).2=_
    rw[if_pos hv];rfl
   rw[e0];have L1:=L.app c0 [.ml (bD rs (kn n n))];have tst:∀ {ω:Om}{ρ:Rho},ρ[6]?=xo (xo (.lst (((S n).marksK x).map bI)))->cA (o2 (iM 8) (zV 6) (zL aM)) ρ ω=xo (.ok (decide ((S n).marksK x=[])),ω):=fun {ω ρ} h6=>cC (dY (aB h6) (b:=.lst []) (ω2:=ω) rfl (by
    show pu ((eqD 8 (.lst (((S n).marksK x).map bI)) (.lst [])).map D.bl) ω=_;cases hm:(S n).marksK x with
    |nil=>rfl
    |cons q l=>rfl))
   by_cases hm:(S n).marksK x=[]
   ·have et:(S n).take n x=S n:=by unfold Hd.take;rw[if_pos hm]
    have eS:mV S n ((S n).take n x)=S:=by
     rw[et]
     funext j
     by_cases h:j=n
     ·rw[h,iS]
     ·rw[iR h]
    rw[eS];refine⟨_,ks,rs,kn,own,_,vV (d:=.take n x) L I Q c0 c8 (by omega) hn rfl rfl (r:=.ok .non) ?_,L1,I,Q,by omega,N⟩;refine(skip (by rw[gX (x:="take") rfl rfl];rfl)).trans ?_;refine(skip (by rw[gX (x:="take") rfl rfl];rfl)).trans ?_;exact Dr (r:=.ok .non) (by rw[tst rfl,decide_eq_true hm]) rfl
   ·have RP:=Hh Q I c0 c8 ht hn x hm;obtain⟨ω',e1,L2,_⟩:=vD (own':=n) L1 c0 hn (r:=⟨n,own n+1,xp,(S n).marksK x⟩) rfl (ob hn) (nk _ _ hn) (by omega);refine⟨ω',ks,_,_,cP own n,_,vV (d:=.take n x) L I Q c0 c8 (by omega) hn rfl rfl (r:=.ok (.lst (((S n).marksK x).map bI))) ?_,L2,RP.1,RP.2,tb hn,N.snoc rfl⟩;refine(skip (by rw[gX (x:="take") rfl rfl];rfl)).trans ?_;refine(skip (by rw[gX (x:="take") rfl rfl];rfl)).trans ?_;refine(skip (by rw[tst rfl,decide_eq_false hm])).trans ?_;refine(aZ (ω1:=ω') (by
     unfold bQ;rw[bP (aR (aA (aB (d:=.obj h) rfl) (aA (aB (d:=.int n) rfl) (aA (a:=.non) rfl (aA (aB (d:=.lst (((S n).marksK x).map bI)) rfl) aD)))) e1)])).trans ?_
    exact bE (aB rfl)
  ·have e0:(step c S (.take a x)).2=S:=by
    show(if 0<=a/\a<(c:Int) then(_,_) else(_,_):D×(Nat->Hd)).2=_
    rw[if_neg hv]
   rw[e0];exact⟨ω,ks,rs,kn,own,_,qJ L (d:=.take a x) fun z=>hv z.1,L,I,Q,by omega,N⟩
 |tell a b=>
  by_cases hv:(0<=a/\a<(c:Int))/\(0<=b/\b<(c:Int))
  ·obtain⟨n,rfl⟩:=Int.eq_ofNat_of_zero_le hv.1.1;obtain⟨m,rfl⟩:=Int.eq_ofNat_of_zero_le hv.2.1;have hn:n<c:=by omega
   have hm:m<c:=by omega
   have lp:=oJ (ω:=ω) (h:=h) (c:=c) (.tell n m);rw[if_pos ⟨hv.1,decide_eq_true hv.2⟩] at lp;have head:∀(r:Rz D) (ω':Om) (G:OS),G (mJ h c (Deed.tell n m).d (xo (.int m)) (xo (.int n)) xp xp xp xp) ω=xo (Kd r,ω')->True:=fun _ _ _ _=>trivial;have eqt:cA (o2 (iM 8) (zV 4) (zX (zV 1) (zI 2))) (mJ h c (Deed.tell n m).d (xo (.int m)) (xo (.int n)) xp xp xp xp) ω=xo (.ok (decide ((n:Int)=m)),ω):=cC (dY (aB (d:=.int n) rfl) (aK (aB (d:=(Deed.tell n m).d) rfl) aQ rfl) rfl)
   by_cases hnm:n=m
   ·subst hnm;have e0:(step c S (.tell n n)).2=S:=by
     show(if(0<=(n:Int)/\(n:Int)<c)/\(0<=(n:Int)/\(n:Int)<c) then(if(n:Int)=n then(_,_) else(_,_)) else(_,_):D×(Nat->Hd)).2=_
     rw[if_pos hv,if_pos rfl]
    rw[e0];refine⟨ω,ks,rs,kn,own,.str "same hand",?_,L,I,Q,by omega,N⟩;refine aT rfl ?_;unfold bR;refine(aI (L.gCount (aB rfl))).trans ?_;refine(aZ lp).trans ?_;refine(aI (aK (aB (d:=(Deed.tell n n).d) rfl) aQ rfl)).trans ?_;refine(skip (nW (d:=.tell n n) ⟨_,rfl⟩)).trans ?_;exact Dr (r:=.ok _) (eqt.trans (by rw[decide_eq_true rfl])) rfl
   ·have e0:(step c S (.tell n m)).2=iT S n m:=by
     show(if(0<=(n:Int)/\(n:Int)<c)/\(0<=(m:Int)/\(m:Int)<c) then(if(n:Int)=m then(_,_) else(_,_)) else(_,_):D×(Nat->Hd)).2=_
     rw[if_pos hv,if_neg (by omega)];rfl
    rw[e0];obtain⟨ω',ks',e1,L2,_⟩:=iY L c0 c8 hn hm;refine⟨ω',ks',rs,_,own,.int ((moR c kn n m m).sum-(kn m m).sum),?_,L2,eY I c0 c8 (by omega) hm hn,Q.hear I c0 c8 (by omega) hn hm hnm,by omega,N⟩
    ·refine aT rfl ?_;unfold bR;refine(aI (L.gCount (aB rfl))).trans ?_;refine(aZ lp).trans ?_;refine(aI (aK (aB (d:=(Deed.tell n m).d) rfl) aQ rfl)).trans ?_;refine(skip (nW (d:=.tell n m) ⟨_,rfl⟩)).trans ?_;refine(skip (eqt.trans (by rw[decide_eq_false (by omega)]))).trans ?_;exact Dr (r:=.ok _) (by rw[gX (x:="tell") rfl rfl];rfl) (aR (aA (aB rfl) (aA (aB rfl) (aA (aK (aB (d:=(Deed.tell n m).d) rfl) aQ rfl) aD))) e1)
  ·have e0:(step c S (.tell a b)).2=S:=by
    show(if(0<=a/\a<(c:Int))/\(0<=b/\b<(c:Int)) then(if a=b then(_,_) else(_,_)) else(_,_):D×(Nat->Hd)).2=_
    rw[if_neg hv]
   rw[e0];exact⟨ω,ks,rs,kn,own,_,qJ L (d:=.tell a b) fun z=>hv ⟨z.1,of_decide_eq_true z.2⟩,L,I,Q,by omega,N⟩
 |meet a b=>
  by_cases hv:(0<=a/\a<(c:Int))/\(0<=b/\b<(c:Int))
  ·obtain⟨n,rfl⟩:=Int.eq_ofNat_of_zero_le hv.1.1;obtain⟨m,rfl⟩:=Int.eq_ofNat_of_zero_le hv.2.1;have hn:n<c:=by omega
   have hm:m<c:=by omega
   have lp:=oJ (ω:=ω) (h:=h) (c:=c) (.meet n m);rw[if_pos ⟨hv.1,decide_eq_true hv.2⟩] at lp;have eqt:cA (o2 (iM 8) (zV 4) (zX (zV 1) (zI 2))) (mJ h c (Deed.meet n m).d (xo (.int m)) (xo (.int n)) xp xp xp xp) ω=xo (.ok (decide ((n:Int)=m)),ω):=cC (dY (aB (d:=.int n) rfl) (aK (aB (d:=(Deed.meet n m).d) rfl) aQ rfl) rfl)
   by_cases hnm:n=m
   ·subst hnm;have e0:(step c S (.meet n n)).2=S:=by
     show(if(0<=(n:Int)/\(n:Int)<c)/\(0<=(n:Int)/\(n:Int)<c) then(if(n:Int)=n then(_,_) else(_,_)) else(_,_):D×(Nat->Hd)).2=_
     rw[if_pos hv,if_pos rfl]
    rw[e0];refine⟨ω,ks,rs,kn,own,.str "same hand",?_,L,I,Q,by omega,N⟩;refine aT rfl ?_;unfold bR;refine(aI (L.gCount (aB rfl))).trans ?_;refine(aZ lp).trans ?_;refine(aI (aK (aB (d:=(Deed.meet n n).d) rfl) aQ rfl)).trans ?_;refine(skip (nW (d:=.meet n n) ⟨_,rfl⟩)).trans ?_;exact Dr (r:=.ok _) (eqt.trans (by rw[decide_eq_true rfl])) rfl
   ·have e0:(step c S (.meet n m)).2=rT S n m:=by
     show(if(0<=(n:Int)/\(n:Int)<c)/\(0<=(m:Int)/\(m:Int)<c) then(if(n:Int)=m then(_,_) else(_,_)) else(_,_):D×(Nat->Hd)).2=_
     rw[if_pos hv,if_neg (by omega)];rfl
    rw[e0];have I1:=eY I c0 c8 (by omega) hm hn;have Q1:=Q.hear I c0 c8 (by omega) hn hm hnm;have I2:=eY I1 c0 c8 (by omega) hn hm;have Q2:=Q1.hear I1 c0 c8 (by omega) hm hn (bz hnm);have I3:=eY I2 c0 c8 (by omega) hm hn;have Q3:=Q2.hear I2 c0 c8 (by omega) hn hm hnm;obtain⟨ω1,ks1,e1,L1,_⟩:=iY L c0 c8 hm hn;obtain⟨ω2,ks2,e2,L2,_⟩:=iY L1 c0 c8 hn hm;obtain⟨ds,g1,g2⟩:=L2.row n hn;obtain⟨rd,i1,r1⟩:=g2.ix g1 hn;have L3:=L2.setRow c0 hn hm g1 g2 (d:=.lst (iv (upF (upF kn n (moR c kn m n)) m (moR c (upF kn n (moR c kn m n)) n m) n n))) (xs:=upF (upF kn n (moR c kn m n)) m (moR c (upF kn n (moR c kn m n)) n m) n n) rfl (L2.len _ _ hn hn);have same:=Ly (c:=c) (kn:=kn) hn hm hnm L.len Q.le _ _ _ _ _ _ rfl rfl rfl rfl rfl rfl;refine⟨_,ks2,rs,_,own,.tup [.int ((moR c kn m n n).sum-(kn n n).sum),.int ((moR c (upF kn n (moR c kn m n)) n m m).sum-(upF kn n (moR c kn m n) m m).sum)],?_,L3.congr same,I3,Q3,by omega,N⟩
    ·refine aT rfl ?_;unfold bR;refine(aI (L.gCount (aB rfl))).trans ?_;refine(aZ lp).trans ?_;refine(aI (aK (aB (d:=(Deed.meet n m).d) rfl) aQ rfl)).trans ?_;refine(skip (nW (d:=.meet n m) ⟨_,rfl⟩)).trans ?_;refine(skip (eqt.trans (by rw[decide_eq_false (by omega)]))).trans ?_;refine(skip (by rw[gX (x:="meet") rfl rfl];rfl)).trans ?_;refine(aI (aR (aA (aB (d:=.obj h) rfl) (aA (aK (aB (d:=(Deed.meet n m).d) rfl) aQ rfl) (aA (aB (d:=.int n) rfl) aD))) e1)).trans ?_;refine(aI (aR (aA (aB (d:=.obj h) rfl) (aA (aB (d:=.int n) rfl) (aA (aK (aB (d:=(Deed.meet n m).d) rfl) aQ rfl) aD))) e2)).trans ?_;refine(aZ (eI (cI (aA (aK (aK (L2.gKnown (aB (d:=.obj h) rfl)) (aB (d:=.int n) rfl) (L2.ixKnown hn)) (aB (d:=.int n) rfl) i1) aD) (by
      have:bY ω2 rd=xo (iv (upF (upF kn n (moR c kn m n)) m (moR c (upF kn n (moR c kn m n)) n m) n n)):=by
       rcases fE r1 with rfl|⟨q,rfl,e⟩
       ·rfl
       ·simp only[bY,eJ,e]
      show(bY ω2 rd).map _=_
      rw[this];rfl)) (aK (L2.gKnown (aB (d:=.obj h) rfl)) (aB (d:=.int n) rfl) (L2.ixKnown hn)) (aK (aB (d:=(Deed.meet n m).d) rfl) aQ rfl) (kL g1 (by rw[g2.1];exact hm)))).trans ?_
     exact bE (cI (aA (aB rfl) (aA (aB rfl) aD)) rfl)
  ·have e0:(step c S (.meet a b)).2=S:=by
    show(if(0<=a/\a<(c:Int))/\(0<=b/\b<(c:Int)) then(if a=b then(_,_) else(_,_)) else(_,_):D×(Nat->Hd)).2=_
    rw[if_neg hv]
   rw[e0];exact⟨ω,ks,rs,kn,own,_,qJ L (d:=.meet a b) fun z=>hv ⟨z.1,of_decide_eq_true z.2⟩,L,I,Q,by omega,N⟩
end
theorem xP:∀ {xs:List Int}{u:Option D},∃ v,bO (aS 3) bK gM (iv xs) [F,N,R,u] ω=xo (.nx [F,N,R,v],ω)
 |[],u=>⟨u,rfl⟩
 |x::xs,u=>by
  obtain⟨v,e⟩:=xP (F:=F) (N:=N) (R:=R) (ω:=ω) (xs:=xs) (u:=xo (.int x));exact⟨v,e⟩
theorem xO:∀ {ts:List (List Int)}{u v:Option D},(∀ t∈ts,t.length=c)->∃ u' v',bO (aS 2) bK dE (ts.map fun xs=>D.lst (iv xs)) [F,xo (.int c),u,v] ω=xo (.nx [F,xo (.int c),u',v'],ω)
 |[],u,v,_=>⟨u,v,rfl⟩
 |t::ts,u,v,h=>by
  obtain⟨w,e1⟩:=xP (F:=F) (N:=xo (.int c)) (R:=xo (.lst (iv t))) (ω:=ω) (xs:=t) (u:=v);obtain⟨u',v',e2⟩:=xO (F:=F) (c:=c) (ω:=ω) (ts:=ts) (u:=xo (.lst (iv t))) (v:=w) fun t' ht=>h t' (ai _ ht);refine⟨u',v',?_⟩;have b2:dE [F,xo (.int c),xo (.lst (iv t)),v] ω=xo (.nx [F,xo (.int c),xo (.lst (iv t)),w],ω):=by
   unfold dE;rw[skip (CU (kD (k:=true) (tru_ok (pX (aB (d:=.lst (iv t)) rfl) (by simp[DZ,eJ,Di,yJ])))) (BV (a:=((iv t).length:Nat)) (b:=(c:Int)) (mR (aB (d:=.lst (iv t)) rfl) (.inl rfl)) (aB rfl) (by unfold iv;rw[ak,h t ar])))];refine dF ?_;unfold bB oIL;rw[bP (x:=(iv t,bK)) (ω1:=ω) (by rw[bF (aB (d:=.lst (iv t)) rfl)];rfl)];exact e1
  refine(bS rfl rfl (b2)).trans ?_;exact e2
theorem Kc {ts:List (List Int)} (h:∀ t∈ts,t.length=c) (hc:ts.length=c) (ω:Om):eP [.lst (ts.map fun xs=>D.lst (iv xs)),.int c] ω=xo (.ok (.bl true),ω):=by
 obtain⟨u,v,e⟩:=xO (F:=xo (.lst (ts.map fun xs=>D.lst (iv xs)))) (c:=c) (ω:=ω) (ts:=ts) (u:=xp) (v:=xp) h;refine aT rfl ?_;unfold kG;refine(skip (CU (kD (k:=true) (tru_ok (pX (aB (d:=.lst (ts.map fun xs=>D.lst (iv xs))) rfl) (by simp[DZ,eJ,Di,yJ])))) (BV (a:=((ts.map fun xs=>D.lst (iv xs)).length:Nat)) (b:=(c:Int)) (mR (aB (d:=.lst (ts.map fun xs=>D.lst (iv xs))) rfl) (.inl rfl)) (aB rfl) (by rw[ak,hc])))).trans ?_;refine(aZ (dF (by
  unfold bB oIL;rw[bP (x:=(ts.map fun xs=>D.lst (iv xs),bK)) (ω1:=ω) (by rw[bF (aB (d:=.lst (ts.map fun xs=>D.lst (iv xs))) rfl)];rfl)];exact e))).trans ?_
 rfl
theorem Cr (c0:0<c) (c8:c<=8):∀(ds:List Deed) {S:Nat->Hd}{ω:Om}{ks:Nat->Nat}{rs:List Rec}{kn:Nat->Nat->List Int}{own:Nat->Nat},LawAt B ω c h dd oo kk ks rs kn->HInv c own S->Rel c own S rs kn->tot c own+ds.length<64->Cn own rs->
  ∃ ω' ks' rs' kn' own',(∀(bd:BR) (chk:Om->Bool) (G:OS) (ρ:Option D->Rho),(∀ ω:Om,B.length<=ω.length->(∀ n:Nat,n<B.length->ω[n]?=B[n]?)->chk ω=true)->(∀(d:Deed) u,bd d.d (ρ u)=xo (ρ (xo d.d)))->(∀(d:Deed) (ω ω':Om) (ans:D),cD [.obj h,d.d] ω=xo (.ok ans,ω')->G (ρ (xo d.d)) ω=xo (.nx (ρ (xo d.d)),ω'))->∀ u,∃ u',bO bd chk G (ds.map Deed.d) (ρ u) ω=xo (.nx (ρ u'),ω'))/\LawAt B ω' c h dd oo kk ks' rs' kn'/\HInv c own' (mI c ds S).2/\Rel c own' (mI c ds S).2 rs' kn'/\tot c own'<64/\Cn own' rs'
 |[],S,ω,ks,rs,kn,own,L,I,Q,ht,N=>⟨ω,ks,rs,kn,own,fun bd chk G ρ hc hb hg u=>⟨u,by
   show(if chk ω=true then _ else xp)=_
   rw[if_pos (hc ω L.bas.1 L.bas.2)]⟩,L,I,Q,by simpa using ht,N⟩
 |d::ds,S,ω,ks,rs,kn,own,L,I,Q,ht,N=>by
  rw[b4] at ht;obtain⟨ω1,ks1,rs1,kn1,own1,ans,e1,L1,I1,Q1,t1,N1⟩:=Pj L I Q c0 c8 (by omega) N d;obtain⟨ω2,ks2,rs2,kn2,own2,e2,L2,I2,Q2,t2⟩:=Cr c0 c8 ds L1 I1 Q1 (by omega) N1;refine⟨ω2,ks2,rs2,kn2,own2,fun bd chk G ρ hc hb hg u=> ?_,L2,I2,Q2,t2⟩;obtain⟨u',e3⟩:=e2 bd chk G ρ hc hb hg (xo d.d);refine⟨u',?_⟩;exact(bS (hc ω L.bas.1 L.bas.2) (hb d u) (hg d ω ω1 ans e1)).trans e3
section
variable {c:Nat}{own:Nat->Nat}{S:Nat->Hd}{rs:List Rec}{kn:Nat->Nat->List Int}{a b i t:Nat}
end
theorem zH {f h:OG D}{ρ:Rho}{ω ω1 ω2:Om}{a b:D}{xs ys:List D} (e1:f ρ ω=xo (.ok a,ω1)) (e2:h ρ ω1=xo (.ok b,ω2)) (h1:eJ ω2 a=xo xs) (h2:eJ ω2 b=xo ys) (hl:xs.length+ys.length<=1000):o2 qI f h ρ ω=xo (.ok (.lst (xs++ys)),ω2):=dY e1 e2 (by
 unfold qI;rw[h1,wm,h2,wm,if_pos (by rw[bt];omega)])
theorem xE (c:Nat):(fK c).length=(c-1)+(c-1):=by
 unfold fK iJ sE;simp
theorem BF {c:Nat} (c0:0<c) (c8:c<=8) (ω:Om):gP [.int c] ω=xo (.ok (.lst ((fK c).map Deed.d)),ω):=by
 refine aT rfl ?_;have e1:cV rZ (oIA gN (aC (o2 (lf gSub) (oP (DI 0)) (oP (dC (.int 1)))) aM)) [xp] (aS 0) (oPT jW) (oL (fun ω ds=>pu (nJ ds) ω) (aC (oP (dC (.str "meet"))) (aC (oP (DI 0)) (aC (o2 (lf nM) (oP (DI 0)) (oP (dC (.int 1)))) aM)))) [xo (.int c),xp] ω=xo (.ok (.lst ((iJ (c-1)).map Deed.d)),ω):=by
  refine fB (ds:=lG 0 (c-1)) (chk:=bK) (ω1:=ω) (iV (c:=c-1) (gD (aB (d:=.int c) rfl) aQ (show xo (D.int ((c:Int)-1))=_ from by rw[show(c:Int)-1=((c-1:Nat):Int) by omega])) (by omega)) (by unfold lG;rw[ak,gq,bt];omega) ?_;have e:(iJ (c-1)).map Deed.d=(lG 0 (c-1)).map fun d=>match d with|.int k=>D.tup [.str "meet",.int k,.int (k+1)]|_=>.non:=by
   unfold iJ lG;rw[fj,fj];refine eu fun k _=> ?_;show D.tup [.str "meet",.int k,.int (k+1)]=D.tup [.str "meet",.int (0+(k:Int)),.int (0+(k:Int)+1)];rw[Int.zero_add]
  rw[e];refine iE (fun ρ=>∃ u,ρ=[u]) rfl ⟨_,rfl⟩ fun d hd ρ hρ=> ?_;obtain⟨u,rfl⟩:=hρ;unfold lG at hd;obtain⟨k,_,rfl⟩:=az.mp hd;exact⟨_,rfl,⟨_,rfl⟩,rfl⟩
 have e2:cV rZ (oIA Ix (aC (o2 (lf gSub) (oP (DI 0)) (oP (dC (.int 2)))) (aC (oP (d1 LU (dC (.int 1)))) (aC (oP (d1 LU (dC (.int 1)))) aM)))) [xp] (aS 0) (oPT jW) (oL (fun ω ds=>pu (nJ ds) ω) (aC (oP (dC (.str "meet"))) (aC (o2 (lf nM) (oP (DI 0)) (oP (dC (.int 1)))) (aC (oP (DI 0)) aM)))) [xo (.int c),xo (.lst ((iJ (c-1)).map Deed.d))] ω=xo (.ok (.lst ((sE c (c-1)).map Deed.d)),ω):=by
  refine fB (ds:=rS ((c:Int)-2) (-1) (c-1)) (chk:=bK) (ω1:=ω) ?_ (by rw[pI,bt];omega) ?_
  ·unfold oIA;rw[bF (aA (a:=.int ((c:Int)-2)) (ω1:=ω) rfl (aA (a:=.int (-1)) (ω1:=ω) rfl (aA (a:=.int (-1)) (ω1:=ω) rfl aD)))];have hC:CD ((c:Int)-2) (-1)/\(-1:Int)= -1:=⟨⟨⟨by omega,by omega⟩,by decide,by decide⟩,rfl⟩;show oR (pu ((if CD ((c:Int)-2) (-1)/\(-1:Int)= -1 then xo (rS ((c:Int)-2) (-1) ((c:Int)-2- -1).toNat) else xp).map fun xs=>(xs,bK)) ω)=_;rw[if_pos hC,show((c:Int)-2- -1).toNat=c-1 by omega];rfl
  ·have e:(sE c (c-1)).map Deed.d=(rS ((c:Int)-2) (-1) (c-1)).map fun d=>match d with|.int k=>D.tup [.str "meet",.int (k+1),.int k]|_=>.non:=by
    unfold sE rS;rw[fj,fj];rfl
   rw[e];refine iE (fun ρ=>∃ u,ρ=[u]) rfl ⟨_,rfl⟩ fun d hd ρ hρ=> ?_;obtain⟨u,rfl⟩:=hρ;unfold rS at hd;obtain⟨k,_,rfl⟩:=az.mp hd;exact⟨_,rfl,⟨_,rfl⟩,rfl⟩
 refine(aI e1).trans ?_
 have:=xE c
 unfold fK at this ⊢;rw[b9];exact bE (zH (aB (d:=.lst ((iJ (c-1)).map Deed.d)) rfl) e2 rfl rfl (by rw[ak,ak,<- bx,this];omega))
def Deed.talk:Deed->Prop
 |.tell _ _=>True
 |.meet _ _=>True
 |_=>False
theorem Hg (I:HInv c own S) (Q:Rel c own S rs kn) (c0:0<c) (c8:c<=8) (ht:tot c own<64) {d:Deed} (hd:d.talk):∃ kn',HInv c own (step c S d).2/\Rel c own (step c S d).2 rs kn':=by
 have no:∀ {x:D},∃ kn',HInv c own ((x,S):D×(Nat->Hd)).2/\Rel c own ((x,S):D×(Nat->Hd)).2 rs kn':=⟨kn,I,Q⟩;cases d with
 |put a x v=>exact hd.elim
 |change a x v=>exact hd.elim
 |take a x=>exact hd.elim
 |tell a b=>
  by_cases hv:(0<=a/\a<(c:Int))/\(0<=b/\b<(c:Int))
  ·obtain⟨n,rfl⟩:=Int.eq_ofNat_of_zero_le hv.1.1;obtain⟨m,rfl⟩:=Int.eq_ofNat_of_zero_le hv.2.1
   by_cases hnm:(n:Int)=m
   ·rw[show step c S (.tell n m)=(.str "same hand",S) from(if_pos hv).trans (if_pos hnm)];exact no
   ·rw[show step c S (.tell n m)=(.int (rR S n m),iT S n m) from(if_pos hv).trans (if_neg hnm)];exact⟨_,eY I c0 c8 (by omega) (by omega) (by omega),Q.hear I c0 c8 (by omega) (by omega) (by omega) (by omega)⟩
  ·rw[show step c S (.tell a b)=(.str "no hand",S) from if_neg hv];exact no
 |meet a b=>
  by_cases hv:(0<=a/\a<(c:Int))/\(0<=b/\b<(c:Int))
  ·obtain⟨n,rfl⟩:=Int.eq_ofNat_of_zero_le hv.1.1;obtain⟨m,rfl⟩:=Int.eq_ofNat_of_zero_le hv.2.1
   by_cases hnm:(n:Int)=m
   ·rw[show step c S (.meet n m)=(.str "same hand",S) from(if_pos hv).trans (if_pos hnm)];exact no
   ·rw[oZ (by omega) (by omega) (by omega)];obtain⟨kn',I',Q',_⟩:=uU I Q c0 c8 (by omega) (a:=n) (b:=m) (by omega) (by omega) (by omega);exact⟨_,I',Q'⟩
  ·rw[show step c S (.meet a b)=(.str "no hand",S) from if_neg hv];exact no
theorem uO (c0:0<c) (c8:c<=8) (ht:tot c own<64):∀(ds:List Deed) {S:Nat->Hd}{kn:Nat->Nat->List Int},HInv c own S->Rel c own S rs kn->(∀ d∈ds,d.talk)->∃ kn',HInv c own (mI c ds S).2/\Rel c own (mI c ds S).2 rs kn'
 |[],S,kn,I,Q,_=>⟨kn,I,Q⟩
 |d::ds,S,kn,I,Q,h=>by
  obtain⟨kn1,I1,Q1⟩:=Hg I Q c0 c8 ht (h d ar);exact uO c0 c8 ht ds I1 Q1 fun d' hd=>h d' (ai _ hd)
theorem vU (c:Nat) (p q:List Deed):dR c (p++q)=(mI c q (dR c p)).2:=by
 unfold dR;rw[lF]
theorem HZ {c n:Nat} (c2:2<=c) (hx:xs.length<=1000) (hs:s<xs.length) (hp:pre.length<=1000) {ω:Om}{v4 v5 v6:Option D} (ht:ω[n]?=xo (.ml (pre.map Deed.d))):∃(d:Deed) (w4 w5 w6:Option D),d.talk/\dD [xo (.lst (iv xs)),xo (.int c),xo (.obj n),xo (.int (s:Nat)),v4,v5,v6] ω=xo (.nx [xo (.lst (iv xs)),xo (.int c),xo (.obj n),xo (.int s),w4,w5,w6],ω.set n (.ml ((pre++[d]).map Deed.d))):=by
 have cpos:(0:Int)<c:=by omega
 have cpos1:(0:Int)<c-1:=by omega
 obtain⟨cell,hcell⟩:∃ w,w=xs.getD (s:Int).toNat 0+11*s:=⟨_,rfl⟩;obtain⟨one,hone⟩:∃ w,w=cell*48271 % 1087 % c:=⟨_,rfl⟩;obtain⟨oth,hoth⟩:∃ w,w=(one+1+cell*48271 % 1091 % (c-1)) % c:=⟨_,rfl⟩;have r2:=CZ (x:=cell*48271 % 1093) (q:=2) (by decide);obtain⟨k,hk⟩:∃ w,w=cell*48271 % 1093 % 2:=⟨_,rfl⟩;obtain⟨d,hd,ed⟩:∃ d:Deed,d.talk/\∀(ω:Om),oI ω (.lst [.str "tell",.str "meet"]) (.int k)=xo (match d.d with|.tup (x::_)=>x|_=>.non)/\d.d=.tup [(match d.d with|.tup (x::_)=>x|_=>.non),.int one,.int oth]:=by
  rw[<- hk] at r2
  have:k=0∨k=1:=by omega
  rcases this with rfl|rfl
  ·exact⟨.tell one oth,trivial,fun ω=>⟨rfl,rfl⟩⟩
  ·exact⟨.meet one oth,trivial,fun ω=>⟨rfl,rfl⟩⟩
 refine⟨d,xo (.int cell),xo (.int one),xo (.int oth),hd,?_⟩;unfold dD;refine(aI (d:=.int cell) (ω1:=ω) (by rw[hcell];exact kI (Dh (xs:=xs) (a:=s) (aB rfl) (aB rfl) (by omega) (by omega)) (Cp (b:=s) aQ (aB rfl) ⟨by omega,by omega⟩))).trans ?_;refine(aI (d:=.int one) (ω1:=ω) (by rw[hone];exact lZ (a:=cell) (aB rfl) (aB rfl) (by decide) cpos)).trans ?_;refine(aI (d:=.int oth) (ω1:=ω) (by rw[hoth];exact tX (b:=c) (kI (kI (a:=one) (aB rfl) aQ) (lZ (a:=cell) (aB rfl) (yV (a:=c) (aB rfl) aQ) (by decide) cpos1)) (aB rfl) cpos)).trans ?_;unfold bQ;rw[bP (jQ (r:=.non) (ω3:=ω.set n (.ml ((pre++[d]).map Deed.d))) (aB (d:=.obj n) rfl) ht (aA (a:=d.d) (ω1:=ω) (by
  rw[(ed ω).2];exact cI (aA (aK (a:=.lst [.str "tell",.str "meet"]) (b:=.int k) rfl (by rw[hk];exact lZ (a:=cell) (aB rfl) aQ (by decide) (by decide)) (ed ω).1) (aA (aB (d:=.int one) rfl) (aA (aB (d:=.int oth) rfl) aD))) rfl) aD) (by
  simp only[jZ,ht];rw[if_pos (by rw[ak,bt];omega),b9];rfl))]
 rfl
theorem yE {c n:Nat} (c2:2<=c) (hx:xs.length<=1000):∀(m s:Nat) (pre:List Deed) (v v4 v5 v6:Option D) (ω:Om),ω[n]?=xo (.ml (pre.map Deed.d))->s+m=xs.length->pre.length=s->∃ v' w4 w5 w6 post,post.length=m/\(∀ d∈post,d.talk)/\bO (aS 3) bK dD (lG s m) [xo (.lst (iv xs)),xo (.int c),xo (.obj n),v,v4,v5,v6] ω=xo (.nx [xo (.lst (iv xs)),xo (.int c),xo (.obj n),v',w4,w5,w6],ω.set n (.ml ((pre++post).map Deed.d)))
 |0,s,pre,v,v4,v5,v6,ω,ht,_,_=>⟨v,v4,v5,v6,[],rfl,fun d hd=>(nomatch hd),by
   rw[cu,gA ht];rfl⟩
 |m+1,s,pre,v,v4,v5,v6,ω,ht,hs,hp=>by
  obtain⟨d,x4,x5,x6,hd,b1⟩:=HZ (v4:=v4) (v5:=v5) (v6:=v6) c2 hx (s:=s) (by omega) (by omega) ht;obtain⟨v',w4,w5,w6,post,hl,hp',e2⟩:=yE c2 hx m (s+1) (pre++[d]) (xo (.int s)) x4 x5 x6 (ω.set n (.ml ((pre++[d]).map Deed.d))) (bU ht) (by omega) (by simp[hp]);refine⟨v',w4,w5,w6,d::post,by simp[hl],fun d' h=> ?_,?_⟩
  ·rcases aj.mp h with rfl|h
   ·exact hd
   ·exact hp' d' h
  rw[eW];refine(bS rfl rfl (b1)).trans ?_;rw[m7,fy] at e2;exact e2
theorem At {c:Nat} (c2:2<=c) (hx:xs.length<=1000) (ω:Om):∃ ds:List Deed,ds.length=xs.length/\(∀ d∈ds,d.talk)/\gF [.lst (iv xs),.int c] ω=xo (.ok (.obj ω.length),ω++[.ml (ds.map Deed.d)]):=by
 have h0:(ω++[Ob.ml []])[ω.length]?=xo (.ml (([]:List Deed).map Deed.d)):=by simp
 obtain⟨v',w4,w5,w6,post,hl,hp,e⟩:=yE c2 hx xs.length 0 [] xp xp xp xp (ω++[Ob.ml []]) h0 (by omega) rfl;refine⟨post,hl,hp,aT rfl ?_⟩;unfold kF;rw[aI (d:=.obj ω.length) (ω1:=ω++[.ml []]) rfl];rw[aZ (dF (by
  unfold bB;rw[bP (iV (c:=xs.length) (by
   have:=mR (f:=zV 0) (ρ:=(cB kK [.lst (iv xs),.int c]).set 2 (xo (.obj ω.length))) (ω:=ω++[.ml []]) (d:=.lst (iv xs)) (ds:=iv xs) (aB rfl) (.inl rfl)
   rw[show(iv xs).length=xs.length from by unfold iv;simp] at this;exact this) hx)]
  exact e))]
 refine(bE (aB (d:=.obj ω.length) rfl)).trans ?_;simp
theorem GC {n:Nat}:∀ {xs ys:List Int},xs.length=ys.length->kJ (eqD n) (iv xs) (iv ys)=xo (decide (xs=ys))
 |[],[],_=>rfl
 |x::xs,y::ys,h=>by
  have ih:=GC (n:=n) (xs:=xs) (ys:=ys) (by simpa using h)
  show(eqD n (.int x) (.int y)).bind (fun b=>(kJ (eqD n) (iv xs) (iv ys)).map fun c=>b&&c)=_
  rw[ih,show eqD n (.int x) (.int y)=xo (x==y) by cases n <;> rfl];show xo ((x==y)&&decide (xs=ys))=_
  congr 1
  rw[Bool.eq_iff_iff];simp
theorem Pi {n:Nat}{xs ys:List Int} (h:xs.length=ys.length):eqD (n+1) (.lst (iv xs)) (.lst (iv ys))=xo (decide (xs=ys)):=by
 show(if(iv xs).length=(iv ys).length then kJ (eqD n) (iv xs) (iv ys) else xo false)=_
 unfold iv;rw[ak,ak,if_pos h];exact GC h
noncomputable abbrev fX (c:Nat) (S:Nat->Hd):D:=.tup [GN c S,MX c S,Qm c S,Ql c S]
noncomputable abbrev wR (sc:D) (c:Nat) (oa ob Lf Rt:D) (v8 v9 v10 v11 v12 v13 v14 v15 v16 v17 v18:Option D):Rho:=[xo sc,xo (.int c),xo (.obj 0),xo (.obj 1),xo oa,xo ob,xo Lf,xo Rt,v8,v9,v10,v11,v12,v13,v14,v15,v16,v17,v18]
theorem Ep (I1:HInv c own S1) (Q1:Rel c own S1 rs kn1) (I2:HInv c own S2) (Q2:Rel c own S2 rs kn2) (c0:0<c) (c8:c<=8) (ht:tot c own<64) (hk:k<c) (hj:j<c) (e:(S1 k).seen k=(S2 j).seen j):(S1 k).ents=(S2 j).ents:=by
 have h1:=jD ((I1 k hk).1.ok c0 c8 ht) Q1.recs ht (Q1.tab k hk);have h2:=jD ((I2 j hj).1.ok c0 c8 ht) Q2.recs ht (Q2.tab j hj);rw[<- Q1.seen hk,e,Q2.seen hj,h2] at h1;exact(b3 h1).symm
theorem xL {ρ:Rho}{ω:Om}{i1 i2:Nat} (I1:HInv c own S1) (Q1:Rel c own S1 rs kn1) (I2:HInv c own S2) (Q2:Rel c own S2 rs kn2) (c0:0<c) (c8:c<=8) (ht:tot c own<64) (hk:k<c) (hj:j<c)
  (e1:ρ[i1]?=xo (xo (fX c S1))) (e2:ρ[i2]?=xo (xo (fX c S2))) (e9:ρ[9]?=xo (xo (.int (k:Nat)))) (e10:ρ[10]?=xo (xo (.int (j:Nat)))):
  yA (cA (o2 (iM 8) (zX (zX (zV i1) (zI 1)) (zV 9)) (zX (zX (zV i2) (zI 1)) (zV 10)))) (cA (o2 (Cm 8) (zX (zX (zV i1) (zI 0)) (zV 9)) (zX (zX (zV i2) (zI 0)) (zV 10)))) ρ ω=xo (.ok false,ω):=by
 have xT:∀ {S:Nat->Hd}{s:Nat} (ω:Om),s<c->oI ω (GN c S) (.int s)=xo (.lst (S s).ents):=fun {S s} ω hs=>by
  show atI _ (s:Int)=_;exact uI (by rw[ay,di hs];rfl)
 have xS:∀ {S:Nat->Hd}{s:Nat} (ω:Om),s<c->oI ω (MX c S) (.int s)=xo (.lst (iv ((S s).seen s))):=fun {S s} ω hs=>by
  show atI _ (s:Int)=_;exact uI (by rw[ay,di hs];rfl)
 have l1:=(I1 k hk).1.seenLen hk;have l2:=(I2 j hj).1.seenLen hj;have t1:cA (o2 (iM 8) (zX (zX (zV i1) (zI 1)) (zV 9)) (zX (zX (zV i2) (zI 1)) (zV 10))) ρ ω=xo (.ok (decide ((S1 k).seen k=(S2 j).seen j)),ω):=cC (dY (aK (aK (aB e1) aQ rfl) (aB e9) (xS ω hk)) (aK (aK (aB e2) aQ rfl) (aB e10) (xS ω hj)) (by
  show pu ((eqD 8 (.lst (iv ((S1 k).seen k))) (.lst (iv ((S2 j).seen j)))).map D.bl) ω=_;rw[Pi (l1.trans l2.symm)];rfl))
 unfold yA;rw[bF t1]
 by_cases h:(S1 k).seen k=(S2 j).seen j
 ·rw[decide_eq_true h];have O:=(I2 j hj).1.ok c0 c8 ht;have he:=Ep I1 Q1 I2 Q2 c0 c8 ht hk hj h;exact cC (dY (aK (aK (aB e1) aQ rfl) (aB e9) (xT ω hk)) (aK (aK (aB e2) aQ rfl) (aB e10) (xT ω hj)) (by
   show pu ((eqD 8 (.lst (S1 k).ents) (.lst (S2 j).ents)).map fun k=>D.bl (!k)) _=_;rw[he,mB ((Pl.lst (n:=2) (g9 (b7 O.entsLen (by decide))) fun d hd=>Pl.ent (O.entsEnt d hd)).mono (by decide))];rfl))
 ·rw[decide_eq_false h];rfl
section
variable (I1:HInv c own S1) (Q1:Rel c own S1 rs kn1) (I2:HInv c own S2) (Q2:Rel c own S2 rs kn2) (c0:0<c) (c8:c<=8) (ht:tot c own<64)
include I1 Q1 I2 Q2 c0 c8 ht
theorem JJ (hk:k<c):∀(r s:Nat) {ω:Om}{v10:Option D},s+r=c->∃ v10',bO (aS 10) bK oF (lG s r) (wR sc c oa ob (fX c S1) (fX c S2) v8 (xo (.int (k:Nat))) v10 v11 v12 v13 v14 v15 v16 v17 v18) ω=xo (.nx (wR sc c oa ob (fX c S1) (fX c S2) v8 (xo (.int k)) v10' v11 v12 v13 v14 v15 v16 v17 v18),ω)
 |0,s,ω,v10,_=>⟨v10,rfl⟩
 |r+1,s,ω,v10,hs=>by
  have hj:s<c:=by omega
  obtain⟨v',e2⟩:=JJ hk r (s+1) (ω:=ω) (v10:=xo (.int s)) (by omega);refine⟨v',?_⟩;have b:oF (wR sc c oa ob (fX c S1) (fX c S2) v8 (xo (.int (k:Nat))) (xo (.int s)) v11 v12 v13 v14 v15 v16 v17 v18) ω=xo (.nx (wR sc c oa ob (fX c S1) (fX c S2) v8 (xo (.int (k:Nat))) (xo (.int s)) v11 v12 v13 v14 v15 v16 v17 v18),ω):=by
   unfold oF;refine(skip (xL I1 Q1 I2 Q2 c0 c8 ht hk hj rfl rfl rfl rfl)).trans ?_;rw[kO (xL I1 Q1 I1 Q1 c0 c8 ht hk hj rfl rfl rfl rfl)];rfl
  rw[eW];exact(bS rfl rfl b).trans e2
theorem JI:∀(r s:Nat) {ω:Om}{v9 v10:Option D},s+r=c->∃ v9' v10',bO (aS 9) bK oE (lG s r) (wR sc c oa ob (fX c S1) (fX c S2) v8 v9 v10 v11 v12 v13 v14 v15 v16 v17 v18) ω=xo (.nx (wR sc c oa ob (fX c S1) (fX c S2) v8 v9' v10' v11 v12 v13 v14 v15 v16 v17 v18),ω)
 |0,s,ω,v9,v10,_=>⟨v9,v10,rfl⟩
 |r+1,s,ω,v9,v10,hs=>by
  have hk:s<c:=by omega
  obtain⟨w,e1⟩:=JJ (sc:=sc) (oa:=oa) (ob:=ob) (v8:=v8) (v11:=v11) (v12:=v12) (v13:=v13) (v14:=v14) (v15:=v15) (v16:=v16) (v17:=v17) (v18:=v18) I1 Q1 I2 Q2 c0 c8 ht hk c 0 (ω:=ω) (v10:=v10) (by omega);obtain⟨v',w',e2⟩:=JI r (s+1) (ω:=ω) (v9:=xo (.int s)) (v10:=w) (by omega);refine⟨v',w',?_⟩;have b:oE (wR sc c oa ob (fX c S1) (fX c S2) v8 (xo (.int s)) v10 v11 v12 v13 v14 v15 v16 v17 v18) ω=xo (.nx (wR sc c oa ob (fX c S1) (fX c S2) v8 (xo (.int (s:Nat))) w v11 v12 v13 v14 v15 v16 v17 v18),ω):=by
   unfold oE;refine dF ?_;unfold bB;rw[bP (iV (c:=c) (aB rfl) (by omega))];exact e1
  rw[eW];exact(bS rfl rfl b).trans e2
end
noncomputable def mT (c:Nat) (rs:List Rec):List Int:=(bp c).map fun t=>((rs.countP (fun r=>r.a==t):Nat):Int)
theorem Ji {r:Rec} (pre:List Rec) (h:r.a<c):(mT c pre).set r.a ((mT c pre).getD r.a 0+1)=mT c (pre++[r]):=by
 unfold mT;rw[gL h,pJ];apply eu;intro t _;unfold upF;rw[vp,ui]
 by_cases e:t=r.a
 ·subst e;rw[if_pos rfl,if_pos (by simp)];omega
 ·rw[if_neg e,if_neg (by simp;exact fun z=>e z.symm)];dsimp only;omega
theorem xK (L:LawAt B ω c h dd oo kk ks rs kn):∀(post pre:List Rec) {v14:Option D},(∀ r∈post,r.a<c)->∃ w,bO (aS 14) (iO oo (rs.map Rec.mark)) oG (post.map Rec.mark) (wR sc c oa ob Lf Rt v8 v9 v10 v11 v12 (xo (.obj ω.length)) v14 v15 v16 v17 v18) (ω++[.ml (iv (mT c pre))])=xo (.nx (wR sc c oa ob Lf Rt v8 v9 v10 v11 v12 (xo (.obj ω.length)) w v15 v16 v17 v18),ω++[.ml (iv (mT c (pre++post)))])
 |[],pre,v14,_=>⟨v14,by
   show(if iO oo (rs.map Rec.mark) _=true then _ else xp)=_
   rw[if_pos (kR (by rw[am (dH L.order)];exact L.order)),cu]⟩
 |r::post,pre,v14,hr=>by
  have ha:=hr r ar;obtain⟨w,e2⟩:=xK L post (pre++[r]) (v14:=xo r.mark) fun r' h'=>hr r' (ai _ h');refine⟨w,?_⟩;have g:(ω++[Ob.ml (iv (mT c pre))])[ω.length]?=xo (.ml (iv (mT c pre))):=by simp
  have lc:(mT c pre).length=c:=by unfold mT;simp
  have b:oG (wR sc c oa ob Lf Rt v8 v9 v10 v11 v12 (xo (.obj ω.length)) (xo r.mark) v15 v16 v17 v18) (ω++[.ml (iv (mT c pre))])=xo (.nx (wR sc c oa ob Lf Rt v8 v9 v10 v11 v12 (xo (.obj ω.length)) (xo r.mark) v15 v16 v17 v18),ω++[.ml (iv (mT c (pre++[r])))]):=by
   have rv:RowV (ω++[Ob.ml (iv (mT c pre))]) (.obj ω.length) (mT c pre):=by unfold RowV eJ;simp only[g]
   have xa:zX (zV 14) (zI 0) (wR sc c oa ob Lf Rt v8 v9 v10 v11 v12 (xo (.obj ω.length)) (xo r.mark) v15 v16 v17 v18) (ω++[.ml (iv (mT c pre))])=xo (.ok (.int (r.a:Int)),ω++[.ml (iv (mT c pre))]):=aK (aB (d:=r.mark) rfl) aQ rfl;unfold oG;refine eI (v:=.int ((mT c pre).getD r.a 0+1)) (kI (aK (aB (d:=.obj ω.length) rfl) xa (by rw[rv.ix (by omega) (by omega)];rfl)) aQ) (aB (d:=.obj ω.length) rfl) xa ?_;rw[kL g (by unfold iv;rw[ak,lc];exact ha)];rw[<- Ji pre ha];unfold iv;simp[rm]
  refine(bS (kR (by rw[am (dH L.order)];exact L.order)) rfl b).trans ?_;rw[e2,fy];rfl
theorem JH {out:List D} (hP:Pl 8 (.lst out)):∀(ts:List D) {ω:Om}{v18:Option D},(∀ t∈ts,t=.lst out)->∃ w,bO (aS 18) bK oH ts (wR sc c oa ob Lf Rt v8 v9 v10 v11 v12 v13 v14 (xo (.lst out)) v16 v17 v18) ω=xo (.nx (wR sc c oa ob Lf Rt v8 v9 v10 v11 v12 v13 v14 (xo (.lst out)) v16 v17 w),ω)
 |[],ω,v18,_=>⟨v18,rfl⟩
 |t::ts,ω,v18,h=>by
  obtain rfl:=h t ar;obtain⟨w,e⟩:=JH hP ts (ω:=ω) (v18:=xo (.lst out)) fun t' h'=>h t' (ai _ h');refine⟨w,?_⟩;have b:oH (wR sc c oa ob Lf Rt v8 v9 v10 v11 v12 v13 v14 (xo (.lst out)) v16 v17 (xo (.lst out))) ω=xo (.nx (wR sc c oa ob Lf Rt v8 v9 v10 v11 v12 v13 v14 (xo (.lst out)) v16 v17 (xo (.lst out))),ω):=by
   unfold oH;rw[kO (ω1:=ω) (cC (dY (aB (d:=.lst out) rfl) (aB (d:=.lst out) rfl) (by
    show pu ((eqD 8 (.lst out) (.lst out)).map fun k=>D.bl (!k)) _=_;rw[mB hP];rfl)))]
   rfl
  exact(bS rfl rfl b).trans e
theorem Ei {S:Nat->Hd} (c0:0<c) (c8:c<=8) (I:HInv c own S) (ht:tot c own<64) (ω:Om):cO [GN c S,.int c] ω=xo (.ok (.bl true),ω):=by
 have:=Px (ts:=(bp c).map fun i=>(S i).ents) (c:=c) (fun t h d hd=>by
  obtain⟨i,hi,rfl⟩:=az.mp h;exact((I i (hX.mp hi)).1.ok c0 c8 ht).entsEnt d hd) (by simp) ω
 rw[fj] at this;exact this
theorem GY {S:Nat->Hd} (I:HInv c own S) (ω:Om):eP [MX c S,.int c] ω=xo (.ok (.bl true),ω):=by
 have:=Kc (ts:=(bp c).map fun i=>(S i).seen i) (c:=c) (fun t ht=>by
  obtain⟨i,hi,rfl⟩:=az.mp ht;exact(I i (hX.mp hi)).1.seenLen (hX.mp hi)) (by simp) ω
 rw[fj] at this;exact this
theorem Ek {out:List D}{d:List Deed} (hP:Pl 8 (.lst out)) (c0:0<c) (c8:c<=8) (I:HInv c own (dR c d)) (ht:tot c own<64) (he:∀ i,i<c->(dR c d i).ents=out) (hl:d.length<64) (ω:Om) (v17 v18:Option D):∃ ω' w17 w18,vM (wR sc c oa ob Lf Rt v8 v9 v10 v11 v12 v13 v14 (xo (.lst out)) (xo (.lst (d.map Deed.d))) v17 v18) ω=xo (.nx (wR sc c oa ob Lf Rt v8 v9 v10 v11 v12 v13 v14 (xo (.lst out)) (xo (.lst (d.map Deed.d))) w17 w18),ω'):=by
 obtain⟨ω',ea,_⟩:=jI c0 c8 (ds:=d) hl (ω:=ω) (d:=.lst (d.map Deed.d)) rfl;obtain⟨w,e⟩:=JH (sc:=sc) (c:=c) (oa:=oa) (ob:=ob) (Lf:=Lf) (Rt:=Rt) (v8:=v8) (v9:=v9) (v10:=v10) (v11:=v11) (v12:=v12) (v13:=v13) (v14:=v14) (v16:=xo (.lst (d.map Deed.d))) (v17:=xo (GN c (dR c d))) (v18:=v18) (ω:=ω') hP ((bp c).map fun i=>.lst (dR c d i).ents) fun t h=>by
  obtain⟨i,hi,rfl⟩:=az.mp h;rw[he i (hX.mp hi)]
 refine⟨ω',xo (GN c (dR c d)),w,?_⟩;unfold vM;refine(aI (d:=GN c (dR c d)) (ω1:=ω') (aK (aR (aA (aB (d:=.int c) rfl) (aA (aB (d:=.lst (d.map Deed.d)) rfl) aD)) ea) aQ rfl)).trans ?_;refine(skip (kD (k:=true) (tru_ok (aR (aA (aB (d:=GN c (dR c d)) rfl) (aA (aB (d:=.int c) rfl) aD)) (Ei c0 c8 I ht ω'))))).trans ?_;refine dF ?_;unfold bB oIL;rw[bP (x:=((bp c).map fun i=>.lst (dR c d i).ents,bK)) (ω1:=ω') (by rw[bF (aB (d:=GN c (dR c d)) rfl)];rfl)];exact e
theorem Pu {S T U:Nat->Hd} (c0:0<c) (c8:c<=8) (I:HInv c own S) (ht:tot c own<64) (ω:Om):vK (wR sc c oa ob Lf Rt (xo (fX c S)) v9 v10 v11 v12 v13 v14 v15 v16 v17 v18) ω=xo (.nx (wR sc c oa ob Lf Rt (xo (fX c S)) v9 v10 v11 v12 v13 v14 v15 v16 v17 v18),ω):=by
 unfold vK;rw[kO (CU (kD (k:=true) (tru_ok (aR (aA (aK (aB (d:=fX c S) rfl) aQ rfl) (aA (aB (d:=.int c) rfl) aD)) (Ei c0 c8 I ht ω)))) (kD (k:=true) (tru_ok (aR (aA (aK (aB (d:=fX c S) rfl) aQ rfl) (aA (aB (d:=.int c) rfl) aD)) (GY I ω)))))];rfl
theorem xH {ns:List Int}{i j:Nat}{f:OG D}{l u:DO}{ρ:Rho}{ω:Om} (e:f ρ ω=xo (.ok (.scr (ns.map D.int)),ω)) (hl:l ρ=xo (xo (i:Int))) (hu:u ρ=xo (xo (j:Int))):∃ xs:List Int,oSl f l u ρ ω=xo (.ok (.lst (iv xs)),ω)/\xs.length<=j-i:=by
 have h1:DJ (ns.map D.int) (xo (i:Int)) (xo (j:Int))=iv ((ns.drop (min i ns.length)).take (min j ns.length-min i ns.length)):=by
  unfold DJ;rw[HT.sIx_nat,HT.sIx_nat,ak];unfold iv;rw[List.map_take,List.map_drop]
 refine⟨(ns.drop (min i ns.length)).take (min j ns.length-min i ns.length),?_,?_⟩
 ·unfold oSl;rw[bF e]
  show(l ρ).bind _=_
  rw[hl]
  show(u ρ).bind _=_
  rw[hu];show oR (pu (xo (D.lst (DJ (ns.map D.int) (xo (i:Int)) (xo (j:Int))))) ω)=_;rw[h1];rfl
 ·rw[ou];omega
theorem law_true (ns:List Int) (hns:ns.length<=63):∃ ω',p_law [.scr (ns.map D.int)] []=xo (.ok (.bl true),ω'):=by
 obtain⟨x0,e0⟩:=Pv ns 0 [];have r8:=CZ (x:=x0*48271 % 1069) (q:=8) (by decide);obtain⟨c,hc,c2,c8⟩:∃ c:Nat,([2,3,4,5,2,3,4,8]:List Int).getD (x0*48271 % 1069 % 8).toNat 0=(c:Int)/\2<=c/\c<=8:=by
  generalize x0*48271 % 1069 % 8=r at r8
  have hr:r=0∨r=1∨r=2∨r=3∨r=4∨r=5∨r=6∨r=7:=by omega
  rcases hr with rfl|rfl|rfl|rfl|rfl|rfl|rfl|rfl
  ·exact⟨2,rfl,by decide,by decide⟩
  ·exact⟨3,rfl,by decide,by decide⟩
  ·exact⟨4,rfl,by decide,by decide⟩
  ·exact⟨5,rfl,by decide,by decide⟩
  ·exact⟨2,rfl,by decide,by decide⟩
  ·exact⟨3,rfl,by decide,by decide⟩
  ·exact⟨4,rfl,by decide,by decide⟩
  ·exact⟨8,rfl,by decide,by decide⟩
 have c0:0<c:=by omega
 obtain⟨xs,es,hxs⟩:=xH (f:=zV 0) (ρ:=[xo (.scr (ns.map D.int)),xo (.int c),xp,xp,xp,xp,xp,xp,xp,xp,xp,xp,xp,xp,xp,xp,xp,xp,xp]) (ω:=[]) (ns:=ns) (i:=1) (j:=19) (l:=dSo (dC (.int 1))) (u:=dSo (dC (.int 19))) (aB rfl) rfl rfl;obtain⟨ds,hds,ed⟩:=IX (xs:=xs) (show 1<=c by omega) c8 (by omega) [];obtain⟨ω1,hω1⟩:∃ ω1:Om,ω1=[]++[Ob.ml (ds.map Deed.d)]:=⟨_,rfl⟩;rw[<- hω1] at ed;obtain⟨ys,es2,hys⟩:=xH (f:=zV 0) (ρ:=[xo (.scr (ns.map D.int)),xo (.int c),xo (.obj 0),xp,xp,xp,xp,xp,xp,xp,xp,xp,xp,xp,xp,xp,xp,xp,xp]) (ω:=ω1) (ns:=ns) (i:=19) (j:=29) (l:=dSo (dC (.int 19))) (u:=dSo (dC (.int 29))) (aB rfl) rfl rfl;obtain⟨ms,hms,tk,em⟩:=At (xs:=ys) c2 (by omega) ω1;obtain⟨ω2,hω2⟩:∃ ω2:Om,ω2=ω1++[Ob.ml (ms.map Deed.d)]:=⟨_,rfl⟩;rw[<- hω2,show ω1.length=1 by rw[hω1];rfl] at em;have g0:ω2[0]?=xo (.ml (ds.map Deed.d)):=by rw[hω2,hω1];rfl
 have g1:ω2[1]?=xo (.ml (ms.map Deed.d)):=by rw[hω2,hω1];rfl
 obtain⟨d1,hd1⟩:∃ d1,d1=ds++ms:=⟨_,rfl⟩;obtain⟨d2,hd2⟩:∃ d2,d2=ds++ms.reverse:=⟨_,rfl⟩;have l1:d1.length<=28:=by rw[hd1,bx];omega
 have l2:d2.length<=28:=by rw[hd2,bx,pj];omega
 obtain⟨ω3,ea,K3,_⟩:=jI c0 c8 (ds:=d1) (by omega) (ω:=ω2) (d:=.lst (d1.map Deed.d)) rfl;obtain⟨ω4,eb,K4,_⟩:=jI c0 c8 (ds:=d2) (by omega) (ω:=ω3) (d:=.lst (d2.map Deed.d)) rfl;have g3:ω3[0]?=xo (.ml (ds.map Deed.d)):=by rw[K3.2 0 (dH g0) (by simp)];exact g0
 have g4:ω4[0]?=xo (.ml (ds.map Deed.d)):=by rw[K4.2 0 (dH g3) (by simp)];exact g3
 obtain⟨ω5,h,dd,oo,kk,ks,en,L5⟩:=Df c0 c8 ω4;obtain⟨ω6,ks6,rs,kn,own,e6,L6,I6,Q6,t6,N6⟩:=Cr c0 c8 ds L5 (PD c) (Sy c) (by rw[PU];omega) fun t=>rfl;have I0:HInv c own (dR c ds):=I6;have Q0:Rel c own (dR c ds) rs kn:=Q6;obtain⟨kn1,I1,Q1⟩:=uO c0 c8 t6 ms I0 Q0 tk;obtain⟨kn2,I2,Q2⟩:=uO c0 c8 t6 ms.reverse I0 Q0 fun d hd=>tk d (List.mem_reverse.mp hd);rw[<- vU,<- hd1] at I1 Q1;rw[<- vU,<- hd2] at I2 Q2;obtain⟨kn3,I3,Q3,f3⟩:=xF I1 Q1 c0 c8 t6;obtain⟨kn4,I4,Q4,f4⟩:=xF I2 Q2 c0 c8 t6;rw[<- vU] at I3 Q3 I4 Q4;have sl:=xE c;have rl:=nY Q0.recs;obtain⟨out,hs,_⟩:=sZ Q0.recs t6 (vR c own);have o3:∀ i,i<c->(dR c (d1++fK c) i).ents=out:=fun i hi=>by
  have:=jD ((I3 i hi).1.ok c0 c8 t6) Q3.recs t6 (Q3.tab i hi)
  rw[f3 i hi,hs] at this;exact(b3 this).symm
 have o4:∀ i,i<c->(dR c (d2++fK c) i).ents=out:=fun i hi=>by
  have:=jD ((I4 i hi).1.ok c0 c8 t6) Q4.recs t6 (Q4.tab i hi)
  rw[f4 i hi,hs] at this;exact(b3 this).symm
 have O:=(I3 0 c0).1.ok c0 c8 t6;have hP:Pl 8 (.lst out):=by
  rw[<- o3 0 c0];exact(Pl.lst (n:=2) (g9 (b7 O.entsLen (by decide))) fun d hd=>Pl.ent (O.entsEnt d hd)).mono (by decide)
 have cn:mT c rs=vR c own:=by
  unfold mT vR;apply eu;intro t _;rw[N6 t]
 have cn0:iv (av c 0)=iv (mT c []):=by
  unfold mT
  congr 1
  apply iq;intro j;rw[fe,ay]
  by_cases hj:j<c
  ·rw[if_pos hj,di hj];rfl
  ·rw[if_neg hj,cq (by simp;omega)];rfl
 obtain⟨w9,w10,e9⟩:=JI (sc:=.scr (ns.map D.int)) (oa:=.lst (d1.map Deed.d)) (ob:=.lst (d2.map Deed.d)) (v8:=xo (fX c (dR c d2))) (v11:=xp) (v12:=xp) (v13:=xp) (v14:=xp) (v15:=xp) (v16:=xp) (v17:=xp) (v18:=xp) I1 Q1 I2 Q2 c0 c8 t6 c 0 (ω:=ω4) (v9:=xp) (v10:=xp) (by omega);obtain⟨u12,e6'⟩:=e6 (aS 12) (iO 0 (ds.map Deed.d)) vL (fun u=>wR (.scr (ns.map D.int)) c (.lst (d1.map Deed.d)) (.lst (d2.map Deed.d)) (fX c (dR c d1)) (fX c (dR c d2)) (xo (fX c (dR c d2))) w9 w10 (xo (.obj h)) u xp xp xp xp xp xp) (fun ω hb hk=>kR (by rw[hk 0 (dH g4)];exact g4)) (fun d u=>rfl) (fun d ω ω' ans e=>by
  unfold vL bQ;rw[bP (aR (aA (aB (d:=.obj h) rfl) (aA (aB (d:=d.d) rfl) aD)) e)]) xp
 obtain⟨w14,e14⟩:=xK (sc:=.scr (ns.map D.int)) (oa:=.lst (d1.map Deed.d)) (ob:=.lst (d2.map Deed.d)) (Lf:=fX c (dR c d1)) (Rt:=fX c (dR c d2)) (v8:=xo (fX c (dR c d2))) (v9:=w9) (v10:=w10) (v11:=xo (.obj h)) (v12:=u12) (v15:=xp) (v16:=xp) (v17:=xp) (v18:=xp) L6 rs [] (v14:=xp) L6.ra;obtain⟨ω7,hω7⟩:∃ ω7:Om,ω7=ω6++[.ml (iv (mT c rs))]:=⟨_,rfl⟩;rw[wr,<- hω7] at e14;have L7:LawAt ω4 ω7 c h dd oo kk ks6 rs kn:=by rw[hω7];exact L6.app c0 _
 have g7:ω7[ω6.length]?=xo (.ml (iv (mT c rs))):=by rw[hω7];simp
 have rv:RowV ω7 (.obj ω6.length) (vR c own):=by
  rw[<- cn];unfold RowV eJ;simp only[g7]
 have pr:=sY L7 c0 Q0.recs rv (by unfold vR;simp) (by omega) hs;obtain⟨ω8,hω8⟩:∃ ω8:Om,ω8=ω7++[.ml (bD rs (vR c own))]:=⟨_,rfl⟩;rw[<- hω8] at pr;obtain⟨ω9,w17,w18,es9⟩:=Ek (sc:=.scr (ns.map D.int)) (oa:=.lst (d1.map Deed.d)) (ob:=.lst (d2.map Deed.d)) (Lf:=fX c (dR c d1)) (Rt:=fX c (dR c d2)) (v8:=xo (fX c (dR c d2))) (v9:=w9) (v10:=w10) (v11:=xo (.obj h)) (v12:=u12) (v13:=xo (.obj ω6.length)) (v14:=w14) hP c0 c8 I3 t6 o3 (by rw[bx,sl];omega) ω8 xp xp;obtain⟨ωa,wa,wb,esa⟩:=Ek (sc:=.scr (ns.map D.int)) (oa:=.lst (d1.map Deed.d)) (ob:=.lst (d2.map Deed.d)) (Lf:=fX c (dR c d1)) (Rt:=fX c (dR c d2)) (v8:=xo (fX c (dR c d2))) (v9:=w9) (v10:=w10) (v11:=xo (.obj h)) (v12:=u12) (v13:=xo (.obj ω6.length)) (v14:=w14) hP c0 c8 I4 t6 o4 (by rw[bx,sl];omega) ω9 w17 w18;refine⟨ωa,aT rfl ?_⟩;unfold OV;refine(aI (d:=.int c) (ω1:=[]) (by
  rw[<- hc];exact Dh (xs:=[2,3,4,5,2,3,4,8]) rfl (lZ (a:=x0) (aR (aA (aB (d:=.scr (ns.map D.int)) rfl) (aA aQ aD)) e0) aQ (by decide) (by decide)) r8.1 r8.2)).trans ?_
 refine(aI (aR (aA es (aA (aB (d:=.int c) rfl) aD)) ed)).trans ?_;refine(aI (aR (aA es2 (aA (aB (d:=.int c) rfl) aD)) em)).trans ?_;refine(aI (d:=.lst (d1.map Deed.d)) (ω1:=ω2) (by
  rw[hd1,b9];exact zH (a:=.obj 0) (b:=.obj 1) (ω1:=ω2) (aB rfl) (aB rfl) (by unfold eJ;simp only[g0]) (by unfold eJ;simp only[g1]) (by rw[ak,ak];omega))).trans ?_
 refine(aI (d:=.lst (d2.map Deed.d)) (ω1:=ω2) (by
  rw[hd2,b9];exact zH (a:=.obj 0) (b:=.lst (ms.reverse.map Deed.d)) (ω1:=ω2) (aB rfl) (cI (aA (aB (d:=.obj 1) rfl) aD) (by
   have:eJ ω2 (.obj 1)=xo (ms.map Deed.d):=by unfold eJ;simp only[g1]
   show(eJ ω2 (.obj 1)).map _=_
   rw[this,List.map_reverse];rfl)) (by unfold eJ;simp only[g0]) rfl (by rw[ak,ak,pj];omega))).trans ?_
 refine(aI (d:=fX c (dR c d1)) (ω1:=ω3) (aR (aA (aB (d:=.int c) rfl) (aA (aB (d:=.lst (d1.map Deed.d)) rfl) aD)) ea)).trans ?_;refine(aI (d:=fX c (dR c d2)) (ω1:=ω4) (aR (aA (aB (d:=.int c) rfl) (aA (aB (d:=.lst (d2.map Deed.d)) rfl) aD)) eb)).trans ?_;refine(aZ (ρ1:=wR (.scr (ns.map D.int)) c (.lst (d1.map Deed.d)) (.lst (d2.map Deed.d)) (fX c (dR c d1)) (fX c (dR c d2)) (xo (fX c (dR c d2))) xp xp xp xp xp xp xp xp xp xp) (ω1:=ω4) (dF (by
  unfold bB oIL;rw[bP (x:=([fX c (dR c d1),fX c (dR c d2)],bK)) (ω1:=ω4) (by
   rw[bF (cI (d:=.lst [fX c (dR c d1),fX c (dR c d2)]) (aA (aB (d:=fX c (dR c d1)) rfl) (aA (aB (d:=fX c (dR c d2)) rfl) aD)) rfl)];rfl)]
  refine(bS rfl rfl (Pu (T:=dR c d1) (U:=dR c d1) c0 c8 I1 t6 ω4)).trans ?_;exact(bS rfl rfl (Pu (T:=dR c d1) (U:=dR c d1) c0 c8 I2 t6 ω4)).trans rfl))).trans ?_
 refine(aZ (dF (by
  unfold bB;rw[bP (iV (c:=c) (aB rfl) (by omega))];exact e9))).trans ?_
 refine(aI (aR (aA (aB (d:=.int c) rfl) aD) en)).trans ?_;refine(aZ (dF (by
  unfold bB oIL;rw[bP (x:=(ds.map Deed.d,iO 0 (ds.map Deed.d))) (ω1:=ω5) (by
   rw[bF (aB (d:=.obj 0) rfl)];have g5:ω5[0]?=xo (.ml (ds.map Deed.d)):=by rw[L5.bas.2 0 (dH g4)];exact g4
   have:lX ω5 (.obj 0)=xo (ds.map Deed.d,iO 0 (ds.map Deed.d)):=by simp only[lX,g5]
   show oR (pu (lX ω5 (.obj 0)) ω5)=_;rw[this];rfl)]
  exact e6'))).trans ?_
 refine(aI (d:=.obj ω6.length) (ω1:=ω6++[.ml (iv (mT c []))]) (by
  rw[<- cn0];refine dY (ω1:=ω6) (ω2:=ω6) (a:=.lst [.int 0]) (b:=.int c) (cI (aA aQ aD) ?_) (aB rfl) ?_
  ·show pu (Dx [.int 0]) ω6=_;unfold Dx;rw[if_pos (by rw[bt];simp)];rfl
  ·show(if -1000000<=(c:Int)/\(c:Int)<=1000000/\1*(c:Int).toNat<=sizeLine then xo (D.obj ω6.length,ω6++[.ml (av (c:Int).toNat [D.int 0]).flatten]) else xp)=_
   rw[if_pos ⟨by omega,by omega,by rw[bt];omega⟩,cy,vT])).trans ?_
 have L6':=L6.app c0 [.ml (iv (mT c []))];refine(aZ (dF (by
  unfold bB oIL;rw[bP (x:=(rs.map Rec.mark,iO oo (rs.map Rec.mark))) (ω1:=ω6++[.ml (iv (mT c []))]) (by
   rw[bF (L6'.gOrder (aB (d:=.obj h) rfl))]
   have:lX (ω6++[.ml (iv (mT c []))]) (.obj oo)=xo (rs.map Rec.mark,iO oo (rs.map Rec.mark)):=by simp only[lX,L6'.order]
   show oR (pu (lX _ (.obj oo)) _)=_;rw[this];rfl)]
  exact e14))).trans ?_
 refine(aI (aR (aA (aB (d:=.obj h) rfl) (aA (aB (d:=.obj ω6.length) rfl) aD)) pr)).trans ?_;refine(aZ (dF (by
  unfold bB oIL;rw[bP (x:=([.lst ((d1++fK c).map Deed.d),.lst ((d2++fK c).map Deed.d)],bK)) (ω1:=ω8) (by
   rw[bF (cI (d:=.lst [.lst ((d1++fK c).map Deed.d),.lst ((d2++fK c).map Deed.d)]) (ω2:=ω8) (aA (a:=.lst ((d1++fK c).map Deed.d)) (ω1:=ω8) (by
    rw[b9];exact zH (a:=.lst (d1.map Deed.d)) (ω1:=ω8) (aB rfl) (aR (aA (aB (d:=.int c) rfl) aD) (BF c0 c8 ω8)) rfl rfl (by rw[ak,ak,sl];omega)) (aA (a:=.lst ((d2++fK c).map Deed.d)) (ω1:=ω8) (by
    rw[b9];exact zH (a:=.lst (d2.map Deed.d)) (ω1:=ω8) (aB rfl) (aR (aA (aB (d:=.int c) rfl) aD) (BF c0 c8 ω8)) rfl rfl (by rw[ak,ak,sl];omega)) aD)) rfl)]
   rfl)]
  refine(bS rfl rfl es9).trans ?_;exact(bS rfl rfl esa).trans rfl))).trans ?_
 rfl
noncomputable def top (i:Nat):cx:=PySem.Challenge.pw_meetbook_k05_whole_however_they_met.main.body.getD i (.Pass ⟨0,0,0,0⟩)
noncomputable abbrev lfs:List (Str×Str×cx):=[("has_seen","",top 5),("joined","",top 6),("common","",top 7),("newer","",top 8),("left_by","",top 10),("done","",top 15),("answer_to","",top 16),("after","",top 17),("_law_whole","",top 19),("_law_at","",top 20),("_law_all_after","",top 21),("_law_odd","",top 22),("_law_word","",top 23),("_law_deed_of","",top 24),("_law_drawn","",top 25),("_law_new","",top 26),("_law_present","",top 27),("_law_noted","",top 28),("_law_gets_told","",top 29),("_law_due_answer","",top 30),("_law_are_tables","",top 31),("_law_are_rows","",top 32),("_law_sweep","",top 33),("_law_meetings","",top 34)]
noncomputable abbrev RF:List (Str×Str×cx):=[("seen","Hand.seen",bZ (top 11) 1),("entries","Hand.entries",bZ (top 11) 2),("known","Hand.known",bZ (top 11) 3),("in_mind","Hand.in_mind",bZ (top 11) 4),("new_mark","Hand.new_mark",bZ (top 11) 9),("put","Hand.put",bZ (top 11) 5),("forget","Hand.forget",bZ (top 11) 12),("take_out","Hand.take_out",bZ (top 11) 11),("marks_of","Hand.marks_of",bZ (top 11) 10),("change","Hand.change",bZ (top 11) 6),("take","Hand.take",bZ (top 11) 7),("hear","Hand.hear",bZ (top 11) 8)]
noncomputable abbrev RE:List (Str×Str×cx):=[("hand","Hall.hand",bZ (top 13) 1),("pair","Hall.pair",bZ (top 13) 2),("put","Hall.put",bZ (top 13) 3),("change","Hall.change",bZ (top 13) 4),("take","Hall.take",bZ (top 13) 5),("tell","Hall.tell",bZ (top 13) 6),("meet","Hall.meet",bZ (top 13) 7)]
structure Txt (K:aa) (mg:Str->Option ag) (cls exC:Nat->af):Prop where
 bn:Bn mg
 dict:mg "dict"=xp
 rv:mg "reversed"=xp
 c0:Cls K (cls 0)
 m0:mg "Hand"=xo (.ref (cls 0))
 c1:Cls K (cls 1)
 m1:mg "Hall"=xo (.ref (cls 1))
 a0_kept:NoAttr K (cls 0) "kept"
 a0_knows:NoAttr K (cls 0) "knows"
 a0_number:NoAttr K (cls 0) "number"
 a0_table:NoAttr K (cls 0) "table"
 a1_hands:NoAttr K (cls 1) "hands"
 x0:mg "NoHand"=xo (.ref (exC 0))
 x1:mg "SameHand"=xo (.ref (exC 1))
 exs:∃ tl1 tl2,ownIn K (exC 0) tl1/\ownIn K (exC 1) tl2/\(ck (exC 1)::tl2).contains (.ref (exC 0))=false
 fn:AllP (fun x _ s=>FF K mg x s) lfs
 mt0:AllP (FM K (cls 0)) RF
 in0:FI K (cls 0) "__init__" "Hand.__init__" (bZ (top 11) 0)
 mt1:AllP (FM K (cls 1)) RE
 in1:FI K (cls 1) "__init__" "Hall.__init__" (bZ (top 13) 0)
local macro_rules
 | `(tactic|apply_rules [$ts,*])=>do
 let [hu,hu1,hu6,hr,hE,hR,T]:=[`hu,`hu1,`hu6,`hr,`hE,`hR,`T].map Lean.mkIdent|qc
 let R <- `(tactic|apply_rules [$ts,*])
 let hm <- `(by first|exact $hr|exact($hr).mono (by decide))
 let hp <- `(by first|exact Qx|exact($hE).pas)
 let cs <- ts.getElems.mapM fun u=>let t:Lean.TSyntax `term:=⟨u.raw[0]⟩;`(tactic|first|(refine HK $t $hm $hp ?_) <;> $R|(refine Lh $t $hm $hp ?_ ?_) <;> $R|(refine HM $t $hm ?_ $hp ?_) <;> $R|(refine Lj $t $hm ?_ $hp ?_) <;> $R)
 `(tactic|first
  |(with_reducible apply EU);first|with_reducible exact Cu|with_reducible exact Ct|with_reducible exact Pp|with_reducible exact Ra|with_reducible exact JO Cu|exact dvk (by kernel_rfl)
  |with_reducible exact Oy
  |with_reducible exact Mj
  |with_reducible exact Lc
  |with_reducible exact HG
  |with_reducible exact NO
  |with_reducible exact QY
  |with_reducible exact QX
  |(with_reducible apply Lq) <;> $R
  |(with_reducible apply QI) <;> $R
  |(with_reducible apply Ll) <;> $R
  |(with_reducible apply Ou) <;> $R
  |(with_reducible apply Ox) <;> $R
  |(with_reducible apply Oh) <;> $R
  |(with_reducible apply Op) <;> $R
  |(with_reducible apply Oq) <;> $R
  |(with_reducible apply Lp) <;> $R
  |(with_reducible apply Ld) <;> $R
  |(with_reducible apply La) <;> $R
  |(with_reducible apply Ln) <;> $R
  |(with_reducible apply Ov) <;> $R
  |(with_reducible apply QH) <;> $R
  |(with_reducible apply QJ) <;> $R
  |(with_reducible apply Qz) <;> $R
  |(with_reducible apply QA) <;> $R
  |(with_reducible apply QC) <;> $R
  |(with_reducible apply QD) <;> $R
  |(with_reducible apply KC) <;> $R
  |(with_reducible apply NK) <;> $R
  |(with_reducible apply NJ) <;> $R
  |(with_reducible apply QB) <;> $R
  |(with_reducible apply HA) <;> $R
  |(with_reducible apply NL) <;> $R
  |(with_reducible apply KD) <;> $R
  |(with_reducible apply Oo) <;> $R
  |(with_reducible apply Ow) <;> $R
  |(with_reducible apply On) <;> $R
  |(with_reducible apply HH) <;> $R
  |(with_reducible apply Le) <;> $R
  |(with_reducible apply Ot) <;> $R
  |(with_reducible apply Og) <;> $R
  |(with_reducible apply EV) <;> $R
  |(with_reducible apply Lb) <;> $R
  |(with_reducible apply KY) <;> $R
  |(with_reducible apply ES) <;> $R
  |(with_reducible apply ER) <;> $R
  |(with_reducible apply Oe) <;> $R
  |(with_reducible apply Of) <;> $R
  |(with_reducible apply KU) <;> $R
  |(with_reducible apply HE) <;> $R
  |(with_reducible apply NG) <;> $R
  |(with_reducible apply KB) <;> $R
  |(with_reducible apply Qy) <;> $R
  |(with_reducible apply NF) <;> $R
  |(with_reducible apply NI) <;> $R
  |(with_reducible apply NH) <;> $R
  |(with_reducible apply Sg) <;> $R
  |(with_reducible apply KL) <;> $R
  |(with_reducible apply NN) <;> $R
  |(with_reducible apply NM) <;> $R
  |(with_reducible apply QE) <;> $R
  |(with_reducible apply KI) <;> $R
  |(with_reducible apply NQ) <;> $R
  |(with_reducible apply KJ) <;> $R
  |(with_reducible apply KG) <;> $R
  |(with_reducible apply NP) <;> $R
  |(with_reducible apply KH) <;> $R
  |(with_reducible apply KN) <;> $R
  |(with_reducible apply Mi) <;> $R
  |(with_reducible show OE _ _ _ _ (oL (lfL Iy) _));(refine gU (Gw rfl) (FitL.lift IJ) ?_ ($T).bn.min boot.min ?_) <;> $R
  |(with_reducible show OE _ _ _ _ (oL (lfL yS) _));(refine gU (Gx rfl) (FitL.lift IK) ?_ ($T).bn.max boot.max ?_) <;> $R
  |(with_reducible show OE _ _ _ _ (oL AE _));(refine gU (zJ rfl) IE ?_ ($T).bn.sum boot.sum ?_) <;> $R
  |(with_reducible show OE _ _ _ _ (oL (lfL PL) _));(refine gU (zJ rfl) (FitL.lift LX) ?_ ($T).bn.sum boot.sum ?_) <;> $R
  |(with_reducible show OE _ _ _ _ (oL (Iv _) _));(refine gU (Gu $hu6) IF ?_ ($T).bn.sorted boot.sorted ?_) <;> $R
  |(with_reducible show OE _ _ _ _ (oL (FP _) _));(refine gU (Gv rfl $hu6) IG ?_ ($T).bn.sorted boot.sorted ?_) <;> $R
  |(with_reducible show OE _ _ _ _ (oL iP _));(refine gU Jj IL ?_ ($T).bn.len boot.len ?_) <;> $R
  |(with_reducible show OE _ _ _ _ (oL (lfL PN) _));(refine lM Gz (FitL.lift Mc) ?_ ($T).bn.int boot.int ?_) <;> $R
  |(with_reducible show OE _ _ _ _ (oL tV _));(refine lM nE FY ?_ ($T).bn.list boot.list ?_) <;> $R
  |(with_reducible show OE _ _ _ _ (oL iL _));(refine lM nE FX ?_ ($T).bn.list boot.list ?_) <;> $R
  |(with_reducible show OE _ _ _ _ (oL FS _));(refine Ol rfl ?_ ($T).bn.list ?_ ($T).rv ?_) <;> $R
  |(with_reducible show OE _ _ _ _ (oL FN _));(refine lM wC ID ?_ ($T).bn.tuple boot.tuple ?_) <;> $R
  |(with_reducible show OE _ _ _ _ (HN _ _));(refine KZ $hu6 rfl ?_ ($T).bn.sorted ?_) <;> $R
  |(with_reducible show OE _ _ _ _ (pP "str" _));(refine xY ?_ ?_ ($T).bn.isinstance ?_ ($T).bn.str boot.str) <;> $R
  |(with_reducible show OE _ _ _ _ (pP "int" _));(refine xY ?_ ?_ ($T).bn.isinstance ?_ ($T).bn.int boot.int) <;> $R
  |(with_reducible show OE _ _ _ _ (pP "bool" _));(refine xY ?_ ?_ ($T).bn.isinstance ?_ ($T).bn.bool boot.bool) <;> $R
  |(with_reducible show OE _ _ _ _ (pP "list" _));(refine xY ?_ ?_ ($T).bn.isinstance ?_ ($T).bn.list boot.list) <;> $R
  |(with_reducible show OE _ _ _ _ (pP "tuple" _));(refine xY ?_ ?_ ($T).bn.isinstance ?_ ($T).bn.tuple boot.tuple) <;> $R
  |(with_reducible show OE _ _ _ _ (cV _ _ _ _ _ _));(refine HL ?_ rfl rfl (by kernel_rfl) ?_ (fun _ _ _ _ _ _=>⟨?_,?_,?_⟩)) <;> $R
  |(with_reducible show OE _ _ _ _ (CW _));(refine Lk ?_ rfl rfl (by simp) (by decide)) <;> $R
  |(with_reducible show PPs _ _ (_::_) _ _);(refine Ht (EU Ct) ?_ ?_) <;> $R
  |(with_reducible show PPs _ _ [] _ _);(refine Kn) <;> $R
  |(with_reducible show OSt _ _ _ _ (xN _ _ _ _ _));(obtain⟨_,_,o0,o1,hne⟩:=($T).exs;refine KE ($hE).ex rfl rfl ⟨_,rfl⟩ ?_ ?_ ($T).x0 ($T).x1 o0 o1 hne (fun _ _ _ $hE=> ?_) (fun _=> ?_) (fun _=> ?_)) <;> $R
  |with_reducible exact Cu
  |with_reducible exact JO Cu
  |(with_reducible show DE _ (.Name _ _) _);exact dvk (by kernel_rfl)
  |(with_reducible show PG _ (.Name _ _) _);exact Sm (by kernel_rfl)
  |(with_reducible show PG _ (.Tuple [_,_] _ _) _);exact Sl rfl (by kernel_rfl) (by kernel_rfl)
  |(with_reducible show Gl _ _);unfold Gl;kernel_rfl
  |(with_reducible show OSt _ _ _ _ (aU _ _));(refine Sv (by kernel_rfl) ?_) <;> $R
  |(with_reducible show OSt _ _ _ _ (aU _ _));(refine HB ?_ (by kernel_rfl) rfl rfl (by kernel_rfl) ?_ (fun _ _ _ _ _ _=>⟨?_,?_,?_⟩)) <;> $R
  |(with_reducible show OSt _ _ _ _ (BJ _ _));obtain⟨_,_,o0,o1,hne⟩:=($T).exs;first|exact BP rfl $hR (by rfl) ($T).x0 o0 Ct|exact BP rfl $hR (by rfl) ($T).x1 o1 Ct
  |exact rfl
  |(intro _;exact rfl)
  |(intro _ _;exact rfl)
  |exact($T).bn.range
  |exact($T).bn.zip
  |exact($T).c0
  |exact($T).c1
  |exact($T).a0_kept
  |exact($T).a0_knows
  |exact($T).a0_number
  |exact($T).a0_table
  |exact($T).a1_hands
  |exact $hu
  |exact $hu1
  |exact $hu6
  |with_unfolding_all rfl
  |decide
  $[| $cs:tactic]*)
local macro_rules
 | `(tactic|solve_by_elim [$ts,*])=>do
 let [hu,hu1,hu6,hr,hE,hR]:=[`hu,`hu1,`hu6,`hr,`hE,`hR].map Lean.mkIdent|qc
 `(tactic|(intro _ _ _ _ _ _ _ $hr $hu $hu1 $hu6 $hE $hR;conv=>(arg 4;whnf));apply_rules [$ts,*])
section
seal PE PT PA PS PSs PI PG PW MA PO PPs
variable {P:da}{w:dh}{K:aa}{mg:Str->Option ag}{base:c5}{cls exC:Nat->af} (T:Txt K mg cls exC)
include T
theorem tZ:nG P w K mg base cls exC 1 "has_seen" DQ fJ:=dfD (T.fn.get 0 rfl) (by solve_by_elim [])
theorem Jf:nG P w K mg base cls exC 1 "joined" Jq gS:=dfD (T.fn.get 1 rfl) (by solve_by_elim [])
theorem Jh:nG P w K mg base cls exC 1 "common" Jr nZ:=dfD (T.fn.get 2 rfl) (by solve_by_elim [])
theorem Mm:nG P w K mg base cls exC 1 "newer" My Am:=dfD (T.fn.get 3 rfl) (by solve_by_elim [])
theorem iC:rQ P w K mg base cls exC 1 0 "seen" Bf bV:=dfM (T.mt0.get 0 rfl) T.c0 (by solve_by_elim [])
theorem Gi:nG P w K mg base cls exC 2 "left_by" GE lK:=dfD (T.fn.get 4 rfl) (by solve_by_elim [iC T,tZ T])
theorem vX:PP P w K mg base cls exC 1 0 "Hand" wI dU:=dfI T.in0 T.m0 (by solve_by_elim [])
theorem gJ:rQ P w K mg base cls exC 1 0 "entries" sI bT:=dfM (T.mt0.get 1 rfl) T.c0 (by solve_by_elim [])
theorem zA:rQ P w K mg base cls exC 1 0 "known" zR gC:=dfM (T.mt0.get 2 rfl) T.c0 (by solve_by_elim [])
theorem sD:rQ P w K mg base cls exC 1 0 "in_mind" sH eQ:=dfM (T.mt0.get 3 rfl) T.c0 (by solve_by_elim [])
theorem jF:rQ P w K mg base cls exC 2 0 "new_mark" rH dA:=dfM (T.mt0.get 4 rfl) T.c0 (by solve_by_elim [iC T])
theorem uA:rQ P w K mg base cls exC 3 0 "put" DR eM:=dfM (T.mt0.get 5 rfl) T.c0 (by solve_by_elim [jF T])
theorem mE:rQ P w K mg base cls exC 2 0 "forget" wJ fG:=dfM (T.mt0.get 6 rfl) T.c0 (by solve_by_elim [tZ T,Jh T])
theorem jE:rQ P w K mg base cls exC 3 0 "take_out" rG cZ:=dfM (T.mt0.get 7 rfl) T.c0 (by solve_by_elim [mE T])
theorem jG:rQ P w K mg base cls exC 2 0 "marks_of" rJ dB:=dfM (T.mt0.get 8 rfl) T.c0 (by solve_by_elim [gJ T])
theorem vY:rQ P w K mg base cls exC 4 0 "change" wK dW:=dfM (T.mt0.get 9 rfl) T.c0 (by solve_by_elim [jE T,uA T,jG T])
theorem AR:rQ P w K mg base cls exC 4 0 "take" Be fN:=dfM (T.mt0.get 10 rfl) T.c0 (by solve_by_elim [jE T,jF T,jG T])
theorem qT:rQ P w K mg base cls exC 3 0 "hear" Bg cL:=dfM (T.mt0.get 11 rfl) T.c0 (by solve_by_elim [mE T,Jf T,gJ T,Gi T,iC T,Mm T])
theorem vZ:PP P w K mg base cls exC 3 1 "Hall" wL gT:=dfI T.in1 T.m1 (by solve_by_elim [vX T])
theorem iD:rQ P w K mg base cls exC 1 1 "hand" Bl bM:=dfM (T.mt1.get 0 rfl) T.c1 (by solve_by_elim [])
theorem qU:rQ P w K mg base cls exC 2 1 "pair" Bj bW:=dfM (T.mt1.get 1 rfl) T.c1 (by solve_by_elim [iD T])
theorem DH:rQ P w K mg base cls exC 4 1 "put" DT gK:=dfM (T.mt1.get 2 rfl) T.c1 (by solve_by_elim [iD T,uA T])
theorem wA:rQ P w K mg base cls exC 5 1 "change" wM dX:=dfM (T.mt1.get 3 rfl) T.c1 (by solve_by_elim [iD T,vY T])
theorem AT:rQ P w K mg base cls exC 5 1 "take" Bi fP:=dfM (T.mt1.get 4 rfl) T.c1 (by solve_by_elim [iD T,AR T])
theorem AS:rQ P w K mg base cls exC 4 1 "tell" Bh fO:=dfM (T.mt1.get 5 rfl) T.c1 (by solve_by_elim [qT T,qU T])
theorem AU:rQ P w K mg base cls exC 4 1 "meet" Bk fQ:=dfM (T.mt1.get 6 rfl) T.c1 (by solve_by_elim [qT T,qU T])
theorem Pt:nG P w K mg base cls exC 6 "done" Pz kA:=dfD (T.fn.get 5 rfl) (by solve_by_elim [AU T,AS T,AT T,wA T,DH T])
theorem AQ:nG P w K mg base cls exC 7 "answer_to" Bd eL:=dfD (T.fn.get 6 rfl) (by solve_by_elim [Pt T])
theorem Mn:nG P w K mg base cls exC 8 "after" Mz An:=dfD (T.fn.get 7 rfl) (by solve_by_elim [sD T,zA T,iC T,gJ T,AQ T,vZ T])
theorem qQ:nG P w K mg base cls exC 1 "_law_whole" AZ fM:=dfD (T.fn.get 8 rfl) (by solve_by_elim [])
theorem Je:nG P w K mg base cls exC 1 "_law_at" Jp uX:=dfD (T.fn.get 9 rfl) (by solve_by_elim [])
theorem qS:nG P w K mg base cls exC 9 "_law_all_after" rF cY:=dfD (T.fn.get 10 rfl) (by solve_by_elim [Mn T])
theorem Gj:nG P w K mg base cls exC 1 "_law_odd" GF eX:=dfD (T.fn.get 11 rfl) (by solve_by_elim [])
theorem DG:nG P w K mg base cls exC 1 "_law_word" DP jP:=dfD (T.fn.get 12 rfl) (by solve_by_elim [])
theorem vW:nG P w K mg base cls exC 2 "_law_deed_of" wH gQ:=dfD (T.fn.get 13 rfl) (by solve_by_elim [Gj T,DG T])
theorem AO:nG P w K mg base cls exC 3 "_law_drawn" Bc kP:=dfD (T.fn.get 14 rfl) (by solve_by_elim [vW T])
theorem Gk:nG P w K mg base cls exC 1 "_law_new" GG pL:=dfD (T.fn.get 15 rfl) (by solve_by_elim [])
theorem mD:nG P w K mg base cls exC 1 "_law_present" wG fF:=dfD (T.fn.get 16 rfl) (by solve_by_elim [])
theorem AN:nG P w K mg base cls exC 1 "_law_noted" Bb cW:=dfD (T.fn.get 17 rfl) (by solve_by_elim [])
theorem qR:nG P w K mg base cls exC 1 "_law_gets_told" rE cX:=dfD (T.fn.get 18 rfl) (by solve_by_elim [])
theorem nN:nG P w K mg base cls exC 2 "_law_due_answer" nP cD:=dfD (T.fn.get 19 rfl) (by solve_by_elim [qR T,AN T,mD T])
theorem nO:nG P w K mg base cls exC 2 "_law_are_tables" nQ cO:=dfD (T.fn.get 20 rfl) (by solve_by_elim [qQ T])
theorem sC:nG P w K mg base cls exC 2 "_law_are_rows" sG eP:=dfD (T.fn.get 21 rfl) (by solve_by_elim [qQ T])
theorem AM:nG P w K mg base cls exC 1 "_law_sweep" Ba gP:=dfD (T.fn.get 22 rfl) (by solve_by_elim [])
theorem sB:nG P w K mg base cls exC 1 "_law_meetings" sF gF:=dfD (T.fn.get 23 rfl) (by solve_by_elim [])
theorem Rb {f:af}{fd:jw} (F:PQ K mg "law" (top 35) f fd):sO P w K mg base (CX1 P w exC) 10 f fd Rg (spO cls exC K p_law):=Cy F.fn (by constructor <;> first|rfl|decide+kernel) (by solve_by_elim [AM T,nO T,qS T,mD T,nN T,Gk T,sC T,sB T,AO T,Je T])
end
abbrev cs:List Str:=["Hand","Hall"]
abbrev xs:List Str:=["NoHand","SameHand"]
theorem all_mk {P:da}{w:dh}{K:aa}{h:c5}{mg:Str->Option ag}{fa C0 C1 E0 E1:af}{tl0 tl1:List ag} (X:K.In h) (G:h.Ns ce mg) (hfa:mg "law"=xo (.ref fa))
  (T:Bn mg)
  (hdict:cr K ce "dict"=xo xp)
  (hrv:cr K ce "reversed"=xo xp)
  (n0:clsIn K "Hand" C0) (c0:Cls K C0) (mk0:mkIn K C0)
  (a0_kept:NoAttr K C0 "kept")
  (a0_knows:NoAttr K C0 "knows")
  (a0_number:NoAttr K C0 "number")
  (a0_table:NoAttr K C0 "table")
  (n1:clsIn K "Hall" C1) (c1:Cls K C1) (mk1:mkIn K C1)
  (a1_hands:NoAttr K C1 "hands")
  (e0:clsIn K "NoHand" E0) (o0:ownIn K E0 tl0)
  (e1:clsIn K "SameHand" E1) (o1:ownIn K E1 tl1)
  (hne:(ck E1::tl1).contains (.ref E0)=false)
  (If:AllP (fun x _ s=>FnIn K x s) lfs) (I:FnIn K "law" (top 35))
  (M0:AllP (mtF K C0) RF) (i0:mtF K C0 "__init__" "Hand.__init__" (bZ (top 11) 0))
  (M1:AllP (mtF K C1) RE) (i1:mtF K C1 "__init__" "Hall.__init__" (bZ (top 13) 0))
  :∃ fd:jw,(∀(s:aq) (v:ag),t8 s fd ⟨[v],[]⟩ [("_law_script",v)])/\∀ base:c5,K.In base->base.Ns ce mg->sO P w K mg base (CX1 P w (jJ K xs)) 10 fa fd ["_law_script"] (spO (jJ K cs) (jJ K xs) K p_law):=by
 have q0:jJ K cs 0=C0:=oN rfl n0;subst q0;have q1:jJ K cs 1=C1:=oN rfl n1;subst q1;have r0:jJ K xs 0=E0:=oN rfl e0;subst r0;have r1:jJ K xs 1=E1:=oN rfl e1;subst r1;have TT:Txt K mg (jJ K cs) (jJ K xs):=⟨T,cz X G hdict,cz X G hrv,c0,ol X G n0,c1,ol X G n1,a0_kept,a0_knows,a0_number,a0_table,a1_hands,ol X G e0,ol X G e1,⟨tl0,tl1,o0,o1,hne⟩,If.imp fun _ _ _ h=>h.fnAt X G,M0.imp fun _ _ _ h=>h.out,i0.mk mk0,M1.imp fun _ _ _ h=>h.out,i1.mk mk1⟩;obtain⟨a_law,fd_law,F_law⟩:=I.fnAt X G;obtain rfl:a_law=fa:=by
  have e:=hfa.symm.trans F_law.at_;cases e;rfl
 refine⟨fd_law,fun s v=> ?_,fun base kb nb=>Rb TT F_law⟩;obtain⟨oc,od,kV,doc,pm,an,cdv,ct,osl,rfl,_,_⟩:=F_law.fn.ex;exact .of_eq rfl
end L2.MB.Lw
open PySem PySem.W PyProof.Rows
set_option maxRecDepth 100000 in
set_option maxHeartbeats 0 in
theorem PySem.Challenge.cw_meetbook_k05_whole_however_they_met_holds : PySem.Challenge.rw_meetbook_k05_whole_however_they_met.Holds := by
 refine Hq0.tpQ ?_
 k_fill
 refine L2.MB.law_walkO (l:=PySem.Challenge.rw_meetbook_k05_whole_however_they_met) (k:=10) (x:="_law_script") (φ:=L2.MB.Lw.p_law) (cs:=L2.MB.Lw.cs) (es:=L2.MB.Lw.xs) rfl rfl ⟨rfl,by decide,by decide⟩ (fun w h Y=>PySem.W.kIn_of Y) (fun ns h=>L2.MB.Lw.law_true ns h) ?F
 case F=>
  intro w mg fa h KX G hmg;have T:L2.MB.Bn mg:=by
   refine' L2.MB.bn_mk KX G ?_ ?_ ?_ ?_ ?_ ?_ ?_ ?_ ?_ ?_ ?_ ?_ ?_ ?_ <;> k_is
  refine' L2.MB.Lw.all_mk KX G hmg T ?_ ?_ ?_ ?_ ?_ ?_ ?_ ?_ ?_ ?_ ?_ ?_ ?_ ?_ ?_ ?_ ?_ ?_ ?_ ?_ ?_ ?_ ?_ ?_
  any_goals (with_reducible show L2.MB.clsIn _ _ _);unfold L2.MB.clsIn;k_is
  any_goals (with_reducible show L2.Cls _ _);refine' ⟨?_,?_,?_,?_⟩ <;> k_is
  any_goals (with_reducible show L2.MB.mkIn _ _);refine' ⟨?_,?_⟩ <;> k_is
  any_goals (with_reducible show L2.NoAttr _ _ _);unfold L2.NoAttr;k_is
  any_goals (with_reducible show L2.MB.ownIn _ _ _);(refine' L2.MB.own_mk ?p1 ?p2 ?p3 ?p4 ?p5 ?p6;(case p1=>k_is);(case p2=>rfl);(case p3=>rfl);(case p4=>(refine' L2.MB.tail_mk ?q1 ?q2 ?q3 ?q4;(case q1=>k_is);(case q2=>(refine' L2.MB.nsOk_mk ?l ?h;(case l=>k_is);(case h=>rfl)));(case q3=>k_is);(case q4=>rfl)));(case p5=>(refine' L2.MB.nsOk_mk ?l ?h;(case l=>k_is);(case h=>rfl)));(case p6=>k_is))
  any_goals (with_reducible show L2.MB.AllP _ _);dsimp only[L2.MB.AllP];(repeat' with_reducible apply And.intro)
  all_goals first|k_is|exact rfl|exact trivial|(refine' L2.MB.fnIn_mk ?z1 ?z2 ?z3 ?z4;(case z1=>k_is);(case z2=>k_is);(case z3=>k_is);(case z4=>k_is))|(refine' ⟨_,L2.MB.mtIn_mk ?z1 ?z2 ?z3 ?z4 ?z5⟩;(case z1=>k_is);(case z2=>k_is);(case z3=>k_is);(case z4=>k_is);(case z5=>k_is))
end
