import PyProof.Rows.All
import Wide.All
import OpenK.AllK
import Wide.FinOn
import Lean
import PyProof.EqAt
import PyProof.EqKinds
import PyProof.TupleCall
import PyProof.NeKinds
import PyProof.StationsW
import PyProof.ExcBaseAll.ValueError
import KE.KSortTup
import PySem.Challenge.RW_meetbook_k03_answers
section
set_option Elab.async false
open PySem PySem.W PyProof.Rows
def Hq0.vwQ : Program := { PySem.Challenge.pw_meetbook_k03_answers with main := { PySem.Challenge.pw_meetbook_k03_answers.main with body := [0, 2, 3, 4, 6, 7, 8, 9, 11, 12, 14, 16, 17, 18, 20, 21, 22, 23, 24, 25, 26, 27, 28, 29, 30, 31, 32, 33, 34].filterMap fun i => PySem.Challenge.pw_meetbook_k03_answers.main.body[i]? } }
local macro_rules
 | `(tactic| o_head $H) => `(tactic| (refine holds_open (q := Hq0.vwQ) (loose := []) (Xt := fun s => xlAt Hq0.vwQ [] s && recOk [] s) (XP := XL Hq0.vwQ []) (Yf := Hook.obs $H) (Ya := Hook.val $H) (YP := Hook.says $H) (N := 4998) ?hl (Hook.of $H) (Hook.keeps $H) (fun s e => xl_of s (Bool.and_eq_true_iff.mp e).1) XL.keeps (by rfl) (by rfl) (by rfl) (fun s e => recFacts_of (Bool.and_eq_true_iff.mp e).2) (by rfl) (by first | assumption | decide +kernel) (by decide +kernel) ⟨rfl, rfl, rfl, rfl, rfl, by decide +kernel⟩ ?hw ?hc; (case hl => (intro w; kernel_rfl))))
set_option maxRecDepth 100000 in
set_option maxHeartbeats 0 in
open_top Hq0.tpQ for PySem.Challenge.rw_meetbook_k03_answers
end
open PySem.W renaming Frag→aa, nsIn→ck, mg_none_of→c4, hideAll→fj, hideAll_none→fk, keepIn→gk, findIn→gx, emptyDict→gy, fnOf→ig, instObj→iq, codeIn→ju, hideAll_get→j5, kia_one→kj, nsOkIn→kr, of_hideAll→lw, tailIn→mm, mg_of→m7, plainGet→m8, isFn→om, plainGet_of→o5, lookIn→o6, callWith_K→pe, methodObj→pq, hasDictIn→pv, takerIn→qr, makesIn→qt, kat_one→qy, cellsFrom_some→qz, methodCall_KW→se, KdlSrc→sj, kdu_collect→t7, plainOver→uw, handedIn→u3, OpenLaw→vf, kat_nil→vm, WalkO→vz, KasT→wc
open PySem renaming wpAny_bind→ae, Addr→af, Value→ag, wpAny_pure→ak, Shared→am, starEach→av, wpAny→aw, Expr→br, sizeLine_eq→bw, tupleKind→bx, mainGlobals→b8, Stmt→cq, Heap→cy, Program→da, bootBuiltins→db, World→dc, Around→de, backTo→df, wpAny_truthy_bool→dh, cLine→dq, wpAny_newObj_type→dy, compareOp→d7, sysModules→fh, mem_of_lookup→f6, entryOfKey→f8, foldedSetIterable→f9, cellsFrom→gs, wpAny_mono→gu, NameKind→gz, wpAny_call_entry→g9, attributeBase→hV, keywordEach→ie, behindInMarks→ik, wpAny_holding→im, wpAny_typeNameOfWhole_valiter→i4, wpAny_typeNameOfWhole_keyiter→i5, wpAny_callSpecial?_slot→i6, swapsWith→i9, storedH→jh, FuncData→ji, wpAny_dictEntries→jk, Paired→jv, binaryOp→jw, backToKw→jx, wpAny_typeNameOf_valiter→jz, wpAny_typeNameOf_keyiter→j0, Scope→j6, Keyword→ka, tupleKind_room_in1→ki, wpAny_dictEpoch→km, DictEntry→ky, assignEach→k6, atKey→k7, sliceBounds→lj, wpAny_passesOwn→lq, rawInt→lz, getMethod→l0, wpAny_Call_Name_kw→l7, standAt→mj, pyNext→mw, codeAny→n8, wpAny_isOneOf_valiter→oa, wpAny_execs_nil→oj, letOwnedTupleGo→ol, getItem→o7, callerA→o8, intText?→o9, wpAny_fieldsOf→pb, wpAny_setField→pc, firstArgMember→pd, wpAny_attempt→pk, wpAny_loadPart_at→pz, valueAt→qd, codeAny_mono→qe, callWith→qf, wpAny_forIn_list→qg, IsPart→qi, wpAny_comprehension_free→qk, putAt→qv, wpAny_field→rg, wpAny_isTrue_Compare1→rq, BindsTo→r9, newFunctionEnv→sg, wpAny_notOrdered_dict→si, wpAny_isOneOf_keyiter→ss, typeLookup→sw, wpAny_updateDictKeys→tf, wpAny_standAt→tm, swapsWithSole→tq, swappedStores→tu, wpAny_newList→tz, wpAny_isSubtype_exc→t6, wpAny_dictFind_heap→t8, Within→ud, seqIndex_neg→uj, noteFrame→ul, setFlight→um, call_meetsIn→uo, seqIndex_of→u0, call→ve
open List renaming mem_cons→ah, mem_cons_of_mem→ai, getElem?_append_left→aj, replicate→ao, getD_eq_getElem?_getD→aq, length_map→ar, mem_cons_self→au, mem_map→ax, size_toArray→az, getElem?_map→bf, map_cons→bg, getElem?_eq_some_iff→bh, getElem?_eq_getElem→bj, zipWith→bp, range→bu, length_cons→bv, length_append→b0, nodup_cons→b3, mem_filter→b4, length_set→cg, not_mem_nil→cj, getElem?_append_right→cr, range'→cw, map_append→cx, mem_append→cz, append_nil→c3, filter_cons_of_neg→c6, filter_cons_of_pos→c7, getElem?_eq_none→c9, mem_append_left→di, getElem?_set_self→dm, mem_append_right→dr, length_filter_le→du, mem_singleton→d9, replicate_succ→eu, length_zipWith→fe, append_assoc→ff, getElem?_replicate→fg, getElem?_set_ne→fu, mem_of_getElem?→fw, lookup_cons→fy, all_eq_true→fz, map_congr_left→f7, find?_cons→gp, mem_filterMap→gq, getElem?_range→g7, length_range→ib, zipWith_cons_cons→ij, mem_or_eq_of_mem_set→ip, flatten_cons→iy, getElem_mem→i7, map_map→jc, filter_append→je, length_replicate→jf, length_singleton→jg, ext_getElem?→jl, nodup_append→jm, getElem?_of_mem→jo, lookup→jq, mem_range→jt, range'_succ→j4, filterMap_cons→j7, filter_sublist→j8, length_nil→ke, filter_nil→ko, map_nil→kq, any_cons→k8, length→lh, pairwise_iff_getElem→ls, zip_cons_cons→l9, length_filterMap_le→mf, mem_range'_1→mv, length_take→ng, filter_cons→nh, take_succ_eq_append_getElem→nj, any_eq_true→nq, mem_flatMap→nu, set_set→ow, range_succ→ox, sum_append→oy, getElem_range→pf, drop_eq_getElem_cons→p0, mem_of_find?_eq_some→p9, length_drop→qj, length_eq_zero_iff→qq, of_mem_zip→qu, range_succ_eq_map→rm, take_of_length_le→rn, getElem?_zipWith→sh, range_eq_range'→tj, sum_cons→t4, filter_eq_self→t9, find?_eq_none→uq, set_cons_zero→ur, set_cons_succ→ut, map_set→uu, mem_replicate→uv, nodup_range'→uz, drop_length→u5, zipWith_map→u7, getElem_map→u8, foldl→vc, foldl_cons→vd, find?_some→vk, nodup_nil→vp, forIn_nil→vq
open PySem.Heap renaming get?_push_of_some→ay, lt_size→bi, get?_push_size→bz, get?_update_other→d8, SameBut→fm, get?_update_self→gn, size_push→hZ, DictOfH→ii, size_update→ni
open Nat renaming le_refl→bc, lt_of_lt_of_le→ca, le_trans→ce, ne_of_lt→ci, lt_irrefl→gg, zero_le→ic, le_of_lt→ir, min_self→iu, lt_of_le_of_lt→md, lt_succ_self→m9, lt_or_ge→ou, not_lt→s0, le_of_eq→ug
open Bool renaming and_eq_true→bq, false_ne_true→cf, false_eq_true→dn, or_eq_true→iw, not_eq_true'→ux, not_false→vt
open Ne renaming symm→bt
open PySem.Value renaming ref→b7, none→hW, type→kz, bool→sv, int→ub, str→uc, isStrOf→vy
open Option.some renaming inj→b9
open Array renaming getD_eq_getD_getElem?→cm, length_toList→dw, getElem?_toList→g8, getElem?_eq_getElem→jp, getElem?_eq_some_iff→k9, isEmpty_iff→mr, perm_iff_toList_perm→pp, getElem?_eq_none→rp, all_toList→u6
open PySem.NameKind renaming cell→cu, free→gv
open Int renaming toNat_natCast→c5, natCast_nonneg→jd, le_refl→ll
open PySem.F renaming slot_dict_valueiterator_next→fx, slot_dict_keyiterator_next→ga, args_dict_valueiterator_next_1→lm, entry_dict_valueiterator_next→lu, args_dict_keyiterator_next_1→me, entry_dict_keyiterator_next→mq, slot_dict_iter→mz, slot_dict_values_iter→oz, args_tuple_add_2→qh, slot_dict_values→ql, slot_dict_update→qm, entry_tuple_add→qo, plainAttrs_dict→qp, slot_tuple_add→rc, slot_list_append→sf, slot_dict_pop→su
open PyProof.Rows renaming seqObj→gw, slot_tuple_getitem→i8, envOfC→ja, IntsAre→kc, callWith_type1→ku, AllBare→mh, sortedHeap→p7, get?_update_seq→qw, subscriptTail_builtinR→rh, subscriptTail→tw, lt_int→va
open True renaming intro→hX
open PySem.Builtin.Dict_items renaming ownsTuple→ia, newIterator→vj, dictOf→wb
open False renaming elim→io
open PySem.Paired renaming length→iz
open PySem.Obj renaming data_mapFields→jb, mapSeq→kh, mapFields→lg, isFreed_of_fields→n9, mapDictKeys→qx, cls_mapFields→uy
open PySem.Str renaming ofString→jj
open PySem.Builtin.Slice renaming slicePlaces→jn, sliceAdjust→lr, sliceApplied→pj
open Sum renaming inr→jr, inl→nv
open PySem.Builtin.Tuple renaming tupleExact→jy, tupleHashOf→qc
open Std.Legacy renaming Range→j3
open Classical renaming propDecidable→j9
open PySem.Builtin.Dict renaming showsAll→kt
open PySem.Heap.SameBut renaming update→ln
open Option renaming isSome_iff_exists→l8, map_eq_some_iff→my, isSome_map→px, isSome_some→uk, getD_none→u4, map_some→vo, some→we, none→wf
open PySem.Builtin.List renaming listTooLong→ma
open ForInStep renaming yield→oq
open Lean.Macro renaming throwUnsupported→ph
open PySem.Calls renaming Name_function_global→pi, call_function_entry→p8, callWith_builtin→rj, evalArgs_plain→sy
open Std.Legacy.Range renaming forIn_eq_forIn_range'→ua, size→wd
open PySem.Data renaming cell→uf, dict→vx
open PySem.Around renaming under→uh
open PySem.Code renaming isFrame→ui
open PySem.SeqAt renaming EqAt→vb, RcAt→vg
open PySem.PassesOwn renaming never→vh
open Array.Perm renaming refl→vn
open PyProof.Rows.IsTup renaming new→vv
open PySem PySem.Spec PyProof.Rows
set_option Elab.async false
set_option linter.all false
set_option maxRecDepth 100000
set_option maxHeartbeats 4000000
section
namespace L2
noncomputable abbrev Key:=Sum Int Str
noncomputable def Bs:Key->ag->Bool
 |.inl k,v=>Value.isInt k v
 |.inr x,v=>vy x v
noncomputable def PY (w:dc):Key->Int
 |.inl k=>hashInt k
 |.inr x=>hashStr w x
theorem cI:∀ {k:Key}{v:ag},Bs k v=true->(∃ i t,k=nv i/\v=ub i t)∨(∃ x t,k=jr x/\v=uc x t)
 |.inl i,v,h=>by
  obtain⟨t,e⟩:=Value.isInt_shape (k:=i) (v:=v) h;exact .inl ⟨i,t,rfl,e⟩
 |.inr x,v,h=>by
  obtain⟨t,e⟩:=Value.isStrOf_shape (x:=x) (v:=v) h;exact .inr ⟨x,t,rfl,e⟩
theorem Du (i:Int) (t:Tok):Bs (.inl i) (.int i t)=true:=by simp[Bs,Value.isInt]
theorem Dt (x:Str) (t:Tok):Bs (.inr x) (.str x t)=true:=by simp[Bs,vy]
theorem MI (a b:Int):decide ((nv a:Key)=nv b)=(a==b):=by
 by_cases e:a=b
 ·subst e;simp
 ·have h:¬(nv a:Key)=nv b:=fun q=>e (Sum.inl.inj q);rw[decide_eq_false h];exact(beq_eq_false_iff_ne.mpr e).symm
theorem MF (a b:Str):decide ((jr a:Key)=jr b)=decide (a=b):=by
 by_cases e:a=b
 ·subst e;simp
 ·have h:¬(jr a:Key)=jr b:=fun q=>e (Sum.inr.inj q);rw[decide_eq_false h,decide_eq_false e]
theorem MH (a:Int) (b:Str):decide ((nv a:Key)=jr b)=false:=decide_eq_false (fun q=>nomatch q)
theorem MG (a:Str) (b:Int):decide ((jr a:Key)=nv b)=false:=decide_eq_false (fun q=>nomatch q)
noncomputable def aO (prog:da) (w:dc):PySem.KeyKind prog w Key where
 is:=Bs
 hash:=PY w
 inj:=fun v a b ha hb=>by
  rcases cI ha with⟨i,t,rfl,rfl⟩|⟨x,t,rfl,rfl⟩
  ·rcases cI hb with⟨j,u,rfl,e⟩|⟨y,u,rfl,e⟩
   ·injection e with e1 _;rw[e1]
   ·exact nomatch e
  ·rcases cI hb with⟨j,u,rfl,e⟩|⟨y,u,rfl,e⟩
   ·exact nomatch e
   ·injection e with e1 _;rw[e1]
 byValue:=fun k v h=>by
  rcases cI h with⟨i,t,rfl,rfl⟩|⟨x,t,rfl,rfl⟩ <;> rfl
 pyHash:=fun hv h=>by
  rcases cI hv with⟨i,t,rfl,rfl⟩|⟨x,t,rfl,rfl⟩
  ·exact wpAny_pyHash_int h
  ·exact wpAny_pyHash_str h
 eqBool:=fun hu hv h=>by
  rcases cI hu with⟨i,t,rfl,rfl⟩|⟨x,t,rfl,rfl⟩
  ·rcases cI hv with⟨j,u,rfl,rfl⟩|⟨y,u,rfl,rfl⟩
   ·rw[MI] at h;exact wpAny_eqBool_int h
   ·rw[MH] at h;exact SeqAt.EqAt.int_str i t y u _ _ _ _ h
  ·rcases cI hv with⟨j,u,rfl,rfl⟩|⟨y,u,rfl,rfl⟩
   ·rw[MG] at h;exact SeqAt.EqAt.str_int x t j u _ _ _ _ h
   ·rw[MF] at h;exact wpAny_eqBool_str h
 «strs» :=fun k x t v h=>by
  rcases cI h with⟨i,u,rfl,e⟩|⟨y,u,rfl,e⟩
  ·exact nomatch e
  ·injection e with e1 _
   subst e1;cases v <;> rfl
theorem xK (prog:da) (w:dc) (i:Int) (t:Tok):(aO prog w).is (.inl i) (.int i t)=true:=Du i t
theorem xJ (prog:da) (w:dc) (x:Str) (t:Tok):(aO prog w).is (.inr x) (.str x t)=true:=Dt x t
end L2
namespace L2
inductive V where
 |non|bl (b:Bool)|int (i:Int)|str (x:Str)|byt (b:Array UInt8)|flt (b:UInt64)|ref (a:af)|ty (n:String)
 deriving DecidableEq
noncomputable def RelV:V->ag->Prop
 |.non,u=>u=hW
 |.bl b,u=>u=sv b
 |.int i,u=>∃ t,u=ub i t
 |.str x,u=>∃ t,u=uc x t
 |.byt b,u=>∃ t,u=Value.bytes b t
 |.flt b,u=>∃ t,u=Value.float b t
 |.ref a,u=>u=b7 a
 |.ty n,u=>u=kz n
noncomputable abbrev Vals:List V->List ag->Prop:=jv RelV
theorem Vals.length (r:Vals xs us):xs.length=us.length:=iz r
theorem Vals.get:∀ {xs:List V}{us:List ag}{i:Nat}{x:V},Vals xs us->xs[i]?=we x->∃ u,us[i]?=we u/\RelV x u
 |_,_,_,_,.nil,e=>by simp at e
 |_,_,0,_,.cons r _,e=>by simp at e;subst e;exact⟨_,rfl,r⟩
 |_,_,i+1,x,.cons _ t,e=>by
  obtain⟨u,h1,h2⟩:=Vals.get (i:=i) (x:=x) t (by simpa using e);exact⟨u,by simpa using h1,h2⟩
theorem Vals.set (r:RelV x u):∀ {xs:List V}{us:List ag} (i:Nat),Vals xs us->Vals (xs.set i x) (us.set i u)
 |_,_,_,.nil=>.nil
 |_,_,0,.cons _ t=>.cons r t
 |_,_,i+1,.cons q t=>.cons q (Vals.set r i t)
theorem Vals.append:∀ {xs ys:List V}{us ws:List ag},Vals xs us->Vals ys ws->Vals (xs++ys) (us++ws)
 |_,_,_,_,.nil,s=>s
 |_,_,_,_,.cons r t,s=>.cons r (Vals.append t s)
theorem Vals.take:∀ {xs:List V}{us:List ag} (n:Nat),Vals xs us->Vals (xs.take n) (us.take n)
 |_,_,0,_=>.nil
 |_,_,_+1,.nil=>.nil
 |_,_,n+1,.cons r t=>.cons r (Vals.take n t)
theorem Vals.drop:∀ {xs:List V}{us:List ag} (n:Nat),Vals xs us->Vals (xs.drop n) (us.drop n)
 |_,_,0,r=>r
 |_,_,_+1,.nil=>.nil
 |_,_,n+1,.cons _ t=>Vals.drop n t
noncomputable def RelO:Option V->Option ag->Prop
 |some v,we u=>RelV v u
 |none,wf=>True
 |_,_=>False
noncomputable def KV {κ:Type}:List (κ×V)->List (κ×ag)->Prop:=jv fun(p:κ×V) (q:κ×ag)=>p.1=q.1/\RelV p.2 q.2
noncomputable def kV:Key->V
 |.inl i=>.int i
 |.inr x=>.str x
inductive HO where
 /-- a list -/
 |lst (xs:List V)
 /-- a tuple (never changes) -/
 |tup (xs:List V)
 /-- a dict whose keys are ints and texts;one whose keys are tuples of ints and texts (the empty one is both) -/
 |dK (kvs:List (Key×V))|dT (kvs:List (List Key×V))
 /-- a set of ints:its members,its size -/
 |set (S:Int->Bool) (n:Nat)
 /-- an instance of the class at C,its dict at dx,its attributes -/
 |ins (C dx:af) (fs:List (Str×V))
 /-- the dict of the instance at x -/
 |own (x:af)
 /-- the dict of an exception -/
 |xd (fs:List (Str×V))
 /-- a bound method,f of x -/
 |met (f x:af)
 /-- a range object lo,lo+1,.. below hi -/
 |rng (lo hi:Int)
 /-- a thing that is known to the object (the script;a dict while a loop walks it):read,never written while it is so -/
 |frz (o:Obj) (u:HO)
 /-- a code object's table -/
 |tbl (ps:Array ag)
 /-- any other thing,by what is true of its one object (a def of one's own:SetO a S n:=HO.ext fun h=> ..) -/
 |ext (φ:cy->Prop)
noncomputable abbrev Hp:=af->Option HO
noncomputable def upd (H:Hp) (a:af) (o:HO):Hp:=fun b=>if b=a then we o else H b
theorem aP:upd H a o a=we o:=by unfold upd;rw[if_pos rfl]
theorem aG (h:b≠a):upd H a o b=H b:=by unfold upd;rw[if_neg h]
theorem JG {H:Hp} (h:H a=we o) (h':H b=we u) (d:o≠u):a≠b:=by
 intro e;subst e;rw[h] at h';exact d (b9 h')
theorem aN {H:Hp} (h:H a=we o) (h':H b=wf):a≠b:=by
 intro e;subst e;rw[h] at h';cases h'
section
variable (P:da) (w:dc)
noncomputable def ObjOk (H:Hp) (h:cy) (a:af):HO->Prop
 |.lst xs=>xs.length<=sizeLine/\∃(its:List ag) (n:Nat),Vals xs its/\h.get? a=we { cls:=.type "list",data:=.seq its.toArray n }
 |.tup xs=>xs.length<=sizeLine/\∃ its:List ag,Vals xs its/\IsTup h a its.toArray
 |.dK kvs=>kvs.length<=sizeLine/\(a==fh)=false/\∃ vs,KV kvs vs/\h.DictOf (aO P w) a vs
 |.dT kvs=>kvs.length<=sizeLine/\(a==fh)=false/\∃ xs:List (List Key×af×ag),
   jv (fun(p:List Key×V) (q:List Key×af×ag)=>p.1=q.1/\H q.2.1=we (.tup (p.1.map kV))/\RelV p.2 q.2.2) kvs xs/\
   ∃ o es ep,h.get? a=we o/\o.ExactDict/\o.data=.dict es ep/\es.toList=xs.map (f8 (bx (aO P w)))/\(xs.map (·.1)).Nodup
 |.set S n=>h.SetOf (intKind P w) a S n
 |.ins C dx fs=>H dx=we (.own a)/\fs.length<=1000/\dx≠a/\h.get? a=we (iq C dx)/\
   ∃ mA,h.Ns1 dx mA/\(∀ f,RelO (fs.lookup f) (mA f))/\ud mA (fs.map (·.1))
 |.own _=>∃ o,h.get? a=we o
 |.xd fs=>∃ mA,h.Ns1 a mA/\∀ f,RelO (fs.lookup f) (mA f)
 |.rng lo hi=>∃ t u v,h.get? a=we { cls:=.type "range",data:=.fields #[.int lo t,.int hi u,.int 1 v] }
 |.frz o u=>h.get? a=we o/\ObjOk H h a u
 |.tbl ps=>h.get? a=we { cls:=.none,data:=.fields ps }
 |.met f x=>h.get? a=we (pq (.ref f) (.ref x))
 |.ext φ=>φ h/\(∃ o,h.get? a=we o)/\∀ h1 h2:cy,φ h1->(∀ o,h1.get? a=we o->h2.get? a=we o)->φ h2
noncomputable def HOk (H:Hp) (h:cy):Prop:=∀ a o,H a=we o->ObjOk P w H h a o
end
section
variable {P:da}{w:dc}{H H':Hp}{h h':cy}{a:af}{o:HO}
theorem ObjOk.lt (x:ObjOk P w H h a o):a<h.objs.size:=by
 cases o with
 |lst xs=>obtain⟨_,_,_,_,e⟩:=x;exact bi e
 |tup xs=>obtain⟨_,_,_,p⟩:=x;exact p.lt
 |dK kvs=>obtain⟨_,_,_,_,o,_,_,e,_⟩:=x;exact bi e
 |dT kvs=>obtain⟨_,_,_,_,o,_,_,e,_⟩:=x;exact bi e
 |set S n=>obtain⟨o,_,_,_,e,_⟩:=x;exact bi e
 |ins C dx fs=>obtain⟨_,_,_,e,_⟩:=x;exact bi e
 |own y=>obtain⟨_,e⟩:=x;exact bi e
 |xd fs=>obtain⟨_,⟨_,_,_,e,_⟩,_⟩:=x;exact bi e
 |rng lo hi=>obtain⟨_,_,_,e⟩:=x;exact bi e
 |frz ob u=>obtain⟨e,_⟩:=x;exact bi e
 |tbl ps=>exact bi (show h.get? a=we _ from x)
 |met f y=>exact bi (show h.get? a=we _ from x)
 |ext φ=>obtain⟨_,⟨_,e⟩,_⟩:=x;exact bi e
theorem jv.mapP:∀ {l₁:List α}{l₂:List β},jv F l₁ l₂->(∀ a b,F a b->G a b)->jv G l₁ l₂
 |_,_,.nil,_=>.nil
 |_,_,.cons r t,f=>.cons (f _ _ r) (jv.mapP t f)
theorem ObjOk.stay (x:ObjOk P w H h a o) (k:∀ b u,(b=a∨H b=we (.own a))->h.get? b=we u->h'.get? b=we u)
  (ho:∀ b,H b=we (.own a)->H' b=we (.own a)) (ht:∀ b xs,H b=we (.tup xs)->H' b=we (.tup xs)):ObjOk P w H' h' a o:=by
 induction o with
 |lst xs=>obtain⟨z,its,n,r,e⟩:=x;exact⟨z,its,n,r,k _ _ (.inl rfl) e⟩
 |tup xs=>obtain⟨z,its,r,ob,e,c⟩:=x;exact⟨z,its,r,ob,k _ _ (.inl rfl) e,c⟩
 |dK kvs=>obtain⟨z,y,vs,r,ob,es,ep,e,c⟩:=x;exact⟨z,y,vs,r,ob,es,ep,k _ _ (.inl rfl) e,c⟩
 |dT kvs=>
  obtain⟨z,y,xs,r,ob,es,ep,e,c⟩:=x;exact⟨z,y,xs,jv.mapP r fun p q z=>⟨z.1,ht _ _ z.2.1,z.2.2⟩,ob,es,ep,k _ _ (.inl rfl) e,c⟩
 |set S n=>obtain⟨ob,es,ep,t,e,c⟩:=x;exact⟨ob,es,ep,t,k _ _ (.inl rfl) e,c⟩
 |ins C dx fs=>
  obtain⟨d,z,ne,e,mA,⟨od,es,ep,e2,c⟩,r⟩:=x;exact⟨ho _ d,z,ne,k _ _ (.inl rfl) e,mA,⟨od,es,ep,k _ _ (.inr d) e2,c⟩,r⟩
 |own y=>obtain⟨ob,e⟩:=x;exact⟨ob,k _ _ (.inl rfl) e⟩
 |xd fs=>obtain⟨mA,⟨od,es,ep,e,c⟩,r⟩:=x;exact⟨mA,⟨od,es,ep,k _ _ (.inl rfl) e,c⟩,r⟩
 |rng lo hi=>obtain⟨t,u,v,e⟩:=x;exact⟨t,u,v,k _ _ (.inl rfl) e⟩
 |frz ob u ih=>obtain⟨e,q⟩:=x;exact⟨k _ _ (.inl rfl) e,ih q⟩
 |tbl ps=>
  have e:h.get? a=we { cls:=.none,data:=.fields ps }:=x;show h'.get? a=we { cls:=.none,data:=.fields ps };exact k a _ (.inl rfl) e
 |met f y=>
  have e:h.get? a=we (pq (.ref f) (.ref y)):=x;show h'.get? a=we (pq (.ref f) (.ref y));exact k a _ (.inl rfl) e
 |ext φ=>obtain⟨p,⟨o,e⟩,st⟩:=x;exact⟨st _ _ p fun o q=>k _ _ (.inl rfl) q,⟨o,k _ _ (.inl rfl) e⟩,st⟩
theorem HOk.lt (x:HOk P w H h) (e:H a=we o):a<h.objs.size:=(x a o e).lt
theorem HOk.fresh (x:HOk P w H h) (e:h.objs.size<=a):H a=wf:=by
 cases q:H a with
 |none=>rfl
 |some u=>exact absurd (ca (x.lt q) e) (gg _)
theorem HOk.kept (x:HOk P w H h) (k:∀ b u,h.get? b=we u->h'.get? b=we u):HOk P w H h':=fun a o e=>
 (x a o e).stay (fun b u _ q=>k b u q) (fun _ q=>q) fun _ _ q=>q
theorem HOk.laid (x:HOk P w H h) (k:∀ b u,h.get? b=we u->h'.get? b=we u) (hp:h.objs.size<=a) (new:ObjOk P w (upd H a o) h' a o):HOk P w (upd H a o) h':=fun b u e=>by
 have hn:=x.fresh hp
 by_cases hb:b=a
 ·subst hb;rw[aP] at e;cases e;exact new
 ·rw[aG hb] at e;exact(x b u e).stay (fun c v _ q=>k c v q) (fun c q=>by rw[aG (aN q hn)];exact q) fun c xs q=>by rw[aG (aN q hn)];exact q
end
noncomputable def Rd (H:Hp) (a:af) (u:HO):Prop:=H a=we u∨∃ o,H a=we (.frz o u)
theorem Rd.ok (r:Rd H a u) (x:HOk P w H h):ObjOk P w H h a u:=by
 rcases r with r|⟨o,r⟩
 ·exact x a u r
 ·obtain⟨_,q⟩:=x a _ r;exact q
noncomputable def Mut:Option HO->Prop
 |some (.lst _)=>True
 |some (.dK _)=>True
 |some (.dT _)=>True
 |some (.set _ _)=>True
 |some (.ins _ _ _)=>True
 |some (.ext _)=>True
 |_=>False
section
variable {P:da}{w:dc}{H:Hp}{h h':cy}{x e:af}{o':HO}
theorem HOk.write (ok:HOk P w H h) (mu:Mut (H x)) (he:e=x∨H e=we (.own x)) (k:∀ b u,b≠e->h.get? b=we u->h'.get? b=we u) (heo:∃ u,h'.get? e=we u)
  (new:ObjOk P w (upd H x o') h' x o'):HOk P w (upd H x o') h':=fun b u q=>by
 have nown:∀ c y,H c=we (.own y)->c≠x:=fun c y r z=>by subst z;rw[r] at mu;exact mu
 have ntup:∀ c xs,H c=we (.tup xs)->c≠x:=fun c xs r z=>by subst z;rw[r] at mu;exact mu
 by_cases hb:b=x
 ·subst hb;rw[aP] at q;cases q;exact new
 ·rw[aG hb] at q
  by_cases hbe:b=e
  ·have q':H b=we (.own x):=by
    rcases he with z|z
    ·exact absurd (hbe.trans z) hb
    ·rw[hbe];exact z
   rw[q] at q';cases q';obtain⟨v,hv⟩:=heo;exact⟨v,by rw[hbe];exact hv⟩
  ·refine(ok b u q).stay (fun c v hc r=>k c v ?_ r) (fun c r=>by rw[aG (nown c b r)];exact r) fun c xs r=>by rw[aG (ntup c xs r)];exact r
   rcases hc with rfl|hc
   ·exact hbe
   ·rintro rfl;rcases he with z|z
    ·exact nown c b hc z
    ·rw[hc] at z;cases z;exact hb rfl
end
structure Un (fs ex:List af) (H H':Hp) (h h':cy):Prop where
 keep:∀ b o,h.get? b=we o->H b=wf->b∉fs->b∉ex->h'.get? b=we o
 slot:∀ b o,h.get? b=we o->H b=wf->b∈fs->b∉ex->∃ sl,h'.get? b=we { o with slots:=sl }
 free:∀ b o,h.get? b=we o->H b=wf->b∉ex->H' b=wf
 there:∀ b o,h.get? b=we o->b∉ex->∃ o',h'.get? b=we o'
 tups:∀ b xs,H b=we (.tup xs)->H' b=we (.tup xs)
 frzs:∀ b o u,H b=we (.frz o u)->H' b=we (.frz o u)
 tbls:∀ b ps,H b=we (.tbl ps)->∃ more,H' b=we (.tbl (ps++more))
section
variable {fs fs' ex ex':List af}{H H1 H2:Hp}{h h1 h2 h':cy}{a x e:af}{o:HO}
theorem Un.any (u:Un fs ex H H1 h h1) (q:h.get? b=we ob) (n:H b=wf) (hx:b∉ex):∃ sl,h1.get? b=we { ob with slots:=sl }:=by
 by_cases hb:b∈fs
 ·exact u.slot b ob q n hb hx
 ·exact⟨ob.slots,u.keep b ob q n hb hx⟩
theorem Un.kept (k:∀ b u,h.get? b=we u->h'.get? b=we u):Un fs ex H H h h':=
 ⟨fun b ob q _ _ _=>k b ob q,fun b ob q _ _ _=>⟨ob.slots,k b ob q⟩,fun _ _ _ n _=>n,fun b ob q _=>⟨ob,k b ob q⟩,fun _ _ q=>q,fun _ _ _ q=>q,fun _ ps q=>⟨#[],by rw[q];simp⟩⟩
theorem Un.refl:Un fs ex H H h h:=Un.kept fun _ _ q=>q
theorem Un.laid (k:∀ b u,h.get? b=we u->h'.get? b=we u) (hp:h.objs.size<=a) (hn:H a=wf):Un fs ex H (upd H a o) h h' where
 keep:=fun b u q _ _ _=>k b u q
 slot:=fun b u q _ _ _=>⟨u.slots,k b u q⟩
 free:=fun b u q n _=>by rw[aG (ci (ca (bi q) hp))];exact n
 there:=fun b u q _=>⟨u,k b u q⟩
 tups:=fun b xs q=>by rw[aG (aN q hn)];exact q
 frzs:=fun b u xs q=>by rw[aG (aN q hn)];exact q
 tbls:=fun b ps q=>⟨#[],by rw[aG (aN q hn),q];simp⟩
theorem Un.write (mu:Mut (H x)) (he:e=x∨H e=we (.own x)) (k:∀ b u,b≠e->h.get? b=we u->h'.get? b=we u) (heo:∃ u,h'.get? e=we u):Un fs ex H (upd H x o) h h':=by
 have hx:∀ b,H b=wf->b≠x:=fun b n z=>by subst z;rw[n] at mu;exact mu
 have hb:∀ b,H b=wf->b≠e:=fun b n z=>by
  subst z;rcases he with r|r
  ·exact hx b n r
  ·rw[n] at r;cases r
 have hm:∀ b u,H b=we u->¬ Mut (we u)->b≠x:=fun b u q nm z=>by subst z;rw[q] at mu;exact nm mu
 refine⟨fun b u q n _ _=>k b u (hb b n) q,fun b u q n _ _=>⟨u.slots,k b u (hb b n) q⟩,fun b u q n _=>by rw[aG (hx b n)];exact n,fun b u q _=> ?_,
  fun b xs q=>by rw[aG (hm b _ q fun z=>z)];exact q,fun b u xs q=>by rw[aG (hm b _ q fun z=>z)];exact q,fun b ps q=>⟨#[],by rw[aG (hm b _ q fun z=>z),q];simp⟩⟩
 by_cases hbe:b=e
 ·subst hbe;exact heo
 ·exact⟨u,k b u hbe q⟩
end
noncomputable def trk (h:cy) (H:Hp):List af:=(bu h.objs.size).filter fun a=>(H a).isSome
noncomputable def Gp (h:cy) (H:Hp):cy:=fj h (trk h H)
theorem DH (h:cy) (H:Hp):(Gp h H).objs.size=h.objs.size:=PySem.W.hideAll_size _ _
theorem Go (e:h.get? b=we o) (n:H b=wf):(Gp h H).get? b=we o:=
 j5 _ e fun hm=>by
  have q:(H b).isSome=true:=(b4.mp hm).2;rw[n] at q;simp at q
theorem Jm (e:(Gp h H).get? b=we o):h.get? b=we o/\H b=wf:=by
 have e':h.get? b=we o:=lw (trk h H) e;refine⟨e',?_⟩;cases q:H b with
 |none=>rfl
 |some x=>
  have hm:b∈trk h H:=b4.mpr ⟨jt.mpr (bi e'),by simp[q]⟩;have z:(Gp h H).get? b=wf:=fk (trk h H) hm;rw[z] at e;cases e
end L2
namespace L2
structure Mod (K:aa) (mg:Str->Option ag) (base:cy):Prop where
 kin:K.In base
 glob:base.Ns b8 mg
 blt:∃ mb,base.Ns builtinsNs mb/\∀ x:Str,x≠"__name__"->mb x=db x
 nolimit:base.NoLimit
structure Cx where
 prog:da
 w:dc
 K:aa
 mg:Str->Option ag
 base:cy
 A:de
 N:List Str
 s₀:am
 H₀:Hp
 env:Env
 outer:List Env
 stack:List Env
 ex:List af
 fn:Str->Bool
 calm:Bool
 pn:List (af×Obj)
 xe:ag->am->Prop
noncomputable def frs (l:List Env):List af:=l.filterMap (·.frame)
noncomputable abbrev Cx.fs (X:Cx):List af:=frs X.outer
noncomputable def Vis (sc:j6) (x:Str):Prop:=sc.names.lookup x=we .local∨sc.names.lookup x=we .cell∨sc.names.lookup x=we .free
noncomputable def Loc (sc:j6) (x:Str):Prop:=sc.names.lookup x=we .local∨sc.names.lookup x=we .cell
noncomputable def Qo (env:Env) (h:cy) (m:Str->Option ag) (x:Str) (u:ag):Prop:=
 (env.kindOf x=we .local/\m x=we u)∨((env.kindOf x=we .cell∨env.kindOf x=we .free)/\∃ c,env.cells.lookup x=we c/\h.IsCell c (we u))
structure Cx.Ok (X:Cx):Prop where
 mod:Mod X.K X.mg X.base
 kind:X.env.scope.kind=.function
 glob:X.env.globals=b8
 blt:X.env.builtins=builtinsNs
 above:X.s₀.heap.objs.size<=X.env.locals
 inj:∀ x y c,X.env.cells.lookup x=we c->X.env.cells.lookup y=we c->x=y
 has:∀ x,(X.env.kindOf x=we .cell∨X.env.kindOf x=we .free)->∃ c,X.env.cells.lookup x=we c
 cab:∀ x c,X.fn x=true->X.env.cells.lookup x=we c->X.s₀.heap.objs.size<=c
 hd:X.calm=true->X.A.handled=wf
 frames:X.A.frames=we X.stack
 stk:X.stack=X.outer∨(X.stack=X.env::X.outer/\X.env.frame=we X.env.locals)
 exf:∀ b∈X.ex,b≠X.env.locals/\∀ x c,X.env.cells.lookup x=we c->c≠b
 bs:∀ b o,X.base.get? b=we o->X.s₀.heap.get? b=we o/\X.H₀ b=wf
 bsz:X.base.objs.size<=X.s₀.heap.objs.size
 noex:∀ b o,X.base.get? b=we o->b∉X.ex
 exfs:∀ b∈X.ex,b∉X.fs
 funs:X.s₀.heap.FunFrames X.base X.outer
 frf:∀ b∈X.fs,X.H₀ b=wf
structure Inv (X:Cx) (pins:List (af×Obj)) (σ:List (Option V)) (H:Hp) (s:am):Prop where
 ok:X.Ok
 os:s.os=X.s₀.os
 bare:mh s.gens
 base:Un X.fs X.ex X.H₀ H X.s₀.heap s.heap
 loc:∃ m,s.heap.Ns X.env.locals m/\∀(i:Nat) (x:Str) (v:V),X.N[i]?=we x->σ[i]?=we (we v)->Vis X.env.scope x->∃ u,RelV v u/\Qo X.env s.heap m x u
 cell:∀ x c,X.env.cells.lookup x=we c->∃ v,s.heap.IsCell c v
 free:H X.env.locals=wf
 freeC:∀ x c,X.env.cells.lookup x=we c->H c=wf
 pin:∀ p∈X.pn++pins,s.heap.get? p.1=we p.2/\H p.1=wf/\p.1≠X.env.locals/\p.1∉X.fs/\∀ v,p.2.data≠ .cell v
 hok:HOk X.prog X.w H s.heap
 len:σ.length=X.N.length
section
variable {X:Cx}{pins:List (af×Obj)}{σ:List (Option V)}{H H':Hp}{s:am}{h':cy}
theorem Cx.Ok.nofr (ok:X.Ok) (e:X.base.get? b=we o):b∉X.fs:=fun hb=>by
 have:=(ok.funs.mem hb).1
 rw[e] at this;cases this
theorem Inv.bs (I:Inv X pins σ H s):∀ b o,X.base.get? b=we o->s.heap.get? b=we o/\H b=wf:=fun b o e=>
 ⟨I.base.keep b o (I.ok.bs b o e).1 (I.ok.bs b o e).2 (I.ok.nofr e) (I.ok.noex b o e),I.base.free b o (I.ok.bs b o e).1 (I.ok.bs b o e).2 (I.ok.noex b o e)⟩
theorem Inv.bk (I:Inv X pins σ H s):∀ b o,X.base.get? b=we o->s.heap.get? b=we o:=fun b o e=>(I.bs b o e).1
theorem Inv.mod (I:Inv X pins σ H s):Mod X.K X.mg X.base:=I.ok.mod
theorem Inv.kIn (I:Inv X pins σ H s):X.K.In s.heap:=I.ok.mod.kin.keeps I.bk
theorem Inv.lt (I:Inv X pins σ H s):X.env.locals<s.heap.objs.size:=let ⟨_,hn,_⟩:=I.loc;hn.lt
theorem Inv.sz (I:Inv X pins σ H s):X.s₀.heap.objs.size<=s.heap.objs.size:=ce I.ok.above (ir I.lt)
theorem Inv.nofs (I:Inv X pins σ H s) (h:s.heap.objs.size<=a):a∉X.fs:=fun hb=>by
 obtain⟨_,o,ho,_⟩:=I.ok.funs.mem hb;exact absurd (ca (bi ho) (ce I.sz h)) (gg _)
theorem Inv.cne (I:Inv X pins σ H s):∀ x c,X.env.cells.lookup x=we c->c≠X.env.locals:=fun x c e z=>by
 obtain⟨v,o,ho,hd⟩:=I.cell x c e;obtain⟨m,⟨o',es,ep,ho',hd',_⟩,_⟩:=I.loc;rw[z,ho'] at ho;cases ho;rw[hd'] at hd;cases hd
theorem Inv.funs (I:Inv X pins σ H s):s.heap.FunFrames X.base X.outer:=by
 have all:∀(l:List Env),(∀ b∈frs l,b∈X.fs)->X.s₀.heap.FunFrames X.base l->s.heap.FunFrames X.base l:=by
  intro l
  induction l with
  |nil=>intro _ _;trivial
  |cons env r ih=>
   intro hs hl;obtain⟨hk,⟨L,o,hf,hn,ho,hd⟩,hr⟩:=hl;have hL:L∈X.fs:=hs L (by unfold frs;rw[j7,hf];exact au);obtain⟨sl,e⟩:=I.base.slot L o ho (I.ok.frf L hL) hL fun z=>I.ok.exfs L z hL;exact⟨hk,⟨L,_,hf,hn,e,hd⟩,ih (fun b hb=>hs b (by unfold frs;rw[j7,hf];exact ai _ hb)) hr⟩
 exact all X.outer (fun _ hb=>hb) I.ok.funs
theorem Inv.stack (I:Inv X pins σ H s):s.heap.FunFrames X.base X.stack:=by
 rcases I.ok.stk with e|⟨e,hf⟩
 ·rw[e];exact I.funs
 ·rw[e];obtain⟨m,hn,_⟩:=I.loc;refine .cons (by rw[I.ok.kind];decide) hf hn ?_ I.funs;exact Heap.get?_none_of_le (ce I.ok.bsz I.ok.above)
theorem Inv.stkSub (I:Inv X pins σ H s):∀ b∈frs X.stack,b∈X.env.locals::X.fs:=fun b hb=>by
 rcases I.ok.stk with e|⟨e,hf⟩
 ·rw[e] at hb;exact ai _ hb
 ·rw[e] at hb;unfold frs at hb;rw[j7,hf] at hb;exact hb
theorem Inv.stkFree (I:Inv X pins σ H s):∀ b∈frs X.stack,H b=wf:=fun b hb=>by
 rcases ah.mp (I.stkSub b hb) with e|hb
 ·rw[e];exact I.free
 ·obtain⟨_,o,ho,_⟩:=I.ok.funs.mem hb;exact I.base.free b o ho (I.ok.frf b hb) fun z=>I.ok.exfs b z hb
theorem Inv.step {ch:List af} (I:Inv X pins σ H s)
  (hch:∀ b∈ch,(b∈X.ex∨X.s₀.heap.objs.size<=b)/\b≠X.env.locals/\(∀ x c,X.env.cells.lookup x=we c->c≠b)/\∀ p∈X.pn++pins,p.1≠b)
  (keep:∀ b o,b≠X.env.locals->b∉X.fs->b∉ch->s.heap.get? b=we o->H b=wf->h'.get? b=we o)
  (slot:∀ b o,b≠X.env.locals->b∈X.fs->b∉ch->s.heap.get? b=we o->H b=wf->∃ sl,h'.get? b=we { o with slots:=sl }) (free:∀ b o,b∉ch->s.heap.get? b=we o->H b=wf->H' b=wf)
  (there:∀ b o,b∉ch->s.heap.get? b=we o->∃ o',h'.get? b=we o')
  (tups:∀ b xs,H b=we (.tup xs)->H' b=we (.tup xs)) (frzs:∀ b o u,H b=we (.frz o u)->H' b=we (.frz o u)) (tbls:∀ b ps,H b=we (.tbl ps)->∃ more,H' b=we (.tbl (ps++more)))
  (ns:∀ m,s.heap.Ns X.env.locals m->h'.Ns X.env.locals m) (hok:HOk X.prog X.w H' h') (hg:mh g'):
  Inv X pins σ H' { s with heap:=h',gens:=g',drawn:=d',toks:=t' }:=by
 have neL:∀ b o,X.s₀.heap.get? b=we o->b≠X.env.locals:=fun b o e=>ci (ca (bi e) I.ok.above);have neC:∀ b o,X.s₀.heap.get? b=we o->b∉X.ex->b∉ch:=fun b o e hx hb=>by
  rcases(hch b hb).1 with z|z
  ·exact hx z
  ·exact absurd (ca (bi e) z) (gg _)
 have cellK:∀ x c,X.env.cells.lookup x=we c->∀ v,s.heap.IsCell c v->h'.IsCell c v:=fun x c e v ⟨o,ho,hd⟩=>by
  have nch:c∉ch:=fun z=>(hch c z).2.2.1 x c e rfl
  by_cases hc:c∈X.fs
  ·obtain⟨sl,q⟩:=slot c o (I.cne x c e) hc nch ho (I.freeC x c e);exact⟨_,q,hd⟩
  ·exact⟨o,keep c o (I.cne x c e) hc nch ho (I.freeC x c e),hd⟩
 refine⟨I.ok,I.os,hg,⟨fun b o e n hb hx=> ?_,fun b o e n hb hx=> ?_,fun b o e n hx=> ?_,fun b o e hx=> ?_,fun b xs e=>tups b xs (I.base.tups b xs e),fun b o xs e=>frzs b o xs (I.base.frzs b o xs e),fun b ps e=> ?_⟩,?_,fun x c e=> ?_,?_,fun x c e=> ?_,fun p hp=> ?_,hok,I.len⟩
 ·exact keep b o (neL b o e) hb (neC b o e hx) (I.base.keep b o e n hb hx) (I.base.free b o e n hx)
 ·obtain⟨sl,e1⟩:=I.base.slot b o e n hb hx;obtain⟨sl',e2⟩:=slot b _ (neL b o e) hb (neC b o e hx) e1 (I.base.free b o e n hx);exact⟨sl',e2⟩
 ·obtain⟨o',e1⟩:=I.base.there b o e hx;exact free b o' (neC b o e hx) e1 (I.base.free b o e n hx)
 ·obtain⟨o',e1⟩:=I.base.there b o e hx;exact there b o' (neC b o e hx) e1
 ·obtain⟨m1,e1⟩:=I.base.tbls b ps e;obtain⟨m2,e2⟩:=tbls b _ e1;exact⟨m1++m2,by rw[e2,Array.append_assoc]⟩
 ·obtain⟨m,hn,hl⟩:=I.loc;refine⟨m,ns m hn,fun i x v e1 e2 e3=> ?_⟩;obtain⟨u,r,l⟩:=hl i x v e1 e2 e3;refine⟨u,r,?_⟩;rcases l with l|⟨k,c,e,z⟩
  ·exact .inl l
  ·exact .inr ⟨k,c,e,cellK x c e _ z⟩
 ·obtain⟨v,z⟩:=I.cell x c e;exact⟨v,cellK x c e v z⟩
 ·obtain⟨m,⟨o,_,_,ho,_⟩,_⟩:=I.loc;exact free _ o (fun z=>(hch _ z).2.1 rfl) ho I.free
 ·obtain⟨v,o,ho,hd⟩:=I.cell x c e;exact free c o (fun z=>(hch c z).2.2.1 x c e rfl) ho (I.freeC x c e)
 ·obtain⟨e,n,ne,nf,d⟩:=I.pin p hp;have nch:p.1∉ch:=fun z=>(hch p.1 z).2.2.2 p hp rfl;exact⟨keep p.1 p.2 ne nf nch e n,free p.1 p.2 nch e n,ne,nf,d⟩
theorem Inv.un (I:Inv X pins σ H s) (u:Un X.fs [] H H' s.heap h') (hok:HOk X.prog X.w H' h'):Inv X pins σ H' { s with heap:=h',toks:=t' }:=by
 obtain⟨m,⟨o,es,ep,ho,r⟩,_⟩:=id I.loc;obtain⟨sl,hL⟩:=u.any ho I.free (by simp);exact I.step (g':=s.gens) (d':=s.drawn) (ch:=[]) (fun _ z=>nomatch z) (fun b o _ hb _ e n=>u.keep b o e n hb (by simp)) (fun b o _ hb _ e n=>u.slot b o e n hb (by simp)) (fun b o _ e n=>u.free b o e n (by simp)) (fun b o _ e=>u.there b o e (by simp)) u.tups u.frzs u.tbls (fun m' hm=>by
  obtain⟨o',es',ep',ho',r'⟩:=hm;rw[ho] at ho';cases ho';exact⟨_,es',ep',hL,r'⟩) hok I.bare
theorem Inv.call (I:Inv X pins σ H s) (u:Un (frs X.stack) ch H H' s.heap h') (hok:HOk X.prog X.w H' h') (hg:mh g')
  (hch:∀ b∈ch,(b∈X.ex∨X.s₀.heap.objs.size<=b)/\b≠X.env.locals/\(∀ x c,X.env.cells.lookup x=we c->c≠b)/\∀ p∈X.pn++pins,p.1≠b):
  Inv X pins σ H' { s with heap:=h',gens:=g',drawn:=d',toks:=t' }:=by
 obtain⟨m,⟨o,es,ep,ho,r⟩,_⟩:=id I.loc;obtain⟨sl,hL⟩:=u.any ho I.free fun z=>(hch _ z).2.1 rfl;exact I.step (ch:=ch) hch (fun b o hL hb hc e n=>u.keep b o e n (fun z=>(ah.mp (I.stkSub b z)).elim hL hb) hc) (fun b o _ _ hc e n=>u.any e n hc) (fun b o hc e n=>u.free b o e n hc) (fun b o hc e=>u.there b o e hc) u.tups u.frzs u.tbls (fun m' hm=>by
  obtain⟨o',es',ep',ho',r'⟩:=hm;rw[ho] at ho';cases ho';exact⟨_,es',ep',hL,r'⟩) hok hg
theorem Inv.turned (I:Inv X pins σ H s) (k:∀ b o,b≠it->s.heap.get? b=we o->h'.get? b=we o) (hn:H it=wf) (hL:it≠X.env.locals)
  (h1:it∈X.ex∨X.s₀.heap.objs.size<=it) (h2:∀ x c,X.env.cells.lookup x=we c->c≠it) (h3:∀ p∈X.pn++pins,p.1≠it):Inv X pins σ H { s with heap:=h',toks:=t' }:=by
 have nit:∀ b u,H b=we u->b≠it:=fun b u e z=>by rw[z,hn] at e;cases e
 refine I.step (g':=s.gens) (d':=s.drawn) (ch:=[it]) (fun b hb=> ?_) (fun b o _ _ hc e _=>k b o (fun z=>hc (by simp[z])) e) (fun b o _ _ hc e _=>⟨o.slots,k b o (fun z=>hc (by simp[z])) e⟩) (fun _ _ _ _ n=>n)
  (fun b o hc e=>⟨o,k b o (fun z=>hc (by simp[z])) e⟩) (fun _ _ e=>e) (fun _ _ _ e=>e) (fun b ps e=>⟨#[],by rw[e];simp⟩) (fun m hm=> ?_) (fun b u e=> ?_) I.bare
 ·have e:b=it:=by simpa using hb
  subst e;exact⟨h1,hL,h2,h3⟩
 ·obtain⟨o,es,ep,ho,r⟩:=hm;exact⟨o,es,ep,k _ o (bt hL) ho,r⟩
 ·refine(I.hok b u e).stay (fun c v hc q=>k c v ?_ q) (fun _ q=>q) fun _ _ q=>q;rcases hc with z|z
  ·rw[z];exact nit b u e
  ·exact nit c _ z
theorem Inv.tok (I:Inv X pins σ H s) (t:Nat):Inv X pins σ H { s with toks:=t }:=I.un (h':=s.heap) (t':=t) Un.refl I.hok
theorem Inv.kept (I:Inv X pins σ H s) (k:∀ b u,s.heap.get? b=we u->h'.get? b=we u):Inv X pins σ H { s with heap:=h',toks:=t' }:=I.un (Un.kept k) (I.hok.kept k)
theorem Inv.laid (I:Inv X pins σ H s) (k:∀ b u,s.heap.get? b=we u->h'.get? b=we u) (hp:s.heap.objs.size<=a) (new:ObjOk X.prog X.w (upd H a o) h' a o):
  Inv X pins σ (upd H a o) { s with heap:=h',toks:=t' }:=I.un (Un.laid k hp (I.hok.fresh hp)) (I.hok.laid k hp new)
theorem Inv.write (I:Inv X pins σ H s) (mu:Mut (H x)) (he:e=x∨H e=we (.own x)) (k:∀ b u,b≠e->s.heap.get? b=we u->h'.get? b=we u) (heo:∃ u,h'.get? e=we u)
  (new:ObjOk X.prog X.w (upd H x o) h' x o):Inv X pins σ (upd H x o) { s with heap:=h',toks:=t' }:=I.un (Un.write mu he k heo) (I.hok.write mu he k heo new)
theorem Inv.weak (I:Inv X pins σ H s) (hl:σ'.length=σ.length) (w:∀(i:Nat) v,σ'[i]?=we (we v)->σ[i]?=we (we v)):Inv X pins σ' H s:=
 ⟨I.ok,I.os,I.bare,I.base,let ⟨m,hn,hl'⟩:=I.loc;⟨m,hn,fun i x v e1 e2 e3=>hl' i x v e1 (w i v e2) e3⟩,I.cell,I.free,I.freeC,I.pin,I.hok,hl.trans I.len⟩
theorem Inv.pins_of (I:Inv X pins σ H s) (h:∀ p∈pins',s.heap.get? p.1=we p.2/\H p.1=wf/\p.1≠X.env.locals/\p.1∉X.fs/\∀ v,p.2.data≠ .cell v):Inv X pins' σ H s:=
 ⟨I.ok,I.os,I.bare,I.base,I.loc,I.cell,I.free,I.freeC,fun p hp=>(cz.mp hp).elim (fun z=>I.pin p (di _ z)) (h p),I.hok,I.len⟩
theorem nodup_ix {N:List Str} (hN:N.Nodup) {i j:Nat} (a:N[i]?=we x) (b:N[j]?=we x):i=j:=by
 obtain⟨h1,e1⟩:=bh.mp a;obtain⟨h2,e2⟩:=bh.mp b;exact(List.getElem_inj hN).mp (e1.trans e2.symm)
theorem uT (I:Inv X pins σ H s) (hN:X.N.Nodup) (hi:X.N[i]?=we x) (hx:Loc X.env.scope x) (r:RelV v u)
  (h:∀ s',Inv X pins (σ.set i (we v)) H s'->(∃ a,fm a s.heap s'.heap/\(a=X.env.locals∨X.env.cells.lookup x=we a))->Q () s') (hf:X.fn x=true∨X.env.scope.names.lookup x=we .local:=by first|exact .inl rfl|exact .inr rfl|assumption):aw M A (storeName X.env x u) Q E s:=by
 obtain⟨m,hn,hl⟩:=id I.loc;have hcls:(X.env.scope.kind== .class||(X.env.scope.kind== .module&&X.env.locals !=X.env.globals))=false:=by rw[I.ok.kind];rfl
 have hiσ:i<σ.length:=by rw[I.len];exact(bh.mp hi).1
 have cne:=I.cne;have tracked:∀ {a:af}{h':cy},(∃ o,s.heap.get? a=we o/\H a=wf)->fm a s.heap h'->HOk X.prog X.w H h':=fun {a h'} ha hs b ob e=>by
  obtain⟨_,_,hfree⟩:=ha;refine(I.hok b ob e).stay (fun c w' hc q=>(hs.2 c ?_).trans q) (fun _ q=>q) fun _ _ q=>q;rintro rfl;rcases hc with rfl|hc
  ·rw[hfree] at e;cases e
  ·rw[hfree] at hc;cases hc
 rcases hx with hk|hk
 ·refine wpAny_storeName_local hk hn (fun h' hn' hs=> ?_) hcls;obtain⟨oL,_,_,hoL,_⟩:=id hn;refine h _ ⟨I.ok,I.os,I.bare,⟨fun b o e n hb hx=> ?_,fun b o e n hb hx=> ?_,I.base.free,fun b o e hx=> ?_,I.base.tups,I.base.frzs,I.base.tbls⟩,⟨_,hn',fun j y v' e1 e2 e3=> ?_⟩,fun y c e=> ?_,I.free,I.freeC,fun p hp=> ?_,tracked ⟨oL,hoL,I.free⟩ hs,by simpa using I.len⟩ ⟨_,hs,.inl rfl⟩
  ·exact(hs.2 b (ci (ca (bi e) I.ok.above))).trans (I.base.keep b o e n hb hx)
  ·obtain⟨sl,e1⟩:=I.base.slot b o e n hb hx;exact⟨sl,(hs.2 b (ci (ca (bi e) I.ok.above))).trans e1⟩
  ·obtain⟨o',e1⟩:=I.base.there b o e hx;exact⟨o',(hs.2 b (ci (ca (bi e) I.ok.above))).trans e1⟩
  ·by_cases hj:j=i
   ·subst hj;rw[hi] at e1;cases e1;rw[dm hiσ] at e2;cases e2;exact⟨u,r,.inl ⟨hk,by simp⟩⟩
   ·rw[fu (bt hj)] at e2;obtain⟨u',r',q⟩:=hl j y v' e1 e2 e3;refine⟨u',r',?_⟩;rcases q with⟨k,e⟩|⟨k,c,e,z⟩
    ·refine .inl ⟨k,?_⟩
     have:y≠x:=fun e=>hj (nodup_ix hN e1 (e ▸ hi))
     simp[this,e]
    ·exact .inr ⟨k,c,e,z.sameBut hs (cne y c e)⟩
  ·obtain⟨w',z⟩:=I.cell y c e;exact⟨w',z.sameBut hs (cne y c e)⟩
  ·obtain⟨e,n,ne,nf,d⟩:=I.pin p hp;exact⟨(hs.2 p.1 ne).trans e,n,ne,nf,d⟩
 ·have hfn:X.fn x=true:=by
   rcases hf with z|z
   ·exact z
   ·rw[z] at hk;cases hk
  obtain⟨c,hc⟩:=I.ok.has x (.inl hk);obtain⟨w',z⟩:=I.cell x c hc;refine wpAny_storeName_cell I.ok.kind hk hc z (fun h' hc' hs=> ?_);obtain⟨oc,hoc,hocd⟩:=id z;refine h { s with heap:=h' } ⟨I.ok,I.os,I.bare,⟨fun b o e n hb hx=> ?_,fun b o e n hb hx=> ?_,I.base.free,fun b o e hx=> ?_,I.base.tups,I.base.frzs,I.base.tbls⟩,⟨m,hn.sameBut hs (bt (cne x c hc)),fun j y v' e1 e2 e3=> ?_⟩,fun y c' e=> ?_,I.free,I.freeC,fun p hp=> ?_,tracked ⟨oc,hoc,I.freeC x c hc⟩ hs,by simpa using I.len⟩ ⟨c,hs,.inr hc⟩
  ·exact(hs.2 b (ci (ca (bi e) (I.ok.cab x c hfn hc)))).trans (I.base.keep b o e n hb hx)
  ·obtain⟨sl,e1⟩:=I.base.slot b o e n hb hx;exact⟨sl,(hs.2 b (ci (ca (bi e) (I.ok.cab x c hfn hc)))).trans e1⟩
  ·obtain⟨o',e1⟩:=I.base.there b o e hx;exact⟨o',(hs.2 b (ci (ca (bi e) (I.ok.cab x c hfn hc)))).trans e1⟩
  ·by_cases hj:j=i
   ·subst hj;rw[hi] at e1;cases e1;rw[dm hiσ] at e2;cases e2;exact⟨u,r,.inr ⟨.inl hk,c,hc,hc'⟩⟩
   ·rw[fu (bt hj)] at e2;obtain⟨u',r',q⟩:=hl j y v' e1 e2 e3;refine⟨u',r',?_⟩;rcases q with q|⟨k,c',e,z'⟩
    ·exact .inl q
    ·refine .inr ⟨k,c',e,z'.sameBut hs ?_⟩;rintro rfl;exact hj (nodup_ix hN e1 (I.ok.inj _ _ _ e hc ▸ hi))
  ·by_cases hcc:c'=c
   ·subst hcc;exact⟨_,hc'⟩
   ·obtain⟨w2,z2⟩:=I.cell y c' e;exact⟨w2,z2.sameBut hs hcc⟩
  ·obtain⟨e,n,ne,nf,d⟩:=I.pin p hp;refine⟨(hs.2 p.1 ?_).trans e,n,ne,nf,d⟩;intro q;rw[q,hoc] at e;have q':oc=p.2:=b9 e;exact d w' (by rw[<- q'];exact hocd)
theorem zX (I:Inv X pins σ H s) (hN:X.N.Nodup) (hi:X.N[i]?=we x) (hx:Loc X.env.scope x) (r:RelV v u)
  (h:∀ s',Inv X pins (σ.set i (we v)) H s'->Q () s') (hf:X.fn x=true∨X.env.scope.names.lookup x=we .local:=by first|exact .inl rfl|exact .inr rfl|assumption):aw M A (storeName X.env x u) Q E s:=
 uT I hN hi hx r (fun s' I' _=>h s' I') hf
theorem Inv.call' (I:Inv X pins σ H s) (ho:s'.os=s.os) (u:Un (frs X.stack) ch H H' s.heap s'.heap) (hok:HOk X.prog X.w H' s'.heap) (hg:mh s'.gens)
  (hch:∀ b∈ch,(b∈X.ex∨X.s₀.heap.objs.size<=b)/\b≠X.env.locals/\(∀ x c,X.env.cells.lookup x=we c->c≠b)/\∀ p∈X.pn++pins,p.1≠b):Inv X pins σ H' s':=by
 obtain⟨h',g',d',t',o'⟩:=s';have e:o'=s.os:=ho;subst e;exact I.call (g':=g') (t':=t') (d':=d') u hok hg hch
end
noncomputable abbrev XK:=ag->Option af->Hp->Prop
noncomputable abbrev St:=List (Option V)
noncomputable abbrev VK:=V->Hp->Prop
noncomputable abbrev TE:=St->Hp->VK->Prop
noncomputable abbrev TT:=St->Hp->(Bool->Hp->Prop)->Prop
noncomputable abbrev TA:=St->Hp->(List V->Hp->Prop)->Prop
structure AR where
 nx:St->Hp->Prop
 rt:VK
 bk:St->Hp->Prop:=fun _ _=>False
 ct:St->Hp->Prop:=fun _ _=>False
noncomputable abbrev TS:=AR->St->Hp->Prop
noncomputable def EP (X:Cx) (pins:List (af×Obj)) (σ:St) (Q:VK) (u:ag) (s':am):Prop:=∃ v H',Inv X pins σ H' s'/\RelV v u/\Q v H'
noncomputable def TP (X:Cx) (pins:List (af×Obj)) (σ:St) (Q:Bool->Hp->Prop) (b:Bool) (s':am):Prop:=∃ H',Inv X pins σ H' s'/\Q b H'
noncomputable def AP (X:Cx) (pins:List (af×Obj)) (σ:St) (Q:List V->Hp->Prop) (us:List ag) (s':am):Prop:=∃ vs H',Inv X pins σ H' s'/\Vals vs us/\Q vs H'
noncomputable def SP (X:Cx) (pins:List (af×Obj)) (D:AR) (f:Flow) (s':am):Prop:=
 match f with
 |.next=>∃ σ' H',Inv X pins σ' H' s'/\D.nx σ' H'
 |.brk=>∃ σ' H',Inv X pins σ' H' s'/\D.bk σ' H'
 |.cont=>∃ σ' H',Inv X pins σ' H' s'/\D.ct σ' H'
 |.ret u=>∃ v σ' H',Inv X pins σ' H' s'/\RelV v u/\D.rt v H'
noncomputable def PE (X:Cx) (e:br) (t:TE):Prop:=
 ∀(pins:List (af×Obj)) (s:am) (σ:St) (H:Hp) (Q:VK),Inv X pins σ H s->t σ H Q->aw (model X.prog X.w) X.A (eval e X.env) (EP X pins σ Q) X.xe s
noncomputable def PT (X:Cx) (e:br) (t:TT):Prop:=
 ∀(pins:List (af×Obj)) (s:am) (σ:St) (H:Hp) (Q:Bool->Hp->Prop),Inv X pins σ H s->t σ H Q->aw (model X.prog X.w) X.A (isTrue e X.env (eval e X.env)) (TP X pins σ Q) X.xe s
noncomputable def PW (X:Cx) (e:br) (t:TT):Prop:=
 ∀(whole:Sem ag) (pins:List (af×Obj)) (s:am) (σ:St) (H:Hp) (Q:Bool->Hp->Prop),Inv X pins σ H s->t σ H Q->aw (model X.prog X.w) X.A (isTrue e X.env whole) (TP X pins σ Q) X.xe s
theorem PW.pt (h:PW X e t):PT X e t:=h _
noncomputable def PA (X:Cx) (es:List br) (t:TA):Prop:=
 ∀(pos:Pos) (pins:List (af×Obj)) (s:am) (σ:St) (H:Hp) (Q:List V->Hp->Prop),Inv X pins σ H s->t σ H Q->aw (model X.prog X.w) X.A (spliced (df pos (av es X.env))) (AP X pins σ Q) X.xe s
noncomputable def PS (X:Cx) (st:cq) (t:TS):Prop:=
 ∀(pins:List (af×Obj)) (s:am) (σ:St) (H:Hp) (D:AR),Inv X pins σ H s->t D σ H->aw (model X.prog X.w) X.A (exec st X.env) (SP X pins D) X.xe s
noncomputable def PSs (X:Cx) (st:List cq) (t:TS):Prop:=
 ∀(pins:List (af×Obj)) (s:am) (σ:St) (H:Hp) (D:AR),Inv X pins σ H s->t D σ H->aw (model X.prog X.w) X.A (execs st X.env) (SP X pins D) X.xe s
theorem thn {Q Q':α->am->Prop} (h:aw M A t Q E s) (hQ:∀ a s,Q a s->Q' a s):aw M A t Q' E s:=gu h hQ fun _ _ x=>x
end L2
namespace L2
section
variable {X:Cx}
noncomputable def Pc (i:Nat):TE:=fun σ H Q=>∃ v,σ[i]?=we (we v)/\Q v H
noncomputable def tC (v:V):TE:=fun _ H Q=>Q v H
theorem Lv (hN:X.N[i]?=we x) (hv:Vis X.env.scope x) (hd:(x==("__debug__":Str))=false:=by decide) (hcd:(x==("__classdict__":Str))=false:=by decide):PE X (.Name x pos) (Pc i):=by
 intro pins s σ H Q I h;obtain⟨v,e,h⟩:=h;obtain⟨m,hn,hl⟩:=I.loc;obtain⟨u,r,l⟩:=hl i x v hN e hv;have fin:EP X pins σ Q u s:=⟨v,H,I,r,h⟩;rcases l with⟨hk,hm⟩|⟨hk,c,hc,hcell⟩
 ·exact wpAny_Name (wpAny_loadName_local I.ok.kind hk hn hm fin) hd
 ·rcases hk with hk|hk
  ·exact wpAny_Name (wpAny_loadName_cell I.ok.kind hk hc hcell fin) hd
  ·exact wpAny_Name (wpAny_loadName_free I.ok.kind hk hc hcell fin hcd) hd
theorem LC:PE X (.Constant (.int i) j pos) (tC (.int i)):=fun _ _ _ H _ I h=>wpAny_Constant_int ⟨.int i,H,I.tok _,⟨_,rfl⟩,h⟩
theorem NY:PE X (.Constant (.bool b) j pos) (tC (.bl b)):=fun _ _ _ H _ I h=>Constant_bool ⟨.bl b,H,I,rfl,h⟩
theorem LB:PE X (.Constant .none j pos) (tC .non):=fun _ _ _ H _ I h=>Constant_none ⟨.non,H,I,rfl,h⟩
theorem Ly:PE X (.Constant (.str x) j pos) (tC (.str x)):=fun _ _ _ H _ I h=>Calls.Constant_str ⟨.str x,H,I.tok _,⟨_,rfl⟩,h⟩
noncomputable def Gl (X:Cx) (x:Str):Prop:=X.env.kindOf x=we .globalImplicit
theorem sS (I:Inv X pins σ H s) (hg:Gl X x) (hm:X.mg x=we u) (h:Q u s)
  (hd:(x==("__debug__":Str))=false:=by decide):aw (model X.prog X.w) X.A (eval (.Name x pos) X.env) Q E s:=
 pi I.ok.kind hg (Calls.loadGlobal_global (by rw[I.ok.glob];exact I.mod.glob.keeps I.bk) hm h) hd
theorem vK (I:Inv X pins σ H s) (hg:Gl X x) (hm:X.mg x=wf) (hv:db x=we u) (h:Q u s)
  (hn:x≠"__name__":=by decide) (hd:(x==("__debug__":Str))=false:=by decide):aw (model X.prog X.w) X.A (eval (.Name x pos) X.env) Q E s:=by
 obtain⟨mb,h1,h2⟩:=I.mod.blt;exact pi I.ok.kind hg (Calls.loadGlobal_builtin (by rw[I.ok.glob];exact I.mod.glob.keeps I.bk) hm (by rw[I.ok.blt];exact h1.keeps I.bk) ((h2 x hn).trans hv) h) hd
theorem IS (hg:Gl X x) (hm:X.mg x=wf) (hv:db x=we u) (r:RelV v u) (hn:x≠"__name__":=by decide) (hd:(x==("__debug__":Str))=false:=by decide):PE X (.Name x pos) (tC v):=
 fun _ _ _ H _ I h=>vK I hg hm hv ⟨v,H,I,r,h⟩ hn hd
variable {a b:br}{ta tb:TE}{pos:Pos}
noncomputable def PC (X:Cx) (op:CmpOp) (a b:br) (t:TE):Prop:=
 ∀(pins:List (af×Obj)) (s:am) (σ:St) (H:Hp) (Q:VK),Inv X pins σ H s->t σ H Q->
  aw (model X.prog X.w) X.A (eval a X.env) (fun v s₁=>aw (model X.prog X.w) X.A (eval b X.env) (fun u s₂=>aw (model X.prog X.w) X.A (d7 op v u) (EP X pins σ Q) X.xe s₂) X.xe s₁) X.xe s
noncomputable def tB (t:TE):TT:=fun σ H Q=>t σ H fun x H1=>∃ c,x=.bl c/\Q c H1
theorem Lm (h:PC X op a b t) (h1:ik op b=false:=by first|exact nobehind _ (by decide) (by decide)|rfl):PT X (.Compare a [op] [b] pos) (tB t):=by
 intro pins s σ H Q I hw;refine rq (thn (h pins s σ H _ I hw) fun v s1 h1=>thn h1 fun u s2 h2=>thn h2 fun c s3 ⟨x,H1,I1,r1,q1⟩=> ?_) h1;obtain⟨d,rfl,q⟩:=q1;cases r1;exact dh ⟨H1,I1,q⟩
variable {tA tB':TT}{rest:List br}
noncomputable def PK (t u:TT):TT:=fun σ H Q=>t σ H fun c H1=>if c=true then u σ H1 Q else Q false H1
noncomputable def tOr (t u:TT):TT:=fun σ H Q=>t σ H fun c H1=>if c=true then Q true H1 else u σ H1 Q
noncomputable def Pz (t:TT):TT:=fun σ H Q=>t σ H fun c H1=>Q (!c) H1
theorem Iw (ha:PT X a tA):PW X (.BoolOp .And [a] pos) tA:=by
 intro wh pins s σ H Q I h;refine isTrue_and (thn (ha pins s σ H Q I h) fun c s1 e=> ?_);cases c with
 |true=>exact isTrue_and_nil e
 |false=>exact e
theorem Li (ha:PT X a tA):PW X (.BoolOp .Or [a] pos) tA:=by
 intro wh pins s σ H Q I h;refine isTrue_or (thn (ha pins s σ H Q I h) fun c s1 e=> ?_);cases c with
 |false=>exact isTrue_or_nil e
 |true=>exact e
theorem Lj (ha:PT X a tA) (hb:PW X (.BoolOp .And (b::rest) pos) tB'):PW X (.BoolOp .And (a::b::rest) pos) (PK tA tB'):=by
 intro wh pins s σ H Q I h;refine isTrue_and (thn (ha pins s σ H _ I h) fun c s1 ⟨H1,I1,q1⟩=> ?_);cases c with
 |true=>exact hb wh pins s1 σ H1 Q I1 q1
 |false=>exact⟨H1,I1,q1⟩
theorem NT (ha:PT X a tA) (hb:PW X (.BoolOp .Or (b::rest) pos) tB'):PW X (.BoolOp .Or (a::b::rest) pos) (tOr tA tB'):=by
 intro wh pins s σ H Q I h;refine isTrue_or (thn (ha pins s σ H _ I h) fun c s1 ⟨H1,I1,q1⟩=> ?_);cases c with
 |true=>exact⟨H1,I1,q1⟩
 |false=>exact hb wh pins s1 σ H1 Q I1 q1
theorem Ll (ha:PT X a tA):PT X (.UnaryOp .Not a pos) (Pz tA):=by
 intro pins s σ H Q I h;exact isTrue_not (ha pins s σ H (fun c H1=>Q (!c) H1) I h)
noncomputable def NN (ta tb:TE):TE:=fun σ H Q=>ta σ H fun x H1=>∃ c,x=.bl c/\if c=true then tb σ H1 Q else Q (.bl false) H1
noncomputable def NE (ta:TE):TE:=fun σ H Q=>ta σ H fun x H1=>∃ c,x=.bl c/\Q (.bl (!c)) H1
theorem Lz (h:PE X a t):PE X (.BoolOp op [a] pos) t:=fun pins s σ H Q I hw=>BoolOp_one (h pins s σ H Q I hw)
theorem LH (ha:PE X a ta) (hb:PE X (.BoolOp .And (b::rest) pos) tb):PE X (.BoolOp .And (a::b::rest) pos) (NN ta tb):=by
 intro pins s σ H Q I h;refine BoolOp_and (thn (ha pins s σ H _ I h) fun v s1 ⟨x,H1,I1,r1,q1⟩=> ?_);obtain⟨c,rfl,q1⟩:=q1;cases r1;refine dh ?_;cases c with
 |true=>exact hb pins s1 σ H1 Q I1 q1
 |false=>exact⟨.bl false,H1,I1,rfl,q1⟩
theorem LA (ha:PE X a ta):PE X (.UnaryOp .Not a pos) (NE ta):=by
 intro pins s σ H Q I h;refine UnaryOp_ (thn (ha pins s σ H _ I h) fun v s1 ⟨x,H1,I1,r1,q1⟩=> ?_);obtain⟨c,rfl,q1⟩:=q1;cases r1;exact not_of (dh ⟨.bl (!c),H1,I1,rfl,q1⟩)
end
end L2
namespace L2
noncomputable def SqL (K:aa) (H:Hp) (a:af) (xs:List V):Prop:=
 Rd H a (.lst xs)∨
  ∃(o:Obj) (its:Array ag) (n:Nat),K.lookup a=we o/\o.cls=.type "list"/\o.dict=wf/\o.data=.seq its n/\its.size<=sizeLine/\Vals xs its.toList
noncomputable def SqT (K:aa) (H:Hp) (a:af) (xs:List V):Prop:=
 Rd H a (.tup xs)∨
  ∃(o:Obj) (its:Array ag) (n:Nat),K.lookup a=we o/\o.cls=.type "tuple"/\o.data=.seq its n/\its.size<=sizeLine/\Vals xs its.toList
noncomputable def Qk:ag->Option V
 |.none=>we .non
 |.bool b=>we (.bl b)
 |.int i _=>we (.int i)
 |.str x _=>we (.str x)
 |.bytes b _=>we (.byt b)
 |.float b _=>we (.flt b)
 |.ref a=>we (.ref a)
 |.type n=>we (.ty n)
 |_=>wf
theorem RelV.abs (r:RelV x u):Qk u=we x:=by
 cases x with
 |non=>cases r;rfl
 |bl _=>cases r;rfl
 |int _=>obtain⟨t,rfl⟩:=r;rfl
 |str _=>obtain⟨t,rfl⟩:=r;rfl
 |byt _=>obtain⟨t,rfl⟩:=r;rfl
 |flt _=>obtain⟨t,rfl⟩:=r;rfl
 |ref _=>cases r;rfl
 |ty _=>cases r;rfl
theorem RelV.inj (r:RelV x u) (q:RelV y u):x=y:=b9 (r.abs.symm.trans q.abs)
theorem Vals.inj:∀ {xs ys:List V}{us:List ag},Vals xs us->Vals ys us->xs=ys
 |_,_,_,.nil,.nil=>rfl
 |_,_,_,.cons r t,.cons r' t'=>by rw[r.inj r',Vals.inj t t']
section
variable {X:Cx}{pins:List (af×Obj)}{σ:St}{H:Hp}{s:am}{a:af}{xs ys:List V}
theorem SqL.of {K:aa} (h:H a=we (.lst xs)):SqL K H a xs:=.inl (.inl h)
theorem Inv.list (I:Inv X pins σ H s) (h:SqL X.K H a xs):∃ its:List ag,Vals xs its/\PlainL s.heap a its.toArray/\xs.length<=sizeLine:=by
 rcases h with h|⟨o,its,n,hk,hc,hd,hs,hz,r⟩
 ·obtain⟨z,its,n,r,e⟩:=h.ok I.hok;exact⟨its,r,⟨_,n,e,rfl,rfl,rfl⟩,z⟩
 ·refine⟨its.toList,r,⟨o,n,I.kIn a o hk,hc,hd,by simpa using hs⟩,?_⟩;have e:=r.length;simp only[dw] at e;omega
theorem Inv.tuple (I:Inv X pins σ H s) (h:SqT X.K H a xs):∃ its:List ag,Vals xs its/\IsTup s.heap a its.toArray/\xs.length<=sizeLine:=by
 rcases h with h|⟨o,its,n,hk,hc,hs,hz,r⟩
 ·obtain⟨z,its,r,p⟩:=h.ok I.hok;exact⟨its,r,p,z⟩
 ·refine⟨its.toList,r,⟨o,I.kIn a o hk,hc,n,by simpa using hs⟩,?_⟩;have e:=r.length;simp only[dw] at e;omega
theorem Inv.list_inj (I:Inv X pins σ H s) (h:SqL X.K H a xs) (h':SqL X.K H a ys):xs=ys:=by
 obtain⟨its,r,⟨o,n,e,_,_,d⟩,_⟩:=I.list h;obtain⟨its',r',⟨o',n',e',_,_,d'⟩,_⟩:=I.list h';rw[e] at e';cases e';rw[d] at d';injection d' with d1 _
 have:its=its':=by simpa using congrArg Array.toList d1
 subst this;exact r.inj r'
theorem Inv.tuple_inj (I:Inv X pins σ H s) (h:SqT X.K H a xs) (h':SqT X.K H a ys):xs=ys:=by
 obtain⟨its,r,⟨o,e,_,n,d⟩,_⟩:=I.tuple h;obtain⟨its',r',⟨o',e',_,n',d'⟩,_⟩:=I.tuple h';rw[e] at e';cases e';rw[d] at d';injection d' with d1 _
 have:its=its':=by simpa using congrArg Array.toList d1
 subst this;exact r.inj r'
end
noncomputable abbrev Cx.wish (X:Cx) (E:ag->am->Prop):Cx:={ X with xe:=E }
noncomputable abbrev Cx.nox (X:Cx):Cx:=X.wish fun _ _=>False
theorem Cx.Ok.wish {X:Cx} (ok:X.Ok) (E:ag->am->Prop):(X.wish E).Ok:=
 ⟨ok.mod,ok.kind,ok.glob,ok.blt,ok.above,ok.inj,ok.has,ok.cab,ok.hd,ok.frames,ok.stk,ok.exf,ok.bs,ok.bsz,ok.noex,ok.exfs,ok.funs,ok.frf⟩
theorem Cx.Ok.unwish {X:Cx} (ok:(X.wish E).Ok):X.Ok:=
 ⟨ok.mod,ok.kind,ok.glob,ok.blt,ok.above,ok.inj,ok.has,ok.cab,ok.hd,ok.frames,ok.stk,ok.exf,ok.bs,ok.bsz,ok.noex,ok.exfs,ok.funs,ok.frf⟩
section
variable {X:Cx}{pins:List (af×Obj)}{σ:St}{H:Hp}{s:am}{E:ag->am->Prop}
theorem Inv.wish (I:Inv X pins σ H s) (E:ag->am->Prop):Inv (X.wish E) pins σ H s:=⟨I.ok.wish E,I.os,I.bare,I.base,I.loc,I.cell,I.free,I.freeC,I.pin,I.hok,I.len⟩
theorem Inv.unwish (I:Inv (X.wish E) pins σ H s):Inv X pins σ H s:=⟨I.ok.unwish,I.os,I.bare,I.base,I.loc,I.cell,I.free,I.freeC,I.pin,I.hok,I.len⟩
theorem SP.unwish (h:SP (X.wish E) pins D f s'):SP X pins D f s':=by
 cases f with
 |next=>obtain⟨σ',H',I,q⟩:=h;exact⟨σ',H',I.unwish,q⟩
 |brk=>obtain⟨σ',H',I,q⟩:=h;exact⟨σ',H',I.unwish,q⟩
 |cont=>obtain⟨σ',H',I,q⟩:=h;exact⟨σ',H',I.unwish,q⟩
 |ret u=>obtain⟨v,σ',H',I,r,q⟩:=h;exact⟨v,σ',H',I.unwish,r,q⟩
end
section
variable {X:Cx}{st:cq}{rest:List cq}{t u:TS}{e:br}{te:TE}{pos:Pos}
noncomputable def NF:TS:=fun D σ H=>D.nx σ H
noncomputable def Px (t u:TS):TS:=fun D σ H=>t { D with nx:=u D } σ H
theorem Iz:PSs X [] NF:=fun _ _ σ H _ I h=>oj ⟨σ,H,I,h⟩
theorem Fx (h1:PS X st t) (h2:PSs X rest u):PSs X (st::rest) (Px t u):=by
 intro pins s σ H D I h;refine wpAny_execs_cons (thn (h1 pins s σ H { D with nx:=u D } I h) fun f s1 q=> ?_);cases f with
 |next=>
  obtain⟨σ',H',I',q⟩:=q;exact h2 pins s1 σ' H' D I' q
 |ret v=>exact q
 |brk=>exact q
 |cont=>exact q
theorem Iy (h1:PS X st t):PSs X [st] t:=by
 intro pins s σ H D I h;refine wpAny_execs_cons (thn (h1 pins s σ H D I h) fun f s1 q=> ?_);cases f with
 |next=>exact oj q
 |ret v=>exact q
 |brk=>exact q
 |cont=>exact q
theorem Inv.quiet (I:Inv X pins σ H s):interactive X.env=false:=by simp[interactive,I.ok.kind]
noncomputable def NI (te:TE):TS:=fun D σ H=>te σ H fun _ H1=>D.nx σ H1
theorem IC (he:PE X e te) (hs:i9 e wf pos.line X.env=pure false:=by rfl):PS X (.Expr e pos) (NI te):=by
 intro pins s σ H D I h;exact wpAny_Expr_any (thn (he pins s σ H _ I h) fun v s1 ⟨x,H1,I1,r1,q1⟩=>⟨σ,H1,I1,q1⟩) I.quiet hs
noncomputable def Py (te:TE):TS:=fun D σ H=>te σ H D.rt
theorem Lo (he:PE X e te):PS X (.Return (we e) pos) (Py te):=by
 intro pins s σ H D I h;exact wpAny_Return_some (thn (he pins s σ H _ I h) fun v s1 ⟨x,H1,I1,r1,q1⟩=>⟨x,σ,H1,I1,r1,q1⟩)
noncomputable def PD (c:TT) (t u:TS):TS:=fun D σ H=>c σ H fun b H1=>if b=true then t D σ H1 else u D σ H1
theorem NU (hc:PT X c tc) (ha:PSs X a t) (hb:PSs X b u):PS X (.If c a b pos) (PD tc t u):=by
 intro pins s σ H D I h;refine wpAny_If (thn (hc pins s σ H _ I h) fun d s1 ⟨H1,I1,q1⟩=> ?_);cases d with
 |true=>exact ha pins s1 σ H1 D I1 q1
 |false=>exact hb pins s1 σ H1 D I1 q1
end
noncomputable abbrev TG:=V->St->Hp->(St->Hp->Prop)->Prop
noncomputable abbrev TGs:=List V->St->Hp->(St->Hp->Prop)->Prop
noncomputable def PG (X:Cx) (target:br) (t:TG):Prop:=
 ∀(pins:List (af×Obj)) (s:am) (σ:St) (H:Hp) (v:V) (u:ag) (Q:St->Hp->Prop),Inv X pins σ H s->RelV v u->t v σ H Q->
  aw (model X.prog X.w) X.A (assign target X.env u) (fun _ s'=>∃ σ' H',Inv X pins σ' H' s'/\Q σ' H') X.xe s
noncomputable def PGs (X:Cx) (ts:List br) (t:TGs):Prop:=
 ∀(pins:List (af×Obj)) (s:am) (σ:St) (H:Hp) (vs:List V) (us:List ag) (Q:St->Hp->Prop),Inv X pins σ H s->Vals vs us->t vs σ H Q->
  aw (model X.prog X.w) X.A (assignInOrder ((k6 ts X.env).map (·.2)) us) (fun _ s'=>∃ σ' H',Inv X pins σ' H' s'/\Q σ' H') X.xe s
noncomputable abbrev Pr:=V->V->V->Hp->(Hp->Prop)->Prop
noncomputable def Ps (X:Cx) (t:Pr):Prop:=
 ∀(pins:List (af×Obj)) (s:am) (σ:St) (H:Hp) (o i v:V) (ov iv u:ag) (Q:Hp->Prop),Inv X pins σ H s->RelV o ov->RelV i iv->RelV v u->t o i v H Q->
  aw (model X.prog X.w) X.A (setItem ov iv u) (fun _ s'=>∃ H',Inv X pins σ H' s'/\Q H') X.xe s
section
variable {X:Cx}{pos:Pos}
noncomputable def MO (i:Nat):TG:=fun v σ H Q=>Q (σ.set i (we v)) H
theorem xE (hN:X.N.Nodup) (hi:X.N[i]?=we x) (hx:Loc X.env.scope x) (hf:X.fn x=true∨X.env.scope.names.lookup x=we .local:=by first|exact .inl rfl|exact .inr rfl|assumption):PG X (.Name x pos) (MO i):=by
 intro pins s σ H v u Q I r h;exact wpAny_assign_Name (zX I hN hi hx r (fun s' I'=>⟨_,H,I',h⟩) hf)
noncomputable def Qf:TGs:=fun vs σ H Q=>vs=[]/\Q σ H
noncomputable def OF (t:TG) (u:TGs):TGs:=fun vs σ H Q=>∃ v r,vs=v::r/\t v σ H fun σ' H'=>u r σ' H' Q
theorem IJ:PGs X [] Qf:=by
 intro pins s σ H vs us Q I r h;obtain⟨e,h⟩:=h;subst e;cases r;exact assignInOrder_nil ⟨σ,H,I,h⟩
theorem Ad (h1:PG X e t) (h2:PGs X es u)
  (hs:(k6 (e::es) X.env).map (·.2)=assign e X.env::(k6 es X.env).map (·.2):=by rfl):PGs X (e::es) (OF t u):=by
 intro pins s σ H vs us Q I r h;obtain⟨v,vr,e1,h⟩:=h;subst e1;cases r with
 |cons r rr=>
  rw[hs];refine assignInOrder_cons (thn (h1 pins s σ H _ _ _ I r h) fun _ s1 ⟨σ1,H1,I1,q1⟩=> ?_);exact h2 pins s1 σ1 H1 _ _ Q I1 rr q1
noncomputable def Qd (K:aa) (n:Nat) (t:TGs):TG:=fun v σ H Q=>∃ a xs,v=.ref a/\SqT K H a xs/\xs.length=n/\t xs σ H Q
theorem Ls (hc:X.calm=true) (h:PGs X es t)
  (hn:(k6 es X.env).length=n:=by rfl) (hst:(k6 es X.env).findIdx? (·.1)=wf:=by rfl):PG X (.Tuple es k pos) (Qd X.K n t):=by
 intro pins s σ H v u Q I r hw;obtain⟨a,xs,e1,hq,hl,hw⟩:=hw;subst e1;cases r;obtain⟨its,rv,ht,hz⟩:=I.tuple hq;refine assign_Tuple_tuple (I.ok.hd hc) ht (by simp[hn,<- hl,rv.length]) hst fun h' hx=> ?_;have I1:Inv X pins σ H { s with heap:=h' }:=I.kept (t':=s.toks) fun b o e=>hx b o (ci (bi e)) e;exact h pins _ σ H xs _ Q I1 (by simpa using rv) hw
noncomputable def gSub (to ti:TE) (t:Pr):TG:=fun v σ H Q=>to σ H fun o H1=>ti σ H1 fun i H2=>t o i v H2 fun H3=>Q σ H3
theorem Lu (ho:PE X o to) (hi:PE X i ti) (hs:Ps X t)
  (ha:∀ v,assign (.Subscript o i pos) X.env v=(do
   let ov <- holding [v] (eval o X.env)
   let iv <- holding [v,ov] (eval i X.env)
   mj pos
   holding [v,ov,iv] (setItem ov iv v)
   release [v,ov,iv] []):=by intro _;rfl):PG X (.Subscript o i pos) (gSub to ti t):=by
 intro pins s σ H v u Q I r h;rw[ha];refine ae (im (thn (ho pins s σ H _ I h) fun ov s1 ⟨x,H1,I1,r1,q1⟩=> ?_));refine ae (im (thn (hi pins s1 σ H1 _ I1 q1) fun iv s2 ⟨y,H2,I2,r2,q2⟩=> ?_));refine ae (tm (ae (im (thn (hs pins s2 σ H2 x y v ov iv u _ I2 r1 r2 r q2) fun _ s3 ⟨H3,I3,q3⟩=> ?_))));exact wpAny_release ⟨σ,H3,I3,q3⟩
noncomputable def Pe (te:TE) (g:TG):TS:=fun D σ H=>te σ H fun x H1=>g x σ H1 D.nx
theorem HD (he:PE X e te) (hg:PG X tg g) (hs:tq [tg] e pos.line X.env=pure false:=by rfl) (hw:tu [tg] e X.env=pure wf:=by rfl)
  (h1:(k6 [tg] X.env).map (·.2)=[assign tg X.env]:=by rfl):PS X (.Assign [tg] e pos) (Pe te g):=by
 intro pins s σ H D I h;refine wpAny_Assign_stores (thn (he pins s σ H _ I h) fun v s1 ⟨x,H1,I1,r1,q1⟩=> ?_) hs hw;rw[h1];exact thn (hg pins s1 σ H1 x v _ I1 r1 q1) fun _ s2 q=>q
theorem Ln (hN:X.N.Nodup) (hi:X.N[i]?=we x) (hx:Loc X.env.scope x) (he:PE X e te) (hs:i9 e (we (.Name x pos')) pos.line X.env=pure false:=by rfl) (hf:X.fn x=true∨X.env.scope.names.lookup x=we .local:=by first|exact .inl rfl|exact .inr rfl|assumption):
  PS X (.Assign [.Name x pos'] e pos) (Pe te (MO i)):=by
 intro pins s σ H D I h;refine wpAny_Assign_Name (thn (he pins s σ H _ I h) fun v s1 ⟨y,H1,I1,r1,q1⟩=> ?_) hs;exact zX I1 hN hi hx r1 (fun s2 I2=>⟨_,H1,I2,q1⟩) hf
end
section
variable {X:Cx}{pos:Pos}
end
structure It where
 go:Nat->Hp->Prop
 yld:Nat->Hp->V->Hp->Prop
 stop:Nat->Hp->Prop
noncomputable def Ig (X:Cx) (pins:List (af×Obj)) (H:Hp) (b:af):Prop:=
 H b=wf/\b≠X.env.locals/\b∉X.fs/\(b∈X.ex∨X.s₀.heap.objs.size<=b)/\(∀ x c,X.env.cells.lookup x=we c->c≠b)/\∀ p∈X.pn++pins,p.1≠b
theorem Inv.fpOk (I:Inv X pins σ H s) (hb:s.heap.objs.size<=b) (hn:H' b=wf):Ig X pins H' b:=by
 refine⟨hn,Nat.ne_of_gt (ca I.lt hb),I.nofs hb,.inr (ce I.sz hb),fun x c e z=> ?_,fun p hp z=> ?_⟩
 ·obtain⟨v,q⟩:=I.cell x c e;exact absurd (ca q.lt (by rw[z];exact hb)) (gg _)
 ·exact absurd (ca (bi (I.pin p hp).1) (by rw[z];exact hb)) (gg _)
structure KB (P:da) (w:dc) (K:aa) (tg:br) (J:It) (fp:List af) (it:af) (tn:Nat->cy->Prop):Prop where
 mem:it∈fp
 obj:∀ i h,tn i h->∀ b∈fp,∃ o,h.get? b=we o/\∀ v,o.data≠ .cell v
 keep:∀ i h h',tn i h->(∀ b∈fp,∀ o,h.get? b=we o->h'.get? b=we o)->tn i h'
 item:∀(X:Cx),X.prog=P->X.w=w->X.K=K->X.calm=true->∀(i:Nat) (pins:List (af×Obj)) (s:am) (σ:St) (H:Hp) (E:ag->am->Prop),Inv X pins σ H s->(∀ b∈fp,Ig X pins H b)->tn i s.heap->J.go i H->
  aw (model P w) X.A (mw (.ref it)) (fun r s1=>∃ u,r=we u/\
   aw (model P w) X.A (ol tg (.ref it) u) (fun _ s2=>∃ x H',Inv X pins σ H' s2/\RelV x u/\J.yld i H x H'/\tn (i+1) s2.heap/\∀ b∈fp,H' b=wf) E s1) E s
 done:∀(X:Cx),X.prog=P->X.w=w->X.K=K->X.calm=true->∀(i:Nat) (pins:List (af×Obj)) (s:am) (σ:St) (H:Hp) (E:ag->am->Prop),Inv X pins σ H s->(∀ b∈fp,Ig X pins H b)->tn i s.heap->J.stop i H->
  aw (model P w) X.A (mw (.ref it)) (fun r s1=>r=wf/\Inv X pins σ H s1) E s
 self:∀(A:de) (i:Nat) (s:am) (Q:ag->am->Prop) (E:ag->am->Prop),tn i s.heap->Q (.ref it) s->aw (model P w) A (pyIter (.ref it)) Q E s
noncomputable abbrev TI:=St->Hp->(It->Hp->Prop)->Prop
noncomputable def PIE (X:Cx) (pins:List (af×Obj)) (σ:St) (tg:br) (R:It->Hp->Prop) (itv:ag) (s2:am):Prop:=
 ∃(it:af) (fp:List af) (tn:Nat->cy->Prop) (J:It) (H':Hp),itv=.ref it/\Inv X pins σ H' s2/\KB X.prog X.w X.K tg J fp it tn/\tn 0 s2.heap/\(∀ b∈fp,Ig X pins H' b)/\R J H'
noncomputable def PI (X:Cx) (tg iter:br) (wi:TI):Prop:=
 ∀(pins:List (af×Obj)) (s:am) (σ:St) (H:Hp) (R:It->Hp->Prop),Inv X pins σ H s->wi σ H R->
  aw (model X.prog X.w) X.A (eval iter X.env) (fun v s1=>aw (model X.prog X.w) X.A (pyIter v) (PIE X pins σ tg R) X.xe s1) X.xe s
theorem Gu (ho:s.heap.get? it=we o) (hc:o.cls=.type n) (hd:o.data=.fields vs)
  (hn:["enumerate","zip","dict_itemiterator","dict_reverseitemiterator","odict_iterator","itertools.zip_longest","itertools.pairwise"].contains n=false) (hQ:Q () s):aw M A (ol tg (.ref it) u) Q E s:=by
 unfold ol;cases tg <;> first
  |exact ak hQ
  |(cases u <;> first
    |exact ak hQ
    |(refine ae (wpAny_load ho ?_)
      rw[hc,hd];show aw M A (if(["enumerate","zip","dict_itemiterator","dict_reverseitemiterator","odict_iterator","itertools.zip_longest","itertools.pairwise"].contains n&&vs[0]?==we (lz _))=true then _ else _) Q E s;rw[if_neg (by intro h;rw[hn,Bool.false_and] at h;cases h)];exact ak hQ))
noncomputable def Itl (K:aa) (a:af):It:=
 ⟨fun i H=>∃ xs x,SqL K H a xs/\xs[i]?=we x,fun i H x H'=>H'=H/\∀ xs,SqL K H a xs->xs[i]?=we x,fun i H=>∃ xs,SqL K H a xs/\xs.length<=i⟩
noncomputable def Itt (K:aa) (a:af):It:=
 ⟨fun i H=>∃ xs x,SqT K H a xs/\xs[i]?=we x,fun i H x H'=>H'=H/\∀ xs,SqT K H a xs->xs[i]?=we x,fun i H=>∃ xs,SqT K H a xs/\xs.length<=i⟩
noncomputable def Itr (lo:Int) (n:Nat):It:=⟨fun i _=>i<n,fun i H x H'=>H'=H/\x=.int (lo+i),fun i _=>n<=i⟩
theorem Ch {K:aa} (a it:af):KB P w K tg (Itl K a) [it] it (fun i h=>h.IsListIter it a i) where
 mem:=by simp
 obj:=fun i h st b hb=>by
  have e:b=it:=by simpa using hb
  subst e;obtain⟨o,e,c,d⟩:=st;exact⟨o,e,fun v z=>by rw[d] at z;cases z⟩
 keep:=fun i h h' st k=>st.at fun o e=>k it (by simp) o e
 item:=by
  intro X hP hw hK hc i pins s σ H E I hf st hg;subst hP hw hK;obtain⟨xs,x,hq,hx⟩:=hg;obtain⟨its,rv,p,hz⟩:=I.list hq;obtain⟨u,hu,ru⟩:=rv.get hx;obtain⟨f0,f1,f2,f3,f4,f5⟩:=hf it (by simp);refine wpAny_pyNext_list_item st p.isList (x:=u) (by simpa using hu) fun h' st' sb=> ?_;have I1:Inv X pins σ H { s with heap:=h' }:=I.turned (t':=s.toks) (fun b o hb e=>(sb.2 b hb).trans e) f0 f1 f3 f4 f5;obtain⟨o,e,c,d⟩:=id st';exact⟨u,rfl,Gu (s:={ s with heap:=h' }) e c d (by decide) ⟨x,H,I1,ru,⟨rfl,fun ys hy=>by rw[I.list_inj hy hq];exact hx⟩,st',fun b hb=>(hf b hb).1⟩⟩
 done:=by
  intro X hP hw hK hc i pins s σ H E I hf st hg;subst hP hw hK;obtain⟨xs,hq,hx⟩:=hg;obtain⟨its,rv,p,hz⟩:=I.list hq;obtain⟨f0,f1,f2,f3,f4,f5⟩:=hf it (by simp);have hl:=rv.length;exact wpAny_pyNext_list_end (I.ok.hd hc) st p.isList (by simp;omega) fun h' eb=>⟨rfl,I.turned (t':=s.toks) (fun b o hb e=>eb b o hb e) f0 f1 f3 f4 f5⟩
 self:=fun _ _ _ _ _ st h=>wpAny_pyIter_listiter st h
theorem AT {K:aa} (a it:af):KB P w K tg (Itt K a) [it] it (fun i h=>h.IsTupleIter it a i) where
 mem:=by simp
 obj:=fun i h st b hb=>by
  have e:b=it:=by simpa using hb
  subst e;obtain⟨o,e,c,d⟩:=st;exact⟨o,e,fun v z=>by rw[d] at z;cases z⟩
 keep:=fun i h h' st k=>st.at fun o e=>k it (by simp) o e
 item:=by
  intro X hP hw hK hc i pins s σ H E I hf st hg;subst hP hw hK;obtain⟨xs,x,hq,hx⟩:=hg;obtain⟨its,rv,p,hz⟩:=I.tuple hq;obtain⟨u,hu,ru⟩:=rv.get hx;obtain⟨f0,f1,f2,f3,f4,f5⟩:=hf it (by simp);refine wpAny_pyNext_tuple_item st (show s.heap.IsTuple a its.toArray from p) (x:=u) (by simpa using hu) fun h' st' sb=> ?_;have I1:Inv X pins σ H { s with heap:=h' }:=I.turned (t':=s.toks) (fun b o hb e=>(sb.2 b hb).trans e) f0 f1 f3 f4 f5;obtain⟨o,e,c,d⟩:=id st';exact⟨u,rfl,Gu (s:={ s with heap:=h' }) e c d (by decide) ⟨x,H,I1,ru,⟨rfl,fun ys hy=>by rw[I.tuple_inj hy hq];exact hx⟩,st',fun b hb=>(hf b hb).1⟩⟩
 done:=by
  intro X hP hw hK hc i pins s σ H E I hf st hg;subst hP hw hK;obtain⟨xs,hq,hx⟩:=hg;obtain⟨its,rv,p,hz⟩:=I.tuple hq;obtain⟨f0,f1,f2,f3,f4,f5⟩:=hf it (by simp);have hl:=rv.length;exact wpAny_pyNext_tuple_end (I.ok.hd hc) st (show s.heap.IsTuple a its.toArray from p) (by simp;omega) fun h' eb=>⟨rfl,I.turned (t':=s.toks) (fun b o hb e=>eb b o hb e) f0 f1 f3 f4 f5⟩
 self:=fun _ _ _ _ _ st h=>wpAny_pyIter_tupleiter st h
theorem AU {K:aa} (it:af) (lo:Int) (n:Nat):KB P w K tg (Itr lo n) [it] it (fun i h=>IsRangeIter h it (lo+(i:Nat)*1) ((n:Int)-(i:Nat)) 1) where
 mem:=by simp
 obj:=fun i h st b hb=>by
  have e:b=it:=by simpa using hb
  subst e;exact⟨_,st,fun v z=>by
   have z':Data.fields _=uf v:=z;cases z'⟩
 keep:=fun i h h' st k=>k it (by simp) _ st
 item:=by
  intro X hP hw hK hc i pins s σ H E I hf st hg;subst hP hw hK;obtain⟨f0,f1,f2,f3,f4,f5⟩:=hf it (by simp);have W:=Walks.range (prog:=X.prog) (w:=X.w) (I.ok.hd hc) it lo 1 n;refine W.item i s _ _ hg st fun v h' tk hv st' kk=> ?_;obtain⟨t,rfl⟩:=hv;have I1:Inv X pins σ H { s with heap:=h',toks:=tk }:=I.turned (fun b o hb e=>kk b o (by simpa using hb) e) f0 f1 f3 f4 f5;refine⟨_,rfl,Gu (s:={ s with heap:=h',toks:=tk }) (n:="range_iterator") st' rfl rfl (by decide) ⟨.int (lo+i),H,I1,⟨t,?_⟩,⟨rfl,rfl⟩,st',fun b hb=>(hf b hb).1⟩⟩;rw[Int.mul_one]
 done:=by
  intro X hP hw hK hc i pins s σ H E I hf st hg;subst hP hw hK;obtain⟨f0,f1,f2,f3,f4,f5⟩:=hf it (by simp);exact wpAny_pyNext_range_end (I.ok.hd hc) st (by have:n<=i:=hg;omega) fun h' eb=>⟨rfl,I.turned (t':=s.toks) (fun b o hb e=>eb b o hb e) f0 f1 f3 f4 f5⟩
 self:=fun _ _ _ _ _ st h=>wpAny_pyIter_rangeiter st h
end L2
namespace L2
section
variable {X:Cx}{tg:br}
noncomputable def Ox (K:aa) (tl:TE):TI:=fun σ H R=>tl σ H fun x H1=>∃ a,x=.ref a/\(∃ xs,SqL K H1 a xs)/\R (Itl K a) H1
noncomputable def Qa (K:aa) (tl:TE):TI:=fun σ H R=>tl σ H fun x H1=>∃ a,x=.ref a/\(∃ xs,SqT K H1 a xs)/\R (Itt K a) H1
theorem IH (hl:PE X l tl):PI X tg l (Ox X.K tl):=by
 intro pins s σ H R I h;refine thn (hl pins s σ H _ I h) fun v s1 ⟨x,H1,I1,r1,q1⟩=> ?_;obtain⟨a,e,⟨xs,hq⟩,q⟩:=q1;subst e;cases r1;obtain⟨its,rv,p,hz⟩:=I1.list hq;refine wpAny_pyIter_list p.isList ?_;refine⟨s1.heap.objs.size,[s1.heap.objs.size],_,_,H1,rfl,I1.kept (t':=s1.toks) fun b o e=>ay _ e,Ch a _,⟨_,bz _ rfl,rfl,rfl⟩,fun b hb=> ?_,q⟩;have e:b=s1.heap.objs.size:=by simpa using hb
 subst e;exact I1.fpOk (bc _) (I1.hok.fresh (bc _))
theorem Lr (hl:PE X l tl):PI X tg l (Qa X.K tl):=by
 intro pins s σ H R I h;refine thn (hl pins s σ H _ I h) fun v s1 ⟨x,H1,I1,r1,q1⟩=> ?_;obtain⟨a,e,⟨xs,hq⟩,q⟩:=q1;subst e;cases r1;obtain⟨its,rv,p,hz⟩:=I1.tuple hq;refine wpAny_pyIter_tuple (show s1.heap.IsTuple a its.toArray from p) ?_;refine⟨s1.heap.objs.size,[s1.heap.objs.size],_,_,H1,rfl,I1.kept (t':=s1.toks) fun b o e=>ay _ e,AT a _,⟨_,bz _ rfl,rfl,rfl⟩,fun b hb=> ?_,q⟩;have e:b=s1.heap.objs.size:=by simpa using hb
 subst e;exact I1.fpOk (bc _) (I1.hok.fresh (bc _))
theorem Fq {lo hi:Int} (I:Inv X pins σ H s) (h1: -(2 ^ 62)<=lo) (h2:lo<2 ^ 62) (h3: -(2 ^ 62)<=hi) (h4:hi<2 ^ 62)
  (q:R (Itr lo (hi-lo).toNat) H):aw (model X.prog X.w) X.A (pyIter (.ref s.heap.objs.size)) (PIE X pins σ tg R) E { s with heap:=s.heap.push { cls:=.type "range",data:=.fields #[.int lo t,.int hi u,.int 1 v] },toks:=tk }:=by
 refine wpAny_pyIter_range (IsRange.new ..) (small_one h1 h2 h3 h4) ?_;have I1:Inv X pins σ H { s with heap:=s.heap.push { cls:=.type "range",data:=.fields #[.int lo t,.int hi u,.int 1 v] },toks:=tk }:=I.kept fun b o e=>ay _ e;refine⟨(s.heap.push { cls:=.type "range",data:=.fields #[.int lo t,.int hi u,.int 1 v] }).objs.size,[(s.heap.push { cls:=.type "range",data:=.fields #[.int lo t,.int hi u,.int 1 v] }).objs.size],_,_,H,rfl,
  I1.kept (t':=tk) fun b o e=>ay _ e,AU _ lo (hi-lo).toNat,?_,fun b hb=> ?_,q⟩
 ·have e1:lo+((0:Nat):Int)*1=lo:=by simp
  have e2:(((hi-lo).toNat:Nat):Int)-((0:Nat):Int)=Builtin.Range.rangeSize lo hi 1:=by rw[rangeSize_one];split <;> omega
  show IsRangeIter _ _ (lo+((0:Nat):Int)*1) ((((hi-lo).toNat:Nat):Int)-((0:Nat):Int)) 1;rw[e1,e2];exact bz _ rfl
 ·have e:b=(s.heap.push { cls:=.type "range",data:=.fields #[.int lo t,.int hi u,.int 1 v] }).objs.size:=by simpa using hb
  subst e;exact I1.fpOk (bc _) (I1.hok.fresh (bc _))
noncomputable def Ow (ta:TA):TI:=fun σ H R=>ta σ H fun vs H1=>∃ j:Int,vs=[.int j]/\ -(2 ^ 62)<=j/\j<2 ^ 62/\R (Itr 0 j.toNat) H1
theorem CL (hg:Gl X "range") (hm:X.mg "range"=wf) (ha:PA X [a] ta) (hs:av [a] X.env=[(false,eval a X.env)]:=by rfl):PI X tg (.Call (.Name "range" p) [a] [] pos) (Ow ta):=by
 intro pins s σ H R I h;refine Call_ (vK I hg hm boot_range (ku (thn (ha pos pins s σ H _ I h) fun us s1 ⟨vs,H1,I1,r1,q1⟩=> ?_) hs rfl));obtain⟨j,e,q1,q2,q⟩:=q1;subst e;cases r1 with
 |cons r rr=>
  cases rr;obtain⟨t,rfl⟩:=r;exact call_range_1 (Fq I1 (by omega) (by omega) q1 q2 (by simpa using q))
noncomputable def NH (wi:TI) (g:TG) (tb:TS):TS:=fun D σ H=>wi σ H fun J H1=>∃ W:Nat->Nat->St->Hp->Prop,(∃ m,W 0 m σ H1)/\∀ i m σ H,W i m σ H->
 (J.stop i H/\D.nx σ H)∨(J.go i H/\∃ N:St->Hp->Prop,(∀ σ' H',N σ' H'->∃ m',m'<m/\W (i+1) m' σ' H')/\∀ x H',J.yld i H x H'->g x σ H' fun σ2 H2=>tb { D with nx:=N,ct:=N,bk:=D.nx } σ2 H2)
noncomputable def vE (fp:List af) (h:cy):List (af×Obj):=fp.filterMap fun b=>(h.get? b).map fun o=>(b,o)
theorem iX (hb:b∈fp) (e:h.get? b=we o):(b,o)∈vE fp h:=gq.mpr ⟨b,hb,by rw[e];rfl⟩
theorem CV (hp:p∈vE fp h):p.1∈fp/\h.get? p.1=we p.2:=by
 obtain⟨b,hb,e⟩:=gq.mp hp;cases q:h.get? b with
 |none=>rw[q] at e;cases e
 |some o=>
  rw[q] at e;have e':(b,o)=p:=b9 e;subst e';exact⟨hb,q⟩
theorem Inv.pinned (I:Inv X pins σ H s) (hf:∀ b∈fp,Ig X pins H b) (ho:∀ b∈fp,∃ o,s.heap.get? b=we o/\∀ v,o.data≠ .cell v):Inv X (pins++vE fp s.heap) σ H s:=
 I.pins_of fun p hp=>(cz.mp hp).elim (fun z=>I.pin p (dr _ z)) fun z=>by
  obtain⟨hb,e⟩:=CV z;obtain⟨f0,f1,f2,_⟩:=hf p.1 hb;obtain⟨o,e',d⟩:=ho p.1 hb;rw[e] at e';cases e';exact⟨e,f0,f1,f2,d⟩
theorem Inv.unpinned (I:Inv X (pins++pl) σ H s):Inv X pins σ H s:=I.pins_of fun p hp=>I.pin p (dr _ (di _ hp))
theorem HC (hp:PassesOwn (model X.prog X.w) X.A X.env X.xe) (hc:X.calm=true) (hi:PI X tg iter wi) (hg:PG X tg g) (hb:PSs X body tb)
  (hs:∀ x,f9 iter X.env x=pure x:=by intro _;rfl):PS X (.For tg iter body [] pos) (NH wi g tb):=by
 intro pins s σ H D I h;refine wpAny_For (thn (hi pins s σ H _ I h) fun v s1 h1=>thn h1 fun itv s2 h2=> ?_) hs;obtain⟨it,fp,tn,J,H2,e,I2,T,st2,f2,W,⟨m0,w0⟩,turn⟩:=h2;subst e
 -- what stays true of the iterator's objects through the loop
 have stat:∀ {H':Hp},(∀ b∈fp,H' b=wf)->∀ b∈fp,Ig X pins H' b:=fun hn b hb=>⟨hn b hb,(f2 b hb).2⟩;refine codeAny_forLoop_any (fun n s'=>∃ i σ' H',Inv X pins σ' H' s'/\tn i s'.heap/\(∀ b∈fp,H' b=wf)/\W i n σ' H') ?_ m0 ⟨0,σ,H2,I2,st2,fun b hb=>(f2 b hb).1,w0⟩;rintro n s3 ⟨i,σ3,H3,I3,st3,fr3,w3⟩;rcases turn i n σ3 H3 w3 with⟨stop,qn⟩|⟨go,N,hN,step⟩
 ·refine lq hp (thn (T.done X rfl rfl rfl hc i pins s3 σ3 H3 X.xe I3 (stat fr3) st3 stop) fun r s4 ⟨hr,I4⟩=> ?_);subst hr;exact oj ⟨σ3,H3,I4,qn⟩
 ·refine lq hp (thn (T.item X rfl rfl rfl hc i pins s3 σ3 H3 X.xe I3 (stat fr3) st3 go) fun r s4 ⟨u,hr,h4⟩=> ?_);subst hr;refine lq hp (thn h4 fun _ s5 ⟨x,H5,I5,r5,y5,st5,fr5⟩=> ?_);have I5':=I5.pinned (stat fr5) (T.obj _ _ st5);refine lq hp (thn (hg _ s5 σ3 H5 x u _ I5' r5 (step x H5 y5)) fun _ s6 ⟨σ6,H6,I6,q6⟩=> ?_);refine lq hp (thn (hb _ s6 σ6 H6 _ I6 q6) fun f s7 q7=> ?_);have again:∀ {σ7:St}{H7:Hp},Inv X (pins++vE fp s5.heap) σ7 H7 s7->N σ7 H7->∃ m,m<n/\∃ i σ' H',Inv X pins σ' H' s7/\tn i s7.heap/\(∀ b∈fp,H' b=wf)/\W i m σ' H':=fun {σ7 H7} I7 n7=>by
   obtain⟨m',hm,w7⟩:=hN σ7 H7 n7;refine⟨m',hm,i+1,σ7,H7,I7.unpinned,T.keep _ _ _ st5 fun b hb o e=>(I7.pin (b,o) (dr _ (dr _ (iX hb e)))).1,fun b hb=> ?_,w7⟩;obtain⟨o,e,d⟩:=T.obj _ _ st5 b hb;exact(I7.pin (b,o) (dr _ (dr _ (iX hb e)))).2.1
  cases f with
  |next=>obtain⟨σ7,H7,I7,n7⟩:=q7;exact again I7 n7
  |cont=>obtain⟨σ7,H7,I7,n7⟩:=q7;exact again I7 n7
  |brk=>obtain⟨σ7,H7,I7,q7⟩:=q7;exact⟨σ7,H7,I7.unpinned,q7⟩
  |ret v=>obtain⟨x7,σ7,H7,I7,r7,q7⟩:=q7;exact⟨x7,σ7,H7,I7.unpinned,r7,q7⟩
end
end L2
namespace L2
noncomputable abbrev R2:=V->V->Hp->VK->Prop
noncomputable def OpR (X:Cx) (f:ag->ag->Sem ag) (r:R2):Prop:=
 ∀(pins:List (af×Obj)) (s:am) (σ:St) (H:Hp) (x y:V) (v u:ag) (Q:VK),Inv X pins σ H s->RelV x v->RelV y u->r x y H Q->
  aw (model X.prog X.w) X.A (f v u) (EP X pins σ Q) X.xe s
noncomputable def UnR (X:Cx) (f:ag->Sem ag) (r:V->Hp->VK->Prop):Prop:=
 ∀(pins:List (af×Obj)) (s:am) (σ:St) (H:Hp) (x:V) (v:ag) (Q:VK),Inv X pins σ H s->RelV x v->r x H Q->
  aw (model X.prog X.w) X.A (f v) (EP X pins σ Q) X.xe s
noncomputable def CallR (X:Cx) (f:ag) (r:List V->Hp->VK->Prop):Prop:=
 ∀(pins:List (af×Obj)) (s:am) (σ:St) (H:Hp) (xs:List V) (us:List ag) (Q:VK),Inv X pins σ H s->Vals xs us->r xs H Q->
  aw (model X.prog X.w) X.A (call f us) (EP X pins σ Q) X.xe s
noncomputable def Ql (X:Cx) (r:V->Hp->(Bool->Hp->Prop)->Prop):Prop:=
 ∀(pins:List (af×Obj)) (s:am) (σ:St) (H:Hp) (x:V) (v:ag) (Q:Bool->Hp->Prop),Inv X pins σ H s->RelV x v->r x H Q->
  aw (model X.prog X.w) X.A (truthy v) (TP X pins σ Q) X.xe s
noncomputable def tOp (r:R2) (ta tb:TE):TE:=fun σ H Q=>ta σ H fun x H1=>tb σ H1 fun y H2=>r x y H2 Q
noncomputable def tUn (r:V->Hp->VK->Prop) (ta:TE):TE:=fun σ H Q=>ta σ H fun x H1=>r x H1 Q
noncomputable def rI (C:Int->Int->Prop) (g:Int->Int->V):R2:=fun x y H Q=>∃ i j,x=.int i/\y=.int j/\C i j/\Q (g i j) H
noncomputable def rI0 (g:Int->Int->V):R2:=fun x y H Q=>∃ i j,x=.int i/\y=.int j/\Q (g i j) H
noncomputable def rU (g:Int->V):V->Hp->VK->Prop:=fun x H Q=>∃ i,x=.int i/\Q (g i) H
section
variable {X:Cx}{a b c:br}{ta tb tc:TE}{pos:Pos}
theorem OQ (ha:PE X a ta) (hb:PE X b tb) {R:V->V->Hp->Prop} (I:Inv X pins σ H s)
  (h:ta σ H fun x H1=>tb σ H1 fun y H2=>R x y H2) {f:ag->ag->Sem ag}
  (hf:∀ v u s2 x y H2,Inv X pins σ H2 s2->RelV x v->RelV y u->R x y H2->aw (model X.prog X.w) X.A (f v u) Q X.xe s2):
  aw (model X.prog X.w) X.A (eval a X.env) (fun v s₁=>aw (model X.prog X.w) X.A (eval b X.env) (fun u s₂=>aw (model X.prog X.w) X.A (f v u) Q X.xe s₂) X.xe s₁) X.xe s:=by
 refine thn (ha pins s σ H _ I h) fun v s1 ⟨x,H1,I1,r1,q1⟩=> ?_;refine thn (hb pins s1 σ H1 _ I1 q1) fun u s2 ⟨y,H2,I2,r2,q2⟩=> ?_;exact hf v u s2 x y H2 I2 r1 r2 q2
theorem NW (ho:OpR X (jw op) r) (ha:PE X a ta) (hb:PE X b tb):PE X (.BinOp a op b pos) (tOp r ta tb):=by
 intro pins s σ H Q I h;exact wpAny_BinOp (OQ ha hb I h fun v u s2 x y H2 I2 rx ry q=>ho pins s2 σ H2 x y v u Q I2 rx ry q)
theorem NV (ho:UnR X (unaryOp op) r) (ha:PE X a ta):PE X (.UnaryOp op a pos) (tUn r ta):=by
 intro pins s σ H Q I h;exact UnaryOp_ (thn (ha pins s σ H _ I h) fun v s1 ⟨x,H1,I1,r1,q1⟩=>ho pins s1 σ H1 x v Q I1 r1 q1)
theorem opI {g:Int->Int->Int}
  (rule:∀(i j:Int) (t u:Tok) (s:am) (Q:ag->am->Prop) (E:ag->am->Prop),C i j->Q (.int (g i j) s.toks) { s with toks:=s.toks+1 }->aw (model X.prog X.w) X.A (f (.int i t) (.int j u)) Q E s):
  OpR X f (rI C fun i j=>.int (g i j)):=by
 intro pins s σ H x y v u Q I rx ry h;obtain⟨i,j,rfl,rfl,hc,q⟩:=h;obtain⟨t,rfl⟩:=rx;obtain⟨t',rfl⟩:=ry;exact rule i j t t' s _ _ hc ⟨.int (g i j),H,I.tok _,⟨_,rfl⟩,q⟩
theorem Po {g:Int->Int->Int}
  (rule:∀(i j:Int) (t u:Tok) (s:am) (Q:ag->am->Prop) (E:ag->am->Prop),Q (.int (g i j) s.toks) { s with toks:=s.toks+1 }->aw (model X.prog X.w) X.A (f (.int i t) (.int j u)) Q E s):
  OpR X f (rI0 fun i j=>.int (g i j)):=by
 intro pins s σ H x y v u Q I rx ry h;obtain⟨i,j,rfl,rfl,q⟩:=h;obtain⟨t,rfl⟩:=rx;obtain⟨t',rfl⟩:=ry;exact rule i j t t' s _ _ ⟨.int (g i j),H,I.tok _,⟨_,rfl⟩,q⟩
theorem No {g:Int->Int->Bool}
  (rule:∀(i j:Int) (t u:Tok) (s:am) (Q:ag->am->Prop) (E:ag->am->Prop),Q (.bool (g i j)) s->aw (model X.prog X.w) X.A (f (.int i t) (.int j u)) Q E s):
  OpR X f (rI0 fun i j=>.bl (g i j)):=by
 intro pins s σ H x y v u Q I rx ry h;obtain⟨i,j,rfl,rfl,q⟩:=h;obtain⟨t,rfl⟩:=rx;obtain⟨t',rfl⟩:=ry;exact rule i j t t' s _ _ ⟨.bl (g i j),H,I,rfl,q⟩
noncomputable def CMul (i j:Int):Prop:=(-(2 ^ 64)<i/\i<2 ^ 64)∨(-(2 ^ 64)<j/\j<2 ^ 64)
theorem CMul.ok (h:CMul i j):IntMulOk i j:=by
 rcases h with⟨h1,h2⟩|⟨h1,h2⟩
 ·exact .of_left (intBits_le_64 h1 h2)
 ·exact .of_right (intBits_le_64 h1 h2)
theorem Mj:OpR X (jw .Add) (rI0 fun i j=>.int (i+j)):=Po fun _ _ _ _ _ _ _ q=>add_int q
theorem LY:OpR X (jw .Sub) (rI0 fun i j=>.int (i-j)):=Po fun _ _ _ _ _ _ _ q=>sub_int q
theorem Mb:OpR X (jw .Mult) (rI CMul fun i j=>.int (i*j)):=opI fun _ _ _ _ _ _ _ hc q=>mul_int q hc.ok
theorem Mc:OpR X (jw .Mod) (rI (fun _ j=>0<j) fun i j=>.int (i % j)):=opI fun i j _ _ _ _ _ hc q=>by
 have h1:(0:Int)<j:=hc;exact mod_int' (by omega) (by rw[Int.fmod_eq_emod_of_nonneg i (by omega)];exact q)
theorem unI {g:Int->Int}
  (rule:∀(i:Int) (t:Tok) (s:am) (Q:ag->am->Prop) (E:ag->am->Prop),Q (.int (g i) s.toks) { s with toks:=s.toks+1 }->aw (model X.prog X.w) X.A (f (.int i t)) Q E s):
  UnR X f (rU fun i=>.int (g i)):=by
 intro pins s σ H x v Q I rx h;obtain⟨i,rfl,q⟩:=h;obtain⟨t,rfl⟩:=rx;exact rule i t s _ _ ⟨.int (g i),H,I.tok _,⟨_,rfl⟩,q⟩
theorem KQ:UnR X (unaryOp .USub) (rU fun i=>.int (-i)):=unI fun _ _ _ _ _ q=>neg_int q
end
section
variable {X:Cx}{a b c:br}{ta tb tc:TE}{pos:Pos}
theorem HY (I:Inv X pins σ H s) (q:Q (.bl k) H) (e:k=k'):EP X pins σ Q (.bool k') s:=by
 subst e;exact⟨.bl k,H,I,rfl,q⟩
theorem Me:OpR X (d7 .Lt) (rI0 fun i j=>.bl (decide (i<j))):=No fun _ _ _ _ _ _ _ q=>va q
theorem Ji:OpR X (d7 .LtE) (rI0 fun i j=>.bl (decide (i<=j))):=No fun _ _ _ _ _ _ _ q=>le_int q
theorem Mh:OpR X (d7 .Gt) (rI0 fun i j=>.bl (decide (j<i))):=No fun _ _ _ _ _ _ _ q=>gt_int q
theorem Ol:OpR X (d7 .GtE) (rI0 fun i j=>.bl (decide (j<=i))):=No fun _ _ _ _ _ _ _ q=>ge_int q
theorem Mf:OpR X (d7 .Is) (fun x y H Q=>y=.non/\Q (.bl (decide (x=.non))) H):=by
 intro pins s σ H x y v u Q I rx ry h;obtain⟨rfl,q⟩:=h;cases ry;refine is_none_gen (HY I q ?_);cases x <;> first
  |(cases rx;rfl)
  |(obtain⟨t,rfl⟩:=rx;rfl)
theorem Jf:OpR X (d7 .IsNot) (fun x y H Q=>y=.non/\Q (.bl (!decide (x=.non))) H):=by
 intro pins s σ H x y v u Q I rx ry h;obtain⟨rfl,q⟩:=h;cases ry;refine isnot_none_gen (HY I q ?_);cases x <;> first
  |(cases rx;rfl)
  |(obtain⟨t,rfl⟩:=rx;rfl)
theorem iC (b:br) (h:op≠ .In:=by decide) (h2:op≠ .NotIn:=by decide):ik op b=false:=by
 have e1:(op==CmpOp.In)=false:=by cases op <;> first|rfl|exact absurd rfl h
 have e2:(op==CmpOp.NotIn)=false:=by cases op <;> first|rfl|exact absurd rfl h2
 cases b <;> simp[ik,e1,e2]
theorem IQ (ho:OpR X (d7 op) r) (ha:PE X a ta) (hb:PE X b tb) (hm:ik op b=false):PE X (.Compare a [op] [b] pos) (tOp r ta tb):=by
 intro pins s σ H Q I h;exact wpAny_Compare1 (OQ ha hb I h fun v u s2 x y H2 I2 rx ry q=>ho pins s2 σ H2 x y v u Q I2 rx ry q) hm
noncomputable def KW (t:TE):TT:=fun σ H Q=>t σ H fun x H'=>∃ k,x=.bl k/\Q k H'
theorem Ix (ho:OpR X (d7 op) r) (ha:PE X a ta) (hb:PE X b tb) (hm:ik op b=false):PT X (.Compare a [op] [b] pos) (KW (tOp r ta tb)):=by
 intro pins s σ H Q I h;refine rq (thn (ha pins s σ H _ I h) fun v s1 ⟨x,H1,I1,r1,q1⟩=>thn (hb pins s1 σ H1 _ I1 q1) fun u s2 ⟨y,H2,I2,r2,q2⟩=>
  thn (ho pins s2 σ H2 x y v u _ I2 r1 r2 q2) fun c s3 ⟨z,H3,I3,r3,k,e,q3⟩=> ?_) hm
 subst e;cases r3;exact dh ⟨H3,I3,q3⟩
noncomputable def Lb (r r':R2) (ta tb tc:TE):TE:=fun σ H Q=>ta σ H fun x H1=>tb σ H1 fun y H2=>r x y H2 fun z H3=>∃ k,z=.bl k/\
 (if k=true then tc σ H3 fun w' H4=>r' y w' H4 Q else Q (.bl false) H3)
theorem Fw (ho:OpR X (d7 op) r) (ho':OpR X (d7 op') r') (ha:PE X a ta) (hb:PE X b tb) (hc:PE X c tc)
  (hm:lastMarks [op,op'] [b,c]=false:=by with_unfolding_all rfl):PT X (.Compare a [op,op'] [b,c] pos) (KW (Lb r r' ta tb tc)):=by
 intro pins s σ H Q I h;refine isTrue_chain (thn (ha pins s σ H _ I h) fun v s1 ⟨x,H1,I1,r1,q1⟩=>test_link (thn (hb pins s1 σ H1 _ I1 q1) fun u s2 ⟨y,H2,I2,r2,q2⟩=>
  thn (ho pins s2 σ H2 x y v u _ I2 r1 r2 q2) fun d s3 ⟨z,H3,I3,r3,k,e,q3⟩=> ?_)) hm
 subst e;cases r3;refine dh ?_;cases k with
 |false=>
  obtain⟨k',e',q'⟩:=q3;cases e';exact ite_ff ⟨H3,I3,q'⟩
 |true=>
  refine ite_tt (test_last (thn (hc pins s3 σ H3 _ I3 q3) fun w' s4 ⟨z',H4,I4,r4,q4⟩=>thn (ho' pins s4 σ H4 y z' u w' _ I4 r2 r4 q4) fun d' s5 ⟨z2,H5,I5,r5,k2,e2,q5⟩=> ?_));subst e2;cases r5;exact dh ⟨H5,I5,q5⟩
noncomputable def OR (K:aa) (x:V) (H:Hp) (k:Bool):Prop:=
 match x with
 |.non=>k=false
 |.bl b=>k=b
 |.int i=>k=(i !=0)
 |.str y=>y.length<=sizeLine/\k=((y.length:Int) !=0)
 |.byt y=>y.size<=sizeLine/\k=((y.size:Int) !=0)
 |.ref p=>(∃ xs,SqL K H p xs/\k= !xs.isEmpty)∨(∃ xs,SqT K H p xs/\k= !xs.isEmpty)∨∃ kvs,H p=we (.dK kvs)/\k= !kvs.isEmpty
 |_=>False
theorem Bv {vs:List (κ×ag)} (r:KV kvs vs):(!vs.isEmpty)= !kvs.isEmpty:=by
 cases r <;> rfl
theorem qV (r:Vals xs its):(!its.toArray.isEmpty)= !xs.isEmpty:=by
 cases r <;> simp
theorem qS:(sizeLine:Nat)<2 ^ 63:=by rw[bw];decide
theorem tru_ok:Ql X (fun x H Q=>∃ k,OR X.K x H k/\Q k H):=by
 intro pins s σ H x v Q I rx h;obtain⟨k,e,q⟩:=h;have hl:=qS;have hs:sizeLine=16777216:=bw;cases x with
 |non=>
  cases rx;have e':k=false:=e;subst e';exact truthy_none ⟨H,I,q⟩
 |bl b=>
  cases rx;have e':k=b:=e;subst e';exact dh ⟨H,I,q⟩
 |int i=>
  obtain⟨t,rfl⟩:=rx;have e':k=(i !=0):=e;subst e';exact PySem.P.truthy_int ⟨H,I,q⟩
 |str y=>
  obtain⟨t,rfl⟩:=rx;obtain⟨hy,e'⟩:y.length<=sizeLine/\k=((y.length:Int) !=0):=e;subst e';exact PySem.P.truthy_str (by omega) ⟨H,I.tok _,q⟩
 |byt y=>
  obtain⟨t,rfl⟩:=rx;obtain⟨hy,e'⟩:y.size<=sizeLine/\k=((y.size:Int) !=0):=e;subst e';exact PySem.W.truthy_bytes (by omega) ⟨H,I.tok _,q⟩
 |ref p=>
  cases rx;have e':(∃ xs,SqL X.K H p xs/\k= !xs.isEmpty)∨(∃ xs,SqT X.K H p xs/\k= !xs.isEmpty)∨∃ kvs,H p=we (.dK kvs)/\k= !kvs.isEmpty:=e;rcases e' with⟨xs,hx,e'⟩|⟨xs,hx,e'⟩|⟨kvs,hx,e'⟩
  ·subst e';obtain⟨its,r,pl,hz⟩:=I.list hx;have hlen:=r.length;exact wpAny_truthy_list pl.isList (by simp only[az];omega) ⟨H,I.tok _,by rw[qV r];exact q⟩
  ·subst e';obtain⟨its,r,pl,hz⟩:=I.tuple hx;have hlen:=r.length;exact truthy_tuple pl (by simp only[az];omega) ⟨H,I.tok _,by rw[qV r];exact q⟩
  ·subst e';obtain⟨hz,hS,vs,r,m⟩:kvs.length<=sizeLine/\(p==fh)=false/\∃ vs,KV kvs vs/\s.heap.DictOf (aO X.prog X.w) p vs:=I.hok p _ hx;have hlen:kvs.length=vs.length:=iz r;exact wpAny_truthy_dict hS m (by omega) ⟨H,I.tok _,by rw[Bv r];exact q⟩
 |_=>exact(show False from e).elim
theorem Fv (ha:PE X a ta) (he:∀ whole,isTrue a X.env whole=(do let v <- whole;mj a.pos;holding [v] (truthy v))):
  PT X a (fun σ H Q=>ta σ H fun x H'=>∃ k,OR X.K x H' k/\Q k H'):=by
 intro pins s σ H Q I h;exact isTrue_plain (thn (ha pins s σ H _ I h) fun v s1 ⟨x,H1,I1,r1,q1⟩=>tru_ok pins s1 σ H1 x v Q I1 r1 q1) (he _)
theorem Bg:OpR X (jw .Add) (fun x y H Q=>∃ i j,x=.str i/\y=.str j/\i.length+j.length<=sizeLine/\Q (.str (i++j)) H):=by
 intro pins s σ H x y v u Q I rx ry h;obtain⟨i,j,rfl,rfl,hz,q⟩:=h;obtain⟨t,rfl⟩:=rx;obtain⟨t',rfl⟩:=ry;exact add_str (fun t' tk=>⟨.str (i++j),H,I.tok _,⟨_,rfl⟩,q⟩) hz
theorem lX (r:Vals [x] us):∃ u,us=[u]/\RelV x u:=by
 cases r with
 |cons r1 r2=>cases r2;exact⟨_,rfl,r1⟩
theorem EZ (r:Vals [x,y] us):∃ u w',us=[u,w']/\RelV x u/\RelV y w':=by
 cases r with
 |cons r1 r2=>
  cases r2 with
  |cons r3 r4=>cases r4;exact⟨_,_,rfl,r1,r3⟩
theorem EI (hc:X.calm=true):CallR X (.builtin "max") (fun xs H Q=>∃ i j,xs=[.int i,.int j]/\Q (.int (if j>i then j else i)) H):=by
 intro pins s σ H xs us Q I r h;obtain⟨i,j,rfl,q⟩:=h;obtain⟨u,w',rfl,⟨t,rfl⟩,⟨t',rfl⟩⟩:=EZ r;refine max_two_ints (I.ok.hd hc) fun h' tk k=>⟨_,H,I.kept k,?_,q⟩
 by_cases hj:j>i
 ·rw[if_pos hj,if_pos hj];exact⟨_,rfl⟩
 ·rw[if_neg hj,if_neg hj];exact⟨_,rfl⟩
theorem EH (hc:X.calm=true):CallR X (.builtin "min") (fun xs H Q=>∃ i j,xs=[.int i,.int j]/\Q (.int (if j<i then j else i)) H):=by
 intro pins s σ H xs us Q I r h;obtain⟨i,j,rfl,q⟩:=h;obtain⟨u,w',rfl,⟨t,rfl⟩,⟨t',rfl⟩⟩:=EZ r;refine min_two_ints (I.ok.hd hc) fun h' tk k=>⟨_,H,I.kept k,?_,q⟩
 by_cases hj:j<i
 ·rw[if_pos hj,if_pos hj];exact⟨_,rfl⟩
 ·rw[if_neg hj,if_neg hj];exact⟨_,rfl⟩
theorem call_int1:CallR X (.type "int") (fun xs H Q=>(∃ i,xs=[.int i]/\Q (.int i) H)∨∃ k,xs=[.bl k]/\Q (.int (if k then 1 else 0)) H):=by
 intro pins s σ H xs us Q I r h;rcases h with⟨i,rfl,q⟩|⟨k,rfl,q⟩
 ·obtain⟨u,rfl,t,rfl⟩:=lX r;exact call_int_int ⟨.int i,H,I,⟨_,rfl⟩,q⟩
 ·obtain⟨u,rfl,r1⟩:=lX r;cases r1;exact call_int_bool ⟨.int (if k then 1 else 0),H,I.tok _,⟨_,rfl⟩,q⟩
noncomputable def Pa (K:aa) (x:V) (H:Hp) (n:Nat):Prop:=
 match x with
 |.str y=>y.length<=sizeLine/\n=y.length
 |.byt y=>y.size<=sizeLine/\n=y.size
 |.ref p=>(∃ xs,SqL K H p xs/\n=xs.length)∨∃ xs,SqT K H p xs/\n=xs.length
 |_=>False
theorem Hk:CallR X (.builtin "len") (fun xs H Q=>∃ x n,xs=[x]/\Pa X.K x H n/\Q (.int n) H):=by
 intro pins s σ H xs us Q I r h;obtain⟨x,n,rfl,e,q⟩:=h;obtain⟨u,rfl,rx⟩:=lX r;have hl:=qS;have hs:sizeLine=16777216:=bw;cases x with
 |str y=>
  obtain⟨t,rfl⟩:=rx;obtain⟨hy,e'⟩:y.length<=sizeLine/\n=y.length:=e;subst e';exact len_str (by omega) ⟨.int _,H,I.tok _,⟨_,rfl⟩,q⟩
 |byt y=>
  obtain⟨t,rfl⟩:=rx;obtain⟨hy,e'⟩:y.size<=sizeLine/\n=y.size:=e;subst e';exact PySem.W.len_bytes (by omega) ⟨.int _,H,I.tok _,⟨_,rfl⟩,q⟩
 |ref p=>
  cases rx;have e':(∃ xs,SqL X.K H p xs/\n=xs.length)∨∃ xs,SqT X.K H p xs/\n=xs.length:=e;rcases e' with⟨xs,hx,e'⟩|⟨xs,hx,e'⟩
  ·subst e';obtain⟨its,r',pl,hz⟩:=I.list hx;have hlen:=r'.length;exact Calls.call_len_list pl.isList (by simp only[az];omega) ⟨.int xs.length,H,I.tok _,⟨_,by simp only[az];rw[hlen]⟩,q⟩
  ·subst e';obtain⟨its,r',pl,hz⟩:=I.tuple hx;have hlen:=r'.length;exact len_tuple pl (by simp only[az];omega) ⟨.int xs.length,H,I.tok _,⟨_,by simp only[az];rw[hlen]⟩,q⟩
 |_=>exact(show False from e).elim
end
end L2
namespace L2
structure ObjM (h:cy) (x dx C:af) (mA:Str->Option ag):Prop where
 obj:h.get? x=we (iq C dx)
 ns:h.Ns1 dx mA
 ne:dx≠x
theorem Do {h:cy} (n:h.Ns1 dx mA):∃ od,h.get? dx=we od/\∀ name,o6 name od=we (mA name):=by
 obtain⟨o,es,ep,ho,hd,hk,_,hm⟩:=n;refine⟨o,ho,fun name=> ?_⟩;have e:=hm name;unfold nsFind findBy at e;rw[<- Array.find?_toList] at e;unfold o6;rw[hd];dsimp only;split
 ·rename_i y q
  rw[q] at e;exact congrArg we e
 ·rename_i q
  rw[q] at e;have a:es.toList.any (·.refKey)=false:=by
   rw[List.any_eq_false];intro y hy;obtain⟨z,t,hkey⟩:=hk y (Array.mem_toList_iff.mp hy);simp[DictEntry.refKey,hkey]
  have a':¬ es.toList.any (·.refKey)=true:=by rw[a];exact cf
  rw[if_neg a'];exact congrArg we e
theorem ObjM.look (I:ObjM h x dx C mA):∃ od,PySem.W.InstAt h x (iq C dx) C (we od)/\∀ name,o6 name od=we (mA name):=
 let ⟨od,ho,hl⟩:=Do I.ns
 ⟨od,⟨I.obj,rfl,rfl,ho⟩,hl⟩
section
variable {prog:da}{w:dc}{A:de}{E:ag->am->Prop}{s:am}{K:aa}{x dx C f:af}{mA:Str->Option ag}{name:Str}{v:ag}
theorem Ka (X:K.In s.heap) (I:ObjM s.heap x dx C mA) (hg:m8 K C name=true) (hh:pv K C=true)
  (ha:gx K (.ref C) name=we wf) (hv:mA name=we v) (hv':u3 v=true) (h:Q v { s with toks:=s.toks+1 }):
  aw (model prog w) A (getAttr (.ref x) name expr) Q E s:=by
 obtain⟨od,J,hl⟩:=I.look;exact PySem.W.get_value X J (o5 hg).1 (PySem.W.findObj_own hh ha rfl (by rw[hl,hv])) hv' h
theorem Gv (X:K.In s.heap) (I:ObjM s.heap x dx C mA) (hg:m8 K C name=true)
  (hf:gx K (.ref C) name=we (we (.ref f))) (ht:om K (.ref f)=true) (hv:mA name=wf) (h:Q (.ref f,[.ref x]) s):
  aw (model prog w) A (l0 (.ref x) name pl) Q E s:=by
 obtain⟨od,J,hl⟩:=I.look;exact PySem.W.method_fn X J (o5 hg).1 (o5 hg).2 hf (beq_iff_eq.mp ht) (by show(o6 name od).map (·.isSome)=we false;rw[hl,hv];rfl) h
theorem Io (X:K.In s.heap) (I:ObjM s.heap x dx C mA)
  (hs:gx K (.ref C) "__setattr__"=we (we (.builtin "object.__setattr__"))) (hp:uw K C=true) (ht:qr K C name=we wf) (hh:pv K C=true)
  (hw:ud mA ns) (hsz:ns.length<=sizeLine)
  (h:∀ h',ObjM h' x dx C (fun y=>if y=name then we v else mA y)->fm dx s.heap h'->Q () { s with heap:=h',toks:=s.toks+2 }):
  aw (model prog w) A (setAttr (.ref x) name v) Q E s:=by
 obtain⟨od,J,hl⟩:=I.look;refine PySem.W.set_plain X J hs (PySem.W.osa_open (s:={ s with toks:=s.toks+1 }) (r:=wf) X J hp ht fun b=> ?_);obtain⟨cd,hc,hd'⟩:=PySem.W.any_some hh;have hx:s.heap.get? x=we ⟨.ref C,we dx,.plain,#[]⟩:=I.obj;refine ae (ak (ae (ae (wpAny_loadPart hx (ae (PySem.W.Looks.here (s:={ s with toks:=s.toks+1 }) (PySem.W.looks_clsIn X hc) ?_))))));rw[hd'];refine ak (a:=we dx) (ae (ak (ae ?_)));refine wpAny_nsSet1 (s:={ s with toks:=s.toks+1 }) I.ns fun h' hn2 hs2=> ?_;obtain⟨oD,esD,epD,hoD,hdD,hcD⟩:=hn2.count (PySem.Within.cons name v hw);refine ae (wpAny_lookBehind hoD (by rw[hdD];exact pastItsLine_dict (ce hcD (by rw[bv];omega))) ?_);exact ak (h _ ⟨(hs2.2 _ (bt I.ne)).trans I.obj,hn2,I.ne⟩ hs2)
theorem Ge (X:K.In s.heap) (hm:qt K C=true)
  (hi:gx K (.ref C) "__init__"=we (we (.ref f))) (hf:PySem.W.typeIn K (.ref f)=we (.type "function"))
  (h:n8 (model prog w) (A.under (.builtin "type.__call__" ⟨.ref C::vs,kw⟩)) (.call (.ref f) ⟨.ref (s.heap.objs.size+1)::vs,kw⟩) (PySem.W.InitBack (s.heap.objs.size+1) R)
   { s with heap:=(s.heap.push gy).push (iq C s.heap.objs.size) }):
  n8 (model prog w) A (.call (.ref C) ⟨vs,kw⟩) R s:=by
 obtain⟨hh,g,d,t,os⟩:=s;exact PySem.W.make_core (PySem.W.makes_of X hm) (PySem.W.looks_findIn X hi) (fun self=>PySem.W.bind_fn X self hf) (.inl rfl) h
end
noncomputable def putF (f:Str) (v:V):List (Str×V)->List (Str×V)
 |[]=>[(f,v)]
 |(g,x)::r=>if g=f then(g,v)::r else(g,x)::putF f v r
theorem nV (f g:Str) (v:V):∀ fs:List (Str×V),(putF f v fs).lookup g=if g=f then we v else fs.lookup g
 |[]=>by
  show jq g [(f,v)]=_
  by_cases h:g=f
  ·have hb:(g==f)=true:=beq_iff_eq.mpr h;simp only[jq,hb,if_pos h]
  ·have hb:(g==f)=false:=beq_eq_false_iff_ne.mpr h;simp only[jq,hb,if_neg h]
 |(k,x)::r=>by
  have ih:=nV f g v r;rw[show putF f v ((k,x)::r)=(if k=f then(k,v)::r else(k,x)::putF f v r) from rfl]
  by_cases hk:k=f
  ·rw[if_pos hk]
   by_cases h:g=k
   ·have hb:(g==k)=true:=beq_iff_eq.mpr h;simp only[jq,hb,if_pos (h.trans hk)]
   ·have hb:(g==k)=false:=beq_eq_false_iff_ne.mpr h;simp only[jq,hb,if_neg (fun e:g=f=>h (e.trans hk.symm))]
  ·rw[if_neg hk]
   by_cases h:g=k
   ·have hb:(g==k)=true:=beq_iff_eq.mpr h;simp only[jq,hb,if_neg (fun e:g=f=>hk (h.symm.trans e))]
   ·have hb:(g==k)=false:=beq_eq_false_iff_ne.mpr h;simp only[jq,hb];exact ih
theorem nX (f:Str) (v:V):∀ fs:List (Str×V),f∈(putF f v fs).map (·.1)/\∀ g,g∈fs.map (·.1)->g∈(putF f v fs).map (·.1)
 |[]=>⟨by simp[putF],fun g h=>by simp at h⟩
 |(k,x)::r=>by
  obtain⟨i1,i2⟩:=nX f v r;rw[show putF f v ((k,x)::r)=(if k=f then(k,v)::r else(k,x)::putF f v r) from rfl]
  by_cases hk:k=f
  ·rw[if_pos hk];subst hk;exact⟨by simp,fun g h=>by simpa using h⟩
  ·rw[if_neg hk];refine⟨?_,fun g h=> ?_⟩
   ·rw[bg];exact ai _ i1
   ·rw[bg] at h ⊢;rcases ah.mp h with e|e
    ·exact ah.mpr (.inl e)
    ·exact ai _ (i2 g e)
theorem nW (f:Str) (v:V):∀ fs:List (Str×V),(putF f v fs).length<=fs.length+1
 |[]=>by simp[putF]
 |(k,x)::r=>by
  have ih:=nW f v r;rw[show putF f v ((k,x)::r)=(if k=f then(k,v)::r else(k,x)::putF f v r) from rfl]
  by_cases hk:k=f
  ·rw[if_pos hk,bv,bv];omega
  ·rw[if_neg hk,bv,bv];omega
theorem RelO.some_of (r:RelO (we v) o):∃ u,o=we u/\RelV v u:=by
 cases o with
 |none=>exact(show False from r).elim
 |some u=>exact⟨u,rfl,r⟩
theorem RelO.none_of (r:RelO wf o):o=wf:=by
 cases o with
 |none=>rfl
 |some u=>exact(show False from r).elim
theorem DJ (r:RelV v u):u3 u=true:=by
 cases v with
 |non=>cases (show u=hW from r);rfl
 |bl b=>cases (show u=sv b from r);rfl
 |int i=>obtain⟨t,e⟩:=(show ∃ t,u=ub i t from r);cases e;rfl
 |str x=>obtain⟨t,e⟩:=(show ∃ t,u=uc x t from r);cases e;rfl
 |byt b=>obtain⟨t,e⟩:=(show ∃ t,u=Value.bytes b t from r);cases e;rfl
 |flt b=>obtain⟨t,e⟩:=(show ∃ t,u=Value.float b t from r);cases e;rfl
 |ref a=>cases (show u=b7 a from r);rfl
 |ty n=>cases (show u=kz n from r);rfl
section
variable {P:da}{w:dc}{H H':Hp}{h h':cy}{a C dx:af}{fs fs':List (Str×V)}
theorem xQ (hok:HOk P w H h) (e:H a=we (.ins C dx fs)):∃ mA,ObjM h a dx C mA/\(∀ f,RelO (fs.lookup f) (mA f))/\ud mA (fs.map (·.1))/\fs.length<=1000/\H dx=we (.own a):=by
 obtain⟨d,z,ne,ob,mA,n,r,q⟩:=(show ObjOk P w H h a (.ins C dx fs) from hok a _ e);exact⟨mA,⟨ob,n,ne⟩,r,q,z,d⟩
end
structure Cls (K:aa) (C:af):Prop where
 pg:m8 K C Str.empty=true
 hd:pv K C=true
 po:uw K C=true
 sa:gx K (.ref C) "__setattr__"=we (we (.builtin "object.__setattr__"))
theorem Cls.get {K:aa} (c:Cls K C) (f:Str):m8 K C f=true:=c.pg
noncomputable def NoAttr (K:aa) (C:af) (f:Str):Prop:=gx K (.ref C) f=we wf
theorem NoAttr.taker {K:aa} (n:NoAttr K C f):qr K C f=we wf:=by
 unfold qr;rw[show gx K (.ref C) f=we wf from n];rfl
structure Hv (K:aa) (C:af) (m:Str) (f:af):Prop where
 at_:gx K (.ref C) m=we (we (.ref f))
 fn:om K (.ref f)=true
 kp:gk K (.ref f)=true
section
variable {X:Cx}{pins:List (af×Obj)}{σ:St}{H:Hp}{s:am}{a C dx:af}{fs:List (Str×V)}{f:Str}{v:V}{A:de}{E:ag->am->Prop}
theorem BA (I:Inv X pins σ H s) (e:H a=we (.ins C dx fs)) (c:Cls X.K C) (n:NoAttr X.K C f) (l:fs.lookup f=we v)
  (h:∀ u s',Inv X pins σ H s'->RelV v u->Q u s'):aw (model X.prog X.w) A (getAttr (.ref a) f b) Q E s:=by
 obtain⟨mA,O,r,_,_,_⟩:=xQ I.hok e;obtain⟨u,hu,ru⟩:=RelO.some_of (v:=v) (o:=mA f) (by rw[<- l];exact r f);exact Ka I.kIn O (c.get f) c.hd n hu (DJ ru) (h u _ (I.tok _) ru)
theorem qZ (I:Inv X pins σ H s) (e:H a=we (.ins C dx fs)) (c:Cls X.K C) (k:Hv X.K C m g) (l:fs.lookup m=wf)
  (h:Q (.ref g,[.ref a]) s):aw (model X.prog X.w) A (l0 (.ref a) m pl) Q E s:=by
 obtain⟨mA,O,r,_,_,_⟩:=xQ I.hok e;have hn:mA m=wf:=RelO.none_of (by rw[<- l];exact r m);exact Gv I.kIn O (c.get m) k.at_ k.fn hn h
theorem AZ (I:Inv X pins σ H s) (e:H a=we (.ins C dx fs)) (c:Cls X.K C) (n:NoAttr X.K C f) (hl:fs.length<1000) (ry:RelV y u)
  (h:∀ s',Inv X pins σ (upd H a (.ins C dx (putF f y fs))) s'->Q () s'):aw (model X.prog X.w) A (setAttr (.ref a) f u) Q E s:=by
 obtain⟨mA,O,r,wi,_,ho⟩:=xQ I.hok e;have hz:(fs.map (·.1)).length<=sizeLine:=by rw[ar,bw];omega
 refine Io I.kIn O c.sa c.po n.taker c.hd wi hz fun h' O' sb=>h _ ?_;have hd:∃ o,h'.get? dx=we o:=let ⟨o,_,_,e',_⟩:=O'.ns;⟨o,e'⟩;refine I.write (x:=a) (e:=dx) (by rw[e];exact hX) (.inr ho) (fun b q hb z=>(sb.2 b hb).trans z) hd ?_;refine⟨by rw[aG O.ne];exact ho,?_,O.ne,O'.obj,_,O'.ns,fun g=> ?_,fun g hg=> ?_⟩
 ·have:=nW f y fs;omega
 ·show RelO ((putF f y fs).lookup g) (if g=f then we u else mA g);rw[nV]
  by_cases q:g=f
  ·rw[if_pos q,if_pos q];exact ry
  ·rw[if_neg q,if_neg q];exact r g
 ·by_cases q:g=f
  ·rw[q];exact(nX f y fs).1
  ·refine(nX f y fs).2 g (wi g fun z=>hg ?_)
   show(if g=f then we u else mA g)=wf
   rw[if_neg q];exact z
theorem Inv.made (I:Inv X pins σ H s):Inv X pins σ (upd (upd H s.heap.objs.size (.own (s.heap.objs.size+1))) (s.heap.objs.size+1) (.ins C s.heap.objs.size []))
  { s with heap:=(s.heap.push gy).push (iq C s.heap.objs.size) }:=by
 have e1:(s.heap.push gy).get? s.heap.objs.size=we gy:=bz s.heap rfl;have e2:((s.heap.push gy).push (iq C s.heap.objs.size)).get? (s.heap.objs.size+1)=we (iq C s.heap.objs.size):=by
  have:=bz (s.heap.push gy) (o:=iq C s.heap.objs.size) rfl
  rwa [hZ] at this
 have e3:(s.heap.push gy).Ns s.heap.objs.size (fun _=>wf):=⟨gy,#[],_,e1,rfl,(fun e he=>absurd he (by simp)),fun _=>rfl⟩;have I1:=I.laid (a:=s.heap.objs.size) (o:=.own (s.heap.objs.size+1)) (h':=s.heap.push gy) (t':=s.toks) (fun b u q=>ay _ q) (bc _) ⟨_,e1⟩;refine I1.laid (a:=s.heap.objs.size+1) (o:=.ins C s.heap.objs.size []) (t':=s.toks) (fun b u q=>ay _ q) (ug (hZ _ _)) ?_;have ne:s.heap.objs.size≠s.heap.objs.size+1:=ci (m9 _);refine⟨by rw[aG ne,aP],ic _,ne,e2,fun _=>wf,(Heap.Ns1.of_empty e3).at fun o q=>ay _ q,fun _=>hX,fun y hy=>absurd rfl hy⟩
theorem Kz (hb:hV e f env (eval e env)=eval e env)
  (h:aw (model prog w) A (eval e env) (fun o s₁=>aw (model prog w) A (getAttr o f true) Q E s₁) E s):aw (model prog w) A (eval (.Attribute e f pos) env) Q E s:=
 Attribute_any_ h (by rw[arm_eval_Attribute,hb])
end
noncomputable def PF (K:aa) (ta:TE) (f:Str):TE:=fun σ H Q=>ta σ H fun x H1=>∃ a C dx fs v,x=.ref a/\H1 a=we (.ins C dx fs)/\Cls K C/\NoAttr K C f/\fs.lookup f=we v/\Q v H1
noncomputable def PL (K:aa) (ta tv:TE) (f:Str):TS:=fun D σ H=>tv σ H fun y H1=>ta σ H1 fun x H2=>∃ a C dx fs,x=.ref a/\H2 a=we (.ins C dx fs)/\Cls K C/\NoAttr K C f/\fs.length<1000/\
 D.nx σ (upd H2 a (.ins C dx (putF f y fs)))
section
variable {X:Cx}{o e value:br}{f:Str}{pos pos' tpos:Pos}{ta tv:TE}
theorem LD (he:PE X e ta) (hb:hV e f X.env (eval e X.env)=eval e X.env):PE X (.Attribute e f pos) (PF X.K ta f):=by
 intro pins s σ H Q I h;refine Kz hb (thn (he pins s σ H _ I h) fun u s1 ⟨x,H1,I1,rx,a,C,dx,fs,v,ex,ea,c,n,l,q⟩=> ?_);subst ex;obtain rfl:u=b7 a:=rx;exact BA I1 ea c n l fun u' s2 I2 ru=>⟨v,H1,I2,ru,q⟩
theorem Lp (ha:PE X o ta) (hv:PE X value tv) (hs:i9 value (we (.Attribute o f pos')) pos.line X.env=pure false):PS X (.Assign [.Attribute o f pos'] value pos) (PL X.K ta tv f):=by
 intro pins s σ H D I h;refine plainObj_wpAny_Assign_Attribute (thn (hv pins s σ H _ I h) fun u s1 ⟨y,H1,I1,ry,q⟩=>thn (ha pins s1 σ H1 _ I1 q) fun ov s2 ⟨x,H2,I2,rx,a,C,dx,fs,ex,ea,c,n,l,q2⟩=> ?_) hs;subst ex;obtain rfl:ov=b7 a:=rx;exact AZ I2 ea c n l ry fun s3 I3=>⟨σ,_,I3,q2⟩
end
section
variable {X:Cx}{pins:List (af×Obj)}{σ:St}{H:Hp}{s:am}{A:de}{E:ag->am->Prop}{Q:ag->am->Prop}{c:ag}{b:Bool}
end
end L2
namespace L2
structure Room (k:Nat) (A:de):Prop where
 hd:A.handled=wf
 dp:A.depth+3*k+5<recursionLimit
 un:A.units+16*k+200<dq
theorem Room.mono (r:Room k A) (h:j<=k):Room j A:=⟨r.hd,by have:=r.dp;omega,by have:=r.un;omega⟩
theorem Room.deeper (r:Room (k+1) A) (env:Env):Room k (A.deeper env):=
 ⟨r.hd,by have:=r.dp;show A.depth+1+3*k+5<_;omega,by have:=r.un;show A.units+3+16*k+200<_;omega⟩
theorem Bp {A:de}:(A.under (.builtin "type.__call__" ⟨.ref C::us,kw⟩)).depth=A.depth+1:=by
 first|rfl|simp[uh,Code.weight,Code.isCreation,Code.isGuard,Code.isCaller,Code.frames,ui,guardIds]
theorem Bo {A:de}:(A.under (.builtin "type.__call__" ⟨.ref C::us,kw⟩)).units=A.units+1:=by
 first|rfl|simp[uh,Code.cUnits,Code.frames,ui]
theorem Room.make (r:Room (k+1) A) (C:af) (us:List ag) (kw:List (Str×ag)):Room k (A.under (.builtin "type.__call__" ⟨.ref C::us,kw⟩)):=
 ⟨r.hd,by have:=r.dp;rw[Bp];omega,by have:=r.un;rw[Bo];omega⟩
theorem Room.depth (r:Room k A):A.depth<recursionLimit:=by have:=r.dp;omega
theorem Room.units (r:Room k A):A.units+64<dq:=by have:=r.un;omega
noncomputable def Pd:TA:=fun _ H Q=>Q [] H
noncomputable def NL (ta:TE) (tr:TA):TA:=fun σ H Q=>ta σ H fun x H1=>tr σ H1 fun xs H2=>Q (x::xs) H2
section
variable {X:Cx}{e:br}{es:List br}{te:TE}{t:TA}{pos:Pos}
theorem Ag:PA X [] Pd:=fun _ _ _ _ H Q I h=>Calls.spliced_nil ⟨[],H,I,.nil,h⟩
theorem nK (ha:PE X e te) (hr:PA X es t) (hs:av (e::es) X.env=(false,eval e X.env)::av es X.env:=by rfl):PA X (e::es) (NL te t):=by
 intro pos pins s σ H Q I h;rw[hs];show aw _ _ (spliced ((false,eval e X.env)::df pos (av es X.env))) _ _ s;refine Calls.spliced_cons (thn (ha pins s σ H _ I h) fun u s1 ⟨x,H1,I1,r1,q1⟩=> ?_);exact thn (hr pos pins s1 σ H1 _ I1 q1) fun us s2 ⟨xs,H2,I2,r2,q2⟩=>⟨x::xs,H2,I2,.cons r1 r2,q2⟩
noncomputable def Pw (t:TA):TE:=fun σ H Q=>t σ H fun xs H1=>xs.length<=sizeLine/\∀ p,H1 p=wf->Q (.ref p) (upd H1 p (.tup xs))
noncomputable def PB (t:TA):TE:=fun σ H Q=>t σ H fun xs H1=>xs.length<=sizeLine/\∀ p,H1 p=wf->Q (.ref p) (upd H1 p (.lst xs))
theorem Lx (h:PA X es t):PE X (.Tuple es x1 pos) (Pw t):=by
 intro pins s σ H Q I hq;refine wpAny_Tuple_spliced (thn (h pos pins s σ H _ I hq) fun us s1 ⟨xs,H1,I1,r,z,q⟩=>⟨by rw[<- r.length];exact z,?_⟩);have hf:H1 s1.heap.objs.size=wf:=I1.hok.fresh (bc _);refine⟨.ref s1.heap.objs.size,upd H1 s1.heap.objs.size (.tup xs),I1.laid (t':=s1.toks) (fun b u e=>ay _ e) (bc _) ?_,rfl,q _ hf⟩;exact⟨z,us,r,⟨_,bz _ rfl,rfl,_,rfl⟩⟩
theorem HE (h:PA X es t):PE X (.List es pos) (PB t):=by
 intro pins s σ H Q I hq;refine wpAny_List_spliced (thn (h pos pins s σ H _ I hq) fun us s1 ⟨xs,H1,I1,r,z,q⟩=>⟨by rw[<- r.length];exact z,?_⟩);have hf:H1 s1.heap.objs.size=wf:=I1.hok.fresh (bc _);refine⟨.ref s1.heap.objs.size,upd H1 s1.heap.objs.size (.lst xs),I1.laid (t':=s1.toks) (fun b u e=>ay _ e) (bc _) ?_,rfl,q _ hf⟩;exact⟨z,us,0,r,bz _ rfl⟩
end
noncomputable abbrev Sp:=List V->Hp->VK->XK->Prop
noncomputable abbrev CXT:=List Env->Hp->am->XK->ag->am->Prop
structure Env0 (P:da) (w:dc) (K:aa) (mg:Str->Option ag) (base:cy) (A:de) (outer:List Env) (s:am) (H:Hp):Prop where
 frames:A.frames=we outer
 mod:Mod K mg base
 bs:∀ b o,base.get? b=we o->s.heap.get? b=we o/\H b=wf
 bsz:base.objs.size<=s.heap.objs.size
 funs:s.heap.FunFrames base outer
 frf:∀ b∈frs outer,H b=wf
 hok:HOk P w H s.heap
 bare:mh s.gens
noncomputable def CE (outer:List Env) (P:da) (w:dc) (H:Hp) (s:am) (Q:VK) (u:ag) (s':am):Prop:=
 ∃ v H',s'.os=s.os/\mh s'.gens/\Un (frs outer) [] H H' s.heap s'.heap/\HOk P w H' s'.heap/\RelV v u/\Q v H'
noncomputable def CR (CX:CXT) (outer:List Env) (P:da) (w:dc) (H:Hp) (s:am) (Q:VK) (E:XK) (r:Result) (s':am):Prop:=
 match r with
 |.ok (.ret u)=>CE outer P w H s Q u s'
 |.ok _=>False
 |.error e=>CX outer H s E e s'
structure qB (P:da) (w:dc) (K:aa) (mg:Str->Option ag) (base:cy) (CX:CXT) (k:Nat) (f:af) (fd:ji) (ps:List Str) (sp:Sp):Prop where
 len:∀ vs H Q E,sp vs H Q E->vs.length=ps.length
 run:∀(A:de) (outer:List Env) (s:am) (H:Hp) (args:Args) (us:List ag) (vs:List V) (Q:VK) (E:XK),Room k A->Env0 P w K mg base A outer s H->r9 s fd args (ps.zip us)->Vals vs us->sp vs H Q E->
  n8 (model P w) A (.call (.ref f) args) (CR CX outer P w H s Q E) s
theorem Env0.make {K:aa} (e:Env0 P w K mg base A outer s H) (C:af) (us:List ag) (kw:List (Str×ag)):
  Env0 P w K mg base (A.under (.builtin "type.__call__" ⟨.ref C::us,kw⟩)) outer s H:=⟨by first|exact e.frames|(simpa [uh,Code.envs,ui,pushEnvs] using e.frames),e.mod,e.bs,e.bsz,e.funs,e.frf,e.hok,e.bare⟩
section
variable {X:Cx}{pins:List (af×Obj)}{σ:St}{H:Hp}{s s':am}
theorem Inv.env0 (I:Inv X pins σ H s):Env0 X.prog X.w X.K X.mg X.base X.A X.stack s H:=
 ⟨I.ok.frames,I.ok.mod,I.bs,ce I.ok.bsz I.sz,I.stack,I.stkFree,I.hok,I.bare⟩
theorem Inv.after (I:Inv X pins σ H s) (h:CE X.stack X.prog X.w H s Q u s'):EP X pins σ Q u s':=by
 obtain⟨v,H',os,bare,un,hok,r,q⟩:=h;obtain⟨hh,g,d,t,os'⟩:=s';obtain rfl:os'=s.os:=os;exact⟨v,H',I.call (h':=hh) (g':=g) (d':=d) (t':=t) (ch:=[]) un hok bare (fun b z=>absurd z (by simp)),r,q⟩
end
noncomputable def NM (sp:Sp) (dvs:List V) (E:XK) (t:TA):TE:=fun σ H Q=>t σ H fun vs H1=>sp (vs++dvs) H1 Q E
noncomputable def KY (C:af) (m:Str) (sp:Sp) (dvs:List V) (E:XK) (ta:TE) (t:TA):TE:=fun σ H Q=>ta σ H fun x H1=>∃ a dx fs,x=.ref a/\H1 a=we (.ins C dx fs)/\fs.lookup m=wf/\
 t σ H1 fun vs H2=>sp (x::(vs++dvs)) H2 Q E
noncomputable def NG (C:af) (sp:Sp) (dvs:List V) (E:XK) (t:TA):TE:=fun σ H Q=>t σ H fun vs H1=>∀ x dx,H1 x=wf->H1 dx=wf->dx≠x->
 sp (.ref x::(vs++dvs)) (upd (upd H1 dx (.own x)) x (.ins C dx [])) (fun v H2=>v=.non/\Q (.ref x) H2) E
noncomputable def Binds (K:aa) (fd:ji) (ps:List Str) (ds:List ag):Prop:=
 ∀(s:am) (us:List ag),K.In s.heap->(us++ds).length=ps.length->r9 s fd ⟨us,[]⟩ (ps.zip (us++ds))
theorem Binds.all {K:aa} (h:∀ us:List ag,us.length=ps.length->bindArgs fd ⟨us,[]⟩=pure (ps.zip us)):Binds K fd ps []:=fun s us _ hl=>by
 rw[c3] at hl ⊢;exact .of_eq (h us hl)
noncomputable def pK (CX:CXT) (X:Cx) (E:XK):Prop:=∀(pins:List (af×Obj)) (σ:St) (H:Hp) (s:am) (e:ag) (s':am),Inv X pins σ H s->CX X.stack H s E e s'->X.xe e s'
section
variable {X:Cx}{CX:CXT}{k:Nat}{f C:af}{fd:ji}{ps:List Str}{sp:Sp}{dvs:List V}{ds:List ag}{E:XK}{x m:Str}{p pos apos:Pos}{e o:br}{es:List br}{ta:TE}{t:TA}
theorem Cy (F:qB X.prog X.w X.K X.mg X.base CX k f fd ps sp) (hr:Room k X.A) (hb:Binds X.K fd ps ds) (hd:Vals dvs ds) (hx:pK CX X E)
  (I:Inv X pins σ H s) (r:Vals vs us) (h:sp (vs++dvs) H Q E):aw (model X.prog X.w) X.A (call (.ref f) us) (EP X pins σ Q) X.xe s:=by
 have r2:Vals (vs++dvs) (us++ds):=r.append hd;have hl:(us++ds).length=ps.length:=by rw[<- r2.length];exact F.len _ _ _ _ h
 refine wpAny_call (qe (F.run X.A X.stack s H ⟨us,[]⟩ (us++ds) (vs++dvs) Q E hr I.env0 (hb s us I.kIn hl) r2 h) fun r s' hq=> ?_);cases r with
 |error e=>exact hx pins σ H s e s' I hq
 |ok fl=>
  cases fl with
  |ret u=>exact I.after hq
  |next=>exact io hq
  |brk=>exact io hq
  |cont=>exact io hq
theorem IR (F:qB X.prog X.w X.K X.mg X.base CX k f fd ps sp) (hr:Room k X.A) (hg:Gl X x) (hm:X.mg x=we (.ref f)) (hk:gk X.K (.ref f)=true) (hb:Binds X.K fd ps ds) (hd:Vals dvs ds) (hx:pK CX X E)
  (ha:PA X (e::es) t) (hdb:(x==("__debug__":Str))=false:=by decide) (he:av (e::es) X.env=(false,eval e X.env)::av es X.env:=by rfl) (hpl:(df pos (av es X.env)).any (·.1)=false:=by rfl):
  PE X (.Call (.Name x p) (e::es) [] pos) (NM sp dvs E t):=by
 intro pins s σ H Q I h;refine l7 (sS I hg hm ?_ hdb);refine pe (h₀:=X.base) I.ok.mod.kin hk (thn (ha pos pins s σ H _ I h) fun us s1 ⟨vs,H1,I1,r,q⟩=>⟨I1.kIn,?_⟩) he hpl;exact Cy F hr hb hd hx I1 r q
theorem IK (he:PE X o ta) (c:Cls X.K C) (hm:Hv X.K C m f) (F:qB X.prog X.w X.K X.mg X.base CX k f fd ps sp) (hr:Room k X.A) (hb:Binds X.K fd ps ds) (hd:Vals dvs ds) (hx:pK CX X E) (ha:PA X (e::es) t)
  (hst:av (e::es) X.env=(false,eval e X.env)::av es X.env:=by rfl) (hpl:(df pos (av es X.env)).any (·.1)=false:=by rfl)
  (ht:eval (.Call (.Attribute o m apos) (e::es) [] pos) X.env=(do
   let ov <- eval o X.env
   mj apos.atName
   let (f,first) <- holding [ov] (l0 ov m pl)
   qf pos f first (df pos (av (e::es) X.env)) (jx pos (ie [] X.env))):=by rfl):
  PE X (.Call (.Attribute o m apos) (e::es) [] pos) (KY C m sp dvs E ta t):=by
 intro pins s σ H Q I h;refine se (pl:=pl) (thn (he pins s σ H _ I h) fun u s1 ⟨x,H1,I1,rx,a,dx,fs,ex,ea,l,q⟩=> ?_) ht;subst ex;obtain rfl:u=b7 a:=rx;refine qZ I1 ea c hm l ?_;refine pe (first:=[.ref a]) (h₀:=X.base) I.ok.mod.kin hm.kp (thn (ha pos pins s1 σ H1 _ I1 q) fun us s2 ⟨vs,H2,I2,r,q2⟩=>⟨I2.kIn,?_⟩) hst hpl;exact Cy (us:=.ref a::us) (vs:=.ref a::vs) F hr hb hd hx I2 (.cons rfl r) q2
theorem FA (he:PE X o ta) (c:Cls X.K C) (hm:Hv X.K C m f) (F:qB X.prog X.w X.K X.mg X.base CX k f fd ps sp) (hr:Room k X.A) (hb:Binds X.K fd ps ds) (hd:Vals dvs ds) (hx:pK CX X E)
  (ht:eval (.Call (.Attribute o m apos) [] [] pos) X.env=(do
   let ov <- eval o X.env
   mj apos.atName
   let (f,first) <- holding [ov] (l0 ov m pl)
   qf pos f first (df pos (av [] X.env)) (jx pos (ie [] X.env))):=by rfl):
  PE X (.Call (.Attribute o m apos) [] [] pos) (KY C m sp dvs E ta Pd):=by
 intro pins s σ H Q I h;refine se (pl:=pl) (thn (he pins s σ H _ I h) fun u s1 ⟨x,H1,I1,rx,a,dx,fs,ex,ea,l,q⟩=> ?_) ht;subst ex;obtain rfl:u=b7 a:=rx;refine qZ I1 ea c hm l ?_;exact PySem.W.callWith_K0 (first:=[.ref a]) I1.kIn hm.kp (Cy (us:=[.ref a]) (vs:=[.ref a]) F hr hb hd hx I1 (.cons rfl .nil) q)
structure Mk (K:aa) (C f:af):Prop where
 makes:qt K C=true
 init:gx K (.ref C) "__init__"=we (we (.ref f))
 fn:om K (.ref f)=true
 kp:gk K (.ref C)=true
theorem Fg (M:Mk X.K C f) (F:qB X.prog X.w X.K X.mg X.base CX k f fd ps sp) (hr:Room (k+1) X.A) (hb:Binds X.K fd ps ds) (hd:Vals dvs ds)
  (hx:pK CX X E) (I:Inv X pins σ H s) (r:Vals vs us)
  (h:∀ x dx,H x=wf->H dx=wf->dx≠x->sp (.ref x::(vs++dvs)) (upd (upd H dx (.own x)) x (.ins C dx [])) (fun v H2=>v=.non/\Q (.ref x) H2) E):
  aw (model X.prog X.w) X.A (call (.ref C) us) (EP X pins σ Q) X.xe s:=by
 have hq:=h (s.heap.objs.size+1) s.heap.objs.size (I.hok.fresh (Nat.le_succ _)) (I.hok.fresh (bc _)) (ci (m9 _));have I2:=Inv.made (C:=C) I;have r2:Vals (V.ref (s.heap.objs.size+1)::(vs++dvs)) (b7 (s.heap.objs.size+1)::(us++ds)):=.cons rfl (r.append hd);have hl:(b7 (s.heap.objs.size+1)::us++ds).length=ps.length:=by
  have e:=r2.length;rw[F.len _ _ _ _ hq] at e;exact e.symm
 refine wpAny_call (Ge (f:=f) I.kIn M.makes M.init (beq_iff_eq.mp M.fn) (qe (F.run _ X.stack _ _ ⟨b7 (s.heap.objs.size+1)::us,[]⟩ (b7 (s.heap.objs.size+1)::(us++ds)) _ _ E (hr.make C us [])
  (I2.env0.make C us []) (hb _ (b7 (s.heap.objs.size+1)::us) I2.kIn hl) r2 hq) fun r s' hq'=> ?_))
 cases r with
 |error e=>exact hx pins σ _ _ e s' I2 hq'
 |ok fl=>
  cases fl with
  |ret u=>
   obtain⟨v,H',I3,rv,ev,q3⟩:=I2.after hq';subst ev;exact⟨rv,⟨V.ref (s.heap.objs.size+1),H',I3,rfl,q3⟩⟩
  |next=>exact io hq'
  |brk=>exact io hq'
  |cont=>exact io hq'
theorem IL (M:Mk X.K C f) (F:qB X.prog X.w X.K X.mg X.base CX k f fd ps sp) (hr:Room (k+1) X.A) (hg:Gl X x) (hm:X.mg x=we (.ref C)) (hb:Binds X.K fd ps ds) (hd:Vals dvs ds) (hx:pK CX X E)
  (ha:PA X (e::es) t) (hdb:(x==("__debug__":Str))=false:=by decide) (he:av (e::es) X.env=(false,eval e X.env)::av es X.env:=by rfl) (hpl:(df pos (av es X.env)).any (·.1)=false:=by rfl):
  PE X (.Call (.Name x p) (e::es) [] pos) (NG C sp dvs E t):=by
 intro pins s σ H Q I h;refine l7 (sS I hg hm ?_ hdb);refine pe (h₀:=X.base) I.ok.mod.kin M.kp (thn (ha pos pins s σ H _ I h) fun us s1 ⟨vs,H1,I1,r,q⟩=>⟨I1.kIn,?_⟩) he hpl;exact Fg M F hr hb hd hx I1 r q
end
section
variable {X:Cx}{CX:CXT}{k:Nat}{f C:af}{fd:ji}{ps ks:List Str}{sp:Sp}{E:XK}{x m:Str}{p pos apos kpos:Pos}{e o:br}{es:List br}{kws:List ka}{te ta:TE}{t tk:TA}{nm:Option Str}
variable {g:List ag->List ag->List ag}{gV:List V->List V->List V}
end
structure jX (N P:List Str) (sc:j6):Prop where
 kind:sc.kind=.function
 co:sc.isCoroutine=false
 gen:sc.isGenerator=false
 nd:N.Nodup
 pre:N.take P.length=P
 par:∀ x∈P,sc.names.lookup x=we .local∨sc.names.lookup x=we .cell
 nofree:∀ y∈sc.names,y.2≠ .free
theorem wL {kindOf:Str->Option gz}:∀ {binds:List (Str×ag)}{m:Str->Option ag},(∀ v,(x,v)∉binds)->bindL kindOf binds m x=m x
 |[],_,_=>rfl
 |(n,v)::r,m,h=>by
  unfold bindL;rw[wL fun w hw=>h w (ai _ hw)];split
  ·have:x≠n:=by rintro rfl;exact h v au
   simp[this]
  ·rfl
theorem wN {kindOf:Str->Option gz}:∀ {binds:List (Str×ag)}{m:Str->Option ag},(∀ v,(x,v)∉binds)->bindC kindOf binds m x=m x
 |[],_,_=>rfl
 |(n,v)::r,m,h=>by
  unfold bindC;rw[wN fun w hw=>h w (ai _ hw)];split
  ·rfl
  ·have:x≠n:=by rintro rfl;exact h v au
   simp[this]
theorem wM {kindOf:Str->Option gz}:∀ {P:List Str}{vs:List ag}{i:Nat}{m:Str->Option ag},P.Nodup->P[i]?=we x->vs[i]?=we v->kindOf x=we .local->
  bindL kindOf (P.zip vs) m x=we v
 |[],_,_,_,_,h,_,_=>by simp at h
 |_::_,[],_,_,_,_,h,_=>by simp at h
 |p::P,w::vs,0,m,nd,h1,h2,hk=>by
  simp at h1 h2;subst h1;subst h2;show bindL kindOf ((p,w)::P.zip vs) m p=_;unfold bindL;rw[wL fun v hv=>(b3.mp nd).1 (qu hv).1,if_pos hk];simp
 |p::P,w::vs,i+1,m,nd,h1,h2,hk=>by
  show bindL kindOf ((p,w)::P.zip vs) m x=_;unfold bindL;exact wM (i:=i) (b3.mp nd).2 (by simpa using h1) (by simpa using h2) hk
theorem wO {kindOf:Str->Option gz}:∀ {P:List Str}{vs:List ag}{i:Nat}{m:Str->Option ag},P.Nodup->P[i]?=we x->vs[i]?=we v->kindOf x≠we .local->
  bindC kindOf (P.zip vs) m x=we v
 |[],_,_,_,_,h,_,_=>by simp at h
 |_::_,[],_,_,_,_,h,_=>by simp at h
 |p::P,w::vs,0,m,nd,h1,h2,hk=>by
  simp at h1 h2;subst h1;subst h2;show bindC kindOf ((p,w)::P.zip vs) m p=_;unfold bindC;rw[wN fun v hv=>(b3.mp nd).1 (qu hv).1,if_neg hk];simp
 |p::P,w::vs,i+1,m,nd,h1,h2,hk=>by
  show bindC kindOf ((p,w)::P.zip vs) m x=_;unfold bindC;exact wO (i:=i) (b3.mp nd).2 (by simpa using h1) (by simpa using h2) hk
noncomputable def start (N:List Str) (vs:List V):St:=vs.map we++ao (N.length-vs.length) wf
noncomputable def yP (CX:CXT) (P:da) (w:dc) (K:aa) (mg:Str->Option ag) (base:cy) (N:List Str) (qual:Str) (scope:j6) (f:af) (cd:ag) (A:de) (outer:List Env) (s:am) (H:Hp) (E:XK):Cx where
 prog:=P
 w:=w
 K:=K
 mg:=mg
 base:=base
 A:=A.deeper (ja qual scope s.heap.objs.size f cd)
 N:=N
 s₀:=s
 H₀:=H
 env:=ja qual scope s.heap.objs.size f cd
 outer:=outer
 stack:=ja qual scope s.heap.objs.size f cd::outer
 ex:=[]
 calm:=true
 fn:=fun _=>true
 pn:=[]
 xe:=fun e s'=>aw (model P w) (A.deeper (ja qual scope s.heap.objs.size f cd)) (leaving (ja qual scope s.heap.objs.size f cd) e) (fun _ s''=>CX outer H s E e s'') (fun e' s''=>CX outer H s E e' s'') s'
theorem AJ {sc:j6} (h:sc.names.lookup x=we .cell):∃ c,(gs n sc.names []).lookup x=we c:=by
 have q:=qz sc.names n [] (.inl h);exact l8.mp q
theorem DG {K:aa}
  (S:jX N ps scope) (hd:A.handled=wf) (e0:Env0 P w K mg base A outer s H) (hl:vs.length=ps.length) (r:Vals vs us)
  (x:InCallC s s.heap.objs.size (bindL (ja qual scope s.heap.objs.size f cd).kindOf (ps.zip us) fun _=>wf) (gs (s.heap.objs.size+1) scope.names []) (bindC (ja qual scope s.heap.objs.size f cd).kindOf (ps.zip us) fun _=>wf) s1):
  Inv (yP CX P w K mg base N qual scope f cd A outer s H E) [] (start N vs) H s1:=by
 have hpl:ps.length<=N.length:=by have:=congrArg lh S.pre;rw[ng] at this;omega
 obtain⟨h1,tk,rfl,hk⟩:=x.done;have noA:∀ b:af,b∉(yP CX P w K mg base N qual scope f cd A outer s H E).ex:=fun b z=>absurd (show b∈([]:List af) from z) (by simp);refine⟨⟨e0.mod,S.kind,rfl,rfl,bc _,fun y z c h1 h2=> ?_,fun y hy=> ?_,fun y c _ h=> ?_,fun _=>hd,Around.frames_deeper e0.frames,.inr ⟨rfl,rfl⟩,fun b z=>absurd z (noA b),e0.bs,e0.bsz,fun b _ _=>noA b,fun b z=>absurd z (noA b),e0.funs,e0.frf⟩,
  rfl,e0.bare,Un.kept hk,⟨_,x.toInCall.ns,fun i y v h1 h2 h3=> ?_⟩,fun y c h=>⟨_,x.cell y c h⟩,e0.hok.fresh (bc _),fun y c h=> ?_,fun p hp=>absurd (show p∈([]:List (af×Obj)) from hp) (by simp),e0.hok.kept hk,?_⟩
 ·exact name_of_addr x.apart (f6 h1) (f6 h2)
 ·have hy:scope.names.lookup y=we .cell∨scope.names.lookup y=we .free:=hy;rcases hy with hy|hy
  ·exact AJ hy
  ·exact absurd rfl (S.nofree _ (f6 hy))
 ·exact ir (x.above y c (f6 h))
 ·have hi:i<vs.length:=by
   unfold start at h2
   by_cases hi:i<vs.length
   ·exact hi
   ·rw[cr (by simpa using hi)] at h2;rw[fg] at h2;split at h2 <;> cases h2
  have ha:vs[i]?=we v:=by
   unfold start at h2;rw[aj (by simpa using hi),bf] at h2;cases e:vs[i]? with
   |none=>rw[e] at h2;cases h2
   |some a=>rw[e] at h2;cases h2;rfl
  obtain⟨u,hu,rv⟩:=r.get ha;have hp:ps[i]?=we y:=by
   rw[<- S.pre,List.getElem?_take_of_lt (by omega)];exact h1
  have ndP:ps.Nodup:=by rw[<- S.pre];exact S.nd.sublist (List.take_sublist _ _)
  refine⟨u,rv,?_⟩;rcases S.par y (fw hp) with k|k
  ·exact .inl ⟨k,wM ndP hp hu k⟩
  ·obtain⟨c,e⟩:=AJ (n:=s.heap.objs.size+1) k;refine .inr ⟨.inl k,c,e,?_⟩;have q:=x.cell y c e;rw[wO ndP hp hu (by show scope.names.lookup y≠_;rw[k];decide)] at q;exact q
 ·exact e0.hok.fresh (ir (x.above y c (f6 h)))
 ·unfold start;show _=N.length;rw[b0,ar,jf];omega
theorem OH {K:aa}{dV kV doc pm cdv ct oc:ag}
    (lk:K.lookup f=we ⟨oc,od,.func (ig name qual params body scope dV kV doc pm an cdv ct),osl⟩) (hcd:ju K cdv qual=true) (S:jX N ps scope)
  (len:∀ vs H Q E,sp vs H Q E->vs.length=ps.length)
  (hbody:∀(A:de) (outer:List Env) (s:am) (H:Hp) (vs:List V) (Q:VK) (E:XK),Room k (A.deeper (ja qual scope s.heap.objs.size f cdv))->sp vs H Q E->
   ∃ t,PSs (yP CX P w K mg base N qual scope f cdv A outer s H E) body t/\t { nx:=fun _ H'=>Q .non H',rt:=Q } (start N vs) H):
  qB P w K mg base CX (k+1) f (ig name qual params body scope dV kV doc pm an cdv ct) ps sp:=by
 refine⟨len,fun A outer s H args us vs Q E hr e0 hb r hsp=> ?_⟩;have hl:=len _ _ _ _ hsp;have KX:K.In s.heap:=e0.mod.kin.keeps fun b o e=>(e0.bs b o e).1;have lim:s.heap.NoLimit:=e0.mod.nolimit.keeps fun b o e=>(e0.bs b o e).1;have hkind:∀ y∈ps.zip us,scope.names.lookup y.1=we .local∨(scope.names.lookup y.1=we .cell/\((gs (s.heap.objs.size+1) scope.names []).lookup y.1).isSome=true):=fun⟨n,v⟩ hy=>by
  rcases S.par n (qu hy).1 with q|q
  ·exact .inl q
  ·exact .inr ⟨q,qz _ _ _ (.inl q)⟩
 refine codeAny_call_function hr.depth (KX _ _ lk) rfl S.co S.gen rfl (PySem.W.codeRec_of KX hcd) (hb _ _ _ _ ?_);refine wpAny_newFunctionEnv_cells S.kind hkind fun env he s1 x=> ?_;subst he;refine⟨lim.keeps x.toInCall.keep,codeAny_func ?_⟩;obtain⟨t,ht,hq⟩:=hbody A outer s H vs Q E (hr.deeper _) hsp;have I:Inv (yP CX P w K mg base N qual scope f cdv A outer s H E) [] (start N vs) H s1:=DG S hr.hd e0 hl r x;refine gu (ht [] s1 (start N vs) H _ I hq) (fun fl s' hs=> ?_) fun e s' hs=>hs;have fin:∀ {σ':St}{H':Hp}{v:V}{u:ag},Inv (yP CX P w K mg base N qual scope f cdv A outer s H E) [] σ' H' s'->RelV v u->Q v H'->CE outer P w H s Q u s':=
  fun {σ' H' v u} J rv q=>⟨v,H',J.os,J.bare,J.base,J.hok,rv,q⟩
 cases fl with
 |ret u=>
  obtain⟨v,σ',H',J,rv,q⟩:=hs;exact fin J rv q
 |next=>
  obtain⟨σ',H',J,q⟩:=hs;exact fin (v:=V.non) (u:=hW) J rfl q
 |brk=>
  obtain⟨_,_,_,q⟩:=hs;exact io q
 |cont=>
  obtain⟨_,_,_,q⟩:=hs;exact io q
end L2
namespace L2
section
variable {X:Cx}{x:Str}{p pos:Pos}{e:br}{es:List br}{t:TA}{id T:String}{r:List V->Hp->VK->Prop}
noncomputable def tCB (r:List V->Hp->VK->Prop) (t:TA):TE:=fun σ H Q=>t σ H fun vs H1=>r vs H1 Q
theorem sF (hc:CallR X (.builtin id) r) (hg:Gl X x) (hm:X.mg x=wf) (hv:db x=we (.builtin id)) (ha:PA X (e::es) t) (hn:x≠"__name__":=by decide) (hdb:(x==("__debug__":Str))=false:=by decide)
  (he:av (e::es) X.env=(false,eval e X.env)::av es X.env:=by rfl) (hpl:(df pos (av es X.env)).any (·.1)=false:=by rfl):PE X (.Call (.Name x p) (e::es) [] pos) (tCB r t):=by
 intro pins s σ H Q I h;refine l7 (vK I hg hm hv ?_ hn hdb);exact PyProof.Rows.callWith_builtin1 (thn (ha pos pins s σ H _ I h) fun us s1 ⟨vs,H1,I1,r1,q1⟩=>hc pins s1 σ H1 vs us Q I1 r1 q1) he hpl
theorem CM (hc:CallR X (.type T) r) (hg:Gl X x) (hm:X.mg x=wf) (hv:db x=we (.type T)) (ha:PA X (e::es) t) (hn:x≠"__name__":=by decide) (hdb:(x==("__debug__":Str))=false:=by decide)
  (he:av (e::es) X.env=(false,eval e X.env)::av es X.env:=by rfl) (hpl:(df pos (av es X.env)).any (·.1)=false:=by rfl):PE X (.Call (.Name x p) (e::es) [] pos) (tCB r t):=by
 intro pins s σ H Q I h;refine l7 (vK I hg hm hv ?_ hn hdb);exact ku (thn (ha pos pins s σ H _ I h) fun us s1 ⟨vs,H1,I1,r1,q1⟩=>hc pins s1 σ H1 vs us Q I1 r1 q1) he hpl
end
end L2
namespace HT
open PySem PyProof.Rows
noncomputable def lexLt:List Int->List Int->Bool
 |[],[]=>false
 |[],_::_=>true
 |_::_,[]=>false
 |x::xs,y::ys=>if x=y then lexLt xs ys else decide (x<y)
theorem Bq (x y:Int) (xs ys:List Int):lexLt (x::xs) (y::ys)=if x=y then lexLt xs ys else decide (x<y):=rfl
theorem sQ:lexLt [] []=false:=rfl
theorem pU (y:Int) (ys:List Int):lexLt [] (y::ys)=true:=rfl
theorem pV (x:Int) (xs:List Int):lexLt (x::xs) []=false:=rfl
theorem GR (A:de) (s:am) (a:Int) (t:Tok) (c:Int) (u:Tok):∃ e,vb A s (.int a t) (.int c u) e/\(e=true↔a=c):=
 ⟨(a==c),SeqAt.EqAt.int_int a t c u,by simp⟩
theorem Fm (A:de) (s:am) (a:Int) (t:Tok) (c:Int) (u:Tok) (prog:da) (w:dc) (E:ag->am->Prop) (Q:ag->am->Prop) (h:Q (.bool (decide (a<c))) s):
  aw (model prog w) A (richCompare .Lt (.int a t) (.int c u)) Q E s:=
 (va h:aw (model prog w) A (d7 .Lt (.int a t) (.int c u)) Q E s)
section
open PySem.SeqAt
open PySem.AutoSeq1 (wpAny_loadPart')
open PySem.MeetsSeq PySem.MeetsSeq2 PySem.MeetsSeq3
theorem rX (l b:af) (items items2:Array ag) (n n2:Nat) (dd dd2:Option af) (sl sl2:Array (Option ag)) (ns ms:List Int) (hi:kc items.toList ns) (hj:kc items2.toList ms):
  Meets (Builtin.«tuple.__lt__» ⟨[.ref l,.ref b],[]⟩)
   (fun _ R s=>s.heap.get? l=we { cls:=.type "tuple",dict:=dd,data:=.seq items n,slots:=sl }/\s.heap.get? b=we { cls:=.type "tuple",dict:=dd2,data:=.seq items2 n2,slots:=sl2 }/\
    R (.ok (.ret (.bool (lexLt ns ms)))) s):=
 .of_wp fun prog w A R s h=>by
  obtain⟨hp,g,d,tk,os⟩:=s;obtain⟨hl,hb,h⟩:=h;have f2:=AutoSeq1.sub_tuple_tuple;have z1:items.size=ns.length:=by rw[<- hi.length];simp
  have z2:items2.size=ms.length:=by rw[<- hj.length];simp
  wp_walk using wpAny_loadPart' hl,wpAny_loadPart' hb,qg _ (fun rest b s'=>b.1=wf/\s'=⟨hp,g,d,tk,os⟩/\∃(vs ws:List ag) (ns' ms':List Int),rest=vs.zip ws/\
   kc vs ns'/\kc ws ms'/\ns'.length+items2.size=ms'.length+items.size/\R (.ok (.ret (.bool (lexLt ns' ms')))) ⟨hp,g,d,tk,os⟩) _
  case turn=>
   rintro⟨y,x⟩ rest b s' ⟨hb',rfl,vs,ws,ns',ms',hz,hvi,hwi,hlen,hR⟩
   cases hvi with
   |nil=>rw[List.zip_nil_left] at hz;cases hz
   |cons a t hvi'=>
    cases hwi with
    |nil=>rw[List.zip_nil_right] at hz;cases hz
    |cons c u hwi'=>
     rw[l9] at hz;injection hz with hyx hrest
     injection hyx with hy hx
     subst hy hx;rw[Bq] at hR;simp only[bv] at hlen;obtain⟨e,he,hiff⟩:=GR A.in1 ⟨hp,g,d,tk,os⟩ a t c u;refine ae (he prog w _ _ ?_);cases e with
     |true=>
      rw[if_pos (hiff.mp rfl)] at hR
      wp_walk
      exact⟨rfl,rfl,_,_,_,_,hrest,hvi',hwi',by omega,hR⟩
     |false=>
      rw[if_neg (fun q=>absurd (hiff.mpr q) cf)] at hR;have hri:=Fm A.in1 ⟨hp,g,d,tk,os⟩ a t c u prog w
      wp_walk using hri
      exact⟨_,rfl,by simpa using hR⟩
  case fin=>
   rintro⟨b1,b2⟩ s' ⟨hb',rfl,vs,ws,ns',ms',hz,hvi,hwi,hlen,hR⟩
   simp only at hb';subst hb';have hv:lexLt ns' ms'=decide (items.size<items2.size):=by
    cases hvi with
    |nil=>
     cases hwi with
     |nil=>
      simp only[ke] at hlen;rw[sQ];exact(decide_eq_false (by omega)).symm
     |cons c u hw=>
      simp only[ke,bv] at hlen;rw[pU];exact(decide_eq_true (by omega)).symm
    |cons a t hv=>
     cases hwi with
     |nil=>
      simp only[ke,bv] at hlen;rw[pV];exact(decide_eq_false (by omega)).symm
     |cons c u hw=>
      rw[l9] at hz;cases hz
   rw[hv] at hR
   wp_walk
   exact⟨_,rfl,by simpa [Builtin.Tuple.tupleCompareSizes] using hR⟩
  case h=>
   exact⟨rfl,rfl,items.toList,items2.toList,ns,ms,rfl,hi,hj,by omega,h⟩
end
section
variable {prog:da}{w:dc}{A:de}{E:ag->am->Prop}{s:am}
theorem lt_tupInts (hl:IsTup s.heap l items) (hb:IsTup s.heap b items2) (hi:kc items.toList ns) (hj:kc items2.toList ms)
  (hu:A.units<dq) (h:Q (.bool (lexLt ns ms)) s):aw (model prog w) A (d7 .Lt (.ref l) (.ref b)) Q E s:=by
 obtain⟨⟨cls,dd,data,sl⟩,ho,hc,n,hd⟩:=id hl;obtain⟨⟨cls2,dd2,data2,sl2⟩,ho2,hc2,n2,hd2⟩:=id hb;simp only at hc hd hc2 hd2;subst hc hd hc2 hd2;exact richCompare_meets_room (op:=.Lt) ⟨_,ho,rfl⟩ ⟨_,ho2,rfl⟩ PySem.F.slot_tuple_lt PySem.F.entry_tuple_lt (PySem.F.args_tuple_lt_2 _ _) (rX l b items items2 n n2 dd dd2 sl sl2 ns ms hi hj)
  ⟨ho,ho2,show sv (lexLt ns ms)≠Value.notImplemented/\Q (.bool (lexLt ns ms)) s from⟨(fun x=>nomatch x),h⟩⟩ hu
theorem cat_tup (ht:IsTup s.heap t vs.toArray) (hb:IsTup s.heap b ws.toArray) (hv:vs≠[])
  (h1:ws=[]->Q (.ref t) s) (h2:ws≠[]->Q (.ref s.heap.objs.size) { s with heap:=s.heap.push { cls:=.type "tuple",data:=.seq (vs++ws).toArray } })
  (hsz:vs.length+ws.length<=sizeLine):aw (model prog w) A (jw .Add (.ref t) (.ref b)) Q E s:=by
 obtain⟨⟨cls,dd,data,sl⟩,ho,hc,n,hd⟩:=id ht;obtain⟨⟨cls2,dd2,data2,sl2⟩,ho2,hc2,n2,hd2⟩:=id hb;simp only at hc hd hc2 hd2;subst hc hd hc2 hd2;have e:vs.toArray++ws.toArray=(vs++ws).toArray:=by simp
 by_cases hw:ws=[]
 ·exact concat_meets ⟨_,ho,rfl⟩ ⟨_,ho2,rfl⟩ noFill_tuple_add seq_tuple_add rc qo (qh _ _)
   (tuple_addW1 t b vs.toArray ws.toArray n n2 dd dd2 sl sl2 (by simpa using hv) (by simp[hw])) ⟨ho,ho2,h1 hw⟩
 ·refine concat_meets ⟨_,ho,rfl⟩ ⟨_,ho2,rfl⟩ noFill_tuple_add seq_tuple_add rc qo (qh _ _)
   (tuple_addW2 t b vs.toArray ws.toArray n n2 dd dd2 sl sl2 (by simpa using hv) (by simpa using hw) (by rw[az,az];exact hsz)) ⟨ho,ho2,?_⟩
  rw[e];exact h2 hw
noncomputable def sIx (n d:Nat):Option Int->Nat
 |none=>d
 |some v=>if v<0 then(v+(n:Int)).toNat else min v.toNat n
theorem Lc (n d:Nat) (hd:d<=n) (o:Option Int):sIx n d o<=n:=by
 cases o with
 |none=>exact hd
 |some v=>
  show(if v<0 then(v+(n:Int)).toNat else min v.toNat n)<=n
  by_cases hv:v<0
  ·rw[if_pos hv];omega
  ·rw[if_neg hv];exact Nat.min_le_right _ _
theorem EA (v:Int) (n d:Nat):(if v<0 then max (v+(n:Int)) 0 else min v (n:Int))=((sIx n d (we v):Nat):Int):=by
 show(if v<0 then max (v+(n:Int)) 0 else min v (n:Int))=(((if v<0 then(v+(n:Int)).toNat else min v.toNat n):Nat):Int)
 by_cases hv:v<0
 ·simp only[if_pos hv];omega
 ·simp only[if_neg hv];omega
theorem BO (lo hi:Option Int) (n:Nat):lr lo hi 1 (n:Int)=(((sIx n 0 lo:Nat):Int),((sIx n n hi:Nat):Int)):=by
 have h1:¬((1:Int)<0):=by omega
 unfold lr;simp only[h1,if_false];refine Prod.ext ?_ ?_
 ·cases lo with
  |none=>rfl
  |some v=>exact EA v n 0
 ·cases hi with
  |none=>rfl
  |some v=>exact EA v n n
theorem Bf (i j:Nat):jn (i:Int) (j:Int) 1=j-i:=by
 unfold jn;have h1:(1:Int)>0:=by omega
 simp only[h1,if_true,Int.ediv_one];split <;> omega
theorem qH (p:qi v o) (h:Q o s):aw (model prog w) A (Builtin.Slice.slicePartIndex v) Q E s:=by
 cases p with
 |none=>exact slicePart_none h
 |int i t=>exact slicePart_int h
theorem lY {lo hi:Option Int}{Q:Int×Int×Nat->am->Prop} (hs:s.heap.IsSliceOf sl vl vu .none) (pl:qi vl lo) (pu:qi vu hi)
  (h:Q (((sIx n 0 lo:Nat):Int),1,sIx n n hi-sIx n 0 lo) s):aw (model prog w) A (pj (.ref sl) (pure (n:Int))) Q E s:=by
 obtain⟨os,hos,hcs,hds⟩:=id hs;unfold pj Builtin.Slice.sliceFields;refine ae (ae (rg hos hds (x:=vl) rfl (ae (rg hos hds (x:=vu) rfl (ae (rg hos hds (x:=.none) rfl (ak ?_)))))));refine ae (slicePart_none ?_);show aw _ _ (if((1:Int)==0)=true then _ else _) _ _ s;rw[if_neg (by decide)];refine ae (qH pl (ae (qH pu (ae (ak ?_)))));show aw _ _ (match lr lo hi 1 (n:Int) with|(lo,hi)=>pure (lo,(1:Int),jn lo hi 1)) _ _ s;rw[BO lo hi n];show aw _ _ (pure (((sIx n 0 lo:Nat):Int),(1:Int),jn ((sIx n 0 lo:Nat):Int) ((sIx n n hi:Nat):Int) 1)) _ _ s;rw[Bf];exact ak h
theorem Fz (xs:Array ag) (i k:Nat):((bu k).filterMap fun(m:Nat)=>xs[((i:Int)+(m:Int)*1).toNat]?).toArray=((xs.toList.drop i).take k).toArray:=by
 have e:(fun(m:Nat)=>xs[((i:Int)+(m:Int)*1).toNat]?)=fun m=>xs[i+m]?:=by
  funext m
  have:((i:Int)+(m:Int)*1).toNat=i+m:=by omega
  rw[this]
 rw[e]
 have:=pick_run xs i k
 rw[List.filterMap_map] at this;have e2:((fun x=>xs[x]?)∘fun x=>i+x)=fun m=>xs[i+m]?:=rfl;rw[e2] at this;rw[this]
theorem getItem_tuple_cut {lo hi:Option Int} (ht:IsTup s.heap t items) (hs:s.heap.IsSliceOf sl vl vu .none) (pl:qi vl lo) (pu:qi vu hi)
  (hw:¬(sIx items.size 0 lo=0/\sIx items.size items.size hi=items.size))
  (h:Q (.ref s.heap.objs.size) { s with heap:=s.heap.push { cls:=.type "tuple",data:=.seq ((items.toList.drop (sIx items.size 0 lo)).take (sIx items.size items.size hi-sIx items.size 0 lo)).toArray } })
  (hsz:items.size<=sizeLine):aw (model prog w) A (o7 (.ref t) (.ref sl)) Q E s:=by
 have htake:sizeOk (.seq ((items.toList.drop (sIx items.size 0 lo)).take (sIx items.size items.size hi-sIx items.size 0 lo)).toArray):=by
  show((items.toList.drop (sIx items.size 0 lo)).take (sIx items.size items.size hi-sIx items.size 0 lo)).toArray.size<=sizeLine
  rw[az,ng,qj,dw];omega
 have hj:sIx items.size items.size hi<=items.size:=Lc _ _ (bc _) hi;obtain⟨os,hos,hcs,hds⟩:=id hs;have hTs:s.TypeIs (.ref sl) "slice":=⟨os,hos,hcs⟩;unfold o7
 try with_reducible refine im ?_
 first|refine ae (ak ?_)|skip
 refine ae (wpAny_sequenceKey ht.typeIs (by decide) ?_);refine ae (i6 (name:=jj "__getitem__") ht.typeIs i8
  (g9 i8 ht.typeIs entry_tuple_getitem ?_ (args_tuple_getitem _ _)))
 show aw _ _ (Builtin.Tuple.tupleItemsOf (.ref t) >>= _) _ _ s;refine ae (tupleItemsOf_ ht ?_);refine ae (wpAny_typeOf hTs ?_);rw[if_pos (by decide)];refine ae (lY hs pl pu ?_);have hno:¬((((sIx items.size 0 lo:Nat):Int)==0&&(1:Int)==1&&(sIx items.size items.size hi-sIx items.size 0 lo)==items.size)=true):=by
  intro q;rw[bq,bq] at q;have q1:((sIx items.size 0 lo:Nat):Int)=0:=eq_of_beq q.1.1;have q2:sIx items.size items.size hi-sIx items.size 0 lo=items.size:=eq_of_beq q.2;exact hw ⟨by omega,by omega⟩
 show aw _ _ (if(((sIx items.size 0 lo:Nat):Int)==0&&(1:Int)==1&&(sIx items.size items.size hi-sIx items.size 0 lo)==items.size)=true then _ else _) _ _ s;rw[if_neg hno,Fz]
 first
  |exact ae (m:=jy _) (dy (ak ⟨_,rfl,ak h⟩) htake)
  |exact ae (m:=jy _) (dy (ae (ak (ak ⟨_,rfl,ak h⟩))) htake)
  |exact ae (ae (m:=jy _) (dy (ak (ak ⟨_,rfl,ak h⟩)) htake))
  |exact ae (ae (m:=jy _) (dy (ak ⟨_,rfl,ak h⟩) htake))
end
end HT
namespace L2
noncomputable abbrev TO:=St->Hp->(Option Int->Hp->Prop)->Prop
noncomputable def PO (X:Cx) (e:Option br) (t:TO):Prop:=
 ∀(pins:List (af×Obj)) (s:am) (σ:St) (H:Hp) (Q:Option Int->Hp->Prop),Inv X pins σ H s->t σ H Q->
  aw (model X.prog X.w) X.A (evalPart e X.env) (fun u s'=>∃ o H',Inv X pins σ H' s'/\qi u o/\Q o H') X.xe s
noncomputable def Ij:TO:=fun _ H Q=>Q wf H
noncomputable def ND (t:TE):TO:=fun σ H Q=>t σ H fun x H1=>∃ i,x=.int i/\Q (we i) H1
theorem By:∀ {us:List ag},Vals (ns.map V.int) us->kc us ns:=by
 induction ns with
 |nil=>intro us r;rw[kq] at r;cases r;exact .nil
 |cons n ns ih=>
  intro us r;rw[bg] at r;cases r with
  |cons r1 r2=>
   obtain⟨t,e⟩:=r1;subst e;exact .cons n t (ih r2)
section
variable {X:Cx}{e:br}{te:TE}{lo hi:Option br}{tl th:TO}{pos p2:Pos}
theorem IG:PO X wf Ij:=by
 intro pins s σ H Q I h;rw[evalPart_none];exact ak ⟨wf,H,I,.none,h⟩
theorem CK (h:PE X e te):PO X (we e) (ND te):=by
 intro pins s σ H Q I hw;rw[evalPart_some];refine thn (h pins s σ H _ I hw) fun u s1 ⟨x,H1,I1,r1,q1⟩=> ?_;obtain⟨i,rfl,q⟩:=q1;obtain⟨t,rfl⟩:=r1;exact⟨we i,H1,I1,.int i t,q⟩
noncomputable def SlR (X:Cx) (r:V->Option Int->Option Int->Hp->VK->Prop):Prop:=
 ∀(pins:List (af×Obj)) (s:am) (σ:St) (H:Hp) (x:V) (v vl vu:ag) (lo hi:Option Int) (sl:af) (Q:VK),Inv X pins σ H s->RelV x v->s.heap.IsSliceOf sl vl vu .none->qi vl lo->qi vu hi->r x lo hi H Q->
  ∃ T id,sw (.type T) "__getitem__"=pure (we (.builtin id))/\s.TypeIs v T/\aw (model X.prog X.w) X.A (o7 v (.ref sl)) (EP X pins σ Q) X.xe s
theorem SlR.or (h:SlR X r) (h':SlR X r'):SlR X (fun x lo hi H Q=>r x lo hi H Q∨r' x lo hi H Q):=by
 intro pins s σ H x v vl vu lo hi sl Q I rx hs pl pu q;rcases q with q|q
 ·exact h pins s σ H x v vl vu lo hi sl Q I rx hs pl pu q
 ·exact h' pins s σ H x v vl vu lo hi sl Q I rx hs pl pu q
noncomputable def tSl (r:V->Option Int->Option Int->Hp->VK->Prop) (te:TE) (tl th:TO):TE:=fun σ H Q=>te σ H fun x H1=>tl σ H1 fun l H2=>th σ H2 fun u H3=>r x l u H3 Q
theorem Ae (hr:SlR X r) (he:PE X e te) (hl:PO X lo tl) (hu:PO X hi th):PE X (.Subscript e (.Slice lo hi wf p2) pos) (tSl r te tl th):=by
 intro pins s σ H Q I h;refine Subscript_ (thn (he pins s σ H _ I h) fun v s1 ⟨x,H1,I1,r1,q1⟩=> ?_);refine wpAny_Slice (thn (hl pins s1 σ H1 _ I1 q1) fun vl s2 ⟨l,H2,I2,pl,q2⟩=>thn (hu pins s2 σ H2 _ I2 q2) fun vu s3 ⟨u,H3,I3,pu,q3⟩=> ?_);rw[evalPart_none];refine ak ?_;have I4:Inv X pins σ H3 { s3 with heap:=s3.heap.push { cls:=.type "slice",data:=.fields #[vl,vu,.none] } }:=I3.kept (t':=s3.toks) fun b ob q=>ay _ q;obtain⟨T,id,hT,ht,hg⟩:=hr pins { s3 with heap:=s3.heap.push { cls:=.type "slice",data:=.fields #[vl,vu,.none] } } σ H3 x v vl vu l u s3.heap.objs.size Q I4 r1 (Heap.IsSliceOf.new ..) pl pu q3;show aw (model X.prog X.w) X.A (tw e (.Slice lo hi wf p2) v (.ref s3.heap.objs.size)) (EP X pins σ Q) X.xe { s3 with heap:=s3.heap.push { cls:=.type "slice",data:=.fields #[vl,vu,.none] } };exact tail_any (ops:=[.ref s3.heap.objs.size,v]) ht hT hg (by with_unfolding_all rfl)
noncomputable def Ic (xs:List V) (lo hi:Option Int):List V:=(xs.drop (HT.sIx xs.length 0 lo)).take (HT.sIx xs.length xs.length hi-HT.sIx xs.length 0 lo)
theorem pD (xs:List V) (lo hi:Option Int):(Ic xs lo hi).length<=xs.length:=by
 unfold Ic;rw[ng,qj];omega
noncomputable def PM (K:aa):V->Option Int->Option Int->Hp->VK->Prop:=fun x lo hi H Q=>∃ a xs,x=.ref a/\SqT K H a xs/\
 ¬(HT.sIx xs.length 0 lo=0/\HT.sIx xs.length xs.length hi=xs.length)/\∀ p,H p=wf->Q (.ref p) (upd H p (.tup (Ic xs lo hi)))
theorem HA:SlR X (PM X.K):=by
 intro pins s σ H x v vl vu lo hi sl Q I rx hs pl pu h;obtain⟨a,xs,rfl,hx,hw,q⟩:=h;cases rx;obtain⟨its,r,ht,hz⟩:=I.tuple hx;have hlen:its.toArray.size=xs.length:=by rw[az];exact r.length.symm
 refine⟨"tuple",_,i8.lookup,ht.typeIs,?_⟩;refine HT.getItem_tuple_cut ht hs pl pu (by rw[hlen];exact hw) ?_ (by rw[hlen];exact hz);rw[hlen];refine⟨.ref s.heap.objs.size,_,I.laid (t':=s.toks) (o:=.tup (Ic xs lo hi)) (fun b ob q=>ay _ q) (bc _) ?_,rfl,q _ (I.hok.fresh (bc _))⟩;exact⟨ce (pD xs lo hi) hz,_,(r.drop (HT.sIx xs.length 0 lo)).take (HT.sIx xs.length xs.length hi-HT.sIx xs.length 0 lo),vv _ _⟩
noncomputable def NS (K:aa):R2:=fun x y H Q=>∃ a b xs ys,x=.ref a/\y=.ref b/\SqT K H a xs/\SqT K H b ys/\xs≠[]/\xs.length+ys.length<=sizeLine/\
 (ys=[]->Q (.ref a) H)/\(ys≠[]->∀ p,H p=wf->Q (.ref p) (upd H p (.tup (xs++ys))))
theorem Vals.nil_iff (r:Vals xs us):us=[]↔xs=[]:=by
 cases r with
 |nil=>simp
 |cons _ _=>simp
theorem Jj:OpR X (jw .Add) (NS X.K):=by
 intro pins s σ H x y v u Q I rx ry h;obtain⟨a,b,xs,ys,rfl,rfl,ha,hb,hx,hz,q1,q2⟩:=h;cases rx;cases ry;obtain⟨its,r1,p1,_⟩:=I.tuple ha;obtain⟨its2,r2,p2,_⟩:=I.tuple hb;refine HT.cat_tup p1 p2 (fun z=>hx (r1.nil_iff.mp z)) (fun z=>⟨.ref a,H,I,rfl,q1 (r2.nil_iff.mp z)⟩) (fun z=> ?_) (by rw[<- r1.length,<- r2.length];exact hz);refine⟨.ref s.heap.objs.size,_,I.laid (t':=s.toks) (o:=.tup (xs++ys)) (fun b ob q=>ay _ q) (bc _) ?_,rfl,q2 (fun w=>z (r2.nil_iff.mpr w)) _ (I.hok.fresh (bc _))⟩;exact⟨by rw[b0];exact hz,_,r1.append r2,vv _ _⟩
end
end L2
namespace L2
noncomputable def ixN (n:Nat) (i:Int):Option Nat:=if 0<=i then(if i<n then we i.toNat else wf) else if -(n:Int)<=i then we (i+n).toNat else wf
noncomputable def atI {α:Type} (xs:List α) (i:Int):Option α:=(ixN xs.length i).bind fun j=>xs[j]?
theorem Dy (h:ixN n i=we j):seqIndex? i n=we j/\j<n/\ -(n:Int)<=i/\i<n:=by
 unfold ixN at h
 by_cases h0:0<=i
 ·rw[if_pos h0] at h
  by_cases h1:i<n
  ·rw[if_pos h1] at h;have e:i.toNat=j:=b9 h;exact⟨by rw[u0 h0 h1,e],by omega,by omega,h1⟩
  ·rw[if_neg h1] at h;cases h
 ·rw[if_neg h0] at h
  by_cases h1: -(n:Int)<=i
  ·rw[if_pos h1] at h;have e:(i+n).toNat=j:=b9 h;exact⟨by rw[uj (by omega) h1,e],by omega,h1,by omega⟩
  ·rw[if_neg h1] at h;cases h
theorem yS {v:α} (h:atI xs i=we v):∃ j,seqIndex? i xs.length=we j/\xs[j]?=we v/\j<xs.length/\ -(xs.length:Int)<=i/\i<xs.length:=by
 unfold atI at h;cases e:ixN xs.length i with
 |none=>rw[e] at h;cases h
 |some j=>
  rw[e] at h;obtain⟨h1,h2,h3,h4⟩:=Dy e;exact⟨j,h1,h,h2,h3,h4⟩
noncomputable def EM (b:br):Prop:=∀ o i,subscripted b false o i=operate [o,i] (o7 o i)
noncomputable def IxR (X:Cx) (r:R2):Prop:=
 ∀(value slice:br) (pins:List (af×Obj)) (s:am) (σ:St) (H:Hp) (x y:V) (v u:ag) (Q:VK),Inv X pins σ H s->RelV x v->RelV y u->r x y H Q->
  subscripted slice false v u=operate [v,u] (o7 v u)->aw (model X.prog X.w) X.A (tw value slice v u) (EP X pins σ Q) X.xe s
noncomputable def MtR (X:Cx) (id:String) (r:V->List V->Hp->VK->Prop):Prop:=
 ∀(pins:List (af×Obj)) (s:am) (σ:St) (H:Hp) (x:V) (xs:List V) (v:ag) (us:List ag) (Q:VK),Inv X pins σ H s->RelV x v->Vals xs us->r x xs H Q->
  aw (model X.prog X.w) X.A (call (.builtin id) (v::us)) (EP X pins σ Q) X.xe s
section
variable {X:Cx}{a b:br}{ta tb:TE}{pos:Pos}
theorem IxR.or (h:IxR X r) (h':IxR X r'):IxR X (fun x y H Q=>r x y H Q∨r' x y H Q):=by
 intro value slice pins s σ H x y v u Q I rx ry q hs;rcases q with q|q
 ·exact h value slice pins s σ H x y v u Q I rx ry q hs
 ·exact h' value slice pins s σ H x y v u Q I rx ry q hs
theorem NX (hr:IxR X r) (ha:PE X a ta) (hb:PE X b tb) (hs:EM b):PE X (.Subscript a b pos) (tOp r ta tb):=by
 intro pins s σ H Q I h;exact Subscript_ (OQ ha hb I h fun v u s2 x y H2 I2 rx ry q=>hr a b pins s2 σ H2 x y v u Q I2 rx ry q (hs _ _))
noncomputable def Pi (K:aa):R2:=fun x y H Q=>∃ p xs i v,x=.ref p/\y=.int i/\SqL K H p xs/\atI xs i=we v/\Q v H
noncomputable def Pg (K:aa):R2:=fun x y H Q=>∃ p xs i v,x=.ref p/\y=.int i/\SqT K H p xs/\atI xs i=we v/\Q v H
noncomputable def Ph:R2:=fun x y H Q=>∃ z i c,x=.str z/\y=.int i/\z.length<=sizeLine/\atI z.cps.toList i=we c/\Q (.str ⟨#[c]⟩) H
theorem ix_list:IxR X (Pi X.K):=by
 intro value slice pins s σ H x y v u Q I rx ry h hs;obtain⟨p,xs,i,z,rfl,rfl,hq,he,q⟩:=h;cases rx;obtain⟨t,rfl⟩:=ry;obtain⟨its,r,pl,hz⟩:=I.list hq;obtain⟨j,h1,h2,h3,h4,h5⟩:=yS he;obtain⟨w,ew,rw'⟩:=r.get h2;have hl:=r.length;have hn:=qS;have fin:EP X pins σ Q w s:=⟨z,H,I,rw',q⟩
 by_cases h0:0<=i
 ·have hj:i.toNat=j:=by
   rw[u0 h0 h5] at h1;exact b9 h1
  exact item_listR pl.isList h0 (by omega) (by rw[hj];simpa using ew) fin hs
 ·have hj:(i+(its.toArray.size:Int)).toNat=j:=by
   rw[uj (by omega) h4] at h1;rw[az,<- hl];exact b9 h1
  exact rh (x:=w) pl.isList.typeIs slot_list_getitem.lookup
   (wpAny_getItem_list_neg (Q:=fun r s'=>r=w/\EP X pins σ Q r s') pl.isList (by omega) (by rw[az] <;> omega) (by omega) (by rw[hj];simpa using ew) ⟨rfl,fin⟩) hs
theorem ix_tup:IxR X (Pg X.K):=by
 intro value slice pins s σ H x y v u Q I rx ry h hs;obtain⟨p,xs,i,z,rfl,rfl,hq,he,q⟩:=h;cases rx;obtain⟨t,rfl⟩:=ry;obtain⟨its,r,pl,hz⟩:=I.tuple hq;obtain⟨j,h1,h2,h3,h4,h5⟩:=yS he;obtain⟨w,ew,rw'⟩:=r.get h2;have hl:=r.length;have hn:=qS;have fin:EP X pins σ Q w s:=⟨z,H,I,rw',q⟩;exact rh (x:=w) pl.typeIs i8.lookup
  (getItem_tuple (j:=j) (Q:=fun r s'=>r=w/\EP X pins σ Q r s') pl (by omega) (by omega) (by rw[az,<- hl];exact h1) (by simpa using ew) ⟨rfl,fin⟩) hs
theorem MK:IxR X Ph:=by
 intro value slice pins s σ H x y v u Q I rx ry h hs;obtain⟨z,i,c,rfl,rfl,hz,he,q⟩:=h;obtain⟨t,rfl⟩:=rx;obtain⟨t',rfl⟩:=ry;obtain⟨j,h1,h2,h3,h4,h5⟩:=yS he;have hl:z.cps.toList.length=z.length:=by simp[Str.length]
 rw[hl] at h1 h4 h5;have hn:=qS;exact tail_any (typeIs_str s z t) slot_str_getitem.lookup (getItem_str (c:=c) (by
  have e1:decide (i< -(2 ^ 63:Int))=false:=decide_eq_false (by omega);have e2:decide (i≥2 ^ 63)=false:=decide_eq_false (by omega);rw[e1,e2,Bool.or_false]) (by rw[h1];simpa using h2) ⟨.str ⟨#[c]⟩,H,I.tok _,⟨_,rfl⟩,q⟩) hs
noncomputable def rIx (K:aa):R2:=fun x y H Q=>Pi K x y H Q∨Pg K x y H Q∨Ph x y H Q
theorem ML:IxR X (rIx X.K):=ix_list.or (ix_tup.or MK)
theorem Bm (its:List ag) (n j:Nat) (u:ag):kh (·.setIfInBounds j u) { cls:=.type "list",data:=.seq its.toArray n }={ cls:=.type "list",data:=.seq (its.set j u).toArray n }:=by
 simp[kh]
theorem Inv.lst (I:Inv X pins σ H s) (h:H p=we (.lst xs)):
  ∃(its:List ag) (n:Nat),Vals xs its/\s.heap.get? p=we { cls:=.type "list",data:=.seq its.toArray n }/\xs.length<=sizeLine:=by
 obtain⟨z,its,n,r,e⟩:=I.hok p _ h;exact⟨its,n,r,e,z⟩
theorem Inv.lstUpd {its its':List ag} (I:Inv X pins σ H s) (h:H p=we (.lst xs))
  (ho:s.heap.get? p=we { cls:=.type "list",data:=.seq its.toArray n }) (hf:f { cls:=.type "list",data:=.seq its.toArray n }={ cls:=.type "list",data:=.seq its'.toArray n' }) (r:Vals ys its') (hz:ys.length<=sizeLine) (t:Nat):
  Inv X pins σ (upd H p (.lst ys)) { s with heap:=s.heap.update p f,toks:=t }:=by
 have e:(s.heap.update p f).get? p=we { cls:=.type "list",data:=.seq its'.toArray n' }:=by
  rw[gn f ho (by rw[hf] <;> rfl),hf]
 refine I.write (x:=p) (e:=p) (by rw[h];trivial) (.inl rfl) (fun b u hb q=>(d8 _ _ (bt hb)).trans q) ⟨_,e⟩ ?_;exact⟨hz,its',n',r,e⟩
noncomputable def NR:V->V->V->Hp->(Hp->Prop)->Prop:=fun o i v H Q=>∃ p xs k j,o=.ref p/\i=.int k/\H p=we (.lst xs)/\ixN xs.length k=we j/\Q (upd H p (.lst (xs.set j v)))
theorem Fd:Ps X NR:=by
 intro pins s σ H o i v ov iv u Q I ro ri rv h;obtain⟨p,xs,k,j,rfl,rfl,hp,hj,q⟩:=h;cases ro;obtain⟨t,rfl⟩:=ri;obtain⟨its,n,r,ho,hz⟩:=I.lst hp;obtain⟨h1,h2,h3,h4⟩:=Dy hj;have hl:=r.length;have hn:=qS;have I':Inv X pins σ (upd H p (.lst (xs.set j v))) { s with heap:=s.heap.update p (kh (·.setIfInBounds j u)) }:=
  I.lstUpd hp ho (Bm its n j u) (r.set rv j) (by rw[cg];exact hz) s.toks
 by_cases h0:0<=k
 ·have hk:k.toNat=j:=by
   rw[u0 h0 h4] at h1;exact b9 h1
  exact PySem.W.ki_setAt ho h0 (by omega) (by rw[az,<- hl];exact h4) (by rw[hk];exact⟨_,I',q⟩)
 ·have hk:(k+(its.toArray.size:Int)).toNat=j:=by
   rw[uj (by omega) h3] at h1;rw[az,<- hl];exact b9 h1
  exact PySem.W.ki_setBack ho (by omega) (by rw[az,<- hl];exact h3) (by omega) (by rw[hk];exact⟨_,I',q⟩)
theorem uW (lo hi:Option Int) (n:Nat):(lj lo hi wf n).1=((HT.sIx n 0 lo:Nat):Int)/\(lj lo hi wf n).2.1=((HT.sIx n n hi:Nat):Int)/\(lj lo hi wf n).2.2=1:=by
 refine⟨?_,?_,rfl⟩
 ·cases lo with
  |none=>simp[lj,HT.sIx]
  |some i=>
   simp only[lj,HT.sIx,u4,show(1:Int)>0 by decide,if_true]
   by_cases h:i<0
   ·simp only[h,if_true] <;> omega
   ·simp only[h,if_false] <;> omega
 ·cases hi with
  |none=>simp[lj,HT.sIx]
  |some i=>
   simp only[lj,HT.sIx,u4,show(1:Int)>0 by decide,if_true]
   by_cases h:i<0
   ·simp only[h,if_true] <;> omega
   ·simp only[h,if_false] <;> omega
theorem rZ (its:List ag) (lo hi:Option Int):slicePick its.toArray lo hi wf=((its.drop (HT.sIx its.length 0 lo)).take (HT.sIx its.length its.length hi-HT.sIx its.length 0 lo)).toArray:=by
 obtain⟨h1,h2,h3⟩:=uW lo hi its.toArray.size;unfold slicePick;rw[h1,h2,h3];simp only[sliceRange_one,pick_run,az] <;> rfl
noncomputable def PN (K:aa):V->Option Int->Option Int->Hp->VK->Prop:=fun x lo hi H Q=>∃ a xs,x=.ref a/\SqL K H a xs/\∀ p,H p=wf->Q (.ref p) (upd H p (.lst (Ic xs lo hi)))
theorem sl_list:SlR X (PN X.K):=by
 intro pins s σ H x v vl vu lo hi sl Q I rx hs pl pu h;obtain⟨a,xs,rfl,hx,q⟩:=h;cases rx;obtain⟨its,r,ht,hz⟩:=I.list hx;have hlen:=r.length;refine⟨"list",_,slot_list_getitem.lookup,ht.isList.typeIs,?_⟩;refine wpAny_getItem_list_slice ht.isList hs pl pu .none (by simp) ?_ (by rw[az] <;> omega);rw[rZ,<- hlen];refine⟨.ref s.heap.objs.size,_,I.laid (t':=s.toks) (o:=.lst (Ic xs lo hi)) (fun b ob q=>ay _ q) (bc _) ?_,rfl,q _ (I.hok.fresh (bc _))⟩;exact⟨ce (pD xs lo hi) hz,_,0,(r.drop (HT.sIx xs.length 0 lo)).take (HT.sIx xs.length xs.length hi-HT.sIx xs.length 0 lo),bz _ rfl⟩
theorem CallR.or (h:CallR X f r) (h':CallR X f r'):CallR X f (fun xs H Q=>r xs H Q∨r' xs H Q):=by
 intro pins s σ H xs us Q I rs q;rcases q with q|q
 ·exact h pins s σ H xs us Q I rs q
 ·exact h' pins s σ H xs us Q I rs q
theorem lV:CallR X (.type "list") (fun xs H Q=>∃ p ys,xs=[.ref p]/\(SqL X.K H p ys∨SqT X.K H p ys)/\∀ l,H l=wf->Q (.ref l) (upd H l (.lst ys))):=by
 intro pins s σ H xs us Q I r h;obtain⟨p,ys,rfl,hq,q⟩:=h;obtain⟨u,rfl,rx⟩:=lX r;cases rx;have fin:∀(its:List ag),Vals ys its->ys.length<=sizeLine->∀(h':cy) (c':Nat),(∀ b o',s.heap.get? b=we o'->h'.get? b=we o')->
   h'.get? s.heap.objs.size=we { cls:=.type "list",dict:=wf,data:=.seq its.toArray c',slots:= #[] }->EP X pins σ Q (.ref s.heap.objs.size) { s with heap:=h' }:=fun its r' hz h' c' kp e=>
  ⟨.ref s.heap.objs.size,_,I.laid (t':=s.toks) kp (bc _) (show ObjOk X.prog X.w _ h' _ (.lst ys) from⟨hz,its,c',r',e⟩),rfl,q _ (I.hok.fresh (bc _))⟩
 rcases hq with hq|hq
 ·obtain⟨its,r',pl,hz⟩:=I.list hq;have hlen:=r'.length;obtain⟨o,ho,hc,n,hd⟩:=pl.isList;exact call_list_seq p (.inl rfl) ho hc hd (fun h' c' kp e=>fin its r' hz h' c' kp e) (by simp only[az] <;> omega)
 ·obtain⟨its,r',pl,hz⟩:=I.tuple hq;have hlen:=r'.length;obtain⟨o,ho,hc,n,hd⟩:=pl;exact call_list_seq p (.inr rfl) ho hc hd (fun h' c' kp e=>fin its r' hz h' c' kp e) (by simp only[az] <;> omega)
theorem tR:CallR X (.type "tuple") (fun xs H Q=>∃ p ys,xs=[.ref p]/\((SqL X.K H p ys/\∀ l,H l=wf->Q (.ref l) (upd H l (.tup ys)))∨(SqT X.K H p ys/\Q (.ref p) H))):=by
 intro pins s σ H xs us Q I r h;obtain⟨p,ys,rfl,h⟩:=h;obtain⟨u,rfl,rx⟩:=lX r;cases rx;rcases h with⟨hq,q⟩|⟨hq,q⟩
 ·obtain⟨its,r',pl,hz⟩:=I.list hq;have hlen:=r'.length;refine call_tuple_list pl.isList (fun h' kp=> ?_) (by simp only[az] <;> omega);have I1:Inv X pins σ H { s with heap:=h' }:=I.kept (t':=s.toks) kp;have I2:Inv X pins σ (upd H h'.objs.size (.tup ys)) { s with heap:=h'.push { cls:=.type "tuple",data:=.seq its.toArray } }:=
   I1.laid (t':=s.toks) (fun b o e=>ay _ e) (bc _) (show ObjOk X.prog X.w _ _ _ (.tup ys) from⟨hz,its,r',vv _ _⟩)
  exact⟨.ref h'.objs.size,_,I2,rfl,q _ (I1.hok.fresh (bc _))⟩
 ·obtain⟨its,r',pl,hz⟩:=I.tuple hq;exact call_tuple_same pl ⟨.ref p,H,I,rfl,q⟩
noncomputable def tyV (K:aa) (T:String) (x:V) (H:Hp):Prop:=match x with
 |.str _=>T="str"
 |.int _=>T="int"
 |.ref p=>(T="list"/\∃ xs,SqL K H p xs)∨(T="tuple"/\∃ o,K.lookup p=we o/\o.cls=.type "tuple"/\o.dict=wf)∨
   (T="dict"/\((∃ kvs,H p=we (.dK kvs))∨∃ kvs,H p=we (.dT kvs)))∨(T="set"/\∃ S n,H p=we (.set S n))
 |_=>False
theorem Hy (I:Inv X pins σ H s) (r:RelV x v) (ty:tyV X.K T x H):
  s.TypeIs v T/\∀ a,v=.ref a->∃ ob,s.heap.get? a=we ob/\ob.dict=wf:=by
 cases x with
 |str z=>
  obtain⟨t,rfl⟩:=r;cases (show T="str" from ty);exact⟨typeIs_str s z t,fun _ e=>nomatch e⟩
 |int i=>
  obtain⟨t,rfl⟩:=r;cases (show T="int" from ty);exact⟨typeIs_int s i t,fun _ e=>nomatch e⟩
 |ref p=>
  cases r;rcases ty with⟨rfl,xs,hq⟩|⟨rfl,o,hk,hc,hd⟩|⟨rfl,hk⟩|⟨rfl,S,n,hk⟩
  ·obtain⟨its,_,pl,_⟩:=I.list hq;refine⟨pl.isList.typeIs,fun a e=> ?_⟩;cases e;obtain⟨o,n,e,c,hd,_⟩:=pl;exact⟨o,e,hd⟩
  ·refine⟨⟨o,I.kIn p o hk,hc⟩,fun a e=> ?_⟩;cases e;exact⟨o,I.kIn _ o hk,hd⟩
  ·have z:∃ o,s.heap.get? p=we o/\o.ExactDict:=by
    rcases hk with⟨kvs,hk⟩|⟨kvs,hk⟩
    ·obtain⟨_,_,_,_,o,_,_,e,ex,_⟩:=I.hok p _ hk;exact⟨o,e,ex⟩
    ·obtain⟨_,_,_,_,o,_,_,e,ex,_⟩:=I.hok p _ hk;exact⟨o,e,ex⟩
   obtain⟨o,e,ex⟩:=z;refine⟨⟨o,e,ex.1⟩,fun a e2=> ?_⟩;cases e2;exact⟨o,e,ex.2.1⟩
  ·obtain⟨o,_,_,_,e,ex,_⟩:=I.hok p _ hk;refine⟨⟨o,e,ex.1⟩,fun a e2=> ?_⟩;cases e2;exact⟨o,e,ex.2.1⟩
 |_=>exact io ty
noncomputable def PJ (K:aa) (T:String) (r:V->List V->Hp->VK->Prop) (to:TE):TE:=fun σ H Q=>to σ H fun x H1=>tyV K T x H1/\r x [] H1 Q
noncomputable def tBM (K:aa) (T:String) (r:V->List V->Hp->VK->Prop) (to:TE) (t:TA):TE:=fun σ H Q=>to σ H fun x H1=>tyV K T x H1/\t σ H1 fun xs H2=>r x xs H2 Q
variable {o e:br}{es:List br}{to:TE}{t:TA}{name:Str}{apos cpos:Pos}{T id:String}{r:V->List V->Hp->VK->Prop}
theorem LF (pa:PlainAttrs T) (slot:Slot T name id) (hty:typeOf (.builtin id)=pure (.type "method_descriptor")) (hm:MtR X id r) (ho:PE X o to)
  (hbase:hV o name X.env (eval o X.env)=eval o X.env:=by rfl) (hline:(apos.endLine==cpos.line)=true:=by rfl):PE X (.Call (.Attribute o name apos) [] [] cpos) (PJ X.K T r to):=by
 intro pins s σ H Q I h;refine wpAny_Call_method0_late hbase hline (thn (ho pins s σ H _ I h) fun v s1 ⟨x,H1,I1,r1,ty,q1⟩=> ?_);obtain⟨h1,h2⟩:=Hy I1 r1 ty;exact⟨T,id,pa,slot,hty,h1,h2,rj rfl (PySem.evalArgs_none (hm pins s1 σ H1 x [] v [] Q I1 r1 .nil q1))⟩
theorem LG (pa:PlainAttrs T) (slot:Slot T name id) (hty:typeOf (.builtin id)=pure (.type "method_descriptor")) (hm:MtR X id r) (ho:PE X o to) (ha:PA X (e::es) t)
  (hbase:hV o name X.env (eval o X.env)=eval o X.env:=by rfl)
  (hfew:((df cpos (av (e::es) X.env)).all (fun x=> !x.1)&&(jx cpos (ie [] X.env)).all (fun x=>x.1.isSome)
   &&decide ((e::es).length+([]:List ka).length+(if([]:List ka).isEmpty then 0 else 1)<30))=true:=by rfl)
  (hline:(apos.endLine==cpos.line)=true:=by rfl) (hs:av (e::es) X.env=(false,eval e X.env)::av es X.env:=by rfl) (hplain:(df cpos (av es X.env)).any (·.1)=false:=by rfl):
  PE X (.Call (.Attribute o name apos) (e::es) [] cpos) (tBM X.K T r to t):=by
 intro pins s σ H Q I h;refine wpAny_Call_method_late hbase hfew hline rfl (thn (ho pins s σ H _ I h) fun v s1 ⟨x,H1,I1,r1,ty,q1⟩=> ?_);obtain⟨h1,h2⟩:=Hy I1 r1 ty;refine⟨T,id,pa,slot,hty,h1,h2,?_⟩;have hA:=ha cpos pins s1 σ H1 _ I1 q1;rw[hs] at hA ⊢;refine rj (by show(false||(df cpos (av es X.env)).any (·.1))=false;rw[hplain] <;> rfl) (sy ?_);exact thn hA fun us s2 ⟨vs,H2,I2,r2,q2⟩=>hm pins s2 σ H2 x vs v us Q I2 r1 r2 q2
end
end L2
namespace L2
noncomputable def MtM (X:Cx) (id:String) (r:V->List V->Hp->VK->Prop):Prop:=
 ∀(pins:List (af×Obj)) (s:am) (σ:St) (H:Hp) (x:V) (xs:List V) (v:ag) (us:List ag) (Q:VK),Inv X pins σ H s->RelV x v->Vals xs us->r x xs H Q->
  aw (model X.prog X.w) X.A (call (.builtin id) (v::us)) (EP X pins σ Q) X.xe s
theorem Vals.one:∀ {x:V}{us:List ag},Vals [x] us->∃ u,us=[u]/\RelV x u
 |_,_,.cons r .nil=>⟨_,rfl,r⟩
theorem Vals.rep (h:Vals xs us):∀ k:Nat,Vals (ao k xs).flatten (ao k us).flatten
 |0=>.nil
 |k+1=>by
  rw[eu,eu,iy,iy];exact Vals.append h (Vals.rep h k)
theorem vY (its:List ag):∀(k:Nat) (acc:List ag),
  vc (fun x1 x2=>x1++x2) acc.toArray (ao k its.toArray)=(acc++(ao k its).flatten).toArray
 |0,acc=>by simp
 |k+1,acc=>by
  have e:acc.toArray++its.toArray=(acc++its).toArray:=by simp
  have e2:(acc++its)++(ao k its).flatten=acc++(ao (k+1) its).flatten:=by
   rw[eu,iy,ff]
  rw[<- e2,<- vY its k (acc++its),<- e,eu,vd]
section
variable {X:Cx}{pins:List (af×Obj)}{σ:St}{H:Hp}{s:am}{l b:af}{xs ys zs:List V}
theorem Inv.lset {its its':List ag} (I:Inv X pins σ H s) (hH:H l=we (.lst xs))
  (e:s.heap.get? l=we { cls:=.type "list",data:=.seq its.toArray n }) (hf:f its.toArray=its'.toArray) (hv:Vals ys its') (hz:ys.length<=sizeLine):
  Inv X pins σ (upd H l (.lst ys)) { s with heap:=s.heap.update l (kh f),toks:=t' }:=by
 have q:=PySem.IsL.update e f;rw[hf] at q;refine I.write (x:=l) (e:=l) (by rw[hH];exact trivial) (.inl rfl) (fun b' u hb hu=>(d8 s.heap (kh f) (bt hb)).trans hu) ⟨_,q⟩ ?_;exact⟨hz,its',_,hv,q⟩
theorem Inv.lnew (I:Inv X pins σ H s) (hv:Vals ys its) (hz:ys.length<=sizeLine):
  Inv X pins σ (upd H s.heap.objs.size (.lst ys)) { s with heap:=s.heap.push { cls:=.type "list",data:=.seq its.toArray },toks:=t' }:=
 I.laid (fun _ _ q=>ay _ q) (bc _) ⟨hz,its,0,hv,bz _ rfl⟩
theorem Inv.fresh (I:Inv X pins σ H s):H s.heap.objs.size=wf:=I.hok.fresh (bc _)
theorem Inv.lstM (I:Inv X pins σ H s) (hH:H l=we (.lst xs)):xs.length<=sizeLine/\∃(its:List ag) (n:Nat),Vals xs its/\xs.length=its.length/\s.heap.get? l=we { cls:=.type "list",data:=.seq its.toArray n }:=by
 obtain⟨z,its,n,r,e⟩:=I.hok l _ hH;exact⟨z,its,n,r,r.length,e⟩
theorem FU (h:n<=sizeLine):ma n=false:=by
 unfold ma;exact decide_eq_false (by omega)
end
section
variable {X:Cx}
noncomputable def CG:V->List V->Hp->VK->Prop:=fun x vs H Q=>∃ l xs y,x=.ref l/\vs=[y]/\H l=we (.lst xs)/\xs.length<sizeLine/\Q .non (upd H l (.lst (xs++[y])))
theorem vI:MtM X "list.append" CG:=by
 intro pins s σ H x vs v us Q I rx rv h;obtain⟨l,xs,y,rfl,rfl,hH,hz,q⟩:=h;cases rx;obtain⟨u,rfl,ru⟩:=rv.one;obtain⟨z,its,n,r,hl,e⟩:=I.lstM hH;refine call_meets sf ⟨_,e,rfl⟩ F.entry_list_append (F.args_list_append_2 _ _) (PySem.list_append l its.toArray n u (by rw[az];omega)) ⟨e,?_⟩;refine⟨.non,_,I.lset (its':=its++[u]) hH e (by simp) (r.append (.cons ru .nil)) ?_,rfl,q⟩;rw[b0,jg];omega
noncomputable def PR:R2:=fun x y H Q=>∃ l b xs zs,x=.ref l/\y=.ref b/\H l=we (.lst xs)/\H b=we (.lst zs)/\xs.length+zs.length<=sizeLine/\∀ p,H p=wf->Q (.ref p) (upd H p (.lst (xs++zs)))
theorem Mi:OpR X (jw .Add) PR:=by
 intro pins s σ H x y v u Q I rx ry h;obtain⟨l,b,xs,zs,rfl,rfl,hH,hB,hz,q⟩:=h;cases rx;cases ry;obtain⟨z,its,n,r,hl,e⟩:=I.lstM hH;obtain⟨z2,its2,n2,r2,hl2,e2⟩:=I.lstM hB;refine PySem.P.add_list e e2 ?_ (by rw[az,az];omega);have ea:its.toArray++its2.toArray=(its++its2).toArray:=by simp
 rw[ea];exact⟨.ref _,_,I.lnew (t':=s.toks) (r.append r2) (by rw[b0];omega),rfl,q _ I.fresh⟩
noncomputable def PP:R2:=fun x y H Q=>∃ l k xs,x=.ref l/\y=.int k/\H l=we (.lst xs)/\ -(2 ^ 63)<=k/\k<2 ^ 63/\xs.length*k.toNat<=sizeLine/\
 ∀ p,H p=wf->Q (.ref p) (upd H p (.lst (ao k.toNat xs).flatten))
theorem JK (xs:List α) (k:Nat):(ao k xs).flatten.length=k*xs.length:=by
 induction k with
 |zero=>simp
 |succ k ih=>rw[eu,iy,b0,ih,Nat.succ_mul,Nat.add_comm]
theorem LZ:OpR X (jw .Mult) PP:=by
 intro pins s σ H x y v u Q I rx ry h;obtain⟨l,k,xs,rfl,rfl,hH,h1,h2,hz,q⟩:=h;cases rx;obtain⟨t,rfl⟩:=ry;obtain⟨z,its,n,r,hl,e⟩:=I.lstM hH;have hlen:its.toArray.size*k.toNat<=sizeLine:=by rw[az,<- hl];exact hz
 have hcap:¬ its.toArray.size*k.toNat>(2 ^ 63-1) / 8:=by
  have:(sizeLine:Nat)<=(2 ^ 63-1) / 8:=by decide
  omega
 have hfit:¬(!Builtin.List.listFitsIndex k)=true:=by
  rw[fitsIndex_both h1 h2];exact cf
 have hlong:¬ ma (its.toArray.size*k.toNat)=true:=by
  rw[FU hlen];exact cf
 have hnew:vc (fun x1 x2=>x1++x2) #[] (ao (if its.toArray.isEmpty=true then 0 else k.toNat) its.toArray)=(ao k.toNat its).flatten.toArray:=by
  have f0:∀ m:Nat,vc (fun x1 x2=>x1++x2) #[] (ao m its.toArray)=(ao m its).flatten.toArray:=fun m=>by
   have:=vY its m []
   rw[List.nil_append] at this;exact this
  rw[f0];cases its with
  |nil=>simp
  |cons a r'=>rw[if_neg (by simp)]
 refine wpAny_binaryOp_repeat_ref (T:="list") (U:="int") (by decide) ⟨_,e,rfl⟩ (fun s'=>typeIs_int s' k t) noFill_list_mul F.fills_int_mul F.slot_int_rmul repeat_list F.slot_int_index.lookup
  (call_meets F.slot_int_rmul (typeIs_int s k t) F.entry_int_rmul (F.args_int_rmul_2 _ _) (int___rmul___int_list k t l its.toArray n)
   ⟨e,rfl,⟨_,e,rfl⟩,call_meets F.slot_list_mul ⟨_,e,rfl⟩ F.entry_list_mul (F.args_list_mul_2 _ _) (AutoListH.list___mul___list_int_3 l its.toArray n k t hfit hcap hlong) ⟨e,?_⟩⟩)
 rw[hnew];exact⟨.ref _,_,I.lnew (t':=s.toks) (r.rep k.toNat) (by rw[JK,Nat.mul_comm];exact hz),rfl,q _ I.fresh⟩
end
section
variable {prog:da}{w:dc}{A:de}{E:ag->am->Prop}{s:am}
set_option maxRecDepth 100000 in
end
section
variable {X:Cx}
end
end L2
namespace Att
open PySem PySem.W PySem.Calls PyProof.Rows
theorem nY:∀(ns:List Int) (vs:List ag),WellAll P h vs (ns.map WData.int)->kc vs ns:=by
 intro ns
 induction ns with
 |nil=>
  intro vs w;rw[kq] at w;cases w;exact .nil
 |cons n ns ih=>
  intro vs w;rw[bg] at w;cases w with
  |cons a b=>
   cases a;exact .cons _ _ (ih _ b)
theorem Cs {l:OpenLaw} (hn:l.most=we n)
  (hpre:l.row.toRowW.claim.pre args=true) (hwl:WellAll P h vals args):
  ∃ a vs ns,vals=[b7 a]/\args=[WData.list (ns.map WData.int)]/\h.get? a=we { cls:=.type "list",data:=.seq vs.toArray }/\kc vs ns/\ns.length<=n:=by
 have hsh:WShape.hasAll [] args [.list .int]=true:=(pre_splitW hpre).1;have hc:l.pre.holds [] { args:=args }=true:=(pre_splitW hpre).2;obtain⟨d,r,rfl,h1,h2⟩:=hasAllW_cons hsh;obtain rfl:=hasAllW_nil h2;obtain⟨xs,rfl,h3⟩:=hasW_list h1;obtain⟨ns,rfl⟩:=items_int h3;have hlen:ns.length<=n:=by
  unfold OpenLaw.pre at hc;have h4:(WTm.not (.lt (.lit (.int (n:Int))) (.len (.arg 0)))).holds [] { args:=[.list (ns.map .int)] }=true:=by
   have h4:=(holds_andW hc).1;rw[hn] at h4;exact h4
  have h5:=condW_of h4 (w_not (w_lt w_lit (w_len_list (w_arg rfl))));rw[ar] at h5;refine Nat.le_of_not_lt fun q=> ?_;have q':(n:Int)<((ns.length:Nat):Int):=by omega
  first
   |(rw[decide_eq_true q'] at h5;exact absurd h5 (by decide))
   |(simp at h5;omega)
 cases hwl with
 |cons w1 w2=>
  cases w2;cases w1 with
  |list ho hall=>exact⟨_,_,ns,rfl,rfl,ho,nY ns _ hall,hlen⟩
theorem CH (l:OpenLaw) (args:List WData):l.row.toRowW.claim.post args (.bool true) args=true:=
 postW_of (r:=l.row.toRowW) (X:=(true==true))
  (show WShape.has [] (.bool true) .bool=true by first|rfl|decide|simp[WShape.has,WShape.arms,WShape.armsAll])
  (show(WTm.eq .res (.lit (.bool true))).value [] { args:=args,res:=we (.bool true),after:=args }=we (.bool (true==true)) from w_eq_bool (w_res rfl) w_lit) rfl
theorem attach_call {l:OpenLaw}
  (hn:l.most=we n) (hdf:d.params.defaults=[])
  (call:∀(w:dc) (s₀ s₁:am) (mg mb:Str->Option ag) (fa:af) (o:Obj) (pm cd doc:ag) (a:af) (vs:List ag) (ns:List Int),
   Ground q loose [] XP w s₀ mg mb s₁.heap->YP w s₁.heap->
   s₁.heap.get? fa=we o->o.data=.func (docDef d.name d.params d.body d.scope pm cd doc)->s₁.heap.CodeRec cd d.name->mg d.name=we (.ref fa)->
   s₁.heap.get? a=we { cls:=.type "list",data:=.seq vs.toArray }->kc vs ns->ns.length<=n->s₁.gens= #[]->
   n8 (model l.prog w) o8 (.call (.ref fa) ⟨[.ref a],[]⟩) (fun r s'=>r=.ok (.ret (.bool true))/\OldK s₁.heap s'.heap/\s'.os=s₁.os/\mh s'.gens) s₁):
  WalkO q loose XP YP l.row.toRowW d [] (fun f vs=>ve f vs):=by
 intro w s₀ s₁ mg mb G Y fa o pm cd doc dV kV ho hd hcd hD hmg hg args vals as hpre hlay hrd hwl hlo;obtain rfl:dV=.none:=Dflts.none hD hdf;obtain rfl:kV=.none:=Dflts.noKw hD;obtain⟨a,vs,ns,rfl,rfl,hobj,hints,hlen⟩:=Cs hn hpre hwl;refine enter_call (qe (call w s₀ s₁ mg mb fa o pm cd doc a vs ns G Y ho (fd_plain hd) hcd hmg hobj hints hlen hg) fun r s' hq=> ?_);obtain⟨rfl,h2,h3,h4⟩:=hq;exact⟨.inl ⟨.bool true,.bool true,[],rfl,fun _=>rfl,.bool true,CH l _,fun _=>⟨List.Pairwise.nil,fun _ hm=>(nomatch hm)⟩⟩,h2,h3,h4⟩
section
variable {prog:da}{w:dc}{A:de}{E:ag->am->Prop}{s:am}{K:Frag}
end
end Att
namespace L2
theorem uK:∀ {vs:List ag}{ns:List Int},kc vs ns->Vals (ns.map V.int) vs
 |_,_,.nil=>.nil
 |_,_,.cons n t h=>.cons ⟨t,rfl⟩ (uK h)
noncomputable def OV (H:Hp):Prop:=∀ b,H b=wf∨∃ o xs,H b=we (.frz o (.lst xs))
theorem Gg {K:aa}
  (KX:K.In s₁.heap) (hns:s₁.heap.Ns b8 mg) (hb:s₁.heap.Ns builtinsNs mb) (hbb:∀ x:Str,x≠"__name__"->mb x=db x) (hlim:s₁.heap.NoLimit) (hg:s₁.gens= #[])
  (ha:s₁.heap.get? a=we { cls:=.type "list",data:=.seq vs.toArray }) (hi:kc vs ns) (hl:ns.length<=sizeLine) (hr:Room k o8)
  (F:∀ base:cy,K.In base->base.Ns b8 mg->qB P w K mg base CX k fa fd [x] sp) (hbind:∀(s:am) (u:ag),r9 s fd ⟨[u],[]⟩ [(x,u)])
  (hsp:∀ H:Hp,OV H->SqL K H a (ns.map V.int)->sp [.ref a] H (fun v _=>v=.bl true) fun _ _ _=>False)
  (hCX:∀ H e s',CX [] H s₁ (fun _ _ _=>False) e s'->False):
  n8 (model P w) o8 (.call (.ref fa) ⟨[.ref a],[]⟩) (fun r s'=>r=.ok (.ret (.bool true))/\OldK s₁.heap s'.heap/\s'.os=s₁.os/\mh s'.gens) s₁:=by
 have rv:=uK hi;have lenV:=hi.length
 -- from an abstract heap in which nothing but the script may be tracked
 have core:∀ H:Hp,OV H->SqL K H a (ns.map V.int)->HOk P w H s₁.heap->(∀ b,H b≠wf->b=a)->(H a≠wf->K.lookup a=wf)->
   n8 (model P w) o8 (.call (.ref fa) ⟨[.ref a],[]⟩) (fun r s'=>r=.ok (.ret (.bool true))/\OldK s₁.heap s'.heap/\s'.os=s₁.os/\mh s'.gens) s₁:=by
  intro H hO hS hok hA hK;have base_of:∀ {b:af}{o:Obj},s₁.heap.get? b=we o->H b=wf->(Gp s₁.heap H).get? b=we o:=fun e n=>Go e n;have noA:∀ {b:af}{o:Obj}{es:Array ky}{ep:Nat},s₁.heap.get? b=we o->o.data=.dict es ep->H b=wf:=fun {b o es ep} e d=>by
   cases q:H b with
   |none=>rfl
   |some u=>
    have e':b=a:=hA b (by rw[q];simp);subst e';rw[ha] at e;cases e;have d':Data.seq vs.toArray _=vx es ep:=d;cases d'
  have nsK:∀ {b:af}{m:Str->Option ag},s₁.heap.Ns b m->(Gp s₁.heap H).Ns b m:=fun {b m} ⟨o,es,ep,e,d,r⟩=>⟨o,es,ep,base_of e (noA e d),d,r⟩;have hKb:K.In (Gp s₁.heap H):=fun b o e=>base_of (KX b o e) (by
   cases q:H b with
   |none=>rfl
   |some u=>
    have e':b=a:=hA b (by rw[q];simp);subst e';rw[hK (by rw[q];simp)] at e;cases e)
  have hM:Mod K mg (Gp s₁.heap H):=⟨hKb,nsK hns,⟨mb,nsK hb,hbb⟩,let ⟨mc,h1,h2⟩:=hlim;⟨mc,nsK h1,h2⟩⟩;have e0:Env0 P w K mg (Gp s₁.heap H) o8 [] s₁ H:=⟨rfl,hM,fun b o e=>Jm e,ug (DH _ _),trivial,fun b hb=>absurd (show b∈([]:List af) from hb) (by simp),hok,.of_eq hg⟩;refine qe ((F _ hKb (nsK hns)).run o8 [] s₁ H ⟨[.ref a],[]⟩ [.ref a] [.ref a] _ _ hr e0 (hbind s₁ (.ref a)) (.cons rfl .nil) (hsp H hO hS)) fun r s' h=> ?_;cases r with
  |error e=>exact(hCX H e s' h).elim
  |ok fl=>
   cases fl with
   |next=>exact io h
   |brk=>exact io h
   |cont=>exact io h
   |ret u=>
    obtain⟨v,H',os,bare,un,hok',r',q⟩:=h;have q':v=.bl true:=q;subst q';obtain rfl:u=sv true:=r';refine⟨rfl,OldK.of_keep fun b o e=> ?_,os,bare⟩;cases q:H b with
    |none=>exact un.keep b o e q (by intro z;exact absurd (show b∈([]:List af) from z) (by simp)) (by simp)
    |some u=>
     rcases hO b with z|⟨ob,xs,z⟩
     ·rw[q] at z;cases z
     ·have z2:=un.frzs b ob _ z;obtain⟨e1,_⟩:=hok b _ z;obtain⟨e2,_⟩:=hok' b _ z2;rw[e] at e1;cases e1;exact e2
 cases hk:K.lookup a with
 |some o=>
  -- the script is one of the module's own objects
  have e:=KX a o hk;rw[ha] at e;cases e;refine core (fun _=>wf) (fun _=>.inl rfl) (.inr ⟨_,vs.toArray,_,hk,rfl,rfl,rfl,by rw[az,lenV];exact hl,by simpa using rv⟩) (fun b u z=>by have z':(wf:Option HO)=we u:=z;cases z') (fun b z=>absurd rfl z) fun z=>absurd rfl z
 |none=>
  refine core (fun b=>if b=a then we (.frz { cls:=.type "list",data:=.seq vs.toArray } (.lst (ns.map V.int))) else wf) (fun b=> ?_) (.inl (.inr ⟨{ cls:=.type "list",data:=.seq vs.toArray },if_pos rfl⟩)) (fun b u z=> ?_) (fun b z=> ?_) fun _=>hk
  ·by_cases hb:b=a
   ·exact .inr ⟨_,_,if_pos hb⟩
   ·exact .inl (if_neg hb)
  ·by_cases hb:b=a
   ·have z':=(if_pos hb).symm.trans z;cases z';subst hb;exact⟨ha,by rw[ar];exact hl,vs,_,rv,ha⟩
   ·have z':=(if_neg hb).symm.trans z;cases z'
  ·by_cases hb:b=a
   ·exact hb
   ·exact absurd (if_neg hb) z
end L2
namespace L2
theorem walk_of {l:vf}{K:Params->aa}{CX:dc->CXT}{sp:dc->Sp}
  (hn:l.most=we n) (hn2:n<=sizeLine) (hdf:d.params.defaults=[]) (hr:Room k o8)
  (hY:∀(w:dc) (h:cy),YP w h->(K w.params).In h)
  (F:∀(w:dc) (mg:Str->Option ag) (fa:af) (h:cy),(K w.params).In h->h.Ns b8 mg->mg d.name=we (.ref fa)->
   ∃ fd:ji,(∀(s:am) (u:ag),r9 s fd ⟨[u],[]⟩ [(x,u)])/\
    ∀ base:cy,(K w.params).In base->base.Ns b8 mg->qB l.prog w (K w.params) mg base (CX w) k fa fd [x] (sp w))
  (hsp:∀(w:dc) (H:Hp) (a:af) (ns:List Int),ns.length<=n->OV H->SqL (K w.params) H a (ns.map V.int)->sp w [.ref a] H (fun v _=>v=.bl true) fun _ _ _=>False)
  (hCX:∀(w:dc) (H:Hp) (s:am) (e:ag) (s':am),CX w [] H s (fun _ _ _=>False) e s'->False):
  vz q loose XP YP l.row.toRowW d [] (fun f vs=>ve f vs):=by
 refine Att.attach_call hn hdf fun w s₀ s₁ mg mb fa o pm cd doc a vs ns G Y ho hd hcd hmg hobj hints hlen hg=> ?_;have KX:=hY w _ Y;obtain⟨fd,hb,hF⟩:=F w mg fa _ KX G.T.g hmg;exact Gg KX G.T.g G.T.b G.T.builtins G.T.nolimit hg hobj hints (ce hlen hn2) hr hF hb (fun H hO hS=>hsp w H a ns hlen hO hS) fun H e s'=>hCX w H s₁ e s'
end L2
namespace L2
noncomputable def cA (s:cq) (j:Nat):cq:=match s with
 |.ClassDef _ _ _ body _ _ _ _ _ _ _=>body.getD j (.Pass ⟨0,0,0,0⟩)
 |_=>.Pass ⟨0,0,0,0⟩
noncomputable def gK (s:cq):Arguments:=match s with
 |.FunctionDef _ a _ _ _ _ _ _ _ _=>a
 |_=>{ posonlyargs:=[],args:=[],vararg:=wf,kwonlyargs:=[],kw_defaults:=[],kwarg:=wf,defaults:=[] }
noncomputable def fI (s:cq):List cq:=match s with
 |.FunctionDef _ _ b _ _ _ _ _ _ _=>b
 |_=>[]
noncomputable def bE (s:cq):j6:=match s with
 |.FunctionDef _ _ _ _ _ _ sc _ _ _=>sc
 |_=>{ kind:=.function,names:=[],isGenerator:=false,isCoroutine:=false }
structure Fun (K:aa) (x qual:Str) (st:cq) (f:af) (fd:ji):Prop where
 ex:∃(oc:ag) (od:Option af) (kV doc pm:ag) (an:Option af) (cdv ct:ag) (osl:Array (Option ag)),
  fd=ig x qual (gK st) (fI st) (bE st) .none kV doc pm an cdv ct/\K.lookup f=we ⟨oc,od,.func fd,osl⟩/\ju K cdv qual=true
 kp:gk K (.ref f)=true
section
variable {P:da}{w:dc}{K:aa}{mg:Str->Option ag}{base:cy}
theorem Fun.binds {st:cq} (F:Fun K x qual st f fd)
  (h:∀(kV doc pm:ag) (an:Option af) (cdv ct:ag) (us:List ag),us.length=ps.length->bindArgs (ig x qual (gK st) (fI st) (bE st) .none kV doc pm an cdv ct) ⟨us,[]⟩=pure (ps.zip us)):Binds K fd ps []:=by
 obtain⟨oc,od,kV,doc,pm,an,cdv,ct,osl,rfl,lk,hcd⟩:=F.ex;exact .all (h kV doc pm an cdv ct)
theorem HX {st:cq}{kV doc pm cdv ct:ag} (l:K.lookup f=we ⟨oc,od,.func (ig x qual (gK st) (fI st) (bE st) .none kV doc pm an cdv ct),osl⟩)
  (c:ju K cdv qual=true) (k:gk K (.ref f)=true):Fun K x qual st f (ig x qual (gK st) (fI st) (bE st) .none kV doc pm an cdv ct):=⟨⟨oc,od,kV,doc,pm,an,cdv,ct,osl,rfl,l,c⟩,k⟩
end
theorem Oy (hr:Room k A):A.units+1<dq:=md (Nat.add_le_add_left (by decide:1<=64) _) hr.units
section
variable {X:Cx}
end
theorem KI {A B:Prop} (h:B):if false=true then A else B:=by
 rw[if_neg cf];exact h
theorem KH {A B:Prop} (h:A):if true=true then A else B:=by
 rw[if_pos rfl];exact h
noncomputable def Same (H H':Hp):Prop:=∀ b o,H b=we o->H' b=we o
theorem Same.refl (H:Hp):Same H H:=fun _ _ h=>h
theorem Same.trans (a:Same H H1) (b:Same H1 H2):Same H H2:=fun c o h=>b c o (a c o h)
theorem Same.free (e:Same H H') (h:H' l=Option.none):H l=Option.none:=by
 cases q:H l with
 |none=>rfl
 |some o=>
  rw[e l o q] at h;cases h
end L2
end
section
namespace L2
section
variable {κ:Type} [DecidableEq κ]
noncomputable def uL (kvs:List (κ×V)) (k:κ):Option V:=(kvs.find? fun kv=>decide (kv.1=k)).map (·.2)
noncomputable def lO (kvs:List (κ×V)) (k:κ) (v:V):List (κ×V):=
 if(kvs.any fun kv=>decide (kv.1=k))=true then kvs.map (fun kv=>if kv.1=k then(kv.1,v) else kv) else kvs++[(k,v)]
noncomputable def wC (kvs:List (κ×V)) (k:κ):List (κ×V):=kvs.filter fun kv=>decide (kv.1≠k)
theorem mG {k:κ} (e:p.1=k):uL (p::r) k=we p.2:=by simp[uL,gp,e]
theorem jZ {k:κ} (e:¬ p.1=k):uL (p::r) k=uL r k:=by simp[uL,gp,e]
theorem zT (k:κ):∀ kvs:List (κ×V),(kvs.any fun kv=>decide (kv.1=k))=(uL kvs k).isSome
 |[]=>rfl
 |p::r=>by
  rw[k8]
  by_cases e:p.1=k
  ·simp only[mG e,decide_eq_true e,Bool.true_or,uk]
  ·rw[jZ e,decide_eq_false e,Bool.false_or];exact zT k r
theorem gD (kvs:List (κ×V)) (k:κ) (v:V):(lO kvs k v).length<=kvs.length+1:=by
 unfold lO;split
 ·rw[ar];omega
 ·rw[b0,bv,ke];omega
theorem RelO.isSome_eq (r:RelO o u):o.isSome=u.isSome:=by
 cases o with
 |none=>cases u with
  |none=>rfl
  |some _=>exact(show False from r).elim
 |some _=>cases u with
  |none=>exact(show False from r).elim
  |some _=>rfl
theorem KV.val (r:KV kvs vs) (k:κ):RelO (uL kvs k) (qd vs k):=by
 unfold KV at r
 induction r with
 |nil=>exact hX
 |@cons p q ps qs h t ih=>
  obtain⟨h1,h2⟩:=h
  by_cases e:p.1=k
  ·have e':q.1=k:=h1.symm.trans e;have b:qd (q::qs) k=we q.2:=by simp[qd,gp,e']
   rw[mG e,b];exact h2
  ·have e':¬ q.1=k:=fun z=>e (h1.trans z);have b:qd (q::qs) k=qd qs k:=by simp[qd,gp,e']
   rw[jZ e,b];exact ih
theorem KV.any (r:KV kvs vs) (k:κ):(kvs.any fun kv=>decide (kv.1=k))=vs.any fun kv=>decide (kv.1=k):=by
 unfold KV at r
 induction r with
 |nil=>rfl
 |cons h t ih=>rw[k8,k8,ih,h.1]
theorem KV.repl (r:KV kvs vs) (k:κ) (ry:RelV y u):
  KV (kvs.map fun kv=>if kv.1=k then(kv.1,y) else kv) (vs.map fun kv=>if kv.1=k then(kv.1,u) else kv):=by
 unfold KV at r ⊢
 induction r with
 |nil=>exact .nil
 |@cons p q ps qs h t ih=>
  rw[bg,bg];refine .cons ?_ ih;obtain⟨h1,h2⟩:=h
  by_cases e:p.1=k
  ·rw[if_pos e,if_pos (h1.symm.trans e)];exact⟨h1,ry⟩
  ·rw[if_neg e,if_neg (fun z=>e (h1.trans z))];exact⟨h1,h2⟩
theorem KV.put (r:KV kvs vs) (k:κ) (ry:RelV y u):KV (lO kvs k y) (stored vs k u):=by
 unfold lO stored;rw[r.any k]
 by_cases e:(vs.any fun kv=>decide (kv.1=k))=true
 ·rw[if_pos e,if_pos e];exact r.repl k ry
 ·rw[if_neg e,if_neg e];exact Paired.snoc r ⟨rfl,ry⟩
theorem KV.length {vs:List (κ×ag)} (r:KV kvs vs):kvs.length=vs.length:=iz r
theorem GW (kvs:List (κ×V)) (k:κ):(wC kvs k).length<=kvs.length:=du _ _
end
theorem Dw (r:RelV (kV k) u):(aO P w).is k u=true:=by
 cases k with
 |inl i=>obtain⟨t,e⟩:=(show ∃ t,u=ub i t from r);subst e;exact xK P w i t
 |inr x=>obtain⟨t,e⟩:=(show ∃ t,u=uc x t from r);subst e;exact xJ P w x t
theorem vN:∀ {ks:List Key}{us:List ag},Vals (ks.map kV) us->ItemsAre (aO P w) ks us
 |[],_,r=>by rw[kq] at r;cases r;exact .nil
 |k::ks,_,r=>by
  rw[bg] at r;cases r with
  |cons h t=>exact .cons (Dw h) (vN t)
noncomputable abbrev KT (H:Hp):List (List Key×V)->List (List Key×af×ag)->Prop:=jv fun p q=>p.1=q.1/\H q.2.1=we (.tup (p.1.map kV))/\RelV p.2 q.2.2
theorem KT.val (r:KT H kvs xs) (k:List Key):RelO (uL kvs k) ((k7 xs k).map (·.2)):=by
 induction r with
 |nil=>exact hX
 |@cons p q ps qs h t ih=>
  obtain⟨h1,_,h2⟩:=h
  by_cases e:p.1=k
  ·have e':q.1=k:=h1.symm.trans e;have b:k7 (q::qs) k=we q.2:=by simp[k7,gp,e']
   rw[mG e,b];exact h2
  ·have e':¬ q.1=k:=fun z=>e (h1.trans z);have b:k7 (q::qs) k=k7 qs k:=by simp[k7,gp,e']
   rw[jZ e,b];exact ih
theorem KT.repl (r:KT H kvs xs) (k:List Key) (ry:RelV y u):
  KT H (kvs.map fun kv=>if kv.1=k then(kv.1,y) else kv) (xs.map (qv k u)):=by
 induction r with
 |nil=>exact .nil
 |@cons p q ps qs h t ih=>
  rw[bg,bg];refine .cons ?_ ih;obtain⟨h1,h2,h3⟩:=h;unfold qv
  by_cases e:p.1=k
  ·rw[if_pos e,if_pos (h1.symm.trans e)];exact⟨h1,h2,ry⟩
  ·rw[if_neg e,if_neg (fun z=>e (h1.trans z))];exact⟨h1,h2,h3⟩
theorem KT.put (r:KT H kvs xs) (k:List Key) (hb:H b=we (.tup (k.map kV))) (ry:RelV y u):
  KT H (lO kvs k y) (jh xs k b u):=by
 have e:(kvs.any fun kv=>decide (kv.1=k))=(k7 xs k).isSome:=by
  rw[zT,(r.val k).isSome_eq,px]
 unfold lO jh;rw[e]
 by_cases q:(k7 xs k).isSome=true
 ·rw[if_pos q,if_pos q];exact r.repl k ry
 ·rw[if_neg q,if_neg q];exact Paired.snoc r ⟨rfl,hb,ry⟩
theorem KT.keeps (r:KT H kvs xs) (ht:∀ b ys,H b=we (.tup ys)->H' b=we (.tup ys)):KT H' kvs xs:=
 jv.mapP r fun _ _ z=>⟨z.1,ht _ _ z.2.1,z.2.2⟩
section
variable {P:da}{w:dc}{H:Hp}{h:cy}{a:af}
theorem Ld (ok:HOk P w H h) (e:Rd H a u):ObjOk P w H h a u:=e.ok ok
theorem GY (ok:HOk P w H h) (e:Rd H a (.dK kvs)):kvs.length<=sizeLine/\(a==fh)=false/\∃ vs,KV kvs vs/\h.DictOf (aO P w) a vs:=
 show ObjOk P w H h a (.dK kvs) from Ld ok e
theorem MZ (ok:HOk P w H h) (e:H a=we (.dK kvs)):kvs.length<=sizeLine/\(a==fh)=false/\∃ vs,KV kvs vs/\h.DictOf (aO P w) a vs:=GY ok (.inl e)
theorem vL (ok:HOk P w H h) (e:H a=we (.tup (ks.map kV))):(bx (aO P w)).is h ks a:=by
 obtain⟨_,its,r,o,h1,h2,n,h3⟩:=(show ObjOk P w H h a (.tup (ks.map kV)) from ok a _ e);exact⟨o,its.toArray,n,h1,h2,h3,by simpa using vN r⟩
theorem GT (ok:HOk P w H h) (e:Rd H a (.dT kvs)):kvs.length<=sizeLine/\(a==fh)=false/\
  ∃ xs,KT H kvs xs/\h.DictOfH (bx (aO P w)) a xs:=by
 obtain⟨z,y,xs,r,o,es,ep,h1,h2,h3,h4,h5⟩:=(show ObjOk P w H h a (.dT kvs) from Ld ok e);refine⟨z,y,xs,r,o,es,ep,h1,h2,h3,h4,fun x hx=> ?_,h5⟩;have all:∀ {l:List (List Key×V)}{m:List (List Key×af×ag)},KT H l m->∀ x∈m,(bx (aO P w)).is h x.1 x.2.1:=by
  intro l m q
  induction q with
  |nil=>intro x hx;exact nomatch hx
  |@cons p q ps qs hq t ih=>
   intro x hx;rcases ah.mp hx with e|hx
   ·subst e;exact vL ok (by rw[<- hq.1];exact hq.2.1)
   ·exact ih x hx
 exact all r x hx
theorem GU (ok:HOk P w H h) (e:H a=we (.dT kvs)):kvs.length<=sizeLine/\(a==fh)=false/\
  ∃ xs,KT H kvs xs/\h.DictOfH (bx (aO P w)) a xs:=GT ok (.inl e)
end
noncomputable def DGet (H:Hp) (a:af) (y:V) (r:Option V):Prop:=
 (∃ kvs k,Rd H a (.dK kvs)/\y=kV k/\r=uL kvs k)∨∃ kvs k b,Rd H a (.dT kvs)/\y=.ref b/\H b=we (.tup (k.map kV))/\r=uL kvs k
noncomputable def DPut (H:Hp) (a:af) (y v:V) (H':Hp):Prop:=
 (∃ kvs k,H a=we (.dK kvs)/\y=kV k/\kvs.length<sizeLine/\H'=upd H a (.dK (lO kvs k v)))∨
 ∃ kvs k b,H a=we (.dT kvs)/\y=.ref b/\H b=we (.tup (k.map kV))/\kvs.length<sizeLine/\H'=upd H a (.dT (lO kvs k v))
theorem DGet.k {k:Key} (e:H a=we (.dK kvs)):DGet H a (kV k) (uL kvs k):=.inl ⟨kvs,k,.inl e,rfl,rfl⟩
theorem DGet.t {k:List Key} (e:H a=we (.dT kvs)) (eb:H b=we (.tup (k.map kV))):DGet H a (.ref b) (uL kvs k):=.inr ⟨kvs,k,b,.inl e,rfl,eb,rfl⟩
theorem DPut.k {k:Key} (e:H a=we (.dK kvs)) (hl:kvs.length<sizeLine):DPut H a (kV k) v (upd H a (.dK (lO kvs k v))):=.inl ⟨kvs,k,e,rfl,hl,rfl⟩
theorem DPut.t {k:List Key} (e:H a=we (.dT kvs)) (eb:H b=we (.tup (k.map kV))) (hl:kvs.length<sizeLine):
  DPut H a (.ref b) v (upd H a (.dT (lO kvs k v))):=.inr ⟨kvs,k,b,e,rfl,eb,hl,rfl⟩
section
variable {X:Cx}{pins:List (af×Obj)}{σ:St}{H:Hp}{s:am}{a:af}{y v:V}{u r:ag}{o:Option V}{A:de}{E:ag->am->Prop}
theorem Inv.big (I:Inv X pins σ H s):fh<s.heap.objs.size:=by
 have h:b8<s.heap.objs.size:=(I.mod.glob.keeps I.bk).lt;exact Nat.lt_trans (by decide) h
theorem Ew (hu:A.units+1<dq) (I:Inv X pins σ H s) (g:DGet H a y (we v)) (ry:RelV y u) (h:∀ w' s',Inv X pins σ H s'->RelV v w'->Q w' s'):
  aw (model X.prog X.w) A (o7 (.ref a) u) Q E s:=by
 rcases g with⟨kvs,k,e,ey,l⟩|⟨kvs,k,b,e,ey,eb,l⟩
 ·subst ey;obtain⟨z,hd,vs,rel,dd⟩:=GY I.hok e;obtain⟨w',hw,rw'⟩:=RelO.some_of (v:=v) (o:=qd vs k) (by rw[l];exact rel.val k);exact wpAny_getItem_of (Dw ry) dd.mapOf hw (h w' _ (I.tok _) rw')
 ·subst ey;cases (show u=b7 b from ry);obtain⟨z,hd,xs,rel,dd⟩:=GT I.hok e;obtain⟨w',hw,rw'⟩:=RelO.some_of (v:=v) (o:=(k7 xs k).map (·.2)) (by rw[l];exact rel.val k);obtain⟨p,hp,hp2⟩:=my.mp hw;refine wpAny_getItem_heap (ki hu) (vL I.hok eb) dd hp ?_;rw[hp2];exact h w' _ (I.tok _) rw'
theorem Qi (hu:A.units+1<dq) (I:Inv X pins σ H s) (g:DGet H a y o) (ry:RelV y u) (h:∀ s',Inv X pins σ H s'->Q (.bool o.isSome) s'):
  aw (model X.prog X.w) A (d7 .In u (.ref a)) Q E s:=by
 rcases g with⟨kvs,k,e,ey,l⟩|⟨kvs,k,b,e,ey,eb,l⟩
 ·subst ey;obtain⟨z,hd,vs,rel,dd⟩:=GY I.hok e;refine wpAny_in_of (Dw ry) hd dd.mapOf ?_;rw[<- (rel.val k).isSome_eq,<- l];exact h _ (I.tok _)
 ·subst ey;cases (show u=b7 b from ry);obtain⟨z,hd,xs,rel,dd⟩:=GT I.hok e;refine wpAny_in_heap (ki hu) (vL I.hok eb) hd dd ?_;have q:=(rel.val k).isSome_eq;rw[px] at q;rw[<- q,<- l];exact h _ (I.tok _)
theorem oY (I:Inv X pins σ H s) (mu:Mut (H a)) (hs:fm a s.heap h') (he:∃ q,h'.get? a=we q) (new:ObjOk X.prog X.w (upd H a ob) h' a ob):
  Inv X pins σ (upd H a ob) { s with heap:=h',toks:=t' }:=
 I.write (x:=a) (e:=a) mu (.inl rfl) (fun b q hb z=>(hs.2 b hb).trans z) he new
theorem Ia (z:kvs.length<=sizeLine) (hd:(a==fh)=false) (rel:KV kvs vs) (dd:h'.DictOf (aO P w) a vs):
  ObjOk P w H' h' a (.dK kvs):=⟨z,hd,vs,rel,dd⟩
theorem Es (hu:A.units+1<dq) (I:Inv X pins σ H s) (g:DPut H a y v H') (ry:RelV y u) (rv:RelV v r) (h:∀ s',Inv X pins σ H' s'->Q () s'):
  aw (model X.prog X.w) A (setItem (.ref a) u r) Q E s:=by
 rcases g with⟨kvs,k,e,ey,l,eH⟩|⟨kvs,k,b,e,ey,eb,l,eH⟩
 ·subst ey eH;obtain⟨z,hd,vs,rel,dd⟩:=MZ I.hok e;have hz:vs.length<=sizeLine:=by rw[<- rel.length];exact z
  have hl:(lO kvs k v).length<=sizeLine:=by have:=gD kvs k v;omega
  refine wpAny_setItem_pairs (hsz:=hz) (Dw ry) dd fun h' dd' hs=>h _ ?_;have he:∃ q,h'.get? a=we q:=let ⟨q,_,_,hq,_⟩:=dd';⟨q,hq⟩;exact oY I (by rw[e];exact hX) hs he (Ia hl hd (rel.put k rv) dd')
 ·subst ey eH;cases (show u=b7 b from ry);obtain⟨z,hd,xs,rel,dd⟩:=GU I.hok e;have hz:xs.length<=sizeLine:=by rw[<- iz rel];exact z
  have hl:(lO kvs k v).length<=sizeLine:=by have:=gD kvs k v;omega
  refine wpAny_setItem_heap (hsz:=hz) (ki hu) (vL I.hok eb) dd fun h' dd' hs=>h _ ?_;obtain⟨q,es,ep,hq,h2,h3,h4,_,h5⟩:=dd';refine oY I (by rw[e];exact hX) hs ⟨q,hq⟩ ⟨hl,hd,_,(rel.put k eb rv).keeps fun c ys ec=> ?_,q,es,ep,hq,h2,h3,h4,h5⟩;rw[aG (JG ec e (fun z=>nomatch z))];exact ec
end
section
variable {X:Cx}{pins:List (af×Obj)}{σ:St}{H:Hp}{s:am}{a:af}{kvs:List (Key×V)}{k:Key}{u:ag}{A:de}{E:ag->am->Prop}
end
noncomputable def OX (i:br):Prop:=∀ ov iv,subscripted i false ov iv=operate [ov,iv] (o7 ov iv)
theorem Il {T id:String}
  (hl:sw (.type T) "__getitem__"=pure (we (.builtin id))) (hs:OX slice)
  (h:aw (model prog w) A (eval value env) (fun o s₁=>aw (model prog w) A (eval slice env) (fun i s₂=>s₂.TypeIs o T/\aw (model prog w) A (o7 o i) Q E s₂) E s₁) E s):
  aw (model prog w) A (eval (.Subscript value slice pos) env) Q E s:=by
 refine Subscript_ (gu h (fun o s₁ h₁=>gu h₁ (fun i s₂ h₂=> ?_) fun _ _ x=>x) fun _ _ x=>x);obtain⟨hT,h₂⟩:=h₂;unfold tw;refine ae ?_;rw[getitemInPython_of_ne hT.not_modules];refine ae (wpAny_specialOf hT hl ?_);have fin:aw (model prog w) A (subscripted slice false o i) (fun r s₃=>aw (model prog w) A (letTemporaryGo value o r >>= fun _=>pure r) Q E s₃) E s₂:=by
  rw[hs o i];exact wpAny_operating (gu h₂ (fun r s₃ h₃=>ae (wpAny_letTemporaryGo (ak h₃))) fun _ _ x=>x)
 first
  |exact ak (ae fin)
  |exact ae (ak (ae fin))
  |exact ae fin
theorem yG (I:Inv X pins σ H s) (g:DGet H a y o):s.TypeIs (.ref a) "dict":=by
 rcases g with⟨kvs,k,e,_,_⟩|⟨kvs,k,b,e,_,_,_⟩
 ·obtain⟨_,_,vs,_,dd⟩:=GY I.hok e;exact dd.typeIs
 ·obtain⟨_,_,xs,_,dd⟩:=GT I.hok e;exact dd.typeIs
noncomputable def NK (td ty:TE):TE:=fun σ H Q=>td σ H fun x H1=>ty σ H1 fun y H2=>∃ a v,x=.ref a/\DGet H2 a y (we v)/\Q v H2
noncomputable def PH (ty td:TE):TE:=fun σ H Q=>ty σ H fun y H1=>td σ H1 fun x H2=>∃ a o,x=.ref a/\DGet H2 a y o/\Q (.bl o.isSome) H2
noncomputable def NP (td ty tv:TE):TS:=fun D σ H=>tv σ H fun v H1=>td σ H1 fun x H2=>ty σ H2 fun y H3=>∃ a H4,x=.ref a/\DPut H3 a y v H4/\D.nx σ H4
section
variable {X:Cx}{o i e value:br}{pos pos' tpos:Pos}{td ty tv:TE}
theorem IN (hu:X.A.units+1<dq) (ho:PE X o td) (hi:PE X i ty) (hs:OX i):PE X (.Subscript o i pos) (NK td ty):=by
 intro pins s σ H Q I h;refine Il PySem.F.slot_dict_getitem.lookup hs (thn (ho pins s σ H _ I h) fun u s1 ⟨x,H1,I1,rx,q1⟩=>thn (hi pins s1 σ H1 _ I1 q1) fun iv s2 ⟨y,H2,I2,ry,a,v,ex,g,q2⟩=> ?_);subst ex;obtain rfl:u=b7 a:=rx;exact⟨yG I2 g,Ew hu I2 g ry fun w' s3 I3 rw'=>⟨v,H2,I3,rw',q2⟩⟩
theorem LI (hu:X.A.units+1<dq) (hi:PE X i ty) (ho:PE X o td):PC X .In i o (PH ty td):=by
 intro pins s σ H Q I h;refine thn (hi pins s σ H _ I h) fun iv s1 ⟨y,H1,I1,ry,q1⟩=>thn (ho pins s1 σ H1 _ I1 q1) fun u s2 ⟨x,H2,I2,rx,a,ov,ex,g,q2⟩=> ?_;subst ex;obtain rfl:u=b7 a:=rx;exact Qi hu I2 g ry fun s3 I3=>⟨.bl ov.isSome,H2,I3,rfl,q2⟩
theorem ID (hu:X.A.units+1<dq) (ho:PE X o td) (hi:PE X i ty) (hv:PE X value tv) (hs:i9 value (we (.Subscript o i pos')) pos.line X.env=pure false):
  PS X (.Assign [.Subscript o i pos'] value pos) (NP td ty tv):=by
 intro pins s σ H D I h;refine wpAny_Assign_Subscript (thn (hv pins s σ H _ I h) fun r s1 ⟨v,H1,I1,rv,q1⟩=>thn (ho pins s1 σ H1 _ I1 q1) fun u s2 ⟨x,H2,I2,rx,q2⟩=>thn (hi pins s2 σ H2 _ I2 q2) fun iv s3 ⟨y,H3,I3,ry,a,H4,ex,g,q3⟩=> ?_) hs;subst ex;obtain rfl:u=b7 a:=rx;exact Es hu I3 g ry rv fun s4 I4=>⟨σ,H4,I4,q3⟩
end
theorem GZ (h:cy) (hb:fh<h.objs.size):ObjOk P w H (h.push { cls:=.type "dict",data:=.dict #[] }) h.objs.size (.dK []):=
 ⟨ic _,beq_eq_false_iff_ne.mpr (bt (ci hb)),[],.nil,Heap.DictOf.new h⟩
theorem GV (h:cy) (hb:fh<h.objs.size):ObjOk P w H (h.push { cls:=.type "dict",data:=.dict #[] }) h.objs.size (.dT []):=
 ⟨ic _,beq_eq_false_iff_ne.mpr (bt (ci hb)),[],.nil,_,#[],0,bz _ rfl,⟨rfl,rfl,rfl⟩,rfl,rfl,vp⟩
noncomputable def KZ:TE:=fun _ H Q=>∀ p,H p=wf->Q (.ref p) (upd H p (.dT []))
section
variable {X:Cx}{pos:Pos}
theorem FB:PE X (.Dict [] [] pos) KZ:=fun pins s σ H Q I h=>
 wpAny_Dict_empty ⟨.ref s.heap.objs.size,_,I.laid (a:=s.heap.objs.size) (o:=.dT []) (t':=s.toks) (fun _ _ q=>ay _ q) (bc _) (GV s.heap I.big),rfl,h _ (I.hok.fresh (bc _))⟩
end
noncomputable def zW:List (TE×TE)->St->Hp->(List (V×V)->Hp->Prop)->Prop
 |[],_,H,Q=>Q [] H
 |(tk,tv)::r,σ,H,Q=>tk σ H fun x H1=>tv σ H1 fun y H2=>zW r σ H2 fun ps H3=>Q ((x,y)::ps) H3
noncomputable abbrev VV:List (V×V)->List (ag×ag)->Prop:=jv fun p q=>RelV p.1 q.1/\RelV p.2 q.2
noncomputable def PPs (X:Cx) (pos:Pos) (keys:List (Option br)) (values:List br) (trs:List (TE×TE)):Prop:=
 ∀(pins:List (af×Obj)) (s:am) (σ:St) (H:Hp) (Q:List (V×V)->Hp->Prop),Inv X pins σ H s->zW trs σ H Q->
  aw (model X.prog X.w) X.A (evalPairs (pairTrees keys values X.env pos)) (fun vs s'=>∃ ps H',Inv X pins σ H' s'/\VV ps vs/\Q ps H') X.xe s
theorem IF:PPs X pos [] [] []:=fun pins s σ H Q I h=>pairTrees_nil_walk ⟨[],H,I,.nil,h⟩
theorem Fy (hk:PE X k tk) (hv:PE X v tv) (hr:PPs X pos ks vs trs):
  PPs X pos (we k::ks) (v::vs) ((tk,tv)::trs):=fun pins s σ H Q I h=>
 pairTrees_cons_walk (thn (hk pins s σ H _ I h) fun u s1 ⟨x,H1,I1,rx,q1⟩=>thn (hv pins s1 σ H1 _ I1 q1) fun w2 s2 ⟨y,H2,I2,ry,q2⟩=>
  thn (hr pins s2 σ H2 _ I2 q2) fun ws s3 ⟨ps,H3,I3,rel,q3⟩=>⟨(x,y)::ps,H3,I3,.cons ⟨rx,ry⟩ rel,q3⟩)
noncomputable def mergeK (kvs more:List (Key×V)):List (Key×V):=more.foldl (fun acc kv=>lO acc kv.1 kv.2) kvs
theorem KV.merge:∀ {more:List (Key×V)}{rs:List (Key×ag)}{kvs:List (Key×V)}{vs:List (Key×ag)},KV more rs->KV kvs vs->KV (mergeK kvs more) (merged vs rs):=by
 intro more rs kvs vs r;unfold KV at r
 induction r generalizing kvs vs with
 |nil=>intro q;exact q
 |@cons p q ps qs h t ih=>
  intro r0;have e:KV (lO kvs p.1 p.2) (stored vs q.1 q.2):=by
   have:=r0.put p.1 h.2
   rw[<- h.1];exact this
  exact ih e
theorem kM:∀(more kvs:List (Key×V)),(mergeK kvs more).length<=kvs.length+more.length
 |[],kvs=>by show kvs.length<=kvs.length+0;omega
 |p::r,kvs=>by
  have h1:=kM r (lO kvs p.1 p.2);have h2:=gD kvs p.1 p.2
  show(mergeK (lO kvs p.1 p.2) r).length<=_
  rw[bv];omega
theorem rQ:∀ {kvs:List (Key×V)}{ws:List (ag×ag)},VV (kvs.map fun kv=>(kV kv.1,kv.2)) ws->∃ rs,Carries (aO P w) ws rs/\KV kvs rs
 |[],_,r=>by rw[kq] at r;cases r;exact⟨[],hX,.nil⟩
 |p::kvs,_,r=>by
  rw[bg] at r;cases r with
  |@cons a b as bs h t=>
   obtain⟨rs,c,q⟩:=rQ (P:=P) (w:=w) t;obtain⟨b1,b2⟩:=b;exact⟨(p.1,b2)::rs,⟨Dw h.1,rfl,c⟩,.cons ⟨rfl,h.2⟩ q⟩
noncomputable def NJ (trs:List (TE×TE)):TE:=fun σ H Q=>∀ p,H p=wf->zW trs σ (upd H p (.dK [])) fun ps H2=>H2 p=we (.dK [])/\∃ kvs:List (Key×V),ps=kvs.map (fun kv=>(kV kv.1,kv.2))/\kvs.length<=15/\Q (.ref p) (upd H2 p (.dK (mergeK [] kvs)))
theorem IM (h:PPs X pos keys values trs) (hall:keys.all (·.isSome)=true) (hl:keys.length=values.length) (h0:keys≠[])
  (h15:keys.length<=15):PE X (.Dict keys values pos) (NJ trs):=by
 intro pins s σ H Q I q;have hn:=I.hok.fresh (bc s.heap.objs.size);have I1:=I.laid (a:=s.heap.objs.size) (o:=.dK []) (h':=s.heap.push { cls:=.type "dict",data:=.dict #[] }) (t':=s.toks) (fun _ _ q=>ay _ q) (bc _) (GZ s.heap I.big);refine wpAny_Dict_walk (knd:=aO X.prog X.w) hall hl h0 h15 (thn (h pins _ σ _ _ I1 (q _ hn)) fun ws s2 ⟨ps,H2,I2,rel,e,kvs,ep,lk,q2⟩=> ?_);subst ep;obtain⟨rs,c,rk⟩:=rQ (P:=X.prog) (w:=X.w) rel;obtain⟨z,hd,vs0,r0,dd⟩:=MZ I2.hok e;cases r0;refine⟨rs,c,dd,fun h' dd' hs=>⟨.ref s.heap.objs.size,_,?_,rfl,q2⟩⟩;have hz:(mergeK [] kvs).length<=sizeLine:=by
  have h1:=kM kvs [];rw[ke] at h1;rw[bw];omega
 have he:∃ q,h'.get? s.heap.objs.size=we q:=let ⟨q,_,_,hq,_⟩:=dd';⟨q,hq⟩;exact oY I2 (by rw[e];exact hX) hs he (Ia hz hd (rk.merge .nil) dd')
section
variable {X:Cx}{pins:List (af×Obj)}{σ:St}{H:Hp}{s:am}{a:af}{y d:V}{u r:ag}{o:Option V}{A:de}{E:ag->am->Prop}
end
section
variable {X:Cx}{o e f:br}{apos cpos:Pos}{td ty tx:TE}
end
section
variable {X:Cx}{pins:List (af×Obj)}{σ:St}{H:Hp}{s:am}{a:af}{kvs:List (Key×V)}{A:de}{E:ag->am->Prop}
end
section
variable {X:Cx}{pins:List (af×Obj)}{σ:St}{H:Hp}{s:am}{a:af}{y:V}{u:ag}{A:de}{E:ag->am->Prop}
end
end L2
namespace L2
section
variable {κ:Type} [DecidableEq κ]
end
end L2
end
section
namespace L2.MB
inductive D where
 |non|bl (b:Bool)|int (i:Int)|str (x:Str)|lst (ds:List D)|tup (ds:List D)
 /-- an object that is told by its number -/
 |obj (n:Nat)
 /-- a list that is handed in and only read -/
 |scr (ds:List D)
 deriving Inhabited
structure Okk where
 p:af->Prop
 al:Nat->Option af
instance:CoeFun Okk (fun _=>af->Prop):=⟨Okk.p⟩
instance:Coe Okk (af->Prop):=⟨Okk.p⟩
noncomputable def Okk.all:Okk:=⟨fun _=>True,fun _=>wf⟩
noncomputable def RL (K:aa) (ok:Okk) (H:Hp) (a:af) (xs:List V):Prop:=ok a/\H a=we (.lst xs)
noncomputable def RC (K:aa) (ok:Okk) (H:Hp) (a:af) (xs:List V):Prop:=
 (ok a/\Rd H a (.lst xs))∨
  ∃(o:Obj) (its:Array ag) (n:Nat),K.lookup a=we o/\o.cls=.type "list"/\o.dict=wf/\o.data=.seq its n/\its.size<=sizeLine/\Vals xs its.toList
noncomputable def RT (K:aa) (ok:Okk) (H:Hp) (a:af) (xs:List V):Prop:=ok a/\H a=we (.tup xs)
section
variable {K:aa}{ok ok':Okk}{H H':Hp}{a:af}{xs:List V}
theorem RL.sq (h:RL K ok H a xs):SqL K H a xs:=.inl (.inl h.2)
theorem RC.sq (h:RC K ok H a xs):SqL K H a xs:=h.elim (fun z=>.inl z.2) .inr
theorem RT.sq (h:RT K ok H a xs):SqT K H a xs:=.inl (.inl h.2)
theorem Rd.mono (f:∀ b o,ok b->H b=we o->ok' b/\H' b=we o) (k:ok a) (h:Rd H a u):ok' a/\Rd H' a u:=by
 rcases h with h|⟨o,h⟩
 ·exact⟨(f _ _ k h).1,.inl (f _ _ k h).2⟩
 ·exact⟨(f _ _ k h).1,.inr ⟨o,(f _ _ k h).2⟩⟩
theorem RL.mono (f:∀ b o,ok b->H b=we o->ok' b/\H' b=we o) (h:RL K ok H a xs):RL K ok' H' a xs:=f _ _ h.1 h.2
theorem RC.mono (f:∀ b o,ok b->H b=we o->ok' b/\H' b=we o) (h:RC K ok H a xs):RC K ok' H' a xs:=
 h.elim (fun z=>.inl (Rd.mono f z.1 z.2)) .inr
theorem RT.mono (f:∀ b o,ok b->H b=we o->ok' b/\H' b=we o) (h:RT K ok H a xs):RT K ok' H' a xs:=f _ _ h.1 h.2
end
mutual
inductive Rep (K:aa) (ok:Okk) (H:Hp):V->D->Prop
 |non:Rep K ok H .non .non
 |bl (b:Bool):Rep K ok H (.bl b) (.bl b)
 |int (i:Int):Rep K ok H (.int i) (.int i)
 |str (x:Str):Rep K ok H (.str x) (.str x)
 |lst {a:af}{xs:List V}{ds:List D}:RL K ok H a xs->Reps K ok H xs ds->Rep K ok H (.ref a) (.lst ds)
 |tup {a:af}{xs:List V}{ds:List D}:RT K ok H a xs->Reps K ok H xs ds->Rep K ok H (.ref a) (.tup ds)
 |obj {n:Nat}{a:af}:ok.al n=we a->Rep K ok H (.ref a) (.obj n)
 |scr {a:af}{xs:List V}{ds:List D}:RC K ok H a xs->Reps K ok H xs ds->Rep K ok H (.ref a) (.scr ds)
inductive Reps (K:aa) (ok:Okk) (H:Hp):List V->List D->Prop
 |nil:Reps K ok H [] []
 |cons {v:V}{d:D}{vs:List V}{ds:List D}:Rep K ok H v d->Reps K ok H vs ds->Reps K ok H (v::vs) (d::ds)
end
section
variable {K:aa}{ok ok':Okk}{H H':Hp}
mutual
theorem Rep.mono (f:∀ b o,ok b->H b=we o->ok' b/\H' b=we o) (g:∀ n a,ok.al n=we a->ok'.al n=we a:=by exact fun _ _ h=>h):∀ {v:V}{d:D},Rep K ok H v d->Rep K ok' H' v d
 |_,_,.non=>.non
 |_,_,.bl b=>.bl b
 |_,_,.int i=>.int i
 |_,_,.str x=>.str x
 |_,_,.lst h r=>.lst (h.mono f) (Reps.mono f g r)
 |_,_,.tup h r=>.tup (h.mono f) (Reps.mono f g r)
 |_,_,.obj e=>.obj (g _ _ e)
 |_,_,.scr h r=>.scr (h.mono f) (Reps.mono f g r)
theorem Reps.mono (f:∀ b o,ok b->H b=we o->ok' b/\H' b=we o) (g:∀ n a,ok.al n=we a->ok'.al n=we a:=by exact fun _ _ h=>h):∀ {vs:List V}{ds:List D},Reps K ok H vs ds->Reps K ok' H' vs ds
 |_,_,.nil=>.nil
 |_,_,.cons h r=>.cons (Rep.mono f g h) (Reps.mono f g r)
end
theorem Rep.same {v:V}{d:D} (e:Same H H') (h:Rep K ok H v d):Rep K ok H' v d:=h.mono fun b o k q=>⟨k,e b o q⟩
theorem Reps.same {vs:List V}{ds:List D} (e:Same H H') (h:Reps K ok H vs ds):Reps K ok H' vs ds:=h.mono fun b o k q=>⟨k,e b o q⟩
theorem Rep.non_inv (h:Rep K ok H v .non):v=.non:=by cases h;rfl
theorem Rep.bl_inv (h:Rep K ok H v (.bl b)):v=.bl b:=by cases h;rfl
theorem Rep.int_inv (h:Rep K ok H v (.int i)):v=.int i:=by cases h;rfl
theorem Rep.str_inv (h:Rep K ok H v (.str x)):v=.str x:=by cases h;rfl
theorem Rep.lst_inv (h:Rep K ok H v (.lst ds)):∃ a xs,v=.ref a/\RL K ok H a xs/\Reps K ok H xs ds:=by cases h;exact⟨_,_,rfl,‹_›,‹_›⟩
theorem Rep.tup_inv (h:Rep K ok H v (.tup ds)):∃ a xs,v=.ref a/\RT K ok H a xs/\Reps K ok H xs ds:=by cases h;exact⟨_,_,rfl,‹_›,‹_›⟩
theorem Rep.scr_inv (h:Rep K ok H v (.scr ds)):∃ a xs,v=.ref a/\RC K ok H a xs/\Reps K ok H xs ds:=by cases h;exact⟨_,_,rfl,‹_›,‹_›⟩
theorem Rep.obj_inv (h:Rep K ok H v (.obj n)):∃ a,v=.ref a/\ok.al n=we a:=by cases h;exact⟨_,rfl,‹_›⟩
theorem Reps.length:∀ {vs:List V}{ds:List D},Reps K ok H vs ds->vs.length=ds.length
 |_,_,.nil=>rfl
 |_,_,.cons _ r=>by rw[bv,bv,Reps.length r]
theorem Reps.get:∀ {vs:List V}{ds:List D}{i:Nat}{d:D},Reps K ok H vs ds->ds[i]?=we d->∃ v,vs[i]?=we v/\Rep K ok H v d
 |_,_,_,_,.nil,e=>by simp at e
 |_,_,0,_,.cons h _,e=>by
  simp at e;subst e;exact⟨_,rfl,h⟩
 |_,_,i+1,d,.cons _ r,e=>by
  obtain⟨v,h1,h2⟩:=Reps.get (i:=i) (d:=d) r (by simpa using e);exact⟨v,by simpa using h1,h2⟩
theorem Reps.getV:∀ {vs:List V}{ds:List D}{i:Nat}{v:V},Reps K ok H vs ds->vs[i]?=we v->∃ d,ds[i]?=we d/\Rep K ok H v d
 |_,_,_,_,.nil,e=>by simp at e
 |_,_,0,_,.cons h _,e=>by
  simp at e;subst e;exact⟨_,rfl,h⟩
 |_,_,i+1,v,.cons _ r,e=>by
  obtain⟨d,h1,h2⟩:=Reps.getV (i:=i) (v:=v) r (by simpa using e);exact⟨d,by simpa using h1,h2⟩
theorem Reps.append:∀ {vs ws:List V}{ds es:List D},Reps K ok H vs ds->Reps K ok H ws es->Reps K ok H (vs++ws) (ds++es)
 |_,_,_,_,.nil,s=>s
 |_,_,_,_,.cons h r,s=>.cons h (Reps.append r s)
theorem Reps.snoc (h:Reps K ok H vs ds) (q:Rep K ok H v d):Reps K ok H (vs++[v]) (ds++[d]):=h.append (.cons q .nil)
theorem Reps.take:∀ {vs:List V}{ds:List D} (n:Nat),Reps K ok H vs ds->Reps K ok H (vs.take n) (ds.take n)
 |_,_,0,_=>.nil
 |_,_,_+1,.nil=>.nil
 |_,_,n+1,.cons h r=>.cons h (Reps.take n r)
theorem Reps.drop:∀ {vs:List V}{ds:List D} (n:Nat),Reps K ok H vs ds->Reps K ok H (vs.drop n) (ds.drop n)
 |_,_,0,r=>r
 |_,_,_+1,.nil=>.nil
 |_,_,n+1,.cons _ r=>Reps.drop n r
theorem Reps.set (q:Rep K ok H v d):∀ {vs:List V}{ds:List D} (i:Nat),Reps K ok H vs ds->Reps K ok H (vs.set i v) (ds.set i d)
 |_,_,_,.nil=>.nil
 |_,_,0,.cons _ r=>.cons q r
 |_,_,i+1,.cons h r=>.cons h (Reps.set q i r)
theorem Reps.ints:∀(ns:List Int),Reps K ok H (ns.map V.int) (ns.map D.int)
 |[]=>.nil
 |n::ns=>.cons (.int n) (Reps.ints ns)
theorem Reps.of_ints:∀ {ns:List Int}{vs:List V},Reps K ok H vs (ns.map D.int)->vs=ns.map V.int
 |[],_,.nil=>rfl
 |n::ns,_,.cons h r=>by
  cases h;rw[Reps.of_ints r];rfl
theorem Rep.lst_new {p:af}{xs:List V}{ds:List D} (k:ok p) (n:H p=wf) (r:Reps K ok H xs ds):Rep K ok (upd H p (.lst xs)) (.ref p) (.lst ds):=
 .lst ⟨k,aP⟩ (r.mono fun b o q e=>⟨q,by rw[aG (aN e n)];exact e⟩)
theorem Rep.tup_new {p:af}{xs:List V}{ds:List D} (k:ok p) (n:H p=wf) (r:Reps K ok H xs ds):Rep K ok (upd H p (.tup xs)) (.ref p) (.tup ds):=
 .tup ⟨k,aP⟩ (r.mono fun b o q e=>⟨q,by rw[aG (aN e n)];exact e⟩)
end
theorem bW {H:Hp}{p:af}{o:HO} (n:H p=wf):Same H (upd H p o):=fun b u e=>by
 rw[aG (aN e n)];exact e
noncomputable abbrev Rho:=List (Option D)
noncomputable abbrev DF:=Rho->Option D
noncomputable abbrev DB:=Rho->Option Bool
noncomputable abbrev DL:=Rho->Option (List D)
structure OkH (ok:Okk) (H:Hp):Prop where
 fn:∀ b,H b=wf->ok b
 tp:∀ b xs,H b=we (.tup xs)->ok b
instance {ok:Okk}{H:Hp}:CoeFun (OkH ok H) (fun _=>∀ b,H b=wf->ok b):=⟨OkH.fn⟩
theorem OkH.same {ok:Okk}{H H':Hp} (h:OkH ok H) (e:Same H H'):OkH ok H':=⟨fun b n=>h b (e.free n),fun b xs q=>by
 cases z:H b with
 |none=>exact h b z
 |some o=>
  rw[e b o z] at q;cases q;exact h.tp b xs z⟩
noncomputable def EnvR (K:aa) (ok:Okk) (H:Hp) (σ:St) (ρ:Rho):Prop:=∀(i:Nat) (d:D),ρ[i]?=we (we d)->∃ v,σ[i]?=we (we v)/\Rep K ok H v d
theorem EnvR.same {K:aa}{ok:Okk}{H H':Hp}{σ:St}{ρ:Rho} (h:EnvR K ok H σ ρ) (e:Same H H'):EnvR K ok H' σ ρ:=fun i d q=>
 let ⟨v,a,b⟩:=h i d q
 ⟨v,a,b.same e⟩
noncomputable def tD (K:aa) (f:DF):TE:=fun σ H Q=>∃(ok:Okk) (ρ:Rho) (d:D),OkH ok H/\EnvR K ok H σ ρ/\f ρ=we d/\∀ v H',Same H H'->Rep K ok H' v d->Q v H'
noncomputable def tDA (K:aa) (f:DL):TA:=fun σ H Q=>∃(ok:Okk) (ρ:Rho) (ds:List D),OkH ok H/\EnvR K ok H σ ρ/\f ρ=we ds/\∀ vs H',Same H H'->Reps K ok H' vs ds->Q vs H'
noncomputable abbrev DE (X:Cx) (e:br) (f:DF):Prop:=PE X e (tD X.K f)
noncomputable abbrev DA (X:Cx) (es:List br) (f:DL):Prop:=PA X es (tDA X.K f)
theorem _root_.L2.PE.imp {X:Cx}{e:br}{t t':TE} (h:PE X e t) (f:∀ σ H Q,t' σ H Q->t σ H Q):PE X e t':=fun pins s σ H Q I q=>h pins s σ H Q I (f _ _ _ q)
theorem _root_.L2.PT.imp {X:Cx}{e:br}{t t':TT} (h:PT X e t) (f:∀ σ H Q,t' σ H Q->t σ H Q):PT X e t':=fun pins s σ H Q I q=>h pins s σ H Q I (f _ _ _ q)
theorem _root_.L2.PA.imp {X:Cx}{e:List br}{t t':TA} (h:PA X e t) (f:∀ σ H Q,t' σ H Q->t σ H Q):PA X e t':=fun p pins s σ H Q I q=>h p pins s σ H Q I (f _ _ _ q)
theorem _root_.L2.PS.imp {X:Cx}{e:cq}{t t':TS} (h:PS X e t) (f:∀ D σ H,t' D σ H->t D σ H):PS X e t':=fun pins s σ H D I q=>h pins s σ H D I (f _ _ _ q)
theorem _root_.L2.PSs.imp {X:Cx}{e:List cq}{t t':TS} (h:PSs X e t) (f:∀ D σ H,t' D σ H->t D σ H):PSs X e t':=fun pins s σ H D I q=>h pins s σ H D I (f _ _ _ q)
noncomputable def aD (i:Nat):DF:=fun ρ=>ρ[i]?.join
noncomputable def dC (d:D):DF:=fun _=>we d
noncomputable def d1 (g:D->Option D) (f:DF):DF:=fun ρ=>(f ρ).bind g
noncomputable def OP:DL:=fun _=>we []
noncomputable def Ku (f:DF) (r:DL):DL:=fun ρ=>(f ρ).bind fun d=>(r ρ).map fun ds=>d::ds
theorem bind_some {α β:Type}{o:Option α}{f:α->Option β}{b:β} (h:o.bind f=we b):∃ a,o=we a/\f a=we b:=by
 cases o with
 |none=>cases h
 |some a=>exact⟨a,rfl,h⟩
section
variable {X:Cx}{e a b:br}{es:List br}{f fa fb:DF}{fl:DL}{pos:Pos}
theorem Na (h:PE X (.Name x pos) (Pc i)):DE X (.Name x pos) (aD i):=h.imp fun σ H Q ⟨ok,ρ,d,h1,h2,h3,h4⟩=>by
 have e:ρ[i]?=we (we d):=by
  unfold aD at h3;cases q:ρ[i]? with
  |none=>rw[q] at h3;cases h3
  |some o=>rw[q] at h3;cases o with
   |none=>cases h3
   |some d'=>cases h3;rfl
 obtain⟨v,e1,e2⟩:=h2 i d e;exact⟨v,e1,h4 v H (Same.refl H) e2⟩
theorem dv (i:Nat) (hN:X.N[i]?=we x:=by rfl) (hv:Vis X.env.scope x:=by first|exact Or.inl rfl|exact Or.inr (Or.inl rfl)|exact Or.inr (Or.inr rfl)) (hd:(x==("__debug__":Str))=false:=by decide)
  (hcd:(x==("__classdict__":Str))=false:=by decide):DE X (.Name x pos) (aD i):=Na (Lv hN hv hd hcd)
theorem mR (h:PE X e (tC v)) (r:∀ K ok H,Rep K ok H v d):DE X e (dC d):=h.imp fun σ H Q ⟨ok,ρ,d',h1,h2,h3,h4⟩=>by
 cases h3;exact h4 v H (Same.refl H) (r _ _ _)
theorem AH:DE X (.Constant (.int i) j pos) (dC (.int i)):=mR LC fun _ _ _=>.int i
theorem ON {b j pos}:DE X (.Constant (.bool b) j pos) (dC (.bl b)):=mR NY fun _ _ _=>.bl b
theorem Nb:DE X (.Constant .none j pos) (dC .non):=mR LB fun _ _ _=>.non
theorem AG:DE X (.Constant (.str x) j pos) (dC (.str x)):=mR Ly fun _ _ _=>.str x
noncomputable def Fit2 (K:aa) (r:R2) (g:D->D->Option D):Prop:=∀(ok:Okk) (H:Hp) (x y:V) (a b d:D) (Q:VK),OkH ok H->Rep K ok H x a->Rep K ok H y b->g a b=we d->(∀ v H',Same H H'->Rep K ok H' v d->Q v H')->r x y H Q
noncomputable def Qp (K:aa) (r:V->Hp->VK->Prop) (g:D->Option D):Prop:=∀(ok:Okk) (H:Hp) (x:V) (a d:D) (Q:VK),OkH ok H->Rep K ok H x a->g a=we d->(∀ v H',Same H H'->Rep K ok H' v d->Q v H')->r x H Q
noncomputable def FitL (K:aa) (r:List V->Hp->VK->Prop) (g:List D->Option D):Prop:=∀(ok:Okk) (H:Hp) (xs:List V) (as:List D) (d:D) (Q:VK),OkH ok H->Reps K ok H xs as->g as=we d->(∀ v H',Same H H'->Rep K ok H' v d->Q v H')->r xs H Q
noncomputable def toB:D->Option Bool
 |.bl b=>we b
 |_=>wf
theorem mY (h:toB d=we k):d=.bl k:=by
 cases d with
 |bl b=>cases h;rfl
 |_=>cases h
theorem OM (ho:UnR X (unaryOp op) r) (F:Qp X.K r g) (ha:DE X a fa):DE X (.UnaryOp op a pos) (d1 g fa):=
 (NV ho ha).imp fun σ H Q ⟨ok,ρ,d,h1,h2,h3,h4⟩=>by
  obtain⟨x,e1,h3⟩:=bind_some h3;exact⟨ok,ρ,x,h1,h2,e1,fun v H1 s1 r1=>F ok H1 v x d Q (h1.same s1) r1 h3 fun w H3 s3 r3=>h4 w H3 (s1.trans s3) r3⟩
theorem Nc:DA X [] OP:=(PA.imp Ag) fun σ H Q ⟨ok,ρ,d,h1,h2,h3,h4⟩=>by
 cases h3;exact h4 [] H (Same.refl H) .nil
theorem Kr (ha:DE X e f) (hr:DA X es fl) (hs:av (e::es) X.env=(false,eval e X.env)::av es X.env:=by rfl):DA X (e::es) (Ku f fl):=
 (nK ha hr hs).imp fun σ H Q ⟨ok,ρ,ds,h1,h2,h3,h4⟩=>by
  obtain⟨x,e1,h3⟩:=bind_some h3;cases e2:fl ρ with
  |none=>rw[e2] at h3;cases h3
  |some r=>
   rw[e2] at h3;cases h3;exact⟨ok,ρ,x,h1,h2,e1,fun v H1 s1 r1=>⟨ok,ρ,r,h1.same s1,h2.same s1,e2,fun vs H2 s2 r2=>h4 (v::vs) H2 (s1.trans s2) (.cons (r1.same s2) r2)⟩⟩
noncomputable def fT (ds:List D):Option D:=if ds.length<=sizeLine then we (.tup ds) else wf
noncomputable def eR (ds:List D):Option D:=if ds.length<=sizeLine then we (.lst ds) else wf
theorem bI {α:Type}{c:Prop} [Decidable c] {a b:α} (h:(if c then we a else wf)=we b):c/\a=b:=by
 by_cases hc:c
 ·rw[if_pos hc] at h;exact⟨hc,b9 h⟩
 ·rw[if_neg hc] at h;cases h
end
end L2.MB
end
section
namespace L2.MB
noncomputable def gI (g:Int->Int->Option D) (a b:D):Option D:=match a,b with
 |.int i,.int j=>g i j
 |_,_=>wf
theorem HW (h:gI g a b=we d):∃ i j,a=.int i/\b=.int j/\g i j=we d:=by
 unfold gI at h;split at h
 ·exact⟨_,_,rfl,rfl,h⟩
 ·cases h
noncomputable abbrev sZ:=gI fun i j=>we (.int (i+j))
noncomputable abbrev gSub:=gI fun i j=>we (.int (i-j))
noncomputable abbrev gT:=gI fun i j=>if(-1000000000000000000<i/\i<1000000000000000000)∨(-1000000000000000000<j/\j<1000000000000000000) then we (.int (i*j)) else wf
noncomputable abbrev cR:=gI fun i j=>if 0<j then we (.int (i % j)) else wf
noncomputable abbrev gLt:=gI fun i j=>we (.bl (decide (i<j)))
noncomputable abbrev gLe:=gI fun i j=>we (.bl (decide (i<=j)))
noncomputable abbrev gGt:=gI fun i j=>we (.bl (decide (j<i)))
noncomputable abbrev gGe:=gI fun i j=>we (.bl (decide (j<=i)))
theorem jH {K:aa}{g':Int->Int->D} (r:∀ i j ok H,Rep K ok H (g i j) (g' i j)):Fit2 K (rI0 g) (gI fun i j=>we (g' i j)):=fun ok H x y a b d Q h1 ra rb e k=>by
 obtain⟨i,j,rfl,rfl,e⟩:=HW e;cases e;exact⟨i,j,ra.int_inv,rb.int_inv,k _ H (Same.refl H) (r i j ok H)⟩
theorem MU {K:aa}{C C':Int->Int->Prop} [∀ i j,Decidable (C' i j)] {g:Int->Int->V}{g':Int->Int->D} (hC:∀ i j,C' i j->C i j) (r:∀ i j ok H,Rep K ok H (g i j) (g' i j)):
  Fit2 K (rI C g) (gI fun i j=>if C' i j then we (g' i j) else wf):=fun ok H x y a b d Q h1 ra rb e k=>by
 obtain⟨i,j,rfl,rfl,e⟩:=HW e;obtain⟨hc,rfl⟩:=bI e;exact⟨i,j,ra.int_inv,rb.int_inv,hC i j hc,k _ H (Same.refl H) (r i j ok H)⟩
section
variable {X:Cx}{e a b c:br}{es:List br}{f fa fb fc:DF}{fl:DL}{pos:Pos}
noncomputable def OB (a:D):Option D:=match a with
 |.int i=>we (.int (-i))
 |_=>wf
theorem Ib (ha:DE X a fa):DE X (.UnaryOp .USub a pos) (d1 OB fa):=OM KQ (fun ok H x a d Q h1 r e k=>by
 cases a with
 |int i=>cases e;exact⟨i,r.int_inv,k _ H (Same.refl H) (.int _)⟩
 |_=>cases e) ha
noncomputable def Pb:D->Option Bool
 |.non=>we false
 |.bl b=>we b
 |.int i=>we (i !=0)
 |.str x=>if x.length<=sizeLine then we ((x.length:Int) !=0) else wf
 |.lst ds=>we (!ds.isEmpty)
 |.tup ds=>we (!ds.isEmpty)
 |.obj _=>wf
 |.scr ds=>we (!ds.isEmpty)
theorem Reps.isEmpty {K:aa} (h:Reps K ok H vs ds):vs.isEmpty=ds.isEmpty:=by cases h <;> rfl
theorem Ii {K:aa} (h:Rep K ok H v d) (e:Pb d=we k):OR K v H k:=by
 cases h with
 |non=>cases e;exact rfl
 |bl b=>cases e;exact rfl
 |int i=>cases e;exact rfl
 |str x=>
  obtain⟨hz,rfl⟩:=bI e;exact⟨hz,rfl⟩
 |lst h r=>
  cases e;exact .inl ⟨_,h.sq,by rw[r.isEmpty]⟩
 |tup h r=>
  cases e;exact .inr (.inl ⟨_,h.sq,by rw[r.isEmpty]⟩)
 |obj _=>cases e
 |scr h r=>
  cases e;exact .inl ⟨_,h.sq,by rw[r.isEmpty]⟩
theorem _root_.L2.PW.imp {X:Cx}{e:br}{t t':TT} (h:PW X e t) (f:∀ σ H Q,t' σ H Q->t σ H Q):PW X e t':=fun wh pins s σ H Q I q=>h wh pins s σ H Q I (f _ _ _ q)
variable {ba bb:DB}{rest:List br}
noncomputable def Qe (a:D):Option D:=(toB a).map fun k=>.bl (!k)
noncomputable def Kf (a b:D):Option D:=match a,b with
 |.str x,.str y=>if x.length+y.length<=sizeLine then we (.str (x++y)) else wf
 |_,_=>wf
noncomputable def gIx (a b:D):Option D:=match a,b with
 |.lst ds,.int i=>atI ds i
 |.scr ds,.int i=>atI ds i
 |.tup ds,.int i=>atI ds i
 |.str x,.int i=>if x.length<=sizeLine then(atI x.cps.toList i).map fun c=>.str ⟨#[c]⟩ else wf
 |_,_=>wf
theorem Reps.atI {K:aa} (h:Reps K ok H vs ds) (e:L2.atI ds i=we d):∃ v,L2.atI vs i=we v/\Rep K ok H v d:=by
 unfold L2.atI at e ⊢;rw[h.length];cases q:ixN ds.length i with
 |none=>rw[q] at e;cases e
 |some j=>
  rw[q] at e;exact h.get e
noncomputable def AI (ds:List D) (lo hi:Option Int):List D:=(ds.drop (HT.sIx ds.length 0 lo)).take (HT.sIx ds.length ds.length hi-HT.sIx ds.length 0 lo)
theorem Reps.cut {K:aa} (h:Reps K ok H vs ds) (lo hi:Option Int):Reps K ok H (Ic vs lo hi) (AI ds lo hi):=by
 unfold Ic AI;rw[h.length];exact(h.drop _).take _
noncomputable abbrev DO:=Rho->Option (Option Int)
noncomputable def tDO (K:aa) (f:DO):TO:=fun σ H Q=>∃(ok:Okk) (ρ:Rho) (o:Option Int),OkH ok H/\EnvR K ok H σ ρ/\f ρ=we o/\∀ H',Same H H'->Q o H'
theorem _root_.L2.PO.imp {X:Cx}{e:Option br}{t t':TO} (h:PO X e t) (f:∀ σ H Q,t' σ H Q->t σ H Q):PO X e t':=fun pins s σ H Q I q=>h pins s σ H Q I (f _ _ _ q)
noncomputable abbrev DOp (X:Cx) (e:Option br) (f:DO):Prop:=PO X e (tDO X.K f)
noncomputable def dNo:DO:=fun _=>we wf
noncomputable def toI:D->Option Int
 |.int i=>we i
 |_=>wf
theorem wW (h:toI d=we i):d=.int i:=by
 cases d with
 |int b=>cases h;rfl
 |_=>cases h
noncomputable def dSo (f:DF):DO:=fun ρ=>(f ρ).bind fun d=>(toI d).map we
theorem Kq:DOp X wf dNo:=PO.imp IG fun σ H Q ⟨ok,ρ,o,h1,h2,h3,h4⟩=>by
 cases h3;exact h4 H (Same.refl H)
theorem Kp (h:DE X e f):DOp X (we e) (dSo f):=PO.imp (CK h) fun σ H Q ⟨ok,ρ,o,h1,h2,h3,h4⟩=>by
 obtain⟨d,e1,e2⟩:=bind_some h3;cases e3:toI d with
 |none=>rw[e3] at e2;cases e2
 |some i=>
  rw[e3] at e2;cases e2;obtain rfl:=wW e3;exact⟨ok,ρ,_,h1,h2,e1,fun v H1 s1 r1=>⟨i,r1.int_inv,h4 H1 s1⟩⟩
noncomputable def gSl (a:D) (lo hi:Option Int):Option D:=match a with
 |.lst ds=>we (.lst (AI ds lo hi))
 |.scr ds=>we (.lst (AI ds lo hi))
 |.tup ds=>if HT.sIx ds.length 0 lo=0/\HT.sIx ds.length ds.length hi=ds.length then wf else we (.tup (AI ds lo hi))
 |_=>wf
noncomputable def OC (ds:List D):Option D:=match ds with
 |[.lst xs]=>we (.int xs.length)
 |[.scr xs]=>we (.int xs.length)
 |[.tup xs]=>we (.int xs.length)
 |[.str x]=>if x.length<=sizeLine then we (.int x.length) else wf
 |_=>wf
theorem Reps.one_inv {K:aa} (h:Reps K ok H vs [d]):∃ v,vs=[v]/\Rep K ok H v d:=by
 cases h with
 |cons a r=>cases r;exact⟨_,rfl,a⟩
theorem Reps.two_inv {K:aa} (h:Reps K ok H vs [d,d']):∃ v v',vs=[v,v']/\Rep K ok H v d/\Rep K ok H v' d':=by
 cases h with
 |cons a r=>
  obtain⟨v',rfl,b⟩:=r.one_inv;exact⟨_,_,rfl,a,b⟩
theorem Ki {K:aa}:FitL K (fun xs H Q=>∃ x n,xs=[x]/\Pa K x H n/\Q (.int n) H) OC:=fun ok H xs as d Q h1 r e k=>by
 unfold OC at e;split at e
 ·cases e;obtain⟨v,rfl,r1⟩:=r.one_inv;obtain⟨p,ys,rfl,g,r2⟩:=r1.lst_inv;exact⟨_,_,rfl,.inl ⟨_,g.sq,r2.length.symm⟩,k _ H (Same.refl H) (.int _)⟩
 ·cases e;obtain⟨v,rfl,r1⟩:=r.one_inv;obtain⟨p,ys,rfl,g,r2⟩:=r1.scr_inv;exact⟨_,_,rfl,.inl ⟨_,g.sq,r2.length.symm⟩,k _ H (Same.refl H) (.int _)⟩
 ·cases e;obtain⟨v,rfl,r1⟩:=r.one_inv;obtain⟨p,ys,rfl,g,r2⟩:=r1.tup_inv;exact⟨_,_,rfl,.inr ⟨_,g.sq,r2.length.symm⟩,k _ H (Same.refl H) (.int _)⟩
 ·obtain⟨hz,rfl⟩:=bI e;obtain⟨v,rfl,r1⟩:=r.one_inv;obtain rfl:=r1.str_inv;exact⟨_,_,rfl,⟨hz,rfl⟩,k _ H (Same.refl H) (.int _)⟩
 ·cases e
end
noncomputable def jJ (f:D->D->Option Bool):List D->List D->Option Bool
 |[],_=>we true
 |_::_,[]=>we true
 |x::xs,y::ys=>(f x y).bind fun b=>(jJ f xs ys).map fun c=>b&&c
noncomputable def eqS:D->D->Bool
 |.non,.non=>true
 |.bl a,.bl b=>a==b
 |.bl a,.int b=>(if a then 1 else 0)==b
 |.int a,.bl b=>a==(if b then 1 else 0)
 |.int a,.int b=>a==b
 |.str a,.str b=>a==b
 |_,_=>false
noncomputable def eqD:Nat->D->D->Option Bool
 |n+1,.lst xs,.lst ys=>if xs.length=ys.length then jJ (eqD n) xs ys else we false
 |n+1,.tup xs,.tup ys=>(jJ (eqD n) xs ys).map fun k=>k&&xs.length==ys.length
 |0,.lst _,.lst _=>wf
 |0,.tup _,.tup _=>wf
 |_,.obj _,_=>wf
 |_,_,.obj _=>wf
 |_,.scr _,_=>wf
 |_,_,.scr _=>wf
 |_,a,b=>we (eqS a b)
noncomputable def eAt (f:D->D->Option Bool) (xs ys:List D) (j:Nat):Bool:=match xs[j]?,ys[j]? with
 |some x,we y=>(f x y).getD false
 |_,_=>false
theorem gO:∀ {xs ys:List D}{k:Bool}{j:Nat}{x y:D},jJ f xs ys=we k->xs[j]?=we x->ys[j]?=we y->f x y=we (eAt f xs ys j)
 |[],_,_,_,_,_,_,h,_=>by simp at h
 |_::_,[],_,_,_,_,_,_,h=>by simp at h
 |x'::xs,y'::ys,k,j,x,y,h,h1,h2=>by
  obtain⟨b,e1,e2⟩:=bind_some h;cases q:jJ f xs ys with
  |none=>rw[q] at e2;cases e2
  |some c=>
   cases j with
   |zero=>
    simp at h1 h2;subst h1 h2;simp[eAt,e1]
   |succ j=>
    simp at h1 h2
    have:=gO q h1 h2
    simpa [eAt] using this
theorem kX:∀ {xs ys:List D}{k:Bool},jJ f xs ys=we k->k=(bu (min xs.length ys.length)).all (eAt f xs ys)
 |[],ys,k,h=>by
  cases h;simp
 |_::_,[],k,h=>by
  cases h;simp
 |x::xs,y::ys,k,h=>by
  obtain⟨b,e1,e2⟩:=bind_some h;cases q:jJ f xs ys with
  |none=>rw[q] at e2;cases e2
  |some c=>
   rw[q] at e2;cases e2;have ih:=kX q;have em:min (x::xs).length (y::ys).length=min xs.length ys.length+1:=by
    rw[bv,bv];omega
   rw[em,rm,List.all_cons,List.all_map];have e0:eAt f (x::xs) (y::ys) 0=b:=by simp[eAt,e1]
   have e3:(eAt f (x::xs) (y::ys)∘Nat.succ)=eAt f xs ys:=by
    funext j
    simp[eAt]
   rw[e0,e3,ih]
theorem dA (n m:Nat) (b:D):eqD n (.obj m) b=wf:=by cases n <;> cases b <;> rfl
theorem bP (n m:Nat) (a:D):eqD n a (.obj m)=wf:=by cases n <;> cases a <;> rfl
theorem cZ (n:Nat) (m:List D) (b:D):eqD n (.scr m) b=wf:=by cases n <;> cases b <;> rfl
theorem bO (n:Nat) (m:List D) (a:D):eqD n a (.scr m)=wf:=by cases n <;> cases a <;> rfl
section
variable {X:Cx}{pins:List (af×Obj)}{σ:St}{H:Hp}{s:am}{ok ok':Okk}
theorem dE {A:de} (h:A.units+(n+1)<dq):A.in1.units+n<dq:=by
 show A.units+1+n<dq;omega
theorem iD (I:Inv X pins σ H s) (h:RL X.K ok H a xs) (g:RT X.K ok' H a ys):False:=by
 obtain⟨_,_,⟨o,n,e,c,_,_⟩,_⟩:=I.list h.sq;obtain⟨_,_,⟨o',e',c',_⟩,_⟩:=I.tuple g.sq;rw[e] at e';cases e';rw[c] at c';exact absurd c' (by decide)
theorem pH (ih:∀ {v:V}{a b:D}{k:Bool},Rep X.K ok H v a->Rep X.K ok' H v b->eqD n a b=we k->k=true):∀ {vs:List V}{ds es:List D}{k:Bool},Reps X.K ok H vs ds->Reps X.K ok' H vs es->jJ (eqD n) ds es=we k->k=true
 |_,_,_,_,.nil,.nil,h=>by cases h;rfl
 |_,_,_,_,.cons r rs,.cons q qs,h=>by
  obtain⟨b,e1,e2⟩:=bind_some h;cases z:jJ (eqD n) _ _ with
  |none=>rw[z] at e2;cases e2
  |some c=>
   rw[z] at e2;cases e2;rw[ih r q e1,pH ih rs qs z];rfl
theorem GO (I:Inv X pins σ H s):∀(n:Nat) {v:V}{a b:D}{k:Bool},Rep X.K ok H v a->Rep X.K ok' H v b->eqD n a b=we k->k=true:=by
 intro n
 induction n with
 |zero=>
  intro v a b k ra rb e;cases ra with
  |lst g r=>cases rb with
   |lst g' r'=>cases e
   |tup g' r'=>exact(iD I g g').elim
   |obj _=>rw[bP] at e;cases e
   |scr _ _=>rw[bO] at e;cases e
  |tup g r=>cases rb with
   |tup g' r'=>cases e
   |lst g' r'=>exact(iD I g' g).elim
   |obj _=>rw[bP] at e;cases e
   |scr _ _=>rw[bO] at e;cases e
  |obj _=>rw[dA] at e;cases e
  |scr _ _=>rw[cZ] at e;cases e
  |_=>cases rb;cases e;simp[eqS]
 |succ n ih=>
  intro v a b k ra rb e;cases ra with
  |@lst p xs ds g r=>cases rb with
   |@lst _ xs' ds' g' r'=>
    obtain rfl:=I.list_inj g.sq g'.sq;have e':(if ds.length=ds'.length then jJ (eqD n) ds ds' else we false)=we k:=e;rw[if_pos (by rw[<- r.length,<- r'.length])] at e';exact pH ih r r' e'
   |tup g' r'=>exact(iD I g g').elim
   |obj _=>rw[bP] at e;cases e
   |scr _ _=>rw[bO] at e;cases e
  |@tup p xs ds g r=>cases rb with
   |@tup _ xs' ds' g' r'=>
    obtain rfl:=I.tuple_inj g.sq g'.sq;have e':((jJ (eqD n) ds ds').map fun k=>k&&ds.length==ds'.length)=we k:=e;have hl:ds.length=ds'.length:=by rw[<- r.length,<- r'.length]
    cases q:jJ (eqD n) ds ds' with
    |none=>rw[q] at e';cases e'
    |some c=>
     rw[q] at e';cases e';rw[pH ih r r' q,hl];simp
   |lst g' r'=>exact(iD I g' g).elim
   |obj _=>rw[bP] at e;cases e
   |scr _ _=>rw[bO] at e;cases e
  |obj _=>rw[dA] at e;cases e
  |scr _ _=>rw[cZ] at e;cases e
  |_=>cases rb;cases e;simp[eqS]
theorem pJ (ih:∀ {v:V}{a b c:D}{k k':Bool},Rep X.K ok H v a->Rep X.K ok' H v b->eqD n a c=we k->eqD n b c=we k'->k=k'):∀ {vs:List V}{ds es as:List D}{k k':Bool},Reps X.K ok H vs ds->Reps X.K ok' H vs es->jJ (eqD n) ds as=we k->jJ (eqD n) es as=we k'->k=k'
 |_,_,_,_,_,_,.nil,.nil,h,h'=>by cases h;cases h';rfl
 |_,_,_,[],_,_,.cons r rs,.cons q qs,h,h'=>by cases h;cases h';rfl
 |_,_,_,a::as,_,_,.cons r rs,.cons q qs,h,h'=>by
  obtain⟨b,e1,e2⟩:=bind_some h;obtain⟨b',e1',e2'⟩:=bind_some h';cases z:jJ (eqD n) _ as with
  |none=>rw[z] at e2;cases e2
  |some c=>
   rw[z] at e2;cases e2;cases z':jJ (eqD n) _ as with
   |none=>rw[z'] at e2';cases e2'
   |some c'=>
    rw[z'] at e2';cases e2';rw[ih r q e1 e1',pJ ih rs qs z z']
theorem GQ (I:Inv X pins σ H s):∀(n:Nat) {v:V}{a b c:D}{k k':Bool},Rep X.K ok H v a->Rep X.K ok' H v b->eqD n a c=we k->eqD n b c=we k'->k=k':=by
 intro n
 induction n with
 |zero=>
  intro v a b c k k' ra rb e e';cases ra with
  |lst g r=>cases rb with
   |lst g' r'=>cases c <;> first|(cases e;done)|(cases e;cases e';rfl)
   |tup g' r'=>exact(iD I g g').elim
   |obj _=>rw[dA] at e';cases e'
   |scr _ _=>rw[cZ] at e';cases e'
  |tup g r=>cases rb with
   |tup g' r'=>cases c <;> first|(cases e;done)|(cases e;cases e';rfl)
   |lst g' r'=>exact(iD I g' g).elim
   |obj _=>rw[dA] at e';cases e'
   |scr _ _=>rw[cZ] at e';cases e'
  |obj _=>rw[dA] at e;cases e
  |scr _ _=>rw[cZ] at e;cases e
  |_=>cases rb;rw[e] at e';cases e';rfl
 |succ n ih=>
  intro v a b c k k' ra rb e e';cases ra with
  |@lst p xs ds g r=>cases rb with
   |@lst _ xs' ds' g' r'=>
    obtain rfl:=I.list_inj g.sq g'.sq;have hl:ds.length=ds'.length:=by rw[<- r.length,<- r'.length]
    cases c with
    |lst cs=>
     have e1:(if ds.length=cs.length then jJ (eqD n) ds cs else we false)=we k:=e;have e2:(if ds'.length=cs.length then jJ (eqD n) ds' cs else we false)=we k':=e';rw[<- hl] at e2
     by_cases z:ds.length=cs.length
     ·rw[if_pos z] at e1 e2;exact pJ ih r r' e1 e2
     ·rw[if_neg z] at e1 e2;cases e1;cases e2;rfl
    |_=>first|(cases e;done)|(cases e;cases e';rfl)
   |tup g' r'=>exact(iD I g g').elim
   |obj _=>rw[dA] at e';cases e'
   |scr _ _=>rw[cZ] at e';cases e'
  |@tup p xs ds g r=>cases rb with
   |@tup _ xs' ds' g' r'=>
    obtain rfl:=I.tuple_inj g.sq g'.sq;have hl:ds.length=ds'.length:=by rw[<- r.length,<- r'.length]
    cases c with
    |tup cs=>
     have e1:((jJ (eqD n) ds cs).map fun k=>k&&ds.length==cs.length)=we k:=e;have e2:((jJ (eqD n) ds' cs).map fun k=>k&&ds'.length==cs.length)=we k':=e';rw[<- hl] at e2;cases q:jJ (eqD n) ds cs with
     |none=>rw[q] at e1;cases e1
     |some x=>
      cases q':jJ (eqD n) ds' cs with
      |none=>rw[q'] at e2;cases e2
      |some x'=>
       rw[q] at e1;rw[q'] at e2;cases e1;cases e2;rw[pJ ih r r' q q']
    |_=>first|(cases e;done)|(cases e;cases e';rfl)
   |lst g' r'=>exact(iD I g' g).elim
   |obj _=>rw[dA] at e';cases e'
   |scr _ _=>rw[cZ] at e';cases e'
  |obj _=>rw[dA] at e;cases e
  |scr _ _=>rw[cZ] at e;cases e
  |_=>cases rb;rw[e] at e';cases e';rfl
theorem yF (I:Inv X pins σ H s) (n:Nat) (ra:Rep X.K ok H x a) (rb:Rep X.K ok' H y b) (rv:RelV x v) (ru:RelV y u) (e:eqD n a b=we k) (hrc:vg A s v u k):vb A s v u k:=by
 by_cases hs:v=u
 ·subst hs;obtain rfl:=rv.inj ru;rw[GO I n ra rb e];exact SeqAt.EqAt.same v
 ·intro prog w E Q hq;unfold eqBool;refine im ?_;refine wpAny_ite_split (fun hab=>absurd (eq_of_beq hab) hs) (fun _=> ?_);cases ra with
  |non=>cases rv;exact ae (hrc prog w E _ (dh hq))
  |bl b=>cases rv;exact ae (hrc prog w E _ (dh hq))
  |int i=>obtain⟨t,rfl⟩:=rv;exact ae (hrc prog w E _ (dh hq))
  |str z=>obtain⟨t,rfl⟩:=rv;exact ae (hrc prog w E _ (dh hq))
  |lst _ _=>cases rv;exact ae (hrc prog w E _ (dh hq))
  |tup _ _=>cases rv;exact ae (hrc prog w E _ (dh hq))
  |obj _=>rw[dA] at e;cases e
  |scr _ _=>rw[cZ] at e;cases e
theorem HB (I:Inv X pins σ H s) (n:Nat):∀ {A:de}{a b:D}{x y:V}{v u:ag}{k:Bool},Rep X.K ok H x a->Rep X.K ok' H y b->RelV x v->RelV y u->eqD n a b=we k->A.units+n<dq->vg A s v u k:=by
 induction n using Nat.strongRecOn with
 |_ n ih=>
  intro A a b x y v u k ra rb rv ru e hu;have hu0:A.units<dq:=by omega
  cases ra with
  |non=>
   cases rv;cases rb with
   |non=>cases ru;cases n <;> cases e <;> exact SeqAt.RcAt.none_none
   |obj _=>rw[bP] at e;cases e
   |scr _ _=>rw[bO] at e;cases e
   |bl b=>cases ru;cases n <;> cases e <;> exact SeqAt.RcAt.none_bool b
   |int b=>obtain⟨t,rfl⟩:=ru;cases n <;> cases e <;> exact SeqAt.RcAt.none_int b t
   |str b=>obtain⟨t,rfl⟩:=ru;cases n <;> cases e <;> exact SeqAt.RcAt.none_str b t
   |lst g r=>cases ru;obtain⟨its,_,pl,_⟩:=I.list g.sq;cases n <;> cases e <;> exact SeqAt.RcAt.none_list pl.isList hu0
   |tup g r=>cases ru;obtain⟨its,_,pl,_⟩:=I.tuple g.sq;cases n <;> cases e <;> exact SeqAt.RcAt.none_tuple pl hu0
  |bl a=>
   cases rv;cases rb with
   |non=>cases ru;cases n <;> cases e <;> exact SeqAt.RcAt.bool_none a
   |obj _=>rw[bP] at e;cases e
   |scr _ _=>rw[bO] at e;cases e
   |bl b=>cases ru;cases n <;> cases e <;> exact SeqAt.RcAt.bool_bool a b
   |int b=>obtain⟨t,rfl⟩:=ru;cases n <;> cases e <;> exact SeqAt.RcAt.bool_int a b t
   |str b=>obtain⟨t,rfl⟩:=ru;cases n <;> cases e <;> exact SeqAt.RcAt.bool_str a b t
   |lst g r=>cases ru;obtain⟨its,_,pl,_⟩:=I.list g.sq;cases n <;> cases e <;> exact SeqAt.RcAt.bool_list a pl.isList hu0
   |tup g r=>cases ru;obtain⟨its,_,pl,_⟩:=I.tuple g.sq;cases n <;> cases e <;> exact SeqAt.RcAt.bool_tuple a pl hu0
  |int a=>
   obtain⟨t',rfl⟩:=rv;cases rb with
   |non=>cases ru;cases n <;> cases e <;> exact SeqAt.RcAt.int_none a t'
   |obj _=>rw[bP] at e;cases e
   |scr _ _=>rw[bO] at e;cases e
   |bl b=>cases ru;cases n <;> cases e <;> exact SeqAt.RcAt.int_bool a t' b
   |int b=>obtain⟨t,rfl⟩:=ru;cases n <;> cases e <;> exact SeqAt.RcAt.int_int a t' b t
   |str b=>obtain⟨t,rfl⟩:=ru;cases n <;> cases e <;> exact SeqAt.RcAt.int_str a t' b t
   |lst g r=>cases ru;obtain⟨its,_,pl,_⟩:=I.list g.sq;cases n <;> cases e <;> exact SeqAt.RcAt.int_list a t' pl.isList hu0
   |tup g r=>cases ru;obtain⟨its,_,pl,_⟩:=I.tuple g.sq;cases n <;> cases e <;> exact SeqAt.RcAt.int_tuple a t' pl hu0
  |str a=>
   obtain⟨t',rfl⟩:=rv;cases rb with
   |non=>cases ru;cases n <;> cases e <;> exact SeqAt.RcAt.str_none a t'
   |obj _=>rw[bP] at e;cases e
   |scr _ _=>rw[bO] at e;cases e
   |bl b=>cases ru;cases n <;> cases e <;> exact SeqAt.RcAt.str_bool a t' b
   |int b=>obtain⟨t,rfl⟩:=ru;cases n <;> cases e <;> exact SeqAt.RcAt.str_int a t' b t
   |str b=>obtain⟨t,rfl⟩:=ru;cases n <;> cases e <;> exact SeqAt.RcAt.str_str a t' b t
   |lst g r=>cases ru;obtain⟨its,_,pl,_⟩:=I.list g.sq;cases n <;> cases e <;> exact SeqAt.RcAt.str_list a t' pl.isList hu0
   |tup g r=>cases ru;obtain⟨its,_,pl,_⟩:=I.tuple g.sq;cases n <;> cases e <;> exact SeqAt.RcAt.str_tuple a t' pl hu0
  |obj _=>rw[dA] at e;cases e
  |scr _ _=>rw[cZ] at e;cases e
  |@lst p xs ds g r=>
   cases rv;obtain⟨its,rr,pl,_⟩:=I.list g.sq;cases rb with
   |non=>cases ru;cases n <;> cases e <;> exact SeqAt.RcAt.list_none pl.isList hu0
   |obj _=>rw[bP] at e;cases e
   |scr _ _=>rw[bO] at e;cases e
   |bl b=>cases ru;cases n <;> cases e <;> exact SeqAt.RcAt.list_bool b pl.isList hu0
   |int b=>obtain⟨t,rfl⟩:=ru;cases n <;> cases e <;> exact SeqAt.RcAt.list_int b t pl.isList hu0
   |str b=>obtain⟨t,rfl⟩:=ru;cases n <;> cases e <;> exact SeqAt.RcAt.list_str b t pl.isList hu0
   |tup g' r'=>cases ru;obtain⟨its',_,pl',_⟩:=I.tuple g'.sq;cases n <;> cases e <;> exact SeqAt.RcAt.list_tuple pl.isList pl' hu0
   |@lst p' xs' ds' g' r'=>
    cases ru;obtain⟨its',rr',pl',_⟩:=I.list g'.sq;have l1:its.toArray.size=ds.length:=by rw[az,<- rr.length,r.length]
    have l2:its'.toArray.size=ds'.length:=by rw[az,<- rr'.length,r'.length]
    cases n with
    |zero=>cases e
    |succ n=>
     have e':(if ds.length=ds'.length then jJ (eqD n) ds ds' else we false)=we k:=e
     by_cases hl:ds.length=ds'.length
     ·rw[if_pos hl] at e';have hk:k=(bu its.toArray.size).all (eAt (eqD n) ds ds'):=by
       rw[kX e',l1,<- hl,iu]
      rw[hk];refine SeqAt.RcAt.lists pl.isList pl'.isList (by rw[l1,l2,hl]) hu0 fun j h1 h2=> ?_;obtain⟨d,hd,rd⟩:=r.getV (i:=j) (v:=xs[j]'(by rw[r.length,<- l1];exact h1)) (by simp);obtain⟨d',hd',rd'⟩:=r'.getV (i:=j) (v:=xs'[j]'(by rw[r'.length,<- l2];exact h2)) (by simp);obtain⟨w,hw,rw1⟩:=rr.get (i:=j) (x:=xs[j]'(by rw[r.length,<- l1];exact h1)) (by simp);obtain⟨w',hw',rw2⟩:=rr'.get (i:=j) (x:=xs'[j]'(by rw[r'.length,<- l2];exact h2)) (by simp);have ew:its.toArray[j]=w:=by
       obtain⟨_,q⟩:=bh.mp hw;simpa using q
      have ew':its'.toArray[j]=w':=by
       obtain⟨_,q⟩:=bh.mp hw';simpa using q
      rw[ew,ew'];exact yF I n rd rd' rw1 rw2 (gO e' hd hd') (ih n (m9 n) rd rd' rw1 rw2 (gO e' hd hd') (dE hu))
     ·rw[if_neg hl] at e';cases e';exact SeqAt.RcAt.lists_lengths pl.isList pl'.isList (by rw[l1,l2];simpa using hl) hu0
  |@tup p xs ds g r=>
   cases rv;obtain⟨its,rr,pl,_⟩:=I.tuple g.sq;cases rb with
   |non=>cases ru;cases n <;> cases e <;> exact SeqAt.RcAt.tuple_none pl hu0
   |obj _=>rw[bP] at e;cases e
   |scr _ _=>rw[bO] at e;cases e
   |bl b=>cases ru;cases n <;> cases e <;> exact SeqAt.RcAt.tuple_bool b pl hu0
   |int b=>obtain⟨t,rfl⟩:=ru;cases n <;> cases e <;> exact SeqAt.RcAt.tuple_int b t pl hu0
   |str b=>obtain⟨t,rfl⟩:=ru;cases n <;> cases e <;> exact SeqAt.RcAt.tuple_str b t pl hu0
   |lst g' r'=>cases ru;obtain⟨its',_,pl',_⟩:=I.list g'.sq;cases n <;> cases e <;> exact SeqAt.RcAt.tuple_list pl pl'.isList hu0
   |@tup p' xs' ds' g' r'=>
    cases ru;obtain⟨its',rr',pl',_⟩:=I.tuple g'.sq;have l1:its.toArray.size=ds.length:=by rw[az,<- rr.length,r.length]
    have l2:its'.toArray.size=ds'.length:=by rw[az,<- rr'.length,r'.length]
    cases n with
    |zero=>cases e
    |succ n=>
     have e':((jJ (eqD n) ds ds').map fun k=>k&&ds.length==ds'.length)=we k:=e;cases q:jJ (eqD n) ds ds' with
     |none=>rw[q] at e';cases e'
     |some c=>
      rw[q] at e';cases e';have hk:(c&&ds.length==ds'.length)=((bu (min its.toArray.size its'.toArray.size)).all (eAt (eqD n) ds ds')&&its.toArray.size==its'.toArray.size):=by
       rw[kX q,l1,l2]
      show vg A s (b7 p) (b7 p') (c&&ds.length==ds'.length);rw[hk];refine SeqAt.RcAt.tuples pl pl' hu0 fun j h1 h2=> ?_;obtain⟨d,hd,rd⟩:=r.getV (i:=j) (v:=xs[j]'(by rw[r.length,<- l1];exact h1)) (by simp);obtain⟨d',hd',rd'⟩:=r'.getV (i:=j) (v:=xs'[j]'(by rw[r'.length,<- l2];exact h2)) (by simp);obtain⟨w,hw,rw1⟩:=rr.get (i:=j) (x:=xs[j]'(by rw[r.length,<- l1];exact h1)) (by simp);obtain⟨w',hw',rw2⟩:=rr'.get (i:=j) (x:=xs'[j]'(by rw[r'.length,<- l2];exact h2)) (by simp);have ew:its.toArray[j]=w:=by
       obtain⟨_,q⟩:=bh.mp hw;simpa using q
      have ew':its'.toArray[j]=w':=by
       obtain⟨_,q⟩:=bh.mp hw';simpa using q
      rw[ew,ew'];exact yF I n rd rd' rw1 rw2 (gO q hd hd') (ih n (m9 n) rd rd' rw1 rw2 (gO q hd hd') (dE hu))
theorem oN (I:Inv X pins σ H s) (n:Nat) (ra:Rep X.K ok H x a) (rb:Rep X.K ok' H y b) (rv:RelV x v) (ru:RelV y u) (e:eqD n a b=we k) (hu:A.units+n<dq):vb A s v u k:=
 yF I n ra rb rv ru e (HB I n ra rb rv ru e hu)
end
section
variable {X:Cx}{pins:List (af×Obj)}{σ:St}{H:Hp}{s:am}{ok ok':Okk}
theorem Le (I:Inv X pins σ H s) (n:Nat):∀ {A:de}{a b:D}{x y:V}{v u:ag}{k:Bool},Rep X.K ok H x a->Rep X.K ok' H y b->RelV x v->RelV y u->eqD n a b=we k->A.units+n<dq->SeqAt.RcNeAt A s v u (!k):=by
  intro A a b x y v u k ra rb rv ru e hu;have hu0:A.units<dq:=by omega
  cases ra with
  |non=>
   cases rv;cases rb with
   |non=>cases ru;cases n <;> cases e <;> exact SeqAt.RcNeAt.none_none
   |obj _=>rw[bP] at e;cases e
   |scr _ _=>rw[bO] at e;cases e
   |bl b=>cases ru;cases n <;> cases e <;> exact SeqAt.RcNeAt.none_bool b
   |int b=>obtain⟨t,rfl⟩:=ru;cases n <;> cases e <;> exact SeqAt.RcNeAt.none_int b t
   |str b=>obtain⟨t,rfl⟩:=ru;cases n <;> cases e <;> exact SeqAt.RcNeAt.none_str b t
   |lst g r=>cases ru;obtain⟨its,_,pl,_⟩:=I.list g.sq;cases n <;> cases e <;> exact SeqAt.RcNeAt.none_list pl.isList hu0
   |tup g r=>cases ru;obtain⟨its,_,pl,_⟩:=I.tuple g.sq;cases n <;> cases e <;> exact SeqAt.RcNeAt.none_tuple pl hu0
  |bl a=>
   cases rv;cases rb with
   |non=>cases ru;cases n <;> cases e <;> exact SeqAt.RcNeAt.bool_none a
   |obj _=>rw[bP] at e;cases e
   |scr _ _=>rw[bO] at e;cases e
   |bl b=>cases ru;cases n <;> cases e <;> exact SeqAt.RcNeAt.bool_bool a b
   |int b=>obtain⟨t,rfl⟩:=ru;cases n <;> cases e <;> exact SeqAt.RcNeAt.bool_int a b t
   |str b=>obtain⟨t,rfl⟩:=ru;cases n <;> cases e <;> exact SeqAt.RcNeAt.bool_str a b t
   |lst g r=>cases ru;obtain⟨its,_,pl,_⟩:=I.list g.sq;cases n <;> cases e <;> exact SeqAt.RcNeAt.bool_list a pl.isList hu0
   |tup g r=>cases ru;obtain⟨its,_,pl,_⟩:=I.tuple g.sq;cases n <;> cases e <;> exact SeqAt.RcNeAt.bool_tuple a pl hu0
  |int a=>
   obtain⟨t',rfl⟩:=rv;cases rb with
   |non=>cases ru;cases n <;> cases e <;> exact SeqAt.RcNeAt.int_none a t'
   |obj _=>rw[bP] at e;cases e
   |scr _ _=>rw[bO] at e;cases e
   |bl b=>cases ru;cases n <;> cases e <;> exact SeqAt.RcNeAt.int_bool a t' b
   |int b=>obtain⟨t,rfl⟩:=ru;cases n <;> cases e <;> exact SeqAt.RcNeAt.int_int a t' b t
   |str b=>obtain⟨t,rfl⟩:=ru;cases n <;> cases e <;> exact SeqAt.RcNeAt.int_str a t' b t
   |lst g r=>cases ru;obtain⟨its,_,pl,_⟩:=I.list g.sq;cases n <;> cases e <;> exact SeqAt.RcNeAt.int_list a t' pl.isList hu0
   |tup g r=>cases ru;obtain⟨its,_,pl,_⟩:=I.tuple g.sq;cases n <;> cases e <;> exact SeqAt.RcNeAt.int_tuple a t' pl hu0
  |str a=>
   obtain⟨t',rfl⟩:=rv;cases rb with
   |non=>cases ru;cases n <;> cases e <;> exact SeqAt.RcNeAt.str_none a t'
   |obj _=>rw[bP] at e;cases e
   |scr _ _=>rw[bO] at e;cases e
   |bl b=>cases ru;cases n <;> cases e <;> exact SeqAt.RcNeAt.str_bool a t' b
   |int b=>obtain⟨t,rfl⟩:=ru;cases n <;> cases e <;> exact SeqAt.RcNeAt.str_int a t' b t
   |str b=>obtain⟨t,rfl⟩:=ru;cases n <;> cases e <;> exact SeqAt.RcNeAt.str_str a t' b t
   |lst g r=>cases ru;obtain⟨its,_,pl,_⟩:=I.list g.sq;cases n <;> cases e <;> exact SeqAt.RcNeAt.str_list a t' pl.isList hu0
   |tup g r=>cases ru;obtain⟨its,_,pl,_⟩:=I.tuple g.sq;cases n <;> cases e <;> exact SeqAt.RcNeAt.str_tuple a t' pl hu0
  |obj _=>rw[dA] at e;cases e
  |scr _ _=>rw[cZ] at e;cases e
  |@lst p xs ds g r=>
   cases rv;obtain⟨its,rr,pl,_⟩:=I.list g.sq;cases rb with
   |non=>cases ru;cases n <;> cases e <;> exact SeqAt.RcNeAt.list_none pl.isList hu0
   |obj _=>rw[bP] at e;cases e
   |scr _ _=>rw[bO] at e;cases e
   |bl b=>cases ru;cases n <;> cases e <;> exact SeqAt.RcNeAt.list_bool b pl.isList hu0
   |int b=>obtain⟨t,rfl⟩:=ru;cases n <;> cases e <;> exact SeqAt.RcNeAt.list_int b t pl.isList hu0
   |str b=>obtain⟨t,rfl⟩:=ru;cases n <;> cases e <;> exact SeqAt.RcNeAt.list_str b t pl.isList hu0
   |tup g' r'=>cases ru;obtain⟨its',_,pl',_⟩:=I.tuple g'.sq;cases n <;> cases e <;> exact SeqAt.RcNeAt.list_tuple pl.isList pl' hu0
   |@lst p' xs' ds' g' r'=>
    cases ru;obtain⟨its',rr',pl',_⟩:=I.list g'.sq;have l1:its.toArray.size=ds.length:=by rw[az,<- rr.length,r.length]
    have l2:its'.toArray.size=ds'.length:=by rw[az,<- rr'.length,r'.length]
    cases n with
    |zero=>cases e
    |succ n=>
     have e':(if ds.length=ds'.length then jJ (eqD n) ds ds' else we false)=we k:=e
     by_cases hl:ds.length=ds'.length
     ·rw[if_pos hl] at e';have hk:k=(bu its.toArray.size).all (eAt (eqD n) ds ds'):=by
       rw[kX e',l1,<- hl,iu]
      rw[hk];refine SeqAt.RcNeAt.lists pl.isList pl'.isList (by rw[l1,l2,hl]) hu0 fun j h1 h2=> ?_;obtain⟨d,hd,rd⟩:=r.getV (i:=j) (v:=xs[j]'(by rw[r.length,<- l1];exact h1)) (by simp);obtain⟨d',hd',rd'⟩:=r'.getV (i:=j) (v:=xs'[j]'(by rw[r'.length,<- l2];exact h2)) (by simp);obtain⟨w,hw,rw1⟩:=rr.get (i:=j) (x:=xs[j]'(by rw[r.length,<- l1];exact h1)) (by simp);obtain⟨w',hw',rw2⟩:=rr'.get (i:=j) (x:=xs'[j]'(by rw[r'.length,<- l2];exact h2)) (by simp);have ew:its.toArray[j]=w:=by
       obtain⟨_,q⟩:=bh.mp hw;simpa using q
      have ew':its'.toArray[j]=w':=by
       obtain⟨_,q⟩:=bh.mp hw';simpa using q
      rw[ew,ew'];exact oN I n rd rd' rw1 rw2 (gO e' hd hd') (dE hu)
     ·rw[if_neg hl] at e';cases e';exact SeqAt.RcNeAt.lists_lengths pl.isList pl'.isList (by rw[l1,l2];simpa using hl) hu0
  |@tup p xs ds g r=>
   cases rv;obtain⟨its,rr,pl,_⟩:=I.tuple g.sq;cases rb with
   |non=>cases ru;cases n <;> cases e <;> exact SeqAt.RcNeAt.tuple_none pl hu0
   |obj _=>rw[bP] at e;cases e
   |scr _ _=>rw[bO] at e;cases e
   |bl b=>cases ru;cases n <;> cases e <;> exact SeqAt.RcNeAt.tuple_bool b pl hu0
   |int b=>obtain⟨t,rfl⟩:=ru;cases n <;> cases e <;> exact SeqAt.RcNeAt.tuple_int b t pl hu0
   |str b=>obtain⟨t,rfl⟩:=ru;cases n <;> cases e <;> exact SeqAt.RcNeAt.tuple_str b t pl hu0
   |lst g' r'=>cases ru;obtain⟨its',_,pl',_⟩:=I.list g'.sq;cases n <;> cases e <;> exact SeqAt.RcNeAt.tuple_list pl pl'.isList hu0
   |@tup p' xs' ds' g' r'=>
    cases ru;obtain⟨its',rr',pl',_⟩:=I.tuple g'.sq;have l1:its.toArray.size=ds.length:=by rw[az,<- rr.length,r.length]
    have l2:its'.toArray.size=ds'.length:=by rw[az,<- rr'.length,r'.length]
    cases n with
    |zero=>cases e
    |succ n=>
     have e':((jJ (eqD n) ds ds').map fun k=>k&&ds.length==ds'.length)=we k:=e;cases q:jJ (eqD n) ds ds' with
     |none=>rw[q] at e';cases e'
     |some c=>
      rw[q] at e';cases e';have hk:(c&&ds.length==ds'.length)=((bu (min its.toArray.size its'.toArray.size)).all (eAt (eqD n) ds ds')&&its.toArray.size==its'.toArray.size):=by
       rw[kX q,l1,l2]
      show SeqAt.RcNeAt A s (b7 p) (b7 p') (!(c&&ds.length==ds'.length));rw[hk];refine SeqAt.RcNeAt.tuples pl pl' hu0 fun j h1 h2=> ?_;obtain⟨d,hd,rd⟩:=r.getV (i:=j) (v:=xs[j]'(by rw[r.length,<- l1];exact h1)) (by simp);obtain⟨d',hd',rd'⟩:=r'.getV (i:=j) (v:=xs'[j]'(by rw[r'.length,<- l2];exact h2)) (by simp);obtain⟨w,hw,rw1⟩:=rr.get (i:=j) (x:=xs[j]'(by rw[r.length,<- l1];exact h1)) (by simp);obtain⟨w',hw',rw2⟩:=rr'.get (i:=j) (x:=xs'[j]'(by rw[r'.length,<- l2];exact h2)) (by simp);have ew:its.toArray[j]=w:=by
       obtain⟨_,q⟩:=bh.mp hw;simpa using q
      have ew':its'.toArray[j]=w':=by
       obtain⟨_,q⟩:=bh.mp hw';simpa using q
      rw[ew,ew'];exact oN I n rd rd' rw1 rw2 (gO q hd hd') (dE hu)
end
noncomputable def Pk (K:aa) (n:Nat):R2:=fun x y H Q=>∃ ok a b k,Rep K ok H x a/\Rep K ok H y b/\eqD n a b=we k/\Q (.bl k) H
noncomputable def Pf (K:aa) (n:Nat):R2:=fun x y H Q=>∃ ok a b k,Rep K ok H x a/\Rep K ok H y b/\eqD n a b=we k/\Q (.bl (!k)) H
noncomputable def gEq (n:Nat) (a b:D):Option D:=(eqD n a b).map D.bl
noncomputable def gNe (n:Nat) (a b:D):Option D:=(eqD n a b).map fun k=>D.bl (!k)
theorem aJ {f:α->β} (h:o.map f=we b):∃ a,o=we a/\f a=b:=by
 cases o with
 |none=>cases h
 |some a=>exact⟨a,rfl,b9 h⟩
noncomputable abbrev Hw (X:Cx) (n:Nat):Prop:=X.A.units+n<dq
section
variable {X:Cx}{e a b c:br}{es:List br}{f fa fb fc:DF}{fl:DL}{pos:Pos}
theorem HM (hu:Hw X n):OpR X (d7 .Eq) (Pk X.K n):=by
 intro pins s σ H x y v u Q I rx ry h;obtain⟨ok,a,b,k,ra,rb,e,q⟩:=h;exact HB I n ra rb rx ry e hu X.prog X.w X.xe _ ⟨.bl k,H,I,rfl,q⟩
theorem Ma (hu:Hw X n):OpR X (d7 .NotEq) (Pf X.K n):=by
 intro pins s σ H x y v u Q I rx ry h;obtain⟨ok,a,b,k,ra,rb,e,q⟩:=h;exact Le I n ra rb rx ry e hu X.prog X.w X.xe _ ⟨.bl (!k),H,I,rfl,q⟩
noncomputable def isN:D->Bool
 |.non=>true
 |_=>false
noncomputable def OD (a b:D):Option D:=match b with
 |.non=>we (.bl (isN a))
 |_=>wf
noncomputable def Kd (a b:D):Option D:=match b with
 |.non=>we (.bl (!isN a))
 |_=>wf
theorem HV {K:aa} (h:Rep K ok H v d):decide (v=.non)=isN d:=by
 cases h <;> simp[isN]
theorem Kk {K:aa}:Fit2 K (fun x y H Q=>y=.non/\Q (.bl (decide (x=.non))) H) OD:=fun ok H x y a b d Q h1 ra rb e k=>by
 cases b with
 |non=>
  cases e;refine⟨rb.non_inv,?_⟩;rw[HV ra];exact k _ H (Same.refl H) (.bl _)
 |_=>cases e
theorem GJ {K:aa}:Fit2 K (fun x y H Q=>y=.non/\Q (.bl (!decide (x=.non))) H) Kd:=fun ok H x y a b d Q h1 ra rb e k=>by
 cases b with
 |non=>
  cases e;refine⟨rb.non_inv,?_⟩;rw[HV ra];exact k _ H (Same.refl H) (.bl _)
 |_=>cases e
noncomputable def inO (f:D->Option Bool):List D->Option Bool
 |[]=>we false
 |x::xs=>(f x).bind fun b=>(inO f xs).map fun c=>b||c
noncomputable def inD (n:Nat) (a b:D):Option Bool:=match b with
 |.lst ds=>inO (fun d=>eqD n d a) ds
 |.tup ds=>inO (fun d=>eqD n d a) ds
 |_=>wf
noncomputable def wP (K:aa) (ok:Okk) (H:Hp) (n:Nat) (a:D) (u:ag):Bool:=
 @decide (∃ x d,RelV x u/\Rep K ok H x d/\eqD n d a=we true) (j9 _)
theorem Ho {a d:D} (I:Inv X pins σ H s) (r:RelV x u) (q:Rep X.K ok H x d) (e:eqD n d a=we k):wP X.K ok H n a u=k:=by
 unfold wP;cases k with
 |true=>exact @decide_eq_true _ (j9 _) ⟨x,d,r,q,e⟩
 |false=>
  refine @decide_eq_false _ (j9 _) ?_
  rintro⟨x',d',r',q',e'⟩
  obtain rfl:=r.inj r';exact nomatch GQ I n q q' e e'
theorem nZ {a:D} (I:Inv X pins σ H s):∀ {xs:List V}{us:List ag}{ds:List D}{k:Bool},Vals xs us->Reps X.K ok H xs ds->inO (fun d=>eqD n d a) ds=we k->
  us.any (wP X.K ok H n a)=k/\∀ u∈us,∃ x d,RelV x u/\Rep X.K ok H x d/\eqD n d a=we (wP X.K ok H n a u)
 |_,_,_,_,.nil,.nil,h=>by
  cases h;exact⟨rfl,fun u hu=>by cases hu⟩
 |_,_,_,k,.cons r rs,.cons q qs,h=>by
  obtain⟨b,e1,e2⟩:=bind_some h;obtain⟨c,e3,rfl⟩:=aJ e2;obtain⟨h1,h2⟩:=nZ I rs qs e3;have hb:=Ho I r q e1;refine⟨by rw[k8,hb,h1],fun u hu=> ?_⟩;rcases ah.mp hu with rfl|hu
  ·exact⟨_,_,r,q,by rw[hb];exact e1⟩
  ·exact h2 u hu
noncomputable def Pj (K:aa) (n:Nat):R2:=fun x y H Q=>∃ ok a b k,Rep K ok H x a/\Rep K ok H y b/\inD n a b=we k/\Q (.bl k) H
noncomputable def CF (K:aa) (n:Nat):R2:=fun x y H Q=>∃ ok a b k,Rep K ok H x a/\Rep K ok H y b/\inD n a b=we k/\Q (.bl (!k)) H
theorem Mg (hu:Hw X (n+1)):OpR X (d7 .In) (Pj X.K n):=by
 intro pins s σ H x y v u Q I rx ry h;obtain⟨ok,a,b,k,ra,rb,e,q⟩:=h;cases rb with
 |lst g r=>
  cases ry;obtain⟨its,rr,pl,_⟩:=I.list g.sq;obtain⟨h1,h2⟩:=nZ I rr r e;refine SeqAt.in_listAt (wP X.K ok H n a) pl.isList (fun w hw=> ?_) ⟨.bl k,H,I,?_,q⟩
  ·obtain⟨x',d',r',q',e'⟩:=h2 w (by simpa using hw);exact oN I n q' ra r' rx e' (dE hu)
  ·rw[<- h1];simp[RelV]
 |tup g r=>
  cases ry;obtain⟨its,rr,pl,_⟩:=I.tuple g.sq;obtain⟨h1,h2⟩:=nZ I rr r e;refine SeqAt.in_tupleAt (wP X.K ok H n a) pl (fun w hw=> ?_) ⟨.bl k,H,I,?_,q⟩
  ·obtain⟨x',d',r',q',e'⟩:=h2 w (by simpa using hw);exact oN I n q' ra r' rx e' (dE hu)
  ·rw[<- h1];simp[RelV]
 |_=>cases e
theorem CT (hu:Hw X (n+1)):OpR X (d7 .NotIn) (CF X.K n):=by
 intro pins s σ H x y v u Q I rx ry h;obtain⟨ok,a,b,k,ra,rb,e,q⟩:=h;cases rb with
 |lst g r=>
  cases ry;obtain⟨its,rr,pl,_⟩:=I.list g.sq;obtain⟨h1,h2⟩:=nZ I rr r e;refine SeqAt.notIn_listAt (wP X.K ok H n a) pl.isList (fun w hw=> ?_) ⟨.bl (!k),H,I,?_,q⟩
  ·obtain⟨x',d',r',q',e'⟩:=h2 w (by simpa using hw);exact oN I n q' ra r' rx e' (dE hu)
  ·rw[<- h1];simp[RelV]
 |tup g r=>
  cases ry;obtain⟨its,rr,pl,_⟩:=I.tuple g.sq;obtain⟨h1,h2⟩:=nZ I rr r e;refine SeqAt.notIn_tupleAt (wP X.K ok H n a) pl (fun w hw=> ?_) ⟨.bl (!k),H,I,?_,q⟩
  ·obtain⟨x',d',r',q',e'⟩:=h2 w (by simpa using hw);exact oN I n q' ra r' rx e' (dE hu)
  ·rw[<- h1];simp[RelV]
 |_=>cases e
noncomputable def gIn (n:Nat) (a b:D):Option D:=(inD n a b).map D.bl
noncomputable def AA (n:Nat) (a b:D):Option D:=(inD n a b).map fun k=>D.bl (!k)
theorem MT {K:aa}:Fit2 K (Pj K n) (gIn n):=fun ok H x y a b d Q h1 ra rb e k=>by
 obtain⟨c,e1,rfl⟩:=aJ e;exact⟨ok,a,b,c,ra,rb,e1,k _ H (Same.refl H) (.bl _)⟩
theorem Ee {K:aa}:Fit2 K (CF K n) (AA n):=fun ok H x y a b d Q h1 ra rb e k=>by
 obtain⟨c,e1,rfl⟩:=aJ e;exact⟨ok,a,b,c,ra,rb,e1,k _ H (Same.refl H) (.bl _)⟩
noncomputable def tyD:D->String
 |.non=>"NoneType"
 |.bl _=>"bool"
 |.int _=>"int"
 |.str _=>"str"
 |.lst _=>"list"
 |.tup _=>"tuple"
 |.obj _=>"object"
 |.scr _=>"object"
noncomputable def Gj:D->Bool
 |.obj _=>true
 |.scr _=>true
 |_=>false
noncomputable def Gi (T:String) (d:D):Option Bool:=
 if Gj d=true then wf else if T="int" then we (match d with|.int _=>true|.bl _=>true|_=>false)
 else if T="bool" then we (match d with|.bl _=>true|_=>false)
 else if T="str" then we (match d with|.str _=>true|_=>false)
 else if T="list" then we (match d with|.lst _=>true|_=>false)
 else if T="tuple" then we (match d with|.tup _=>true|_=>false)
 else if T="dict" then we false
 else wf
theorem JM {K:aa} (h:Gi T d=we k):PySem.W.kitOne K (.type (tyD d)) (.type T)=we k:=by
 unfold Gi at h;split at h
 ·cases h
 rename_i hob
 split at h
 ·subst_vars;cases h;cases d <;> first|rfl|exact absurd rfl hob
 ·split at h
  ·subst_vars;cases h;cases d <;> first|rfl|exact absurd rfl hob
  ·split at h
   ·subst_vars;cases h;cases d <;> first|rfl|exact absurd rfl hob
   ·split at h
    ·subst_vars;cases h;cases d <;> first|rfl|exact absurd rfl hob
    ·split at h
     ·subst_vars;cases h;cases d <;> first|rfl|exact absurd rfl hob
     ·split at h
      ·subst_vars;cases h;cases d <;> first|rfl|exact absurd rfl hob
      ·cases h
noncomputable def PQ (K:aa):List V->Hp->VK->Prop:=fun xs H Q=>∃ x T d ok k,xs=[x,.ty T]/\Rep K ok H x d/\Gi T d=we k/\Q (.bl k) H
theorem Hl:CallR X (.builtin "isinstance") (PQ X.K):=by
 intro pins s σ H xs us Q I r h;obtain⟨x,T,d,ok,k,rfl,q,e,hq⟩:=h;obtain⟨u,w',rfl,ru,rw'⟩:=EZ r;cases rw';have fin:∀ tk,EP X pins σ Q (.bool k) { s with toks:=tk }:=fun tk=>⟨.bl k,H,I.tok _,rfl,hq⟩;have ek:=JM (K:=X.K) e;cases q with
 |non=>cases ru;exact kj PySem.W.kitx_none I.kIn hX ek (fun z=>nomatch z) fin
 |bl b=>cases ru;exact kj PySem.W.kitx_bool I.kIn hX ek (fun z=>nomatch z) fin
 |int i=>obtain⟨t,rfl⟩:=ru;exact kj PySem.W.kitx_int I.kIn hX ek (fun z=>nomatch z) fin
 |str z=>obtain⟨t,rfl⟩:=ru;exact kj PySem.W.kitx_str I.kIn hX ek (fun z=>nomatch z) fin
 |lst g r=>
  cases ru;obtain⟨its,_,⟨o,n,e1,c1,_,_⟩,_⟩:=I.list g.sq;exact kj PySem.W.kitx_list I.kIn ⟨o,e1,c1⟩ ek (fun z=>nomatch z) fin
 |tup g r=>
  cases ru;obtain⟨its,_,⟨o,e1,c1,_⟩,_⟩:=I.tuple g.sq;exact kj PySem.W.kitx_tuple I.kIn ⟨o,e1,c1⟩ ek (fun z=>nomatch z) fin
 |obj _=>exact nomatch e
 |scr _ _=>exact nomatch e
end
set_option compiler.extract_closed false
local macro_rules| `(tactic|walk_at "adr")=> `(tactic|((try unfold af at*);omega))
noncomputable def rN (env:Env):List (Str×gz)->List (Str×af)->List (Str×af)
 |[],acc=>acc
 |(n,k)::r,acc=>if k== .free then rN env r ((n,(env.cells.lookup n).getD 0)::acc) else rN env r acc
theorem tF (f:Str×gz->List (Str×af)->Sem (ForInStep (List (Str×af))))
  (hf:∀ name kind cs,f (name,kind) cs=if kind== .free then(do let c <- cellOf env name;pure (.yield ((name,c)::cs))) else pure (.yield cs)):
  ∀(names:List (Str×gz)) (acc:List (Str×af)),(∀ y∈names,y.2=.free->∃ c,env.cells.lookup y.1=we c)->(forIn names acc f:Sem _)=pure (rN env names acc)
 |[],acc,_=>by rw[vq];rfl
 |(n,k)::r,acc,h=>by
  rw[List.forIn_cons,hf];have hr:∀ y∈r,y.2=.free->∃ c,env.cells.lookup y.1=we c:=fun y hy=>h y (ai _ hy);unfold rN
  by_cases hk:(k==gv)=true
  ·rw[if_pos hk,if_pos hk];obtain⟨c,hc⟩:=h (n,k) au (by simpa using hk);have e:(cellOf env n:Sem af)=pure c:=by unfold cellOf;rw[hc]
   rw[e,hc];simp only[pure_bind,Option.getD_some];exact tF f hf r _ hr
  ·rw[if_neg hk,if_neg hk];simp only[pure_bind];exact tF f hf r _ hr
theorem rM (h:∀ y∈scope.names,y.2=.free->∃ c,env.cells.lookup y.1=we c):closureFor scope env=pure (rN env scope.names []):=by
 simp only[closureFor];rw[tF (env:=env) _ (fun name kind cs=>by cases hk:kind==gv <;> simp[hk]) scope.names [] h];rfl
theorem mS:∀ {names:List (Str×gz)}{acc:List (Str×af)}{c:af},(rN env names acc).lookup x=we c->acc.lookup x=we c∨((x,gv)∈names/\c=(env.cells.lookup x).getD 0)
 |[],acc,c,h=>.inl h
 |(n,k)::r,acc,c,h=>by
  unfold rN at h
  by_cases hk:(k==gv)=true
  ·rw[if_pos hk] at h;rcases mS h with q|⟨q1,q2⟩
   ·rw[fy] at q;cases hx:x==n with
    |true=>
     rw[hx] at q;obtain rfl:x=n:=by simpa using hx
     have hk':k=.free:=by simpa using hk
     subst hk';exact .inr ⟨au,by cases q;rfl⟩
    |false=>
     rw[hx] at q;exact .inl q
   ·exact .inr ⟨ai _ q1,q2⟩
  ·rw[if_neg hk] at h;rcases mS h with q|⟨q1,q2⟩
   ·exact .inl q
   ·exact .inr ⟨ai _ q1,q2⟩
theorem pF:∀ {names:List (Str×gz)}{acc:List (Str×af)},(∃ c,acc.lookup x=we c)->∃ c,(rN env names acc).lookup x=we c
 |[],acc,h=>h
 |(n,k)::r,acc,h=>by
  unfold rN;split
  ·refine pF ?_;rw[fy];cases hx:x==n with
   |true=>exact⟨_,rfl⟩
   |false=>exact h
  ·exact pF h
theorem tQ:∀ {names:List (Str×gz)}{acc:List (Str×af)},(x,gv)∈names->∃ c,(rN env names acc).lookup x=we c
 |(n,k)::r,acc,h=>by
  unfold rN;rcases ah.mp h with e|h
  ·cases e;rw[if_pos (by rfl)];exact pF ⟨_,by rw[fy,beq_self_eq_true]⟩
  ·split
   ·exact tQ h
   ·exact tQ h
theorem eT:∀ {names:List (Str×gz)}{n:Nat}{acc:List (Str×af)}{c:af},(gs n names acc).lookup x=we c->acc.lookup x=we c∨((x,cu)∈names/\n<=c)
 |[],n,acc,c,h=>.inl h
 |(y,k)::r,n,acc,c,h=>by
  unfold gs at h
  by_cases hk:(k==cu)=true
  ·rw[if_pos hk] at h;rcases eT h with q|⟨q1,q2⟩
   ·rw[fy] at q;cases hx:x==y with
    |true=>
     rw[hx] at q;obtain rfl:x=y:=by simpa using hx
     have hk':k=.cell:=by simpa using hk
     subst hk';cases q;exact .inr ⟨au,bc _⟩
    |false=>
     rw[hx] at q;exact .inl q
   ·exact .inr ⟨ai _ q1,by walk_at "adr"⟩
  ·rw[if_neg hk] at h;rcases eT h with q|⟨q1,q2⟩
   ·exact .inl q
   ·exact .inr ⟨ai _ q1,q2⟩
theorem gM:∀ {names:List (Str×gz)}{n:Nat}{acc:List (Str×af)},(x,cu)∉names->(gs n names acc).lookup x=acc.lookup x
 |[],n,acc,_=>rfl
 |(y,k)::r,n,acc,h=>by
  have hr:(x,cu)∉r:=fun z=>h (ai _ z);unfold gs
  by_cases hk:(k==cu)=true
  ·rw[if_pos hk,gM hr,fy];have hk':k=.cell:=by simpa using hk
   subst hk';cases hx:x==y with
   |true=>
    obtain rfl:x=y:=by simpa using hx
    exact absurd au h
   |false=>rfl
  ·rw[if_neg hk,gM hr]
theorem eC:∀ {names:List (Str×gz)}{n:Nat}{acc:List (Str×af)},(∃ c,acc.lookup x=we c)->∃ c,(gs n names acc).lookup x=we c
 |[],n,acc,h=>h
 |(y,k)::r,n,acc,h=>by
  unfold gs;split
  ·refine eC ?_;rw[fy];cases hx:x==y with
   |true=>exact⟨_,rfl⟩
   |false=>exact h
  ·exact eC h
theorem iM:∀ {names:List (Str×gz)}{n:Nat}{acc:List (Str×af)},(x,cu)∈names->∃ c,(gs n names acc).lookup x=we c
 |(y,k)::r,n,acc,h=>by
  unfold gs;rcases ah.mp h with e|h
  ·cases e;rw[if_pos (by rfl)];exact eC ⟨_,by rw[fy,beq_self_eq_true]⟩
  ·split
   ·exact iM h
   ·exact iM h
structure uB (h:cy) (n:Nat) (acc cs:List (Str×af)):Prop where
 cell:∀ x c,(x,c)∈cs->(x,c)∈acc∨(h.IsCell c wf/\n<=c)
 apart:∀ x y c,(x,c)∈cs->(y,c)∈cs->n<=c->x=y
theorem sP:∀(names:List (Str×gz)) (h:cy) (n:Nat) (acc0 acc:List (Str×af)),n<=h.objs.size->uB h n acc0 acc->(∀ x c,(x,c)∈acc->c<h.objs.size)->uB (pushCells h names) n acc0 (gs h.objs.size names acc)
 |[],h,n,acc0,acc,_,N,_=>N
 |(y,k)::r,h,n,acc0,acc,hn,N,hlt=>by
  unfold pushCells gs;split
  ·have:=sP r (h.push { cls:=.type "cell",data:=.cell wf }) n acc0 ((y,h.objs.size)::acc) (by rw[hZ];walk_at "adr")
    ⟨fun x c hm=>by
     rcases ah.mp hm with e|hm
     ·cases e;exact .inr ⟨⟨_,bz _ rfl,rfl⟩,hn⟩
     ·rcases N.cell x c hm with q|⟨q1,q2⟩
      ·exact .inl q
      ·exact .inr ⟨q1.keeps fun b o e=>ay _ e,q2⟩,
    fun x z c h1 h2 h3=>by
     rcases ah.mp h1 with e1|h1 <;> rcases ah.mp h2 with e2|h2
     ·cases e1;cases e2;rfl
     ·cases e1;exact absurd (hlt z _ h2) (gg _)
     ·cases e2;exact absurd (hlt x _ h1) (gg _)
     ·exact N.apart x z c h1 h2 h3⟩
    (fun x c hm=>by
     rw[hZ];rcases ah.mp hm with e|hm
     ·cases e;walk_at "adr"
     ·have:=hlt x c hm;walk_at "adr")
   rw[hZ] at this;exact this
  ·exact sP r h n acc0 acc hn N hlt
theorem FV
  (h:∀ h':cy,(∀ b o,s.heap.get? b=we o->h'.get? b=we o)->h'.Ns s.heap.objs.size (fun _=>wf)->uB h' (s.heap.objs.size+1) cl (gs (s.heap.objs.size+1) scope.names cl)->
   Q { scope:=scope,locals:=s.heap.objs.size,globals:=globals,cells:=gs (s.heap.objs.size+1) scope.names cl,qual:=qual,func:=wf,code:=env.code,frame:=env.frame,builtins:=env.builtins } { s with heap:=h' })
  (hlt:∀ x c,(x,c)∈cl->c<s.heap.objs.size):aw M A (sg scope globals cl [] qual wf .none (we env)) Q E s:=by
 simp only[sg,uk,if_true];refine ae (wpAny_alloc ?_);refine ae (wpAny_layCells _ (fun name kind cells=>by cases hkc:kind==cu <;> simp[hkc]) _ _ _ _ ?_);rw[show({ s with heap:=s.heap.push { cls:=.type "dict",data:=.dict #[] } }:am).heap.objs.size=s.heap.objs.size+1 from hZ ..];rw[vq];refine ae (ak (ak (h _ (fun b o e=>pushCells_keeps _ _ b o (ay _ e)) ((Heap.Ns.new s.heap (.type "dict")).keeps (pushCells_keeps _ _)) ?_)))
 have:=sP scope.names (s.heap.push { cls:=.type "dict",data:=.dict #[] }) (s.heap.objs.size+1) cl cl (by rw[hZ];walk_at "adr")
  ⟨fun x c hm=>.inl hm,fun x y c h1 h2 h3=>absurd (hlt x c h1) (by walk_at "adr")⟩ (fun x c hm=>by rw[hZ];have:=hlt x c hm;walk_at "adr")
 rw[hZ] at this;exact this
theorem wG (I:Nat->am->Prop)
  (turn:∀ n s,I n s->aw (model prog w) A (mw it) (fun r s₁=>match r with
   |none=>R (.ok .next) s₁
   |some v=>aw (model prog w) A (ol target it v) (fun _ s₁'=>aw (model prog w) A (assign target env v) (fun _ s₂=>
     aw (model prog w) A (forIn ifs true fun c r=>if r=true then do let ok <- isTrue c env (eval c env);pure (oq ok) else pure (oq r)) (fun ok s₃=>
      if ok=true then aw (model prog w) A (eval elt env) (fun x s₄=>
       aw (model prog w) A (call (.builtin "list.append") [acc,x]) (fun _ s₅=>∃ m,m<n/\I m s₅) (fun _ _=>False) s₄) (fun _ _=>False) s₃
      else ∃ m,m<n/\I m s₃) (fun _ _=>False) s₂) (fun _ _=>False) s₁') (fun _ _=>False) s₁) (fun _ _=>False) s)
  (n:Nat) (h:I n s):n8 (model prog w) A (.compLoop (.ListComp elt [⟨target,iter,ifs,0⟩] scope pos) 0 it acc env) R s:=by
 refine codeAny_loop rfl I (fun n s hI=> ?_) n h;show aw _ A ((compTurn (.ListComp elt [⟨target,iter,ifs,0⟩] scope pos) 0 it acc env).onRaise (fun x=>do ul x env;theTreesLotGoes x)) _ _ s;refine wpAny_noted ?_;rw[compTurn_list];refine ae (tm (ae (gu (turn n s hI) (fun r s₁ h₁=> ?_) fun _ _ h'=>h'.elim)));cases r with
 |none=>exact ak h₁
 |some v=>
  refine ae (gu h₁ (fun _ s₁' h₁'=> ?_) fun _ _ h'=>h'.elim);refine ae (gu h₁' (fun _ s₂ h₂=>ae (gu h₂ (fun ok s₃ h₃=> ?_) fun _ _ h'=>h'.elim)) fun _ _ h'=>h'.elim);cases ok with
  |false=>exact ak ⟨rfl,h₃⟩
  |true=>
   exact ae (ae (gu h₃ (fun x s₄ h₄=>ae (gu h₄ (fun _ s₅ h₅=>ak (ak ⟨rfl,h₅⟩)) fun _ _ h'=>h'.elim)) fun _ _ h'=>h'.elim))
noncomputable def blk (X:Cx) (N':List Str) (scope:j6) (cells:List (Str×af)) (C:af) (fp:List af) (pins:List (af×Obj)) (s₀:am) (H₀:Hp):Cx where
 prog:=X.prog
 w:=X.w
 K:=X.K
 mg:=X.mg
 base:=X.base
 A:=X.A
 N:=N'
 s₀:=s₀
 H₀:=H₀
 env:=compEnvC scope cells C X.env
 outer:=X.stack
 stack:=X.stack
 ex:=fp
 fn:=fun x=>scope.names.lookup x==we .cell
 calm:=X.calm
 pn:=X.pn++pins
 xe:=fun _ _=>False
noncomputable def KN (X:Cx) (ifs:List br) (tt:TT):Prop:=
 ∀(pins:List (af×Obj)) (s:am) (σ:St) (H:Hp) (Q:Bool->Hp->Prop),Inv X pins σ H s->tt σ H Q->
  aw (model X.prog X.w) X.A (forIn ifs true fun c r=>if r=true then do let ok <- isTrue c X.env (eval c X.env);pure (oq ok) else pure (oq r)) (TP X pins σ Q) X.xe s
noncomputable def Pv:TT:=fun _ H Q=>Q true H
theorem JU:KN X [] Pv:=fun _ _ _ H _ I h=>wpAny_tests_nil ⟨H,I,h⟩
theorem JT (h:PT X c tt):KN X [c] tt:=fun pins s σ H Q I q=>wpAny_tests_one (h pins s σ H Q I q)
noncomputable def ED (caps:List (Option Nat)) (σ:St):St:=caps.map fun o=>o.bind fun j=>(σ[j]?).join
noncomputable def AK (X:Cx) (scope:j6) (N':List Str) (caps:List (Option Nat)):Prop:=
 caps.length=N'.length/\∀(i j:Nat),caps[i]?=we (we j)->∃ x,N'[i]?=we x/\X.N[j]?=we x/\scope.names.lookup x=we .free/\(x,cu)∉scope.names/\(X.env.scope.names.lookup x=we .cell∨X.env.scope.names.lookup x=we .free)
noncomputable def Ik (wi:TI) (caps:List (Option Nat)) (g:TG) (tt:TT) (te:TE):TE:=fun σ H Q=>wi σ H fun J H1=>∀ D,H1 D=wf->∃ W:Nat->Nat->St->Hp->Prop,(∃ m,W 0 m (ED caps σ) (upd H1 D (.lst [])))/\
 ∀ i m σ' H,W i m σ' H->(J.stop i H/\Q (.ref D) H)∨(J.go i H/\∀ x H',J.yld i H x H'->g x σ' H' fun σ2 H2=>tt σ2 H2 fun b H3=>
  if b=true then te σ2 H3 fun y H4=>∃ ys m',H4 D=we (.lst ys)/\ys.length<sizeLine/\m'<m/\W (i+1) m' σ2 (upd H4 D (.lst (ys++[y]))) else ∃ m',m'<m/\W (i+1) m' σ2 H3)
section
variable {X:Cx}{elt iter tg:br}{ifs:List br}{scope:j6}{pos:Pos}{N':List Str}{caps:List (Option Nat)}{wi:TI}{g:TG}{tt:TT}{te:TE}
theorem fM (h:(relabel scope env).names.lookup x=we k):scope.names.lookup x=we k∨(k=.cell/\scope.names.lookup x=we .free):=by
 have aux:∀(names:List (Str×gz)),(names.map fun(n,k)=>if(k==gv&&env.scope.kind== .function&&env.kindOf n==we .cell) then(n,cu) else(n,k)).lookup x=we k->
   names.lookup x=we k∨(k=.cell/\names.lookup x=we .free):=by
  intro names
  induction names with
  |nil=>intro h;cases h
  |cons p r ih=>
   obtain⟨n,kk⟩:=p;intro h;rw[bg] at h
   by_cases hc:(kk==gv&&env.scope.kind== .function&&env.kindOf n==we .cell)=true
   ·have h':jq x ((n,cu)::(r.map fun(n,k)=>if(k==gv&&env.scope.kind== .function&&env.kindOf n==we .cell) then(n,cu) else(n,k)))=we k:=by
     have e:(if(kk==gv&&env.scope.kind== .function&&env.kindOf n==we .cell)=true then(n,cu) else(n,kk))=(n,cu):=if_pos hc;rw[<- e];exact h
    rw[fy] at h' ⊢;cases hx:x==n with
    |true=>
     rw[hx] at h';cases h';have hk:kk=.free:=by
      rw[bq,bq] at hc;simpa using hc.1.1
     exact .inr ⟨rfl,by rw[hk]⟩
    |false=>
     rw[hx] at h';exact ih h'
   ·have h':jq x ((n,kk)::(r.map fun(n,k)=>if(k==gv&&env.scope.kind== .function&&env.kindOf n==we .cell) then(n,cu) else(n,k)))=we k:=by
     have e:(if(kk==gv&&env.scope.kind== .function&&env.kindOf n==we .cell)=true then(n,cu) else(n,kk))=(n,kk):=if_neg hc;rw[<- e];exact h
    rw[fy] at h' ⊢;cases hx:x==n with
    |true=>
     rw[hx] at h';exact .inl h'
    |false=>
     rw[hx] at h';exact ih h'
 exact aux scope.names h
theorem dG {l:List (Str×gz)} (h:l.lookup x=we k):(x,k)∈l:=f6 h
theorem wE {Qn:V->Hp->Prop}{RR:ag->af->Result->am->Prop}
  (hc:X.calm=true) (hkind:scope.kind=.function)
  (hfree:∀ y∈scope.names,y.2=.free->X.env.scope.names.lookup y.1=we .cell∨X.env.scope.names.lookup y.1=we .free) (huniq:∀ y∈scope.names,y.2=.free->(y.1,cu)∉scope.names)
  (hcap:AK X scope N' caps)
  (hb:∀ cells C fp pins s₀ H₀,PG (blk X N' scope cells C fp pins s₀ H₀) tg g/\KN (blk X N' scope cells C fp pins s₀ H₀) ifs tt/\PE (blk X N' scope cells C fp pins s₀ H₀) elt te)
  (I2:Inv X pins σ H2 s2) (T:KB X.prog X.w X.K tg J fp it tn) (st2:tn 0 s2.heap) (f2:∀ b∈fp,Ig X pins H2 b)
  (q:∀ D,H2 D=wf->∃ W:Nat->Nat->St->Hp->Prop,(∃ m,W 0 m (ED caps σ) (upd H2 D (.lst [])))/\
   ∀ i m σ' H,W i m σ' H->(J.stop i H/\Qn (.ref D) H)∨(J.go i H/\∀ x H',J.yld i H x H'->g x σ' H' fun σ2 H2=>tt σ2 H2 fun b H3=>
    if b=true then te σ2 H3 fun y H4=>∃ ys m',H4 D=we (.lst ys)/\ys.length<sizeLine/\m'<m/\W (i+1) m' σ2 (upd H4 D (.lst (ys++[y]))) else ∃ m',m'<m/\W (i+1) m' σ2 H3))
  (hfin:∀(C D:af) (s6:am) (H6:Hp),Inv X pins σ H6 s6->Qn (.ref D) H6->(∃ m,s6.heap.Ns C m)->H6 C=wf->C≠X.env.locals->X.s₀.heap.objs.size<=C->(∀ x c,X.env.cells.lookup x=we c->c≠C)->(∀ p∈X.pn++pins,p.1≠C)->RR (.ref D) C (.ok .next) s6):
  aw (model X.prog X.w) X.A (newList []) (fun acc s₃=>aw (model X.prog X.w) X.A (sg scope X.env.globals (rN X.env scope.names []) [] X.env.qual wf .none (we X.env)) (fun cenv s₄=>
   n8 (model X.prog X.w) X.A (.compStart (.ListComp elt [⟨tg,iter,ifs,0⟩] scope pos) 0 (.ref it) acc { cenv with scope:=relabel scope X.env }) (RR acc cenv.locals) s₄) E s₃) E s2:=by
 have hcells:∀ y∈scope.names,y.2=.free->∃ c,X.env.cells.lookup y.1=we c:=fun y hy hf=>I2.ok.has y.1 (hfree y hy hf);have hD:H2 s2.heap.objs.size=wf:=I2.hok.fresh (bc _);obtain⟨W,⟨m0,w0⟩,turn⟩:=q s2.heap.objs.size hD;refine dy ?_ (ic _)
 generalize hs3:({ s2 with heap:=s2.heap.push { cls:=.type "list",dict:=wf,data:=.seq ([]:List ag).toArray } }:am)=s3
 have I3:Inv X pins σ (upd H2 s2.heap.objs.size (.lst [])) s3:=by
  subst hs3;exact I2.laid (t':=s2.toks) (fun b u e=>ay _ e) (bc _) ⟨ic _,[],0,.nil,bz _ rfl⟩
 have sz3:s3.heap.objs.size=s2.heap.objs.size+1:=by rw[<- hs3];exact hZ ..
 have k23:∀ b o,s2.heap.get? b=we o->s3.heap.get? b=we o:=fun b o e=>by rw[<- hs3];exact ay _ e
 generalize hH3:upd H2 s2.heap.objs.size (.lst [])=H3 at I3 w0
 have clLook:∀ x c,(rN X.env scope.names []).lookup x=we c->X.env.cells.lookup x=we c:=fun x c e=>by
  rcases mS e with z|⟨z1,z2⟩
  ·cases z
  ·obtain⟨c',hc'⟩:=hcells (x,.free) z1 rfl;rw[hc'] at z2 ⊢;rw[z2];rfl
 have clMem:∀ x c,(x,c)∈rN X.env scope.names []->∃ c',X.env.cells.lookup x=we c'/\c=c':=by
  have aux:∀(names:List (Str×gz)) (acc:List (Str×af)),(∀ y∈names,y.2=.free->∃ c,X.env.cells.lookup y.1=we c)->(∀ x c,(x,c)∈acc->∃ c',X.env.cells.lookup x=we c'/\c=c')->
    ∀ x c,(x,c)∈rN X.env names acc->∃ c',X.env.cells.lookup x=we c'/\c=c':=by
   intro names
   induction names with
   |nil=>intro acc _ h x c hm;exact h x c hm
   |cons p r ih=>
    obtain⟨n,k⟩:=p;intro acc hn h x c hm;unfold rN at hm;have hr:∀ y∈r,y.2=.free->∃ c,X.env.cells.lookup y.1=we c:=fun y hy=>hn y (ai _ hy);split at hm
    ·rename_i hk
     refine ih _ hr (fun x c hm=> ?_) x c hm;rcases ah.mp hm with e|hm
     ·cases e;obtain⟨c',hc'⟩:=hn (n,k) au (by simpa using hk);exact⟨c',hc',by rw[hc'];rfl⟩
     ·exact h x c hm
    ·exact ih _ hr h x c hm
  exact aux scope.names [] hcells (fun x c hm=>by cases hm)
 have cellLt:∀ x c,X.env.cells.lookup x=we c->c<s2.heap.objs.size:=fun x c e=>by
  obtain⟨v,z⟩:=I2.cell x c e;exact z.lt
 have hltc:∀ x c,(x,c)∈rN X.env scope.names []->c<s3.heap.objs.size:=fun x c hm=>by
  obtain⟨c',hc',rfl⟩:=clMem x c hm
  have:=cellLt x c hc'
  walk_at "adr"
 refine FV (fun h4 k34 ns4 nc=> ?_) hltc
 generalize hC:s3.heap.objs.size=C at ns4 nc
 generalize hcs:gs (C+1) scope.names (rN X.env scope.names [])=cells at nc
 -- the block's own invariant
 have cellOld:∀ x c,cells.lookup x=we c->c<C->X.env.cells.lookup x=we c:=fun x c e hlt=>by
  rw[<- hcs] at e;rcases eT e with z|⟨_,z⟩
  ·exact clLook x c z
  ·walk_at "adr"
 have cellNew:∀ x c,cells.lookup x=we c->¬ c<C->h4.IsCell c wf/\C+1<=c:=fun x c e hge=>by
  rcases nc.cell x c (f6 e) with z|z
  ·obtain⟨c',hc',rfl⟩:=clMem x c z
   have:=cellLt x c hc'
   walk_at "adr"
  ·exact z
 have sz4:C<=h4.objs.size:=ir ns4.lt;have okB:(blk X N' scope cells C fp pins s3 H3).Ok:=by
  refine⟨I3.ok.mod,hkind,I3.ok.glob,I3.ok.blt,ug hC,fun x y c h1 h2=> ?_,fun x hx=> ?_,fun x c hf hx=> ?_,I3.ok.hd,I3.ok.frames,.inl rfl,fun b hb=>⟨?_,fun x c hx=> ?_⟩,I3.bs,ce I3.ok.bsz I3.sz,fun b o e hb=> ?_,fun b hb=> ?_,I3.stack,I3.stkFree⟩
  ·by_cases hlt:c<C
   ·exact I3.ok.inj x y c (cellOld x c h1 hlt) (cellOld y c h2 hlt)
   ·exact nc.apart x y c (f6 h1) (f6 h2) (cellNew x c h1 hlt).2
  ·show ∃ c,cells.lookup x=we c;rw[<- hcs];have hx':(relabel scope X.env).names.lookup x=we .cell∨(relabel scope X.env).names.lookup x=we .free:=hx;have fromFree:(x,gv)∈scope.names->∃ c,(gs (C+1) scope.names (rN X.env scope.names [])).lookup x=we c:=fun hm=>eC (tQ hm);rcases hx' with hx'|hx'
   ·rcases fM hx' with z|⟨_,z⟩
    ·exact iM (dG z)
    ·exact fromFree (dG z)
   ·rcases fM hx' with z|⟨z,_⟩
    ·exact fromFree (dG z)
    ·cases z
  ·have hf':(x,cu)∈scope.names:=dG (by simpa using (show(scope.names.lookup x==we .cell)=true from hf))
   by_cases hlt:c<C
   ·exfalso
    have e:(gs (C+1) scope.names (rN X.env scope.names [])).lookup x=we c:=by rw[hcs];exact hx
    rcases eT e with z|⟨_,z⟩
    ·rcases mS z with z|⟨z1,_⟩
     ·cases z
     ·exact huniq (x,.free) z1 rfl hf'
    ·walk_at "adr"
   ·show s3.heap.objs.size<=c
    have:=(cellNew x c hx hlt).2
    walk_at "adr"
  ·have:=(f2 b hb)
   obtain⟨o,e,_⟩:=T.obj 0 _ st2 b hb
   have:=bi e
   show b≠C
   walk_at "adr"
  ·obtain⟨o,e,hcell⟩:=T.obj 0 _ st2 b hb;have hlt':=bi e;intro z
   by_cases hlt:c<C
   ·exact(f2 b hb).2.2.2.2.1 x c (cellOld x c hx hlt) z
   ·have:=(cellNew x c hx hlt).2
    walk_at "adr"
  ·rcases(f2 b hb).2.2.2.1 with z|z
   ·exact I2.ok.noex b o e z
   ·have q1:=bi e;have q2:=I2.ok.bsz;have q3:=I2.sz;exact absurd (ca q1 (ce q2 z)) (gg _)
  ·intro z;rcases ah.mp (I3.stkSub b z) with z|z
   ·exact(f2 b hb).2.1 z
   ·exact(f2 b hb).2.2.1 z
 have hfpC:∀ b∈fp,b<C:=fun b hb=>by
  obtain⟨o,e,_⟩:=T.obj 0 _ st2 b hb
  have:=bi e
  walk_at "adr"
 have Hnew:∀ b,C<=b->H3 b=wf:=fun b hb=>by
  cases z:H3 b with
  |none=>rfl
  |some o=>
   have:=I3.hok.lt z
   walk_at "adr"
 have IB:Inv (blk X N' scope cells C fp pins s3 H3) [] (ED caps σ) H3 { s3 with heap:=h4 }:=by
  refine⟨okB,rfl,I3.bare,Un.kept k34,⟨_,ns4,fun i x v e1 e2 e3=> ?_⟩,fun x c hx=> ?_,Hnew C (bc _),fun x c hx=> ?_,fun p hp=> ?_,I3.hok.kept k34,?_⟩
  ·-- a captured name
   have e2':(ED caps σ)[i]?=we (we v):=e2;unfold ED at e2';rw[bf] at e2';cases hci:caps[i]? with
   |none=>rw[hci] at e2';cases e2'
   |some o=>
    rw[hci] at e2';cases o with
    |none=>cases e2'
    |some j=>
     obtain⟨x',hx1,hx2,hx3,hx4,hx5⟩:=hcap.2 i j hci;have ex:x=x':=by
      have e1':N'[i]?=we x:=e1;rw[hx1] at e1';exact(b9 e1').symm
     subst ex;have hσ:σ[j]?=we (we v):=by
      have z:(σ[j]?).join=we v:=b9 e2';cases hj:σ[j]? with
      |none=>rw[hj] at z;cases z
      |some o=>
       rw[hj] at z;cases o with
       |none=>cases z
       |some v'=>cases z;rfl
     obtain⟨m,hn,hl⟩:=I3.loc;obtain⟨u,r,l⟩:=hl j x v hx2 hσ (hx5.elim (fun z=>.inr (.inl z)) fun z=>.inr (.inr z));refine⟨u,r,?_⟩;rcases l with⟨k,_⟩|⟨_,c,hcx,hcell⟩
     ·have k':X.env.scope.names.lookup x=we .local:=k;rcases hx5 with z|z
      ·rw[k'] at z;cases z
      ·rw[k'] at z;cases z
     ·have hlk:cells.lookup x=we c:=by
       rw[<- hcs,gM hx4];obtain⟨c',hc'⟩:=tQ (env:=X.env) (acc:=[]) (dG hx3);rw[hc',<- clLook x c' hc',hcx]
      have e3':(relabel scope X.env).names.lookup x=we .local∨(relabel scope X.env).names.lookup x=we .cell∨(relabel scope X.env).names.lookup x=we .free:=e3;rcases e3' with z|z|z
      ·exfalso
       rcases fM z with z|⟨z,_⟩
       ·rw[hx3] at z;cases z
       ·cases z
      ·exact .inr ⟨.inl z,c,hlk,hcell.keeps k34⟩
      ·exact .inr ⟨.inr z,c,hlk,hcell.keeps k34⟩
  ·by_cases hlt:c<C
   ·obtain⟨v,z⟩:=I3.cell x c (cellOld x c hx hlt);exact⟨v,z.keeps k34⟩
   ·exact⟨wf,(cellNew x c hx hlt).1⟩
  ·by_cases hlt:c<C
   ·exact I3.freeC x c (cellOld x c hx hlt)
   ·exact Hnew c (by walk_at "adr")
  ·have hp':p∈X.pn++pins:=by
    have hp'':p∈(X.pn++pins)++[]:=hp;rwa [c3] at hp''
   obtain⟨e,n,ne,nf,d⟩:=I3.pin p hp';refine⟨k34 _ _ e,n,?_,fun z=> ?_,d⟩
   ·show p.1≠C
    have:=bi e
    walk_at "adr"
   ·rcases ah.mp (I3.stkSub p.1 z) with z|z
    ·exact ne z
    ·exact nf z
  ·show(ED caps σ).length=N'.length
   unfold ED;rw[ar];exact hcap.1
 have tn4:tn 0 h4:=T.keep 0 _ _ st2 fun b hb o e=>k34 b o (k23 b o e);have fr3:∀ b∈fp,H3 b=wf:=fun b hb=>by
  obtain⟨o,e,_⟩:=T.obj 0 _ st2 b hb;rw[<- hH3,aG (ci (bi e))];exact(f2 b hb).1
 have stat:∀ {H':Hp},(∀ b∈fp,H' b=wf)->∀ b∈fp,Ig (blk X N' scope cells C fp pins s3 H3) [] H' b:=fun hn b hb=>
  ⟨hn b hb,ci (hfpC b hb),fun z=>okB.exfs b hb z,.inl hb,fun x c hx=>(okB.exf b hb).2 x c hx,fun p hp=>by
   have hp':p∈X.pn++pins:=by
    have hp'':p∈(X.pn++pins)++[]:=hp;rwa [c3] at hp''
   exact(f2 b hb).2.2.2.2.2 p hp'⟩
 obtain⟨hG,hT,hE⟩:=hb cells C fp pins s3 H3;have loop:n8 (model X.prog X.w) X.A (.compLoop (.ListComp elt [⟨tg,iter,ifs,0⟩] scope pos) 0 (.ref it) (.ref s2.heap.objs.size) (compEnvC scope cells C X.env)) (RR (.ref s2.heap.objs.size) C) { s3 with heap:=h4 }:=by
  refine wG (fun n s'=>∃ i σ' H',Inv (blk X N' scope cells C fp pins s3 H3) [] σ' H' s'/\tn i s'.heap/\(∀ b∈fp,H' b=wf)/\W i n σ' H') ?_ m0 ⟨0,_,_,IB,tn4,fr3,w0⟩;rintro n s5 ⟨i,σ5,H5,I5,st5,fr5,w5⟩;rcases turn i n σ5 H5 w5 with⟨stop,qn⟩|⟨go,step⟩
  ·refine thn (T.done (blk X N' scope cells C fp pins s3 H3) rfl rfl rfl hc i [] s5 σ5 H5 _ I5 (stat fr5) st5 stop) fun r s6 ⟨hr,I6⟩=> ?_;subst hr;obtain⟨m6,ns6,_⟩:=I6.loc;have un7:Un (frs X.stack) fp H3 H5 s3.heap s6.heap:=I6.base;have I8:Inv X pins σ H5 s6:=by
    refine I3.call' (ch:=fp) I6.os un7 I6.hok I6.bare fun b hb=>⟨?_,(f2 b hb).2.1,(f2 b hb).2.2.2.2.1,(f2 b hb).2.2.2.2.2⟩;exact(f2 b hb).2.2.2.1
   refine hfin C s2.heap.objs.size s6 H5 I8 qn ⟨m6,ns6⟩ I6.free ?_ (by have:=I3.sz;walk_at "adr") (fun x c e=> ?_) fun p hp=> ?_
   ·have:=I3.lt
    walk_at "adr"
   ·have:=cellLt x c e
    walk_at "adr"
   ·have:=bi (I3.pin p hp).1
    walk_at "adr"
  ·refine thn (T.item (blk X N' scope cells C fp pins s3 H3) rfl rfl rfl hc i [] s5 σ5 H5 _ I5 (stat fr5) st5 go) fun r s6 ⟨u,hr,h6⟩=> ?_;subst hr;refine thn h6 fun _ s7 ⟨x,H7,I7,r7,y7,st7,fr7⟩=> ?_;have I7':=I7.pinned (stat fr7) (T.obj _ _ st7);have keepTn:∀ {σ':St}{H':Hp}{s':am},Inv (blk X N' scope cells C fp pins s3 H3) ([]++vE fp s7.heap) σ' H' s'->tn (i+1) s'.heap/\∀ b∈fp,H' b=wf:=fun {σ' H' s'} I'=>by
    refine⟨T.keep _ _ _ st7 fun b hb o e=>(I'.pin (b,o) (dr _ (dr _ (iX hb e)))).1,fun b hb=> ?_⟩;obtain⟨o,e,d⟩:=T.obj _ _ st7 b hb;exact(I'.pin (b,o) (dr _ (dr _ (iX hb e)))).2.1
   refine thn (hG _ s7 σ5 H7 x u _ I7' r7 (step x H7 y7)) fun _ s8 ⟨σ8,H8,I8,q8⟩=> ?_;refine thn (hT _ s8 σ8 H8 _ I8 q8) fun b s9 ⟨H9,I9,q9⟩=> ?_;cases b with
   |false=>
    rw[if_neg cf] at q9 ⊢;obtain⟨m',hm,w9⟩:=q9;exact⟨m',hm,i+1,σ8,H9,I9.unpinned,(keepTn I9).1,(keepTn I9).2,w9⟩
   |true=>
    rw[if_pos rfl] at q9 ⊢;refine thn (hE _ s9 σ8 H9 _ I9 q9) fun y s10 ⟨yv,H10,I10,r10,q10⟩=> ?_;obtain⟨ys,m',hy,hz,hm,w10⟩:=q10;refine thn (vI _ s10 σ8 H10 (.ref s2.heap.objs.size) [yv] (.ref s2.heap.objs.size) [y] (fun _ H'=>H'=upd H10 s2.heap.objs.size (.lst (ys++[yv]))) I10 rfl (.cons r10 .nil) ⟨_,ys,yv,rfl,rfl,hy,hz,rfl⟩) fun _ s11 ⟨_,H11,I11,_,e11⟩=> ?_;subst e11;exact⟨m',hm,i+1,σ8,_,I11.unpinned,(keepTn I11).1,(keepTn I11).2,w10⟩
 exact codeAny_compStart_list loop (T.self X.A 0 _ _ _ tn4 loop)
theorem IP (hc:X.calm=true) (hkind:scope.kind=.function) (hnames:∀ x∈scope.names,x.2=.local->scope.names.lookup x.1=we .local)
  (hfree:∀ y∈scope.names,y.2=.free->X.env.scope.names.lookup y.1=we .cell∨X.env.scope.names.lookup y.1=we .free) (huniq:∀ y∈scope.names,y.2=.free->(y.1,cu)∉scope.names)
  (hcap:AK X scope N' caps) (hi:PI X tg iter wi)
  (hb:∀ cells C fp pins s₀ H₀,PG (blk X N' scope cells C fp pins s₀ H₀) tg g/\KN (blk X N' scope cells C fp pins s₀ H₀) ifs tt/\PE (blk X N' scope cells C fp pins s₀ H₀) elt te)
  (hs:∀ x,f9 iter X.env x=pure x:=by intro _;rfl):PE X (.ListComp elt [⟨tg,iter,ifs,0⟩] scope pos) (Ik wi caps g tt te):=by
 intro pins s σ H Q I h;have hclos:=rM (scope:=scope) (env:=X.env) fun y hy hf=>I.ok.has y.1 (hfree y hy hf);rw[eval_ListComp];refine qk (use:=wf) rfl hs hclos hkind hnames (thn (hi pins s σ H _ I h) fun v s1 h1=>thn h1 fun itv s2 h2=> ?_);obtain⟨it,fp,tn,J,H2,e,I2,T,st2,f2,q⟩:=h2;subst e;refine wE (RR:=fun acc C=>compPost (model X.prog X.w) X.A X.xe wf (EP X pins σ Q) acc C) (Qn:=fun v H=>∀ a,v=.ref a->Q (.ref a) H) hc hkind hfree huniq hcap hb I2 T st2 f2 (fun D hD=> ?_) fun C D s6 H6 I6 q6 ⟨m6,ns6⟩ hC h1 h2 h3 h4=> ?_
 ·obtain⟨W,w0,turn⟩:=q D hD;refine⟨W,w0,fun i m σ' H w=> ?_⟩;rcases turn i m σ' H w with⟨a,b⟩|z
  ·exact .inl ⟨a,fun c hc=>by cases hc;exact b⟩
  ·exact .inr z
 ·refine⟨m6,ns6,fun h7 sb=> ?_⟩;have I8:Inv X pins σ H6 { s6 with heap:=h7 }:=I6.turned (t':=s6.toks) (fun b o hb e=>(sb.2 b hb).trans e) hC h1 (.inr h2) h3 h4;exact⟨.ref D,H6,I8,rfl,q6 D rfl⟩
noncomputable def La (wi:TI) (caps:List (Option Nat)) (g:TG) (tt:TT) (te:TE) (i:Nat):TS:=fun D σ H=>Ik wi caps g tt te σ H fun x H1=>D.nx (σ.set i (we x)) H1
theorem IE (hN:X.N.Nodup) (hiy:X.N[i]?=we y) (hy:X.env.scope.names.lookup y=we .local) (hc:X.calm=true) (hkind:scope.kind=.function) (hnames:∀ x∈scope.names,x.2=.local->scope.names.lookup x.1=we .local)
  (hfree:∀ y∈scope.names,y.2=.free->X.env.scope.names.lookup y.1=we .cell∨X.env.scope.names.lookup y.1=we .free) (huniq:∀ y∈scope.names,y.2=.free->(y.1,cu)∉scope.names)
  (hcap:AK X scope N' caps) (hi:PI X tg iter wi)
  (hb:∀ cells C fp pins s₀ H₀,PG (blk X N' scope cells C fp pins s₀ H₀) tg g/\KN (blk X N' scope cells C fp pins s₀ H₀) ifs tt/\PE (blk X N' scope cells C fp pins s₀ H₀) elt te)
  (hsw:i9 (.ListComp elt [⟨tg,iter,ifs,0⟩] scope pos) (we (.Name y py)) spos.line X.env=pure true:=by rfl)
  (hs:∀ x,f9 iter X.env x=pure x:=by intro _;rfl):PS X (.Assign [.Name y py] (.ListComp elt [⟨tg,iter,ifs,0⟩] scope pos) spos) (La wi caps g tt te i):=by
 intro pins s σ H D I h;have hclos:=rM (scope:=scope) (env:=X.env) fun y hy hf=>I.ok.has y.1 (hfree y hy hf);rw[exec_Assign_Name_used _ _ _ _ hsw];refine ae (tm (ae ?_));show aw _ X.A (do let _ <- comprehension (.ListComp elt [⟨tg,iter,ifs,0⟩] scope pos) scope X.env _ (newList []) false (eval iter X.env) (we (assign (.Name y py) X.env))) _ _ s;refine ae (gu (qk (use:=we (assign (.Name y py) X.env)) (Q:=fun _ s'=>SP X pins D .next s') rfl hs hclos hkind hnames
  (thn (hi pins s σ H _ I h) fun v s1 h1=>thn h1 fun itv s2 h2=> ?_)) (fun _ s' hq=>ak (ak hq)) fun _ _ e=>e)
 obtain⟨it,fp,tn,J,H2,e,I2,T,st2,f2,q⟩:=h2;subst e;refine wE (RR:=fun acc C=>compPost (model X.prog X.w) X.A X.xe (we (assign (.Name y py) X.env)) (fun _ s'=>SP X pins D .next s') acc C) (Qn:=fun v H=>∀ a,v=.ref a->D.nx (σ.set i (we (.ref a))) H) hc hkind hfree huniq hcap hb I2 T st2 f2 (fun D' hD=> ?_) fun C D' s6 H6 I6 q6 ⟨m6,ns6⟩ hC h1 h2 h3 h4=> ?_
 ·obtain⟨W,w0,turn⟩:=q D' hD;refine⟨W,w0,fun i m σ' H w=> ?_⟩;rcases turn i m σ' H w with⟨a,b⟩|z
  ·exact .inl ⟨a,fun c hc=>by cases hc;exact b⟩
  ·exact .inr z
 ·show aw _ X.A (assign (.Name y py) X.env (.ref D')) _ _ _;refine wpAny_assign_Name (uT I6 hN hiy (.inl hy) (v:=.ref D') (u:=.ref D') rfl (fun s7 I7 ⟨a,sb,ha⟩=> ?_) (.inr hy));have hCa:C≠a:=by
   rcases ha with rfl|ha
   ·exact h1
   ·exact fun z=>h3 y a ha z.symm
  refine⟨m6,ns6.sameBut sb hCa,fun h8 sb8=> ?_⟩;have I8:Inv X pins (σ.set i (we (.ref D'))) H6 { s7 with heap:=h8 }:=I7.turned (t':=s7.toks) (fun b o hb e=>(sb8.2 b hb).trans e) hC h1 (.inr h2) h3 h4;exact⟨_,H6,I8,q6 D' rfl⟩
end
set_option compiler.extract_closed false
local macro_rules| `(tactic|walk_at "adr")=> `(tactic|((try unfold af at*);omega))
noncomputable def Itz (K:aa) (l1 l2:af):It:=
 ⟨fun i H=>∃ xs ys x y,SqL K H l1 xs/\SqL K H l2 ys/\xs[i]?=we x/\ys[i]?=we y,
  fun i H v H'=>∃ T x y,v=.ref T/\H T=wf/\(∀ xs,SqL K H l1 xs->xs[i]?=we x)/\(∀ ys,SqL K H l2 ys->ys[i]?=we y)/\H'=upd H T (.tup [x,y]),
  fun i H=>∃ xs ys,SqL K H l1 xs/\SqL K H l2 ys/\(xs.length<=i∨ys.length<=i)⟩
theorem Fa {K:aa}{z TI TO i1 i2 l1 l2:af} (D:ZipApart z TI TO i1 i2 l1 l2):KB P w K (.Tuple es k pos) (Itz K l1 l2) [z,TI,TO,i1,i2] z
  (fun i h=>IsZip h z TI TO .none/\IsPair h TI (.ref i1) (.ref i2)/\(∃ a b,IsPair h TO a b)/\h.IsListIter i1 l1 i/\h.IsListIter i2 l2 i) where
 mem:=by simp
 obj:=fun i h st b hb=>by
  obtain⟨hz,hTI,⟨a,b',hTO⟩,⟨o1,e1,c1,d1⟩,⟨o2,e2,c2,d2⟩⟩:=st;simp only[ah,cj,or_false] at hb;rcases hb with rfl|rfl|rfl|rfl|rfl
  ·exact⟨_,hz,fun v q=>by cases (show Data.fields _=uf v from q)⟩
  ·exact⟨_,hTI,fun v q=>by cases (show Data.seq _ _=uf v from q)⟩
  ·exact⟨_,hTO,fun v q=>by cases (show Data.seq _ _=uf v from q)⟩
  ·exact⟨o1,e1,fun v q=>by rw[d1] at q;cases q⟩
  ·exact⟨o2,e2,fun v q=>by rw[d2] at q;cases q⟩
 keep:=fun i h h' st kp=>by
  obtain⟨hz,hTI,⟨a,b',hTO⟩,h1,h2⟩:=st;exact⟨kp z (by simp) _ hz,kp TI (by simp) _ hTI,⟨a,b',kp TO (by simp) _ hTO⟩,h1.at fun o e=>kp i1 (by simp) o e,h2.at fun o e=>kp i2 (by simp) o e⟩
 item:=by
  intro X hP hw hK hc i pins s σ H E I hf st hg;subst hP hw hK;obtain⟨hz,hTI,⟨a,b',hTO⟩,h1,h2⟩:=st;obtain⟨xs,ys,x,y,hq1,hq2,hx,hy⟩:=hg;obtain⟨its1,rv1,p1,hz1⟩:=I.list hq1;obtain⟨its2,rv2,p2,hz2⟩:=I.list hq2;obtain⟨u1,hu1,ru1⟩:=rv1.get hx;obtain⟨u2,hu2,ru2⟩:=rv2.get hy;have lt:∀ {c:af}{o:Obj},s.heap.get? c=we o->c<s.heap.objs.size:=fun e=>bi e;refine wpAny_pyNext_zip_item D hz hTI hTO h1 h2 p1.isList p2.isList (x:=u1) (y:=u2) (by simpa using hu1) (by simpa using hu2) fun h' a1 a2 a3 a4 a5 a6 hk=> ?_;refine⟨_,rfl,wpAny_letOwnedTupleGo_zip (s:={ s with heap:=h' }) a1 fun h'' z1 sb=> ?_⟩;have hTf:H s.heap.objs.size=wf:=I.hok.fresh (bc _);have hzlt:=lt hz;have up:∀ b o,b≠z->b≠TO->b≠i1->b≠i2->s.heap.get? b=we o->h''.get? b=we o:=fun b o n1 n2 n3 n4 e=>(sb.2 b n1).trans (hk b o n1 n2 n3 n4 e);have fpb:∀ b,b=z∨b=TO∨b=i1∨b=i2->b∈[z,TI,TO,i1,i2]:=fun b hb=>by
   rcases hb with rfl|rfl|rfl|rfl <;> simp
  have nT:∀ b,b∈[z,TI,TO,i1,i2]->b≠s.heap.objs.size:=fun b hb=>by
   obtain⟨o1,e1,_⟩:=h1;obtain⟨o2,e2,_⟩:=h2;simp only[ah,cj,or_false] at hb;rcases hb with rfl|rfl|rfl|rfl|rfl
   ·exact ci (lt hz)
   ·exact ci (lt hTI)
   ·exact ci (lt hTO)
   ·exact ci (lt e1)
   ·exact ci (lt e2)
  have trk:∀ b u,H b=we u->b∉[z,TI,TO,i1,i2]:=fun b u e hb=>by
   rw[(hf b hb).1] at e;cases e
  have upH:∀ b u o,H b=we u->s.heap.get? b=we o->h''.get? b=we o:=fun b u o e q=>
   up b o (fun w=>trk b u e (fpb b (.inl w))) (fun w=>trk b u e (fpb b (.inr (.inl w)))) (fun w=>trk b u e (fpb b (.inr (.inr (.inl w))))) (fun w=>trk b u e (fpb b (.inr (.inr (.inr w))))) q
  have hTup:IsTup h'' s.heap.objs.size #[u1,u2]:=⟨_,(sb.2 _ (Nat.ne_of_gt hzlt)).trans a5,rfl,_,rfl⟩;have hok:HOk X.prog X.w (upd H s.heap.objs.size (.tup [x,y])) h'':=fun b u e=>by
   by_cases hb:b=s.heap.objs.size
   ·subst hb;rw[aP] at e;cases e;exact⟨by show 2<=sizeLine;decide,[u1,u2],.cons ru1 (.cons ru2 .nil),hTup⟩
   ·rw[aG hb] at e;refine(I.hok b u e).stay (fun c v hcb q=> ?_) (fun c q=>by rw[aG (aN q hTf)];exact q) fun c zs q=>by rw[aG (aN q hTf)];exact q
    rcases hcb with rfl|hcb
    ·exact upH _ _ v e q
    ·exact upH _ _ v hcb q
  have I2:Inv X pins σ (upd H s.heap.objs.size (.tup [x,y])) { s with heap:=h'' }:=by
   refine I.step (g':=s.gens) (d':=s.drawn) (t':=s.toks) (ch:=[z,TO,i1,i2]) (fun b hb=> ?_) (fun b o hL hb hcb e n=> ?_) (fun b o hL hb hcb e n=>⟨o.slots,?_⟩) (fun b o hcb e n=> ?_) (fun b o hcb e=>⟨o,?_⟩)
    (fun b zs e=>by rw[aG (aN e hTf)];exact e) (fun b ob zs e=>by rw[aG (aN e hTf)];exact e) (fun b ps e=>⟨#[],by rw[aG (aN e hTf),e];simp⟩) (fun m hm=> ?_) hok I.bare
   ·have hb':b∈[z,TI,TO,i1,i2]:=by
     simp only[ah,cj,or_false] at hb;exact fpb b hb
    obtain⟨f0,f1,f2,f3,f4,f5⟩:=hf b hb';exact⟨f3,f1,f4,f5⟩
   ·simp only[ah,cj,or_false,not_or] at hcb;exact up b o hcb.1 hcb.2.1 hcb.2.2.1 hcb.2.2.2 e
   ·simp only[ah,cj,or_false,not_or] at hcb;exact up b o hcb.1 hcb.2.1 hcb.2.2.1 hcb.2.2.2 e
   ·rw[aG (ci (lt e))];exact n
   ·simp only[ah,cj,or_false,not_or] at hcb;exact up b o hcb.1 hcb.2.1 hcb.2.2.1 hcb.2.2.2 e
   ·obtain⟨o,es',ep,ho,r⟩:=hm;exact⟨o,es',ep,up _ o (fun q=>(hf z (by simp)).2.1 q.symm) (fun q=>(hf TO (by simp)).2.1 q.symm) (fun q=>(hf i1 (by simp)).2.1 q.symm) (fun q=>(hf i2 (by simp)).2.1 q.symm) ho,r⟩
  refine⟨.ref s.heap.objs.size,_,I2,rfl,⟨s.heap.objs.size,x,y,rfl,hTf,fun zs q=>by rw[I.list_inj q hq1];exact hx,fun zs q=>by rw[I.list_inj q hq2];exact hy,rfl⟩,?_,fun b hb=> ?_⟩
  ·exact⟨z1,(sb.2 _ D.TIz).trans (hk _ _ D.TIz D.TITO D.TIi1 D.TIi2 hTI),⟨_,_,(sb.2 _ D.TOz).trans a2⟩,a3.at fun o e=>(sb.2 _ D.i1z).trans e,a4.at fun o e=>(sb.2 _ D.i2z).trans e⟩
  ·rw[aG (nT b hb)];exact(hf b hb).1
 done:=by
  intro X hP hw hK hc i pins s σ H E I hf st hg;subst hP hw hK;obtain⟨hz,hTI,⟨a,b',hTO⟩,h1,h2⟩:=st;obtain⟨xs,ys,hq1,hq2,hx⟩:=hg;obtain⟨its1,rv1,p1,hz1⟩:=I.list hq1;obtain⟨its2,rv2,p2,hz2⟩:=I.list hq2;have hl1:=rv1.length;have hl2:=rv2.length;refine wpAny_pyNext_zip_end (I.ok.hd hc) D hz hTI hTO h1 h2 p1.isList p2.isList ?_ fun h' hk=>⟨rfl,?_⟩
  ·rcases hx with hx|hx
   ·exact .inl (by simp;omega)
   ·exact .inr (by simp;omega)
  ·have trk:∀ b u,H b=we u->b∉[z,TI,TO,i1,i2]:=fun b u e hb=>by
    rw[(hf b hb).1] at e;cases e
   have up:∀ b o,b∉[z,TO,i1,i2]->s.heap.get? b=we o->h'.get? b=we o:=fun b o hb e=>by
    simp only[ah,cj,or_false,not_or] at hb;exact hk b o hb.1 hb.2.1 hb.2.2.1 hb.2.2.2 e
   have sub:∀ b,b∈[z,TO,i1,i2]->b∈[z,TI,TO,i1,i2]:=fun b hb=>by
    simp only[ah,cj,or_false] at hb ⊢;rcases hb with rfl|rfl|rfl|rfl <;> simp
   refine I.step (g':=s.gens) (d':=s.drawn) (t':=s.toks) (ch:=[z,TO,i1,i2]) (fun b hb=> ?_) (fun b o hL hb hcb e n=>up b o hcb e) (fun b o hL hb hcb e n=>⟨o.slots,up b o hcb e⟩) (fun b o hcb e n=>n) (fun b o hcb e=>⟨o,up b o hcb e⟩)
    (fun b zs e=>e) (fun b ob zs e=>e) (fun b ps e=>⟨#[],by rw[e];simp⟩) (fun m hm=> ?_) (fun b u e=> ?_) I.bare
   ·obtain⟨f0,f1,f2,f3,f4,f5⟩:=hf b (sub b hb);exact⟨f3,f1,f4,f5⟩
   ·obtain⟨o,es',ep,ho,r⟩:=hm;exact⟨o,es',ep,up _ o (fun q=>(hf _ (sub _ q)).2.1 rfl) ho,r⟩
   ·refine(I.hok b u e).stay (fun c v hcb q=>up c v (fun w=> ?_) q) (fun _ q=>q) fun _ _ q=>q;rcases hcb with rfl|hcb
    ·exact trk _ _ e (sub _ w)
    ·exact trk _ _ hcb (sub _ w)
 self:=fun _ _ _ _ _ st h=>wpAny_pyIter_zip st.1 h
noncomputable def PZ (K:aa) (ta:TA):TI:=fun σ H R=>ta σ H fun vs H1=>∃ a b,vs=[.ref a,.ref b]/\(∃ xs,SqL K H1 a xs)/\(∃ ys,SqL K H1 b ys)/\R (Itz K a b) H1
section
variable {X:Cx}
theorem Lq (hg:Gl X "zip") (hm:X.mg "zip"=wf) (ha:PA X [a,b] ta) (hs:av [a,b] X.env=[(false,eval a X.env),(false,eval b X.env)]:=by rfl) (hs2:av [b] X.env=[(false,eval b X.env)]:=by rfl):
  PI X (.Tuple es k tp) (.Call (.Name "zip" p) [a,b] [] pos) (PZ X.K ta):=by
 intro pins s σ H R I h;refine Call_ (vK I hg hm PyProof.Rows.boot_zip (ku (thn (ha pos pins s σ H _ I h) fun us s1 ⟨vs,H1,I1,r1,q1⟩=> ?_) (by rw[hs,hs2]) (by rw[hs2];rfl)));obtain⟨a1,b1,e,⟨xs,hx⟩,⟨ys,hy⟩,q⟩:=q1;subst e;obtain⟨u1,u2,rfl,ru1,ru2⟩:=EZ r1;cases ru1;cases ru2;obtain⟨its1,rv1,p1,hz1⟩:=I1.list hx;obtain⟨its2,rv2,p2,hz2⟩:=I1.list hy;have lt1:a1<s1.heap.objs.size:=by obtain⟨o,_,e,_⟩:=p1;exact bi e
 have lt2:b1<s1.heap.objs.size:=by obtain⟨o,_,e,_⟩:=p2;exact bi e
 refine call_zip_2 p1.isList p2.isList fun h' hz hTI hTO hi1 hi2 hsz hk=> ?_;have I2:Inv X pins σ H1 { s1 with heap:=h' }:=I1.kept (t':=s1.toks) hk;refine wpAny_pyIter_zip (s:={ s1 with heap:=h' }) hz ?_;refine⟨_,[_,_,_,_,_],_,_,H1,rfl,I2,Fa (zipApart_new lt1 lt2),⟨hz,hTI,⟨_,_,hTO⟩,hi1,hi2⟩,fun b hb=> ?_,q⟩;have hb':s1.heap.objs.size<=b:=by
  simp only[ah,cj,or_false] at hb;rcases hb with rfl|rfl|rfl|rfl|rfl <;> walk_at "adr"
 exact I1.fpOk hb' (I1.hok.fresh hb')
end
noncomputable def Fk (ok:Okk) (H:Hp):Hp:=fun b=>@ite _ (ok b) (j9 _) (H b) wf
theorem Fi (h:ok b):Fk ok H b=H b:=by unfold Fk;rw[if_pos h]
theorem Fj (h:¬ ok b):Fk ok H b=wf:=by unfold Fk;rw[if_neg h]
theorem kD (h:Fk ok H b=we o):ok b/\H b=we o:=by
 by_cases k:ok b
 ·rw[Fi k] at h;exact⟨k,h⟩
 ·rw[Fj k] at h;cases h
structure ItD (K:aa) (al:Nat->Option af) (H0:Hp) (J:It) (ds:List D):Prop where
 go:∀ i H,Same H0 H->i<ds.length->J.go i H
 yld:∀ i H x H' d,Same H0 H->J.yld i H x H'->ds[i]?=we d->Same H H'/\Rep K ⟨fun b=>H0 b≠wf∨H b=wf,al⟩ H' x d
 stop:∀ i H,Same H0 H->ds.length<=i->J.stop i H
theorem _root_.L2.PI.imp (h:PI X tg e t) (f:∀ σ H R,t' σ H R->t σ H R):PI X tg e t':=fun pins s σ H R I q=>h pins s σ H R I (f _ _ _ q)
section
variable {X:Cx}{tg e a b c:br}{f fa fb fc:DF}{fl:DL}{pos p:Pos}
noncomputable def pT (lo:Int) (n:Nat):List D:=(bu n).map fun k=>D.int (lo+(k:Nat))
theorem fK (lo:Int) (n:Nat):(pT lo n).length=n:=by simp[pT]
theorem Fh {lo:Int} (h:(pT lo n)[i]?=we d):i<n/\d=.int (lo+(i:Nat)):=by
 unfold pT at h;rw[bf] at h;obtain⟨k,e,rfl⟩:=aJ h;obtain⟨hi,e'⟩:=bh.mp e;rw[ib] at hi;rw[pf] at e';subst e';exact⟨hi,rfl⟩
theorem itD_range {K:aa}{lo:Int}:ItD K al H0 (Itr lo n) (pT lo n):=
 ⟨fun i H _ hi=>by rw[fK] at hi;exact hi,fun i H x H' d _ y hd=>by
  obtain⟨rfl,rfl⟩:=y;obtain⟨_,rfl⟩:=Fh hd;exact⟨Same.refl _,.int _⟩,fun i H _ hi=>by rw[fK] at hi;exact hi⟩
noncomputable def jA (ds:List D):Option (List D):=match ds with
 |[.int j]=>if -1000000000<=j/\j<=1000000000 then we (pT 0 j.toNat) else wf
 |_=>wf
noncomputable def wU (xs ys:List D):List D:=bp (fun x y=>D.tup [x,y]) xs ys
noncomputable abbrev BR:=D->Rho->Option Rho
noncomputable def gR (K:aa) (bd:BR):TG:=fun v σ H Q=>∃(ok:Okk) (ρ ρ':Rho) (d:D),EnvR K ok H σ ρ/\σ.length=ρ.length/\Rep K ok H v d/\bd d ρ=we ρ'/\∀ σ',EnvR K ok H σ' ρ'->σ'.length=ρ'.length->Q σ' H
noncomputable def bG (i:Nat):BR:=fun d ρ=>we (ρ.set i (we d))
theorem _root_.L2.PG.imp (h:PG X tg t) (f:∀ v σ H Q,t' v σ H Q->t v σ H Q):PG X tg t':=fun pins s σ H v u Q I r q=>h pins s σ H v u Q I r (f _ _ _ _ q)
theorem EnvR.set {K:aa} (h:EnvR K ok H σ ρ) (hl:σ.length=ρ.length) (r:Rep K ok H v d) (i:Nat):EnvR K ok H (σ.set i (we v)) (ρ.set i (we d)):=fun j e hj=>by
 by_cases hij:i=j
 ·subst hij
  by_cases hi:i<ρ.length
  ·rw[dm hi] at hj;cases hj;exact⟨v,by rw[dm (by omega)],r⟩
  ·rw[c9 (by rw[cg];omega)] at hj;cases hj
 ·rw[fu hij] at hj;obtain⟨w,a,b⟩:=h j e hj;exact⟨w,by rw[fu hij];exact a,b⟩
theorem JZ (hN:X.N.Nodup) (hi:X.N[i]?=we x) (hx:Loc X.env.scope x) (hf:X.fn x=true∨X.env.scope.names.lookup x=we .local:=by first|exact .inl rfl|exact .inr rfl|assumption):PG X (.Name x tp) (gR X.K (bG i)):=
 PG.imp (xE hN hi hx hf) fun v σ H Q ⟨ok,ρ,ρ',d,h1,h2,h3,h4,h5⟩=>by
  cases h4;exact h5 _ (h1.set h2 h3 i) (by rw[cg,cg];exact h2)
noncomputable def pG (i j:Nat):BR:=fun d ρ=>match d with
 |.tup [x,y]=>we ((ρ.set i (we x)).set j (we y))
 |_=>wf
theorem JY (hc:X.calm=true) (hN:X.N.Nodup) (hi:X.N[i]?=we x) (hj:X.N[j]?=we y) (hx:Loc X.env.scope x) (hy:Loc X.env.scope y)
  (hf:X.fn x=true∨X.env.scope.names.lookup x=we .local:=by first|exact .inl rfl|exact .inr rfl|assumption) (hf2:X.fn y=true∨X.env.scope.names.lookup y=we .local:=by first|exact .inl rfl|exact .inr rfl|assumption):
  PG X (.Tuple [.Name x p1,.Name y p2] k tp) (gR X.K (pG i j)):=
 PG.imp (Ls (n:=2) hc (Ad (xE hN hi hx hf) (Ad (xE hN hj hy hf2) IJ))) fun v σ H Q ⟨ok,ρ,ρ',d,h1,h2,h3,h4,h5⟩=>by
  unfold pG at h4;split at h4
  ·cases h4;obtain⟨a,xs,rfl,g,r⟩:=h3.tup_inv;obtain⟨v1,v2,rfl,r1,r2⟩:=r.two_inv;refine⟨a,_,rfl,g.sq,rfl,v1,_,rfl,v2,_,rfl,rfl,?_⟩;refine h5 _ ((h1.set h2 r1 i).set (by rw[cg,cg];exact h2) r2 j) ?_;simp only[cg];exact h2
  ·cases h4
noncomputable def EX (caps:List (Option Nat)) (ρ:Rho):Rho:=caps.map fun o=>o.bind fun j=>(ρ[j]?).join
noncomputable def mT:DB:=fun _=>we true
theorem EnvR.cap {K:aa} (h:EnvR K ok H σ ρ) (caps:List (Option Nat)):EnvR K ok H (ED caps σ) (EX caps ρ):=fun i d e=>by
 unfold EX at e;rw[bf] at e;obtain⟨o,e1,e2⟩:=aJ e;cases o with
 |none=>cases e2
 |some j=>
  have e3:(ρ[j]?).join=we d:=e2;have e4:ρ[j]?=we (we d):=by
   cases q:ρ[j]? with
   |none=>rw[q] at e3;cases e3
   |some o=>
    rw[q] at e3;cases o with
    |none=>cases e3
    |some d'=>cases e3;rfl
  obtain⟨v,a,b⟩:=h j d e4;refine⟨v,?_,b⟩;unfold ED;rw[bf,e1];show we ((σ[j]?).join)=_;rw[a];rfl
theorem Ky (caps:List (Option Nat)) (σ:St) (ρ:Rho):(ED caps σ).length=(EX caps ρ).length:=by simp[ED,EX]
variable {elt iter:br}{ifs:List br}{scope:j6}{N':List Str}{caps:List (Option Nat)}{fi:DL}{bd:BR}{t:DB}
structure EW (X:Cx) (scope:j6) (N':List Str) (caps:List (Option Nat)):Prop where
 calm:X.calm=true
 kind:scope.kind=.function
 names:∀ x∈scope.names,x.2=.local->scope.names.lookup x.1=we .local
 free:∀ y∈scope.names,y.2=.free->X.env.scope.names.lookup y.1=we .cell∨X.env.scope.names.lookup y.1=we .free
 uniq:∀ y∈scope.names,y.2=.free->(y.1,cu)∉scope.names
 cap:AK X scope N' caps
end
section
variable {K:aa}{ok0:Okk}{H0 H H':Hp}{σ:St}{ρ:Rs}{A:Nat->Option af}
theorem Cr {l:List α} (h:(l.set i a)[j]?=we b):(j=i/\i<l.length/\b=a)∨(j≠i/\l[j]?=we b):=by
 by_cases e:i=j
 ·subst e
  by_cases hi:i<l.length
  ·rw[dm hi] at h;exact .inl ⟨rfl,hi,(b9 h).symm⟩
  ·rw[c9 (by rw[cg];omega)] at h;cases h
 ·rw[fu e] at h;exact .inr ⟨fun z=>e z.symm,h⟩
end
section
variable {X:Cx}{st:cq}{rest body els:List cq}{tg e a b c iter:br}{es:List br}{f fa fb:DF}{fl fi:DL}{t:DB}{F G:DS}{bd:BS}{pos p:Pos}{M:List Nat}
end
theorem Er (hr:Room k A) (h:n<=200:=by decide):A.units+n<dq:=by
 have:=hr.un
 omega
end L2.MB
end
section
namespace L2.MB
noncomputable def kC:List D->Option (List Int)
 |[]=>we []
 |.int i::ds=>(kC ds).map fun ns=>i::ns
 |_::_=>wf
theorem lC:∀ {ds:List D}{ns:List Int},kC ds=we ns->ds=ns.map D.int
 |[],ns,h=>by cases h;rfl
 |.int i::ds,ns,h=>by
  have h':(kC ds).map (fun ns=>i::ns)=we ns:=h;obtain⟨ms,e,rfl⟩:=aJ h';rw[lC e];rfl
 |.non::_,_,h=>nomatch h
 |.bl _::_,_,h=>nomatch h
 |.str _::_,_,h=>nomatch h
 |.lst _::_,_,h=>nomatch h
 |.tup _::_,_,h=>nomatch h
section
variable {X:Cx}{e a b c:br}{es:List br}{f fa fb fc:DF}{fl:DL}{pos p:Pos}
theorem xP (h:Vals (ns.map V.int) its):∃ xs:Array (Int×Tok),its.toArray=intItems xs/\xs.toList.map (·.1)=ns:=by
 have hi:=By h;obtain⟨xs,e⟩:=(hi.allInts).items;refine⟨xs,e,?_⟩;rw[<- nums_intItems,<- e];exact hi.numsOf
theorem wJ (hc:X.calm=true):CallR X (.builtin "sum") (fun xs H Q=>∃(p:af) (ns:List Int),xs=[.ref p]/\SqL X.K H p (ns.map V.int)/\Q (.int ns.sum) H):=by
 intro pins s σ H xs us Q I r h;obtain⟨p,ns,rfl,hq,q⟩:=h;obtain⟨u,rfl,rx⟩:=lX r;cases rx;obtain⟨its,r',pl,hz⟩:=I.list hq;obtain⟨ys,e1,e2⟩:=xP r';refine sum_intListG (I.ok.hd hc) (by rw[<- e1];exact pl.isList) fun h' tk t' k=> ?_;rw[preSum_eq,rn (by simp),e2];exact⟨.int ns.sum,H,I.kept k,⟨_,rfl⟩,q⟩
noncomputable def Nt (ds:List D):Option D:=match ds with
 |[.lst xs]=>(kC xs).map fun ns=>.int ns.sum
 |_=>wf
noncomputable def vW (ds:List D):Option D:=match ds with
 |[.int i,.int j]=>we (.int (if j>i then j else i))
 |_=>wf
noncomputable def GA (ds:List D):Option D:=match ds with
 |[.int i,.int j]=>we (.int (if j<i then j else i))
 |_=>wf
noncomputable def Nv (ds:List D):Option D:=match ds with
 |[.int i]=>we (.int i)
 |[.bl k]=>we (.int (if k then 1 else 0))
 |[.str x]=>if x.length<=640 then(o9 x).map D.int else wf
 |_=>wf
theorem PX {K:aa} (r:Reps K ok H vs [.lst xs]):∃ p ys,vs=[.ref p]/\RL K ok H p ys/\Reps K ok H ys xs:=by
 obtain⟨v,rfl,r1⟩:=r.one_inv;obtain⟨p,ys,rfl,g,r2⟩:=r1.lst_inv;exact⟨p,ys,rfl,g,r2⟩
theorem Kg {K:aa}:FitL K (fun xs H Q=>∃(p:af) (ns:List Int),xs=[.ref p]/\SqL K H p (ns.map V.int)/\Q (.int ns.sum) H) Nt:=fun ok H xs as d Q h1 r e k=>by
 unfold Nt at e;split at e
 ·obtain⟨ns,e1,rfl⟩:=aJ e;obtain rfl:=lC e1;obtain⟨p,ys,rfl,g,r2⟩:=PX r;obtain rfl:=r2.of_ints;exact⟨p,ns,rfl,g.sq,k _ H (Same.refl H) (.int _)⟩
 ·cases e
theorem GL {K:aa}:FitL K (fun xs H Q=>∃ i j,xs=[.int i,.int j]/\Q (.int (if j>i then j else i)) H) vW:=fun ok H xs as d Q h1 r e k=>by
 unfold vW at e;split at e
 ·cases e;obtain⟨v,v',rfl,r1,r2⟩:=r.two_inv;obtain rfl:=r1.int_inv;obtain rfl:=r2.int_inv;exact⟨_,_,rfl,k _ H (Same.refl H) (.int _)⟩
 ·cases e
theorem GK {K:aa}:FitL K (fun xs H Q=>∃ i j,xs=[.int i,.int j]/\Q (.int (if j<i then j else i)) H) GA:=fun ok H xs as d Q h1 r e k=>by
 unfold GA at e;split at e
 ·cases e;obtain⟨v,v',rfl,r1,r2⟩:=r.two_inv;obtain rfl:=r1.int_inv;obtain rfl:=r2.int_inv;exact⟨_,_,rfl,k _ H (Same.refl H) (.int _)⟩
 ·cases e
theorem EJ:CallR X (.type "int") (fun xs H Q=>∃ x n,xs=[.str x]/\x.length<=640/\o9 x=we n/\Q (.int n) H):=by
 intro pins s σ H xs us Q I r h;obtain⟨x,n,rfl,hz,hn,q⟩:=h;obtain⟨u,rfl,t,rfl⟩:=lX r;exact PySem.W.KIN.call_text hn hz ⟨.int n,H,I.tok _,⟨_,rfl⟩,q⟩
theorem Kl {K:aa}:FitL K (fun xs H Q=>((∃ i,xs=[.int i]/\Q (.int i) H)∨∃ k,xs=[.bl k]/\Q (.int (if k then 1 else 0)) H)∨∃ x n,xs=[.str x]/\x.length<=640/\o9 x=we n/\Q (.int n) H) Nv:=fun ok H xs as d Q h1 r e k=>by
 unfold Nv at e;split at e
 ·cases e;obtain⟨v,rfl,r1⟩:=r.one_inv;obtain rfl:=r1.int_inv;exact .inl (.inl ⟨_,rfl,k _ H (Same.refl H) (.int _)⟩)
 ·cases e;obtain⟨v,rfl,r1⟩:=r.one_inv;obtain rfl:=r1.bl_inv;exact .inl (.inr ⟨_,rfl,k _ H (Same.refl H) (.int _)⟩)
 ·rename_i x
  by_cases hz:x.length<=640
  ·rw[if_pos hz] at e;obtain⟨n,e1,rfl⟩:=aJ e;obtain⟨v,rfl,r1⟩:=r.one_inv;obtain rfl:=r1.str_inv;exact .inr ⟨x,n,rfl,hz,e1,k _ H (Same.refl H) (.int _)⟩
  ·rw[if_neg hz] at e;cases e
 ·cases e
theorem EK:CallR X (.type "int") (fun xs H Q=>((∃ i,xs=[.int i]/\Q (.int i) H)∨∃ k,xs=[.bl k]/\Q (.int (if k then 1 else 0)) H)∨∃ x n,xs=[.str x]/\x.length<=640/\o9 x=we n/\Q (.int n) H):=call_int1.or EJ
theorem rE (a:Array Nat):∀(k:Nat) (acc:Array Nat),((ao k a).foldl (· ++·) acc).size=acc.size+k*a.size
 |0,acc=>by simp
 |k+1,acc=>by
  rw[eu,vd,rE a k,Array.size_append,Nat.succ_mul];omega
noncomputable def Nq (x:Str) (n:Int):Str:=if n<1 then Str.empty else if(n==1||x.length==0)=true then x else⟨(ao n.toNat x.cps).foldl (· ++·) #[]⟩
noncomputable def Ke (a b:D):Option D:=match a,b with
 |.str x,.int n=>if 0<=n/\n<=100000/\x.length<=100 then we (.str (Nq x n)) else wf
 |_,_=>wf
theorem Jh:OpR X (jw .Mult) (fun x y H Q=>∃ z n,x=.str z/\y=.int n/\(0<=n/\n<=100000/\z.length<=100)/\Q (.str (Nq z n)) H):=by
 intro pins s σ H x y v u Q I rx ry h;obtain⟨z,n,rfl,rfl,⟨h0,h1,h2⟩,q⟩:=h;obtain⟨t,rfl⟩:=rx;obtain⟨t',rfl⟩:=ry;refine PySem.P.mul_str ?_ (fun hn _=> ?_) (fun hn _=> ?_) ?_
 ·have e1:decide (n< -(2 ^ 63:Int))=false:=decide_eq_false (by omega);have e2:decide (n≥2 ^ 63)=false:=decide_eq_false (by omega);rw[e1,e2,Bool.or_false]
 ·have h3:n<=100000:=h1
  have:(100:Int)<=(2 ^ 63-1) / n:=by
   refine(Int.le_ediv_iff_mul_le (by omega)).mpr ?_;omega
  have h4:(z.length:Int)<=100:=by omega
  omega
 ·have hle:z.length*n.toNat<=100*100000:=Nat.mul_le_mul h2 (by omega);have hs:=bw
  first|exact decide_eq_false (by omega)|(simp[Builtin.Str.tooLong];omega)|(simp[tooLong];omega)
 ·unfold Nq at q;split
  ·rename_i hn
   rw[if_pos hn] at q;exact⟨by show 0<=sizeLine;exact ic _,.str _,H,I.tok _,⟨_,rfl⟩,q⟩
  ·rename_i hn
   rw[if_neg hn] at q;split
   ·rename_i hz
    rw[if_pos hz] at q;exact⟨.str _,H,I,⟨_,rfl⟩,q⟩
   ·rename_i hz
    rw[if_neg hz] at q;refine⟨?_,.str _,H,I.tok _,⟨_,rfl⟩,q⟩
    show((ao n.toNat z.cps).foldl (· ++·) #[]).size<=sizeLine
    rw[rE,bw];have hle:n.toNat*z.cps.size<=100000*100:=Nat.mul_le_mul (by omega) h2;simp only[az,ke];omega
end
section
variable {X:Cx}{tg e a b c:br}{f fa fb fc:DF}{fl:DL}{pos p:Pos}
end
noncomputable def yR (scope:j6):Bool:=scope.names.all fun y=> !(y.2== .local)||scope.names.lookup y.1==we .local
noncomputable def EB (out scope:j6):Bool:=scope.names.all fun y=> !(y.2== .free)||((out.names.lookup y.1==we .cell||out.names.lookup y.1==we .free)&& !(scope.names.contains (y.1,cu)))
noncomputable def wH (N:List Str) (out scope:j6) (x:Str):Option Nat->Bool
 |none=>true
 |some j=>N[j]?==we x&&scope.names.lookup x==we .free&& !(scope.names.contains (x,cu))&&(out.names.lookup x==we .cell||out.names.lookup x==we .free)
noncomputable def lU (N:List Str) (out scope:j6):List Str->List (Option Nat)->Bool
 |[],[]=>true
 |x::xs,c::cs=>wH N out scope x c&&lU N out scope xs cs
 |_,_=>false
theorem rO:∀ {xs:List Str}{cs:List (Option Nat)},lU N out scope xs cs=true->cs.length=xs.length
 |[],[],_=>rfl
 |x::xs,c::cs,h=>by
  have h':(wH N out scope x c&&lU N out scope xs cs)=true:=h;rw[bq] at h';simp[rO h'.2]
 |[],_::_,h=>nomatch h
 |_::_,[],h=>nomatch h
theorem rP:∀ {xs:List Str}{cs:List (Option Nat)}{i j:Nat},lU N out scope xs cs=true->cs[i]?=we (we j)->∃ x,xs[i]?=we x/\wH N out scope x (we j)=true
 |[],[],i,j,_,h=>by simp at h
 |x::xs,c::cs,i,j,h,h2=>by
  have h':(wH N out scope x c&&lU N out scope xs cs)=true:=h;rw[bq] at h';cases i with
  |zero=>
   simp at h2;subst h2;exact⟨x,rfl,h'.1⟩
  |succ i=>
   simp at h2;obtain⟨y,e,q⟩:=rP (i:=i) h'.2 h2;exact⟨y,by simpa using e,q⟩
 |[],_::_,_,_,h,_=>nomatch h
 |_::_,[],_,_,h,_=>nomatch h
theorem wF (h1:X.calm=true) (h2:scope.kind=.function) (h3:yR scope=true) (h4:EB X.env.scope scope=true) (h5:lU X.N X.env.scope scope N' caps=true):EW X scope N' caps:=by
 refine⟨h1,h2,fun x hx hl=> ?_,fun y hy hf=> ?_,fun y hy hf hm=> ?_,rO h5,fun i j hij=> ?_⟩
 ·have:=fz.mp h3 x hx
  rw[hl] at this;simpa using this
 ·have:=fz.mp h4 y hy
  rw[hf] at this;simp at this;exact this.1
 ·have:=fz.mp h4 y hy
  rw[hf] at this;simp at this;exact this.2 hm
 ·obtain⟨x,e,q⟩:=rP h5 hij;unfold wH at q;simp only[bq,iw,beq_iff_eq,ux,List.contains_eq_mem,decide_eq_false_iff_not] at q;exact⟨x,e,q.1.1.1,q.1.1.2,q.1.2,q.2⟩
namespace boot
theorem len:db "len"=we (.builtin "len"):=by decide+kernel
theorem sum:db "sum"=we (.builtin "sum"):=by decide+kernel
theorem min:db "min"=we (.builtin "min"):=by decide+kernel
theorem max:db "max"=we (.builtin "max"):=by decide+kernel
theorem sorted:db "sorted"=we (.builtin "sorted"):=by decide+kernel
theorem list:db "list"=we (.type "list"):=by decide+kernel
theorem tuple:db "tuple"=we (.type "tuple"):=by decide+kernel
theorem int:db "int"=we (.type "int"):=by decide+kernel
theorem bool:db "bool"=we (.type "bool"):=by decide+kernel
theorem str:db "str"=we (.type "str"):=by decide+kernel
end boot
structure Bn (mg:Str->Option ag):Prop where
 len:mg "len"=wf
 range:mg "range"=wf
 zip:mg "zip"=wf
 sum:mg "sum"=wf
 all:mg "all"=wf
 min:mg "min"=wf
 max:mg "max"=wf
 sorted:mg "sorted"=wf
 isinstance:mg "isinstance"=wf
 list:mg "list"=wf
 tuple:mg "tuple"=wf
 int:mg "int"=wf
 bool:mg "bool"=wf
 str:mg "str"=wf
theorem bn_mk {K:aa} (X:K.In h) (G:h.Ns b8 mg) (h1:ck K b8 "len"=we wf) (h2:ck K b8 "range"=we wf) (h3:ck K b8 "zip"=we wf)
  (h4:ck K b8 "sum"=we wf) (h5:ck K b8 "all"=we wf) (h6:ck K b8 "min"=we wf) (h7:ck K b8 "max"=we wf) (h8:ck K b8 "sorted"=we wf)
  (h9:ck K b8 "isinstance"=we wf) (h10:ck K b8 "list"=we wf) (h11:ck K b8 "tuple"=we wf) (h12:ck K b8 "int"=we wf) (h13:ck K b8 "bool"=we wf)
  (h14:ck K b8 "str"=we wf):Bn mg:=
 ⟨c4 X G h1,c4 X G h2,c4 X G h3,c4 X G h4,c4 X G h5,c4 X G h6,c4 X G h7,c4 X G h8,c4 X G h9,c4 X G h10,c4 X G h11,c4 X G h12,
  c4 X G h13,c4 X G h14⟩
noncomputable def FnIn (K:aa) (x:Str) (st:cq):Prop:=∃(f:af) (oc:ag) (od an:Option af) (osl:Array (Option ag)) (kV doc pm cdv ct:ag),ck K b8 x=we (we (.ref f))/\
 K.lookup f=we ⟨oc,od,.func (ig x x (gK st) (fI st) (bE st) .none kV doc pm an cdv ct),osl⟩/\ju K cdv x=true/\gk K (.ref f)=true
theorem fnIn_mk {K:aa}{st:cq}{kV doc pm cdv ct:ag} (a:ck K b8 x=we (we (.ref f)))
  (l:K.lookup f=we ⟨oc,od,.func (ig x x (gK st) (fI st) (bE st) .none kV doc pm an cdv ct),osl⟩) (c:ju K cdv x=true) (k:gk K (.ref f)=true):FnIn K x st:=
 ⟨f,oc,od,an,osl,kV,doc,pm,cdv,ct,a,l,c,k⟩
structure Ny (K:aa) (mg:Str->Option ag) (x:Str) (st:cq) (f:af) (fd:ji):Prop where
 fn:Fun K x x st f fd
 at_:mg x=we (.ref f)
theorem FnIn.fnAt {K:aa}{st:cq} (I:FnIn K x st) (X:K.In h) (G:h.Ns b8 mg):∃ f fd,Ny K mg x st f fd:=by
 obtain⟨f,oc,od,an,osl,kV,doc,pm,cdv,ct,a,l,c,k⟩:=I;exact⟨f,_,HX l c k,m7 X G a⟩
inductive Ob where
 /-- an instance of the c-th class;a list;a dict by tuples;a dict by texts and ints -/
 |ins (c:Nat) (fs:List (Str×D))|ml (ds:List D)|dt (kvs:List (List Key×D))|dk (kvs:List (Key×D))
 /-- a dict by tuples while a loop walks it -/
 |dz (kvs:List (List Key×D))
noncomputable abbrev Om:=List Ob
inductive KvR {κ:Type} (K:aa) (ok:Okk) (H:Hp):List (κ×V)->List (κ×D)->Prop
 |nil:KvR K ok H [] []
 |cons {k:κ}{v:V}{d:D}{vs:List (κ×V)}{ds:List (κ×D)}:Rep K ok H v d->KvR K ok H vs ds->KvR K ok H ((k,v)::vs) ((k,d)::ds)
section
variable {κ:Type}{K:aa}{ok ok':Okk}{H H':Hp}
theorem KvR.mono (f:∀ b o,ok b->H b=we o->ok' b/\H' b=we o) (g:∀ n a,ok.al n=we a->ok'.al n=we a):∀ {vs:List (κ×V)}{ds:List (κ×D)},KvR K ok H vs ds->KvR K ok' H' vs ds
 |_,_,.nil=>.nil
 |_,_,.cons r rs=>.cons (r.mono f g) (KvR.mono f g rs)
theorem KvR.length:∀ {vs:List (κ×V)}{ds:List (κ×D)},KvR K ok H vs ds->vs.length=ds.length
 |_,_,.nil=>rfl
 |_,_,.cons _ rs=>by rw[bv,bv,KvR.length rs]
theorem KvR.keys:∀ {vs:List (κ×V)}{ds:List (κ×D)},KvR K ok H vs ds->vs.map (·.1)=ds.map (·.1)
 |_,_,.nil=>rfl
 |_,_,.cons _ rs=>by rw[bg,bg,KvR.keys rs]
theorem KvR.vals:∀ {vs:List (κ×V)}{ds:List (κ×D)},KvR K ok H vs ds->Reps K ok H (vs.map (·.2)) (ds.map (·.2))
 |_,_,.nil=>.nil
 |_,_,.cons r rs=>.cons r (KvR.vals rs)
end
section
variable {K:aa}{ok ok':Okk}{H H':Hp}
theorem KvR.look:∀ {vs:List (Str×V)}{ds:List (Str×D)},KvR K ok H vs ds->ds.lookup x=we d->∃ v,vs.lookup x=we v/\Rep K ok H v d
 |_,_,.nil,e=>by cases e
 |_,_,@KvR.cons _ _ _ _ k v d' vs ds r rs,e=>by
  rw[fy] at e ⊢;cases q:x==k with
  |true=>
   rw[q] at e;cases e;exact⟨v,rfl,r⟩
  |false=>
   rw[q] at e;exact KvR.look rs e
theorem KvR.look_none:∀ {vs:List (Str×V)}{ds:List (Str×D)},KvR K ok H vs ds->ds.lookup x=wf->vs.lookup x=wf
 |_,_,.nil,e=>rfl
 |_,_,@KvR.cons _ _ _ _ k v d' vs ds r rs,e=>by
  rw[fy] at e ⊢;cases q:x==k with
  |true=>rw[q] at e;cases e
  |false=>rw[q] at e;exact KvR.look_none rs e
end
noncomputable def CellR (cls:Nat->af) (K:aa) (ok:Okk) (H:Hp) (a:af):Ob->Prop
 |.ins c fs=>∃ dx vs,H a=we (.ins (cls c) dx vs)/\KvR K ok H vs fs
 |.ml ds=>∃ xs,H a=we (.lst xs)/\Reps K ok H xs ds
 |.dt kvs=>∃ vs,H a=we (.dT vs)/\KvR K ok H vs kvs
 |.dk kvs=>∃ vs,H a=we (.dK vs)/\KvR K ok H vs kvs
 |.dz kvs=>∃ o vs,H a=we (.frz o (.dT vs))/\KvR K ok H vs kvs
theorem CellR.mono {K:aa} (f:∀ b o,ok b->H b=we o->ok' b/\H' b=we o) (g:∀ n a,ok.al n=we a->ok'.al n=we a) (e:∀ o,H a=we o->H' a=we o)
  (h:CellR cls K ok H a ob):CellR cls K ok' H' a ob:=by
 cases ob with
 |ins c fs=>obtain⟨dx,vs,h1,h2⟩:=h;exact⟨dx,vs,e _ h1,h2.mono f g⟩
 |ml ds=>obtain⟨xs,h1,h2⟩:=h;exact⟨xs,e _ h1,h2.mono f g⟩
 |dt kvs=>obtain⟨xs,h1,h2⟩:=h;exact⟨xs,e _ h1,h2.mono f g⟩
 |dk kvs=>obtain⟨xs,h1,h2⟩:=h;exact⟨xs,e _ h1,h2.mono f g⟩
 |dz kvs=>obtain⟨o,xs,h1,h2⟩:=h;exact⟨o,xs,e _ h1,h2.mono f g⟩
theorem CellR.there {K:aa} (h:CellR cls K ok H a ob):∃ o,H a=we o/\True:=by
 cases ob with
 |ins c fs=>obtain⟨dx,vs,h1,h2⟩:=h;exact⟨_,h1,trivial⟩
 |ml ds=>obtain⟨xs,h1,h2⟩:=h;exact⟨_,h1,trivial⟩
 |dt kvs=>obtain⟨xs,h1,h2⟩:=h;exact⟨_,h1,trivial⟩
 |dk kvs=>obtain⟨xs,h1,h2⟩:=h;exact⟨_,h1,trivial⟩
 |dz kvs=>obtain⟨o,xs,h1,h2⟩:=h;exact⟨_,h1,trivial⟩
structure Stt (cls:Nat->af) (K:aa) (ok:Okk) (H:Hp) (ω:Om):Prop where
 cell:∀ n ob,ω[n]?=we ob->∃ a,ok.al n=we a/\CellR cls K ok H a ob
 dom:∀ n a,ok.al n=we a->n<ω.length
 inj:∀ n m a,ok.al n=we a->ok.al m=we a->n=m
 nok:∀ n a,ok.al n=we a->¬ ok.p a
structure Ex (ok:Okk) (H:Hp) (ok':Okk) (H':Hp):Prop where
 dat:∀ b o,ok b->H b=we o->ok' b/\H' b=we o
 ids:∀ n a,ok.al n=we a->ok'.al n=we a
 frm:∀ b o,H b=we o->(∀ n,ok.al n≠we b)->H' b=we o
 new:∀ n a,ok'.al n=we a->ok.al n=we a∨H a=wf
 keep:∀ b,H' b=wf->H b=wf
 sub:∀ b,ok' b->ok b∨H b=wf
 /-- what a loop walks stands still -/
 frz:∀ b o u,H b=we (.frz o u)->H' b=we (.frz o u)
structure Nw (cls:Nat->af) (K:aa) (ok:Okk) (H:Hp) (ok':Okk) (H':Hp) (ω':Om):Prop where
 ex:Ex ok H ok' H'
 okh:OkH ok' H'
 st:Stt cls K ok' H' ω'
section
variable {cls:Nat->af}{K:aa}{ok ok' ok2:Okk}{H H' H2:Hp}{ω ω' ω2:Om}{σ:St}{ρ:Rho}{a:af}{n:Nat}
theorem Stt.at_ (h:Stt cls K ok H ω) (e:ok.al n=we a):∃ ob,ω[n]?=we ob/\CellR cls K ok H a ob:=by
 have hn:=h.dom n a e;obtain⟨b,e1,c⟩:=h.cell n ω[n] (by simp[hn]);rw[e] at e1;cases e1;exact⟨_,by simp[hn],c⟩
theorem Ex.same (s:Same H H'):Ex ok H ok H':=⟨fun b o k e=>⟨k,s b o e⟩,fun _ _ e=>e,fun b o e _=>s b o e,fun _ _ e=>.inl e,fun _ e=>s.free e,fun _ e=>.inl e,fun b o u e=>s b _ e⟩
theorem Ex.trans (x:Ex ok H ok' H') (y:Ex ok' H' ok2 H2):Ex ok H ok2 H2 where
 dat:=fun b o k e=>let ⟨k',e'⟩:=x.dat b o k e;y.dat b o k' e'
 ids:=fun n a e=>y.ids n a (x.ids n a e)
 frm:=fun b o e h=>y.frm b o (x.frm b o e h) fun n z=>by
  rcases x.new n b z with z|z
  ·exact h n z
  ·rw[e] at z;cases z
 new:=fun n a e=>by
  rcases y.new n a e with z|z
  ·exact x.new n a z
  ·exact .inr (x.keep a z)
 keep:=fun b e=>x.keep b (y.keep b e)
 sub:=fun b e=>by
  rcases y.sub b e with z|z
  ·exact x.sub b z
  ·exact .inr (x.keep b z)
 frz:=fun b o u e=>y.frz b o u (x.frz b o u e)
theorem Nw.trans (x:Nw cls K ok H ok' H' ω') (y:Nw cls K ok' H' ok2 H2 ω2):Nw cls K ok H ok2 H2 ω2:=⟨x.ex.trans y.ex,y.okh,y.st⟩
theorem Stt.same (h:Stt cls K ok H ω) (s:Same H H'):Stt cls K ok H' ω:=
 ⟨fun n ob e=>let ⟨a,e1,c⟩:=h.cell n ob e;⟨a,e1,c.mono (fun b o k e=>⟨k,s b o e⟩) (fun _ _ e=>e) fun o e=>s a o e⟩,h.dom,h.inj,h.nok⟩
theorem Nw.same (h:OkH ok H) (t:Stt cls K ok H ω) (s:Same H H'):Nw cls K ok H ok H' ω:=⟨.same s,h.same s,t.same s⟩
theorem Nw.refl (h:OkH ok H) (t:Stt cls K ok H ω):Nw cls K ok H ok H ω:=.same h t (Same.refl H)
theorem Rep.ex (x:Ex ok H ok' H') (h:Rep K ok H v d):Rep K ok' H' v d:=h.mono x.dat x.ids
theorem Reps.ex (x:Ex ok H ok' H') (h:Reps K ok H v d):Reps K ok' H' v d:=h.mono x.dat x.ids
theorem EnvR.ex (x:Ex ok H ok' H') (h:EnvR K ok H σ ρ):EnvR K ok' H' σ ρ:=fun i d e=>let ⟨v,a,r⟩:=h i d e;⟨v,a,r.ex x⟩
theorem qI {l:List Ob}{a b:Ob} (h:(l.set i a)[j]?=we b):(j=i/\b=a)∨(j≠i/\l[j]?=we b):=by
 rcases Cr h with⟨h1,_,h3⟩|h
 ·exact .inl ⟨h1,h3⟩
 ·exact .inr h
theorem Nw.write (h:OkH ok H) (t:Stt cls K ok H ω) (e:ok.al n=we a) (h0:H a=we o0) (c:(∀ b u,ok b->H b=we u->ok b/\upd H a o b=we u)->CellR cls K ok (upd H a o) a ob) (nt:∀ xs,o≠ .tup xs:=by intro _ z;cases z) (nz:∀ x u,o0≠ .frz x u:=by intro _ _ z;cases z):Nw cls K ok H ok (upd H a o) (ω.set n ob):=by
 have dat:∀ b u,ok b->H b=we u->ok b/\upd H a o b=we u:=fun b u k q=>⟨k,by rw[aG (show b≠a from fun z=>t.nok n a e (z ▸ k))];exact q⟩;refine⟨⟨dat,fun _ _ z=>z,fun b u q z=>by rw[aG (show b≠a from fun w=>z n (w ▸ e))];exact q,fun _ _ z=>.inl z,fun b q=> ?_,fun _ z=>.inl z,fun b x u z=>by rw[aG (show b≠a from fun w=>nz x u (b9 ((h0.symm.trans (w ▸ z)))))];exact z⟩,⟨fun b q=> ?_,fun b xs q=> ?_⟩,fun m ob' q=> ?_,fun m b q=> ?_,t.inj,t.nok⟩
 ·by_cases hb:b=a
  ·rw[hb,aP] at q;cases q
  ·rw[aG hb] at q;exact q
 ·by_cases hb:b=a
  ·rw[hb,aP] at q;cases q
  ·rw[aG hb] at q;exact h b q
 ·by_cases hb:b=a
  ·rw[hb,aP] at q;exact absurd (b9 q) (nt xs)
  ·rw[aG hb] at q;exact h.tp b xs q
 ·rcases qI q with⟨rfl,rfl⟩|⟨hm,q⟩
  ·exact⟨a,e,c dat⟩
  ·obtain⟨b,e1,c1⟩:=t.cell m ob' q;refine⟨b,e1,c1.mono dat (fun _ _ z=>z) fun u z=> ?_⟩;rw[aG (show b≠a from fun w=>hm (t.inj m n a (w ▸ e1) e))];exact z
 ·rw[cg];exact t.dom m b q
noncomputable def okN (ok:Okk) (n:Nat) (p:af):Okk:=⟨fun b=>ok b/\b≠p,fun m=>if m=n then we p else ok.al m⟩
theorem sH (t:Stt cls K ok H ω) (m:Nat) (b:af) (e:ok.al m=we b):(okN ok ω.length p).al m=we b:=by
 have hm:=t.dom m b e
 show(if m=ω.length then we p else ok.al m)=we b
 rw[if_neg (ci hm)];exact e
theorem xH (np:H p=wf) (b:af) (u:HO) (k:ok b) (e:H b=we u):okN ok n p b/\upd H p o b=we u:=
 ⟨⟨k,aN e np⟩,by rw[aG (aN e np)];exact e⟩
theorem Nw.make (h:OkH ok H) (t:Stt cls K ok H ω) (np:H p=wf) (c:CellR cls K (okN ok ω.length p) (upd H p o) p ob) (nt:∀ xs,o≠ .tup xs:=by intro _ z;cases z):Nw cls K ok H (okN ok ω.length p) (upd H p o) (ω++[ob]):=by
 have al:∀ m b,(okN ok ω.length p).al m=we b->(m=ω.length/\b=p)∨(m≠ω.length/\ok.al m=we b):=fun m b q=>by
  have q':(if m=ω.length then we p else ok.al m)=we b:=q
  by_cases hm:m=ω.length
  ·rw[if_pos hm] at q';exact .inl ⟨hm,(b9 q').symm⟩
  ·rw[if_neg hm] at q';exact .inr ⟨hm,q'⟩
 have tr:∀ m b,ok.al m=we b->b≠p:=fun m b q=>by
  obtain⟨_,_,c1⟩:=t.at_ q;obtain⟨_,z,_⟩:=c1.there;exact aN z np
 refine⟨⟨fun b u k e=>xH np b u k e,fun m b q=>sH t m b q,fun b u q z=>by rw[aG (aN q np)];exact q,fun m b q=> ?_,fun b q=> ?_,fun b k=>.inl k.1,fun b x u z=>by rw[aG (aN z np)];exact z⟩,⟨fun b q=> ?_,fun b xs q=> ?_⟩,fun m ob' q=> ?_,fun m b q=> ?_,fun m m' b q q'=> ?_,fun m b q k=> ?_⟩
 ·rcases al m b q with⟨_,rfl⟩|⟨_,q⟩
  ·exact .inr np
  ·exact .inl q
 ·by_cases hb:b=p
  ·rw[hb];exact np
  ·rw[aG hb] at q;exact q
 ·have hb:b≠p:=fun z=>by rw[z,aP] at q;cases q
  rw[aG hb] at q;exact⟨h b q,hb⟩
 ·have hb:b≠p:=fun z=>by rw[z,aP] at q;exact nt xs (b9 q)
  rw[aG hb] at q;exact⟨h.tp b xs q,hb⟩
 ·by_cases hm:m<ω.length
  ·rw[aj hm] at q;obtain⟨b,e1,c1⟩:=t.cell m ob' q;exact⟨b,sH t m b e1,c1.mono (fun b u k e=>xH np b u k e) (fun m b q=>sH t m b q) fun u z=>by rw[aG (aN z np)];exact z⟩
  ·have hm':m=ω.length:=by
    have:=(bh.mp q).1
    simp at this;omega
   subst hm';rw[cr (bc _)] at q;simp at q;subst q;exact⟨p,by show(if ω.length=ω.length then we p else _)=_;rw[if_pos rfl],c⟩
 ·rw[b0,jg];rcases al m b q with⟨rfl,_⟩|⟨_,q⟩
  ·omega
  ·have:=t.dom m b q
   omega
 ·rcases al m b q with⟨rfl,rfl⟩|⟨_,q⟩ <;> rcases al m' b q' with⟨rfl,w⟩|⟨_,q'⟩
  ·rfl
  ·exact absurd rfl (tr m' b q')
  ·exact absurd w (tr m b q)
  ·exact t.inj m m' b q q'
 ·rcases al m b q with⟨_,rfl⟩|⟨_,q⟩
  ·exact k.2 rfl
  ·exact t.nok m b q k.1
theorem Rep.new_obj:Rep K (okN ok n p) H (.ref p) (.obj n):=.obj (by show(if n=n then we p else _)=_;rw[if_pos rfl])
end
inductive Rz (α:Type) where
 |ok (a:α)|ex (c:Nat)
noncomputable abbrev OG (α:Type):=Rho->Om->Option (Rz α×Om)
noncomputable abbrev XE:=Nat->Hp->Prop
structure Pre (cls:Nat->af) (K:aa) (ok:Okk) (H:Hp) (ω:Om) (σ:St) (ρ:Rho):Prop where
 okh:OkH ok H
 st:Stt cls K ok H ω
 env:EnvR K ok H σ ρ
 len:σ.length=ρ.length
theorem Pre.nw {K:aa} (p:Pre cls K ok H ω σ ρ) (x:Nw cls K ok H ok' H' ω'):Pre cls K ok' H' ω' σ ρ:=⟨x.okh,x.st,p.env.ex x.ex,p.len⟩
noncomputable def exR (cls:Nat->af) (K:aa) (ok:Okk) (H:Hp) (ω':Om) (E:XE) (c:Nat):Prop:=∀ ok' H',Nw cls K ok H ok' H' ω'->E c H'
noncomputable def tO (cls:Nat->af) (K:aa) (f:OG D) (E:XE):TE:=fun σ H Q=>∃(ok:Okk) (ρ:Rho) (ω:Om) (r:Rz D) (ω':Om),Pre cls K ok H ω σ ρ/\f ρ ω=we (r,ω')/\match r with
 |.ok d=>∀ v ok' H',Nw cls K ok H ok' H' ω'->Rep K ok' H' v d->Q v H'
 |.ex c=>exR cls K ok H ω' E c
noncomputable def tOT (cls:Nat->af) (K:aa) (f:OG Bool) (E:XE):TT:=fun σ H Q=>∃(ok:Okk) (ρ:Rho) (ω:Om) (r:Rz Bool) (ω':Om),Pre cls K ok H ω σ ρ/\f ρ ω=we (r,ω')/\match r with
 |.ok b=>∀ ok' H',Nw cls K ok H ok' H' ω'->Q b H'
 |.ex c=>exR cls K ok H ω' E c
noncomputable def tOA (cls:Nat->af) (K:aa) (f:OG (List D)) (E:XE):TA:=fun σ H Q=>∃(ok:Okk) (ρ:Rho) (ω:Om) (r:Rz (List D)) (ω':Om),Pre cls K ok H ω σ ρ/\f ρ ω=we (r,ω')/\match r with
 |.ok ds=>∀ vs ok' H',Nw cls K ok H ok' H' ω'->Reps K ok' H' vs ds->Q vs H'
 |.ex c=>exR cls K ok H ω' E c
noncomputable abbrev OE (X:Cx) (cls:Nat->af) (E:XE) (e:br) (f:OG D):Prop:=PE X e (tO cls X.K f E)
noncomputable abbrev OT (X:Cx) (cls:Nat->af) (E:XE) (e:br) (f:OG Bool):Prop:=PT X e (tOT cls X.K f E)
noncomputable abbrev OA (X:Cx) (cls:Nat->af) (E:XE) (es:List br) (f:OG (List D)):Prop:=PA X es (tOA cls X.K f E)
noncomputable def oB {α β:Type} (f:OG α) (g:α->OG β):OG β:=fun ρ ω=>match f ρ ω with
 |none=>wf
 |some (.ex c,ω1)=>we (.ex c,ω1)
 |some (.ok a,ω1)=>g a ρ ω1
theorem jE {g:α->OG β} (h:oB f g ρ ω=we (r,ω')):(∃ c,f ρ ω=we (.ex c,ω')/\r=.ex c)∨∃ a ω1,f ρ ω=we (.ok a,ω1)/\g a ρ ω1=we (r,ω'):=by
 unfold oB at h;split at h
 ·cases h
 ·cases h;exact .inl ⟨_,‹_›,rfl⟩
 ·exact .inr ⟨_,_,‹_›,h⟩
noncomputable def oR {α:Type} (o:Option (α×Om)):Option (Rz α×Om):=o.map fun p=>(.ok p.1,p.2)
theorem cF {r:Rz α} (h:oR o=we (r,ω')):∃ a,o=we (a,ω')/\r=.ok a:=by
 obtain⟨⟨a,w⟩,e1,e2⟩:=aJ h;cases e2;exact⟨a,e1,rfl⟩
noncomputable def oP (f:DF):OG D:=fun ρ ω=>oR ((f ρ).map fun d=>(d,ω))
noncomputable def oPT (f:DB):OG Bool:=fun ρ ω=>oR ((f ρ).map fun d=>(d,ω))
noncomputable def pu {α:Type} (o:Option α) (ω:Om):Option (α×Om):=o.map fun d=>(d,ω)
theorem cN {a:α} (h:pu o ω=we (a,ω')):o=we a/\ω'=ω:=by
 obtain⟨b,e1,e2⟩:=aJ h;cases e2;exact⟨e1,rfl⟩
section
variable {X:Cx}{cls:Nat->af}{E:XE}{e a b c:br}{es:List br}{f:DF}{fa fb:OG D}{fl:OG (List D)}{ft ft':OG Bool}{pos p:Pos}
theorem CY (h:DE X e f):OE X cls E e (oP f):=h.imp fun σ H Q ⟨ok,ρ,ω,r,ω',P,h3,h4⟩=>by
 obtain⟨d,e1,rfl⟩:=cF h3;obtain⟨e2,rfl⟩:=cN e1;exact⟨ok,ρ,d,P.okh,P.env,e2,fun v H' s r=>h4 v ok H' (.same P.okh P.st s) r⟩
theorem tO.then_ {K:aa}{r:Rz α} (P:Pre cls K ok H ω σ ρ) (e:oB fa g ρ ω=we (r,ω')) (hx:∀ c,r=.ex c->exR cls K ok H ω' E c)
  (h:∀ d ω1 v ok1 H1,g d ρ ω1=we (r,ω')->Nw cls K ok H ok1 H1 ω1->Pre cls K ok1 H1 ω1 σ ρ->Rep K ok1 H1 v d->Q v H1):tO cls K fa E σ H Q:=by
 rcases jE e with⟨c,e1,rfl⟩|⟨d,ω1,e1,e2⟩
 ·exact⟨ok,ρ,ω,.ex c,ω',P,e1,hx c rfl⟩
 ·exact⟨ok,ρ,ω,.ok d,ω1,P,e1,fun v ok1 H1 n r1=>h d ω1 v ok1 H1 e2 n (P.nw n) r1⟩
theorem tOA.then_ {K:aa}{r:Rz α} (P:Pre cls K ok H ω σ ρ) (e:oB fl g ρ ω=we (r,ω')) (hx:∀ c,r=.ex c->exR cls K ok H ω' E c)
  (h:∀ d ω1 v ok1 H1,g d ρ ω1=we (r,ω')->Nw cls K ok H ok1 H1 ω1->Pre cls K ok1 H1 ω1 σ ρ->Reps K ok1 H1 v d->Q v H1):tOA cls K fl E σ H Q:=by
 rcases jE e with⟨c,e1,rfl⟩|⟨d,ω1,e1,e2⟩
 ·exact⟨ok,ρ,ω,.ex c,ω',P,e1,hx c rfl⟩
 ·exact⟨ok,ρ,ω,.ok d,ω1,P,e1,fun v ok1 H1 n r1=>h d ω1 v ok1 H1 e2 n (P.nw n) r1⟩
theorem tOT.then_ {K:aa}{r:Rz α} (P:Pre cls K ok H ω σ ρ) (e:oB ft g ρ ω=we (r,ω')) (hx:∀ c,r=.ex c->exR cls K ok H ω' E c)
  (h:∀ d ω1 ok1 H1,g d ρ ω1=we (r,ω')->Nw cls K ok H ok1 H1 ω1->Pre cls K ok1 H1 ω1 σ ρ->Q d H1):tOT cls K ft E σ H Q:=by
 rcases jE e with⟨c,e1,rfl⟩|⟨d,ω1,e1,e2⟩
 ·exact⟨ok,ρ,ω,.ex c,ω',P,e1,hx c rfl⟩
 ·exact⟨ok,ρ,ω,.ok d,ω1,P,e1,fun ok1 H1 n=>h d ω1 ok1 H1 e2 n (P.nw n)⟩
theorem exR.nw {K:aa}{c:Nat} (h:exR cls K ok H ω' E c) (n:Nw cls K ok H ok' H' ω1):exR cls K ok' H' ω' E c:=fun ok2 H2 m=>h ok2 H2 (n.trans m)
noncomputable def wR (cls:Nat->af) (K:aa) (r:R2) (g:Om->D->D->Option (D×Om)):Prop:=∀(ok:Okk) (H:Hp) (ω:Om) (x y:V) (a b d:D) (ω':Om) (Q:VK),OkH ok H->Stt cls K ok H ω->Rep K ok H x a->Rep K ok H y b->g ω a b=we (d,ω')->
 (∀ v ok' H',Nw cls K ok H ok' H' ω'->Rep K ok' H' v d->Q v H')->r x y H Q
noncomputable def qC (cls:Nat->af) (K:aa) (r:List V->Hp->VK->Prop) (g:Om->List D->Option (D×Om)):Prop:=∀(ok:Okk) (H:Hp) (ω:Om) (xs:List V) (as:List D) (d:D) (ω':Om) (Q:VK),OkH ok H->Stt cls K ok H ω->Reps K ok H xs as->g ω as=we (d,ω')->
 (∀ v ok' H',Nw cls K ok H ok' H' ω'->Rep K ok' H' v d->Q v H')->r xs H Q
theorem Fit2.lift {K:aa} (F:Fit2 K r g):wR cls K r fun ω a b=>pu (g a b) ω:=fun ok H ω x y a b d ω' Q h1 st ra rb e k=>by
 obtain⟨ue,rfl⟩:=cN e;exact F ok H x y a b d Q h1 ra rb ue fun v H' s r=>k v ok H' (.same h1 st s) r
theorem FitL.lift {K:aa} (F:FitL K r g):qC cls K r fun ω a=>pu (g a) ω:=fun ok H ω x a d ω' Q h1 st ra e k=>by
 obtain⟨ue,rfl⟩:=cN e;exact F ok H x a d Q h1 ra ue fun v H' s r=>k v ok H' (.same h1 st s) r
noncomputable def o2 (g:Om->D->D->Option (D×Om)) (f h:OG D):OG D:=oB f fun a=>oB h fun b _ ω=>oR (g ω a b)
noncomputable def oL (g:Om->List D->Option (D×Om)) (f:OG (List D)):OG D:=oB f fun as _ ω=>oR (g ω as)
theorem tO.op {K:aa} (F:wR cls K r g) (h:tO cls K (o2 g fa fb) E σ H Q):tOp r (tO cls K fa E) (tO cls K fb E) σ H Q:=by
 obtain⟨ok,ρ,ω,rz,ω',P,e,q⟩:=h;refine tO.then_ P e (fun c z=>by subst z;exact q) fun a ω1 v ok1 H1 e1 n1 P1 r1=> ?_;refine tO.then_ P1 e1 (fun c z=>by subst z;exact exR.nw q n1) fun b ω2 u ok2 H2 e2 n2 P2 r2=> ?_;obtain⟨d,e3,rfl⟩:=cF e2;exact F ok2 H2 ω2 v u a b d ω' Q P2.okh P2.st (r1.ex n2.ex) r2 e3 fun w ok3 H3 n3 r3=>q w ok3 H3 (n1.trans (n2.trans n3)) r3
theorem sI (ho:OpR X (jw op) r) (F:wR cls X.K r g) (ha:OE X cls E a fa) (hb:OE X cls E b fb):OE X cls E (.BinOp a op b pos) (o2 g fa fb):=
 (NW ho ha hb).imp fun _ _ _ h=>tO.op F h
theorem CZ (ho:OpR X (d7 op) r) (F:wR cls X.K r g) (ha:OE X cls E a fa) (hb:OE X cls E b fb) (hm:ik op b=false):OE X cls E (.Compare a [op] [b] pos) (o2 g fa fb):=
 (IQ ho ha hb hm).imp fun _ _ _ h=>tO.op F h
noncomputable def cC (f:OG D):OG Bool:=oB f fun d _ ω=>oR (pu (toB d) ω)
theorem jD (ho:OpR X (d7 op) r) (F:wR cls X.K r g) (ha:OE X cls E a fa) (hb:OE X cls E b fb) (hm:ik op b=false):OT X cls E (.Compare a [op] [b] pos) (cC (o2 g fa fb)):=
 (Ix ho ha hb hm).imp fun σ H Q ⟨ok,ρ,ω,r,ω',P,e,q⟩=>by
  refine tO.op F ?_;refine tO.then_ P e (fun c z=>by subst z;exact q) fun d ω1 v ok1 H1 e1 n1 P1 r1=> ?_;obtain⟨k,e3,rfl⟩:=cF e1;obtain⟨ue3,rfl⟩:=cN e3;obtain rfl:=mY ue3;exact⟨k,r1.bl_inv,q ok1 H1 n1⟩
noncomputable def jY (f:OG D):OG Bool:=oB f fun d _ ω=>oR (pu (Pb d) ω)
theorem LL (h:OE X cls E e fa) (he:∀ whole,isTrue e X.env whole=(do let v <- whole;mj e.pos;holding [v] (truthy v)):=by intro _;rfl):OT X cls E e (jY fa):=(Fv h he).imp fun σ H Q ⟨ok,ρ,ω,r,ω',P,e,q⟩=>by
 refine tO.then_ P e (fun c z=>by subst z;exact q) fun d ω1 v ok1 H1 e1 n1 P1 r1=> ?_;obtain⟨k,e3,rfl⟩:=cF e1;obtain⟨ue3,rfl⟩:=cN e3;exact⟨k,Ii r1 ue3,q ok1 H1 n1⟩
noncomputable def lH (f:OG Bool):OG Bool:=oB f fun k _ ω=>we (.ok (!k),ω)
theorem LM (h:OT X cls E a ft):OT X cls E (.UnaryOp .Not a pos) (lH ft):=(Ll h).imp fun σ H Q ⟨ok,ρ,ω,r,ω',P,e,q⟩=>by
 refine tOT.then_ P e (fun c z=>by subst z;exact q) fun d ω1 ok1 H1 e1 n1 P1=> ?_;cases e1;exact q ok1 H1 n1
noncomputable abbrev OW (X:Cx) (cls:Nat->af) (E:XE) (e:br) (f:OG Bool):Prop:=PW X e (tOT cls X.K f E)
noncomputable def Bj (f g:OG Bool):OG Bool:=oB f fun k ρ ω=>if k=true then g ρ ω else we (.ok false,ω)
noncomputable def oOr (f g:OG Bool):OG Bool:=oB f fun k ρ ω=>if k=true then we (.ok true,ω) else g ρ ω
variable {rest:List br}
theorem IT (ha:OT X cls E a ft):OW X cls E (.BoolOp .And [a] pos) ft:=Iw ha
theorem LJ (ha:OT X cls E a ft):OW X cls E (.BoolOp .Or [a] pos) ft:=Li ha
theorem LK (ha:OT X cls E a ft) (hb:OW X cls E (.BoolOp .And (b::rest) pos) ft'):OW X cls E (.BoolOp .And (a::b::rest) pos) (Bj ft ft'):=PW.imp (Lj ha hb) fun σ H Q ⟨ok,ρ,ω,r,ω',P,e,q⟩=>by
 refine tOT.then_ P e (fun c z=>by subst z;exact q) fun d ω1 ok1 H1 e1 n1 P1=> ?_;cases d with
 |true=>
  refine KH ⟨ok1,ρ,ω1,r,ω',P1,e1,?_⟩;cases r with
  |ok b=>exact fun ok2 H2 n2=>q ok2 H2 (n1.trans n2)
  |ex c=>exact exR.nw q n1
 |false=>
  cases e1;exact KI (q ok1 H1 n1)
theorem Oa (ha:OT X cls E a ft) (hb:OW X cls E (.BoolOp .Or (b::rest) pos) ft'):OW X cls E (.BoolOp .Or (a::b::rest) pos) (oOr ft ft'):=PW.imp (NT ha hb) fun σ H Q ⟨ok,ρ,ω,r,ω',P,e,q⟩=>by
 refine tOT.then_ P e (fun c z=>by subst z;exact q) fun d ω1 ok1 H1 e1 n1 P1=> ?_;cases d with
 |false=>
  refine KI ⟨ok1,ρ,ω1,r,ω',P1,e1,?_⟩;cases r with
  |ok b=>exact fun ok2 H2 n2=>q ok2 H2 (n1.trans n2)
  |ex c=>exact exR.nw q n1
 |true=>
  cases e1;exact KH (q ok1 H1 n1)
theorem PV (h:OW X cls E e ft):OT X cls E e ft:=PW.pt h
noncomputable def aQ:OG (List D):=fun _ ω=>we (.ok [],ω)
noncomputable def aC (f:OG D) (g:OG (List D)):OG (List D):=oB f fun d=>oB g fun ds _ ω=>we (.ok (d::ds),ω)
theorem MA:OA X cls E [] aQ:=(PA.imp Ag) fun σ H Q ⟨ok,ρ,ω,r,ω',P,e,q⟩=>by
 cases e;exact q [] ok H (.refl P.okh P.st) .nil
theorem JE (ha:OE X cls E e fa) (hr:OA X cls E es fl) (hs:av (e::es) X.env=(false,eval e X.env)::av es X.env:=by rfl):OA X cls E (e::es) (aC fa fl):=
 (nK ha hr hs).imp fun σ H Q ⟨ok,ρ,ω,r,ω',P,e,q⟩=>by
  refine tO.then_ P e (fun c z=>by subst z;exact q) fun d ω1 v ok1 H1 e1 n1 P1 r1=> ?_;refine tOA.then_ P1 e1 (fun c z=>by subst z;exact exR.nw q n1) fun ds ω2 vs ok2 H2 e2 n2 P2 r2=> ?_;cases e2;exact q (v::vs) ok2 H2 (n1.trans n2) (.cons (r1.ex n2.ex) r2)
theorem Mn (h:OA X cls E es fl):OE X cls E (.Tuple es x1 pos) (oL (fun ω ds=>pu (fT ds) ω) fl):=(Lx h).imp fun σ H Q ⟨ok,ρ,ω,r,ω',P,e,q⟩=>by
 refine tOA.then_ P e (fun c z=>by subst z;exact q) fun ds ω1 vs ok1 H1 e1 n1 P1 r1=> ?_;obtain⟨d,e3,rfl⟩:=cF e1;obtain⟨ue3,rfl⟩:=cN e3;obtain⟨hz,rfl⟩:=bI ue3;refine⟨by rw[r1.length];exact hz,fun p n=> ?_⟩;exact q _ ok1 _ (n1.trans (.same P1.okh P1.st (bW n))) (.tup_new (P1.okh p n) n r1)
theorem Mu (h:OA X cls E es fl):OE X cls E (.List es pos) (oL (fun ω ds=>pu (eR ds) ω) fl):=(HE h).imp fun σ H Q ⟨ok,ρ,ω,r,ω',P,e,q⟩=>by
 refine tOA.then_ P e (fun c z=>by subst z;exact q) fun ds ω1 vs ok1 H1 e1 n1 P1 r1=> ?_;obtain⟨d,e3,rfl⟩:=cF e1;obtain⟨ue3,rfl⟩:=cN e3;obtain⟨hz,rfl⟩:=bI ue3;refine⟨by rw[r1.length];exact hz,fun p n=> ?_⟩;exact q _ ok1 _ (n1.trans (.same P1.okh P1.st (bW n))) (.lst_new (P1.okh p n) n r1)
noncomputable def Gz (ω:Om) (ds:List D):Option (D×Om):=if ds.length<=sizeLine then we (.obj ω.length,ω++[.ml ds]) else wf
theorem Nw.ml {K:aa}{p:af} (h:OkH ok H) (t:Stt cls K ok H ω) (np:H p=wf) (r:Reps K ok H xs ds):Nw cls K ok H (okN ok ω.length p) (upd H p (.lst xs)) (ω++[.ml ds]):=
 Nw.make h t np ⟨xs,aP,r.mono (fun b u k e=>xH np b u k e) fun m b q=>sH t m b q⟩
theorem Jt (h:OA X cls E es fl):OE X cls E (.List es pos) (oL Gz fl):=(HE h).imp fun σ H Q ⟨ok,ρ,ω,r,ω',P,e,q⟩=>by
 refine tOA.then_ P e (fun c z=>by subst z;exact q) fun ds ω1 vs ok1 H1 e1 n1 P1 r1=> ?_;obtain⟨d,e3,rfl⟩:=cF e1;obtain⟨hz,e4⟩:=bI e3;cases e4;refine⟨by rw[r1.length];exact hz,fun p n=> ?_⟩;exact q _ _ _ (n1.trans (.ml P1.okh P1.st n r1)) .new_obj
theorem tO.cb {K:aa} (F:qC cls K r g) (h:tO cls K (oL g fl) E σ H Q):tCB r (tOA cls K fl E) σ H Q:=by
 obtain⟨ok,ρ,ω,rz,ω',P,e,q⟩:=h;refine tOA.then_ P e (fun c z=>by subst z;exact q) fun ds ω1 vs ok1 H1 e1 n1 P1 r1=> ?_;obtain⟨d,e3,rfl⟩:=cF e1;exact F ok1 H1 ω1 vs ds d ω' Q P1.okh P1.st r1 e3 fun w ok3 H3 n3 r3=>q w ok3 H3 (n1.trans n3) r3
theorem iV {id:String} (hc:CallR X (.builtin id) r) (F:qC cls X.K r g) (hg:Gl X x) (hm:X.mg x=wf) (hv:db x=we (.builtin id)) (ha:OA X cls E (e::es) fl)
  (hn:x≠"__name__":=by decide) (hdb:(x==("__debug__":Str))=false:=by decide)
  (he:av (e::es) X.env=(false,eval e X.env)::av es X.env:=by rfl) (hpl:(df pos (av es X.env)).any (·.1)=false:=by rfl):OE X cls E (.Call (.Name x p) (e::es) [] pos) (oL g fl):=
 (sF hc hg hm hv ha hn hdb he hpl).imp fun _ _ _ h=>tO.cb F h
theorem kH (hc:CallR X (.type T) r) (F:qC cls X.K r g) (hg:Gl X x) (hm:X.mg x=wf) (hv:db x=we (.type T)) (ha:OA X cls E (e::es) fl)
  (hn:x≠"__name__":=by decide) (hdb:(x==("__debug__":Str))=false:=by decide)
  (he:av (e::es) X.env=(false,eval e X.env)::av es X.env:=by rfl) (hpl:(df pos (av es X.env)).any (·.1)=false:=by rfl):OE X cls E (.Call (.Name x p) (e::es) [] pos) (oL g fl):=
 (CM hc hg hm hv ha hn hdb he hpl).imp fun _ _ _ h=>tO.cb F h
end
end L2.MB
end
section
namespace L2.MB
mutual
noncomputable def eY:D->D->Bool
 |.non,.non=>true
 |.bl a,.bl b=>a==b
 |.int a,.int b=>a==b
 |.str a,.str b=>decide (a=b)
 |.lst a,.lst b=>sameDs a b
 |.tup a,.tup b=>sameDs a b
 |.obj a,.obj b=>a==b
 |.scr a,.scr b=>sameDs a b
 |_,_=>false
noncomputable def sameDs:List D->List D->Bool
 |[],[]=>true
 |a::as,b::bs=>eY a b&&sameDs as bs
 |_,_=>false
end
mutual
theorem zZ:∀(a b:D),eY a b=true->a=b
 |.non,b,h=>by cases b <;> first|rfl|(simp[eY] at h)
 |.bl a,b,h=>by cases b <;> simp[eY] at h;rw[h]
 |.int a,b,h=>by cases b <;> simp[eY] at h;rw[h]
 |.str a,b,h=>by cases b <;> simp[eY] at h;rw[h]
 |.obj a,b,h=>by cases b <;> simp[eY] at h;rw[h]
 |.lst a,b,h=>by
  cases b with
  |lst b=>rw[sameDs_eq a b (by simpa [eY] using h)]
  |_=>simp[eY] at h
 |.scr a,b,h=>by
  cases b with
  |scr b=>rw[sameDs_eq a b (by simpa [eY] using h)]
  |_=>simp[eY] at h
 |.tup a,b,h=>by
  cases b with
  |tup b=>rw[sameDs_eq a b (by simpa [eY] using h)]
  |_=>simp[eY] at h
theorem sameDs_eq:∀(a b:List D),sameDs a b=true->a=b
 |[],[],_=>rfl
 |[],_::_,h=>by simp[sameDs] at h
 |_::_,[],h=>by simp[sameDs] at h
 |a::as,b::bs,h=>by
  simp only[sameDs,bq] at h;rw[zZ a b h.1,sameDs_eq as bs h.2]
end
noncomputable def cellOf (ω:Om):D->Option Ob
 |.obj n=>ω[n]?
 |_=>wf
theorem dX (h:cellOf ω d=we ob):∃ n,d=.obj n/\ω[n]?=we ob:=by
 cases d with
 |obj n=>exact⟨n,rfl,h⟩
 |_=>cases h
theorem Stt.ref {K:aa} (t:Stt cls K ok H ω) (r:Rep K ok H v (.obj n)) (e:ω[n]?=we ob):∃ a,v=.ref a/\ok.al n=we a/\CellR cls K ok H a ob:=by
 obtain⟨a,rfl,e1⟩:=r.obj_inv;obtain⟨b,e2,c⟩:=t.cell n ob e;rw[e1] at e2;cases e2;exact⟨a,rfl,e1,c⟩
noncomputable def KL (c:Nat) (x:Str) (ω:Om) (d:D):Option D:=match cellOf ω d with
 |some (.ins c' fs)=>if c'=c then fs.lookup x else wf
 |_=>wf
theorem GC (h:KL c x ω d=we y):∃ n fs,d=.obj n/\ω[n]?=we (.ins c fs)/\fs.lookup x=we y:=by
 unfold KL at h;split at h
 ·rename_i c' fs hc
  obtain⟨n,rfl,e⟩:=dX hc
  by_cases hcc:c'=c
  ·subst hcc;rw[if_pos rfl] at h;exact⟨n,fs,rfl,e,h⟩
  ·rw[if_neg hcc] at h;cases h
 ·cases h
noncomputable def gS (c:Nat) (x:Str) (f:OG D):OG D:=oB f fun d _ ω=>oR (pu (KL c x ω d) ω)
section
variable {X:Cx}{cls:Nat->af}{E:XE}{e a b c o i value:br}{es:List br}{f:DF}{fa fb fo fi fv:OG D}{fl:OG (List D)}{ft ft':OG Bool}{pos p apos pos':Pos}{x m:Str}{cn:Nat}
theorem Mv (hc:Cls X.K (cls cn)) (hn:NoAttr X.K (cls cn) x) (he:OE X cls E e fa) (hb:hV e x X.env (eval e X.env)=eval e X.env:=by rfl):OE X cls E (.Attribute e x pos) (gS cn x fa):=(LD he hb).imp fun σ H Q ⟨ok,ρ,ω,r,ω',P,e,q⟩=>by
 refine tO.then_ P e (fun c z=>by subst z;exact q) fun d ω1 v ok1 H1 e1 n1 P1 r1=> ?_;obtain⟨y,e3,rfl⟩:=cF e1;obtain⟨ue3,rfl⟩:=cN e3;obtain⟨n,fs,rfl,e4,e5⟩:=GC ue3;obtain⟨a,rfl,e6,dx,vs,e7,kv⟩:=P1.st.ref r1 e4;obtain⟨u,e8,ru⟩:=kv.look e5;exact⟨a,_,dx,vs,u,rfl,e7,hc,hn,e8,q u ok1 H1 n1 ru⟩
noncomputable def bF (ω:Om) (a b:D):Option D:=match cellOf ω a with
 |some (.ml ds)=>(toI b).bind fun i=>atI ds i
 |some _=>wf
 |none=>gIx a b
theorem Kj {K:aa}:wR cls K (fun x y H Q=>(∃ p xs i v,x=.ref p/\y=.int i/\SqL K H p xs/\atI xs i=we v/\Q v H)∨(∃ p xs i v,x=.ref p/\y=.int i/\SqT K H p xs/\atI xs i=we v/\Q v H)∨
  ∃ z i c,x=.str z/\y=.int i/\z.length<=sizeLine/\atI z.cps.toList i=we c/\Q (.str ⟨#[c]⟩) H) fun ω a b=>pu (bF ω a b) ω:=fun ok H ω x y a b d ω' Q h1 st ra rb e k=>by
 obtain⟨ue,rfl⟩:=cN e;clear e;unfold bF at ue;cases hc:cellOf ω' a with
 |some ob=>
  rw[hc] at ue;obtain⟨n,rfl,e1⟩:=dX hc;cases ob with
  |ml ds=>
   obtain⟨i,e0,ue⟩:=bind_some (show(toI b).bind _=we d from ue);obtain rfl:=wW e0;obtain⟨p,rfl,e2,xs,e3,r⟩:=st.ref ra e1;obtain rfl:=rb.int_inv;obtain⟨v,e4,rv⟩:=r.atI ue;exact .inl ⟨p,xs,i,v,rfl,rfl,SqL.of e3,e4,k v ok H (.refl h1 st) rv⟩
  |_=>cases ue
 |none=>
  rw[hc] at ue;have ue':gIx a b=we d:=ue;have k':∀ v H',Same H H'->Rep K ok H' v d->Q v H':=fun v H' s r=>k v ok H' (.same h1 st s) r;cases b with
  |int i=>
   obtain rfl:=rb.int_inv;cases a with
   |lst ds=>
    obtain⟨p,xs,rfl,h,r⟩:=ra.lst_inv;obtain⟨v,e1,r1⟩:=r.atI ue';exact .inl ⟨p,xs,i,v,rfl,rfl,h.sq,e1,k' v H (Same.refl H) r1⟩
   |scr ds=>
    obtain⟨p,xs,rfl,h,r⟩:=ra.scr_inv;obtain⟨v,e1,r1⟩:=r.atI ue';exact .inl ⟨p,xs,i,v,rfl,rfl,h.sq,e1,k' v H (Same.refl H) r1⟩
   |tup ds=>
    obtain⟨p,xs,rfl,h,r⟩:=ra.tup_inv;obtain⟨v,e1,r1⟩:=r.atI ue';exact .inr (.inl ⟨p,xs,i,v,rfl,rfl,h.sq,e1,k' v H (Same.refl H) r1⟩)
   |str z=>
    obtain rfl:=ra.str_inv;have e':(if z.length<=sizeLine then(L2.atI z.cps.toList i).map fun c=>D.str ⟨#[c]⟩ else wf)=we d:=ue'
    by_cases hz:z.length<=sizeLine
    ·rw[if_pos hz] at e';cases q:L2.atI z.cps.toList i with
     |none=>rw[q] at e';cases e'
     |some c=>
      rw[q] at e';cases e';exact .inr (.inr ⟨z,i,c,rfl,rfl,hz,q,k' _ H (Same.refl H) (.str _)⟩)
    ·rw[if_neg hz] at e';cases e'
   |_=>cases ue'
  |_=>cases a <;> cases ue'
theorem Op (ha:OE X cls E a fa) (hb:OE X cls E b fb) (hs:EM b:=by intro _ _;rfl):OE X cls E (.Subscript a b pos) (o2 (fun ω a b=>pu (bF ω a b) ω) fa fb):=(NX ML ha hb hs).imp fun _ _ _ h=>tO.op Kj h
noncomputable def toK:D->Option Key
 |.int i=>we (.inl i)
 |.str x=>we (.inr x)
 |_=>wf
noncomputable def KS:List D->Option (List Key)
 |[]=>we []
 |d::ds=>(toK d).bind fun k=>(KS ds).map fun ks=>k::ks
noncomputable def ofK:Key->D
 |.inl i=>.int i
 |.inr x=>.str x
theorem wV {K:aa} (h:toK d=we k) (r:Rep K ok H v d):v=kV k:=by
 cases d with
 |int i=>cases h;exact r.int_inv
 |str x=>cases h;exact r.str_inv
 |_=>cases h
theorem zV {K:aa}:∀ {vs:List V}{ds:List D}{ks:List Key},KS ds=we ks->Reps K ok H vs ds->vs=ks.map kV
 |_,_,_,h,.nil=>by cases h;rfl
 |_,_,_,h,.cons r rs=>by
  obtain⟨k,e1,h⟩:=bind_some h;obtain⟨ks,e2,rfl⟩:=aJ h;rw[wV e1 r,zV e2 rs];rfl
noncomputable def Ck:D->Option (List Key)
 |.tup ds=>KS ds
 |_=>wf
theorem toT'_rep {K:aa} (h:Ck d=we ks) (r:Rep K ok H v d):∃ b,v=.ref b/\ok b/\H b=we (.tup (ks.map kV)):=by
 cases d with
 |tup ds=>
  obtain⟨b,xs,rfl,g,rs⟩:=r.tup_inv;rw[zV h rs] at g;exact⟨b,rfl,g.1,g.2⟩
 |_=>cases h
section
variable {κ:Type} [DecidableEq κ]
noncomputable def gU (kvs:List (κ×D)) (k:κ):Option D:=(kvs.find? fun kv=>decide (kv.1=k)).map (·.2)
noncomputable def putD (kvs:List (κ×D)) (k:κ) (v:D):List (κ×D):=if(kvs.any fun kv=>decide (kv.1=k))=true then kvs.map (fun kv=>if kv.1=k then(kv.1,v) else kv) else kvs++[(k,v)]
noncomputable def dP (kvs:List (κ×D)) (k:κ):List (κ×D):=kvs.filter fun kv=>decide (kv.1≠k)
variable {K:aa}{ok:Okk}{H:Hp}
theorem KvR.val:∀ {vs:List (κ×V)}{ds:List (κ×D)}{d:D},KvR K ok H vs ds->gU ds k=we d->∃ v,uL vs k=we v/\Rep K ok H v d
 |_,_,_,.nil,e=>by cases e
 |_,_,d,@KvR.cons _ _ _ _ k' v d' vs ds r rs,e=>by
  by_cases q:k'=k
  ·have e':gU ((k',d')::ds) k=we d':=by simp[gU,gp,q]
   rw[e'] at e;cases e;exact⟨v,mG (p:=(k',v)) q,r⟩
  ·have e':gU ((k',d')::ds) k=gU ds k:=by simp[gU,gp,q]
   rw[e'] at e;obtain⟨u,e1,ru⟩:=KvR.val rs e;exact⟨u,by rw[jZ (p:=(k',v)) q];exact e1,ru⟩
theorem KvR.val_none:∀ {vs:List (κ×V)}{ds:List (κ×D)},KvR K ok H vs ds->gU ds k=wf->uL vs k=wf
 |_,_,.nil,e=>rfl
 |_,_,@KvR.cons _ _ _ _ k' v d' vs ds r rs,e=>by
  by_cases q:k'=k
  ·have e':gU ((k',d')::ds) k=we d':=by simp[gU,gp,q]
   rw[e'] at e;cases e
  ·have e':gU ((k',d')::ds) k=gU ds k:=by simp[gU,gp,q]
   rw[e'] at e;rw[jZ (p:=(k',v)) q];exact KvR.val_none rs e
theorem KvR.any:∀ {vs:List (κ×V)}{ds:List (κ×D)},KvR K ok H vs ds->(vs.any fun kv=>decide (kv.1=k))=ds.any fun kv=>decide (kv.1=k)
 |_,_,.nil=>rfl
 |_,_,.cons _ rs=>by rw[k8,k8,KvR.any rs]
theorem KvR.rep1 (q:Rep K ok H v d):∀ {vs:List (κ×V)}{ds:List (κ×D)},KvR K ok H vs ds->KvR K ok H (vs.map fun kv=>if kv.1=k then(kv.1,v) else kv) (ds.map fun kv=>if kv.1=k then(kv.1,d) else kv)
 |_,_,.nil=>.nil
 |_,_,@KvR.cons _ _ _ _ k' v' d' vs ds r rs=>by
  rw[bg,bg]
  by_cases z:k'=k
  ·rw[if_pos z,if_pos z];exact .cons q (KvR.rep1 q rs)
  ·rw[if_neg z,if_neg z];exact .cons r (KvR.rep1 q rs)
theorem KvR.snoc (q:Rep K ok H v d):∀ {vs:List (κ×V)}{ds:List (κ×D)},KvR K ok H vs ds->KvR K ok H (vs++[(k,v)]) (ds++[(k,d)])
 |_,_,.nil=>.cons q .nil
 |_,_,.cons r rs=>.cons r (KvR.snoc q rs)
theorem KvR.put {ds:List (κ×D)} (h:KvR K ok H vs ds) (q:Rep K ok H v d):KvR K ok H (lO vs k v) (putD ds k d):=by
 unfold lO putD;rw[h.any];split
 ·exact h.rep1 q
 ·exact h.snoc q
theorem KvR.drop:∀ {vs:List (κ×V)}{ds:List (κ×D)},KvR K ok H vs ds->KvR K ok H (wC vs k) (dP ds k)
 |_,_,.nil=>.nil
 |_,_,@KvR.cons _ _ _ _ k' v' d' vs ds r rs=>by
  unfold wC dP
  by_cases z:k'=k
  ·rw[nh,nh];simp only[z,ne_eq,not_true_eq_false,decide_false,dn,if_false];exact KvR.drop rs
  ·rw[nh,nh];simp only[z,ne_eq,not_false_eq_true,decide_true,if_true];exact .cons r (KvR.drop rs)
end
noncomputable def Ec (ω:Om) (d y:D):Option (Option D):=match cellOf ω d with
 |some (.dt kvs)=>(Ck y).map fun k=>gU kvs k
 |some (.dz kvs)=>(Ck y).map fun k=>gU kvs k
 |some (.dk kvs)=>(toK y).map fun k=>gU kvs k
 |_=>wf
noncomputable def ResR (K:aa) (ok:Okk) (H:Hp):Option D->Option V->Prop
 |some z,u=>∃ v,u=we v/\Rep K ok H v z
 |none,u=>u=wf
theorem ResR.isSome {K:aa} (h:ResR K ok H r u):u.isSome=r.isSome:=by
 cases r with
 |none=>rw[show u=wf from h];rfl
 |some z=>obtain⟨v,rfl,_⟩:=h;rfl
theorem KvR.res {κ:Type} [DecidableEq κ] {K:aa}{ok:Okk}{H:Hp}{k:κ}{vs:List (κ×V)}{ds:List (κ×D)} (h:KvR K ok H vs ds):ResR K ok H (gU ds k) (uL vs k):=by
 cases q:gU ds k with
 |none=>exact h.val_none q
 |some z=>exact h.val q
theorem DGet.of {K:aa}{x y:V} (t:Stt cls K ok H ω) (rx:Rep K ok H x d) (ry:Rep K ok H y k) (e:Ec ω d k=we r):∃ a u,x=.ref a/\DGet H a y u/\ResR K ok H r u:=by
 unfold Ec at e;cases hc:cellOf ω d with
 |none=>rw[hc] at e;cases e
 |some ob=>
  rw[hc] at e;obtain⟨n,rfl,e1⟩:=dX hc;cases ob with
  |dt kvs=>
   obtain⟨a,rfl,e2,vs,e3,kv⟩:=t.ref rx e1;obtain⟨ks,e4,e5⟩:=aJ (show(Ck k).map _=we r from e);subst e5;obtain⟨b,rfl,_,hb⟩:=toT'_rep e4 ry;exact⟨a,_,rfl,DGet.t e3 hb,kv.res⟩
  |dz kvs=>
   obtain⟨a,rfl,e2,ob,vs,e3,kv⟩:=t.ref rx e1;obtain⟨ks,e4,e5⟩:=aJ (show(Ck k).map _=we r from e);subst e5;obtain⟨b,rfl,_,hb⟩:=toT'_rep e4 ry;exact⟨a,_,rfl,.inr ⟨vs,ks,b,.inr ⟨ob,e3⟩,rfl,hb,rfl⟩,kv.res⟩
  |dk kvs=>
   obtain⟨a,rfl,e2,vs,e3,kv⟩:=t.ref rx e1;obtain⟨ks,e4,e5⟩:=aJ (show(toK k).map _=we r from e);subst e5;obtain rfl:=wV e4 ry;exact⟨a,_,rfl,DGet.k e3,kv.res⟩
  |_=>cases e
noncomputable def cK (ω:Om) (d y:D):Option D:=(Ec ω d y).join
theorem Jz (hu:X.A.units+1<dq) (ho:OE X cls E o fo) (hi:OE X cls E i fi) (hs:OX i:=by intro _ _;rfl):OE X cls E (.Subscript o i pos) (o2 (fun ω a b=>pu (cK ω a b) ω) fo fi):=(IN hu ho hi hs).imp fun σ H Q ⟨ok,ρ,ω,r,ω',P,e,q⟩=>by
 refine tO.then_ P e (fun c z=>by subst z;exact q) fun d ω1 v ok1 H1 e1 n1 P1 r1=> ?_;refine tO.then_ P1 e1 (fun c z=>by subst z;exact exR.nw q n1) fun y ω2 u ok2 H2 e2 n2 P2 r2=> ?_;obtain⟨z,e3,rfl⟩:=cF e2;obtain⟨ue3,rfl⟩:=cN e3;have e4:Ec ω' d y=we (we z):=by
  unfold cK at ue3;cases q:Ec ω' d y with
  |none=>rw[q] at ue3;cases ue3
  |some w=>rw[q] at ue3;cases w with
   |none=>cases ue3
   |some w=>cases ue3;rfl
 obtain⟨a,w,rfl,g,w2⟩:=DGet.of P2.st (r1.ex n2.ex) r2 e4;obtain⟨v',rfl,rv⟩:=w2;exact⟨a,v',rfl,g,q v' ok2 H2 (n1.trans n2) rv⟩
noncomputable def KM (ω:Om) (y d:D):Option D:=(Ec ω d y).map fun r=>.bl r.isSome
theorem LQ (hu:X.A.units+1<dq) (hi:OE X cls E i fi) (ho:OE X cls E o fo) (hm:ik .In o=false:=by with_unfolding_all rfl):OT X cls E (.Compare i [.In] [o] pos) (cC (o2 (fun ω a b=>pu (KM ω a b) ω) fi fo)):=
 (Lm (LI hu hi ho) hm).imp fun σ H Q ⟨ok,ρ,ω,r,ω',P,e,q⟩=>by
 rcases jE e with⟨c,e1,rfl⟩|⟨dd,ωd,e0,e5⟩
 ·rcases jE e1 with⟨c',e2,e3⟩|⟨y,ω1,e2,e3⟩
  ·cases e3;exact⟨ok,ρ,ω,.ex c,ω',P,e2,q⟩
  ·refine⟨ok,ρ,ω,.ok y,ω1,P,e2,fun v ok1 H1 n1 r1=> ?_⟩;rcases jE e3 with⟨c',e4,e6⟩|⟨z,ω2,e4,e6⟩
   ·cases e6;exact⟨ok1,ρ,ω1,.ex c,ω',P.nw n1,e4,exR.nw q n1⟩
   ·obtain⟨_,_,w⟩:=cF e6;cases w
 ·rcases jE e0 with⟨c',e2,e3⟩|⟨y,ω1,e2,e3⟩
  ·cases e3
  ·refine⟨ok,ρ,ω,.ok y,ω1,P,e2,fun v ok1 H1 n1 r1=> ?_⟩;rcases jE e3 with⟨c',e4,e6⟩|⟨z,ω2,e4,e6⟩
   ·cases e6
   ·refine⟨ok1,ρ,ω1,.ok z,ω2,P.nw n1,e4,fun u ok2 H2 n2 r2=> ?_⟩;obtain⟨w,e7,w'⟩:=cF e6;cases w';obtain⟨ue7,rfl⟩:=cN e7;obtain⟨ro,e8,rfl⟩:=aJ ue7;obtain⟨k,e9,rfl⟩:=cF e5;obtain⟨ue9,rfl⟩:=cN e9;cases ue9;obtain⟨a,w,rfl,g,w2⟩:=DGet.of n2.st r2 (r1.ex n2.ex) e8;exact⟨a,w,rfl,g,ro.isSome,by rw[w2.isSome],q ok2 H2 (n1.trans n2)⟩
noncomputable def sK:OG D:=fun _ ω=>we (.ok (.obj ω.length),ω++[.dt []])
theorem Jr:OE X cls E (.Dict [] [] pos) sK:=(PE.imp FB) fun σ H Q ⟨ok,ρ,ω,r,ω',P,e,q⟩=>by
 cases e;exact fun p n=>q _ _ _ (Nw.make (o:=.dT []) P.okh P.st n ⟨[],aP,.nil⟩) .new_obj
end
end L2.MB
end
section
namespace L2.MB
inductive OOut where
 |nx (ρ:Rho)|rt (d:D)|bk (ρ:Rho)|ct (ρ:Rho)|ex (c:Nat)
noncomputable abbrev OS:=Rho->Om->Option (OOut×Om)
noncomputable def nxR (cls:Nat->af) (K:aa) (ok:Okk) (H:Hp) (ω':Om) (ρ:Rho) (N:St->Hp->Prop):Prop:=∀ ok' H' σ',Nw cls K ok H ok' H' ω'->EnvR K ok' H' σ' ρ->σ'.length=ρ.length->N σ' H'
noncomputable def outO (cls:Nat->af) (K:aa) (ok:Okk) (H:Hp) (ω':Om) (E:XE) (D:AR):OOut->Prop
 |.nx ρ=>nxR cls K ok H ω' ρ D.nx
 |.bk ρ=>nxR cls K ok H ω' ρ D.bk
 |.ct ρ=>nxR cls K ok H ω' ρ D.ct
 |.rt d=>∀ v ok' H',Nw cls K ok H ok' H' ω'->Rep K ok' H' v d->D.rt v H'
 |.ex c=>exR cls K ok H ω' E c
noncomputable def tOS (cls:Nat->af) (K:aa) (F:OS) (E:XE):TS:=fun D σ H=>∃(ok:Okk) (ρ:Rho) (ω:Om) (o:OOut) (ω':Om),Pre cls K ok H ω σ ρ/\F ρ ω=we (o,ω')/\outO cls K ok H ω' E D o
noncomputable abbrev OSt (X:Cx) (cls:Nat->af) (E:XE) (st:cq) (F:OS):Prop:=PS X st (tOS cls X.K F E)
noncomputable abbrev OSs (X:Cx) (cls:Nat->af) (E:XE) (st:List cq) (F:OS):Prop:=PSs X st (tOS cls X.K F E)
theorem nxR.nw {K:aa} (h:nxR cls K ok H ω' ρ N) (n:Nw cls K ok H ok' H' ω1):nxR cls K ok' H' ω' ρ N:=fun ok2 H2 σ2 m e l=>h ok2 H2 σ2 (n.trans m) e l
theorem outO.nw {K:aa}{D:AR} (h:outO cls K ok H ω' E D o) (n:Nw cls K ok H ok' H' ω1):outO cls K ok' H' ω' E D o:=by
 cases o with
 |nx ρ=>exact nxR.nw h n
 |bk ρ=>exact nxR.nw h n
 |ct ρ=>exact nxR.nw h n
 |rt d=>exact fun v ok2 H2 m r=>h v ok2 H2 (n.trans m) r
 |ex c=>exact exR.nw h n
noncomputable def oX {α:Type} (f:OG α) (g:α->Rho->Om->Option (OOut×Om)):OS:=fun ρ ω=>match f ρ ω with
 |none=>wf
 |some (.ex c,ω1)=>we (.ex c,ω1)
 |some (.ok a,ω1)=>g a ρ ω1
theorem Db {g:α->Rho->Om->Option (OOut×Om)} (h:oX f g ρ ω=we (o,ω')):(∃ c,f ρ ω=we (.ex c,ω')/\o=.ex c)∨∃ a ω1,f ρ ω=we (.ok a,ω1)/\g a ρ ω1=we (o,ω'):=by
 unfold oX at h;split at h
 ·cases h
 ·cases h;exact .inl ⟨_,‹_›,rfl⟩
 ·exact .inr ⟨_,_,‹_›,h⟩
noncomputable def bN:OS:=fun ρ ω=>we (.nx ρ,ω)
noncomputable def aI (F G:OS):OS:=fun ρ ω=>match F ρ ω with
 |none=>wf
 |some (.nx ρ1,ω1)=>G ρ1 ω1
 |some (o,ω1)=>we (o,ω1)
theorem Ct (h:aI F G ρ ω=we (o,ω')):(∃ ρ1 ω1,F ρ ω=we (.nx ρ1,ω1)/\G ρ1 ω1=we (o,ω'))∨(F ρ ω=we (o,ω')/\∀ ρ1,o≠ .nx ρ1):=by
 unfold aI at h;split at h
 ·cases h
 ·exact .inl ⟨_,_,‹_›,h⟩
 ·rename_i o1 ω1 hn q
  cases h;exact .inr ⟨q,fun ρ1 z=>hn ρ1 z⟩
noncomputable def aV (i:Nat) (f:OG D):OS:=oX f fun d ρ ω=>we (.nx (ρ.set i (we d)),ω)
noncomputable def cB (f:OG D):OS:=oX f fun _ ρ ω=>we (.nx ρ,ω)
noncomputable def dR (t:OG Bool) (F G:OS):OS:=oX t fun k ρ ω=>if k=true then F ρ ω else G ρ ω
noncomputable def aX (f:OG D):OS:=oX f fun d _ ω=>we (.rt d,ω)
section
variable {X:Cx}{cls:Nat->af}{E:XE}{st:cq}{rest body els:List cq}{tg e a b c o i iter value:br}{es:List br}{f:DF}{fa fb fo fi fv:OG D}{fl:OG (List D)}{ft ft':OG Bool}{F G:OS}{pos p apos pos':Pos}{x m:Str}{cn:Nat}
theorem tO.thenS {K:aa}{o:OOut}{D:AR} (P:Pre cls K ok H ω σ ρ) (e:oX fa g ρ ω=we (o,ω')) (hx:outO cls K ok H ω' E D o)
  (h:∀ d ω1 v ok1 H1,g d ρ ω1=we (o,ω')->Nw cls K ok H ok1 H1 ω1->Pre cls K ok1 H1 ω1 σ ρ->Rep K ok1 H1 v d->outO cls K ok1 H1 ω' E D o->Q v H1):tO cls K fa E σ H Q:=by
 rcases Db e with⟨c,e1,rfl⟩|⟨d,ω1,e1,e2⟩
 ·exact⟨ok,ρ,ω,.ex c,ω',P,e1,hx⟩
 ·exact⟨ok,ρ,ω,.ok d,ω1,P,e1,fun v ok1 H1 n r1=>h d ω1 v ok1 H1 e2 n (P.nw n) r1 (hx.nw n)⟩
theorem LU:OSs X cls E [] bN:=(PSs.imp Iz) fun D σ H ⟨ok,ρ,ω,o,ω',P,e,q⟩=>by
 cases e;exact q ok H σ (.refl P.okh P.st) P.env P.len
theorem Jb (h1:OSt X cls E st F) (h2:OSs X cls E rest G):OSs X cls E (st::rest) (aI F G):=(Fx h1 h2).imp fun D σ H ⟨ok,ρ,ω,o,ω',P,e,q⟩=>by
 rcases Ct e with⟨ρ1,ω1,e1,e2⟩|⟨e1,hn⟩
 ·exact⟨ok,ρ,ω,_,ω1,P,e1,fun ok1 H1 σ1 n1 r1 l1=>⟨ok1,ρ1,ω1,o,ω',⟨n1.okh,n1.st,r1,l1⟩,e2,q.nw n1⟩⟩
 ·refine⟨ok,ρ,ω,o,ω',P,e1,?_⟩;cases o with
  |nx ρ1=>exact absurd rfl (hn ρ1)
  |_=>exact q
theorem LS (h1:OSt X cls E st F):OSs X cls E [st] F:=Iy h1
theorem LX {i:Nat} (hN:X.N.Nodup) (hi:X.N[i]?=we x) (hx:Loc X.env.scope x) (he:OE X cls E e fa) (hs:i9 e (we (.Name x pos')) pos.line X.env=pure false:=by rfl)
  (hf:X.fn x=true∨X.env.scope.names.lookup x=we .local:=by first|exact .inl rfl|exact .inr rfl|assumption):OSt X cls E (.Assign [.Name x pos'] e pos) (aV i fa):=
 (Ln hN hi hx he hs hf).imp fun D σ H ⟨ok,ρ,ω,o,ω',P,e,q⟩=>by
  refine tO.thenS P e q fun d ω1 v ok1 H1 e1 n1 P1 r1 q1=> ?_;cases e1;exact q1 ok1 H1 _ (.refl P1.okh P1.st) (P1.env.set P1.len r1 i) (by rw[cg,cg];exact P1.len)
theorem IZ (he:OE X cls E e fa) (hs:i9 e wf pos.line X.env=pure false:=by rfl):OSt X cls E (.Expr e pos) (cB fa):=
 (IC he hs).imp fun D σ H ⟨ok,ρ,ω,o,ω',P,e,q⟩=>by
  refine tO.thenS P e q fun d ω1 v ok1 H1 e1 n1 P1 r1 q1=> ?_;cases e1;exact q1 ok1 H1 σ (.refl P1.okh P1.st) P1.env P1.len
theorem Oh (hc:OT X cls E c ft) (ha:OSs X cls E body F) (hb:OSs X cls E els G):OSt X cls E (.If c body els pos) (dR ft F G):=(NU hc ha hb).imp fun D σ H ⟨ok,ρ,ω,o,ω',P,e,q⟩=>by
 rcases Db e with⟨c,e1,rfl⟩|⟨k,ω1,e1,e2⟩
 ·exact⟨ok,ρ,ω,.ex c,ω',P,e1,q⟩
 ·refine⟨ok,ρ,ω,.ok k,ω1,P,e1,fun ok1 H1 n1=> ?_⟩;cases k with
  |true=>exact KH ⟨ok1,ρ,ω1,o,ω',P.nw n1,e2,q.nw n1⟩
  |false=>exact KI ⟨ok1,ρ,ω1,o,ω',P.nw n1,e2,q.nw n1⟩
theorem LR (he:OE X cls E e fa):OSt X cls E (.Return (we e) pos) (aX fa):=(Lo he).imp fun D σ H ⟨ok,ρ,ω,o,ω',P,e,q⟩=>by
 refine tO.thenS P e q fun d ω1 v ok1 H1 e1 n1 P1 r1 q1=> ?_;cases e1;exact q1 v ok1 H1 (.refl P1.okh P1.st) r1
noncomputable def kE (f:Str) (v:D):List (Str×D)->List (Str×D)
 |[]=>[(f,v)]
 |(g,x)::r=>if g=f then(g,v)::r else(g,x)::kE f v r
theorem KvR.putF {K:aa} (q:Rep K ok H v d):∀ {vs:List (Str×V)}{ds:List (Str×D)},KvR K ok H vs ds->KvR K ok H (L2.putF x v vs) (kE x d ds)
 |_,_,.nil=>.cons q .nil
 |_,_,@KvR.cons _ _ _ _ k v' d' vs ds r rs=>by
  show KvR K ok H (if k=x then(k,v)::vs else(k,v')::L2.putF x v vs) (if k=x then(k,d)::ds else(k,d')::kE x d ds)
  by_cases z:k=x
  ·rw[if_pos z,if_pos z];exact .cons q rs
  ·rw[if_neg z,if_neg z];exact .cons r (KvR.putF q rs)
noncomputable def sY (c:Nat) (x:Str) (ω:Om) (o v:D):Option Om:=match o with
 |.obj n=>match ω[n]? with
  |some (.ins c' fs)=>if c'=c/\fs.length<1000 then we (ω.set n (.ins c (kE x v fs))) else wf
  |_=>wf
 |_=>wf
theorem DZ {c:Nat}{o v:D} (h:sY c x ω o v=we ω'):∃ n fs,o=.obj n/\ω[n]?=we (.ins c fs)/\fs.length<1000/\ω'=ω.set n (.ins c (kE x v fs)):=by
 unfold sY at h;split at h
 ·split at h
  ·obtain⟨⟨rfl,hl⟩,rfl⟩:=bI h;exact⟨_,_,rfl,‹_›,hl,rfl⟩
  ·cases h
 ·cases h
noncomputable def lZ (c:Nat) (x:Str) (fo fv:OG D):OS:=oX fv fun v=>oX fo fun o ρ ω=>(sY c x ω o v).map fun ω'=>(.nx ρ,ω')
theorem LW (hc:Cls X.K (cls cn)) (hn:NoAttr X.K (cls cn) x) (ho:OE X cls E o fo) (hv:OE X cls E value fv) (hs:i9 value (we (.Attribute o x pos')) pos.line X.env=pure false:=by rfl):OSt X cls E (.Assign [.Attribute o x pos'] value pos) (lZ cn x fo fv):=
 (Lp ho hv hs).imp fun D σ H ⟨ok,ρ,ω,oo,ω',P,e,q⟩=>by
  refine tO.thenS P e q fun dv ω1 v ok1 H1 e1 n1 P1 r1 q1=> ?_;refine tO.thenS P1 e1 q1 fun d ω2 u ok2 H2 e2 n2 P2 r2 q2=> ?_;obtain⟨ω3,e3,e4⟩:=aJ e2;cases e4;obtain⟨n,fs,rfl,e5,hl,rfl⟩:=DZ e3;obtain⟨a,rfl,e6,dx,vs,e7,kv⟩:=P2.st.ref r2 e5;refine⟨a,_,dx,vs,rfl,e7,hc,hn,by rw[kv.length];exact hl,?_⟩;have nw:=Nw.write (o:=.ins (cls cn) dx (L2.putF x v vs)) (ob:=.ins cn (kE x dv fs)) P2.okh P2.st e6 e7 fun dat=>⟨dx,_,aP,((kv.mono dat fun _ _ z=>z).putF ((r1.ex n2.ex).mono dat))⟩;exact q2 ok2 _ σ nw (P2.env.ex nw.ex) P2.len
noncomputable def oJ (ω:Om) (o i v:D):Option Om:=match o,i with
 |.obj n,.int k=>match ω[n]? with
  |some (.ml ds)=>(ixN ds.length k).map fun j=>ω.set n (.ml (ds.set j v))
  |_=>wf
 |_,_=>wf
theorem DY {o i v:D} (h:oJ ω o i v=we ω'):∃ n k ds j,o=.obj n/\i=.int k/\ω[n]?=we (.ml ds)/\ixN ds.length k=we j/\ω'=ω.set n (.ml (ds.set j v)):=by
 unfold oJ at h;split at h
 ·split at h
  ·obtain⟨j,e1,rfl⟩:=aJ h;exact⟨_,_,_,j,rfl,rfl,‹_›,e1,rfl⟩
  ·cases h
 ·cases h
noncomputable def gZ (g:Om->D->D->D->Option Om) (fo fi fv:OG D):OS:=oX fv fun v=>oX fo fun o=>oX fi fun i ρ ω=>(g ω o i v).map fun ω'=>(.nx ρ,ω')
theorem IX (ho:OE X cls E o fo) (hi:OE X cls E i fi) (hv:OE X cls E value fv) (hs:tq [.Subscript o i pos'] value pos.line X.env=pure false:=by rfl) (hw:tu [.Subscript o i pos'] value X.env=pure wf:=by rfl)
  (h1:(k6 [.Subscript o i pos'] X.env).map (·.2)=[assign (.Subscript o i pos') X.env]:=by rfl)
  (ha:∀ v,assign (.Subscript o i pos') X.env v=(do
   let ov <- holding [v] (eval o X.env)
   let iv <- holding [v,ov] (eval i X.env)
   mj pos'
   holding [v,ov,iv] (setItem ov iv v)
   release [v,ov,iv] []):=by intro _;rfl):OSt X cls E (.Assign [.Subscript o i pos'] value pos) (gZ oJ fo fi fv):=
 (HD hv (Lu ho hi Fd ha) hs hw h1).imp fun D σ H ⟨ok,ρ,ω,oo,ω',P,e,q⟩=>by
  refine tO.thenS P e q fun dv ω1 v ok1 H1 e1 n1 P1 r1 q1=> ?_;refine tO.thenS P1 e1 q1 fun d ω2 u ok2 H2 e2 n2 P2 r2 q2=> ?_;refine tO.thenS P2 e2 q2 fun y ω3 w ok3 H3 e3 n3 P3 r3 q3=> ?_;obtain⟨ω4,e4,e5⟩:=aJ e3;cases e5;obtain⟨n,k,ds,j,rfl,rfl,e5,hj,rfl⟩:=DY e4;obtain⟨a,rfl,e6,xs,e7,rs⟩:=P3.st.ref (r2.ex n3.ex) e5;obtain rfl:=r3.int_inv;refine⟨a,xs,k,j,rfl,rfl,e7,by rw[rs.length];exact hj,?_⟩;have nw:=Nw.write (o:=.lst (xs.set j v)) (ob:=.ml (ds.set j dv)) P3.okh P3.st e6 e7 fun dat=>⟨_,aP,(rs.mono dat).set ((r1.ex (n2.ex.trans n3.ex)).mono dat) j⟩;exact q3 ok3 _ σ nw (P3.env.ex nw.ex) P3.len
noncomputable def mC (ω:Om) (o i v:D):Option Om:=match o with
 |.obj n=>match ω[n]? with
  |some (.dt kvs)=>(Ck i).bind fun k=>if kvs.length<sizeLine then we (ω.set n (.dt (putD kvs k v))) else wf
  |some (.dk kvs)=>(toK i).bind fun k=>if kvs.length<sizeLine then we (ω.set n (.dk (putD kvs k v))) else wf
  |_=>wf
 |_=>wf
theorem Ja (hu:X.A.units+1<dq) (ho:OE X cls E o fo) (hi:OE X cls E i fi) (hv:OE X cls E value fv) (hs:i9 value (we (.Subscript o i pos')) pos.line X.env=pure false:=by rfl):
  OSt X cls E (.Assign [.Subscript o i pos'] value pos) (gZ mC fo fi fv):=
 (ID hu ho hi hv hs).imp fun D σ H ⟨ok,ρ,ω,oo,ω',P,e,q⟩=>by
  refine tO.thenS P e q fun dv ω1 v ok1 H1 e1 n1 P1 r1 q1=> ?_;refine tO.thenS P1 e1 q1 fun d ω2 u ok2 H2 e2 n2 P2 r2 q2=> ?_;refine tO.thenS P2 e2 q2 fun y ω3 w ok3 H3 e3 n3 P3 r3 q3=> ?_;obtain⟨ω4,e4,e5⟩:=aJ e3;cases e5;have rv:=r1.ex (n2.ex.trans n3.ex);unfold mC at e4;split at e4
  ·split at e4
   ·rename_i n kvs e5
    obtain⟨ks,e8,e9⟩:=bind_some e4;obtain⟨hl,rfl⟩:=bI e9;obtain⟨a,rfl,e6,vs,e7,kv⟩:=P3.st.ref (r2.ex n3.ex) e5;obtain⟨b,rfl,_,hb⟩:=toT'_rep e8 r3;refine⟨a,_,rfl,DPut.t e7 hb (by rw[kv.length];exact hl),?_⟩;have nw:=Nw.write (o:=.dT (lO vs ks v)) (ob:=.dt (putD kvs ks dv)) P3.okh P3.st e6 e7 fun dat=>⟨_,aP,(kv.mono dat fun _ _ z=>z).put (rv.mono dat)⟩;exact q3 ok3 _ σ nw (P3.env.ex nw.ex) P3.len
   ·rename_i n kvs e5
    obtain⟨ks,e8,e9⟩:=bind_some e4;obtain⟨hl,rfl⟩:=bI e9;obtain⟨a,rfl,e6,vs,e7,kv⟩:=P3.st.ref (r2.ex n3.ex) e5;obtain rfl:=wV e8 r3;refine⟨a,_,rfl,DPut.k e7 (by rw[kv.length];exact hl),?_⟩;have nw:=Nw.write (o:=.dK (lO vs ks v)) (ob:=.dk (putD kvs ks dv)) P3.okh P3.st e6 e7 fun dat=>⟨_,aP,(kv.mono dat fun _ _ z=>z).put (rv.mono dat)⟩;exact q3 ok3 _ σ nw (P3.env.ex nw.ex) P3.len
   ·cases e4
  ·cases e4
structure ItO (cls:Nat->af) (K:aa) (ok1:Okk) (H1:Hp) (C:Om->Bool) (J:It) (ds:List D):Prop where
 go:∀ i ok H ω,Nw cls K ok1 H1 ok H ω->C ω=true->i<ds.length->J.go i H
 yld:∀ i ok H ω x H' d,Nw cls K ok1 H1 ok H ω->C ω=true->J.yld i H x H'->ds[i]?=we d->Same H H'/\Rep K ok H' x d
 stop:∀ i ok H ω,Nw cls K ok1 H1 ok H ω->C ω=true->ds.length<=i->J.stop i H
noncomputable abbrev OI':=OG (List D×(Om->Bool))
noncomputable def tOI (cls:Nat->af) (K:aa) (f:OI') (E:XE):TI:=fun σ H R=>∃(ok:Okk) (ρ:Rho) (ω:Om) (r:Rz (List D×(Om->Bool))) (ω':Om),Pre cls K ok H ω σ ρ/\f ρ ω=we (r,ω')/\match r with
 |.ok p=>∀ J ok' H',Nw cls K ok H ok' H' ω'->ItO cls K ok' H' p.2 J p.1->R J H'
 |.ex c=>exR cls K ok H ω' E c
noncomputable abbrev OI (X:Cx) (cls:Nat->af) (E:XE) (tg e:br) (f:OI'):Prop:=PI X tg e (tOI cls X.K f E)
noncomputable def cM:Om->Bool:=fun _=>true
theorem ItD.toO {K:aa} (h:ItD K ok1.al (Fk ok1 H1) J ds):ItO cls K ok1 H1 cM J ds:=by
 have sm:∀ {ok:Okk}{H:Hp}{ω:Om},Nw cls K ok1 H1 ok H ω->Same (Fk ok1 H1) H:=fun n b u z=>(n.ex.dat b u (kD z).1 (kD z).2).2;refine⟨fun i ok H ω n _ hi=>h.go i H (sm n) hi,fun i ok H ω x H' d n _ y hd=> ?_,fun i ok H ω n _ hi=>h.stop i H (sm n) hi⟩;obtain⟨s,r⟩:=h.yld i H x H' d (sm n) y hd;refine⟨s,Rep.mono (ok:=⟨fun b=>Fk ok1 H1 b≠wf∨H b=wf,ok1.al⟩) (fun b u z w=>⟨?_,w⟩) (fun m a z=>n.ex.ids m a z) r⟩;rcases z with z|z
 ·cases q:Fk ok1 H1 b with
  |none=>exact absurd q z
  |some u'=>exact(n.ex.dat b u' (kD q).1 (kD q).2).1
 ·exact n.okh b z
noncomputable def kZ (n:Nat) (ds:List D) (ω:Om):Bool:=match ω[n]? with
 |some (.ml ds')=>sameDs ds' ds
 |_=>false
theorem Gk (h:kZ n ds ω=true):ω[n]?=we (.ml ds):=by
 unfold kZ at h;split at h
 ·rename_i ds' e
  rw[sameDs_eq ds' ds h] at e;exact e
 ·cases h
noncomputable def rD (ω:Om) (d:D):Option (List D×(Om->Bool)):=match d with
 |.lst ds=>we (ds,cM)
 |.obj n=>match ω[n]? with
  |some (.ml ds)=>we (ds,kZ n ds)
  |_=>wf
 |_=>wf
theorem GB (h:rD ω d=we (ds,chk)):(d=.lst ds/\chk=cM)∨∃ n,d=.obj n/\ω[n]?=we (.ml ds)/\chk=kZ n ds:=by
 cases d with
 |lst xs=>cases h;exact .inl ⟨rfl,rfl⟩
 |obj n=>
  have h':(match ω[n]? with
   |some (.ml ds)=>we (ds,kZ n ds)
   |_=>wf)=we (ds,chk):=h
  split at h'
  ·rename_i xs e
   cases h';exact .inr ⟨n,rfl,e,rfl⟩
  ·cases h'
 |_=>cases h
theorem yA {K:aa} (e:rD ω1 d=we (ds,chk)) (st:Stt cls K ok1 H1 ω1) (r:Rep K ok1 H1 v d):
  ∃ a,v=.ref a/\(∃ xs,SqL K H1 a xs)/\∀ ok H ω,Nw cls K ok1 H1 ok H ω->chk ω=true->∃ xs,SqL K H a xs/\Reps K ok H xs ds:=by
 rcases GB e with⟨rfl,rfl⟩|⟨n,rfl,e1,rfl⟩
 ·obtain⟨a,xs,rfl,g,rs⟩:=r.lst_inv;refine⟨a,rfl,⟨xs,g.sq⟩,fun ok H ω n _=>⟨xs,(g.mono n.ex.dat).sq,rs.ex n.ex⟩⟩
 ·obtain⟨a,rfl,e2,xs,e3,rs⟩:=st.ref r e1;refine⟨a,rfl,⟨xs,SqL.of e3⟩,fun ok H ω nw hc=> ?_⟩;obtain⟨b,e4,xs',e5,rs'⟩:=nw.st.cell n _ (Gk hc)
  have:=nw.ex.ids n a e2
  rw[e4] at this;cases this;exact⟨xs',SqL.of e5,rs'⟩
noncomputable def oIL (f:OG D):OI':=oB f fun d _ ω=>oR (pu (rD ω d) ω)
theorem Jl (h:OE X cls E e fa):OI X cls E tg e (oIL fa):=PI.imp (IH h) fun σ H R ⟨ok,ρ,ω,r,ω',P,e,q⟩=>by
 refine tO.then_ P e (fun c z=>by subst z;exact q) fun d ω1 v ok1 H1 e1 n1 P1 r1=> ?_;obtain⟨⟨ds,chk⟩,e3,rfl⟩:=cF e1;obtain⟨ue3,rfl⟩:=cN e3;obtain⟨a,rfl,hx,at_⟩:=yA ue3 P1.st r1;refine⟨a,rfl,hx,q _ ok1 H1 n1 ⟨fun i ok H ω n c hi=> ?_,fun i ok H ω x H' d n c y hd=> ?_,fun i ok H ω n c hi=> ?_⟩⟩
 ·obtain⟨xs,s1,rs⟩:=at_ ok H ω n c;have hi':i<xs.length:=by rw[rs.length];exact hi
  exact⟨xs,xs[i],s1,by simp[hi']⟩
 ·obtain⟨xs,s1,rs⟩:=at_ ok H ω n c;obtain⟨rfl,y⟩:=y;obtain⟨w,z1,z2⟩:=rs.get hd;rw[y xs s1] at z1;cases z1;exact⟨Same.refl _,z2⟩
 ·obtain⟨xs,s1,rs⟩:=at_ ok H ω n c;exact⟨xs,s1,by rw[rs.length];exact hi⟩
noncomputable def Nu (ω:Om) (ds:List D):Option (List D×(Om->Bool)):=match ds with
 |[a,b]=>(rD ω a).bind fun p=>(rD ω b).map fun q=>(wU p.1 q.1,fun ω=>p.2 ω&&q.2 ω)
 |_=>wf
noncomputable def oIZ (f:OG (List D)):OI':=oB f fun ds _ ω=>oR (pu (Nu ω ds) ω)
theorem Ml (hg:Gl X "zip") (hm:X.mg "zip"=wf) (ha:OA X cls E [a,b] fl) (hs:av [a,b] X.env=[(false,eval a X.env),(false,eval b X.env)]:=by rfl) (hs2:av [b] X.env=[(false,eval b X.env)]:=by rfl):
  OI X cls E (.Tuple ts k tp) (.Call (.Name "zip" p) [a,b] [] pos) (oIZ fl):=PI.imp (Lq hg hm ha hs hs2) fun σ H R ⟨ok,ρ,ω,r,ω',P,e,q⟩=>by
 refine tOA.then_ P e (fun c z=>by subst z;exact q) fun ds ω1 vs ok1 H1 e1 n1 P1 r1=> ?_;obtain⟨⟨dz,chk⟩,e3,rfl⟩:=cF e1;obtain⟨ue3,rfl⟩:=cN e3;unfold Nu at ue3;split at ue3
 ·obtain⟨⟨d1,c1⟩,e4,e5⟩:=bind_some ue3;obtain⟨⟨d2,c2⟩,e6,e7⟩:=aJ e5;cases e7;obtain⟨v,v',rfl,ra,rb⟩:=r1.two_inv;obtain⟨a1,rfl,hx,at1⟩:=yA e4 P1.st ra;obtain⟨b1,rfl,hy,at2⟩:=yA e6 P1.st rb;have hl:(wU d1 d2).length=min d1.length d2.length:=by simp[wU]
  refine⟨a1,b1,rfl,hx,hy,q _ ok1 H1 n1 ⟨fun i ok H ω n c hi=> ?_,fun i ok H ω x H' d n c y hd=> ?_,fun i ok H ω n c hi=> ?_⟩⟩
  ·obtain⟨xs,s1,rs⟩:=at1 ok H ω n (bq _ _ ▸ c).1;obtain⟨ys,s2,rs2⟩:=at2 ok H ω n (bq _ _ ▸ c).2;rw[hl] at hi;have hi1:i<xs.length:=by rw[rs.length];omega
   have hi2:i<ys.length:=by rw[rs2.length];omega
   exact⟨xs,ys,xs[i],ys[i],s1,s2,by simp[hi1],by simp[hi2]⟩
  ·obtain⟨xs,s1,rs⟩:=at1 ok H ω n (bq _ _ ▸ c).1;obtain⟨ys,s2,rs2⟩:=at2 ok H ω n (bq _ _ ▸ c).2;obtain⟨T,x1,y1,rfl,hT,hx,hy,rfl⟩:=y;have hx':=hx xs s1;have hy':=hy ys s2;unfold wU at hd;rw[sh] at hd;cases q1:d1[i]? with
   |none=>rw[q1] at hd;cases hd
   |some u1=>
    cases q2:d2[i]? with
    |none=>rw[q1,q2] at hd;cases hd
    |some u2=>
     rw[q1,q2] at hd;cases hd;obtain⟨w1,z1,z2⟩:=rs.get q1;rw[hx'] at z1;cases z1;obtain⟨w2,z3,z4⟩:=rs2.get q2;rw[hy'] at z3;cases z3;exact⟨bW hT,.tup_new (n.okh T hT) hT (.cons z2 (.cons z4 .nil))⟩
  ·obtain⟨xs,s1,rs⟩:=at1 ok H ω n (bq _ _ ▸ c).1;obtain⟨ys,s2,rs2⟩:=at2 ok H ω n (bq _ _ ▸ c).2;rw[hl] at hi;refine⟨xs,ys,s1,s2,?_⟩;rw[rs.length,rs2.length];omega
 ·cases ue3
noncomputable abbrev EF:XE:=fun _ _=>False
noncomputable def bZ (bd:BR) (chk:Om->Bool) (F:OS):List D->OS
 |[],ρ,ω=>if chk ω=true then we (.nx ρ,ω) else wf
 |d::ds,ρ,ω=>if chk ω=true then(bd d ρ).bind fun ρ1=>match F ρ1 ω with
  |none=>wf
  |some (.nx ρ2,ω2)=>bZ bd chk F ds ρ2 ω2
  |some (.ct ρ2,ω2)=>bZ bd chk F ds ρ2 ω2
  |some (.bk ρ2,ω2)=>we (.nx ρ2,ω2)
  |some (.rt d,ω2)=>we (.rt d,ω2)
  |some (.ex _,_)=>wf else wf
noncomputable def cD (fi:OI') (bd:BR) (F:OS):OS:=oX fi fun p ρ ω=>bZ bd p.2 F p.1 ρ ω
theorem cO {α:Type}{c:Prop} [Decidable c] {a:Option α}{b:α} (h:(if c then a else wf)=we b):c/\a=we b:=by
 by_cases hc:c
 ·rw[if_pos hc] at h;exact⟨hc,h⟩
 ·rw[if_neg hc] at h;cases h
noncomputable def Qg (g:TG) (tb:TS) (D:AR) (σ:St) (J:It) (H1:Hp):Prop:=∃ W:Nat->Nat->St->Hp->Prop,(∃ m,W 0 m σ H1)/\∀ i m σ H,W i m σ H->
 (J.stop i H/\D.nx σ H)∨(J.go i H/\∃ N:St->Hp->Prop,(∀ σ' H',N σ' H'->∃ m',m'<m/\W (i+1) m' σ' H')/\∀ x H',J.yld i H x H'->g x σ H' fun σ2 H2=>tb { D with nx:=N,ct:=N,bk:=D.nx } σ2 H2)
theorem AB {K:aa}{D:AR}{o:OOut} (it:ItO cls K ok1 H1 chk J ds) (P1:Pre cls K ok1 H1 ω1 σ ρ) (e2':bZ bd chk F ds ρ ω1=we (o,ω')) (q1:outO cls K ok1 H1 ω' EF D o):
  Qg (gR K bd) (tOS cls K F EF) D σ J H1:=by
 refine⟨fun i m σ' H'=>∃ ok' ωc ρ',m=ds.length-i/\i<=ds.length/\Nw cls K ok1 H1 ok' H' ωc/\EnvR K ok' H' σ' ρ'/\σ'.length=ρ'.length/\bZ bd chk F (ds.drop i) ρ' ωc=we (o,ω'),
  ⟨ds.length,ok1,ω1,ρ,by simp,ic _,.refl P1.okh P1.st,P1.env,P1.len,by simpa using e2'⟩,?_⟩
 rintro i m σ' H' ⟨ok',ωc,ρ',rfl,hi,n2,env,len,ef⟩
 by_cases hlt:i<ds.length
 ·have hdrop:ds.drop i=ds[i]::ds.drop (i+1):=p0 hlt;rw[hdrop] at ef;have ef':(if chk ωc=true then(bd ds[i] ρ').bind fun ρ1=>(match F ρ1 ωc with
   |none=>wf
   |some (.nx ρ2,ω2)=>bZ bd chk F (ds.drop (i+1)) ρ2 ω2
   |some (.ct ρ2,ω2)=>bZ bd chk F (ds.drop (i+1)) ρ2 ω2
   |some (.bk ρ2,ω2)=>we (.nx ρ2,ω2)
   |some (.rt d,ω2)=>we (.rt d,ω2)
   |some (.ex _,_)=>wf) else wf)=we (o,ω'):=ef
  obtain⟨hc,ef'⟩:=cO ef';obtain⟨ρ1,e3,e4⟩:=bind_some ef';refine .inr ⟨it.go i ok' H' ωc n2 hc hlt,fun σ2 H2=>∃ ok2 ω2 ρ2,Nw cls K ok1 H1 ok2 H2 ω2/\EnvR K ok2 H2 σ2 ρ2/\σ2.length=ρ2.length/\bZ bd chk F (ds.drop (i+1)) ρ2 ω2=we (o,ω'),
   fun σ2 H2 ⟨ok2,ω2,ρ2,z1,z2,z3,z4⟩=>⟨ds.length-(i+1),by omega,ok2,ω2,ρ2,rfl,hlt,z1,z2,z3,z4⟩,fun x H'' y=> ?_⟩
  obtain⟨s2,rx⟩:=it.yld i ok' H' ωc x H'' ds[i] n2 hc y (by simp[hlt]);have n3:Nw cls K ok1 H1 ok' H'' ωc:=n2.trans (.same n2.okh n2.st s2);refine⟨ok',ρ',ρ1,ds[i],env.same s2,len,rx,e3,fun σ2 env2 len2=> ?_⟩;cases eF:F ρ1 ωc with
  |none=>rw[eF] at e4;cases e4
  |some p=>
   obtain⟨o1,ω2⟩:=p;rw[eF] at e4;refine⟨ok',ρ1,ωc,o1,ω2,⟨n3.okh,n3.st,env2,len2⟩,eF,?_⟩;cases o1 with
   |nx ρ2=>exact fun ok3 H3 σ3 m3 r3 l3=>⟨ok3,ω2,ρ2,n3.trans m3,r3,l3,e4⟩
   |ct ρ2=>exact fun ok3 H3 σ3 m3 r3 l3=>⟨ok3,ω2,ρ2,n3.trans m3,r3,l3,e4⟩
   |bk ρ2=>
    cases e4;exact fun ok3 H3 σ3 m3 r3 l3=>q1 ok3 H3 σ3 (n3.trans m3) r3 l3
   |rt d=>
    cases e4;exact fun v ok3 H3 m3 r3=>q1 v ok3 H3 (n3.trans m3) r3
   |ex c=>cases e4
 ·have ei:i=ds.length:=by omega
  subst ei;rw[u5] at ef;have ef':(if chk ωc=true then we (OOut.nx ρ',ωc) else wf)=we (o,ω'):=ef;obtain⟨hc,ef'⟩:=bI ef';cases ef';exact .inl ⟨it.stop _ ok' H' _ n2 hc (bc _),q1 ok' H' σ' n2 env len⟩
theorem tOS.for_ {K:aa}{fi:OI'}{D:AR} (h:tOS cls K (cD fi bd F) EF D σ H):NH (tOI cls K fi EF) (gR K bd) (tOS cls K F EF) D σ H:=by
 obtain⟨ok,ρ,ω,o,ω',P,e,q⟩:=h;rcases Db e with⟨c,e1,rfl⟩|⟨⟨ds,chk⟩,ω1,e1,e2⟩
 ·exact⟨ok,ρ,ω,.ex c,ω',P,e1,q⟩
 ·exact⟨ok,ρ,ω,.ok (ds,chk),ω1,P,e1,fun J ok1 H1 n1 it=>AB it (P.nw n1) e2 (q.nw n1)⟩
noncomputable def sNx (F:OS):OS:=fun ρ ω=>match F ρ ω with
 |some (.ex _,_)=>wf
 |r=>r
theorem Cu {o:OOut} (h:sNx F ρ ω=we (o,ω')):F ρ ω=we (o,ω')/\∀ c,o≠ .ex c:=by
 unfold sNx at h;split at h
 ·cases h
 ·rename_i hn
  exact⟨h,fun c z=>by subst z;exact hn c ω' h⟩
theorem _root_.L2.PS.nox (h:PS X.nox st t):PS X st t:=fun pins s σ H D I hw=>
 gu (h pins s σ H D (I.wish _) hw) (fun _ _ q=>q.unwish) fun _ _ z=>io z
theorem HL (h:OSt X.nox cls EF st F):OSt X cls E st (sNx F):=(PS.nox h).imp fun D σ H ⟨ok,ρ,ω,o,ω',P,e,q⟩=>by
 obtain⟨e,hn⟩:=Cu e;refine⟨ok,ρ,ω,o,ω',P,e,?_⟩;cases o with
 |ex c=>exact absurd rfl (hn c)
 |_=>exact q
theorem LV {fi:OI'} (hc:X.calm=true) (hi:OI X.nox cls EF tg iter fi) (hg:PG X.nox tg (gR X.K bd)) (hb:OSs X.nox cls EF body F) (hs:∀ x,f9 iter X.env x=pure x:=by intro _;rfl):
  OSt X cls E (.For tg iter body [] pos) (sNx (cD fi bd F)):=HL ((HC (X:=X.nox) vh hc hi hg hb hs).imp fun D σ H h=>tOS.for_ h)
end
noncomputable def compLO (bd:BR) (chk:Om->Bool) (t:OG Bool) (f:OG D):List D->Rho->Om->Option (List D×Om)
 |[],_,ω=>if chk ω=true then we ([],ω) else wf
 |d::ds,ρ,ω=>if chk ω=true then(bd d ρ).bind fun ρ1=>match t ρ1 ω with
  |some (.ok k,ω1)=>if k=true then(match f ρ1 ω1 with
   |some (.ok y,ω2)=>(compLO bd chk t f ds ρ1 ω2).map fun r=>(y::r.1,r.2)
   |_=>wf) else compLO bd chk t f ds ρ1 ω1
  |_=>wf else wf
noncomputable def eE (fin:Om->List D->Option (D×Om)) (fi:OI') (caps:List (Option Nat)) (bd:BR) (t:OG Bool) (f:OG D):OG D:=oB fi fun p ρ ω=>if p.1.length<=sizeLine then(compLO bd p.2 t f p.1 (EX caps ρ) ω).bind fun r=>oR (fin r.2 r.1) else wf
noncomputable def Ei (ω:Om) (ds:List D):Option (D×Om):=we (.lst ds,ω)
noncomputable def GN (ω:Om) (ds:List D):Option (D×Om):=we (.obj ω.length,ω++[.ml ds])
noncomputable def Fin (fin:Om->List D->Option (D×Om)):Prop:=∀(cls:Nat->af) (K:aa) (ok1 ok:Okk) (H1 H:Hp) (ω ω':Om) (P:af) (vs:List V) (ds:List D) (d:D),Nw cls K ok1 H1 ok H ω->H1 P=wf->H P=we (.lst vs)->¬ ok.p P->(∀ n,ok.al n≠we P)->Reps K ok H vs ds->fin ω ds=we (d,ω')->
 ∃ ok',Nw cls K ok1 H1 ok' H ω'/\Rep K ok' H (.ref P) d
theorem OL:Fin Ei:=fun cls K ok1 ok H1 H ω ω' P vs ds d nw h1 hP np na rs e=>by
 cases e;have dat:∀ b o,ok.p b->H b=we o->(ok.p b∨b=P)/\H b=we o:=fun b o k e=>⟨.inl k,e⟩;refine⟨⟨fun b=>ok.p b∨b=P,ok.al⟩,⟨⟨fun b o k e=>⟨.inl (nw.ex.dat b o k e).1,(nw.ex.dat b o k e).2⟩,nw.ex.ids,nw.ex.frm,nw.ex.new,nw.ex.keep,fun b k=> ?_,nw.ex.frz⟩,⟨fun b e=>.inl (nw.okh b e),fun b xs e=>.inl (nw.okh.tp b xs e)⟩,fun n ob e=> ?_,nw.st.dom,nw.st.inj,fun n a e k=> ?_⟩,.lst ⟨.inr rfl,hP⟩ (rs.mono dat)⟩
 ·rcases k with k|rfl
  ·exact nw.ex.sub b k
  ·exact .inr h1
 ·obtain⟨a,e1,c⟩:=nw.st.cell n ob e;exact⟨a,e1,c.mono dat (fun _ _ z=>z) fun _ z=>z⟩
 ·rcases k with k|rfl
  ·exact nw.st.nok n a e k
  ·exact na n e
theorem OJ:Fin GN:=fun cls K ok1 ok H1 H ω ω' P vs ds d nw h1 hP np na rs e=>by
 cases e;have al:∀ m b,(if m=ω.length then we P else ok.al m)=we b->(m=ω.length/\b=P)∨(m≠ω.length/\ok.al m=we b):=fun m b q=>by
  by_cases hm:m=ω.length
  ·rw[if_pos hm] at q;exact .inl ⟨hm,(b9 q).symm⟩
  ·rw[if_neg hm] at q;exact .inr ⟨hm,q⟩
 have ids:∀ m b,ok.al m=we b->(if m=ω.length then we P else ok.al m)=we b:=fun m b q=>by
  rw[if_neg (ci (nw.st.dom m b q))];exact q
 have dat:∀ b o,ok.p b->H b=we o->ok.p b/\H b=we o:=fun b o k e=>⟨k,e⟩;refine⟨⟨ok.p,fun m=>if m=ω.length then we P else ok.al m⟩,⟨⟨nw.ex.dat,fun m b q=>ids m b (nw.ex.ids m b q),nw.ex.frm,fun m b q=> ?_,nw.ex.keep,nw.ex.sub,nw.ex.frz⟩,⟨nw.okh.fn,nw.okh.tp⟩,fun m ob q=> ?_,fun m b q=> ?_,fun m m' b q q'=> ?_,fun m b q k=> ?_⟩,.obj (by show(if ω.length=ω.length then we P else _)=_;rw[if_pos rfl])⟩
 ·rcases al m b q with⟨_,rfl⟩|⟨_,q⟩
  ·exact .inr h1
  ·exact nw.ex.new m b q
 ·by_cases hm:m<ω.length
  ·rw[aj hm] at q;obtain⟨b,e1,c⟩:=nw.st.cell m ob q;exact⟨b,ids m b e1,c.mono dat ids fun _ z=>z⟩
  ·have hm':m=ω.length:=by
    have:=(bh.mp q).1
    simp at this;omega
   subst hm';rw[cr (bc _)] at q;simp at q;subst q;exact⟨P,by show(if ω.length=ω.length then we P else _)=_;rw[if_pos rfl],vs,hP,Reps.mono (ok':=⟨ok.p,fun m=>if m=ω.length then we P else ok.al m⟩) dat ids rs⟩
 ·rw[b0,jg];rcases al m b q with⟨rfl,_⟩|⟨_,q⟩
  ·omega
  ·have:=nw.st.dom m b q
   omega
 ·rcases al m b q with⟨rfl,rfl⟩|⟨_,qa⟩ <;> rcases al m' b q' with⟨rfl,w⟩|⟨_,qb⟩
  ·rfl
  ·exact absurd qb (na m')
  ·rw[w] at qa;exact absurd qa (na m)
  ·exact nw.st.inj m m' b qa qb
 ·rcases al m b q with⟨_,rfl⟩|⟨_,q⟩
  ·exact np k
  ·exact nw.st.nok m b q k
theorem yQ (h:compLO bd chk t f (d::ds) ρ ω=we (ys,ω')):
  chk ω=true/\∃ ρ1 k ω1,bd d ρ=we ρ1/\t ρ1 ω=we (.ok k,ω1)/\((k=true/\∃ y zs ω2,f ρ1 ω1=we (.ok y,ω2)/\compLO bd chk t f ds ρ1 ω2=we (zs,ω')/\ys=y::zs)∨(k=false/\compLO bd chk t f ds ρ1 ω1=we (ys,ω'))):=by
 obtain⟨hc,h⟩:=cO (show(if chk ω=true then _ else wf)=_ from h);obtain⟨ρ1,e1,h⟩:=bind_some h;refine⟨hc,ρ1,?_⟩;split at h
 ·rename_i k ω1 e2
  refine⟨k,ω1,e1,e2,?_⟩;cases k with
  |true=>
   rw[if_pos rfl] at h;split at h
   ·rename_i y ω2 e3
    obtain⟨⟨zs,ω3⟩,e4,e5⟩:=aJ h;cases e5;exact .inl ⟨rfl,y,zs,ω2,e3,e4,rfl⟩
   ·cases h
  |false=>
   rw[if_neg cf] at h;exact .inr ⟨rfl,h⟩
 ·cases h
section
variable {X:Cx}{cls:Nat->af}{E:XE}{tg iter elt:br}{ifs:List br}{scope:j6}{N':List Str}{caps:List (Option Nat)}{fi:OI'}{bd:BR}{t:OG Bool}{f:OG D}{pos:Pos}{fin:Om->List D->Option (D×Om)}
theorem tO.comp {K:aa} (Fn:Fin fin) (h:tO cls K (eE fin fi caps bd t f) E σ H Q):Ik (tOI cls K fi E) caps (gR K bd) (tOT cls K t EF) (tO cls K f EF) σ H Q:=by
 obtain⟨ok,ρ,ω,r,ω',P,e,q⟩:=h;rcases jE e with⟨c,e1,rfl⟩|⟨⟨ds,chk⟩,ω1,e1,e2⟩
 ·exact⟨ok,ρ,ω,.ex c,ω',P,e1,q⟩
 ·refine⟨ok,ρ,ω,.ok (ds,chk),ω1,P,e1,fun J ok1 H1 n1 it A hA=> ?_⟩;have P1:=P.nw n1;obtain⟨hz,e2⟩:=cO (show(if ds.length<=sizeLine then _ else wf)=_ from e2);obtain⟨⟨out,ωf⟩,e3,e4⟩:=bind_some e2;obtain⟨d,e5,rfl⟩:=cF e4
  -- ahead of the first turn:the list that is filled stands apart
  have start:Nw cls K ok1 H1 ⟨fun b=>ok1 b/\b≠A,ok1.al⟩ (upd H1 A (.lst [])) ω1:=by
   have dat:∀ b o,ok1.p b->H1 b=we o->(ok1.p b/\b≠A)/\upd H1 A (.lst []) b=we o:=fun b o k e=>⟨⟨k,aN e hA⟩,by rw[aG (aN e hA)];exact e⟩;refine⟨⟨dat,fun _ _ z=>z,fun b o z _=>by rw[aG (aN z hA)];exact z,fun _ _ z=>.inl z,fun b z=> ?_,fun b k=>.inl k.1,fun b x u z=>by rw[aG (aN z hA)];exact z⟩,⟨fun b z=> ?_,fun b xs z=> ?_⟩,fun n ob z=> ?_,P1.st.dom,P1.st.inj,fun n a z k=>P1.st.nok n a z k.1⟩
   ·by_cases hb:b=A
    ·rw[hb];exact hA
    ·rw[aG hb] at z;exact z
   ·have hb:b≠A:=fun w=>by rw[w,aP] at z;cases z
    rw[aG hb] at z;exact⟨P1.okh b z,hb⟩
   ·have hb:b≠A:=fun w=>by rw[w,aP] at z;cases z
    rw[aG hb] at z;exact⟨P1.okh.tp b xs z,hb⟩
   ·obtain⟨a,z1,c⟩:=P1.st.cell n ob z;exact⟨a,z1,c.mono dat (fun _ _ z=>z) fun o w=>by rw[aG (aN w hA)];exact w⟩
  refine⟨fun i m σ' H'=>∃ ok' ωc ρ' vs acc rest,m=ds.length-i/\i<=ds.length/\Nw cls K ok1 H1 ok' H' ωc/\¬ ok'.p A/\(∀ n,ok'.al n≠we A)/\H' A=we (.lst vs)/\Reps K ok' H' vs acc/\EnvR K ok' H' σ' ρ'/\σ'.length=ρ'.length/\
   compLO bd chk t f (ds.drop i) ρ' ωc=we (rest,ωf)/\acc++rest=out/\acc.length<=i,
   ⟨ds.length,_,ω1,EX caps ρ,[],[],out,by simp,ic _,start,fun k=>k.2 rfl,fun n z=> ?_,aP,.nil,(P1.env.ex start.ex).cap caps,Ky _ _ _,by simpa using e3,by simp,ic _⟩,?_⟩
  ·obtain⟨_,_,c⟩:=P1.st.at_ (show ok1.al n=we A from z);obtain⟨_,w,_⟩:=c.there;rw[hA] at w;cases w
  ·rintro i m σ' H' ⟨ok',ωc,ρ',vs,acc,rest,rfl,hi,nw,np,na,hv,ra,re,rl,ec,ea,hal⟩
   by_cases hlt:i<ds.length
   ·have hdrop:ds.drop i=ds[i]::ds.drop (i+1):=p0 hlt;rw[hdrop] at ec;obtain⟨hc,ρ1,k,ω2,b1,b2,hk⟩:=yQ ec;refine .inr ⟨it.go i ok' H' ωc nw hc hlt,fun x H'' y=> ?_⟩;obtain⟨s2,rx⟩:=it.yld i ok' H' ωc x H'' ds[i] nw hc y (by simp[hlt]);have nw2:Nw cls K ok' H' ok' H'' ωc:=.same nw.okh nw.st s2;refine⟨ok',ρ',ρ1,ds[i],re.same s2,rl,rx,b1,fun σ2 re2 rl2=> ?_⟩;refine⟨ok',ρ1,ωc,.ok k,ω2,⟨nw2.okh,nw2.st,re2,rl2⟩,b2,fun ok3 H3 nw3=> ?_⟩
    -- the list that is filled stays apart
    have apart:∀ {okx:Okk}{Hx:Hp}{ωx:Om},Nw cls K ok' H' okx Hx ωx->¬ okx.p A/\(∀ n,okx.al n≠we A)/\Hx A=we (.lst vs):=by
     intro okx Hx ωx nx;refine⟨fun z=> ?_,fun n z=> ?_,nx.ex.frm A _ hv na⟩
     ·rcases nx.ex.sub A z with z|z
      ·exact np z
      ·rw[hv] at z;cases z
     ·rcases nx.ex.new n A z with z|z
      ·exact na n z
      ·rw[hv] at z;cases z
    rcases hk with⟨rfl,yd,zs,ω4,b5,b6,rfl⟩|⟨rfl,b6⟩
    ·refine KH ⟨ok3,ρ1,ω2,.ok yd,ω4,⟨nw3.okh,nw3.st,re2.ex nw3.ex,rl2⟩,b5,fun yv ok4 H4 nw4 ry=> ?_⟩;have nx:=nw2.trans (nw3.trans nw4);obtain⟨np4,na4,hv4⟩:=apart nx;have hvl:vs.length<sizeLine:=by
      rw[ra.length];omega
     have keep:∀ b o,ok4.p b->H4 b=we o->ok4.p b/\upd H4 A (.lst (vs++[yv])) b=we o:=fun b o k e=>⟨k,by rw[aG (show b≠A from fun w=>np4 (w ▸ k))];exact e⟩;have nwf:=nw.trans nx;refine⟨vs,ds.length-(i+1),hv4,hvl,by omega,ok4,ω4,ρ1,vs++[yv],acc++[yd],zs,rfl,hlt,?_,np4,na4,aP,?_,?_,rl2,b6,by simpa using ea,by simp;omega⟩
     ·have nA:∀ {b:af}{o:HO},H1 b=we o->b≠A:=fun z=>aN z hA;refine⟨⟨fun b o k e=>⟨(nwf.ex.dat b o k e).1,by rw[aG (nA e)];exact(nwf.ex.dat b o k e).2⟩,nwf.ex.ids,fun b o e z=>by rw[aG (nA e)];exact nwf.ex.frm b o e z,nwf.ex.new,fun b e=> ?_,nwf.ex.sub,fun b x u z=>by rw[aG (nA z)];exact nwf.ex.frz b x u z⟩,⟨fun b e=> ?_,fun b xs e=> ?_⟩,fun n ob e=> ?_,nwf.st.dom,nwf.st.inj,nwf.st.nok⟩
      ·by_cases hb:b=A
       ·rw[hb];exact hA
       ·rw[aG hb] at e;exact nwf.ex.keep b e
      ·have hb:b≠A:=fun w=>by rw[w,aP] at e;cases e
       rw[aG hb] at e;exact nwf.okh b e
      ·have hb:b≠A:=fun w=>by rw[w,aP] at e;cases e
       rw[aG hb] at e;exact nwf.okh.tp b xs e
      ·obtain⟨a,z1,c⟩:=nwf.st.cell n ob e;exact⟨a,z1,c.mono keep (fun _ _ z=>z) fun o w=>by rw[aG (show a≠A from fun w'=>na4 n (w' ▸ z1))];exact w⟩
     ·exact((ra.ex nx.ex).snoc ry).mono keep
     ·intro j dj ej;obtain⟨w,a,r⟩:=(re2.ex (nw3.trans nw4).ex) j dj ej;exact⟨w,a,r.mono keep⟩
    ·have nx:=nw2.trans nw3;obtain⟨np4,na4,hv4⟩:=apart nx;exact KI ⟨ds.length-(i+1),by omega,ok3,ω2,ρ1,vs,acc,rest,rfl,hlt,nw.trans nx,np4,na4,hv4,ra.ex nx.ex,re2.ex nw3.ex,rl2,b6,ea,by omega⟩
   ·have ei:i=ds.length:=by omega
    subst ei;rw[u5] at ec;obtain⟨hc,ec⟩:=bI (show(if chk ωc=true then we ([],ωc) else wf)=_ from ec);cases ec;rw[c3] at ea;subst ea;refine .inl ⟨it.stop _ ok' H' _ nw hc (bc _),?_⟩;obtain⟨ok2,nw2,rr⟩:=Fn cls K ok1 ok' H1 H' _ ω' A vs acc d nw hA hv np na ra e5;exact q _ ok2 H' (n1.trans nw2) rr
noncomputable def KD (X:Cx) (cls:Nat->af) (E:XE) (ifs:List br) (t:OG Bool):Prop:=KN X ifs (tOT cls X.K t E)
theorem FK:KD X cls E [] (oPT mT):=fun pins s σ H Q I ⟨ok,ρ,ω,r,ω',P,e,q⟩=>by
 cases e;exact JU pins s σ H Q I (q ok H (.refl P.okh P.st))
theorem FJ (h:OT X cls E c t):KD X cls E [c] t:=JT h
theorem JA (Fn:Fin fin) (C:EW X scope N' caps) (hi:OI X cls E tg iter fi)
  (hb:∀ cells C fp pins s₀ H₀,PG (blk X N' scope cells C fp pins s₀ H₀) tg (gR X.K bd)/\KD (blk X N' scope cells C fp pins s₀ H₀) cls EF ifs t/\OE (blk X N' scope cells C fp pins s₀ H₀) cls EF elt f)
  (hs:∀ x,f9 iter X.env x=pure x:=by intro _;rfl):OE X cls E (.ListComp elt [⟨tg,iter,ifs,0⟩] scope pos) (eE fin fi caps bd t f):=
 (IP C.calm C.kind C.names C.free C.uniq C.cap hi hb hs).imp fun _ _ _ h=>tO.comp Fn h
theorem Jc (Fn:Fin fin) (hN:X.N.Nodup) (hiy:X.N[i]?=we y) (hy:X.env.scope.names.lookup y=we .local) (C:EW X scope N' caps) (hi:OI X cls E tg iter fi)
  (hb:∀ cells C fp pins s₀ H₀,PG (blk X N' scope cells C fp pins s₀ H₀) tg (gR X.K bd)/\KD (blk X N' scope cells C fp pins s₀ H₀) cls EF ifs t/\OE (blk X N' scope cells C fp pins s₀ H₀) cls EF elt f)
  (hsw:i9 (.ListComp elt [⟨tg,iter,ifs,0⟩] scope pos) (we (.Name y py)) spos.line X.env=pure true:=by rfl)
  (hs:∀ x,f9 iter X.env x=pure x:=by intro _;rfl):OSt X cls E (.Assign [.Name y py] (.ListComp elt [⟨tg,iter,ifs,0⟩] scope pos) spos) (aV i (eE fin fi caps bd t f)):=
 (IE hN hiy hy C.calm C.kind C.names C.free C.uniq C.cap hi hb hsw hs).imp fun D σ H ⟨ok,ρ,ω,o,ω',P,e,q⟩=>by
  refine tO.comp (fi:=fi) (caps:=caps) (bd:=bd) (t:=t) (f:=f) (E:=E) Fn ?_;refine tO.thenS P e q fun d ω1 v ok1 H1 e1 n1 P1 r1 q1=> ?_;cases e1;exact q1 ok1 H1 _ (.refl P1.okh P1.st) (P1.env.set P1.len r1 i) (by rw[cg,cg];exact P1.len)
end
structure FlyT (exC:Nat->af) (c:Nat) (ea:af) (T:af) (h0:cy) (H:Hp) (h:cy):Prop where
 tr:∃(oe oT:Obj) (vs ts:Array ag) (a0:ag),h.get? ea=we oe/\oe.cls=.ref (exC c)/\oe.data=.fields vs/\vs[0]?=we a0/\vs[1]?=we (.ref T)/\T≠ea/\h.get? T=we oT/\oT.data=.fields ts/\ts[3]?=we .none
 h0e:h0.get? ea=wf
 h0T:h0.get? T=wf
 He:H ea=wf
 HT:H T=wf
structure Raw (exC:Nat->af) (c:Nat) (ea:af) (h0:cy) (H:Hp) (h:cy):Prop where
 at_:∃ t,h.get? ea=we { cls:=.ref (exC c),data:=.fields #[.ref t,.none,.none,.none,.bool false,.none] }
 h0e:h0.get? ea=wf
 He:H ea=wf
noncomputable def CX1 (P:da) (w:dc) (exC:Nat->af):CXT:=fun outer H s E e s'=>∃ c ea T H',e=.ref ea/\s'.os=s.os/\mh s'.gens/\Un (frs outer) [] H H' s.heap s'.heap/\HOk P w H' s'.heap/\FlyT exC c ea T s.heap H' s'.heap/\E (.ref (exC c)) wf H'
noncomputable def exK (exC:Nat->af) (E:XE):XK:=fun cv _ H'=>∃ c,cv=.ref (exC c)/\E c H'
structure Exc (X:Cx) (exC:Nat->af) (E:XE):Prop where
 fly:∀ c ea T H' pins σ' s',Inv X pins σ' H' s'->FlyT exC c ea T X.s₀.heap H' s'.heap->(∀ p∈X.pn,p.1≠ea/\p.1≠T)->E c H'->X.xe (.ref ea) s'
 ex:X.ex=[]
structure Nz (X:Cx) (exC:Nat->af) (E:XE):Prop where
 raw:∀ c ea H' pins σ' s',Inv X pins σ' H' s'->Raw exC c ea X.s₀.heap H' s'.heap->E c H'->X.xe (.ref ea) s'
 ex:X.ex=[]
noncomputable abbrev Pas (X:Cx) (exC:Nat->af) (E:XE):Prop:=pK (CX1 X.prog X.w exC) X (exK exC E)
theorem NZ:Pas X exC EF:=fun _ _ _ _ _ _ _ ⟨_,_,_,_,_,_,_,_,_,_,_,_,z⟩=>z.elim
theorem _root_.L2.Inv.pers (I:Inv X pins σ H s) (hx:X.ex=[]) (e:s.heap.get? b=wf):X.s₀.heap.get? b=wf:=by
 cases q:X.s₀.heap.get? b with
 |none=>rfl
 |some o=>
  obtain⟨o',z⟩:=I.base.there b o q (by rw[hx];simp);rw[e] at z;cases z
theorem Exc.pas (h:Exc X exC E):Pas X exC E:=fun pins σ H s e s' I ⟨c,ea,T,H',e1,os,bare,un,hok,fl,c',hc,hE⟩=>by
 subst e1;have I':Inv X pins σ H' s':=I.call' (ch:=[]) os un hok bare (fun b z=>absurd z (by simp));obtain⟨oe,oT,vs,ts,a0,g1,g2,g3⟩:=fl.tr;refine h.fly c' ea T H' pins σ s' I' ⟨⟨oe,oT,vs,ts,a0,g1,by rw[g2,hc],g3⟩,I.pers h.ex fl.h0e,I.pers h.ex fl.h0T,fl.He,fl.HT⟩ (fun p hp=> ?_) hE;obtain⟨w,_⟩:=I.pin p (di _ hp);exact⟨fun z=>(by rw[z,fl.h0e] at w;cases w),fun z=>(by rw[z,fl.h0T] at w;cases w)⟩
noncomputable abbrev eJ:=List D->Om->Option (Rz D×Om)
noncomputable def spO (cls exC:Nat->af) (K:aa) (φ:eJ):Sp:=fun vs H Q E=>∃(ok:Okk) (ω:Om) (ds:List D) (r:Rz D) (ω':Om),OkH ok H/\Stt cls K ok H ω/\Reps K ok H vs ds/\φ ds ω=we (r,ω')/\match r with
 |.ok d=>∀ v ok' H',Nw cls K ok H ok' H' ω'->Rep K ok' H' v d->Q v H'
 |.ex c=>∀ ok' H',Nw cls K ok H ok' H' ω'->E (.ref (exC c)) wf H'
section
variable {X:Cx}{cls exC:Nat->af}{E:XE}{e a b c o i value:br}{es:List br}{fa fb fo fi fv:OG D}{fl:OG (List D)}{pos p apos pos':Pos}{x m:Str}{cn k:Nat}{fn C:af}{fd:ji}{ps:List Str}{φ:eJ}
theorem spO.at {K:aa} (h1:OkH ok H) (st:Stt cls K ok H ω) (rs:Reps K ok H vs ds) (e:φ ds ω=we (r,ω'))
  (hq:∀ d,r=.ok d->∀ v ok' H',Nw cls K ok H ok' H' ω'->Rep K ok' H' v d->Q v H') (hx:∀ c,r=.ex c->exR cls K ok H ω' E c):spO cls exC K φ vs H Q (exK exC E):=by
 refine⟨ok,ω,ds,r,ω',h1,st,rs,e,?_⟩;cases r with
 |ok d=>exact hq d rfl
 |ex c=>exact fun ok' H' n=>⟨c,rfl,hx c rfl ok' H' n⟩
noncomputable def bK (φ:eJ) (fl:OG (List D)):OG D:=oB fl fun ds _ ω=>φ ds ω
theorem xC {K:aa}{r:Rz D}{Q:VK} (n1:Nw cls K ok H ok1 H1 ω1) (q:match r with
  |.ok d=>∀ v ok' H',Nw cls K ok H ok' H' ω'->Rep K ok' H' v d->Q v H'
  |.ex c=>exR cls K ok H ω' E c):∀ d,r=.ok d->∀ v ok' H',Nw cls K ok1 H1 ok' H' ω'->Rep K ok' H' v d->Q v H':=fun d z v ok' H' n r=>by
 subst z;exact q v ok' H' (n1.trans n) r
theorem xD {K:aa}{r:Rz D}{Q:VK} (n1:Nw cls K ok H ok1 H1 ω1) (q:match r with
  |.ok d=>∀ v ok' H',Nw cls K ok H ok' H' ω'->Rep K ok' H' v d->Q v H'
  |.ex c=>exR cls K ok H ω' E c):∀ c,r=.ex c->exR cls K ok1 H1 ω' E c:=fun c z=>by
 subst z;exact exR.nw q n1
theorem JC (F:qB X.prog X.w X.K X.mg X.base (CX1 X.prog X.w exC) k fn fd ps (spO cls exC X.K φ)) (hr:Room k X.A) (hg:Gl X x) (hm:X.mg x=we (.ref fn)) (hk:gk X.K (.ref fn)=true)
  (hb:Binds X.K fd ps []) (hx:Pas X exC E) (ha:OA X cls E (e::es) fl) (hdb:(x==("__debug__":Str))=false:=by decide) (he:av (e::es) X.env=(false,eval e X.env)::av es X.env:=by rfl) (hpl:(df pos (av es X.env)).any (·.1)=false:=by rfl):
  OE X cls E (.Call (.Name x p) (e::es) [] pos) (bK φ fl):=
 (IR F hr hg hm hk hb .nil hx ha hdb he hpl).imp fun σ H Q ⟨ok,ρ,ω,r,ω',P,e,q⟩=>by
  refine tOA.then_ P e (fun c z=>by subst z;exact q) fun ds ω1 vs ok1 H1 e1 n1 P1 r1=> ?_;rw[c3];exact spO.at P1.okh P1.st r1 e1 (xC n1 q) (xD (Q:=Q) n1 q)
noncomputable def Bu (c:Nat) (m:Str) (ω:Om) (d:D):Bool:=match cellOf ω d with
 |some (.ins c' fs)=>c'==c&&(fs.lookup m).isNone
 |_=>false
theorem vO {c:Nat} (h:Bu c m ω d=true):∃ n fs,d=.obj n/\ω[n]?=we (.ins c fs)/\fs.lookup m=wf:=by
 unfold Bu at h;split at h
 ·rename_i c' fs hc
  obtain⟨n,rfl,e⟩:=dX hc;simp only[bq,beq_iff_eq,Option.isNone_iff_eq_none] at h;obtain⟨rfl,h⟩:=h;exact⟨n,fs,rfl,e,h⟩
 ·cases h
noncomputable def bL (c:Nat) (m:Str) (φ:eJ) (fo:OG D) (fl:OG (List D)):OG D:=oB fo fun d ρ ω=>if Bu c m ω d=true then oB fl (fun ds _ ω=>φ (d::ds) ω) ρ ω else wf
theorem Ju (ho:OE X cls E o fo) (hc:Cls X.K (cls cn)) (hm:Hv X.K (cls cn) m fn) (F:qB X.prog X.w X.K X.mg X.base (CX1 X.prog X.w exC) k fn fd ps (spO cls exC X.K φ)) (hr:Room k X.A) (hb:Binds X.K fd ps []) (hx:Pas X exC E) (ha:OA X cls E (e::es) fl)
  (hst:av (e::es) X.env=(false,eval e X.env)::av es X.env:=by rfl) (hpl:(df pos (av es X.env)).any (·.1)=false:=by rfl)
  (ht:eval (.Call (.Attribute o m apos) (e::es) [] pos) X.env=(do
   let ov <- eval o X.env
   mj apos.atName
   let (f,first) <- holding [ov] (l0 ov m pl)
   qf pos f first (df pos (av (e::es) X.env)) (jx pos (ie [] X.env))):=by rfl):
  OE X cls E (.Call (.Attribute o m apos) (e::es) [] pos) (bL cn m φ fo fl):=
 (IK (pl:=pl) ho hc hm F hr hb .nil hx ha hst hpl ht).imp fun σ H Q ⟨ok,ρ,ω,r,ω',P,e,q⟩=>by
  refine tO.then_ P e (fun c z=>by subst z;exact q) fun d ω1 v ok1 H1 e1 n1 P1 r1=> ?_;obtain⟨hi,e1⟩:=cO e1;obtain⟨n,fs,rfl,e2,e3⟩:=vO hi;obtain⟨a,rfl,e4,dx,vs,e5,kv⟩:=P1.st.ref r1 e2;refine⟨a,dx,vs,rfl,e5,kv.look_none e3,?_⟩;refine tOA.then_ P1 e1 (fun c z=>by subst z;exact exR.nw q n1) fun ds ω2 us ok2 H2 e6 n2 P2 r2=> ?_;rw[c3];exact spO.at P2.okh P2.st (.cons (r1.ex n2.ex) r2) e6 (xC (n1.trans n2) q) (xD (Q:=Q) (n1.trans n2) q)
theorem FN (ho:OE X cls E o fo) (hc:Cls X.K (cls cn)) (hm:Hv X.K (cls cn) m fn) (F:qB X.prog X.w X.K X.mg X.base (CX1 X.prog X.w exC) k fn fd ps (spO cls exC X.K φ)) (hr:Room k X.A) (hb:Binds X.K fd ps []) (hx:Pas X exC E)
  (ht:eval (.Call (.Attribute o m apos) [] [] pos) X.env=(do
   let ov <- eval o X.env
   mj apos.atName
   let (f,first) <- holding [ov] (l0 ov m pl)
   qf pos f first (df pos (av [] X.env)) (jx pos (ie [] X.env))):=by rfl):
  OE X cls E (.Call (.Attribute o m apos) [] [] pos) (bL cn m φ fo aQ):=
 (FA (pl:=pl) ho hc hm F hr hb .nil hx ht).imp fun σ H Q ⟨ok,ρ,ω,r,ω',P,e,q⟩=>by
  refine tO.then_ P e (fun c z=>by subst z;exact q) fun d ω1 v ok1 H1 e1 n1 P1 r1=> ?_;obtain⟨hi,e1⟩:=cO e1;obtain⟨n,fs,rfl,e2,e3⟩:=vO hi;obtain⟨a,rfl,e4,dx,vs,e5,kv⟩:=P1.st.ref r1 e2;refine⟨a,dx,vs,rfl,e5,kv.look_none e3,?_⟩;have e6:φ [.obj n] ω1=we (r,ω'):=e1;exact spO.at P1.okh P1.st (.cons r1 .nil) e6 (xC n1 q) (xD (Q:=Q) n1 q)
noncomputable def sL (c:Nat) (φ:eJ) (fl:OG (List D)):OG D:=oB fl fun ds _ ω=>match φ (.obj ω.length::ds) (ω++[.ins c []]) with
 |some (.ok .non,ω')=>we (.ok (.obj ω.length),ω')
 |some (.ex c,ω')=>we (.ex c,ω')
 |_=>wf
theorem Jw (M:Mk X.K (cls cn) fn) (F:qB X.prog X.w X.K X.mg X.base (CX1 X.prog X.w exC) k fn fd ps (spO cls exC X.K φ)) (hr:Room (k+1) X.A) (hg:Gl X x) (hm:X.mg x=we (.ref (cls cn))) (hb:Binds X.K fd ps []) (hx:Pas X exC E)
  (ha:OA X cls E (e::es) fl) (hdb:(x==("__debug__":Str))=false:=by decide) (he:av (e::es) X.env=(false,eval e X.env)::av es X.env:=by rfl) (hpl:(df pos (av es X.env)).any (·.1)=false:=by rfl):
  OE X cls E (.Call (.Name x p) (e::es) [] pos) (sL cn φ fl):=
 (IL M F hr hg hm hb .nil hx ha hdb he hpl).imp fun σ H Q ⟨ok,ρ,ω,r,ω',P,e,q⟩=>by
  refine tOA.then_ P e (fun c z=>by subst z;exact q) fun ds ω1 vs ok1 H1 e1 n1 P1 r1=> ?_;intro a dx na ndx hne;rw[c3];have n2:Nw cls X.K ok1 H1 ok1 (upd H1 dx (.own a)) ω1:=.same P1.okh P1.st (bW ndx);have n3:Nw cls X.K ok1 (upd H1 dx (.own a)) (okN ok1 ω1.length a) (upd (upd H1 dx (.own a)) a (.ins (cls cn) dx [])) (ω1++[.ins cn []]):=
   Nw.make n2.okh n2.st (by rw[aG (bt hne)];exact na) ⟨dx,[],aP,.nil⟩
  have n4:=n1.trans (n2.trans n3);have rs:Reps X.K (okN ok1 ω1.length a) (upd (upd H1 dx (.own a)) a (.ins (cls cn) dx [])) (.ref a::vs) (.obj ω1.length::ds):=.cons .new_obj ((r1.ex n2.ex).ex n3.ex);cases eφ:φ (.obj ω1.length::ds) (ω1++[.ins cn []]) with
  |none=>rw[eφ] at e1;cases e1
  |some pr=>
   obtain⟨rz,ω2⟩:=pr;rw[eφ] at e1;refine⟨_,_,_,rz,ω2,n3.okh,n3.st,rs,eφ,?_⟩;cases rz with
   |ex c=>
    cases e1;exact fun ok' H' n=>⟨c,rfl,q ok' H' (n4.trans n)⟩
   |ok d=>
    cases d with
    |non=>
     cases e1;refine fun v ok' H' n rv=>⟨rv.non_inv,q _ ok' H' (n4.trans n) (.obj (n.ex.ids _ _ ?_))⟩
     show(if ω1.length=ω1.length then we a else _)=_
     rw[if_pos rfl]
    |_=>cases e1
end
theorem _root_.L2.HOk.obj (x:HOk P w H h) (e:H a=we o):∃ u,h.get? a=we u:=by
 have z:=x a o e;cases o with
 |lst xs=>obtain⟨_,_,_,_,e⟩:=z;exact⟨_,e⟩
 |tup xs=>obtain⟨_,_,_,o,e,_⟩:=z;exact⟨_,e⟩
 |dK kvs=>obtain⟨_,_,_,_,o,_,_,e,_⟩:=z;exact⟨_,e⟩
 |dT kvs=>obtain⟨_,_,_,_,o,_,_,e,_⟩:=z;exact⟨_,e⟩
 |set S n=>obtain⟨o,_,_,_,e,_⟩:=z;exact⟨_,e⟩
 |ins C dx fs=>obtain⟨_,_,_,e,_⟩:=z;exact⟨_,e⟩
 |own y=>exact z
 |xd fs=>obtain⟨_,⟨_,_,_,e,_⟩,_⟩:=z;exact⟨_,e⟩
 |rng lo hi=>obtain⟨_,_,_,e⟩:=z;exact⟨_,e⟩
 |frz ob u=>obtain⟨e,_⟩:=z;exact⟨_,e⟩
 |tbl ps=>exact⟨_,show h.get? a=we _ from z⟩
 |met f y=>exact⟨_,show h.get? a=we _ from z⟩
 |ext φ=>exact z.2.1
structure Pass (fs:List af) (ea T:af) (h h':cy):Prop where
 keep:∀ b o,h.get? b=we o->b∉fs->b≠ea->b≠T->h'.get? b=we o
 slot:∀ b o,h.get? b=we o->b∈fs->∃ sl,h'.get? b=we { o with slots:=sl }
theorem tE {h base base':cy}:∀ {l:List Env},h.FunFrames base l->(∀ b∈frs l,base'.get? b=wf)->h.FunFrames base' l
 |[],_,_=>trivial
 |env::r,⟨hk,⟨L,o,hf,hn,ho,hd⟩,hr⟩,n=>by
  refine⟨hk,⟨L,o,hf,n L ?_,ho,hd⟩,tE hr fun b hb=>n b ?_⟩
  ·unfold frs;rw[j7,hf];exact au
  ·unfold frs at hb ⊢;rw[j7,hf];exact ai _ hb
section
variable {M:Model}{A:de}{E:ag->am->Prop}{s:am}{env:Env}{outer:List Env}{base h0:cy}{H:Hp}{exC:Nat->af}{c:Nat}{ea T L:af}{Q:Unit->am->Prop}{P:da}{w:dc}
theorem yC (hok:HOk P w H s.heap) (h0p:∀ b,s.heap.get? b=wf->h0.get? b=wf) (hb:∀ b,base'.get? b=wf->b=ea∨b=T∨b∈frs l∨s.heap.get? b=wf)
  (hl:h'.FunFrames base' l) (tr:h'.TracedW base' ea cls a0) (hc:cls=.ref (exC c)) (n1:h0.get? ea=wf) (n2:H ea=wf) (n3:h0.get? T=wf) (n4:H T=wf):∃ T',FlyT exC c ea T' h0 H h'/\(T'=T∨s.heap.get? T'=wf):=by
 obtain⟨oe,vs,T',oT,ts,e1,⟨e2,e3⟩,e4,e5,e6,e7,e8,e9,e10⟩:=tr;have hT:T'=T∨s.heap.get? T'=wf:=by
  rcases hb T' e6 with z|z|z|z
  ·exact absurd z e7
  ·exact .inl z
  ·obtain⟨_,o,q1,q2⟩:=hl.mem z;rw[e8] at q1;cases q1;exact absurd e9 (q2 ts)
  ·exact .inr z
 refine⟨T',⟨⟨oe,oT,vs,ts,a0,e1,by rw[e2,hc],e4,e3,e5,e7,e8,e9,e10⟩,n1,?_,n2,?_⟩,hT⟩
 ·rcases hT with rfl|z
  ·exact n3
  ·exact h0p _ z
 ·rcases hT with rfl|z
  ·exact n4
  ·cases q:H T' with
   |none=>rfl
   |some o=>
    obtain⟨u,w⟩:=hok.obj q;rw[z] at w;cases w
theorem xS (e:(fj h l).get? b=wf):b∈l∨h.get? b=wf:=by
 by_cases hb:b∈l
 ·exact .inl hb
 ·right;cases q:h.get? b with
  |none=>rfl
  |some o=>
   rw[j5 l q hb] at e;cases e
theorem Dr (hfr:A.frames=we (env::outer)) (hf:env.frame=we L) (funs:s.heap.FunFrames base (env::outer)) (hok:HOk P w H s.heap) (h0p:∀ b,s.heap.get? b=wf->h0.get? b=wf) (fl:FlyT exC c ea T h0 H s.heap)
  (hQ:∀ h' T',Pass (frs (env::outer)) ea T s.heap h'->FlyT exC c ea T' h0 H h'->(T'=T∨s.heap.get? T'=wf)->Q () { s with heap:=h' }):aw M A (leaving env (.ref ea)) Q E s:=by
 obtain⟨oe,oT,vs,ts,a0,e1,e2,e3,e4,e5,e6,e7,e8,e9⟩:=fl.tr;have nF:∀ b∈frs (env::outer),(fj s.heap (ea::T::frs (env::outer))).get? b=wf:=fun b hb=>fk _ (ai _ (ai _ hb));have hb0:∀ b,(fj s.heap (ea::T::frs (env::outer))).get? b=wf->b=ea∨b=T∨b∈frs (env::outer)∨s.heap.get? b=wf:=fun b z=>by
  rcases xS z with z|z
  ·rcases ah.mp z with z|z
   ·exact .inl z
   ·rcases ah.mp z with z|z
    ·exact .inr (.inl z)
    ·exact .inr (.inr (.inl z))
  ·exact .inr (.inr (.inr z))
 refine wpAny_leaving_nextW (base:=fj s.heap (ea::T::frs (env::outer))) (cls:=.ref (exC c)) (a0:=a0) hfr (tE funs nF) hf ?_ (fun b o z=>lw _ z) (fk _ au) fun h' hL=> ?_
 ·exact⟨oe,vs,T,oT,ts,e1,⟨e2,e4⟩,e3,e5,fk _ (ai _ au),e6,e7,e8,e9⟩
 ·obtain⟨k1,k2,k3,k4⟩:=hL;obtain⟨T',f1,f2⟩:=yC (T:=T) hok h0p hb0 k2 k3 rfl fl.h0e fl.He fl.h0T fl.HT;refine hQ h' T' ⟨fun b o z n1 n2 n3=>k1 b o (j5 _ z ?_),fun b o z hb=> ?_⟩ f1 f2
  ·intro hm;rcases ah.mp hm with hm|hm
   ·exact n2 hm
   ·rcases ah.mp hm with hm|hm
    ·exact n3 hm
    ·exact n1 hm
  ·obtain⟨_,o',q1,q2⟩:=funs.mem hb;rw[z] at q1;cases q1;exact k4 b o z q2
theorem Dp (hfr:A.frames=we (env::outer)) (hf:env.frame=we L) (funs:s.heap.FunFrames base (env::outer)) (hok:HOk P w H s.heap) (h0p:∀ b,s.heap.get? b=wf->h0.get? b=wf) (fl:Raw exC c ea h0 H s.heap)
  (hQ:∀ h' T',Pass (frs (env::outer)) ea ea s.heap h'->FlyT exC c ea T' h0 H h'->s.heap.get? T'=wf->Q () { s with heap:=h' }):aw M A (leaving env (.ref ea)) Q E s:=by
 obtain⟨t,e1⟩:=fl.at_;have nF:∀ b∈frs (env::outer),(fj s.heap (ea::frs (env::outer))).get? b=wf:=fun b hb=>fk _ (ai _ hb);have hb0:∀ b,(fj s.heap (ea::frs (env::outer))).get? b=wf->b=ea∨b=ea∨b∈frs (env::outer)∨s.heap.get? b=wf:=fun b z=>by
  rcases xS z with z|z
  ·rcases ah.mp z with z|z
   ·exact .inl z
   ·exact .inr (.inr (.inl z))
  ·exact .inr (.inr (.inr z))
 refine wpAny_leaving_firstW (base:=fj s.heap (ea::frs (env::outer))) (a0:=.ref t) hfr (tE funs nF) hf e1 (fun b o z=>lw _ z) (fk _ au) rfl rfl rfl fun h' hL=> ?_;obtain⟨k1,k2,k3,k4⟩:=hL;obtain⟨T',f1,f2⟩:=yC (T:=ea) (c:=c) (exC:=exC) hok h0p hb0 k2 k3 rfl fl.h0e fl.He fl.h0e fl.He;have hTe:T'≠ea:=by obtain⟨_,_,_,_,_,_,_,_,_,_,z,_⟩:=f1.tr;exact z
 refine hQ h' T' ⟨fun b o z n1 n2 n3=>k1 b o (j5 _ z ?_),fun b o z hb=> ?_⟩ f1 (f2.resolve_left hTe)
 ·intro hm;rcases ah.mp hm with hm|hm
  ·exact n2 hm
  ·exact n1 hm
 ·obtain⟨_,o',q1,q2⟩:=funs.mem hb;rw[z] at q1;cases q1;exact k4 b o z q2
end
theorem exc_def {K:aa}:
  Exc (yP (CX1 P w exC) P w K mg base N qual scope f cd A outer s H E) exC (fun c H'=>E (.ref (exC c)) wf H')/\Nz (yP (CX1 P w exC) P w K mg base N qual scope f cd A outer s H E) exC (fun c H'=>E (.ref (exC c)) wf H'):=by
 have main:∀ {pins:List (af×Obj)}{σ':St}{H':Hp}{s':am}{c:Nat}{ea T T':af}{h'':cy},Inv (yP (CX1 P w exC) P w K mg base N qual scope f cd A outer s H E) pins σ' H' s'->
   s.heap.get? ea=wf->s.heap.get? T=wf->H' ea=wf->H' T=wf->Pass (frs (ja qual scope s.heap.objs.size f cd::outer)) ea T s'.heap h''->FlyT exC c ea T' s.heap H' h''->E (.ref (exC c)) wf H'->
   CX1 P w exC outer H s E (.ref ea) { s' with heap:=h'' }:=fun {pins σ' H' s' c ea T T' h''} I n1 n2 n3 n4 ps fl hE=>by
  have nofr:∀ b u,H' b=we u->b∉frs (ja qual scope s.heap.objs.size f cd::outer):=fun b u e z=>by
   have:=I.stkFree b z
   rw[e] at this;cases this
  have kb:∀ b u v,H' b=we u->s'.heap.get? b=we v->h''.get? b=we v:=fun b u v e z=>ps.keep b v z (nofr b u e) (fun q=>by rw[q,n3] at e;cases e) fun q=>by rw[q,n4] at e;cases e
  have old:∀ {b:af}{o:Obj},s.heap.get? b=we o->b≠ea/\b≠T:=fun {b o} z=>⟨fun q=>(by rw[q,n1] at z;cases z),fun q=>(by rw[q,n2] at z;cases z)⟩;have fr1:∀ b,b∈frs (ja qual scope s.heap.objs.size f cd::outer)->b=s.heap.objs.size∨b∈frs outer:=fun b hb=>by
   have hb':b∈s.heap.objs.size::frs outer:=hb;exact ah.mp hb'
  have nx:∀ b:af,b∉(yP (CX1 P w exC) P w K mg base N qual scope f cd A outer s H E).ex:=fun b z=>absurd (show b∈([]:List af) from z) (by simp);refine⟨c,ea,T',H',rfl,I.os,I.bare,⟨fun b o e n hb _=> ?_,fun b o e n hb _=> ?_,fun b o e n _=>I.base.free b o e n (nx b),fun b o e _=> ?_,I.base.tups,I.base.frzs,I.base.tbls⟩,fun b u e=> ?_,fl,hE⟩
  ·have z:=I.base.keep b o e n hb (nx b);refine ps.keep b o z (fun hm=> ?_) (old e).1 (old e).2;rcases fr1 b hm with q|q
   ·exact absurd (bi e) (by rw[q];exact gg _)
   ·exact hb q
  ·obtain⟨sl,z⟩:=I.base.slot b o e n hb (nx b);obtain⟨sl2,z2⟩:=ps.slot b _ z (show b∈s.heap.objs.size::frs outer from ai _ hb);exact⟨sl2,z2⟩
  ·obtain⟨o',z⟩:=I.base.there b o e (nx b)
   by_cases hm:b∈frs (ja qual scope s.heap.objs.size f cd::outer)
   ·obtain⟨sl2,z2⟩:=ps.slot b _ z hm;exact⟨_,z2⟩
   ·exact⟨_,ps.keep b o' z hm (old e).1 (old e).2⟩
  ·refine(I.hok b u e).stay (fun c v hc q=> ?_) (fun _ q=>q) fun _ _ q=>q;rcases hc with rfl|hc
   ·exact kb c u v e q
   ·exact kb c _ v hc q
 refine⟨⟨fun c ea T H' pins σ' s' I fl _ hE=> ?_,rfl⟩,⟨fun c ea H' pins σ' s' I fl hE=> ?_,rfl⟩⟩
 ·exact Dr (L:=s.heap.objs.size) I.ok.frames rfl I.stack I.hok (fun b z=>I.pers rfl z) fl fun h'' T' ps fl' _=>main I fl.h0e fl.h0T fl.He fl.HT ps fl' hE
 ·exact Dp (L:=s.heap.objs.size) I.ok.frames rfl I.stack I.hok (fun b z=>I.pers rfl z) fl fun h'' T' ps fl' _=>main I fl.h0e fl.h0e fl.He fl.He ps fl' hE
noncomputable def bV (N:List Str) (ds:List D):Rho:=ds.map we++ao (N.length-ds.length) wf
theorem AX {K:aa} (r:Reps K ok H vs ds):EnvR K ok H (start N vs) (bV N ds)/\(start N vs).length=(bV N ds).length:=by
 refine⟨fun i d e=> ?_,?_⟩
 ·unfold bV at e
  by_cases hi:i<ds.length
  ·rw[aj (by simpa using hi),bf] at e;obtain⟨d',e1,e2⟩:=aJ e;cases e2;obtain⟨v,e3,r'⟩:=r.get e1;have hv:i<vs.length:=(bh.mp e3).1;refine⟨v,?_,r'⟩;unfold start;rw[aj (by simpa using hv),bf,e3];rfl
  ·rw[cr (by simpa using hi),fg] at e;split at e <;> cases e
 ·unfold start bV;rw[b0,b0,ar,ar,jf,jf,r.length]
noncomputable def dY (n:Nat) (N:List Str) (G:OS):eJ:=fun ds ω=>if ds.length=n then(match G (bV N ds) ω with
 |some (.rt d,ω')=>we (.ok d,ω')
 |some (.nx _,ω')=>we (.ok .non,ω')
 |some (.ex c,ω')=>we (.ex c,ω')
 |_=>wf) else wf
theorem Qh {K:aa}{st:cq} (F:Fun K x qual st f fd) (S:jX N ps (bE st))
  (hbody:∀(cdv:ag) (A:de) (outer:List Env) (s:am) (H:Hp) (E:XK),Room k (A.deeper (ja qual (bE st) s.heap.objs.size f cdv))->Exc (yP (CX1 P w exC) P w K mg base N qual (bE st) f cdv A outer s H E) exC (fun c H'=>E (.ref (exC c)) wf H')->Nz (yP (CX1 P w exC) P w K mg base N qual (bE st) f cdv A outer s H E) exC (fun c H'=>E (.ref (exC c)) wf H')->
   OSs (yP (CX1 P w exC) P w K mg base N qual (bE st) f cdv A outer s H E) cls (fun c H'=>E (.ref (exC c)) wf H') (fI st) G):qB P w K mg base (CX1 P w exC) (k+1) f fd ps (spO cls exC K (dY ps.length N G)):=by
 obtain⟨oc,od,kV,doc,pm,an,cdv,ct,osl,rfl,lk,hcd⟩:=F.ex;have len:∀ vs H Q E,spO cls exC K (dY ps.length N G) vs H Q E->vs.length=ps.length:=fun vs H Q E ⟨ok,ω,ds,r,ω',h1,h2,h3,h4,h5⟩=>by
  rw[h3.length];exact(cO (show(if ds.length=ps.length then _ else wf)=_ from h4)).1
 refine OH lk hcd S len fun A outer s H vs Q E hr hsp=> ?_;obtain⟨ok,ω,ds,r,ω',h1,h2,h3,h4,h5⟩:=hsp;refine⟨_,hbody cdv A outer s H E hr exc_def.1 exc_def.2,?_⟩;obtain⟨_,h4⟩:=cO (show(if ds.length=ps.length then _ else wf)=_ from h4);obtain⟨e1,e2⟩:=AX (N:=N) h3;cases q:G (bV N ds) ω with
 |none=>rw[q] at h4;cases h4
 |some pr=>
  obtain⟨o,ω2⟩:=pr;rw[q] at h4;refine⟨ok,bV N ds,ω,o,ω2,⟨h1,h2,e1,e2⟩,q,?_⟩;cases o with
  |rt d=>cases h4;exact fun v ok' H' n rv=>h5 v ok' H' n rv
  |nx ρ=>cases h4;exact fun ok' H' σ' n _ _=>h5 .non ok' H' n .non
  |ex c=>cases h4;exact fun ok' H' n=>h5 ok' H' n
  |bk ρ=>cases h4
  |ct ρ=>cases h4
noncomputable abbrev AS:List ag:=[.type "ValueError",.type "Exception",.type "BaseException",.type "object"]
noncomputable def ownIn (K:aa) (C:af) (tl:List ag):Prop:=∃(dd:Option af) (cd:ClassData) (k0 k1 k2 k3 k5:Option ag),K.lookup C=we ⟨.type "type",dd,.cls cd,#[k0,k1,k2,k3,we (.builtin "ValueError.__new__"),k5]⟩/\
 cd.mro=.ref C::tl/\cd.hasDel=false/\mm K AS tl=true/\kr K cd.ns=true/\ck K cd.ns "__init__"=we wf
theorem CO {K:aa} (X:K.In h) (q:ownIn K C tl):∃(nm qn:Str) (N:af) (bs:List ag) (hdct:Bool) (sn:List Str) (sub:List ag) (ab:Bool) (col:Option Bool) (dd:Option af) (k0 k1 k2 k3 k5:Option ag) (mN:Str->Option ag),
  h.get? C=we (excClassObj nm qn C N bs tl hdct sn sub ab col dd k0 k1 k2 k3 k5 "ValueError.__new__")/\h.Ns N mN/\mN "__init__"=wf/\OwnTail h AS tl:=by
 obtain⟨dd,cd,k0,k1,k2,k3,k5,hl,hm,hd,ht,hn,hi⟩:=q;obtain⟨a1,a2,a3,a4,a5,a6,a7,a8,a9,b1,b2⟩:=cd;dsimp only at hm hd hn hi;subst hm hd;exact⟨a1,a5,a4,a2,a6,a7,a8,a9,b1,dd,k0,k1,k2,k3,k5,_,X _ _ hl,.of_isNs (PySem.W.isNs_of_in X hn),PySem.W.nsMap_none_of_in X hn hi,PySem.W.tail_of_in X ht⟩
noncomputable def Aa (c:Nat) (f:DF):OS:=fun ρ ω=>(f ρ).map fun _=>(.ex c,ω)
section
variable {X:Cx}{cls exC:Nat->af}{E:XE}{e:br}{f:DF}{pos np cpos:Pos}{x:Str}{c:Nat}{tl:List ag}
theorem Ah (hc:X.calm=true) (hx:Nz X exC E) (hg:Gl X x) (hm:X.mg x=we (.ref (exC c))) (hq:ownIn X.K (exC c) tl) (he:DE X e f) (hdb:(x==("__debug__":Str))=false:=by decide)
  (hst:av [e] X.env=(false,eval e X.env)::av [] X.env:=by rfl) (hpl:(df cpos (av [e] X.env)).any (·.1)=false:=by rfl):
  OSt X cls E (.Raise (we (.Call (.Name x np) [e] [] cpos)) wf pos) (Aa c f):=by
 rintro pins s σ H D I ⟨ok,ρ,ω,o,ω',P,e0,q⟩;obtain⟨d,e1,e2⟩:=aJ e0;cases e2;obtain⟨nm,qn,N,bs,hdct,sn,sub,ab,col,dd,k0,k1,k2,k3,k5,mN,hC,hN,hni,T⟩:=CO I.mod.kin hq;refine wpAny_Raise_call_subT (C:=exC c) (N:=N) (bm:=tl) (hdct:=hdct) (sn:=sn) (sub:=sub) (ab:=ab) (col:=col) (dd:=dd) (k0:=k0) (k1:=k1) (k2:=k2) (k3:=k3) (k5:=k5) (nm:=nm) (q:=qn) (bs:=bs)
  PySem.F.excBase_ValueError (mN:=mN) (T.hasType rfl) (I.ok.hd hc) hpl hni (sS I hg hm ⟨rfl,?_⟩ hdb)
 have ha:=(Kr he Nc hst:DA X [e] (Ku f OP)) cpos pins s σ H (fun vs H'=>vs.length<=sizeLine/\Same H H') I
  ⟨ok,ρ,[d],P.okh,P.env,by unfold Ku OP;rw[e1];rfl,fun vs H' s' r=>⟨by rw[r.length];show 1<=sizeLine;decide,s'⟩⟩
 rw[hst] at ha ⊢;refine sy (thn ha fun us s2 ⟨vs,H2,I2,rv,hl,sm⟩=>⟨rfl,by show us.length<=_;rw[<- rv.length];exact hl,I2.bk _ _ hC,hN.keeps I2.bk,T.keeps I2.bk,fun h' ea hm'=> ?_⟩);have I3:Inv X pins σ H2 { s2 with heap:=h' }:=I2.kept (t':=s2.toks) hm'.keeps;obtain⟨t,z1,z2,z3⟩:=hm'.there;refine hx.raw c ea H2 pins σ _ I3 ⟨⟨t,z1⟩,I2.pers hx.ex hm'.new,?_⟩ (q ok H2 (.same P.okh P.st sm));cases w:H2 ea with
 |none=>rfl
 |some u=>
  obtain⟨u',w'⟩:=HOk.obj I2.hok w;rw[hm'.new] at w';cases w'
theorem _root_.L2.Inv.passed (I:Inv X pins σ H s) (hx:X.ex=[]) (ps:Pass (frs X.stack) ea T s.heap h') (n1:X.s₀.heap.get? ea=wf) (n2:X.s₀.heap.get? T=wf) (n3:H ea=wf) (n4:H T=wf)
  (hp:∀ p∈X.pn++pins,p.1≠ea/\p.1≠T) (hf:∀ b,(b=ea∨b=T)->∃ o vs,s.heap.get? b=we o/\o.data=.fields vs):Inv X pins σ H { s with heap:=h' }:=by
 have nofr:∀ b u,H b=we u->b∉frs X.stack:=fun b u e z=>by
  have:=I.stkFree b z
  rw[e] at this;cases this
 have any:∀ b o,s.heap.get? b=we o->(∀ vs,o.data≠ .fields vs)->∃ sl,h'.get? b=we { o with slots:=sl }:=fun b o e nf=>by
  by_cases hb:b∈frs X.stack
  ·exact ps.slot b o e hb
  ·refine⟨o.slots,ps.keep b o e hb (fun z=> ?_) fun z=> ?_⟩
   ·obtain⟨o',vs,w1,w2⟩:=hf b (.inl z);rw[e] at w1;cases w1;exact nf vs w2
   ·obtain⟨o',vs,w1,w2⟩:=hf b (.inr z);rw[e] at w1;cases w1;exact nf vs w2
 have kb:∀ b u v,H b=we u->s.heap.get? b=we v->h'.get? b=we v:=fun b u v e z=>ps.keep b v z (nofr b u e) (fun q=>by rw[q,n3] at e;cases e) fun q=>by rw[q,n4] at e;cases e
 have old:∀ {b:af}{o:Obj},X.s₀.heap.get? b=we o->b≠ea/\b≠T:=fun {b o} z=>⟨fun q=>(by rw[q,n1] at z;cases z),fun q=>(by rw[q,n2] at z;cases z)⟩;have locf:∀ b,b∈frs X.stack->b=X.env.locals∨b∈X.fs:=fun b hb=>ah.mp (I.stkSub b hb);obtain⟨m,⟨oL,es,ep,hoL,hdL,rL⟩,lk⟩:=id I.loc;obtain⟨slL,hL⟩:=any _ oL hoL fun vs z=>by rw[hdL] at z;cases z
 refine⟨I.ok,I.os,I.bare,⟨fun b o e n hb hxx=> ?_,fun b o e n hb hxx=> ?_,I.base.free,fun b o e hxx=> ?_,I.base.tups,I.base.frzs,I.base.tbls⟩,⟨m,⟨_,es,ep,hL,hdL,rL⟩,fun i x v e1 e2 e3=> ?_⟩,fun x c e=> ?_,I.free,I.freeC,fun p hpp=> ?_,fun b u e=> ?_,I.len⟩
 ·have z:=I.base.keep b o e n hb hxx;refine ps.keep b o z (fun hm=> ?_) (old e).1 (old e).2;rcases locf b hm with q|q
  ·exact absurd (bi e) (by rw[q];exact s0.mpr I.ok.above)
  ·exact hb q
 ·obtain⟨sl,z⟩:=I.base.slot b o e n hb hxx
  by_cases hm:b∈frs X.stack
  ·obtain⟨sl2,z2⟩:=ps.slot b _ z hm;exact⟨sl2,z2⟩
  ·exact⟨sl,ps.keep b _ z hm (old e).1 (old e).2⟩
 ·obtain⟨o',z⟩:=I.base.there b o e hxx
  by_cases hm:b∈frs X.stack
  ·obtain⟨sl2,z2⟩:=ps.slot b _ z hm;exact⟨_,z2⟩
  ·exact⟨_,ps.keep b o' z hm (old e).1 (old e).2⟩
 ·obtain⟨u,ru,z⟩:=lk i x v e1 e2 e3;refine⟨u,ru,?_⟩;rcases z with z|⟨k,c,e,oc,w1,w2⟩
  ·exact .inl z
  ·obtain⟨sl,w3⟩:=any c oc w1 fun vs q=>by rw[w2] at q;cases q
   exact .inr ⟨k,c,e,_,w3,w2⟩
 ·obtain⟨v,oc,w1,w2⟩:=I.cell x c e;obtain⟨sl,w3⟩:=any c oc w1 fun vs q=>by rw[w2] at q;cases q
  exact⟨v,_,w3,w2⟩
 ·obtain⟨e,n,ne,nf,d⟩:=I.pin p hpp;refine⟨ps.keep p.1 p.2 e (fun hm=> ?_) (hp p hpp).1 (hp p hpp).2,n,ne,nf,d⟩;rcases locf p.1 hm with q|q
  ·exact ne q
  ·exact nf q
 ·refine(I.hok b u e).stay (fun c v hc q=> ?_) (fun _ q=>q) fun _ _ q=>q;rcases hc with rfl|hc
  ·exact kb c u v e q
  ·exact kb c _ v hc q
end
theorem pX {K:aa} (X:K.In s.heap) (q:ownIn K C tl) (q':ownIn K C' tl') (he:s.heap.get? ea=we oe) (hc:oe.cls=.ref C)
  (h:Q ((b7 C::tl).contains (.ref C')) s):aw M A (excMatches (.ref ea) (.ref C')) Q E s:=by
 obtain⟨nm,qn,N,bs,hdct,sn,sub,ab,col,dd,k0,k1,k2,k3,k5,mN,hC,hN,hni,T⟩:=CO X q;obtain⟨nm',qn',N',bs',hdct',sn',sub',ab',col',dd',k0',k1',k2',k3',k5',mN',hC',hN',hni',T'⟩:=CO X q';have hB:(b7 C'::tl').contains (.type "BaseException")=true:=by rw[List.contains_cons,T'.hasType (X:="BaseException") (b:=true) rfl,Bool.or_true]
 have f:=tc_notTuple;obtain⟨hp,g,d,tk,os⟩:=s;unfold excMatches
 generalize hb:(b7 C::tl).contains (.ref C')=b at h
 repeat (first|(with_reducible refine pz he ?_;rw[hc])|with_reducible refine pz hC' ?_|(with_reducible refine t6 hC' ?_;rw[hB])|(with_reducible refine t6 hC ?_;rw[hb])|wp_step)
 cases b <;> (wp_walk;exact h)
section
variable {M:Model}{A:de}{E:ag->am->Prop}{s:am}{env:Env}{outer:List Env}{base h0:cy}{H:Hp}{exC:Nat->af}{c:Nat}{ea T L:af}{Q:Unit->am->Prop}{P:da}{w:dc}
theorem FT (hfr:A.frames=we (env::outer)) (hf:env.frame=we L) (funs:s.heap.FunFrames base (env::outer)) (hok:HOk P w H s.heap) (h0p:∀ b,s.heap.get? b=wf->h0.get? b=wf) (fl:FlyT exC c ea T h0 H s.heap)
  (hQ:∀ h' T',Pass (frs (env::outer)) ea T s.heap h'->FlyT exC c ea T' h0 H h'->(T'=T∨s.heap.get? T'=wf)->Q () { s with heap:=h' }):
  aw M A (ul (.ref ea) env) (fun _ s₂=>aw M A (um (.ref ea) wf) Q E s₂) E s:=by
 obtain⟨oe,oT,vs,ts,a0,e1,e2,e3,e4,e5,e6,e7,e8,e9⟩:=fl.tr;have nF:∀ b∈frs (env::outer),(fj s.heap (ea::T::frs (env::outer))).get? b=wf:=fun b hb=>fk _ (ai _ (ai _ hb));have hb0:∀ b,(fj s.heap (ea::T::frs (env::outer))).get? b=wf->b=ea∨b=T∨b∈frs (env::outer)∨s.heap.get? b=wf:=fun b z=>by
  rcases xS z with z|z
  ·rcases ah.mp z with z|z
   ·exact .inl z
   ·rcases ah.mp z with z|z
    ·exact .inr (.inl z)
    ·exact .inr (.inr (.inl z))
  ·exact .inr (.inr (.inr z))
 refine wpAny_noteFrame_onW (base:=fj s.heap (ea::T::frs (env::outer))) (cls:=.ref (exC c)) (a0:=a0) hfr (tE funs nF) hf ?_ (fun b o z=>lw _ z) (fk _ au) fun h' hN=> ?_
 ·exact⟨oe,vs,T,oT,ts,e1,⟨e2,e4⟩,e3,e5,fk _ (ai _ au),e6,e7,e8,e9⟩
 ·obtain⟨k1,k2,k3,k4⟩:=hN;refine wpAny_setFlight_noneW (base:=fj s.heap (ea::T::frs (env::outer))) (l:=env::outer) k1 k2 k3 fun h'' m1 m2 m3 m4=> ?_;obtain⟨T',f1,f2⟩:=yC (T:=T) (s:=s) hok h0p hb0 m2 m3 rfl fl.h0e fl.He fl.h0T fl.HT;refine hQ h'' T' ⟨fun b o z n1 n2 n3=>m1 b o (j5 _ z ?_),fun b o z hb=> ?_⟩ f1 f2
  ·intro hm;rcases ah.mp hm with hm|hm
   ·exact n2 hm
   ·rcases ah.mp hm with hm|hm
    ·exact n3 hm
    ·exact n1 hm
  ·obtain⟨_,o',q1,q2⟩:=funs.mem hb;rw[z] at q1;cases q1;obtain⟨sl,w1⟩:=k4 b o z q2;exact⟨sl,m4 b _ w1 q2⟩
theorem yD (funs:s.heap.FunFrames base outer) (fl:FlyT exC c ea T h0 H s.heap) (hQ:∀ h',Pass (frs outer) ea T s.heap h'->FlyT exC c ea T h0 H h'->Q () { s with heap:=h' }):aw M A (um (.ref ea) wf) Q E s:=by
 obtain⟨oe,oT,vs,ts,a0,e1,e2,e3,e4,e5,e6,e7,e8,e9⟩:=fl.tr;have hz:3<ts.size:=(k9.mp e9).1;have oth:∀ b,b≠T->(s.heap.update T (lg (·.setIfInBounds 3 .none))).get? b=s.heap.get? b:=fun b hb=>d8 _ _ (bt hb);refine wpAny_setFlight_none e1 e3 e5 e7 e8 hz (hQ _ ⟨fun b o z _ _ n3=>(oth b n3).trans z,fun b o z hb=>⟨o.slots,(oth b fun q=> ?_).trans z⟩⟩ ⟨⟨oe,_,vs,_,a0,(oth ea (bt e6)).trans e1,e2,e3,e4,e5,e6,gn _ e7 (n9 (jb e8 _)),jb e8 _,by simp[hz]⟩,fl.h0e,fl.h0T,fl.He,fl.HT⟩);obtain⟨_,o',q1,q2⟩:=funs.mem hb;rw[q,e7] at q1;cases q1;exact q2 ts e8
end
noncomputable abbrev Xm (X:Cx) (ea:af):Cx:={ X with A:=X.A.mark (we (.ref ea)),calm:=false,xe:=fun _ _=>False }
noncomputable abbrev Xp (X:Cx) (pn:List (af×Obj)) (xe:ag->am->Prop):Cx:={ X with pn:=pn,xe:=xe }
section
variable {X:Cx}{pins pins':List (af×Obj)}{σ:St}{H:Hp}{s:am}{xe:ag->am->Prop}
theorem _root_.L2.Inv.marked (I:Inv X pins σ H s) (ea:af):Inv (Xm X ea) pins σ H s:=
 ⟨⟨I.ok.mod,I.ok.kind,I.ok.glob,I.ok.blt,I.ok.above,I.ok.inj,I.ok.has,I.ok.cab,(fun z=>nomatch z),I.ok.frames,I.ok.stk,I.ok.exf,I.ok.bs,I.ok.bsz,I.ok.noex,I.ok.exfs,I.ok.funs,I.ok.frf⟩,I.os,I.bare,I.base,I.loc,I.cell,I.free,I.freeC,I.pin,I.hok,I.len⟩
theorem _root_.L2.Inv.unmarked (k:X.calm=true->X.A.handled=wf) (I:Inv (Xm X ea) pins σ H s):Inv X pins σ H s:=
 ⟨⟨I.ok.mod,I.ok.kind,I.ok.glob,I.ok.blt,I.ok.above,I.ok.inj,I.ok.has,I.ok.cab,k,I.ok.frames,I.ok.stk,I.ok.exf,I.ok.bs,I.ok.bsz,I.ok.noex,I.ok.exfs,I.ok.funs,I.ok.frf⟩,I.os,I.bare,I.base,I.loc,I.cell,I.free,I.freeC,I.pin,I.hok,I.len⟩
theorem _root_.L2.Inv.pned (I:Inv X pins σ H s):Inv (Xp X (X.pn++pins) xe) [] σ H s:=
 ⟨⟨I.ok.mod,I.ok.kind,I.ok.glob,I.ok.blt,I.ok.above,I.ok.inj,I.ok.has,I.ok.cab,I.ok.hd,I.ok.frames,I.ok.stk,I.ok.exf,I.ok.bs,I.ok.bsz,I.ok.noex,I.ok.exfs,I.ok.funs,I.ok.frf⟩,I.os,I.bare,I.base,I.loc,I.cell,I.free,I.freeC,fun p hp=>I.pin p (by simpa using hp),I.hok,I.len⟩
theorem _root_.L2.Inv.unpned (I:Inv (Xp X (X.pn++pins) xe) pins' σ H s):Inv X pins σ H s:=
 ⟨⟨I.ok.mod,I.ok.kind,I.ok.glob,I.ok.blt,I.ok.above,I.ok.inj,I.ok.has,I.ok.cab,I.ok.hd,I.ok.frames,I.ok.stk,I.ok.exf,I.ok.bs,I.ok.bsz,I.ok.noex,I.ok.exfs,I.ok.funs,I.ok.frf⟩,I.os,I.bare,I.base,I.loc,I.cell,I.free,I.freeC,fun p hp=>I.pin p (di _ hp),I.hok,I.len⟩
theorem SP.unpned {D:AR} (h:SP (Xp X (X.pn++pins) xe) [] D f s):SP X pins D f s:=by
 cases f with
 |next=>obtain⟨σ',H',I,q⟩:=h;exact⟨σ',H',I.unpned,q⟩
 |brk=>obtain⟨σ',H',I,q⟩:=h;exact⟨σ',H',I.unpned,q⟩
 |cont=>obtain⟨σ',H',I,q⟩:=h;exact⟨σ',H',I.unpned,q⟩
 |ret u=>obtain⟨v,σ',H',I,r,q⟩:=h;exact⟨v,σ',H',I.unpned,r,q⟩
theorem SP.unmarked {D:AR} (k:X.calm=true->X.A.handled=wf) (h:SP (Xm X ea) pins D f s):SP X pins D f s:=by
 cases f with
 |next=>obtain⟨σ',H',I,q⟩:=h;exact⟨σ',H',I.unmarked k,q⟩
 |brk=>obtain⟨σ',H',I,q⟩:=h;exact⟨σ',H',I.unmarked k,q⟩
 |cont=>obtain⟨σ',H',I,q⟩:=h;exact⟨σ',H',I.unmarked k,q⟩
 |ret u=>obtain⟨v,σ',H',I,r,q⟩:=h;exact⟨v,σ',H',I.unmarked k,r,q⟩
variable {exC:Nat->af}{c c':Nat}{ea T:af}{x:Str}{np pos:Pos}{b₀:cq}{suite:List cq}{rest:List ExceptHandler}{tl tl':List ag}{Q:Flow->am->Prop}{E:ag->am->Prop}
theorem FlyT.fields (fl:FlyT exC c ea T X.s₀.heap H s.heap):∀ b,(b=ea∨b=T)->∃ o vs,s.heap.get? b=we o/\o.data=.fields vs:=fun b hb=>by
 obtain⟨oe,oT,vs,ts,a0,e1,e2,e3,e4,e5,e6,e7,e8,e9⟩:=fl.tr;rcases hb with rfl|rfl
 ·exact⟨_,_,e1,e3⟩
 ·exact⟨_,_,e7,e8⟩
theorem jR (I:Inv X pins σ H s) (hex:X.ex=[]) (fl:FlyT exC c ea T X.s₀.heap H s.heap) (hp:∀ p∈X.pn++pins,p.1≠ea/\p.1≠T) (hg:Gl X x) (hm:X.mg x=we (.ref (exC c'))) (ho:ownIn X.K (exC c) tl) (ho':ownIn X.K (exC c') tl')
  (hit:(b7 (exC c)::tl).contains (.ref (exC c'))=true->∀ s',Inv (Xm X ea) pins σ H s'->aw (model X.prog X.w) (Xm X ea).A (execs (b₀::suite) X.env) Q (fun _ _=>False) s')
  (miss:(b7 (exC c)::tl).contains (.ref (exC c'))=false->aw (model X.prog X.w) X.A (handleBy (.ref ea) X.env rest) Q E s) (hdb:(x==("__debug__":Str))=false:=by decide):
  aw (model X.prog X.w) X.A (handleBy (.ref ea) X.env (.ExceptHandler (we (.Name x np)) wf (b₀::suite) pos::rest)) Q E s:=by
 obtain⟨oe,oT,vs,ts,a0,e1,e2,_⟩:=fl.tr;refine wpAny_handleBy_cons (codeAny_handlers_test (sS (I.marked ea) hg hm ?_ hdb)) (fun z=>nomatch z);refine pX (K:=X.K) (C:=exC c) (C':=exC c') I.kIn ho ho' e1 e2 ?_;cases hb:(b7 (exC c)::tl).contains (.ref (exC c')) with
 |false=>exact miss hb
 |true=>
  refine codeAny_handlers_suite (yD I.stack fl fun h' ps fl'=> ?_);have I':Inv X pins σ H { s with heap:=h' }:=I.passed hex ps fl.h0e fl.h0T fl.He fl.HT hp fl.fields;exact gu (hit hb _ (I'.marked ea)) (fun _ _ q=>q) fun _ _ z=>z.elim
end
noncomputable def uZ (F:OS) (c1:Nat) (G1:OS) (c2:Nat) (G2:OS):OS:=fun ρ ω=>match F ρ ω with
 |some (.ex c,ω1)=>if c=c1 then sNx G1 (ao ρ.length wf) ω1 else if c=c2 then sNx G2 (ao ρ.length wf) ω1 else wf
 |r=>r
section
variable {X:Cx}{cls exC:Nat->af}{E:XE}{body:List cq}{F G1 G2:OS}{c1 c2:Nat}{x1 x2:Str}{np1 np2 p1 p2 pos:Pos}{b1 b2:cq}{r1 r2:List cq}{tl1 tl2:List ag}
theorem EY (I:Inv X pins σ H s):Inv X pins (ao σ.length wf) H s:=I.weak (by simp) fun i v e=>by
 rw[fg] at e;split at e <;> cases e
theorem IW (hex:X.ex=[]) (hc:X.calm=true) (hs:X.stack=X.env::X.outer) (hf:∃ L,X.env.frame=we L) (hg1:Gl X x1) (hg2:Gl X x2) (hm1:X.mg x1=we (.ref (exC c1))) (hm2:X.mg x2=we (.ref (exC c2))) (ho1:ownIn X.K (exC c1) tl1) (ho2:ownIn X.K (exC c2) tl2)
  (hne:(b7 (exC c2)::tl2).contains (.ref (exC c1))=false)
  (hb:∀ pn xe E',Exc (Xp X pn xe) exC E'->OSs (Xp X pn xe) cls E' body F) (h1:∀ ea,OSs (Xm X ea) cls EF (b1::r1) G1) (h2:∀ ea,OSs (Xm X ea) cls EF (b2::r2) G2)
  (hd1:(x1==("__debug__":Str))=false:=by decide) (hd2:(x2==("__debug__":Str))=false:=by decide):
  OSt X cls E (.Try body [.ExceptHandler (we (.Name x1 np1)) wf (b1::r1) p1,.ExceptHandler (we (.Name x2 np2)) wf (b2::r2) p2] [] [] pos) (uZ F c1 G1 c2 G2):=by
 rintro pins s σ H D I ⟨ok,ρ,ω,o,ω',P,e,q⟩;obtain⟨L,hL⟩:=hf
 -- what the body wants
 cases eF:F ρ ω with
 |none=>unfold uZ at e;rw[eF] at e;cases e
 |some pr=>
  obtain⟨o1,ω1⟩:=pr;unfold uZ at e;rw[eF] at e;refine wpAny_Try_except ?_
  -- the wish within
  have main:∀(E':XE),(∀ c H',E' c H'->∃ ok',Nw cls X.K ok H ok' H' ω1/\∃ z,o1=.ex z/\c=z)->outO cls X.K ok H ω1 E' D o1->
    aw (model X.prog X.w) X.A (execs body X.env) (fun f s₁=>match f with|.next=>aw (model X.prog X.w) X.A (execs [] X.env) (SP X pins D) X.xe s₁|f=>SP X pins D f s₁)
     (fun e s₁=>aw (model X.prog X.w) X.A (ul e X.env) (fun _ s₂=>aw (model X.prog X.w) X.A (um e wf) (fun _ s₃=>aw (model X.prog X.w) X.A (handleBy e X.env [.ExceptHandler (we (.Name x1 np1)) wf (b1::r1) p1,.ExceptHandler (we (.Name x2 np2)) wf (b2::r2) p2]) (SP X pins D) X.xe s₃) X.xe s₂) X.xe s₁) s:=by
   intro E' hE' hout;have ex:Exc (Xp X (X.pn++pins) fun e s₁=>aw (model X.prog X.w) X.A (ul e X.env) (fun _ s₂=>aw (model X.prog X.w) X.A (um e wf) (fun _ s₃=>aw (model X.prog X.w) X.A (handleBy e X.env [.ExceptHandler (we (.Name x1 np1)) wf (b1::r1) p1,.ExceptHandler (we (.Name x2 np2)) wf (b2::r2) p2]) (SP X pins D) X.xe s₃) X.xe s₂) X.xe s₁) exC E':=by
    refine⟨fun c ea T H' pins' σ' s' I' fl hpn hE=> ?_,hex⟩;have I1:Inv X pins σ' H' s':=I'.unpned;obtain⟨ok',nw,z,ez,rfl⟩:=hE' c H' hE;subst ez;refine FT (L:=L) (outer:=X.outer) (P:=X.prog) (w:=X.w) (by rw[I1.ok.frames,hs]) hL (by rw[<- hs];exact I1.stack) I1.hok (fun b w=>I1.pers hex w) fl fun h' T' ps fl' hT=> ?_;have hpT:∀ p∈X.pn++pins,p.1≠ea/\p.1≠T':=fun p hp=>⟨(hpn p hp).1,fun w=>by
     rcases hT with rfl|hT
     ·exact(hpn p hp).2 w
     ·have:=(I1.pin p hp).1
      rw[w,hT] at this;cases this⟩
    have I2:Inv X pins σ' H' { s' with heap:=h' }:=I1.passed hex (by rw[hs];exact ps) fl.h0e fl.h0T fl.He fl.HT hpn fl.fields;have I3:=EY I2;have run:∀ {G:OS}{b:cq}{r:List cq}{s4:am},OSs (Xm X ea) cls EF (b::r) G->sNx G (ao ρ.length wf) ω1=we (o,ω')->Inv (Xm X ea) pins (ao σ'.length wf) H' s4->aw (model X.prog X.w) (Xm X ea).A (execs (b::r) X.env) (SP X pins D) (fun _ _=>False) s4:=fun {G b r s4} hG eG I4=>by
     obtain⟨eG,hn⟩:=Cu eG;have hlen:σ'.length=ρ.length:=by rw[I1.len,<- I.len,P.len]
     refine gu (hG pins s4 _ H' D I4 ⟨ok',_,ω1,o,ω',⟨nw.okh,nw.st,fun i d w=> ?_,by simp[hlen]⟩,eG,?_⟩) (fun _ _ z=>SP.unmarked I.ok.hd z) fun _ _ z=>z
     ·rw[fg] at w;split at w <;> cases w
     ·have q':=q.nw nw;cases o with
      |ex c=>exact absurd rfl (hn c)
      |_=>exact q'
    have e0:(if c=c1 then sNx G1 (ao ρ.length wf) ω1 else if c=c2 then sNx G2 (ao ρ.length wf) ω1 else wf)=we (o,ω'):=e
    by_cases hz1:c=c1
    ·subst hz1;have e':sNx G1 (ao ρ.length wf) ω1=we (o,ω'):=by
      rw[if_pos rfl] at e0;exact e0
     refine jR I3 hex fl' hpT hg1 hm1 ho1 ho1 (fun _ s4 I4=>run (h1 ea) e' I4) (fun w=> ?_) hd1;exact absurd w (by simp)
    ·have e2:(if c=c2 then sNx G2 (ao ρ.length wf) ω1 else wf)=we (o,ω'):=by
      rw[if_neg hz1] at e0;exact e0
     obtain⟨hz2,e3⟩:=cO e2;subst hz2;refine jR I3 hex fl' hpT hg1 hm1 ho2 ho1 (fun w=> ?_) (fun _=> ?_) hd1
     ·rw[hne] at w;cases w
     ·refine jR I3 hex fl' hpT hg2 hm2 ho2 ho2 (fun _ s4 I4=>run (h2 ea) e3 I4) (fun w=> ?_) hd2;exact absurd w (by simp)
   refine gu (hb _ _ E' ex [] s σ H D I.pned ⟨ok,ρ,ω,o1,ω1,P,eF,hout⟩) (fun f s₁ z=> ?_) fun _ _ z=>z;have z':=SP.unpned z;cases f with
   |next=>
    obtain⟨σ',H',I',q'⟩:=z';exact oj ⟨σ',H',I',q'⟩
   |_=>exact z'
  cases o1 with
  |ex c=>exact main (fun c' H'=>(∃ ok',Nw cls X.K ok H ok' H' ω1)/\c'=c) (fun c' H' ⟨⟨ok',n⟩,ez⟩=>⟨ok',n,c,rfl,ez⟩) fun ok' H' n=>⟨⟨ok',n⟩,rfl⟩
  |nx ρ1=>cases e;exact main (fun _ _=>False) (fun _ _ z=>z.elim) q
  |rt d=>cases e;exact main (fun _ _=>False) (fun _ _ z=>z.elim) q
  |bk ρ1=>cases e;exact main (fun _ _=>False) (fun _ _ z=>z.elim) q
  |ct ρ1=>cases e;exact main (fun _ _=>False) (fun _ _ z=>z.elim) q
end
noncomputable def RawD (h:cy) (d:af) (es:Array ky) (ep:Nat):Prop:=∃ o,h.get? d=we o/\o.ExactDict/\o.data=.dict es ep
theorem RawD.at (x:RawD h d es ep) (k:∀ o,h.get? d=we o->h'.get? d=we o):RawD h' d es ep:=let ⟨o,e,r⟩:=x;⟨o,k o e,r⟩
theorem RawD.typeIs {s:am} (x:RawD s.heap d es ep):s.TypeIs (.ref d) "dict":=let ⟨o,e,c,_⟩:=x;⟨o,e,c.1⟩
theorem RawD.lt (x:RawD h d es ep):d<h.objs.size:=let ⟨_,e,_⟩:=x;bi e
section
variable {prog:da}{w:dc}{A:de}{E:ag->am->Prop}{s:am}{d v it:af}{es:Array ky}{ep i:Nat}
theorem Bb (lo:(d==fh)=false) (r:RawD s.heap d es ep) (q:Q (.ref s.heap.objs.size) { s with heap:=s.heap.push { cls:=.type "dict_values",data:=.fields #[.ref d] } }):
  aw (model prog w) A (call (.builtin "dict.values") [.ref d]) Q E s:=by
 refine uo (prog:=prog) (w:=w) ql r.typeIs PySem.F.entry_dict_values (PySem.F.args_dict_values_1 _) (S:=fun _ R t=>RawD t.heap d es ep/\R (.ok (.ret (.ref t.heap.objs.size))) { t with heap:=t.heap.push { cls:=.type "dict_values",data:=.fields #[.ref d] } }) (.of_wp fun B R t z=> ?_) ⟨r,q⟩;obtain⟨r1,q1⟩:=z;refine ae ?_;unfold Builtin.Dict.noArgs;refine ae (si r1.typeIs ?_);show aw _ _ (pure d) _ _ t;refine ak ?_;show aw _ _ (kt d >>= _) _ _ t;unfold kt;rw[if_neg (show ¬((d==fh)=true) by rw[lo];exact cf)];exact ae (ak (ae (dy (ak ⟨_,rfl,q1⟩))))
theorem CC (vw:s.heap.IsValuesView v d) (r:RawD s.heap d es ep)
  (q:Q (.ref s.heap.objs.size) { s with heap:=s.heap.push { cls:=.type "dict_valueiterator",data:=.fields #[.ref d,.int 0 0,.int es.size 0,.int ep 0] } }):aw (model prog w) A (pyIter (.ref v)) Q E s:=by
 obtain⟨ov,v1,v2,v3⟩:=id vw;obtain⟨o,r1,r2,r3⟩:=id r;refine wpAny_pyIter_slot vw.typeIs oz (g9 oz vw.typeIs PySem.F.entry_dict_values_iter ?_ (PySem.F.args_dict_values_iter_1 _));unfold Builtin.«dict_values.__iter__»;refine ae (ak (ae ?_));unfold wb;refine ae (rg v1 v3 (x:=.ref d) rfl (ak (ae ?_)));unfold vj;refine ae (jk r1 r3 (ae (km r1 r3 ?_)));have own:ia "dict_valueiterator"=false:=by decide
 simp only[own,dn,ite_false];refine dy (ak ⟨_,rfl,"dict_valueiterator",_,⟨_,bz _ rfl,rfl⟩,fx.lookup,?_⟩);simpa [lz] using q
theorem CA (vi:s.heap.IsValIter it d i es.size ep) (r:RawD s.heap d es ep) (hx:es[i]?=we e)
  (q:∀ h',h'.IsValIter it d (i+1) es.size ep->fm it s.heap h'->Q (we e.val) { s with heap:=h' }):aw (model prog w) A (mw (.ref it)) Q E s:=by
 obtain⟨o,i1,i2,i3⟩:=id vi;obtain⟨od,r1,r2,r3⟩:=id r;have lt:i<es.size:=(k9.mp hx).1;have own:ia "dict_valueiterator"=false:=by decide
 unfold mw;refine ae (pk (i6 (name:=jj "__next__") vi.typeIs fx (g9 fx vi.typeIs lu ?_ (lm _))));refine ae (ak (ae (ae ?_)))
 first|refine ae (i4 vi.typeIs (ak ?_))|refine ae (jz vi.typeIs (ak ?_))
 refine ae (pb i1 i3 ?_);simp only[own,dn,ite_false];show aw _ _ (if(b7 d==hW)=true then _ else _) _ _ s;rw[if_neg (show ¬((b7 d==hW)=true) from fun z=>nomatch z)];refine ae (ak (ae (jk r1 r3 ?_)));rw[if_neg (by simp:¬ _)];refine ae (ak (ae (km r1 r3 ?_)));rw[if_neg (by simp:¬ _)];refine ak ?_;simp only[show ¬((i:Int)<0) by omega,ite_false,c5,hx];refine ae ?_
 first|refine ae (i4 vi.typeIs (ak ?_))|refine ae (jz vi.typeIs (ak ?_))
 refine ae (oa vi.typeIs ?_);show aw _ _ (setField (.ref it) 1 (lz ((i:Int)+1)) >>= _) _ _ s;refine ae (pc i1 i3 (by simp) ?_);have vi2:(s.heap.update it (lg (·.setIfInBounds 1 (lz ((i:Int)+1))))).IsValIter it d (i+1) es.size ep:=⟨_,gn _ i1 (n9 (jb i3 _)),(uy ..).trans i2,by rw[jb i3];simp[lz]⟩;refine ae (im (ae (oa (s:={ s with heap:=s.heap.update it (lg (·.setIfInBounds 1 (lz ((i:Int)+1)))) }) vi2.typeIs ?_)));refine ae (oa (s:={ s with heap:=s.heap.update it (lg (·.setIfInBounds 1 (lz ((i:Int)+1)))) }) vi2.typeIs ?_);exact ak (ak ⟨_,rfl,ak (q _ vi2 (ln ..))⟩)
theorem Fo (hh:A.handled=wf) (vi:s.heap.IsValIter it d i es.size ep) (r:RawD s.heap d es ep) (hx:es.size<=i) (q:∀ h',Heap.ExtBut it s.heap h'->Q wf { s with heap:=h' }):aw (model prog w) A (mw (.ref it)) Q E s:=by
 obtain⟨o,i1,i2,i3⟩:=id vi;obtain⟨od,r1,r2,r3⟩:=id r;have own:ia "dict_valueiterator"=false:=by decide
 unfold mw;refine ae (pk (i6 (name:=jj "__next__") vi.typeIs fx (g9 fx vi.typeIs lu ?_ (lm _))));refine ae (ak (ae (ae ?_)))
 first|refine ae (i4 vi.typeIs (ak ?_))|refine ae (jz vi.typeIs (ak ?_))
 refine ae (pb i1 i3 ?_);simp only[own,dn,ite_false];show aw _ _ (if(b7 d==hW)=true then _ else _) _ _ s;rw[if_neg (show ¬((b7 d==hW)=true) from fun z=>nomatch z)];refine ae (ak (ae (jk r1 r3 ?_)));rw[if_neg (by simp:¬ _)];refine ae (ak (ae (km r1 r3 ?_)));rw[if_neg (by simp:¬ _)];refine ak ?_;simp only[show ¬((i:Int)<0) by omega,ite_false,c5,rp hx];refine ae ?_
 first|refine ae (i4 vi.typeIs (ak ?_))|refine ae (jz vi.typeIs (ak ?_))
 show aw _ _ (setField (.ref it) 0 .none >>= _) _ _ s;refine ae (pc i1 i3 (by simp) ?_);show aw _ _ (newExc (.type "StopIteration") [] >>= _) _ _ _;refine ae ?_;simp only[newExc,newTuple];refine ae (dy (ae (m:=pd _ _) (wpAny_of_eq (a:=hW) (by first|rfl|(simp only[pd];rfl)) ?_)) (by size_fits));refine dy ?_ (by size_fits);simp only[raiseNew];refine ae (wpAny_handled ?_);rw[show A.in1.handled=wf from hh];refine ae (ak (wpAny_throw ?_));refine ae (wpAny_isInstance (T:="StopIteration") (b:=true) ⟨_,(bz _ rfl),rfl⟩ isSubtype_stop ?_);exact ak (q _ (((ln ..).extBut.push _).push _))
theorem KO (hh:A.handled=wf) (I:af) (hne:d≠I):Walks prog w A I [I,d] [I] es.size (fun i v=>∃ e,es[i]?=we e/\v=e.val) (fun i h=>h.IsValIter I d i es.size ep/\RawD h d es ep) where
 sub:=fun b hb=>by simp at hb;simp[hb]
 frame:=fun _ _ _ st hk=>⟨let ⟨o,e,z⟩:=st.1;⟨o,hk I (by simp) o e,z⟩,st.2.at fun o e=>hk d (by simp) o e⟩
 item:=fun i s Q E hi st hQ=>CA (e:=es[i]) st.1 st.2 (by simp[hi]) fun h' st' sb=>hQ _ h' s.toks ⟨es[i],by simp[hi],rfl⟩ ⟨st',st.2.at fun o e=>(sb.2 d hne).trans e⟩ fun b o hb e=>(sb.2 b fun z=>hb (by simp[z])).trans e
 done:=fun s Q E st hQ=>Fo hh st.1 st.2 (bc _) fun h' eb=>hQ h' s.toks fun b o hb e=>eb b o (fun z=>hb (by simp[z])) e
 self:=fun _ _ _ _ st hQ=>wpAny_pyIter_valiter st.1 hQ
theorem qG:sj prog w "dict_values" v d es.size (fun i x=>∃ e,es[i]?=we e/\x=e.val) (fun h=>h.IsValuesView v d/\RawD h d es ep) where
 type:=fun _ z=>z.1.typeIs
 there:=fun _ z=>⟨let ⟨_,e,_⟩:=z.1;bi e,z.2.lt⟩
 keep:=fun _ _ z hk=>⟨let ⟨o,e,x⟩:=z.1;⟨o,hk v (.inl rfl) o e,x⟩,z.2.at fun o e=>hk d (.inr rfl) o e⟩
 notList:=by decide
 notTuple:=by decide
 hint:=fun _ _ _ _ z hq=>PySem.W.kdl_hint_values z.1.typeIs hq
 iter:=fun _ _ hh z=>⟨_,_,(fun _ _ hq=>CC z.1 z.2 hq),KO hh _ (ci z.2.lt),⟨⟨_,bz _ rfl,rfl,rfl⟩,z.2.at fun o e=>ay _ e⟩⟩
theorem CD (lo:(d==fh)=false) (r:RawD s.heap d es ep)
  (q:Q (.ref s.heap.objs.size) { s with heap:=s.heap.push { cls:=.type "dict_keyiterator",data:=.fields #[.ref d,.int 0 0,.int es.size 0,.int ep 0] } }):aw (model prog w) A (pyIter (.ref d)) Q E s:=by
 obtain⟨o,r1,r2,r3⟩:=id r;refine wpAny_pyIter_slot r.typeIs mz (g9 mz r.typeIs PySem.F.entry_dict_iter ?_ (PySem.F.args_dict_iter_1 _));unfold Builtin.«dict.__iter__»;refine ae ?_;unfold Builtin.Dict.dictSlotNone;refine ae (si r.typeIs ?_);show aw _ _ (pure (b7 d)) _ _ s;refine ak ?_;show aw _ _ (kt d >>= _) _ _ s;unfold kt;rw[if_neg (show ¬((d==fh)=true) by rw[lo];exact cf)];refine ae (ak (ae (jk r1 r3 (ae (km r1 r3 ?_)))));refine ae (dy (ak ⟨_,rfl,"dict_keyiterator",_,⟨_,bz _ rfl,rfl⟩,ga.lookup,?_⟩));simpa [lz] using q
theorem CB (vi:s.heap.IsKeyIter it d i es.size ep) (r:RawD s.heap d es ep) (hx:es[i]?=we e)
  (q:∀ h',h'.IsKeyIter it d (i+1) es.size ep->fm it s.heap h'->Q (we e.key) { s with heap:=h' }):aw (model prog w) A (mw (.ref it)) Q E s:=by
 obtain⟨o,i1,i2,i3⟩:=id vi;obtain⟨od,r1,r2,r3⟩:=id r;have lt:i<es.size:=(k9.mp hx).1;have own:ia "dict_keyiterator"=false:=by decide
 unfold mw;refine ae (pk (i6 (name:=jj "__next__") vi.typeIs ga (g9 ga vi.typeIs mq ?_ (me _))));refine ae (ak (ae (ae ?_)))
 first|refine ae (i5 vi.typeIs (ak ?_))|refine ae (j0 vi.typeIs (ak ?_))
 refine ae (pb i1 i3 ?_);simp only[own,dn,ite_false];show aw _ _ (if(b7 d==hW)=true then _ else _) _ _ s;rw[if_neg (show ¬((b7 d==hW)=true) from fun z=>nomatch z)];refine ae (ak (ae (jk r1 r3 ?_)));rw[if_neg (by simp:¬ _)];refine ae (ak (ae (km r1 r3 ?_)));rw[if_neg (by simp:¬ _)];refine ak ?_;simp only[show ¬((i:Int)<0) by omega,ite_false,c5,hx];refine ae ?_
 first|refine ae (i5 vi.typeIs (ak ?_))|refine ae (j0 vi.typeIs (ak ?_))
 refine ae (ss vi.typeIs ?_);show aw _ _ (setField (.ref it) 1 (lz ((i:Int)+1)) >>= _) _ _ s;refine ae (pc i1 i3 (by simp) ?_);have vi2:(s.heap.update it (lg (·.setIfInBounds 1 (lz ((i:Int)+1))))).IsKeyIter it d (i+1) es.size ep:=⟨_,gn _ i1 (n9 (jb i3 _)),(uy ..).trans i2,by rw[jb i3];simp[lz]⟩;refine ae (im (ae (ss (s:={ s with heap:=s.heap.update it (lg (·.setIfInBounds 1 (lz ((i:Int)+1)))) }) vi2.typeIs ?_)));exact ak (ak ⟨_,rfl,ak (q _ vi2 (ln ..))⟩)
theorem Fp (hh:A.handled=wf) (vi:s.heap.IsKeyIter it d i es.size ep) (r:RawD s.heap d es ep) (hx:es.size<=i) (q:∀ h',Heap.ExtBut it s.heap h'->Q wf { s with heap:=h' }):aw (model prog w) A (mw (.ref it)) Q E s:=by
 obtain⟨o,i1,i2,i3⟩:=id vi;obtain⟨od,r1,r2,r3⟩:=id r;have own:ia "dict_keyiterator"=false:=by decide
 unfold mw;refine ae (pk (i6 (name:=jj "__next__") vi.typeIs ga (g9 ga vi.typeIs mq ?_ (me _))));refine ae (ak (ae (ae ?_)))
 first|refine ae (i5 vi.typeIs (ak ?_))|refine ae (j0 vi.typeIs (ak ?_))
 refine ae (pb i1 i3 ?_);simp only[own,dn,ite_false];show aw _ _ (if(b7 d==hW)=true then _ else _) _ _ s;rw[if_neg (show ¬((b7 d==hW)=true) from fun z=>nomatch z)];refine ae (ak (ae (jk r1 r3 ?_)));rw[if_neg (by simp:¬ _)];refine ae (ak (ae (km r1 r3 ?_)));rw[if_neg (by simp:¬ _)];refine ak ?_;simp only[show ¬((i:Int)<0) by omega,ite_false,c5,rp hx];refine ae ?_
 first|refine ae (i5 vi.typeIs (ak ?_))|refine ae (j0 vi.typeIs (ak ?_))
 show aw _ _ (setField (.ref it) 0 .none >>= _) _ _ s;refine ae (pc i1 i3 (by simp) ?_);show aw _ _ (newExc (.type "StopIteration") [] >>= _) _ _ _;refine ae ?_;simp only[newExc,newTuple];refine ae (dy (ae (m:=pd _ _) (wpAny_of_eq (a:=hW) (by first|rfl|(simp only[pd];rfl)) ?_)) (by size_fits));refine dy ?_ (by size_fits);simp only[raiseNew];refine ae (wpAny_handled ?_);rw[show A.in1.handled=wf from hh];refine ae (ak (wpAny_throw ?_));refine ae (wpAny_isInstance (T:="StopIteration") (b:=true) ⟨_,(bz _ rfl),rfl⟩ isSubtype_stop ?_);exact ak (q _ (((ln ..).extBut.push _).push _))
end
theorem _root_.L2.Inv.laidN (I:Inv X pins σ H s) (k:∀ b u,s.heap.get? b=we u->h'.get? b=we u) (n:s.heap.get? a=wf) (new:ObjOk X.prog X.w (upd H a o) h' a o):
  H a=wf/\Inv X pins σ (upd H a o) { s with heap:=h',toks:=t' }:=by
 have hn:H a=wf:=by
  cases q:H a with
  |none=>rfl
  |some u=>
   obtain⟨v,w⟩:=HOk.obj I.hok q;rw[n] at w;cases w
 have ne:∀ {b:af}{u:Obj},s.heap.get? b=we u->b≠a:=fun e z=>by rw[z,n] at e;cases e
 refine⟨hn,I.un ⟨fun b u e _ _ _=>k b u e,fun b u e _ _ _=>⟨u.slots,k b u e⟩,fun b u e q _=>by rw[aG (ne e)];exact q,fun b u e _=>⟨u,k b u e⟩,fun b xs e=>by rw[aG (aN e hn)];exact e,fun b u v e=>by rw[aG (aN e hn)];exact e,fun b ps e=>⟨#[],by rw[aG (aN e hn),e];simp⟩⟩ fun b u e=> ?_⟩
 by_cases hb:b=a
 ·subst hb;rw[aP] at e;cases e;exact new
 ·rw[aG hb] at e;exact(I.hok b u e).stay (fun c v _ q=>k c v q) (fun c q=>by rw[aG (aN q hn)];exact q) fun c xs q=>by rw[aG (aN q hn)];exact q
section
variable {prog:da}{w:dc}{A:de}{E:ag->am->Prop}{s:am}
theorem NO (ho:s.heap.get? a=we (gw "list" vs.toArray n)) (h1:vs.length<2)
  (h:P (.done (.ret .none)) { s with heap:=p7 s.heap a vs ((vs.toArray.zip vs.toArray).map (·.2)) }):aw (model prog w) A (Builtin.«list.sort» ⟨[.ref a],[]⟩) P E s:=by
 have la:a<s.heap.objs.size:=bi ho;have z:vs.toArray.size<2:=by rw[az];exact h1
 obtain⟨e1,o1⟩:∃ e1,(s.heap.update a (kh fun _=> #[])).get? a=we (gw "list" #[] e1):=⟨_,qw ho (fun _=> #[])⟩;have o2:(((s.heap.update a (kh fun _=> #[])).push (gw "tuple" vs.toArray 0)).push (gw "list" #[] 0)).get? a=we (gw "list" #[] e1):=ay _ (ay _ o1);rw[list_sort_plain];refine ae (listItems_at ho rfl (ae (listUpdate_at ho rfl (ae (seqEpoch_at o1 rfl (ae (wpAny_newTuple (ae (tz (im ?_))))))))));show aw (model prog w) A _ P E { s with heap:=((s.heap.update a (kh fun _=> #[])).push (gw "tuple" vs.toArray 0)).push (gw "list" #[] 0) };dsimp only;rw[if_pos z,if_pos z];refine ae (ak ?_);rw[StateT.run_pure];refine ae (ak ?_);dsimp only;refine ae (seqEpoch_at o2 rfl (ae (listUpdate_at o2 rfl ?_ (hsz2:=by rw[Array.size_map];show(vs.toArray.zip vs.toArray).size<=_;rw[Array.size_zip,az,bw];omega))));simp only[bne_self_eq_false,dn,ite_false];exact ak h
theorem nG (col:∀ {R:List ag->am->Prop},(∀(h':cy) (tk:Nat) (acc:Array ag),(∀ b o,s.heap.get? b=we o->h'.get? b=we o)->ItemsOf P acc n->R acc.toList { s with heap:=h',toks:=tk })->aw (model prog w) A.in1 (collect (.ref r)) R E s) (hn:n<2)
  (h:∀(h':cy) (tk:Nat) (vs:List ag) (a:af) (c:Nat),(∀ b o,s.heap.get? b=we o->h'.get? b=we o)->s.heap.get? a=wf->vs.length=n->(∀(j:Nat) (v:ag),vs[j]?=we v->P j v)->h'.get? a=we (gw "list" vs.toArray c)->Q (.ref a) { s with heap:=h',toks:=tk }):
  aw (model prog w) A (call (.builtin "sorted") [.ref r]) Q E s:=by
 refine p8 kind_sorted plain_sorted entry_sorted (args_sorted1 _) ?_;unfold Builtin.«sorted»;refine ae (m:=checkCount "sorted" 1 1 _) (ak (ae (col fun h1 tk acc kp it=> ?_)));have hl:acc.toList.length=n:=by rw[dw];exact it.1
 refine ae (tz ?_ (by rw[hl,bw];omega));have o1:(h1.push (gw "list" acc.toList.toArray 0)).get? h1.objs.size=we (gw "list" acc.toList.toArray 0):=bz _ rfl;refine ae (im (g9 slot_list_sort ⟨_,o1,rfl⟩ entry_list_sort (NO (s:={ s with heap:=h1.push (gw "list" acc.toList.toArray 0),toks:=tk }) o1 (by rw[hl];exact hn) ⟨_,rfl,?_⟩) (args_list_sort _)));have nw:s.heap.get? h1.objs.size=wf:=by
  cases q:s.heap.get? h1.objs.size with
  |none=>rfl
  |some u=>exact absurd (bi (kp _ _ q)) (gg _)
 have ez:(acc.toList.toArray.zip acc.toList.toArray).map (·.2)=acc.toList.toArray:=by
  apply Array.ext';rw[Array.toList_map,Array.toList_zip];simp[List.map_snd_zip]
 have ne:∀ b,b≠h1.objs.size->∀ o,h1.get? b=we o->(p7 (h1.push (gw "list" acc.toList.toArray 0)) h1.objs.size acc.toList ((acc.toList.toArray.zip acc.toList.toArray).map (·.2))).get? b=we o:=fun b hb o e=>by
  unfold p7;rw[d8 _ _ (bt hb)];refine ay _ (ay _ ?_);rw[d8 _ _ (bt hb)];exact ay _ e
 have o2:=qw o1 (fun _=> #[]);have o3:=qw (ay (gw "list" #[] 0) (ay (gw "tuple" acc.toList.toArray 0) o2)) (fun _=>(acc.toList.toArray.zip acc.toList.toArray).map (·.2));have o4:∃ c,(p7 (h1.push (gw "list" acc.toList.toArray 0)) h1.objs.size acc.toList ((acc.toList.toArray.zip acc.toList.toArray).map (·.2))).get? h1.objs.size=we (gw "list" acc.toList.toArray c):=by
  unfold p7;rw[ez] at o3 ⊢;exact⟨_,o3⟩
 obtain⟨c,o4⟩:=o4;exact ak ⟨_,rfl,h _ tk acc.toList h1.objs.size c (fun b o e=>ne b (fun z=>by rw[z,nw] at e;cases e) o (kp b o e)) nw hl (fun j v e=>it.2 j v (by rw[<- g8];exact e)) o4⟩
theorem xA (K:sj prog w T r d n P OK) (hh:A.handled=wf) (hok:OK s.heap) (hn:n<2)
  (h:∀(h':cy) (tk:Nat) (vs:List ag) (a:af) (c:Nat),(∀ b o,s.heap.get? b=we o->h'.get? b=we o)->s.heap.get? a=wf->vs.length=n->(∀(j:Nat) (v:ag),vs[j]?=we v->P j v)->h'.get? a=we (gw "list" vs.toArray c)->Q (.ref a) { s with heap:=h',toks:=tk }):
  aw (model prog w) A (call (.builtin "sorted") [.ref r]) Q E s:=
 nG (fun h=>t7 (A:=A.in1) K hh hok (by rw[bw];omega) h) hn h
end
noncomputable abbrev lf (g:D->D->Option D):Om->D->D->Option (D×Om):=fun ω a b=>pu (g a b) ω
noncomputable abbrev lfL (g:List D->Option D):Om->List D->Option (D×Om):=fun ω a=>pu (g a) ω
noncomputable def fL (ω:Om) (d:D):Option (List D):=match d with
 |.lst ds=>we ds
 |.obj n=>match ω[n]? with
  |some (.ml ds)=>we ds
  |_=>wf
 |_=>wf
theorem eN (h:fL ω d=we ds):d=.lst ds∨∃ n,d=.obj n/\ω[n]?=we (.ml ds):=by
 cases d with
 |lst xs=>cases h;exact .inl rfl
 |obj n=>
  have h':(match ω[n]? with
   |some (.ml ds)=>we ds
   |_=>wf)=we ds:=h
  split at h'
  ·cases h';exact .inr ⟨n,rfl,‹_›⟩
  ·cases h'
 |_=>cases h
theorem eL {K:aa} (t:Stt cls K ok H ω) (r:Rep K ok H v d) (e:fL ω d=we ds):∃ a xs,v=.ref a/\H a=we (.lst xs)/\Reps K ok H xs ds:=by
 rcases eN e with rfl|⟨n,rfl,e1⟩
 ·obtain⟨a,xs,rfl,g,rs⟩:=r.lst_inv;exact⟨a,xs,rfl,g.2,rs⟩
 ·obtain⟨a,rfl,e2,xs,e3,rs⟩:=t.ref r e1;exact⟨a,xs,rfl,e3,rs⟩
section
variable {X:Cx}{cls exC:Nat->af}{E:XE}{e a b c o i value:br}{es rest:List br}{fa fb fc fo fi fv:OG D}{fl:OG (List D)}{ft ft':OG Bool}{pos p apos pos':Pos}{x m:Str}{st:cq}
theorem Mz (ha:OE X cls E a fa) (hb:OE X cls E b fb):OE X cls E (.BinOp a .Add b pos) (o2 (lf sZ) fa fb):=sI Mj (Fit2.lift (jH fun _ _ _ _=>.int _)) ha hb
theorem Mo (ha:OE X cls E a fa) (hb:OE X cls E b fb):OE X cls E (.BinOp a .Sub b pos) (o2 (lf gSub) fa fb):=sI LY (Fit2.lift (jH fun _ _ _ _=>.int _)) ha hb
theorem Mr (ha:OE X cls E a fa) (hb:OE X cls E b fb):OE X cls E (.BinOp a .Mult b pos) (o2 (lf gT) fa fb):=sI Mb (Fit2.lift (MU (fun i j h=>by unfold CMul;omega) fun _ _ _ _=>.int _)) ha hb
theorem Ms (ha:OE X cls E a fa) (hb:OE X cls E b fb):OE X cls E (.BinOp a .Mod b pos) (o2 (lf cR) fa fb):=sI Mc (Fit2.lift (MU (fun _ _ h=>h) fun _ _ _ _=>.int _)) ha hb
theorem Oo (ha:OE X cls E a fa) (hb:OE X cls E b fb):OE X cls E (.Compare a [.LtE] [b] pos) (o2 (lf gLe) fa fb):=CZ Ji (Fit2.lift (jH fun _ _ _ _=>.bl _)) ha hb (iC _)
theorem Oq (ha:OE X cls E a fa) (hb:OE X cls E b fb):OE X cls E (.Compare a [.Gt] [b] pos) (o2 (lf gGt) fa fb):=CZ Mh (Fit2.lift (jH fun _ _ _ _=>.bl _)) ha hb (iC _)
theorem Oc (ha:OE X cls E a fa) (hb:OE X cls E b fb):OT X cls E (.Compare a [.Lt] [b] pos) (cC (o2 (lf gLt) fa fb)):=jD Me (Fit2.lift (jH fun _ _ _ _=>.bl _)) ha hb (iC _)
theorem Od (ha:OE X cls E a fa) (hb:OE X cls E b fb):OT X cls E (.Compare a [.LtE] [b] pos) (cC (o2 (lf gLe) fa fb)):=jD Ji (Fit2.lift (jH fun _ _ _ _=>.bl _)) ha hb (iC _)
theorem Of (ha:OE X cls E a fa) (hb:OE X cls E b fb):OT X cls E (.Compare a [.Gt] [b] pos) (cC (o2 (lf gGt) fa fb)):=jD Mh (Fit2.lift (jH fun _ _ _ _=>.bl _)) ha hb (iC _)
theorem Og (ha:OE X cls E a fa) (hb:OE X cls E b fb):OT X cls E (.Compare a [.GtE] [b] pos) (cC (o2 (lf gGe) fa fb)):=jD Ol (Fit2.lift (jH fun _ _ _ _=>.bl _)) ha hb (iC _)
theorem LO (ha:OE X cls E a fa) (hb:OE X cls E b fb):OT X cls E (.Compare a [.Is] [b] pos) (cC (o2 (lf OD) fa fb)):=jD Mf (Fit2.lift Kk) ha hb (iC _)
theorem IU (ha:OE X cls E a fa) (hb:OE X cls E b fb):OT X cls E (.Compare a [.IsNot] [b] pos) (cC (o2 (lf Kd) fa fb)):=jD Jf (Fit2.lift GJ) ha hb (iC _)
theorem Oe (hu:Hw X (n+1)) (ha:OE X cls E a fa) (hb:OE X cls E b fb) (hm:ik .In b=false:=by with_unfolding_all rfl):OT X cls E (.Compare a [.In] [b] pos) (cC (o2 (lf (gIn n)) fa fb)):=jD (Mg hu) (Fit2.lift MT) ha hb hm
theorem FD (hu:Hw X (n+1)) (ha:OE X cls E a fa) (hb:OE X cls E b fb) (hm:ik .NotIn b=false:=by with_unfolding_all rfl):OT X cls E (.Compare a [.NotIn] [b] pos) (cC (o2 (lf (AA n)) fa fb)):=jD (CT hu) (Fit2.lift Ee) ha hb hm
noncomputable def qM (g g':D->D->Option D) (fa fb fc:OG D):OG Bool:=oB fa fun x=>oB fb fun y ρ ω=>match (g x y).bind toB with
 |none=>wf
 |some true=>oB fc (fun z _ ω=>oR (pu ((g' y z).bind toB) ω)) ρ ω
 |some false=>we (.ok false,ω)
theorem CP (ho:OpR X (d7 op) r) (F:Fit2 X.K r g) (ho':OpR X (d7 op') r') (F':Fit2 X.K r' g') (ha:OE X cls E a fa) (hb:OE X cls E b fb) (hc:OE X cls E c fc)
  (hm:lastMarks [op,op'] [b,c]=false:=by with_unfolding_all rfl):OT X cls E (.Compare a [op,op'] [b,c] pos) (qM g g' fa fb fc):=(Fw ho ho' ha hb hc hm).imp fun σ H Q ⟨ok,ρ,ω,rz,ω',P,e,q⟩=>by
 refine tO.then_ P e (fun c z=>by subst z;exact q) fun x ω1 v ok1 H1 e1 n1 P1 r1=> ?_;refine tO.then_ P1 e1 (fun c z=>by subst z;exact exR.nw q n1) fun y ω2 u ok2 H2 e2 n2 P2 r2=> ?_;cases hg:(g x y).bind toB with
 |none=>rw[hg] at e2;cases e2
 |some k=>
  rw[hg] at e2;obtain⟨dk,g1,g2⟩:=bind_some hg;obtain rfl:=mY g2;refine F ok2 H2 v u x y _ _ P2.okh (r1.ex n2.ex) r2 g1 fun w H3 s3 r3=>⟨k,r3.bl_inv,?_⟩;have n3:Nw cls X.K ok2 H2 ok2 H3 ω2:=.same P2.okh P2.st s3;cases k with
  |false=>
   cases e2;exact KI ⟨false,rfl,q ok2 H3 (n1.trans (n2.trans n3))⟩
  |true=>
   refine KH (tO.then_ (P2.nw n3) e2 (fun c z=>by subst z;exact exR.nw q (n1.trans (n2.trans n3))) fun z ω4 w4 ok4 H4 e4 n4 P4 r4=> ?_);obtain⟨k',e5,rfl⟩:=cF e4;obtain⟨ue5,rfl⟩:=cN e5;obtain⟨dk',g3,g4⟩:=bind_some ue5;obtain rfl:=mY g4;exact F' ok4 H4 u w4 y z _ _ P4.okh ((r2.ex n3.ex).ex n4.ex) r4 g3 fun w5 H5 s5 r5=>⟨k',r5.bl_inv,q ok4 H5 (n1.trans (n2.trans (n3.trans (n4.trans (.same P4.okh P4.st s5)))))⟩
theorem MS {K:aa}:Fit2 K (rI0 fun i j=>.bl (decide (i<=j))) gLe:=jH fun _ _ _ _=>.bl _
theorem MR {K:aa}:Fit2 K (rI0 fun i j=>.bl (decide (i<j))) gLt:=jH fun _ _ _ _=>.bl _
theorem IV (ha:OE X cls E a fa) (hb:OE X cls E b fb) (hc:OE X cls E c fc) (hm:lastMarks [.LtE,.Lt] [b,c]=false:=by with_unfolding_all rfl):OT X cls E (.Compare a [.LtE,.Lt] [b,c] pos) (qM gLe gLt fa fb fc):=CP Ji MS Me MR ha hb hc hm
noncomputable def Bi (f g:OG D):OG D:=oB f fun d ρ ω=>match toB d with
 |none=>wf
 |some true=>g ρ ω
 |some false=>we (.ok (.bl false),ω)
noncomputable def MC (f:OG D):OG D:=oB f fun d _ ω=>oR (pu (Qe d) ω)
theorem Mp (h:OE X cls E a fa):OE X cls E (.BoolOp op [a] pos) fa:=Lz h
theorem My (ha:OE X cls E a fa) (hb:OE X cls E (.BoolOp .And (b::rest) pos) fb):OE X cls E (.BoolOp .And (a::b::rest) pos) (Bi fa fb):=(LH ha hb).imp fun σ H Q ⟨ok,ρ,ω,r,ω',P,e,q⟩=>by
 refine tO.then_ P e (fun c z=>by subst z;exact q) fun d ω1 v ok1 H1 e1 n1 P1 r1=> ?_;cases hd:toB d with
 |none=>rw[hd] at e1;cases e1
 |some k=>
  rw[hd] at e1;obtain rfl:=mY hd;refine⟨k,r1.bl_inv,?_⟩;cases k with
  |true=>exact KH ⟨ok1,ρ,ω1,r,ω',P1,e1,by
   cases r with
   |ok d=>exact fun v ok' H' n r=>q v ok' H' (n1.trans n) r
   |ex c=>exact exR.nw q n1⟩
  |false=>
   cases e1;exact KI (q _ ok1 H1 n1 (.bl false))
theorem Mq (ha:OE X cls E a fa):OE X cls E (.UnaryOp .Not a pos) (MC fa):=(LA ha).imp fun σ H Q ⟨ok,ρ,ω,r,ω',P,e,q⟩=>by
 refine tO.then_ P e (fun c z=>by subst z;exact q) fun d ω1 v ok1 H1 e1 n1 P1 r1=> ?_;obtain⟨y,e3,rfl⟩:=cF e1;obtain⟨ue3,rfl⟩:=cN e3;obtain⟨k,e4,rfl⟩:=aJ (show(toB d).map _=we y from ue3);obtain rfl:=mY e4;exact⟨k,r1.bl_inv,q _ ok1 H1 n1 (.bl _)⟩
noncomputable def GD (ω:Om) (a b:D):Option (D×Om):=(fL ω a).bind fun xs=>(fL ω b).bind fun ys=>if xs.length+ys.length<=sizeLine then we (.lst (xs++ys),ω) else wf
theorem Mx (ha:OE X cls E a fa) (hb:OE X cls E b fb):OE X cls E (.BinOp a .Add b pos) (o2 GD fa fb):=sI Mi (fun ok H ω x y a b d ω' Q h1 st ra rb e k=>by
 obtain⟨xs,e1,e⟩:=bind_some e;obtain⟨ys,e2,e⟩:=bind_some e;obtain⟨hz,e3⟩:=bI e;cases e3;obtain⟨a1,us,rfl,g1,r1⟩:=eL st ra e1;obtain⟨b1,ws,rfl,g2,r2⟩:=eL st rb e2;exact⟨a1,b1,us,ws,rfl,rfl,g1,g2,by rw[r1.length,r2.length];exact hz,fun p n=>k _ ok _ (.same h1 st (bW n)) (.lst_new (h1 p n) n (r1.append r2))⟩) ha hb
theorem Reps.rep {K:aa} (h:Reps K ok H vs ds):∀ k:Nat,Reps K ok H (ao k vs).flatten (ao k ds).flatten
 |0=>.nil
 |k+1=>by
  rw[eu,eu,iy,iy];exact h.append (Reps.rep h k)
noncomputable def xZ (ω:Om) (a b:D):Option (D×Om):=(fL ω a).bind fun xs=>(toI b).bind fun k=>if -1000000<=k/\k<=1000000/\xs.length*k.toNat<=sizeLine then we (.obj ω.length,ω++[.ml (ao k.toNat xs).flatten]) else wf
theorem Jp (ha:OE X cls E a fa) (hb:OE X cls E b fb):OE X cls E (.BinOp a .Mult b pos) (o2 xZ fa fb):=sI LZ (fun ok H ω x y a b d ω' Q h1 st ra rb e k=>by
 obtain⟨xs,e1,e⟩:=bind_some e;obtain⟨kk,e2,e⟩:=bind_some e;obtain⟨hz,e3⟩:=bI e;cases e3;obtain rfl:=wW e2;obtain⟨a1,us,rfl,g1,r1⟩:=eL st ra e1;exact⟨a1,kk,us,rfl,rb.int_inv,g1,by omega,by omega,by rw[r1.length];exact hz.2.2,fun p n=>k _ _ _ (.ml h1 st n (r1.rep kk.toNat)) .new_obj⟩) ha hb
noncomputable def fU (ω:Om) (ds:List D):Option (D×Om):=match ds with
 |[d]=>match fL ω d with
  |some xs=>we (.int xs.length,ω)
  |none=>pu (OC [d]) ω
 |_=>wf
theorem GM {K:aa}:qC cls K (fun xs H Q=>∃ x n,xs=[x]/\Pa K x H n/\Q (.int n) H) fU:=fun ok H ω xs as d ω' Q h1 st r e k=>by
 unfold fU at e;split at e
 ·split at e
  ·rename_i d0 ys hs
   cases e;obtain⟨v,rfl,r1⟩:=r.one_inv;obtain⟨a,us,rfl,g,rs⟩:=eL st r1 hs;exact⟨_,_,rfl,.inl ⟨_,SqL.of g,rs.length.symm⟩,k _ ok H (.refl h1 st) (.int _)⟩
  ·exact FitL.lift (cls:=cls) Ki ok H ω xs _ d ω' Q h1 st r e k
 ·cases e
noncomputable def dN (ω:Om) (d:D):Option (List D):=match d with
 |.tup ds=>we ds
 |d=>fL ω d
theorem qU {K:aa} (t:Stt cls K ok H ω) (r:Rep K ok H v d) (e:dN ω d=we ds):∃ a xs,v=.ref a/\(SqL K H a xs∨SqT K H a xs)/\Reps K ok H xs ds:=by
 cases d with
 |tup xs=>
  cases e;obtain⟨a,ys,rfl,g,rs⟩:=r.tup_inv;exact⟨a,ys,rfl,.inr g.sq,rs⟩
 |lst xs=>
  obtain⟨a,ys,rfl,g,rs⟩:=eL t r (show fL ω (.lst xs)=we ds from e);exact⟨a,ys,rfl,.inl (SqL.of g),rs⟩
 |obj n=>
  obtain⟨a,ys,rfl,g,rs⟩:=eL t r (show fL ω (.obj n)=we ds from e);exact⟨a,ys,rfl,.inl (SqL.of g),rs⟩
 |_=>cases e
noncomputable def oK (ω:Om) (ds:List D):Option (D×Om):=match ds with
 |[d]=>(dN ω d).map fun xs=>(.lst xs,ω)
 |_=>wf
theorem Ef {K:aa}:qC cls K (fun xs H Q=>∃ p ys,xs=[.ref p]/\(SqL K H p ys∨SqT K H p ys)/\∀ l,H l=wf->Q (.ref l) (upd H l (.lst ys))) oK:=fun ok H ω xs as d ω' Q h1 st r e k=>by
 unfold oK at e;split at e
 ·obtain⟨ys,e1,e2⟩:=aJ e;cases e2;obtain⟨v,rfl,r1⟩:=r.one_inv;obtain⟨a,us,rfl,g,rs⟩:=qU st r1 e1;exact⟨a,us,rfl,g,fun l n=>k _ ok _ (.same h1 st (bW n)) (.lst_new (h1 l n) n rs)⟩
 ·cases e
noncomputable def rC (ω:Om) (ds:List D):Option (D×Om):=match ds with
 |[d]=>(dN ω d).map fun xs=>(.obj ω.length,ω++[.ml xs])
 |_=>wf
theorem Eg {K:aa}:qC cls K (fun xs H Q=>∃ p ys,xs=[.ref p]/\(SqL K H p ys∨SqT K H p ys)/\∀ l,H l=wf->Q (.ref l) (upd H l (.lst ys))) rC:=fun ok H ω xs as d ω' Q h1 st r e k=>by
 unfold rC at e;split at e
 ·obtain⟨ys,e1,e2⟩:=aJ e;cases e2;obtain⟨v,rfl,r1⟩:=r.one_inv;obtain⟨a,us,rfl,g,rs⟩:=qU st r1 e1;exact⟨a,us,rfl,g,fun l n=>k _ _ _ (.ml h1 st n rs) .new_obj⟩
 ·cases e
noncomputable def DW (ω:Om) (ds:List D):Option (D×Om):=match ds with
 |[d]=>(fL ω d).map fun xs=>(.tup xs,ω)
 |_=>wf
theorem GF {K:aa}:qC cls K (fun xs H Q=>∃ p ys,xs=[.ref p]/\((SqL K H p ys/\∀ l,H l=wf->Q (.ref l) (upd H l (.tup ys)))∨(SqT K H p ys/\Q (.ref p) H))) DW:=fun ok H ω xs as d ω' Q h1 st r e k=>by
 unfold DW at e;split at e
 ·obtain⟨ys,e1,e2⟩:=aJ e;cases e2;obtain⟨v,rfl,r1⟩:=r.one_inv;obtain⟨a,us,rfl,g,rs⟩:=eL st r1 e1;exact⟨a,us,rfl,.inl ⟨SqL.of g,fun l n=>k _ ok _ (.same h1 st (bW n)) (.tup_new (h1 l n) n rs)⟩⟩
 ·cases e
noncomputable def Kc (ω:Om) (a:D) (lo hi:Option Int):Option D:=match fL ω a with
 |some ds=>we (.lst (AI ds lo hi))
 |none=>gSl a lo hi
noncomputable def oSl (f:OG D) (l u:DO):OG D:=oB f fun a ρ ω=>(l ρ).bind fun lo=>(u ρ).bind fun hi=>oR (pu (Kc ω a lo hi) ω)
theorem FL {lo hi:Option br} (he:OE X cls E e fa) (hl:DOp X lo l) (hu:DOp X hi u):OE X cls E (.Subscript e (.Slice lo hi wf p2) pos) (oSl fa l u):=(Ae (sl_list.or HA) he hl hu).imp fun σ H Q ⟨ok,ρ,ω,r,ω',P,e,q⟩=>by
 refine tO.then_ P e (fun c z=>by subst z;exact q) fun a ω1 v ok1 H1 e1 n1 P1 r1=> ?_;obtain⟨il,g1,e1⟩:=bind_some e1;obtain⟨ih,g2,e1⟩:=bind_some e1;obtain⟨d,e3,rfl⟩:=cF e1;obtain⟨ue3,rfl⟩:=cN e3;refine⟨ok1,ρ,il,P1.okh,P1.env,g1,fun H2 s2=>⟨ok1,ρ,ih,P1.okh.same s2,P1.env.same s2,g2,fun H3 s3=> ?_⟩⟩;have sx:=s2.trans s3;have ra:=r1.same sx;have st3:=P1.st.same sx;have okh:=P1.okh.same sx;have q':∀ v H',Same H3 H'->Rep X.K ok1 H' v d->Q v H':=fun v H' s r=>q v ok1 H' (n1.trans (.same P1.okh P1.st (sx.trans s))) r;unfold Kc at ue3;cases hs:fL ω' a with
 |some ds=>
  rw[hs] at ue3;cases ue3;obtain⟨p,xs,rfl,g,rs⟩:=eL st3 ra hs;exact .inl ⟨p,xs,rfl,SqL.of g,fun p' n=>q' _ _ (bW n) (.lst_new (okh p' n) n (rs.cut il ih))⟩
 |none=>
  rw[hs] at ue3;have ue4:gSl a il ih=we d:=ue3;cases a with
  |lst ds=>cases hs
  |scr ds=>
   cases ue4;obtain⟨p,xs,rfl,g,rs⟩:=ra.scr_inv;exact .inl ⟨p,xs,rfl,g.sq,fun p' n=>q' _ _ (bW n) (.lst_new (okh p' n) n (rs.cut il ih))⟩
  |tup ds=>
   have h3':(if HT.sIx ds.length 0 il=0/\HT.sIx ds.length ds.length ih=ds.length then wf else we (D.tup (AI ds il ih)))=we d:=ue4;obtain⟨p,xs,rfl,g,rs⟩:=ra.tup_inv
   by_cases hw:HT.sIx ds.length 0 il=0/\HT.sIx ds.length ds.length ih=ds.length
   ·rw[if_pos hw] at h3';cases h3'
   ·rw[if_neg hw] at h3';cases h3';exact .inr ⟨p,xs,rfl,g.sq,by rw[rs.length];exact hw,fun p' n=>q' _ _ (bW n) (.tup_new (okh p' n) n (rs.cut il ih))⟩
  |_=>cases ue4
end
noncomputable def HU (T:String) (ω:Om) (d:D):Option Bool:=match fL ω d with
 |some ds=>Gi T (.lst ds)
 |none=>Gi T d
theorem Rep.wide {K:aa} (r:Rep K ok H v d):Rep K ⟨fun _=>True,ok.al⟩ H v d:=Rep.mono (ok:=ok) (ok':=⟨fun _=>True,ok.al⟩) (fun _ _ _ e=>⟨trivial,e⟩) (fun _ _ h=>h) r
theorem Reps.wide {K:aa} (r:Reps K ok H v d):Reps K ⟨fun _=>True,ok.al⟩ H v d:=Reps.mono (ok:=ok) (ok':=⟨fun _=>True,ok.al⟩) (fun _ _ _ e=>⟨trivial,e⟩) (fun _ _ h=>h) r
theorem uX {K:aa} (t:Stt cls K ok H ω) (r:Rep K ok H v d) (e:fL ω d=we ds):Rep K ⟨fun _=>True,ok.al⟩ H v (.lst ds):=by
 obtain⟨a,xs,rfl,g,rs⟩:=eL t r e;exact .lst ⟨trivial,g⟩ rs.wide
section
variable {X:Cx}{cls exC:Nat->af}{E:XE}{e a b c o i value:br}{es rest:List br}{fa fb fc fo fi fv:OG D}{fl:OG (List D)}{ft ft':OG Bool}{pos p apos pos' cpos:Pos}{x m:Str}{st:cq}
noncomputable def mK (T:String) (f:OG D):OG D:=oB f fun d _ ω=>oR (pu ((HU T ω d).map D.bl) ω)
theorem JP {K:aa} (t:Stt cls K ok H ω) (r:Rep K ok H v d) (e:HU T ω d=we k):∃ d',Rep K ⟨fun _=>True,ok.al⟩ H v d'/\Gi T d'=we k:=by
 unfold HU at e;cases hs:fL ω d with
 |some ds=>rw[hs] at e;exact⟨_,uX t r hs,e⟩
 |none=>rw[hs] at e;exact⟨d,r.wide,e⟩
theorem vF (he:OE X cls E e fa) (hg:Gl X "isinstance") (hm:X.mg "isinstance"=wf) (hgT:Gl X T) (hmT:X.mg T=wf) (hv:db T=we (.type Tn)) (hn:T≠"__name__":=by decide) (hdb:(T==("__debug__":Str))=false:=by decide)
  (h1:av [e,.Name T p2] X.env=(false,eval e X.env)::av [.Name T p2] X.env:=by rfl) (h2:av [.Name T p2] X.env=(false,eval (.Name T p2) X.env)::av [] X.env:=by rfl) (hpl:(df pos (av [.Name T p2] X.env)).any (·.1)=false:=by rfl):
  OE X cls E (.Call (.Name "isinstance" p) [e,.Name T p2] [] pos) (mK Tn fa):=
 (sF Hl hg hm (by decide+kernel) (nK he (nK (IS (v:=.ty Tn) hgT hmT hv rfl hn hdb) Ag h2) h1) (by decide) (by decide) h1 hpl).imp fun σ H Q ⟨ok,ρ,ω,r,ω',P,e,q⟩=>by
  refine tO.then_ P e (fun c z=>by subst z;exact q) fun d ω1 v ok1 H1 e1 n1 P1 r1=> ?_;obtain⟨y,e3,rfl⟩:=cF e1;obtain⟨ue3,rfl⟩:=cN e3;obtain⟨k,e4,rfl⟩:=aJ ue3;obtain⟨d',rd,e5⟩:=JP P1.st r1 e4;exact⟨v,Tn,d',_,k,rfl,rd,e5,q _ ok1 H1 n1 (.bl _)⟩
noncomputable def Bt (ω:Om) (d:D):Bool:=match cellOf ω d with
 |some (.ml _)=>true
 |_=>false
theorem DC (h:Bt ω d=true):∃ n ds,d=.obj n/\ω[n]?=we (.ml ds):=by
 unfold Bt at h;split at h
 ·obtain⟨n,rfl,e⟩:=dX ‹_›;exact⟨n,_,rfl,e⟩
 ·cases h
noncomputable def kI (g:Om->D->List D->Option (D×Om)) (fo:OG D) (fl:OG (List D)):OG D:=oB fo fun d ρ ω=>if Bt ω d=true then oB fl (fun ds _ ω=>oR (g ω d ds)) ρ ω else wf
noncomputable def EV (cls:Nat->af) (K:aa) (r:V->List V->Hp->VK->Prop) (g:Om->D->List D->Option (D×Om)):Prop:=∀(ok:Okk) (H:Hp) (ω:Om) (x:V) (xs:List V) (a:D) (as:List D) (d:D) (ω':Om) (Q:VK),OkH ok H->Stt cls K ok H ω->Rep K ok H x a->Reps K ok H xs as->g ω a as=we (d,ω')->
 (∀ v ok' H',Nw cls K ok H ok' H' ω'->Rep K ok' H' v d->Q v H')->r x xs H Q
theorem On {id:String} (slot:Slot "list" m id) (hty:typeOf (.builtin id)=pure (.type "method_descriptor")) (hm:MtR X id r) (F:EV cls X.K r g) (ho:OE X cls E o fo) (ha:OA X cls E (e::es) fl)
  (hbase:hV o m X.env (eval o X.env)=eval o X.env:=by rfl)
  (hfew:((df cpos (av (e::es) X.env)).all (fun x=> !x.1)&&(jx cpos (ie [] X.env)).all (fun x=>x.1.isSome)
   &&decide ((e::es).length+([]:List ka).length+(if([]:List ka).isEmpty then 0 else 1)<30))=true:=by rfl)
  (hline:(apos.endLine==cpos.line)=true:=by rfl) (hs:av (e::es) X.env=(false,eval e X.env)::av es X.env:=by rfl) (hplain:(df cpos (av es X.env)).any (·.1)=false:=by rfl):
  OE X cls E (.Call (.Attribute o m apos) (e::es) [] cpos) (kI g fo fl):=
 (LG PySem.F.plainAttrs_list slot hty hm ho ha hbase hfew hline hs hplain).imp fun σ H Q ⟨ok,ρ,ω,r,ω',P,e,q⟩=>by
  refine tO.then_ P e (fun c z=>by subst z;exact q) fun d ω1 v ok1 H1 e1 n1 P1 r1=> ?_;obtain⟨hi,e1⟩:=cO e1;obtain⟨n,ds0,rfl,e2⟩:=DC hi;obtain⟨a,rfl,e4,xs,e5,rs⟩:=P1.st.ref r1 e2;refine⟨.inl ⟨rfl,xs,SqL.of e5⟩,?_⟩;refine tOA.then_ P1 e1 (fun c z=>by subst z;exact exR.nw q n1) fun ds ω2 us ok2 H2 e6 n2 P2 r2=> ?_;obtain⟨y,e7,rfl⟩:=cF e6;exact F ok2 H2 ω2 _ us _ ds y ω' Q P2.okh P2.st (r1.ex n2.ex) r2 e7 fun w ok3 H3 n3 r3=>q w ok3 H3 (n1.trans (n2.trans n3)) r3
noncomputable def kT (ω:Om) (d:D) (as:List D):Option (D×Om):=match d,as with
 |.obj n,[v]=>match ω[n]? with
  |some (.ml ds)=>if ds.length<sizeLine then we (.non,ω.set n (.ml (ds++[v]))) else wf
  |_=>wf
 |_,_=>wf
theorem Ed (h:kT ω d as=we (y,ω')):∃ n v ds,d=.obj n/\as=[v]/\ω[n]?=we (.ml ds)/\ds.length<sizeLine/\y=.non/\ω'=ω.set n (.ml (ds++[v])):=by
 unfold kT at h;split at h
 ·split at h
  ·obtain⟨hz,e3⟩:=bI h;cases e3;exact⟨_,_,_,rfl,rfl,‹_›,hz,rfl,rfl⟩
  ·cases h
 ·cases h
theorem Km {K:aa}:EV cls K CG kT:=fun ok H ω x xs a as d ω' Q h1 st ra rs e k=>by
 obtain⟨n,v,ds,rfl,rfl,hc,hz,rfl,rfl⟩:=Ed e;obtain⟨a1,rfl,e4,us,e5,r5⟩:=st.ref ra hc;obtain⟨w,rfl,rw'⟩:=rs.one_inv;refine⟨a1,us,w,rfl,rfl,e5,by rw[r5.length];exact hz,?_⟩;exact k _ ok _ (Nw.write (o:=.lst (us++[w])) (ob:=.ml (ds++[v])) h1 st e4 e5 fun dat=>⟨_,aP,(r5.snoc rw').mono dat⟩) .non
theorem Da (ho:OE X cls E o fo) (ha:OA X cls E [e] fl) (hbase:hV o "append" X.env (eval o X.env)=eval o X.env:=by rfl)
  (hfew:((df cpos (av [e] X.env)).all (fun x=> !x.1)&&(jx cpos (ie [] X.env)).all (fun x=>x.1.isSome)
   &&decide ([e].length+([]:List ka).length+(if([]:List ka).isEmpty then 0 else 1)<30))=true:=by rfl)
  (hline:(apos.endLine==cpos.line)=true:=by rfl) (hs:av [e] X.env=(false,eval e X.env)::av [] X.env:=by rfl) (hplain:(df cpos (av [] X.env)).any (·.1)=false:=by rfl):
  OE X cls E (.Call (.Attribute o "append" apos) [e] [] cpos) (kI kT fo fl):=On sf PySem.F.type_list_append (fun pins s σ H x xs v us Q=>vI pins s σ H x xs v us Q) Km ho ha hbase hfew hline hs hplain
end
theorem jv.get2:∀ {l:List α}{l':List β}{i:Nat}{b:β},jv F l l'->l'[i]?=we b->∃ a,l[i]?=we a/\F a b
 |_,_,_,_,.nil,e=>by simp at e
 |_,_,0,_,.cons r _,e=>by simp at e;subst e;exact⟨_,rfl,r⟩
 |_,_,i+1,b,.cons _ t,e=>by
  obtain⟨a,h1,h2⟩:=jv.get2 (i:=i) (b:=b) t (by simpa using e);exact⟨a,by simpa using h1,h2⟩
section
variable {X:Cx}{pins:List (af×Obj)}{σ:St}{H:Hp}{s:am}{d:af}{kvs:List (List Key×V)}
theorem rK (I:Inv X pins σ H s) (e:Rd H d (.dT kvs)):(d==fh)=false/\kvs.length<=sizeLine/\∃ es ep,RawD s.heap d es ep/\es.size=kvs.length/\
  ∀(i:Nat) (y:ky),es[i]?=we y->∃ p,kvs[i]?=we p/\RelV p.2 y.val/\∃ a,y.key=.ref a/\H a=we (.tup (p.1.map kV)):=by
 obtain⟨z,lo,xs,pr,o,es,ep,h1,h2,h3,h4,h5⟩:=(show ObjOk X.prog X.w H s.heap d (.dT kvs) from e.ok I.hok);have hl:es.size=kvs.length:=by
  have:=congrArg lh h4
  rw[ar,dw] at this;rw[this,<- iz pr]
 refine⟨lo,z,es,ep,⟨o,h1,h2,h3⟩,hl,fun i y hy=> ?_⟩;have hy':(xs.map (f8 (bx (aO X.prog X.w))))[i]?=we y:=by rw[<- h4,g8];exact hy
 rw[bf] at hy';obtain⟨q,q1,q2⟩:=aJ hy';obtain⟨p,p1,p2,p3,p4⟩:=jv.get2 pr q1;subst q2;exact⟨p,p1,p4,q.2.1,rfl,p3⟩
end
noncomputable def KE (v d:af):HO:=.ext fun h=>h.IsValuesView v d
section
variable {X:Cx}{cls exC:Nat->af}{E:XE}{e a b c o i value:br}{es rest:List br}{fa fb fc fo fi fv:OG D}{fl:OG (List D)}{ft ft':OG Bool}{pos p apos pos' cpos:Pos}{x m:Str}{st:cq}
theorem Dk:MtR X "dict.values" fun x xs H Q=>∃ d kvs,x=.ref d/\xs=[]/\H d=we (.dT kvs)/\∀ p,H p=wf->Q (.ref p) (upd H p (KE p d)):=by
 intro pins s σ H x xs v us Q I rx rs h;obtain⟨d,kvs,rfl,rfl,hd,q⟩:=h;cases rx;cases rs;obtain⟨lo,_,es,ep,r,_,_⟩:=rK I (.inl hd);refine Bb lo r ?_;have e1:(s.heap.push { cls:=.type "dict_values",data:=.fields #[.ref d] }).get? s.heap.objs.size=we { cls:=.type "dict_values",data:=.fields #[.ref d] }:=bz _ rfl;refine⟨.ref _,_,I.laid (t':=s.toks) (fun b u q=>ay _ q) (bc _) ?_,rfl,q _ (I.hok.fresh (bc _))⟩;exact⟨⟨_,e1,rfl,rfl⟩,⟨_,e1⟩,fun h1 h2 z k=>let ⟨o,y1,y2⟩:=z;⟨o,k o y1,y2⟩⟩
theorem An {a:af}{c:Nat} (r:Vals xs vs) (hz:xs.length<=sizeLine) (e:h.get? a=we (gw "list" vs.toArray c)):ObjOk P w H h a (.lst xs):=⟨hz,vs,c,r,e⟩
theorem Cd (hl:vs.length=xs.length) (h:∀(j:Nat) (v:ag),vs[j]?=we v->∃ x,xs[j]?=we x/\RelV x v):Vals xs vs:=by
 induction vs generalizing xs with
 |nil=>
  cases xs with
  |nil=>exact .nil
  |cons _ _=>cases hl
 |cons v vs ih=>
  cases xs with
  |nil=>cases hl
  |cons x xs=>
   obtain⟨y,e,r⟩:=h 0 v rfl;simp at e;subst e;exact .cons r (ih (by simpa using hl) fun j u hu=>by simpa using h (j+1) u (by simpa using hu))
theorem wK (hc:X.calm=true):CallR X (.builtin "sorted") (fun xs H Q=>∃ v d kvs,xs=[.ref v]/\H v=we (KE v d)/\H d=we (.dT kvs)/\kvs.length<2/\∀ l,H l=wf->Q (.ref l) (upd H l (.lst (kvs.map (·.2))))):=by
 intro pins s σ H xs us Q I r h;obtain⟨v,d,kvs,rfl,hv,hd,hl,q⟩:=h;obtain⟨u,rfl,rx⟩:=lX r;cases rx;obtain⟨lo,hz,es,ep,rd,sz,it⟩:=rK I (.inl hd);have vw:s.heap.IsValuesView v d:=(show ObjOk X.prog X.w H s.heap v (KE v d) from I.hok v _ hv).1;refine xA (qG (d:=d) (es:=es) (ep:=ep)) (I.ok.hd hc) ⟨vw,rd⟩ (by rw[sz];exact hl) fun h' tk vs a c kp na hlen hP ha=> ?_;have rv:Vals (kvs.map (·.2)) vs:=Cd (by rw[hlen,sz,ar]) fun j w hw=>by
  obtain⟨y,y1,y2⟩:=hP j w hw;obtain⟨p,p1,p2,_⟩:=it j y y1;exact⟨p.2,by rw[bf,p1];rfl,by rw[y2];exact p2⟩
 obtain⟨hn,I'⟩:=I.laidN (t':=tk) kp na (An (H:=upd H a (.lst (kvs.map (·.2)))) rv (by rw[ar];exact hz) ha);exact⟨.ref a,_,I',rfl,q a hn⟩
end
section
variable {X:Cx}{pins:List (af×Obj)}{σ:St}{H:Hp}{s:am}{d:af}{kvs:List (List Key×V)}{o:Obj}
theorem At (x:HOk P w H h) (hd:H d=we u) (h1:∀ y,u≠ .own y) (h2:∀ ys,u≠ .tup ys) (new:ObjOk P w (upd H d u') h d u'):HOk P w (upd H d u') h:=fun b v e=>by
 by_cases hb:b=d
 ·subst hb;rw[aP] at e;cases e;exact new
 ·rw[aG hb] at e;exact(x b v e).stay (fun c q _ z=>z) (fun c q=>by rw[aG (fun z=>by rw[z,hd] at q;exact h1 _ (b9 q))];exact q) fun c xs q=>by rw[aG (fun z=>by rw[z,hd] at q;exact h2 _ (b9 q))];exact q
theorem Aj (x:ObjOk P w H h b v) (hd:H d=we u) (h1:∀ y,u≠ .own y) (h2:∀ ys,u≠ .tup ys):ObjOk P w (upd H d u') h b v:=
 x.stay (fun c q _ z=>z) (fun c q=>by rw[aG (fun z=>by rw[z,hd] at q;exact h1 _ (b9 q))];exact q) fun c xs q=>by rw[aG (fun z=>by rw[z,hd] at q;exact h2 _ (b9 q))];exact q
theorem _root_.L2.Inv.frozen (I:Inv X pins σ H s) (hd:H d=we (.dT kvs)) (ho:s.heap.get? d=we o):Inv X pins σ (upd H d (.frz o (.dT kvs))) s:=by
 have nn:∀ b,H b=wf->upd H d (.frz o (.dT kvs)) b=wf:=fun b e=>by rw[aG (fun z=>by rw[z,hd] at e;cases e)];exact e
 refine⟨I.ok,I.os,I.bare,⟨I.base.keep,I.base.slot,fun b u e n x=>nn b (I.base.free b u e n x),I.base.there,fun b xs e=> ?_,fun b u v e=> ?_,fun b ps e=> ?_⟩,I.loc,I.cell,nn _ I.free,fun x c e=>nn _ (I.freeC x c e),fun p hp=> ?_,At I.hok hd (fun _ z=>nomatch z) (fun _ z=>nomatch z) ⟨ho,Aj (I.hok d _ hd) hd (fun _ z=>nomatch z) (fun _ z=>nomatch z)⟩,I.len⟩
 ·have z:=I.base.tups b xs e;rw[aG (fun q=>by rw[q,hd] at z;cases z)];exact z
 ·have z:=I.base.frzs b u v e;rw[aG (fun q=>by rw[q,hd] at z;cases z)];exact z
 ·obtain⟨m,z⟩:=I.base.tbls b ps e;exact⟨m,by rw[aG (fun q=>by rw[q,hd] at z;cases z)];exact z⟩
 ·obtain⟨z1,z2,z3⟩:=I.pin p hp;exact⟨z1,nn _ z2,z3⟩
theorem _root_.L2.Inv.thawed (I:Inv X pins σ H s) (hd:H d=we (.frz o (.dT kvs))) (hn:∀ o u,X.H₀ d≠we (.frz o u)):Inv X pins σ (upd H d (.dT kvs)) s:=by
 have nn:∀ b,H b=wf->upd H d (.dT kvs) b=wf:=fun b e=>by rw[aG (fun z=>by rw[z,hd] at e;cases e)];exact e
 refine⟨I.ok,I.os,I.bare,⟨I.base.keep,I.base.slot,fun b u e n x=>nn b (I.base.free b u e n x),I.base.there,fun b xs e=> ?_,fun b u v e=> ?_,fun b ps e=> ?_⟩,I.loc,I.cell,nn _ I.free,fun x c e=>nn _ (I.freeC x c e),fun p hp=> ?_,At I.hok hd (fun _ z=>nomatch z) (fun _ z=>nomatch z) (Aj (show ObjOk X.prog X.w H s.heap d (.dT kvs) from(I.hok d _ hd).2) hd (fun _ z=>nomatch z) (fun _ z=>nomatch z)),I.len⟩
 ·have z:=I.base.tups b xs e;rw[aG (fun q=>by rw[q,hd] at z;cases z)];exact z
 ·have z:=I.base.frzs b u v e;rw[aG (fun q=>hn u v (by rw[<- q];exact e))];exact z
 ·obtain⟨m,z⟩:=I.base.tbls b ps e;exact⟨m,by rw[aG (fun q=>by rw[q,hd] at z;cases z)];exact z⟩
 ·obtain⟨z1,z2,z3⟩:=I.pin p hp;exact⟨z1,nn _ z2,z3⟩
end
noncomputable def Itk (d:af) (o:Obj) (kvs:List (List Key×V)):It:=
 ⟨fun i H=>H d=we (.frz o (.dT kvs))/\i<kvs.length,fun i H x H'=>H'=H/\∃ b p,x=.ref b/\kvs[i]?=we p/\H b=we (.tup (p.1.map kV)),fun i H=>H d=we (.frz o (.dT kvs))/\kvs.length<=i⟩
theorem Ci {K:aa} (d it:af) (o:Obj) (kvs:List (List Key×V)) (es:Array ky) (ep:Nat) (hod:o.data=.dict es ep) (hsz:es.size=kvs.length):KB P w K tg (Itk d o kvs) [it] it (fun i h=>h.IsKeyIter it d i es.size ep) where
 mem:=by simp
 obj:=fun i h st b hb=>by
  have e:b=it:=by simpa using hb
  subst e;obtain⟨o,e,c,d⟩:=st;exact⟨o,e,fun v z=>by rw[d] at z;cases z⟩
 keep:=fun i h h' st k=>let ⟨o,e,z⟩:=st;⟨o,k it (by simp) o e,z⟩
 item:=by
  intro X hP hw hK hc i pins s σ H E I hf st hg;subst hP hw hK;obtain⟨hd,hi⟩:=hg;obtain⟨f0,f1,f2,f3,f4,f5⟩:=hf it (by simp);obtain⟨lo,_,es',ep',⟨o',r1,r2,r3⟩,sz,its⟩:=rK I (.inr ⟨o,hd⟩);have ho:s.heap.get? d=we o:=(I.hok d _ hd).1;rw[ho] at r1;cases r1;rw[hod] at r3;cases r3;have hi':i<es.size:=by rw[hsz];exact hi
  obtain⟨p,p1,_,a,p2,p3⟩:=its i es[i] (by simp[hi']);refine CB (e:=es[i]) st ⟨o,ho,r2,hod⟩ (by simp[hi']) fun h' st' sb=> ?_;have I1:Inv X pins σ H { s with heap:=h' }:=I.turned (t':=s.toks) (fun b o hb e=>(sb.2 b hb).trans e) f0 f1 f3 f4 f5;obtain⟨oi,e1,c1,d1⟩:=id st';exact⟨_,rfl,Gu (s:={ s with heap:=h' }) e1 c1 d1 (by decide) ⟨.ref a,H,I1,p2,⟨rfl,a,p,rfl,p1,p3⟩,st',fun b hb=>(hf b hb).1⟩⟩
 done:=by
  intro X hP hw hK hc i pins s σ H E I hf st hg;subst hP hw hK;obtain⟨hd,hi⟩:=hg;obtain⟨f0,f1,f2,f3,f4,f5⟩:=hf it (by simp);obtain⟨lo,_,es',ep',⟨o',r1,r2,r3⟩,sz,its⟩:=rK I (.inr ⟨o,hd⟩);have ho:s.heap.get? d=we o:=(I.hok d _ hd).1;rw[ho] at r1;cases r1;exact Fp (I.ok.hd hc) st ⟨o,ho,r2,hod⟩ (by rw[hsz];exact hi) fun h' eb=>⟨rfl,I.turned (t':=s.toks) (fun b o hb e=>eb b o hb e) f0 f1 f3 f4 f5⟩
 self:=fun _ _ _ _ _ st h=>wpAny_pyIter_keyiter st h
noncomputable def MM (H₀:Hp) (to:TE):TI:=fun σ H R=>to σ H fun x H1=>∃ d kvs,x=.ref d/\H1 d=we (.dT kvs)/\∀ o,(∀ o' u,H₀ d≠we (.frz o' u))->R (Itk d o kvs) (upd H1 d (.frz o (.dT kvs)))
section
variable {X:Cx}{cls exC:Nat->af}{E:XE}{e a b c o i value tg iter:br}{es rest:List br}{fa fb fc fo fi fv:OG D}{fl:OG (List D)}{ft ft':OG Bool}{pos p apos pos' cpos:Pos}{x m:Str}{st:cq}{body:List cq}{F:OS}
theorem II (ho:PE X iter to):PI X tg iter (MM X.H₀ to):=by
 intro pins s σ H R I h;refine thn (ho pins s σ H _ I h) fun v s1 ⟨x,H1,I1,rx,d,kvs,ex,hd,q⟩=> ?_;subst ex;cases rx;obtain⟨lo,_,es,ep,⟨o,r1,r2,r3⟩,sz,its⟩:=rK I1 (.inl hd);have nf:∀ o' u,X.H₀ d≠we (.frz o' u):=fun o' u z=>by
  have:=I1.base.frzs d o' u z
  rw[hd] at this;cases this
 have I2:=I1.frozen hd r1;refine CD lo ⟨o,r1,r2,r3⟩ ?_;have nd:d≠s1.heap.objs.size:=ci (bi r1);have hn:upd H1 d (.frz o (.dT kvs)) s1.heap.objs.size=wf:=by rw[aG (bt nd)];exact I1.hok.fresh (bc _)
 refine⟨s1.heap.objs.size,[s1.heap.objs.size],_,Itk d o kvs,_,rfl,I2.kept (t':=s1.toks) (fun b u e=>ay _ e),Ci d _ o kvs es ep r3 sz,⟨_,bz _ rfl,rfl,rfl⟩,fun b hb=> ?_,q o nf⟩;have e:b=s1.heap.objs.size:=by simpa using hb
 subst e;exact(I1.fpOk (bc _) hn)
noncomputable def Kt (H₀:Hp) (D:AR):AR:={ nx:=fun σ H=>∃ d o kvs,H d=we (.frz o (.dT kvs))/\(∀ o' u,H₀ d≠we (.frz o' u))/\D.nx σ (upd H d (.dT kvs)),rt:=fun _ _=>False }
theorem IA (hp:PassesOwn (model X.prog X.w) X.A X.env X.xe) (hc:X.calm=true) (ho:PE X iter to) (hg:PG X tg g) (hb:PSs X body tb) (hs:∀ x,f9 iter X.env x=pure x:=by intro _;rfl):
  PS X (.For tg iter body [] pos) (fun D σ H=>NH (MM X.H₀ to) g tb (Kt X.H₀ D) σ H):=fun pins s σ H D I h=>by
 refine thn (HC (pos:=pos) hp hc (II ho) hg hb hs pins s σ H (Kt X.H₀ D) I h) fun f s' z=> ?_;cases f with
 |next=>
  obtain⟨σ',H',I',d,o,kvs,h1,h2,h3⟩:=z;exact⟨σ',_,I'.thawed h1 h2,h3⟩
 |brk=>obtain⟨_,_,_,q⟩:=z;exact q.elim
 |cont=>obtain⟨_,_,_,q⟩:=z;exact q.elim
 |ret u=>obtain⟨_,_,_,_,_,q⟩:=z;exact q.elim
noncomputable def bQ (k:List Key):D:=.tup (k.map ofK)
noncomputable def qJ:List (List Key×D)->List (List Key×D)->Bool
 |[],[]=>true
 |a::as,b::bs=>decide (a.1=b.1)&&eY a.2 b.2&&qJ as bs
 |_,_=>false
theorem uY:∀ {a b:List (List Key×D)},qJ a b=true->a=b
 |[],[],_=>rfl
 |[],_::_,h=>nomatch h
 |_::_,[],h=>nomatch h
 |a::as,b::bs,h=>by
  simp only[qJ,bq,decide_eq_true_eq] at h;rw[uY h.2,show a=b from Prod.ext h.1.1 (zZ _ _ h.1.2)]
noncomputable def vP (n:Nat) (kvs:List (List Key×D)) (ω:Om):Bool:=match ω[n]? with
 |some (.dz k)=>qJ k kvs
 |_=>false
theorem Gm (h:vP n kvs ω=true):ω[n]?=we (.dz kvs):=by
 unfold vP at h;split at h
 ·rename_i k e
  rw[uY h] at e;exact e
 ·cases h
noncomputable def BF (ω:Om) (d:D):Option (Nat×List (List Key×D)):=match d with
 |.obj n=>match ω[n]? with
  |some (.dt kvs)=>we (n,kvs)
  |_=>wf
 |_=>wf
theorem Eb (h:BF ω d=we (n,kvs)):d=.obj n/\ω[n]?=we (.dt kvs):=by
 unfold BF at h;split at h
 ·split at h
  ·cases h;exact⟨rfl,‹_›⟩
  ·cases h
 ·cases h
noncomputable def Ip (fo:OG D) (bd:BR) (F:OS):OS:=oX fo fun d ρ ω=>(BF ω d).bind fun p=>match bZ bd (vP p.1 p.2) F (p.2.map fun kv=>bQ kv.1) ρ (ω.set p.1 (.dz p.2)) with
 |some (.nx ρ',ω')=>if vP p.1 p.2 ω'=true then we (.nx ρ',ω'.set p.1 (.dt p.2)) else wf
 |_=>wf
theorem MJ {K:aa} (k:Key):Rep K ok H (kV k) (ofK k):=by
 cases k with
 |inl i=>exact .int i
 |inr x=>exact .str x
theorem Dv {K:aa}:∀ ks:List Key,Reps K ok H (ks.map kV) (ks.map ofK)
 |[]=>.nil
 |k::ks=>.cons (MJ k) (Dv ks)
end
section
variable {X:Cx}{cls exC:Nat->af}{E:XE}{e a b c o i value tg iter:br}{es rest:List br}{fa fb fc fo fi fv:OG D}{fl:OG (List D)}{ft ft':OG Bool}{pos p apos pos' cpos:Pos}{x m:Str}{st:cq}{body:List cq}{F:OS}
noncomputable def Ff (bd:BR) (f:OG D):OS:=oX f fun d ρ ω=>(bd d ρ).map fun ρ'=>(.nx ρ',ω)
theorem Jd (he:OE X cls E e fa) (hg:PG X tg (gR X.K bd)) (hs:tq [tg] e pos.line X.env=pure false:=by rfl) (hw:tu [tg] e X.env=pure wf:=by rfl)
  (h1:(k6 [tg] X.env).map (·.2)=[assign tg X.env]:=by rfl):OSt X cls E (.Assign [tg] e pos) (Ff bd fa):=(HD he hg hs hw h1).imp fun D σ H ⟨ok,ρ,ω,oo,ω',P,e,q⟩=>by
 refine tO.thenS P e q fun d ω1 v ok1 H1 e1 n1 P1 r1 q1=> ?_;obtain⟨ρ',e2,e3⟩:=aJ e1;cases e3;exact⟨ok1,ρ,ρ',d,P1.env,P1.len,r1,e2,fun σ' env len=>q1 ok1 H1 σ' (.refl P1.okh P1.st) env len⟩
noncomputable def oIA (g:List D->Option (List D)) (f:OG (List D)):OI':=oB f fun ds _ ω=>oR (pu ((g ds).map fun xs=>(xs,cM)) ω)
theorem CU (hg:Gl X "range") (hm:X.mg "range"=wf) (ha:OA X cls E [a] fl) (hs:av [a] X.env=[(false,eval a X.env)]:=by rfl):OI X cls E tg (.Call (.Name "range" p) [a] [] pos) (oIA jA fl):=
 PI.imp (CL hg hm ha hs) fun σ H R ⟨ok,ρ,ω,r,ω',P,e,q⟩=>by
  refine tOA.then_ P e (fun c z=>by subst z;exact q) fun ds ω1 vs ok1 H1 e1 n1 P1 r1=> ?_;obtain⟨⟨dz,chk⟩,e3,rfl⟩:=cF e1;obtain⟨ue3,rfl⟩:=cN e3;obtain⟨xs,e4,e5⟩:=aJ ue3;cases e5;unfold jA at e4;split at e4
  ·obtain⟨⟨hl,hh⟩,rfl⟩:=bI e4;obtain⟨v,rfl,rv⟩:=r1.one_inv;obtain rfl:=rv.int_inv;exact⟨_,rfl,by omega,by omega,q _ ok1 H1 n1 itD_range.toO⟩
  ·cases e4
end
noncomputable def iN (K:aa) (ns:List Str) (n:Nat):af:=match ck K b8 (ns.getD n "") with
 |some (we (.ref a))=>a
 |_=>0
theorem mU {K:aa} (hx:ns.getD n ""=x) (h:ck K b8 x=we (we (.ref a))):iN K ns n=a:=by
 unfold iN;rw[hx,h]
structure mW (P:da) (w:dc) (K:aa) (mg:Str->Option ag) (base:cy) (cls exC:Nat->af) (k:Nat) (x:Str) (ps:List Str) (φ:eJ):Prop where
 ex:∃ f fd,qB P w K mg base (CX1 P w exC) k f fd ps (spO cls exC K φ)/\mg x=we (.ref f)/\gk K (.ref f)=true/\Binds K fd ps []
structure rT (P:da) (w:dc) (K:aa) (mg:Str->Option ag) (base:cy) (cls exC:Nat->af) (k c:Nat) (m:Str) (ps:List Str) (φ:eJ):Prop where
 ex:∃ f fd,qB P w K mg base (CX1 P w exC) k f fd ps (spO cls exC K φ)/\Hv K (cls c) m f/\Binds K fd ps []
 cl:Cls K (cls c)
structure Nx (P:da) (w:dc) (K:aa) (mg:Str->Option ag) (base:cy) (cls exC:Nat->af) (k c:Nat) (x:Str) (ps:List Str) (φ:eJ):Prop where
 ex:∃ f fd,qB P w K mg base (CX1 P w exC) k f fd ps (spO cls exC K φ)/\Mk K (cls c) f/\Binds K fd ps []
 at_:mg x=we (.ref (cls c))
section
variable {X:Cx}{cls exC:Nat->af}{E:XE}{e a b c o i value:br}{es:List br}{fa fb fo fi fv:OG D}{fl:OG (List D)}{pos p apos pos':Pos}{x m:Str}{cn k:Nat}{ps:List Str}{φ:eJ}
theorem FQ (F:mW X.prog X.w X.K X.mg X.base cls exC k x ps φ) (hr:Room k X.A) (hg:Gl X x) (hx:Pas X exC E) (ha:OA X cls E (e::es) fl) (hdb:(x==("__debug__":Str))=false:=by decide)
  (he:av (e::es) X.env=(false,eval e X.env)::av es X.env:=by rfl) (hpl:(df pos (av es X.env)).any (·.1)=false:=by rfl):OE X cls E (.Call (.Name x p) (e::es) [] pos) (bK φ fl):=by
 obtain⟨f,fd,h1,h2,h3,h4⟩:=F.ex;exact JC h1 hr hg h2 h3 h4 hx ha hdb he hpl
theorem Jv (F:rT X.prog X.w X.K X.mg X.base cls exC k cn m ps φ) (hr:Room k X.A) (hx:Pas X exC E) (ho:OE X cls E o fo) (ha:OA X cls E (e::es) fl)
  (hst:av (e::es) X.env=(false,eval e X.env)::av es X.env:=by rfl) (hpl:(df pos (av es X.env)).any (·.1)=false:=by rfl)
  (ht:eval (.Call (.Attribute o m apos) (e::es) [] pos) X.env=(do
   let ov <- eval o X.env
   mj apos.atName
   let (f,first) <- holding [ov] (l0 ov m pl)
   qf pos f first (df pos (av (e::es) X.env)) (jx pos (ie [] X.env))):=by rfl):
  OE X cls E (.Call (.Attribute o m apos) (e::es) [] pos) (bL cn m φ fo fl):=by
 obtain⟨f,fd,h1,h2,h4⟩:=F.ex;exact Ju (pl:=pl) ho F.cl h2 h1 hr h4 hx ha hst hpl ht
theorem FO (F:rT X.prog X.w X.K X.mg X.base cls exC k cn m ps φ) (hr:Room k X.A) (hx:Pas X exC E) (ho:OE X cls E o fo)
  (ht:eval (.Call (.Attribute o m apos) [] [] pos) X.env=(do
   let ov <- eval o X.env
   mj apos.atName
   let (f,first) <- holding [ov] (l0 ov m pl)
   qf pos f first (df pos (av [] X.env)) (jx pos (ie [] X.env))):=by rfl):
  OE X cls E (.Call (.Attribute o m apos) [] [] pos) (bL cn m φ fo aQ):=by
 obtain⟨f,fd,h1,h2,h4⟩:=F.ex;exact FN (pl:=pl) ho F.cl h2 h1 hr h4 hx ht
theorem Jx (F:Nx X.prog X.w X.K X.mg X.base cls exC k cn x ps φ) (hr:Room (k+1) X.A) (hg:Gl X x) (hx:Pas X exC E) (ha:OA X cls E (e::es) fl) (hdb:(x==("__debug__":Str))=false:=by decide)
  (he:av (e::es) X.env=(false,eval e X.env)::av es X.env:=by rfl) (hpl:(df pos (av es X.env)).any (·.1)=false:=by rfl):OE X cls E (.Call (.Name x p) (e::es) [] pos) (sL cn φ fl):=by
 obtain⟨f,fd,h1,h2,h3⟩:=F.ex;exact Jw h2 h1 hr hg F.at_ h3 hx ha hdb he hpl
end
theorem JL {K:aa}{ns:List Int} (h:φ [.scr (ns.map D.int)] []=we (.ok (.bl true),ω')) (hS:SqL K H a (ns.map V.int)):spO cls exC K φ [.ref a] H (fun v _=>v=.bl true) fun _ _ _=>False:=by
 refine⟨Okk.all,[],[.scr (ns.map D.int)],.ok (.bl true),ω',⟨fun _ _=>trivial,fun _ _ _=>trivial⟩,⟨fun n ob e=>by simp at e,(fun _ _ e=>nomatch e),(fun _ _ _ e=>nomatch e),(fun _ _ e=>nomatch e)⟩,.cons (.scr ?_ (Reps.ints ns)) .nil,h,fun v ok' H' _ r=>r.bl_inv⟩;rcases hS with h|h
 ·exact .inl ⟨trivial,h⟩
 ·exact .inr h
theorem law_walkO {l:vf}{K:Params->aa} (hn:l.most=we 63) (hdf:d.params.defaults=[]) (hr:Room k o8)
  (hY:∀(w:dc) (h:cy),YP w h->(K w.params).In h) (hφ:∀ ns:List Int,ns.length<=63->∃ ω',φ [.scr (ns.map D.int)] []=we (.ok (.bl true),ω'))
  (F:∀(w:dc) (mg:Str->Option ag) (fa:af) (h:cy),(K w.params).In h->h.Ns b8 mg->mg d.name=we (.ref fa)->
   ∃ fd:ji,(∀(s:am) (u:ag),r9 s fd ⟨[u],[]⟩ [(x,u)])/\∀ base:cy,(K w.params).In base->base.Ns b8 mg->qB l.prog w (K w.params) mg base (CX1 l.prog w (iN (K w.params) es)) k fa fd [x] (spO (iN (K w.params) cs) (iN (K w.params) es) (K w.params) φ)):
  vz q loose XP YP l.row.toRowW d [] (fun f vs=>ve f vs):=
 L2.walk_of (n:=63) (k:=k) (x:=x) (CX:=fun w=>CX1 l.prog w (iN (K w.params) es)) (sp:=fun w=>spO (iN (K w.params) cs) (iN (K w.params) es) (K w.params) φ) hn (by decide) hdf hr hY F (fun _ _ a ns hl _ hS=>let ⟨_,h⟩:=hφ ns hl;JL h hS) fun _ _ _ _ _ ⟨_,_,_,_,_,_,_,_,_,_,z⟩=>z
section
variable {α β:Type}{f h:OG D}{fl:OG (List D)}{ρ:Rho}{ω ω1 ω2 ω3:Om}{a b d:D}{ds:List D}{F G:OS}
theorem bH {f:OG α}{g:α->OG β} (e:f ρ ω=we (.ok x,ω1)):oB f g ρ ω=g x ρ ω1:=by unfold oB;rw[e]
theorem cJ {f:OG α} (e:f ρ ω=we (.ok x,ω1)):oX f g ρ ω=g x ρ ω1:=by unfold oX;rw[e]
theorem Os {f:DF} (e:f ρ=we d):oP f ρ ω=we (.ok d,ω):=by unfold oP;rw[e];rfl
theorem aB (e:ρ[i]?=we (we d)):oP (aD i) ρ ω=we (.ok d,ω):=Os (by unfold aD;rw[e];rfl)
theorem aR:oP (dC d) ρ ω=we (.ok d,ω):=rfl
theorem eP (e1:f ρ ω=we (.ok a,ω1)) (e2:h ρ ω1=we (.ok b,ω2)) (e3:g ω2 a b=we (d,ω3)):o2 g f h ρ ω=we (.ok d,ω3):=by
 unfold o2;rw[bH e1,bH e2];show oR (g ω2 a b)=_;rw[e3];rfl
theorem fD (e1:f ρ ω=we (.ok a,ω1)) (e2:h ρ ω1=we (.ok b,ω2)) (e3:g a b=we d):o2 (lf g) f h ρ ω=we (.ok d,ω2):=eP e1 e2 (by show pu (g a b) ω2=_;rw[e3];rfl)
theorem aE:aQ ρ ω=we (.ok [],ω):=rfl
theorem aA (e1:f ρ ω=we (.ok a,ω1)) (e2:fl ρ ω1=we (.ok ds,ω2)):aC f fl ρ ω=we (.ok (a::ds),ω2):=by
 unfold aC;rw[bH e1,bH e2]
theorem dF (e1:fl ρ ω=we (.ok ds,ω1)) (e2:g ω1 ds=we (d,ω2)):oL g fl ρ ω=we (.ok d,ω2):=by
 unfold oL;rw[bH e1];show oR (g ω1 ds)=_;rw[e2];rfl
theorem aW (e1:fl ρ ω=we (.ok ds,ω1)) (e2:φ ds ω1=we (r,ω2)):bK φ fl ρ ω=we (r,ω2):=by
 unfold bK;rw[bH e1];exact e2
theorem aM (e:f ρ ω=we (.ok d,ω1)):aI (aV i f) G ρ ω=G (ρ.set i (we d)) ω1:=by
 unfold aI aV;rw[cJ e]
theorem bB (e:F ρ ω=we (.nx ρ1,ω1)):aI F G ρ ω=G ρ1 ω1:=by
 unfold aI;rw[e]
theorem cE (e:f ρ ω=we (.ok (.bl k),ω1)):cC f ρ ω=we (.ok k,ω1):=by
 unfold cC;rw[bH e];rfl
theorem jM (e:t ρ ω=we (.ok true,ω1)):dR t F G ρ ω=F ρ ω1:=by unfold dR;rw[cJ e];rfl
theorem lF (e:t ρ ω=we (.ok false,ω1)):dR t F G ρ ω=G ρ ω1:=by unfold dR;rw[cJ e];rfl
theorem bD (e:f ρ ω=we (.ok d,ω1)):aX f ρ ω=we (.rt d,ω1):=by unfold aX;rw[cJ e]
theorem aT (hl:ds.length=n) (e:G (bV N ds) ω=we (.rt d,ω1)):dY n N G ds ω=we (.ok d,ω1):=by
 unfold dY;rw[if_pos hl,e]
theorem MP (h: -1000000000000000000<j/\j<1000000000000000000):gT (.int i) (.int j)=we (.int (i*j)):=by
 show(if _ then _ else _)=_
 rw[if_pos (.inr h)]
theorem MQ (h:0<j):cR (.int i) (.int j)=we (.int (i % j)):=by
 show(if _ then _ else _)=_
 rw[if_pos h]
end
section
variable {X:Cx}{cls exC:Nat->af}{E:XE}{e a b c o i value tg iter:br}{es rest:List br}{fa fb fc fo fi fv:OG D}{fl:OG (List D)}{ft ft':OG Bool}{pos p apos pos' cpos:Pos}{x m:Str}{st:cq}{body:List cq}{F:OS}
theorem Nw.freeze {K:aa}{a:af} (P:OkH ok H) (st:Stt cls K ok H ω) (e:ok.al n=we a) (h:H a=we (.dT vs)) (kv:KvR K ok H vs kvs):
  Nw cls K ok H ok (upd H a (.frz oo (.dT vs))) (ω.set n (.dz kvs)):=Nw.write P st e h fun dat=>⟨oo,vs,aP,kv.mono dat fun _ _ z=>z⟩
theorem Ov {K:aa}{a:af} (e:ok1.al n=we a) (h:H1 a=we (.frz oo (.dT vs))) (kv:KvR K ok1 H1 vs kvs):
  ItO cls K ok1 H1 (vP n kvs) (Itk a oo vs) (kvs.map fun kv=>bQ kv.1):=by
 refine⟨fun i ok H ω nw _ hi=>⟨nw.ex.frz _ _ _ h,by rw[kv.length];simpa using hi⟩,fun i ok H ω x H' d nw _ y hd=> ?_,fun i ok H ω nw _ hi=>⟨nw.ex.frz _ _ _ h,by rw[kv.length];simpa using hi⟩⟩;obtain⟨rfl,b,p,rfl,hp,ht⟩:=y;refine⟨Same.refl _,?_⟩;have hk:=kv.keys;have e1:(vs.map (·.1))[i]?=we p.1:=by rw[bf,hp];rfl
 rw[hk,bf] at e1;obtain⟨q,e2,e3⟩:=aJ e1;rw[bf,e2] at hd;cases hd;show Rep K ok _ _ (bQ q.1);rw[e3];exact .tup ⟨nw.okh.tp b _ ht,ht⟩ (Dv p.1)
theorem Nw.thaw {K:aa}{a:af} (st1:Stt cls K ok1 H1 ω1) (e:ok1.al n=we a) (h:H1 a=we (.dT vs)) (nw:Nw cls K ok1 (upd H1 a (.frz oo (.dT vs))) ok H ω) (hc:ω[n]?=we (.dz kvs)):
  ∃ ws,H a=we (.frz oo (.dT ws))/\ws=vs/\Nw cls K ok1 H1 ok (upd H a (.dT vs)) (ω.set n (.dt kvs)):=by
 have hf:H a=we (.frz oo (.dT vs)):=nw.ex.frz _ _ _ aP;have ea:=nw.ex.ids n a e;obtain⟨b,e1,o',vs',e2,kv⟩:=nw.st.cell n _ hc;rw[ea] at e1;cases e1;rw[hf] at e2;cases e2;have na:¬ ok1.p a:=st1.nok n a e;have na':¬ ok.p a:=nw.st.nok n a ea;have dat:∀ b o,ok.p b->H b=we o->ok.p b/\upd H a (.dT vs) b=we o:=fun b o k z=>⟨k,by rw[aG (show b≠a from fun w=>na' (w ▸ k))];exact z⟩;refine⟨vs,hf,rfl,⟨⟨fun b o k z=> ?_,nw.ex.ids,fun b o z w=> ?_,fun m b z=> ?_,fun b z=> ?_,fun b k=> ?_,fun b x u z=> ?_⟩,⟨fun b z=> ?_,fun b xs z=> ?_⟩,fun m ob z=> ?_,fun m b z=>by rw[cg];exact nw.st.dom m b z,nw.st.inj,nw.st.nok⟩⟩
 ·have hb:b≠a:=fun w=>na (w ▸ k)
  have:=nw.ex.dat b o k (by rw[aG hb];exact z)
  exact⟨this.1,by rw[aG hb];exact this.2⟩
 ·have hb:b≠a:=fun q=>w n (q ▸ e);rw[aG hb];exact nw.ex.frm b o (by rw[aG hb];exact z) w
 ·rcases nw.ex.new m b z with w|w
  ·exact .inl w
  ·by_cases hb:b=a
   ·rw[hb,aP] at w;cases w
   ·rw[aG hb] at w;exact .inr w
 ·by_cases hb:b=a
  ·rw[hb,aP] at z;cases z
  ·rw[aG hb] at z
   have:=nw.ex.keep b z
   rw[aG hb] at this;exact this
 ·rcases nw.ex.sub b k with w|w
  ·exact .inl w
  ·by_cases hb:b=a
   ·rw[hb,aP] at w;cases w
   ·rw[aG hb] at w;exact .inr w
 ·have hb:b≠a:=fun w=>by rw[w,h] at z;cases z
  rw[aG hb];exact nw.ex.frz b x u (by rw[aG hb];exact z)
 ·by_cases hb:b=a
  ·rw[hb,aP] at z;cases z
  ·rw[aG hb] at z;exact nw.okh b z
 ·by_cases hb:b=a
  ·rw[hb,aP] at z;cases z
  ·rw[aG hb] at z;exact nw.okh.tp b xs z
 ·rcases qI z with⟨rfl,rfl⟩|⟨hm,z⟩
  ·exact⟨a,ea,vs,aP,kv.mono dat fun _ _ z=>z⟩
  ·obtain⟨b,e1,c1⟩:=nw.st.cell m ob z;refine⟨b,e1,c1.mono dat (fun _ _ z=>z) fun u q=> ?_⟩;rw[aG (show b≠a from fun w=>hm (nw.st.inj m n a (w ▸ e1) ea))];exact q
theorem IY (hc:X.calm=true) (ho:OE X.nox cls EF iter fo) (hg:PG X.nox tg (gR X.K bd)) (hb:OSs X.nox cls EF body F) (hs:∀ x,f9 iter X.env x=pure x:=by intro _;rfl):
  OSt X cls E (.For tg iter body [] pos) (sNx (Ip fo bd F)):=HL ((IA (X:=X.nox) vh hc ho hg hb hs).imp fun D σ H ⟨ok,ρ,ω,oo,ω',P,e,q⟩=>by
 refine tO.thenS P e q fun d ω1 v ok1 H1 e1 n1 P1 r1 q1=> ?_;obtain⟨⟨n,kvs⟩,hd,e2⟩:=bind_some e1;obtain⟨rfl,e3⟩:=Eb hd;obtain⟨a,rfl,e4,vs,e5,kv⟩:=P1.st.ref r1 e3;refine⟨a,vs,rfl,e5,fun o nf=> ?_⟩;have nf1:Nw cls X.K ok1 H1 ok1 (upd H1 a (.frz o (.dT vs))) (ω1.set n (.dz kvs)):=.freeze P1.okh P1.st e4 e5 kv;dsimp only at e2;split at e2
 ·rename_i ρ' ω2 hF
  obtain⟨hz,e6⟩:=bI e2;cases e6;refine AB (D:=Kt X.H₀ D) (Ov e4 aP (kv.mono nf1.ex.dat nf1.ex.ids)) (P1.nw nf1) hF fun ok2 H2 σ2 nw2 env2 len2=> ?_;obtain⟨ws,w1,rfl,nw3⟩:=Nw.thaw P1.st e4 e5 nw2 (Gm hz);refine⟨a,o,ws,w1,nf,q1 ok2 _ σ2 nw3 ?_ len2⟩;intro j dj ej;obtain⟨u,z1,z2⟩:=env2 j dj ej;refine⟨u,z1,z2.mono (fun b u' k z=>⟨k,?_⟩) fun _ _ z=>z⟩;rw[aG (show b≠a from fun w=>nw2.st.nok n a (nw2.ex.ids n a e4) (w ▸ k))];exact z
 ·cases e2)
end
end L2.MB
end
section
namespace L2.MB
open PySem PySem.Spec PyProof.Rows PySem.Builtin
theorem nodup_ix {xs:List (α×β)} (h:(xs.map (·.1)).Nodup) {i j:Nat} (h1:xs[i]?=we (k,p)) (h2:xs[j]?=we (k,q)):i=j:=by
 have a1:(xs.map (·.1))[i]?=we k:=by rw[bf,h1];rfl
 have a2:(xs.map (·.1))[j]?=we k:=by rw[bf,h2];rfl
 exact(List.getElem?_inj (bh.mp a1).1 h).mp (a1.trans a2.symm)
theorem CJ (d b:af):MeetsIn P w («dict.pop» { pos:=[.ref d,.ref b] }) fun A R s=>
  A.units+1<dq/\∃(xs:List (List Key×af×ag)) (j:Nat) (p:af×ag),ii (bx (aO P w)) s.heap d xs/\xs.length<=sizeLine/\(bx (aO P w)).is s.heap k b/\xs[j]?=we (k,p)/\
   ∀ h' t,ii (bx (aO P w)) h' d (xs.eraseIdx j)->fm d s.heap h'->R (.ok (.ret p.2)) { s with heap:=h',toks:=t }:=by
 rintro A R s ⟨hu,xs,j,p,dd,hz,hk,hj,hR⟩;obtain⟨o,es,ep,h1,h2,h3,h4,h5,h6⟩:=dd;obtain⟨oc,od,odt,osl⟩:=o;obtain⟨q1,q2,q3⟩:=h2;dsimp only at q1 q2 q3 h3;subst q1 q2 q3 h3;have hne:es.isEmpty=false:=by
  have:es.toList≠[]:=by
   rw[h4];intro z;rw[List.map_eq_nil_iff] at z;rw[z] at hj;simp at hj
  cases q:es.isEmpty with
  |false=>rfl
  |true=>rw[mr] at q;rw[q] at this;exact absurd rfl this
 have hr:(bx (aO P w)).room A.in1:=ki hu;have hes:es[j]?=we (f8 (bx (aO P w)) (k,p)):=by
  rw[<- g8,h4,bf,hj];rfl
 unfold «dict.pop» Dict.keyAndDefault
 repeat (first|with_reducible refine HeapKind.pyHash (bx (aO P w)) hr hk ?_|(with_reducible refine t8 hr hk h1 rfl h4 h5 h6 (fun z=>absurd hj (z j p)) fun i q hi=> ?_)|wp_step)
 obtain rfl:=nodup_ix h6 hj hi;rw[hes]
 repeat (first|(with_reducible refine tf h1 rfl ?_ ?_ ?_)|wp_step)
 ·have sb:fm d s.heap (s.heap.update d (qx fun x=>x.eraseIdxIfInBounds j)):=⟨ni _ _ _,fun b hb=>d8 _ _ (bt hb)⟩;refine hR _ _ ⟨_,es.eraseIdxIfInBounds j,ep+1,gn _ h1 ?_,⟨rfl,rfl,rfl⟩,rfl,?_,fun x hx=>(bx (aO P w)).keeps (h5 x (List.mem_of_mem_eraseIdx hx)) h1 rfl sb,?_⟩ sb
  ·rfl
  ·have em:∀(l:List (List Key×af×ag)) (n:Nat),(l.eraseIdx n).map (f8 (bx (aO P w)))=(l.map (f8 (bx (aO P w)))).eraseIdx n:=fun l=>by
    induction l with
    |nil=>intro n;rfl
    |cons x r ih=>intro n;cases n with
     |zero=>rfl
     |succ n=>simp[ih n]
   rw[em,<- h4];unfold Array.eraseIdxIfInBounds;split
   ·simp
   ·rename_i hn
    rw[List.eraseIdx_of_length_le (by simpa using hn)]
  ·exact h6.sublist ((List.eraseIdx_sublist xs j).map _)
 ·have:=congrArg lh h4
  rw[ar,dw] at this;rw[this];exact hz
 ·have:=PySem.size_eraseIdxIfInBounds_le es j
  omega
theorem lS {α β:Type} [DecidableEq α] {k:α}{p:β}:∀ {xs:List (α×β)}{j:Nat},(xs.map (·.1)).Nodup->xs[j]?=we (k,p)->xs.eraseIdx j=xs.filter fun x=>decide (x.1≠k)
 |[],j,_,h=>by simp at h
 |x::r,0,nd,h=>by
  have h':x=(k,p):=by simpa using h
  subst h';rw[bg,b3] at nd;rw[List.eraseIdx_cons_zero,c6 (by simp)]
  symm
  rw[t9];intro a ha
  have:a.1≠k:=fun z=>nd.1 (ax.mpr ⟨a,ha,z⟩)
  simpa using this
 |x::r,j+1,nd,h=>by
  rw[bg,b3] at nd;have h':r[j]?=we (k,p):=by simpa using h
  have hm:k∈r.map (·.1):=ax.mpr ⟨_,fw h',rfl⟩;have hx:x.1≠k:=fun z=>nd.1 (z ▸ hm);rw[List.eraseIdx_cons_succ,c7 (by simpa using hx),lS nd.2 h']
theorem KT.drop (r:KT H kvs xs) (k:List Key):KT H (wC kvs k) (xs.filter fun x=>decide (x.1≠k)):=by
 induction r with
 |nil=>exact .nil
 |@cons p q ps qs h t ih=>
  unfold wC at ih ⊢
  by_cases e:p.1=k
  ·have e':q.1=k:=h.1.symm.trans e;rw[c6 (by simp[e]),c6 (by simp[e'])];exact ih
  ·have e':¬ q.1=k:=fun z=>e (h.1.trans z);rw[c7 (by simp[e]),c7 (by simp[e'])];exact .cons h ih
theorem Hm {k:List Key} (h:k7 xs k=we p):∃ j:Nat,xs[j]?=we (k,p):=by
 unfold k7 at h;obtain⟨q,e1,e2⟩:=aJ h;have m:=p9 e1;have e3:=vk e1;obtain⟨j,hj⟩:=jo m;refine⟨j,?_⟩;rw[hj]
 have:q.1=k:=by simpa using e3
 rw[<- this,<- e2]
section
variable {X:Cx}{pins:List (af×Obj)}{σ:St}{H:Hp}{s:am}{a b:af}{kvs:List (List Key×V)}{k:List Key}{A:de}{E:ag->am->Prop}
theorem Nf (hu:A.units+1<dq) (I:Inv X pins σ H s) (e:H a=we (.dT kvs)) (eb:H b=we (.tup (k.map kV))) (l:uL kvs k=we v)
  (h:∀ w' s',Inv X pins σ (upd H a (.dT (wC kvs k))) s'->RelV v w'->Q w' s'):aw (model X.prog X.w) A (call (.builtin "dict.pop") [.ref a,.ref b]) Q E s:=by
 obtain⟨z,hd,xs,rel,dd⟩:=GU I.hok e;obtain⟨w',hw,rw'⟩:=RelO.some_of (v:=v) (o:=(k7 xs k).map (·.2)) (by rw[<- l];exact rel.val k);obtain⟨p,hp,hp2⟩:=my.mp hw;obtain⟨j,hj⟩:=Hm hp;have hz:xs.length<=sizeLine:=by rw[<- iz rel];exact z
 have nd:(xs.map (·.1)).Nodup:=by obtain⟨_,_,_,_,_,_,_,_,q⟩:=dd;exact q
 refine uo su dd.typeIs PySem.F.entry_dict_pop (PySem.F.args_dict_pop_2 _ _) (CJ (k:=k) a b) ⟨hu,xs,j,p,dd,hz,vL I.hok eb,hj,fun h' t dd' hs=>h p.2 _ ?_ (hp2 ▸ rw')⟩;rw[lS nd hj] at dd';obtain⟨q,es,ep,hq,h2,h3,h4,_,h5⟩:=dd';refine oY I (by rw[e];exact hX) hs ⟨q,hq⟩ ⟨ce (GW kvs k) z,hd,_,KT.keeps (KT.drop rel k) fun c ys ec=> ?_,q,es,ep,hq,h2,h3,h4,h5⟩;rw[aG (JG ec e (fun z=>nomatch z))];exact ec
noncomputable def Lh:V->List V->Hp->VK->Prop:=fun x xs H Q=>∃ a b kvs k v,x=.ref a/\xs=[.ref b]/\H a=we (.dT kvs)/\H b=we (.tup (k.map kV))/\uL kvs k=we v/\Q v (upd H a (.dT (wC kvs k)))
theorem JI (hu:X.A.units+1<dq):MtR X "dict.pop" Lh:=by
 intro pins s σ H x xs v us Q I rx rs h;obtain⟨a,b,kvs,k,y,rfl,rfl,ha,hb,l,q⟩:=h;obtain⟨u,rfl,ru⟩:=lX rs;cases rx;cases ru;exact Nf hu I ha hb l fun w' s' I' r=>⟨y,_,I',r,q⟩
end
section
variable {X:Cx}{cls exC:Nat->af}{E:XE}{e a b c o i value:br}{es rest:List br}{fa fb fc fo fi fv:OG D}{fl:OG (List D)}{ft ft':OG Bool}{pos p apos pos' cpos:Pos}{x m:Str}{st:cq}
noncomputable def Bw (ω:Om) (d:D):Bool:=match cellOf ω d with
 |some (.dt _)=>true
 |_=>false
theorem DD (h:Bw ω d=true):∃ n kvs,d=.obj n/\ω[n]?=we (.dt kvs):=by
 unfold Bw at h;split at h
 ·obtain⟨n,rfl,e⟩:=dX ‹_›;exact⟨n,_,rfl,e⟩
 ·cases h
noncomputable def nP (g:Om->D->List D->Option (D×Om)) (fo:OG D) (fl:OG (List D)):OG D:=oB fo fun d ρ ω=>if Bw ω d=true then oB fl (fun ds _ ω=>oR (g ω d ds)) ρ ω else wf
theorem Mt {id:String} (slot:Slot "dict" m id) (hty:typeOf (.builtin id)=pure (.type "method_descriptor")) (hm:MtR X id r) (F:EV cls X.K r g) (ho:OE X cls E o fo) (ha:OA X cls E (e::es) fl)
  (hbase:hV o m X.env (eval o X.env)=eval o X.env:=by rfl)
  (hfew:((df cpos (av (e::es) X.env)).all (fun x=> !x.1)&&(jx cpos (ie [] X.env)).all (fun x=>x.1.isSome)
   &&decide ((e::es).length+([]:List ka).length+(if([]:List ka).isEmpty then 0 else 1)<30))=true:=by rfl)
  (hline:(apos.endLine==cpos.line)=true:=by rfl) (hs:av (e::es) X.env=(false,eval e X.env)::av es X.env:=by rfl) (hplain:(df cpos (av es X.env)).any (·.1)=false:=by rfl):
  OE X cls E (.Call (.Attribute o m apos) (e::es) [] cpos) (nP g fo fl):=
 (LG qp slot hty hm ho ha hbase hfew hline hs hplain).imp fun σ H Q ⟨ok,ρ,ω,r,ω',P,e,q⟩=>by
  refine tO.then_ P e (fun c z=>by subst z;exact q) fun d ω1 v ok1 H1 e1 n1 P1 r1=> ?_;obtain⟨hi,e1⟩:=cO e1;obtain⟨n,ds0,rfl,e2⟩:=DD hi;obtain⟨a,rfl,e4,xs,e5,rs⟩:=P1.st.ref r1 e2;refine⟨.inr (.inr (.inl ⟨rfl,.inr ⟨xs,e5⟩⟩)),?_⟩;refine tOA.then_ P1 e1 (fun c z=>by subst z;exact exR.nw q n1) fun ds ω2 us ok2 H2 e6 n2 P2 r2=> ?_;obtain⟨y,e7,rfl⟩:=cF e6;exact F ok2 H2 ω2 _ us _ ds y ω' Q P2.okh P2.st (r1.ex n2.ex) r2 e7 fun w ok3 H3 n3 r3=>q w ok3 H3 (n1.trans (n2.trans n3)) r3
noncomputable def Ea (ω:Om) (d:D) (as:List D):Option (D×Om):=match d,as with
 |.obj n,[y]=>match ω[n]? with
  |some (.dt kvs)=>(Ck y).bind fun k=>(gU kvs k).map fun v=>(v,ω.set n (.dt (dP kvs k)))
  |_=>wf
 |_,_=>wf
theorem GI {K:aa}:EV cls K Lh Ea:=fun ok H ω x xs a as d ω' Q h1 st ra rs e k=>by
 unfold Ea at e;split at e
 ·rename_i n y
  split at e
  ·rename_i kvs hc
   obtain⟨ks,e8,e⟩:=bind_some e;obtain⟨v,e9,e10⟩:=aJ e;cases e10;obtain⟨a1,rfl,e4,vs,e5,kv⟩:=st.ref ra hc;obtain⟨w,rfl,rw'⟩:=rs.one_inv;obtain⟨b,rfl,_,hb⟩:=toT'_rep e8 rw';obtain⟨u,l,ru⟩:=kv.val e9;refine⟨a1,b,vs,ks,u,rfl,rfl,e5,hb,l,?_⟩;have nw:=Nw.write (o:=.dT (wC vs ks)) (ob:=.dt (dP kvs ks)) h1 st e4 e5 fun dat=>⟨_,aP,(KvR.drop (k:=ks) kv).mono dat fun _ _ z=>z⟩;exact k _ ok _ nw (ru.ex nw.ex)
  ·cases e
 ·cases e
theorem Jq (hu:X.A.units+1<dq) (ho:OE X cls E o fo) (ha:OA X cls E [e] fl) (hbase:hV o "pop" X.env (eval o X.env)=eval o X.env:=by rfl)
  (hfew:((df cpos (av [e] X.env)).all (fun x=> !x.1)&&(jx cpos (ie [] X.env)).all (fun x=>x.1.isSome)
   &&decide ([e].length+([]:List ka).length+(if([]:List ka).isEmpty then 0 else 1)<30))=true:=by rfl)
  (hline:(apos.endLine==cpos.line)=true:=by rfl) (hs:av [e] X.env=(false,eval e X.env)::av [] X.env:=by rfl) (hplain:(df cpos (av [] X.env)).any (·.1)=false:=by rfl):
  OE X cls E (.Call (.Attribute o "pop" apos) [e] [] cpos) (nP Ea fo fl):=Mt su PySem.F.type_dict_pop (JI hu) GI ho ha hbase hfew hline hs hplain
end
end L2.MB
end
section
namespace L2.MB
open PySem PySem.Spec PyProof.Rows PySem.Builtin
section
variable {P:da}{w:dc}{K:Type} [DecidableEq K] {knd:HeapKind P w K}{A:de}{E:ag->am->Prop}{s:am}{d a:af}{xs ys:List (K×af×ag)}{k:K}{v:ag}{Q:Unit->am->Prop}
theorem rR (h:∀(j:Nat) (p:af×ag),xs[j]?≠we (k,p)):k7 xs k=wf:=by
 unfold k7;rw[Option.map_eq_none_iff,uq];intro x hx;obtain⟨j,hj⟩:=jo hx;intro z;have e:x.1=k:=by simpa using z
 exact h j x.2 (by rw[hj,<- e])
theorem BM {j:Nat} (h:xs[j]?=we (k,p)):(k7 xs k).isSome=true:=by
 unfold k7;rw[px,List.find?_isSome];exact⟨(k,p),fw h,by simp⟩
theorem Bk (nd:(xs.map (·.1)).Nodup) (h:xs[j]?=we (k,p)):(xs.map (f8 knd)).modify j (fun e=>{ hash:=e.hash,key:=e.key,val:=v })=(xs.map (qv k v)).map (f8 knd):=by
 apply jl;intro i;rw[List.getElem?_modify,bf,bf,bf];cases q:xs[i]? with
 |none=>rfl
 |some x=>
  show we _=we _
  by_cases e:j=i
  ·subst e;rw[h] at q;cases q;simp[qv,f8]
  ·have hx:x.1≠k:=fun z=>e (nodup_ix nd h (show xs[i]?=we (k,x.2) by rw[q,<- z]));simp[qv,e,hx]
theorem Gh:(xs.map (qv k v)).map (·.1)=xs.map (·.1):=by
 rw[jc];apply f7;intro x _;unfold qv
 show(if _ then _ else _:K×af×ag).1=_
 split <;> rfl
theorem Fe (hr:knd.room A) (hk:knd.is s.heap k a) (hd:ii knd s.heap d xs) (hz:xs.length<=sizeLine) (h:∀ h',ii knd h' d (jh xs k a v)->fm d s.heap h'->Q () { s with heap:=h' }):
  aw (model P w) A (dictSetHashed d (.ref a) (knd.hash k) v) Q E s:=by
 obtain⟨o,es,ep,h1,h2,h3,h4,h5,h6⟩:=hd;obtain⟨oc,od,odt,osl⟩:=o;obtain⟨q1,q2,q3⟩:=h2;dsimp only at q1 q2 q3 h3;subst q1 q2 q3 h3;have hs:es.size=xs.length:=by
  have:=congrArg lh h4
  rw[ar,dw] at this;exact this
 unfold dictSetHashed
 repeat (first|(with_reducible refine t8 hr hk h1 rfl h4 h5 h6 (fun hn=> ?none) fun j p hj=> ?some)|(with_reducible refine tf h1 rfl ?main ?sz ?gr)|wp_step)
 case main=>
   have sb:fm d s.heap (s.heap.update d (qx fun x=>x.push { hash:=knd.hash k,key:=.ref a,val:=v })):=⟨ni _ _ _,fun b hb=>d8 _ _ (bt hb)⟩;have e1:jh xs k a v=xs++[(k,a,v)]:=by
    unfold jh;rw[rR hn];rfl
   refine h _ ⟨_,es.push { hash:=knd.hash k,key:=.ref a,val:=v },ep+1,gn _ h1 rfl,⟨rfl,rfl,rfl⟩,rfl,?_,fun x hx=> ?_,?_⟩ sb
   ·rw[e1,Array.toList_push,h4,cx];rfl
   ·rw[e1] at hx;rcases cz.mp hx with hx|hx
    ·exact knd.keeps (h5 x hx) h1 rfl sb
    ·rw[d9] at hx;subst hx;exact knd.keeps hk h1 rfl sb
   ·rw[e1,cx];refine jm.mpr ⟨h6,by simp,fun x hx y hy z=> ?_⟩;have hy':y=k:=by simpa using hy
    rw[z,hy'] at hx;obtain⟨q,q1,q2⟩:=ax.mp hx;obtain⟨j,hj⟩:=jo q1;exact hn j q.2 (by rw[hj,<- q2])
 case sz=>rw[hs];exact hz
 case gr=>simp
 case some=>
  have e1:jh xs k a v=xs.map (qv k v):=by
   unfold jh;rw[if_pos (BM hj)]
  repeat (first|(with_reducible refine wpAny_updateDict h1 rfl ?_ ?_)|wp_step)
  ·have sb:fm d s.heap (s.heap.update d (Obj.mapDict fun x=>x.modify j fun e=>{ hash:=e.hash,key:=e.key,val:=v })):=⟨ni _ _ _,fun b hb=>d8 _ _ (bt hb)⟩;refine h _ ⟨_,es.modify j fun e=>{ hash:=e.hash,key:=e.key,val:=v },ep,gn _ h1 rfl,⟨rfl,rfl,rfl⟩,rfl,?_,fun x hx=> ?_,?_⟩ sb
   ·rw[e1,Array.toList_modify,h4];exact Bk h6 hj
   ·rw[e1] at hx;obtain⟨q,q1,q2⟩:=ax.mp hx;subst q2
    have:=knd.keeps (h5 q q1) h1 rfl sb
    unfold qv;split
    ·exact this
    ·exact this
   ·rw[e1,Gh];exact h6
  ·simp
end
section
variable {P:da}{w:dc}{A:de}{E:ag->am->Prop}{s:am}{d o:af}{xs ys:List (List Key×af×ag)}{k:List Key}{v:ag}{Q:Unit->am->Prop}{id:String}
noncomputable def fE (xs ys:List (List Key×af×ag)):List (List Key×af×ag):=ys.foldl (fun acc y=>jh acc y.1 y.2.1 y.2.2) xs
theorem wY:(jh xs k a v).length<=xs.length+1:=by
 unfold jh;split
 ·rw[ar];omega
 ·rw[b0,jg];omega
theorem nS:fE xs (ys++[y])=jh (fE xs ys) y.1 y.2.1 y.2.2:=by
 unfold fE;rw[List.foldl_append];rfl
theorem vJ:∀ {ys xs:List (List Key×af×ag)},((xs++ys).map (·.1)).Nodup->fE xs ys=xs++ys
 |[],xs,_=>by rw[c3];rfl
 |y::r,xs,nd=>by
  have e1:fE xs (y::r)=fE (jh xs y.1 y.2.1 y.2.2) r:=rfl;have e2:jh xs y.1 y.2.1 y.2.2=xs++[y]:=by
   unfold jh;rw[rR (fun j p hj=> ?_)]
   ·rfl
   ·have m1:y.1∈xs.map (·.1):=ax.mpr ⟨_,fw hj,rfl⟩;rw[cx,jm] at nd;exact nd.2.2 _ m1 _ (ax.mpr ⟨y,au,rfl⟩) rfl
  rw[e1,e2,vJ (by rw[ff];exact nd),ff];rfl
theorem Dm (nd:(ys.map (·.1)).Nodup):fE [] ys=ys:=vJ (by simpa using nd)
theorem iW (hne:d≠o) (hsys:(o==fh)=false) (hr:(bx (aO P w)).room A) (hd:ii (bx (aO P w)) s.heap d xs) (ho:ii (bx (aO P w)) s.heap o ys) (hz:xs.length+ys.length<=sizeLine)
  (hh:∀(i j:Nat) x y,ys[i]?=we x->ys[j]?=we y->(bx (aO P w)).hash x.1=(bx (aO P w)).hash y.1->i=j)
  (h:∀ h',ii (bx (aO P w)) h' d (fE xs ys)->fm d s.heap h'->Q () { s with heap:=h' }):aw (model P w) A (Dict.mergeDict id d o) Q E s:=by
 have hd0:=hd;obtain⟨o1,es,ep,h1,h2,h3,h4,h5,h6⟩:=hd;obtain⟨oc,od,odt,osl⟩:=o1;obtain⟨q1,q2,q3⟩:=h2;dsimp only at q1 q2 q3 h3;subst q1 q2 q3 h3;obtain⟨o2,fs,fp,g1,g2,g3,g4,g5,g6⟩:=ho;obtain⟨oc,od,odt,osl⟩:=o2;obtain⟨q1,q2,q3⟩:=g2;dsimp only at q1 q2 q3 g3;subst q1 q2 q3 g3;have hn:(d==o)=false:=by simpa using hne
 unfold Dict.mergeDict;simp only[ua];rw[hn];simp only[dn,if_false]
 repeat wp_step
 have fl:fs.size=ys.length:=by
  have:=congrArg lh g4
  rw[ar,dw] at this;exact this
 have el:es.size=xs.length:=by
  have:=congrArg lh h4
  rw[ar,dw] at this;exact this
 have few:(decide (fs.size<=8)&&fs.all fun e=>(keyPart e.key).isSome)=decide (ys=[]):=by
  rw[<- u6,g4];cases ys with
  |nil=>simp[fl]
  |cons y r=>simp[f8,keyPart]
 rw[few]
 by_cases hy:ys=[]
 ·rw[decide_eq_true hy];simp only[Bool.not_true,dn,if_false];have e0:cw ([:fs.size]:j3).start ([:fs.size]:j3).size ([:fs.size]:j3).step=[]:=by rw[fl,hy];rfl
  subst hy
  repeat (first|(with_reducible refine qg _ (fun rest _ s'=>rest=[]/\s'=s) _ ?step ?fin _ _ ?init)|wp_step)
  case init=>exact⟨e0,rfl⟩
  case step=>rintro i rest b s' ⟨z,_⟩;cases z
  case fin=>
   rintro b s' ⟨_,rfl⟩
   repeat wp_step
   exact h _ hd0 ⟨rfl,fun _ _=>rfl⟩
 ·rw[decide_eq_false hy];simp only[vt,if_true]
  repeat wp_step
  by_cases hx:xs=[]
  ·have e0:es.isEmpty=true:=by
    rw[mr];apply Array.eq_empty_of_size_eq_zero;rw[el,hx];rfl
   rw[e0];simp only[if_true];unfold Dict.entriesForEmpty
   repeat (first|(with_reducible refine wpAny_forIn_array' _ (fun(rest:List ky) _ s'=>(∀ e∈rest,∃ i:Nat,fs[i]?=we e)/\s'=s) _ ?step ?fin _ _ ?init)|wp_step)
   case init=>exact⟨fun e he=>by obtain⟨i,hi⟩:=jo he;exact⟨i,by rw[<- g8];exact hi⟩,rfl⟩
   case step=>
    rintro e rest b s' ⟨hi,rfl⟩;obtain⟨i,hi0⟩:=hi e au;have hi1:(ys.map (f8 (bx (aO P w))))[i]?=we e:=by rw[<- g4,g8];exact hi0
    rw[bf] at hi1;obtain⟨y,hy1,rfl⟩:=aJ hi1;obtain⟨ot,its,nt,t1,t2,t3,_⟩:=(show IsTupleKey (aO P w) s'.heap y.1 y.2.1 from g5 y (fw hy1));show aw _ _ (do let __do_lift <- Dict.quietEq (b7 y.2.1);_) _ _ _;unfold Dict.quietEq;have small:¬(Array.filter (fun x=>x.hash==(f8 (bx (aO P w)) y).hash) fs).size>1:=by
     have:(fs.filter (fun x=>x.hash==(f8 (bx (aO P w)) y).hash)).toList.length<=1:=by
      rw[Array.toList_filter,g4,List.filter_map,ar];have nd:∀(l:List (List Key×af×ag)),(∀(i j:Nat) x y,l[i]?=we x->l[j]?=we y->(bx (aO P w)).hash x.1=(bx (aO P w)).hash y.1->i=j)->∀ c:Int,(l.filter ((fun x:ky=>x.hash==c)∘f8 (bx (aO P w)))).length<=1:=by
       intro l
       induction l with
       |nil=>intro _ _;simp
       |cons z r ih=>
        intro hl c;have ih':=ih (fun i j x y h1 h2 e=>by have:=hl (i+1) (j+1) x y (by simpa using h1) (by simpa using h2) e;omega) c
        by_cases hc:(bx (aO P w)).hash z.1=c
        ·rw[c7 (by simpa [f8] using hc)]
         have:r.filter ((fun x:ky=>x.hash==c)∘f8 (bx (aO P w)))=[]:=by
          rw[List.filter_eq_nil_iff];intro q hq z';obtain⟨j,hj⟩:=jo hq;have e:(bx (aO P w)).hash q.1=c:=by simpa [f8] using z'
          have:=hl 0 (j+1) z q (by simp) (by simpa using hj) (hc.trans e.symm)
          omega
         rw[this];simp
        ·rw[c6 (by simpa [f8] using hc)];exact ih'
      exact nd ys hh _
     rw[dw] at this;omega
    repeat wp_step
    rw[t2,show sw (kz "tuple") (jj "__eq__")=pure (we (.builtin "tuple.__eq__")) from PySem.F.slot_tuple_eq.lookup]
    repeat wp_step
    rw[if_neg small]
    repeat wp_step
    exact⟨fun e he=>hi e (ai _ he),rfl⟩
   case fin=>
    rintro b s' ⟨_,rfl⟩
    repeat wp_step
    have f0:fs.isEmpty=false:=by
     cases q:fs.isEmpty with
     |false=>rfl
     |true=>
      rw[mr] at q;rw[q] at fl;exact absurd (List.eq_nil_of_length_eq_zero fl.symm) hy
    rw[f0];simp only[vt,if_true];have sb:fm d s'.heap (s'.heap.update d (qx fun _=>fs)):=⟨ni _ _ _,fun b hb=>d8 _ _ (bt hb)⟩;have mg:fE xs ys=ys:=by
     rw[hx];exact Dm g6
    repeat (first|(with_reducible refine wpAny_updateDictKeysTo h1 rfl ?main ?sz)|wp_step)
    case sz=>show fs.size<=_;rw[fl];omega
    case main=>
     refine h _ ⟨_,fs,ep+1,gn _ h1 rfl,⟨rfl,rfl,rfl⟩,rfl,?_,fun x hx'=> ?_,?_⟩ sb
     ·rw[mg];exact g4
     ·rw[mg] at hx';exact(bx (aO P w)).keeps (g5 x hx') h1 rfl sb
     ·rw[mg];exact g6
  ·have e0:es.isEmpty=false:=by
    cases q:es.isEmpty with
    |false=>rfl
    |true=>
     rw[mr] at q;rw[q] at el;exact absurd (List.eq_nil_of_length_eq_zero el.symm) hx
   rw[e0];simp only[dn,if_false];have e1:cw ([:fs.size]:j3).start ([:fs.size]:j3).size ([:fs.size]:j3).step=cw 0 ys.length:=by
    rw[fl];simp[wd]
   have len:∀ n,n<=ys.length->(fE xs (ys.take n)).length<=xs.length+n:=fun n=>by
    induction n with
    |zero=>intro _;simp[fE]
    |succ n ih=>
     intro hn;have hn':n<ys.length:=hn;rw[nj hn',nS]
     have:=ih (ir hn')
     exact ce wY (by omega)
   repeat (first|(with_reducible refine qg _ (fun(rest:List Nat) _ s'=>∃(i:Nat) (h':cy),rest=cw i (ys.length-i)/\i<=ys.length/\s'={ s with heap:=h' }/\ii (bx (aO P w)) h' d (fE xs (ys.take i))/\fm d s.heap h') _ ?step ?fin _ _ ?init)|wp_step)
   case init=>exact⟨0,s.heap,e1,ic _,rfl,hd0,⟨rfl,fun _ _=>rfl⟩⟩
   case step=>
    rintro i rest b s' ⟨j,h',e2,hj,rfl,dd,sb⟩;have hlt:j<ys.length:=by
     rcases ou j ys.length with z|z
     ·exact z
     ·rw[Nat.sub_eq_zero_of_le z] at e2;cases e2
    have e3:ys.length-j=(ys.length-(j+1))+1:=by omega
    rw[e3,j4] at e2;cases e2;have go:h'.get? o=we { cls:=kz "dict",data:=vx fs fp }:=(sb.2 o (bt hne)).trans g1;have hes:fs[i]?=we { hash:=(bx (aO P w)).hash ys[i].1,key:=.ref ys[i].2.1,val:=ys[i].2.2 }:=by
     rw[<- g8,g4,bf,bj hlt];rfl
    have hk:(bx (aO P w)).is h' ys[i].1 ys[i].2.1:=(bx (aO P w)).keeps (g5 _ (i7 hlt)) h1 rfl sb
    repeat wp_step
    rw[hes]
    repeat (first|(with_reducible refine Fe hr hk dd (ce (len i (ir hlt)) (by omega)) fun h2 dd2 sb2=> ?_)|wp_step)
    have go2:h2.get? o=we { cls:=kz "dict",data:=vx fs fp }:=(sb2.2 o (bt hne)).trans go
    repeat (first|(with_reducible refine pz go2 ?_)|wp_step)
    simp only[bne_self_eq_false,dn,if_false]
    repeat wp_step
    refine⟨i+1,h2,rfl,hlt,rfl,?_,sb.trans sb2⟩;rw[nj hlt,nS];exact dd2
   case fin=>
    rintro b s' ⟨j,h',e2,hj,rfl,dd,sb⟩
    have:j=ys.length:=by
     have:=congrArg lh e2
     simp at this;omega
    subst this;rw[List.take_length] at dd
    repeat wp_step
    exact h h' dd sb
end
end L2.MB
end
section
namespace L2.MB
open PySem PySem.Spec PyProof.Rows PySem.Builtin
theorem Cg (d b:af) (hne:d≠b) (hsys:(b==fh)=false):MeetsIn P w («dict.update» { pos:=[.ref d,.ref b] }) fun A R s=>
  A.units+1<dq/\∃ xs ys:List (List Key×af×ag),ii (bx (aO P w)) s.heap d xs/\ii (bx (aO P w)) s.heap b ys/\xs.length+ys.length<=sizeLine/\
   (∀(i j:Nat) x y,ys[i]?=we x->ys[j]?=we y->(bx (aO P w)).hash x.1=(bx (aO P w)).hash y.1->i=j)/\
   ∀ h',ii (bx (aO P w)) h' d (fE xs ys)->fm d s.heap h'->R (.ok (.ret .none)) { s with heap:=h' }:=by
 rintro A R s ⟨hu,xs,ys,hd,ho,hz,hh,hR⟩;have hr:(bx (aO P w)).room A.in1:=ki hu;have hd0:=hd;have ho0:=ho;obtain⟨o1,es,ep,h1,h2,h3,h4,h5,h6⟩:=hd;obtain⟨oc,od,odt,osl⟩:=o1;obtain⟨q1,q2,q3⟩:=h2;dsimp only at q1 q2 q3 h3;subst q1 q2 q3 h3;obtain⟨o2,fs,fp,g1,g2,g3,g4,g5,g6⟩:=ho;obtain⟨oc,od,odt,osl⟩:=o2;obtain⟨q1,q2,q3⟩:=g2;dsimp only at q1 q2 q3 g3;subst q1 q2 q3 g3;unfold «dict.update» Dict.selfAndRest
 repeat (first|(with_reducible refine iW hne hsys hr hd0 ho0 hz hh fun h' dd sb=> ?_)|wp_step)
 simp only[bne_self_eq_false,dn,if_false]
 repeat (first|(with_reducible refine iW hne hsys hr hd0 ho0 hz hh fun h' dd sb=> ?_)|wp_step)
 rw[PySem.isSubtype_dict_dict]
 repeat (first|(with_reducible refine iW hne hsys hr hd0 ho0 hz hh fun h' dd sb=> ?_)|wp_step)
 rw[show sw (kz "dict") (jj "__iter__")=pure (we (.builtin "dict.__iter__")) from mz.lookup]
 repeat (first|(with_reducible refine iW hne hsys hr hd0 ho0 hz hh fun h' dd sb=> ?_)|wp_step)
 exact hR h' dd sb
noncomputable def JR:List Key->Option (List Int)
 |[]=>we []
 |.inl i::r=>(JR r).map fun is=>i::is
 |.inr _::_=>wf
noncomputable def eM (k:List Key):Option Int:=(JR k).map fun is=>reduceHash (qc (is.map hashInt))
theorem vQ:∀ {k:List Key}{is:List Int},JR k=we is->k=is.map nv
 |[],_,h=>by cases h;rfl
 |.inl i::r,_,h=>by
  obtain⟨js,e,rfl⟩:=aJ h;rw[vQ e];rfl
 |.inr _::_,_,h=>nomatch h
theorem Av (h:eM k=we c):(bx (aO P w)).hash k=c:=by
 obtain⟨is,e,rfl⟩:=aJ h;rw[vQ e];show reduceHash (qc ((is.map nv).map (aO P w).hash))=_;rw[jc];rfl
noncomputable def eI:List (List Key)->Bool
 |[]=>true
 |k::r=>(eM k).isSome&&r.all (fun k'=>match eM k,eM k' with
  |some a,we b=>decide (a≠b)
  |_,_=>false)&&eI r
theorem qW:∀ {ks:List (List Key)},eI ks=true->∀(i j:Nat) x y,ks[i]?=we x->ks[j]?=we y->(bx (aO P w)).hash x=(bx (aO P w)).hash y->i=j
 |[],_,i,j,x,y,h1,_,_=>by simp at h1
 |k::r,h,i,j,x,y,h1,h2,e=>by
  have h':((eM k).isSome&&r.all (fun k'=>match eM k,eM k' with
   |some a,we b=>decide (a≠b)
   |_,_=>false)&&eI r)=true:=h
  rw[bq,bq] at h';obtain⟨⟨_,ha⟩,hr⟩:=h';have main:∀ y,y∈r->(bx (aO P w)).hash k=(bx (aO P w)).hash y->False:=fun y hy e=>by
   have:=fz.mp ha y hy
   split at this
   ·rename_i a b e1 e2
    rw[Av e1,Av e2] at e;simp at this;exact this e
   ·cases this
  cases i with
  |zero=>
   cases j with
   |zero=>rfl
   |succ j=>
    simp at h1 h2;subst h1;exact(main y (fw h2) e).elim
  |succ i=>
   cases j with
   |zero=>
    simp at h1 h2;subst h2;exact(main x (fw h1) e.symm).elim
   |succ j=>
    simp at h1 h2;rw[qW hr i j x y h1 h2 e]
noncomputable def mergeK (kvs more:List (List Key×V)):List (List Key×V):=more.foldl (fun acc p=>lO acc p.1 p.2) kvs
noncomputable def nU (kvs more:List (List Key×D)):List (List Key×D):=more.foldl (fun acc p=>putD acc p.1 p.2) kvs
theorem KT.merge:∀ {ms:List (List Key×V)}{ys:List (List Key×af×ag)},KT H ms ys->∀ {kvs:List (List Key×V)}{xs:List (List Key×af×ag)},KT H kvs xs->KT H (mergeK kvs ms) (fE xs ys)
 |_,_,.nil,_,_,r=>r
 |_,_,.cons (a:=p) (b:=q) h t,kvs,xs,r=>by
  obtain⟨h1,h2,h3⟩:=h;have r':=r.put p.1 h2 h3;rw[h1] at r'
  have:=KT.merge t r'
  rw[<- h1] at this;show KT H (mergeK (lO kvs p.1 p.2) _) (fE (jh xs q.1 q.2.1 q.2.2) _);rw[<- h1];exact this
theorem KvR.mergeR {K:aa}:∀ {ms:List (List Key×V)}{ns:List (List Key×D)},KvR K ok H ms ns->∀ {vs:List (List Key×V)}{ds:List (List Key×D)},KvR K ok H vs ds->KvR K ok H (mergeK vs ms) (nU ds ns)
 |_,_,.nil,_,_,r=>r
 |_,_,.cons h t,vs,ds,r=>KvR.mergeR t (r.put h)
theorem Fs {k:List Key}:(lO kvs k v).length<=kvs.length+1:=gD kvs k v
theorem qO:∀ {ms kvs:List (List Key×V)},(mergeK kvs ms).length<=kvs.length+ms.length
 |[],_=>bc _
 |p::r,kvs=>by
  have:=qO (ms:=r) (kvs:=lO kvs p.1 p.2)
  have:=Fs (kvs:=kvs) (k:=p.1) (v:=p.2)
  show(mergeK (lO kvs p.1 p.2) r).length<=kvs.length+(r.length+1)
  omega
section
variable {X:Cx}{pins:List (af×Obj)}{σ:St}{H:Hp}{s:am}{a b:af}{kvs ms:List (List Key×V)}{A:de}{E:ag->am->Prop}
theorem Nd (hu:A.units+1<dq) (I:Inv X pins σ H s) (ea:H a=we (.dT kvs)) (eb:H b=we (.dT ms)) (hne:a≠b) (hl:kvs.length+ms.length<=sizeLine) (hh:eI (ms.map (·.1))=true)
  (h:∀ s',Inv X pins σ (upd H a (.dT (mergeK kvs ms))) s'->Q .none s'):aw (model X.prog X.w) A (call (.builtin "dict.update") [.ref a,.ref b]) Q E s:=by
 obtain⟨z,hd,xs,rel,dd⟩:=GU I.hok ea;obtain⟨z2,hd2,ys,rel2,dd2⟩:=GU I.hok eb;have lx:kvs.length=xs.length:=iz rel;have ly:ms.length=ys.length:=iz rel2;have keys:ms.map (·.1)=ys.map (·.1):=by
  clear dd2 ly z2 hl hh eb h
  induction rel2 with
  |nil=>rfl
  |cons h t ih=>rw[bg,bg,ih,h.1]
 rw[keys] at hh;refine uo qm dd.typeIs PySem.F.entry_dict_update (PySem.F.args_dict_update_2 _ _) (Cg a b hne hd2) ⟨hu,xs,ys,dd,dd2,by omega,fun i j x y h1 h2 e=> ?_,fun h' dd' hs=>h _ ?_⟩
 ·exact qW hh i j x.1 y.1 (by rw[bf,h1];rfl) (by rw[bf,h2];rfl) e
 ·obtain⟨q,es,ep,hq,h2,h3,h4,_,h5⟩:=dd';refine oY I (by rw[ea];exact hX) hs ⟨q,hq⟩ ⟨ce qO hl,hd,_,KT.keeps (KT.merge rel2 rel) fun c ws ec=> ?_,q,es,ep,hq,h2,h3,h4,h5⟩;rw[aG (JG ec ea (fun z=>nomatch z))];exact ec
noncomputable def Lf:V->List V->Hp->VK->Prop:=fun x xs H Q=>∃ a b kvs ms,x=.ref a/\xs=[.ref b]/\H a=we (.dT kvs)/\H b=we (.dT ms)/\a≠b/\kvs.length+ms.length<=sizeLine/\eI (ms.map (·.1))=true/\Q .non (upd H a (.dT (mergeK kvs ms)))
theorem JH (hu:X.A.units+1<dq):MtR X "dict.update" Lf:=by
 intro pins s σ H x xs v us Q I rx rs h;obtain⟨a,b,kvs,ms,rfl,rfl,ha,hb,hne,hl,hh,q⟩:=h;obtain⟨u,rfl,ru⟩:=lX rs;cases rx;cases ru;exact Nd hu I ha hb hne hl hh fun s' I'=>⟨.non,_,I',rfl,q⟩
end
section
variable {X:Cx}{cls exC:Nat->af}{E:XE}{e a b c o i value:br}{es rest:List br}{fa fb fc fo fi fv:OG D}{fl:OG (List D)}{ft ft':OG Bool}{pos p apos pos' cpos:Pos}{x m:Str}{st:cq}
noncomputable def DV (ω:Om) (d:D) (as:List D):Option (D×Om):=match d,as with
 |.obj n,[.obj m]=>match ω[n]?,ω[m]? with
  |some (.dt kvs),we (.dt ms)=>if n≠m/\kvs.length+ms.length<=sizeLine/\eI (ms.map (·.1))=true then we (.non,ω.set n (.dt (nU kvs ms))) else wf
  |_,_=>wf
 |_,_=>wf
theorem GE {K:aa}:EV cls K Lf DV:=fun ok H ω x xs a as d ω' Q h1 st ra rs e k=>by
 unfold DV at e;split at e
 ·rename_i n m
  split at e
  ·rename_i kvs ms hc hc2
   obtain⟨⟨hnm,hl,hh⟩,e3⟩:=bI e;cases e3;obtain⟨a1,rfl,e4,vs,e5,kv⟩:=st.ref ra hc;obtain⟨w,rfl,rw'⟩:=rs.one_inv;obtain⟨b1,rfl,e6,us,e7,kv2⟩:=st.ref rw' hc2;refine⟨a1,b1,vs,us,rfl,rfl,e5,e7,fun z=>hnm (st.inj n m a1 e4 (z ▸ e6)),by rw[kv.length,kv2.length];exact hl,by rw[kv2.keys];exact hh,?_⟩;have nw:=Nw.write (o:=.dT (mergeK vs us)) (ob:=.dt (nU kvs ms)) h1 st e4 e5 fun dat=>⟨_,aP,(kv2.mergeR kv).mono dat fun _ _ z=>z⟩;exact k _ ok _ nw .non
  ·cases e
 ·cases e
theorem Jn (hu:X.A.units+1<dq) (ho:OE X cls E o fo) (ha:OA X cls E [e] fl) (hbase:hV o "update" X.env (eval o X.env)=eval o X.env:=by rfl)
  (hfew:((df cpos (av [e] X.env)).all (fun x=> !x.1)&&(jx cpos (ie [] X.env)).all (fun x=>x.1.isSome)
   &&decide ([e].length+([]:List ka).length+(if([]:List ka).isEmpty then 0 else 1)<30))=true:=by rfl)
  (hline:(apos.endLine==cpos.line)=true:=by rfl) (hs:av [e] X.env=(false,eval e X.env)::av [] X.env:=by rfl) (hplain:(df cpos (av [] X.env)).any (·.1)=false:=by rfl):
  OE X cls E (.Call (.Attribute o "update" apos) [e] [] cpos) (nP DV fo fl):=Mt qm PySem.F.type_dict_update (JH hu) GE ho ha hbase hfew hline hs hplain
end
end L2.MB
end
section
namespace L2.MB
theorem _root_.L2.Inv.movedN (I:Inv X pins σ H s) (k:∀ b o,b≠X.env.locals->s.heap.get? b=we o->h'.get? b=we o) (ns:∀ m,s.heap.Ns X.env.locals m->h'.Ns X.env.locals m)
  (old:∀ b o,s.heap.get? b=we o->H' b=H b) (sub:∀ b u,H b=we u->H' b=we u) (hok:HOk X.prog X.w H' h'):Inv X pins σ H' { s with heap:=h',toks:=t' }:=by
 obtain⟨m,hn,lk⟩:=I.loc;obtain⟨oL,esL,epL,hoL,hdL,rL⟩:=id hn;have nl:∀ {b:af}{o:Obj},X.s₀.heap.get? b=we o->b≠X.env.locals:=fun e z=>absurd (bi e) (by rw[z];exact s0.mpr I.ok.above);have nc:∀ {c:af}{v:Option ag}{o:Obj},s.heap.get? c=we o->o.data=.cell v->c≠X.env.locals:=fun {c v o} e1 e2 z=>by
  rw[z,hoL] at e1;cases e1;rw[hdL] at e2;cases e2
 have th:∀ b o,s.heap.get? b=we o->H b=wf->H' b=wf:=fun b o e n=>(old b o e).trans n;refine⟨I.ok,I.os,I.bare,⟨fun b o e n hb hx=>k b o (nl e) (I.base.keep b o e n hb hx),fun b o e n hb hx=> ?_,fun b o e n hx=> ?_,fun b o e hx=> ?_,fun b xs e=>sub _ _ (I.base.tups b xs e),fun b u v e=>sub _ _ (I.base.frzs b u v e),fun b ps e=> ?_⟩,⟨m,ns m hn,fun i x v e1 e2 e3=> ?_⟩,fun x c e=> ?_,th _ _ hoL I.free,fun x c e=> ?_,fun p hp=> ?_,hok,I.len⟩
 ·obtain⟨sl,z⟩:=I.base.slot b o e n hb hx;exact⟨sl,k b _ (nl e) z⟩
 ·obtain⟨o',z⟩:=I.base.there b o e hx;exact th b o' z (I.base.free b o e n hx)
 ·obtain⟨o',z⟩:=I.base.there b o e hx;exact⟨o',k b o' (nl e) z⟩
 ·obtain⟨m,z⟩:=I.base.tbls b ps e;exact⟨m,sub _ _ z⟩
 ·obtain⟨u,ru,z⟩:=lk i x v e1 e2 e3;refine⟨u,ru,?_⟩;rcases z with z|⟨q,c,e,oc,w1,w2⟩
  ·exact .inl z
  ·exact .inr ⟨q,c,e,oc,k c oc (nc w1 w2) w1,w2⟩
 ·obtain⟨v,oc,w1,w2⟩:=I.cell x c e;exact⟨v,oc,k c oc (nc w1 w2) w1,w2⟩
 ·obtain⟨v,oc,w1,w2⟩:=I.cell x c e;exact th c oc w1 (I.freeC x c e)
 ·obtain⟨z1,z2,z3,z4⟩:=I.pin p hp;exact⟨k p.1 p.2 z3 z1,th _ _ z1 z2,z3,z4⟩
theorem _root_.L2.Inv.moved (I:Inv X pins σ H s) (k:∀ b o,b≠X.env.locals->s.heap.get? b=we o->h'.get? b=we o) (ns:∀ m,s.heap.Ns X.env.locals m->h'.Ns X.env.locals m):Inv X pins σ H { s with heap:=h',toks:=t' }:=
 I.movedN k ns (fun _ _ _=>rfl) (fun _ _ e=>e) fun b u e=>by
  have nl:∀ {c:af}{o:HO},H c=we o->c≠X.env.locals:=fun e z=>by rw[z,I.free] at e;cases e
  refine(I.hok b u e).stay (fun c v hc q=> ?_) (fun _ q=>q) fun _ _ q=>q;rcases hc with rfl|hc
  ·exact k c v (nl e) q
  ·exact k c v (nl hc) q
noncomputable def Ou:List Int->List Int->Bool:=HT.lexLt
noncomputable def Gn:List D->Option (List Int)
 |[]=>we []
 |.int i::r=>(Gn r).map fun is=>i::is
 |_::_=>wf
noncomputable def fS (a b:D):Option Bool:=match a,b with
 |.int i,.int j=>we (decide (i<j))
 |.str x,.str y=>we (decide (x.cps.toList<y.cps.toList))
 |.tup xs,.tup ys=>(Gn xs).bind fun is=>(Gn ys).map fun js=>Ou is js
 |_,_=>wf
noncomputable def Nr (n:Nat):List D->List D->Bool->Option Bool
 |a::r,b::r',fin=>match eqD n a b with
  |some true=>Nr n r r' fin
  |some false=>fS a b
  |none=>wf
 |_,_,fin=>we fin
noncomputable def Iq {α:Type} (lt:Nat->Nat->Option Bool):wc α->Option α
 |.ret a=>we a
 |.ask i j k=>(lt i j).bind fun c=>Iq lt (k c)
theorem Cz (hc:∀ i j c C,lt i j=we c->C c s->cmp i j C s):∀ {t:wc α}{a:α},Iq lt t=we a->Q a s->PySem.W.KasT.kasWp cmp t Q s
 |.ret b,a,h,q=>by
  rw[PySem.W.KasT.kasWp.eq_1];cases h;exact q
 |.ask i j k,a,h,q=>by
  rw[PySem.W.KasT.kasWp.eq_2];obtain⟨c,e1,e2⟩:=bind_some (show(lt i j).bind _=_ from h);exact hc i j c _ e1 (Cz hc e2 q)
noncomputable def dQ (n:Nat) (a b:D):Option Bool:=match a,b with
 |.tup xs,.tup ys=>Nr n xs ys (decide (xs.length<ys.length))
 |_,_=>wf
noncomputable def jQ:D->Option Bool
 |.tup (.int _::_)=>we true
 |.tup (.str _::_)=>we false
 |_=>wf
noncomputable def jP (ds:List D):Bool:=ds.all (fun d=>jQ d==we true)||ds.all (fun d=>jQ d==we false)
noncomputable def eX (n:Nat) (ds:List D):Option (List D):=if ds.length<2 then we ds else if ds.length<64/\jP ds=true then
 (Iq (fun i j=>dQ n (ds.getD i .non) (ds.getD j .non)) (PySem.W.kas_sort ds.length)).bind fun p=>if p.toList.length<=64 then we (p.toList.map fun i=>ds.getD i .non) else wf else wf
section
variable {X:Cx}{pins:List (af×Obj)}{σ:St}{H:Hp}{s:am}{ok:Okk}{A:de}{E:ag->am->Prop}
theorem xO {K:aa}:∀ {ds:List D}{is:List Int}{xs:List V}{us:List ag},Gn ds=we is->Reps K ok H xs ds->Vals xs us->kc us is
 |[],_,_,_,h,.nil,.nil=>by cases h;exact .nil
 |.int i::r,_,_,_,h,.cons rr rs,.cons v vs=>by
  obtain⟨js,e,rfl⟩:=aJ h;obtain rfl:=rr.int_inv;obtain⟨t,rfl⟩:=v;exact .cons _ _ (xO e rs vs)
theorem JO (I:Inv X pins σ H s) (f:Bool) (hf:f=true->jQ (.tup [a])≠wf/\jQ (.tup [b])≠wf) (ra:Rep X.K ok H x a) (rb:Rep X.K ok H y b) (rv:RelV x v) (ru:RelV y u) (e:fS a b=we k) (hu:A.units<dq) (q:Q k s):
  aw (model X.prog X.w) A (oneLt' f v u) Q E s:=by
 unfold fS at e;split at e
 ·cases e;obtain rfl:=ra.int_inv;obtain rfl:=rb.int_inv;obtain⟨t,rfl⟩:=rv;obtain⟨t',rfl⟩:=ru;cases f with
  |true=>exact PySem.W.kat_lt_int q
  |false=>exact qy _ _ (va q)
 ·cases e;obtain rfl:=ra.str_inv;obtain rfl:=rb.str_inv;obtain⟨t,rfl⟩:=rv;obtain⟨t',rfl⟩:=ru;cases f with
  |true=>exact PySem.W.kas_lt_str q
  |false=>exact qy _ _ (lt_str q)
 ·obtain⟨is,e1,e⟩:=bind_some e;obtain⟨js,e2,rfl⟩:=aJ e;cases f with
  |true=>exact absurd rfl (hf rfl).1
  |false=>
   obtain⟨p,xs,rfl,g,rs⟩:=ra.tup_inv;obtain⟨p',xs',rfl,g',rs'⟩:=rb.tup_inv;cases rv;cases ru;obtain⟨its,rr,pl,_⟩:=I.tuple g.sq;obtain⟨its',rr',pl',_⟩:=I.tuple g'.sq;exact qy _ _ (HT.lt_tupInts pl pl' (by simpa using xO e1 rs rr) (by simpa using xO e2 rs' rr') hu q)
 ·cases e
theorem HS (I:Inv X pins σ H s) (hu:A.units+n<dq) (q:Q k s):∀ {as bs:List D}{xs ys:List V}{vs us:List ag} (i:Nat),(i=0->jQ (.tup as)≠wf/\jQ (.tup bs)≠wf)->Reps X.K ok H xs as->Reps X.K ok H ys bs->Vals xs vs->Vals ys us->Nr n as bs fin=we k->
  PySem.W.KatLex X.prog X.w A true fin Q (vs.zip us) i s
 |[],bs,_,_,_,us,i,_,.nil,r2,.nil,v2,e=>by
  have e':we fin=we k:=e;cases e';exact vm q
 |a::as,[],_,_,_,_,i,_,.cons r1 rs1,.nil,.cons w1 ws1,.nil,e=>by
  have e':we fin=we k:=e;cases e';exact vm q
 |a::as,b::bs,_,_,_,_,i,hk,.cons r1 rs1,.cons r2 rs2,.cons w1 ws1,.cons w2 ws2,e=>by
  refine PySem.W.kat_cons ?_;have e':(match eqD n a b with
   |some true=>Nr n as bs fin
   |some false=>fS a b
   |none=>wf)=we k:=e
  cases hq:eqD n a b with
  |none=>rw[hq] at e';cases e'
  |some c=>
   rw[hq] at e';refine oN I n r1 r2 w1 w2 hq hu X.prog X.w _ _ ?_;cases c with
   |true=>exact PySem.W.kat_yes (HS I hu q (i+1) (fun z=>absurd z (Nat.succ_ne_zero i)) rs1 rs2 ws1 ws2 e')
   |false=>
    refine PySem.W.kat_no ?_;refine JO I (true&&i==0) (fun hf=> ?_) r1 r2 w1 w2 e' (by omega) q;have hi:i=0:=by simpa using hf
    obtain⟨h1,h2⟩:=hk hi;constructor
    ·intro z;apply h1;cases a <;> first|rfl|cases z
    ·intro z;apply h2;cases b <;> first|rfl|cases z
theorem Nj (I:Inv X pins σ H s) (hu:A.units+n<dq) (h1:jQ a≠wf) (h2:jQ b≠wf) (ra:Rep X.K ok H x a) (rb:Rep X.K ok H y b) (rv:RelV x v) (ru:RelV y u) (e:dQ n a b=we k) (q:Q k s):
  aw (model X.prog X.w) A (keyLt' (tuples' true) v u) Q E s:=by
 unfold dQ at e;split at e
 ·rename_i as bs
  obtain⟨p,xs,rfl,g,rs⟩:=ra.tup_inv;obtain⟨p',xs',rfl,g',rs'⟩:=rb.tup_inv;cases rv;cases ru;obtain⟨its,rr,⟨o,t1,t2,m,t3⟩,_⟩:=I.tuple g.sq;obtain⟨its',rr',⟨o',t1',t2',m',t3'⟩,_⟩:=I.tuple g'.sq;refine PySem.W.kat_lt t1 t3 t1' t3' ?_;have l1:its.toArray.size=as.length:=by rw[az,<- rr.length,rs.length]
  have l2:its'.toArray.size=bs.length:=by rw[az,<- rr'.length,rs'.length]
  rw[l1,l2];simpa using HS I hu q 0 (fun _=>⟨h1,h2⟩) rs rs' rr rr' e
 ·cases e
theorem Vals.getD (r:Vals xs vs) (i:Nat):RelV (xs.getD i .non) (vs.getD i .none):=by
 rcases ou i xs.length with h|h
 ·obtain⟨u,e,ru⟩:=r.get (i:=i) (x:=xs[i]) (by simp[h]);rw[aq,aq,e,bj h];exact ru
 ·rw[aq,aq,c9 h,c9 (by rw[<- r.length];exact h)];rfl
theorem Reps.getD {K:aa} (r:Reps K ok H xs ds) (i:Nat):Rep K ok H (xs.getD i .non) (ds.getD i .non):=by
 rcases ou i ds.length with h|h
 ·obtain⟨v,e,rv⟩:=r.get (i:=i) (d:=ds[i]) (by simp[h]);rw[aq,aq,e,bj h];exact rv
 ·rw[aq,aq,c9 h,c9 (by rw[r.length];exact h)];exact .non
theorem Reps.pick {K:aa} (r:Reps K ok H xs ds):∀ is:List Nat,Reps K ok H (is.map fun i=>xs.getD i .non) (is.map fun i=>ds.getD i .non)
 |[]=>.nil
 |i::r'=>.cons (Reps.getD r i) (Reps.pick r r')
theorem Vals.pick (r:Vals xs vs):∀ is:List Nat,Vals (is.map fun i=>xs.getD i .non) (is.map fun i=>vs.getD i .none)
 |[]=>.nil
 |i::r'=>.cons (Vals.getD r i) (Vals.pick r r')
theorem vZ (I:Inv X pins σ H s) (c:Bool):∀ {ds:List D}{xs:List V}{vs:List ag},ds.all (fun d=>jQ d==we c)=true->Reps X.K ok H xs ds->Vals xs vs->∃ fs,PySem.W.KatTups s.heap vs fs/\fs.length=ds.length/\∀ v∈fs,PySem.W.Looks (model X.prog X.w) s.heap (typeOf v) (.type (if c then "int" else "str"))
 |[],_,_,_,.nil,.nil=>⟨[],by rw[PySem.W.KatTups.eq_1];trivial,rfl,fun v hv=>absurd hv (by simp)⟩
 |d::ds,_,_,h,.cons r rs,.cons w ws=>by
  rw[List.all_cons,bq] at h;obtain⟨fs,h1,h2,h3⟩:=vZ I c h.2 rs ws;have hd:jQ d=we c:=by simpa using h.1
  cases d with
  |tup as=>
   cases as with
   |nil=>cases hd
   |cons a as=>
    obtain⟨p,xs,rfl,g,rs'⟩:=r.tup_inv;cases w;cases rs' with
    |cons ra rs'=>
     obtain⟨its,rr,⟨o,t1,t2,m,t3⟩,_⟩:=I.tuple g.sq;cases rr with
     |cons wa rr=>
      rename_i u us
      refine⟨u::fs,?_,by simp[h2],fun v hv=> ?_⟩
      ·rw[PySem.W.KatTups.eq_2];exact⟨⟨p,o,_,m,rfl,t1,t2,t3,by simp⟩,h1⟩
      ·rcases ah.mp hv with rfl|hv
       ·cases a with
        |int i=>
         cases hd;obtain rfl:=ra.int_inv;obtain⟨t,rfl⟩:=wa;intro A Q E s' _ q;exact ak q
        |str i=>
         cases hd;obtain rfl:=ra.str_inv;obtain⟨t,rfl⟩:=wa;intro A Q E s' _ q;exact ak q
        |_=>cases hd
       ·exact h3 v hv
  |_=>cases hd
end
noncomputable def vH (h h0:cy) (L a:af):List (af×Obj):=(bu h.objs.size).filterMap fun b=>if b=L∨b=a∨(h0.get? b).isSome=true then wf else(h.get? b).map fun o=>(b,o)
theorem Bl (e:h.get? b=we o) (h1:b≠L) (h2:b≠a) (h3:h0.get? b=wf):(b,o)∈vH h h0 L a:=by
 unfold vH;refine gq.mpr ⟨b,jt.mpr (bi e),?_⟩;rw[if_neg (by simp[h1,h2,h3]),e];rfl
theorem nO (hp:p∈vH h h0 L a):h.get? p.1=we p.2/\p.1≠L/\p.1≠a/\h0.get? p.1=wf:=by
 obtain⟨b,_,e⟩:=gq.mp hp
 by_cases hc:b=L∨b=a∨(h0.get? b).isSome=true
 ·rw[if_pos hc] at e;cases e
 ·rw[if_neg hc] at e;obtain⟨o,e1,e2⟩:=aJ e;subst e2;refine⟨e1,fun z=>hc (.inl z),fun z=>hc (.inr (.inl z)),?_⟩;cases q:h0.get? b with
  |none=>rfl
  |some u=>exact absurd (.inr (.inr (by rw[q];rfl))) hc
theorem ME {h:cy} (h1:h.Ns a m) (h2:h.Ns a m'):m=m':=by
 obtain⟨o,es,ep,e1,e2,_,e3⟩:=h1;obtain⟨o',es',ep',g1,g2,_,g3⟩:=h2;rw[e1] at g1;cases g1;rw[e2] at g2;cases g2
 funext x
 rw[<- e3,g3]
theorem CN:∀ {us:List ag},xs.length=us.length->(∀(j:Nat) x v,xs[j]?=we x->us[j]?=we v->RelV x v)->Vals xs us:=by
 induction xs with
 |nil=>
  intro us h _;cases us with
  |nil=>exact .nil
  |cons _ _=>cases h
 |cons x r ih=>
  intro us h g;cases us with
  |nil=>cases h
  |cons u us=>exact .cons (g 0 x u rfl rfl) (ih (by simpa using h) fun j y v e1 e2=>g (j+1) y v (by simpa using e1) (by simpa using e2))
section
variable {X:Cx}{pins:List (af×Obj)}{σ:St}{H:Hp}{s:am}{ok:Okk}{A:de}{E:ag->am->Prop}
theorem JN (hk:jP ds=true) (e:dQ n (ds.getD i .non) (ds.getD j .non)=we c):jQ (ds.getD i .non)≠wf/\jQ (ds.getD j .non)≠wf:=by
 have inr:∀ i,ds.getD i .non≠ .non->jQ (ds.getD i .non)≠wf:=fun i hi=>by
  have hlt:i<ds.length:=by
   rcases ou i ds.length with h|h
   ·exact h
   ·rw[aq,c9 h] at hi;exact absurd rfl hi
  have hm:ds.getD i .non∈ds:=by
   rw[aq,bj hlt];exact i7 hlt
  unfold jP at hk;rw[iw] at hk;rcases hk with hk|hk
  ·have:=fz.mp hk _ hm
   intro z;rw[z] at this;cases this
  ·have:=fz.mp hk _ hm
   intro z;rw[z] at this;cases this
 refine⟨inr i fun z=> ?_,inr j fun z=> ?_⟩
 ·rw[z] at e;cases e
 ·rw[z] at e;unfold dQ at e;split at e
  ·rename_i h2
   cases h2
  ·cases e
theorem nE (I:Inv X pins σ H s) (col:∀ {R:List ag->am->Prop},(∀(h':cy) (tk:Nat) (acc:Array ag),(∀ b o,s.heap.get? b=we o->h'.get? b=we o)->ItemsOf P acc n->R acc.toList { s with heap:=h',toks:=tk })->aw (model X.prog X.w) A.in1 (collect (.ref r)) R E s) (hn2:2<=n) (hn:n<64) (hu:A.units+(m+2)<dq)
  (hx:xs.length=n) (hP:∀(j:Nat) v x,P j v->xs[j]?=we x->RelV x v) (rs:Reps X.K ok H xs ds) (hs:eX m ds=we out)
  (h:∀(h':cy) (tk:Nat) (ys:List V) (l:af),H l=wf->Inv X pins σ (upd H l (.lst ys)) { s with heap:=h',toks:=tk }->Reps X.K ok H ys out->Q (.ref l) { s with heap:=h',toks:=tk }):
  aw (model X.prog X.w) A (call (.builtin "sorted") [.ref r]) Q E s:=by
 have hl':ds.length=n:=by rw[<- rs.length];exact hx
 unfold eX at hs;rw[if_neg (by omega)] at hs;obtain⟨⟨_,hk⟩,hs⟩:=cO hs;obtain⟨p,hrun,hs⟩:=bind_some hs;obtain⟨hpl,hs⟩:=bI hs;refine p8 kind_sorted plain_sorted entry_sorted (args_sorted1 _) ?_;unfold Builtin.«sorted»;refine ae (m:=checkCount "sorted" 1 1 _) (ak (ae (col fun h1 tk acc kp it=> ?_)));have hl:acc.toList.length=n:=by rw[dw];exact it.1
 refine ae (tz ?_ (by rw[hl,bw];omega));have o1:(h1.push (gw "list" acc.toList.toArray 0)).get? h1.objs.size=we (gw "list" acc.toList.toArray 0):=bz _ rfl;have nw:s.heap.get? h1.objs.size=wf:=by
  cases q:s.heap.get? h1.objs.size with
  |none=>rfl
  |some u=>exact absurd (bi (kp _ _ q)) (gg _)
 have hH:H h1.objs.size=wf:=by
  cases q:H h1.objs.size with
  |none=>rfl
  |some u=>
   obtain⟨v,w⟩:=HOk.obj I.hok q;rw[nw] at w;cases w
 obtain⟨mL,hnL,_⟩:=I.loc;have kp2:∀ b o,s.heap.get? b=we o->(h1.push (gw "list" acc.toList.toArray 0)).get? b=we o:=fun b o e=>ay _ (kp b o e);have fr:Fr X.base X.env.locals (h1.push (gw "list" acc.toList.toArray 0)) mL:=⟨hnL.keeps kp2,fun b o e=>kp2 b o (I.bk b o e),ce I.ok.bsz I.ok.above⟩;have aL:h1.objs.size≠X.env.locals:=fun z=>by
  obtain⟨oL,_,_,hoL,_⟩:=id hnL;rw[<- z,nw] at hoL;cases hoL
 have hb0:X.base.get? h1.objs.size=wf:=by
  cases q:X.base.get? h1.objs.size with
  |none=>rfl
  |some u=>
   have:=I.bk _ _ q
   rw[nw] at this;cases this
 have rv:Vals xs acc.toList:=by
  refine CN (by rw[hx,hl]) fun j x v e1 e2=> ?_;exact hP j v x (it.2 j v (by rw[<- g8];exact e2)) e1
 refine ae (im (g9 slot_list_sort ⟨_,o1,rfl⟩ entry_list_sort (PySem.W.kat_list_sort (s:={ s with heap:=h1.push (gw "list" acc.toList.toArray 0),toks:=tk }) (news:=vH (h1.push (gw "list" acc.toList.toArray 0)) X.base X.env.locals h1.objs.size) fr (fun q hq=>let ⟨z1,z2,z3,z4⟩:=nO hq;⟨z1,z2,z4⟩) o1 aL hb0 (fun q hq=>(nO hq).2.2.1) (by rw[hl];exact hn2) (by rw[hl];exact hn) fun e1 h' fr' nw'=> ?_) (args_list_sort _)))
 -- the state in its midst
 have keep:∀ {h':cy},Fr X.base X.env.locals h' mL->News X.base X.env.locals h' (vH (h1.push (gw "list" acc.toList.toArray 0)) X.base X.env.locals h1.objs.size)->∀ b o,b≠X.env.locals->s.heap.get? b=we o->h'.get? b=we o:=fun {h'} fr' nw' b o hb e=>by
  have hne:b≠h1.objs.size:=fun z=>by rw[z,nw] at e;cases e
  cases q:X.base.get? b with
  |some u=>
   have:=I.bk b u q
   rw[e] at this;cases this;exact fr'.keep b _ q
  |none=>exact(nw' _ (Bl (kp2 b o e) hb hne q)).1
 have nsk:∀ {h':cy},Fr X.base X.env.locals h' mL->∀ m,s.heap.Ns X.env.locals m->h'.Ns X.env.locals m:=fun {h'} fr' m hm=>by
  rw[ME hm hnL];exact fr'.ns
 have I1:Inv X pins σ H { s with heap:=h',toks:=tk }:=I.moved (keep fr' fun q hq=>nw' q (ai _ hq)) (nsk fr');have hka:∃ c:Bool,ds.all (fun d=>jQ d==we c)=true:=by
  unfold jP at hk;rw[iw] at hk;rcases hk with hk|hk
  ·exact⟨true,hk⟩
  ·exact⟨false,hk⟩
 obtain⟨c,hka⟩:=hka;obtain⟨fs,f1,f2,f3⟩:=vZ I1 c hka rs rv;refine PySem.W.kat_kind f1 (by rw[f2];omega) f3 (by cases c <;> rfl) ?_;have hT:((kz (if c=true then "int" else "str")) !=kz "tuple")=true:=by cases c <;> rfl
 rw[hT,hl,<- hl'];refine Cz (fun i j c C e q=> ?_) hrun ?_
 ·obtain⟨k1,k2⟩:=JN hk e;exact Nj I1 (dE (dE hu)) k1 k2 (Reps.getD rs i) (Reps.getD rs j) (Vals.getD rv i) (Vals.getD rv j) e q
 ·refine⟨_,_,fr',nw',.head (fun q hq=>(nO hq).2.2.1),fun h2 cc fr2 nw2=>⟨_,rfl,?_⟩⟩;have na2:h2.get? h1.objs.size=we (PySem.W.listOf (List.map (fun i=>acc.toList.getD i hW) p.toList).toArray cc):=(nw2 _ au).1;have I2:Inv X pins σ (upd H h1.objs.size (.lst (p.toList.map fun i=>xs.getD i .non))) { s with heap:=h2,toks:=tk }:=by
   have kk:=keep fr2 fun q hq=>nw2 q (ai _ hq);refine I.movedN kk (nsk fr2) (fun b o e=> ?_) (fun b u e=> ?_) fun b u e=> ?_
   ·rw[aG (fun z=>by rw[z,nw] at e;cases e)]
   ·rw[aG (aN e hH)];exact e
   ·by_cases hb:b=h1.objs.size
    ·subst hb;rw[aP] at e;cases e;refine⟨?_,_,cc,Vals.pick rv p.toList,na2⟩;rw[ar,bw];omega
    ·rw[aG hb] at e;have nl:∀ {c:af}{o:HO},H c=we o->c≠X.env.locals:=fun e z=>by rw[z,I.free] at e;cases e
     refine(I.hok b u e).stay (fun c v hc q=> ?_) (fun c q=>by rw[aG (aN q hH)];exact q) fun c xs q=>by rw[aG (aN q hH)];exact q
     rcases hc with rfl|hc
     ·exact kk c v (nl e) q
     ·exact kk c v (nl hc) q
  cases hs;exact ak ⟨_,rfl,h h2 tk _ _ hH I2 (Reps.pick rs p.toList)⟩
theorem wZ (I:Inv X pins σ H s) (K:sj X.prog X.w T r d n P OK) (hh:A.handled=wf) (hok:OK s.heap) (hn2:2<=n) (hn:n<64) (hu:A.units+(m+2)<dq)
  (hx:xs.length=n) (hP:∀(j:Nat) v x,P j v->xs[j]?=we x->RelV x v) (rs:Reps X.K ok H xs ds) (hs:eX m ds=we out)
  (h:∀(h':cy) (tk:Nat) (ys:List V) (l:af),H l=wf->Inv X pins σ (upd H l (.lst ys)) { s with heap:=h',toks:=tk }->Reps X.K ok H ys out->Q (.ref l) { s with heap:=h',toks:=tk }):
  aw (model X.prog X.w) A (call (.builtin "sorted") [.ref r]) Q E s:=
 nE I (fun h=>t7 (A:=A.in1) K hh hok (by rw[bw];omega) h) hn2 hn hu hx hP rs hs h
end
section
variable {X:Cx}{cls exC:Nat->af}{E:XE}{e a b c o i value:br}{es rest:List br}{fa fb fc fo fi fv:OG D}{fl:OG (List D)}{ft ft':OG Bool}{pos p apos pos' cpos:Pos}{x m:Str}{st:cq}
noncomputable def NQ (K:aa) (n:Nat):List V->Hp->VK->Prop:=fun xs H Q=>∃ v d kvs ds out ok,xs=[.ref v]/\H v=we (KE v d)/\H d=we (.dT kvs)/\Reps K ok H (kvs.map (·.2)) ds/\eX n ds=we out/\∀ l ys,H l=wf->Reps K ok H ys out->Q (.ref l) (upd H l (.lst ys))
theorem uV (h:eX n ds=we out) (hl:ds.length<2):out=ds:=by
 unfold eX at h;rw[if_pos hl] at h;cases h;rfl
theorem uU (h:eX n ds=we out) (hl:¬ ds.length<2):ds.length<64:=by
 unfold eX at h;rw[if_neg hl] at h;exact(cO h).1.1
theorem EE (hc:X.calm=true) (hu:X.A.units+(n+2)<dq):CallR X (.builtin "sorted") (NQ X.K n):=by
 intro pins s σ H xs us Q I r h;obtain⟨v,d,kvs,ds,out,ok,rfl,hv,hd,rs,hs,q⟩:=h;have hlen:ds.length=kvs.length:=by rw[<- rs.length,ar]
 by_cases hl:ds.length<2
 ·obtain rfl:=uV hs hl;exact wK hc pins s σ H _ us Q I r ⟨v,d,kvs,rfl,hv,hd,by omega,fun l nl=>q l _ nl rs⟩
 ·obtain⟨u,rfl,rx⟩:=lX r;cases rx;obtain⟨lo,hz,es,ep,rd,sz,it⟩:=rK I (.inl hd);have vw:s.heap.IsValuesView v d:=(show ObjOk X.prog X.w H s.heap v (KE v d) from I.hok v _ hv).1;have h64:=uU hs hl;refine wZ I (qG (d:=d) (es:=es) (ep:=ep)) (I.ok.hd hc) ⟨vw,rd⟩ (by omega) (by omega) hu (by rw[ar,sz]) (fun j v x hp hx=> ?_) rs hs fun h' tk ys l nl I' rs'=>⟨.ref l,_,I',rfl,q l ys nl rs'⟩;obtain⟨y,y1,y2⟩:=hp;obtain⟨p,p1,p2,_⟩:=it j y y1;rw[bf,p1] at hx;cases hx;rw[y2];exact p2
noncomputable def DX (n:Nat) (ω:Om) (d:D):Option D:=match cellOf ω d with
 |some (.dt kvs)=>(eX n (kvs.map (·.2))).map D.lst
 |_=>wf
noncomputable def FR (n:Nat) (f:OG D):OG D:=oB f fun d _ ω=>oR (pu (DX n ω d) ω)
theorem Jo (hu:X.A.units+(n+2)<dq) (hc:X.calm=true) (hg:Gl X "sorted") (hm:X.mg "sorted"=wf) (ho:OE X cls E o fo) (hbase:hV o "values" X.env (eval o X.env)=eval o X.env:=by rfl) (hline:(ap.endLine==cp.line)=true:=by rfl)
  (he:av [.Call (.Attribute o "values" ap) [] [] cp] X.env=(false,eval (.Call (.Attribute o "values" ap) [] [] cp) X.env)::av [] X.env:=by rfl) (hpl:(df pos (av [] X.env)).any (·.1)=false:=by rfl):
  OE X cls E (.Call (.Name "sorted" p) [.Call (.Attribute o "values" ap) [] [] cp] [] pos) (FR n fo):=
 (sF (EE hc hu) hg hm boot.sorted (nK (LF qp ql PySem.F.type_dict_values Dk ho hbase hline) Ag he) (by decide) (by decide) he hpl).imp fun σ H Q ⟨ok,ρ,ω,r,ω',P,e,q⟩=>by
  refine tO.then_ P e (fun c z=>by subst z;exact q) fun d ω1 v ok1 H1 e1 n1 P1 r1=> ?_;obtain⟨y,e3,rfl⟩:=cF e1;obtain⟨ue3,rfl⟩:=cN e3;unfold DX at ue3;split at ue3
  ·rename_i kvs hcell
   obtain⟨k,rfl,e4⟩:=dX hcell;obtain⟨out,e5,rfl⟩:=aJ ue3;obtain⟨a,rfl,e6,vs,e7,kv⟩:=P1.st.ref r1 e4;refine⟨.inr (.inr (.inl ⟨rfl,.inr ⟨vs,e7⟩⟩)),a,vs,rfl,rfl,e7,fun w nw=> ?_⟩;have hne:a≠w:=aN e7 nw;have s2:=bW (o:=KE w a) nw;refine⟨w,a,vs,_,out,ok1,rfl,aP,by rw[aG hne];exact e7,kv.vals.same s2,e5,fun l ys nl rs=> ?_⟩;have s3:=bW (o:=.lst ys) nl;exact q _ ok1 _ (n1.trans (.same P1.okh P1.st (s2.trans s3))) (.lst_new (P1.okh l (s2.free nl)) nl rs)
  ·cases ue3
end
section
variable {X:Cx}{cls exC:Nat->af}{E:XE}{e a b c o i o2 i2 value:br}{es rest:List br}{fa fb fc fo fi fo2 fi2 fv:OG D}{fl:OG (List D)}{ft ft':OG Bool}{pos p apos pos' pos2 tp cpos:Pos}{x m:Str}{st:cq}
theorem JD (ha:OE X cls E a fa) (hb:OE X cls E b fb):OE X cls E (.BinOp a .Add b pos) (MB.o2 (lf Kf) fa fb):=sI Bg (Fit2.lift (fun ok H x y a b d Q h1 ra rb e k=>by
 cases a with
 |str u=>cases b with
  |str v=>
   obtain⟨hz,rfl⟩:=bI (show(if u.length+v.length<=sizeLine then we (D.str (u++v)) else wf)=we d from e);exact⟨u,v,ra.str_inv,rb.str_inv,hz,k _ H (Same.refl H) (.str _)⟩
  |_=>cases e
 |_=>cases e)) ha hb
theorem Js (ha:OE X cls E a fa) (hb:OE X cls E b fb):OE X cls E (.BinOp a .Mult b pos) (MB.o2 (lf Ke) fa fb):=sI Jh (Fit2.lift (fun ok H x y a b d Q h1 ra rb e k=>by
 cases a with
 |str u=>cases b with
  |int v=>
   obtain⟨hz,rfl⟩:=bI (show(if 0<=v/\v<=100000/\u.length<=100 then we (D.str (Nq u v)) else wf)=we d from e);exact⟨u,v,ra.str_inv,rb.int_inv,hz,k _ H (Same.refl H) (.str _)⟩
  |_=>cases e
 |_=>cases e)) ha hb
noncomputable def gQ (ω:Om) (d:D):D:=match fL ω d with
 |some ds=>.lst ds
 |none=>d
theorem iY {K:aa} (t:Stt cls K ok H ω) (r:Rep K ok H v d):Rep K ⟨fun _=>True,ok.al⟩ H v (gQ ω d):=by
 unfold gQ;cases hs:fL ω d with
 |some ds=>exact uX t r hs
 |none=>exact r.wide
noncomputable def fV (n:Nat) (ω:Om) (a b:D):Option (D×Om):=pu (gEq n (gQ ω a) (gQ ω b)) ω
noncomputable def KJ (n:Nat) (ω:Om) (a b:D):Option (D×Om):=pu (gNe n (gQ ω a) (gQ ω b)) ω
theorem Eh {K:aa}:wR cls K (Pk K n) (fV n):=fun ok H ω x y a b d ω' Q h1 st ra rb e k=>by
 obtain⟨ue,rfl⟩:=cN e;obtain⟨c,e1,rfl⟩:=aJ ue;exact⟨_,_,_,c,iY st ra,iY st rb,e1,k _ ok H (.refl h1 st) (.bl _)⟩
theorem Kh {K:aa}:wR cls K (Pf K n) (KJ n):=fun ok H ω x y a b d ω' Q h1 st ra rb e k=>by
 obtain⟨ue,rfl⟩:=cN e;obtain⟨c,e1,rfl⟩:=aJ ue;exact⟨_,_,_,c,iY st ra,iY st rb,e1,k _ ok H (.refl h1 st) (.bl _)⟩
theorem Mw (hu:Hw X n) (ha:OE X cls E a fa) (hb:OE X cls E b fb):OE X cls E (.Compare a [.Eq] [b] pos) (MB.o2 (fV n) fa fb):=CZ (HM hu) Eh ha hb (iC _)
theorem LP (hu:Hw X n) (ha:OE X cls E a fa) (hb:OE X cls E b fb):OT X cls E (.Compare a [.Eq] [b] pos) (cC (MB.o2 (fV n) fa fb)):=jD (HM hu) Eh ha hb (iC _)
theorem LN (hu:Hw X n) (ha:OE X cls E a fa) (hb:OE X cls E b fb):OT X cls E (.Compare a [.NotEq] [b] pos) (cC (MB.o2 (KJ n) fa fb)):=jD (Ma hu) Kh ha hb (iC _)
noncomputable def oIT (f:OG D):OI':=oB f fun d _ ω=>oR (pu (match d with|.tup ds=>we (ds,cM)|_=>wf) ω)
theorem Mm (h:OE X cls E e fa):OI X cls E tg e (oIT fa):=PI.imp (Lr h) fun σ H R ⟨ok,ρ,ω,r,ω',P,e,q⟩=>by
 refine tO.then_ P e (fun c z=>by subst z;exact q) fun d ω1 v ok1 H1 e1 n1 P1 r1=> ?_;obtain⟨⟨ds,chk⟩,e3,rfl⟩:=cF e1;obtain⟨ue3,rfl⟩:=cN e3;split at ue3
 ·cases ue3;obtain⟨a,xs,rfl,g,rs⟩:=r1.tup_inv;refine⟨a,rfl,⟨xs,g.sq⟩,q _ ok1 H1 n1 ⟨fun i ok H ω n c hi=> ?_,fun i ok H ω x H' d n c y hd=> ?_,fun i ok H ω n c hi=>⟨xs,(g.mono n.ex.dat).sq,by rw[rs.length];exact hi⟩⟩⟩
  ·have hi':i<xs.length:=by rw[rs.length];exact hi
   exact⟨xs,xs[i],(g.mono n.ex.dat).sq,by simp[hi']⟩
  ·obtain⟨rfl,y⟩:=y;have rs':=rs.ex n.ex;obtain⟨w,z1,z2⟩:=rs'.get hd;rw[y xs (g.mono n.ex.dat).sq] at z1;cases z1;exact⟨Same.refl _,z2⟩
 ·cases ue3
end
end L2.MB
end
section
namespace L2.MB
open PySem PySem.Spec PyProof.Rows PySem.W
noncomputable def Tree {α:Type} (n:Nat) (Q:α->Prop):KasT α->Prop
 |.ret a=>Q a
 |.ask i j k=>i<n/\j<n/\∀ b,Tree n Q (k b)
theorem Tree.bind {f:α->KasT β} (g:∀ a,Q a->Tree n R (f a)):∀ {t:KasT α},Tree n Q t->Tree n R (t.bind f)
 |.ret a,h=>by rw[KasT.bind.eq_1];exact g a h
 |.ask i j k,h=>by
  rw[KasT.bind.eq_2];exact⟨h.1,h.2.1,fun b=>Tree.bind g (h.2.2 b)⟩
theorem Tree.run (hl:∀ i j,i<n->j<n->∃ c,lt i j=we c):∀ {t:KasT α},Tree n Q t->∃ a,Iq lt t=we a/\Q a
 |.ret a,h=>⟨a,rfl,h⟩
 |.ask i j k,h=>by
  obtain⟨c,e⟩:=hl i j h.1 h.2.1;obtain⟨a,e2,q⟩:=Tree.run hl (h.2.2 c);refine⟨a,?_,q⟩
  show(lt i j).bind _=_
  rw[e];exact e2
noncomputable def Pm (n:Nat) (p:Array Nat):Prop:=p.Perm (bu n).toArray
theorem Pm.lt (h:Pm n p) (h0:0<n) (i:Nat):p.getD i 0<n:=by
 rw[cm];cases q:p[i]? with
 |none=>exact h0
 |some x=>
  have hm:x∈p:=Array.mem_of_getElem? q
  have:x∈(bu n).toArray:=(h.mem_iff).mp hm
  simpa using this
theorem Pm.rev (h:Pm n p) (i j:Nat):Pm n (kas_rev p i j):=(mirror_perm p i j _).trans h
theorem Pm.bub (h:Pm n p) (k d:Nat):Pm n (bubble p k d):=(bubble_perm p k d).trans h
section
variable {n:Nat} (h0:0<n)
include h0
theorem rY (hp:Pm n p):∀(f m:Nat),Tree n (fun _=>True) (kas_asc p f m)
 |0,m=>by rw[kas_asc.eq_def];trivial
 |f+1,m=>by
  rw[kas_asc.eq_def];refine⟨hp.lt h0 _,hp.lt h0 _,fun b=> ?_⟩;cases b with
  |true=>(dsimp only;rw[if_pos rfl]);trivial
  |false=>(dsimp only;rw[if_neg cf]);exact rY hp f (m+1)
theorem kB:∀(f:Nat) {p:Array Nat} (m q:Nat),Pm n p->Tree n (fun r:Array Nat×Nat×Nat=>Pm n r.1) (kas_desc f p m q)
 |0,p,m,q,hp=>by rw[kas_desc.eq_def];exact hp
 |f+1,p,m,q,hp=>by
  rw[kas_desc.eq_def];refine⟨hp.lt h0 _,hp.lt h0 _,fun b=> ?_⟩;cases b with
  |true=>
   (dsimp only;rw[if_pos rfl])
   by_cases hq:q>0
   ·rw[if_pos hq];exact kB f _ _ (hp.rev _ _)
   ·rw[if_neg hq];exact kB f _ _ hp
  |false=>
   (dsimp only;rw[if_neg cf])
   refine⟨hp.lt h0 _,hp.lt h0 _,fun b=> ?_⟩;cases b with
   |true=>(dsimp only;rw[if_pos rfl]);exact hp
   |false=>(dsimp only;rw[if_neg cf]);exact kB f _ _ hp
theorem uN (m r:Nat) (hp:Pm n p):Tree n (fun r:Nat×Array Nat=>Pm n r.2) (kas_tail3 m r p):=by
 unfold kas_tail3;refine Tree.bind (Q:=fun _=>True) (fun a _=> ?_) (rY h0 (hp.rev _ _) _ _);exact hp.rev _ _
theorem kA (m r:Nat) (hp:Pm n p):Tree n (fun r:Nat×Array Nat=>Pm n r.2) (kas_descPart m r p):=by
 unfold kas_descPart;refine(kB h0 _ _ _ hp).bind fun a ha=> ?_;split
 ·exact uN h0 _ _ (Pm.rev ha _ _)
 ·exact uN h0 _ _ ha
theorem AV (r:Nat) (hp:Pm n p):Tree n (fun r:Nat×Array Nat=>Pm n r.2) (kas_count r p):=by
 unfold kas_count;refine(rY h0 hp _ _).bind fun a _=> ?_;split
 ·exact hp
 ·split
  ·refine⟨hp.lt h0 _,hp.lt h0 _,fun b=> ?_⟩;cases b with
   |true=>(dsimp only;rw[if_pos rfl]);exact hp
   |false=>(dsimp only;rw[if_neg cf]);exact kA h0 _ _ (hp.rev _ _)
  ·exact kA h0 _ _ hp
theorem lB (hp:Pm n p) (k:Nat):∀(f l r:Nat),Tree n (fun _=>True) (kas_place p k f l r)
 |0,l,r=>by rw[kas_place.eq_def];trivial
 |f+1,l,r=>by
  rw[kas_place.eq_def];show Tree n _ (if l≥r then _ else _);split
  ·trivial
  ·refine⟨hp.lt h0 _,hp.lt h0 _,fun b=> ?_⟩;cases b with
   |true=>(dsimp only;rw[if_pos rfl]);exact lB hp k f _ _
   |false=>(dsimp only;rw[if_neg cf]);exact lB hp k f _ _
theorem zU:∀(f:Nat) {p:Array Nat} (k:Nat),Pm n p->Tree n (fun r:Array Nat=>Pm n r) (kas_bin f p k)
 |0,p,k,hp=>by rw[kas_bin.eq_def];exact hp
 |f+1,p,k,hp=>by
  rw[kas_bin.eq_def];exact(lB h0 hp k _ _ _).bind fun l _=>zU f _ (hp.bub _ _)
theorem uO:Tree n (fun r:Array Nat=>Pm n r) (kas_sort n):=by
 unfold kas_sort;refine(AV h0 _ (vn _)).bind fun r hr=> ?_;split
 ·exact zU h0 _ _ hr
 ·exact hr
end
theorem zY (h64:ds.length<64) (hk:jP ds=true) (hl:∀ a∈ds,∀ b∈ds,∃ c,dQ m a b=we c):∃ out,eX m ds=we out/\out.Perm ds:=by
 unfold eX
 by_cases h2:ds.length<2
 ·rw[if_pos h2];exact⟨ds,rfl,.refl _⟩
 ·rw[if_neg h2,if_pos ⟨h64,hk⟩];have gm:∀ i,i<ds.length->ds.getD i .non∈ds:=fun i hi=>by
   rw[aq,bj hi];exact i7 hi
  obtain⟨p,e,hp⟩:=Tree.run (n:=ds.length) (lt:=fun i j=>dQ m (ds.getD i .non) (ds.getD j .non)) (fun i j hi hj=>hl _ (gm i hi) _ (gm j hj)) (uO (n:=ds.length) (by omega));rw[e];have pl:p.toList.Perm (bu ds.length):=by
   have:=hp
   unfold Pm at this;rw[pp] at this;simpa using this
  have hl2:p.toList.length<=64:=by rw[pl.length_eq,ib];omega
  refine⟨_,by show(if p.toList.length<=64 then _ else wf)=_;rw[if_pos hl2],?_⟩;refine(pl.map _).trans ?_
  have:(bu ds.length).map (fun i=>ds.getD i .non)=ds:=by
   apply jl;intro i;rw[bf];rcases ou i ds.length with h|h
   ·rw[g7 h,bj h];show we (ds.getD i .non)=_;rw[aq,bj h];rfl
   ·rw[c9 h,c9 (by simpa using h)];rfl
  rw[this]
noncomputable def TreeL {α:Type} (L:Nat->Nat->Bool) (Q:α->Prop):KasT α->Prop
 |.ret a=>Q a
 |.ask i j k=>TreeL L Q (k (L i j))
theorem TreeL.bind {f:α->KasT β} (g:∀ a,Q a->TreeL L R (f a)):∀ {t:KasT α},TreeL L Q t->TreeL L R (t.bind f)
 |.ret a,h=>by rw[KasT.bind.eq_1];exact g a h
 |.ask i j k,h=>by
  rw[KasT.bind.eq_2];exact TreeL.bind g h
theorem TreeL.run:∀ {t:KasT α}{a:α},TreeL (fun i j=>lt i j==we true) Q t->Iq lt t=we a->Q a
 |.ret a,_,h,e=>by cases e;exact h
 |.ask i j k,a,h,e=>by
  change TreeL _ Q (k (lt i j==we true)) at h
  change (lt i j).bind (fun c=>Iq lt (k c))=we a at e
  cases hq:lt i j with
  |none=>rw[hq] at e;cases e
  |some c=>
   rw[hq] at e h
   have:(we c==we true)=c:=by cases c <;> rfl
   rw[this] at h;exact TreeL.run h e
theorem Tree.run':∀ {t:KasT α}{a:α},Tree n Q t->Iq lt t=we a->Q a
 |.ret a,_,h,e=>by cases e;exact h
 |.ask i j k,a,h,e=>by
  obtain⟨c,e1,e2⟩:=bind_some (show(lt i j).bind _=_ from e);exact Tree.run' (h.2.2 c) e2
section
variable {n:Nat}{L:Nat->Nat->Bool} (ht:∀ i j,i<n->j<n->i≠j->L i j=false->L j i=true) (hr:∀ i j k,i<n->j<n->k<n->L i j=true->L j k=true->L i k=true)
noncomputable def Asc (L:Nat->Nat->Bool) (p:Array Nat) (m:Nat):Prop:=∀ i j,i<j->j<m->L (p.getD i 0) (p.getD j 0)=true
noncomputable def Dsc (L:Nat->Nat->Bool) (p:Array Nat) (m:Nat):Prop:=∀ i j,i<j->j<m->L (p.getD j 0) (p.getD i 0)=true
theorem Pm.size (h:Pm n p):p.size=n:=by
 have:=h.size_eq
 simpa using this
theorem Pm.ne (h:Pm n p) (hi:i<n) (hj:j<n) (hne:i≠j):p.getD i 0≠p.getD j 0:=by
 have pl:p.toList.Perm (bu n):=by
  have:=h
  unfold Pm at this;rw[pp] at this;simpa using this
 have nd:p.toList.Nodup:=pl.nodup_iff.mpr List.nodup_range;have hs:=h.size;intro z;have gi:p.getD i 0=p.toList[i]'(by simp[hs,hi]):=by
  rw[cm,jp (by omega)];simp
 have gj:p.getD j 0=p.toList[j]'(by simp[hs,hj]):=by
  rw[cm,jp (by omega)];simp
 rw[gi,gj] at z;have pw:=ls.mp nd;rcases Nat.lt_or_gt_of_ne hne with q|q
 ·exact pw i j _ _ q z
 ·exact pw j i _ _ q z.symm
include ht hr in
theorem Hn {p:Array Nat} (h0:0<n) (hp:Pm n p) {m:Nat} (h1:1<=m) (hm:m<n) (a:Asc L p m) (c:L (p.getD m 0) (p.getD (m-1) 0)=false):Asc L p (m+1):=by
 have up:=ht _ _ (hp.lt h0 m) (hp.lt h0 (m-1)) (hp.ne hm (by omega) (by omega)) c;intro i j hij hj
 by_cases e:j=m
 ·subst e
  by_cases e2:i=j-1
  ·rw[e2];exact up
  ·exact hr _ _ _ (hp.lt h0 _) (hp.lt h0 _) (hp.lt h0 _) (a i (j-1) (by omega) (by omega)) up
 ·exact a i j hij (by omega)
include ht hr in
theorem xG {p:Array Nat} (h0:0<n) (hp:Pm n p):∀(f m:Nat),1<=m->m+f<=n->Asc L p m->TreeL L (fun q=>m<=q/\q<=m+f/\Asc L p q/\(q<m+f->L (p.getD q 0) (p.getD (q-1) 0)=true)) (kas_asc p f m)
 |0,m,h1,hm,a=>by
  rw[kas_asc.eq_def];exact⟨bc _,bc _,a,fun z=>by omega⟩
 |f+1,m,h1,hm,a=>by
  rw[kas_asc.eq_def];show TreeL L _ (if L (p.getD m 0) (p.getD (m-1) 0)=true then KasT.ret m else kas_asc p f (m+1));cases c:L (p.getD m 0) (p.getD (m-1) 0) with
  |true=>
   rw[if_pos rfl];exact⟨bc _,by omega,a,fun _=>c⟩
  |false=>
   rw[if_neg cf];have ih:=xG h0 hp f (m+1) (by omega) (by omega) (Hn ht hr h0 hp h1 (by omega) a c)
   have:m+1+f=m+(f+1):=by omega
   rw[this] at ih;have mono:∀ {t:KasT Nat},TreeL L (fun q=>m+1<=q/\q<=m+(f+1)/\Asc L p q/\(q<m+(f+1)->L (p.getD q 0) (p.getD (q-1) 0)=true)) t->TreeL L (fun q=>m<=q/\q<=m+(f+1)/\Asc L p q/\(q<m+(f+1)->L (p.getD q 0) (p.getD (q-1) 0)=true)) t:=by
    intro t
    induction t with
    |ret a=>exact fun h=>⟨by have:=h.1;omega,h.2⟩
    |ask i j k ih=>exact fun h=>ih _ h
   exact mono ih
include ht hr in
theorem Ai {p:Array Nat} (h0:0<n) (hp:Pm n p):∀(f m:Nat),1<=m->m+f<=n->Dsc L p m->TreeL L (fun r:Array Nat×Nat×Nat=>r.1=p/\r.2.2=0/\m<=r.2.1/\r.2.1<=m+f/\Dsc L p r.2.1) (kas_desc f p m 0)
 |0,m,h1,hm,a=>by
  rw[kas_desc.eq_def];exact⟨rfl,rfl,bc _,bc _,a⟩
 |f+1,m,h1,hm,a=>by
  rw[kas_desc.eq_def];show TreeL L _ (if L (p.getD m 0) (p.getD (m-1) 0)=true then(if 0>0 then kas_desc f (kas_rev p (m-(0+1)) m) (m+1) 0 else kas_desc f p (m+1) 0) else KasT.ask (p.getD (m-1) 0) (p.getD m 0) fun d=>if d=true then .ret (p,m,0) else kas_desc f p (m+1) (0+1));cases c:L (p.getD m 0) (p.getD (m-1) 0) with
  |true=>
   rw[if_pos rfl,if_neg (gg 0)];have a':Dsc L p (m+1):=by
    intro i j hij hj
    by_cases e:j=m
    ·subst e
     by_cases e2:i=j-1
     ·rw[e2];exact c
     ·exact hr _ _ _ (hp.lt h0 _) (hp.lt h0 _) (hp.lt h0 _) c (a i (j-1) (by omega) (by omega))
    ·exact a i j hij (by omega)
   have ih:=Ai h0 hp f (m+1) (by omega) (by omega) a';have mono:∀ {t:KasT (Array Nat×Nat×Nat)},TreeL L (fun r:Array Nat×Nat×Nat=>r.1=p/\r.2.2=0/\m+1<=r.2.1/\r.2.1<=m+1+f/\Dsc L p r.2.1) t->TreeL L (fun r:Array Nat×Nat×Nat=>r.1=p/\r.2.2=0/\m<=r.2.1/\r.2.1<=m+(f+1)/\Dsc L p r.2.1) t:=by
    intro t
    induction t with
    |ret a=>exact fun h=>⟨h.1,h.2.1,by have:=h.2.2.1;omega,by have:=h.2.2.2.1;omega,h.2.2.2.2⟩
    |ask i j k ih=>exact fun h=>ih _ h
   exact mono ih
  |false=>
   rw[if_neg cf];show TreeL L _ (if L (p.getD (m-1) 0) (p.getD m 0)=true then KasT.ret (p,m,0) else _);rw[if_pos (ht _ _ (hp.lt h0 _) (hp.lt h0 _) (hp.ne (by omega) (by omega) (by omega)) c)];exact⟨rfl,rfl,bc _,by show m<=m+(f+1);omega,a⟩
theorem Ax (hm:m<=p.size) (hk:k<m):(kas_rev p 0 m).getD k 0=p.getD (m-1-k) 0:=by
 unfold kas_rev;rw[cm,cm,getElem?_mirror_all hm,if_pos ⟨ic _,hk⟩,Nat.zero_add]
theorem Dsc.rev (hm:m<=p.size) (d:Dsc L p m):Asc L (kas_rev p 0 m) m:=fun i j hij hj=>by
 rw[Ax hm (by omega),Ax hm hj];exact d _ _ (by omega) (by omega)
include ht hr in
theorem CQ {p:Array Nat} (h2:2<=n) (hp:Pm n p):TreeL L (fun r:Nat×Array Nat=>Pm n r.2/\1<=r.1/\r.1<=n/\Asc L r.2 r.1) (kas_count n p):=by
 have h0:0<n:=by omega
 unfold kas_count;refine(xG ht hr h0 hp (n-1) 1 (bc _) (by omega) fun i j hij hj=>by omega).bind fun q hq=> ?_;obtain⟨q1,q2,qa,qs⟩:=hq
 by_cases e:q=n
 ·rw[if_pos (by simpa using e)];exact⟨hp,q1,by omega,qa⟩
 ·rw[if_neg (by simpa using e)]
  by_cases h1:q>1
  ·rw[if_pos h1];show TreeL L _ (if L (p.getD 0 0) (p.getD (q-1) 0)=true then KasT.ret (q,p) else _);rw[if_pos (qa 0 (q-1) (by omega) (by omega))];exact⟨hp,q1,by omega,qa⟩
  ·rw[if_neg h1];have hq1:q=1:=by omega
   subst hq1;have c:=qs (by omega);unfold kas_descPart;refine(Ai ht hr h0 hp (n-(1+1)) (1+1) (by omega) (by omega) fun i j hij hj=> ?_).bind fun r hrr=> ?_
   ·have:i=0/\j=1:=by omega
    rw[this.1,this.2];exact c
   ·obtain⟨r1,r2,r3,r4,r5⟩:=hrr;rw[if_neg (by omega),r1];unfold kas_tail3;have hs:=hp.size;refine(xG ht hr h0 (hp.rev 0 r.2.1) (n-r.2.1) r.2.1 (by omega) (by omega) (r5.rev (by omega))).bind fun m hm=> ?_;exact⟨hp.rev _ _,by have:=hm.1;show 1<=m;omega,by have:=hm.2.1;show m<=n;omega,hm.2.2.1⟩
include ht hr in
theorem nN {p:Array Nat} (h0:0<n) (hp:Pm n p) {k:Nat} (hk:k<n) (a:Asc L p k):∀(f l r:Nat),l<=r->r<=k->r-l<=f->(∀ i,i<l->L (p.getD i 0) (p.getD k 0)=true)->(∀ i,r<=i->i<k->L (p.getD k 0) (p.getD i 0)=true)->TreeL L (fun q=>q<=k/\(∀ i,i<q->L (p.getD i 0) (p.getD k 0)=true)/\(∀ i,q<=i->i<k->L (p.getD k 0) (p.getD i 0)=true)) (kas_place p k f l r)
 |0,l,r,h1,h2,h3,h4,h5=>by
  rw[kas_place.eq_def]
  have:r=l:=by omega
  subst this;exact⟨h2,h4,h5⟩
 |f+1,l,r,h1,h2,h3,h4,h5=>by
  rw[kas_place.eq_def];show TreeL L _ (if l≥r then KasT.ret l else _)
  by_cases e:l≥r
  ·rw[if_pos e]
   have:r=l:=by omega
   subst this;exact⟨h2,h4,h5⟩
  ·rw[if_neg e];show TreeL L _ (if L (p.getD k 0) (p.getD ((l+r) / 2) 0)=true then kas_place p k f l ((l+r) / 2) else kas_place p k f ((l+r) / 2+1) r);cases c:L (p.getD k 0) (p.getD ((l+r) / 2) 0) with
   |true=>
    rw[if_pos rfl];refine nN h0 hp hk a f l ((l+r) / 2) (by omega) (by omega) (by omega) h4 fun i hi hik=> ?_
    by_cases e2:i=(l+r) / 2
    ·rw[e2];exact c
    ·exact hr _ _ _ (hp.lt h0 _) (hp.lt h0 _) (hp.lt h0 _) c (a _ _ (by omega) hik)
   |false=>
    rw[if_neg cf];have up:=ht _ _ (hp.lt h0 _) (hp.lt h0 _) (hp.ne hk (by omega) (by omega)) c;refine nN h0 hp hk a f ((l+r) / 2+1) r (by omega) (by omega) (by omega) (fun i hi=> ?_) h5
    by_cases e2:i=(l+r) / 2
    ·rw[e2];exact up
    ·exact hr _ _ _ (hp.lt h0 _) (hp.lt h0 _) (hp.lt h0 _) (a _ _ (by omega) (by omega)) up
theorem Ay (hk:k<p.size) (hl:l<=k):(bubble p k (k-l)).getD i 0=if i=l then p.getD k 0 else if l<i/\i<=k then p.getD (i-1) 0 else p.getD i 0:=by
 rw[cm,getElem?_bubble hk (k-l) (by omega)]
 have:k-(k-l)=l:=by omega
 rw[this]
 by_cases h1:i=l
 ·rw[if_pos h1,if_pos h1,cm]
 ·rw[if_neg h1,if_neg h1]
  by_cases h2:l<i/\i<=k
  ·rw[if_pos h2,if_pos h2,cm]
  ·rw[if_neg h2,if_neg h2,cm]
theorem Asc.bub (hk:k<p.size) (hl:l<=k) (a:Asc L p k) (h1:∀ i,i<l->L (p.getD i 0) (p.getD k 0)=true) (h2:∀ i,l<=i->i<k->L (p.getD k 0) (p.getD i 0)=true):Asc L (bubble p k (k-l)) (k+1):=by
 intro i j hij hj;rw[Ay hk hl,Ay hk hl]
 by_cases i1:i=l
 ·rw[if_pos i1,if_neg (by omega),if_pos (by omega)];exact h2 _ (by omega) (by omega)
 ·rw[if_neg i1]
  by_cases i2:l<i/\i<=k
  ·rw[if_pos i2,if_neg (by omega),if_pos (by omega)];exact a _ _ (by omega) (by omega)
  ·rw[if_neg i2]
   by_cases j1:j=l
   ·rw[if_pos j1];exact h1 _ (by omega)
   ·rw[if_neg j1]
    by_cases j2:l<j/\j<=k
    ·rw[if_pos j2];exact a _ _ (by omega) (by omega)
    ·rw[if_neg j2];exact a _ _ (by omega) (by omega)
include ht hr in
theorem CS:∀(f:Nat) {p:Array Nat} (k:Nat),Pm n p->1<=k->k+f=n->Asc L p k->TreeL L (fun r:Array Nat=>Pm n r/\Asc L r n) (kas_bin f p k)
 |0,p,k,hp,_,hk,a=>by
  rw[kas_bin.eq_def]
  have:k=n:=by omega
  subst this;exact⟨hp,a⟩
 |f+1,p,k,hp,h1,hk,a=>by
  rw[kas_bin.eq_def];have hs:=hp.size;refine(nN ht hr (by omega) hp (by omega) a k 0 k (by omega) (bc _) (by omega) (fun i hi=>by omega) fun i hi hik=>by omega).bind fun l hl=> ?_;exact CS f (k+1) (hp.bub _ _) (by omega) (by omega) (Asc.bub (by omega) hl.1 a hl.2.1 hl.2.2)
include ht hr in
theorem FG (h2:2<=n):TreeL L (fun r:Array Nat=>Asc L r n) (kas_sort n):=by
 unfold kas_sort;refine(CQ ht hr h2 (vn _)).bind fun r hrr=> ?_;obtain⟨r1,r2,r3,r4⟩:=hrr;have weak:∀ {t:KasT (Array Nat)},TreeL L (fun r:Array Nat=>Pm n r/\Asc L r n) t->TreeL L (fun r:Array Nat=>Asc L r n) t:=by
  intro t
  induction t with
  |ret a=>exact fun h=>h.2
  |ask i j k ih=>exact fun h=>ih _ h
 by_cases e:r.1<n
 ·rw[if_pos e,Nat.max_eq_left r2];exact weak (CS ht hr (n-r.1) r.1 r1 r2 (by omega) r4)
 ·rw[if_neg e]
  have:r.1=n:=by omega
  rw[this] at r4;exact r4
end
theorem Cq (hs:eX m ds=we out) (ht:∀ i j,i<ds.length->j<ds.length->i≠j->dQ m (ds.getD i .non) (ds.getD j .non)=we true∨dQ m (ds.getD j .non) (ds.getD i .non)=we true)
  (hr:∀ a∈ds,∀ b∈ds,∀ c∈ds,dQ m a b=we true->dQ m b c=we true->dQ m a c=we true):out.Pairwise fun a b=>dQ m a b=we true:=by
 unfold eX at hs
 by_cases h2:ds.length<2
 ·rw[if_pos h2] at hs;cases hs
  match ds,h2 with
  |[],_=>exact .nil
  |[a],_=>simp
 ·rw[if_neg h2] at hs;obtain⟨h64,hs⟩:=cO hs;obtain⟨p,e1,e2⟩:=bind_some hs;obtain⟨_,e3⟩:=cO e2;cases e3;have gm:∀ i,i<ds.length->ds.getD i .non∈ds:=fun i hi=>by
   rw[aq,bj hi];exact i7 hi
  have A:=TreeL.run (FG (n:=ds.length) (L:=fun i j=>dQ m (ds.getD i .non) (ds.getD j .non)==we true) (fun i j hi hj hne c=>by
   rcases ht i j hi hj hne with z|z
   ·rw[z] at c;cases c
   ·rw[z];rfl) (fun i j k hi hj hk a b=>by
   have a':dQ m (ds.getD i .non) (ds.getD j .non)=we true:=by simpa using a
   have b':dQ m (ds.getD j .non) (ds.getD k .non)=we true:=by simpa using b
   rw[hr _ (gm i hi) _ (gm j hj) _ (gm k hk) a' b'];rfl) (by omega)) e1
  have hp:Pm ds.length p:=by
   exact Tree.run' (uO (n:=ds.length) (by omega)) e1
  have sz:=hp.size;rw[List.pairwise_map,ls];intro i j hi hj hij;have hi':i<p.size:=by simpa using hi
  have hj':j<p.size:=by simpa using hj
  have:=A i j hij (by omega)
  rw[cm,jp hi',cm,jp hj'] at this;simpa using this
noncomputable def sLt (x y:Str):Prop:=x.cps.toList<y.cps.toList
theorem Cv (h1:sLt x y) (h2:sLt y z):sLt x z:=List.lt_trans h1 h2
theorem qL (x:Str):¬ sLt x x:=List.lt_irrefl _
theorem Cw (h:x≠y):sLt x y∨sLt y x:=by
 by_cases q:x.cps.toList<y.cps.toList
 ·exact .inl q
 ·by_cases q2:y.cps.toList<x.cps.toList
  ·exact .inr q2
  ·exfalso
   apply h
   have:x.cps.toList=y.cps.toList:=List.le_antisymm (List.not_lt.mp q2) (List.not_lt.mp q)
   cases x;cases y;simp at this;simp[this]
noncomputable abbrev mLt (a b a' b':Int):Prop:=a<a'∨(a=a'/\b<b')
noncomputable def eLt (x:Str) (a b v:Int) (x':Str) (a' b' v':Int):Prop:=sLt x x'∨(x=x'/\(mLt a b a' b'∨(a=a'/\b=b'/\v<v')))
theorem Gf (a b a' b':Int):Ou [a,b] [a',b']=decide (mLt a b a' b'):=by
 show(if a=a' then(if b=b' then false else decide (b<b')) else decide (a<a'))=_
 unfold mLt
 by_cases h:a=a'
 ·rw[if_pos h]
  by_cases h2:b=b'
  ·rw[if_pos h2];simp[h,h2]
  ·rw[if_neg h2];simp[h]
 ·rw[if_neg h];simp[h]
theorem GP (a b a' b':Int):eqD 4 (.tup [.int a,.int b]) (.tup [.int a',.int b'])=we (decide (a=a'/\b=b')):=by
 have:eqD 4 (.tup [.int a,.int b]) (.tup [.int a',.int b'])=we ((a==a'&&(b==b'&&true))&&true):=rfl
 rw[this]
 congr 1
 by_cases h:a=a' <;> by_cases h2:b=b' <;> simp[h,h2]
theorem MW (n:Nat) (x y:Str):eqD n (.str x) (.str y)=we (decide (x=y)):=by cases n <;> rfl
theorem Al (x:Str) (a b v:Int) (x':Str) (a' b' v':Int):dQ 4 (.tup [.str x,.tup [.int a,.int b],.int v]) (.tup [.str x',.tup [.int a',.int b'],.int v'])=we true↔eLt x a b v x' a' b' v':=by
 show(match eqD 4 (.str x) (.str x') with
  |some true=>(match eqD 4 (.tup [.int a,.int b]) (.tup [.int a',.int b']) with
   |some true=>(match eqD 4 (.int v) (.int v') with
    |some true=>we (decide (3<3))
    |some false=>fS (.int v) (.int v')
    |none=>wf)
   |some false=>fS (.tup [.int a,.int b]) (.tup [.int a',.int b'])
   |none=>wf)
  |some false=>fS (.str x) (.str x')
  |none=>wf)=we true↔_
 rw[MW,GP];have e3:eqD 4 (.int v) (.int v')=we (decide (v=v')):=rfl;rw[e3];unfold eLt
 by_cases hx:x=x'
 ·rw[decide_eq_true hx]
  show(match we (decide (a=a'/\b=b')) with
   |some true=>(match we (decide (v=v')) with
    |some true=>we (decide (3<3))
    |some false=>fS (.int v) (.int v')
    |none=>wf)
   |some false=>fS (.tup [.int a,.int b]) (.tup [.int a',.int b'])
   |none=>wf)=we true↔_
  have nx:¬ sLt x x':=by rw[hx];exact qL _
  by_cases hm:a=a'/\b=b'
  ·rw[decide_eq_true hm];have nm:¬ mLt a b a' b':=by unfold mLt;omega
   by_cases hv:v=v'
   ·rw[decide_eq_true hv];show we (decide (3<3))=we true↔_;constructor
    ·intro z;simp at z
    ·rintro(z|⟨_,z|z⟩)
     ·exact absurd z nx
     ·exact absurd z nm
     ·omega
   ·rw[decide_eq_false hv];show we (decide (v<v'))=we true↔_;constructor
    ·intro z;exact .inr ⟨hx,.inr ⟨hm.1,hm.2,by simpa using z⟩⟩
    ·rintro(z|⟨_,z|z⟩)
     ·exact absurd z nx
     ·exact absurd z nm
     ·simpa using z.2.2
  ·rw[decide_eq_false hm];show we (Ou [a,b] [a',b'])=we true↔_;rw[Gf];constructor
   ·intro z;exact .inr ⟨hx,.inl (by simpa using z)⟩
   ·rintro(z|⟨_,z|z⟩)
    ·exact absurd z nx
    ·simpa using z
    ·exact absurd ⟨z.1,z.2.1⟩ hm
 ·rw[decide_eq_false hx];show we (decide (x.cps.toList<x'.cps.toList))=we true↔_;constructor
  ·intro z;exact .inl (by simpa [sLt] using z)
  ·rintro(z|⟨z,_⟩)
   ·simpa [sLt] using z
   ·exact absurd z hx
theorem En (h1:eLt x a b v x' a' b' v') (h2:eLt x' a' b' v' x2 a2 b2 v2):eLt x a b v x2 a2 b2 v2:=by
 unfold eLt at*;rcases h1 with h1|⟨rfl,h1⟩
 ·rcases h2 with h2|⟨rfl,h2⟩
  ·exact .inl (Cv h1 h2)
  ·exact .inl h1
 ·rcases h2 with h2|⟨rfl,h2⟩
  ·exact .inl h2
  ·refine .inr ⟨rfl,?_⟩;unfold mLt at*;omega
theorem lP {r:α->α->Prop} (ha:∀ a b,r a b->r b a->False):∀ {l m:List α},l.Perm m->l.Pairwise r->m.Pairwise r->l=m
 |[],m,h,_,_=>(List.nil_perm.mp h).symm
 |a::l,m,h,h1,h2=>by
  cases m with
  |nil=>exact absurd h.length_eq (by simp)
  |cons b m=>
   rw[List.pairwise_cons] at h1 h2;have e:a=b:=by
    have m1:a∈b::m:=h.mem_iff.mp au;have m2:b∈a::l:=h.mem_iff.mpr au;rcases ah.mp m1 with z|z
    ·exact z
    ·rcases ah.mp m2 with w|w
     ·exact w.symm
     ·exact(ha a b (h1.1 b w) (h2.1 a z)).elim
   subst e;rw[lP ha (List.Perm.cons_inv h) h1.2 h2.2]
section
variable {X:Cx}{cls exC:Nat->af}{E:XE}{e a b c o i value:br}{es rest:List br}{fa fb fc fo fi fv:OG D}{fl:OG (List D)}{pos p apos pos' cpos:Pos}{x m:Str}{st:cq}
theorem Ao {E:ag->am->Prop}{vs:List ag} (hl:s.heap.IsList l vs.toArray) (hz:vs.length<=sizeLine)
  (h:∀(h':cy) (tk:Nat) (acc:Array ag),(∀ b o,s.heap.get? b=we o->h'.get? b=we o)->ItemsOf (fun j v=>vs[j]?=we v) acc vs.length->R acc.toList { s with heap:=h',toks:=tk }):aw (model prog w) A (collect (.ref l)) R E s:=by
 refine collect_list hl ?_ hz
 have:=h ((s.heap.push (gw "list" #[] 0)).update s.heap.objs.size (kh (· ++vs.toArray))) s.toks vs.toArray (fun b o q=>by
  have hlt:b<s.heap.objs.size:=bi q;rw[Heap.get?_update_ne _ _ _ _ (ci hlt),Heap.get?_push_ne _ _ _ (ci hlt)];exact q) ⟨by simp,fun j v q=>by simpa using q⟩
 simpa using this
noncomputable def Lg (K:aa) (n:Nat):List V->Hp->VK->Prop:=fun xs H Q=>∃ a ys ds out ok,xs=[.ref a]/\H a=we (.lst ys)/\Reps K ok H ys ds/\eX n ds=we out/\∀ l zs,H l=wf->Reps K ok H zs out->Q (.ref l) (upd H l (.lst zs))
theorem EG (hu:X.A.units+(n+2)<dq):CallR X (.builtin "sorted") (Lg X.K n):=by
 intro pins s σ H xs us Q I r h;obtain⟨a,ys,ds,out,ok,rfl,ha,rs,hs,q⟩:=h;obtain⟨u,rfl,rx⟩:=lX r;cases rx;obtain⟨hz,its,c,rv,hlen,eo⟩:=I.lstM ha;have hli:s.heap.IsList a its.toArray:=⟨_,eo,rfl,c,rfl⟩;have hPP:∀(j:Nat) v x,its[j]?=we v->ys[j]?=we x->RelV x v:=fun j v x e1 e2=>by
  obtain⟨v',e3,r3⟩:=rv.get e2;rw[e1] at e3;cases e3;exact r3
 have dl:ds.length=its.length:=by rw[<- rs.length,hlen]
 by_cases hl:ds.length<2
 ·obtain rfl:=uV hs hl;refine nG (fun h=>Ao hli (by omega) h) (by omega) fun h' tk vs l c kp na hvl hP ho=> ?_;have rv2:Vals ys vs:=Cd (by omega) fun j w hw=>by
   have hj:j<ys.length:=by
    have:=(bh.mp hw).1
    omega
   exact⟨ys[j],bj hj,hPP j w _ (hP j w hw) (bj hj)⟩
  obtain⟨hn,I'⟩:=I.laidN (t':=tk) kp na (An (H:=upd H l (.lst ys)) rv2 hz ho);exact⟨.ref l,_,I',rfl,q l _ hn rs⟩
 ·have h64:=uU hs hl;exact nE I (fun h=>Ao hli (by omega) h) (by omega) (by omega) hu (by omega) hPP rs hs fun h' tk ys l nl I' rs'=>⟨.ref l,_,I',rfl,q l ys nl rs'⟩
noncomputable def Gx (n:Nat) (ω:Om) (ds:List D):Option (D×Om):=match ds with
 |[d]=>match fL ω d with
  |some xs=>(eX n xs).map fun out=>(.lst out,ω)
  |none=>wf
 |_=>wf
theorem GH {K:aa}:qC cls K (Lg K n) (Gx n):=fun ok H ω xs as d ω' Q h1 st r e k=>by
 unfold Gx at e;split at e
 ·split at e
  ·rename_i ys hseq
   obtain⟨out,e5,e6⟩:=aJ e;cases e6;obtain⟨v,rfl,r1⟩:=r.one_inv;obtain⟨a,xs,rfl,g,rs⟩:=eL st r1 hseq;exact⟨a,xs,ys,out,ok,rfl,g,rs,e5,fun l zs nl rz=>k _ ok _ (.same h1 st (bW nl)) (.lst_new (h1 l nl) nl rz)⟩
  ·cases e
 ·cases e
end
section
variable {X:Cx}{cls exC:Nat->af}{E:XE}{e a b c o i value:br}{es rest:List br}{fa fb fc fo fi fv:OG D}{fl:OG (List D)}{pos p apos pos' cpos:Pos}{x m:Str}{st:cq}
noncomputable def yB (ω:Om) (a b:D):Option (D×Om):=match a,b with
 |.tup xs,.tup ys=>if xs≠[]/\ys≠[]/\xs.length+ys.length<=sizeLine then we (.tup (xs++ys),ω) else wf
 |_,_=>wf
theorem JB (ha:OE X cls E a fa) (hb:OE X cls E b fb):OE X cls E (.BinOp a .Add b pos) (o2 yB fa fb):=sI Jj (fun ok H ω x y a b d ω' Q h1 st ra rb e k=>by
 unfold yB at e;split at e
 ·rename_i xs ys
  obtain⟨⟨hx,hy,hz⟩,e3⟩:=bI e;cases e3;obtain⟨a1,us,rfl,g1,r1⟩:=ra.tup_inv;obtain⟨b1,ws,rfl,g2,r2⟩:=rb.tup_inv;have nx:us≠[]:=fun z=>hx (by have:=r1.length;rw[z] at this;exact qq.mp this.symm);have ny:ws≠[]:=fun z=>hy (by have:=r2.length;rw[z] at this;exact qq.mp this.symm);exact⟨a1,b1,us,ws,rfl,rfl,g1.sq,g2.sq,nx,by rw[r1.length,r2.length];exact hz,fun z=>absurd z ny,fun _ p n=>k _ ok _ (.same h1 st (bW n)) (.tup_new (h1 p n) n (r1.append r2))⟩
 ·cases e) ha hb
noncomputable def xY (ω:Om) (ds:List D):Option (D×Om):=match ds with
 |[d]=>(fL ω d).bind fun xs=>(kC xs).map fun ns=>(.int ns.sum,ω)
 |_=>wf
theorem GG {K:aa}:qC cls K (fun xs H Q=>∃(p:af) (ns:List Int),xs=[.ref p]/\SqL K H p (ns.map V.int)/\Q (.int ns.sum) H) xY:=fun ok H ω xs as d ω' Q h1 st r e k=>by
 unfold xY at e;split at e
 ·obtain⟨ys,e1,e⟩:=bind_some e;obtain⟨ns,e2,e3⟩:=aJ e;cases e3;obtain rfl:=lC e2;obtain⟨v,rfl,r1⟩:=r.one_inv;obtain⟨a,xs,rfl,g,rs⟩:=eL st r1 e1;obtain rfl:=rs.of_ints;exact⟨a,ns,rfl,SqL.of g,k _ ok H (.refl h1 st) (.int _)⟩
 ·cases e
noncomputable def oVs:List (OG D)->OG (List D)
 |[]=>aQ
 |f::r=>aC f (oVs r)
theorem Af {K:aa}:∀ {xs:List (Str×OG D)}{H:Hp}{Q:List (V×V)->Hp->Prop},tOA cls K (oVs (xs.map (·.2))) E σ H (fun vs H'=>vs.length=xs.length->Q ((xs.map fun p=>V.str p.1).zip vs) H')->zW (xs.map fun p=>(tO cls K (oP (dC (.str p.1))) E,tO cls K p.2 E)) σ H Q
 |[],H,Q,⟨ok,ρ,ω,r,ω',P,e,q⟩=>by
  cases e;exact q [] ok H (.refl P.okh P.st) .nil rfl
 |(x,f)::xs,H,Q,⟨ok,ρ,ω,r,ω',P,e,q⟩=>by
  refine⟨ok,ρ,ω,.ok (.str x),ω,P,rfl,fun v ok1 H1 n1 r1=> ?_⟩;obtain rfl:=r1.str_inv;refine tO.then_ (P.nw n1) e (fun c z=>by subst z;exact exR.nw q n1) fun d ω1 w ok2 H2 e1 n2 P2 r2=> ?_;refine Af ?_;rcases jE e1 with⟨c,e2,rfl⟩|⟨ds,ω2,e2,e3⟩
  ·exact⟨ok2,ρ,ω1,.ex c,ω',P2,e2,exR.nw (exR.nw q n1) n2⟩
  ·cases e3;exact⟨ok2,ρ,ω1,.ok ds,ω',P2,e2,fun vs ok3 H3 n3 r3 hl=>q (w::vs) ok3 H3 (n1.trans (n2.trans n3)) (.cons (r2.ex n3.ex) r3) (by simp[hl])⟩
noncomputable def Ha (ks:List Key) (ds:List D):List (Key×D):=(ks.zip ds).foldl (fun acc p=>putD acc p.1 p.2) []
noncomputable def Bx (ω:Om) (n:Nat):Bool:=match ω[n]? with
 |some (.dk [])=>true
 |_=>false
noncomputable def Bh (xs:List (Str×OG D)):OG D:=fun ρ ω=>match oVs (xs.map (·.2)) ρ (ω++[.dk []]) with
 |none=>wf
 |some (.ex c,ω2)=>we (.ex c,ω2)
 |some (.ok ds,ω2)=>if xs.length<=15/\Bx ω2 ω.length=true then we (.ok (.obj ω.length),ω2.set ω.length (.dk (Ha (xs.map fun p=>jr p.1) ds))) else wf
theorem KvR.disp {K:aa}:∀ {ks:List Key}{vs:List V}{ds:List D}{kv:List (Key×V)}{kd:List (Key×D)},Reps K ok H vs ds->KvR K ok H kv kd->KvR K ok H ((ks.zip vs).foldl (fun acc p=>lO acc p.1 p.2) kv) ((ks.zip ds).foldl (fun acc p=>putD acc p.1 p.2) kd)
 |[],_,_,_,_,_,h=>h
 |k::ks,_,_,kv,kd,.nil,h=>h
 |k::ks,_,_,kv,kd,.cons r rs,h=>KvR.disp (ks:=ks) rs (h.put r)
theorem Jy (h:PPs X pos keys values (xs.map fun p=>(tO cls X.K (oP (dC (.str p.1))) E,tO cls X.K p.2 E))) (hall:keys.all (·.isSome)=true) (hl:keys.length=values.length) (h0:keys≠[]) (h15:keys.length<=15):OE X cls E (.Dict keys values pos) (Bh xs):=
 (IM h hall hl h0 h15).imp fun σ H Q ⟨ok,ρ,ω,r,ω',P,e,q⟩=>by
  intro p np;have n0:=Nw.make (o:=.dK []) (ob:=.dk []) P.okh P.st np ⟨[],aP,.nil⟩;have P0:=P.nw n0;refine Af ?_;unfold Bh at e;cases hv:oVs (xs.map (·.2)) ρ (ω++[.dk []]) with
  |none=>rw[hv] at e;cases e
  |some rr=>
   obtain⟨r1,ω2⟩:=rr;rw[hv] at e;cases r1 with
   |ex c=>
    cases e;exact⟨_,ρ,_,.ex c,ω',P0,hv,exR.nw q n0⟩
   |ok ds=>
    obtain⟨⟨hx,hd⟩,e3⟩:=bI (show(if xs.length<=15/\Bx ω2 ω.length=true then we (Rz.ok (D.obj ω.length),ω2.set ω.length (.dk (Ha (xs.map fun p=>jr p.1) ds))) else wf)=we (r,ω') from e);cases e3;refine⟨_,ρ,_,.ok ds,ω2,P0,hv,fun vs ok3 H3 n3 r3 hvl=> ?_⟩;have hc:ω2[ω.length]?=we (.dk []):=by
     unfold Bx at hd;split at hd
     ·assumption
     ·cases hd
    have al:ok3.al ω.length=we p:=n3.ex.ids _ _ (by show(if ω.length=ω.length then we p else _)=_;rw[if_pos rfl]);obtain⟨a,e4,vs0,e5,kv⟩:=n3.st.cell _ _ hc;rw[al] at e4;cases e4;cases kv;have ez:∀(xs:List (Str×OG D)) (vs:List V),(xs.map fun p=>V.str p.1).zip vs=((xs.map fun p=>(jr p.1:Key)).zip vs).map fun kv=>(kV kv.1,kv.2):=by
     intro xs
     induction xs with
     |nil=>intro vs;rfl
     |cons y ys ih=>
      intro vs;cases vs with
      |nil=>rfl
      |cons v vs=>
       rw[bg,bg,l9,l9,bg,ih vs];rfl
    refine⟨e5,(xs.map fun p=>(jr p.1:Key)).zip vs,ez xs vs,by rw[List.length_zip,ar];omega,?_⟩;have nw:=Nw.write (o:=.dK (_root_.L2.mergeK [] ((xs.map fun p:Str×OG D=>(jr p.1:Key)).zip vs))) (ob:=.dk (Ha (xs.map fun p:Str×OG D=>(jr p.1:Key)) ds)) n3.okh n3.st al e5 fun dat=>⟨_,aP,KvR.disp (ks:=xs.map fun p:Str×OG D=>(jr p.1:Key)) (r3.mono dat) .nil⟩;exact q _ ok3 _ (n0.trans (n3.trans nw)) (.obj (nw.ex.ids _ _ al))
end
section
variable {P:da}{w:dc}{K:aa}{mg:Str->Option ag}{base:cy}{cls exC:Nat->af}
noncomputable def Bod (P:da) (w:dc) (K:aa) (mg:Str->Option ag) (base:cy) (cls exC:Nat->af) (k:Nat) (N:List Str) (q:Str) (st:cq) (G:OS):Prop:=∀(f:af) (cdv:ag) (A:de) (outer:List Env) (s:am) (H:Hp) (E:XK),Room k (A.deeper (ja q (bE st) s.heap.objs.size f cdv))->(A.deeper (ja q (bE st) s.heap.objs.size f cdv)).units+8<dq->(A.deeper (ja q (bE st) s.heap.objs.size f cdv)).units+1<dq->(A.deeper (ja q (bE st) s.heap.objs.size f cdv)).units+(4+2)<dq->
 Exc (yP (CX1 P w exC) P w K mg base N q (bE st) f cdv A outer s H E) exC (fun c H'=>E (.ref (exC c)) wf H')->Nz (yP (CX1 P w exC) P w K mg base N q (bE st) f cdv A outer s H E) exC (fun c H'=>E (.ref (exC c)) wf H')->OSs (yP (CX1 P w exC) P w K mg base N q (bE st) f cdv A outer s H E) cls (fun c H'=>E (.ref (exC c)) wf H') (fI st) G
theorem AL {x q:Str}{st:cq}{f:af}{fd:ji}{N ps:List Str}{k:Nat}{G:OS} (F:Fun K x q st f fd) (sc:jX N ps (bE st)) (b:Bod P w K mg base cls exC k N q st G):qB P w K mg base (CX1 P w exC) (k+1) f fd ps (spO cls exC K (dY ps.length N G)):=
 Qh F sc fun cdv A outer s H E hr hE hR=>b f cdv A outer s H E hr (Er hr) (Oy hr) (by have h8:(A.deeper (ja q (bE st) s.heap.objs.size f cdv)).units+8<dq:=Er hr;omega) hE hR
noncomputable def All:Nat->(List ag->Prop)->Prop
 |0,Q=>Q []
 |n+1,Q=>∀ a,All n fun l=>Q (a::l)
theorem All.out:∀ {n:Nat}{Q:List ag->Prop},All n Q->∀ us:List ag,us.length=n->Q us
 |0,_,h,[],_=>h
 |_+1,_,h,a::_,e=>(h a).out _ (Nat.succ.inj e)
noncomputable def Bnd (x q:Str) (st:cq) (ps:List Str):Prop:=All ps.length fun us=>∀(kV doc pm:ag) (an:Option af) (cdv ct:ag),bindArgs (ig x q (gK st) (fI st) (bE st) .none kV doc pm an cdv ct) ⟨us,[]⟩=pure (ps.zip us)
theorem Bnd.out {x q:Str}{st:cq}{ps:List Str}{f:af}{fd:ji} (h:Bnd x q st ps) (F:Fun K x q st f fd):Binds K fd ps []:=F.binds fun _ _ _ _ _ _ us e=>All.out h us e _ _ _ _ _ _
theorem dfD {x:Str}{st:cq}{N ps:List Str}{k:Nat}{G:OS} (e:∃ f fd,Ny K mg x st f fd) (b:Bod P w K mg base cls exC k N x st G) (sc:jX N ps (bE st):=by constructor <;> first|rfl|decide+kernel) (hb:Bnd x x st ps:=by first|exact fun _ _ _ _ _ _ _=>rfl|exact fun _ _ _ _ _ _ _ _=>rfl|exact fun _ _ _ _ _ _ _ _ _=>rfl|exact fun _ _ _ _ _ _ _ _ _ _=>rfl):mW P w K mg base cls exC (k+1) x ps (dY ps.length N G):=
 let ⟨f,fd,F⟩:=e
 ⟨f,fd,AL F.fn sc b,F.at_,F.fn.kp,hb.out F.fn⟩
theorem dfM {x q:Str}{st:cq}{N ps:List Str}{k c:Nat}{G:OS} (e:∃ f fd,Fun K x q st f fd/\Hv K (cls c) x f) (hc:Cls K (cls c)) (b:Bod P w K mg base cls exC k N q st G) (sc:jX N ps (bE st):=by constructor <;> first|rfl|decide+kernel) (hb:Bnd x q st ps:=by first|exact fun _ _ _ _ _ _ _=>rfl|exact fun _ _ _ _ _ _ _ _=>rfl|exact fun _ _ _ _ _ _ _ _ _=>rfl|exact fun _ _ _ _ _ _ _ _ _ _=>rfl):rT P w K mg base cls exC (k+1) c x ps (dY ps.length N G):=
 let ⟨f,fd,F,M⟩:=e
 ⟨⟨f,fd,AL F sc b,M,hb.out F⟩,hc⟩
theorem dfI {x q:Str}{st:cq}{N ps:List Str}{k c:Nat}{C:Str}{G:OS} (e:∃ f fd,Fun K x q st f fd/\Mk K (cls c) f) (hm:mg C=we (.ref (cls c))) (b:Bod P w K mg base cls exC k N q st G) (sc:jX N ps (bE st):=by constructor <;> first|rfl|decide+kernel) (hb:Bnd x q st ps:=by first|exact fun _ _ _ _ _ _ _=>rfl|exact fun _ _ _ _ _ _ _ _=>rfl|exact fun _ _ _ _ _ _ _ _ _=>rfl|exact fun _ _ _ _ _ _ _ _ _ _=>rfl):Nx P w K mg base cls exC (k+1) c C ps (dY ps.length N G):=
 let ⟨f,fd,F,M⟩:=e
 ⟨⟨f,fd,AL F sc b,M,hb.out F⟩,hm⟩
end
noncomputable abbrev FF (K:aa) (mg:Str->Option ag) (x:Str) (st:cq):Prop:=∃ f fd,Ny K mg x st f fd
noncomputable abbrev FM (K:aa) (C:af) (x q:Str) (st:cq):Prop:=∃ f fd,Fun K x q st f fd/\Hv K C x f
noncomputable abbrev FI (K:aa) (C:af) (x q:Str) (st:cq):Prop:=∃ f fd,Fun K x q st f fd/\Mk K C f
noncomputable def AllP (p:Str->Str->cq->Prop):List (Str×Str×cq)->Prop
 |[]=>True
 |(x,q,s)::r=>p x q s/\AllP p r
theorem AllP.imp {p p':Str->Str->cq->Prop} (f:∀ x q s,p x q s->p' x q s):∀ {l:List (Str×Str×cq)},AllP p l->AllP p' l
 |[],_=>trivial
 |(_,_,_)::_,⟨a,b⟩=>⟨f _ _ _ a,AllP.imp f b⟩
theorem AllP.get {p:Str->Str->cq->Prop}{x q:Str}{s:cq}:∀ {l:List (Str×Str×cq)} (_:AllP p l) (i:Nat) (_:l[i]?=we (x,q,s)),p x q s
 |(_,_,_)::_,⟨a,_⟩,0,e=>by cases e;exact a
 |(_,_,_)::_,⟨_,b⟩,i+1,e=>b.get i e
noncomputable def Pt (K:aa) (C:af) (m qual:Str) (st:cq) (f:af):Prop:=∃(oc:ag) (od an:Option af) (osl:Array (Option ag)) (kV doc pm cdv ct:ag),gx K (.ref C) m=we (we (.ref f))/\om K (.ref f)=true/\
 K.lookup f=we ⟨oc,od,.func (ig m qual (gK st) (fI st) (bE st) .none kV doc pm an cdv ct),osl⟩/\ju K cdv qual=true/\gk K (.ref f)=true
theorem mtIn_mk {K:aa}{C:af}{m qual:Str}{st:cq}{f:af}{oc:ag}{od an:Option af}{osl:Array (Option ag)}{kV doc pm cdv ct:ag} (a:gx K (.ref C) m=we (we (.ref f)))
  (l:K.lookup f=we ⟨oc,od,.func (ig m qual (gK st) (fI st) (bE st) .none kV doc pm an cdv ct),osl⟩) (b:om K (.ref f)=true) (c:ju K cdv qual=true) (k:gk K (.ref f)=true):Pt K C m qual st f:=
 ⟨oc,od,an,osl,kV,doc,pm,cdv,ct,a,b,l,c,k⟩
noncomputable def mtF (K:aa) (C:af) (m qual:Str) (st:cq):Prop:=∃ f,Pt K C m qual st f
theorem mtF.out {K:aa}{C:af}{m qual:Str}{st:cq} (h:mtF K C m qual st):∃ f fd,Fun K m qual st f fd/\Hv K C m f:=by
 obtain⟨f,oc,od,an,osl,kV,doc,pm,cdv,ct,a,b,l,c,k⟩:=h;exact⟨f,_,HX l c k,a,b,k⟩
noncomputable def clsIn (K:aa) (x:Str) (C:af):Prop:=ck K b8 x=we (we (.ref C))
noncomputable def mkIn (K:aa) (C:af):Prop:=qt K C=true/\gk K (.ref C)=true
theorem mtF.mk {K:aa}{C:af}{qual:Str}{st:cq} (h:mtF K C "__init__" qual st) (k:mkIn K C):FI K C "__init__" qual st:=match h.out with|⟨f,fd,F,M⟩=>⟨f,fd,F,⟨k.1,M.at_,M.fn,k.2⟩⟩
theorem own_mk {K:aa}{C:af}{tl:List ag}{dd:Option af}{cd:ClassData}{k0 k1 k2 k3 k5:Option ag} (h1:K.lookup C=we ⟨.type "type",dd,.cls cd,#[k0,k1,k2,k3,we (.builtin "ValueError.__new__"),k5]⟩)
  (h2:cd.mro=.ref C::tl) (h3:cd.hasDel=false) (h4:mm K AS tl=true) (h5:kr K cd.ns=true) (h6:ck K cd.ns "__init__"=we wf):ownIn K C tl:=⟨dd,cd,k0,k1,k2,k3,k5,h1,h2,h3,h4,h5,h6⟩
theorem nsOk_mk {K:aa}{N:af}{c:ag}{d:Option af}{es:Array ky}{ep:Nat}{sl:Array (Option ag)} (l:K.lookup N=we ⟨c,d,.dict es ep,sl⟩) (h:(es.toList.all fun e=>match e.key with|.str _ _=>true|_=>false)=true):kr K N=true:=by
 unfold kr;rw[l];exact u6.symm.trans h
theorem tail_mk {K:aa}{A:af}{r:List ag}{c:ag}{dd:Option af}{cd:ClassData}{sl:Array (Option ag)} (l:K.lookup A=we ⟨c,dd,.cls cd,sl⟩) (h1:kr K cd.ns=true) (h2:ck K cd.ns "__init__"=we wf) (h3:mm K AS r=true):mm K AS (.ref A::r)=true:=by
 rw[PySem.W.tailIn.eq_2,l]
 show(_||(kr K cd.ns&&ck K cd.ns _==we wf&&mm K AS r))=true
 rw[h1,h3,show ck K cd.ns (jj "__init__")=we wf from h2];simp
noncomputable def nTg:br->List Str
 |.Name x _=>[x]
 |.Tuple es _ _=>es.filterMap fun|.Name x _=>we x|_=>wf
 |_=>[]
noncomputable def Dj (N:List Str):List (Option Nat)->List Str->List Str
 |[],_=>[]
 |none::r,t::ts=>t::Dj N r ts
 |some i::r,ts=>N.getD i ""::Dj N r ts
 |none::r,[]=>Dj N r []
noncomputable def Ot (sc:j6) (x:Str):Bool:=sc.names.lookup x==we .local||sc.names.lookup x==we .cell
noncomputable def slB (N:List Str) (i:Nat) (x:Str):Bool:=decide (N[i]?=we x)
section
variable {X:Cx}{x y:Str}{i j:Nat}
theorem Dg:∀ {a b:Option gz},(a==b)=true->a=b:=by
 intro a b h;cases a with
 |none=>cases b with
  |none=>rfl
  |some _=>cases h
 |some a=>cases b with
  |none=>cases h
  |some b=>cases a <;> cases b <;> first|rfl|cases h
theorem Am (h:Ot sc x=true):Loc sc x:=(Bool.or_eq_true_iff.mp h).imp Dg Dg
theorem xB {N:List Str} (h:slB N i x=true):N[i]?=we x:=of_decide_eq_true h
theorem dvk (h:(slB X.N i x&&(Ot X.env.scope x||X.env.scope.names.lookup x==we .free)&& !(x==("__debug__":Str))&& !(x==("__classdict__":Str)))=true):DE X (.Name x pos) (aD i):=by
 simp only[bq,iw,ux] at h;refine dv i (xB h.1.1.1) ?_ h.1.2 h.2;rcases h.1.1.2 with z|z
 ·rcases Am z with z|z
  ·exact .inl z
  ·exact .inr (.inl z)
 ·exact .inr (.inr (Dg z))
noncomputable def nsB (X:Cx) (x:Str) (i:Nat):Bool:=slB X.N i x&&Ot X.env.scope x&&decide X.N.Nodup&&(X.fn x||X.env.scope.names.lookup x==we .local)
theorem sM (h:nsB X x i=true):X.N.Nodup/\X.N[i]?=we x/\Loc X.env.scope x/\(X.fn x=true∨X.env.scope.names.lookup x=we .local):=by
 unfold nsB at h;simp only[bq,iw] at h;exact⟨of_decide_eq_true h.1.2,xB h.1.1.1,Am h.1.1.2,h.2.imp id Dg⟩
theorem Qc (h:nsB X x i=true):PG X (.Name x tp) (gR X.K (bG i)):=let ⟨a,b,c,d⟩:=sM h;JZ a b c d
theorem Qb (hc:X.calm=true) (h:nsB X x i=true) (h':nsB X y j=true):PG X (.Tuple [.Name x p1,.Name y p2] k tp) (gR X.K (pG i j)):=let ⟨a,b,c,d⟩:=sM h;let ⟨_,b',c',d'⟩:=sM h';JY hc a b b' c c' d d'
theorem Qj {cls:Nat->af}{E:XE}{e:br}{fa:OG D}{pos pos':Pos} (h:nsB X x i=true) (he:OE X cls E e fa) (hs:i9 e (we (.Name x pos')) pos.line X.env=pure false:=by rfl):OSt X cls E (.Assign [.Name x pos'] e pos) (aV i fa):=
 let ⟨a,b,c,d⟩:=sM h
 LX a b c he hs (hf:=d)
theorem FP {cls:Nat->af}{E:XE}{tg iter elt:br}{ifs:List br}{scope:j6}{caps:List (Option Nat)}{fi:OI'}{bd:BR}{t:OG Bool}{f:OG D}{pos:Pos} (Fn:Fin fin) (h1:X.calm=true) (h2:scope.kind=.function) (h3:(yR scope&&EB X.env.scope scope&&lU X.N X.env.scope scope (Dj X.N caps (nTg tg)) caps)=true) (hi:OI X cls E tg iter fi)
  (hb:∀ cells C fp pins s₀ H₀,PG (blk X (Dj X.N caps (nTg tg)) scope cells C fp pins s₀ H₀) tg (gR X.K bd)/\KD (blk X (Dj X.N caps (nTg tg)) scope cells C fp pins s₀ H₀) cls EF ifs t/\OE (blk X (Dj X.N caps (nTg tg)) scope cells C fp pins s₀ H₀) cls EF elt f)
  (hs:∀ x,f9 iter X.env x=pure x:=by intro _;rfl):OE X cls E (.ListComp elt [⟨tg,iter,ifs,0⟩] scope pos) (eE fin fi caps bd t f):=by
 simp only[bq] at h3;exact JA Fn (wF h1 h2 h3.1.1 h3.1.2 h3.2) hi hb hs
theorem FE {cls:Nat->af}{E:XE}{tg iter elt:br}{ifs:List br}{scope:j6}{caps:List (Option Nat)}{fi:OI'}{bd:BR}{t:OG Bool}{f:OG D}{pos spos py:Pos} (Fn:Fin fin) (h:(slB X.N i y&&(X.env.scope.names.lookup y==we .local)&&decide X.N.Nodup)=true) (h1:X.calm=true) (h2:scope.kind=.function) (h3:(yR scope&&EB X.env.scope scope&&lU X.N X.env.scope scope (Dj X.N caps (nTg tg)) caps)=true) (hi:OI X cls E tg iter fi)
  (hb:∀ cells C fp pins s₀ H₀,PG (blk X (Dj X.N caps (nTg tg)) scope cells C fp pins s₀ H₀) tg (gR X.K bd)/\KD (blk X (Dj X.N caps (nTg tg)) scope cells C fp pins s₀ H₀) cls EF ifs t/\OE (blk X (Dj X.N caps (nTg tg)) scope cells C fp pins s₀ H₀) cls EF elt f)
  (hsw:i9 (.ListComp elt [⟨tg,iter,ifs,0⟩] scope pos) (we (.Name y py)) spos.line X.env=pure true:=by rfl)
  (hs:∀ x,f9 iter X.env x=pure x:=by intro _;rfl):OSt X cls E (.Assign [.Name y py] (.ListComp elt [⟨tg,iter,ifs,0⟩] scope pos) spos) (aV i (eE fin fi caps bd t f)):=by
 simp only[bq] at h h3;exact Jc Fn (of_decide_eq_true h.2) (xB h.1.1) (Dg h.1.2) (wF h1 h2 h3.1.1 h3.1.2 h3.2) hi hb hsw hs
end
noncomputable def Np (f:OG D) (l:DO) (g:OG D):OG D:=oB f fun a ρ ω=>(l ρ).bind fun lo=>oB g (fun d _ ω2=>(toI d).bind fun hi=>oR (pu (Kc ω2 a lo (we hi)) ω2)) ρ ω
section
variable {X:Cx}{cls:Nat->af}{E:XE}{e u:br}{fa g:OG D}{pos:Pos}
theorem CW {lo:Option br}{l:DO}{p2:Pos} (he:OE X cls E e fa) (hl:DOp X lo l) (hu:OE X cls E u g):OE X cls E (.Subscript e (.Slice lo (we u) wf p2) pos) (Np fa l g):=(Ae (sl_list.or HA) he hl (CK hu)).imp fun σ H Q ⟨ok,ρ,ω,r,ω',P,e,q⟩=>by
 refine tO.then_ P e (fun c z=>by subst z;exact q) fun a ω1 v ok1 H1 e1 n1 P1 r1=> ?_;obtain⟨il,g1,e1⟩:=bind_some e1;refine⟨ok1,ρ,il,P1.okh,P1.env,g1,fun H2 s2=> ?_⟩;have n2:Nw cls X.K ok1 H1 ok1 H2 ω1:=.same P1.okh P1.st s2;refine tO.then_ (P1.nw n2) e1 (fun c z=>by subst z;exact exR.nw q (n1.trans n2)) fun b ω2 w ok3 H3 e3 n3 P3 r3=> ?_;obtain⟨ih,g2,e4⟩:=bind_some e3;obtain⟨d,e5,rfl⟩:=cF e4;obtain⟨ue3,rfl⟩:=cN e5;have hb:b=.int ih:=by
  cases b <;> cases g2;rfl
 subst hb;cases r3;refine⟨ih,rfl,?_⟩;have ra:=(r1.ex n2.ex).ex n3.ex;have q':∀ v H',Same H3 H'->Rep X.K ok3 H' v d->Q v H':=fun v H' s r=>q v ok3 H' (((n1.trans n2).trans n3).trans (.same P3.okh P3.st s)) r;unfold Kc at ue3;cases hs:fL ω' a with
 |some ds=>
  rw[hs] at ue3;cases ue3;obtain⟨p,xs,rfl,g,rs⟩:=eL P3.st ra hs;exact .inl ⟨p,xs,rfl,SqL.of g,fun p' n=>q' _ _ (bW n) (.lst_new (P3.okh p' n) n (rs.cut il (we ih)))⟩
 |none=>
  rw[hs] at ue3;have ue4:gSl a il (we ih)=we d:=ue3;cases a with
  |lst ds=>cases hs
  |scr ds=>
   cases ue4;obtain⟨p,xs,rfl,g,rs⟩:=ra.scr_inv;exact .inl ⟨p,xs,rfl,g.sq,fun p' n=>q' _ _ (bW n) (.lst_new (P3.okh p' n) n (rs.cut il (we ih)))⟩
  |tup ds=>
   have h3':(if HT.sIx ds.length 0 il=0/\HT.sIx ds.length ds.length (we ih)=ds.length then wf else we (D.tup (AI ds il (we ih))))=we d:=ue4;obtain⟨p,xs,rfl,g,rs⟩:=ra.tup_inv
   by_cases hw:HT.sIx ds.length 0 il=0/\HT.sIx ds.length ds.length (we ih)=ds.length
   ·rw[if_pos hw] at h3';cases h3'
   ·rw[if_neg hw] at h3';cases h3';exact .inr ⟨p,xs,rfl,g.sq,by rw[rs.length];exact hw,fun p' n=>q' _ _ (bW n) (.tup_new (P3.okh p' n) n (rs.cut il (we ih)))⟩
  |_=>cases ue4
end
end L2.MB
end
section
namespace L2.MB.Lw
open PySem PySem.Spec PyProof.Rows L2.MB
noncomputable abbrev BZ:List Str:=["seen","mark"]
noncomputable abbrev BU:List Str:=["seen","mark"]
noncomputable abbrev BD:OS:=(aX (o2 (lf gLe) (o2 (fun ω a b=>pu (bF ω a b) ω) (oP (aD 1)) (oP (dC (.int 1)))) (o2 (fun ω a b=>pu (bF ω a b) ω) (oP (aD 0)) (o2 (fun ω a b=>pu (bF ω a b) ω) (oP (aD 1)) (oP (dC (.int 0)))))))
noncomputable def eV:eJ:=dY 2 BZ BD
noncomputable abbrev AO:List Str:=["one","other"]
noncomputable abbrev Ht:List Str:=["one","other"]
noncomputable abbrev Gw:OS:=(aX (eE GN (oIZ (aC (oP (aD 0)) (aC (oP (aD 1)) aQ))) [wf,wf] (pG 0 1) (oPT mT) (oL (lfL vW) (aC (oP (aD 0)) (aC (oP (aD 1)) aQ)))))
noncomputable def gB:eJ:=dY 2 AO Gw
noncomputable abbrev uE:List Str:=["rows","least","row"]
noncomputable abbrev Hu:List Str:=["rows"]
noncomputable abbrev fF:OS:=(aV 1 (eE Ei (oIZ (aC (oP (aD 1)) (aC (oP (aD 2)) aQ))) [wf,wf] (pG 0 1) (oPT mT) (oL (lfL GA) (aC (oP (aD 0)) (aC (oP (aD 1)) aQ)))))
noncomputable abbrev Az:OS:=(aI (aV 1 (oL oK (aC (o2 (fun ω a b=>pu (bF ω a b) ω) (oP (aD 0)) (oP (dC (.int 0)))) aQ))) (aI (sNx (cD (oIL (oSl (oP (aD 0)) (dSo (dC (.int 1))) dNo)) (bG 2) fF)) (aX (oP (aD 1)))))
noncomputable def mJ:eJ:=dY 1 uE Az
noncomputable abbrev ES:List Str:=["one","other"]
noncomputable abbrev KC:List Str:=["one","other"]
noncomputable abbrev Kb:OS:=(aX (oL (lfL Nt) (aC (eE Ei (oIZ (aC (oP (aD 0)) (aC (oP (aD 1)) aQ))) [wf,wf] (pG 0 1) (oPT mT) (oL (lfL vW) (aC (o2 (lf gSub) (oP (aD 1)) (oP (aD 0))) (aC (oP (dC (.int 0))) aQ)))) aQ)))
noncomputable def xF:eJ:=dY 2 ES Kb
noncomputable abbrev zL:List Str:=["self"]
noncomputable abbrev zA:List Str:=["self"]
noncomputable abbrev xW:OS:=(aX (o2 (fun ω a b=>pu (bF ω a b) ω) (gS 0 "knows" (oP (aD 0))) (gS 0 "number" (oP (aD 0)))))
noncomputable def cW:eJ:=dY 1 zL xW
noncomputable abbrev ET:List Str:=["entries","hand"]
noncomputable abbrev EN:List Str:=["entries","hand"]
noncomputable abbrev DT:OS:=(aX (eE Ei (oIL (oP (aD 0))) [wf,we 1] (bG 0) (oOr (cC (o2 (fun ω a b=>pu (KM ω a b) ω) (o2 (fun ω a b=>pu (bF ω a b) ω) (oP (aD 0)) (oP (dC (.int 1)))) (gS 0 "table" (oP (aD 1))))) (lH (jY (bK eV (aC (bL 0 "seen" cW (oP (aD 1)) aQ) (aC (o2 (fun ω a b=>pu (bF ω a b) ω) (oP (aD 0)) (oP (dC (.int 1)))) aQ)))))) (oP (aD 0))))
noncomputable def kG:eJ:=dY 2 ET DT
noncomputable abbrev uF:List Str:=["self","number","count"]
noncomputable abbrev tW:List Str:=["self","number","count"]
noncomputable abbrev kQ:OS:=(aI (lZ 0 "number" (oP (aD 0)) (oP (aD 1))) (aI (lZ 0 "knows" (oP (aD 0)) (eE GN (oIA jA (aC (oP (aD 2)) aQ)) [wf,we 2] (bG 0) (oPT mT) (o2 xZ (oL (fun ω ds=>pu (eR ds) ω) (aC (oP (dC (.int 0))) aQ)) (oP (aD 1))))) (aI (lZ 0 "table" (oP (aD 0)) sK) (lZ 0 "kept" (oP (aD 0)) sK))))
noncomputable def dJ:eJ:=dY 3 uF kQ
noncomputable abbrev qA:List Str:=["self"]
noncomputable abbrev pY:List Str:=["self"]
noncomputable abbrev pW:OS:=(aX (FR 4 (gS 0 "table" (oP (aD 0)))))
noncomputable def cL:eJ:=dY 1 qA pW
noncomputable abbrev pS:List Str:=["self","seen"]
noncomputable abbrev pN:List Str:=["self"]
noncomputable abbrev iH:OS:=(aI (aV 1 (bL 0 "seen" cW (oP (aD 0)) aQ)) (aI (gZ oJ (oP (aD 1)) (gS 0 "number" (oP (aD 0))) (o2 (lf sZ) (o2 (fun ω a b=>pu (bF ω a b) ω) (oP (aD 1)) (gS 0 "number" (oP (aD 0)))) (oP (dC (.int 1))))) (aX (oL (fun ω ds=>pu (fT ds) ω) (aC (gS 0 "number" (oP (aD 0))) (aC (o2 (fun ω a b=>pu (bF ω a b) ω) (oP (aD 1)) (gS 0 "number" (oP (aD 0)))) aQ))))))
noncomputable def cX:eJ:=dY 1 pS iH
noncomputable abbrev Ca:List Str:=["self","name","value","mark"]
noncomputable abbrev BV:List Str:=["self","name","value"]
noncomputable abbrev rB:OS:=(aI (aV 3 (bL 0 "new_mark" cX (oP (aD 0)) aQ)) (aI (gZ mC (gS 0 "table" (oP (aD 0))) (oP (aD 3)) (oL (fun ω ds=>pu (fT ds) ω) (aC (oP (aD 1)) (aC (oP (aD 3)) (aC (oP (aD 2)) aQ))))) (aX (oP (aD 3)))))
noncomputable def dU:eJ:=dY 3 Ca rB
noncomputable abbrev gP:List Str:=["self","seen_by_all","kept","deed"]
noncomputable abbrev tX:List Str:=["self"]
noncomputable abbrev aS:OS:=(dR (lH (jY (bK eV (aC (oP (aD 1)) (aC (oP (aD 3)) aQ))))) (gZ mC (oP (aD 2)) (oP (aD 3)) (o2 (fun ω a b=>pu (cK ω a b) ω) (gS 0 "kept" (oP (aD 0))) (oP (aD 3)))) bN)
noncomputable abbrev gG:OS:=(aI (aV 1 (bK mJ (aC (gS 0 "knows" (oP (aD 0))) aQ))) (aI (aV 2 sK) (aI (sNx (Ip (gS 0 "kept" (oP (aD 0))) (bG 3) aS)) (lZ 0 "kept" (oP (aD 0)) (oP (aD 2))))))
noncomputable def eO:eJ:=dY 1 gP gG
noncomputable abbrev iP:List Str:=["self","deed","marks","mark"]
noncomputable abbrev pM:List Str:=["self","deed","marks"]
noncomputable abbrev bY:OS:=(cB (nP Ea (gS 0 "table" (oP (aD 0))) (aC (oP (aD 3)) aQ)))
noncomputable abbrev iG:OS:=(aI (sNx (cD (oIL (oP (aD 2))) (bG 3) bY)) (aI (dR (jY (oP (aD 2))) (gZ mC (gS 0 "kept" (oP (aD 0))) (oP (aD 1)) (oL DW (aC (oP (aD 2)) aQ))) bN) (cB (bL 0 "forget" eO (oP (aD 0)) aQ))))
noncomputable def cV:eJ:=dY 3 iP iG
noncomputable abbrev iQ:List Str:=["self","name"]
noncomputable abbrev pO:List Str:=["self","name"]
noncomputable abbrev oH:OS:=(aX (eE Ei (oIL (bL 0 "entries" cL (oP (aD 0)) aQ)) [wf,we 1] (bG 0) (cC (o2 (fV 8) (o2 (fun ω a b=>pu (bF ω a b) ω) (oP (aD 0)) (oP (dC (.int 0)))) (oP (aD 1)))) (o2 (fun ω a b=>pu (bF ω a b) ω) (oP (aD 0)) (oP (dC (.int 1))))))
noncomputable def cY:eJ:=dY 2 iQ oH
noncomputable abbrev uG:List Str:=["self","name","value","marks","mark"]
noncomputable abbrev tY:List Str:=["self","name","value"]
noncomputable abbrev kR:OS:=(aI (aV 3 (bL 0 "marks_of" cY (oP (aD 0)) (aC (oP (aD 1)) aQ))) (aI (aV 4 (bL 0 "put" dU (oP (aD 0)) (aC (oP (aD 1)) (aC (oP (aD 2)) aQ)))) (aI (cB (bL 0 "take_out" cV (oP (aD 0)) (aC (oP (aD 4)) (aC (oP (aD 3)) aQ)))) (aX (oP (aD 4))))))
noncomputable def dL:eJ:=dY 3 uG kR
noncomputable abbrev zK:List Str:=["self","name","marks"]
noncomputable abbrev yZ:List Str:=["self","name"]
noncomputable abbrev jS:OS:=(aI (aV 2 (bL 0 "marks_of" cY (oP (aD 0)) (aC (oP (aD 1)) aQ))) (aI (dR (lH (jY (oP (aD 2)))) (aX (oP (dC .non))) bN) (aI (cB (bL 0 "take_out" cV (oP (aD 0)) (aC (bL 0 "new_mark" cX (oP (aD 0)) aQ) (aC (oP (aD 2)) aQ)))) (aX (oP (aD 2))))))
noncomputable def eZ:eJ:=dY 2 zK jS
noncomputable abbrev zM:List Str:=["self","teller","many","seen","table","entry"]
noncomputable abbrev zB:List Str:=["self","teller"]
noncomputable abbrev eB:OS:=(gZ mC (oP (aD 4)) (o2 (fun ω a b=>pu (bF ω a b) ω) (oP (aD 5)) (oP (dC (.int 1)))) (oP (aD 5)))
noncomputable abbrev oI:OS:=(aI (aV 2 (bK xF (aC (bL 0 "seen" cW (oP (aD 0)) aQ) (aC (bL 0 "seen" cW (oP (aD 1)) aQ) aQ)))) (aI (aV 3 (bK gB (aC (bL 0 "seen" cW (oP (aD 0)) aQ) (aC (bL 0 "seen" cW (oP (aD 1)) aQ) aQ)))) (aI (aV 4 sK) (aI (sNx (cD (oIL (o2 GD (bK kG (aC (bL 0 "entries" cL (oP (aD 0)) aQ) (aC (oP (aD 1)) aQ))) (bK kG (aC (bL 0 "entries" cL (oP (aD 1)) aQ) (aC (oP (aD 0)) aQ))))) (bG 5) eB)) (aI (lZ 0 "table" (oP (aD 0)) (oP (aD 4))) (aI (lZ 0 "knows" (oP (aD 0)) (eE GN (oIZ (aC (gS 0 "knows" (oP (aD 0))) (aC (gS 0 "knows" (oP (aD 1))) aQ))) [wf,wf] (pG 0 1) (oPT mT) (bK gB (aC (oP (aD 0)) (aC (oP (aD 1)) aQ))))) (aI (gZ oJ (gS 0 "knows" (oP (aD 0))) (gS 0 "number" (oP (aD 0))) (oP (aD 3))) (aI (cB (nP DV (gS 0 "kept" (oP (aD 0))) (aC (gS 0 "kept" (oP (aD 1))) aQ))) (aI (cB (bL 0 "forget" eO (oP (aD 0)) aQ)) (aX (oP (aD 2))))))))))))
noncomputable def cH:eJ:=dY 2 zM oI
noncomputable abbrev uH:List Str:=["self","count"]
noncomputable abbrev tZ:List Str:=["self","count"]
noncomputable abbrev kS:OS:=(lZ 1 "hands" (oP (aD 0)) (eE Ei (oIA jA (aC (oP (aD 1)) aQ)) [wf,we 1] (bG 0) (oPT mT) (sL 0 dJ (aC (oP (aD 0)) (aC (oP (aD 1)) aQ)))))
noncomputable def gC:eJ:=dY 2 uH kS
noncomputable abbrev zR:List Str:=["self","number"]
noncomputable abbrev zG:List Str:=["self","number"]
noncomputable abbrev jV:OS:=(aI (dR (lH (qM gLe gLt (oP (dC (.int 0))) (oP (aD 1)) (oL fU (aC (gS 1 "hands" (oP (aD 0))) aQ)))) (Aa 0 (dC (.str "there is no hand of that number"))) bN) (aX (o2 (fun ω a b=>pu (bF ω a b) ω) (gS 1 "hands" (oP (aD 0))) (oP (aD 1)))))
noncomputable def bJ:eJ:=dY 2 zR jV
noncomputable abbrev zP:List Str:=["self","one","other","hands"]
noncomputable abbrev zE:List Str:=["self","one","other"]
noncomputable abbrev fG:OS:=(aI (aV 3 (oL (fun ω ds=>pu (fT ds) ω) (aC (bL 1 "hand" bJ (oP (aD 0)) (aC (oP (aD 1)) aQ)) (aC (bL 1 "hand" bJ (oP (aD 0)) (aC (oP (aD 2)) aQ)) aQ)))) (aI (dR (cC (o2 (fV 8) (oP (aD 1)) (oP (aD 2)))) (Aa 1 (dC (.str "a hand can't tell or meet itself"))) bN) (aX (oP (aD 3)))))
noncomputable def bR:eJ:=dY 3 zP fG
noncomputable abbrev Cb:List Str:=["self","number","name","value"]
noncomputable abbrev BW:List Str:=["self","number","name","value"]
noncomputable abbrev BE:OS:=(aX (bL 0 "put" dU (bL 1 "hand" bJ (oP (aD 0)) (aC (oP (aD 1)) aQ)) (aC (oP (aD 2)) (aC (oP (aD 3)) aQ))))
noncomputable def fR:eJ:=dY 4 Cb BE
noncomputable abbrev uI:List Str:=["self","number","name","value"]
noncomputable abbrev uA:List Str:=["self","number","name","value"]
noncomputable abbrev sX:OS:=(aX (bL 0 "change" dL (bL 1 "hand" bJ (oP (aD 0)) (aC (oP (aD 1)) aQ)) (aC (oP (aD 2)) (aC (oP (aD 3)) aQ))))
noncomputable def dM:eJ:=dY 4 uI sX
noncomputable abbrev zO:List Str:=["self","number","name"]
noncomputable abbrev zD:List Str:=["self","number","name"]
noncomputable abbrev xX:OS:=(aX (bL 0 "take" eZ (bL 1 "hand" bJ (oP (aD 0)) (aC (oP (aD 1)) aQ)) (aC (oP (aD 2)) aQ)))
noncomputable def fB:eJ:=dY 3 zO xX
noncomputable abbrev zN:List Str:=["self","one","other","hands"]
noncomputable abbrev zC:List Str:=["self","one","other"]
noncomputable abbrev jT:OS:=(aI (aV 3 (bL 1 "pair" bR (oP (aD 0)) (aC (oP (aD 1)) (aC (oP (aD 2)) aQ)))) (aX (bL 0 "hear" cH (o2 (fun ω a b=>pu (bF ω a b) ω) (oP (aD 3)) (oP (dC (.int 1)))) (aC (o2 (fun ω a b=>pu (bF ω a b) ω) (oP (aD 3)) (oP (dC (.int 0)))) aQ))))
noncomputable def fA:eJ:=dY 3 zN jT
noncomputable abbrev zQ:List Str:=["self","one","other","hands","many","gained"]
noncomputable abbrev zF:List Str:=["self","one","other"]
noncomputable abbrev jU:OS:=(aI (aV 3 (bL 1 "pair" bR (oP (aD 0)) (aC (oP (aD 1)) (aC (oP (aD 2)) aQ)))) (aI (aV 4 (bL 0 "hear" cH (o2 (fun ω a b=>pu (bF ω a b) ω) (oP (aD 3)) (oP (dC (.int 1)))) (aC (o2 (fun ω a b=>pu (bF ω a b) ω) (oP (aD 3)) (oP (dC (.int 0)))) aQ))) (aI (aV 5 (oL (fun ω ds=>pu (fT ds) ω) (aC (bL 0 "hear" cH (o2 (fun ω a b=>pu (bF ω a b) ω) (oP (aD 3)) (oP (dC (.int 0)))) (aC (o2 (fun ω a b=>pu (bF ω a b) ω) (oP (aD 3)) (oP (dC (.int 1)))) aQ)) (aC (oP (aD 4)) aQ)))) (aI (cB (bL 0 "hear" cH (o2 (fun ω a b=>pu (bF ω a b) ω) (oP (aD 3)) (oP (dC (.int 1)))) (aC (o2 (fun ω a b=>pu (bF ω a b) ω) (oP (aD 3)) (oP (dC (.int 0)))) aQ))) (aX (oP (aD 5)))))))
noncomputable def fC:eJ:=dY 3 zQ jU
noncomputable abbrev Nm:List Str:=["hall","deed","kind"]
noncomputable abbrev Nl:List Str:=["hall","deed"]
noncomputable abbrev rA:OS:=(aI (aV 2 (o2 (fun ω a b=>pu (bF ω a b) ω) (oP (aD 1)) (oP (dC (.int 0))))) (aI (dR (cC (o2 (fV 8) (oP (aD 2)) (oP (dC (.str "put"))))) (aX (bL 1 "put" fR (oP (aD 0)) (aC (o2 (fun ω a b=>pu (bF ω a b) ω) (oP (aD 1)) (oP (dC (.int 1)))) (aC (o2 (fun ω a b=>pu (bF ω a b) ω) (oP (aD 1)) (oP (dC (.int 2)))) (aC (o2 (fun ω a b=>pu (bF ω a b) ω) (oP (aD 1)) (oP (dC (.int 3)))) aQ))))) bN) (aI (dR (cC (o2 (fV 8) (oP (aD 2)) (oP (dC (.str "change"))))) (aX (bL 1 "change" dM (oP (aD 0)) (aC (o2 (fun ω a b=>pu (bF ω a b) ω) (oP (aD 1)) (oP (dC (.int 1)))) (aC (o2 (fun ω a b=>pu (bF ω a b) ω) (oP (aD 1)) (oP (dC (.int 2)))) (aC (o2 (fun ω a b=>pu (bF ω a b) ω) (oP (aD 1)) (oP (dC (.int 3)))) aQ))))) bN) (aI (dR (cC (o2 (fV 8) (oP (aD 2)) (oP (dC (.str "take"))))) (aX (bL 1 "take" fB (oP (aD 0)) (aC (o2 (fun ω a b=>pu (bF ω a b) ω) (oP (aD 1)) (oP (dC (.int 1)))) (aC (o2 (fun ω a b=>pu (bF ω a b) ω) (oP (aD 1)) (oP (dC (.int 2)))) aQ)))) bN) (aI (dR (cC (o2 (fV 8) (oP (aD 2)) (oP (dC (.str "tell"))))) (aX (bL 1 "tell" fA (oP (aD 0)) (aC (o2 (fun ω a b=>pu (bF ω a b) ω) (oP (aD 1)) (oP (dC (.int 1)))) (aC (o2 (fun ω a b=>pu (bF ω a b) ω) (oP (aD 1)) (oP (dC (.int 2)))) aQ)))) bN) (aX (bL 1 "meet" fC (oP (aD 0)) (aC (o2 (fun ω a b=>pu (bF ω a b) ω) (oP (aD 1)) (oP (dC (.int 1)))) (aC (o2 (fun ω a b=>pu (bF ω a b) ω) (oP (aD 1)) (oP (dC (.int 2)))) aQ)))))))))
noncomputable def jC:eJ:=dY 2 Nm rA
noncomputable abbrev zJ:List Str:=["hall","deed"]
noncomputable abbrev yY:List Str:=["hall","deed"]
noncomputable abbrev gF:OS:=(uZ (aX (bK jC (aC (oP (aD 0)) (aC (oP (aD 1)) aQ)))) 0 (aX (oP (dC (.str "no hand")))) 1 (aX (oP (dC (.str "same hand")))))
noncomputable def cG:eJ:=dY 2 zJ gF
noncomputable abbrev wQ:List Str:=["count","deeds","hall"]
noncomputable abbrev ER:List Str:=["count","deeds"]
noncomputable abbrev vV:OS:=(aI (aV 2 (sL 1 gC (aC (oP (aD 0)) aQ))) (aX (eE Ei (oIL (oP (aD 1))) [wf,we 2] (bG 0) (oPT mT) (bK cG (aC (oP (aD 1)) (aC (oP (aD 0)) aQ))))))
noncomputable def nM:eJ:=dY 2 wQ vV
noncomputable abbrev zH:List Str:=["_law_found"]
noncomputable abbrev yU:List Str:=["_law_found"]
noncomputable abbrev xU:OS:=(aX (Bi (mK "int" (oP (aD 0))) (MC (mK "bool" (oP (aD 0))))))
noncomputable def jN:eJ:=dY 1 zH xU
noncomputable abbrev mV:List Str:=["_law_script","_law_k"]
noncomputable abbrev Hs:List Str:=["_law_script","_law_k"]
noncomputable abbrev sW:OS:=(aI (dR (cC (o2 (lf gLt) (oP (aD 1)) (oL fU (aC (oP (aD 0)) aQ)))) (aX (o2 (fun ω a b=>pu (bF ω a b) ω) (oP (aD 0)) (oP (aD 1)))) bN) (aX (oP (dC (.int 0)))))
noncomputable def sG:eJ:=dY 2 mV sW
noncomputable abbrev EU:List Str:=["_law_count","_law_large"]
noncomputable abbrev EO:List Str:=["_law_count"]
noncomputable abbrev DU:OS:=(aI (aV 1 (oP (dC (.int 100000000000000000000)))) (aX (oL (fun ω ds=>pu (eR ds) ω) (aC (oP (d1 OB (dC (.int 1)))) (aC (oP (aD 0)) (aC (oP (d1 OB (dC (.int 2)))) (aC (o2 (lf gSub) (oP (dC (.int 0))) (oP (aD 0))) (aC (oP (aD 1)) (aC (o2 (lf gSub) (oP (dC (.int 0))) (oP (aD 1))) aQ)))))))))
noncomputable def eD:eJ:=dY 1 EU DU
noncomputable abbrev BX:List Str:=["_law_j","_law_count"]
noncomputable abbrev BP:List Str:=["_law_j","_law_count"]
noncomputable abbrev BB:OS:=(aI (dR (cC (o2 (fV 8) (o2 (lf cR) (oP (aD 1)) (oP (dC (.int 2)))) (oP (dC (.int 0))))) (aX (o2 (lf Kf) (o2 (lf Kf) (o2 (lf Ke) (oP (dC (.str "o"))) (o2 (lf cR) (oP (aD 1)) (oP (dC (.int 5))))) (o2 (fun ω a b=>pu (bF ω a b) ω) (oP (dC (.str "abcd"))) (oP (aD 0)))) (o2 (lf Ke) (oP (dC (.str "o"))) (o2 (lf gSub) (oP (dC (.int 5))) (o2 (lf cR) (oP (aD 1)) (oP (dC (.int 5)))))))) bN) (aX (o2 (fun ω a b=>pu (bF ω a b) ω) (oL (fun ω ds=>pu (eR ds) ω) (aC (oP (dC (.str "oats"))) (aC (oP (dC (.str "oat"))) (aC (oP (dC (.str ""))) (aC (oP (dC (.str "oatsack"))) aQ))))) (oP (aD 0)))))
noncomputable def iT:eJ:=dY 2 BX BB
noncomputable abbrev kY:List Str:=["_law_cell","_law_k","_law_count","_law_way","_law_one","_law_other","_law_name","_law_values","_law_value"]
noncomputable abbrev tV:List Str:=["_law_cell","_law_k","_law_count"]
noncomputable abbrev sU:OS:=(aI (aV 3 (o2 (lf cR) (o2 (lf cR) (o2 (lf gT) (oP (aD 0)) (oP (dC (.int 48271)))) (oP (dC (.int 1009)))) (oP (dC (.int 16))))) (aI (aV 4 (o2 (lf cR) (o2 (lf cR) (o2 (lf gT) (o2 (lf sZ) (oP (aD 0)) (oP (aD 1))) (oP (dC (.int 48271)))) (oP (dC (.int 1013)))) (oP (aD 2)))) (aI (aV 5 (oP (aD 4))) (aI (dR (Bj (cC (o2 (lf gGt) (oP (aD 2)) (oP (dC (.int 1))))) (cC (o2 (lf gGt) (o2 (lf cR) (o2 (lf cR) (o2 (lf gT) (oP (aD 0)) (oP (dC (.int 48271)))) (oP (dC (.int 1019)))) (oP (dC (.int 19)))) (oP (dC (.int 0)))))) (aV 5 (o2 (lf cR) (o2 (lf sZ) (o2 (lf sZ) (oP (aD 4)) (oP (dC (.int 1)))) (o2 (lf cR) (o2 (lf cR) (o2 (lf gT) (oP (aD 0)) (oP (dC (.int 48271)))) (oP (dC (.int 1021)))) (o2 (lf gSub) (oP (aD 2)) (oP (dC (.int 1)))))) (oP (aD 2)))) bN) (aI (aV 6 (bK iT (aC (o2 (lf cR) (o2 (lf cR) (o2 (lf gT) (oP (aD 0)) (oP (dC (.int 48271)))) (oP (dC (.int 1031)))) (oP (dC (.int 4)))) (aC (oP (aD 2)) aQ)))) (aI (aV 7 (oL (fun ω ds=>pu (eR ds) ω) (aC (o2 (lf gSub) (o2 (lf cR) (o2 (lf cR) (o2 (lf gT) (oP (aD 0)) (oP (dC (.int 48271)))) (oP (dC (.int 1033)))) (oP (dC (.int 9)))) (oP (dC (.int 4)))) (aC (o2 (lf gSub) (oP (dC (.int 0))) (oP (aD 1))) (aC (o2 (lf sZ) (oP (dC (.int 100000000000000000000))) (oP (aD 1))) aQ))))) (aI (aV 8 (o2 (fun ω a b=>pu (bF ω a b) ω) (oP (aD 7)) (o2 (lf cR) (o2 (lf cR) (o2 (lf gT) (oP (aD 0)) (oP (dC (.int 48271)))) (oP (dC (.int 1039)))) (oP (dC (.int 3)))))) (aI (dR (cC (o2 (fV 8) (o2 (lf cR) (o2 (lf cR) (o2 (lf gT) (oP (aD 0)) (oP (dC (.int 48271)))) (oP (dC (.int 1049)))) (oP (dC (.int 31)))) (oP (dC (.int 30))))) (aV 4 (o2 (fun ω a b=>pu (bF ω a b) ω) (bK eD (aC (oP (aD 2)) aQ)) (o2 (lf cR) (o2 (lf cR) (o2 (lf gT) (oP (aD 0)) (oP (dC (.int 48271)))) (oP (dC (.int 1051)))) (oP (dC (.int 6)))))) bN) (aI (dR (cC (o2 (fV 8) (o2 (lf cR) (o2 (lf cR) (o2 (lf gT) (oP (aD 0)) (oP (dC (.int 48271)))) (oP (dC (.int 1061)))) (oP (dC (.int 31)))) (oP (dC (.int 30))))) (aV 5 (o2 (fun ω a b=>pu (bF ω a b) ω) (bK eD (aC (oP (aD 2)) aQ)) (o2 (lf cR) (o2 (lf cR) (o2 (lf gT) (oP (aD 0)) (oP (dC (.int 48271)))) (oP (dC (.int 1063)))) (oP (dC (.int 6)))))) bN) (aI (dR (cC (o2 (lf gLt) (oP (aD 3)) (oP (dC (.int 5))))) (aX (oL (fun ω ds=>pu (fT ds) ω) (aC (oP (dC (.str "put"))) (aC (oP (aD 4)) (aC (oP (aD 6)) (aC (oP (aD 8)) aQ)))))) bN) (aI (dR (cC (o2 (lf gLt) (oP (aD 3)) (oP (dC (.int 7))))) (aX (oL (fun ω ds=>pu (fT ds) ω) (aC (oP (dC (.str "take"))) (aC (oP (aD 4)) (aC (oP (aD 6)) aQ))))) bN) (aI (dR (cC (o2 (lf gLt) (oP (aD 3)) (oP (dC (.int 9))))) (aX (oL (fun ω ds=>pu (fT ds) ω) (aC (oP (dC (.str "change"))) (aC (oP (aD 4)) (aC (oP (aD 6)) (aC (oP (aD 8)) aQ)))))) bN) (aX (oL (fun ω ds=>pu (fT ds) ω) (aC (o2 (fun ω a b=>pu (bF ω a b) ω) (oL (fun ω ds=>pu (eR ds) ω) (aC (oP (dC (.str "tell"))) (aC (oP (dC (.str "meet"))) aQ))) (oL (lfL Nv) (aC (o2 (lf gGt) (oP (aD 3)) (oP (dC (.int 11)))) aQ))) (aC (oP (aD 4)) (aC (oP (aD 5)) aQ)))))))))))))))))
noncomputable def fZ:eJ:=dY 3 kY sU
noncomputable abbrev pR:List Str:=["_law_cells","_law_count","_law_deeds","_law_k"]
noncomputable abbrev yW:List Str:=["_law_cells","_law_count"]
noncomputable abbrev dZ:OS:=(cB (kI kT (oP (aD 2)) (aC (bK fZ (aC (o2 (lf sZ) (o2 (fun ω a b=>pu (bF ω a b) ω) (oP (aD 0)) (oP (aD 3))) (o2 (lf gT) (oP (dC (.int 7))) (oP (aD 3)))) (aC (oP (aD 3)) (aC (oP (aD 1)) aQ)))) aQ)))
noncomputable abbrev oG:OS:=(aI (aV 2 (oL Gz aQ)) (aI (sNx (cD (oIA jA (aC (oL fU (aC (oP (aD 0)) aQ)) aQ)) (bG 3) dZ)) (aX (oP (aD 2)))))
noncomputable def jO:eJ:=dY 2 pR oG
noncomputable abbrev iO:List Str:=["_law_count","_law_hall"]
noncomputable abbrev EQ:List Str:=["_law_count"]
noncomputable abbrev vU:OS:=(aI (aV 1 (Bh [("count",(oP (aD 0))),("deeds",sK),("order",(oL Gz aQ))])) (aI (gZ mC (oP (aD 1)) (oP (dC (.str "known"))) (eE GN (oIA jA (aC (oP (aD 0)) aQ)) [wf,we 0] (bG 0) (oPT mT) (eE GN (oIA jA (aC (oP (aD 1)) aQ)) [wf,we 1] (bG 0) (oPT mT) (o2 xZ (oL (fun ω ds=>pu (eR ds) ω) (aC (oP (dC (.int 0))) aQ)) (oP (aD 1)))))) (aX (oP (aD 1)))))
noncomputable def nL:eJ:=dY 1 iO vU
noncomputable abbrev uC:List Str:=["_law_hall","_law_seen","_law_gone","_law_there","_law_mark","_law_put","_law_outs"]
noncomputable abbrev tT:List Str:=["_law_hall","_law_seen"]
noncomputable abbrev bA:OS:=(dR (cC (o2 (lf gLe) (o2 (fun ω a b=>pu (bF ω a b) ω) (oP (aD 4)) (oP (dC (.int 1)))) (o2 (fun ω a b=>pu (bF ω a b) ω) (oP (aD 1)) (o2 (fun ω a b=>pu (bF ω a b) ω) (oP (aD 4)) (oP (dC (.int 0))))))) (aI (Ff (pG 5 6) (o2 (fun ω a b=>pu (cK ω a b) ω) (o2 (fun ω a b=>pu (cK ω a b) ω) (oP (aD 0)) (oP (dC (.str "deeds")))) (oP (aD 4)))) (aI (aV 2 (o2 GD (oP (aD 2)) (oP (aD 6)))) (dR (cC (o2 (lf Kd) (oP (aD 5)) (oP (dC .non)))) (cB (kI kT (oP (aD 3)) (aC (oL (fun ω ds=>pu (fT ds) ω) (aC (o2 (fun ω a b=>pu (bF ω a b) ω) (oP (aD 5)) (oP (dC (.int 0)))) (aC (oP (aD 4)) (aC (o2 (fun ω a b=>pu (bF ω a b) ω) (oP (aD 5)) (oP (dC (.int 1)))) aQ)))) aQ))) bN))) bN)
noncomputable abbrev kP:OS:=(aI (aV 2 (oL (fun ω ds=>pu (eR ds) ω) aQ)) (aI (aV 3 (oL Gz aQ)) (aI (sNx (cD (oIL (o2 (fun ω a b=>pu (cK ω a b) ω) (oP (aD 0)) (oP (dC (.str "order"))))) (bG 4) bA)) (aX (oL (Gx 4) (aC (eE Ei (oIL (oP (aD 3))) [wf,we 2] (bG 0) (cC (o2 (lf (AA 7)) (o2 (fun ω a b=>pu (bF ω a b) ω) (oP (aD 0)) (oP (dC (.int 1)))) (oP (aD 1)))) (oP (aD 0))) aQ))))))
noncomputable def fX:eJ:=dY 2 uC kP
noncomputable abbrev pP:List Str:=["_law_hall","_law_own","_law_put","_law_outs","_law_seen"]
noncomputable abbrev yV:List Str:=["_law_hall","_law_own","_law_put","_law_outs"]
noncomputable abbrev oF:OS:=(aI (aV 4 (oL rC (aC (o2 (fun ω a b=>pu (bF ω a b) ω) (o2 (fun ω a b=>pu (bF ω a b) ω) (o2 (fun ω a b=>pu (cK ω a b) ω) (oP (aD 0)) (oP (dC (.str "known")))) (oP (aD 1))) (oP (aD 1))) aQ))) (aI (gZ oJ (oP (aD 4)) (oP (aD 1)) (o2 (lf sZ) (o2 (fun ω a b=>pu (bF ω a b) ω) (oP (aD 4)) (oP (aD 1))) (oP (dC (.int 1))))) (aI (gZ oJ (o2 (fun ω a b=>pu (bF ω a b) ω) (o2 (fun ω a b=>pu (cK ω a b) ω) (oP (aD 0)) (oP (dC (.str "known")))) (oP (aD 1))) (oP (aD 1)) (oP (aD 4))) (aI (gZ mC (o2 (fun ω a b=>pu (cK ω a b) ω) (oP (aD 0)) (oP (dC (.str "deeds")))) (oL (fun ω ds=>pu (fT ds) ω) (aC (oP (aD 1)) (aC (o2 (fun ω a b=>pu (bF ω a b) ω) (oP (aD 4)) (oP (aD 1))) aQ))) (oL (fun ω ds=>pu (fT ds) ω) (aC (oP (aD 2)) (aC (oP (aD 3)) aQ)))) (aI (cB (kI kT (o2 (fun ω a b=>pu (cK ω a b) ω) (oP (aD 0)) (oP (dC (.str "order")))) (aC (oL (fun ω ds=>pu (fT ds) ω) (aC (oP (aD 1)) (aC (o2 (fun ω a b=>pu (bF ω a b) ω) (oP (aD 4)) (oP (aD 1))) aQ))) aQ))) (aX (oL (fun ω ds=>pu (fT ds) ω) (aC (oP (aD 1)) (aC (o2 (fun ω a b=>pu (bF ω a b) ω) (oP (aD 4)) (oP (aD 1))) aQ)))))))))
noncomputable def cT:eJ:=dY 4 pP oF
noncomputable abbrev pQ:List Str:=["_law_hall","_law_one","_law_other","_law_left","_law_right","_law_before","_law_made","_law_k","_law_row","_law_j","_law_most"]
noncomputable abbrev pL:List Str:=["_law_hall","_law_one","_law_other"]
noncomputable abbrev cQ:OS:=(aI (aV 10 (oL (lfL vW) (aC (o2 (fun ω a b=>pu (bF ω a b) ω) (o2 (fun ω a b=>pu (bF ω a b) ω) (oP (aD 3)) (oP (aD 7))) (oP (aD 9))) (aC (o2 (fun ω a b=>pu (bF ω a b) ω) (o2 (fun ω a b=>pu (bF ω a b) ω) (oP (aD 4)) (oP (aD 7))) (oP (aD 9))) aQ)))) (aI (dR (cC (o2 (fV 8) (oP (aD 7)) (oP (aD 2)))) (aV 10 (oL (lfL vW) (aC (oP (aD 10)) (aC (o2 (fun ω a b=>pu (bF ω a b) ω) (o2 (fun ω a b=>pu (bF ω a b) ω) (oP (aD 3)) (oP (aD 1))) (oP (aD 9))) aQ)))) bN) (cB (kI kT (oP (aD 8)) (aC (oP (aD 10)) aQ)))))
noncomputable abbrev cP:OS:=(aI (aV 8 (oL Gz aQ)) (aI (sNx (cD (oIA jA (aC (o2 (fun ω a b=>pu (cK ω a b) ω) (oP (aD 0)) (oP (dC (.str "count")))) aQ)) (bG 9) cQ)) (cB (kI kT (oP (aD 6)) (aC (oP (aD 8)) aQ)))))
noncomputable abbrev iF:OS:=(aI (aV 3 (o2 (fun ω a b=>pu (bF ω a b) ω) (o2 (fun ω a b=>pu (cK ω a b) ω) (oP (aD 0)) (oP (dC (.str "known")))) (oP (aD 1)))) (aI (aV 4 (o2 (fun ω a b=>pu (bF ω a b) ω) (o2 (fun ω a b=>pu (cK ω a b) ω) (oP (aD 0)) (oP (dC (.str "known")))) (oP (aD 2)))) (aI (aV 5 (oL xY (aC (o2 (fun ω a b=>pu (bF ω a b) ω) (oP (aD 4)) (oP (aD 2))) aQ))) (aI (aV 6 (oL Gz aQ)) (aI (sNx (cD (oIA jA (aC (o2 (fun ω a b=>pu (cK ω a b) ω) (oP (aD 0)) (oP (dC (.str "count")))) aQ)) (bG 7) cP)) (aI (gZ oJ (o2 (fun ω a b=>pu (cK ω a b) ω) (oP (aD 0)) (oP (dC (.str "known")))) (oP (aD 2)) (oP (aD 6))) (aX (o2 (lf gSub) (oL xY (aC (o2 (fun ω a b=>pu (bF ω a b) ω) (oP (aD 6)) (oP (aD 2))) aQ)) (oP (aD 5))))))))))
noncomputable def cU:eJ:=dY 3 pQ iF
noncomputable abbrev mF:List Str:=["_law_hall","_law_deed","_law_count","_law_number","_law_own","_law_rows","_law_marks","_law_many","_law_more"]
noncomputable abbrev mE:List Str:=["_law_hall","_law_deed"]
noncomputable abbrev aF:OS:=(dR (Bj (lH (jY (mK "str" (oP (aD 3))))) (oOr (cC (o2 (lf gLt) (oP (aD 3)) (oP (dC (.int 0))))) (cC (o2 (lf gGe) (oP (aD 3)) (oP (aD 2)))))) (aX (oP (dC (.str "no hand")))) bN)
noncomputable abbrev bM:OS:=(aI (aV 2 (o2 (fun ω a b=>pu (cK ω a b) ω) (oP (aD 0)) (oP (dC (.str "count"))))) (aI (sNx (cD (oIT (o2 yB (oSl (oP (aD 1)) (dSo (dC (.int 1))) (dSo (dC (.int 2)))) (oSl (oP (aD 1)) (dSo (dC (.int 2))) (dSo (dC (.int 3)))))) (bG 3) aF)) (aI (aV 4 (o2 (fun ω a b=>pu (bF ω a b) ω) (oP (aD 1)) (oP (dC (.int 1))))) (aI (dR (cC (o2 (lf (gIn 7)) (o2 (fun ω a b=>pu (bF ω a b) ω) (oP (aD 1)) (oP (dC (.int 0)))) (oL (fun ω ds=>pu (eR ds) ω) (aC (oP (dC (.str "put"))) (aC (oP (dC (.str "take"))) (aC (oP (dC (.str "change"))) aQ)))))) (aI (aV 5 (bK fX (aC (oP (aD 0)) (aC (o2 (fun ω a b=>pu (bF ω a b) ω) (o2 (fun ω a b=>pu (bF ω a b) ω) (o2 (fun ω a b=>pu (cK ω a b) ω) (oP (aD 0)) (oP (dC (.str "known")))) (oP (aD 4))) (oP (aD 4))) aQ)))) (aI (aV 6 (eE Ei (oIL (oP (aD 5))) [wf,we 1] (bG 0) (cC (o2 (fV 8) (o2 (fun ω a b=>pu (bF ω a b) ω) (oP (aD 0)) (oP (dC (.int 0)))) (o2 (fun ω a b=>pu (bF ω a b) ω) (oP (aD 1)) (oP (dC (.int 2)))))) (o2 (fun ω a b=>pu (bF ω a b) ω) (oP (aD 0)) (oP (dC (.int 1)))))) (aI (dR (cC (o2 (fV 8) (o2 (fun ω a b=>pu (bF ω a b) ω) (oP (aD 1)) (oP (dC (.int 0)))) (oP (dC (.str "put"))))) (aX (bK cT (aC (oP (aD 0)) (aC (oP (aD 4)) (aC (oSl (oP (aD 1)) (dSo (dC (.int 2))) dNo) (aC (oL (fun ω ds=>pu (eR ds) ω) aQ) aQ)))))) bN) (aI (dR (cC (o2 (fV 8) (o2 (fun ω a b=>pu (bF ω a b) ω) (oP (aD 1)) (oP (dC (.int 0)))) (oP (dC (.str "change"))))) (aX (bK cT (aC (oP (aD 0)) (aC (oP (aD 4)) (aC (oSl (oP (aD 1)) (dSo (dC (.int 2))) dNo) (aC (oP (aD 6)) aQ)))))) bN) (aI (dR (cC (o2 (fV 8) (oP (aD 6)) (oL (fun ω ds=>pu (eR ds) ω) aQ))) (aX (oP (dC .non))) bN) (aI (cB (bK cT (aC (oP (aD 0)) (aC (oP (aD 4)) (aC (oP (dC .non)) (aC (oP (aD 6)) aQ)))))) (aX (oP (aD 6))))))))) bN) (aI (dR (cC (o2 (fV 8) (oP (aD 4)) (o2 (fun ω a b=>pu (bF ω a b) ω) (oP (aD 1)) (oP (dC (.int 2)))))) (aX (oP (dC (.str "same hand")))) bN) (aI (dR (cC (o2 (fV 8) (o2 (fun ω a b=>pu (bF ω a b) ω) (oP (aD 1)) (oP (dC (.int 0)))) (oP (dC (.str "tell"))))) (aX (bK cU (aC (oP (aD 0)) (aC (oP (aD 4)) (aC (o2 (fun ω a b=>pu (bF ω a b) ω) (oP (aD 1)) (oP (dC (.int 2)))) aQ))))) bN) (aI (aV 7 (bK cU (aC (oP (aD 0)) (aC (o2 (fun ω a b=>pu (bF ω a b) ω) (oP (aD 1)) (oP (dC (.int 2)))) (aC (oP (aD 4)) aQ))))) (aI (aV 8 (bK cU (aC (oP (aD 0)) (aC (oP (aD 4)) (aC (o2 (fun ω a b=>pu (bF ω a b) ω) (oP (aD 1)) (oP (dC (.int 2)))) aQ))))) (aI (gZ oJ (o2 (fun ω a b=>pu (bF ω a b) ω) (o2 (fun ω a b=>pu (cK ω a b) ω) (oP (aD 0)) (oP (dC (.str "known")))) (oP (aD 4))) (o2 (fun ω a b=>pu (bF ω a b) ω) (oP (aD 1)) (oP (dC (.int 2)))) (oL oK (aC (o2 (fun ω a b=>pu (bF ω a b) ω) (o2 (fun ω a b=>pu (bF ω a b) ω) (o2 (fun ω a b=>pu (cK ω a b) ω) (oP (aD 0)) (oP (dC (.str "known")))) (oP (aD 4))) (oP (aD 4))) aQ))) (aX (oL (fun ω ds=>pu (fT ds) ω) (aC (oP (aD 7)) (aC (oP (aD 8)) aQ)))))))))))))
noncomputable def bU:eJ:=dY 2 mF bM
noncomputable abbrev uD:List Str:=["_law_found","_law_number"]
noncomputable abbrev tU:List Str:=["_law_found"]
noncomputable abbrev mB:OS:=(dR (lH (jY (bK jN (aC (oP (aD 1)) aQ)))) (aX (oP (dC (.bl false)))) bN)
noncomputable abbrev sT:OS:=(aI (sNx (cD (oIT (oP (aD 0))) (bG 1) mB)) (aX (oP (dC (.bl true)))))
noncomputable def fY:eJ:=dY 1 uD sT
noncomputable abbrev zI:List Str:=["_law_found","_law_due","_law_mark"]
noncomputable abbrev yX:List Str:=["_law_found","_law_due"]
noncomputable abbrev jG:OS:=(dR (oOr (lH (jY (mK "tuple" (oP (aD 2))))) (lH (jY (bK fY (aC (oP (aD 2)) aQ))))) (aX (oP (dC (.bl false)))) bN)
noncomputable abbrev xV:OS:=(aI (dR (oOr (cC (o2 (lf OD) (oP (aD 1)) (oP (dC .non)))) (jY (mK "str" (oP (aD 1))))) (aX (Bi (o2 (fV 8) (oP (aD 0)) (oP (aD 1))) (o2 (fV 8) (mK "str" (oP (aD 0))) (mK "str" (oP (aD 1)))))) bN) (aI (dR (jY (mK "tuple" (oP (aD 1)))) (aI (dR (oOr (lH (jY (mK "tuple" (oP (aD 0))))) (lH (jY (bK fY (aC (oP (aD 0)) aQ))))) (aX (oP (dC (.bl false)))) bN) (aX (o2 (fV 8) (oP (aD 0)) (oP (aD 1))))) bN) (aI (dR (jY (mK "list" (oP (aD 1)))) (aI (dR (oOr (lH (jY (mK "list" (oP (aD 0))))) (cC (o2 (KJ 8) (oL fU (aC (oP (aD 0)) aQ)) (oL fU (aC (oP (aD 1)) aQ))))) (aX (oP (dC (.bl false)))) bN) (aI (sNx (cD (oIL (oP (aD 0))) (bG 2) jG)) (aX (o2 (fV 8) (oP (aD 0)) (oP (aD 1)))))) bN) (aX (Bi (bK jN (aC (oP (aD 0)) aQ)) (o2 (fV 8) (oP (aD 0)) (oP (aD 1))))))))
noncomputable def gA:eJ:=dY 2 zI xV
noncomputable abbrev BY:List Str:=["_law_script","_law_most","_law_bound"]
noncomputable abbrev BQ:List Str:=["_law_script","_law_most","_law_bound"]
noncomputable abbrev BC:OS:=(aI (dR (cC (o2 (lf gGt) (oL fU (aC (oP (aD 0)) aQ)) (oP (dC (.int 63))))) (aX (oP (aD 2))) bN) (aX (oP (aD 1))))
noncomputable def iU:eJ:=dY 3 BY BC
noncomputable abbrev OY:List Str:=["_law_script","_law_count","_law_deeds","_law_handed","_law_told","_law_hall","_law_k"]
noncomputable abbrev OU:List Str:=["_law_script"]
noncomputable abbrev sV:OS:=(dR (lH (jY (bK gA (aC (o2 (fun ω a b=>pu (bF ω a b) ω) (oP (aD 4)) (oP (aD 6))) (aC (bK bU (aC (oP (aD 5)) (aC (o2 (fun ω a b=>pu (bF ω a b) ω) (oP (aD 2)) (oP (aD 6))) aQ))) aQ))))) (aX (oP (dC (.bl false)))) bN)
noncomputable abbrev MN:OS:=(aI (aV 1 (o2 (fun ω a b=>pu (bF ω a b) ω) (oL (fun ω ds=>pu (eR ds) ω) (aC (oP (dC (.int 1))) (aC (oP (dC (.int 2))) (aC (oP (dC (.int 3))) (aC (oP (dC (.int 4))) (aC (oP (dC (.int 2))) (aC (oP (dC (.int 3))) (aC (oP (dC (.int 4))) (aC (oP (dC (.int 8))) aQ))))))))) (o2 (lf cR) (o2 (lf cR) (o2 (lf gT) (bK sG (aC (oP (aD 0)) (aC (oP (dC (.int 0))) aQ))) (oP (dC (.int 48271)))) (oP (dC (.int 1069)))) (oP (dC (.int 8)))))) (aI (aV 2 (bK jO (aC (Np (oP (aD 0)) (dSo (dC (.int 1))) (o2 (lf sZ) (oP (dC (.int 1))) (bK iU (aC (oP (aD 0)) (aC (oP (dC (.int 40))) (aC (oP (dC (.int 150))) aQ)))))) (aC (oP (aD 1)) aQ)))) (aI (aV 3 (oL oK (aC (oP (aD 2)) aQ))) (aI (aV 4 (bK nM (aC (oP (aD 1)) (aC (oP (aD 3)) aQ)))) (aI (dR (oOr (lH (jY (mK "list" (oP (aD 4))))) (oOr (cC (o2 (KJ 8) (oL fU (aC (oP (aD 4)) aQ)) (oL fU (aC (oP (aD 2)) aQ)))) (cC (o2 (KJ 8) (oP (aD 3)) (oP (aD 2)))))) (aX (oP (dC (.bl false)))) bN) (aI (aV 5 (bK nL (aC (oP (aD 1)) aQ))) (aI (sNx (cD (oIA jA (aC (oL fU (aC (oP (aD 2)) aQ)) aQ)) (bG 6) sV)) (aX (oP (dC (.bl true)))))))))))
noncomputable def p_law:eJ:=dY 1 OY MN
theorem dW (J:Rho->Prop) (hc:chk ω=true):∀ {ds:List D}{ρ:Rho},J ρ->(∀ d∈ds,∀ ρ,J ρ->∃ ρ1,bd d ρ=we ρ1/\J ρ1/\t ρ1 ω=we (.ok (p d),ω)/\(p d=true->f ρ1 ω=we (.ok (g d),ω)))->
  compLO bd chk t f ds ρ ω=we ((ds.filter p).map g,ω)
 |[],ρ,_,_=>by
  show(if chk ω=true then we ([],ω) else wf)=_
  rw[if_pos hc];rfl
 |d::ds,ρ,hJ,h=>by
  obtain⟨ρ1,h1,h2,h3,h4⟩:=h d au ρ hJ;have ih:=dW J hc h2 fun d' hd=>h d' (ai _ hd);unfold compLO;rw[if_pos hc,h1]
  show(match t ρ1 ω with
   |some (.ok k,ω1)=>_
   |_=>_)=_
  rw[h3];cases hp:p d with
  |true=>
   rw[c7 hp]
   show(if true=true then(match f ρ1 ω with
    |some (.ok y,ω2)=>_
    |_=>wf) else _)=_
   rw[if_pos rfl,h4 hp]
   show(compLO bd chk t f ds ρ1 ω).map _=_
   rw[ih];rfl
  |false=>
   rw[c6 (by rw[hp];exact cf)];exact ih
theorem tP (J:Rho->Prop) (hc:chk ω=true) (hJ:J ρ) (h:∀ d∈ds,∀ ρ,J ρ->∃ ρ1,bd d ρ=we ρ1/\J ρ1/\f ρ1 ω=we (.ok (g d),ω)):
  compLO bd chk (oPT mT) f ds ρ ω=we (ds.map g,ω):=by
 have:=dW (t:=oPT mT) (p:=fun _=>true) (g:=g) J hc hJ fun d hd ρ hρ=>let ⟨ρ1,h1,h2,h3⟩:=h d hd ρ hρ;⟨ρ1,h1,h2,rfl,fun _=>h3⟩
 rw[this]
 congr 2
 rw[t9.mpr (fun _ _=>rfl)]
theorem iB (h1:fi ρ ω=we (.ok (ds,chk),ω1)) (hl:ds.length<=sizeLine) (h2:compLO bd chk t f ds (EX caps ρ) ω1=we (out,ω2)):eE Ei fi caps bd t f ρ ω=we (.ok (.lst out),ω2):=by
 unfold eE;rw[bH h1]
 show(if ds.length<=sizeLine then _ else wf)=_
 rw[if_pos hl]
 show(compLO bd chk t f ds (EX caps ρ) ω1).bind _=_
 rw[h2];rfl
theorem nQ (h1:fi ρ ω=we (.ok (ds,chk),ω1)) (hl:ds.length<=sizeLine) (h2:compLO bd chk t f ds (EX caps ρ) ω1=we (out,ω2)):eE GN fi caps bd t f ρ ω=we (.ok (.obj ω2.length),ω2++[.ml out]):=by
 unfold eE;rw[bH h1]
 show(if ds.length<=sizeLine then _ else wf)=_
 rw[if_pos hl]
 show(compLO bd chk t f ds (EX caps ρ) ω1).bind _=_
 rw[h2];rfl
theorem gH (hc:chk ω=true) (hb:bd d ρ=we ρ1) (hF:F ρ1 ω=we (.nx ρ2,ω2)):bZ bd chk F (d::ds) ρ ω=bZ bd chk F ds ρ2 ω2:=by
 show(if chk ω=true then(bd d ρ).bind (fun ρ1=>match F ρ1 ω with
  |none=>wf
  |some (.nx ρ2,ω2)=>bZ bd chk F ds ρ2 ω2
  |some (.ct ρ2,ω2)=>bZ bd chk F ds ρ2 ω2
  |some (.bk ρ2,ω2)=>we (.nx ρ2,ω2)
  |some (.rt d,ω2)=>we (.rt d,ω2)
  |some (.ex _,_)=>wf) else wf)=_
 rw[if_pos hc,hb]
 show(match F ρ1 ω with
  |none=>wf
  |some (.nx ρ2,ω2)=>bZ bd chk F ds ρ2 ω2
  |some (.ct ρ2,ω2)=>bZ bd chk F ds ρ2 ω2
  |some (.bk ρ2,ω2)=>we (.nx ρ2,ω2)
  |some (.rt d,ω2)=>we (.rt d,ω2)
  |some (.ex _,_)=>wf)=_
 rw[hF]
theorem pE (hc:chk ω=true) (hb:bd d ρ=we ρ1) (hf:f ρ1 ω=we (.ok y,ω2)):compLO bd chk (oPT mT) f (d::ds) ρ ω=(compLO bd chk (oPT mT) f ds ρ1 ω2).map fun r=>(y::r.1,r.2):=by
 rw[compLO.eq_2,if_pos hc,hb]
 show(match f ρ1 ω with
  |some (.ok y,ω2)=>(compLO bd chk (oPT mT) f ds ρ1 ω2).map fun r:List D×Om=>(y::r.1,r.2)
  |_=>wf)=_
 rw[hf]
mutual
theorem qK:∀ a:D,eY a a=true
 |.non=>by simp[eY]
 |.bl a=>by simp[eY]
 |.int a=>by simp[eY]
 |.str a=>by simp[eY]
 |.obj a=>by simp[eY]
 |.lst a=>by simpa [eY] using sameDs_refl a
 |.tup a=>by simpa [eY] using sameDs_refl a
 |.scr a=>by simpa [eY] using sameDs_refl a
theorem sameDs_refl:∀ a:List D,sameDs a a=true
 |[]=>by simp[sameDs]
 |a::as=>by simp[sameDs,qK a,sameDs_refl as]
end
noncomputable def iv (xs:List Int):List D:=xs.map D.int
noncomputable def RowV (ω:Om) (d:D) (xs:List Int):Prop:=fL ω d=we (iv xs)
theorem RowV.it (h:RowV ω d xs):∃ chk,rD ω d=we (iv xs,chk)/\chk ω=true:=by
 rcases eN h with rfl|⟨n,rfl,e⟩
 ·exact⟨cM,rfl,rfl⟩
 ·refine⟨kZ n (iv xs),?_,?_⟩
  ·show(match ω[n]? with
    |some (.ml ds)=>we (ds,kZ n ds)
    |_=>wf)=_
   rw[e]
  ·unfold kZ;rw[e];exact sameDs_refl _
theorem iI (e:ω[n]?=we (.ml ds)):bF ω (.obj n) (.int a)=atI ds a:=by
 simp only[bF,cellOf,e];rfl
theorem RowV.ix (h:RowV ω d xs) {a:Int} (h0:0<=a) (h1:a<xs.length):bF ω d (.int a)=we (.int (xs.getD a.toNat 0)):=by
 have key:atI (iv xs) a=we (.int (xs.getD a.toNat 0)):=by
  unfold atI ixN iv;have hl:a<((xs.map D.int).length:Int):=by simpa using h1
  rw[if_pos h0,if_pos hl]
  show(xs.map D.int)[a.toNat]?=_
  have:a.toNat<xs.length:=by omega
  rw[bf,bj this,aq,bj this];rfl
 rcases eN h with rfl|⟨n,rfl,e⟩
 ·exact key
 ·rw[iI e];exact key
theorem aK (e1:f ρ ω=we (.ok a,ω1)) (e2:h ρ ω1=we (.ok b,ω2)) (e3:bF ω2 a b=we d):o2 (fun ω a b=>pu (bF ω a b) ω) f h ρ ω=we (.ok d,ω2):=eP e1 e2 (by show pu (bF ω2 a b) ω2=_;rw[e3];rfl)
theorem oC (h:RowV ω d xs) {a b:Int} (h0:0<=a) (h1:a<xs.length):eV [d,.tup [.int a,.int b]] ω=we (.ok (.bl (decide (b<=xs.getD a.toNat 0))),ω):=by
 refine aT rfl (bD (fD (aK (aB (d:=.tup [.int a,.int b]) rfl) aR rfl) (aK (aB (d:=d) rfl) (aK (aB (d:=.tup [.int a,.int b]) rfl) aR rfl) (h.ix h0 h1)) rfl))
theorem Cc (e1:f ρ ω=we (.ok a,ω)) (e2:h ρ ω=we (.ok b,ω)) (h1:RowV ω a xs) (h2:RowV ω b ys):∃ chk,oIZ (aC f (aC h aQ)) ρ ω=we (.ok (wU (iv xs) (iv ys),chk),ω)/\chk ω=true:=by
 obtain⟨c1,g1,k1⟩:=h1.it;obtain⟨c2,g2,k2⟩:=h2.it;refine⟨fun ω=>c1 ω&&c2 ω,?_,by simp[k1,k2]⟩;unfold oIZ;rw[bH (aA e1 (aA e2 aE))];show oR (pu (Nu ω [a,b]) ω)=_;unfold Nu;show oR (pu ((rD ω a).bind _) ω)=_;rw[g1];show oR (pu ((rD ω b).map _) ω)=_;rw[g2];rfl
theorem rV (hG:∀ x y,G (.tup [.int x,.int y])=.int (g x y)):(wU (iv xs) (iv ys)).map G=iv (bp g xs ys):=by
 unfold wU iv;rw[u7]
 induction xs generalizing ys with
 |nil=>rfl
 |cons x r ih=>
  cases ys with
  |nil=>rfl
  |cons y r'=>simp only[ij,bg,hG,ih]
theorem wS (h:d∈wU (iv xs) (iv ys)):∃ x y,d=.tup [.int x,.int y]:=by
 unfold wU iv at h;rw[u7] at h
 induction xs generalizing ys with
 |nil=>simp at h
 |cons x r ih=>
  cases ys with
  |nil=>simp at h
  |cons y r'=>
   rw[ij] at h;rcases ah.mp h with h|h
   ·exact⟨x,y,h⟩
   ·exact ih h
theorem wT (h:xs.length<=sizeLine):(wU (iv xs) (iv ys)).length<=sizeLine:=by
 unfold wU iv;rw[fe,ar,ar];omega
noncomputable def D2 (g:Int->Int->Int):D->D
 |.tup [.int x,.int y]=>.int (g x y)
 |d=>d
noncomputable def mx (i j:Int):Int:=if j>i then j else i
noncomputable def mn (i j:Int):Int:=if j<i then j else i
theorem mX:∀ xs:List Int,kC (iv xs)=we xs
 |[]=>rfl
 |x::r=>by
  show(kC (iv r)).map _=_
  rw[mX r];rfl
theorem vM (h1:RowV ω a xs) (h2:RowV ω b ys) (hl:xs.length<=sizeLine):gB [a,b] ω=we (.ok (.obj ω.length),ω++[.ml (iv (bp mx xs ys))]):=by
 obtain⟨chk,z1,z2⟩:=Cc (f:=oP (aD 0)) (h:=oP (aD 1)) (ρ:=bV AO [a,b]) (aB (d:=a) rfl) (aB (d:=b) rfl) h1 h2;refine aT rfl (bD (nQ z1 (wT hl) ?_));rw[<- rV (G:=D2 mx) (fun _ _=>rfl)];refine tP (fun ρ=>ρ.length=2) z2 rfl fun d hd ρ hρ=> ?_;obtain⟨x,y,rfl⟩:=wS hd
 match ρ,hρ with
 |[u,v],_=>exact⟨_,rfl,rfl,rfl⟩
theorem FX (h1:RowV ω a xs) (h2:RowV ω b ys) (hl:xs.length<=sizeLine):xF [a,b] ω=we (.ok (.int (bp (fun x y=>mx (y-x) 0) xs ys).sum),ω):=by
 obtain⟨chk,z1,z2⟩:=Cc (f:=oP (aD 0)) (h:=oP (aD 1)) (ρ:=bV ES [a,b]) (aB (d:=a) rfl) (aB (d:=b) rfl) h1 h2;refine aT rfl (bD (dF (aA (iB (ω2:=ω) (out:=iv (bp (fun x y=>mx (y-x) 0) xs ys)) z1 (wT hl) ?_) aE) ?_))
 ·rw[<- rV (G:=D2 fun x y=>mx (y-x) 0) (fun _ _=>rfl)];refine tP (fun ρ=>ρ.length=2) z2 rfl fun d hd ρ hρ=> ?_;obtain⟨x,y,rfl⟩:=wS hd
  match ρ,hρ with
  |[u,v],_=>exact⟨_,rfl,rfl,rfl⟩
 ·show pu ((kC (iv _)).map _) ω=_;rw[mX];rfl
theorem jB (h:F ρ ω=we (.nx ρ',ω')):sNx F ρ ω=we (.nx ρ',ω'):=by
 unfold sNx;rw[h]
structure Hd where
 knows:List (List Int)
 table:List (List Key×D)
 kept:List (List Key×D)
noncomputable def RowsAt (ω:Om):List Nat->List (List Int)->Prop:=jv fun r xs=>ω[r]?=we (Ob.ml (iv xs))
structure HandAt (ω:Om) (h:Nat) (i:Int) (hd:Hd) (k t e:Nat) (rs:List Nat):Prop where
 obj:ω[h]?=we (.ins 0 [("number",.int i),("knows",.obj k),("table",.obj t),("kept",.obj e)])
 kn:ω[k]?=we (.ml (rs.map D.obj))
 rows:RowsAt ω rs hd.knows
 tb:ω[t]?=we (.dt hd.table)
 kp:ω[e]?=we (.dt hd.kept)
 nd:(h::k::t::e::rs).Nodup
theorem RowsAt.get (h:RowsAt ω rs kn) {j:Nat} (e:kn[j]?=we xs):∃ r,rs[j]?=we r/\ω[r]?=we (.ml (iv xs)):=by
 induction h generalizing j with
 |nil=>simp at e
 |cons hr _ ih=>
  cases j with
  |zero=>simp at e;subst e;exact⟨_,rfl,hr⟩
  |succ j=>simp at e;obtain⟨r,e1,e2⟩:=ih e;exact⟨r,by simpa using e1,e2⟩
theorem RowsAt.length (h:RowsAt ω rs kn):rs.length=kn.length:=iz h
theorem fH (e1:f ρ ω=we (.ok (.obj n),ω1)) (e2:ω1[n]?=we (.ins c fs)) (e3:fs.lookup x=we d):gS c x f ρ ω=we (.ok d,ω1):=by
 unfold gS;rw[bH e1];show oR (pu (KL c x ω1 (.obj n)) ω1)=_
 have:KL c x ω1 (.obj n)=we d:=by
  simp[KL,cellOf,e2,e3]
 rw[this];rfl
theorem bS (e1:fo ρ ω=we (.ok (.obj n),ω1)) (e2:ω1[n]?=we (.ins c fs)) (e3:fs.lookup m=wf) (e4:fl ρ ω1=we (.ok ds,ω2)) (e5:φ (.obj n::ds) ω2=we (r,ω3)):
  bL c m φ fo fl ρ ω=we (r,ω3):=by
 unfold bL;rw[bH e1]
 have:Bu c m ω1 (.obj n)=true:=by
  simp only[Bu,cellOf,e2,e3];simp
 show(if Bu c m ω1 (.obj n)=true then _ else wf)=_
 rw[if_pos this,bH e4];exact e5
section
variable {ω:Om}{h k t e:Nat}{i:Int}{hd:Hd}{rs:List Nat}{ρ:Rho}{f:OG D}
theorem HandAt.number (H:HandAt ω h i hd k t e rs) (ef:f ρ ω=we (.ok (.obj h),ω)):gS 0 "number" f ρ ω=we (.ok (.int i),ω):=fH ef H.obj rfl
theorem HandAt.knows (H:HandAt ω h i hd k t e rs) (ef:f ρ ω=we (.ok (.obj h),ω)):gS 0 "knows" f ρ ω=we (.ok (.obj k),ω):=fH ef H.obj rfl
theorem HandAt.table (H:HandAt ω h i hd k t e rs) (ef:f ρ ω=we (.ok (.obj h),ω)):gS 0 "table" f ρ ω=we (.ok (.obj t),ω):=fH ef H.obj rfl
theorem HandAt.kept (H:HandAt ω h i hd k t e rs) (ef:f ρ ω=we (.ok (.obj h),ω)):gS 0 "kept" f ρ ω=we (.ok (.obj e),ω):=fH ef H.obj rfl
noncomputable def Hd.seen (hd:Hd) (i:Nat):List Int:=hd.knows.getD i []
theorem lE {i:Nat} (H:HandAt ω h i hd k t e rs) (hr:rs[i]?=we r):cW [.obj h] ω=we (.ok (.obj r),ω):=by
 refine aT rfl (bD (aK (H.knows (aB rfl)) (H.number (aB rfl)) ?_));rw[iI H.kn];have hl:i<rs.length:=(bh.mp hr).1;unfold atI ixN;rw[if_pos (jd i),if_pos (by simpa using hl)]
 show(rs.map D.obj)[i]?=_
 rw[bf,hr];rfl
theorem HandAt.seenRow {i:Nat} (H:HandAt ω h i hd k t e rs) (hi:i<hd.knows.length):∃ r,rs[i]?=we r/\ω[r]?=we (.ml (iv (hd.seen i))):=by
 refine H.rows.get ?_;unfold Hd.seen;rw[aq,bj hi];rfl
noncomputable def Hd.entries (hd:Hd):Option (List D):=eX 4 (hd.table.map (·.2))
theorem lK (H:HandAt ω h i hd k t e rs) (hs:hd.entries=we out):cL [.obj h] ω=we (.ok (.lst out),ω):=by
 refine aT rfl (bD ?_);unfold FR;rw[bH (H.table (aB rfl))];show oR (pu (DX 4 ω (.obj t)) ω)=_
 have:DX 4 ω (.obj t)=we (.lst out):=by
  simp only[DX,cellOf,H.tb]
  show(hd.entries).map _=_
  rw[hs];rfl
 rw[this];rfl
theorem dD (e1:fo ρ ω=we (.ok (.obj n),ω1)) (e2:ω1[n]?=we (.ins c fs)) (e3:fs.lookup m=wf) (e5:φ [.obj n] ω1=we (r,ω3)):
  bL c m φ fo aQ ρ ω=we (r,ω3):=bS e1 e2 e3 aE e5
noncomputable def marksIn (name:D) (rows:List D):List D:=(rows.filter fun d=>match d with|.tup (a::_)=>(eqD 8 a name)==we true|_=>false).map fun d=>match d with|.tup (_::m::_)=>m|_=>.non
noncomputable def fP (d:D):Prop:=∃ x a b v,d=.tup [.str x,.tup [.int a,.int b],.int v]
theorem gJ (n:Nat) (x y:Str):eqD n (.str x) (.str y)=we (decide (x=y)):=by cases n <;> rfl
theorem Gd (H:HandAt ω h i hd k t e rs) (hs:hd.entries=we out) (he:∀ d∈out,fP d) (hl:out.length<=sizeLine) (y:Str):cY [.obj h,.str y] ω=we (.ok (.lst (marksIn (.str y) out)),ω):=by
 have e1:bL 0 "entries" cL (oP (aD 0)) aQ (bV iQ [.obj h,.str y]) ω=we (.ok (.lst out),ω):=dD (aB rfl) H.obj rfl (lK H hs);refine aT rfl (bD (iB (ds:=out) (chk:=cM) (ω1:=ω) ?_ hl ?_))
 ·unfold oIL;rw[bH e1];rfl
 ·unfold marksIn;refine dW (fun ρ=>∃ u,ρ=[u,we (.str y)]) rfl ⟨_,rfl⟩ fun d hd ρ hρ=> ?_;obtain⟨x,a,b,v,rfl⟩:=he d hd;obtain⟨u,rfl⟩:=hρ;refine⟨_,rfl,⟨_,rfl⟩,?_,fun _=>rfl⟩;refine cE (eP (aK (aB rfl) aR rfl) (aB rfl) ?_);show pu ((eqD 8 (.str x) (.str y)).map D.bl) ω=_;rw[gJ];show we (D.bl (decide (x=y)),ω)=we (D.bl (eqD 8 (.str x) (.str y)==we true),ω);rw[gJ];cases decide (x=y) <;> rfl
theorem eK {o i v:D} (e1:fv ρ ω=we (.ok v,ω1)) (e2:fo ρ ω1=we (.ok o,ω2)) (e3:fi ρ ω2=we (.ok i,ω3)) (e4:g ω3 o i v=we ω4):gZ g fo fi fv ρ ω=we (.nx ρ,ω4):=by
 unfold gZ;rw[cJ e1,cJ e2,cJ e3]
 show(g ω3 o i v).map _=_
 rw[e4];rfl
theorem lD {j:Nat} (e:ω[n]?=we (.ml ds)) (hj:j<ds.length):oJ ω (.obj n) (.int j) v=we (ω.set n (.ml (ds.set j v))):=by
 simp only[oJ,e];unfold ixN;rw[if_pos (jd j),if_pos (by simpa using hj)];simp
theorem aH (h:m≠n):(ω.set n ob)[m]?=ω[m]?:=fu (bt h)
theorem bT (h:ω[n]?=we ob'):(ω.set n ob)[n]?=we ob:=by
 have hl:n<ω.length:=(bh.mp h).1;simp[hl]
theorem RowsAt.mono (h:RowsAt ω rs kn) (k:∀ r∈rs,ω'[r]?=ω[r]?):RowsAt ω' rs kn:=by
 induction h with
 |nil=>exact .nil
 |cons hr _ ih=>exact .cons ((k _ au).trans hr) (ih fun r hr=>k r (ai _ hr))
theorem HandAt.mono (H:HandAt ω h i hd k t e rs) (g:∀ n∈h::k::t::e::rs,ω'[n]?=ω[n]?):HandAt ω' h i hd k t e rs:=
 ⟨(g h (by simp)).trans H.obj,(g k (by simp)).trans H.kn,H.rows.mono fun r hr=>g r (by simp[hr]),(g t (by simp)).trans H.tb,(g e (by simp)).trans H.kp,H.nd⟩
theorem RowsAt.set (h:RowsAt ω rs kn) (nd:rs.Nodup) (hr:rs[j]?=we r):RowsAt (ω.set r (.ml (iv xs))) rs (kn.set j xs):=by
 induction h generalizing j with
 |nil=>simp at hr
 |@cons r0 x0 rs' kn' h0 t ih=>
  rw[b3] at nd;cases j with
  |zero=>
   simp at hr;subst hr;rw[ur];refine .cons (bT h0) (RowsAt.mono t fun q hq=>aH fun z=>nd.1 (z ▸ hq))
  |succ j=>
   simp at hr;rw[ut];refine .cons ?_ (ih nd.2 hr)
   show(ω.set r (.ml (iv xs)))[r0]?=_
   rw[aH (show r0≠r from fun z=>nd.1 (by rw[z];exact fw hr))];exact h0
noncomputable def Keep (fp:List Nat) (ω ω':Om):Prop:=ω.length<=ω'.length/\∀ n,n<ω.length->n∉fp->ω'[n]?=ω[n]?
theorem Keep.refl (fp:List Nat) (ω:Om):Keep fp ω ω:=⟨bc _,fun _ _ _=>rfl⟩
theorem Keep.trans (a:Keep fp ω ω1) (b:Keep fp ω1 ω2):Keep fp ω ω2:=⟨ce a.1 b.1,fun n h1 h2=>(b.2 n (ca h1 a.1) h2).trans (a.2 n h1 h2)⟩
theorem Keep.set (h:n∈fp):Keep fp ω (ω.set n ob):=⟨by simp,fun m _ hm=>aH fun z=>hm (z ▸ h)⟩
noncomputable def Hd.bump (hd:Hd) (i:Nat):Hd:={ hd with knows:=hd.knows.set i ((hd.seen i).set i ((hd.seen i).getD i 0+1)) }
theorem nR {i:Nat} (H:HandAt ω h i hd k t e rs) (hi:i<hd.knows.length) (hs:i<(hd.seen i).length):∃ ω',cX [.obj h] ω=we (.ok (.tup [.int i,.int ((hd.seen i).getD i 0+1)]),ω')/\HandAt ω' h i (hd.bump i) k t e rs/\Keep rs ω ω'/\ω'.length=ω.length:=by
 obtain⟨r,hr,er⟩:=H.seenRow hi;have hm:r∈rs:=fw hr;have nd:=H.nd;simp only[b3,ah,not_or] at nd;obtain⟨⟨h1,h2,h3,h4⟩,⟨h5,h6,h7⟩,⟨h8,h9⟩,h10,h11⟩:=nd;have ne:∀ {n:Nat},n∉rs->n≠r:=fun hn z=>hn (z ▸ hm);refine⟨ω.set r (.ml (iv ((hd.seen i).set i ((hd.seen i).getD i 0+1)))),?_,⟨?_,?_,H.rows.set h11 hr,?_,?_,H.nd⟩,Keep.set hm,by simp⟩
 ·have ix:bF ω (.obj r) (.int i)=we (.int ((hd.seen i).getD i 0)):=by
   have:=RowV.ix (ω:=ω) (d:=.obj r) (xs:=hd.seen i) (by unfold RowV fL;simp only[er]) (a:=i) (jd i) (by simpa using hs)
   simpa using this
  refine aT rfl ?_;unfold iH;rw[aM (dD (aB rfl) H.obj rfl (lE H hr))];have e2:(ω.set r (.ml (iv ((hd.seen i).set i ((hd.seen i).getD i 0+1)))))[h]?=ω[h]?:=aH (ne h4);rw[bB (eK (fD (aK (aB (d:=.obj r) rfl) (H.number (aB rfl)) ix) aR rfl) (aB (d:=.obj r) rfl) (H.number (aB rfl)) (lD er (by unfold iv;simpa using hs)))];have e3:(iv (hd.seen i)).set i (.int ((hd.seen i).getD i 0+1))=iv ((hd.seen i).set i ((hd.seen i).getD i 0+1)):=by
   unfold iv;rw[uu]
  rw[e3];have H2:gS 0 "number" (oP (aD 0)) [we (.obj h),we (.obj r)] (ω.set r (.ml (iv ((hd.seen i).set i ((hd.seen i).getD i 0+1)))))=we (.ok (.int i),ω.set r (.ml (iv ((hd.seen i).set i ((hd.seen i).getD i 0+1))))):=fH (aB rfl) (e2.trans H.obj) rfl;have er2:=bT (ob:=.ml (iv ((hd.seen i).set i ((hd.seen i).getD i 0+1)))) er;refine bD (dF (aA H2 (aA (aK (d:=.int ((hd.seen i).getD i 0+1)) (aB (d:=.obj r) rfl) H2 ?_) aE)) rfl)
  have:=RowV.ix (ω:=ω.set r (.ml (iv ((hd.seen i).set i ((hd.seen i).getD i 0+1))))) (d:=.obj r) (xs:=(hd.seen i).set i ((hd.seen i).getD i 0+1)) (by unfold RowV fL;simp only[er2]) (a:=i) (jd i) (by simpa using hs)
  rw[this];simp[hs]
 ·rw[aH (ne h4)];exact H.obj
 ·rw[aH (ne h7)];exact H.kn
 ·rw[aH (ne h9)];exact H.tb
 ·rw[aH (ne h10)];exact H.kp
end
section
variable {ω:Om}{h k t e:Nat}{i:Nat}{hd:Hd}{rs:List Nat}{ρ:Rho}{f:OG D}
theorem HandAt.ne (H:HandAt ω h i hd k t e rs):(h≠k/\h≠t/\h≠e/\h∉rs)/\(k≠t/\k≠e/\k∉rs)/\(t≠e/\t∉rs)/\e∉rs/\rs.Nodup:=by
 have nd:=H.nd;simp only[b3,ah,not_or] at nd;obtain⟨⟨h1,h2,h3,h4⟩,⟨h5,h6,h7⟩,⟨h8,h9⟩,h10,h11⟩:=nd;exact⟨⟨h1,h2,h3,h4⟩,⟨h5,h6,h7⟩,⟨h8,h9⟩,h10,h11⟩
theorem HandAt.setT (H:HandAt ω h i hd k t e rs) (T:List (List Key×D)):HandAt (ω.set t (.dt T)) h i { hd with table:=T } k t e rs:=by
 obtain⟨⟨h1,h2,h3,h4⟩,⟨h5,h6,h7⟩,⟨h8,h9⟩,h10,h11⟩:=H.ne;refine⟨?_,?_,H.rows.mono fun r hr=>aH fun z=>h9 (z ▸ hr),bT H.tb,?_,H.nd⟩
 ·rw[aH h2];exact H.obj
 ·rw[aH h5];exact H.kn
 ·rw[aH (bt h8)];exact H.kp
theorem HandAt.setE (H:HandAt ω h i hd k t e rs) (T:List (List Key×D)):HandAt (ω.set e (.dt T)) h i { hd with kept:=T } k t e rs:=by
 obtain⟨⟨h1,h2,h3,h4⟩,⟨h5,h6,h7⟩,⟨h8,h9⟩,h10,h11⟩:=H.ne;refine⟨?_,?_,H.rows.mono fun r hr=>aH fun z=>h10 (z ▸ hr),?_,bT H.kp,H.nd⟩
 ·rw[aH h3];exact H.obj
 ·rw[aH h6];exact H.kn
 ·rw[aH h8];exact H.tb
theorem HandAt.lt (H:HandAt ω h i hd k t e rs):∀ n∈h::k::t::e::rs,n<ω.length:=by
 intro n hn;have lt:∀ {m:Nat}{o:Ob},ω[m]?=we o->m<ω.length:=fun q=>(bh.mp q).1;rcases ah.mp hn with rfl|hn
 ·exact lt H.obj
 rcases ah.mp hn with rfl|hn
 ·exact lt H.kn
 rcases ah.mp hn with rfl|hn
 ·exact lt H.tb
 rcases ah.mp hn with rfl|hn
 ·exact lt H.kp
 ·have:∀ {rs:List Nat}{kn:List (List Int)},RowsAt ω rs kn->∀ n∈rs,n<ω.length:=by
   intro rs kn hR
   induction hR with
   |nil=>intro n hn;simp at hn
   |cons hr _ ih=>
    intro n hn;rcases ah.mp hn with rfl|hn
    ·exact lt hr
    ·exact ih n hn
  exact this H.rows n hn
noncomputable def fN (i:Nat) (b:Int):List Key:=[.inl (i:Int),.inl b]
noncomputable def mkD (i:Nat) (b:Int):D:=.tup [.int i,.int b]
noncomputable def Hd.next (hd:Hd) (i:Nat):Int:=(hd.seen i).getD i 0+1
noncomputable def Hd.put (hd:Hd) (i:Nat) (x:Str) (v:Int):Hd:={ hd.bump i with table:=putD hd.table (fN i (hd.next i)) (.tup [.str x,mkD i (hd.next i),.int v]) }
theorem oS (e:ω[n]?=we (.dt kvs)) (hk:Ck y=we ks) (hl:kvs.length<sizeLine):mC ω (.obj n) y v=we (ω.set n (.dt (putD kvs ks v))):=by
 simp only[mC,e,hk]
 show(if kvs.length<sizeLine then _ else wf)=_
 rw[if_pos hl]
theorem Lk (H:HandAt ω h i hd k t e rs) (hi:i<hd.knows.length) (hs:i<(hd.seen i).length) (hl:hd.table.length<sizeLine) (x:Str) (v:Int):
  ∃ ω',dU [.obj h,.str x,.int v] ω=we (.ok (mkD i (hd.next i)),ω')/\HandAt ω' h i (hd.put i x v) k t e rs/\Keep (t::rs) ω ω'/\ω'.length=ω.length:=by
 obtain⟨ω1,e1,H1,K1,L1⟩:=nR H hi hs;have hb:(hd.bump i).table=hd.table:=rfl;refine⟨ω1.set t (.dt (putD hd.table (fN i (hd.next i)) (.tup [.str x,mkD i (hd.next i),.int v]))),?_,?_,⟨by simp[L1],fun n hn hm=> ?_⟩,by simp[L1]⟩
 ·refine aT rfl ?_;unfold rB;rw[aM (dD (aB rfl) H.obj rfl e1)];rw[bB (eK (dF (aA (aB (d:=.str x) rfl) (aA (aB (d:=mkD i (hd.next i)) rfl) (aA (aB (d:=.int v) rfl) aE))) rfl) (H1.table (aB rfl)) (aB (d:=mkD i (hd.next i)) rfl) (oS (ks:=fN i (hd.next i)) H1.tb rfl hl))];exact bD (aB rfl)
 ·exact H1.setT _
 ·rw[aH (fun z=>hm (by rw[z];simp))];exact K1.2 n hn fun z=>hm (ai _ z)
noncomputable def common:List (List Int)->List Int
 |[]=>[]
 |r::rest=>rest.foldl (bp mn) r
theorem Ez (hk:ω[k]?=we (.ml (rs.map D.obj))) (hr:RowsAt ω rs kn) (hne:kn≠[]) (hl:∀ xs∈kn,xs.length<=sizeLine):mJ [.obj k] ω=we (.ok (.lst (iv (common kn))),ω):=by
 cases hr with
 |nil=>exact absurd rfl hne
 |@cons r0 x0 rs kn h0 ht=>
  refine aT rfl ?_;unfold Az;have e0:bF ω (.obj k) (.int 0)=we (.obj r0):=by
   rw[iI hk];unfold atI ixN;simp
  rw[aM (d:=.lst (iv x0)) (dF (aA (aK (aB (d:=.obj k) rfl) aR e0) aE) (by
   show(dN ω (.obj r0)).map _=_
   have:dN ω (.obj r0)=we (iv x0):=by simp only[dN,fL,h0]
   rw[this];rfl))]
  have e1:oSl (oP (aD 0)) (dSo (dC (.int 1))) dNo ((bV uE [.obj k]).set 1 (we (.lst (iv x0)))) ω=we (.ok (.lst (rs.map D.obj)),ω):=by
   unfold oSl;rw[bH (aB (d:=.obj k) rfl)];show oR (pu (Kc ω (.obj k) (we 1) wf) ω)=_
   have:Kc ω (.obj k) (we 1) wf=we (.lst (AI ((r0::rs).map D.obj) (we 1) wf)):=by simp only[Kc,fL,hk]
   rw[this];have c1:AI ((r0::rs).map D.obj) (we 1) wf=rs.map D.obj:=by
    simp only[AI,HT.sIx];simp[rn]
   rw[c1];rfl
  have hloop:∃ ρ' ω',bZ (bG 2) cM fF (rs.map D.obj) ((bV uE [.obj k]).set 1 (we (.lst (iv x0)))) ω=we (.nx ρ',ω')/\(ω'=ω/\∃ v,ρ'=[we (.obj k),we (.lst (iv (kn.foldl (bp mn) x0))),v]):=by
   have gen:∀ {rs:List Nat}{kn:List (List Int)},RowsAt ω rs kn->(∀ xs∈kn,xs.length<=sizeLine)->∀(x0:List Int) (v:Option D),x0.length<=sizeLine->∃ ρ' ω',bZ (bG 2) cM fF (rs.map D.obj) [we (.obj k),we (.lst (iv x0)),v] ω=we (.nx ρ',ω')/\(ω'=ω/\∃ v,ρ'=[we (.obj k),we (.lst (iv (kn.foldl (bp mn) x0))),v]):=by
    intro rs kn hR
    induction hR with
    |nil=>intro _ x0 v _;exact⟨_,_,rfl,rfl,_,rfl⟩
    |@cons r1 x1 rs kn h1 _ ih=>
     intro hl x0 v hx;obtain⟨ρ',ω',g1,g2,g3⟩:=ih (fun xs hxs=>hl xs (ai _ hxs)) (bp mn x0 x1) (we (.obj r1)) (by rw[fe];omega);refine⟨ρ',ω',?_,g2,g3⟩;rw[<- g1];have step:fF [we (.obj k),we (.lst (iv x0)),we (.obj r1)] ω=we (.nx [we (.obj k),we (.lst (iv (bp mn x0 x1))),we (.obj r1)],ω):=by
      obtain⟨chk,z1,z2⟩:=Cc (f:=oP (aD 1)) (h:=oP (aD 2)) (ρ:=[we (.obj k),we (.lst (iv x0)),we (.obj r1)]) (ω:=ω) (a:=.lst (iv x0)) (b:=.obj r1) (xs:=x0) (ys:=x1) (aB rfl) (aB rfl) rfl (by unfold RowV fL;simp only[h1]);unfold fF aV;rw[cJ (iB (ω2:=ω) (out:=iv (bp mn x0 x1)) z1 (wT hx) (by
       rw[<- rV (G:=D2 mn) (fun _ _=>rfl)];refine tP (fun ρ=>ρ.length=2) z2 rfl fun d hd ρ hρ=> ?_;obtain⟨x,y,rfl⟩:=wS hd
       match ρ,hρ with
       |[u,v],_=>exact⟨_,rfl,rfl,rfl⟩))]
      rfl
     exact gH rfl rfl step
   exact gen ht (fun xs hxs=>hl xs (ai _ hxs)) x0 wf (hl x0 au)
  obtain⟨ρ',ω',g1,rfl,v,rfl⟩:=hloop;rw[bB (jB (by
   unfold cD oIL;rw[cJ (bH e1)];exact g1))]
  exact bD (aB rfl)
end
theorem sB (hl:ds.length=n) (e:G (bV N ds) ω=we (.nx ρ1,ω1)):dY n N G ds ω=we (.ok .non,ω1):=by
 unfold dY;rw[if_pos hl,e]
theorem nJ:∀ kvs:List (List Key×D),qJ kvs kvs=true
 |[]=>rfl
 |a::r=>by simp[qJ,qK,nJ r]
theorem xN (h:ω[n]?=we (.dz kvs)):vP n kvs ω=true:=by
 unfold vP;rw[h];exact nJ kvs
noncomputable def OZ (c:Nat) (k:List Key):Prop:=∃ a b:Int,k=[.inl a,.inl b]/\0<=a/\a<c
noncomputable def fJ (xs:List Int):List Key->Bool
 |[.inl a,.inl b]=>decide (b<=xs.getD a.toNat 0)
 |_=>false
theorem Ce (nd:(kvs.map (·.1)).Nodup) {kv:List Key×D} (h:kv∈kvs):gU kvs kv.1=we kv.2:=by
 induction kvs with
 |nil=>simp at h
 |cons p r ih=>
  rw[bg,b3] at nd;unfold gU;rcases ah.mp h with rfl|h
  ·simp[gp]
  ·have hne:p.1≠kv.1:=fun z=>nd.1 (z ▸ ax.mpr ⟨kv,h,rfl⟩);rw[List.find?_cons_of_neg (by simpa using hne)];exact ih nd.2 h
theorem sE {k:List Key} (h:k∉kvs.map (·.1)):putD kvs k v=kvs++[(k,v)]:=by
 unfold putD;rw[if_neg];simp only[nq,decide_eq_true_eq,not_exists,not_and];intro x hx z;exact h (ax.mpr ⟨x,hx,z⟩)
section
variable {ω:Om}{h k t e:Nat}{i:Nat}{hd:Hd}{rs:List Nat}{ρ:Rho}{f:OG D}
noncomputable def Hd.forget (hd:Hd):Hd:={ hd with kept:=hd.kept.filter fun kv=> !fJ (common hd.knows) kv.1 }
structure Hd.Ok (c:Nat) (hd:Hd):Prop where
 len:hd.knows.length=c
 row:∀ xs∈hd.knows,xs.length=c
 small:c<=8
 pos:0<c
 kk:∀ kv∈hd.kept,OZ c kv.1
 kn:(hd.kept.map (·.1)).Nodup
 kl:hd.kept.length<64
 tk:∀ kv∈hd.table,∃ a b:Int,0<=a/\a<c/\kv.1=[.inl a,.inl b]/\∃ x v,kv.2=.tup [.str x,.tup [.int a,.int b],.int v]
 tn:(hd.table.map (·.1)).Nodup
 tl:hd.table.length<64
theorem BL:∀ {kn:List (List Int)},kn≠[]->(∀ xs∈kn,xs.length=c)->(common kn).length=c
 |[],hne,_=>absurd rfl hne
 |r::rest,_,h=>by
  have gen:∀(rest:List (List Int)) (r:List Int),r.length=c->(∀ xs∈rest,xs.length=c)->(rest.foldl (bp mn) r).length=c:=by
   intro rest
   induction rest with
   |nil=>intro r hr _;exact hr
   |cons x rest ih=>
    intro r hr hx;refine ih _ ?_ fun xs hxs=>hx xs (ai _ hxs);rw[fe,hr,hx x au,iu]
  exact gen rest r (h r au) fun xs hxs=>h xs (ai _ hxs)
theorem vX (H:HandAt ω h i hd k t e rs) (W:hd.Ok c):∃ ω',eO [.obj h] ω=we (.ok .non,ω')/\HandAt ω' h i hd.forget k t ω.length rs/\Keep [h] ω ω':=by
 have hne:hd.knows≠[]:=fun z=>by have:=W.len;rw[z] at this;have:=W.pos;simp at*;omega
 have hcl:=BL hne W.row;obtain⟨⟨h1,h2,h3,h4⟩,⟨h5,h6,h7⟩,⟨h8,h9⟩,h10,h11⟩:=H.ne;have ltn:∀ {n:Nat},n∈h::k::t::e::rs->n≠ω.length:=fun hn z=>absurd (H.lt _ hn) (by rw[z];exact gg _);have e1:bK mJ (aC (gS 0 "knows" (oP (aD 0))) aQ) (bV gP [.obj h]) ω=we (.ok (.lst (iv (common hd.knows))),ω):=aW (aA (H.knows (aB rfl)) aE) (Ez H.kn H.rows hne fun xs hx=>by rw[W.row xs hx,bw];have:=W.small;omega)
 -- the loop
 have loop:∀(post pre:List (List Key×D)) (v:Option D) (ω1:Om),hd.kept=pre++post->ω1[ω.length]?=we (.dt (pre.filter fun kv=> !fJ (common hd.knows) kv.1))->ω1[e]?=we (.dz hd.kept)->(∀ n,n<ω.length->n≠e->ω1[n]?=ω[n]?)->ω1.length=ω.length+1->
   ∃ ρ' ω',bZ (bG 3) (vP e hd.kept) aS (post.map fun kv=>bQ kv.1) [we (.obj h),we (.lst (iv (common hd.knows))),we (.obj ω.length),v] ω1=we (.nx ρ',ω')/\(∃ v,ρ'=[we (.obj h),we (.lst (iv (common hd.knows))),we (.obj ω.length),v])/\
    ω'[ω.length]?=we (.dt (hd.kept.filter fun kv=> !fJ (common hd.knows) kv.1))/\ω'[e]?=we (.dz hd.kept)/\(∀ n,n<ω.length->n≠e->ω'[n]?=ω[n]?)/\ω'.length=ω.length+1:=by
  intro post
  induction post with
  |nil=>
   intro pre v ω1 hp g1 g2 g3 g4;rw[c3] at hp;refine⟨_,ω1,by show(if vP e hd.kept ω1=true then _ else wf)=_;rw[if_pos (xN g2)],⟨v,rfl⟩,by rw[hp];exact g1,g2,g3,g4⟩
  |cons kv post ih=>
   intro pre v ω1 hp g1 g2 g3 g4;have hm:kv∈hd.kept:=by rw[hp];simp
   obtain⟨a,b,hk,ha0,ha1⟩:=W.kk kv hm;have hdk:bQ kv.1=.tup [.int a,.int b]:=by rw[hk];rfl
   have hseen:eV [.lst (iv (common hd.knows)),.tup [.int a,.int b]] ω1=we (.ok (.bl (fJ (common hd.knows) kv.1)),ω1):=by
    rw[hk];exact oC (ω:=ω1) (d:=.lst (iv (common hd.knows))) (xs:=common hd.knows) (show fL ω1 (.lst (iv (common hd.knows)))=_ from rfl) ha0 (by rw[hcl];exact ha1)
   have hobj:ω1[h]?=we (.ins 0 [("number",.int i),("knows",.obj k),("table",.obj t),("kept",.obj e)]):=by rw[g3 h (H.lt h (by simp)) h3];exact H.obj
   have hp':hd.kept=(pre++[kv])++post:=by rw[ff];exact hp
   have first:∀ ω2,aS [we (.obj h),we (.lst (iv (common hd.knows))),we (.obj ω.length),we (.tup [.int a,.int b])] ω1=we (.nx [we (.obj h),we (.lst (iv (common hd.knows))),we (.obj ω.length),we (.tup [.int a,.int b])],ω2)->
     bZ (bG 3) (vP e hd.kept) aS ((kv::post).map fun kv=>bQ kv.1) [we (.obj h),we (.lst (iv (common hd.knows))),we (.obj ω.length),v] ω1=bZ (bG 3) (vP e hd.kept) aS (post.map fun kv=>bQ kv.1) [we (.obj h),we (.lst (iv (common hd.knows))),we (.obj ω.length),we (.tup [.int a,.int b])] ω2:=fun ω2 q=>by
    rw[bg,hdk]
    show(if vP e hd.kept ω1=true then(match aS [we (.obj h),we (.lst (iv (common hd.knows))),we (.obj ω.length),we (.tup [.int a,.int b])] ω1 with
     |none=>wf
     |some (.nx ρ2,ω2)=>bZ (bG 3) (vP e hd.kept) aS (post.map fun kv=>bQ kv.1) ρ2 ω2
     |some (.ct ρ2,ω2)=>bZ (bG 3) (vP e hd.kept) aS (post.map fun kv=>bQ kv.1) ρ2 ω2
     |some (.bk ρ2,ω2)=>we (.nx ρ2,ω2)
     |some (.rt d,ω2)=>we (.rt d,ω2)
     |some (.ex _,_)=>wf) else wf)=_
    rw[if_pos (xN g2),q]
   have tst:lH (jY (bK eV (aC (oP (aD 1)) (aC (oP (aD 3)) aQ)))) [we (.obj h),we (.lst (iv (common hd.knows))),we (.obj ω.length),we (.tup [.int a,.int b])] ω1=we (.ok (!fJ (common hd.knows) kv.1),ω1):=by
    unfold lH jY;rw[bH (bH (aW (aA (aB rfl) (aA (aB rfl) aE)) hseen))]
   cases hs:fJ (common hd.knows) kv.1 with
   |true=>
    have b1:aS [we (.obj h),we (.lst (iv (common hd.knows))),we (.obj ω.length),we (.tup [.int a,.int b])] ω1=we (.nx [we (.obj h),we (.lst (iv (common hd.knows))),we (.obj ω.length),we (.tup [.int a,.int b])],ω1):=by
     unfold aS;rw[hs] at tst;rw[lF tst];rfl
    rw[first ω1 b1];refine ih (pre++[kv]) _ ω1 hp' ?_ g2 g3 g4;rw[je,c6 (by rw[hs];decide),ko,c3];exact g1
   |false=>
    have nin:kv.1∉(pre.filter fun kv=> !fJ (common hd.knows) kv.1).map (·.1):=fun z=>by
     obtain⟨q,q1,q2⟩:=ax.mp z;have nd:=W.kn;rw[hp,cx,jm] at nd;exact nd.2.2 _ (ax.mpr ⟨q,(b4.mp q1).1,rfl⟩) _ (ax.mpr ⟨kv,au,rfl⟩) q2
    have fl:(pre.filter fun kv=> !fJ (common hd.knows) kv.1).length<sizeLine:=by
     have h1:=du (fun kv:List Key×D=> !fJ (common hd.knows) kv.1) pre;have h2:=W.kl;rw[hp,b0] at h2;rw[bw];omega
    have dg:cK ω1 (.obj e) (.tup [.int a,.int b])=we kv.2:=by
     have:gU hd.kept [.inl a,.inl b]=we kv.2:=by rw[<- hk];exact Ce W.kn hm
     simp only[cK,Ec,cellOf,g2]
     show(((we [.inl a,.inl b]:Option (List Key)).map fun k=>gU hd.kept k)).join=_
     show(we (gU hd.kept [.inl a,.inl b])).join=_
     rw[this];rfl
    have b1:aS [we (.obj h),we (.lst (iv (common hd.knows))),we (.obj ω.length),we (.tup [.int a,.int b])] ω1=we (.nx [we (.obj h),we (.lst (iv (common hd.knows))),we (.obj ω.length),we (.tup [.int a,.int b])],ω1.set ω.length (.dt ((pre.filter fun kv=> !fJ (common hd.knows) kv.1)++[kv]))):=by
     unfold aS;rw[hs] at tst;rw[jM tst];refine eK (v:=kv.2) (ω1:=ω1) (ω2:=ω1) (ω3:=ω1) (o:=.obj ω.length) (i:=.tup [.int a,.int b]) (eP (fH (aB rfl) hobj rfl) (aB rfl) ?_) (aB rfl) (aB rfl) ?_
     ·show pu (cK ω1 (.obj e) (.tup [.int a,.int b])) ω1=_;rw[dg];rfl
     ·rw[oS (ks:=kv.1) g1 (by rw[hk];rfl) fl,sE nin]
    rw[first _ b1];refine ih (pre++[kv]) _ _ hp' ?_ ?_ (fun n hn hne=> ?_) (by simp[g4])
    ·rw[bT g1,je,c7 (by rw[hs];decide),ko]
    ·rw[aH (ltn (by simp))];exact g2
    ·rw[aH (by omega)];exact g3 n hn hne
 have ge:(ω++[Ob.dt []])[e]?=we (.dt hd.kept):=by rw[aj (H.lt e (by simp))];exact H.kp
 obtain⟨ρ',ω2,l1,⟨v,rfl⟩,l3,l4,l5,l6⟩:=loop hd.kept [] wf ((ω++[Ob.dt []]).set e (.dz hd.kept)) rfl (by rw[aH (bt (ltn (by simp)))];simp) (bT ge) (fun n hn hne=>by rw[aH hne,aj hn]) (by simp);have l3':(ω2.set e (.dt hd.kept))[ω.length]?=we (.dt (hd.kept.filter fun kv=> !fJ (common hd.knows) kv.1)):=by rw[aH (bt (ltn (by simp)))];exact l3
 have ho:(ω2.set e (.dt hd.kept))[h]?=we (.ins 0 [("number",.int i),("knows",.obj k),("table",.obj t),("kept",.obj e)]):=by rw[aH h3,l5 h (H.lt h (by simp)) h3];exact H.obj
 refine⟨(ω2.set e (.dt hd.kept)).set h (.ins 0 [("number",.int i),("knows",.obj k),("table",.obj t),("kept",.obj ω.length)]),?_,⟨bT ho,?_,?_,?_,?_,?_⟩,⟨by simp[l6],fun n hn hm=> ?_⟩⟩
 ·have body:gG (bV gP [.obj h]) ω=we (.nx [we (.obj h),we (.lst (iv (common hd.knows))),we (.obj ω.length),v],(ω2.set e (.dt hd.kept)).set h (.ins 0 [("number",.int i),("knows",.obj k),("table",.obj t),("kept",.obj ω.length)])):=by
   unfold gG;rw[aM e1];rw[aM (d:=.obj ω.length) (ω1:=ω++[.dt []]) rfl];have ho1:(ω++[Ob.dt []])[h]?=we (.ins 0 [("number",.int i),("knows",.obj k),("table",.obj t),("kept",.obj e)]):=by rw[aj (H.lt h (by simp))];exact H.obj
   rw[bB (jB (by
    unfold Ip;rw[cJ (fH (aB (d:=.obj h) rfl) ho1 rfl)]
    have:BF (ω++[Ob.dt []]) (.obj e)=we (e,hd.kept):=by simp only[BF,ge]
    show(BF (ω++[Ob.dt []]) (.obj e)).bind _=_
    rw[this]
    show(match bZ (bG 3) (vP e hd.kept) aS (hd.kept.map fun kv=>bQ kv.1) [we (.obj h),we (.lst (iv (common hd.knows))),we (.obj ω.length),wf] ((ω++[Ob.dt []]).set e (.dz hd.kept)) with
     |some (.nx ρ',ω')=>if vP e hd.kept ω'=true then we (OOut.nx ρ',ω'.set e (.dt hd.kept)) else wf
     |_=>wf)=_
    rw[l1]
    show(if vP e hd.kept ω2=true then _ else wf)=_
    rw[if_pos (xN l4)]))]
   unfold lZ;rw[cJ (aB (d:=.obj ω.length) rfl),cJ (aB (d:=.obj h) rfl)]
   have:sY 0 "kept" (ω2.set e (.dt hd.kept)) (.obj h) (.obj ω.length)=we ((ω2.set e (.dt hd.kept)).set h (.ins 0 [("number",.int i),("knows",.obj k),("table",.obj t),("kept",.obj ω.length)])):=by
    simp only[sY,ho];rfl
   show(sY 0 "kept" (ω2.set e (.dt hd.kept)) (.obj h) (.obj ω.length)).map _=_
   rw[this];rfl
  exact sB rfl body
 ·rw[aH (bt h1),aH h6,l5 k (H.lt k (by simp)) h6];exact H.kn
 ·refine H.rows.mono fun r hr=> ?_;rw[aH (show r≠h from fun z=>h4 (z ▸ hr)),aH (show r≠e from fun z=>h10 (z ▸ hr)),l5 r (H.lt r (by simp[hr])) (fun z=>h10 (z ▸ hr))]
 ·rw[aH (bt h2),aH h8,l5 t (H.lt t (by simp)) h8];exact H.tb
 ·rw[aH (bt (ltn (by simp)))];exact l3'
 ·have nn:∀ n∈h::k::t::rs,n≠ω.length:=fun n hn=>ltn (by
   simp only[ah] at hn ⊢;rcases hn with z|z|z|z
   ·exact .inl z
   ·exact .inr (.inl z)
   ·exact .inr (.inr (.inl z))
   ·exact .inr (.inr (.inr (.inr z))))
  simp only[b3,ah,not_or];exact⟨⟨h1,h2,nn h (by simp),h4⟩,⟨h5,nn k (by simp),h7⟩,⟨nn t (by simp),h9⟩,fun z=>nn _ (by simp[z]) rfl,h11⟩
 ·rw[aH (fun z=>hm (by rw[z];simp))]
  by_cases he:n=e
  ·subst he;rw[bT l4];exact H.kp.symm
  ·rw[aH he];exact l5 n hn he
end
theorem fW {ω:Om}{n:Nat}{ob:Ob} (h:ω[n]?=we ob):ω.set n ob=ω:=by
 apply jl;intro m
 by_cases hm:m=n
 ·subst hm;rw[bT h,h]
 ·rw[aH hm]
theorem KU (k:Key):toK (ofK k)=we k:=by cases k <;> rfl
theorem Cm:∀ ks:List Key,KS (ks.map ofK)=we ks
 |[]=>rfl
 |k::r=>by
  show(toK (ofK k)).bind _=_
  rw[KU]
  show(KS (r.map ofK)).map _=_
  rw[Cm r];rfl
theorem Hz (k:List Key):Ck (bQ k)=we k:=Cm k
theorem HZ (ha:fP a) (hb:fP b):∃ c,dQ 4 a b=we c:=by
 obtain⟨x,p,q,v,rfl⟩:=ha;obtain⟨x',p',q',v',rfl⟩:=hb;show ∃ c,(match eqD 4 (.str x) (.str x') with
  |some true=>(match eqD 4 (.tup [.int p,.int q]) (.tup [.int p',.int q']) with
   |some true=>(match eqD 4 (.int v) (.int v') with
    |some true=>we _
    |some false=>fS (.int v) (.int v')
    |none=>wf)
   |some false=>fS (.tup [.int p,.int q]) (.tup [.int p',.int q'])
   |none=>wf)
  |some false=>fS (.str x) (.str x')
  |none=>wf)=we c
 rw[gJ];cases decide (x=x') with
 |false=>exact⟨_,rfl⟩
 |true=>
  have e2:∃ c,eqD 4 (.tup [.int p,.int q]) (.tup [.int p',.int q'])=we c:=⟨_,rfl⟩;obtain⟨c,e2⟩:=e2;rw[e2];cases c with
  |false=>exact⟨_,rfl⟩
  |true=>
   show ∃ c,(match eqD 4 (.int v) (.int v') with
    |some true=>we _
    |some false=>fS (.int v) (.int v')
    |none=>wf)=we c
   have e3:eqD 4 (.int v) (.int v')=we (decide (v=v')):=rfl;rw[e3];cases decide (v=v') with
   |false=>exact⟨_,rfl⟩
   |true=>exact⟨_,rfl⟩
theorem AE (h:fP d):jQ d=we false:=by
 obtain⟨x,a,b,v,rfl⟩:=h;rfl
section
variable {ω:Om}{h k t e:Nat}{i:Nat}{hd:Hd}{rs:List Nat}{ρ:Rho}{f:OG D}
theorem Hd.Ok.ent (W:hd.Ok c):∀ d∈hd.table.map (·.2),fP d:=fun d hd'=>by
 obtain⟨kv,h1,rfl⟩:=ax.mp hd';obtain⟨a,b,_,_,_,x,v,e⟩:=W.tk kv h1;exact⟨x,a,b,v,e⟩
theorem Hd.Ok.sorts (W:hd.Ok c):∃ out,hd.entries=we out/\out.Perm (hd.table.map (·.2)):=by
 refine zY (by rw[ar];exact W.tl) ?_ fun a ha b hb=>HZ (W.ent a ha) (W.ent b hb);unfold jP;rw[iw];right;rw[fz];intro d hd';rw[AE (W.ent d hd')];rfl
noncomputable def Hd.takeOut0 (hd:Hd) (mk:List Key) (ks:List (List Key)):Hd:={ hd with table:=ks.foldl dP hd.table,kept:=if ks=[] then hd.kept else putD hd.kept mk (.tup (ks.map bQ)) }
noncomputable def Hd.takeOut (hd:Hd) (mk:List Key) (ks:List (List Key)):Hd:=(hd.takeOut0 mk ks).forget
theorem Ak {g:Om->D->List D->Option (D×Om)}{fo:OG D}{fl:OG (List D)}{ρ:Rho}{ω ω1 ω2 ω3:Om}{n:Nat}{kvs:List (List Key×D)}{ds:List D}{r:D} (e1:fo ρ ω=we (.ok (.obj n),ω1)) (e2:ω1[n]?=we (.dt kvs)) (e3:fl ρ ω1=we (.ok ds,ω2)) (e4:g ω2 (.obj n) ds=we (r,ω3)):nP g fo fl ρ ω=we (.ok r,ω3):=by
 unfold nP;rw[bH e1]
 have:Bw ω1 (.obj n)=true:=by simp only[Bw,cellOf,e2]
 show(if Bw ω1 (.obj n)=true then _ else wf)=_
 rw[if_pos this,bH e3];show oR (g ω2 (.obj n) ds)=_;rw[e4];rfl
theorem BG {kvs:List (List Key×D)}{q k:List Key} (h:q∈kvs.map (·.1)) (hn:q≠k):q∈(dP kvs k).map (·.1):=by
 obtain⟨p,h1,rfl⟩:=ax.mp h;exact ax.mpr ⟨p,b4.mpr ⟨h1,by simpa using hn⟩,rfl⟩
theorem Cf {kvs:List (List Key×D)}{k:List Key} (h:k∈kvs.map (·.1)):∃ v,gU kvs k=we v:=by
 obtain⟨p,h1,h2⟩:=ax.mp h;unfold gU;cases q:kvs.find? fun kv=>decide (kv.1=k) with
 |some u=>exact⟨u.2,rfl⟩
 |none=>
  rw[uq] at q;exact absurd (by simpa using h2) (q p h1)
theorem CI:∀ {ks:List (List Key)}{T:List (List Key×D)}{v:Option D}{ω:Om},ω[h]?=we (.ins 0 [("number",.int i),("knows",.obj k),("table",.obj t),("kept",.obj e)])->ω[t]?=we (.dt T)->h≠t->ks.Nodup->(∀ q∈ks,q∈T.map (·.1))->
  ∃ ρ',bZ (bG 3) cM bY (ks.map bQ) [we (.obj h),we mk,we ms,v] ω=we (.nx ρ',ω.set t (.dt (ks.foldl dP T)))/\∃ v,ρ'=[we (.obj h),we mk,we ms,v]
 |[],T,v,ω,_,ht,_,_,_=>⟨_,by
   show we (OOut.nx _,ω)=_
   congr 2
   exact(fW ht).symm,v,rfl⟩
 |q::ks,T,v,ω,ho,ht,hne,hk,hin=>by
  rw[b3] at hk;obtain⟨u,hu⟩:=Cf (hin q au);have b1:bY [we (.obj h),we mk,we ms,we (bQ q)] ω=we (.nx [we (.obj h),we mk,we ms,we (bQ q)],ω.set t (.dt (dP T q))):=by
   unfold bY cB;rw[cJ (Ak (r:=u) (ω3:=ω.set t (.dt (dP T q))) (fH (aB rfl) ho rfl) ht (aA (aB rfl) aE) (by
    simp only[Ea,ht]
    show(Ck (bQ q)).bind _=_
    rw[Hz]
    show(gU T q).map _=_
    rw[hu];rfl))]
  obtain⟨ρ',g1,v',g2⟩:=CI (mk:=mk) (ms:=ms) (ks:=ks) (T:=dP T q) (v:=we (bQ q)) (ω:=ω.set t (.dt (dP T q))) (by rw[aH hne];exact ho) (bT ht) hne hk.2 fun q' hq'=>BG (hin q' (ai _ hq')) fun z=>hk.1 (z ▸ hq');refine⟨ρ',?_,v',g2⟩;rw[ow] at g1;rw[bg];refine(gH rfl rfl (b1)).trans ?_;exact g1
theorem wX (H:HandAt ω h i hd k t e rs) (hk:ks.Nodup) (hin:∀ q∈ks,q∈hd.table.map (·.1)) (hl:hd.kept.length<sizeLine) (W:(hd.takeOut0 mk ks).Ok c):
  ∃ ω' e',cV [.obj h,bQ mk,.lst (ks.map bQ)] ω=we (.ok .non,ω')/\HandAt ω' h i (hd.takeOut mk ks) k t e' rs/\Keep [h,t,e] ω ω'/\ω.length<=e':=by
 obtain⟨⟨h1,h2,h3,h4⟩,⟨h5,h6,h7⟩,⟨h8,h9⟩,h10,h11⟩:=H.ne;obtain⟨ρ1,g1,v,rfl⟩:=CI (h:=h) (i:=i) (k:=k) (t:=t) (e:=e) (mk:=bQ mk) (ms:=.lst (ks.map bQ)) (ks:=ks) (T:=hd.table) (v:=wf) (ω:=ω) H.obj H.tb h2 hk hin;have H1:HandAt (ω.set t (.dt (ks.foldl dP hd.table))) h i { hd with table:=ks.foldl dP hd.table } k t e rs:=H.setT _;have l1:sNx (cD (oIL (oP (aD 2))) (bG 3) bY) (bV iP [.obj h,bQ mk,.lst (ks.map bQ)]) ω=we (.nx [we (.obj h),we (bQ mk),we (.lst (ks.map bQ)),v],ω.set t (.dt (ks.foldl dP hd.table))):=jB (by
  unfold cD oIL;rw[cJ (bH (aB (d:=.lst (ks.map bQ)) rfl))];exact g1)
 have mid:∃ ω2,dR (jY (oP (aD 2))) (gZ mC (gS 0 "kept" (oP (aD 0))) (oP (aD 1)) (oL DW (aC (oP (aD 2)) aQ))) bN [we (.obj h),we (bQ mk),we (.lst (ks.map bQ)),v] (ω.set t (.dt (ks.foldl dP hd.table)))=we (.nx [we (.obj h),we (bQ mk),we (.lst (ks.map bQ)),v],ω2)/\HandAt ω2 h i (hd.takeOut0 mk ks) k t e rs/\Keep [t,e] ω ω2/\ω2.length=ω.length:=by
  cases hks:ks with
  |nil=>
   refine⟨ω.set t (.dt (([]:List (List Key)).foldl dP hd.table)),?_,?_,Keep.set (by simp),by simp⟩
   ·rw[lF (ω1:=ω.set t (.dt (([]:List (List Key)).foldl dP hd.table))) (by
     unfold jY;rw[bH (aB (d:=.lst []) rfl)];rfl)]
    rfl
   ·subst hks;exact H1
  |cons q r=>
   have hks':ks≠[]:=by rw[hks];simp
   rw[<- hks];refine⟨(ω.set t (.dt (ks.foldl dP hd.table))).set e (.dt (putD hd.kept mk (.tup (ks.map bQ)))),?_,?_,(Keep.set (by simp)).trans (Keep.set (by simp)),by simp⟩
   ·rw[jM (ω1:=ω.set t (.dt (ks.foldl dP hd.table))) (by
     unfold jY;rw[bH (aB (d:=.lst (ks.map bQ)) rfl)];rw[hks];rfl)]
    exact eK (dF (aA (aB (d:=.lst (ks.map bQ)) rfl) aE) rfl) (H1.kept (aB rfl)) (aB (d:=bQ mk) rfl) (oS (ks:=mk) H1.kp (Hz mk) hl)
   ·have:=H1.setE (putD hd.kept mk (.tup (ks.map bQ)))
    have e0:hd.takeOut0 mk ks={ hd with table:=ks.foldl dP hd.table,kept:=putD hd.kept mk (.tup (ks.map bQ)) }:=by
     unfold Hd.takeOut0;rw[if_neg hks']
    rw[e0];exact this
 obtain⟨ω2,m1,H2,K2,L2⟩:=mid;obtain⟨ω3,f1,H3,K3⟩:=vX H2 W;refine⟨ω3,ω2.length,?_,H3,⟨by rw[<- L2];exact K3.1,fun n hn hm=> ?_⟩,by rw[L2];exact bc _⟩
 ·refine sB (ρ1:=[we (.obj h),we (bQ mk),we (.lst (ks.map bQ)),v]) rfl ?_;unfold iG;rw[bB l1,bB m1];unfold cB;rw[cJ (dD (aB rfl) H2.obj rfl f1)]
 ·simp only[ah,cj,or_false,not_or] at hm;rw[K3.2 n (by rw[L2];exact hn) (by simpa using hm.1)];exact K2.2 n hn (by simp[hm.2.1,hm.2.2])
end
noncomputable def aU:D->List Key
 |.tup [_,.tup [.int a,.int b],_]=>[.inl a,.inl b]
 |_=>[]
noncomputable def JQ (y:Str):D->Bool
 |.tup [.str x,_,_]=>decide (x=y)
 |_=>false
noncomputable def Hd.ents (hd:Hd):List D:=hd.entries.getD []
noncomputable def Hd.marksK (hd:Hd) (y:Str):List (List Key):=(hd.ents.filter (JQ y)).map aU
theorem qR:∀ {out:List D},(∀ d∈out,fP d)->marksIn (.str y) out=((out.filter (JQ y)).map aU).map bQ
 |[],_=>rfl
 |d::r,h=>by
  have ih:=qR (y:=y) (out:=r) fun d hd=>h d (ai _ hd);obtain⟨x,a,b,v,rfl⟩:=h d au;unfold marksIn at ih ⊢;have e0:(eqD 8 (.str x) (.str y)==we true)=decide (x=y):=by rw[gJ];cases decide (x=y) <;> rfl
  by_cases hx:x=y
  ·rw[c7 (by show(eqD 8 (.str x) (.str y)==we true)=true;rw[e0];exact decide_eq_true hx),c7 (by show decide (x=y)=true;exact decide_eq_true hx)];rw[bg,bg,bg,ih];rfl
  ·rw[c6 (by show ¬(eqD 8 (.str x) (.str y)==we true)=true;rw[e0];simpa using hx),c6 (by show ¬ decide (x=y)=true;simpa using hx)];exact ih
section
variable {ω ω1 ω2:Om}{h k t e:Nat}{i c:Nat}{hd hd1 hd2:Hd}{rs fp:List Nat}
theorem Hd.Ok.ents (W:hd.Ok c):hd.entries=we hd.ents/\hd.ents.Perm (hd.table.map (·.2)):=by
 obtain⟨out,e1,e2⟩:=W.sorts
 have:hd.ents=out:=by unfold Hd.ents;rw[e1];rfl
 rw[this];exact⟨e1,e2⟩
theorem Hd.Ok.entsEnt (W:hd.Ok c):∀ d∈hd.ents,fP d:=fun d hd'=>W.ent d (W.ents.2.mem_iff.mp hd')
theorem Hd.Ok.keys (W:hd.Ok c):(hd.table.map (·.2)).map aU=hd.table.map (·.1):=by
 rw[jc];apply f7;intro kv hkv;obtain⟨a,b,_,_,e1,x,v,e2⟩:=W.tk kv hkv;show aU kv.2=kv.1;rw[e2,e1];rfl
theorem Hd.Ok.entsKeys (W:hd.Ok c):(hd.ents.map aU).Perm (hd.table.map (·.1)):=by
 rw[<- W.keys];exact W.ents.2.map aU
theorem Hd.Ok.entsNodup (W:hd.Ok c):(hd.ents.map aU).Nodup:=W.entsKeys.nodup_iff.mpr W.tn
theorem Hd.Ok.entsLen (W:hd.Ok c):hd.ents.length<64:=by rw[W.ents.2.length_eq,ar];exact W.tl
theorem Hd.Ok.marksNodup (W:hd.Ok c) (y:Str):(hd.marksK y).Nodup:=W.entsNodup.sublist (j8.map aU)
theorem Hd.Ok.marksIn (W:hd.Ok c) (y:Str):∀ q∈hd.marksK y,q∈hd.table.map (·.1):=fun q hq=>W.entsKeys.mem_iff.mp ((j8.map aU).subset hq)
theorem Hd.Ok.seenMem (W:hd.Ok c) (hi:i<c):hd.seen i∈hd.knows:=by
 unfold Hd.seen
 have:i<hd.knows.length:=by rw[W.len];exact hi
 rw[aq,bj this];exact i7 this
theorem Hd.Ok.seenLen (W:hd.Ok c) (hi:i<c):(hd.seen i).length=c:=W.row _ (W.seenMem hi)
theorem eU (h:n<64):n<sizeLine:=by rw[bw];omega
noncomputable def HandS (ω:Om) (h i:Nat) (hd:Hd) (fp:List Nat):Prop:=∃ k t e rs,HandAt ω h i hd k t e rs/\fp=h::k::t::e::rs
noncomputable def Did (ω:Om) (h i:Nat) (fp:List Nat) (ω':Om) (hd':Hd):Prop:=∃ fp',HandS ω' h i hd' fp'/\Keep fp ω ω'/\∀ n∈fp',n∈fp∨ω.length<=n
theorem HandS.obj (H:HandS ω h i hd fp):∃ k t e,ω[h]?=we (.ins 0 [("number",.int i),("knows",.obj k),("table",.obj t),("kept",.obj e)]):=by
 obtain⟨k,t,e,rs,H,_⟩:=H;exact⟨k,t,e,H.obj⟩
theorem HandS.lt (H:HandS ω h i hd fp):∀ n∈fp,n<ω.length:=by
 obtain⟨k,t,e,rs,H,rfl⟩:=H;exact H.lt
theorem HandS.mono (H:HandS ω h i hd fp) (g:∀ n∈fp,ω'[n]?=ω[n]?):HandS ω' h i hd fp:=by
 obtain⟨k,t,e,rs,H,rfl⟩:=H;exact⟨k,t,e,rs,H.mono g,rfl⟩
theorem Did.refl (H:HandS ω h i hd fp):Did ω h i fp ω hd:=⟨fp,H,Keep.refl _ _,fun n hn=>.inl hn⟩
theorem Did.trans (a:Did ω h i fp ω1 hd1) (b:∀ fp1,HandS ω1 h i hd1 fp1->Did ω1 h i fp1 ω2 hd2):Did ω h i fp ω2 hd2:=by
 obtain⟨fp1,H1,K1,F1⟩:=a;obtain⟨fp2,H2,K2,F2⟩:=b fp1 H1;refine⟨fp2,H2,⟨ce K1.1 K2.1,fun n hn hf=> ?_⟩,fun n hn=> ?_⟩
 ·rw[K2.2 n (ca hn K1.1) fun z=>(F1 n z).elim hf fun q=>absurd hn (s0.mpr q)];exact K1.2 n hn hf
 ·rcases F2 n hn with z|z
  ·exact F1 n z
  ·exact .inr (ce K1.1 z)
theorem Keep.sub (a:Keep fp ω ω') (h:∀ n∈fp,n∈fq):Keep fq ω ω':=⟨a.1,fun n hn hf=>a.2 n hn fun z=>hf (h n z)⟩
theorem Pn (H:HandS ω h i hd fp) (W:hd.Ok c) (hi:i<c) (x:Str) (v:Int):∃ ω',dU [.obj h,.str x,.int v] ω=we (.ok (mkD i (hd.next i)),ω')/\Did ω h i fp ω' (hd.put i x v):=by
 obtain⟨k,t,e,rs,H,rfl⟩:=H;obtain⟨ω',e1,H',K,L⟩:=Lk H (by rw[W.len];exact hi) (by rw[W.seenLen hi];exact hi) (eU W.tl) x v;exact⟨ω',e1,_,⟨k,t,e,rs,H',rfl⟩,K.sub (fun n hn=>by simp only[ah] at hn ⊢;rcases hn with z|z <;> simp[z]),fun n hn=>.inl hn⟩
theorem Dh (H:HandS ω h i hd fp) (W:hd.Ok c) (hi:i<c):∃ ω',cX [.obj h] ω=we (.ok (mkD i (hd.next i)),ω')/\Did ω h i fp ω' (hd.bump i):=by
 obtain⟨k,t,e,rs,H,rfl⟩:=H;obtain⟨ω',e1,H',K,L⟩:=nR H (by rw[W.len];exact hi) (by rw[W.seenLen hi];exact hi);exact⟨ω',e1,_,⟨k,t,e,rs,H',rfl⟩,K.sub (fun n hn=>by simp[hn]),fun n hn=>.inl hn⟩
theorem HR (H:HandS ω h i hd fp) (W:hd.Ok c) (y:Str):cY [.obj h,.str y] ω=we (.ok (.lst ((hd.marksK y).map bQ)),ω):=by
 obtain⟨k,t,e,rs,H,rfl⟩:=H;rw[Gd H W.ents.1 W.entsEnt (ir (eU W.entsLen)) y,qR W.entsEnt];rfl
theorem mI {mk:List Key}{ks:List (List Key)} (H:HandS ω h i hd fp) (hk:ks.Nodup) (hin:∀ q∈ks,q∈hd.table.map (·.1)) (hl:hd.kept.length<64) (W:(hd.takeOut0 mk ks).Ok c):∃ ω',cV [.obj h,bQ mk,.lst (ks.map bQ)] ω=we (.ok .non,ω')/\Did ω h i fp ω' (hd.takeOut mk ks):=by
 obtain⟨k,t,e,rs,H,rfl⟩:=H;obtain⟨ω',e',e1,H',K,L⟩:=wX H hk hin (eU hl) W;refine⟨ω',e1,_,⟨k,t,e',rs,H',rfl⟩,K.sub (fun n hn=>by simp only[ah,cj,or_false] at hn ⊢;rcases hn with z|z|z <;> simp[z]),fun n hn=> ?_⟩;simp only[ah] at hn ⊢;rcases hn with z|z|z|z|z
 ·exact .inl (.inl z)
 ·exact .inl (.inr (.inl z))
 ·exact .inl (.inr (.inr (.inl z)))
 ·exact .inr (z ▸ L)
 ·exact .inl (.inr (.inr (.inr (.inr z))))
theorem vB {kvs:List (List Key×D)}{q k:List Key}{v:D} (h:q∈kvs.map (·.1)):q∈(putD kvs k v).map (·.1):=by
 unfold putD;split
 ·obtain⟨p,h1,h2⟩:=ax.mp h;refine ax.mpr ⟨if p.1=k then(p.1,v) else p,ax.mpr ⟨p,h1,rfl⟩,?_⟩;split <;> exact h2
 ·rw[cx];exact di _ h
noncomputable def Hd.change (hd:Hd) (i:Nat) (x:Str) (v:Int):Hd:=(hd.put i x v).takeOut (fN i (hd.next i)) (hd.marksK x)
theorem Kw (H:HandS ω h i hd fp) (W:hd.Ok c) (hi:i<c) (x:Str) (v:Int) (W2:((hd.put i x v).takeOut0 (fN i (hd.next i)) (hd.marksK x)).Ok c):∃ ω',dL [.obj h,.str x,.int v] ω=we (.ok (mkD i (hd.next i)),ω')/\Did ω h i fp ω' (hd.change i x v):=by
 obtain⟨ω1,e1,D1⟩:=Pn H W hi x v;obtain⟨fp1,H1,K1,F1⟩:=id D1;obtain⟨ω2,e2,D2⟩:=mI (mk:=fN i (hd.next i)) (ks:=hd.marksK x) H1 (W.marksNodup x) (fun q hq=>vB (W.marksIn x q hq)) W.kl W2;refine⟨ω2,?_,D1.trans fun fq Hq=> ?_⟩
 ·obtain⟨k0,t0,e0,ho⟩:=H.obj;obtain⟨k1,t1,e1',ho1⟩:=H1.obj;refine aT rfl ?_;unfold kR;rw[aM (bS (aB rfl) ho rfl (aA (aB rfl) aE) (HR H W x))];rw[aM (bS (aB (d:=.obj h) rfl) ho rfl (aA (aB (d:=.str x) rfl) (aA (aB (d:=.int v) rfl) aE)) e1)];rw[bB (ρ1:=[we (.obj h),we (.str x),we (.int v),we (.lst ((hd.marksK x).map bQ)),we (mkD i (hd.next i))]) (ω1:=ω2) (by
   unfold cB;rw[cJ (bS (aB (d:=.obj h) rfl) ho1 rfl (aA (aB (d:=bQ (fN i (hd.next i))) rfl) (aA (aB (d:=.lst ((hd.marksK x).map bQ)) rfl) aE)) e2)];rfl)]
  exact bD (aB rfl)
 ·obtain⟨ωq,eq,Dq⟩:=mI (mk:=fN i (hd.next i)) (ks:=hd.marksK x) Hq (W.marksNodup x) (fun q hq=>vB (W.marksIn x q hq)) W.kl W2;rw[e2] at eq;cases eq;exact Dq
noncomputable def Hd.take (hd:Hd) (i:Nat) (x:Str):Hd:=if hd.marksK x=[] then hd else(hd.bump i).takeOut (fN i (hd.next i)) (hd.marksK x)
noncomputable def Hd.takeA (hd:Hd) (x:Str):D:=if hd.marksK x=[] then .non else .lst ((hd.marksK x).map bQ)
theorem NB (H:HandS ω h i hd fp) (W:hd.Ok c) (hi:i<c) (x:Str) (W2:((hd.bump i).takeOut0 (fN i (hd.next i)) (hd.marksK x)).Ok c):∃ ω',eZ [.obj h,.str x] ω=we (.ok (hd.takeA x),ω')/\Did ω h i fp ω' (hd.take i x):=by
 obtain⟨k0,t0,e0,ho⟩:=H.obj;unfold Hd.take Hd.takeA;have m1:=HR H W x;cases hm:hd.marksK x with
 |nil=>
  rw[if_pos rfl,if_pos rfl];refine⟨ω,?_,Did.refl H⟩;refine aT rfl ?_;unfold jS;rw[hm] at m1;rw[aM (bS (aB rfl) ho rfl (aA (aB rfl) aE) m1)];rfl
 |cons q r=>
  rw[if_neg (by simp),if_neg (by simp)];rw[hm] at m1 W2;obtain⟨ω1,e1,D1⟩:=Dh H W hi;obtain⟨fp1,H1,K1,F1⟩:=id D1;have nd:=W.marksNodup x;have mi:=W.marksIn x;rw[hm] at nd mi;obtain⟨ω2,e2,D2⟩:=mI (mk:=fN i (hd.next i)) (ks:=q::r) H1 nd mi W.kl W2;refine⟨ω2,?_,D1.trans fun fq Hq=> ?_⟩
  ·obtain⟨k1,t1,e1',ho1⟩:=H1.obj;refine aT rfl ?_;unfold jS;rw[aM (bS (aB rfl) ho rfl (aA (aB rfl) aE) m1)];rw[bB (ρ1:=[we (.obj h),we (.str x),we (.lst ((q::r).map bQ))]) (ω1:=ω) rfl];rw[bB (ρ1:=[we (.obj h),we (.str x),we (.lst ((q::r).map bQ))]) (ω1:=ω2) (by
    unfold cB;rw[cJ (bS (aB (d:=.obj h) rfl) ho rfl (aA (a:=bQ (fN i (hd.next i))) (dD (aB rfl) ho rfl e1) (aA (aB (d:=.lst ((q::r).map bQ)) rfl) aE)) e2)])]
   exact bD (aB rfl)
  ·obtain⟨ωq,eq,Dq⟩:=mI (mk:=fN i (hd.next i)) (ks:=q::r) Hq nd mi W.kl W2;rw[e2] at eq;cases eq;exact Dq
end
theorem bX (er:ω[r]?=we (.ml (iv xs))):RowV ω (.obj r) xs:=by unfold RowV fL;simp only[er]
theorem dO {ω:Om} (h:ω[n]?=we o):n<ω.length:=(bh.mp h).1
theorem RowsAt.app (h:RowsAt ω rs kn) (obs:List Ob):RowsAt (ω++obs) rs kn:=by
 induction h with
 |nil=>exact .nil
 |cons hr _ ih=>exact .cons ((aj (dO hr)).trans hr) ih
theorem RowsAt.setAt (h:RowsAt ω rs kn) (hr:ω[r]?=we (.ml (iv xs))):RowsAt ω (rs.set j r) (kn.set j xs):=by
 induction h generalizing j with
 |nil=>exact .nil
 |cons h0 t ih=>
  cases j with
  |zero=>exact .cons hr t
  |succ j=>exact .cons h0 ih
theorem Df {l:List Nat} (h:l.Nodup) (ha:a∉l) (j:Nat):(l.set j a).Nodup:=by
 induction l generalizing j with
 |nil=>exact h
 |cons x r ih=>
  rw[b3] at h;simp only[ah,not_or] at ha;cases j with
  |zero=>rw[ur,b3];exact⟨ha.2,h.2⟩
  |succ j=>
   rw[ut,b3];refine⟨fun z=> ?_,ih h.2 ha.2 j⟩;rcases ip z with z|z
   ·exact h.1 z
   ·exact ha.1 z.symm
noncomputable def Hd.leaves (tl:Hd) (j:Nat) (d:D):Bool:=(gU tl.table (aU d)).isSome|| !fJ (tl.seen j) (aU d)
noncomputable def Pu (c:Nat) (d:D):Prop:=∃(x:Str) (a b:Int) (v:Int),d=.tup [.str x,.tup [.int a,.int b],.int v]/\0<=a/\a<c
section
variable {ω:Om}{h k t e h2 k2 t2 e2:Nat}{i j c:Nat}{hd tl:Hd}{rs rs2 fp:List Nat}
theorem qT (G:HandAt ω h2 j tl k2 t2 e2 rs2) (V:tl.Ok c) (hj:j<c) (ho:∀ d∈out,Pu c d) (hl:out.length<=sizeLine):kG [.lst out,.obj h2] ω=we (.ok (.lst (out.filter (tl.leaves j))),ω):=by
 obtain⟨r,hr,er⟩:=G.seenRow (by rw[V.len];exact hj);refine aT rfl (bD (iB (ds:=out) (chk:=cM) (ω1:=ω) ?_ hl ?_))
 ·unfold oIL;rw[bH (aB (d:=.lst out) rfl)];rfl
 ·have e0:out.filter (tl.leaves j)=(out.filter (tl.leaves j)).map fun d=>d:=by simp
  rw[e0];refine dW (fun ρ=>∃ u,ρ=[u,we (.obj h2)]) rfl ⟨_,rfl⟩ fun d hd ρ hρ=> ?_;obtain⟨x,a,b,v,rfl,ha0,ha1⟩:=ho d hd;obtain⟨u,rfl⟩:=hρ;refine⟨_,rfl,⟨_,rfl⟩,?_,fun _=>aB rfl⟩;have d1:cC (o2 (fun ω a b=>pu (KM ω a b) ω) (o2 (fun ω a b=>pu (bF ω a b) ω) (oP (aD 0)) (oP (dC (.int 1)))) (gS 0 "table" (oP (aD 1)))) [we (.tup [.str x,.tup [.int a,.int b],.int v]),we (.obj h2)] ω=we (.ok (gU tl.table [.inl a,.inl b]).isSome,ω):=
   cE (eP (aK (aB (d:=.tup [.str x,.tup [.int a,.int b],.int v]) rfl) aR rfl) (G.table (aB rfl)) (by
    show pu (KM ω (.tup [.int a,.int b]) (.obj t2)) ω=_
    have:KM ω (.tup [.int a,.int b]) (.obj t2)=we (.bl (gU tl.table [.inl a,.inl b]).isSome):=by
     simp only[KM,Ec,cellOf,G.tb];rfl
    rw[this];rfl))
  have lv:tl.leaves j (.tup [.str x,.tup [.int a,.int b],.int v])=((gU tl.table [.inl a,.inl b]).isSome|| !decide (b<=(tl.seen j).getD a.toNat 0)):=rfl;rw[lv];show oOr _ _ _ _=_;unfold oOr;show oB _ _ [we (.tup [.str x,.tup [.int a,.int b],.int v]),we (.obj h2)] ω=_;rw[bH d1];cases hv:(gU tl.table [.inl a,.inl b]).isSome with
  |true=>rfl
  |false=>
   have s1:=oC (ω:=ω) (d:=.obj r) (xs:=tl.seen j) (bX er) (a:=a) (b:=b) ha0 (by rw[V.seenLen hj];exact ha1);show lH _ _ _=_;unfold lH;rw[bH (x:=decide (b<=(tl.seen j).getD a.toNat 0)) (ω1:=ω) (by
    unfold jY;rw[bH (aW (aA (dD (aB rfl) G.obj rfl (lE G hr)) (aA (aK (aB (d:=.tup [.str x,.tup [.int a,.int b],.int v]) rfl) aR rfl) aE)) s1)];rfl)]
   rfl
noncomputable def KG (xs ys:List Int):Int:=(bp (fun x y=>mx (y-x) 0) xs ys).sum
noncomputable def nD (out:List D) (T:List (List Key×D)):List (List Key×D):=out.foldl (fun T d=>putD T (aU d) d) T
theorem Ft (kvs:List (List Key×D)) (k:List Key) (v:D):(putD kvs k v).length<=kvs.length+1:=by
 unfold putD;split
 ·simp
 ·simp
theorem vR {h h2 n0 n1:Nat}:∀ {out:List D}{T:List (List Key×D)}{v:Option D}{ω:Om},(∀ d∈out,fP d)->ω[n1]?=we (.dt T)->T.length+out.length<sizeLine->
  ∃ v',bZ (bG 5) cM eB out [we (.obj h),we (.obj h2),we m,we (.obj n0),we (.obj n1),v] ω=we (.nx [we (.obj h),we (.obj h2),we m,we (.obj n0),we (.obj n1),v'],ω.set n1 (.dt (nD out T)))
 |[],T,v,ω,_,ht,_=>⟨v,by
   show we (OOut.nx _,ω)=_;rw[show nD [] T=T from rfl,fW ht]⟩
 |d::out,T,v,ω,he,ht,hl=>by
  rw[bv] at hl;have hd:=he d au;obtain⟨x,a,b,w,rfl⟩:=hd;have b1:eB [we (.obj h),we (.obj h2),we m,we (.obj n0),we (.obj n1),we (.tup [.str x,.tup [.int a,.int b],.int w])] ω=we (.nx [we (.obj h),we (.obj h2),we m,we (.obj n0),we (.obj n1),we (.tup [.str x,.tup [.int a,.int b],.int w])],ω.set n1 (.dt (putD T [.inl a,.inl b] (.tup [.str x,.tup [.int a,.int b],.int w])))):=by
   unfold eB;exact eK (aB rfl) (aB (d:=.obj n1) rfl) (aK (aB (d:=.tup [.str x,.tup [.int a,.int b],.int w]) rfl) aR rfl) (oS (ks:=[.inl a,.inl b]) ht rfl (by omega))
  have hp:=Ft T [.inl a,.inl b] (.tup [.str x,.tup [.int a,.int b],.int w]);obtain⟨v',g1⟩:=vR (h:=h) (h2:=h2) (n0:=n0) (n1:=n1) (m:=m) (out:=out) (T:=putD T [.inl a,.inl b] (.tup [.str x,.tup [.int a,.int b],.int w])) (v:=we (.tup [.str x,.tup [.int a,.int b],.int w])) (ω:=ω.set n1 (.dt (putD T [.inl a,.inl b] (.tup [.str x,.tup [.int a,.int b],.int w])))) (fun d hd=>he d (ai _ hd)) (bT ht) (by omega);refine⟨v',?_⟩;rw[ow] at g1;refine(gH rfl rfl (b1)).trans ?_;exact g1
theorem Ar:∀ {rs1 rs2:List Nat}{kn1 kn2:List (List Int)}{ω:Om}{ρ:Rho},ρ.length=2->RowsAt ω rs1 kn1->RowsAt ω rs2 kn2->(∀ xs∈kn1,xs.length<=sizeLine)->(∀ obs,chk (ω++obs)=true)->
  compLO (pG 0 1) chk (oPT mT) (bK gB (aC (oP (aD 0)) (aC (oP (aD 1)) aQ))) (wU (rs1.map D.obj) (rs2.map D.obj)) ρ ω=we ((cw ω.length (bp (bp mx) kn1 kn2).length).map D.obj,ω++(bp (bp mx) kn1 kn2).map fun xs=>Ob.ml (iv xs))
 |_,rs2,_,kn2,ω,ρ,hρ,.nil,_,_,hc=>by
  show(if chk ω=true then we ([],ω) else wf)=_
  rw[if_pos (by have:=hc [];rwa [c3] at this)];simp
 |_,_,_,_,ω,ρ,hρ,.cons _ _,.nil,_,hc=>by
  show(if chk ω=true then we ([],ω) else wf)=_
  rw[if_pos (by have:=hc [];rwa [c3] at this)];simp
 |_,_,_,_,ω,ρ,hρ,@Paired.cons _ _ _ r1 x1 rs1 kn1 a1 t1,@Paired.cons _ _ _ r2 x2 rs2 kn2 a2 t2,hl,hc=>by
  match ρ,hρ with
  |[u,v],_=>
   have j1:=vM (ω:=ω) (bX a1) (bX a2) (hl x1 au);have ih:=Ar (chk:=chk) (ω:=ω++[.ml (iv (bp mx x1 x2))]) (ρ:=[we (.obj r1),we (.obj r2)]) rfl (RowsAt.app t1 _) (RowsAt.app t2 _) (fun xs hx=>hl xs (ai _ hx)) (fun obs=>by rw[ff];exact hc _)
   show(if chk ω=true then(match bK gB (aC (oP (aD 0)) (aC (oP (aD 1)) aQ)) [we (.obj r1),we (.obj r2)] ω with
    |some (.ok y,ω2)=>(compLO (pG 0 1) chk (oPT mT) (bK gB (aC (oP (aD 0)) (aC (oP (aD 1)) aQ))) (wU (rs1.map D.obj) (rs2.map D.obj)) [we (.obj r1),we (.obj r2)] ω2).map fun r=>(y::r.1,r.2)
    |_=>wf) else wf)=_
   rw[if_pos (by have:=hc [];rwa [c3] at this),aW (aA (aB (d:=.obj r1) rfl) (aA (aB (d:=.obj r2) rfl) aE)) j1]
   show(compLO _ _ _ _ _ _ _).map _=_
   rw[ih];rw[ij,bv,j4,bg,bg,b0];show we (_,_)=_;rw[ff];rfl
theorem lG:∀(kn:List (List Int)) (pre post:Om),RowsAt (pre++(kn.map fun xs=>Ob.ml (iv xs))++post) (cw pre.length kn.length) kn
 |[],_,_=>.nil
 |x::r,pre,post=>by
  rw[bv,j4];refine .cons (by simp) ?_
  have:=lG r (pre++[.ml (iv x)]) post
  unfold RowsAt at this;simpa using this
theorem jL (e1:fv ρ ω=we (.ok v,ω1)) (e2:fo ρ ω1=we (.ok (.obj n),ω2)) (e3:ω2[n]?=we (.ins c fs)) (hl:fs.length<1000):lZ c x fo fv ρ ω=we (.nx ρ,ω2.set n (.ins c (kE x v fs))):=by
 unfold lZ;rw[cJ e1,cJ e2]
 have:sY c x ω2 (.obj n) v=we (ω2.set n (.ins c (kE x v fs))):=by
  simp only[sY,e3];rw[if_pos ⟨trivial,hl⟩]
 show(sY c x ω2 (.obj n) v).map _=_
 rw[this];rfl
noncomputable def Hd.hearT (hd:Hd) (i:Nat) (tl:Hd) (j:Nat):List D:=hd.ents.filter (tl.leaves j)++tl.ents.filter (hd.leaves i)
noncomputable def Hd.hear0 (hd:Hd) (i:Nat) (tl:Hd) (j:Nat):Hd:=⟨(bp (bp mx) hd.knows tl.knows).set i (bp mx (hd.seen i) (tl.seen j)),nD (hd.hearT i tl j) [],nU hd.kept tl.kept⟩
noncomputable def Hd.hear (hd:Hd) (i:Nat) (tl:Hd) (j:Nat):Hd:=(hd.hear0 i tl j).forget
theorem Hd.Ok.entC (W:hd.Ok c):∀ d∈hd.ents,Pu c d:=fun d hd'=>by
 obtain⟨kv,h1,rfl⟩:=ax.mp (W.ents.2.mem_iff.mp hd');obtain⟨a,b,ha0,ha1,_,x,v,e⟩:=W.tk kv h1;exact⟨x,a,b,v,e,ha0,ha1⟩
theorem JV (H:HandAt ω h i hd k t e rs) (G:HandAt ω h2 j tl k2 t2 e2 rs2) (hij:∀ n∈h::k::t::e::rs,n∉h2::k2::t2::e2::rs2) (W:hd.Ok c) (V:tl.Ok c) (hi:i<c) (hj:j<c) (hh:eI (tl.kept.map (·.1))=true) (W2:(hd.hear0 i tl j).Ok c):
  ∃ ω' k' t' e' rs',cH [.obj h,.obj h2] ω=we (.ok (.int (KG (hd.seen i) (tl.seen j))),ω')/\HandAt ω' h i (hd.hear i tl j) k' t' e' rs'/\Keep [h,e] ω ω'/\∀ n∈k'::t'::e'::rs',ω.length<=n:=by
 obtain⟨r,hr,er⟩:=H.seenRow (by rw[W.len];exact hi);obtain⟨r2,hr2,er2⟩:=G.seenRow (by rw[V.len];exact hj);obtain⟨⟨h1,h2',h3,h4⟩,⟨h5,h6,h7⟩,⟨h8,h9⟩,h10,h11⟩:=H.ne;have ltH:=H.lt;have ltG:=G.lt;have c8:∀ {n:Nat},n=c->n<=sizeLine:=fun z=>by rw[z,bw];have:=W.small;omega
 have hs1:(hd.seen i).length<=sizeLine:=c8 (W.seenLen hi);have hh2:h2≠h:=fun z=>hij h (by simp) (by simp[z]);have he2:e2≠e:=fun z=>hij e (by simp) (by simp[z]);have hk2h:k2≠h:=fun z=>hij h (by simp) (by simp[z]);have he2h:e2≠h:=fun z=>hij h (by simp) (by simp[z]);have hrs2h:∀ r∈rs2,r≠h:=fun r hr z=>hij h (by simp) (by rw[<- z];simp[hr])
 -- the stages of the store
 obtain⟨s,hs⟩:∃ s,s=bp mx (hd.seen i) (tl.seen j):=⟨_,rfl⟩;obtain⟨ωa,hωa⟩:∃ ωa,ωa=ω++[Ob.ml (iv s)]:=⟨_,rfl⟩;obtain⟨ωb,hωb⟩:∃ ωb,ωb=ωa++[Ob.dt []]:=⟨_,rfl⟩;have la:ωa.length=ω.length+1:=by rw[hωa];simp
 have lb:ωb.length=ω.length+2:=by rw[hωb];simp[la]
 have gb:∀ n,n<ω.length->ωb[n]?=ω[n]?:=fun n hn=>by rw[hωb,aj (by omega),hωa,aj hn]
 have Hb:HandAt ωb h i hd k t e rs:=H.mono fun n hn=>gb n (ltH n hn);have Gb:HandAt ωb h2 j tl k2 t2 e2 rs2:=G.mono fun n hn=>gb n (ltG n hn);have nb:ωb[ωa.length]?=we (.dt []):=by rw[hωb];simp
 have sb:ωb[ω.length]?=we (.ml (iv s)):=by rw[hωb,aj (by omega),hωa];simp
 -- the table
 have l1:(hd.ents.filter (tl.leaves j)).length<64:=md (du ..) W.entsLen;have l2:(tl.ents.filter (hd.leaves i)).length<64:=md (du ..) V.entsLen;have lT:(hd.hearT i tl j).length<128:=by unfold Hd.hearT;rw[b0];omega
 have entT:∀ d∈hd.hearT i tl j,fP d:=fun d hd'=>by
  rcases cz.mp hd' with z|z
  ·exact W.entsEnt d (b4.mp z).1
  ·exact V.entsEnt d (b4.mp z).1
 obtain⟨v',loop⟩:=vR (h:=h) (h2:=h2) (n0:=ω.length) (n1:=ωa.length) (m:=.int (KG (hd.seen i) (tl.seen j))) (out:=hd.hearT i tl j) (T:=[]) (v:=wf) (ω:=ωb) entT nb (by rw[bw];simp;omega);obtain⟨T,hT⟩:∃ T,T=nD (hd.hearT i tl j) []:=⟨_,rfl⟩;rw[<- hT] at loop;obtain⟨ωc,hωc⟩:∃ ωc,ωc=ωb.set ωa.length (.dt T):=⟨_,rfl⟩;rw[<- hωc] at loop;have lc:ωc.length=ω.length+2:=by rw[hωc];simp[lb]
 have gc:∀ n,n<ω.length->ωc[n]?=ω[n]?:=fun n hn=>by rw[hωc,aH (by omega)];exact gb n hn
 have tc:ωc[ωa.length]?=we (.dt T):=by rw[hωc];exact bT nb
 have sc:ωc[ω.length]?=we (.ml (iv s)):=by rw[hωc,aH (by omega)];exact sb
 have oc:ωc[h]?=we (.ins 0 [("number",.int i),("knows",.obj k),("table",.obj t),("kept",.obj e)]):=by rw[gc h (ltH h (by simp))];exact H.obj
 -- table set
 obtain⟨ωd,hωd⟩:∃ ωd,ωd=ωc.set h (.ins 0 [("number",.int i),("knows",.obj k),("table",.obj ωa.length),("kept",.obj e)]):=⟨_,rfl⟩;have ld:ωd.length=ω.length+2:=by rw[hωd];simp[lc]
 have hlt:=ltH h (by simp);have gd:∀ n,n<ω.length->n≠h->ωd[n]?=ω[n]?:=fun n hn hne=>by rw[hωd,aH hne];exact gc n hn
 have od:ωd[h]?=we (.ins 0 [("number",.int i),("knows",.obj k),("table",.obj ωa.length),("kept",.obj e)]):=by rw[hωd];exact bT oc
 have td:ωd[ωa.length]?=we (.dt T):=by rw[hωd,aH (by omega)];exact tc
 have sd:ωd[ω.length]?=we (.ml (iv s)):=by rw[hωd,aH (by omega)];exact sc
 have kd:ωd[k]?=we (.ml (rs.map D.obj)):=by rw[gd k (ltH k (by simp)) (bt h1)];exact H.kn
 have kd2:ωd[k2]?=we (.ml (rs2.map D.obj)):=by rw[gd k2 (ltG k2 (by simp)) hk2h];exact G.kn
 have od2:ωd[h2]?=_:=(gd h2 (ltG h2 (by simp)) hh2).trans G.obj;have rd:RowsAt ωd rs hd.knows:=H.rows.mono fun r hr=>gd r (ltH r (by simp[hr])) fun z=>h4 (z ▸ hr);have rd2:RowsAt ωd rs2 tl.knows:=G.rows.mono fun r hr=>gd r (ltG r (by simp[hr])) (hrs2h r hr)
 -- rows joined
 obtain⟨kn,hkn⟩:∃ kn,kn=bp (bp mx) hd.knows tl.knows:=⟨_,rfl⟩;have lkn:kn.length=c:=by rw[hkn,fe,W.len,V.len,iu]
 have joins:=Ar (chk:=fun ω=>kZ k (rs.map D.obj) ω&&kZ k2 (rs2.map D.obj) ω) (ω:=ωd) (ρ:=[wf,wf]) rfl rd rd2 (fun xs hx=>c8 (W.row xs hx)) (fun obs=>by
  rw[bq];constructor
  ·unfold kZ;rw[aj (dO kd),kd];exact sameDs_refl _
  ·unfold kZ;rw[aj (dO kd2),kd2];exact sameDs_refl _)
 rw[<- hkn] at joins;obtain⟨ωe,hωe⟩:∃ ωe,ωe=ωd++kn.map fun xs=>Ob.ml (iv xs):=⟨_,rfl⟩;rw[<- hωe] at joins;have le:ωe.length=ω.length+2+c:=by rw[hωe];simp[ld,lkn]
 obtain⟨ωf,hωf⟩:∃ ωf,ωf=ωe++[Ob.ml ((cw ωd.length kn.length).map D.obj)]:=⟨_,rfl⟩;have lf:ωf.length=ω.length+3+c:=by rw[hωf];simp[le];omega
 have gf:∀ n,n<ω.length+2->ωf[n]?=ωd[n]?:=fun n hn=>by rw[hωf,aj (by omega),hωe,aj (by omega)]
 have kf:ωf[ωe.length]?=we (.ml ((cw ωd.length kn.length).map D.obj)):=by rw[hωf];simp
 have rf:RowsAt ωf (cw ωd.length kn.length) kn:=by rw[hωf,hωe];exact lG kn ωd _
 have of:ωf[h]?=we (.ins 0 [("number",.int i),("knows",.obj k),("table",.obj ωa.length),("kept",.obj e)]):=by rw[gf h (by omega)];exact od
 obtain⟨ωg,hωg⟩:∃ ωg,ωg=ωf.set h (.ins 0 [("number",.int i),("knows",.obj ωe.length),("table",.obj ωa.length),("kept",.obj e)]):=⟨_,rfl⟩;have og:ωg[h]?=we (.ins 0 [("number",.int i),("knows",.obj ωe.length),("table",.obj ωa.length),("kept",.obj e)]):=by rw[hωg];exact bT of
 have kg:ωg[ωe.length]?=we (.ml ((cw ωd.length kn.length).map D.obj)):=by rw[hωg,aH (by omega)];exact kf
 obtain⟨rs',hrs'⟩:∃ rs',rs'=(cw ωd.length kn.length).set i ω.length:=⟨_,rfl⟩;have hset:((cw ωd.length kn.length).map D.obj).set i (.obj ω.length)=rs'.map D.obj:=by rw[hrs',uu]
 obtain⟨ωh,hωh⟩:∃ ωh,ωh=ωg.set ωe.length (.ml (rs'.map D.obj)):=⟨_,rfl⟩;have elt:=ltH e (by simp);have oh:ωh[h]?=we (.ins 0 [("number",.int i),("knows",.obj ωe.length),("table",.obj ωa.length),("kept",.obj e)]):=by rw[hωh,aH (by omega)];exact og
 have gh:∀ n,n<ω.length+2->n≠h->ωh[n]?=ωd[n]?:=fun n hn hne=>by rw[hωh,aH (by omega),hωg,aH hne];exact gf n hn
 have eh:ωh[e]?=we (.dt hd.kept):=by rw[gh e (by omega) (bt h3),gd e elt (bt h3)];exact H.kp
 have eh2:ωh[e2]?=we (.dt tl.kept):=by rw[gh e2 (by have:=ltG e2 (by simp);omega) he2h,gd e2 (ltG e2 (by simp)) he2h];exact G.kp
 have oh2:ωh[h2]?=_:=(gh h2 (by have:=ltG h2 (by simp);omega) hh2).trans od2;obtain⟨ωi,hωi⟩:∃ ωi,ωi=ωh.set e (.dt (nU hd.kept tl.kept)):=⟨_,rfl⟩;have li:ωi.length=ω.length+3+c:=by rw[hωi,hωh,hωg];simp[lf]
 have gi:∀ n,n<ω.length+2->n≠h->n≠e->ωi[n]?=ωd[n]?:=fun n hn hne hee=>by rw[hωi,aH hee];exact gh n hn hne
 have rin:∀ q∈cw ωd.length kn.length,ω.length+2<=q/\q<ω.length+2+c:=fun q hq=>by
  rw[mv,ld,lkn] at hq;exact hq
 have rsin:∀ q∈rs',ω.length<=q/\q≠ωa.length/\q<ω.length+2+c:=fun q hq=>by
  rw[hrs'] at hq;rcases ip hq with z|z
  ·have:=rin q z;omega
  ·omega
 have HI:HandAt ωi h i (hd.hear0 i tl j) ωe.length ωa.length e rs':=by
  refine⟨?_,?_,?_,?_,?_,?_⟩
  ·rw[hωi,aH h3];exact oh
  ·rw[hωi,aH (by omega),hωh];exact bT kg
  ·show RowsAt ωi rs' ((bp (bp mx) hd.knows tl.knows).set i (bp mx (hd.seen i) (tl.seen j)));rw[<- hkn,<- hs,hrs'];refine RowsAt.setAt (rf.mono fun q hq=> ?_) ?_
   ·have:=rin q hq
    rw[hωi,aH (by omega),hωh,aH (by omega),hωg,aH (by omega)]
   ·rw[gi _ (by omega) (by omega) (by omega)];exact sd
  ·show ωi[ωa.length]?=we (.dt (nD (hd.hearT i tl j) []));rw[gi _ (by omega) (by omega) (by omega),<- hT];exact td
  ·rw[hωi];exact bT eh
  ·have hnd:rs'.Nodup:=by
    rw[hrs'];exact Df (uz) (fun z=>by have:=rin _ z;omega) i
   simp only[b3,ah,not_or];refine⟨⟨by omega,by omega,h3,fun z=>by have:=rsin _ z;omega⟩,⟨by omega,by omega,fun z=>by have:=rsin _ z;omega⟩,⟨by omega,fun z=>(rsin _ z).2.1 rfl⟩,fun z=>by have:=rsin _ z;omega,hnd⟩
 obtain⟨ω',f1,HF,KF⟩:=vX HI W2;refine⟨ω',ωe.length,ωa.length,ωi.length,rs',?_,HF,⟨?_,fun n hn hm=> ?_⟩,fun n hn=> ?_⟩
 ·refine aT rfl ?_;unfold oI;rw[aM (aW (aA (dD (aB rfl) H.obj rfl (lE H hr)) (aA (dD (aB rfl) G.obj rfl (lE G hr2)) aE)) (FX (bX er) (bX er2) hs1))];rw[aM (aW (aA (dD (aB rfl) H.obj rfl (lE H hr)) (aA (dD (aB rfl) G.obj rfl (lE G hr2)) aE)) (vM (bX er) (bX er2) hs1))];rw[<- hs,<- hωa];rw[aM (d:=.obj ωa.length) (ω1:=ωb) (by rw[hωb];rfl)];rw[bB (jB (by
   unfold cD oIL;rw[cJ (x:=(hd.hearT i tl j,cM)) (ω1:=ωb) (by
    rw[bH (x:=.lst (hd.hearT i tl j)) (ω1:=ωb) (eP (aW (aA (dD (aB (d:=.obj h) rfl) Hb.obj rfl (lK Hb W.ents.1)) (aA (aB (d:=.obj h2) rfl) aE)) (qT Gb V hj W.entC (ir (eU W.entsLen)))) (aW (aA (dD (aB (d:=.obj h2) rfl) Gb.obj rfl (lK Gb V.ents.1)) (aA (aB (d:=.obj h) rfl) aE)) (qT Hb W hi V.entC (ir (eU V.entsLen)))) (by
     show(if(hd.ents.filter (tl.leaves j)).length+(tl.ents.filter (hd.leaves i)).length<=sizeLine then we (D.lst (hd.hearT i tl j),ωb) else wf)=_
     rw[if_pos (by rw[bw];omega)]))]
    rfl)]
   exact loop))]
  rw[bB (jL (aB (d:=.obj ωa.length) rfl) (aB (d:=.obj h) rfl) oc (by simp))];rw[show ωc.set h (.ins 0 (kE "table" (.obj ωa.length) [("number",.int i),("knows",.obj k),("table",.obj t),("kept",.obj e)]))=ωd from by rw[hωd];rfl];rw[bB (jL (nQ (ω1:=ωd) (ω2:=ωe) (ds:=wU (rs.map D.obj) (rs2.map D.obj)) (chk:=fun ω=>kZ k (rs.map D.obj) ω&&kZ k2 (rs2.map D.obj) ω) (by
    unfold oIZ;rw[bH (aA (fH (aB (d:=.obj h) rfl) od rfl) (aA (fH (aB (d:=.obj h2) rfl) od2 rfl) aE))];have z1:rD ωd (.obj k)=we (rs.map D.obj,kZ k (rs.map D.obj)):=by simp only[rD,kd]
    have z2:rD ωd (.obj k2)=we (rs2.map D.obj,kZ k2 (rs2.map D.obj)):=by simp only[rD,kd2]
    show oR (pu ((rD ωd (.obj k)).bind _) ωd)=_;rw[z1];show oR (pu ((rD ωd (.obj k2)).map _) ωd)=_;rw[z2];rfl) (by
     unfold wU;rw[fe,ar,ar,rd.length,rd2.length,W.len,V.len,iu];exact c8 rfl) joins) (by rw[<- hωf];exact aB (d:=.obj h) rfl) of (by simp))]
  rw[show ωf.set h (.ins 0 (kE "knows" (.obj ωe.length) [("number",.int i),("knows",.obj k),("table",.obj ωa.length),("kept",.obj e)]))=ωg from by rw[hωg];rfl];rw[bB (eK (aB (d:=.obj ω.length) rfl) (fH (aB (d:=.obj h) rfl) og rfl) (fH (aB (d:=.obj h) rfl) og rfl) (lD kg (by rw[ar,List.length_range',lkn];exact hi)))];rw[hset,<- hωh];rw[bB (ω1:=ωi) (by
   unfold cB;rw[cJ (Ak (r:=.non) (ω3:=ωi) (fH (aB (d:=.obj h) rfl) oh rfl) eh (aA (fH (aB (d:=.obj h2) rfl) oh2 rfl) aE) (by
    simp only[DV,eh,eh2];rw[if_pos ⟨bt he2,by have:=W.kl;have:=V.kl;rw[bw];omega,hh⟩,<- hωi]))])]
  rw[bB (ω1:=ω') (by
   unfold cB;rw[cJ (dD (aB (d:=.obj h) rfl) HI.obj rfl f1)])]
  exact bD (aB rfl)
 ·have:=KF.1;omega
 ·simp only[ah,cj,or_false,not_or] at hm;rw[KF.2 n (by omega) (by simpa using hm.1),gi n (by omega) hm.1 hm.2,gd n hn hm.1]
 ·simp only[ah] at hn;rcases hn with z|z|z|z
  ·omega
  ·omega
  ·omega
  ·exact(rsin n z).1
theorem Oz (H:HandS ω h i hd fp) (G:HandS ω h2 j tl fq) (hij:∀ n∈fp,n∉fq) (W:hd.Ok c) (V:tl.Ok c) (hi:i<c) (hj:j<c) (hh:eI (tl.kept.map (·.1))=true) (W2:(hd.hear0 i tl j).Ok c):
  ∃ ω',cH [.obj h,.obj h2] ω=we (.ok (.int (KG (hd.seen i) (tl.seen j))),ω')/\Did ω h i fp ω' (hd.hear i tl j):=by
 obtain⟨k,t,e,rs,H,rfl⟩:=H;obtain⟨k2,t2,e2,rs2,G,rfl⟩:=G;obtain⟨ω',k',t',e',rs',e1,H',K,F⟩:=JV H G hij W V hi hj hh W2;refine⟨ω',e1,_,⟨k',t',e',rs',H',rfl⟩,K.sub (fun n hn=>by simp only[ah,cj,or_false] at hn ⊢;rcases hn with z|z <;> simp[z]),fun n hn=> ?_⟩;rcases ah.mp hn with z|z
 ·exact .inl (by simp[z])
 ·exact .inr (F n z)
end
noncomputable def KeyIn (c:Nat) (own:Nat->Nat) (k:List Key):Prop:=∃ a b:Nat,a<c/\1<=b/\b<=own a/\k=fN a b
noncomputable def tot (c:Nat) (own:Nat->Nat):Nat:=((bu c).map own).sum
noncomputable def univ (c:Nat) (own:Nat->Nat):List (List Key):=(bu c).flatMap fun a=>(bu (own a)).map fun b=>fN a ((b+1:Nat):Int)
theorem rW (c:Nat) (own:Nat->Nat):(univ c own).length=tot c own:=by
 unfold univ tot;rw[List.length_flatMap]
 congr 1
 apply f7;intro a _;simp
theorem KeyIn.univ (h:KeyIn c own k):k∈univ c own:=by
 obtain⟨a,b,h1,h2,h3,rfl⟩:=h;unfold Lw.univ;rw[nu];refine⟨a,jt.mpr h1,ax.mpr ⟨b-1,jt.mpr (by omega),?_⟩⟩;rw[Nat.sub_add_cancel h2]
theorem KeyIn.mono (h:KeyIn c own k) (le:∀ a,own a<=own' a):KeyIn c own' k:=by
 obtain⟨a,b,h1,h2,h3,e⟩:=h;exact⟨a,b,h1,h2,ce h3 (le a),e⟩
theorem mM {α:Type} [DecidableEq α]:∀ {l m:List α},l.Nodup->(∀ x∈l,x∈m)->l.length<=m.length
 |[],m,_,_=>ic _
 |a::r,m,h,hs=>by
  rw[b3] at h;have ha:=hs a au;have h1:=mM (l:=r) (m:=m.erase a) h.2 fun x hx=>(List.mem_erase_of_ne (fun z:x=a=>h.1 (z ▸ hx))).mpr (hs x (ai _ hx));rw[List.length_erase_of_mem ha] at h1;have h2:=List.length_pos_of_mem ha;rw[bv];omega
structure Hd.In (c:Nat) (own:Nat->Nat) (hd:Hd):Prop where
 len:hd.knows.length=c
 row:∀ xs∈hd.knows,xs.length=c
 kb:∀ xs∈hd.knows,∀ a,a<c->0<=xs.getD a 0/\xs.getD a 0<=own a
 kk:∀ kv∈hd.kept,KeyIn c own kv.1
 kn:(hd.kept.map (·.1)).Nodup
 kv:∀ kv∈hd.kept,∃ ks:List (List Key),kv.2=.tup (ks.map bQ)/\ks.length<64/\∀ q∈ks,KeyIn c own q
 tk:∀ kv∈hd.table,∃ a b:Nat,a<c/\1<=b/\b<=own a/\kv.1=fN a b/\∃(x:Str) (v:Int),kv.2=.tup [.str x,mkD a b,.int v]
 tn:(hd.table.map (·.1)).Nodup
section
variable {c:Nat}{own own':Nat->Nat}{hd tl:Hd}{i j:Nat}
theorem Hd.In.ok (W:hd.In c own) (c0:0<c) (c8:c<=8) (ht:tot c own<64):hd.Ok c where
 len:=W.len
 row:=W.row
 small:=c8
 pos:=c0
 kk:=fun kv h=>by
  obtain⟨a,b,h1,_,_,e⟩:=W.kk kv h;exact⟨a,b,e,by omega,by omega⟩
 kn:=W.kn
 kl:=by
  have:=mM W.kn (m:=univ c own) fun x hx=>by
   obtain⟨kv,h1,rfl⟩:=ax.mp hx;exact(W.kk kv h1).univ
  rw[rW,ar] at this;omega
 tk:=fun kv h=>by
  obtain⟨a,b,h1,_,_,e,x,v,e2⟩:=W.tk kv h;exact⟨a,b,by omega,by omega,e,x,v,e2⟩
 tn:=W.tn
 tl:=by
  have:=mM W.tn (m:=univ c own) fun x hx=>by
   obtain⟨kv,h1,rfl⟩:=ax.mp hx;obtain⟨a,b,h2,h3,h4,e,_⟩:=W.tk kv h1;exact KeyIn.univ ⟨a,b,h2,h3,h4,e⟩
  rw[rW,ar] at this;omega
theorem Hd.In.mono (W:hd.In c own) (le:∀ a,own a<=own' a):hd.In c own' where
 len:=W.len
 row:=W.row
 kb:=fun xs hx a ha=>⟨(W.kb xs hx a ha).1,Int.le_trans (W.kb xs hx a ha).2 (by have:=le a;omega)⟩
 kk:=fun kv h=>(W.kk kv h).mono le
 kn:=W.kn
 kv:=fun kv h=>by
  obtain⟨ks,e,hl,h2⟩:=W.kv kv h;exact⟨ks,e,hl,fun q hq=>(h2 q hq).mono le⟩
 tk:=fun kv h=>by
  obtain⟨a,b,h1,h2,h3,r⟩:=W.tk kv h;exact⟨a,b,h1,h2,ce h3 (le a),r⟩
 tn:=W.tn
theorem kF {p:List Key×D} (h:p∈putD kvs k v):p=(k,v)∨p∈kvs:=by
 unfold putD at h;split at h
 ·obtain⟨q,h1,h2⟩:=ax.mp h
  by_cases hq:q.1=k
  ·rw[if_pos hq] at h2;exact .inl (by rw[<- h2,hq])
  ·rw[if_neg hq] at h2;exact .inr (h2 ▸ h1)
 ·rcases cz.mp h with z|z
  ·exact .inr z
  ·exact .inl (by simpa using z)
theorem iS {k:List Key} (h:(kvs.map (·.1)).Nodup):((putD kvs k v).map (·.1)).Nodup:=by
 unfold putD;split
 ·rw[jc];rw[show kvs.map ((·.1)∘fun kv=>if kv.1=k then(kv.1,v) else kv)=kvs.map (·.1) from f7 fun kv _=>by
   show(if kv.1=k then(kv.1,v) else kv).1=kv.1
   split <;> rfl]
  exact h
 ·rename_i hn
  rw[cx,jm];refine⟨h,by simp,fun a ha b hb z=>hn ?_⟩;rw[nq];obtain⟨p,h1,h2⟩:=ax.mp ha;refine⟨p,h1,decide_eq_true ?_⟩;have hb':b=k:=by simpa using hb
  rw[h2,z,hb']
theorem Ep (kvs:List (List Key×D)) (k:List Key):(dP kvs k).Sublist kvs:=j8
theorem oQ:∀(ks:List (List Key)) (kvs:List (List Key×D)),(ks.foldl dP kvs).Sublist kvs
 |[],kvs=>List.Sublist.refl _
 |k::ks,kvs=>(oQ ks (dP kvs k)).trans (Ep kvs k)
theorem mZ:∀ {out:List D}{T:List (List Key×D)},(T.map (·.1)).Nodup->((nD out T).map (·.1)).Nodup
 |[],T,h=>h
 |d::out,T,h=>mZ (out:=out) (iS h)
theorem nB:∀ {out:List D}{T:List (List Key×D)}{p:List Key×D},p∈nD out T->p∈T∨∃ d∈out,p=(aU d,d)
 |[],T,p,h=>.inl h
 |d::out,T,p,h=>by
  rcases nB (out:=out) (T:=putD T (aU d) d) h with z|⟨d',h1,h2⟩
  ·rcases kF z with z|z
   ·exact .inr ⟨d,au,z⟩
   ·exact .inl z
  ·exact .inr ⟨d',ai _ h1,h2⟩
theorem lQ:∀ {ms kvs:List (List Key×D)},(kvs.map (·.1)).Nodup->((nU kvs ms).map (·.1)).Nodup
 |[],kvs,h=>h
 |d::ms,kvs,h=>lQ (ms:=ms) (kvs:=putD kvs d.1 d.2) (iS h)
theorem lI:∀ {ms kvs:List (List Key×D)}{p:List Key×D},p∈nU kvs ms->p∈kvs∨p∈ms
 |[],kvs,p,h=>.inl h
 |d::ms,kvs,p,h=>by
  rcases lI (ms:=ms) (kvs:=putD kvs d.1 d.2) h with z|z
  ·rcases kF z with z|z
   ·exact .inr (by rw[z];exact au)
   ·exact .inl z
  ·exact .inr (ai _ z)
theorem eQ (xs:List Int) (i a:Nat) (v:Int) (hi:i<xs.length):(xs.set i v).getD a 0=if a=i then v else xs.getD a 0:=by
 rw[aq,aq,List.getElem?_set]
 by_cases h:a=i
 ·subst h;simp[hi]
 ·rw[if_neg (bt h),if_neg h]
theorem uJ {f:Int->Int->Int}{xs ys:List Int}{a:Nat} (h1:a<xs.length) (h2:a<ys.length):(bp f xs ys).getD a 0=f (xs.getD a 0) (ys.getD a 0):=by
 simp[aq,sh,bj h1,bj h2]
theorem HQ {α β γ:Type}{f:α->β->γ}:∀ {xs:List α}{ys:List β}{z:γ},z∈bp f xs ys->∃ x∈xs,∃ y∈ys,z=f x y
 |[],_,_,h=>by simp at h
 |_::_,[],_,h=>by simp at h
 |x::xs,y::ys,z,h=>by
  rw[ij] at h;rcases ah.mp h with h|h
  ·exact⟨x,au,y,au,h⟩
  ·obtain⟨x',h1,y',h2,e⟩:=HQ h;exact⟨x',ai _ h1,y',ai _ h2,e⟩
noncomputable def dB (own:Nat->Nat) (i:Nat):Nat->Nat:=fun a=>if a=i then own a+1 else own a
theorem gN (own:Nat->Nat) (i a:Nat):own a<=dB own i a:=by
 unfold dB;split <;> omega
theorem Hd.In.seenMem (W:hd.In c own) (hi:i<c):hd.seen i∈hd.knows:=by
 unfold Hd.seen
 have:i<hd.knows.length:=by rw[W.len];exact hi
 rw[aq,bj this];exact i7 this
theorem Hd.In.seenLen (W:hd.In c own) (hi:i<c):(hd.seen i).length=c:=W.row _ (W.seenMem hi)
theorem Hd.In.bump (W:hd.In c own) (hi:i<c) (hs:(hd.seen i).getD i 0=own i):(hd.bump i).In c (dB own i):=by
 have W':=W.mono (gN own i);refine⟨?_,?_,?_,W'.kk,W'.kn,W'.kv,W'.tk,W'.tn⟩
 ·show(hd.knows.set i _).length=c
  rw[cg];exact W.len
 ·intro xs hx;rcases ip hx with z|z
  ·exact W.row xs z
  ·rw[z,cg];exact W.seenLen hi
 ·intro xs hx a ha;rcases ip hx with z|z
  ·exact W'.kb xs z a ha
  ·rw[z,eQ _ _ _ _ (by rw[W.seenLen hi];exact hi)]
   by_cases h:a=i
   ·rw[if_pos h,hs,h];unfold dB;rw[if_pos rfl];omega
   ·rw[if_neg h];exact W'.kb _ (W.seenMem hi) a ha
theorem iZ (W:hd.In c own) (hi:i<c) (hs:(hd.seen i).getD i 0=own i):((hd.bump i).seen i).getD i 0=dB own i i:=by
 have:(hd.bump i).seen i=(hd.seen i).set i ((hd.seen i).getD i 0+1):=by
  show(hd.knows.set i _).getD i []=_
  rw[aq,dm (by rw[W.len];exact hi)];rfl
 rw[this,eQ _ _ _ _ (by rw[W.seenLen hi];exact hi),if_pos rfl,hs];unfold dB;rw[if_pos rfl];omega
theorem FW (hs:(hd.seen i).getD i 0=own i):hd.next i=((dB own i i:Nat):Int):=by
 unfold Hd.next dB;rw[hs,if_pos rfl];omega
theorem kK (hi:i<c) (hs:(hd.seen i).getD i 0=own i):KeyIn c (dB own i) (fN i (hd.next i)):=by
 rw[FW hs];refine⟨i,dB own i i,hi,?_,bc _,rfl⟩;unfold dB;rw[if_pos rfl];omega
theorem Hd.In.put (W:hd.In c own) (hi:i<c) (hs:(hd.seen i).getD i 0=own i) (x:Str) (v:Int):(hd.put i x v).In c (dB own i):=by
 have B:=W.bump hi hs;refine⟨B.len,B.row,B.kb,B.kk,B.kn,B.kv,?_,iS W.tn⟩;intro kv hkv;rcases kF hkv with z|z
 ·obtain⟨a,b,h1,h2,h3,e⟩:=kK hi hs;have hab:(i:Int)=a/\hd.next i=b:=by
   unfold fN at e;simp at e;omega
  refine⟨a,b,h1,h2,h3,by rw[z];exact e,x,v,?_⟩;rw[z];show D.tup [.str x,mkD i (hd.next i),.int v]=D.tup [.str x,mkD a b,.int v];unfold mkD;rw[hab.1,hab.2]
 ·exact B.tk kv z
theorem Hd.In.takeOut0 (W:hd.In c own) {mk:List Key} (hm:KeyIn c own mk) (hl:ks.length<64) (hk:∀ q∈ks,KeyIn c own q):(hd.takeOut0 mk ks).In c own:=by
 refine⟨W.len,W.row,W.kb,?_,?_,?_,fun kv h=>W.tk kv ((oQ ks hd.table).subset h),?_⟩
 ·intro kv h
  change kv∈(if ks=[] then hd.kept else _) at h
  split at h
  ·exact W.kk kv h
  ·rcases kF h with z|z
   ·rw[z];exact hm
   ·exact W.kk kv z
 ·show((if ks=[] then hd.kept else _).map (·.1)).Nodup
  split
  ·exact W.kn
  ·exact iS W.kn
 ·intro kv h
  change kv∈(if ks=[] then hd.kept else _) at h
  split at h
  ·exact W.kv kv h
  ·rcases kF h with z|z
   ·rw[z];exact⟨ks,rfl,hl,hk⟩
   ·exact W.kv kv z
 ·exact W.tn.sublist ((oQ ks hd.table).map _)
theorem Hd.In.forget (W:hd.In c own):hd.forget.In c own:=
 ⟨W.len,W.row,W.kb,fun kv h=>W.kk kv (b4.mp h).1,W.kn.sublist (j8.map _),fun kv h=>W.kv kv (b4.mp h).1,W.tk,W.tn⟩
theorem Hd.In.hear0 (W:hd.In c own) (V:tl.In c own) (Wo:hd.Ok c) (Vo:tl.Ok c) (hi:i<c) (hj:j<c):(hd.hear0 i tl j).In c own:=by
 have joinB:∀ xs ys:List Int,xs.length=c->ys.length=c->(∀ a,a<c->0<=xs.getD a 0/\xs.getD a 0<=own a)->(∀ a,a<c->0<=ys.getD a 0/\ys.getD a 0<=own a)->(bp mx xs ys).length=c/\∀ a,a<c->0<=(bp mx xs ys).getD a 0/\(bp mx xs ys).getD a 0<=own a:=by
  intro xs ys h1 h2 h3 h4;refine⟨by rw[fe,h1,h2,iu],fun a ha=> ?_⟩;rw[uJ (by omega) (by omega)];unfold mx;split
  ·exact h4 a ha
  ·exact h3 a ha
 have rowsB:∀ zs∈(hd.hear0 i tl j).knows,zs.length=c/\∀ a,a<c->0<=zs.getD a 0/\zs.getD a 0<=own a:=by
  intro zs hz;rcases ip hz with z|z
  ·obtain⟨x,hx,y,hy,rfl⟩:=HQ z;exact joinB x y (W.row x hx) (V.row y hy) (W.kb x hx) (V.kb y hy)
  ·rw[z];exact joinB _ _ (W.seenLen hi) (V.seenLen hj) (W.kb _ (W.seenMem hi)) (V.kb _ (V.seenMem hj))
 have entT:∀ {hd:Hd},hd.In c own->hd.Ok c->∀ d∈hd.ents,∃ a b:Nat,a<c/\1<=b/\b<=own a/\aU d=fN a b/\∃(x:Str) (v:Int),d=.tup [.str x,mkD a b,.int v]:=by
  intro hd W Wo d hd';obtain⟨kv,h1,rfl⟩:=ax.mp (Wo.ents.2.mem_iff.mp hd');obtain⟨a,b,h2,h3,h4,e,x,v,e2⟩:=W.tk kv h1;exact⟨a,b,h2,h3,h4,by rw[e2];rfl,x,v,e2⟩
 refine⟨?_,fun xs hx=>(rowsB xs hx).1,fun xs hx=>(rowsB xs hx).2,?_,lQ W.kn,?_,?_,mZ (by simp)⟩
 ·show((bp (bp mx) hd.knows tl.knows).set i _).length=c
  rw[cg,fe,W.len,V.len,iu]
 ·intro kv h;rcases lI h with z|z
  ·exact W.kk kv z
  ·exact V.kk kv z
 ·intro kv h;rcases lI h with z|z
  ·exact W.kv kv z
  ·exact V.kv kv z
 ·intro kv h;rcases nB h with z|⟨d,hd',rfl⟩
  ·simp at z
  ·rcases cz.mp hd' with z|z
   ·exact entT W Wo d (b4.mp z).1
   ·exact entT V Vo d (b4.mp z).1
theorem Au (W:hd.In c own) (V:tl.In c own) (hi:i<c) (hj:j<c) (hs:(hd.seen i).getD i 0=own i):((hd.hear i tl j).seen i).getD i 0=own i:=by
 have:(hd.hear i tl j).seen i=bp mx (hd.seen i) (tl.seen j):=by
  show((bp (bp mx) hd.knows tl.knows).set i _).getD i []=_
  rw[aq,dm (by rw[fe,W.len,V.len,iu];exact hi)];rfl
 rw[this,uJ (by rw[W.seenLen hi];exact hi) (by rw[V.seenLen hj];exact hi),hs]
 have:=(V.kb _ (V.seenMem hj) i hi).2
 unfold mx;rw[if_neg (by omega)]
theorem Hd.Ok.marksLen (Wo:hd.Ok c) (x:Str):(hd.marksK x).length<64:=by
 unfold Hd.marksK;rw[ar];exact md (du ..) Wo.entsLen
theorem Hd.In.marks (W:hd.In c own) (Wo:hd.Ok c) (x:Str):∀ q∈hd.marksK x,KeyIn c own q:=fun q hq=>by
 obtain⟨kv,h1,rfl⟩:=ax.mp (Wo.marksIn x q hq);obtain⟨a,b,h2,h3,h4,e,_⟩:=W.tk kv h1;exact⟨a,b,h2,h3,h4,e⟩
end
theorem oA:∀ {U:List (List Key)},eI U=true->(∀ k∈U,∃ a,eM k=we a)/\∀ k∈U,∀ k'∈U,eM k=eM k'->k=k'
 |[],_=>⟨fun k h=>by simp at h,fun k h=>by simp at h⟩
 |k::r,h=>by
  have h':((eM k).isSome&&r.all (fun k'=>match eM k,eM k' with
   |some a,we b=>decide (a≠b)
   |_,_=>false)&&eI r)=true:=h
  rw[bq,bq] at h';obtain⟨⟨h0,ha⟩,hr⟩:=h';obtain⟨i1,i2⟩:=oA hr;have main:∀ y∈r,eM k=eM y->False:=fun y hy e=>by
   have:=fz.mp ha y hy
   split at this
   ·rename_i a b e1 e2
    rw[e1,e2] at e;cases e;simp at this
   ·cases this
  refine⟨fun q hq=> ?_,fun q hq q' hq' e=> ?_⟩
  ·rcases ah.mp hq with rfl|hq
   ·exact l8.mp h0
   ·exact i1 q hq
  ·rcases ah.mp hq with z|hq1
   ·rcases ah.mp hq' with z'|hq2
    ·rw[z,z']
    ·rw[z] at e;exact(main q' hq2 e).elim
   ·rcases ah.mp hq' with z'|hq2
    ·rw[z'] at e;exact(main q hq1 e.symm).elim
    ·exact i2 q hq1 q' hq2 e
theorem lR (hU:eI U=true):∀ {ks:List (List Key)},(∀ k∈ks,k∈U)->ks.Nodup->eI ks=true
 |[],_,_=>rfl
 |k::r,hs,nd=>by
  rw[b3] at nd;obtain⟨s1,s2⟩:=oA hU;have hk:=hs k au;obtain⟨a,ea⟩:=s1 k hk
  show((eM k).isSome&&r.all (fun k'=>match eM k,eM k' with
   |some a,we b=>decide (a≠b)
   |_,_=>false)&&eI r)=true
  rw[bq,bq];refine⟨⟨by rw[ea];rfl,?_⟩,lR hU (fun q hq=>hs q (ai _ hq)) nd.2⟩;rw[fz];intro k' hk';obtain⟨b,eb⟩:=s1 k' (hs k' (ai _ hk'));rw[ea,eb];show decide (a≠b)=true;refine decide_eq_true fun z=>nd.1 ?_;rw[s2 k hk k' (hs k' (ai _ hk')) (by rw[ea,eb,z])];exact hk'
theorem xM (h:ω[n]?=we (.ml ds)):kZ n ds ω=true:=by
 unfold kZ;rw[h];exact sameDs_refl _
section
variable {ω:Om}{h k t e:Nat}{i c:Nat}{hd:Hd}{rs fp:List Nat}{own:Nat->Nat}
end
noncomputable def Hd0 (c:Nat):Hd:=⟨ao c (ao c 0),[],[]⟩
theorem AC:∀ c:Nat,(ao c [D.int 0]).flatten=iv (ao c 0)
 |0=>rfl
 |c+1=>by
  rw[eu,iy,AC c];rfl
theorem yE {c:Nat} (c8:c<=8):∀(ds:List D) (u:Option D) (ω:Om),compLO (bG 0) cM (oPT mT) (o2 xZ (oL (fun ω ds=>pu (eR ds) ω) (aC (oP (dC (.int 0))) aQ)) (oP (aD 1))) ds [u,we (.int c)] ω=we ((cw ω.length ds.length).map D.obj,ω++ao ds.length (.ml (iv (ao c 0))))
 |[],u,ω=>by
  show we ([],ω)=_;simp
 |d::ds,u,ω=>by
  have ih:=yE c8 ds (we d) (ω++[.ml (iv (ao c 0))]);have b1:o2 xZ (oL (fun ω ds=>pu (eR ds) ω) (aC (oP (dC (.int 0))) aQ)) (oP (aD 1)) [we d,we (.int c)] ω=we (.ok (.obj ω.length),ω++[.ml (iv (ao c 0))]):=by
   refine eP (ω1:=ω) (ω2:=ω) (a:=.lst [.int 0]) (b:=.int c) (dF (aA aR aE) ?_) (aB rfl) ?_
   ·show pu (eR [.int 0]) ω=_;unfold eR;rw[if_pos (by rw[bw];simp)];rfl
   ·show(if -1000000<=(c:Int)/\(c:Int)<=1000000/\1*(c:Int).toNat<=sizeLine then we (D.obj ω.length,ω++[.ml (ao (c:Int).toNat [D.int 0]).flatten]) else wf)=_
    rw[if_pos ⟨by omega,by omega,by rw[bw];omega⟩,c5,AC]
  refine(pE rfl rfl (b1)).trans ?_;rw[ih,bv,j4,bg,eu,b0];show we (_,_)=_;rw[ff];rfl
theorem Gy {c:Nat} (c8:c<=1000):jA [.int (c:Int)]=we (pT 0 c):=by
 show(if -1000000000<=(c:Int)/\(c:Int)<=1000000000 then we (pT 0 (c:Int).toNat) else wf)=_
 rw[if_pos ⟨by omega,by omega⟩,c5]
theorem lN (e:f ρ ω=we (.ok (.int c),ω1)) (c8:c<=1000):oIA jA (aC f aQ) ρ ω=we (.ok (pT 0 c,cM),ω1):=by
 unfold oIA;rw[bH (aA e aE)];show oR (pu ((jA [.int (c:Int)]).map _) ω1)=_;rw[Gy c8];rfl
theorem DK {i c:Nat} (c8:c<=8):∃ ω' fp,dJ [.obj ω.length,.int i,.int c] (ω++[.ins 0 []])=we (.ok .non,ω')/\HandS ω' ω.length i (Hd0 c) fp/\Keep [] ω ω'/\∀ n∈fp,ω.length<=n:=by
 obtain⟨ω1,hω1⟩:∃ ω1,ω1=(ω++[Ob.ins 0 []]).set ω.length (.ins 0 [("number",.int i)]):=⟨_,rfl⟩;have g0:(ω++[Ob.ins 0 []])[ω.length]?=we (.ins 0 []):=by simp
 have g1:ω1[ω.length]?=we (.ins 0 [("number",.int i)]):=by rw[hω1];exact bT g0
 have l1:ω1.length=ω.length+1:=by rw[hω1];simp
 have k1:∀ n,n<ω.length->ω1[n]?=ω[n]?:=fun n hn=>by rw[hω1,aH (by omega),aj hn]
 have fill:=yE c8 (pT 0 c) wf ω1;rw[fK] at fill;obtain⟨ω2,hω2⟩:∃ ω2,ω2=ω1++ao c (Ob.ml (iv (ao c 0))):=⟨_,rfl⟩;rw[<- hω2] at fill;have l2:ω2.length=ω.length+1+c:=by rw[hω2];simp[l1]
 obtain⟨ω3,hω3⟩:∃ ω3,ω3=ω2++[Ob.ml ((cw ω1.length c).map D.obj)]:=⟨_,rfl⟩;have l3:ω3.length=ω.length+2+c:=by rw[hω3];simp[l2];omega
 have k3:∀ n,n<ω.length+1->ω3[n]?=ω1[n]?:=fun n hn=>by rw[hω3,aj (by omega),hω2,aj (by omega)]
 have g3:ω3[ω.length]?=we (.ins 0 [("number",.int i)]):=by rw[k3 _ (by omega)];exact g1
 have r3:RowsAt ω3 (cw ω1.length c) (ao c (ao c 0)):=by
  have:=lG (ao c (ao c 0)) ω1 [Ob.ml ((cw ω1.length c).map D.obj)]
  rw[List.map_replicate,jf,<- hω2,<- hω3] at this;exact this
 have kk3:ω3[ω2.length]?=we (.ml ((cw ω1.length c).map D.obj)):=by rw[hω3];simp
 obtain⟨ω4,hω4⟩:∃ ω4,ω4=ω3.set ω.length (.ins 0 [("number",.int i),("knows",.obj ω2.length)]):=⟨_,rfl⟩;have l4:ω4.length=ω.length+2+c:=by rw[hω4];simp[l3]
 have g4:ω4[ω.length]?=we (.ins 0 [("number",.int i),("knows",.obj ω2.length)]):=by rw[hω4];exact bT g3
 obtain⟨ω5,hω5⟩:∃ ω5,ω5=(ω4++[Ob.dt []]).set ω.length (.ins 0 [("number",.int i),("knows",.obj ω2.length),("table",.obj ω4.length)]):=⟨_,rfl⟩;have g4':(ω4++[Ob.dt []])[ω.length]?=we (.ins 0 [("number",.int i),("knows",.obj ω2.length)]):=by rw[aj (by omega)];exact g4
 have l5:ω5.length=ω.length+3+c:=by rw[hω5];simp[l4];omega
 have g5:ω5[ω.length]?=we (.ins 0 [("number",.int i),("knows",.obj ω2.length),("table",.obj ω4.length)]):=by rw[hω5];exact bT g4'
 have t5:ω5[ω4.length]?=we (.dt []):=by rw[hω5,aH (by omega)];simp
 obtain⟨ω6,hω6⟩:∃ ω6,ω6=(ω5++[Ob.dt []]).set ω.length (.ins 0 [("number",.int i),("knows",.obj ω2.length),("table",.obj ω4.length),("kept",.obj ω5.length)]):=⟨_,rfl⟩;have g5':(ω5++[Ob.dt []])[ω.length]?=we (.ins 0 [("number",.int i),("knows",.obj ω2.length),("table",.obj ω4.length)]):=by rw[aj (by omega)];exact g5
 have l6:ω6.length=ω.length+4+c:=by rw[hω6];simp[l5];omega
 have g6:∀ n,n<ω.length+2+c->n≠ω.length->ω6[n]?=ω3[n]?:=fun n hn hne=>by
  rw[hω6,aH hne,aj (by omega),hω5,aH hne,aj (by omega),hω4,aH hne]
 have rin:∀ q∈cw ω1.length c,ω.length+1<=q/\q<ω.length+1+c:=fun q hq=>by
  rw[mv,l1] at hq;exact hq
 refine⟨ω6,ω.length::ω2.length::ω4.length::ω5.length::cw ω1.length c,?_,⟨ω2.length,ω4.length,ω5.length,cw ω1.length c,⟨?_,?_,?_,?_,?_,?_⟩,rfl⟩,⟨by omega,fun n hn _=> ?_⟩,fun n hn=> ?_⟩
 ·refine sB (ρ1:=[we (.obj ω.length),we (.int i),we (.int c)]) rfl ?_;unfold kQ;rw[bB (jL (aB (d:=.int i) rfl) (aB (d:=.obj ω.length) rfl) g0 (by simp))];rw[show(ω++[Ob.ins 0 []]).set ω.length (.ins 0 (kE "number" (.int i) []))=ω1 from by rw[hω1];rfl];rw[bB (jL (nQ (ω2:=ω2) (lN (c:=c) (aB rfl) (by omega)) (by rw[fK,bw];omega) fill) (by rw[<- hω3];exact aB (d:=.obj ω.length) rfl) g3 (by simp))];rw[show ω3.set ω.length (.ins 0 (kE "knows" (.obj ω2.length) [("number",.int i)]))=ω4 from by rw[hω4];rfl];rw[bB (jL (v:=.obj ω4.length) (ω1:=ω4++[.dt []]) rfl (aB (d:=.obj ω.length) rfl) g4' (by simp))];rw[show(ω4++[Ob.dt []]).set ω.length (.ins 0 (kE "table" (.obj ω4.length) [("number",.int i),("knows",.obj ω2.length)]))=ω5 from by rw[hω5];rfl];rw[jL (v:=.obj ω5.length) (ω1:=ω5++[.dt []]) rfl (aB (d:=.obj ω.length) rfl) g5' (by simp)];rw[show(ω5++[Ob.dt []]).set ω.length (.ins 0 (kE "kept" (.obj ω5.length) [("number",.int i),("knows",.obj ω2.length),("table",.obj ω4.length)]))=ω6 from by rw[hω6];rfl];rfl
 ·rw[hω6];exact bT g5'
 ·rw[g6 _ (by omega) (by omega)];exact kk3
 ·exact r3.mono fun q hq=>by have:=rin q hq;exact g6 q (by omega) (by omega)
 ·rw[hω6,aH (by omega),aj (by omega)];exact t5
 ·rw[hω6,aH (by omega)];simp[Hd0]
 ·simp only[b3,ah,not_or];refine⟨⟨by omega,by omega,by omega,fun z=>by have:=rin _ z;omega⟩,⟨by omega,by omega,fun z=>by have:=rin _ z;omega⟩,⟨by omega,fun z=>by have:=rin _ z;omega⟩,fun z=>by have:=rin _ z;omega,uz⟩
 ·rw[g6 n (by omega) (by omega),k3 n (by omega)];exact k1 n hn
 ·simp only[ah] at hn;rcases hn with z|z|z|z|z
  ·omega
  ·omega
  ·omega
  ·omega
  ·have:=rin n z;omega
theorem Dn (e1:fl ρ ω=we (.ok ds,ω1)) (e2:φ (.obj ω1.length::ds) (ω1++[.ins cl []])=we (.ok .non,ω2)):sL cl φ fl ρ ω=we (.ok (.obj ω1.length),ω2):=by
 unfold sL;rw[bH e1]
 show(match φ (.obj ω1.length::ds) (ω1++[.ins cl []]) with
  |some (.ok .non,ω')=>we (Rz.ok (D.obj ω1.length),ω')
  |some (.ex c,ω')=>we (.ex c,ω')
  |_=>wf)=_
 rw[e2]
theorem fQ (s:Int) (m:Nat):pT s (m+1)=.int s::pT (s+1) m:=by
 unfold pT;rw[rm,bg,jc]
 congr 1
 ·simp
 ·apply f7;intro k _;show D.int (s+((k+1:Nat):Int))=D.int (s+1+(k:Int))
  congr 1
  omega
theorem Aw {c:Nat} (c8:c<=8):∀(m s:Nat) (u:Option D) (ω:Om),∃(ω':Om) (hs:Nat->Nat) (fp:Nat->List Nat),compLO (bG 0) cM (oPT mT) (sL 0 dJ (aC (oP (aD 0)) (aC (oP (aD 1)) aQ))) (pT s m) [u,we (.int c)] ω=we ((cw s m).map fun i=>D.obj (hs i),ω')/\
  (∀ i,s<=i->i<s+m->HandS ω' (hs i) i (Hd0 c) (fp i))/\(∀ i,s<=i->i<s+m->∀ n∈fp i,ω.length<=n)/\(∀ i,s<=i->i<s+m->∀ j,s<=j->j<s+m->i≠j->∀ n∈fp i,n∉fp j)/\Keep [] ω ω'
 |0,s,u,ω=>⟨ω,fun _=>0,fun _=>[],rfl,fun i h1 h2=>by omega,fun i h1 h2=>by omega,fun i h1 h2=>by omega,Keep.refl _ _⟩
 |m+1,s,u,ω=>by
  obtain⟨ω1,fp0,e1,H1,K1,F1⟩:=DK (ω:=ω) (i:=s) c8;obtain⟨ω2,hs,fp,e2,H2,F2,A2,K2⟩:=Aw c8 m (s+1) (we (.int s)) ω1;have ltH:=H1.lt;refine⟨ω2,fun i=>if i=s then ω.length else hs i,fun i=>if i=s then fp0 else fp i,?_,fun i h1 h2=> ?_,fun i h1 h2 n hn=> ?_,fun i h1 h2 j h3 h4 hne n hn=> ?_,⟨ce K1.1 K2.1,fun n hn _=> ?_⟩⟩
  ·rw[fQ];have mk:sL 0 dJ (aC (oP (aD 0)) (aC (oP (aD 1)) aQ)) [we (.int s),we (.int c)] ω=we (.ok (.obj ω.length),ω1):=Dn (aA (aB rfl) (aA (aB rfl) aE)) e1;refine(pE rfl rfl (mk)).trans ?_
   show(compLO _ _ _ _ (pT ((s+1:Nat):Int) m) _ _).map _=_
   rw[e2,j4,bg];show we (_::_,_)=_
   congr 3
   ·simp
   ·apply f7;intro i hi;rw[mv] at hi;show D.obj (hs i)=D.obj (if i=s then ω.length else hs i);rw[if_neg (by omega)]
  ·by_cases hi:i=s
   ·subst hi;simp only[if_pos];exact H1.mono fun n hn=>K2.2 n (ltH n hn) (by simp)
   ·simp only[if_neg hi];exact H2 i (by omega) (by omega)
  ·by_cases hi:i=s
   ·simp only[if_pos hi] at hn;exact F1 n hn
   ·simp only[if_neg hi] at hn;exact ce K1.1 (F2 i (by omega) (by omega) n hn)
  ·by_cases hi:i=s
   ·by_cases hj:j=s
    ·exact absurd (hi.trans hj.symm) hne
    ·simp only[if_pos hi] at hn;simp only[if_neg hj];intro z
     have:=F2 j (by omega) (by omega) n z
     have:=ltH n hn
     omega
   ·simp only[if_neg hi] at hn
    by_cases hj:j=s
    ·simp only[if_pos hj];intro z
     have:=F2 i (by omega) (by omega) n hn
     have:=ltH n z
     omega
    ·simp only[if_neg hj];exact A2 i (by omega) (by omega) j (by omega) (by omega) hne n hn
  ·rw[K2.2 n (ca hn K1.1) (by simp)];exact K1.2 n hn (by simp)
structure HallS (B ω:Om) (g c:Nat) (hs:Nat->Nat) (fp:Nat->List Nat) (S:Nat->Hd):Prop where
 obj:ω[g]?=we (.ins 1 [("hands",.lst ((bu c).map fun i=>.obj (hs i)))])
 hand:∀ i,i<c->HandS ω (hs i) i (S i) (fp i)
 apart:∀ i,i<c->∀ j,j<c->i≠j->∀ n∈fp i,n∉fp j
 out:∀ i,i<c->g∉fp i
 low:∀ i,i<c->∀ n∈fp i,B.length<=n
 bas:B.length<=ω.length/\∀ n,n<B.length->ω[n]?=B[n]?
theorem DR (c8:c<=8) (e:fl ρ ω=we (.ok [.int c],ω)):∃ ω' hs fp,sL 1 gC fl ρ ω=we (.ok (.obj ω.length),ω')/\HallS ω ω' ω.length c hs fp (fun _=>Hd0 c):=by
 obtain⟨ω1,hs,fp,e1,H1,F1,A1,K1⟩:=Aw c8 c 0 wf (ω++[Ob.ins 1 []]);have g0:(ω++[Ob.ins 1 []])[ω.length]?=we (.ins 1 []):=by simp
 have g1:ω1[ω.length]?=we (.ins 1 []):=(K1.2 _ (by simp) (by simp)).trans g0;have l1:=K1.1;rw[b0] at l1;have hl:[Ob.ins 1 []].length=1:=rfl;have f1:∀ i,i<c->∀ n∈fp i,n≠ω.length:=fun i hi n hn z=>by
  have:=F1 i (by omega) (by omega) n hn
  rw[b0] at this;omega
 refine⟨ω1.set ω.length (.ins 1 [("hands",.lst ((bu c).map fun i=>.obj (hs i)))]),hs,fp,Dn e ?_,⟨bT g1,fun i hi=> ?_,fun i hi j hj=>A1 i (by omega) (by omega) j (by omega) (by omega),fun i hi z=>f1 i hi _ z rfl,fun i hi n hn=> ?_,⟨by simp;omega,fun n hn=> ?_⟩⟩⟩
 ·refine sB (ρ1:=[we (.obj ω.length),we (.int c)]) rfl ?_;unfold kS;rw[jL (iB (ω2:=ω1) (lN (c:=c) (aB rfl) (by omega)) (by rw[fK,bw];omega) e1) (aB (d:=.obj ω.length) rfl) g1 (by simp)];rw[<- tj];rfl
 ·exact(H1 i (by omega) (by omega)).mono fun n hn=>aH (f1 i hi n hn)
 ·have:=F1 i (by omega) (by omega) n hn
  rw[b0] at this;omega
 ·rw[aH (by omega),K1.2 n (by simp;omega) (by simp),aj hn]
noncomputable def Kv:List (List Key)->Nat->Bool
 |[],_=>true
 |k::r,acc=>match eM k with
  |some h=> !(acc.testBit (h % 4096).toNat)&&Kv r (acc|||(1<<<(h % 4096).toNat))
  |none=>false
theorem Ie (acc i j:Nat):(acc|||(1<<<i)).testBit j=(acc.testBit j||decide (j=i)):=by
 rw[Nat.testBit_or,Nat.testBit_shiftLeft]
 congr 1
 by_cases h:j=i
 ·subst h;simp
 ·rw[decide_eq_false h]
  by_cases h2:j≥i
  ·have:j-i≠0:=by omega
   obtain⟨n,hn⟩:∃ n,j-i=n+1:=⟨j-i-1,by omega⟩;rw[hn,Nat.testBit_succ];simp
  ·simp[h2]
theorem wI:∀ {l:List (List Key)}{acc:Nat},Kv l acc=true->∀ k∈l,∃ h,eM k=we h/\acc.testBit (h % 4096).toNat=false
 |[],_,_,k,hk=>by simp at hk
 |k::r,acc,h,q,hq=>by
  unfold Kv at h;cases hh:eM k with
  |none=>rw[hh] at h;cases h
  |some a=>
   rw[hh] at h;have h':(!(acc.testBit (a % 4096).toNat)&&Kv r (acc|||(1<<<(a % 4096).toNat)))=true:=h;rw[bq] at h';rcases ah.mp hq with rfl|hq
   ·exact⟨a,hh,by simpa using h'.1⟩
   ·obtain⟨b,e1,e2⟩:=wI h'.2 q hq;rw[Ie,Bool.or_eq_false_iff] at e2;exact⟨b,e1,e2.1⟩
theorem EC:∀ {l:List (List Key)}{acc:Nat},Kv l acc=true->eI l=true
 |[],_,_=>rfl
 |k::r,acc,h=>by
  unfold Kv at h;cases hh:eM k with
  |none=>rw[hh] at h;cases h
  |some a=>
   rw[hh] at h;have h':(!(acc.testBit (a % 4096).toNat)&&Kv r (acc|||(1<<<(a % 4096).toNat)))=true:=h;rw[bq] at h'
   show((eM k).isSome&&r.all (fun k'=>match eM k,eM k' with
    |some a,we b=>decide (a≠b)
    |_,_=>false)&&eI r)=true
   rw[bq,bq];refine⟨⟨by rw[hh];rfl,?_⟩,EC h'.2⟩;rw[fz];intro k' hk';obtain⟨b,e1,e2⟩:=wI h'.2 k' hk';rw[hh,e1];refine decide_eq_true fun z=> ?_;rw[Ie,<- z] at e2;simp at e2
theorem DI:eI (univ 8 fun _=>63)=true:=EC (acc:=0) (by decide+kernel)
noncomputable def lM (S:Nat->Hd) (i:Nat) (hd:Hd):Nat->Hd:=fun j=>if j=i then hd else S j
theorem gX:lM S i hd i=hd:=if_pos rfl
theorem gW (h:j≠i):lM S i hd j=S j:=if_neg h
inductive Deed where
 |put (a:Int) (x:Str) (v:Int)
 |change (a:Int) (x:Str) (v:Int)
 |take (a:Int) (x:Str)
 |tell (a b:Int)
 |meet (a b:Int)
noncomputable def Deed.d:Deed->D
 |.put a x v=>.tup [.str "put",.int a,.str x,.int v]
 |.change a x v=>.tup [.str "change",.int a,.str x,.int v]
 |.take a x=>.tup [.str "take",.int a,.str x]
 |.tell a b=>.tup [.str "tell",.int a,.int b]
 |.meet a b=>.tup [.str "meet",.int a,.int b]
noncomputable def gY (S:Nat->Hd) (a b:Nat):Nat->Hd:=lM S b ((S b).hear b (S a) a)
noncomputable def jK (S:Nat->Hd) (a b:Nat):Int:=KG ((S b).seen b) ((S a).seen a)
noncomputable def Gc (S:Nat->Hd) (a b:Nat):Nat->Hd:=gY (gY (gY S a b) b a) a b
noncomputable def step (c:Nat) (S:Nat->Hd):Deed->D×(Nat->Hd)
 |.put a x v=>if 0<=a/\a<c then(mkD a.toNat ((S a.toNat).next a.toNat),lM S a.toNat ((S a.toNat).put a.toNat x v)) else(.str "no hand",S)
 |.change a x v=>if 0<=a/\a<c then(mkD a.toNat ((S a.toNat).next a.toNat),lM S a.toNat ((S a.toNat).change a.toNat x v)) else(.str "no hand",S)
 |.take a x=>if 0<=a/\a<c then((S a.toNat).takeA x,lM S a.toNat ((S a.toNat).take a.toNat x)) else(.str "no hand",S)
 |.tell a b=>if(0<=a/\a<c)/\(0<=b/\b<c) then(if a=b then(.str "same hand",S) else(.int (jK S a.toNat b.toNat),gY S a.toNat b.toNat)) else(.str "no hand",S)
 |.meet a b=>if(0<=a/\a<c)/\(0<=b/\b<c) then(if a=b then(.str "same hand",S) else(.tup [.int (jK (gY S a.toNat b.toNat) b.toNat a.toNat),.int (jK S a.toNat b.toNat)],Gc S a.toNat b.toNat)) else(.str "no hand",S)
noncomputable def HInv (c:Nat) (own:Nat->Nat) (S:Nat->Hd):Prop:=∀ a,a<c->(S a).In c own/\((S a).seen a).getD a 0=own a
theorem iR (own:Nat->Nat) (i:Nat):∀ c,tot c (dB own i)=tot c own+if i<c then 1 else 0
 |0=>rfl
 |c+1=>by
  have ih:=iR own i c;unfold tot at ih ⊢;rw[ox,cx,cx,oy,oy,ih];simp only[bg,kq,t4,List.sum_nil];unfold dB
  by_cases h1:i<c
  ·rw[if_pos h1,if_neg (by omega),if_pos (by omega)];omega
  ·rw[if_neg h1]
   by_cases h2:c=i
   ·rw[if_pos h2,if_pos (by omega)];omega
   ·rw[if_neg h2,if_neg (by omega)];omega
theorem HK (own:Nat->Nat) (a:Nat):∀ c,a<c->own a<=tot c own
 |0,h=>by omega
 |c+1,h=>by
  have ih:=HK own a c;unfold tot at ih ⊢;rw[ox,cx,oy];simp only[bg,kq,t4,List.sum_nil]
  by_cases h1:a<c
  ·have:=ih h1;omega
  ·have:a=c:=by omega
   subst this;omega
section
variable {B:Om}{c g i j:Nat}{own:Nat->Nat}{S:Nat->Hd}{ω ω':Om}{hs:Nat->Nat}{fp:Nat->List Nat}{hd':Hd}
theorem HInv.upd (I:HInv c own S) (W:hd'.In c own) (e:(hd'.seen i).getD i 0=own i):HInv c own (lM S i hd'):=fun a ha=>by
 by_cases h:a=i
 ·subst h;rw[gX];exact⟨W,e⟩
 ·rw[gW h];exact I a ha
theorem HInv.updB (I:HInv c own S) (W:hd'.In c (dB own i)) (e:(hd'.seen i).getD i 0=dB own i i):HInv c (dB own i) (lM S i hd'):=fun a ha=>by
 by_cases h:a=i
 ·subst h;rw[gX];exact⟨W,e⟩
 ·rw[gW h];refine⟨(I a ha).1.mono (gN own i),?_⟩;rw[(I a ha).2];unfold dB;rw[if_neg h]
theorem HallS.did (L:HallS B ω g c hs fp S) (hi:i<c) (D:Did ω (hs i) i (fp i) ω' hd'):∃ fp',HallS B ω' g c hs fp' (lM S i hd'):=by
 obtain⟨fi,H',K,F⟩:=D;refine⟨fun j=>if j=i then fi else fp j,⟨?_,fun j hj=> ?_,fun a ha b hb hne n hn=> ?_,fun j hj=> ?_,fun j hj n hn=> ?_,⟨ce L.bas.1 K.1,fun n hn=> ?_⟩⟩⟩
 ·rw[K.2 g (dO L.obj) (L.out i hi)];exact L.obj
 ·by_cases h:j=i
  ·subst h;rw[gX];simp only[if_pos];exact H'
  ·rw[gW h];simp only[if_neg h];exact(L.hand j hj).mono fun n hn=>K.2 n ((L.hand j hj).lt n hn) fun z=>L.apart j hj i hi h n hn z
 ·by_cases h1:a=i
  ·simp only[if_pos h1] at hn
   by_cases h2:b=i
   ·exact absurd (h1.trans h2.symm) hne
   ·simp only[if_neg h2];intro z;rcases F n hn with q|q
    ·exact L.apart i hi b hb (fun w=>h2 w.symm) n q z
    ·have:=(L.hand b hb).lt n z
     omega
  ·simp only[if_neg h1] at hn
   by_cases h2:b=i
   ·simp only[if_pos h2];intro z;rcases F n z with q|q
    ·exact L.apart a ha i hi h1 n hn q
    ·have:=(L.hand a ha).lt n hn
     omega
   ·simp only[if_neg h2];exact L.apart a ha b hb hne n hn
 ·by_cases h:j=i
  ·simp only[if_pos h];intro z;rcases F g z with q|q
   ·exact L.out i hi q
   ·have:=dO L.obj
    omega
  ·simp only[if_neg h];exact L.out j hj
 ·by_cases h:j=i
  ·simp only[if_pos h] at hn;rcases F n hn with q|q
   ·exact L.low i hi n q
   ·exact ce L.bas.1 q
  ·simp only[if_neg h] at hn;exact L.low j hj n hn
 ·rw[K.2 n (ca hn L.bas.1) fun z=>absurd hn (s0.mpr (L.low i hi n z))];exact L.bas.2 n hn
end
section
variable {α β:Type}{f h fo:OG D}{fl:OG (List D)}{ρ:Rho}{ω ω1 ω2 ω3:Om}{a b d:D}{ds:List D}{F G:OS}{x:Nat}{r:Rz D}
theorem FS {f:OG α}{g:α->OG β} (e:f ρ ω=we (.ex x,ω1)):oB f g ρ ω=we (.ex x,ω1):=by unfold oB;rw[e]
theorem xL (e:fo ρ ω=we (.ex x,ω1)):bL c m φ fo fl ρ ω=we (.ex x,ω1):=FS e
theorem vG (e:f ρ ω=we (.ex x,ω1)):aC f fl ρ ω=we (.ex x,ω1):=FS e
theorem Dd (e1:f ρ ω=we (.ok a,ω1)) (e2:fl ρ ω1=we (.ex x,ω2)):aC f fl ρ ω=we (.ex x,ω2):=by
 unfold aC;rw[bH e1,FS e2]
theorem MD (e:fl ρ ω=we (.ex x,ω1)):oL g fl ρ ω=we (.ex x,ω1):=FS e
theorem Dc {f:OG α} (e:f ρ ω=we (.ex x,ω1)):oX f g ρ ω=we (.ex x,ω1):=by unfold oX;rw[e]
noncomputable def Iu:Rz D->OOut
 |.ok d=>.rt d
 |.ex c=>.ex c
theorem iA (e:f ρ ω=we (r,ω1)):aX f ρ ω=we (Iu r,ω1):=by
 cases r with
 |ok d=>exact bD e
 |ex c=>exact Dc e
theorem nH (e:F ρ ω=we (Iu r,ω1)):aI F G ρ ω=we (Iu r,ω1):=by
 unfold aI;rw[e];cases r <;> rfl
theorem dI (hl:ds.length=n) (e:G (bV N ds) ω=we (Iu r,ω1)):dY n N G ds ω=we (r,ω1):=by
 unfold dY;rw[if_pos hl,e];cases r <;> rfl
end
section
variable {B:Om}{c g i j:Nat}{own:Nat->Nat}{S:Nat->Hd}{ω ω':Om}{hs:Nat->Nat}{fp:Nat->List Nat}{hd':Hd}
theorem vS (L:HallS B ω g c hs fp S) (ef:f ρ ω=we (.ok (.obj g),ω)):gS 1 "hands" f ρ ω=we (.ok (.lst ((bu c).map fun i=>.obj (hs i))),ω):=fH ef L.obj rfl
theorem kO (L:HallS B ω g c hs fp S) (a:Int):bJ [.obj g,.int a] ω=if 0<=a/\a<c then we (.ok (.obj (hs a.toNat)),ω) else we (.ex 0,ω):=by
 have len:oL fU (aC (gS 1 "hands" (oP (aD 0))) aQ) [we (.obj g),we (.int a)] ω=we (.ok (.int c),ω):=dF (aA (vS L (aB rfl)) aE) (by
  show we (D.int (((bu c).map fun i=>D.obj (hs i)).length:Nat),ω)=_;rw[ar,ib])
 have ch:qM gLe gLt (oP (dC (.int 0))) (oP (aD 1)) (oL fU (aC (gS 1 "hands" (oP (aD 0))) aQ)) [we (.obj g),we (.int a)] ω=we (.ok (decide (0<=a/\a<c)),ω):=by
  unfold qM;rw[bH aR,bH (aB (d:=.int a) rfl)]
  show(match we (decide (0<=a)) with
   |none=>wf
   |some true=>oB _ (fun z _ ω=>oR (pu ((gLt (.int a) z).bind toB) ω)) [we (.obj g),we (.int a)] ω
   |some false=>we (Rz.ok false,ω))=_
  by_cases h0:0<=a
  ·rw[decide_eq_true h0];show oB _ (fun z _ ω=>oR (pu ((gLt (.int a) z).bind toB) ω)) [we (.obj g),we (.int a)] ω=_;rw[bH len];show we (Rz.ok (decide (a<(c:Int))),ω)=_;simp[h0]
  ·rw[decide_eq_false h0];simp[h0]
 have nt:lH (qM gLe gLt (oP (dC (.int 0))) (oP (aD 1)) (oL fU (aC (gS 1 "hands" (oP (aD 0))) aQ))) [we (.obj g),we (.int a)] ω=we (.ok (!decide (0<=a/\a<c)),ω):=by
  unfold lH;rw[bH ch]
 by_cases h:0<=a/\a<c
 ·rw[if_pos h];rw[decide_eq_true h] at nt;refine aT rfl ?_;unfold jV;rw[bB (ρ1:=[we (.obj g),we (.int a)]) (ω1:=ω) (by
   show dR _ _ _ [we (.obj g),we (.int a)] ω=_;rw[lF nt];rfl)]
  refine bD (aK (vS L (aB rfl)) (aB (d:=.int a) rfl) ?_);show atI ((bu c).map fun i=>D.obj (hs i)) a=_;unfold atI ixN;rw[if_pos h.1,if_pos (by rw[ar,ib];exact h.2)]
  show((bu c).map fun i=>D.obj (hs i))[a.toNat]?=_
  rw[bf,g7 (by omega)];rfl
 ·rw[if_neg h];rw[decide_eq_false h] at nt;refine dI (r:=.ex 0) rfl ?_;unfold jV;refine nH (r:=.ex 0) ?_;show dR _ _ _ [we (.obj g),we (.int a)] ω=_;rw[jM nt];rfl
theorem JS (h1:ρ[k]?=we (we (.int a))) (h2:ρ[l]?=we (we (.int b))):cC (o2 (fV 8) (oP (aD k)) (oP (aD l))) ρ ω=we (.ok (decide (a=b)),ω):=cE (eP (aB h1) (aB h2) rfl)
theorem oE (L:HallS B ω g c hs fp S) (a b:Int):bR [.obj g,.int a,.int b] ω=if(0<=a/\a<c)/\(0<=b/\b<c) then(if a=b then we (.ex 1,ω) else we (.ok (.tup [.obj (hs a.toNat),.obj (hs b.toNat)]),ω)) else we (.ex 0,ω):=by
 have ha:=kO L a;have hb:=kO L b;have m1:∀ {r:Rz D}{fa:OG D}{n:Int},bJ [.obj g,.int n] ω=we (r,ω)->fa [we (.obj g),we (.int a),we (.int b),wf] ω=we (.ok (.int n),ω)->bL 1 "hand" bJ (oP (aD 0)) (aC fa aQ) [we (.obj g),we (.int a),we (.int b),wf] ω=we (r,ω):=fun e q=>bS (aB rfl) L.obj rfl (aA q aE) e
 by_cases h1:0<=a/\a<c
 ·rw[if_pos h1] at ha
  by_cases h2:0<=b/\b<c
  ·rw[if_pos h2] at hb;rw[if_pos ⟨h1,h2⟩];have tup:oL (fun ω ds=>pu (fT ds) ω) (aC (bL 1 "hand" bJ (oP (aD 0)) (aC (oP (aD 1)) aQ)) (aC (bL 1 "hand" bJ (oP (aD 0)) (aC (oP (aD 2)) aQ)) aQ)) [we (.obj g),we (.int a),we (.int b),wf] ω=we (.ok (.tup [.obj (hs a.toNat),.obj (hs b.toNat)]),ω):=dF (aA (m1 ha (aB rfl)) (aA (m1 hb (aB rfl)) aE)) (by
    show pu (fT _) ω=_;unfold fT;rw[if_pos (by rw[bw];simp)];rfl)
   by_cases h3:a=b
   ·rw[if_pos h3];refine dI (r:=.ex 1) rfl ?_;unfold fG;refine(aM tup).trans ?_;refine nH (r:=.ex 1) ?_;rw[jM (ω1:=ω) (by rw[JS (a:=a) (b:=b) rfl rfl,decide_eq_true h3])];rfl
   ·rw[if_neg h3];refine aT rfl ?_;unfold fG;refine(aM tup).trans ?_;rw[bB (ρ1:=[we (.obj g),we (.int a),we (.int b),we (.tup [.obj (hs a.toNat),.obj (hs b.toNat)])]) (ω1:=ω) (by
     rw[lF (ω1:=ω) (by rw[JS (a:=a) (b:=b) rfl rfl,decide_eq_false h3])];rfl)]
    exact bD (aB rfl)
  ·rw[if_neg h2] at hb;rw[if_neg (fun z=>h2 z.2)];refine dI (r:=.ex 0) rfl ?_;unfold fG;refine nH (r:=.ex 0) (Dc (MD (Dd (m1 ha (aB rfl)) (vG (m1 hb (aB rfl))))))
 ·rw[if_neg h1] at ha;rw[if_neg (fun z=>h1 z.1)];refine dI (r:=.ex 0) rfl ?_;unfold fG;refine nH (r:=.ex 0) (Dc (MD (vG (m1 ha (aB rfl)))))
end
end L2.MB.Lw
end
section
namespace L2.MB.Lw
open PySem PySem.Spec PyProof.Rows L2.MB
section
variable {B:Om}{c g i j:Nat}{own:Nat->Nat}{S:Nat->Hd}{ω ω':Om}{hs:Nat->Nat}{fp:Nat->List Nat}{hd hd':Hd}
theorem Hd.In.hash (W:hd.In c own) (c8:c<=8) (ht:tot c own<64):eI (hd.kept.map (·.1))=true:=lR DI (fun k hk=>by
 obtain⟨kv,h1,rfl⟩:=ax.mp hk;obtain⟨a,b,h2,h3,h4,e⟩:=W.kk kv h1
 have:=HK own a c h2
 exact KeyIn.univ (own:=fun _=>63) ⟨a,b,by omega,h3,(by show b<=63;omega),e⟩) W.kn
theorem Gq (L:HallS B ω g c hs fp S) (I:HInv c own S) (c0:0<c) (c8:c<=8) (ht:tot c own<64) (hi:i<c) (hj:j<c) (hne:i≠j):∃ ω' fp',cH [.obj (hs i),.obj (hs j)] ω=we (.ok (.int (jK S j i)),ω')/\HallS B ω' g c hs fp' (gY S j i)/\HInv c own (gY S j i):=by
 have Wi:=(I i hi).1;have Wj:=(I j hj).1;have Oi:=Wi.ok c0 c8 ht;have Oj:=Wj.ok c0 c8 ht;have H0:=Wi.hear0 Wj Oi Oj hi hj;obtain⟨ω',e,D⟩:=Oz (L.hand i hi) (L.hand j hj) (fun n hn=>L.apart i hi j hj hne n hn) Oi Oj hi hj (Wj.hash c8 ht) (H0.ok c0 c8 ht);obtain⟨fp',L'⟩:=L.did hi D;exact⟨ω',fp',e,L',I.upd H0.forget (Au Wi Wj hi hj (I i hi).2)⟩
theorem PU (L:HallS B ω g c hs fp S) (I:HInv c own S) (c0:0<c) (c8:c<=8) (ht:tot c own<63) (hi:i<c) (x:Str) (v:Int):∃ ω' fp',dU [.obj (hs i),.str x,.int v] ω=we (.ok (mkD i ((S i).next i)),ω')/\HallS B ω' g c hs fp' (lM S i ((S i).put i x v))/\HInv c (dB own i) (lM S i ((S i).put i x v)):=by
 have W:=(I i hi).1;have O:=W.ok c0 c8 (by omega);obtain⟨ω',e,D⟩:=Pn (L.hand i hi) O hi x v;obtain⟨fp',L'⟩:=L.did hi D;exact⟨ω',fp',e,L',I.updB (W.put hi (I i hi).2 x v) (iZ W hi (I i hi).2)⟩
theorem uP (hi:i<c) (ht:tot c own<63):tot c (dB own i)<64:=by
 rw[iR,if_pos hi];omega
theorem Kx (L:HallS B ω g c hs fp S) (I:HInv c own S) (c0:0<c) (c8:c<=8) (ht:tot c own<63) (hi:i<c) (x:Str) (v:Int):∃ ω' fp',dL [.obj (hs i),.str x,.int v] ω=we (.ok (mkD i ((S i).next i)),ω')/\HallS B ω' g c hs fp' (lM S i ((S i).change i x v))/\HInv c (dB own i) (lM S i ((S i).change i x v)):=by
 have W:=(I i hi).1;have O:=W.ok c0 c8 (by omega);have P:=W.put hi (I i hi).2 x v;have T:=P.takeOut0 (mk:=fN i ((S i).next i)) (ks:=(S i).marksK x) (kK hi (I i hi).2) (O.marksLen x) fun q hq=>(W.marks O x q hq).mono (gN own i);obtain⟨ω',e,D⟩:=Kw (L.hand i hi) O hi x v (T.ok c0 c8 (uP hi ht));obtain⟨fp',L'⟩:=L.did hi D;exact⟨ω',fp',e,L',I.updB T.forget (iZ W hi (I i hi).2)⟩
theorem NC (L:HallS B ω g c hs fp S) (I:HInv c own S) (c0:0<c) (c8:c<=8) (ht:tot c own<63) (hi:i<c) (x:Str):∃ ω' fp' own',eZ [.obj (hs i),.str x] ω=we (.ok ((S i).takeA x),ω')/\HallS B ω' g c hs fp' (lM S i ((S i).take i x))/\HInv c own' (lM S i ((S i).take i x))/\tot c own'<=tot c own+1:=by
 have W:=(I i hi).1;have O:=W.ok c0 c8 (by omega);have P:=W.bump hi (I i hi).2;have T:=P.takeOut0 (mk:=fN i ((S i).next i)) (ks:=(S i).marksK x) (kK hi (I i hi).2) (O.marksLen x) fun q hq=>(W.marks O x q hq).mono (gN own i);obtain⟨ω',e,D⟩:=NB (L.hand i hi) O hi x (T.ok c0 c8 (uP hi ht));obtain⟨fp',L'⟩:=L.did hi D
 by_cases hm:(S i).marksK x=[]
 ·refine⟨ω',fp',own,e,L',?_,by omega⟩
  have:(S i).take i x=S i:=by unfold Hd.take;rw[if_pos hm]
  rw[this];exact I.upd W (I i hi).2
 ·refine⟨ω',fp',dB own i,e,L',?_,by rw[iR,if_pos hi];omega⟩
  have:(S i).take i x=((S i).bump i).takeOut (fN i ((S i).next i)) ((S i).marksK x):=by unfold Hd.take;rw[if_neg hm]
  rw[this];exact I.updB T.forget (iZ W hi (I i hi).2)
theorem Aq (h:ρ[2]?=we (we (.str y))):cC (o2 (fV 8) (oP (aD 2)) (oP (dC (.str y)))) ρ ω=we (.ok true,ω):=cE (eP (aB h) aR (by
 show pu ((eqD 8 (.str y) (.str y)).map D.bl) ω=_;rw[gJ,decide_eq_true rfl];rfl))
theorem jF (h:ρ[2]?=we (we (.str x))) (hne:x≠y):cC (o2 (fV 8) (oP (aD 2)) (oP (dC (.str y)))) ρ ω=we (.ok false,ω):=cE (eP (aB h) aR (by
 show pu ((eqD 8 (.str x) (.str y)).map D.bl) ω=_;rw[gJ,decide_eq_false hne];rfl))
theorem skip (e:t ρ ω=we (.ok false,ω)):aI (dR t F bN) G ρ ω=G ρ ω:=bB (by rw[lF e];rfl)
theorem xR (e:t ρ ω=we (.ok true,ω)) (e2:f ρ ω=we (r,ω')):aI (dR t (aX f) bN) G ρ ω=we (Iu r,ω'):=nH (by rw[jM e];exact iA e2)
variable {fs:List (Str×D)}{r:Rz D}{a b v:Int}{x:Str}
theorem AF (ho:ω[g]?=we (.ins 1 fs)) (hf:fs.lookup ("put":Str)=wf) (e:fR [.obj g,.int a,.str x,.int v] ω=we (r,ω')):jC [.obj g,(Deed.put a x v).d] ω=we (r,ω'):=by
 refine dI rfl ?_;unfold rA;rw[aM (d:=.str "put") (aK (aB (d:=(Deed.put a x v).d) rfl) aR rfl)];exact xR (Aq rfl) (bS (aB (d:=.obj g) rfl) ho hf (aA (aK (aB (d:=(Deed.put a x v).d) rfl) aR rfl) (aA (aK (aB (d:=(Deed.put a x v).d) rfl) aR rfl) (aA (aK (aB (d:=(Deed.put a x v).d) rfl) aR rfl) aE))) e)
theorem oW (ho:ω[g]?=we (.ins 1 fs)) (hf:fs.lookup ("change":Str)=wf) (e:dM [.obj g,.int a,.str x,.int v] ω=we (r,ω')):jC [.obj g,(Deed.change a x v).d] ω=we (r,ω'):=by
 refine dI rfl ?_;unfold rA;rw[aM (d:=.str "change") (aK (aB (d:=(Deed.change a x v).d) rfl) aR rfl)];rw[skip (jF (x:="change") rfl (by decide))];exact xR (Aq rfl) (bS (aB (d:=.obj g) rfl) ho hf (aA (aK (aB (d:=(Deed.change a x v).d) rfl) aR rfl) (aA (aK (aB (d:=(Deed.change a x v).d) rfl) aR rfl) (aA (aK (aB (d:=(Deed.change a x v).d) rfl) aR rfl) aE))) e)
theorem wD (ho:ω[g]?=we (.ins 1 fs)) (hf:fs.lookup ("take":Str)=wf) (e:fB [.obj g,.int a,.str x] ω=we (r,ω')):jC [.obj g,(Deed.take a x).d] ω=we (r,ω'):=by
 refine dI rfl ?_;unfold rA;rw[aM (d:=.str "take") (aK (aB (d:=(Deed.take a x).d) rfl) aR rfl)];rw[skip (jF (x:="take") rfl (by decide)),skip (jF (x:="take") rfl (by decide))];exact xR (Aq rfl) (bS (aB (d:=.obj g) rfl) ho hf (aA (aK (aB (d:=(Deed.take a x).d) rfl) aR rfl) (aA (aK (aB (d:=(Deed.take a x).d) rfl) aR rfl) aE)) e)
theorem oU (ho:ω[g]?=we (.ins 1 fs)) (hf:fs.lookup ("tell":Str)=wf) (e:fA [.obj g,.int a,.int b] ω=we (r,ω')):jC [.obj g,(Deed.tell a b).d] ω=we (r,ω'):=by
 refine dI rfl ?_;unfold rA;rw[aM (d:=.str "tell") (aK (aB (d:=(Deed.tell a b).d) rfl) aR rfl)];rw[skip (jF (x:="tell") rfl (by decide)),skip (jF (x:="tell") rfl (by decide)),skip (jF (x:="tell") rfl (by decide))];exact xR (Aq rfl) (bS (aB (d:=.obj g) rfl) ho hf (aA (aK (aB (d:=(Deed.tell a b).d) rfl) aR rfl) (aA (aK (aB (d:=(Deed.tell a b).d) rfl) aR rfl) aE)) e)
theorem oV (ho:ω[g]?=we (.ins 1 fs)) (hf:fs.lookup ("meet":Str)=wf) (e:fC [.obj g,.int a,.int b] ω=we (r,ω')):jC [.obj g,(Deed.meet a b).d] ω=we (r,ω'):=by
 refine dI rfl ?_;unfold rA;rw[aM (d:=.str "meet") (aK (aB (d:=(Deed.meet a b).d) rfl) aR rfl)];rw[skip (jF (x:="meet") rfl (by decide)),skip (jF (x:="meet") rfl (by decide)),skip (jF (x:="meet") rfl (by decide)),skip (jF (x:="meet") rfl (by decide))];exact iA (bS (aB (d:=.obj g) rfl) ho hf (aA (aK (aB (d:=(Deed.meet a b).d) rfl) aR rfl) (aA (aK (aB (d:=(Deed.meet a b).d) rfl) aR rfl) aE)) e)
theorem HallS.handObj (L:HallS B ω g c hs fp S) (hi:i<c):∃ fs,ω[hs i]?=we (.ins 0 fs)/\fs.lookup ("put":Str)=wf/\fs.lookup ("change":Str)=wf/\fs.lookup ("take":Str)=wf/\fs.lookup ("hear":Str)=wf:=by
 obtain⟨k,t,e,h⟩:=(L.hand i hi).obj;exact⟨_,h,rfl,rfl,rfl,rfl⟩
theorem JX (L:HallS B ω g c hs fp S) (ef:f ρ ω=we (.ok (.obj g),ω)) (ea:fa ρ ω=we (.ok (.int a),ω)) (h:0<=a/\a<c):bL 1 "hand" bJ f (aC fa aQ) ρ ω=we (.ok (.obj (hs a.toNat)),ω):=bS ef L.obj rfl (aA ea aE) (by rw[kO L a,if_pos h])
theorem JW (L:HallS B ω g c hs fp S) (ef:f ρ ω=we (.ok (.obj g),ω)) (ea:fa ρ ω=we (.ok (.int a),ω)) (h:¬(0<=a/\a<c)):bL 1 "hand" bJ f (aC fa aQ) ρ ω=we (.ex 0,ω):=bS ef L.obj rfl (aA ea aE) (by rw[kO L a,if_neg h])
theorem Gr (L:HallS B ω g c hs fp S) (h:0<=a/\a<c) (e:dU [.obj (hs a.toNat),.str x,.int v] ω=we (r,ω')):fR [.obj g,.int a,.str x,.int v] ω=we (r,ω'):=by
 obtain⟨fs,ho,h1,_⟩:=L.handObj (i:=a.toNat) (by omega);exact dI rfl (iA (bS (JX L (aB rfl) (aB rfl) h) ho h1 (aA (aB rfl) (aA (aB rfl) aE)) e))
theorem DP (L:HallS B ω g c hs fp S) (h:¬(0<=a/\a<c)):fR [.obj g,.int a,.str x,.int v] ω=we (.ex 0,ω):=dI (r:=.ex 0) rfl (iA (xL (JW (a:=a) L (aB rfl) (aB rfl) h)))
theorem xT (L:HallS B ω g c hs fp S) (h:0<=a/\a<c) (e:dL [.obj (hs a.toNat),.str x,.int v] ω=we (r,ω')):dM [.obj g,.int a,.str x,.int v] ω=we (r,ω'):=by
 obtain⟨fs,ho,_,h1,_⟩:=L.handObj (i:=a.toNat) (by omega);exact dI rfl (iA (bS (JX L (aB rfl) (aB rfl) h) ho h1 (aA (aB rfl) (aA (aB rfl) aE)) e))
theorem vT (L:HallS B ω g c hs fp S) (h:¬(0<=a/\a<c)):dM [.obj g,.int a,.str x,.int v] ω=we (.ex 0,ω):=dI (r:=.ex 0) rfl (iA (xL (JW (a:=a) L (aB rfl) (aB rfl) h)))
theorem DN (L:HallS B ω g c hs fp S) (h:0<=a/\a<c) (e:eZ [.obj (hs a.toNat),.str x] ω=we (r,ω')):fB [.obj g,.int a,.str x] ω=we (r,ω'):=by
 obtain⟨fs,ho,_,_,h1,_⟩:=L.handObj (i:=a.toNat) (by omega);exact dI rfl (iA (bS (JX L (aB rfl) (aB rfl) h) ho h1 (aA (aB rfl) aE) e))
theorem Bz (L:HallS B ω g c hs fp S) (h:¬(0<=a/\a<c)):fB [.obj g,.int a,.str x] ω=we (.ex 0,ω):=dI (r:=.ex 0) rfl (iA (xL (JW (a:=a) L (aB rfl) (aB rfl) h)))
theorem FC {p:Option (Rz D×Om)} (L:HallS B ω g c hs fp S) (ef:f ρ ω=we (.ok (.obj g),ω)) (ea:fa ρ ω=we (.ok (.int a),ω)) (eb:fb ρ ω=we (.ok (.int b),ω)) (e:bR [.obj g,.int a,.int b] ω=we (r,ω)):bL 1 "pair" bR f (aC fa (aC fb aQ)) ρ ω=we (r,ω):=bS ef L.obj rfl (aA ea (aA eb aE)) e
theorem HH (L:HallS B ω g c hs fp S) (h:(0<=a/\a<c)/\(0<=b/\b<c)) (hne:a≠b):bR [.obj g,.int a,.int b] ω=we (.ok (.tup [.obj (hs a.toNat),.obj (hs b.toNat)]),ω):=by rw[oE L,if_pos h,if_neg hne]
theorem HJ (L:HallS B ω g c hs fp S) (h:(0<=a/\a<c)/\(0<=b/\b<c)) (hne:a=b):bR [.obj g,.int a,.int b] ω=we (.ex 1,ω):=by rw[oE L,if_pos h,if_pos hne]
theorem HG (L:HallS B ω g c hs fp S) (h:¬((0<=a/\a<c)/\(0<=b/\b<c))):bR [.obj g,.int a,.int b] ω=we (.ex 0,ω):=by rw[oE L,if_neg h]
theorem qX (L:HallS B ω g c hs fp S) (e:bR [.obj g,.int a,.int b] ω=we (.ex n,ω)):fA [.obj g,.int a,.int b] ω=we (.ex n,ω):=by
 refine dI (r:=.ex n) rfl ?_;unfold jT;exact nH (r:=.ex n) (Dc (FC (p:=wf) L (aB rfl) (aB rfl) (aB rfl) e))
theorem qY (L:HallS B ω g c hs fp S) (e:bR [.obj g,.int a,.int b] ω=we (.ex n,ω)):fC [.obj g,.int a,.int b] ω=we (.ex n,ω):=by
 refine dI (r:=.ex n) rfl ?_;unfold jU;exact nH (r:=.ex n) (Dc (FC (p:=wf) L (aB rfl) (aB rfl) (aB rfl) e))
theorem DM (L:HallS B ω g c hs fp S) (h:(0<=a/\a<c)/\(0<=b/\b<c)) (hne:a≠b) (e:cH [.obj (hs b.toNat),.obj (hs a.toNat)] ω=we (r,ω')):fA [.obj g,.int a,.int b] ω=we (r,ω'):=by
 obtain⟨fs,ho,_,_,_,h1⟩:=L.handObj (i:=b.toNat) (by omega);refine dI rfl ?_;unfold jT;rw[aM (FC (p:=wf) L (aB rfl) (aB rfl) (aB rfl) (HH L h hne))];exact iA (bS (aK (aB (d:=.tup [.obj (hs a.toNat),.obj (hs b.toNat)]) rfl) aR rfl) ho h1 (aA (aK (aB (d:=.tup [.obj (hs a.toNat),.obj (hs b.toNat)]) rfl) aR rfl) aE) e)
theorem DQ (L:HallS B ω g c hs fp S) (I:HInv c own S) (c0:0<c) (c8:c<=8) (ht:tot c own<64) (h:(0<=a/\a<c)/\(0<=b/\b<c)) (hne:a≠b):∃ ω' fp',fC [.obj g,.int a,.int b] ω=we (.ok (.tup [.int (jK (gY S a.toNat b.toNat) b.toNat a.toNat),.int (jK S a.toNat b.toNat)]),ω')/\HallS B ω' g c hs fp' (Gc S a.toNat b.toNat)/\HInv c own (Gc S a.toNat b.toNat):=by
 have ha:a.toNat<c:=by omega
 have hb:b.toNat<c:=by omega
 have hn:a.toNat≠b.toNat:=by omega
 obtain⟨ω1,fp1,e1,L1,I1⟩:=Gq L I c0 c8 ht hb ha (bt hn);obtain⟨ω2,fp2,e2,L2,I2⟩:=Gq L1 I1 c0 c8 ht ha hb hn;obtain⟨ω3,fp3,e3,L3,I3⟩:=Gq L2 I2 c0 c8 ht hb ha (bt hn);refine⟨ω3,fp3,?_,L3,I3⟩;obtain⟨fs0,ho0,_,_,_,h0⟩:=L.handObj hb;obtain⟨fs1,ho1,_,_,_,h1⟩:=L1.handObj ha;obtain⟨fs2,ho2,_,_,_,h2⟩:=L2.handObj hb;refine aT rfl ?_;unfold jU;rw[aM (FC (p:=wf) L (aB rfl) (aB rfl) (aB rfl) (HH L h hne))];rw[aM (bS (aK (aB (d:=.tup [.obj (hs a.toNat),.obj (hs b.toNat)]) rfl) aR rfl) ho0 h0 (aA (aK (aB (d:=.tup [.obj (hs a.toNat),.obj (hs b.toNat)]) rfl) aR rfl) aE) e1)];rw[aM (d:=.tup [.int (jK (gY S a.toNat b.toNat) b.toNat a.toNat),.int (jK S a.toNat b.toNat)]) (ω1:=ω2) (dF (aA (bS (aK (aB (d:=.tup [.obj (hs a.toNat),.obj (hs b.toNat)]) rfl) aR rfl) ho1 h1 (aA (aK (aB (d:=.tup [.obj (hs a.toNat),.obj (hs b.toNat)]) rfl) aR rfl) aE) e2) (aA (aB (d:=.int (jK S a.toNat b.toNat)) rfl) aE)) (by
  show pu (fT _) ω2=_;unfold fT;rw[if_pos (by rw[bw];simp)];rfl))]
 rw[bB (ω1:=ω3) (by
  unfold cB;rw[cJ (bS (aK (aB (d:=.tup [.obj (hs a.toNat),.obj (hs b.toNat)]) rfl) aR rfl) ho2 h2 (aA (aK (aB (d:=.tup [.obj (hs a.toNat),.obj (hs b.toNat)]) rfl) aR rfl) aE) e3)])]
 exact bD (aB rfl)
theorem uM (e:jC [.obj g,d] ω=we (.ok y,ω')):cG [.obj g,d] ω=we (.ok y,ω'):=aT rfl (by
 unfold gF uZ;rw[bD (aW (aA (aB rfl) (aA (aB rfl) aE)) e)])
theorem Cj (e:jC [.obj g,d] ω=we (.ex 0,ω')):cG [.obj g,d] ω=we (.ok (.str "no hand"),ω'):=aT rfl (by
 unfold gF uZ;rw[iA (r:=.ex 0) (aW (aA (aB rfl) (aA (aB rfl) aE)) e)];rfl)
theorem KR (e:jC [.obj g,d] ω=we (.ex 1,ω')):cG [.obj g,d] ω=we (.ok (.str "same hand"),ω'):=aT rfl (by
 unfold gF uZ;rw[iA (r:=.ex 1) (aW (aA (aB rfl) (aA (aB rfl) aE)) e)];rfl)
theorem EL (L:HallS B ω g c hs fp S) (I:HInv c own S) (c0:0<c) (c8:c<=8) (ht:tot c own<63) (d:Deed):∃ ω' fp' own',cG [.obj g,d.d] ω=we (.ok (step c S d).1,ω')/\HallS B ω' g c hs fp' (step c S d).2/\HInv c own' (step c S d).2/\tot c own'<=tot c own+1:=by
 cases d with
 |put a x v=>
  show ∃ ω' fp' own',_=we (Rz.ok (if 0<=a/\a<(c:Int) then(_,_) else(_,_):D×(Nat->Hd)).1,ω')/\HallS B ω' g c hs fp' (if 0<=a/\a<(c:Int) then(_,_) else(_,_):D×(Nat->Hd)).2/\HInv c own' (if 0<=a/\a<(c:Int) then(_,_) else(_,_):D×(Nat->Hd)).2/\_
  by_cases h:0<=a/\a<c
  ·rw[if_pos h];obtain⟨ω',fp',e,L',I'⟩:=PU L I c0 c8 ht (i:=a.toNat) (by omega) x v;exact⟨ω',fp',_,uM (AF L.obj rfl (Gr L h e)),L',I',by rw[iR,if_pos (by omega)];omega⟩
  ·rw[if_neg h];exact⟨ω,fp,own,Cj (AF L.obj rfl (DP L h)),L,I,by omega⟩
 |change a x v=>
  show ∃ ω' fp' own',_=we (Rz.ok (if 0<=a/\a<(c:Int) then(_,_) else(_,_):D×(Nat->Hd)).1,ω')/\HallS B ω' g c hs fp' (if 0<=a/\a<(c:Int) then(_,_) else(_,_):D×(Nat->Hd)).2/\HInv c own' (if 0<=a/\a<(c:Int) then(_,_) else(_,_):D×(Nat->Hd)).2/\_
  by_cases h:0<=a/\a<c
  ·rw[if_pos h];obtain⟨ω',fp',e,L',I'⟩:=Kx L I c0 c8 ht (i:=a.toNat) (by omega) x v;exact⟨ω',fp',_,uM (oW L.obj rfl (xT L h e)),L',I',by rw[iR,if_pos (by omega)];omega⟩
  ·rw[if_neg h];exact⟨ω,fp,own,Cj (oW L.obj rfl (vT L h)),L,I,by omega⟩
 |take a x=>
  show ∃ ω' fp' own',_=we (Rz.ok (if 0<=a/\a<(c:Int) then(_,_) else(_,_):D×(Nat->Hd)).1,ω')/\HallS B ω' g c hs fp' (if 0<=a/\a<(c:Int) then(_,_) else(_,_):D×(Nat->Hd)).2/\HInv c own' (if 0<=a/\a<(c:Int) then(_,_) else(_,_):D×(Nat->Hd)).2/\_
  by_cases h:0<=a/\a<c
  ·rw[if_pos h];obtain⟨ω',fp',own',e,L',I',t'⟩:=NC L I c0 c8 ht (i:=a.toNat) (by omega) x;exact⟨ω',fp',own',uM (wD L.obj rfl (DN L h e)),L',I',t'⟩
  ·rw[if_neg h];exact⟨ω,fp,own,Cj (wD L.obj rfl (Bz L h)),L,I,by omega⟩
 |tell a b=>
  show ∃ ω' fp' own',_=we (Rz.ok (if(0<=a/\a<(c:Int))/\(0<=b/\b<(c:Int)) then(if a=b then(_,_) else(_,_)) else(_,_):D×(Nat->Hd)).1,ω')/\HallS B ω' g c hs fp' (if(0<=a/\a<(c:Int))/\(0<=b/\b<(c:Int)) then(if a=b then(_,_) else(_,_)) else(_,_):D×(Nat->Hd)).2/\HInv c own' (if(0<=a/\a<(c:Int))/\(0<=b/\b<(c:Int)) then(if a=b then(_,_) else(_,_)) else(_,_):D×(Nat->Hd)).2/\_
  by_cases h:(0<=a/\a<(c:Int))/\(0<=b/\b<(c:Int))
  ·rw[if_pos h]
   by_cases hab:a=b
   ·rw[if_pos hab];exact⟨ω,fp,own,KR (oU L.obj rfl (qX L (HJ L h hab))),L,I,by omega⟩
   ·rw[if_neg hab];obtain⟨ω',fp',e,L',I'⟩:=Gq L I c0 c8 (by omega) (i:=b.toNat) (j:=a.toNat) (by omega) (by omega) (by omega);exact⟨ω',fp',own,uM (oU L.obj rfl (DM L h hab e)),L',I',by omega⟩
  ·rw[if_neg h];exact⟨ω,fp,own,Cj (oU L.obj rfl (qX L (HG L h))),L,I,by omega⟩
 |meet a b=>
  show ∃ ω' fp' own',_=we (Rz.ok (if(0<=a/\a<(c:Int))/\(0<=b/\b<(c:Int)) then(if a=b then(_,_) else(_,_)) else(_,_):D×(Nat->Hd)).1,ω')/\HallS B ω' g c hs fp' (if(0<=a/\a<(c:Int))/\(0<=b/\b<(c:Int)) then(if a=b then(_,_) else(_,_)) else(_,_):D×(Nat->Hd)).2/\HInv c own' (if(0<=a/\a<(c:Int))/\(0<=b/\b<(c:Int)) then(if a=b then(_,_) else(_,_)) else(_,_):D×(Nat->Hd)).2/\_
  by_cases h:(0<=a/\a<(c:Int))/\(0<=b/\b<(c:Int))
  ·rw[if_pos h]
   by_cases hab:a=b
   ·rw[if_pos hab];exact⟨ω,fp,own,KR (oV L.obj rfl (qY L (HJ L h hab))),L,I,by omega⟩
   ·rw[if_neg hab];obtain⟨ω',fp',e,L',I'⟩:=DQ L I c0 c8 (by omega) h hab;exact⟨ω',fp',own,uM (oV L.obj rfl e),L',I',by omega⟩
  ·rw[if_neg h];exact⟨ω,fp,own,Cj (oV L.obj rfl (qY L (HG L h))),L,I,by omega⟩
end
noncomputable def Pl:Nat->D->Prop
 |_,.non=>True
 |_,.bl _=>True
 |_,.int _=>True
 |_,.str _=>True
 |n+1,.lst ds=>ds.length<=1000/\∀ d∈ds,Pl n d
 |n+1,.tup ds=>ds.length<=1000/\∀ d∈ds,Pl n d
 |_,_=>False
theorem Pl.int (n:Nat) (i:Int):Pl n (.int i):=by cases n <;> trivial
theorem Pl.str (n:Nat) (x:Str):Pl n (.str x):=by cases n <;> trivial
theorem Pl.non (n:Nat):Pl n .non:=by cases n <;> trivial
theorem Pl.tup2 (h1:Pl n a) (h2:Pl n b):Pl (n+1) (.tup [a,b]):=⟨by simp,fun d hd=>by
 simp only[ah,cj,or_false] at hd;rcases hd with rfl|rfl
 ·exact h1
 ·exact h2⟩
theorem Pl.mkD (n i:Nat) (b:Int):Pl (n+1) (mkD i b):=Pl.tup2 (Pl.int _ _) (Pl.int _ _)
theorem Pl.key (h:KeyIn c own k) (n:Nat):Pl (n+1) (bQ k):=by
 obtain⟨a,b,_,_,_,rfl⟩:=h;exact Pl.tup2 (Pl.int _ _) (Pl.int _ _)
theorem Pl.keys {ks:List (List Key)} (hl:ks.length<64) (h:∀ q∈ks,KeyIn c own q):Pl (n+2) (.lst (ks.map bQ)):=⟨by rw[ar];omega,fun d hd=>by
 obtain⟨q,hq,rfl⟩:=ax.mp hd;exact Pl.key (h q hq) n⟩
theorem Im (I:HInv c own S) (c0:0<c) (c8:c<=8) (ht:tot c own<64) (d:Deed):Pl 2 (step c S d).1:=by
 cases d with
 |put a x v=>
  show Pl 2 (if 0<=a/\a<(c:Int) then(_,_) else(_,_):D×(Nat->Hd)).1;split
  ·exact Pl.mkD 1 _ _
  ·exact Pl.str _ _
 |change a x v=>
  show Pl 2 (if 0<=a/\a<(c:Int) then(_,_) else(_,_):D×(Nat->Hd)).1;split
  ·exact Pl.mkD 1 _ _
  ·exact Pl.str _ _
 |take a x=>
  show Pl 2 (if 0<=a/\a<(c:Int) then(_,_) else(_,_):D×(Nat->Hd)).1;split
  ·rename_i h
   show Pl 2 ((S a.toNat).takeA x);unfold Hd.takeA;split
   ·exact Pl.non _
   ·have W:=(I a.toNat (by omega)).1;have O:=W.ok c0 c8 ht;exact Pl.keys (O.marksLen x) (W.marks O x)
  ·exact Pl.str _ _
 |tell a b=>
  show Pl 2 (if(0<=a/\a<(c:Int))/\(0<=b/\b<(c:Int)) then(if a=b then(_,_) else(_,_)) else(_,_):D×(Nat->Hd)).1;split
  ·split
   ·exact Pl.str _ _
   ·exact Pl.int _ _
  ·exact Pl.str _ _
 |meet a b=>
  show Pl 2 (if(0<=a/\a<(c:Int))/\(0<=b/\b<(c:Int)) then(if a=b then(_,_) else(_,_)) else(_,_):D×(Nat->Hd)).1;split
  ·split
   ·exact Pl.str _ _
   ·exact Pl.tup2 (Pl.int _ _) (Pl.int _ _)
  ·exact Pl.str _ _
noncomputable def sC (c:Nat):List Deed->(Nat->Hd)->List D×(Nat->Hd)
 |[],S=>([],S)
 |d::r,S=>((step c S d).1::(sC c r (step c S d).2).1,(sC c r (step c S d).2).2)
noncomputable def uQ (c:Nat) (ds:List Deed):List D:=(sC c ds fun _=>Hd0 c).1
theorem Ab (c:Nat):∀(ds:List Deed) (S:Nat->Hd),(sC c ds S).1.length=ds.length
 |[],_=>rfl
 |d::r,S=>by
  show((step c S d).1::(sC c r (step c S d).2).1).length=_
  rw[bv,bv,Ab c r]
section
variable {B:Om}{c g i j:Nat}{own:Nat->Nat}{S:Nat->Hd}{ω ω':Om}{hs:Nat->Nat}{fp:Nat->List Nat}
theorem Nn (c:Nat):HInv c (fun _=>0) (fun _=>Hd0 c):=fun a ha=>by
 have hz:∀ n m:Nat,(ao n (0:Int)).getD m 0=0:=fun n m=>by
  rw[aq,fg];split <;> rfl
 refine⟨⟨by simp[Hd0],fun xs hx=> ?_,fun xs hx b hb=> ?_,fun kv h=>by simp[Hd0] at h,by simp[Hd0],fun kv h=>by simp[Hd0] at h,fun kv h=>by simp[Hd0] at h,by simp[Hd0]⟩,?_⟩
 ·rw[(uv.mp hx).2,jf]
 ·rw[(uv.mp hx).2,hz];exact⟨ll _,ll _⟩
 ·show((ao c (ao c (0:Int))).getD a []).getD a 0=0
  have e1:(ao c (ao c (0:Int))).getD a []=ao c 0:=by
   rw[aq,fg,if_pos ha];rfl
  rw[e1];exact hz c a
theorem NA:∀ c,tot c (fun _=>0)=0
 |0=>rfl
 |c+1=>by
  have ih:=NA c;unfold tot at ih ⊢;rw[ox,cx,oy,ih];rfl
theorem lW (c0:0<c) (c8:c<=8):∀(ds:List Deed) {u:Option D}{S:Nat->Hd}{ω:Om}{fp:Nat->List Nat}{own:Nat->Nat},HallS B ω g c hs fp S->HInv c own S->tot c own+ds.length<64->∃ ω' fp' own',compLO (bG 0) cM (oPT mT) (bK cG (aC (oP (aD 1)) (aC (oP (aD 0)) aQ))) (ds.map Deed.d) [u,we (.obj g)] ω=we ((sC c ds S).1,ω')/\HallS B ω' g c hs fp' (sC c ds S).2/\HInv c own' (sC c ds S).2/\tot c own'<64/\∀ x∈(sC c ds S).1,Pl 2 x
 |[],u,S,ω,fp,own,L,I,ht=>⟨ω,fp,own,rfl,L,I,by simpa using ht,fun x hx=>by simp[sC] at hx⟩
 |d::ds,u,S,ω,fp,own,L,I,ht=>by
  rw[bv] at ht;obtain⟨ω1,fp1,own1,e1,L1,I1,t1⟩:=EL L I c0 c8 (by omega) d;obtain⟨ω2,fp2,own2,e2,L2,I2,t2,p2⟩:=lW c0 c8 ds (u:=we d.d) L1 I1 (by omega);refine⟨ω2,fp2,own2,?_,L2,I2,t2,fun x hx=> ?_⟩
  rotate_left
  ·rcases ah.mp (show x∈(step c S d).1::(sC c ds (step c S d).2).1 from hx) with z|z
   ·rw[z];exact Im I c0 c8 (by omega) d
   ·exact p2 x z
  show(match bK cG (aC (oP (aD 1)) (aC (oP (aD 0)) aQ)) [we d.d,we (.obj g)] ω with
   |some (.ok y,ω2)=>(compLO (bG 0) cM (oPT mT) (bK cG (aC (oP (aD 1)) (aC (oP (aD 0)) aQ))) (ds.map Deed.d) [we d.d,we (.obj g)] ω2).map fun r:List D×Om=>(y::r.1,r.2)
   |_=>wf)=_
  rw[aW (aA (aB rfl) (aA (aB rfl) aE)) e1]
  show(compLO _ _ _ _ _ _ _).map _=_
  rw[e2];rfl
end
section
variable {B:Om}{c g i j:Nat}{own:Nat->Nat}{S:Nat->Hd}{ω ω':Om}{hs:Nat->Nat}{fp:Nat->List Nat}
theorem BN (c0:0<c) (c8:c<=8) {ds:List Deed} (hl:ds.length<64) (ω:Om):∃ ω',nM [.int c,.lst (ds.map Deed.d)] ω=we (.ok (.lst (uQ c ds)),ω')/\Keep [] ω ω'/\∀ x∈uQ c ds,Pl 2 x:=by
 obtain⟨ω1,hs,fp,e1,L1⟩:=DR (ω:=ω) c8 (fl:=aC (oP (aD 0)) aQ) (ρ:=bV wQ [.int c,.lst (ds.map Deed.d)]) (aA (aB rfl) aE);obtain⟨ω2,fp2,own2,e2,L2,I2,t2,p2⟩:=lW c0 c8 ds (u:=wf) L1 (Nn c) (by rw[NA];omega);refine⟨ω2,?_,⟨L2.bas.1,fun n hn _=>L2.bas.2 n hn⟩,p2⟩;refine aT rfl ?_;unfold vV;rw[aM e1];refine bD (iB (ds:=ds.map Deed.d) (chk:=cM) (ω1:=ω1) ?_ (by rw[ar,bw];omega) e2);unfold oIL;rw[bH (aB (d:=.lst (ds.map Deed.d)) rfl)];rfl
end
section
variable {c:Nat}{S S':Nat->Hd}{d x y:Deed}{a b n:Nat}
end
theorem pI:∀ {ds:List D},(∀ d∈ds,f d d=we true)->jJ f ds ds=we true
 |[],_=>rfl
 |d::ds,h=>by
  show(f d d).bind _=_
  rw[h d au]
  show(jJ f ds ds).map _=_
  rw[pI fun d' hd=>h d' (ai _ hd)];rfl
theorem mP:∀ {n:Nat}{d:D},Pl n d->eqD n d d=we true
 |n,.non,_=>by cases n <;> rfl
 |n,.bl b,_=>by cases n <;> cases b <;> rfl
 |n,.int i,_=>by
  have:eqD n (.int i) (.int i)=we (i==i):=by cases n <;> rfl
  rw[this];simp
 |n,.str x,_=>by
  rw[gJ];simp
 |n+1,.lst ds,h=>by
  show(if ds.length=ds.length then jJ (eqD n) ds ds else we false)=_
  rw[if_pos rfl];exact pI fun d hd=>mP (h.2 d hd)
 |n+1,.tup ds,h=>by
  show(jJ (eqD n) ds ds).map (fun k=>k&&ds.length==ds.length)=_
  rw[pI fun d hd=>mP (h.2 d hd)];simp
 |0,.lst _,h=>h.elim
 |0,.tup _,h=>h.elim
 |0,.obj _,h=>h.elim
 |n+1,.obj _,h=>h.elim
 |0,.scr _,h=>h.elim
 |n+1,.scr _,h=>h.elim
theorem Pl.mono:∀ {n m:Nat}{d:D},Pl n d->n<=m->Pl m d
 |_,m,.non,_,_=>by cases m <;> trivial
 |_,m,.bl _,_,_=>by cases m <;> trivial
 |_,m,.int _,_,_=>by cases m <;> trivial
 |_,m,.str _,_,_=>by cases m <;> trivial
 |n+1,m+1,.lst ds,h,hm=>⟨h.1,fun d hd=>Pl.mono (h.2 d hd) (by omega)⟩
 |n+1,m+1,.tup ds,h,hm=>⟨h.1,fun d hd=>Pl.mono (h.2 d hd) (by omega)⟩
 |n+1,0,.lst ds,h,hm=>by omega
 |n+1,0,.tup ds,h,hm=>by omega
 |0,_,.lst _,h,_=>h.elim
 |0,_,.tup _,h,_=>h.elim
 |0,_,.obj _,h,_=>h.elim
 |n+1,_,.obj _,h,_=>h.elim
 |0,_,.scr _,h,_=>h.elim
 |n+1,_,.scr _,h,_=>h.elim
section
variable {ω:Om}{ρ:Rho}{f h:OG D}{d:D}
theorem Dz (e:f ρ ω=we (.ok d,ω)) (h:HU T ω d=we k):mK T f ρ ω=we (.ok (.bl k),ω):=by
 unfold mK;rw[bH e];show oR (pu ((HU T ω d).map D.bl) ω)=_;rw[h];rfl
theorem tru_ok (e:f ρ ω=we (.ok (.bl k),ω)):jY f ρ ω=we (.ok k,ω):=by
 unfold jY;rw[bH e];rfl
theorem De (e:t ρ ω=we (.ok k,ω)):lH t ρ ω=we (.ok (!k),ω):=by
 unfold lH;rw[bH e]
theorem Je (e1:t ρ ω=we (.ok false,ω)) (e2:u ρ ω=we (.ok false,ω)):oOr t u ρ ω=we (.ok false,ω):=by
 unfold oOr;rw[bH e1];exact e2
theorem HP (e1:f ρ ω=we (.ok (.int a),ω)) (e2:h ρ ω=we (.ok (.int b),ω)) (hab:a=b):cC (o2 (KJ 8) f h) ρ ω=we (.ok false,ω):=cE (eP e1 e2 (by
 subst hab;show we (D.bl (!(a==a)),ω)=_;simp))
theorem KA {ds:List D} (hk:k<ds.length):atI ds (k:Int)=we ds[k]:=by
 unfold atI ixN;rw[if_pos (jd k),if_pos (by omega)];show ds[(k:Int).toNat]?=_;rw[c5,bj hk]
theorem rS {k:Nat} (h:ds[k]?=we d):atI ds (k:Int)=we d:=by
 obtain⟨hk,e⟩:=bh.mp h;rw[KA hk,e]
theorem sR (e:f ρ ω=we (.ok d,ω)) (hd:d=.lst ds∨d=.tup ds):oL fU (aC f aQ) ρ ω=we (.ok (.int ds.length),ω):=by
 refine dF (aA e aE) ?_;rcases hd with rfl|rfl <;> rfl
end
section
variable {ω:Om}{ρ:Rho}{f h:OG D}{a b:Int}
theorem rF (e1:f ρ ω=we (.ok (.int a),ω)) (e2:h ρ ω=we (.ok (.int b),ω)):o2 (lf sZ) f h ρ ω=we (.ok (.int (a+b)),ω):=fD e1 e2 rfl
theorem AD (e1:f ρ ω=we (.ok (.int a),ω)) (e2:h ρ ω=we (.ok (.int b),ω)):o2 (lf gSub) f h ρ ω=we (.ok (.int (a-b)),ω):=fD e1 e2 rfl
theorem Ej (e1:f ρ ω=we (.ok (.int a),ω)) (e2:h ρ ω=we (.ok (.int b),ω)) (hb: -1000000000000000000<b/\b<1000000000000000000):o2 (lf gT) f h ρ ω=we (.ok (.int (a*b)),ω):=fD e1 e2 (MP hb)
theorem wA (e1:f ρ ω=we (.ok (.int a),ω)) (e2:h ρ ω=we (.ok (.int b),ω)) (hb:0<b):o2 (lf cR) f h ρ ω=we (.ok (.int (a % b)),ω):=fD e1 e2 (MQ hb)
theorem oM {p q:Int} (e1:f ρ ω=we (.ok (.int a),ω)) (e2:h ρ ω=we (.ok (.int q),ω)) (hp:0<p) (hq:0<q):o2 (lf cR) (o2 (lf cR) (o2 (lf gT) f (oP (dC (.int 48271)))) (oP (dC (.int p)))) h ρ ω=we (.ok (.int (a*48271 % p % q)),ω):=wA (wA (Ej e1 aR (by decide)) aR hp) e2 hq
theorem Dl {x q:Int} (hq:0<q):0<=x % q/\x % q<q:=⟨Int.emod_nonneg x (by omega),Int.emod_lt_of_pos x hq⟩
theorem MV {z:Int} (e1:f ρ ω=we (.ok (.int a),ω)):cC (o2 (fV 8) f (oP (dC (.int z)))) ρ ω=we (.ok (a==z),ω):=cE (eP e1 aR rfl)
theorem lJ {z:Int} (e1:f ρ ω=we (.ok (.int a),ω)):cC (o2 (lf gLt) f (oP (dC (.int z)))) ρ ω=we (.ok (decide (a<z)),ω):=cE (fD e1 aR rfl)
theorem Kn {z:Int} (e1:f ρ ω=we (.ok (.int a),ω)):cC (o2 (lf gGt) f (oP (dC (.int z)))) ρ ω=we (.ok (decide (z<a)),ω):=cE (fD e1 aR rfl)
theorem Dx {xs:List Int} (e1:f ρ ω=we (.ok (.lst (iv xs)),ω)) (e2:h ρ ω=we (.ok (.int a),ω)) (h0:0<=a) (h1:a<xs.length):o2 (fun ω a b=>pu (bF ω a b) ω) f h ρ ω=we (.ok (.int (xs.getD a.toNat 0)),ω):=aK e1 e2 (RowV.ix (ω:=ω) (d:=.lst (iv xs)) rfl h0 h1)
theorem AM {i:Nat}{d:D}{ω1:Om} (e:f ρ ω=we (.ok d,ω1)):aV i f ρ ω=we (.nx (ρ.set i (we d)),ω1):=by
 unfold aV;rw[cJ e]
theorem ifI {t:OG Bool}{F:OS}{i:Nat}{a0 a1:Int}{k:Bool} (ht:t ρ ω=we (.ok k,ω)) (hF:F ρ ω=we (.nx (ρ.set i (we (.int a1))),ω)) (h0:ρ.set i (we (.int a0))=ρ):∃ a:Int,dR t F bN ρ ω=we (.nx (ρ.set i (we (.int a))),ω):=by
 cases k with
 |true=>exact⟨a1,by rw[jM ht];exact hF⟩
 |false=>exact⟨a0,by rw[lF ht,h0];rfl⟩
theorem Nk {t u:OG Bool}{k l:Bool} (e1:t ρ ω=we (.ok k,ω)) (e2:u ρ ω=we (.ok l,ω)):Bj t u ρ ω=we (.ok (k&&l),ω):=by
 unfold Bj;rw[bH e1];cases k with
 |true=>exact e2
 |false=>rfl
end
theorem Ih {j:Int}{c:Nat} (h0:0<=j) (h4:j<4) (c1:1<=c) (c8:c<=8) (ω:Om):∃ x,iT [.int j,.int c] ω=we (.ok (.str x),ω):=by
 have hj:j=0∨j=1∨j=2∨j=3:=by omega
 have hc:c=1∨c=2∨c=3∨c=4∨c=5∨c=6∨c=7∨c=8:=by omega
 rcases hj with rfl|rfl|rfl|rfl <;> rcases hc with rfl|rfl|rfl|rfl|rfl|rfl|rfl|rfl <;> exact⟨_,rfl⟩
theorem HN (c:Nat) (ω:Om):eD [.int c] ω=we (.ok (.lst (iv [-1,c,-2,0-c,100000000000000000000,0-100000000000000000000])),ω):=rfl
theorem BH (cell:Int) (k c:Nat) (c2:1<=c) (c8:c<=8) (ω:Om):∃ d:Deed,fZ [.int cell,.int k,.int c] ω=we (.ok d.d,ω):=by
 have cpos:(0:Int)<c:=by omega
 obtain⟨way,hway⟩:∃ w,w=cell*48271 % 1009 % 16:=⟨_,rfl⟩;obtain⟨one,hone⟩:∃ w,w=(cell+k)*48271 % 1013 % c:=⟨_,rfl⟩;have q1:∃ a:Int,dR (Bj (cC (o2 (lf gGt) (oP (aD 2)) (oP (dC (.int 1))))) (cC (o2 (lf gGt) (o2 (lf cR) (o2 (lf cR) (o2 (lf gT) (oP (aD 0)) (oP (dC (.int 48271)))) (oP (dC (.int 1019)))) (oP (dC (.int 19)))) (oP (dC (.int 0)))))) (aV 5 (o2 (lf cR) (o2 (lf sZ) (o2 (lf sZ) (oP (aD 4)) (oP (dC (.int 1)))) (o2 (lf cR) (o2 (lf cR) (o2 (lf gT) (oP (aD 0)) (oP (dC (.int 48271)))) (oP (dC (.int 1021)))) (o2 (lf gSub) (oP (aD 2)) (oP (dC (.int 1)))))) (oP (aD 2)))) bN [we (.int cell),we (.int k),we (.int c),we (.int way),we (.int one),we (.int one),wf,wf,wf] ω=we (.nx [we (.int cell),we (.int k),we (.int c),we (.int way),we (.int one),we (.int a),wf,wf,wf],ω):=by
  by_cases c1:c=1
  ·refine⟨one,?_⟩;rw[lF (ω1:=ω) (by
    unfold Bj;rw[bH (Kn (a:=c) (aB rfl)),decide_eq_false (by omega)];rfl)]
   rfl
  ·have cpos1:(0:Int)<c-1:=by omega
   exact ifI (ω:=ω) (i:=5) (ρ:=[we (.int cell),we (.int k),we (.int c),we (.int way),we (.int one),we (.int one),wf,wf,wf]) (a0:=one)
    (t:=Bj (cC (o2 (lf gGt) (oP (aD 2)) (oP (dC (.int 1))))) (cC (o2 (lf gGt) (o2 (lf cR) (o2 (lf cR) (o2 (lf gT) (oP (aD 0)) (oP (dC (.int 48271)))) (oP (dC (.int 1019)))) (oP (dC (.int 19)))) (oP (dC (.int 0))))))
    (F:=aV 5 (o2 (lf cR) (o2 (lf sZ) (o2 (lf sZ) (oP (aD 4)) (oP (dC (.int 1)))) (o2 (lf cR) (o2 (lf cR) (o2 (lf gT) (oP (aD 0)) (oP (dC (.int 48271)))) (oP (dC (.int 1021)))) (o2 (lf gSub) (oP (aD 2)) (oP (dC (.int 1)))))) (oP (aD 2))))
    (Nk (Kn (a:=c) (aB rfl)) (Kn (oM (a:=cell) (aB rfl) aR (by decide) (by decide))))
    (AM (wA (b:=c) (rF (rF (a:=one) (aB rfl) aR) (oM (a:=cell) (aB rfl) (AD (a:=c) (aB rfl) aR) (by decide) cpos1)) (aB rfl) cpos)) rfl
 obtain⟨other,e1⟩:=q1;have r4:=Dl (x:=cell*48271 % 1031) (q:=4) (by decide);obtain⟨x,ex⟩:=Ih r4.1 r4.2 (by omega:1<=c) c8 ω;obtain⟨vs,hvs⟩:∃ vs:List Int,vs=[cell*48271 % 1033 % 9-4,0-k,100000000000000000000+k]:=⟨_,rfl⟩;have r3:=Dl (x:=cell*48271 % 1039) (q:=3) (by decide);obtain⟨v,hv⟩:∃ v,v=vs.getD (cell*48271 % 1039 % 3).toNat 0:=⟨_,rfl⟩;have r6:=Dl (x:=cell*48271 % 1051) (q:=6) (by decide);have r6':=Dl (x:=cell*48271 % 1063) (q:=6) (by decide);have q2:=ifI (ω:=ω) (i:=4) (ρ:=[we (.int cell),we (.int k),we (.int c),we (.int way),we (.int one),we (.int other),we (.str x),we (.lst (iv vs)),we (.int v)]) (a0:=one)
  (t:=cC (o2 (fV 8) (o2 (lf cR) (o2 (lf cR) (o2 (lf gT) (oP (aD 0)) (oP (dC (.int 48271)))) (oP (dC (.int 1049)))) (oP (dC (.int 31)))) (oP (dC (.int 30)))))
  (F:=aV 4 (o2 (fun ω a b=>pu (bF ω a b) ω) (bK eD (aC (oP (aD 2)) aQ)) (o2 (lf cR) (o2 (lf cR) (o2 (lf gT) (oP (aD 0)) (oP (dC (.int 48271)))) (oP (dC (.int 1051)))) (oP (dC (.int 6))))))
  (MV (oM (a:=cell) (aB rfl) aR (by decide) (by decide)))
  (AM (Dx (aW (aA (aB rfl) aE) (HN c ω)) (oM (a:=cell) (aB rfl) aR (by decide) (by decide)) r6.1 r6.2)) rfl
 obtain⟨one',e2⟩:=q2;have q3:=ifI (ω:=ω) (i:=5) (ρ:=[we (.int cell),we (.int k),we (.int c),we (.int way),we (.int one'),we (.int other),we (.str x),we (.lst (iv vs)),we (.int v)]) (a0:=other)
  (t:=cC (o2 (fV 8) (o2 (lf cR) (o2 (lf cR) (o2 (lf gT) (oP (aD 0)) (oP (dC (.int 48271)))) (oP (dC (.int 1061)))) (oP (dC (.int 31)))) (oP (dC (.int 30)))))
  (F:=aV 5 (o2 (fun ω a b=>pu (bF ω a b) ω) (bK eD (aC (oP (aD 2)) aQ)) (o2 (lf cR) (o2 (lf cR) (o2 (lf gT) (oP (aD 0)) (oP (dC (.int 48271)))) (oP (dC (.int 1063)))) (oP (dC (.int 6))))))
  (MV (oM (a:=cell) (aB rfl) aR (by decide) (by decide)))
  (AM (Dx (aW (aA (aB rfl) aE) (HN c ω)) (oM (a:=cell) (aB rfl) aR (by decide) (by decide)) r6'.1 r6'.2)) rfl
 obtain⟨other',e3⟩:=q3;have main:∀ d:Deed,∀ G:OS,G [we (.int cell),we (.int k),we (.int c),we (.int way),we (.int one'),we (.int other'),we (.str x),we (.lst (iv vs)),we (.int v)] ω=we (.rt d.d,ω)->
   aI (aV 3 (o2 (lf cR) (o2 (lf cR) (o2 (lf gT) (oP (aD 0)) (oP (dC (.int 48271)))) (oP (dC (.int 1009)))) (oP (dC (.int 16))))) (aI (aV 4 (o2 (lf cR) (o2 (lf cR) (o2 (lf gT) (o2 (lf sZ) (oP (aD 0)) (oP (aD 1))) (oP (dC (.int 48271)))) (oP (dC (.int 1013)))) (oP (aD 2)))) (aI (aV 5 (oP (aD 4))) (aI (dR (Bj (cC (o2 (lf gGt) (oP (aD 2)) (oP (dC (.int 1))))) (cC (o2 (lf gGt) (o2 (lf cR) (o2 (lf cR) (o2 (lf gT) (oP (aD 0)) (oP (dC (.int 48271)))) (oP (dC (.int 1019)))) (oP (dC (.int 19)))) (oP (dC (.int 0)))))) (aV 5 (o2 (lf cR) (o2 (lf sZ) (o2 (lf sZ) (oP (aD 4)) (oP (dC (.int 1)))) (o2 (lf cR) (o2 (lf cR) (o2 (lf gT) (oP (aD 0)) (oP (dC (.int 48271)))) (oP (dC (.int 1021)))) (o2 (lf gSub) (oP (aD 2)) (oP (dC (.int 1)))))) (oP (aD 2)))) bN) (aI (aV 6 (bK iT (aC (o2 (lf cR) (o2 (lf cR) (o2 (lf gT) (oP (aD 0)) (oP (dC (.int 48271)))) (oP (dC (.int 1031)))) (oP (dC (.int 4)))) (aC (oP (aD 2)) aQ)))) (aI (aV 7 (oL (fun ω ds=>pu (eR ds) ω) (aC (o2 (lf gSub) (o2 (lf cR) (o2 (lf cR) (o2 (lf gT) (oP (aD 0)) (oP (dC (.int 48271)))) (oP (dC (.int 1033)))) (oP (dC (.int 9)))) (oP (dC (.int 4)))) (aC (o2 (lf gSub) (oP (dC (.int 0))) (oP (aD 1))) (aC (o2 (lf sZ) (oP (dC (.int 100000000000000000000))) (oP (aD 1))) aQ))))) (aI (aV 8 (o2 (fun ω a b=>pu (bF ω a b) ω) (oP (aD 7)) (o2 (lf cR) (o2 (lf cR) (o2 (lf gT) (oP (aD 0)) (oP (dC (.int 48271)))) (oP (dC (.int 1039)))) (oP (dC (.int 3)))))) (aI (dR (cC (o2 (fV 8) (o2 (lf cR) (o2 (lf cR) (o2 (lf gT) (oP (aD 0)) (oP (dC (.int 48271)))) (oP (dC (.int 1049)))) (oP (dC (.int 31)))) (oP (dC (.int 30))))) (aV 4 (o2 (fun ω a b=>pu (bF ω a b) ω) (bK eD (aC (oP (aD 2)) aQ)) (o2 (lf cR) (o2 (lf cR) (o2 (lf gT) (oP (aD 0)) (oP (dC (.int 48271)))) (oP (dC (.int 1051)))) (oP (dC (.int 6)))))) bN) (aI (dR (cC (o2 (fV 8) (o2 (lf cR) (o2 (lf cR) (o2 (lf gT) (oP (aD 0)) (oP (dC (.int 48271)))) (oP (dC (.int 1061)))) (oP (dC (.int 31)))) (oP (dC (.int 30))))) (aV 5 (o2 (fun ω a b=>pu (bF ω a b) ω) (bK eD (aC (oP (aD 2)) aQ)) (o2 (lf cR) (o2 (lf cR) (o2 (lf gT) (oP (aD 0)) (oP (dC (.int 48271)))) (oP (dC (.int 1063)))) (oP (dC (.int 6)))))) bN) G)))))))) (bV kY [.int cell,.int k,.int c]) ω=we (.rt d.d,ω):=by
  intro d G hG;refine(aM (oM (a:=cell) (aB rfl) aR (by decide) (by decide))).trans ?_;rw[<- hway];refine(aM (wA (b:=c) (wA (Ej (rF (a:=cell) (b:=k) (aB rfl) (aB rfl)) aR (by decide)) aR (by decide)) (aB rfl) cpos)).trans ?_;rw[<- hone];refine(aM (d:=.int one) (aB rfl)).trans ?_;refine(bB e1).trans ?_;refine(aM (d:=.str x) (ω1:=ω) (aW (aA (oM (a:=cell) (aB rfl) aR (by decide) (by decide)) (aA (aB (d:=.int c) rfl) aE)) ex)).trans ?_;refine(aM (d:=.lst (iv vs)) (ω1:=ω) (dF (aA (AD (oM (a:=cell) (aB rfl) aR (by decide) (by decide)) aR) (aA (AD (b:=k) aR (aB rfl)) (aA (rF (b:=k) aR (aB rfl)) aE))) (by rw[hvs];rfl))).trans ?_;refine(aM (Dx (xs:=vs) (aB rfl) (oM (a:=cell) (aB rfl) aR (by decide) (by decide)) r3.1 (by rw[hvs];exact r3.2))).trans ?_;rw[<- hv];refine(bB e2).trans ?_;refine(bB e3).trans ?_;exact hG
 have vw:∀ ω,oP (aD 3) [we (.int cell),we (.int k),we (.int c),we (.int way),we (.int one'),we (.int other'),we (.str x),we (.lst (iv vs)),we (.int v)] ω=we (.ok (.int way),ω):=fun ω=>aB rfl
 by_cases h5:way<5
 ·refine⟨.put one' x v,aT rfl (main _ _ ?_)⟩;exact xR (r:=.ok _) (by rw[lJ (vw ω),decide_eq_true h5]) rfl
 by_cases h7:way<7
 ·refine⟨.take one' x,aT rfl (main _ _ ?_)⟩;rw[skip (by rw[lJ (vw ω),decide_eq_false h5])];exact xR (r:=.ok _) (by rw[lJ (vw ω),decide_eq_true h7]) rfl
 by_cases h9:way<9
 ·refine⟨.change one' x v,aT rfl (main _ _ ?_)⟩;rw[skip (by rw[lJ (vw ω),decide_eq_false h5]),skip (by rw[lJ (vw ω),decide_eq_false h7])];exact xR (r:=.ok _) (by rw[lJ (vw ω),decide_eq_true h9]) rfl
 have gt:∀ q:Bool,decide (11<way)=q->o2 (lf gGt) (oP (aD 3)) (oP (dC (.int 11))) [we (.int cell),we (.int k),we (.int c),we (.int way),we (.int one'),we (.int other'),we (.str x),we (.lst (iv vs)),we (.int v)] ω=we (.ok (.bl q),ω):=fun q hq=>by
  rw[<- hq];exact fD (vw ω) aR rfl
 by_cases h11:11<way
 ·refine⟨.meet one' other',aT rfl (main _ _ ?_)⟩;rw[skip (by rw[lJ (vw ω),decide_eq_false h5]),skip (by rw[lJ (vw ω),decide_eq_false h7]),skip (by rw[lJ (vw ω),decide_eq_false h9])];refine bD (dF (aA (a:=.str "meet") (aK (a:=.lst [.str "tell",.str "meet"]) (b:=.int 1) rfl (dF (aA (gt true (decide_eq_true h11)) aE) rfl) rfl) (aA (aB rfl) (aA (aB rfl) aE))) rfl)
 ·refine⟨.tell one' other',aT rfl (main _ _ ?_)⟩;rw[skip (by rw[lJ (vw ω),decide_eq_false h5]),skip (by rw[lJ (vw ω),decide_eq_false h7]),skip (by rw[lJ (vw ω),decide_eq_false h9])];refine bD (dF (aA (a:=.str "tell") (aK (a:=.lst [.str "tell",.str "meet"]) (b:=.int 0) rfl (dF (aA (gt false (decide_eq_false h11)) aE) rfl) rfl) (aA (aB rfl) (aA (aB rfl) aE))) rfl)
theorem kL (e1:fo ρ ω=we (.ok (.obj n),ω1)) (e2:ω1[n]?=we (.ml xs)) (e3:fl ρ ω1=we (.ok ds,ω2)) (e4:g ω2 (.obj n) ds=we (r,ω3)):kI g fo fl ρ ω=we (.ok r,ω3):=by
 unfold kI;rw[bH e1]
 have:Bt ω1 (.obj n)=true:=by simp only[Bt,cellOf,e2]
 show(if Bt ω1 (.obj n)=true then _ else wf)=_
 rw[if_pos this,bH e3];show oR (g ω2 (.obj n) ds)=_;rw[e4];rfl
theorem rG {c n:Nat} (c2:1<=c) (c8:c<=8) (hx:xs.length<=1000):∀(m s:Nat) (pre:List Deed) (v:Option D) (ω:Om),ω[n]?=we (.ml (pre.map Deed.d))->s+m=xs.length->pre.length=s->∃ v' post,post.length=m/\bZ (bG 3) cM dZ (pT s m) [we (.lst (iv xs)),we (.int c),we (.obj n),v] ω=we (.nx [we (.lst (iv xs)),we (.int c),we (.obj n),v'],ω.set n (.ml ((pre++post).map Deed.d)))
 |0,s,pre,v,ω,ht,_,_=>⟨v,[],rfl,by
   rw[c3,fW ht];rfl⟩
 |m+1,s,pre,v,ω,ht,hs,hp=>by
  obtain⟨d,ed⟩:=BH (xs.getD (s:Int).toNat 0+7*s) s c c2 c8 ω;have b1:dZ [we (.lst (iv xs)),we (.int c),we (.obj n),we (.int s)] ω=we (.nx [we (.lst (iv xs)),we (.int c),we (.obj n),we (.int s)],ω.set n (.ml ((pre++[d]).map Deed.d))):=by
   unfold dZ cB;rw[cJ (kL (r:=.non) (ω3:=ω.set n (.ml ((pre++[d]).map Deed.d))) (aB (d:=.obj n) rfl) ht (aA (aW (aA (rF (Dx (xs:=xs) (a:=s) (aB rfl) (aB rfl) (by omega) (by omega)) (Ej (b:=s) aR (aB rfl) ⟨by omega,by omega⟩)) (aA (aB (d:=.int s) rfl) (aA (aB (d:=.int c) rfl) aE))) ed) aE) (by
    simp only[kT,ht];rw[if_pos (by rw[ar,bw];omega),cx];rfl))]
  obtain⟨v',post,hl,e2⟩:=rG c2 c8 hx m (s+1) (pre++[d]) (we (.int s)) (ω.set n (.ml ((pre++[d]).map Deed.d))) (bT ht) (by omega) (by simp[hp]);refine⟨v',d::post,by simp[hl],?_⟩;rw[fQ];refine(gH rfl rfl (b1)).trans ?_;rw[ow,ff] at e2;exact e2
theorem GX {c:Nat} (c2:1<=c) (c8:c<=8) (hx:xs.length<=1000) (ω:Om):∃ ds:List Deed,ds.length=xs.length/\jO [.lst (iv xs),.int c] ω=we (.ok (.obj ω.length),ω++[.ml (ds.map Deed.d)]):=by
 have h0:(ω++[Ob.ml []])[ω.length]?=we (.ml (([]:List Deed).map Deed.d)):=by simp
 obtain⟨v',post,hl,e⟩:=rG c2 c8 hx xs.length 0 [] wf (ω++[Ob.ml []]) h0 (by omega) rfl;refine⟨post,hl,aT rfl ?_⟩;unfold oG;rw[aM (d:=.obj ω.length) (ω1:=ω++[.ml []]) rfl];rw[bB (jB (by
  unfold cD;rw[cJ (lN (c:=xs.length) (by
   have:=sR (f:=oP (aD 0)) (ρ:=(bV pR [.lst (iv xs),.int c]).set 2 (we (.obj ω.length))) (ω:=ω++[.ml []]) (d:=.lst (iv xs)) (ds:=iv xs) (aB rfl) (.inl rfl)
   rw[show(iv xs).length=xs.length from by unfold iv;simp] at this;exact this) hx)]
  exact e))]
 refine(bD (aB (d:=.obj ω.length) rfl)).trans ?_;simp
theorem Ni (ns:List Int) (k:Nat) (ω:Om):∃ x:Int,sG [.scr (ns.map D.int),.int k] ω=we (.ok (.int x),ω):=by
 have v0:∀ ω:Om,oP (aD 0) (bV mV [.scr (ns.map D.int),.int k]) ω=we (.ok (.scr (ns.map D.int)),ω):=fun ω=>rfl;have v1:∀ ω:Om,oP (aD 1) (bV mV [.scr (ns.map D.int),.int k]) ω=we (.ok (.int k),ω):=fun ω=>rfl;have t:∀ q:Bool,decide ((k:Int)<((ns.map D.int).length:Int))=q->cC (o2 (lf gLt) (oP (aD 1)) (oL fU (aC (oP (aD 0)) aQ))) (bV mV [.scr (ns.map D.int),.int k]) ω=we (.ok q,ω):=fun q hq=>
  cE (fD (v1 ω) (dF (aA (v0 ω) aE) (show _=we (D.int ((ns.map D.int).length),ω) from rfl)) (show we (D.bl (decide ((k:Int)<((ns.map D.int).length:Int))))=_ by rw[hq]))
 by_cases h:k<ns.length
 ·refine⟨ns[k],aT rfl ?_⟩;have hd:decide ((k:Int)<((ns.map D.int).length:Int))=true:=by simp[h]
  unfold sW aI;rw[jM (t true hd),bD (eP (v0 ω) (v1 ω) (show pu (atI (ns.map D.int) (k:Int)) ω=we (.int ns[k],ω) from ?_))];have e1:ixN (ns.map D.int).length (k:Int)=we k:=by
   unfold ixN;have hk:(k:Int)<((ns.map D.int).length:Int):=by simpa using hd
   rw[if_pos (jd k),if_pos hk];simp
  unfold atI;rw[e1];simp[pu,h]
 ·refine⟨0,aT rfl ?_⟩;have hd:decide ((k:Int)<((ns.map D.int).length:Int))=false:=by simp;omega
  unfold sW aI;rw[lF (t false hd)];rfl
theorem Nh (ns:List Int) (lo hi:Option Int):∃ xs:List Int,AI (ns.map D.int) lo hi=iv xs/\xs.length<=ns.length:=by
 unfold AI;refine⟨(ns.drop _).take _,by unfold iv;rw[List.map_take,List.map_drop],?_⟩;rw[ng,qj];omega
theorem Pl.lst (hl:ds.length<=1000) (h:∀ d∈ds,Pl n d):Pl (n+1) (.lst ds):=⟨hl,h⟩
theorem Pl.deed (d:Deed):Pl 1 d.d:=by
 have two:∀(x:Str) (l:List D),l.length<=3->(∀ y∈l,Pl 0 y)->Pl 1 (.tup (.str x::l)):=fun x l h1 h2=>⟨by rw[bv];omega,fun y hy=>by
  rcases ah.mp hy with rfl|hy
  ·exact Pl.str _ _
  ·exact h2 y hy⟩
 cases d with
 |put a x v=>
  refine two _ _ (by simp) fun y hy=> ?_;simp only[ah,cj,or_false] at hy;rcases hy with rfl|rfl|rfl <;> trivial
 |change a x v=>
  refine two _ _ (by simp) fun y hy=> ?_;simp only[ah,cj,or_false] at hy;rcases hy with rfl|rfl|rfl <;> trivial
 |take a x=>
  refine two _ _ (by simp) fun y hy=> ?_;simp only[ah,cj,or_false] at hy;rcases hy with rfl|rfl <;> trivial
 |tell a b=>
  refine two _ _ (by simp) fun y hy=> ?_;simp only[ah,cj,or_false] at hy;rcases hy with rfl|rfl <;> trivial
 |meet a b=>
  refine two _ _ (by simp) fun y hy=> ?_;simp only[ah,cj,or_false] at hy;rcases hy with rfl|rfl <;> trivial
theorem Pl.deeds {ds:List Deed} (hl:ds.length<=1000):Pl 2 (.lst (ds.map Deed.d)):=Pl.lst (by rw[ar];exact hl) fun d hd=>by
 obtain⟨x,_,rfl⟩:=ax.mp hd;exact Pl.deed x
noncomputable def DeedsAt (ω:Om) (d:D) (ds:List Deed):Prop:=fL ω d=we (ds.map Deed.d)
theorem DeedsAt.keep (h:DeedsAt ω d ds) (K:Keep [] ω ω'):DeedsAt ω' d ds:=by
 rcases eN h with rfl|⟨n,rfl,e⟩
 ·rfl
 ·have e':=(K.2 n (dO e) (by simp)).trans e;unfold DeedsAt fL;simp only[e']
theorem DeedsAt.list (h:DeedsAt ω d ds) (e:f ρ ω=we (.ok d,ω)):oL oK (aC f aQ) ρ ω=we (.ok (.lst (ds.map Deed.d)),ω):=by
 refine dF (aA e aE) ?_
 have:dN ω d=we (ds.map Deed.d):=by
  rcases eN h with rfl|⟨n,rfl,e2⟩
  ·rfl
  ·simp only[dN,fL,e2]
 show(dN ω d).map _=_
 rw[this];rfl
structure Rec where
 a:Nat
 b:Nat
 put:Option (Str×Int)
 outs:List (List Key)
noncomputable def Rec.key (r:Rec):List Key:=fN r.a r.b
noncomputable def Rec.mark (r:Rec):D:=mkD r.a r.b
noncomputable def Rec.putD (r:Rec):D:=match r.put with
 |none=>.non
 |some p=>.tup [.str p.1,.int p.2]
noncomputable def Rec.val (r:Rec):D:=.tup [r.putD,.lst (r.outs.map bQ)]
noncomputable def Rec.ent (r:Rec):Option D:=r.put.map fun p=>.tup [.str p.1,mkD r.a r.b,.int p.2]
noncomputable def upF {α:Type} (f:Nat->α) (i:Nat) (x:α):Nat->α:=fun j=>if j=i then x else f j
theorem aZ {x:α}:upF f i x i=x:=if_pos rfl
theorem aY {x:α} (h:j≠i):upF f i x j=f j:=if_neg h
theorem RowV.app (h:RowV ω d xs) (obs:List Ob):RowV (ω++obs) d xs:=by
 rcases eN h with rfl|⟨n,rfl,e⟩
 ·rfl
 ·exact bX ((aj (dO e)).trans e)
theorem RowV.keep (h:RowV ω d xs) (g:∀ n:Nat,ω[n]?=we (Ob.ml (iv xs))->ω'[n]?=we (Ob.ml (iv xs))):RowV ω' d xs:=by
 rcases eN h with rfl|⟨n,rfl,e⟩
 ·rfl
 ·exact bX (g n e)
theorem RowV.noInt (h:RowV ω (.int x) xs):False:=by
 unfold RowV fL at h;cases h
noncomputable def pZ (ω:Om) (n:Nat):Prop:=∀ y ys,ω[n]?≠we (Ob.ml (iv (y::ys)))
theorem RowV.set (h:RowV ω d xs) (hx:xs≠[]) (hn:pZ ω n):RowV (ω.set n ob) d xs:=h.keep fun m e=>by
 match xs,hx with
 |y::ys,_=>
  have:m≠n:=fun z=>hn y ys (z ▸ e)
  rw[aH this];exact e
noncomputable def RowsD (ω:Om) (c:Nat) (ds:List D) (kn:Nat->List Int):Prop:=ds.length=c/\∀ j,j<c->∃ d,ds[j]?=we d/\RowV ω d (kn j)
structure LawAt (B ω:Om) (c h dd oo kk:Nat) (ks:Nat->Nat) (rs:List Rec) (kn:Nat->Nat->List Int):Prop where
 obj:ω[h]?=we (.dk [(.inr "count",.int c),(.inr "deeds",.obj dd),(.inr "order",.obj oo),(.inr "known",.obj kk)])
 deeds:ω[dd]?=we (.dt (rs.map fun r=>(r.key,r.val)))
 order:ω[oo]?=we (.ml (rs.map Rec.mark))
 known:ω[kk]?=we (.ml ((bu c).map fun i=>.obj (ks i)))
 row:∀ i,i<c->∃ ds,ω[ks i]?=we (.ml ds)/\RowsD ω c ds (kn i)
 len:∀ i j,i<c->j<c->(kn i j).length=c
 inj:∀ i j,i<c->j<c->i≠j->ks i≠ks j
 out:∀ i,i<c->ks i≠h/\ks i≠dd/\ks i≠oo/\ks i≠kk
 nd:h≠dd/\h≠oo/\h≠kk/\dd≠oo/\dd≠kk/\oo≠kk
 low:B.length<=h/\B.length<=dd/\B.length<=oo/\B.length<=kk/\∀ i,i<c->B.length<=ks i
 bas:B.length<=ω.length/\∀ n,n<B.length->ω[n]?=B[n]?
 keys:(rs.map Rec.key).Nodup
 ra:∀ r∈rs,r.a<c
section
variable {B ω:Om}{c h dd oo kk:Nat}{ks:Nat->Nat}{rs:List Rec}{kn:Nat->Nat->List Int}{ρ:Rho}{f:OG D}
theorem mO (L:LawAt B ω c h dd oo kk ks rs kn) (ef:f ρ ω=we (.ok (.obj h),ω)) (e:gU [((.inr "count":Key),D.int c),(.inr "deeds",.obj dd),(.inr "order",.obj oo),(.inr "known",.obj kk)] (.inr x)=we d):o2 (fun ω a b=>pu (cK ω a b) ω) f (oP (dC (.str x))) ρ ω=we (.ok d,ω):=eP ef aR (by
 show pu (cK ω (.obj h) (.str x)) ω=_
 have:cK ω (.obj h) (.str x)=we d:=by
  simp only[cK,Ec,cellOf,L.obj,toK];rw[vo,e];rfl
 rw[this];rfl)
theorem LawAt.gCount (L:LawAt B ω c h dd oo kk ks rs kn) (ef:f ρ ω=we (.ok (.obj h),ω)):o2 (fun ω a b=>pu (cK ω a b) ω) f (oP (dC (.str "count"))) ρ ω=we (.ok (.int c),ω):=mO L ef rfl
theorem LawAt.gDeeds (L:LawAt B ω c h dd oo kk ks rs kn) (ef:f ρ ω=we (.ok (.obj h),ω)):o2 (fun ω a b=>pu (cK ω a b) ω) f (oP (dC (.str "deeds"))) ρ ω=we (.ok (.obj dd),ω):=mO L ef rfl
theorem LawAt.gOrder (L:LawAt B ω c h dd oo kk ks rs kn) (ef:f ρ ω=we (.ok (.obj h),ω)):o2 (fun ω a b=>pu (cK ω a b) ω) f (oP (dC (.str "order"))) ρ ω=we (.ok (.obj oo),ω):=mO L ef rfl
theorem LawAt.gKnown (L:LawAt B ω c h dd oo kk ks rs kn) (ef:f ρ ω=we (.ok (.obj h),ω)):o2 (fun ω a b=>pu (cK ω a b) ω) f (oP (dC (.str "known"))) ρ ω=we (.ok (.obj kk),ω):=mO L ef rfl
theorem LawAt.ixKnown (L:LawAt B ω c h dd oo kk ks rs kn) (hi:i<c):bF ω (.obj kk) (.int i)=we (.obj (ks i)):=by
 rw[iI L.known];exact rS (by rw[bf,g7 hi];rfl)
theorem RowsD.ix (e:ω[n]?=we (.ml ds)) (h:RowsD ω c ds q) (hj:j<c):∃ d,bF ω (.obj n) (.int j)=we d/\RowV ω d (q j):=by
 obtain⟨d,e1,r⟩:=h.2 j hj;exact⟨d,by rw[iI e];exact rS e1,r⟩
theorem RowsD.noRow (e:ω[n]?=we (.ml ds)) (h:RowsD ω c ds q) (c0:0<c):pZ ω n:=fun y ys z=>by
 rw[e] at z;cases z;obtain⟨d,e1,r⟩:=h.2 0 c0;cases e1;exact r.noInt
theorem LawAt.noOrder (L:LawAt B ω c h dd oo kk ks rs kn):pZ ω oo:=fun y ys z=>by
 rw[L.order] at z;cases rs with
 |nil=>cases z
 |cons r rs=>cases z
theorem LawAt.noDeeds (L:LawAt B ω c h dd oo kk ks rs kn):pZ ω dd:=fun y ys z=>by
 rw[L.deeds] at z;cases z
theorem LawAt.len0 (L:LawAt B ω c h dd oo kk ks rs kn) (c0:0<c) (hi:i<c) (hj:j<c):kn i j≠[]:=fun z=>by
 have:=L.len i j hi hj
 rw[z] at this;simp at this;omega
theorem RowsD.keep (h:RowsD ω c ds q) (g:∀ d xs,xs≠[]->RowV ω d xs->RowV ω' d xs) (hl:∀ j,j<c->q j≠[]):RowsD ω' c ds q:=⟨h.1,fun j hj=>by
 obtain⟨d,e,r⟩:=h.2 j hj;exact⟨d,e,g d _ (hl j hj) r⟩⟩
theorem LawAt.mono (L:LawAt B ω c h dd oo kk ks rs kn) (c0:0<c) (hl:ω.length<=ω'.length) (g:∀ n:Nat,n<ω.length->ω'[n]?=ω[n]?):LawAt B ω' c h dd oo kk ks rs kn:=by
 have gr:∀ d xs,xs≠[]->RowV ω d xs->RowV ω' d xs:=fun d xs _ r=>r.keep fun n e=>by rw[g n (dO e)];exact e
 refine⟨?_,?_,?_,?_,fun i hi=> ?_,L.len,L.inj,L.out,L.nd,L.low,⟨ce L.bas.1 hl,fun n hn=> ?_⟩,L.keys,L.ra⟩
 ·rw[g _ (dO L.obj)];exact L.obj
 ·rw[g _ (dO L.deeds)];exact L.deeds
 ·rw[g _ (dO L.order)];exact L.order
 ·rw[g _ (dO L.known)];exact L.known
 ·obtain⟨ds,e,r⟩:=L.row i hi;exact⟨ds,by rw[g _ (dO e)];exact e,r.keep gr fun j hj=>L.len0 c0 hi hj⟩
 ·rw[g n (ca hn L.bas.1)];exact L.bas.2 n hn
theorem LawAt.app (L:LawAt B ω c h dd oo kk ks rs kn) (c0:0<c) (obs:List Ob):LawAt B (ω++obs) c h dd oo kk ks rs kn:=L.mono c0 (by simp) fun n hn=>aj hn
end
noncomputable def cS (row:List Int) (r:Rec):Bool:=decide ((r.b:Int)<=row.getD r.a 0)
noncomputable def dH (rs:List Rec) (row:List Int):List (List Key):=(rs.filter (cS row)).flatMap (·.outs)
noncomputable def bC (rs:List Rec) (row:List Int):List D:=(rs.filter (cS row)).filterMap Rec.ent
noncomputable def Ga (q:List Key) (l:List (List Key)):Bool:=l.any fun k=>decide (k=q)
theorem memK_iff:Ga q l=true↔q∈l:=by
 unfold Ga;rw[nq];constructor
 ·rintro⟨k,hk,e⟩
  rw[<- of_decide_eq_true e];exact hk
 ·exact fun h=>⟨q,h,decide_eq_true rfl⟩
noncomputable def dS (rs:List Rec) (row:List Int):List D:=(bC rs row).filter fun d=> !Ga (aU d) (dH rs row)
structure tS (c:Nat) (own:Nat->Nat) (rs:List Rec):Prop where
 keys:(rs.map Rec.key).Nodup
 inn:∀ r∈rs,r.a<c/\1<=r.b/\r.b<=own r.a
 outs:∀ r∈rs,r.outs.length<64/\∀ q∈r.outs,KeyIn c own q
theorem Ek (a b a' b':Int):eqD 7 (.tup [.int a,.int b]) (.tup [.int a',.int b'])=we (decide (a=a'/\b=b')):=by
 have:eqD 7 (.tup [.int a,.int b]) (.tup [.int a',.int b'])=we ((a==a'&&(b==b'&&true))&&true):=rfl
 rw[this]
 congr 1
 by_cases h:a=a' <;> by_cases h2:b=b' <;> simp[h,h2]
theorem As (a b:Nat):∀(l:List (List Key)),(∀ q∈l,∃ x y:Nat,q=fN x y)->inO (fun d=>eqD 7 d (mkD a b)) (l.map bQ)=we (Ga (fN a b) l)
 |[],_=>rfl
 |q::l,h=>by
  obtain⟨x,y,rfl⟩:=h q au;have ih:=As a b l fun q hq=>h q (ai _ hq)
  show(eqD 7 (mkD x y) (mkD a b)).bind (fun k=>(inO (fun d=>eqD 7 d (mkD a b)) (l.map bQ)).map fun c=>k||c)=_
  rw[ih];unfold mkD;rw[Ek];show we (decide ((x:Int)=a/\(y:Int)=b)||Ga (fN a b) l)=we (decide (fN x y=fN a b)||Ga (fN a b) l)
  have:(fN x y=fN a b)↔((x:Int)=a/\(y:Int)=b):=by
   unfold fN;simp
  rw[decide_eq_decide.mpr this]
theorem KeyIn.mk (h:KeyIn c own q):∃ x y:Nat,q=fN x y:=by
 obtain⟨a,b,_,_,_,e⟩:=h;exact⟨a,b,e⟩
section
variable {B ω:Om}{c h dd oo kk:Nat}{ks:Nat->Nat}{rs:List Rec}{kn:Nat->Nat->List Int}{own:Nat->Nat}
theorem Hc (L:LawAt B ω c h dd oo kk ks rs kn) (hr:r∈rs):cK ω (.obj dd) r.mark=we r.val:=by
 have e1:Ck r.mark=we r.key:=rfl;have e2:gU (rs.map fun r=>(r.key,r.val)) r.key=we r.val:=by
  have nd:((rs.map fun r=>(r.key,r.val)).map (·.1)).Nodup:=by
   rw[jc];exact L.keys
  exact Ce nd (ax.mpr ⟨r,hr,rfl⟩)
 simp only[cK,Ec,cellOf,L.deeds,e1];rw[vo,e2];rfl
theorem vC (hrow:row.length=c):∀(post pre:List Rec) {ω:Om}{n:Nat}{v4 v5 v6:Option D},LawAt B ω c h dd oo kk ks rs kn->0<c->tS c own rs->RowV ω rowD row->rs=pre++post->rs.length<64->ω[n]?=we (.ml (bC pre row))->pZ ω n->n≠h->n≠dd->n≠oo->n≠kk->(∀ i,i<c->n≠ks i)->B.length<=n->
  ∃ v4' v5' v6',bZ (bG 4) (kZ oo (rs.map Rec.mark)) bA (post.map Rec.mark) [we (.obj h),we rowD,we (.lst ((dH pre row).map bQ)),we (.obj n),v4,v5,v6] ω=we (.nx [we (.obj h),we rowD,we (.lst ((dH rs row).map bQ)),we (.obj n),v4',v5',v6'],ω.set n (.ml (bC rs row)))
 |[],pre,ω,n,v4,v5,v6,L,c0,R,hr,hp,hl,hn,nr,n1,n2,n3,n4,n5,nb=>by
  rw[c3] at hp;subst hp;refine⟨v4,v5,v6,?_⟩
  show(if kZ oo (rs.map Rec.mark) ω=true then _ else wf)=_
  rw[if_pos (xM L.order),fW hn]
 |r::post,pre,ω,n,v4,v5,v6,L,c0,R,hr,hp,hl,hn,nr,n1,n2,n3,n4,n5,nb=>by
  have hm:r∈rs:=by rw[hp];simp
  have hp':rs=(pre++[r])++post:=by rw[ff];exact hp
  have rin:=R.inn r hm;have step:∀(ω2:Om) (v5' v6':Option D) (g' t':D),g'=.lst ((dH (pre++[r]) row).map bQ)->bA [we (.obj h),we rowD,we (.lst ((dH pre row).map bQ)),we (.obj n),we r.mark,v5,v6] ω=we (.nx [we (.obj h),we rowD,we g',we (.obj n),we r.mark,v5',v6'],ω2)->ω2=ω.set n (.ml (bC (pre++[r]) row))->
    ∃ v4' v5' v6',bZ (bG 4) (kZ oo (rs.map Rec.mark)) bA ((r::post).map Rec.mark) [we (.obj h),we rowD,we (.lst ((dH pre row).map bQ)),we (.obj n),v4,v5,v6] ω=we (.nx [we (.obj h),we rowD,we (.lst ((dH rs row).map bQ)),we (.obj n),v4',v5',v6'],ω.set n (.ml (bC rs row))):=by
   intro ω2 v5' v6' g' t' hg e1 hω2;subst hg hω2;have hne:∀ m,m≠n->(ω.set n (.ml (bC (pre++[r]) row)))[m]?=ω[m]?:=fun m hm=>aH hm;have L2:LawAt B (ω.set n (.ml (bC (pre++[r]) row))) c h dd oo kk ks rs kn:=by
    refine⟨?_,?_,?_,?_,fun i hi=> ?_,L.len,L.inj,L.out,L.nd,L.low,⟨by simpa using L.bas.1,fun m hm=> ?_⟩,L.keys,L.ra⟩
    ·rw[hne _ (bt n1)];exact L.obj
    ·rw[hne _ (bt n2)];exact L.deeds
    ·rw[hne _ (bt n3)];exact L.order
    ·rw[hne _ (bt n4)];exact L.known
    ·obtain⟨ds,e,rr⟩:=L.row i hi;exact⟨ds,by rw[hne _ (bt (n5 i hi))];exact e,rr.keep (fun d xs hx q=>q.set hx nr) fun j hj=>L.len0 c0 hi hj⟩
    ·rw[hne _ (by omega)];exact L.bas.2 m hm
   have nr2:pZ (ω.set n (.ml (bC (pre++[r]) row))) n:=fun y ys z=>by
    rw[bT hn] at z;have z':bC (pre++[r]) row=iv (y::ys):=by
     injection z with z
     injection z
    have:D.int y∈bC (pre++[r]) row:=by rw[z'];exact au
    obtain⟨q,_,e2⟩:=gq.mp this;unfold Rec.ent at e2;cases hq:q.put with
    |none=>rw[hq] at e2;cases e2
    |some p=>rw[hq] at e2;cases e2
   have row0:row≠[]:=fun z=>by rw[z] at hrow;simp at hrow;omega
   obtain⟨w4,w5,w6,e3⟩:=vC hrow post (pre++[r]) (v4:=we r.mark) (v5:=v5') (v6:=v6') L2 c0 R (hr.set row0 nr) hp' hl (bT hn) nr2 n1 n2 n3 n4 n5 nb;refine⟨w4,w5,w6,?_⟩;rw[ow] at e3
   show(if kZ oo (rs.map Rec.mark) ω=true then(match bA [we (.obj h),we rowD,we (.lst ((dH pre row).map bQ)),we (.obj n),we r.mark,v5,v6] ω with
    |none=>wf
    |some (.nx ρ2,ω2)=>bZ (bG 4) (kZ oo (rs.map Rec.mark)) bA (post.map Rec.mark) ρ2 ω2
    |some (.ct ρ2,ω2)=>bZ (bG 4) (kZ oo (rs.map Rec.mark)) bA (post.map Rec.mark) ρ2 ω2
    |some (.bk ρ2,ω2)=>we (.nx ρ2,ω2)
    |some (.rt d,ω2)=>we (.rt d,ω2)
    |some (.ex _,_)=>wf) else wf)=_
   rw[if_pos (xM L.order),e1];exact e3
  have tst:cC (o2 (lf gLe) (o2 (fun ω a b=>pu (bF ω a b) ω) (oP (aD 4)) (oP (dC (.int 1)))) (o2 (fun ω a b=>pu (bF ω a b) ω) (oP (aD 1)) (o2 (fun ω a b=>pu (bF ω a b) ω) (oP (aD 4)) (oP (dC (.int 0)))))) [we (.obj h),we rowD,we (.lst ((dH pre row).map bQ)),we (.obj n),we r.mark,v5,v6] ω=we (.ok (cS row r),ω):=
   cE (fD (aK (aB (d:=r.mark) rfl) aR rfl) (aK (aB (d:=rowD) rfl) (aK (aB (d:=r.mark) rfl) aR rfl) (hr.ix (a:=r.a) (by omega) (by omega))) (by
    show we (D.bl (decide ((r.b:Int)<=row.getD (r.a:Int).toNat 0)))=_;rw[c5];rfl))
  cases hs:cS row r with
  |false=>
   rw[hs] at tst;refine step ω v5 v6 (.lst ((dH pre row).map bQ)) .non ?_ ?_ ?_
   ·unfold dH;rw[je,c6 (by rw[hs];exact cf),ko,c3]
   ·unfold bA;rw[lF tst];rfl
   ·unfold bC at hn ⊢;rw[je,c6 (by rw[hs];exact cf),ko,c3,fW hn]
  |true=>
   rw[hs] at tst;have eg:dH (pre++[r]) row=dH pre row++r.outs:=by
    unfold dH;rw[je,c7 hs,ko,List.flatMap_append];simp
   have et:bC (pre++[r]) row=bC pre row++r.ent.toList:=by
    unfold bC;rw[je,c7 hs,ko,List.filterMap_append]
    congr 1
   have hgl:(dH pre row).length<=64*64:=by
    have gen:∀ l:List Rec,(∀ q∈l,q.outs.length<64)->(l.flatMap (·.outs)).length<=64*l.length:=by
     intro l
     induction l with
     |nil=>intro _;simp
     |cons q l ih=>
      intro hq;rw[List.flatMap_cons,b0,bv]
      have:=hq q au
      have:=ih fun x hx=>hq x (ai _ hx)
      omega
    have h1:=gen (pre.filter (cS row)) fun q hq=>(R.outs q (by rw[hp];exact di _ (b4.mp hq).1)).1;have h2:(pre.filter (cS row)).length<=pre.length:=du ..;have h3:pre.length<64:=by rw[hp,b0] at hl;omega
    unfold dH;omega
   have houts:=(R.outs r hm).1;have b1:∀ G:OS,aI (Ff (pG 5 6) (o2 (fun ω a b=>pu (cK ω a b) ω) (o2 (fun ω a b=>pu (cK ω a b) ω) (oP (aD 0)) (oP (dC (.str "deeds")))) (oP (aD 4)))) (aI (aV 2 (o2 GD (oP (aD 2)) (oP (aD 6)))) G) [we (.obj h),we rowD,we (.lst ((dH pre row).map bQ)),we (.obj n),we r.mark,v5,v6] ω=G [we (.obj h),we rowD,we (.lst ((dH (pre++[r]) row).map bQ)),we (.obj n),we r.mark,we r.putD,we (.lst (r.outs.map bQ))] ω:=by
    intro G;rw[bB (ρ1:=[we (.obj h),we rowD,we (.lst ((dH pre row).map bQ)),we (.obj n),we r.mark,we r.putD,we (.lst (r.outs.map bQ))]) (ω1:=ω) (by
     unfold Ff;rw[cJ (eP (d:=r.val) (ω3:=ω) (L.gDeeds (aB rfl)) (aB (d:=r.mark) rfl) (by
      show pu (cK ω (.obj dd) r.mark) ω=_;rw[Hc L hm];rfl))]
     rfl)]
    rw[aM (d:=.lst ((dH (pre++[r]) row).map bQ)) (ω1:=ω) (eP (aB (d:=.lst ((dH pre row).map bQ)) rfl) (aB (d:=.lst (r.outs.map bQ)) rfl) (by
     show(if((dH pre row).map bQ).length+(r.outs.map bQ).length<=sizeLine then we (D.lst ((dH pre row).map bQ++r.outs.map bQ),ω) else wf)=_
     rw[if_pos (by rw[ar,ar,bw];omega),eg,cx]))]
    rfl
   cases hq:r.put with
   |none=>
    have ep:r.putD=.non:=by unfold Rec.putD;rw[hq]
    have ee:r.ent=wf:=by unfold Rec.ent;rw[hq];rfl
    refine step ω (we r.putD) (we (.lst (r.outs.map bQ))) _ .non rfl ?_ ?_
    ·unfold bA;rw[jM tst,b1,ep];rfl
    ·rw[et,ee];simp only[Option.toList_none,c3];rw[fW hn]
   |some p=>
    have ep:r.putD=.tup [.str p.1,.int p.2]:=by unfold Rec.putD;rw[hq]
    have ee:r.ent=we (.tup [.str p.1,mkD r.a r.b,.int p.2]):=by unfold Rec.ent;rw[hq];rfl
    refine step (ω.set n (.ml (bC (pre++[r]) row))) (we r.putD) (we (.lst (r.outs.map bQ))) _ .non rfl ?_ rfl;unfold bA;rw[jM tst,b1,ep];rw[jM (ω1:=ω) rfl];unfold cB;have tl:(bC pre row).length<=pre.length:=ce (mf ..) (du ..);have h3:pre.length<64:=by rw[hp,b0] at hl;omega
    rw[cJ (kL (r:=.non) (ω3:=ω.set n (.ml (bC (pre++[r]) row))) (aB (d:=.obj n) rfl) hn (aA (dF (d:=.tup [.str p.1,mkD r.a r.b,.int p.2]) (aA (aK (aB (d:=.tup [.str p.1,.int p.2]) rfl) aR rfl) (aA (aB (d:=r.mark) rfl) (aA (aK (aB (d:=.tup [.str p.1,.int p.2]) rfl) aR rfl) aE))) rfl) aE) (by
     simp only[kT,hn];rw[if_pos (by rw[bw];omega),et,ee];rfl))]
end
theorem sA {o o':Ob}:(ω++[o]).set ω.length o'=ω++[o']:=by simp
section
variable {B ω:Om}{c h dd oo kk:Nat}{ks:Nat->Nat}{rs:List Rec}{kn:Nat->Nat->List Int}{own:Nat->Nat}
theorem uR (R:tS c own rs) (hd:d∈bC rs row):∃(a b:Nat) (x:Str) (v:Int),d=.tup [.str x,mkD a b,.int v]/\a<c/\1<=b/\b<=own a:=by
 obtain⟨r,hr,e⟩:=gq.mp hd;have hin:=R.inn r (b4.mp hr).1;unfold Rec.ent at e;cases hq:r.put with
 |none=>rw[hq] at e;cases e
 |some p=>
  rw[hq] at e;cases e;exact⟨r.a,r.b,p.1,p.2,rfl,hin⟩
theorem Gs (R:tS c own rs) (hq:q∈dH rs row):KeyIn c own q:=by
 obtain⟨r,hr,e⟩:=nu.mp hq;exact(R.outs r (b4.mp hr).1).2 q e
theorem LawAt.lts (L:LawAt B ω c h dd oo kk ks rs kn):h<ω.length/\dd<ω.length/\oo<ω.length/\kk<ω.length/\∀ i,i<c->ks i<ω.length:=⟨dO L.obj,dO L.deeds,dO L.order,dO L.known,fun i hi=>by
 obtain⟨ds,e,_⟩:=L.row i hi;exact dO e⟩
theorem Bd (L:LawAt B ω c h dd oo kk ks rs kn) (c0:0<c) (R:tS c own rs) (hr:RowV ω rowD row) (hrow:row.length=c) (hl:rs.length<64) (hs:eX 4 (dS rs row)=we out):fX [.obj h,rowD] ω=we (.ok (.lst out),ω++[.ml (bC rs row)]):=by
 obtain⟨l1,l2,l3,l4,l5⟩:=L.lts;have L1:=L.app c0 [Ob.ml []];have nr:pZ (ω++[Ob.ml []]) ω.length:=fun y ys z=>by
  rw[cr (bc _)] at z;simp at z;cases z
 obtain⟨v4,v5,v6,e⟩:=vC hrow rs [] (n:=ω.length) (v4:=wf) (v5:=wf) (v6:=wf) L1 c0 R (hr.app _) rfl hl (by simp[bC]) nr (by omega) (by omega) (by omega) (by omega) (fun i hi=>by have:=l5 i hi;omega) L.bas.1;rw[sA] at e;have hn:(ω++[Ob.ml (bC rs row)])[ω.length]?=we (.ml (bC rs row)):=by simp
 have cp:eE Ei (oIL (oP (aD 3))) [wf,we 2] (bG 0) (cC (o2 (lf (AA 7)) (o2 (fun ω a b=>pu (bF ω a b) ω) (oP (aD 0)) (oP (dC (.int 1)))) (oP (aD 1)))) (oP (aD 0)) [we (.obj h),we rowD,we (.lst ((dH rs row).map bQ)),we (.obj ω.length),v4,v5,v6] (ω++[.ml (bC rs row)])=we (.ok (.lst (dS rs row)),ω++[.ml (bC rs row)]):=by
  have tl:(bC rs row).length<=rs.length:=ce (mf ..) (du ..);refine iB (ds:=bC rs row) (chk:=kZ ω.length (bC rs row)) (ω1:=ω++[.ml (bC rs row)]) ?_ (by rw[bw];omega) ?_
  ·unfold oIL;rw[bH (aB (d:=.obj ω.length) rfl)]
   have:rD (ω++[Ob.ml (bC rs row)]) (.obj ω.length)=we (bC rs row,kZ ω.length (bC rs row)):=by simp only[rD,hn]
   show oR (pu (rD (ω++[Ob.ml (bC rs row)]) (.obj ω.length)) _)=_;rw[this];rfl
  ·refine(dW (p:=fun d=> !Ga (aU d) (dH rs row)) (g:=fun d=>d) (fun ρ=>∃ u,ρ=[u,we (.lst ((dH rs row).map bQ))]) (xM hn) ⟨_,rfl⟩ fun d hd ρ hρ=> ?_).trans (by rw[List.map_id'];rfl);obtain⟨u,rfl⟩:=hρ;obtain⟨a,b,x,v,rfl,_⟩:=uR R hd;refine⟨_,rfl,⟨_,rfl⟩,?_,fun _=>aB rfl⟩;refine cE (fD (aK (aB (d:=.tup [.str x,mkD a b,.int v]) rfl) aR rfl) (aB (d:=.lst ((dH rs row).map bQ)) rfl) ?_)
   show(inO (fun d=>eqD 7 d (mkD a b)) ((dH rs row).map bQ)).map (fun k=>D.bl (!k))=_
   rw[As a b _ fun q hq=>(Gs R hq).mk];rfl
 refine aT rfl ?_;unfold kP;rw[aM (d:=.lst []) (ω1:=ω) rfl];rw[aM (d:=.obj ω.length) (ω1:=ω++[.ml []]) rfl];refine(bB (jB (by
  unfold cD oIL;rw[cJ (x:=(rs.map Rec.mark,kZ oo (rs.map Rec.mark))) (ω1:=ω++[Ob.ml []]) (by
   rw[bH (L1.gOrder (aB (d:=.obj h) rfl))]
   have:rD (ω++[Ob.ml []]) (.obj oo)=we (rs.map Rec.mark,kZ oo (rs.map Rec.mark)):=by simp only[rD,L1.order]
   show oR (pu (rD (ω++[Ob.ml []]) (.obj oo)) _)=_;rw[this];rfl)]
  exact e))).trans ?_
 refine bD (dF (aA cp aE) ?_)
 show(eX 4 (dS rs row)).map _=_
 rw[hs];rfl
theorem LawAt.setRow (L:LawAt B ω c h dd oo kk ks rs kn) (c0:0<c) (hi:i<c) (hj:j<c) (hd:ω[ks i]?=we (.ml ds)) (hD:RowsD ω c ds (kn i)) (hr:RowV ω d xs) (hx:xs.length=c):LawAt B (ω.set (ks i) (.ml (ds.set j d))) c h dd oo kk ks rs (upF kn i (upF (kn i) j xs)):=by
 have nr:=hD.noRow hd c0;obtain⟨o1,o2,o3,o4⟩:=L.out i hi;have x0:xs≠[]:=fun z=>by rw[z] at hx;simp at hx;omega
 refine⟨?_,?_,?_,?_,fun k hk=> ?_,fun a b ha hb=> ?_,L.inj,L.out,L.nd,L.low,⟨by simpa using L.bas.1,fun m hm=> ?_⟩,L.keys,L.ra⟩
 ·rw[aH (bt o1)];exact L.obj
 ·rw[aH (bt o2)];exact L.deeds
 ·rw[aH (bt o3)];exact L.order
 ·rw[aH (bt o4)];exact L.known
 ·by_cases hk2:k=i
  ·subst hk2;refine⟨ds.set j d,bT hd,by rw[cg];exact hD.1,fun b hb=> ?_⟩;rw[aZ]
   by_cases hb2:b=j
   ·subst hb2;rw[aZ];exact⟨d,dm (by rw[hD.1];exact hb),hr.set x0 nr⟩
   ·rw[aY hb2];obtain⟨d',e,r⟩:=hD.2 b hb;exact⟨d',by rw[fu (bt hb2)];exact e,r.set (L.len0 c0 hi hb) nr⟩
  ·rw[aY hk2];obtain⟨ds',e,r⟩:=L.row k hk;exact⟨ds',by rw[aH (L.inj k i hk hi hk2)];exact e,r.keep (fun d xs hx q=>q.set hx nr) fun b hb=>L.len0 c0 hk hb⟩
 ·by_cases hk2:a=i
  ·subst hk2;rw[aZ]
   by_cases hb2:b=j
   ·subst hb2;rw[aZ];exact hx
   ·rw[aY hb2];exact L.len _ _ ha hb
  ·rw[aY hk2];exact L.len _ _ ha hb
 ·rw[aH (by have:=L.low.2.2.2.2 i hi;omega)];exact L.bas.2 m hm
theorem LawAt.addRec (L:LawAt B ω c h dd oo kk ks rs kn) (c0:0<c) (hr:r.a<c) (hk:r.key∉rs.map Rec.key):LawAt B ((ω.set dd (.dt ((rs++[r]).map fun r=>(r.key,r.val)))).set oo (.ml ((rs++[r]).map Rec.mark))) c h dd oo kk ks (rs++[r]) kn:=by
 obtain⟨d1,d2,d3,d4,d5,d6⟩:=L.nd;have nd:=L.noDeeds;have no:pZ (ω.set dd (.dt ((rs++[r]).map fun r=>(r.key,r.val)))) oo:=fun y ys z=>by
  rw[aH (bt d4)] at z;exact L.noOrder y ys z
 refine⟨?_,?_,?_,?_,fun i hi=> ?_,L.len,L.inj,L.out,L.nd,L.low,⟨by simpa using L.bas.1,fun m hm=> ?_⟩,?_,fun q hq=> ?_⟩
 ·rw[aH d2,aH d1];exact L.obj
 ·rw[aH d4];exact bT L.deeds
 ·exact bT (by rw[aH (bt d4)];exact L.order)
 ·rw[aH (bt d6),aH (bt d5)];exact L.known
 ·obtain⟨ds,e,rr⟩:=L.row i hi;obtain⟨o1,o2,o3,o4⟩:=L.out i hi;exact⟨ds,by rw[aH o3,aH o2];exact e,rr.keep (fun d xs hx q=>(q.set hx nd).set hx no) fun j hj=>L.len0 c0 hi hj⟩
 ·obtain⟨m1,m2,m3,m4,m5⟩:=L.low;rw[aH (by omega),aH (by omega)];exact L.bas.2 m hm
 ·rw[cx,jm];refine⟨L.keys,by simp,fun a ha b hb z=>hk ?_⟩
  have:b=r.key:=by simpa using hb
  rw[<- this,<- z];exact ha
 ·rcases cz.mp hq with z|z
  ·exact L.ra q z
  ·rw[d9.mp z];exact hr
theorem sN (L:LawAt B ω c h dd oo kk ks rs kn) (c0:0<c) (hi:own'<c) (ha:r.a=own') (hb:(r.b:Int)=(kn own' own').getD own' 0+1) (hk:r.key∉rs.map Rec.key) (hl:rs.length<64):∃ ω',cT [.obj h,.int own',r.putD,.lst (r.outs.map bQ)] ω=we (.ok r.mark,ω')/\LawAt B ω' c h dd oo kk ks (rs++[r]) (upF kn own' (upF (kn own') own' ((kn own' own').set own' r.b)))/\ω.length<=ω'.length:=by
 obtain⟨ds,e1,D1⟩:=L.row own' hi;obtain⟨d,e2,R1⟩:=D1.ix e1 hi;obtain⟨xs,hxs⟩:∃ xs,xs=kn own' own':=⟨_,rfl⟩;have hlen:xs.length=c:=by rw[hxs];exact L.len _ _ hi hi
 rw[<- hxs] at R1 hb ⊢;obtain⟨ω2,hω2⟩:∃ ω2,ω2=ω++[Ob.ml (iv (xs.set own' r.b))]:=⟨_,rfl⟩;have L2:LawAt B ω2 c h dd oo kk ks rs kn:=by rw[hω2];exact L.app c0 _
 have s2:ω2[ω.length]?=we (.ml (iv (xs.set own' r.b))):=by rw[hω2];simp
 have e1':ω2[ks own']?=we (.ml ds):=by rw[hω2,aj (dO e1)];exact e1
 have D2:RowsD ω2 c ds (kn own'):=D1.keep (fun d xs _ q=>by rw[hω2];exact q.app _) fun j hj=>L.len0 c0 hi hj;have xr:(xs.set own' (r.b:Int)).length=c:=by rw[cg];exact hlen
 obtain⟨ω3,hω3⟩:∃ ω3,ω3=ω2.set (ks own') (.ml (ds.set own' (.obj ω.length))):=⟨_,rfl⟩;have L3:LawAt B ω3 c h dd oo kk ks rs (upF kn own' (upF (kn own') own' (xs.set own' r.b))):=by rw[hω3];exact L2.setRow c0 hi hi e1' D2 (bX s2) xr
 have nr2:=D2.noRow e1' c0;have s3:ω3[ω.length]?=we (.ml (iv (xs.set own' r.b))):=by
  have:=L.lts.2.2.2.2 own' hi
  rw[hω3,aH (by omega)];exact s2
 have L4:=L3.addRec (r:=r) c0 (by omega) hk;have key:r.key=fN own' r.b:=by unfold Rec.key;rw[ha]
 have mk:r.mark=mkD own' r.b:=by unfold Rec.mark;rw[ha]
 have ix3:bF ω3 (.obj ω.length) (.int own')=we (.int r.b):=by
  have:=(bX s3).ix (a:=own') (by omega) (by rw[xr];omega)
  rw[this,c5,eQ _ _ _ _ (by omega),if_pos rfl]
 refine⟨_,?_,L4,by rw[cg,cg,hω3,cg,hω2];simp⟩;refine aT rfl ?_;unfold oF;refine(aM (d:=.obj ω.length) (ω1:=ω++[.ml (iv xs)]) (dF (aA (aK (aK (L.gKnown (aB rfl)) (aB (d:=.int own') rfl) (L.ixKnown hi)) (aB (d:=.int own') rfl) e2) aE) (by
  have:dN ω d=we (iv xs):=by
   rcases eN R1 with rfl|⟨n,rfl,e⟩
   ·rfl
   ·simp only[dN,fL,e]
  show rC ω [d]=_;simp only[rC,this];rfl))).trans ?_
 have s1:(ω++[Ob.ml (iv xs)])[ω.length]?=we (.ml (iv xs)):=by simp
 have ix1:bF (ω++[Ob.ml (iv xs)]) (.obj ω.length) (.int own')=we (.int (xs.getD own' 0)):=by
  have:=(bX s1).ix (a:=own') (by omega) (by rw[hlen];omega)
  rw[this,c5]
 refine(bB (eK (v:=.int r.b) (o:=.obj ω.length) (i:=.int own') (ω4:=ω2) (by
  have:=rF (ω:=ω++[Ob.ml (iv xs)]) (f:=o2 (fun ω a b=>pu (bF ω a b) ω) (oP (aD 4)) (oP (aD 1))) (h:=oP (dC (.int 1))) (ρ:=(bV pP [.obj h,.int own',r.putD,.lst (r.outs.map bQ)]).set 4 (we (.obj ω.length))) (aK (aB (d:=.obj ω.length) rfl) (aB (d:=.int own') rfl) ix1) aR
  rw[hb];exact this) (aB rfl) (aB rfl) (by
  rw[lD s1 (by unfold iv;rw[ar];omega),sA,hω2];unfold iv;rw[uu]))).trans ?_
 refine(bB (eK (v:=.obj ω.length) (o:=.obj (ks own')) (i:=.int own') (ω4:=ω3) (aB rfl) (aK (L2.gKnown (aB (d:=.obj h) rfl)) (aB (d:=.int own') rfl) (L2.ixKnown hi)) (aB rfl) (by rw[lD e1' (by rw[D1.1];exact hi),hω3]))).trans ?_;refine(bB (eK (v:=r.val) (o:=.obj dd) (i:=r.mark) (ω4:=ω3.set dd (.dt ((rs++[r]).map fun r=>(r.key,r.val)))) (dF (aA (aB (d:=r.putD) rfl) (aA (aB (d:=.lst (r.outs.map bQ)) rfl) aE)) rfl) (L3.gDeeds (aB (d:=.obj h) rfl)) (dF (aA (aB (d:=.int own') rfl) (aA (aK (aB (d:=.obj ω.length) rfl) (aB (d:=.int own') rfl) ix3) aE)) (by rw[mk];rfl)) (by
  rw[oS (ks:=r.key) L3.deeds rfl (by rw[ar,bw];omega),sE (by rw[jc];exact hk),cx];rfl))).trans ?_
 obtain⟨d1,d2,d3,d4,d5,d6⟩:=L.nd;have o4:(ω3.set dd (.dt ((rs++[r]).map fun r=>(r.key,r.val))))[oo]?=we (.ml (rs.map Rec.mark)):=by rw[aH (bt d4)];exact L3.order
 have h4:(ω3.set dd (.dt ((rs++[r]).map fun r=>(r.key,r.val))))[h]?=we (.dk [(.inr "count",.int c),(.inr "deeds",.obj dd),(.inr "order",.obj oo),(.inr "known",.obj kk)]):=by rw[aH d1];exact L3.obj
 have dlt:=L.lts.2.1;have s4:(ω3.set dd (.dt ((rs++[r]).map fun r=>(r.key,r.val))))[ω.length]?=we (.ml (iv (xs.set own' r.b))):=by rw[aH (by omega)];exact s3
 have ix4:bF (ω3.set dd (.dt ((rs++[r]).map fun r=>(r.key,r.val)))) (.obj ω.length) (.int own')=we (.int r.b):=by
  have:=(bX s4).ix (a:=own') (by omega) (by rw[xr];omega)
  rw[this,c5,eQ _ _ _ _ (by omega),if_pos rfl]
 refine(bB (ρ1:=[we (.obj h),we (.int own'),we r.putD,we (.lst (r.outs.map bQ)),we (.obj ω.length)]) (ω1:=(ω3.set dd (.dt ((rs++[r]).map fun r=>(r.key,r.val)))).set oo (.ml ((rs++[r]).map Rec.mark))) (by
  unfold cB;rw[cJ (kL (r:=.non) (ω3:=(ω3.set dd (.dt ((rs++[r]).map fun r=>(r.key,r.val)))).set oo (.ml ((rs++[r]).map Rec.mark))) (eP (aB (d:=.obj h) rfl) aR (d:=.obj oo) (ω3:=ω3.set dd (.dt ((rs++[r]).map fun r=>(r.key,r.val)))) (by
   show pu (cK _ (.obj h) (.str "order")) _=_
   have:cK (ω3.set dd (.dt ((rs++[r]).map fun r=>(r.key,r.val)))) (.obj h) (.str "order")=we (.obj oo):=by
    simp only[cK,Ec,cellOf,h4,toK];rfl
   rw[this];rfl)) o4 (aA (dF (d:=r.mark) (aA (aB (d:=.int own') rfl) (aA (aK (aB (d:=.obj ω.length) rfl) (aB (d:=.int own') rfl) ix4) aE)) (by rw[mk];rfl)) aE) (by
   simp only[kT,o4];rw[if_pos (by rw[ar,bw];omega),show(rs++[r]).map Rec.mark=rs.map Rec.mark++[r.mark] from by simp]))]
  rfl)).trans ?_
 have olt:=L.lts.2.2.1;have s5:((ω3.set dd (.dt ((rs++[r]).map fun r=>(r.key,r.val)))).set oo (.ml ((rs++[r]).map Rec.mark)))[ω.length]?=we (.ml (iv (xs.set own' r.b))):=by rw[aH (by omega)];exact s4
 refine bD (dF (aA (aB (d:=.int own') rfl) (aA (aK (d:=.int r.b) (aB (d:=.obj ω.length) rfl) (aB (d:=.int own') rfl) (by
  have:=(bX s5).ix (a:=own') (by omega) (by rw[xr];omega)
  rw[this,c5,eQ _ _ _ _ (by omega),if_pos rfl])) aE)) (by rw[mk];rfl))
end
noncomputable def mo (kn:Nat->Nat->List Int) (one other k j:Nat):Int:=if k=other then mx (mx ((kn one k).getD j 0) ((kn other k).getD j 0)) ((kn one one).getD j 0) else mx ((kn one k).getD j 0) ((kn other k).getD j 0)
noncomputable def moR (c:Nat) (kn:Nat->Nat->List Int) (one other k:Nat):List Int:=(bu c).map (mo kn one other k)
section
variable {B ω0:Om}{c h dd oo kk:Nat}{ks:Nat->Nat}{rs:List Rec}{kn:Nat->Nat->List Int}{one other:Nat}
theorem LawAt.ixRow (L:LawAt B ω0 c h dd oo kk ks rs kn) (g:∀ n:Nat,n<ω0.length->ω[n]?=ω0[n]?) (hi:i<c) (hj:j<c):∃ d,bF ω (.obj (ks i)) (.int j)=we d/\RowV ω d (kn i j):=by
 obtain⟨ds,e,r⟩:=L.row i hi;obtain⟨d,e1,r1⟩:=r.2 j hj;have e':ω[ks i]?=we (.ml ds):=by rw[g _ (dO e)];exact e
 exact⟨d,by rw[iI e'];exact rS e1,r1.keep fun n q=>by rw[g n (dO q)];exact q⟩
theorem qE (L:LawAt B ω0 c h dd oo kk ks rs kn) (c8:c<=8) (h1:one<c) (h2:other<c) (hk:k<c) (hq:ω0.length<=q):∀(r s:Nat) {ω:Om}{v9 v10:Option D},(∀ n:Nat,n<ω0.length->ω[n]?=ω0[n]?)->ω[q]?=we (.ml (iv ((bu s).map (mo kn one other k))))->s+r=c->
  ∃ v9' v10',bZ (bG 9) cM cQ (pT s r) [v0,we (.int one),we (.int other),we (.obj (ks one)),we (.obj (ks other)),v5,v6,we (.int k),we (.obj q),v9,v10] ω=we (.nx [v0,we (.int one),we (.int other),we (.obj (ks one)),we (.obj (ks other)),v5,v6,we (.int k),we (.obj q),v9',v10'],ω.set q (.ml (iv (moR c kn one other k))))
 |0,s,ω,v9,v10,g,e,hs=>⟨v9,v10,by
   have:s=c:=by omega
   subst this;show we (OOut.nx _,ω)=_;rw[show moR s kn one other k=(bu s).map (mo kn one other k) from rfl,fW e]⟩
 |r+1,s,ω,v9,v10,g,e,hs=>by
  have hsc:s<c:=by omega
  obtain⟨d1,i1,r1⟩:=L.ixRow g h1 hk;obtain⟨d2,i2,r2⟩:=L.ixRow g h2 hk;obtain⟨d3,i3,r3⟩:=L.ixRow g h1 h1;have rx:∀ {d:D}{xs:List Int},RowV ω d xs->xs.length=c->bF ω d (.int s)=we (.int (xs.getD s 0)):=fun {d xs} rr hx=>by
   have:=rr.ix (a:=s) (by omega) (by omega)
   rw[this,c5]
  have b1:∃ v10',cQ [v0,we (.int one),we (.int other),we (.obj (ks one)),we (.obj (ks other)),v5,v6,we (.int k),we (.obj q),we (.int s),v10] ω=we (.nx [v0,we (.int one),we (.int other),we (.obj (ks one)),we (.obj (ks other)),v5,v6,we (.int k),we (.obj q),we (.int s),v10'],ω.set q (.ml (iv ((bu (s+1)).map (mo kn one other k))))):=by
   refine⟨we (.int (mo kn one other k s)),?_⟩;unfold cQ;rw[aM (d:=.int (mx ((kn one k).getD s 0) ((kn other k).getD s 0))) (ω1:=ω) (dF (aA (aK (aK (aB (d:=.obj (ks one)) rfl) (aB (d:=.int k) rfl) i1) (aB (d:=.int s) rfl) (rx r1 (L.len _ _ h1 hk))) (aA (aK (aK (aB (d:=.obj (ks other)) rfl) (aB (d:=.int k) rfl) i2) (aB (d:=.int s) rfl) (rx r2 (L.len _ _ h2 hk))) aE)) rfl)];have mid:dR (cC (o2 (fV 8) (oP (aD 7)) (oP (aD 2)))) (aV 10 (oL (lfL vW) (aC (oP (aD 10)) (aC (o2 (fun ω a b=>pu (bF ω a b) ω) (o2 (fun ω a b=>pu (bF ω a b) ω) (oP (aD 3)) (oP (aD 1))) (oP (aD 9))) aQ)))) bN [v0,we (.int one),we (.int other),we (.obj (ks one)),we (.obj (ks other)),v5,v6,we (.int k),we (.obj q),we (.int s),we (.int (mx ((kn one k).getD s 0) ((kn other k).getD s 0)))] ω=we (.nx [v0,we (.int one),we (.int other),we (.obj (ks one)),we (.obj (ks other)),v5,v6,we (.int k),we (.obj q),we (.int s),we (.int (mo kn one other k s))],ω):=by
    have t:=JS (ω:=ω) (ρ:=[v0,we (.int one),we (.int other),we (.obj (ks one)),we (.obj (ks other)),v5,v6,we (.int k),we (.obj q),we (.int s),we (.int (mx ((kn one k).getD s 0) ((kn other k).getD s 0)))]) (k:=7) (l:=2) (a:=(k:Int)) (b:=(other:Int)) rfl rfl
    by_cases hko:k=other
    ·rw[decide_eq_true (by omega:(k:Int)=other)] at t;rw[jM t,AM (d:=.int (mo kn one other k s)) (ω1:=ω) (dF (aA (aB (d:=.int (mx ((kn one k).getD s 0) ((kn other k).getD s 0))) rfl) (aA (aK (aK (aB (d:=.obj (ks one)) rfl) (aB (d:=.int one) rfl) i3) (aB (d:=.int s) rfl) (rx r3 (L.len _ _ h1 h1))) aE)) (by
      unfold mo;rw[if_pos hko];rfl))]
     rfl
    ·rw[decide_eq_false (by omega:¬(k:Int)=other)] at t;rw[lF t];unfold mo;rw[if_neg hko];rfl
   refine(bB mid).trans ?_;unfold cB;rw[cJ (kL (r:=.non) (ω3:=ω.set q (.ml (iv ((bu (s+1)).map (mo kn one other k))))) (aB (d:=.obj q) rfl) e (aA (aB (d:=.int (mo kn one other k s)) rfl) aE) (by
    simp only[kT,e];rw[if_pos (by unfold iv;rw[ar,ar,ib,bw];omega),ox];unfold iv;rw[cx,cx];rfl))]
  obtain⟨w10,b1⟩:=b1;obtain⟨u9,u10,e2⟩:=qE L c8 h1 h2 hk hq (v0:=v0) (v5:=v5) (v6:=v6) r (s+1) (ω:=ω.set q (.ml (iv ((bu (s+1)).map (mo kn one other k))))) (v9:=we (.int s)) (v10:=w10) (fun n hn=>by rw[aH (by omega)];exact g n hn) (bT e) (by omega);refine⟨u9,u10,?_⟩;rw[ow] at e2;rw[fQ];refine(gH rfl rfl (b1)).trans ?_;exact e2
noncomputable def AQ (ω:Om) (lo m s:Nat) (ds:List D) (q:Nat->List Int):Prop:=ω[m]?=we (.ml ds)/\ds.length=s/\∀ j,j<s->∃ n,ds[j]?=we (.obj n)/\ω[n]?=we (.ml (iv (q j)))/\n≠m/\lo<=n
theorem qD (L:LawAt B ω0 c h dd oo kk ks rs kn) (c0:0<c) (c8:c<=8) (h1:one<c) (h2:other<c) (hm:ω0.length<=m):∀(r s:Nat) {ω:Om}{ds:List D}{v7 v8 v9 v10:Option D},(∀ n:Nat,n<ω0.length->ω[n]?=ω0[n]?)->ω0.length<=ω.length->AQ ω ω0.length m s ds (moR c kn one other)->s+r=c->
  ∃ ω' ds' v7' v8' v9' v10',bZ (bG 7) cM cP (pT s r) [we (.obj h),we (.int one),we (.int other),we (.obj (ks one)),we (.obj (ks other)),v5,we (.obj m),v7,v8,v9,v10] ω=we (.nx [we (.obj h),we (.int one),we (.int other),we (.obj (ks one)),we (.obj (ks other)),v5,we (.obj m),v7',v8',v9',v10'],ω')/\(∀ n:Nat,n<ω0.length->ω'[n]?=ω0[n]?)/\ω0.length<=ω'.length/\AQ ω' ω0.length m c ds' (moR c kn one other)
 |0,s,ω,ds,v7,v8,v9,v10,g,gl,M,hs=>by
  have:s=c:=by omega
  subst this;exact⟨ω,ds,v7,v8,v9,v10,rfl,g,gl,M⟩
 |r+1,s,ω,ds,v7,v8,v9,v10,g,gl,M,hs=>by
  obtain⟨M1,M2,M3⟩:=M;have mlt:=dO M1;have g1:∀ n:Nat,n<ω0.length->(ω++[Ob.ml []])[n]?=ω0[n]?:=fun n hn=>by rw[aj (by omega)];exact g n hn
  obtain⟨u9,u10,e1⟩:=qE L c8 h1 h2 (k:=s) (q:=ω.length) (by omega) gl (v0:=we (.obj h)) (v5:=v5) (v6:=we (.obj m)) c 0 (ω:=ω++[Ob.ml []]) (v9:=v9) (v10:=v10) g1 (by simp[iv]) (by omega);rw[sA] at e1;have M1':(ω++[Ob.ml (iv (moR c kn one other s))])[m]?=we (.ml ds):=by rw[aj mlt];exact M1
  obtain⟨ω2,hω2⟩:∃ ω2,ω2=(ω++[Ob.ml (iv (moR c kn one other s))]).set m (.ml (ds++[.obj ω.length])):=⟨_,rfl⟩;have L1:LawAt B (ω++[Ob.ml []]) c h dd oo kk ks rs kn:=L.mono c0 (by simp;omega) g1;have b2:cP [we (.obj h),we (.int one),we (.int other),we (.obj (ks one)),we (.obj (ks other)),v5,we (.obj m),we (.int s),v8,v9,v10] ω=we (.nx [we (.obj h),we (.int one),we (.int other),we (.obj (ks one)),we (.obj (ks other)),v5,we (.obj m),we (.int s),we (.obj ω.length),u9,u10],ω2):=by
   unfold cP;rw[aM (d:=.obj ω.length) (ω1:=ω++[.ml []]) rfl];refine(bB (jB (by
    unfold cD;rw[cJ (lN (c:=c) (L1.gCount (aB (d:=.obj h) rfl)) (by omega))];exact e1))).trans ?_
   unfold cB;rw[cJ (kL (r:=.non) (ω3:=ω2) (aB (d:=.obj m) rfl) M1' (aA (aB (d:=.obj ω.length) rfl) aE) (by
    simp only[kT,M1'];rw[if_pos (by rw[bw];omega),hω2]))]
  have g2:∀ n:Nat,n<ω0.length->ω2[n]?=ω0[n]?:=fun n hn=>by rw[hω2,aH (by omega),aj (by omega)];exact g n hn
  have l2:ω2.length=ω.length+1:=by rw[hω2];simp
  have Md:AQ ω2 ω0.length m (s+1) (ds++[.obj ω.length]) (moR c kn one other):=by
   refine⟨by rw[hω2];exact bT M1',by simp[M2],fun j hj=> ?_⟩
   by_cases hjs:j<s
   ·obtain⟨n,a1,a2,a3,a4⟩:=M3 j hjs;refine⟨n,by rw[aj (by omega)];exact a1,?_,a3,a4⟩;rw[hω2,aH a3,aj (dO a2)];exact a2
   ·have:j=s:=by omega
    subst this;refine⟨ω.length,by rw[cr (by omega),M2];simp,?_,by omega,gl⟩;rw[hω2,aH (by omega)];simp
  obtain⟨ω',ds',w7,w8,w9,w10,e2,g3,l3,M4⟩:=qD L c0 c8 h1 h2 hm (v5:=v5) r (s+1) (v7:=we (.int s)) (v8:=we (.obj ω.length)) (v9:=u9) (v10:=u10) g2 (by omega) Md (by omega);refine⟨ω',ds',w7,w8,w9,w10,?_,g3,l3,M4⟩;rw[fQ];refine(gH rfl rfl (b2)).trans ?_;exact e2
theorem Co (e:f ρ ω=we (.ok d,ω)) (r:RowV ω d xs):oL xY (aC f aQ) ρ ω=we (.ok (.int xs.sum),ω):=by
 refine dF (aA e aE) ?_;have r':fL ω d=we (iv xs):=r;simp only[xY,r']
 show(kC (iv xs)).map _=_
 rw[mX];rfl
theorem iE (L:LawAt B ω0 c h dd oo kk ks rs kn) (c0:0<c) (c8:c<=8) (h1:one<c) (h2:other<c):∃ ω' ks',cU [.obj h,.int one,.int other] ω0=we (.ok (.int ((moR c kn one other other).sum-(kn other other).sum)),ω')/\LawAt B ω' c h dd oo kk ks' rs (upF kn other (moR c kn one other))/\ω0.length<=ω'.length:=by
 obtain⟨l1,l2,l3,l4,l5⟩:=L.lts;obtain⟨d0,i0,r0⟩:=L.ixRow (ω:=ω0) (fun _ _=>rfl) h2 h2;have g1:∀ n:Nat,n<ω0.length->(ω0++[Ob.ml []])[n]?=ω0[n]?:=fun n hn=>aj hn;have M0:AQ (ω0++[Ob.ml []]) ω0.length ω0.length 0 [] (moR c kn one other):=⟨by simp,rfl,fun j hj=>by omega⟩;obtain⟨ω5,ds,v7,v8,v9,v10,e5,g5,ll5,M1,M2,M3⟩:=qD L c0 c8 h1 h2 (bc ω0.length) (v5:=we (.int (kn other other).sum)) c 0 (v7:=wf) (v8:=wf) (v9:=wf) (v10:=wf) g1 (by simp) M0 (by omega);have L5:LawAt B ω5 c h dd oo kk ks rs kn:=L.mono c0 ll5 g5;have L1:LawAt B (ω0++[Ob.ml []]) c h dd oo kk ks rs kn:=L.app c0 _;obtain⟨ω6,hω6⟩:∃ ω6,ω6=ω5.set kk (.ml ((bu c).map fun i=>.obj (upF ks other ω0.length i))):=⟨_,rfl⟩;have kset:((bu c).map fun i=>D.obj (ks i)).set other (.obj ω0.length)=(bu c).map fun i=>.obj (upF ks other ω0.length i):=by
  apply jl;intro i
  by_cases hi:i=other
  ·subst hi;rw[dm (by rw[ar,ib];exact h2),bf,g7 h2];show _=we (D.obj (upF ks i ω0.length i));rw[aZ]
  ·rw[fu (bt hi),bf,bf];cases hq:(bu c)[i]? with
   |none=>rfl
   |some j=>
    have hj:j=i:=by
     obtain⟨hlt,e⟩:=bh.mp hq;rw[pf] at e;exact e.symm
    subst hj;show we (D.obj (ks j))=we (D.obj (upF ks other ω0.length j));rw[aY hi]
 have moL:∀ k,(moR c kn one other k).length=c:=fun k=>by unfold moR;simp
 have nk:pZ ω5 kk:=fun y ys z=>by
  rw[L5.known] at z;injection z with z
  injection z with z
  have:D.int y∈(bu c).map fun i=>D.obj (ks i):=by rw[z];exact au
  obtain⟨i,_,e⟩:=ax.mp this;cases e
 obtain⟨d1,d2,d3,d4,d5,d6⟩:=L.nd;have L6:LawAt B ω6 c h dd oo kk (upF ks other ω0.length) rs (upF kn other (moR c kn one other)):=by
  rw[hω6];refine⟨?_,?_,?_,bT L5.known,fun i hi=> ?_,fun i j hi hj=> ?_,fun i j hi hj hne=> ?_,fun i hi=> ?_,L.nd,⟨L.low.1,L.low.2.1,L.low.2.2.1,L.low.2.2.2.1,fun i hi=> ?_⟩,⟨by simpa using L5.bas.1,fun n hn=> ?_⟩,L.keys,L.ra⟩
  ·rw[aH d3];exact L5.obj
  ·rw[aH d5];exact L5.deeds
  ·rw[aH d6];exact L5.order
  ·by_cases hio:i=other
   ·subst hio;rw[aZ,aZ];refine⟨ds,by rw[aH (by omega)];exact M1,M2,fun j hj=> ?_⟩;obtain⟨n,a1,a2,a3,a4⟩:=M3 j hj;exact⟨.obj n,a1,bX (by rw[aH (by omega)];exact a2)⟩
   ·rw[aY hio,aY hio];obtain⟨ds',e,r⟩:=L5.row i hi;exact⟨ds',by rw[aH (L.out i hi).2.2.2];exact e,r.keep (fun d xs hx q=>q.set hx nk) fun j hj=>L.len0 c0 hi hj⟩
  ·by_cases hio:i=other
   ·subst hio;rw[aZ];exact moL j
   ·rw[aY hio];exact L.len i j hi hj
  ·by_cases hio:i=other
   ·subst hio;rw[aZ,aY (bt hne)]
    have:=l5 j hj
    omega
   ·rw[aY hio]
    by_cases hjo:j=other
    ·subst hjo;rw[aZ]
     have:=l5 i hi
     omega
    ·rw[aY hjo];exact L.inj i j hi hj hne
  ·by_cases hio:i=other
   ·subst hio;rw[aZ];omega
   ·rw[aY hio];exact L.out i hi
  ·by_cases hio:i=other
   ·subst hio;rw[aZ];exact L.bas.1
   ·rw[aY hio];exact L.low.2.2.2.2 i hi
  ·rw[aH (by have:=L.low.2.2.2.1;omega)];exact L5.bas.2 n hn
 refine⟨ω6,upF ks other ω0.length,?_,L6,by rw[hω6];simpa using ll5⟩;refine aT rfl ?_;unfold iF;refine(aM (aK (L.gKnown (aB (d:=.obj h) rfl)) (aB (d:=.int one) rfl) (L.ixKnown h1))).trans ?_;refine(aM (aK (L.gKnown (aB (d:=.obj h) rfl)) (aB (d:=.int other) rfl) (L.ixKnown h2))).trans ?_;refine(aM (Co (aK (aB (d:=.obj (ks other)) rfl) (aB (d:=.int other) rfl) i0) r0)).trans ?_;refine(aM (d:=.obj ω0.length) (ω1:=ω0++[.ml []]) rfl).trans ?_;refine(bB (jB (by
  unfold cD;rw[cJ (lN (c:=c) (L1.gCount (aB (d:=.obj h) rfl)) (by omega))];exact e5))).trans ?_
 refine(bB (eK (ω4:=ω6) (aB (d:=.obj ω0.length) rfl) (L5.gKnown (aB (d:=.obj h) rfl)) (aB (d:=.int other) rfl) (by rw[lD L5.known (by rw[ar,ib];exact h2),kset,hω6]))).trans ?_;obtain⟨n,a1,a2,a3,a4⟩:=M3 other h2;have m6:ω6[ω0.length]?=we (.ml ds):=by rw[hω6,aH (by omega)];exact M1
 have n6:ω6[n]?=we (.ml (iv (moR c kn one other other))):=by rw[hω6,aH (by omega)];exact a2
 exact bD (AD (Co (aK (aB (d:=.obj ω0.length) rfl) (aB (d:=.int other) rfl) (by rw[iI m6];exact rS a1)) (bX n6)) (aB rfl))
end
theorem Di {c:Nat} (c8:c<=8):∀(m s:Nat) (u:Option D) (ω:Om),∃(ω':Om) (ks:Nat->Nat),compLO (bG 0) cM (oPT mT) (eE GN (oIA jA (aC (oP (aD 1)) aQ)) [wf,we 1] (bG 0) (oPT mT) (o2 xZ (oL (fun ω ds=>pu (eR ds) ω) (aC (oP (dC (.int 0))) aQ)) (oP (aD 1)))) (pT s m) [u,we (.int c)] ω=we ((cw s m).map fun i=>D.obj (ks i),ω')/\
  (∀ i,s<=i->i<s+m->∃ ds,ω'[ks i]?=we (.ml ds)/\RowsD ω' c ds (fun _=>ao c 0))/\(∀ i,s<=i->i<s+m->ω.length<=ks i)/\(∀ i,s<=i->i<s+m->∀ j,s<=j->j<s+m->i≠j->ks i≠ks j)/\Keep [] ω ω'
 |0,s,u,ω=>⟨ω,fun _=>0,rfl,fun i h1 h2=>by omega,fun i h1 h2=>by omega,fun i h1 h2=>by omega,Keep.refl _ _⟩
 |m+1,s,u,ω=>by
  have fill:=yE c8 (pT 0 c) wf ω;rw[fK] at fill;obtain⟨ω1,hω1⟩:∃ ω1,ω1=ω++ao c (Ob.ml (iv (ao c 0))):=⟨_,rfl⟩;rw[<- hω1] at fill;have l1:ω1.length=ω.length+c:=by rw[hω1];simp
  have one:eE GN (oIA jA (aC (oP (aD 1)) aQ)) [wf,we 1] (bG 0) (oPT mT) (o2 xZ (oL (fun ω ds=>pu (eR ds) ω) (aC (oP (dC (.int 0))) aQ)) (oP (aD 1))) [we (.int s),we (.int c)] ω=we (.ok (.obj ω1.length),ω1++[.ml ((cw ω.length c).map D.obj)]):=nQ (lN (c:=c) (aB rfl) (by omega)) (by rw[fK,bw];omega) fill;obtain⟨ω2,hω2⟩:∃ ω2,ω2=ω1++[Ob.ml ((cw ω.length c).map D.obj)]:=⟨_,rfl⟩;rw[<- hω2] at one;have l2:ω2.length=ω.length+c+1:=by rw[hω2];simp[l1]
  have k2:∀ n:Nat,n<ω.length->ω2[n]?=ω[n]?:=fun n hn=>by rw[hω2,aj (by omega),hω1,aj hn]
  have d2:ω2[ω1.length]?=we (.ml ((cw ω.length c).map D.obj)):=by rw[hω2];simp
  have r2:∀ j,j<c->ω2[ω.length+j]?=we (.ml (iv (ao c 0))):=fun j hj=>by
   rw[hω2,aj (by omega),hω1,cr (by omega),fg,if_pos (by omega)]
  obtain⟨ω3,ks,e3,R3,F3,A3,K3⟩:=Di c8 m (s+1) (we (.int s)) ω2;have g3:∀ n:Nat,n<ω2.length->ω3[n]?=ω2[n]?:=fun n hn=>K3.2 n hn (by simp);refine⟨ω3,upF ks s ω1.length,?_,fun i h1 h2=> ?_,fun i h1 h2=> ?_,fun i h1 h2 j h3 h4 hne=> ?_,⟨by have:=K3.1;omega,fun n hn _=> ?_⟩⟩
  ·rw[fQ];refine(pE rfl rfl (one)).trans ?_
   show(compLO _ _ _ _ (pT ((s+1:Nat):Int) m) _ _).map _=_
   rw[e3,j4,bg];show we (_::_,_)=_
   congr 3
   ·rw[aZ]
   ·apply f7;intro i hi;rw[mv] at hi;rw[aY (by omega)]
  ·by_cases hi:i=s
   ·subst hi;rw[aZ];refine⟨_,by rw[g3 _ (by omega)];exact d2,by simp,fun j hj=>⟨.obj (ω.length+j),?_,bX (by rw[g3 _ (by omega)];exact r2 j hj)⟩⟩;rw[bf,List.getElem?_range' hj];simp
   ·rw[aY hi];exact R3 i (by omega) (by omega)
  ·by_cases hi:i=s
   ·subst hi;rw[aZ];omega
   ·rw[aY hi]
    have:=F3 i (by omega) (by omega)
    omega
  ·by_cases hi:i=s
   ·subst hi;rw[aZ,aY (bt hne)]
    have:=F3 j (by omega) (by omega)
    omega
   ·rw[aY hi]
    by_cases hj:j=s
    ·subst hj;rw[aZ]
     have:=F3 i (by omega) (by omega)
     omega
    ·rw[aY hj];exact A3 i (by omega) (by omega) j (by omega) (by omega) hne
  ·rw[g3 n (by omega)];exact k2 n hn
theorem Br {c:Nat} (c0:0<c) (c8:c<=8) (ω:Om):∃ ω' h dd oo kk ks,nL [.int c] ω=we (.ok (.obj h),ω')/\LawAt ω ω' c h dd oo kk ks [] (fun _ _=>ao c 0):=by
 obtain⟨ω2,hω2⟩:∃ ω2:Om,ω2=ω++[Ob.dk [(.inr "count",.int c),(.inr "deeds",.obj (ω.length+1)),(.inr "order",.obj (ω.length+2))],.dt [],.ml []]:=⟨_,rfl⟩;have l2:ω2.length=ω.length+3:=by rw[hω2];simp
 have h2:ω2[ω.length]?=we (.dk [(.inr "count",.int c),(.inr "deeds",.obj (ω.length+1)),(.inr "order",.obj (ω.length+2))]):=by rw[hω2];simp
 have d2:ω2[ω.length+1]?=we (.dt []):=by rw[hω2,cr (by omega)];simp
 have o2':ω2[ω.length+2]?=we (.ml []):=by rw[hω2,cr (by omega)];simp
 have k2:∀ n:Nat,n<ω.length->ω2[n]?=ω[n]?:=fun n hn=>by rw[hω2,aj hn]
 have disp:Bh [("count",(oP (aD 0))),("deeds",sK),("order",(oL Gz aQ))] (bV iO [.int c]) ω=we (.ok (.obj ω.length),ω2):=by
  unfold Bh;have e:oVs [oP (aD 0),sK,oL Gz aQ] (bV iO [.int c]) (ω++[.dk []])=we (.ok [.int c,.obj (ω.length+1),.obj (ω.length+2)],ω++[Ob.dk [],.dt [],.ml []]):=by
   refine aA (aB (d:=.int c) rfl) (aA (a:=.obj (ω.length+1)) (ω1:=ω++[Ob.dk [],.dt []]) (by
    show we (Rz.ok (D.obj (ω++[Ob.dk []]).length),(ω++[Ob.dk []])++[Ob.dt []])=_;simp) (aA (a:=.obj (ω.length+2)) (ω1:=ω++[Ob.dk [],.dt [],.ml []]) (by
    show we (Rz.ok (D.obj (ω++[Ob.dk [],Ob.dt []]).length),(ω++[Ob.dk [],Ob.dt []])++[Ob.ml []])=_;simp) aE))
  show(match oVs [oP (aD 0),sK,oL Gz aQ] (bV iO [.int c]) (ω++[.dk []]) with
   |none=>wf
   |some (.ex c,ω2)=>we (Rz.ex c,ω2)
   |some (.ok ds,ω2)=>if 3<=15/\Bx ω2 ω.length=true then we (Rz.ok (D.obj ω.length),ω2.set ω.length (.dk (Ha [(.inr "count":Key),.inr "deeds",.inr "order"] ds))) else wf)=_
  rw[e]
  show(if 3<=15/\Bx (ω++[Ob.dk [],.dt [],.ml []]) ω.length=true then we (Rz.ok (D.obj ω.length),(ω++[Ob.dk [],.dt [],.ml []]).set ω.length (.dk [((.inr "count":Key),D.int c),(.inr "deeds",.obj (ω.length+1)),(.inr "order",.obj (ω.length+2))])) else wf)=_
  rw[if_pos ⟨by decide,by unfold Bx;simp⟩,hω2];simp
 obtain⟨ω3,ks,e3,R3,F3,A3,K3⟩:=Di c8 c 0 wf ω2;have g3:∀ n:Nat,n<ω2.length->ω3[n]?=ω2[n]?:=fun n hn=>K3.2 n hn (by simp);have l3:=K3.1;obtain⟨ω4,hω4⟩:∃ ω4,ω4=ω3++[Ob.ml ((bu c).map fun i=>.obj (ks i))]:=⟨_,rfl⟩;have k4:ω4[ω3.length]?=we (.ml ((bu c).map fun i=>.obj (ks i))):=by rw[hω4];simp
 have g4:∀ n:Nat,n<ω3.length->ω4[n]?=ω3[n]?:=fun n hn=>by rw[hω4,aj hn]
 obtain⟨ω5,hω5⟩:∃ ω5,ω5=ω4.set ω.length (.dk [(.inr "count",.int c),(.inr "deeds",.obj (ω.length+1)),(.inr "order",.obj (ω.length+2)),(.inr "known",.obj ω3.length)]):=⟨_,rfl⟩;have h4:ω4[ω.length]?=we (.dk [(.inr "count",.int c),(.inr "deeds",.obj (ω.length+1)),(.inr "order",.obj (ω.length+2))]):=by rw[g4 _ (by omega),g3 _ (by omega)];exact h2
 have nrh:pZ ω4 ω.length:=fun y ys z=>by rw[h4] at z;cases z
 refine⟨ω5,ω.length,ω.length+1,ω.length+2,ω3.length,ks,?_,?_⟩
 ·refine aT rfl ?_;unfold vU;refine(aM disp).trans ?_;refine(bB (eK (v:=.obj ω3.length) (ω1:=ω4) (o:=.obj ω.length) (i:=.str "known") (ω4:=ω5) (by
   have:=nQ (fi:=oIA jA (aC (oP (aD 0)) aQ)) (caps:=[wf,we 0]) (ρ:=(bV iO [.int c]).set 1 (we (.obj ω.length))) (ω:=ω2) (lN (c:=c) (aB rfl) (by omega)) (by rw[fK,bw];omega) e3
   rw[<- tj,<- hω4] at this;exact this) (aB rfl) aR (by
   simp only[mC,h4]
   show(if 3<sizeLine then we (ω4.set ω.length (.dk [((.inr "count":Key),D.int c),(.inr "deeds",.obj (ω.length+1)),(.inr "order",.obj (ω.length+2)),(.inr "known",.obj ω3.length)])) else wf)=_
   rw[if_pos (by rw[bw];decide),hω5]))).trans ?_
  exact bD (aB rfl)
 ·have lks:∀ i,i<c->ω.length+3<=ks i:=fun i hi=>by have:=F3 i (by omega) (by omega);omega
  have ltk:∀ i,i<c->ks i<ω3.length:=fun i hi=>by
   obtain⟨ds,e,_⟩:=R3 i (by omega) (by omega);exact dO e
  rw[hω5];refine⟨bT h4,?_,?_,?_,fun i hi=> ?_,fun i j hi hj=>by simp,fun i j hi hj hne=>A3 i (by omega) (by omega) j (by omega) (by omega) hne,fun i hi=> ?_,⟨by omega,by omega,by omega,by omega,by omega,by omega⟩,⟨by omega,by omega,by omega,by omega,fun i hi=>by have:=lks i hi;omega⟩,⟨?_,fun n hn=> ?_⟩,by simp,fun r hr=>by simp at hr⟩
  ·rw[aH (by omega),g4 _ (by omega),g3 _ (by omega)];exact d2
  ·rw[aH (by omega),g4 _ (by omega),g3 _ (by omega)];exact o2'
  ·rw[aH (by omega)];exact k4
  ·obtain⟨ds,e,r⟩:=R3 i (by omega) (by omega)
   have:=lks i hi
   refine⟨ds,by rw[aH (by omega),g4 _ (dO e)];exact e,r.keep (fun d xs hx q=>RowV.set (q.keep fun n z=>by rw[g4 n (dO z)];exact z) hx nrh) fun j hj z=> ?_⟩
   have:(ao c (0:Int)).length=0:=by rw[z];rfl
   simp at this;omega
  ·have:=lks i hi
   have:=ltk i hi
   omega
  ·rw[cg,hω4];simp;omega
  ·rw[aH (by omega),g4 _ (by omega),g3 _ (by omega)];exact k2 n hn
theorem qN:∀ {l m:List α},l.Nodup->m.Nodup->(∀ x,x∈l↔x∈m)->l.Perm m
 |[],m,_,_,h=>by
  cases m with
  |nil=>exact .refl _
  |cons y m=>exact absurd ((h y).mpr au) (by simp)
 |x::l,m,h1,h2,h=>by
  obtain⟨s,t,rfl⟩:=List.append_of_mem ((h x).mp au);have nd:=h2;rw[b3] at h1;have pm:(s++x::t).Perm (x::(s++t)):=List.perm_middle;have nd2:=pm.nodup_iff.mp nd;rw[b3] at nd2;refine(List.Perm.cons x (qN h1.2 nd2.2 fun y=>⟨fun hy=> ?_,fun hy=> ?_⟩)).trans pm.symm
  ·have:y∈x::(s++t):=pm.mem_iff.mp ((h y).mp (ai _ hy))
   rcases ah.mp this with z|z
   ·exact absurd (z ▸ hy) h1.1
   ·exact z
  ·have:y∈x::l:=(h y).mpr (pm.mem_iff.mpr (ai _ hy))
   rcases ah.mp this with z|z
   ·exact absurd (z ▸ hy) nd2.1
   ·exact z
noncomputable def EntsOk (ds:List D):Prop:=(∀ d∈ds,fP d)/\(ds.map aU).Nodup
theorem Em (ha:fP a) (hb:fP b) (h:aU a≠aU b):dQ 4 a b=we true∨dQ 4 b a=we true:=by
 obtain⟨x,p,q,v,rfl⟩:=ha;obtain⟨x',p',q',v',rfl⟩:=hb;rw[Al,Al];unfold eLt
 by_cases hx:x=x'
 ·have:¬(p=p'/\q=q'):=fun z=>h (by unfold aU;rw[z.1,z.2])
  subst hx
  have:mLt p q p' q'∨mLt p' q' p q:=by unfold mLt;omega
  rcases this with z|z
  ·exact .inl (.inr ⟨rfl,.inl z⟩)
  ·exact .inr (.inr ⟨rfl,.inl z⟩)
 ·rcases Cw hx with z|z
  ·exact .inl (.inl z)
  ·exact .inr (.inl z)
theorem wB (ha:fP a) (hb:fP b) (hc:fP c) (h1:dQ 4 a b=we true) (h2:dQ 4 b c=we true):dQ 4 a c=we true:=by
 obtain⟨x,p,q,v,rfl⟩:=ha;obtain⟨x',p',q',v',rfl⟩:=hb;obtain⟨x2,p2,q2,v2,rfl⟩:=hc;rw[Al] at*;exact En h1 h2
theorem EntsOk.sorted (h:EntsOk ds) (hs:eX 4 ds=we out):out.Pairwise fun a b=>dQ 4 a b=we true:=by
 have gm:∀ i,i<ds.length->ds.getD i .non∈ds/\ds[i]?=we (ds.getD i .non):=fun i hi=>by
  rw[aq,bj hi];exact⟨i7 hi,rfl⟩
 refine Cq hs (fun i j hi hj hne=> ?_) fun a ha b hb c hc=>wB (h.1 a ha) (h.1 b hb) (h.1 c hc);refine Em (h.1 _ (gm i hi).1) (h.1 _ (gm j hj).1) fun z=>hne ?_;have pw:=ls.mp h.2;have hi':i<(ds.map aU).length:=by simpa using hi
 have hj':j<(ds.map aU).length:=by simpa using hj
 have ei:(ds.map aU)[i]=aU (ds.getD i .non):=by
  rw[u8,aq,bj hi];rfl
 have ej:(ds.map aU)[j]=aU (ds.getD j .non):=by
  rw[u8,aq,bj hj];rfl
 rcases Nat.lt_trichotomy i j with q|q|q
 ·exact absurd (by rw[ei,ej,z]) (pw i j hi' hj' q)
 ·exact q
 ·exact absurd (by rw[ei,ej,z]) (pw j i hj' hi' q)
theorem GS (ha:fP a) (hb:fP b) (h1:dQ 4 a b=we true) (h2:dQ 4 b a=we true):False:=by
 have:=wB ha hb ha h1 h2
 obtain⟨x,p,q,v,rfl⟩:=ha;rw[Al] at this;unfold eLt mLt at this;rcases this with z|⟨_,z⟩
 ·exact qL _ z
 ·omega
theorem Cp (h:EntsOk ds) (hp:ds.Perm ds') (hs:eX 4 ds=we o) (hs':eX 4 ds'=we o') (p1:o.Perm ds) (p2:o'.Perm ds'):o=o':=by
 have h':EntsOk ds':=⟨fun d hd=>h.1 d (hp.mem_iff.mpr hd),(hp.map aU).nodup_iff.mp h.2⟩;have s1:=h.sorted hs;have s2:=h'.sorted hs';have s1':o.Pairwise fun a b=>fP a/\fP b/\dQ 4 a b=we true:=s1.imp_of_mem fun {a b} ha hb q=>⟨h.1 a (p1.mem_iff.mp ha),h.1 b (p1.mem_iff.mp hb),q⟩;have s2':o'.Pairwise fun a b=>fP a/\fP b/\dQ 4 a b=we true:=s2.imp_of_mem fun {a b} ha hb q=>⟨h'.1 a (p2.mem_iff.mp ha),h'.1 b (p2.mem_iff.mp hb),q⟩;exact lP (fun a b x y=>GS x.1 x.2.1 x.2.2 y.2.2) (p1.trans (hp.trans p2.symm)) s1' s2'
section
variable {c:Nat}{own:Nat->Nat}{rs:List Rec}{row:List Int}
theorem qF (row:List Int):∀ {rs:List Rec},(rs.map Rec.key).Nodup->((bC rs row).map aU).Nodup
 |[],_=>by simp[bC]
 |r::rs,h=>by
  rw[bg,b3] at h;have ih:=qF row (rs:=rs) h.2;unfold bC at ih ⊢
  by_cases hs:cS row r=true
  ·rw[c7 hs];cases he:r.ent with
   |none=>rw[List.filterMap_cons_none he];exact ih
   |some d=>
    rw[List.filterMap_cons_some he,bg,b3];refine⟨fun z=>h.1 ?_,ih⟩;obtain⟨d',hd',e⟩:=ax.mp z;obtain⟨r',hr',e'⟩:=gq.mp hd';have key:∀ {r:Rec}{d:D},r.ent=we d->aU d=r.key:=fun {r d} q=>by
     unfold Rec.ent at q;cases hp:r.put with
     |none=>rw[hp] at q;cases q
     |some p=>rw[hp] at q;cases q;rfl
    rw[<- key he,<- e,key e'];exact ax.mpr ⟨r',(b4.mp hr').1,rfl⟩
  ·rw[c6 hs];exact ih
theorem vD (R:tS c own rs) (row:List Int):EntsOk (dS rs row):=by
 refine⟨fun d hd=> ?_,(qF row R.keys).sublist (j8.map _)⟩;obtain⟨a,b,x,v,rfl,_⟩:=uR R (b4.mp hd).1;exact⟨x,a,b,v,rfl⟩
theorem sD (R:tS c own rs):rs.length<=tot c own:=by
 have:=mM R.keys (m:=univ c own) fun k hk=>by
  obtain⟨r,hr,rfl⟩:=ax.mp hk
  have:=R.inn r hr
  exact KeyIn.univ ⟨r.a,r.b,this.1,this.2.1,this.2.2,rfl⟩
 rw[rW,ar] at this;exact this
theorem Be (R:tS c own rs) (ht:tot c own<64) (row:List Int):∃ out,eX 4 (dS rs row)=we out/\out.Perm (dS rs row):=by
 have E:=vD R row;have hl:(dS rs row).length<64:=by
  have h1:(dS rs row).length<=(bC rs row).length:=du ..;have h2:(bC rs row).length<=rs.length:=ce (mf ..) (du ..);have h3:=sD R;omega
 refine zY hl ?_ fun a ha b hb=>HZ (E.1 a ha) (E.1 b hb);unfold jP;rw[iw];right;rw[fz];intro d hd;rw[AE (E.1 d hd)];rfl
theorem Hd.Ok.entsOk {hd:Hd} (W:hd.Ok c):EntsOk (hd.table.map (·.2)):=⟨W.ent,by rw[W.keys];exact W.tn⟩
theorem kJ {ds:List D} (h:(ds.map aU).Nodup):ds.Nodup:=by
 induction ds with
 |nil=>exact vp
 |cons d r ih=>
  rw[bg,b3] at h;rw[b3];exact⟨fun z=>h.1 (ax.mpr ⟨d,z,rfl⟩),ih h.2⟩
theorem El {hd:Hd} (W:hd.Ok c) (R:tS c own rs) (ht:tot c own<64) (h:∀ e,e∈hd.table.map (·.2)↔e∈dS rs row):eX 4 (dS rs row)=we hd.ents:=by
 obtain⟨out,e1,p1⟩:=Be R ht row;rw[e1];have E:=vD R row;have pm:(hd.table.map (·.2)).Perm (dS rs row):=qN (kJ W.entsOk.2) (kJ E.2) h;rw[Cp W.entsOk pm W.ents.1 e1 W.ents.2 p1]
end
theorem vA (f:Nat->α) (c i:Nat) (x:α):((bu c).map f).set i x=(bu c).map (upF f i x):=by
 apply jl;intro j
 by_cases h:j=i
 ·subst h
  by_cases hj:j<c
  ·rw[dm (by rw[ar,ib];exact hj),bf,g7 hj];show _=we (upF f j x j);rw[aZ]
  ·rw[c9 (by simp;omega),c9 (by simp;omega)]
 ·rw[fu (bt h),bf,bf];cases hq:(bu c)[j]? with
  |none=>rfl
  |some k=>
   have hk:k=j:=by
    obtain⟨hlt,e⟩:=bh.mp hq;rw[pf] at e;exact e.symm
   subst hk;show we (f k)=we (upF f i x k);rw[aY h]
theorem kU {xs ys:List Int} (h1:xs.length=c) (h2:ys.length=c) (h:∀ j,j<c->xs.getD j 0=ys.getD j 0):xs=ys:=by
 apply List.ext_getElem (by omega);intro j hj hj'
 have:=h j (by omega)
 rw[aq,aq,bj hj,bj hj'] at this;exact this
theorem eW {f:Nat->Int} (h:j<c):((bu c).map f).getD j 0=f j:=by
 rw[aq,bf,g7 h];rfl
theorem fO {r:Rec} (q:r.ent=we d):aU d=r.key:=by
 unfold Rec.ent at q;cases hp:r.put with
 |none=>rw[hp] at q;cases q
 |some p=>rw[hp] at q;cases q;rfl
structure Rel (c:Nat) (own:Nat->Nat) (S:Nat->Hd) (rs:List Rec) (kn:Nat->Nat->List Int):Prop where
 knows:∀ i,i<c->(S i).knows=(bu c).map (kn i)
 recs:tS c own rs
 tab:∀ i,i<c->∀ e,e∈(S i).table.map (·.2)↔e∈dS rs (kn i i)
 clo:∀ i,i<c->∀ r∈rs,cS (kn i i) r=true->∀ q∈r.outs,fJ (kn i i) q=true
 le:∀ i j,i<c->j<c->∀ t,t<c->(kn i j).getD t 0<=(kn j j).getD t 0
section
variable {c:Nat}{own:Nat->Nat}{S:Nat->Hd}{rs:List Rec}{kn:Nat->Nat->List Int}{i j a:Nat}
theorem Rel.seen (Q:Rel c own S rs kn) (hi:i<c):(S i).seen i=kn i i:=by
 unfold Hd.seen;rw[Q.knows i hi,aq,bf,g7 hi];rfl
theorem Rel.row (Q:Rel c own S rs kn) (I:HInv c own S) (hi:i<c) (hj:j<c):kn i j∈(S i).knows/\(kn i j).length=c:=by
 have hm:kn i j∈(S i).knows:=by
  rw[Q.knows i hi];exact ax.mpr ⟨j,jt.mpr hj,rfl⟩
 exact⟨hm,(I i hi).1.row _ hm⟩
theorem Rel.ownE (Q:Rel c own S rs kn) (I:HInv c own S) (hi:i<c):(kn i i).getD i 0=own i:=by rw[<- Q.seen hi];exact(I i hi).2
theorem mem_pres:e∈dS rs row↔(∃ r∈rs,cS row r=true/\r.ent=we e)/\∀ r∈rs,cS row r=true->aU e∉r.outs:=by
 unfold dS bC dH;rw[b4];constructor
 ·rintro⟨h1,h2⟩
  obtain⟨r,hr,he⟩:=gq.mp h1;have hr':=b4.mp hr;refine⟨⟨r,hr'.1,hr'.2,he⟩,fun q hq hs z=> ?_⟩
  have:Ga (aU e) ((rs.filter (cS row)).flatMap (·.outs))=true:=memK_iff.mpr (nu.mpr ⟨q,b4.mpr ⟨hq,hs⟩,z⟩)
  rw[this] at h2;cases h2
 ·rintro⟨⟨r,hr,hs,he⟩,h2⟩
  refine⟨gq.mpr ⟨r,b4.mpr ⟨hr,hs⟩,he⟩,?_⟩;cases hm:Ga (aU e) ((rs.filter (cS row)).flatMap (·.outs)) with
  |false=>rfl
  |true=>
   obtain⟨q,hq,z⟩:=nu.mp (memK_iff.mp hm);have hq':=b4.mp hq;exact absurd z (h2 q hq'.1 hq'.2)
theorem Rel.note (Q:Rel c own S rs kn) (I:HInv c own S) (ha:a<c) (r1:r.a=a) (r2:r.b=own a+1) (ro:r.outs.length<64) (rk:∀ q∈r.outs,KeyIn c own q) (rs':∀ q∈r.outs,fJ (kn a a) q=true)
  (k1:hd'.knows=(S a).knows.set a ((kn a a).set a r.b)) (t1:∀ e,e∈hd'.table.map (·.2)↔(e∈(S a).table.map (·.2)∨r.ent=we e)/\aU e∉r.outs):
  Rel c (dB own a) (lM S a hd') (rs++[r]) (upF kn a (upF (kn a) a ((kn a a).set a r.b))):=by
 have len:=(Q.row I ha ha).2;have oe:=Q.ownE I ha;have bo:dB own a a=own a+1:=by unfold dB;rw[if_pos rfl]
 have le':=gN own a
 -- what is seen
 have s1:∀ q∈rs,cS ((kn a a).set a r.b) q=cS (kn a a) q:=fun q hq=>by
  unfold cS;rw[eQ _ _ _ _ (by omega)]
  by_cases h:q.a=a
  ·rw[if_pos h,h,oe]
   have:=Q.recs.inn q hq
   rw[h] at this;rw[decide_eq_true (by omega),decide_eq_true (by omega)]
  ·rw[if_neg h]
 have s2:cS ((kn a a).set a r.b) r=true:=by
  unfold cS;rw[eQ _ _ _ _ (by omega),if_pos r1];exact decide_eq_true (ll _)
 have s3:∀ i,i<c->i≠a->cS (kn i i) r=false:=fun i hi hne=>by
  unfold cS;refine decide_eq_false fun z=> ?_
  have:=((I i hi).1.kb _ (Q.row I hi hi).1 a ha).2
  rw[r1] at z;omega
 have sk:∀ q,fJ (kn a a) q=true->fJ ((kn a a).set a r.b) q=true:=fun q hq=>by
  unfold fJ at hq ⊢;split at hq
  ·rename_i x y
   have hq':=of_decide_eq_true hq;refine decide_eq_true ?_;rw[eQ _ _ _ _ (by omega)]
   by_cases h:x.toNat=a
   ·rw[if_pos h];rw[h,oe] at hq';omega
   ·rw[if_neg h];exact hq'
  ·cases hq
 have nk:r.key∉rs.map Rec.key:=fun z=>by
  obtain⟨q,hq,e⟩:=ax.mp z
  have:=Q.recs.inn q hq
  unfold Rec.key fN at e;simp at e;have e1:q.a=a:=by omega
  rw[e1] at this;omega
 refine⟨fun i hi=> ?_,⟨?_,fun q hq=> ?_,fun q hq=> ?_⟩,fun i hi e=> ?_,fun i hi q hq hs x hx=> ?_,fun i j hi hj t ht=> ?_⟩
 ·by_cases h:i=a
  ·subst h;rw[gX,k1,Q.knows i hi,vA,aZ]
  ·rw[gW h,aY h];exact Q.knows i hi
 ·rw[cx,jm];refine⟨Q.recs.keys,by simp,fun x hx y hy z=>nk ?_⟩
  have:y=r.key:=by simpa using hy
  rw[<- this,<- z];exact hx
 ·rcases cz.mp hq with z|z
  ·have:=Q.recs.inn q z
   exact⟨this.1,this.2.1,ce this.2.2 (le' _)⟩
  ·rw[d9.mp z,r1,r2,bo];omega
 ·rcases cz.mp hq with z|z
  ·exact⟨(Q.recs.outs q z).1,fun x hx=>((Q.recs.outs q z).2 x hx).mono le'⟩
  ·rw[d9.mp z];exact⟨ro,fun x hx=>(rk x hx).mono le'⟩
 ·by_cases h:i=a
  ·subst h;rw[gX,aZ,aZ,t1,Q.tab i hi,mem_pres,mem_pres];constructor
   ·rintro⟨h1,h2⟩
    refine⟨?_,fun q hq hs=> ?_⟩
    ·rcases h1 with⟨⟨q,hq,hs,he⟩,_⟩|h1
     ·exact⟨q,di _ hq,by rw[s1 q hq];exact hs,he⟩
     ·exact⟨r,by simp,s2,h1⟩
    ·rcases cz.mp hq with z|z
     ·rcases h1 with⟨_,h3⟩|h1
      ·exact h3 q z (by rw[<- s1 q z];exact hs)
      ·intro w
       have:=((Q.recs.outs q z).2 _ w)
       rw[fO h1] at this;obtain⟨x,y,g1,g2,g3,e⟩:=this;unfold Rec.key fN at e;simp at e
       have:x=i:=by omega
       rw[this] at g3;omega
     ·rw[d9.mp z];exact h2
   ·rintro⟨⟨q,hq,hs,he⟩,h2⟩
    refine⟨?_,h2 r (by simp) s2⟩;rcases cz.mp hq with z|z
    ·exact .inl ⟨⟨q,z,by rw[<- s1 q z];exact hs,he⟩,fun p hp hps=>h2 p (di _ hp) (by rw[s1 p hp];exact hps)⟩
    ·rw[d9.mp z] at he;exact .inr he
  ·rw[gW h,aY h,Q.tab i hi,mem_pres,mem_pres];constructor
   ·rintro⟨⟨q,hq,hs,he⟩,h2⟩
    refine⟨⟨q,di _ hq,hs,he⟩,fun p hp hps=> ?_⟩;rcases cz.mp hp with z|z
    ·exact h2 p z hps
    ·rw[d9.mp z,s3 i hi h] at hps;cases hps
   ·rintro⟨⟨q,hq,hs,he⟩,h2⟩
    refine⟨?_,fun p hp hps=>h2 p (di _ hp) hps⟩;rcases cz.mp hq with z|z
    ·exact⟨q,z,hs,he⟩
    ·rw[d9.mp z,s3 i hi h] at hs;cases hs
 ·by_cases h:i=a
  ·subst h;rw[aZ,aZ] at hs ⊢;rcases cz.mp hq with z|z
   ·exact sk _ (Q.clo i hi q z (by rw[<- s1 q z];exact hs) x hx)
   ·rw[d9.mp z] at hx;exact sk _ (rs' x hx)
  ·rw[aY h] at hs ⊢;rcases cz.mp hq with z|z
   ·exact Q.clo i hi q z hs x hx
   ·rw[d9.mp z,s3 i hi h] at hs;cases hs
 ·have grow:∀ t,(kn a a).getD t 0<=((kn a a).set a (r.b:Int)).getD t 0:=fun t=>by
   rw[eQ _ _ _ _ (by omega)]
   by_cases h:t=a
   ·rw[if_pos h,h,oe];omega
   ·rw[if_neg h];exact ll _
  by_cases h:i=a
  ·subst h;rw[aZ]
   by_cases h2:j=i
   ·subst h2;simp only[aZ];exact ll _
   ·rw[aY h2,aY h2];exact Q.le i j hi hj t ht
  ·rw[aY h]
   by_cases h2:j=a
   ·subst h2;rw[aZ,aZ];exact Int.le_trans (Q.le i j hi hj t ht) (grow t)
   ·rw[aY h2];exact Q.le i j hi hj t ht
end
theorem Fu {k:List Key}:(k,v)∈putD T k v:=by
 unfold putD;split
 ·rename_i h
  obtain⟨p,hp,e⟩:=nq.mp h;have e':=of_decide_eq_true e;exact ax.mpr ⟨p,hp,by rw[if_pos e',e']⟩
 ·simp
theorem Bc {p:List Key×D} (hp:p∈T) (h:p.1≠k∨p.2=v):p∈putD T k v:=by
 unfold putD;split
 ·refine ax.mpr ⟨p,hp,?_⟩
  by_cases e:p.1=k
  ·rw[if_pos e];rcases h with z|z
   ·exact absurd e z
   ·rw[<- z]
  ·rw[if_neg e]
 ·exact di _ hp
theorem nC:∀ {out:List D}{T:List (List Key×D)}{d:D},(∀ d'∈out,aU d=aU d'->d=d')->(aU d,d)∈T->(aU d,d)∈nD out T
 |[],_,_,_,h=>h
 |x::out,T,d,hu,h=>by
  refine nC (out:=out) (fun d' hd'=>hu d' (ai _ hd')) (Bc h ?_)
  by_cases e:aU d=aU x
  ·exact .inr (hu x au e)
  ·exact .inl e
theorem uS:∀ {out:List D}{T:List (List Key×D)}{d:D},(∀ d'∈out,aU d=aU d'->d=d')->d∈out->(aU d,d)∈nD out T
 |[],_,_,_,h=>by simp at h
 |x::out,T,d,hu,h=>by
  rcases ah.mp h with rfl|h
  ·exact nC (out:=out) (fun d' hd'=>hu d' (ai _ hd')) Fu
  ·exact uS (out:=out) (fun d' hd'=>hu d' (ai _ hd')) h
theorem AW (hu:∀ d∈out,∀ d'∈out,aU d=aU d'->d=d') (e:D):e∈(nD out []).map (·.2)↔e∈out:=by
 constructor
 ·intro h;obtain⟨p,hp,rfl⟩:=ax.mp h;rcases nB hp with z|⟨d,hd,rfl⟩
  ·simp at z
  ·exact hd
 ·exact fun h=>ax.mpr ⟨(aU e,e),uS (hu e h) h,rfl⟩
section
variable {c:Nat}{own:Nat->Nat}{S:Nat->Hd}{rs:List Rec}{kn:Nat->Nat->List Int}{one other:Nat}
theorem zS {f:List Int->List Int->List Int}:∀ l:List Nat,bp f (l.map p) (l.map q)=l.map fun k=>f (p k) (q k)
 |[]=>rfl
 |x::l=>by
  rw[bg,bg,ij,zS l,bg]
theorem Ds:∀ {rs:List Rec}{r r':Rec},(rs.map Rec.key).Nodup->r∈rs->r'∈rs->r.key=r'.key->r=r'
 |[],_,_,_,hr,_,_=>by simp at hr
 |x::l,r,r',nd,hr,hr',hk=>by
  rw[bg,b3] at nd;rcases ah.mp hr with z|z
  ·rcases ah.mp hr' with w|w
   ·rw[z,w]
   ·exact absurd (ax.mpr ⟨r',w,by rw[<- hk,z]⟩) nd.1
  ·rcases ah.mp hr' with w|w
   ·exact absurd (ax.mpr ⟨r,z,by rw[hk,w]⟩) nd.1
   ·exact Ds nd.2 z w hk
theorem nI (row:List Int) (r:Rec):fJ row r.key=cS row r:=by
 show decide ((r.b:Int)<=row.getD (r.a:Int).toNat 0)=_;rw[c5];rfl
theorem Rel.hear (Q:Rel c own S rs kn) (I:HInv c own S) (c0:0<c) (c8:c<=8) (ht:tot c own<64) (h1:one<c) (h2:other<c) (hne:one≠other):Rel c own (gY S one other) rs (upF kn other (moR c kn one other)):=by
 have lenK:∀ i j,i<c->j<c->(kn i j).length=c:=fun i j hi hj=>(Q.row I hi hj).2;have moL:∀ k,(moR c kn one other k).length=c:=fun k=>by unfold moR;simp
 have moG:∀ k t,t<c->(moR c kn one other k).getD t 0=mo kn one other k t:=fun k t ht=>eW ht;have W1:=(I one h1).1;have W2:=(I other h2).1;have O1:=W1.ok c0 c8 ht;have O2:=W2.ok c0 c8 ht
 -- the row of what is seen
 have J:moR c kn one other other=bp mx (kn other other) (kn one one):=by
  refine kU (moL other) (by rw[fe,lenK _ _ h2 h2,lenK _ _ h1 h1,iu]) fun t htc=> ?_;rw[moG other t htc,uJ (by rw[lenK _ _ h2 h2];exact htc) (by rw[lenK _ _ h1 h1];exact htc)]
  have:=Q.le one other h1 h2 t htc
  unfold mo;rw[if_pos rfl];unfold mx;omega
 have Jg:∀ t,t<c->(moR c kn one other other).getD t 0=mx ((kn other other).getD t 0) ((kn one one).getD t 0):=fun t htc=>by
  rw[J,uJ (by rw[lenK _ _ h2 h2];exact htc) (by rw[lenK _ _ h1 h1];exact htc)]
 have sJ:∀ r∈rs,(cS (moR c kn one other other) r=true↔cS (kn other other) r=true∨cS (kn one one) r=true):=fun r hr=>by
  have hra:=(Q.recs.inn r hr).1;unfold cS;rw[Jg r.a hra];simp only[decide_eq_true_eq];unfold mx;omega
 have sKJ:∀ q,KeyIn c own q->(fJ (moR c kn one other other) q=true↔fJ (kn other other) q=true∨fJ (kn one one) q=true):=fun q hq=>by
  obtain⟨x,y,g1,_,_,rfl⟩:=hq;show decide ((y:Int)<=(moR c kn one other other).getD (x:Int).toNat 0)=true↔decide ((y:Int)<=(kn other other).getD (x:Int).toNat 0)=true∨decide ((y:Int)<=(kn one one).getD (x:Int).toNat 0)=true;rw[c5,Jg x g1];simp only[decide_eq_true_eq];unfold mx;omega
 have uniq:∀ {r r':Rec}{e e':D},r∈rs->r'∈rs->r.ent=we e->r'.ent=we e'->aU e=aU e'->e=e':=fun {r r' e e'} hr hr' he he' hk=>by
  rw[fO he,fO he'] at hk
  have:r=r':=Ds Q.recs.keys hr hr' hk
  rw[this,he'] at he;cases he;rfl
 have pm1:∀ e,e∈(S one).ents↔e∈dS rs (kn one one):=fun e=>by rw[O1.ents.2.mem_iff];exact Q.tab one h1 e
 have pm2:∀ e,e∈(S other).ents↔e∈dS rs (kn other other):=fun e=>by rw[O2.ents.2.mem_iff];exact Q.tab other h2 e
 have lv:∀ i,i<c->(S i).Ok c->∀ {r:Rec}{e:D},r∈rs->r.ent=we e->((S i).leaves i e=true↔e∈dS rs (kn i i)∨cS (kn i i) r=false):=by
  intro i hi O r e hr he;unfold Hd.leaves;rw[Q.seen hi,fO he,nI,iw];have h3:(gU (S i).table r.key).isSome=true↔e∈dS rs (kn i i):=by
   constructor
   ·intro z;obtain⟨v,hv⟩:=l8.mp z;unfold gU at hv;obtain⟨p,hp,rfl⟩:=my.mp hv;have hpm:=p9 hp;have hpk:p.1=r.key:=by
     have:=vk hp
     simpa using this
    have hv2:p.2∈dS rs (kn i i):=(Q.tab i hi p.2).mp (ax.mpr ⟨p,hpm,rfl⟩);obtain⟨⟨r',hr',_,he'⟩,_⟩:=mem_pres.mp hv2;have hk2:aU p.2=p.1:=by
     obtain⟨x,y,_,_,_,e1,u,w,e2⟩:=(I i hi).1.tk p hpm;rw[e2,e1];rfl
    have:e=p.2:=uniq hr hr' he he' (by rw[fO he,hk2,hpk])
    rw[this];exact hv2
   ·intro z;obtain⟨p,hp,e2⟩:=ax.mp ((Q.tab i hi e).mpr z);have hk2:aU p.2=p.1:=by
     obtain⟨x,y,_,_,_,e1,u,w,e2⟩:=(I i hi).1.tk p hp;rw[e2,e1];rfl
    have:r.key∈(S i).table.map (·.1):=ax.mpr ⟨p,hp,by rw[<- hk2,e2,fO he]⟩
    obtain⟨v,hv⟩:=Cf this;rw[hv];rfl
  rw[h3];cases cS (kn i i) r <;> simp
 refine⟨fun i hi=> ?_,Q.recs,fun i hi e=> ?_,fun i hi q hq hs x hx=> ?_,fun i j hi hj t htc=> ?_⟩
 ·by_cases h:i=other
  ·subst h;unfold gY;rw[gX,aZ]
   show(bp (bp mx) (S i).knows (S one).knows).set i (bp mx ((S i).seen i) ((S one).seen one))=_
   rw[Q.knows i hi,Q.knows one h1,zS,vA,Q.seen hi,Q.seen h1];apply f7;intro k hk;have hkc:=jt.mp hk
   by_cases hki:k=i
   ·subst hki;rw[aZ,J]
   ·rw[aY hki];refine kU (by rw[fe,lenK _ _ hi hkc,lenK _ _ h1 hkc,iu]) (moL k) fun t htc=> ?_;rw[moG k t htc,uJ (by rw[lenK _ _ hi hkc];exact htc) (by rw[lenK _ _ h1 hkc];exact htc)];unfold mo;rw[if_neg hki];unfold mx;omega
  ·unfold gY;rw[gW h,aY h];exact Q.knows i hi
 ·by_cases h:i=other
  ·subst h;unfold gY;rw[gX,aZ];show e∈(nD ((S i).hearT i (S one) one) []).map (·.2)↔_;have hrec:∀ d∈(S i).hearT i (S one) one,∃ r∈rs,r.ent=we d:=fun d hd=>by
    rcases cz.mp hd with z|z
    ·obtain⟨⟨r,hr,_,he⟩,_⟩:=mem_pres.mp ((pm2 d).mp (b4.mp z).1);exact⟨r,hr,he⟩
    ·obtain⟨⟨r,hr,_,he⟩,_⟩:=mem_pres.mp ((pm1 d).mp (b4.mp z).1);exact⟨r,hr,he⟩
   rw[AW fun d hd d' hd' hk=>by
    obtain⟨r,hr,he⟩:=hrec d hd;obtain⟨r',hr',he'⟩:=hrec d' hd';exact uniq hr hr' he he' hk]
   unfold Hd.hearT;rw[cz,b4,b4,pm1,pm2];constructor
   ·intro z
    -- e is a deed's entry
    have he:∃ r∈rs,r.ent=we e:=by
     rcases z with z|z
     ·obtain⟨⟨r,hr,_,he⟩,_⟩:=mem_pres.mp z.1;exact⟨r,hr,he⟩
     ·obtain⟨⟨r,hr,_,he⟩,_⟩:=mem_pres.mp z.1;exact⟨r,hr,he⟩
    obtain⟨r,hr,he⟩:=he;rw[lv one h1 O1 hr he,lv i hi O2 hr he] at z;rw[mem_pres];have sr:∀ {row:List Int},e∈dS rs row->cS row r=true:=fun {row} q=>by
     obtain⟨⟨r',hr',hs',he'⟩,_⟩:=mem_pres.mp q;have hk:r'.key=r.key:=by rw[<- fO he',fO he]
     rw[<- nI,<- hk,nI];exact hs'
    have both:(e∈dS rs (kn i i)/\e∈dS rs (kn one one))∨(e∈dS rs (kn i i)/\cS (kn one one) r=false)∨(e∈dS rs (kn one one)/\cS (kn i i) r=false):=by
     rcases z with⟨z1,z2|z2⟩|⟨z1,z2|z2⟩
     ·exact .inl ⟨z1,z2⟩
     ·exact .inr (.inl ⟨z1,z2⟩)
     ·exact .inl ⟨z2,z1⟩
     ·exact .inr (.inr ⟨z1,z2⟩)
    have clos:∀ k,k<c->cS (kn k k) r=false->∀ p∈rs,cS (kn k k) p=true->aU e∉p.outs:=fun k hk hs p hp hps w=>by
     have:=Q.clo k hk p hp hps _ w
     rw[fO he,nI,hs] at this;cases this
    refine⟨⟨r,hr,(sJ r hr).mpr ?_,he⟩,fun p hp hps=> ?_⟩
    ·rcases both with z|z|z
     ·exact .inl (sr z.1)
     ·exact .inl (sr z.1)
     ·exact .inr (sr z.1)
    ·rcases(sJ p hp).mp hps with w|w
     ·rcases both with z|z|z
      ·exact(mem_pres.mp z.1).2 p hp w
      ·exact(mem_pres.mp z.1).2 p hp w
      ·exact clos i hi z.2 p hp w
     ·rcases both with z|z|z
      ·exact(mem_pres.mp z.2).2 p hp w
      ·exact clos one h1 z.2 p hp w
      ·exact(mem_pres.mp z.1).2 p hp w
   ·intro z;obtain⟨⟨r,hr,hs,he⟩,hn⟩:=mem_pres.mp z;have inP:∀ k,k<c->(∀ p∈rs,cS (kn k k) p=true->cS (moR c kn one i i) p=true)->cS (kn k k) r=true->e∈dS rs (kn k k):=fun k hk hsub hks=>mem_pres.mpr ⟨⟨r,hr,hks,he⟩,fun p hp hps=>hn p hp (hsub p hp hps)⟩;have p2:=inP i hi fun p hp q=>(sJ p hp).mpr (.inl q);have p1:=inP one h1 fun p hp q=>(sJ p hp).mpr (.inr q);rw[lv one h1 O1 hr he,lv i hi O2 hr he]
    rcases(sJ r hr).mp hs with w|w
    ·cases hq:cS (kn one one) r with
     |true=>exact .inl ⟨p2 w,.inl (p1 hq)⟩
     |false=>exact .inl ⟨p2 w,.inr rfl⟩
    ·cases hq:cS (kn i i) r with
     |true=>exact .inr ⟨p1 w,.inl (p2 hq)⟩
     |false=>exact .inr ⟨p1 w,.inr rfl⟩
  ·unfold gY;rw[gW h,aY h];exact Q.tab i hi e
 ·by_cases h:i=other
  ·subst h;rw[aZ] at hs ⊢;have kx:=(Q.recs.outs q hq).2 x hx
   rcases(sJ q hq).mp hs with w|w
   ·exact(sKJ x kx).mpr (.inl (Q.clo i hi q hq w x hx))
   ·exact(sKJ x kx).mpr (.inr (Q.clo one h1 q hq w x hx))
  ·rw[aY h] at hs ⊢;exact Q.clo i hi q hq hs x hx
 ·by_cases h:i=other
  ·subst h;rw[aZ]
   by_cases hji:j=i
   ·subst hji;rw[aZ];exact ll _
   ·rw[aY hji,moG j t htc];have e1:=Q.le one j h1 hj t htc;have e2:=Q.le i j hi hj t htc;unfold mo;rw[if_neg hji];unfold mx;omega
  ·rw[aY h]
   by_cases hji:j=other
   ·subst hji;rw[aZ,Jg t htc];have e1:=Q.le i j hi hj t htc;unfold mx;omega
   ·rw[aY hji];exact Q.le i j hi hj t htc
end
theorem drops_mem:∀ {ks:List (List Key)}{T:List (List Key×D)},p∈ks.foldl dP T↔p∈T/\p.1∉ks
 |[],T=>by simp
 |k::ks,T=>by
  show p∈ks.foldl dP (dP T k)↔_;rw[drops_mem];unfold dP;rw[b4,ah,not_or];constructor
  ·rintro⟨⟨h1,h2⟩,h3⟩
   exact⟨h1,by simpa using h2,h3⟩
  ·rintro⟨h1,h2,h3⟩
   exact⟨⟨h1,by simpa using h2⟩,h3⟩
section
variable {c:Nat}{own:Nat->Nat}{S:Nat->Hd}{rs:List Rec}{kn:Nat->Nat->List Int}{a:Nat}
theorem Hd.In.tkey {hd:Hd} (W:hd.In c own) (hp:p∈hd.table):aU p.2=p.1:=by
 obtain⟨x,y,_,_,_,e1,u,w,e2⟩:=W.tk p hp;rw[e2,e1];rfl
theorem sO (I:HInv c own S) (ha:a<c):(S a).next a=((own a+1:Nat):Int):=by
 unfold Hd.next;rw[(I a ha).2];omega
theorem JF (I:HInv c own S) (ha:a<c):fN a ((own a+1:Nat):Int)∉(S a).table.map (·.1):=fun z=>by
 obtain⟨p,hp,e⟩:=ax.mp z;obtain⟨x,y,_,_,g3,e1,_⟩:=(I a ha).1.tk p hp;rw[e1] at e;unfold fN at e;simp at e
 have:x=a:=by omega
 rw[this] at g3;omega
theorem lL (Q:Rel c own S rs kn) (I:HInv c own S) (ha:a<c):((S a).bump a).knows=(S a).knows.set a ((kn a a).set a ((own a+1:Nat):Int)):=by
 show(S a).knows.set a (((S a).seen a).set a (((S a).seen a).getD a 0+1))=_
 rw[(I a ha).2,Q.seen ha];rfl
theorem Ac (I:HInv c own S) (ha:a<c) (x:Str) (v:Int) (e:D):e∈((S a).put a x v).table.map (·.2)↔e∈(S a).table.map (·.2)∨we (D.tup [.str x,mkD a ((own a+1:Nat):Int),.int v])=we e:=by
 show e∈(putD (S a).table (fN a ((S a).next a)) (.tup [.str x,mkD a ((S a).next a),.int v])).map (·.2)↔_;rw[sO I ha,sE (JF I ha),cx,cz];simp only[bg,kq,d9,Option.some.injEq];constructor
 ·rintro(z|z)
  ·exact .inl z
  ·exact .inr z.symm
 ·rintro(z|z)
  ·exact .inl z
  ·exact .inr z.symm
theorem Iv (Q:Rel c own S rs kn) (I:HInv c own S) (ha:a<c) (x:Str) (v:Int):HInv c (dB own a) (lM S a ((S a).put a x v))/\Rel c (dB own a) (lM S a ((S a).put a x v)) (rs++[⟨a,own a+1,we (x,v),[]⟩]) (upF kn a (upF (kn a) a ((kn a a).set a ((own a+1:Nat):Int)))):=by
 have W:=(I a ha).1;refine⟨I.updB (W.put ha (I a ha).2 x v) (iZ W ha (I a ha).2),Q.note I ha (r:=⟨a,own a+1,we (x,v),[]⟩) rfl rfl (by simp) (fun q hq=>by simp at hq) (fun q hq=>by simp at hq) (lL Q I ha) fun e=> ?_⟩;rw[Ac I ha x v e];show _↔(_∨we _=we e)/\_;simp
theorem qP (Q:Rel c own S rs kn) (I:HInv c own S) (O:(S a).Ok c) (ha:a<c) (x:Str):∀ q∈(S a).marksK x,fJ (kn a a) q=true:=fun q hq=>by
 obtain⟨p,hp,rfl⟩:=ax.mp (O.marksIn x q hq);have h1:p.2∈dS rs (kn a a):=(Q.tab a ha p.2).mp (ax.mpr ⟨p,hp,rfl⟩);obtain⟨⟨r,hr,hs,he⟩,_⟩:=mem_pres.mp h1;rw[<- (I a ha).1.tkey hp,fO he,nI];exact hs
theorem Ba (Q:Rel c own S rs kn) (I:HInv c own S) (c0:0<c) (c8:c<=8) (ht:tot c own<63) (ha:a<c) (x:Str) (v:Int):HInv c (dB own a) (lM S a ((S a).change a x v))/\Rel c (dB own a) (lM S a ((S a).change a x v)) (rs++[⟨a,own a+1,we (x,v),(S a).marksK x⟩]) (upF kn a (upF (kn a) a ((kn a a).set a ((own a+1:Nat):Int)))):=by
 have W:=(I a ha).1;have O:=W.ok c0 c8 (by omega);have P:=W.put ha (I a ha).2 x v;have T:=P.takeOut0 (mk:=fN a ((S a).next a)) (ks:=(S a).marksK x) (kK ha (I a ha).2) (O.marksLen x) fun q hq=>(W.marks O x q hq).mono (gN own a);refine⟨I.updB T.forget (iZ W ha (I a ha).2),Q.note I ha (r:=⟨a,own a+1,we (x,v),(S a).marksK x⟩) rfl rfl (O.marksLen x) (W.marks O x) (qP Q I O ha x) (lL Q I ha) fun e=> ?_⟩;show e∈(((S a).marksK x).foldl dP ((S a).put a x v).table).map (·.2)↔(_∨we _=we e)/\_;rw[<- Ac I ha x v e];constructor
 ·intro z;obtain⟨p,hp,rfl⟩:=ax.mp z;have hp':=drops_mem.mp hp;exact⟨ax.mpr ⟨p,hp'.1,rfl⟩,by rw[P.tkey hp'.1];exact hp'.2⟩
 ·rintro⟨z,w⟩
  obtain⟨p,hp,rfl⟩:=ax.mp z;rw[P.tkey hp] at w;exact ax.mpr ⟨p,drops_mem.mpr ⟨hp,w⟩,rfl⟩
theorem Fl (Q:Rel c own S rs kn) (I:HInv c own S) (c0:0<c) (c8:c<=8) (ht:tot c own<63) (ha:a<c) (x:Str) (hm:(S a).marksK x≠[]):HInv c (dB own a) (lM S a ((S a).take a x))/\Rel c (dB own a) (lM S a ((S a).take a x)) (rs++[⟨a,own a+1,wf,(S a).marksK x⟩]) (upF kn a (upF (kn a) a ((kn a a).set a ((own a+1:Nat):Int)))):=by
 have W:=(I a ha).1;have O:=W.ok c0 c8 (by omega);have P:=W.bump ha (I a ha).2;have T:=P.takeOut0 (mk:=fN a ((S a).next a)) (ks:=(S a).marksK x) (kK ha (I a ha).2) (O.marksLen x) fun q hq=>(W.marks O x q hq).mono (gN own a);have et:(S a).take a x=((S a).bump a).takeOut (fN a ((S a).next a)) ((S a).marksK x):=by unfold Hd.take;rw[if_neg hm]
 rw[et];refine⟨I.updB T.forget (iZ W ha (I a ha).2),Q.note I ha (r:=⟨a,own a+1,wf,(S a).marksK x⟩) rfl rfl (O.marksLen x) (W.marks O x) (qP Q I O ha x) (lL Q I ha) fun e=> ?_⟩;show e∈(((S a).marksK x).foldl dP (S a).table).map (·.2)↔(_∨wf=we e)/\_;constructor
 ·intro z;obtain⟨p,hp,rfl⟩:=ax.mp z;have hp':=drops_mem.mp hp;exact⟨.inl (ax.mpr ⟨p,hp'.1,rfl⟩),by rw[W.tkey hp'.1];exact hp'.2⟩
 ·rintro⟨z|z,w⟩
  ·obtain⟨p,hp,rfl⟩:=ax.mp z;rw[W.tkey hp] at w;exact ax.mpr ⟨p,drops_mem.mpr ⟨hp,w⟩,rfl⟩
  ·cases z
theorem kN (I:HInv c own S) (c0:0<c) (c8:c<=8) (ht:tot c own<64) (hi:i<c) (hj:j<c):HInv c own (gY S j i):=by
 have Wi:=(I i hi).1;have Wj:=(I j hj).1;have H0:=Wi.hear0 Wj (Wi.ok c0 c8 ht) (Wj.ok c0 c8 ht) hi hj;exact I.upd H0.forget (Au Wi Wj hi hj (I i hi).2)
end
theorem LawAt.congr (L:LawAt B ω c h dd oo kk ks rs kn) (e:∀ i j,i<c->j<c->kn i j=kn' i j):LawAt B ω c h dd oo kk ks rs kn':=
 ⟨L.obj,L.deeds,L.order,L.known,fun i hi=>by
  obtain⟨ds,h1,h2⟩:=L.row i hi;exact⟨ds,h1,h2.1,fun j hj=>by rw[<- e i j hi hj];exact h2.2 j hj⟩,fun i j hi hj=>by rw[<- e i j hi hj];exact L.len i j hi hj,L.inj,L.out,L.nd,L.low,L.bas,L.keys,L.ra⟩
theorem JJ (ha:a<c) (hb:b<c) (hne:a≠b) (len:∀ i j,i<c->j<c->(kn i j).length=c) (le:∀ i j,i<c->j<c->∀ t,t<c->(kn i j).getD t 0<=(kn j j).getD t 0) (k1 k2 k3 l1 l2 l3:Nat->Nat->List Int)
  (e1:k1=upF kn b (moR c kn a b)) (e2:k2=upF k1 a (moR c k1 b a)) (e3:k3=upF k2 b (moR c k2 a b))
  (f1:l1=upF kn a (moR c kn b a)) (f2:l2=upF l1 b (moR c l1 a b)) (f3:l3=upF l2 a (upF (l2 a) b (l2 a a))):∀ i j,i<c->j<c->l3 i j=k3 i j:=by
 intro i j hi hj;have moL:∀(q:Nat->Nat->List Int) x y k,(moR c q x y k).length=c:=fun q x y k=>by unfold moR;simp
 have moG:∀(q:Nat->Nat->List Int) x y k t,t<c->(moR c q x y k).getD t 0=mo q x y k t:=fun q x y k t ht=>eW ht
 -- the values
 have K1b:∀ k t,t<c->(k1 b k).getD t 0=mo kn a b k t:=fun k t ht=>by rw[e1,aZ];exact moG _ _ _ _ _ ht
 have K1a:∀ k,k1 a k=kn a k:=fun k=>by rw[e1,aY hne]
 have K2a:∀ k t,t<c->(k2 a k).getD t 0=mo k1 b a k t:=fun k t ht=>by rw[e2,aZ];exact moG _ _ _ _ _ ht
 have K2b:∀ k,k2 b k=k1 b k:=fun k=>by rw[e2,aY (bt hne)]
 have K3b:∀ k t,t<c->(k3 b k).getD t 0=mo k2 a b k t:=fun k t ht=>by rw[e3,aZ];exact moG _ _ _ _ _ ht
 have K3a:∀ k,k3 a k=k2 a k:=fun k=>by rw[e3,aY hne]
 have L1a:∀ k t,t<c->(l1 a k).getD t 0=mo kn b a k t:=fun k t ht=>by rw[f1,aZ];exact moG _ _ _ _ _ ht
 have L1b:∀ k,l1 b k=kn b k:=fun k=>by rw[f1,aY (bt hne)]
 have L2b:∀ k t,t<c->(l2 b k).getD t 0=mo l1 a b k t:=fun k t ht=>by rw[f2,aZ];exact moG _ _ _ _ _ ht
 have L2a:∀ k,l2 a k=l1 a k:=fun k=>by rw[f2,aY hne]
 have lenK:∀ k,k<c->(k3 a k).length=c/\(k3 b k).length=c:=fun k hk=>⟨by rw[K3a,e2,aZ];exact moL _ _ _ _,by rw[e3,aZ];exact moL _ _ _ _⟩;have lenL1:∀ k,(l1 a k).length=c:=fun k=>by rw[f1,aZ];exact moL _ _ _ _
 by_cases hia:i=a
 ·subst hia;have l3a:l3 i j=if j=b then l1 i i else l1 i j:=by
   rw[f3,aZ]
   by_cases h:j=b
   ·rw[if_pos h,h,aZ,L2a]
   ·rw[if_neg h,aY h,L2a]
  rw[l3a];refine kU (c:=c) (by split <;> exact lenL1 _) (lenK j hj).1 fun t ht=> ?_;rw[K3a,K2a j t ht];have u1:=le i b hi hb t ht;have u2:=le b i hb hi t ht
  by_cases h:j=b
  ·subst h;rw[if_pos rfl,L1a i t ht];unfold mo;rw[if_pos rfl,if_neg (bt hne),K1b j t ht,K1a];unfold mo;rw[if_pos rfl];unfold mx;omega
  ·rw[if_neg h,L1a j t ht]
   by_cases h2:j=i
   ·subst h2;unfold mo;rw[if_pos rfl,if_pos rfl,K1b j t ht,K1b b t ht,K1a];unfold mo;rw[if_neg h,if_pos rfl];unfold mx;omega
   ·unfold mo;rw[if_neg h2,if_neg h2,K1b j t ht,K1a];unfold mo;rw[if_neg h];unfold mx;omega
 ·by_cases hib:i=b
  ·subst hib;have l3b:l3 i j=l2 i j:=by rw[f3,aY hia]
   rw[l3b];refine kU (c:=c) (by rw[f2,aZ];exact moL _ _ _ _) (lenK j hj).2 fun t ht=> ?_;rw[L2b j t ht,K3b j t ht];have u1:=le a i ha hi t ht;have u2:=le i a hi ha t ht
   by_cases h:j=i
   ·subst h;unfold mo;rw[if_pos rfl,if_pos rfl,L1a j t ht,L1a a t ht,L1b,K2a j t ht,K2a a t ht,K2b,K1b j t ht];unfold mo;simp only[if_true,if_neg hne,if_neg (bt hne),K1b _ t ht,K1a];unfold mo;simp only[if_true,if_neg hne,if_neg (bt hne)];unfold mx;omega
   ·by_cases h2:j=a
    ·subst h2;unfold mo;rw[if_neg h,if_neg h,L1a j t ht,L1b,K2a j t ht,K2b,K1b j t ht];unfold mo;simp only[if_true,if_neg h,K1b _ t ht,K1a];unfold mo;simp only[if_true,if_neg h];unfold mx;omega
    ·unfold mo;rw[if_neg h,if_neg h,L1a j t ht,L1b,K2a j t ht,K2b,K1b j t ht];unfold mo;simp only[if_neg h,if_neg h2,K1b _ t ht,K1a];unfold mo;simp only[if_neg h,if_neg h2];unfold mx;omega
  ·rw[f3,aY hia,f2,aY hib,f1,aY hia,e3,aY hib,e2,aY hia,e1,aY hib]
noncomputable def Deed.n1:Deed->Int
 |.put a _ _=>a
 |.change a _ _=>a
 |.take a _=>a
 |.tell a _=>a
 |.meet a _=>a
noncomputable def Deed.n2:Deed->D
 |.put _ x _=>.str x
 |.change _ x _=>.str x
 |.take _ x=>.str x
 |.tell _ b=>.int b
 |.meet _ b=>.int b
noncomputable def okN (c:Nat):D->Bool
 |.int n=>decide (0<=n/\n<c)
 |_=>true
noncomputable abbrev lA (h c:Nat) (d:D) (v3 v4 v5 v6 v7 v8:Option D):Rho:=[we (.obj h),we d,we (.int c),v3,v4,v5,v6,v7,v8]
section
variable {ω:Om}{h c:Nat}{v3 v4 v5 v6 v7 v8:Option D}
theorem Eo:aF (lA h c d (we (.int n)) v4 v5 v6 v7 v8) ω=if 0<=n/\n<c then we (.nx (lA h c d (we (.int n)) v4 v5 v6 v7 v8),ω) else we (.rt (.str "no hand"),ω):=by
 have t:Bj (lH (jY (mK "str" (oP (aD 3))))) (oOr (cC (o2 (lf gLt) (oP (aD 3)) (oP (dC (.int 0))))) (cC (o2 (lf gGe) (oP (aD 3)) (oP (aD 2))))) (lA h c d (we (.int n)) v4 v5 v6 v7 v8) ω=we (.ok (!decide (0<=n/\n<c)),ω):=by
  have t1:lH (jY (mK "str" (oP (aD 3)))) (lA h c d (we (.int n)) v4 v5 v6 v7 v8) ω=we (.ok true,ω):=De (k:=false) (tru_ok (Dz (aB (d:=.int n) rfl) (by simp[HU,fL,Gi,Gj])));unfold Bj;rw[bH t1];show oOr _ _ _ ω=_;unfold oOr;rw[bH (lJ (a:=n) (z:=0) (aB rfl))]
  by_cases h0:n<0
  ·rw[decide_eq_true h0];show we (Rz.ok true,ω)=_;rw[decide_eq_false (by omega)];rfl
  ·rw[decide_eq_false h0];show cC (o2 (lf gGe) (oP (aD 3)) (oP (aD 2))) _ ω=_;rw[cE (k:=decide ((c:Int)<=n)) (ω1:=ω) (fD (aB (d:=.int n) rfl) (aB (d:=.int c) rfl) rfl)]
   by_cases h1:(c:Int)<=n
   ·rw[decide_eq_true h1,decide_eq_false (by omega)];rfl
   ·rw[decide_eq_false h1,decide_eq_true (by omega)];rfl
 unfold aF
 by_cases hv:0<=n/\n<c
 ·rw[if_pos hv];rw[decide_eq_true hv] at t;rw[lF t];rfl
 ·rw[if_neg hv];rw[decide_eq_false hv] at t;rw[jM t];rfl
theorem Ko:aF (lA h c d (we (.str x)) v4 v5 v6 v7 v8) ω=we (.nx (lA h c d (we (.str x)) v4 v5 v6 v7 v8),ω):=by
 have t:Bj (lH (jY (mK "str" (oP (aD 3))))) (oOr (cC (o2 (lf gLt) (oP (aD 3)) (oP (dC (.int 0))))) (cC (o2 (lf gGe) (oP (aD 3)) (oP (aD 2))))) (lA h c d (we (.str x)) v4 v5 v6 v7 v8) ω=we (.ok false,ω):=by
  have t1:lH (jY (mK "str" (oP (aD 3)))) (lA h c d (we (.str x)) v4 v5 v6 v7 v8) ω=we (.ok false,ω):=De (k:=true) (tru_ok (Dz (aB (d:=.str x) rfl) (by simp[HU,fL,Gi,Gj])));unfold Bj;rw[bH t1];rfl
 unfold aF;rw[lF t];rfl
theorem MY (d:Deed):oIT (o2 yB (oSl (oP (aD 1)) (dSo (dC (.int 1))) (dSo (dC (.int 2)))) (oSl (oP (aD 1)) (dSo (dC (.int 2))) (dSo (dC (.int 3))))) (lA h c d.d wf wf wf wf wf wf) ω=we (.ok ([.int d.n1,d.n2],cM),ω):=by
 cases d with
 |put a x v=>rfl
 |change a x v=>rfl
 |take a x=>rfl
 |tell a b=>rfl
 |meet a b=>rfl
theorem mQ (d:Deed):sNx (cD (oIT (o2 yB (oSl (oP (aD 1)) (dSo (dC (.int 1))) (dSo (dC (.int 2)))) (oSl (oP (aD 1)) (dSo (dC (.int 2))) (dSo (dC (.int 3)))))) (bG 3) aF) (lA h c d.d wf wf wf wf wf wf) ω=if(0<=d.n1/\d.n1<c)/\okN c d.n2=true then we (.nx (lA h c d.d (we d.n2) wf wf wf wf wf),ω) else we (.rt (.str "no hand"),ω):=by
 have run:∀ r,bZ (bG 3) cM aF [.int d.n1,d.n2] (lA h c d.d wf wf wf wf wf wf) ω=we (r,ω)->(∀ x,r≠ .ex x)->sNx (cD (oIT (o2 yB (oSl (oP (aD 1)) (dSo (dC (.int 1))) (dSo (dC (.int 2)))) (oSl (oP (aD 1)) (dSo (dC (.int 2))) (dSo (dC (.int 3)))))) (bG 3) aF) (lA h c d.d wf wf wf wf wf wf) ω=we (r,ω):=by
  intro r e hr
  have:cD (oIT (o2 yB (oSl (oP (aD 1)) (dSo (dC (.int 1))) (dSo (dC (.int 2)))) (oSl (oP (aD 1)) (dSo (dC (.int 2))) (dSo (dC (.int 3)))))) (bG 3) aF (lA h c d.d wf wf wf wf wf wf) ω=we (r,ω):=by
   unfold cD;rw[cJ (MY d)];exact e
  unfold sNx;rw[this];cases r with
  |ex x=>exact absurd rfl (hr x)
  |_=>rfl
 have s1:bZ (bG 3) cM aF [.int d.n1,d.n2] (lA h c d.d wf wf wf wf wf wf) ω=(match aF (lA h c d.d (we (.int d.n1)) wf wf wf wf wf) ω with
   |none=>wf
   |some (.nx ρ2,ω2)=>bZ (bG 3) cM aF [d.n2] ρ2 ω2
   |some (.ct ρ2,ω2)=>bZ (bG 3) cM aF [d.n2] ρ2 ω2
   |some (.bk ρ2,ω2)=>we (.nx ρ2,ω2)
   |some (.rt d,ω2)=>we (.rt d,ω2)
   |some (.ex _,_)=>wf):=rfl
 have s2:bZ (bG 3) cM aF [d.n2] (lA h c d.d (we (.int d.n1)) wf wf wf wf wf) ω=(match aF (lA h c d.d (we d.n2) wf wf wf wf wf) ω with
   |none=>wf
   |some (.nx ρ2,ω2)=>we (.nx ρ2,ω2)
   |some (.ct ρ2,ω2)=>we (.nx ρ2,ω2)
   |some (.bk ρ2,ω2)=>we (.nx ρ2,ω2)
   |some (.rt d,ω2)=>we (.rt d,ω2)
   |some (.ex _,_)=>wf):=by
  show(match aF (lA h c d.d (we d.n2) wf wf wf wf wf) ω with
   |none=>wf
   |some (.nx ρ2,ω2)=>bZ (bG 3) cM aF [] ρ2 ω2
   |some (.ct ρ2,ω2)=>bZ (bG 3) cM aF [] ρ2 ω2
   |some (.bk ρ2,ω2)=>we (.nx ρ2,ω2)
   |some (.rt d,ω2)=>we (.rt d,ω2)
   |some (.ex _,_)=>wf)=_
  rfl
 rw[Eo] at s1
 by_cases h1:0<=d.n1/\d.n1<c
 ·rw[if_pos h1] at s1;have s1':bZ (bG 3) cM aF [.int d.n1,d.n2] (lA h c d.d wf wf wf wf wf wf) ω=bZ (bG 3) cM aF [d.n2] (lA h c d.d (we (.int d.n1)) wf wf wf wf wf) ω:=s1;have shape:(∃ n,d.n2=.int n)∨∃ x,d.n2=.str x:=by
   cases d with
   |put a x v=>exact .inr ⟨x,rfl⟩
   |change a x v=>exact .inr ⟨x,rfl⟩
   |take a x=>exact .inr ⟨x,rfl⟩
   |tell a b=>exact .inl ⟨b,rfl⟩
   |meet a b=>exact .inl ⟨b,rfl⟩
  rcases shape with⟨n,e⟩|⟨x,e⟩
  ·rw[e,Eo] at s2
   by_cases h2:0<=n/\n<c
   ·rw[if_pos h2] at s2;rw[if_pos ⟨h1,by rw[e];exact decide_eq_true h2⟩];rw[e] at s1' ⊢;exact run _ (by rw[e];exact s1'.trans s2) (by intro x;exact fun z=>nomatch z)
   ·rw[if_neg h2] at s2;rw[if_neg (fun z=>by rw[e] at z;exact h2 (of_decide_eq_true z.2))];rw[e] at s1';exact run _ (by rw[e];exact s1'.trans s2) (by intro x;exact fun z=>nomatch z)
  ·rw[e,Ko] at s2;rw[if_pos ⟨h1,by rw[e];rfl⟩];rw[e] at s1' ⊢;exact run _ (by rw[e];exact s1'.trans s2) (by intro x;exact fun z=>nomatch z)
 ·rw[if_neg h1] at s1;rw[if_neg (fun z=>h1 z.1)];exact run _ s1 (by intro x;exact fun z=>nomatch z)
end
theorem Cn {f g h:Nat->Int}:∀ l:List Nat,(∀ j∈l,f j-g j=h j)->(l.map f).sum-(l.map g).sum=(l.map h).sum
 |[],_=>rfl
 |a::l,e=>by
  have ih:=Cn l fun j hj=>e j (ai _ hj)
  have:=e a au
  simp only[bg,t4];omega
theorem AN {c:Nat}{xs:List Int} (h:xs.length=c):xs=(bu c).map fun j=>xs.getD j 0:=kU h (by simp) fun j hj=>by rw[eW hj]
theorem zwI {f:Int->Int->Int}{p q:Nat->Int}:∀ l:List Nat,bp f (l.map p) (l.map q)=l.map fun k=>f (p k) (q k)
 |[]=>rfl
 |a::l=>by simp only[bg,ij,zwI l]
theorem xI {c:Nat}{xs ys:List Int}{f:Nat->Int} (hx:xs.length=c) (hy:ys.length=c) (hf:∀ j,j<c->f j=mx (xs.getD j 0) (ys.getD j 0)):((bu c).map f).sum-xs.sum=KG xs ys:=by
 unfold KG;rw[AN hx,AN hy,zwI];refine Cn _ fun j hj=> ?_;have hj':=jt.mp hj;rw[hf j hj'];unfold mx
 repeat' split
 all_goals omega
section
variable {c:Nat}{own:Nat->Nat}{S:Nat->Hd}{rs:List Rec}{kn:Nat->Nat->List Int}{n m:Nat}
theorem Fb (Q:Rel c own S rs kn) (len:∀ i j,i<c->j<c->(kn i j).length=c) (hn:n<c) (hm:m<c):(moR c kn n m m).sum-(kn m m).sum=jK S n m:=by
 unfold jK;rw[Q.seen hm,Q.seen hn];refine xI (len _ _ hm hm) (len _ _ hn hn) fun j hj=> ?_
 have:=Q.le n m hn hm j hj
 unfold mo;rw[if_pos rfl];unfold mx
 repeat' split
 all_goals omega
theorem FZ (Q:Rel c own S rs kn) (I:HInv c own S) (c0:0<c) (c8:c<=8) (ht:tot c own<64) (len:∀ i j,i<c->j<c->(kn i j).length=c) (hn:n<c) (hm:m<c) (hnm:n≠m):(moR c kn m n n).sum-(kn n n).sum=jK (gY S n m) m n:=by
 have Q1:=Q.hear I c0 c8 ht hn hm hnm;unfold jK;rw[Q1.seen hm,Q1.seen hn,aZ,aY hnm];refine xI (len _ _ hn hn) (by unfold moR;simp) fun j hj=> ?_;have h1:=Q.le m n hm hn j hj;have h2:=Q.le n m hn hm j hj;unfold moR;rw[eW hj];unfold mo;rw[if_pos rfl,if_pos rfl];unfold mx
 repeat' split
 all_goals omega
theorem FY (Q:Rel c own S rs kn) (len:∀ i j,i<c->j<c->(kn i j).length=c) (hn:n<c) (hm:m<c) (hnm:n≠m):(moR c (upF kn n (moR c kn m n)) n m m).sum-(upF kn n (moR c kn m n) m m).sum=jK S n m:=by
 unfold jK;rw[Q.seen hm,Q.seen hn,aY (bt hnm)];refine xI (len _ _ hm hm) (len _ _ hn hn) fun j hj=> ?_;have h1:=Q.le m n hm hn j hj;have h2:=Q.le n m hn hm j hj;unfold mo;rw[if_pos rfl,aZ,aY (bt hnm)];unfold moR;rw[eW hj,eW hj];unfold mo;rw[if_pos rfl,if_neg (bt hnm)];unfold mx
 repeat' split
 all_goals omega
end
section
variable {B ω:Om}{c h dd oo kk:Nat}{ks:Nat->Nat}{rs:List Rec}{kn:Nat->Nat->List Int}{own:Nat->Nat}{S:Nat->Hd}
noncomputable abbrev Jk:OS:=(aI (dR (cC (o2 (fV 8) (o2 (fun ω a b=>pu (bF ω a b) ω) (oP (aD 1)) (oP (dC (.int 0)))) (oP (dC (.str "put"))))) (aX (bK cT (aC (oP (aD 0)) (aC (oP (aD 4)) (aC (oSl (oP (aD 1)) (dSo (dC (.int 2))) dNo) (aC (oL (fun ω ds=>pu (eR ds) ω) aQ) aQ)))))) bN) (aI (dR (cC (o2 (fV 8) (o2 (fun ω a b=>pu (bF ω a b) ω) (oP (aD 1)) (oP (dC (.int 0)))) (oP (dC (.str "change"))))) (aX (bK cT (aC (oP (aD 0)) (aC (oP (aD 4)) (aC (oSl (oP (aD 1)) (dSo (dC (.int 2))) dNo) (aC (oP (aD 6)) aQ)))))) bN) (aI (dR (cC (o2 (fV 8) (oP (aD 6)) (oL (fun ω ds=>pu (eR ds) ω) aQ))) (aX (oP (dC .non))) bN) (aI (cB (bK cT (aC (oP (aD 0)) (aC (oP (aD 4)) (aC (oP (dC .non)) (aC (oP (aD 6)) aQ)))))) (aX (oP (aD 6)))))))
theorem gE (h1:ρ[1]?=we (we d)) (h0:bF ω d (.int 0)=we (.str x)):cC (o2 (fV 8) (o2 (fun ω a b=>pu (bF ω a b) ω) (oP (aD 1)) (oP (dC (.int 0)))) (oP (dC (.str y)))) ρ ω=we (.ok (decide (x=y)),ω):=cE (eP (aK (aB h1) aR h0) aR (by
 show pu ((eqD 8 (.str x) (.str y)).map D.bl) ω=_;rw[gJ];rfl))
theorem FH:∀ {d:Deed},(∃ x,d.n2=.str x)->cC (o2 (lf (gIn 7)) (o2 (fun ω a b=>pu (bF ω a b) ω) (oP (aD 1)) (oP (dC (.int 0)))) (oL (fun ω ds=>pu (eR ds) ω) (aC (oP (dC (.str "put"))) (aC (oP (dC (.str "take"))) (aC (oP (dC (.str "change"))) aQ))))) (lA h c d.d (we d.n2) (we (.int d.n1)) wf wf wf wf) ω=we (.ok true,ω)
 |.put a x v,_=>rfl
 |.change a x v,_=>rfl
 |.take a x,_=>rfl
 |.tell a b,⟨_,e⟩=>by cases e
 |.meet a b,⟨_,e⟩=>by cases e
theorem mH:∀ {d:Deed},(∃ b,d.n2=.int b)->cC (o2 (lf (gIn 7)) (o2 (fun ω a b=>pu (bF ω a b) ω) (oP (aD 1)) (oP (dC (.int 0)))) (oL (fun ω ds=>pu (eR ds) ω) (aC (oP (dC (.str "put"))) (aC (oP (dC (.str "take"))) (aC (oP (dC (.str "change"))) aQ))))) (lA h c d.d (we d.n2) (we (.int d.n1)) wf wf wf wf) ω=we (.ok false,ω)
 |.put a x v,⟨_,e⟩=>by cases e
 |.change a x v,⟨_,e⟩=>by cases e
 |.take a x,⟨_,e⟩=>by cases e
 |.tell a b,_=>rfl
 |.meet a b,_=>rfl
theorem Hg (d:Deed):bF ω d.d (.int 1)=we (.int d.n1):=by cases d <;> rfl
theorem Hf (d:Deed):bF ω d.d (.int 2)=we d.n2:=by cases d <;> rfl
theorem oO (L:LawAt B ω c h dd oo kk ks rs kn) {d:Deed} (hb:¬((0<=d.n1/\d.n1<c)/\okN c d.n2=true)):bU [.obj h,d.d] ω=we (.ok (.str "no hand"),ω):=by
 refine aT rfl ?_;unfold bM;refine(aM (L.gCount (aB rfl))).trans ?_;refine nH (r:=.ok (.str "no hand")) ?_
 have:=mQ (ω:=ω) (h:=h) (c:=c) d
 rw[if_neg hb] at this;exact this
theorem tG {d:Deed} (L:LawAt B ω c h dd oo kk ks rs kn) (I:HInv c own S) (Q:Rel c own S rs kn) (c0:0<c) (c8:c<=8) (ht:tot c own<64) (ha:a<c) (e1:d.n1=a) (e2:d.n2=.str x)
  (e:Jk (lA h c d.d (we (.str x)) (we (.int a)) (we (.lst (S a).ents)) (we (.lst (((S a).marksK x).map bQ))) wf wf) (ω++[.ml (bC rs (kn a a))])=we (Iu r,ω')):bU [.obj h,d.d] ω=we (r,ω'):=by
 have W:=(I a ha).1;have O:=W.ok c0 c8 ht;obtain⟨rd,i1,r1⟩:=L.ixRow (ω:=ω) (fun _ _=>rfl) ha ha;have rl:=sD Q.recs;have pr:=Bd L c0 Q.recs r1 (L.len _ _ ha ha) (by omega) (El O Q.recs ht (Q.tab a ha));have lp:=mQ (ω:=ω) (h:=h) (c:=c) d;rw[if_pos ⟨by rw[e1];omega,by rw[e2];rfl⟩] at lp;refine dI rfl ?_;unfold bM;refine(aM (L.gCount (aB rfl))).trans ?_;refine(bB lp).trans ?_;refine(aM (aK (aB (d:=d.d) rfl) aR (Hg d))).trans ?_;refine nH ?_;refine(jM (FH ⟨x,e2⟩)).trans ?_;show aI _ _ (lA h c d.d (we d.n2) (we (.int d.n1)) wf wf wf wf) ω=_;rw[e1,e2];refine(aM (aW (aA (aB (d:=.obj h) rfl) (aA (aK (aK (L.gKnown (aB (d:=.obj h) rfl)) (aB (d:=.int a) rfl) (L.ixKnown ha)) (aB (d:=.int a) rfl) i1) aE)) pr)).trans ?_;refine(aM (d:=.lst (((S a).marksK x).map bQ)) (ω1:=ω++[.ml (bC rs (kn a a))]) (iB (ds:=(S a).ents) (chk:=cM) (ω1:=ω++[.ml (bC rs (kn a a))]) (by
  unfold oIL;rw[bH (aB (d:=.lst (S a).ents) rfl)];rfl) (ir (eU O.entsLen)) (by
  have e0:((S a).marksK x).map bQ=((S a).ents.filter (JQ x)).map fun q=>bQ (aU q):=by
   unfold Hd.marksK;rw[jc];rfl
  rw[e0];refine dW (fun ρ=>∃ u,ρ=[u,we d.d]) rfl ⟨_,rfl⟩ fun q hq ρ hρ=> ?_;obtain⟨u,rfl⟩:=hρ;obtain⟨y,p1,p2,v,rfl⟩:=O.entsEnt q hq;refine⟨_,rfl,⟨_,rfl⟩,?_,fun _=>aK (aB (d:=.tup [.str y,.tup [.int p1,.int p2],.int v]) rfl) aR rfl⟩;refine cE (eP (aK (aB (d:=.tup [.str y,.tup [.int p1,.int p2],.int v]) rfl) aR rfl) (aK (aB (d:=d.d) rfl) aR (by rw[Hf,e2])) ?_);show pu ((eqD 8 (.str y) (.str x)).map D.bl) _=_;rw[gJ];rfl))).trans ?_
 exact e
theorem MX (L:LawAt B ω c h dd oo kk ks rs kn) (I:HInv c own S) (Q:Rel c own S rs kn) (c0:0<c) (c8:c<=8) (ht:tot c own<63) (d:Deed):∃ ω' ks' rs' kn' own',bU [.obj h,d.d] ω=we (.ok (step c S d).1,ω')/\LawAt B ω' c h dd oo kk ks' rs' kn'/\HInv c own' (step c S d).2/\Rel c own' (step c S d).2 rs' kn'/\tot c own'<=tot c own+1:=by
 have nk:∀ {a:Nat} (p:Option (Str×Int)) (o:List (List Key)),a<c->(⟨a,own a+1,p,o⟩:Rec).key∉rs.map Rec.key:=fun {a} p o ha z=>by
  obtain⟨q,hq,e⟩:=ax.mp z
  have:=Q.recs.inn q hq
  unfold Rec.key fN at e;simp at e;have e1:q.a=a:=by omega
  rw[e1] at this;omega
 have tb:∀ {a:Nat},a<c->tot c (dB own a)<=tot c own+1:=fun {a} ha=>by rw[iR,if_pos ha];omega
 have rl:=sD Q.recs;have ob:∀ {a:Nat},a<c->(((own a+1:Nat)):Int)=(kn a a).getD a 0+1:=fun {a} ha=>by rw[Q.ownE I ha];omega
 cases d with
 |put a x v=>
  by_cases hv:0<=a/\a<(c:Int)
  ·obtain⟨n,rfl⟩:=Int.eq_ofNat_of_zero_le hv.1;have hn:n<c:=by omega
   have e0:step c S (.put n x v)=(mkD n ((own n+1:Nat):Int),lM S n ((S n).put n x v)):=by
    show(if 0<=(n:Int)/\(n:Int)<c then(mkD n ((S n).next n),_) else(_,_):D×(Nat->Hd))=_
    rw[if_pos hv,sO I hn];rfl
   rw[e0];have RP:=Iv Q I hn x v;have L1:=L.app c0 [.ml (bC rs (kn n n))];obtain⟨ω',e1,L2,_⟩:=sN (own':=n) L1 c0 hn (r:=⟨n,own n+1,we (x,v),[]⟩) rfl (ob hn) (nk _ _ hn) (by omega);refine⟨ω',ks,_,_,dB own n,tG (d:=.put n x v) L I Q c0 c8 (by omega) hn rfl rfl (r:=.ok (mkD n ((own n+1:Nat):Int))) ?_,L2,RP.1,RP.2,tb hn⟩;exact xR (r:=.ok _) (by rw[gE (x:="put") rfl rfl];rfl) (aW (aA (aB rfl) (aA (aB rfl) (aA (a:=.tup [.str x,.int v]) rfl (aA (a:=.lst []) rfl aE)))) e1)
  ·have e0:step c S (.put a x v)=(.str "no hand",S):=if_neg hv;rw[e0];exact⟨ω,ks,rs,kn,own,oO L (d:=.put a x v) fun z=>hv z.1,L,I,Q,by omega⟩
 |change a x v=>
  by_cases hv:0<=a/\a<(c:Int)
  ·obtain⟨n,rfl⟩:=Int.eq_ofNat_of_zero_le hv.1;have hn:n<c:=by omega
   have e0:step c S (.change n x v)=(mkD n ((own n+1:Nat):Int),lM S n ((S n).change n x v)):=by
    show(if 0<=(n:Int)/\(n:Int)<c then(mkD n ((S n).next n),_) else(_,_):D×(Nat->Hd))=_
    rw[if_pos hv,sO I hn];rfl
   rw[e0];have RP:=Ba Q I c0 c8 ht hn x v;have L1:=L.app c0 [.ml (bC rs (kn n n))];obtain⟨ω',e1,L2,_⟩:=sN (own':=n) L1 c0 hn (r:=⟨n,own n+1,we (x,v),(S n).marksK x⟩) rfl (ob hn) (nk _ _ hn) (by omega);refine⟨ω',ks,_,_,dB own n,tG (d:=.change n x v) L I Q c0 c8 (by omega) hn rfl rfl (r:=.ok (mkD n ((own n+1:Nat):Int))) ?_,L2,RP.1,RP.2,tb hn⟩;refine(skip (by rw[gE (x:="change") rfl rfl];rfl)).trans ?_;exact xR (r:=.ok _) (by rw[gE (x:="change") rfl rfl];rfl) (aW (aA (aB rfl) (aA (aB rfl) (aA (a:=.tup [.str x,.int v]) rfl (aA (aB (d:=.lst (((S n).marksK x).map bQ)) rfl) aE)))) e1)
  ·have e0:step c S (.change a x v)=(.str "no hand",S):=if_neg hv;rw[e0];exact⟨ω,ks,rs,kn,own,oO L (d:=.change a x v) fun z=>hv z.1,L,I,Q,by omega⟩
 |take a x=>
  by_cases hv:0<=a/\a<(c:Int)
  ·obtain⟨n,rfl⟩:=Int.eq_ofNat_of_zero_le hv.1;have hn:n<c:=by omega
   have e0:step c S (.take n x)=((S n).takeA x,lM S n ((S n).take n x)):=if_pos hv;rw[e0];have L1:=L.app c0 [.ml (bC rs (kn n n))];have tst:∀ {ω:Om}{ρ:Rho},ρ[6]?=we (we (.lst (((S n).marksK x).map bQ)))->cC (o2 (fV 8) (oP (aD 6)) (oL (fun ω ds=>pu (eR ds) ω) aQ)) ρ ω=we (.ok (decide ((S n).marksK x=[])),ω):=fun {ω ρ} h6=>cE (eP (aB h6) (b:=.lst []) (ω2:=ω) rfl (by
    show pu ((eqD 8 (.lst (((S n).marksK x).map bQ)) (.lst [])).map D.bl) ω=_;cases hm:(S n).marksK x with
    |nil=>rfl
    |cons q l=>rfl))
   by_cases hm:(S n).marksK x=[]
   ·have et:(S n).take n x=S n:=by unfold Hd.take;rw[if_pos hm]
    have eS:lM S n ((S n).take n x)=S:=by
     rw[et]
     funext j
     by_cases h:j=n
     ·rw[h,gX]
     ·rw[gW h]
    have eA:(S n).takeA x=.non:=if_pos hm;rw[eS,eA];refine⟨_,ks,rs,kn,own,tG (d:=.take n x) L I Q c0 c8 (by omega) hn rfl rfl (r:=.ok .non) ?_,L1,I,Q,by omega⟩;refine(skip (by rw[gE (x:="take") rfl rfl];rfl)).trans ?_;refine(skip (by rw[gE (x:="take") rfl rfl];rfl)).trans ?_;exact xR (r:=.ok .non) (by rw[tst rfl,decide_eq_true hm]) rfl
   ·have RP:=Fl Q I c0 c8 ht hn x hm;have eA:(S n).takeA x=.lst (((S n).marksK x).map bQ):=if_neg hm;rw[eA];obtain⟨ω',e1,L2,_⟩:=sN (own':=n) L1 c0 hn (r:=⟨n,own n+1,wf,(S n).marksK x⟩) rfl (ob hn) (nk _ _ hn) (by omega);refine⟨ω',ks,_,_,dB own n,tG (d:=.take n x) L I Q c0 c8 (by omega) hn rfl rfl (r:=.ok (.lst (((S n).marksK x).map bQ))) ?_,L2,RP.1,RP.2,tb hn⟩;refine(skip (by rw[gE (x:="take") rfl rfl];rfl)).trans ?_;refine(skip (by rw[gE (x:="take") rfl rfl];rfl)).trans ?_;refine(skip (by rw[tst rfl,decide_eq_false hm])).trans ?_;refine(bB (ω1:=ω') (by
     unfold cB;rw[cJ (aW (aA (aB (d:=.obj h) rfl) (aA (aB (d:=.int n) rfl) (aA (a:=.non) rfl (aA (aB (d:=.lst (((S n).marksK x).map bQ)) rfl) aE)))) e1)])).trans ?_
    exact bD (aB rfl)
  ·have e0:step c S (.take a x)=(.str "no hand",S):=if_neg hv;rw[e0];exact⟨ω,ks,rs,kn,own,oO L (d:=.take a x) fun z=>hv z.1,L,I,Q,by omega⟩
 |tell a b=>
  by_cases hv:(0<=a/\a<(c:Int))/\(0<=b/\b<(c:Int))
  ·obtain⟨n,rfl⟩:=Int.eq_ofNat_of_zero_le hv.1.1;obtain⟨m,rfl⟩:=Int.eq_ofNat_of_zero_le hv.2.1;have hn:n<c:=by omega
   have hm:m<c:=by omega
   have lp:=mQ (ω:=ω) (h:=h) (c:=c) (.tell n m);rw[if_pos ⟨hv.1,decide_eq_true hv.2⟩] at lp;have head:∀(r:Rz D) (ω':Om) (G:OS),G (lA h c (Deed.tell n m).d (we (.int m)) (we (.int n)) wf wf wf wf) ω=we (Iu r,ω')->True:=fun _ _ _ _=>trivial;have eqt:cC (o2 (fV 8) (oP (aD 4)) (o2 (fun ω a b=>pu (bF ω a b) ω) (oP (aD 1)) (oP (dC (.int 2))))) (lA h c (Deed.tell n m).d (we (.int m)) (we (.int n)) wf wf wf wf) ω=we (.ok (decide ((n:Int)=m)),ω):=cE (eP (aB (d:=.int n) rfl) (aK (aB (d:=(Deed.tell n m).d) rfl) aR rfl) rfl)
   by_cases hnm:n=m
   ·subst hnm;have e0:step c S (.tell n n)=(.str "same hand",S):=(if_pos hv).trans (if_pos rfl);rw[e0];refine⟨ω,ks,rs,kn,own,?_,L,I,Q,by omega⟩;refine aT rfl ?_;unfold bM;refine(aM (L.gCount (aB rfl))).trans ?_;refine(bB lp).trans ?_;refine(aM (aK (aB (d:=(Deed.tell n n).d) rfl) aR rfl)).trans ?_;refine(skip (mH (d:=.tell n n) ⟨_,rfl⟩)).trans ?_;exact xR (r:=.ok _) (eqt.trans (by rw[decide_eq_true rfl])) rfl
   ·have e0:step c S (.tell n m)=(.int ((moR c kn n m m).sum-(kn m m).sum),gY S n m):=by
     rw[Fb Q L.len hn hm];exact(if_pos hv).trans (if_neg (by omega))
    rw[e0];obtain⟨ω',ks',e1,L2,_⟩:=iE L c0 c8 hn hm;refine⟨ω',ks',rs,_,own,?_,L2,kN I c0 c8 (by omega) hm hn,Q.hear I c0 c8 (by omega) hn hm hnm,by omega⟩
    ·refine aT rfl ?_;unfold bM;refine(aM (L.gCount (aB rfl))).trans ?_;refine(bB lp).trans ?_;refine(aM (aK (aB (d:=(Deed.tell n m).d) rfl) aR rfl)).trans ?_;refine(skip (mH (d:=.tell n m) ⟨_,rfl⟩)).trans ?_;refine(skip (eqt.trans (by rw[decide_eq_false (by omega)]))).trans ?_;exact xR (r:=.ok _) (by rw[gE (x:="tell") rfl rfl];rfl) (aW (aA (aB rfl) (aA (aB rfl) (aA (aK (aB (d:=(Deed.tell n m).d) rfl) aR rfl) aE))) e1)
  ·have e0:step c S (.tell a b)=(.str "no hand",S):=if_neg hv;rw[e0];exact⟨ω,ks,rs,kn,own,oO L (d:=.tell a b) fun z=>hv ⟨z.1,of_decide_eq_true z.2⟩,L,I,Q,by omega⟩
 |meet a b=>
  by_cases hv:(0<=a/\a<(c:Int))/\(0<=b/\b<(c:Int))
  ·obtain⟨n,rfl⟩:=Int.eq_ofNat_of_zero_le hv.1.1;obtain⟨m,rfl⟩:=Int.eq_ofNat_of_zero_le hv.2.1;have hn:n<c:=by omega
   have hm:m<c:=by omega
   have lp:=mQ (ω:=ω) (h:=h) (c:=c) (.meet n m);rw[if_pos ⟨hv.1,decide_eq_true hv.2⟩] at lp;have eqt:cC (o2 (fV 8) (oP (aD 4)) (o2 (fun ω a b=>pu (bF ω a b) ω) (oP (aD 1)) (oP (dC (.int 2))))) (lA h c (Deed.meet n m).d (we (.int m)) (we (.int n)) wf wf wf wf) ω=we (.ok (decide ((n:Int)=m)),ω):=cE (eP (aB (d:=.int n) rfl) (aK (aB (d:=(Deed.meet n m).d) rfl) aR rfl) rfl)
   by_cases hnm:n=m
   ·subst hnm;have e0:step c S (.meet n n)=(.str "same hand",S):=(if_pos hv).trans (if_pos rfl);rw[e0];refine⟨ω,ks,rs,kn,own,?_,L,I,Q,by omega⟩;refine aT rfl ?_;unfold bM;refine(aM (L.gCount (aB rfl))).trans ?_;refine(bB lp).trans ?_;refine(aM (aK (aB (d:=(Deed.meet n n).d) rfl) aR rfl)).trans ?_;refine(skip (mH (d:=.meet n n) ⟨_,rfl⟩)).trans ?_;exact xR (r:=.ok _) (eqt.trans (by rw[decide_eq_true rfl])) rfl
   ·have e0:step c S (.meet n m)=(.tup [.int ((moR c kn m n n).sum-(kn n n).sum),.int ((moR c (upF kn n (moR c kn m n)) n m m).sum-(upF kn n (moR c kn m n) m m).sum)],Gc S n m):=by
     rw[FZ Q I c0 c8 (by omega) L.len hn hm hnm,FY Q L.len hn hm hnm];exact(if_pos hv).trans (if_neg (by omega))
    rw[e0];have I1:=kN I c0 c8 (by omega) hm hn;have Q1:=Q.hear I c0 c8 (by omega) hn hm hnm;have I2:=kN I1 c0 c8 (by omega) hn hm;have Q2:=Q1.hear I1 c0 c8 (by omega) hm hn (bt hnm);have I3:=kN I2 c0 c8 (by omega) hm hn;have Q3:=Q2.hear I2 c0 c8 (by omega) hn hm hnm;obtain⟨ω1,ks1,e1,L1,_⟩:=iE L c0 c8 hm hn;obtain⟨ω2,ks2,e2,L2,_⟩:=iE L1 c0 c8 hn hm;obtain⟨ds,g1,g2⟩:=L2.row n hn;obtain⟨rd,i1,r1⟩:=g2.ix g1 hn;have L3:=L2.setRow c0 hn hm g1 g2 (d:=.lst (iv (upF (upF kn n (moR c kn m n)) m (moR c (upF kn n (moR c kn m n)) n m) n n))) (xs:=upF (upF kn n (moR c kn m n)) m (moR c (upF kn n (moR c kn m n)) n m) n n) rfl (L2.len _ _ hn hn);have same:=JJ (c:=c) (kn:=kn) hn hm hnm L.len Q.le _ _ _ _ _ _ rfl rfl rfl rfl rfl rfl;refine⟨_,ks2,rs,_,own,?_,L3.congr same,I3,Q3,by omega⟩
    ·refine aT rfl ?_;unfold bM;refine(aM (L.gCount (aB rfl))).trans ?_;refine(bB lp).trans ?_;refine(aM (aK (aB (d:=(Deed.meet n m).d) rfl) aR rfl)).trans ?_;refine(skip (mH (d:=.meet n m) ⟨_,rfl⟩)).trans ?_;refine(skip (eqt.trans (by rw[decide_eq_false (by omega)]))).trans ?_;refine(skip (by rw[gE (x:="meet") rfl rfl];rfl)).trans ?_;refine(aM (aW (aA (aB (d:=.obj h) rfl) (aA (aK (aB (d:=(Deed.meet n m).d) rfl) aR rfl) (aA (aB (d:=.int n) rfl) aE))) e1)).trans ?_;refine(aM (aW (aA (aB (d:=.obj h) rfl) (aA (aB (d:=.int n) rfl) (aA (aK (aB (d:=(Deed.meet n m).d) rfl) aR rfl) aE))) e2)).trans ?_;refine(bB (eK (dF (aA (aK (aK (L2.gKnown (aB (d:=.obj h) rfl)) (aB (d:=.int n) rfl) (L2.ixKnown hn)) (aB (d:=.int n) rfl) i1) aE) (by
      have:dN ω2 rd=we (iv (upF (upF kn n (moR c kn m n)) m (moR c (upF kn n (moR c kn m n)) n m) n n)):=by
       rcases eN r1 with rfl|⟨q,rfl,e⟩
       ·rfl
       ·simp only[dN,fL,e]
      show(dN ω2 rd).map _=_
      rw[this];rfl)) (aK (L2.gKnown (aB (d:=.obj h) rfl)) (aB (d:=.int n) rfl) (L2.ixKnown hn)) (aK (aB (d:=(Deed.meet n m).d) rfl) aR rfl) (lD g1 (by rw[g2.1];exact hm)))).trans ?_
     exact bD (dF (aA (aB rfl) (aA (aB rfl) aE)) rfl)
  ·have e0:step c S (.meet a b)=(.str "no hand",S):=if_neg hv;rw[e0];exact⟨ω,ks,rs,kn,own,oO L (d:=.meet a b) fun z=>hv ⟨z.1,of_decide_eq_true z.2⟩,L,I,Q,by omega⟩
end
end L2.MB.Lw
end
section
namespace L2.MB.Lw
open PySem PySem.Spec PyProof.Rows L2.MB
theorem Qm (c:Nat):Rel c (fun _=>0) (fun _=>Hd0 c) [] (fun _ _=>ao c 0) where
 knows:=fun i hi=>by
  show ao c (ao c (0:Int))=_;apply jl;intro j;rw[fg,bf]
  by_cases h:j<c
  ·rw[if_pos h,g7 h];rfl
  ·rw[if_neg h,c9 (by simp;omega)];rfl
 recs:=⟨by simp,fun r hr=>by simp at hr,fun r hr=>by simp at hr⟩
 tab:=fun i hi e=>by simp[Hd0,dS,bC]
 clo:=fun i hi r hr=>by simp at hr
 le:=fun i j hi hj t ht=>ll _
inductive Ans:D->Prop
 |non:Ans .non
 |str (x:Str):Ans (.str x)
 |int (i:Int):Ans (.int i)
 |two (a b:Int):Ans (.tup [.int a,.int b])
 |marks (ks:List (Int×Int)):ks.length<=1000->Ans (.lst (ks.map fun p=>.tup [.int p.1,.int p.2]))
theorem Ans.pl {d:D} (h:Ans d):Pl 8 d:=by
 cases h with
 |non=>exact Pl.non _
 |str x=>exact Pl.str _ _
 |int i=>exact Pl.int _ _
 |two a b=>exact Pl.tup2 (Pl.int _ _) (Pl.int _ _)
 |marks ks hk=>
  refine Pl.lst (by rw[ar];exact hk) fun d hd=> ?_;obtain⟨p,_,rfl⟩:=ax.mp hd;exact Pl.tup2 (Pl.int _ _) (Pl.int _ _)
theorem Ans.keys {c:Nat}{own:Nat->Nat}{ks:List (List Key)} (hl:ks.length<64) (h:∀ q∈ks,KeyIn c own q):Ans (.lst (ks.map bQ)):=by
 have e:ks.map bQ=(ks.map fun q=>match q with|[.inl a,.inl b]=>(a,b)|_=>((0:Int),(0:Int))).map fun p=>D.tup [.int p.1,.int p.2]:=by
  rw[jc];refine f7 fun q hq=> ?_;obtain⟨a,b,_,_,_,rfl⟩:=h q hq;rfl
 rw[e];exact .marks _ (by rw[ar];omega)
theorem Fc {c:Nat}{own:Nat->Nat}{S:Nat->Hd} (I:HInv c own S) (c0:0<c) (c8:c<=8) (ht:tot c own<64) (d:Deed):Ans (step c S d).1:=by
 cases d with
 |put a x v=>
  show Ans (if 0<=a/\a<(c:Int) then(_,_) else(_,_):D×(Nat->Hd)).1;split
  ·exact .two _ _
  ·exact .str _
 |change a x v=>
  show Ans (if 0<=a/\a<(c:Int) then(_,_) else(_,_):D×(Nat->Hd)).1;split
  ·exact .two _ _
  ·exact .str _
 |take a x=>
  show Ans (if 0<=a/\a<(c:Int) then(_,_) else(_,_):D×(Nat->Hd)).1;split
  ·rename_i h
   show Ans ((S a.toNat).takeA x);unfold Hd.takeA;split
   ·exact .non
   ·have W:=(I a.toNat (by omega)).1;have O:=W.ok c0 c8 ht;exact Ans.keys (O.marksLen x) (W.marks O x)
  ·exact .str _
 |tell a b=>
  show Ans (if(0<=a/\a<(c:Int))/\(0<=b/\b<(c:Int)) then(if a=b then(_,_) else(_,_)) else(_,_):D×(Nat->Hd)).1;split
  ·split
   ·exact .str _
   ·exact .int _
  ·exact .str _
 |meet a b=>
  show Ans (if(0<=a/\a<(c:Int))/\(0<=b/\b<(c:Int)) then(if a=b then(_,_) else(_,_)) else(_,_):D×(Nat->Hd)).1;split
  ·split
   ·exact .str _
   ·exact .two _ _
  ·exact .str _
theorem qQ {F N:Option D}{ω:Om}:∀ {ks:List (Int×Int)}{u:Option D},∃ v,bZ (bG 2) cM jG (ks.map fun p=>D.tup [.int p.1,.int p.2]) [F,N,u] ω=we (.nx [F,N,v],ω)
 |[],u=>⟨u,rfl⟩
 |p::ks,u=>by
  obtain⟨v,e⟩:=qQ (F:=F) (N:=N) (ω:=ω) (ks:=ks) (u:=we (.tup [.int p.1,.int p.2]));exact⟨v,e⟩
theorem yT {f g:OG D}{ρ:Rho}{ω:Om}{r:Option (Rz D×Om)} (e:f ρ ω=we (.ok (.bl true),ω)) (e2:g ρ ω=r):Bi f g ρ ω=r:=by
 unfold Bi;rw[bH e];exact e2
theorem Hr {d:D} (h:Ans d) (ω:Om):gA [d,d] ω=we (.ok (.bl true),ω):=by
 have eq:∀ u,o2 (fV 8) (oP (aD 0)) (oP (aD 1)) [we d,we d,u] ω=we (.ok (.bl true),ω):=fun u=>eP (aB (d:=d) rfl) (aB (d:=d) rfl) (by
  have hd:gQ ω d=d:=by cases h <;> rfl
  show pu ((eqD 8 (gQ ω d) (gQ ω d)).map D.bl) ω=_;rw[hd,mP h.pl];rfl)
 refine aT rfl ?_;cases h with
 |non=>exact xR (r:=.ok _) rfl (yT (eq _) rfl)
 |str x=>exact xR (r:=.ok _) rfl (yT (eq _) rfl)
 |int i=>
  refine(skip rfl).trans ?_;refine(skip rfl).trans ?_;refine(skip rfl).trans ?_;exact bD (yT (aW (aA (aB (d:=.int i) rfl) aE) rfl) (eq _))
 |two a b=>
  refine(skip rfl).trans ?_;refine nH (r:=.ok (.bl true)) ?_;refine(jM (ω1:=ω) rfl).trans ?_;refine(skip rfl).trans ?_;exact bD (eq _)
 |marks ks hk=>
  obtain⟨v,el⟩:=qQ (F:=we (.lst (ks.map fun p=>D.tup [.int p.1,.int p.2]))) (N:=we (.lst (ks.map fun p=>D.tup [.int p.1,.int p.2]))) (ω:=ω) (ks:=ks) (u:=wf);refine(skip rfl).trans ?_;refine(skip rfl).trans ?_;refine nH (r:=.ok (.bl true)) ?_;refine(jM (ω1:=ω) rfl).trans ?_;refine(skip (Je rfl (HP (a:=((ks.map fun p=>D.tup [.int p.1,.int p.2]).length:Nat)) (b:=((ks.map fun p=>D.tup [.int p.1,.int p.2]).length:Nat)) (sR (aB rfl) (.inl rfl)) (sR (aB rfl) (.inl rfl)) rfl))).trans ?_;refine(bB (jB (by
   unfold cD oIL;rw[cJ (x:=(ks.map fun p=>D.tup [.int p.1,.int p.2],cM)) (ω1:=ω) (by rw[bH (aB (d:=.lst (ks.map fun p=>D.tup [.int p.1,.int p.2])) rfl)];rfl)];exact el))).trans ?_
  exact bD (eq _)
noncomputable abbrev KP (sc:D) (c h:Nat) (H T:D) (v6:Option D):Rho:=[we sc,we (.int c),we (.obj 0),we H,we T,we (.obj h),v6]
theorem Ap {B:Om}{c h dd oo kk:Nat}{sc H:D}{all:List Deed} (c0:0<c) (c8:c<=8) (hB:B[0]?=we (.ml (all.map Deed.d))):∀(ds pre:List Deed) (tp:List D) {S:Nat->Hd}{ω:Om}{ks:Nat->Nat}{rs:List Rec}{kn:Nat->Nat->List Int}{own:Nat->Nat}{v6:Option D},LawAt B ω c h dd oo kk ks rs kn->HInv c own S->Rel c own S rs kn->tot c own+ds.length<64->all=pre++ds->tp.length=pre.length->
  ∃ ω' v6',bZ (bG 6) cM sV (pT pre.length ds.length) (KP sc c h H (.lst (tp++(sC c ds S).1)) v6) ω=we (.nx (KP sc c h H (.lst (tp++(sC c ds S).1)) v6'),ω')
 |[],pre,tp,S,ω,ks,rs,kn,own,v6,L,I,Q,ht,ha,hp=>⟨ω,v6,rfl⟩
 |d::ds,pre,tp,S,ω,ks,rs,kn,own,v6,L,I,Q,ht,ha,hp=>by
  rw[bv] at ht ⊢;obtain⟨ω1,ks1,rs1,kn1,own1,e1,L1,I1,Q1,t1⟩:=MX L I Q c0 c8 (by omega) d;have et:tp++(sC c (d::ds) S).1=(tp++[(step c S d).1])++(sC c ds (step c S d).2).1:=by
   rw[ff];rfl
  obtain⟨ω2,w6,e2⟩:=Ap (sc:=sc) (H:=H) c0 c8 hB ds (pre++[d]) (tp++[(step c S d).1]) (v6:=we (.int (pre.length:Int))) L1 I1 Q1 (by omega) (by rw[ha];simp) (by simp[hp]);rw[et,fQ];rw[b0,jg] at e2;refine⟨ω2,w6,?_⟩;have x4:∀ ω:Om,bF ω (.lst (tp++[(step c S d).1]++(sC c ds (step c S d).2).1)) (.int (pre.length:Int))=we (step c S d).1:=fun ω=>by
   show atI _ _=_;exact rS (by rw[<- hp,ff,cr (bc _)];simp)
  have x2:bF ω (.obj 0) (.int (pre.length:Int))=we d.d:=by
   have g0:ω[0]?=we (.ml (all.map Deed.d)):=by rw[L.bas.2 0 (dO hB)];exact hB
   rw[iI g0];exact rS (by rw[ha,cx,cr (by simp)];simp)
  have b1:sV (KP sc c h H (.lst (tp++[(step c S d).1]++(sC c ds (step c S d).2).1)) (we (.int (pre.length:Int)))) ω=we (.nx (KP sc c h H (.lst (tp++[(step c S d).1]++(sC c ds (step c S d).2).1)) (we (.int (pre.length:Int)))),ω1):=by
   refine(lF (ω1:=ω1) ?_).trans rfl;have ea:bK gA (aC (o2 (fun ω a b=>pu (bF ω a b) ω) (oP (aD 4)) (oP (aD 6))) (aC (bK bU (aC (oP (aD 5)) (aC (o2 (fun ω a b=>pu (bF ω a b) ω) (oP (aD 2)) (oP (aD 6))) aQ))) aQ)) (KP sc c h H (.lst (tp++[(step c S d).1]++(sC c ds (step c S d).2).1)) (we (.int (pre.length:Int)))) ω=we (.ok (.bl true),ω1):=
    aW (aA (aK (aB rfl) (aB (d:=.int (pre.length:Int)) rfl) (x4 ω)) (aA (aW (aA (aB (d:=.obj h) rfl) (aA (aK (aB (d:=.obj 0) rfl) (aB (d:=.int (pre.length:Int)) rfl) x2) aE)) e1) aE)) (Hr (Fc I c0 c8 (by omega) d) ω1)
   unfold lH jY;rw[bH (x:=true) (ω1:=ω1) (by rw[bH ea];rfl)];rfl
  exact(gH rfl rfl b1).trans e2
theorem Ir (ns:List Int) (hns:ns.length<=63) (ω:Om):iU [.scr (ns.map D.int),.int 40,.int 150] ω=we (.ok (.int 40),ω):=by
 refine aT rfl ?_;refine(skip (cE (fD (dF (aA (aB (d:=.scr (ns.map D.int)) rfl) aE) (show _=we (D.int ((ns.map D.int).length),ω) from rfl)) aR (show we (D.bl (decide (((ns.map D.int).length:Int)>63)))=_ from by rw[ar,decide_eq_false (by omega)])))).trans ?_;exact bD (aB rfl)
theorem AY {ns:List Int}{lo:Option Int}{hi:Int}{f g:OG D}{l:DO}{ρ:Rho}{ω:Om} (e:f ρ ω=we (.ok (.scr (ns.map D.int)),ω)) (hl:l ρ=we lo) (hu:g ρ ω=we (.ok (.int hi),ω)):∃ xs:List Int,Np f l g ρ ω=we (.ok (.lst (iv xs)),ω)/\xs.length<=ns.length:=by
 obtain⟨xs,e1,hx⟩:=Nh ns lo (we hi);refine⟨xs,?_,hx⟩;unfold Np;rw[bH e]
 show(l ρ).bind _=_
 rw[hl,Option.bind_some,bH hu];show oR (pu (we (D.lst (AI (ns.map D.int) lo (we hi)))) ω)=_;rw[e1];rfl
theorem law_true (ns:List Int) (hns:ns.length<=63):∃ ω',p_law [.scr (ns.map D.int)] []=we (.ok (.bl true),ω'):=by
 obtain⟨x0,e0⟩:=Ni ns 0 [];have r8:=Dl (x:=x0*48271 % 1069) (q:=8) (by decide);obtain⟨c,hc,c0,c8⟩:∃ c:Nat,([1,2,3,4,2,3,4,8]:List Int).getD (x0*48271 % 1069 % 8).toNat 0=(c:Int)/\0<c/\c<=8:=by
  generalize x0*48271 % 1069 % 8=r at r8
  have hr:r=0∨r=1∨r=2∨r=3∨r=4∨r=5∨r=6∨r=7:=by omega
  rcases hr with rfl|rfl|rfl|rfl|rfl|rfl|rfl|rfl
  ·exact⟨1,rfl,by decide,by decide⟩
  ·exact⟨2,rfl,by decide,by decide⟩
  ·exact⟨3,rfl,by decide,by decide⟩
  ·exact⟨4,rfl,by decide,by decide⟩
  ·exact⟨2,rfl,by decide,by decide⟩
  ·exact⟨3,rfl,by decide,by decide⟩
  ·exact⟨4,rfl,by decide,by decide⟩
  ·exact⟨8,rfl,by decide,by decide⟩
 obtain⟨xs,es,hxs⟩:=AY (f:=oP (aD 0)) (ρ:=[we (.scr (ns.map D.int)),we (.int c),wf,wf,wf,wf,wf]) (ω:=[]) (ns:=ns) (lo:=we 1) (hi:=41) (l:=dSo (dC (.int 1))) (g:=o2 (lf sZ) (oP (dC (.int 1))) (bK iU (aC (oP (aD 0)) (aC (oP (dC (.int 40))) (aC (oP (dC (.int 150))) aQ))))) (aB rfl) rfl (fD aR (aW (aA (aB (d:=.scr (ns.map D.int)) rfl) (aA aR (aA aR aE))) (Ir ns hns [])) rfl);obtain⟨ds,hds,ed⟩:=GX (xs:=xs) (show 1<=c from c0) c8 (by omega) [];have hl:ds.length<64:=by omega
 obtain⟨ω1,hω1⟩:∃ ω1:Om,ω1=[]++[Ob.ml (ds.map Deed.d)]:=⟨_,rfl⟩;rw[<- hω1] at ed;have g1:ω1[0]?=we (.ml (ds.map Deed.d)):=by rw[hω1];rfl
 have D1:DeedsAt ω1 (.obj 0) ds:=by unfold DeedsAt fL;simp only[g1]
 obtain⟨ω2,ea,K2,P2⟩:=BN c0 c8 hl ω1;have g2:ω2[0]?=we (.ml (ds.map Deed.d)):=by rw[K2.2 0 (dO g1) (by simp)];exact g1
 have D2:DeedsAt ω2 (.obj 0) ds:=D1.keep K2;have tl:(uQ c ds).length=ds.length:=by unfold uQ;rw[Ab]
 obtain⟨ω3,h,dd,oo,kk,ks,en,L3⟩:=Br c0 c8 ω2;obtain⟨ω4,w6,e4⟩:=Ap (sc:=.scr (ns.map D.int)) (H:=.lst (ds.map Deed.d)) c0 c8 g2 ds [] [] (v6:=wf) L3 (Nn c) (Qm c) (by rw[NA];omega) rfl rfl;refine⟨ω4,aT rfl ?_⟩;unfold MN;refine(aM (d:=.int c) (ω1:=[]) (by
  rw[<- hc];exact Dx (xs:=[1,2,3,4,2,3,4,8]) rfl (oM (a:=x0) (aW (aA (aB (d:=.scr (ns.map D.int)) rfl) (aA aR aE)) e0) aR (by decide) (by decide)) r8.1 r8.2)).trans ?_
 refine(aM (aW (aA es (aA (aB (d:=.int c) rfl) aE)) ed)).trans ?_;refine(aM (D1.list (aB rfl))).trans ?_;refine(aM (aW (aA (aB (d:=.int c) rfl) (aA (aB (d:=.lst (ds.map Deed.d)) rfl) aE)) ea)).trans ?_;have len0:oL fU (aC (oP (aD 2)) aQ) [we (.scr (ns.map D.int)),we (.int c),we (.obj 0),we (.lst (ds.map Deed.d)),we (.lst (uQ c ds)),wf,wf] ω2=we (.ok (.int ds.length),ω2):=dF (aA (aB (d:=.obj 0) rfl) aE) (by
  have:fL ω2 (.obj 0)=we (ds.map Deed.d):=D2
  simp only[fU,this,ar])
 refine(skip (Je (De (k:=true) (tru_ok (Dz (aB (d:=.lst (uQ c ds)) rfl) (by simp[HU,fL,Gi,Gj])))) (Je (HP (a:=((uQ c ds).length:Int)) (b:=(ds.length:Int)) (sR (aB (d:=.lst (uQ c ds)) rfl) (.inl rfl)) len0 (by rw[tl])) (cE (eP (aB (d:=.lst (ds.map Deed.d)) rfl) (aB (d:=.obj 0) rfl) (by
  have hd:gQ ω2 (.obj 0)=.lst (ds.map Deed.d):=by unfold gQ;rw[show fL ω2 (.obj 0)=we (ds.map Deed.d) from D2]
  show pu ((eqD 8 (.lst (ds.map Deed.d)) (gQ ω2 (.obj 0))).map fun k=>D.bl (!k)) ω2=_;rw[hd,mP ((Pl.deeds (by omega)).mono (by decide))];rfl)))))).trans ?_
 refine(aM (aW (aA (aB (d:=.int c) rfl) aE) en)).trans ?_;refine(bB (jB (by
  unfold cD;rw[cJ (lN (c:=ds.length) (ω1:=ω3) (dF (aA (aB (d:=.obj 0) rfl) aE) (by
   have g3:ω3[0]?=we (.ml (ds.map Deed.d)):=by rw[L3.bas.2 0 (dO g2)];exact g2
   have:fL ω3 (.obj 0)=we (ds.map Deed.d):=by unfold fL;simp only[g3]
   simp only[fU,this,ar])) (by omega))]
  exact e4))).trans ?_
 rfl
noncomputable def top (i:Nat):cq:=PySem.Challenge.pw_meetbook_k03_answers.main.body.getD i (.Pass ⟨0,0,0,0⟩)
noncomputable abbrev lfs:List (Str×Str×cq):=[("has_seen","",top 6),("joined","",top 7),("common","",top 8),("newer","",top 9),("left_by","",top 11),("done","",top 16),("answer_to","",top 17),("answers","",top 18),("_law_whole","",top 20),("_law_at","",top 21),("_law_odd","",top 22),("_law_word","",top 23),("_law_deed_of","",top 24),("_law_drawn","",top 25),("_law_new","",top 26),("_law_present","",top 27),("_law_noted","",top 28),("_law_gets_told","",top 29),("_law_due_answer","",top 30),("_law_numbers","",top 31),("_law_alike","",top 32),("_law_room","",top 33)]
noncomputable abbrev Pq:List (Str×Str×cq):=[("seen","Hand.seen",cA (top 12) 1),("entries","Hand.entries",cA (top 12) 2),("new_mark","Hand.new_mark",cA (top 12) 9),("put","Hand.put",cA (top 12) 5),("forget","Hand.forget",cA (top 12) 12),("take_out","Hand.take_out",cA (top 12) 11),("marks_of","Hand.marks_of",cA (top 12) 10),("change","Hand.change",cA (top 12) 6),("take","Hand.take",cA (top 12) 7),("hear","Hand.hear",cA (top 12) 8)]
noncomputable abbrev Pp:List (Str×Str×cq):=[("hand","Hall.hand",cA (top 14) 1),("pair","Hall.pair",cA (top 14) 2),("put","Hall.put",cA (top 14) 3),("change","Hall.change",cA (top 14) 4),("take","Hall.take",cA (top 14) 5),("tell","Hall.tell",cA (top 14) 6),("meet","Hall.meet",cA (top 14) 7)]
structure Txt (K:aa) (mg:Str->Option ag) (cls exC:Nat->af):Prop where
 bn:Bn mg
 dict:mg "dict"=wf
 c0:Cls K (cls 0)
 m0:mg "Hand"=we (.ref (cls 0))
 c1:Cls K (cls 1)
 m1:mg "Hall"=we (.ref (cls 1))
 a0_kept:NoAttr K (cls 0) "kept"
 a0_knows:NoAttr K (cls 0) "knows"
 a0_number:NoAttr K (cls 0) "number"
 a0_table:NoAttr K (cls 0) "table"
 a1_hands:NoAttr K (cls 1) "hands"
 x0:mg "NoHand"=we (.ref (exC 0))
 x1:mg "SameHand"=we (.ref (exC 1))
 exs:∃ tl1 tl2,ownIn K (exC 0) tl1/\ownIn K (exC 1) tl2/\(b7 (exC 1)::tl2).contains (.ref (exC 0))=false
 fn:AllP (fun x _ s=>FF K mg x s) lfs
 mt0:AllP (FM K (cls 0)) Pq
 in0:FI K (cls 0) "__init__" "Hand.__init__" (cA (top 12) 0)
 mt1:AllP (FM K (cls 1)) Pp
 in1:FI K (cls 1) "__init__" "Hall.__init__" (cA (top 14) 0)
set_option compiler.extract_closed false
local macro_rules
 | `(tactic|apply_rules [$ts,*])=>do
 let [hu,hu1,hu6,hr,hE,hR,T]:=[`hu,`hu1,`hu6,`hr,`hE,`hR,`T].map Lean.mkIdent|ph
 let R <- `(tactic|apply_rules [$ts,*])
 let hm <- `(by first|exact $hr|exact($hr).mono (by decide))
 let hp <- `(by first|exact NZ|exact($hE).pas)
 let cs <- ts.getElems.mapM fun u=>let t:Lean.TSyntax `term:=⟨u.raw[0]⟩;`(tactic|first|(refine FO $t $hm $hp ?_) <;> $R|(refine Jv $t $hm $hp ?_ ?_) <;> $R|(refine FQ $t $hm ?_ $hp ?_) <;> $R|(refine Jx $t $hm ?_ $hp ?_) <;> $R)
 `(tactic|first
  |(with_reducible apply CY);first|with_reducible exact AH|with_reducible exact AG|with_reducible exact Nb|with_reducible exact ON|with_reducible exact Ib AH|exact dvk (by kernel_rfl)
  |with_reducible exact MA
  |with_reducible exact Kq
  |with_reducible exact Jr
  |with_reducible exact FK
  |with_reducible exact LU
  |with_reducible exact OL
  |with_reducible exact OJ
  |(with_reducible apply JE) <;> $R
  |(with_reducible apply Op) <;> $R
  |(with_reducible apply Jz) <;> $R
  |(with_reducible apply Mv) <;> $R
  |(with_reducible apply Mz) <;> $R
  |(with_reducible apply Mo) <;> $R
  |(with_reducible apply Mr) <;> $R
  |(with_reducible apply Ms) <;> $R
  |(with_reducible apply JD) <;> $R
  |(with_reducible apply Js) <;> $R
  |(with_reducible apply Jp) <;> $R
  |(with_reducible apply JB) <;> $R
  |(with_reducible apply Mx) <;> $R
  |(with_reducible apply Oo) <;> $R
  |(with_reducible apply Oq) <;> $R
  |(with_reducible apply Oc) <;> $R
  |(with_reducible apply Od) <;> $R
  |(with_reducible apply Of) <;> $R
  |(with_reducible apply Og) <;> $R
  |(with_reducible apply LO) <;> $R
  |(with_reducible apply IU) <;> $R
  |(with_reducible apply Mw) <;> $R
  |(with_reducible apply LP) <;> $R
  |(with_reducible apply LN) <;> $R
  |(with_reducible apply Oe) <;> $R
  |(with_reducible apply FD) <;> $R
  |(with_reducible apply LQ) <;> $R
  |(with_reducible apply IV) <;> $R
  |(with_reducible apply Mq) <;> $R
  |(with_reducible apply My) <;> $R
  |(with_reducible apply Mp) <;> $R
  |(with_reducible apply FL) <;> $R
  |(with_reducible apply CW) <;> $R
  |(with_reducible apply Jt) <;> $R
  |(with_reducible apply Mu) <;> $R
  |(with_reducible apply Mn) <;> $R
  |(with_reducible apply Da) <;> $R
  |(with_reducible apply Jq) <;> $R
  |(with_reducible apply Jn) <;> $R
  |(with_reducible apply CU) <;> $R
  |(with_reducible apply Ml) <;> $R
  |(with_reducible apply Mm) <;> $R
  |(with_reducible apply Jl) <;> $R
  |(with_reducible apply FJ) <;> $R
  |(with_reducible apply LK) <;> $R
  |(with_reducible apply IT) <;> $R
  |(with_reducible apply Oa) <;> $R
  |(with_reducible apply LJ) <;> $R
  |(with_reducible apply LM) <;> $R
  |(with_reducible apply LL) <;> $R
  |(with_reducible apply PV) <;> $R
  |(with_reducible apply Jb) <;> $R
  |(with_reducible apply LS) <;> $R
  |(with_reducible apply LR) <;> $R
  |(with_reducible apply Oh) <;> $R
  |(with_reducible apply IZ) <;> $R
  |(with_reducible apply LW) <;> $R
  |(with_reducible apply Ja) <;> $R
  |(with_reducible apply IX) <;> $R
  |(with_reducible apply LV) <;> $R
  |(with_reducible apply IY) <;> $R
  |(with_reducible apply Jd) <;> $R
  |(with_reducible apply Kp) <;> $R
  |(with_reducible show OE _ _ _ _ (oL (lfL GA) _));(refine iV (EH rfl) (FitL.lift GK) ?_ ($T).bn.min boot.min ?_) <;> $R
  |(with_reducible show OE _ _ _ _ (oL (lfL vW) _));(refine iV (EI rfl) (FitL.lift GL) ?_ ($T).bn.max boot.max ?_) <;> $R
  |(with_reducible show OE _ _ _ _ (oL xY _));(refine iV (wJ rfl) GG ?_ ($T).bn.sum boot.sum ?_) <;> $R
  |(with_reducible show OE _ _ _ _ (oL (lfL Nt) _));(refine iV (wJ rfl) (FitL.lift Kg) ?_ ($T).bn.sum boot.sum ?_) <;> $R
  |(with_reducible show OE _ _ _ _ (oL (Gx _) _));(refine iV (EG $hu6) GH ?_ ($T).bn.sorted boot.sorted ?_) <;> $R
  |(with_reducible show OE _ _ _ _ (oL fU _));(refine iV Hk GM ?_ ($T).bn.len boot.len ?_) <;> $R
  |(with_reducible show OE _ _ _ _ (oL (lfL Nv) _));(refine kH EK (FitL.lift Kl) ?_ ($T).bn.int boot.int ?_) <;> $R
  |(with_reducible show OE _ _ _ _ (oL rC _));(refine kH lV Eg ?_ ($T).bn.list boot.list ?_) <;> $R
  |(with_reducible show OE _ _ _ _ (oL oK _));(refine kH lV Ef ?_ ($T).bn.list boot.list ?_) <;> $R
  |(with_reducible show OE _ _ _ _ (oL DW _));(refine kH tR GF ?_ ($T).bn.tuple boot.tuple ?_) <;> $R
  |(with_reducible show OE _ _ _ _ (FR _ _));(refine Jo $hu6 rfl ?_ ($T).bn.sorted ?_) <;> $R
  |(with_reducible show OE _ _ _ _ (mK "str" _));(refine vF ?_ ?_ ($T).bn.isinstance ?_ ($T).bn.str boot.str) <;> $R
  |(with_reducible show OE _ _ _ _ (mK "int" _));(refine vF ?_ ?_ ($T).bn.isinstance ?_ ($T).bn.int boot.int) <;> $R
  |(with_reducible show OE _ _ _ _ (mK "bool" _));(refine vF ?_ ?_ ($T).bn.isinstance ?_ ($T).bn.bool boot.bool) <;> $R
  |(with_reducible show OE _ _ _ _ (mK "list" _));(refine vF ?_ ?_ ($T).bn.isinstance ?_ ($T).bn.list boot.list) <;> $R
  |(with_reducible show OE _ _ _ _ (mK "tuple" _));(refine vF ?_ ?_ ($T).bn.isinstance ?_ ($T).bn.tuple boot.tuple) <;> $R
  |(with_reducible show OE _ _ _ _ (eE _ _ _ _ _ _));(refine FP ?_ rfl rfl (by kernel_rfl) ?_ (fun _ _ _ _ _ _=>⟨?_,?_,?_⟩)) <;> $R
  |(with_reducible show OE _ _ _ _ (Bh _));(refine Jy ?_ rfl rfl (by simp) (by decide)) <;> $R
  |(with_reducible show PPs _ _ (_::_) _ _);(refine Fy (CY AG) ?_ ?_) <;> $R
  |(with_reducible show PPs _ _ [] _ _);(refine IF) <;> $R
  |(with_reducible show OSt _ _ _ _ (uZ _ _ _ _ _));(obtain⟨_,_,o0,o1,hne⟩:=($T).exs;refine IW ($hE).ex rfl rfl ⟨_,rfl⟩ ?_ ?_ ($T).x0 ($T).x1 o0 o1 hne (fun _ _ _ $hE=> ?_) (fun _=> ?_) (fun _=> ?_)) <;> $R
  |with_reducible exact AH
  |with_reducible exact Ib AH
  |(with_reducible show DE _ (.Name _ _) _);exact dvk (by kernel_rfl)
  |(with_reducible show PG _ (.Name _ _) _);exact Qc (by kernel_rfl)
  |(with_reducible show PG _ (.Tuple [_,_] _ _) _);exact Qb rfl (by kernel_rfl) (by kernel_rfl)
  |(with_reducible show Gl _ _);unfold Gl;kernel_rfl
  |(with_reducible show OSt _ _ _ _ (aV _ _));(refine Qj (by kernel_rfl) ?_) <;> $R
  |(with_reducible show OSt _ _ _ _ (aV _ _));(refine FE ?_ (by kernel_rfl) rfl rfl (by kernel_rfl) ?_ (fun _ _ _ _ _ _=>⟨?_,?_,?_⟩)) <;> $R
  |(with_reducible show OSt _ _ _ _ (Aa _ _));obtain⟨_,_,o0,o1,hne⟩:=($T).exs;first|exact Ah rfl $hR (by rfl) ($T).x0 o0 AG|exact Ah rfl $hR (by rfl) ($T).x1 o1 AG
  |exact rfl
  |(intro _;exact rfl)
  |(intro _ _;exact rfl)
  |exact($T).bn.range
  |exact($T).bn.zip
  |exact($T).c0
  |exact($T).c1
  |exact($T).a0_kept
  |exact($T).a0_knows
  |exact($T).a0_number
  |exact($T).a0_table
  |exact($T).a1_hands
  |exact $hu
  |exact $hu1
  |exact $hu6
  |with_unfolding_all rfl
  |decide
  $[| $cs:tactic]*)
set_option compiler.extract_closed false
local macro_rules
 | `(tactic|solve_by_elim [$ts,*])=>do
 let [hu,hu1,hu6,hr,hE,hR]:=[`hu,`hu1,`hu6,`hr,`hE,`hR].map Lean.mkIdent|ph
 `(tactic|(intro _ _ _ _ _ _ _ $hr $hu $hu1 $hu6 $hE $hR;conv=>(arg 4;whnf));apply_rules [$ts,*])
section
seal PE PT PA PS PSs PI PG PW PO PPs KD
variable {P:da}{w:dc}{K:aa}{mg:Str->Option ag}{base:cy}{cls exC:Nat->af} (T:Txt K mg cls exC)
include T
theorem rH:mW P w K mg base cls exC 1 "has_seen" BU eV:=dfD (T.fn.get 0 rfl) (by solve_by_elim [])
theorem Hi:mW P w K mg base cls exC 1 "joined" Ht gB:=dfD (T.fn.get 1 rfl) (by solve_by_elim [])
theorem Hj:mW P w K mg base cls exC 1 "common" Hu mJ:=dfD (T.fn.get 2 rfl) (by solve_by_elim [])
theorem Ks:mW P w K mg base cls exC 1 "newer" KC xF:=dfD (T.fn.get 3 rfl) (by solve_by_elim [])
theorem jW:rT P w K mg base cls exC 1 0 "seen" zA cW:=dfM (T.mt0.get 0 rfl) T.c0 (by solve_by_elim [])
theorem Et:mW P w K mg base cls exC 2 "left_by" EN kG:=dfD (T.fn.get 4 rfl) (by solve_by_elim [jW T,rH T])
theorem tK:Nx P w K mg base cls exC 1 0 "Hand" tW dJ:=dfI T.in0 T.m0 (by solve_by_elim [])
theorem jI:rT P w K mg base cls exC 1 0 "entries" pY cL:=dfM (T.mt0.get 1 rfl) T.c0 (by solve_by_elim [])
theorem iK:rT P w K mg base cls exC 2 0 "new_mark" pN cX:=dfM (T.mt0.get 2 rfl) T.c0 (by solve_by_elim [jW T])
theorem rJ:rT P w K mg base cls exC 3 0 "put" BV dU:=dfM (T.mt0.get 3 rfl) T.c0 (by solve_by_elim [iK T])
theorem kW:rT P w K mg base cls exC 2 0 "forget" tX eO:=dfM (T.mt0.get 4 rfl) T.c0 (by solve_by_elim [rH T,Hj T])
theorem iJ:rT P w K mg base cls exC 3 0 "take_out" pM cV:=dfM (T.mt0.get 5 rfl) T.c0 (by solve_by_elim [kW T])
theorem iL:rT P w K mg base cls exC 2 0 "marks_of" pO cY:=dfM (T.mt0.get 6 rfl) T.c0 (by solve_by_elim [jI T])
theorem tL:rT P w K mg base cls exC 4 0 "change" tY dL:=dfM (T.mt0.get 7 rfl) T.c0 (by solve_by_elim [iJ T,rJ T,iL T])
theorem yL:rT P w K mg base cls exC 4 0 "take" yZ eZ:=dfM (T.mt0.get 8 rfl) T.c0 (by solve_by_elim [iJ T,iK T,iL T])
theorem pB:rT P w K mg base cls exC 3 0 "hear" zB cH:=dfM (T.mt0.get 9 rfl) T.c0 (by solve_by_elim [kW T,Hi T,jI T,Et T,jW T,Ks T])
theorem tM:Nx P w K mg base cls exC 3 1 "Hall" tZ gC:=dfI T.in1 T.m1 (by solve_by_elim [tK T])
theorem gL:rT P w K mg base cls exC 1 1 "hand" zG bJ:=dfM (T.mt1.get 0 rfl) T.c1 (by solve_by_elim [])
theorem pC:rT P w K mg base cls exC 2 1 "pair" zE bR:=dfM (T.mt1.get 1 rfl) T.c1 (by solve_by_elim [gL T])
theorem BK:rT P w K mg base cls exC 4 1 "put" BW fR:=dfM (T.mt1.get 2 rfl) T.c1 (by solve_by_elim [gL T,rJ T])
theorem tN:rT P w K mg base cls exC 5 1 "change" uA dM:=dfM (T.mt1.get 3 rfl) T.c1 (by solve_by_elim [gL T,tL T])
theorem yN:rT P w K mg base cls exC 5 1 "take" zD fB:=dfM (T.mt1.get 4 rfl) T.c1 (by solve_by_elim [gL T,yL T])
theorem yM:rT P w K mg base cls exC 4 1 "tell" zC fA:=dfM (T.mt1.get 5 rfl) T.c1 (by solve_by_elim [pB T,pC T])
theorem yO:rT P w K mg base cls exC 4 1 "meet" zF fC:=dfM (T.mt1.get 6 rfl) T.c1 (by solve_by_elim [pB T,pC T])
theorem Ng:mW P w K mg base cls exC 6 "done" Nl jC:=dfD (T.fn.get 5 rfl) (by solve_by_elim [yO T,yM T,yN T,tN T,BK T])
theorem yK:mW P w K mg base cls exC 7 "answer_to" yY cG:=dfD (T.fn.get 6 rfl) (by solve_by_elim [Ng T])
theorem Ey:mW P w K mg base cls exC 8 "answers" ER nM:=dfD (T.fn.get 7 rfl) (by solve_by_elim [yK T,tM T])
theorem oZ:mW P w K mg base cls exC 1 "_law_whole" yU jN:=dfD (T.fn.get 8 rfl) (by solve_by_elim [])
theorem Hh:mW P w K mg base cls exC 1 "_law_at" Hs sG:=dfD (T.fn.get 9 rfl) (by solve_by_elim [])
theorem Eu:mW P w K mg base cls exC 1 "_law_odd" EO eD:=dfD (T.fn.get 10 rfl) (by solve_by_elim [])
theorem BI:mW P w K mg base cls exC 1 "_law_word" BP iT:=dfD (T.fn.get 11 rfl) (by solve_by_elim [])
theorem tJ:mW P w K mg base cls exC 2 "_law_deed_of" tV fZ:=dfD (T.fn.get 12 rfl) (by solve_by_elim [Eu T,BI T])
theorem yI:mW P w K mg base cls exC 3 "_law_drawn" yW jO:=dfD (T.fn.get 13 rfl) (by solve_by_elim [tJ T])
theorem Ev:mW P w K mg base cls exC 1 "_law_new" EQ nL:=dfD (T.fn.get 14 rfl) (by solve_by_elim [])
theorem tH:mW P w K mg base cls exC 1 "_law_present" tT fX:=dfD (T.fn.get 15 rfl) (by solve_by_elim [])
theorem yH:mW P w K mg base cls exC 1 "_law_noted" yV cT:=dfD (T.fn.get 16 rfl) (by solve_by_elim [])
theorem pA:mW P w K mg base cls exC 1 "_law_gets_told" pL cU:=dfD (T.fn.get 17 rfl) (by solve_by_elim [])
theorem mD:mW P w K mg base cls exC 2 "_law_due_answer" mE bU:=dfD (T.fn.get 18 rfl) (by solve_by_elim [pA T,yH T,tH T])
theorem tI:mW P w K mg base cls exC 2 "_law_numbers" tU fY:=dfD (T.fn.get 19 rfl) (by solve_by_elim [oZ T])
theorem yJ:mW P w K mg base cls exC 3 "_law_alike" yX gA:=dfD (T.fn.get 20 rfl) (by solve_by_elim [oZ T,tI T])
theorem BJ:mW P w K mg base cls exC 1 "_law_room" BQ iU:=dfD (T.fn.get 21 rfl) (by solve_by_elim [])
theorem OO {f:af}{fd:ji} (F:Ny K mg "law" (top 34) f fd):qB P w K mg base (CX1 P w exC) 9 f fd OU (spO cls exC K p_law):=AL F.fn (by constructor <;> first|rfl|decide+kernel) (by solve_by_elim [mD T,yJ T,Ev T,Ey T,BJ T,yI T,Hh T])
end
noncomputable abbrev cs:List Str:=["Hand","Hall"]
noncomputable abbrev xs:List Str:=["NoHand","SameHand"]
theorem all_mk {P:da}{w:dc}{K:aa}{h:cy}{mg:Str->Option ag}{fa C0 C1 E0 E1:af}{tl0 tl1:List ag} (X:K.In h) (G:h.Ns b8 mg) (hfa:mg "law"=we (.ref fa))
  (T:Bn mg)
  (hdict:ck K b8 "dict"=we wf)
  (n0:clsIn K "Hand" C0) (c0:Cls K C0) (mk0:mkIn K C0)
  (a0_kept:NoAttr K C0 "kept")
  (a0_knows:NoAttr K C0 "knows")
  (a0_number:NoAttr K C0 "number")
  (a0_table:NoAttr K C0 "table")
  (n1:clsIn K "Hall" C1) (c1:Cls K C1) (mk1:mkIn K C1)
  (a1_hands:NoAttr K C1 "hands")
  (e0:clsIn K "NoHand" E0) (o0:ownIn K E0 tl0)
  (e1:clsIn K "SameHand" E1) (o1:ownIn K E1 tl1)
  (hne:(b7 E1::tl1).contains (.ref E0)=false)
  (If:AllP (fun x _ s=>FnIn K x s) lfs) (I:FnIn K "law" (top 34))
  (M0:AllP (mtF K C0) Pq) (i0:mtF K C0 "__init__" "Hand.__init__" (cA (top 12) 0))
  (M1:AllP (mtF K C1) Pp) (i1:mtF K C1 "__init__" "Hall.__init__" (cA (top 14) 0))
  :∃ fd:ji,(∀(s:am) (v:ag),r9 s fd ⟨[v],[]⟩ [("_law_script",v)])/\∀ base:cy,K.In base->base.Ns b8 mg->qB P w K mg base (CX1 P w (iN K xs)) 9 fa fd ["_law_script"] (spO (iN K cs) (iN K xs) K p_law):=by
 have q0:iN K cs 0=C0:=mU rfl n0;subst q0;have q1:iN K cs 1=C1:=mU rfl n1;subst q1;have r0:iN K xs 0=E0:=mU rfl e0;subst r0;have r1:iN K xs 1=E1:=mU rfl e1;subst r1;have TT:Txt K mg (iN K cs) (iN K xs):=⟨T,c4 X G hdict,c0,m7 X G n0,c1,m7 X G n1,a0_kept,a0_knows,a0_number,a0_table,a1_hands,m7 X G e0,m7 X G e1,⟨tl0,tl1,o0,o1,hne⟩,If.imp fun _ _ _ h=>h.fnAt X G,M0.imp fun _ _ _ h=>h.out,i0.mk mk0,M1.imp fun _ _ _ h=>h.out,i1.mk mk1⟩;obtain⟨a_law,fd_law,F_law⟩:=I.fnAt X G;obtain rfl:a_law=fa:=by
  have e:=hfa.symm.trans F_law.at_;cases e;rfl
 refine⟨fd_law,fun s v=> ?_,fun base kb nb=>OO TT F_law⟩;obtain⟨oc,od,kV,doc,pm,an,cdv,ct,osl,rfl,_,_⟩:=F_law.fn.ex;exact .of_eq rfl
end L2.MB.Lw
open PySem PySem.W PyProof.Rows
set_option maxRecDepth 100000 in
set_option maxHeartbeats 0 in
theorem PySem.Challenge.cw_meetbook_k03_answers_holds : PySem.Challenge.rw_meetbook_k03_answers.Holds := by
 refine Hq0.tpQ ?_
 k_fill
 refine L2.MB.law_walkO (l:=PySem.Challenge.rw_meetbook_k03_answers) (k:=9) (x:="_law_script") (φ:=L2.MB.Lw.p_law) (cs:=L2.MB.Lw.cs) (es:=L2.MB.Lw.xs) rfl rfl ⟨rfl,by decide,by decide⟩ (fun w h Y=>PySem.W.kIn_of Y) (fun ns h=>L2.MB.Lw.law_true ns h) ?F
 case F=>
  intro w mg fa h KX G hmg;have T:L2.MB.Bn mg:=by
   refine' L2.MB.bn_mk KX G ?_ ?_ ?_ ?_ ?_ ?_ ?_ ?_ ?_ ?_ ?_ ?_ ?_ ?_ <;> k_is
  refine' L2.MB.Lw.all_mk KX G hmg T ?_ ?_ ?_ ?_ ?_ ?_ ?_ ?_ ?_ ?_ ?_ ?_ ?_ ?_ ?_ ?_ ?_ ?_ ?_ ?_ ?_ ?_ ?_
  any_goals (with_reducible show L2.MB.clsIn _ _ _);unfold L2.MB.clsIn;k_is
  any_goals (with_reducible show L2.Cls _ _);refine' ⟨?_,?_,?_,?_⟩ <;> k_is
  any_goals (with_reducible show L2.MB.mkIn _ _);refine' ⟨?_,?_⟩ <;> k_is
  any_goals (with_reducible show L2.NoAttr _ _ _);unfold L2.NoAttr;k_is
  any_goals (with_reducible show L2.MB.ownIn _ _ _);(refine' L2.MB.own_mk ?p1 ?p2 ?p3 ?p4 ?p5 ?p6;(case p1=>k_is);(case p2=>rfl);(case p3=>rfl);(case p4=>(refine' L2.MB.tail_mk ?q1 ?q2 ?q3 ?q4;(case q1=>k_is);(case q2=>(refine' L2.MB.nsOk_mk ?l ?h;(case l=>k_is);(case h=>rfl)));(case q3=>k_is);(case q4=>rfl)));(case p5=>(refine' L2.MB.nsOk_mk ?l ?h;(case l=>k_is);(case h=>rfl)));(case p6=>k_is))
  any_goals (with_reducible show L2.MB.AllP _ _);dsimp only[L2.MB.AllP];(repeat' with_reducible apply And.intro)
  all_goals first|k_is|exact rfl|exact trivial|(refine' L2.MB.fnIn_mk ?z1 ?z2 ?z3 ?z4;(case z1=>k_is);(case z2=>k_is);(case z3=>k_is);(case z4=>k_is))|(refine' ⟨_,L2.MB.mtIn_mk ?z1 ?z2 ?z3 ?z4 ?z5⟩;(case z1=>k_is);(case z2=>k_is);(case z3=>k_is);(case z4=>k_is);(case z5=>k_is))
end
