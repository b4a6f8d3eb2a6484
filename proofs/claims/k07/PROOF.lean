import PyProof.Rows.All
import Wide.All
import OpenK.AllK
import Wide.FinOn
import Lean
import PyProof.EqAt
import PyProof.EqKinds
import PyProof.TupleCall
import PyProof.NeKinds
import PyProof.StationsW
import PyProof.ExcBaseAll.ValueError
import KE.KSortTup
import PySem.Challenge.RW_meetbook_k07_whole_all_forgotten_at_last
set_option compiler.extract_closed false
section
set_option Elab.async false
open PySem PySem.W PyProof.Rows
def Hq0.vwQ : Program := { PySem.Challenge.pw_meetbook_k07_whole_all_forgotten_at_last with main := { PySem.Challenge.pw_meetbook_k07_whole_all_forgotten_at_last.main with body := [1, 2, 3, 5, 6, 7, 8, 10, 11, 13, 15, 16, 17, 19, 20, 21, 22, 23, 24, 25, 26, 27, 28, 29, 30, 31, 32, 33, 34, 35].filterMap fun i => PySem.Challenge.pw_meetbook_k07_whole_all_forgotten_at_last.main.body[i]? } }
local macro_rules
 | `(tactic| o_head $H) => `(tactic| (refine holds_open (q := Hq0.vwQ) (loose := []) (Xt := fun s => xlAt Hq0.vwQ [] s && recOk [] s) (XP := XL Hq0.vwQ []) (Yf := Hook.obs $H) (Ya := Hook.val $H) (YP := Hook.says $H) (N := 5038) ?hl (Hook.of $H) (Hook.keeps $H) (fun s e => xl_of s (Bool.and_eq_true_iff.mp e).1) XL.keeps (by rfl) (by rfl) (by rfl) (fun s e => recFacts_of (Bool.and_eq_true_iff.mp e).2) (by rfl) (by first | assumption | decide +kernel) (by decide +kernel) ⟨rfl, rfl, rfl, rfl, rfl, by decide +kernel⟩ ?hw ?hc; (case hl => (intro w; kernel_rfl))))
set_option maxRecDepth 100000 in
set_option maxHeartbeats 0 in
open_top Hq0.tpQ for PySem.Challenge.rw_meetbook_k07_whole_all_forgotten_at_last
end
open PySem.W renaming Frag→aa, nsIn→cx, mg_none_of→da, hideAll→f6, hideAll_none→f7, keepIn→gy, findIn→ie, emptyDict→ig, fnOf→i5, instObj→je, codeIn→ka, hideAll_get→kr, kia_one→lj, kia_tup→ln, nsOkIn→lz, of_hideAll→mw, tailIn→oa, mg_of→ox, plainGet→oy, isFn→pj, plainGet_of→px, lookIn→pz, KdlSrc→qe, callWith_K→qf, methodObj→ql, hasDictIn→qm, takerIn→sg, makesIn→sh, kat_one→sv, cellsFrom_some→tj, methodCall_KW→ua, kdu_collect→uz, kitx_tuple→vh, plainOver→vx, kitx_none→vy, kitx_bool→vz, kitx_list→wb, handedIn→wg, kitx_int→wl, kitx_str→wm, OpenLaw→wz, kat_nil→xg, WalkO→xp, KasT→xt
open PySem renaming wpAny_bind→ae, Addr→af, Value→ag, wpAny_pure→ar, Shared→au, starEach→av, wpAny→bc, sizeLine_eq→bt, Expr→bv, tupleKind→b4, mainGlobals→cg, Stmt→cz, Heap→c9, Program→di, bootBuiltins→dm, backTo→dq, World→du, wpAny_truthy_bool→dw, Around→d7, cLine→eu, wpAny_newObj_type→fj, compareOp→fu, sysModules→fy, mem_of_lookup→gp, entryOfKey→gq, foldedSetIterable→gs, cellsFrom→hX, wpAny_mono→hZ, NameKind→ij, wpAny_call_entry→ip, attributeBase→iq, keywordEach→i4, behindInMarks→i7, wpAny_holding→i8, wpAny_typeNameOfWhole_valiter→ji, wpAny_typeNameOfWhole_keyiter→jj, wpAny_callSpecial?_slot→jl, swapsWith→jo, storedH→jx, FuncData→jy, wpAny_dictEntries→j0, Paired→kc, binaryOp→ke, backToKw→kh, wpAny_typeNameOf_valiter→kj, wpAny_typeNameOf_keyiter→km, Scope→kt, Keyword→k6, tupleKind_room_in1→lh, wpAny_dictEpoch→lm, DictEntry→l7, assignEach→l8, atKey→l9, sliceBounds→mf, wpAny_passesOwn→mm, rawInt→my, getMethod→mz, wpAny_Call_Name_kw→m7, standAt→n9, pyNext→oq, codeAny→pd, wpAny_isOneOf_valiter→pf, wpAny_execs_nil→ph, letOwnedTupleGo→pi, getItem→p0, callerA→p7, intText?→p8, wpAny_fieldsOf→p9, wpAny_setField→qc, firstArgMember→qd, wpAny_attempt→qj, wpAny_loadPart_at→qp, valueAt→qx, codeAny_mono→qy, callWith→qz, wpAny_forIn_list→rc, IsPart→rh, wpAny_comprehension_free→rj, putAt→sj, IsRangeIter→sy, wpAny_pyNext_range_end→s0, wpAny_pyIter_rangeiter→tf, wpAny_field→tq, wpAny_isTrue_Compare1→t8, BindsTo→t9, newFunctionEnv→uc, wpAny_notOrdered_dict→uf, wpAny_isOneOf_keyiter→ug, typeLookup→uk, wpAny_pyIter_keyiter→uo, wpAny_updateDictKeys→uq, wpAny_standAt→ut, swapsWithSole→uu, swappedStores→uv, wpAny_newList→ux, wpAny_isSubtype_exc→uy, wpAny_dictFind_heap→u0, Within→vb, seqIndex_neg→vf, noteFrame→vj, setFlight→vk, call_meetsIn→vm, seqIndex_of→wf, call→wy
open List renaming mem_cons_of_mem→ai, replicate→aj, mem_cons→ak, getElem?_append_left→am, length_map→ao, mem_cons_self→aq, getElem?_map→aw, mem_map→ax, getD_eq_getElem?_getD→ay, map_cons→bg, getElem?_eq_getElem→bh, size_toArray→bi, range→bj, zipWith→bq, getElem?_eq_some_iff→br, length_append→bw, mem_filter→b0, length_cons→b7, nodup_cons→b8, length_set→ce, map_append→cf, getElem?_eq_none→cm, not_mem_nil→cr, mem_append→cu, range'→c5, append_nil→c6, getElem?_range→c7, mem_append_left→db, getElem?_replicate→dc, filter_cons_of_neg→de, filter_cons_of_pos→df, mem_singleton→dh, getElem?_append_right→dr, getElem?_set_self→dy, mem_append_right→d9, length_filter_le→fe, map_congr_left→fg, length_zipWith→fh, length_range→fk, map_map→fm, all_eq_true→fx, replicate_succ→fz, getElem?_set_ne→f9, mem_of_getElem?→gg, lookup_cons→gn, append_assoc→gu, find?_cons→hV, mem_filterMap→hW, mem_range→ic, ext_getElem?→ii, getElem_mem→jc, mem_or_eq_of_mem_set→jd, range_succ→jf, flatten_cons→jg, zipWith_cons_cons→jn, filter_append→jv, length_replicate→jw, nodup_append→j3, getElem?_of_mem→j6, lookup→j8, range'_succ→kq, filterMap_cons→ku, filter_sublist→ky, length_nil→k8, filter_nil→lq, length→lr, map_nil→lu, length_singleton→lw, any_cons→ma, pairwise_iff_getElem→mr, zip_cons_cons→m9, getElem_range→ni, map_replicate→nu, length_filterMap_le→nv, mem_range'_1→om, length_take→o5, filter_cons→o6, take_succ_eq_append_getElem→o8, any_eq_true→o9, mem_flatMap→pb, set_set→pp, sum_append→pq, drop_eq_getElem_cons→qq, mem_of_find?_eq_some→qu, map_set→rp, length_eq_zero_iff→se, of_mem_zip→si, range_succ_eq_map→tz, take_of_length_le→t4, getElem?_zipWith→ud, countP_singleton→ui, range_eq_range'→ur, filter_eq_self→u4, find?_eq_none→vn, set_cons_zero→vo, set_cons_succ→vp, mem_replicate→vt, countP_append→vv, nodup_range'→wd, length_drop→wj, drop_length→wn, zipWith_map→wp, getElem_map→wq, foldl→wv, foldl_cons→ww, nil_append→wx, find?_some→xf, nodup_nil→xj, forIn_nil→xk
open PySem.Heap renaming get?_push_of_some→az, lt_size→bp, get?_push_size→bz, get?_update_other→fw, SameBut→f8, get?_update_self→gz, size_push→iw, DictOfH→i6, size_update→o7
open Nat renaming le_refl→bf, lt_of_lt_of_le→b9, le_trans→ci, ne_of_lt→ck, lt_irrefl→gx, le_of_lt→io, zero_le→iz, min_self→jr, lt_of_le_of_lt→nh, lt_or_ge→nq, lt_succ_self→oz, not_lt→um, le_of_eq→vc
open Bool renaming and_eq_true→bu, false_ne_true→cj, false_eq_true→d8, or_eq_true→ik, not_eq_true'→ls, not_false→xl
open Ne renaming symm→bx
open Option.some renaming inj→ca
open PySem.Value renaming ref→cq, none→iu, type→j4, bool→uj, int→u8, str→va, isStrOf→xo
open Int renaming toNat_natCast→cw, le_refl→ir, natCast_nonneg→ju, le_trans→vq, le_antisymm→xi
open Array renaming getD_eq_getD_getElem?→cy, length_toList→ff, getElem?_toList→im, getElem?_eq_getElem→j7, getElem?_eq_some_iff→md, isEmpty_iff→ol, perm_iff_toList_perm→qk, getElem?_eq_none→t7, all_toList→wo
open PySem.NameKind renaming cell→c4, free→ia
open True renaming intro→ga
open PySem.F renaming slot_dict_valueiterator_next→gk, slot_dict_keyiterator_next→gv, args_dict_valueiterator_next_1→mh, entry_dict_valueiterator_next→mv, args_dict_keyiterator_next_1→nj, entry_dict_keyiterator_next→oj, slot_dict_iter→ow, slot_dict_values_iter→pv, args_tuple_add_2→rg, slot_dict_values→rm, slot_dict_update→rn, entry_tuple_add→rq, plainAttrs_dict→r9, slot_tuple_add→tm, slot_list_append→ub, slot_dict_pop→uh
open PyProof.Rows renaming seqObj→ib, slot_tuple_getitem→jm, callWith_type1→jp, envOfC→jq, IntsAre→k7, AllBare→n8, sortedHeap→qr, get?_update_seq→ss, subscriptTail_builtinR→tu, subscriptTail→uw, lt_int→wt
open PySem.Builtin.Dict_items renaming ownsTuple→iy, newIterator→xc, dictOf→xq
open False renaming elim→i9
open PySem.Paired renaming length→jh
open PySem.Builtin.Range renaming rangeSize→jk, small→u7
open PySem.Obj renaming data_mapFields→jt, mapSeq→k9, mapFields→me, isFreed_of_fields→pe, mapDictKeys→su, cls_mapFields→wc
open PySem.Str renaming ofString→jz
open PySem.Builtin.Slice renaming slicePlaces→j5, sliceAdjust→mq, sliceApplied→qi
open Sum renaming inr→j9, inl→pc
open PySem.Builtin.Tuple renaming tupleExact→ki, tupleHashOf→qv
open Std.Legacy renaming Range→ko
open Classical renaming propDecidable→kz, byContradiction→qw
open PySem.Builtin.Dict renaming showsAll→l0
open PySem.Heap.SameBut renaming update→mj
open Option renaming isSome_iff_exists→m8, map_eq_some_iff→ou, isSome_map→qo, map_some→sw, isSome_some→vg, getD_none→wk, bind_some→wr, some→xw, none→xx
open PySem.Builtin.List renaming listTooLong→ng
open ForInStep renaming yield→pk
open Lean.Macro renaming throwUnsupported→qg
open PySem.Calls renaming Name_function_global→qh, call_function_entry→qt, callWith_builtin→tw, evalArgs_plain→ul
open PySem.Data renaming cell→sf, fields→we, dict→xn
open Std.Legacy.Range renaming forIn_eq_forIn_range'→u6, size→xv
open PySem.Around renaming under→vd
open PySem.Code renaming isFrame→ve
open PySem.SeqAt renaming EqAt→wu
open PySem.PassesOwn renaming never→xb
open Array.Perm renaming refl→xh
open PyProof.Rows.IsTup renaming new→xm
open PySem.IsRange renaming new→xu
open PySem PySem.Spec PyProof.Rows
set_option Elab.async false
set_option linter.all false
set_option maxRecDepth 100000
set_option maxHeartbeats 4000000
section
namespace L2
abbrev Key:=Sum Int Str
noncomputable def Dm:Key->ag->Bool
 |.inl k,v=>Value.isInt k v
 |.inr x,v=>xo x v
noncomputable def SC (w:du):Key->Int
 |.inl k=>hashInt k
 |.inr x=>hashStr w x
theorem cM:∀ {k:Key}{v:ag},Dm k v=true->(∃ i t,k=pc i/\v=u8 i t)∨(∃ x t,k=j9 x/\v=va x t)
 |.inl i,v,h=>by
  obtain⟨t,e⟩:=Value.isInt_shape (k:=i) (v:=v) h;exact .inl ⟨i,t,rfl,e⟩
 |.inr x,v,h=>by
  obtain⟨t,e⟩:=Value.isStrOf_shape (x:=x) (v:=v) h;exact .inr ⟨x,t,rfl,e⟩
theorem Fv (i:Int) (t:Tok):Dm (.inl i) (.int i t)=true:=by simp[Dm,Value.isInt]
theorem Fu (x:Str) (t:Tok):Dm (.inr x) (.str x t)=true:=by simp[Dm,xo]
theorem Po (a b:Int):decide ((pc a:Key)=pc b)=(a==b):=by
 by_cases e:a=b
 ·subst e;simp
 ·have h:¬(pc a:Key)=pc b:=fun q=>e (Sum.inl.inj q);rw[decide_eq_false h];exact(beq_eq_false_iff_ne.mpr e).symm
theorem Pi (a b:Str):decide ((j9 a:Key)=j9 b)=decide (a=b):=by
 by_cases e:a=b
 ·subst e;simp
 ·have h:¬(j9 a:Key)=j9 b:=fun q=>e (Sum.inr.inj q);rw[decide_eq_false h,decide_eq_false e]
theorem Pn (a:Int) (b:Str):decide ((pc a:Key)=j9 b)=false:=decide_eq_false (fun q=>nomatch q)
theorem Pj (a:Str) (b:Int):decide ((j9 a:Key)=pc b)=false:=decide_eq_false (fun q=>nomatch q)
noncomputable def aO (prog:di) (w:du):PySem.KeyKind prog w Key where
 is:=Dm
 hash:=SC w
 inj:=fun v a b ha hb=>by
  rcases cM ha with⟨i,t,rfl,rfl⟩|⟨x,t,rfl,rfl⟩
  ·rcases cM hb with⟨j,u,rfl,e⟩|⟨y,u,rfl,e⟩
   ·injection e with e1 _;rw[e1]
   ·exact nomatch e
  ·rcases cM hb with⟨j,u,rfl,e⟩|⟨y,u,rfl,e⟩
   ·exact nomatch e
   ·injection e with e1 _;rw[e1]
 byValue:=fun k v h=>by
  rcases cM h with⟨i,t,rfl,rfl⟩|⟨x,t,rfl,rfl⟩ <;> rfl
 pyHash:=fun hv h=>by
  rcases cM hv with⟨i,t,rfl,rfl⟩|⟨x,t,rfl,rfl⟩
  ·exact wpAny_pyHash_int h
  ·exact wpAny_pyHash_str h
 eqBool:=fun hu hv h=>by
  rcases cM hu with⟨i,t,rfl,rfl⟩|⟨x,t,rfl,rfl⟩
  ·rcases cM hv with⟨j,u,rfl,rfl⟩|⟨y,u,rfl,rfl⟩
   ·rw[Po] at h;exact wpAny_eqBool_int h
   ·rw[Pn] at h;exact SeqAt.EqAt.int_str i t y u _ _ _ _ h
  ·rcases cM hv with⟨j,u,rfl,rfl⟩|⟨y,u,rfl,rfl⟩
   ·rw[Pj] at h;exact SeqAt.EqAt.str_int x t j u _ _ _ _ h
   ·rw[Pi] at h;exact wpAny_eqBool_str h
 «strs» :=fun k x t v h=>by
  rcases cM h with⟨i,u,rfl,e⟩|⟨y,u,rfl,e⟩
  ·exact nomatch e
  ·injection e with e1 _
   subst e1;cases v <;> rfl
theorem Ap (prog:di) (w:du) (i:Int) (t:Tok):(aO prog w).is (.inl i) (.int i t)=true:=Fv i t
theorem Ao (prog:di) (w:du) (x:Str) (t:Tok):(aO prog w).is (.inr x) (.str x t)=true:=Fu x t
end L2
namespace L2
inductive V where
 |non|bl (b:Bool)|int (i:Int)|str (x:Str)|byt (b:Array UInt8)|flt (b:UInt64)|ref (a:af)|ty (n:String)
 deriving DecidableEq
def RelV:V->ag->Prop
 |.non,u=>u=iu
 |.bl b,u=>u=uj b
 |.int i,u=>∃ t,u=u8 i t
 |.str x,u=>∃ t,u=va x t
 |.byt b,u=>∃ t,u=Value.bytes b t
 |.flt b,u=>∃ t,u=Value.float b t
 |.ref a,u=>u=cq a
 |.ty n,u=>u=j4 n
abbrev Vals:List V->List ag->Prop:=kc RelV
theorem Vals.length (r:Vals xs us):xs.length=us.length:=jh r
theorem Vals.get:∀ {xs:List V}{us:List ag}{i:Nat}{x:V},Vals xs us->xs[i]?=xw x->∃ u,us[i]?=xw u/\RelV x u
 |_,_,_,_,.nil,e=>by simp at e
 |_,_,0,_,.cons r _,e=>by simp at e;subst e;exact⟨_,rfl,r⟩
 |_,_,i+1,x,.cons _ t,e=>by
  obtain⟨u,h1,h2⟩:=Vals.get (i:=i) (x:=x) t (by simpa using e);exact⟨u,by simpa using h1,h2⟩
theorem Vals.set (r:RelV x u):∀ {xs:List V}{us:List ag} (i:Nat),Vals xs us->Vals (xs.set i x) (us.set i u)
 |_,_,_,.nil=>.nil
 |_,_,0,.cons _ t=>.cons r t
 |_,_,i+1,.cons q t=>.cons q (Vals.set r i t)
theorem Vals.append:∀ {xs ys:List V}{us ws:List ag},Vals xs us->Vals ys ws->Vals (xs++ys) (us++ws)
 |_,_,_,_,.nil,s=>s
 |_,_,_,_,.cons r t,s=>.cons r (Vals.append t s)
theorem Vals.take:∀ {xs:List V}{us:List ag} (n:Nat),Vals xs us->Vals (xs.take n) (us.take n)
 |_,_,0,_=>.nil
 |_,_,_+1,.nil=>.nil
 |_,_,n+1,.cons r t=>.cons r (Vals.take n t)
theorem Vals.drop:∀ {xs:List V}{us:List ag} (n:Nat),Vals xs us->Vals (xs.drop n) (us.drop n)
 |_,_,0,r=>r
 |_,_,_+1,.nil=>.nil
 |_,_,n+1,.cons _ t=>Vals.drop n t
def RelO:Option V->Option ag->Prop
 |some v,xw u=>RelV v u
 |none,xx=>True
 |_,_=>False
def KV {κ:Type}:List (κ×V)->List (κ×ag)->Prop:=kc fun(p:κ×V) (q:κ×ag)=>p.1=q.1/\RelV p.2 q.2
noncomputable def kV:Key->V
 |.inl i=>.int i
 |.inr x=>.str x
inductive HO where
 /-- a list -/
 |lst (xs:List V)
 /-- a tuple (never changes) -/
 |tup (xs:List V)
 /-- a dict whose keys are ints and texts;one whose keys are tuples of ints and texts (the empty one is both) -/
 |dK (kvs:List (Key×V))|dT (kvs:List (List Key×V))
 /-- a set of ints:its members,its size -/
 |set (S:Int->Bool) (n:Nat)
 /-- an instance of the class at C,its dict at dx,its attributes -/
 |ins (C dx:af) (fs:List (Str×V))
 /-- the dict of the instance at x -/
 |own (x:af)
 /-- the dict of an exception -/
 |xd (fs:List (Str×V))
 /-- a bound method,f of x -/
 |met (f x:af)
 /-- a range object lo,lo+1,.. below hi -/
 |rng (lo hi:Int)
 /-- a thing that is known to the object (the script;a dict while a loop walks it):read,never written while it is so -/
 |frz (o:Obj) (u:HO)
 /-- a code object's table -/
 |tbl (ps:Array ag)
 /-- any other thing,by what is true of its one object (a def of one's own:SetO a S n:=HO.ext fun h=> ..) -/
 |ext (φ:c9->Prop)
abbrev Hp:=af->Option HO
noncomputable def upd (H:Hp) (a:af) (o:HO):Hp:=fun b=>if b=a then xw o else H b
theorem aP:upd H a o a=xw o:=by unfold upd;rw[if_pos rfl]
theorem aH (h:b≠a):upd H a o b=H b:=by unfold upd;rw[if_neg h]
theorem LQ {H:Hp} (h:H a=xw o) (h':H b=xw u) (d:o≠u):a≠b:=by
 intro e;subst e;rw[h] at h';exact d (ca h')
theorem aN {H:Hp} (h:H a=xw o) (h':H b=xx):a≠b:=by
 intro e;subst e;rw[h] at h';cases h'
section
variable (P:di) (w:du)
def ObjOk (H:Hp) (h:c9) (a:af):HO->Prop
 |.lst xs=>xs.length<=sizeLine/\∃(its:List ag) (n:Nat),Vals xs its/\h.get? a=xw { cls:=.type "list",data:=.seq its.toArray n }
 |.tup xs=>xs.length<=sizeLine/\∃ its:List ag,Vals xs its/\IsTup h a its.toArray
 |.dK kvs=>kvs.length<=sizeLine/\(a==fy)=false/\∃ vs,KV kvs vs/\h.DictOf (aO P w) a vs
 |.dT kvs=>kvs.length<=sizeLine/\(a==fy)=false/\∃ xs:List (List Key×af×ag),
   kc (fun(p:List Key×V) (q:List Key×af×ag)=>p.1=q.1/\H q.2.1=xw (.tup (p.1.map kV))/\RelV p.2 q.2.2) kvs xs/\
   ∃ o es ep,h.get? a=xw o/\o.ExactDict/\o.data=.dict es ep/\es.toList=xs.map (gq (b4 (aO P w)))/\(xs.map (·.1)).Nodup
 |.set S n=>h.SetOf (intKind P w) a S n
 |.ins C dx fs=>H dx=xw (.own a)/\fs.length<=1000/\dx≠a/\h.get? a=xw (je C dx)/\
   ∃ mA,h.Ns1 dx mA/\(∀ f,RelO (fs.lookup f) (mA f))/\vb mA (fs.map (·.1))
 |.own _=>∃ o,h.get? a=xw o
 |.xd fs=>∃ mA,h.Ns1 a mA/\∀ f,RelO (fs.lookup f) (mA f)
 |.rng lo hi=>∃ t u v,h.get? a=xw { cls:=.type "range",data:=.fields #[.int lo t,.int hi u,.int 1 v] }
 |.frz o u=>h.get? a=xw o/\ObjOk H h a u
 |.tbl ps=>h.get? a=xw { cls:=.none,data:=.fields ps }
 |.met f x=>h.get? a=xw (ql (.ref f) (.ref x))
 |.ext φ=>φ h/\(∃ o,h.get? a=xw o)/\∀ h1 h2:c9,φ h1->(∀ o,h1.get? a=xw o->h2.get? a=xw o)->φ h2
def HOk (H:Hp) (h:c9):Prop:=∀ a o,H a=xw o->ObjOk P w H h a o
end
section
variable {P:di}{w:du}{H H':Hp}{h h':c9}{a:af}{o:HO}
theorem ObjOk.lt (x:ObjOk P w H h a o):a<h.objs.size:=by
 cases o with
 |lst xs=>obtain⟨_,_,_,_,e⟩:=x;exact bp e
 |tup xs=>obtain⟨_,_,_,p⟩:=x;exact p.lt
 |dK kvs=>obtain⟨_,_,_,_,o,_,_,e,_⟩:=x;exact bp e
 |dT kvs=>obtain⟨_,_,_,_,o,_,_,e,_⟩:=x;exact bp e
 |set S n=>obtain⟨o,_,_,_,e,_⟩:=x;exact bp e
 |ins C dx fs=>obtain⟨_,_,_,e,_⟩:=x;exact bp e
 |own y=>obtain⟨_,e⟩:=x;exact bp e
 |xd fs=>obtain⟨_,⟨_,_,_,e,_⟩,_⟩:=x;exact bp e
 |rng lo hi=>obtain⟨_,_,_,e⟩:=x;exact bp e
 |frz ob u=>obtain⟨e,_⟩:=x;exact bp e
 |tbl ps=>exact bp (show h.get? a=xw _ from x)
 |met f y=>exact bp (show h.get? a=xw _ from x)
 |ext φ=>obtain⟨_,⟨_,e⟩,_⟩:=x;exact bp e
theorem kc.mapP:∀ {l₁:List α}{l₂:List β},kc F l₁ l₂->(∀ a b,F a b->G a b)->kc G l₁ l₂
 |_,_,.nil,_=>.nil
 |_,_,.cons r t,f=>.cons (f _ _ r) (kc.mapP t f)
theorem ObjOk.stay (x:ObjOk P w H h a o) (k:∀ b u,(b=a∨H b=xw (.own a))->h.get? b=xw u->h'.get? b=xw u)
  (ho:∀ b,H b=xw (.own a)->H' b=xw (.own a)) (ht:∀ b xs,H b=xw (.tup xs)->H' b=xw (.tup xs)):ObjOk P w H' h' a o:=by
 induction o with
 |lst xs=>obtain⟨z,its,n,r,e⟩:=x;exact⟨z,its,n,r,k _ _ (.inl rfl) e⟩
 |tup xs=>obtain⟨z,its,r,ob,e,c⟩:=x;exact⟨z,its,r,ob,k _ _ (.inl rfl) e,c⟩
 |dK kvs=>obtain⟨z,y,vs,r,ob,es,ep,e,c⟩:=x;exact⟨z,y,vs,r,ob,es,ep,k _ _ (.inl rfl) e,c⟩
 |dT kvs=>
  obtain⟨z,y,xs,r,ob,es,ep,e,c⟩:=x;exact⟨z,y,xs,kc.mapP r fun p q z=>⟨z.1,ht _ _ z.2.1,z.2.2⟩,ob,es,ep,k _ _ (.inl rfl) e,c⟩
 |set S n=>obtain⟨ob,es,ep,t,e,c⟩:=x;exact⟨ob,es,ep,t,k _ _ (.inl rfl) e,c⟩
 |ins C dx fs=>
  obtain⟨d,z,ne,e,mA,⟨od,es,ep,e2,c⟩,r⟩:=x;exact⟨ho _ d,z,ne,k _ _ (.inl rfl) e,mA,⟨od,es,ep,k _ _ (.inr d) e2,c⟩,r⟩
 |own y=>obtain⟨ob,e⟩:=x;exact⟨ob,k _ _ (.inl rfl) e⟩
 |xd fs=>obtain⟨mA,⟨od,es,ep,e,c⟩,r⟩:=x;exact⟨mA,⟨od,es,ep,k _ _ (.inl rfl) e,c⟩,r⟩
 |rng lo hi=>obtain⟨t,u,v,e⟩:=x;exact⟨t,u,v,k _ _ (.inl rfl) e⟩
 |frz ob u ih=>obtain⟨e,q⟩:=x;exact⟨k _ _ (.inl rfl) e,ih q⟩
 |tbl ps=>
  have e:h.get? a=xw { cls:=.none,data:=.fields ps }:=x;show h'.get? a=xw { cls:=.none,data:=.fields ps };exact k a _ (.inl rfl) e
 |met f y=>
  have e:h.get? a=xw (ql (.ref f) (.ref y)):=x;show h'.get? a=xw (ql (.ref f) (.ref y));exact k a _ (.inl rfl) e
 |ext φ=>obtain⟨p,⟨o,e⟩,st⟩:=x;exact⟨st _ _ p fun o q=>k _ _ (.inl rfl) q,⟨o,k _ _ (.inl rfl) e⟩,st⟩
theorem HOk.lt (x:HOk P w H h) (e:H a=xw o):a<h.objs.size:=(x a o e).lt
theorem HOk.fresh (x:HOk P w H h) (e:h.objs.size<=a):H a=xx:=by
 cases q:H a with
 |none=>rfl
 |some u=>exact absurd (b9 (x.lt q) e) (gx _)
theorem HOk.kept (x:HOk P w H h) (k:∀ b u,h.get? b=xw u->h'.get? b=xw u):HOk P w H h':=fun a o e=>
 (x a o e).stay (fun b u _ q=>k b u q) (fun _ q=>q) fun _ _ q=>q
theorem HOk.laid (x:HOk P w H h) (k:∀ b u,h.get? b=xw u->h'.get? b=xw u) (hp:h.objs.size<=a) (new:ObjOk P w (upd H a o) h' a o):HOk P w (upd H a o) h':=fun b u e=>by
 have hn:=x.fresh hp
 by_cases hb:b=a
 ·subst hb;rw[aP] at e;cases e;exact new
 ·rw[aH hb] at e;exact(x b u e).stay (fun c v _ q=>k c v q) (fun c q=>by rw[aH (aN q hn)];exact q) fun c xs q=>by rw[aH (aN q hn)];exact q
end
def Rd (H:Hp) (a:af) (u:HO):Prop:=H a=xw u∨∃ o,H a=xw (.frz o u)
theorem Rd.ok (r:Rd H a u) (x:HOk P w H h):ObjOk P w H h a u:=by
 rcases r with r|⟨o,r⟩
 ·exact x a u r
 ·obtain⟨_,q⟩:=x a _ r;exact q
def Mut:Option HO->Prop
 |some (.lst _)=>True
 |some (.dK _)=>True
 |some (.dT _)=>True
 |some (.set _ _)=>True
 |some (.ins _ _ _)=>True
 |some (.ext _)=>True
 |_=>False
section
variable {P:di}{w:du}{H:Hp}{h h':c9}{x e:af}{o':HO}
theorem HOk.write (ok:HOk P w H h) (mu:Mut (H x)) (he:e=x∨H e=xw (.own x)) (k:∀ b u,b≠e->h.get? b=xw u->h'.get? b=xw u) (heo:∃ u,h'.get? e=xw u)
  (new:ObjOk P w (upd H x o') h' x o'):HOk P w (upd H x o') h':=fun b u q=>by
 have nown:∀ c y,H c=xw (.own y)->c≠x:=fun c y r z=>by subst z;rw[r] at mu;exact mu
 have ntup:∀ c xs,H c=xw (.tup xs)->c≠x:=fun c xs r z=>by subst z;rw[r] at mu;exact mu
 by_cases hb:b=x
 ·subst hb;rw[aP] at q;cases q;exact new
 ·rw[aH hb] at q
  by_cases hbe:b=e
  ·have q':H b=xw (.own x):=by
    rcases he with z|z
    ·exact absurd (hbe.trans z) hb
    ·rw[hbe];exact z
   rw[q] at q';cases q';obtain⟨v,hv⟩:=heo;exact⟨v,by rw[hbe];exact hv⟩
  ·refine(ok b u q).stay (fun c v hc r=>k c v ?_ r) (fun c r=>by rw[aH (nown c b r)];exact r) fun c xs r=>by rw[aH (ntup c xs r)];exact r
   rcases hc with rfl|hc
   ·exact hbe
   ·rintro rfl;rcases he with z|z
    ·exact nown c b hc z
    ·rw[hc] at z;cases z;exact hb rfl
end
structure Un (fs ex:List af) (H H':Hp) (h h':c9):Prop where
 keep:∀ b o,h.get? b=xw o->H b=xx->b∉fs->b∉ex->h'.get? b=xw o
 slot:∀ b o,h.get? b=xw o->H b=xx->b∈fs->b∉ex->∃ sl,h'.get? b=xw { o with slots:=sl }
 free:∀ b o,h.get? b=xw o->H b=xx->b∉ex->H' b=xx
 there:∀ b o,h.get? b=xw o->b∉ex->∃ o',h'.get? b=xw o'
 tups:∀ b xs,H b=xw (.tup xs)->H' b=xw (.tup xs)
 frzs:∀ b o u,H b=xw (.frz o u)->H' b=xw (.frz o u)
 tbls:∀ b ps,H b=xw (.tbl ps)->∃ more,H' b=xw (.tbl (ps++more))
section
variable {fs fs' ex ex':List af}{H H1 H2:Hp}{h h1 h2 h':c9}{a x e:af}{o:HO}
theorem Un.any (u:Un fs ex H H1 h h1) (q:h.get? b=xw ob) (n:H b=xx) (hx:b∉ex):∃ sl,h1.get? b=xw { ob with slots:=sl }:=by
 by_cases hb:b∈fs
 ·exact u.slot b ob q n hb hx
 ·exact⟨ob.slots,u.keep b ob q n hb hx⟩
theorem Un.kept (k:∀ b u,h.get? b=xw u->h'.get? b=xw u):Un fs ex H H h h':=
 ⟨fun b ob q _ _ _=>k b ob q,fun b ob q _ _ _=>⟨ob.slots,k b ob q⟩,fun _ _ _ n _=>n,fun b ob q _=>⟨ob,k b ob q⟩,fun _ _ q=>q,fun _ _ _ q=>q,fun _ ps q=>⟨#[],by rw[q];simp⟩⟩
theorem Un.refl:Un fs ex H H h h:=Un.kept fun _ _ q=>q
theorem Un.laid (k:∀ b u,h.get? b=xw u->h'.get? b=xw u) (hp:h.objs.size<=a) (hn:H a=xx):Un fs ex H (upd H a o) h h' where
 keep:=fun b u q _ _ _=>k b u q
 slot:=fun b u q _ _ _=>⟨u.slots,k b u q⟩
 free:=fun b u q n _=>by rw[aH (ck (b9 (bp q) hp))];exact n
 there:=fun b u q _=>⟨u,k b u q⟩
 tups:=fun b xs q=>by rw[aH (aN q hn)];exact q
 frzs:=fun b u xs q=>by rw[aH (aN q hn)];exact q
 tbls:=fun b ps q=>⟨#[],by rw[aH (aN q hn),q];simp⟩
theorem Un.write (mu:Mut (H x)) (he:e=x∨H e=xw (.own x)) (k:∀ b u,b≠e->h.get? b=xw u->h'.get? b=xw u) (heo:∃ u,h'.get? e=xw u):Un fs ex H (upd H x o) h h':=by
 have hx:∀ b,H b=xx->b≠x:=fun b n z=>by subst z;rw[n] at mu;exact mu
 have hb:∀ b,H b=xx->b≠e:=fun b n z=>by
  subst z;rcases he with r|r
  ·exact hx b n r
  ·rw[n] at r;cases r
 have hm:∀ b u,H b=xw u->¬ Mut (xw u)->b≠x:=fun b u q nm z=>by subst z;rw[q] at mu;exact nm mu
 refine⟨fun b u q n _ _=>k b u (hb b n) q,fun b u q n _ _=>⟨u.slots,k b u (hb b n) q⟩,fun b u q n _=>by rw[aH (hx b n)];exact n,fun b u q _=> ?_,
  fun b xs q=>by rw[aH (hm b _ q fun z=>z)];exact q,fun b u xs q=>by rw[aH (hm b _ q fun z=>z)];exact q,fun b ps q=>⟨#[],by rw[aH (hm b _ q fun z=>z),q];simp⟩⟩
 by_cases hbe:b=e
 ·subst hbe;exact heo
 ·exact⟨u,k b u hbe q⟩
end
noncomputable def trk (h:c9) (H:Hp):List af:=(bj h.objs.size).filter fun a=>(H a).isSome
noncomputable def Iy (h:c9) (H:Hp):c9:=f6 h (trk h H)
theorem FE (h:c9) (H:Hp):(Iy h H).objs.size=h.objs.size:=PySem.W.hideAll_size _ _
theorem Ix (e:h.get? b=xw o) (n:H b=xx):(Iy h H).get? b=xw o:=
 kr _ e fun hm=>by
  have q:(H b).isSome=true:=(b0.mp hm).2;rw[n] at q;simp at q
theorem Lq (e:(Iy h H).get? b=xw o):h.get? b=xw o/\H b=xx:=by
 have e':h.get? b=xw o:=mw (trk h H) e;refine⟨e',?_⟩;cases q:H b with
 |none=>rfl
 |some x=>
  have hm:b∈trk h H:=b0.mpr ⟨ic.mpr (bp e'),by simp[q]⟩;have z:(Iy h H).get? b=xx:=f7 (trk h H) hm;rw[z] at e;cases e
end L2
namespace L2
structure Mod (K:aa) (mg:Str->Option ag) (base:c9):Prop where
 kin:K.In base
 glob:base.Ns cg mg
 blt:∃ mb,base.Ns builtinsNs mb/\∀ x:Str,x≠"__name__"->mb x=dm x
 nolimit:base.NoLimit
structure Cx where
 prog:di
 w:du
 K:aa
 mg:Str->Option ag
 base:c9
 A:d7
 N:List Str
 s₀:au
 H₀:Hp
 env:Env
 outer:List Env
 stack:List Env
 ex:List af
 fn:Str->Bool
 calm:Bool
 pn:List (af×Obj)
 xe:ag->au->Prop
noncomputable def frs (l:List Env):List af:=l.filterMap (·.frame)
noncomputable abbrev Cx.fs (X:Cx):List af:=frs X.outer
def Vis (sc:kt) (x:Str):Prop:=sc.names.lookup x=xw .local∨sc.names.lookup x=xw .cell∨sc.names.lookup x=xw .free
def Loc (sc:kt) (x:Str):Prop:=sc.names.lookup x=xw .local∨sc.names.lookup x=xw .cell
def SU (env:Env) (h:c9) (m:Str->Option ag) (x:Str) (u:ag):Prop:=
 (env.kindOf x=xw .local/\m x=xw u)∨((env.kindOf x=xw .cell∨env.kindOf x=xw .free)/\∃ c,env.cells.lookup x=xw c/\h.IsCell c (xw u))
structure Cx.Ok (X:Cx):Prop where
 mod:Mod X.K X.mg X.base
 kind:X.env.scope.kind=.function
 glob:X.env.globals=cg
 blt:X.env.builtins=builtinsNs
 above:X.s₀.heap.objs.size<=X.env.locals
 inj:∀ x y c,X.env.cells.lookup x=xw c->X.env.cells.lookup y=xw c->x=y
 has:∀ x,(X.env.kindOf x=xw .cell∨X.env.kindOf x=xw .free)->∃ c,X.env.cells.lookup x=xw c
 cab:∀ x c,X.fn x=true->X.env.cells.lookup x=xw c->X.s₀.heap.objs.size<=c
 hd:X.calm=true->X.A.handled=xx
 frames:X.A.frames=xw X.stack
 stk:X.stack=X.outer∨(X.stack=X.env::X.outer/\X.env.frame=xw X.env.locals)
 exf:∀ b∈X.ex,b≠X.env.locals/\∀ x c,X.env.cells.lookup x=xw c->c≠b
 bs:∀ b o,X.base.get? b=xw o->X.s₀.heap.get? b=xw o/\X.H₀ b=xx
 bsz:X.base.objs.size<=X.s₀.heap.objs.size
 noex:∀ b o,X.base.get? b=xw o->b∉X.ex
 exfs:∀ b∈X.ex,b∉X.fs
 funs:X.s₀.heap.FunFrames X.base X.outer
 frf:∀ b∈X.fs,X.H₀ b=xx
structure Inv (X:Cx) (pins:List (af×Obj)) (σ:List (Option V)) (H:Hp) (s:au):Prop where
 ok:X.Ok
 os:s.os=X.s₀.os
 bare:n8 s.gens
 base:Un X.fs X.ex X.H₀ H X.s₀.heap s.heap
 loc:∃ m,s.heap.Ns X.env.locals m/\∀(i:Nat) (x:Str) (v:V),X.N[i]?=xw x->σ[i]?=xw (xw v)->Vis X.env.scope x->∃ u,RelV v u/\SU X.env s.heap m x u
 cell:∀ x c,X.env.cells.lookup x=xw c->∃ v,s.heap.IsCell c v
 free:H X.env.locals=xx
 freeC:∀ x c,X.env.cells.lookup x=xw c->H c=xx
 pin:∀ p∈X.pn++pins,s.heap.get? p.1=xw p.2/\H p.1=xx/\p.1≠X.env.locals/\p.1∉X.fs/\∀ v,p.2.data≠ .cell v
 hok:HOk X.prog X.w H s.heap
 len:σ.length=X.N.length
section
variable {X:Cx}{pins:List (af×Obj)}{σ:List (Option V)}{H H':Hp}{s:au}{h':c9}
theorem Cx.Ok.nofr (ok:X.Ok) (e:X.base.get? b=xw o):b∉X.fs:=fun hb=>by
 have:=(ok.funs.mem hb).1
 rw[e] at this;cases this
theorem Inv.bs (I:Inv X pins σ H s):∀ b o,X.base.get? b=xw o->s.heap.get? b=xw o/\H b=xx:=fun b o e=>
 ⟨I.base.keep b o (I.ok.bs b o e).1 (I.ok.bs b o e).2 (I.ok.nofr e) (I.ok.noex b o e),I.base.free b o (I.ok.bs b o e).1 (I.ok.bs b o e).2 (I.ok.noex b o e)⟩
theorem Inv.bk (I:Inv X pins σ H s):∀ b o,X.base.get? b=xw o->s.heap.get? b=xw o:=fun b o e=>(I.bs b o e).1
theorem Inv.mod (I:Inv X pins σ H s):Mod X.K X.mg X.base:=I.ok.mod
theorem Inv.kIn (I:Inv X pins σ H s):X.K.In s.heap:=I.ok.mod.kin.keeps I.bk
theorem Inv.lt (I:Inv X pins σ H s):X.env.locals<s.heap.objs.size:=let ⟨_,hn,_⟩:=I.loc;hn.lt
theorem Inv.sz (I:Inv X pins σ H s):X.s₀.heap.objs.size<=s.heap.objs.size:=ci I.ok.above (io I.lt)
theorem Inv.nofs (I:Inv X pins σ H s) (h:s.heap.objs.size<=a):a∉X.fs:=fun hb=>by
 obtain⟨_,o,ho,_⟩:=I.ok.funs.mem hb;exact absurd (b9 (bp ho) (ci I.sz h)) (gx _)
theorem Inv.cne (I:Inv X pins σ H s):∀ x c,X.env.cells.lookup x=xw c->c≠X.env.locals:=fun x c e z=>by
 obtain⟨v,o,ho,hd⟩:=I.cell x c e;obtain⟨m,⟨o',es,ep,ho',hd',_⟩,_⟩:=I.loc;rw[z,ho'] at ho;cases ho;rw[hd'] at hd;cases hd
theorem Inv.funs (I:Inv X pins σ H s):s.heap.FunFrames X.base X.outer:=by
 have all:∀(l:List Env),(∀ b∈frs l,b∈X.fs)->X.s₀.heap.FunFrames X.base l->s.heap.FunFrames X.base l:=by
  intro l
  induction l with
  |nil=>intro _ _;trivial
  |cons env r ih=>
   intro hs hl;obtain⟨hk,⟨L,o,hf,hn,ho,hd⟩,hr⟩:=hl;have hL:L∈X.fs:=hs L (by unfold frs;rw[ku,hf];exact aq);obtain⟨sl,e⟩:=I.base.slot L o ho (I.ok.frf L hL) hL fun z=>I.ok.exfs L z hL;exact⟨hk,⟨L,_,hf,hn,e,hd⟩,ih (fun b hb=>hs b (by unfold frs;rw[ku,hf];exact ai _ hb)) hr⟩
 exact all X.outer (fun _ hb=>hb) I.ok.funs
theorem Inv.stack (I:Inv X pins σ H s):s.heap.FunFrames X.base X.stack:=by
 rcases I.ok.stk with e|⟨e,hf⟩
 ·rw[e];exact I.funs
 ·rw[e];obtain⟨m,hn,_⟩:=I.loc;refine .cons (by rw[I.ok.kind];decide) hf hn ?_ I.funs;exact Heap.get?_none_of_le (ci I.ok.bsz I.ok.above)
theorem Inv.stkSub (I:Inv X pins σ H s):∀ b∈frs X.stack,b∈X.env.locals::X.fs:=fun b hb=>by
 rcases I.ok.stk with e|⟨e,hf⟩
 ·rw[e] at hb;exact ai _ hb
 ·rw[e] at hb;unfold frs at hb;rw[ku,hf] at hb;exact hb
theorem Inv.stkFree (I:Inv X pins σ H s):∀ b∈frs X.stack,H b=xx:=fun b hb=>by
 rcases ak.mp (I.stkSub b hb) with e|hb
 ·rw[e];exact I.free
 ·obtain⟨_,o,ho,_⟩:=I.ok.funs.mem hb;exact I.base.free b o ho (I.ok.frf b hb) fun z=>I.ok.exfs b z hb
theorem Inv.step {ch:List af} (I:Inv X pins σ H s)
  (hch:∀ b∈ch,(b∈X.ex∨X.s₀.heap.objs.size<=b)/\b≠X.env.locals/\(∀ x c,X.env.cells.lookup x=xw c->c≠b)/\∀ p∈X.pn++pins,p.1≠b)
  (keep:∀ b o,b≠X.env.locals->b∉X.fs->b∉ch->s.heap.get? b=xw o->H b=xx->h'.get? b=xw o)
  (slot:∀ b o,b≠X.env.locals->b∈X.fs->b∉ch->s.heap.get? b=xw o->H b=xx->∃ sl,h'.get? b=xw { o with slots:=sl }) (free:∀ b o,b∉ch->s.heap.get? b=xw o->H b=xx->H' b=xx)
  (there:∀ b o,b∉ch->s.heap.get? b=xw o->∃ o',h'.get? b=xw o')
  (tups:∀ b xs,H b=xw (.tup xs)->H' b=xw (.tup xs)) (frzs:∀ b o u,H b=xw (.frz o u)->H' b=xw (.frz o u)) (tbls:∀ b ps,H b=xw (.tbl ps)->∃ more,H' b=xw (.tbl (ps++more)))
  (ns:∀ m,s.heap.Ns X.env.locals m->h'.Ns X.env.locals m) (hok:HOk X.prog X.w H' h') (hg:n8 g'):
  Inv X pins σ H' { s with heap:=h',gens:=g',drawn:=d',toks:=t' }:=by
 have neL:∀ b o,X.s₀.heap.get? b=xw o->b≠X.env.locals:=fun b o e=>ck (b9 (bp e) I.ok.above);have neC:∀ b o,X.s₀.heap.get? b=xw o->b∉X.ex->b∉ch:=fun b o e hx hb=>by
  rcases(hch b hb).1 with z|z
  ·exact hx z
  ·exact absurd (b9 (bp e) z) (gx _)
 have cellK:∀ x c,X.env.cells.lookup x=xw c->∀ v,s.heap.IsCell c v->h'.IsCell c v:=fun x c e v ⟨o,ho,hd⟩=>by
  have nch:c∉ch:=fun z=>(hch c z).2.2.1 x c e rfl
  by_cases hc:c∈X.fs
  ·obtain⟨sl,q⟩:=slot c o (I.cne x c e) hc nch ho (I.freeC x c e);exact⟨_,q,hd⟩
  ·exact⟨o,keep c o (I.cne x c e) hc nch ho (I.freeC x c e),hd⟩
 refine⟨I.ok,I.os,hg,⟨fun b o e n hb hx=> ?_,fun b o e n hb hx=> ?_,fun b o e n hx=> ?_,fun b o e hx=> ?_,fun b xs e=>tups b xs (I.base.tups b xs e),fun b o xs e=>frzs b o xs (I.base.frzs b o xs e),fun b ps e=> ?_⟩,?_,fun x c e=> ?_,?_,fun x c e=> ?_,fun p hp=> ?_,hok,I.len⟩
 ·exact keep b o (neL b o e) hb (neC b o e hx) (I.base.keep b o e n hb hx) (I.base.free b o e n hx)
 ·obtain⟨sl,e1⟩:=I.base.slot b o e n hb hx;obtain⟨sl',e2⟩:=slot b _ (neL b o e) hb (neC b o e hx) e1 (I.base.free b o e n hx);exact⟨sl',e2⟩
 ·obtain⟨o',e1⟩:=I.base.there b o e hx;exact free b o' (neC b o e hx) e1 (I.base.free b o e n hx)
 ·obtain⟨o',e1⟩:=I.base.there b o e hx;exact there b o' (neC b o e hx) e1
 ·obtain⟨m1,e1⟩:=I.base.tbls b ps e;obtain⟨m2,e2⟩:=tbls b _ e1;exact⟨m1++m2,by rw[e2,Array.append_assoc]⟩
 ·obtain⟨m,hn,hl⟩:=I.loc;refine⟨m,ns m hn,fun i x v e1 e2 e3=> ?_⟩;obtain⟨u,r,l⟩:=hl i x v e1 e2 e3;refine⟨u,r,?_⟩;rcases l with l|⟨k,c,e,z⟩
  ·exact .inl l
  ·exact .inr ⟨k,c,e,cellK x c e _ z⟩
 ·obtain⟨v,z⟩:=I.cell x c e;exact⟨v,cellK x c e v z⟩
 ·obtain⟨m,⟨o,_,_,ho,_⟩,_⟩:=I.loc;exact free _ o (fun z=>(hch _ z).2.1 rfl) ho I.free
 ·obtain⟨v,o,ho,hd⟩:=I.cell x c e;exact free c o (fun z=>(hch c z).2.2.1 x c e rfl) ho (I.freeC x c e)
 ·obtain⟨e,n,ne,nf,d⟩:=I.pin p hp;have nch:p.1∉ch:=fun z=>(hch p.1 z).2.2.2 p hp rfl;exact⟨keep p.1 p.2 ne nf nch e n,free p.1 p.2 nch e n,ne,nf,d⟩
theorem Inv.un (I:Inv X pins σ H s) (u:Un X.fs [] H H' s.heap h') (hok:HOk X.prog X.w H' h'):Inv X pins σ H' { s with heap:=h',toks:=t' }:=by
 obtain⟨m,⟨o,es,ep,ho,r⟩,_⟩:=id I.loc;obtain⟨sl,hL⟩:=u.any ho I.free (by simp);exact I.step (g':=s.gens) (d':=s.drawn) (ch:=[]) (fun _ z=>nomatch z) (fun b o _ hb _ e n=>u.keep b o e n hb (by simp)) (fun b o _ hb _ e n=>u.slot b o e n hb (by simp)) (fun b o _ e n=>u.free b o e n (by simp)) (fun b o _ e=>u.there b o e (by simp)) u.tups u.frzs u.tbls (fun m' hm=>by
  obtain⟨o',es',ep',ho',r'⟩:=hm;rw[ho] at ho';cases ho';exact⟨_,es',ep',hL,r'⟩) hok I.bare
theorem Inv.call (I:Inv X pins σ H s) (u:Un (frs X.stack) ch H H' s.heap h') (hok:HOk X.prog X.w H' h') (hg:n8 g')
  (hch:∀ b∈ch,(b∈X.ex∨X.s₀.heap.objs.size<=b)/\b≠X.env.locals/\(∀ x c,X.env.cells.lookup x=xw c->c≠b)/\∀ p∈X.pn++pins,p.1≠b):
  Inv X pins σ H' { s with heap:=h',gens:=g',drawn:=d',toks:=t' }:=by
 obtain⟨m,⟨o,es,ep,ho,r⟩,_⟩:=id I.loc;obtain⟨sl,hL⟩:=u.any ho I.free fun z=>(hch _ z).2.1 rfl;exact I.step (ch:=ch) hch (fun b o hL hb hc e n=>u.keep b o e n (fun z=>(ak.mp (I.stkSub b z)).elim hL hb) hc) (fun b o _ _ hc e n=>u.any e n hc) (fun b o hc e n=>u.free b o e n hc) (fun b o hc e=>u.there b o e hc) u.tups u.frzs u.tbls (fun m' hm=>by
  obtain⟨o',es',ep',ho',r'⟩:=hm;rw[ho] at ho';cases ho';exact⟨_,es',ep',hL,r'⟩) hok hg
theorem Inv.turned (I:Inv X pins σ H s) (k:∀ b o,b≠it->s.heap.get? b=xw o->h'.get? b=xw o) (hn:H it=xx) (hL:it≠X.env.locals)
  (h1:it∈X.ex∨X.s₀.heap.objs.size<=it) (h2:∀ x c,X.env.cells.lookup x=xw c->c≠it) (h3:∀ p∈X.pn++pins,p.1≠it):Inv X pins σ H { s with heap:=h',toks:=t' }:=by
 have nit:∀ b u,H b=xw u->b≠it:=fun b u e z=>by rw[z,hn] at e;cases e
 refine I.step (g':=s.gens) (d':=s.drawn) (ch:=[it]) (fun b hb=> ?_) (fun b o _ _ hc e _=>k b o (fun z=>hc (by simp[z])) e) (fun b o _ _ hc e _=>⟨o.slots,k b o (fun z=>hc (by simp[z])) e⟩) (fun _ _ _ _ n=>n)
  (fun b o hc e=>⟨o,k b o (fun z=>hc (by simp[z])) e⟩) (fun _ _ e=>e) (fun _ _ _ e=>e) (fun b ps e=>⟨#[],by rw[e];simp⟩) (fun m hm=> ?_) (fun b u e=> ?_) I.bare
 ·have e:b=it:=by simpa using hb
  subst e;exact⟨h1,hL,h2,h3⟩
 ·obtain⟨o,es,ep,ho,r⟩:=hm;exact⟨o,es,ep,k _ o (bx hL) ho,r⟩
 ·refine(I.hok b u e).stay (fun c v hc q=>k c v ?_ q) (fun _ q=>q) fun _ _ q=>q;rcases hc with z|z
  ·rw[z];exact nit b u e
  ·exact nit c _ z
theorem Inv.tok (I:Inv X pins σ H s) (t:Nat):Inv X pins σ H { s with toks:=t }:=I.un (h':=s.heap) (t':=t) Un.refl I.hok
theorem Inv.kept (I:Inv X pins σ H s) (k:∀ b u,s.heap.get? b=xw u->h'.get? b=xw u):Inv X pins σ H { s with heap:=h',toks:=t' }:=I.un (Un.kept k) (I.hok.kept k)
theorem Inv.laid (I:Inv X pins σ H s) (k:∀ b u,s.heap.get? b=xw u->h'.get? b=xw u) (hp:s.heap.objs.size<=a) (new:ObjOk X.prog X.w (upd H a o) h' a o):
  Inv X pins σ (upd H a o) { s with heap:=h',toks:=t' }:=I.un (Un.laid k hp (I.hok.fresh hp)) (I.hok.laid k hp new)
theorem Inv.write (I:Inv X pins σ H s) (mu:Mut (H x)) (he:e=x∨H e=xw (.own x)) (k:∀ b u,b≠e->s.heap.get? b=xw u->h'.get? b=xw u) (heo:∃ u,h'.get? e=xw u)
  (new:ObjOk X.prog X.w (upd H x o) h' x o):Inv X pins σ (upd H x o) { s with heap:=h',toks:=t' }:=I.un (Un.write mu he k heo) (I.hok.write mu he k heo new)
theorem Inv.weak (I:Inv X pins σ H s) (hl:σ'.length=σ.length) (w:∀(i:Nat) v,σ'[i]?=xw (xw v)->σ[i]?=xw (xw v)):Inv X pins σ' H s:=
 ⟨I.ok,I.os,I.bare,I.base,let ⟨m,hn,hl'⟩:=I.loc;⟨m,hn,fun i x v e1 e2 e3=>hl' i x v e1 (w i v e2) e3⟩,I.cell,I.free,I.freeC,I.pin,I.hok,hl.trans I.len⟩
theorem Inv.pins_of (I:Inv X pins σ H s) (h:∀ p∈pins',s.heap.get? p.1=xw p.2/\H p.1=xx/\p.1≠X.env.locals/\p.1∉X.fs/\∀ v,p.2.data≠ .cell v):Inv X pins' σ H s:=
 ⟨I.ok,I.os,I.bare,I.base,I.loc,I.cell,I.free,I.freeC,fun p hp=>(cu.mp hp).elim (fun z=>I.pin p (db _ z)) (h p),I.hok,I.len⟩
theorem nodup_ix {N:List Str} (hN:N.Nodup) {i j:Nat} (a:N[i]?=xw x) (b:N[j]?=xw x):i=j:=by
 obtain⟨h1,e1⟩:=br.mp a;obtain⟨h2,e2⟩:=br.mp b;exact(List.getElem_inj hN).mp (e1.trans e2.symm)
theorem xG (I:Inv X pins σ H s) (hN:X.N.Nodup) (hi:X.N[i]?=xw x) (hx:Loc X.env.scope x) (r:RelV v u)
  (h:∀ s',Inv X pins (σ.set i (xw v)) H s'->(∃ a,f8 a s.heap s'.heap/\(a=X.env.locals∨X.env.cells.lookup x=xw a))->Q () s') (hf:X.fn x=true∨X.env.scope.names.lookup x=xw .local:=by first|exact .inl rfl|exact .inr rfl|assumption):bc M A (storeName X.env x u) Q E s:=by
 obtain⟨m,hn,hl⟩:=id I.loc;have hcls:(X.env.scope.kind== .class||(X.env.scope.kind== .module&&X.env.locals !=X.env.globals))=false:=by rw[I.ok.kind];rfl
 have hiσ:i<σ.length:=by rw[I.len];exact(br.mp hi).1
 have cne:=I.cne;have tracked:∀ {a:af}{h':c9},(∃ o,s.heap.get? a=xw o/\H a=xx)->f8 a s.heap h'->HOk X.prog X.w H h':=fun {a h'} ha hs b ob e=>by
  obtain⟨_,_,hfree⟩:=ha;refine(I.hok b ob e).stay (fun c w' hc q=>(hs.2 c ?_).trans q) (fun _ q=>q) fun _ _ q=>q;rintro rfl;rcases hc with rfl|hc
  ·rw[hfree] at e;cases e
  ·rw[hfree] at hc;cases hc
 rcases hx with hk|hk
 ·refine wpAny_storeName_local hk hn (fun h' hn' hs=> ?_) hcls;obtain⟨oL,_,_,hoL,_⟩:=id hn;refine h _ ⟨I.ok,I.os,I.bare,⟨fun b o e n hb hx=> ?_,fun b o e n hb hx=> ?_,I.base.free,fun b o e hx=> ?_,I.base.tups,I.base.frzs,I.base.tbls⟩,⟨_,hn',fun j y v' e1 e2 e3=> ?_⟩,fun y c e=> ?_,I.free,I.freeC,fun p hp=> ?_,tracked ⟨oL,hoL,I.free⟩ hs,by simpa using I.len⟩ ⟨_,hs,.inl rfl⟩
  ·exact(hs.2 b (ck (b9 (bp e) I.ok.above))).trans (I.base.keep b o e n hb hx)
  ·obtain⟨sl,e1⟩:=I.base.slot b o e n hb hx;exact⟨sl,(hs.2 b (ck (b9 (bp e) I.ok.above))).trans e1⟩
  ·obtain⟨o',e1⟩:=I.base.there b o e hx;exact⟨o',(hs.2 b (ck (b9 (bp e) I.ok.above))).trans e1⟩
  ·by_cases hj:j=i
   ·subst hj;rw[hi] at e1;cases e1;rw[dy hiσ] at e2;cases e2;exact⟨u,r,.inl ⟨hk,by simp⟩⟩
   ·rw[f9 (bx hj)] at e2;obtain⟨u',r',q⟩:=hl j y v' e1 e2 e3;refine⟨u',r',?_⟩;rcases q with⟨k,e⟩|⟨k,c,e,z⟩
    ·refine .inl ⟨k,?_⟩
     have:y≠x:=fun e=>hj (nodup_ix hN e1 (e ▸ hi))
     simp[this,e]
    ·exact .inr ⟨k,c,e,z.sameBut hs (cne y c e)⟩
  ·obtain⟨w',z⟩:=I.cell y c e;exact⟨w',z.sameBut hs (cne y c e)⟩
  ·obtain⟨e,n,ne,nf,d⟩:=I.pin p hp;exact⟨(hs.2 p.1 ne).trans e,n,ne,nf,d⟩
 ·have hfn:X.fn x=true:=by
   rcases hf with z|z
   ·exact z
   ·rw[z] at hk;cases hk
  obtain⟨c,hc⟩:=I.ok.has x (.inl hk);obtain⟨w',z⟩:=I.cell x c hc;refine wpAny_storeName_cell I.ok.kind hk hc z (fun h' hc' hs=> ?_);obtain⟨oc,hoc,hocd⟩:=id z;refine h { s with heap:=h' } ⟨I.ok,I.os,I.bare,⟨fun b o e n hb hx=> ?_,fun b o e n hb hx=> ?_,I.base.free,fun b o e hx=> ?_,I.base.tups,I.base.frzs,I.base.tbls⟩,⟨m,hn.sameBut hs (bx (cne x c hc)),fun j y v' e1 e2 e3=> ?_⟩,fun y c' e=> ?_,I.free,I.freeC,fun p hp=> ?_,tracked ⟨oc,hoc,I.freeC x c hc⟩ hs,by simpa using I.len⟩ ⟨c,hs,.inr hc⟩
  ·exact(hs.2 b (ck (b9 (bp e) (I.ok.cab x c hfn hc)))).trans (I.base.keep b o e n hb hx)
  ·obtain⟨sl,e1⟩:=I.base.slot b o e n hb hx;exact⟨sl,(hs.2 b (ck (b9 (bp e) (I.ok.cab x c hfn hc)))).trans e1⟩
  ·obtain⟨o',e1⟩:=I.base.there b o e hx;exact⟨o',(hs.2 b (ck (b9 (bp e) (I.ok.cab x c hfn hc)))).trans e1⟩
  ·by_cases hj:j=i
   ·subst hj;rw[hi] at e1;cases e1;rw[dy hiσ] at e2;cases e2;exact⟨u,r,.inr ⟨.inl hk,c,hc,hc'⟩⟩
   ·rw[f9 (bx hj)] at e2;obtain⟨u',r',q⟩:=hl j y v' e1 e2 e3;refine⟨u',r',?_⟩;rcases q with q|⟨k,c',e,z'⟩
    ·exact .inl q
    ·refine .inr ⟨k,c',e,z'.sameBut hs ?_⟩;rintro rfl;exact hj (nodup_ix hN e1 (I.ok.inj _ _ _ e hc ▸ hi))
  ·by_cases hcc:c'=c
   ·subst hcc;exact⟨_,hc'⟩
   ·obtain⟨w2,z2⟩:=I.cell y c' e;exact⟨w2,z2.sameBut hs hcc⟩
  ·obtain⟨e,n,ne,nf,d⟩:=I.pin p hp;refine⟨(hs.2 p.1 ?_).trans e,n,ne,nf,d⟩;intro q;rw[q,hoc] at e;have q':oc=p.2:=ca e;exact d w' (by rw[<- q'];exact hocd)
theorem BF (I:Inv X pins σ H s) (hN:X.N.Nodup) (hi:X.N[i]?=xw x) (hx:Loc X.env.scope x) (r:RelV v u)
  (h:∀ s',Inv X pins (σ.set i (xw v)) H s'->Q () s') (hf:X.fn x=true∨X.env.scope.names.lookup x=xw .local:=by first|exact .inl rfl|exact .inr rfl|assumption):bc M A (storeName X.env x u) Q E s:=
 xG I hN hi hx r (fun s' I' _=>h s' I') hf
theorem Inv.call' (I:Inv X pins σ H s) (ho:s'.os=s.os) (u:Un (frs X.stack) ch H H' s.heap s'.heap) (hok:HOk X.prog X.w H' s'.heap) (hg:n8 s'.gens)
  (hch:∀ b∈ch,(b∈X.ex∨X.s₀.heap.objs.size<=b)/\b≠X.env.locals/\(∀ x c,X.env.cells.lookup x=xw c->c≠b)/\∀ p∈X.pn++pins,p.1≠b):Inv X pins σ H' s':=by
 obtain⟨h',g',d',t',o'⟩:=s';have e:o'=s.os:=ho;subst e;exact I.call (g':=g') (t':=t') (d':=d') u hok hg hch
end
abbrev XK:=ag->Option af->Hp->Prop
abbrev St:=List (Option V)
abbrev VK:=V->Hp->Prop
abbrev TE:=St->Hp->VK->Prop
abbrev TT:=St->Hp->(Bool->Hp->Prop)->Prop
abbrev TA:=St->Hp->(List V->Hp->Prop)->Prop
structure CM where
 nx:St->Hp->Prop
 rt:VK
 bk:St->Hp->Prop:=fun _ _=>False
 ct:St->Hp->Prop:=fun _ _=>False
abbrev TS:=CM->St->Hp->Prop
def EP (X:Cx) (pins:List (af×Obj)) (σ:St) (Q:VK) (u:ag) (s':au):Prop:=∃ v H',Inv X pins σ H' s'/\RelV v u/\Q v H'
def TP (X:Cx) (pins:List (af×Obj)) (σ:St) (Q:Bool->Hp->Prop) (b:Bool) (s':au):Prop:=∃ H',Inv X pins σ H' s'/\Q b H'
def AP (X:Cx) (pins:List (af×Obj)) (σ:St) (Q:List V->Hp->Prop) (us:List ag) (s':au):Prop:=∃ vs H',Inv X pins σ H' s'/\Vals vs us/\Q vs H'
def SP (X:Cx) (pins:List (af×Obj)) (D:CM) (f:Flow) (s':au):Prop:=
 match f with
 |.next=>∃ σ' H',Inv X pins σ' H' s'/\D.nx σ' H'
 |.brk=>∃ σ' H',Inv X pins σ' H' s'/\D.bk σ' H'
 |.cont=>∃ σ' H',Inv X pins σ' H' s'/\D.ct σ' H'
 |.ret u=>∃ v σ' H',Inv X pins σ' H' s'/\RelV v u/\D.rt v H'
def PE (X:Cx) (e:bv) (t:TE):Prop:=
 ∀(pins:List (af×Obj)) (s:au) (σ:St) (H:Hp) (Q:VK),Inv X pins σ H s->t σ H Q->bc (model X.prog X.w) X.A (eval e X.env) (EP X pins σ Q) X.xe s
def PT (X:Cx) (e:bv) (t:TT):Prop:=
 ∀(pins:List (af×Obj)) (s:au) (σ:St) (H:Hp) (Q:Bool->Hp->Prop),Inv X pins σ H s->t σ H Q->bc (model X.prog X.w) X.A (isTrue e X.env (eval e X.env)) (TP X pins σ Q) X.xe s
def PW (X:Cx) (e:bv) (t:TT):Prop:=
 ∀(whole:Sem ag) (pins:List (af×Obj)) (s:au) (σ:St) (H:Hp) (Q:Bool->Hp->Prop),Inv X pins σ H s->t σ H Q->bc (model X.prog X.w) X.A (isTrue e X.env whole) (TP X pins σ Q) X.xe s
theorem PW.pt (h:PW X e t):PT X e t:=h _
def PA (X:Cx) (es:List bv) (t:TA):Prop:=
 ∀(pos:Pos) (pins:List (af×Obj)) (s:au) (σ:St) (H:Hp) (Q:List V->Hp->Prop),Inv X pins σ H s->t σ H Q->bc (model X.prog X.w) X.A (spliced (dq pos (av es X.env))) (AP X pins σ Q) X.xe s
def PS (X:Cx) (st:cz) (t:TS):Prop:=
 ∀(pins:List (af×Obj)) (s:au) (σ:St) (H:Hp) (D:CM),Inv X pins σ H s->t D σ H->bc (model X.prog X.w) X.A (exec st X.env) (SP X pins D) X.xe s
def PSs (X:Cx) (st:List cz) (t:TS):Prop:=
 ∀(pins:List (af×Obj)) (s:au) (σ:St) (H:Hp) (D:CM),Inv X pins σ H s->t D σ H->bc (model X.prog X.w) X.A (execs st X.env) (SP X pins D) X.xe s
theorem thn {Q Q':α->au->Prop} (h:bc M A t Q E s) (hQ:∀ a s,Q a s->Q' a s):bc M A t Q' E s:=hZ h hQ fun _ _ x=>x
end L2
namespace L2
section
variable {X:Cx}
def RN (i:Nat):TE:=fun σ H Q=>∃ v,σ[i]?=xw (xw v)/\Q v H
def tC (v:V):TE:=fun _ H Q=>Q v H
theorem NQ (hN:X.N[i]?=xw x) (hv:Vis X.env.scope x) (hd:(x==("__debug__":Str))=false:=by decide) (hcd:(x==("__classdict__":Str))=false:=by decide):PE X (.Name x pos) (RN i):=by
 intro pins s σ H Q I h;obtain⟨v,e,h⟩:=h;obtain⟨m,hn,hl⟩:=I.loc;obtain⟨u,r,l⟩:=hl i x v hN e hv;have fin:EP X pins σ Q u s:=⟨v,H,I,r,h⟩;rcases l with⟨hk,hm⟩|⟨hk,c,hc,hcell⟩
 ·exact wpAny_Name (wpAny_loadName_local I.ok.kind hk hn hm fin) hd
 ·rcases hk with hk|hk
  ·exact wpAny_Name (wpAny_loadName_cell I.ok.kind hk hc hcell fin) hd
  ·exact wpAny_Name (wpAny_loadName_free I.ok.kind hk hc hcell fin hcd) hd
theorem NV:PE X (.Constant (.int i) j pos) (tC (.int i)):=fun _ _ _ H _ I h=>wpAny_Constant_int ⟨.int i,H,I.tok _,⟨_,rfl⟩,h⟩
theorem QR:PE X (.Constant (.bool b) j pos) (tC (.bl b)):=fun _ _ _ H _ I h=>Constant_bool ⟨.bl b,H,I,rfl,h⟩
theorem NU:PE X (.Constant .none j pos) (tC .non):=fun _ _ _ H _ I h=>Constant_none ⟨.non,H,I,rfl,h⟩
theorem NR:PE X (.Constant (.str x) j pos) (tC (.str x)):=fun _ _ _ H _ I h=>Calls.Constant_str ⟨.str x,H,I.tok _,⟨_,rfl⟩,h⟩
def Gl (X:Cx) (x:Str):Prop:=X.env.kindOf x=xw .globalImplicit
theorem vK (I:Inv X pins σ H s) (hg:Gl X x) (hm:X.mg x=xw u) (h:Q u s)
  (hd:(x==("__debug__":Str))=false:=by decide):bc (model X.prog X.w) X.A (eval (.Name x pos) X.env) Q E s:=
 qh I.ok.kind hg (Calls.loadGlobal_global (by rw[I.ok.glob];exact I.mod.glob.keeps I.bk) hm h) hd
theorem tR (I:Inv X pins σ H s) (hg:Gl X x) (hm:X.mg x=xx) (hv:dm x=xw u) (h:Q u s)
  (hn:x≠"__name__":=by decide) (hd:(x==("__debug__":Str))=false:=by decide):bc (model X.prog X.w) X.A (eval (.Name x pos) X.env) Q E s:=by
 obtain⟨mb,h1,h2⟩:=I.mod.blt;exact qh I.ok.kind hg (Calls.loadGlobal_builtin (by rw[I.ok.glob];exact I.mod.glob.keeps I.bk) hm (by rw[I.ok.blt];exact h1.keeps I.bk) ((h2 x hn).trans hv) h) hd
theorem Ai (hg:Gl X x) (hm:X.mg x=xx) (hv:dm x=xw u) (r:RelV v u) (hn:x≠"__name__":=by decide) (hd:(x==("__debug__":Str))=false:=by decide):PE X (.Name x pos) (tC v):=
 fun _ _ _ H _ I h=>tR I hg hm hv ⟨v,H,I,r,h⟩ hn hd
variable {a b:bv}{ta tb:TE}{pos:Pos}
def PC (X:Cx) (op:CmpOp) (a b:bv) (t:TE):Prop:=
 ∀(pins:List (af×Obj)) (s:au) (σ:St) (H:Hp) (Q:VK),Inv X pins σ H s->t σ H Q->
  bc (model X.prog X.w) X.A (eval a X.env) (fun v s₁=>bc (model X.prog X.w) X.A (eval b X.env) (fun u s₂=>bc (model X.prog X.w) X.A (fu op v u) (EP X pins σ Q) X.xe s₂) X.xe s₁) X.xe s
def tB (t:TE):TT:=fun σ H Q=>t σ H fun x H1=>∃ c,x=.bl c/\Q c H1
theorem NJ (h:PC X op a b t) (h1:i7 op b=false:=by first|exact nobehind _ (by decide) (by decide)|rfl):PT X (.Compare a [op] [b] pos) (tB t):=by
 intro pins s σ H Q I hw;refine t8 (thn (h pins s σ H _ I hw) fun v s1 h1=>thn h1 fun u s2 h2=>thn h2 fun c s3 ⟨x,H1,I1,r1,q1⟩=> ?_) h1;obtain⟨d,rfl,q⟩:=q1;cases r1;exact dw ⟨H1,I1,q⟩
variable {tA tB':TT}{rest:List bv}
def Sr (t u:TT):TT:=fun σ H Q=>t σ H fun c H1=>if c=true then u σ H1 Q else Q false H1
def tOr (t u:TT):TT:=fun σ H Q=>t σ H fun c H1=>if c=true then Q true H1 else u σ H1 Q
def Sk (t:TT):TT:=fun σ H Q=>t σ H fun c H1=>Q (!c) H1
theorem Kz (ha:PT X a tA):PW X (.BoolOp .And [a] pos) tA:=by
 intro wh pins s σ H Q I h;refine isTrue_and (thn (ha pins s σ H Q I h) fun c s1 e=> ?_);cases c with
 |true=>exact isTrue_and_nil e
 |false=>exact e
theorem NF (ha:PT X a tA):PW X (.BoolOp .Or [a] pos) tA:=by
 intro wh pins s σ H Q I h;refine isTrue_or (thn (ha pins s σ H Q I h) fun c s1 e=> ?_);cases c with
 |false=>exact isTrue_or_nil e
 |true=>exact e
theorem NG (ha:PT X a tA) (hb:PW X (.BoolOp .And (b::rest) pos) tB'):PW X (.BoolOp .And (a::b::rest) pos) (Sr tA tB'):=by
 intro wh pins s σ H Q I h;refine isTrue_and (thn (ha pins s σ H _ I h) fun c s1 ⟨H1,I1,q1⟩=> ?_);cases c with
 |true=>exact hb wh pins s1 σ H1 Q I1 q1
 |false=>exact⟨H1,I1,q1⟩
theorem QM (ha:PT X a tA) (hb:PW X (.BoolOp .Or (b::rest) pos) tB'):PW X (.BoolOp .Or (a::b::rest) pos) (tOr tA tB'):=by
 intro wh pins s σ H Q I h;refine isTrue_or (thn (ha pins s σ H _ I h) fun c s1 ⟨H1,I1,q1⟩=> ?_);cases c with
 |true=>exact⟨H1,I1,q1⟩
 |false=>exact hb wh pins s1 σ H1 Q I1 q1
theorem NI (ha:PT X a tA):PT X (.UnaryOp .Not a pos) (Sk tA):=by
 intro pins s σ H Q I h;exact isTrue_not (ha pins s σ H (fun c H1=>Q (!c) H1) I h)
def QE (ta tb:TE):TE:=fun σ H Q=>ta σ H fun x H1=>∃ c,x=.bl c/\if c=true then tb σ H1 Q else Q (.bl false) H1
def Qv (ta:TE):TE:=fun σ H Q=>ta σ H fun x H1=>∃ c,x=.bl c/\Q (.bl (!c)) H1
theorem NS (h:PE X a t):PE X (.BoolOp op [a] pos) t:=fun pins s σ H Q I hw=>BoolOp_one (h pins s σ H Q I hw)
theorem NZ (ha:PE X a ta) (hb:PE X (.BoolOp .And (b::rest) pos) tb):PE X (.BoolOp .And (a::b::rest) pos) (QE ta tb):=by
 intro pins s σ H Q I h;refine BoolOp_and (thn (ha pins s σ H _ I h) fun v s1 ⟨x,H1,I1,r1,q1⟩=> ?_);obtain⟨c,rfl,q1⟩:=q1;cases r1;refine dw ?_;cases c with
 |true=>exact hb pins s1 σ H1 Q I1 q1
 |false=>exact⟨.bl false,H1,I1,rfl,q1⟩
theorem NT (ha:PE X a ta):PE X (.UnaryOp .Not a pos) (Qv ta):=by
 intro pins s σ H Q I h;refine UnaryOp_ (thn (ha pins s σ H _ I h) fun v s1 ⟨x,H1,I1,r1,q1⟩=> ?_);obtain⟨c,rfl,q1⟩:=q1;cases r1;exact not_of (dw ⟨.bl (!c),H1,I1,rfl,q1⟩)
end
end L2
namespace L2
def SqL (K:aa) (H:Hp) (a:af) (xs:List V):Prop:=
 Rd H a (.lst xs)∨
  ∃(o:Obj) (its:Array ag) (n:Nat),K.lookup a=xw o/\o.cls=.type "list"/\o.dict=xx/\o.data=.seq its n/\its.size<=sizeLine/\Vals xs its.toList
def SqT (K:aa) (H:Hp) (a:af) (xs:List V):Prop:=
 Rd H a (.tup xs)∨
  ∃(o:Obj) (its:Array ag) (n:Nat),K.lookup a=xw o/\o.cls=.type "tuple"/\o.data=.seq its n/\its.size<=sizeLine/\Vals xs its.toList
noncomputable def SQ:ag->Option V
 |.none=>xw .non
 |.bool b=>xw (.bl b)
 |.int i _=>xw (.int i)
 |.str x _=>xw (.str x)
 |.bytes b _=>xw (.byt b)
 |.float b _=>xw (.flt b)
 |.ref a=>xw (.ref a)
 |.type n=>xw (.ty n)
 |_=>xx
theorem RelV.abs (r:RelV x u):SQ u=xw x:=by
 cases x with
 |non=>cases r;rfl
 |bl _=>cases r;rfl
 |int _=>obtain⟨t,rfl⟩:=r;rfl
 |str _=>obtain⟨t,rfl⟩:=r;rfl
 |byt _=>obtain⟨t,rfl⟩:=r;rfl
 |flt _=>obtain⟨t,rfl⟩:=r;rfl
 |ref _=>cases r;rfl
 |ty _=>cases r;rfl
theorem RelV.inj (r:RelV x u) (q:RelV y u):x=y:=ca (r.abs.symm.trans q.abs)
theorem Vals.inj:∀ {xs ys:List V}{us:List ag},Vals xs us->Vals ys us->xs=ys
 |_,_,_,.nil,.nil=>rfl
 |_,_,_,.cons r t,.cons r' t'=>by rw[r.inj r',Vals.inj t t']
section
variable {X:Cx}{pins:List (af×Obj)}{σ:St}{H:Hp}{s:au}{a:af}{xs ys:List V}
theorem SqL.of {K:aa} (h:H a=xw (.lst xs)):SqL K H a xs:=.inl (.inl h)
theorem Inv.list (I:Inv X pins σ H s) (h:SqL X.K H a xs):∃ its:List ag,Vals xs its/\PlainL s.heap a its.toArray/\xs.length<=sizeLine:=by
 rcases h with h|⟨o,its,n,hk,hc,hd,hs,hz,r⟩
 ·obtain⟨z,its,n,r,e⟩:=h.ok I.hok;exact⟨its,r,⟨_,n,e,rfl,rfl,rfl⟩,z⟩
 ·refine⟨its.toList,r,⟨o,n,I.kIn a o hk,hc,hd,by simpa using hs⟩,?_⟩;have e:=r.length;simp only[ff] at e;omega
theorem Inv.tuple (I:Inv X pins σ H s) (h:SqT X.K H a xs):∃ its:List ag,Vals xs its/\IsTup s.heap a its.toArray/\xs.length<=sizeLine:=by
 rcases h with h|⟨o,its,n,hk,hc,hs,hz,r⟩
 ·obtain⟨z,its,r,p⟩:=h.ok I.hok;exact⟨its,r,p,z⟩
 ·refine⟨its.toList,r,⟨o,I.kIn a o hk,hc,n,by simpa using hs⟩,?_⟩;have e:=r.length;simp only[ff] at e;omega
theorem Inv.list_inj (I:Inv X pins σ H s) (h:SqL X.K H a xs) (h':SqL X.K H a ys):xs=ys:=by
 obtain⟨its,r,⟨o,n,e,_,_,d⟩,_⟩:=I.list h;obtain⟨its',r',⟨o',n',e',_,_,d'⟩,_⟩:=I.list h';rw[e] at e';cases e';rw[d] at d';injection d' with d1 _
 have:its=its':=by simpa using congrArg Array.toList d1
 subst this;exact r.inj r'
theorem Inv.tuple_inj (I:Inv X pins σ H s) (h:SqT X.K H a xs) (h':SqT X.K H a ys):xs=ys:=by
 obtain⟨its,r,⟨o,e,_,n,d⟩,_⟩:=I.tuple h;obtain⟨its',r',⟨o',e',_,n',d'⟩,_⟩:=I.tuple h';rw[e] at e';cases e';rw[d] at d';injection d' with d1 _
 have:its=its':=by simpa using congrArg Array.toList d1
 subst this;exact r.inj r'
end
noncomputable abbrev Cx.wish (X:Cx) (E:ag->au->Prop):Cx:={ X with xe:=E }
noncomputable abbrev Cx.nox (X:Cx):Cx:=X.wish fun _ _=>False
theorem Cx.Ok.wish {X:Cx} (ok:X.Ok) (E:ag->au->Prop):(X.wish E).Ok:=
 ⟨ok.mod,ok.kind,ok.glob,ok.blt,ok.above,ok.inj,ok.has,ok.cab,ok.hd,ok.frames,ok.stk,ok.exf,ok.bs,ok.bsz,ok.noex,ok.exfs,ok.funs,ok.frf⟩
theorem Cx.Ok.unwish {X:Cx} (ok:(X.wish E).Ok):X.Ok:=
 ⟨ok.mod,ok.kind,ok.glob,ok.blt,ok.above,ok.inj,ok.has,ok.cab,ok.hd,ok.frames,ok.stk,ok.exf,ok.bs,ok.bsz,ok.noex,ok.exfs,ok.funs,ok.frf⟩
section
variable {X:Cx}{pins:List (af×Obj)}{σ:St}{H:Hp}{s:au}{E:ag->au->Prop}
theorem Inv.wish (I:Inv X pins σ H s) (E:ag->au->Prop):Inv (X.wish E) pins σ H s:=⟨I.ok.wish E,I.os,I.bare,I.base,I.loc,I.cell,I.free,I.freeC,I.pin,I.hok,I.len⟩
theorem Inv.unwish (I:Inv (X.wish E) pins σ H s):Inv X pins σ H s:=⟨I.ok.unwish,I.os,I.bare,I.base,I.loc,I.cell,I.free,I.freeC,I.pin,I.hok,I.len⟩
theorem SP.unwish (h:SP (X.wish E) pins D f s'):SP X pins D f s':=by
 cases f with
 |next=>obtain⟨σ',H',I,q⟩:=h;exact⟨σ',H',I.unwish,q⟩
 |brk=>obtain⟨σ',H',I,q⟩:=h;exact⟨σ',H',I.unwish,q⟩
 |cont=>obtain⟨σ',H',I,q⟩:=h;exact⟨σ',H',I.unwish,q⟩
 |ret u=>obtain⟨v,σ',H',I,r,q⟩:=h;exact⟨v,σ',H',I.unwish,r,q⟩
end
section
variable {X:Cx}{st:cz}{rest:List cz}{t u:TS}{e:bv}{te:TE}{pos:Pos}
def Qw:TS:=fun D σ H=>D.nx σ H
def Si (t u:TS):TS:=fun D σ H=>t { D with nx:=u D } σ H
theorem KC:PSs X [] Qw:=fun _ _ σ H _ I h=>ph ⟨σ,H,I,h⟩
theorem HB (h1:PS X st t) (h2:PSs X rest u):PSs X (st::rest) (Si t u):=by
 intro pins s σ H D I h;refine wpAny_execs_cons (thn (h1 pins s σ H { D with nx:=u D } I h) fun f s1 q=> ?_);cases f with
 |next=>
  obtain⟨σ',H',I',q⟩:=q;exact h2 pins s1 σ' H' D I' q
 |ret v=>exact q
 |brk=>exact q
 |cont=>exact q
theorem KB (h1:PS X st t):PSs X [st] t:=by
 intro pins s σ H D I h;refine wpAny_execs_cons (thn (h1 pins s σ H D I h) fun f s1 q=> ?_);cases f with
 |next=>exact ph q
 |ret v=>exact q
 |brk=>exact q
 |cont=>exact q
theorem Inv.quiet (I:Inv X pins σ H s):interactive X.env=false:=by simp[interactive,I.ok.kind]
def Qz (te:TE):TS:=fun D σ H=>te σ H fun _ H1=>D.nx σ H1
theorem KE (he:PE X e te) (hs:jo e xx pos.line X.env=pure false:=by rfl):PS X (.Expr e pos) (Qz te):=by
 intro pins s σ H D I h;exact wpAny_Expr_any (thn (he pins s σ H _ I h) fun v s1 ⟨x,H1,I1,r1,q1⟩=>⟨σ,H1,I1,q1⟩) I.quiet hs
def Sj (te:TE):TS:=fun D σ H=>te σ H D.rt
theorem NL (he:PE X e te):PS X (.Return (xw e) pos) (Sj te):=by
 intro pins s σ H D I h;exact wpAny_Return_some (thn (he pins s σ H _ I h) fun v s1 ⟨x,H1,I1,r1,q1⟩=>⟨x,σ,H1,I1,r1,q1⟩)
def Sm (c:TT) (t u:TS):TS:=fun D σ H=>c σ H fun b H1=>if b=true then t D σ H1 else u D σ H1
theorem QN (hc:PT X c tc) (ha:PSs X a t) (hb:PSs X b u):PS X (.If c a b pos) (Sm tc t u):=by
 intro pins s σ H D I h;refine wpAny_If (thn (hc pins s σ H _ I h) fun d s1 ⟨H1,I1,q1⟩=> ?_);cases d with
 |true=>exact ha pins s1 σ H1 D I1 q1
 |false=>exact hb pins s1 σ H1 D I1 q1
end
abbrev TG:=V->St->Hp->(St->Hp->Prop)->Prop
abbrev TGs:=List V->St->Hp->(St->Hp->Prop)->Prop
def PG (X:Cx) (target:bv) (t:TG):Prop:=
 ∀(pins:List (af×Obj)) (s:au) (σ:St) (H:Hp) (v:V) (u:ag) (Q:St->Hp->Prop),Inv X pins σ H s->RelV v u->t v σ H Q->
  bc (model X.prog X.w) X.A (assign target X.env u) (fun _ s'=>∃ σ' H',Inv X pins σ' H' s'/\Q σ' H') X.xe s
def PGs (X:Cx) (ts:List bv) (t:TGs):Prop:=
 ∀(pins:List (af×Obj)) (s:au) (σ:St) (H:Hp) (vs:List V) (us:List ag) (Q:St->Hp->Prop),Inv X pins σ H s->Vals vs us->t vs σ H Q->
  bc (model X.prog X.w) X.A (assignInOrder ((l8 ts X.env).map (·.2)) us) (fun _ s'=>∃ σ' H',Inv X pins σ' H' s'/\Q σ' H') X.xe s
abbrev Sc:=V->V->V->Hp->(Hp->Prop)->Prop
def Sd (X:Cx) (t:Sc):Prop:=
 ∀(pins:List (af×Obj)) (s:au) (σ:St) (H:Hp) (o i v:V) (ov iv u:ag) (Q:Hp->Prop),Inv X pins σ H s->RelV o ov->RelV i iv->RelV v u->t o i v H Q->
  bc (model X.prog X.w) X.A (setItem ov iv u) (fun _ s'=>∃ H',Inv X pins σ H' s'/\Q H') X.xe s
section
variable {X:Cx}{pos:Pos}
def Pw (i:Nat):TG:=fun v σ H Q=>Q (σ.set i (xw v)) H
theorem kW (hN:X.N.Nodup) (hi:X.N[i]?=xw x) (hx:Loc X.env.scope x) (hf:X.fn x=true∨X.env.scope.names.lookup x=xw .local:=by first|exact .inl rfl|exact .inr rfl|assumption):PG X (.Name x pos) (Pw i):=by
 intro pins s σ H v u Q I r h;exact wpAny_assign_Name (BF I hN hi hx r (fun s' I'=>⟨_,H,I',h⟩) hf)
noncomputable def SK:TGs:=fun vs σ H Q=>vs=[]/\Q σ H
noncomputable def Rr (t:TG) (u:TGs):TGs:=fun vs σ H Q=>∃ v r,vs=v::r/\t v σ H fun σ' H'=>u r σ' H' Q
theorem EN:PGs X [] SK:=by
 intro pins s σ H vs us Q I r h;obtain⟨e,h⟩:=h;subst e;cases r;exact assignInOrder_nil ⟨σ,H,I,h⟩
theorem kD (h1:PG X e t) (h2:PGs X es u)
  (hs:(l8 (e::es) X.env).map (·.2)=assign e X.env::(l8 es X.env).map (·.2):=by rfl):PGs X (e::es) (Rr t u):=by
 intro pins s σ H vs us Q I r h;obtain⟨v,vr,e1,h⟩:=h;subst e1;cases r with
 |cons r rr=>
  rw[hs];refine assignInOrder_cons (thn (h1 pins s σ H _ _ _ I r h) fun _ s1 ⟨σ1,H1,I1,q1⟩=> ?_);exact h2 pins s1 σ1 H1 _ _ Q I1 rr q1
def SI (K:aa) (n:Nat) (t:TGs):TG:=fun v σ H Q=>∃ a xs,v=.ref a/\SqT K H a xs/\xs.length=n/\t xs σ H Q
theorem JJ (hc:X.calm=true) (h:PGs X es t)
  (hn:(l8 es X.env).length=n:=by rfl) (hst:(l8 es X.env).findIdx? (·.1)=xx:=by rfl):PG X (.Tuple es k pos) (SI X.K n t):=by
 intro pins s σ H v u Q I r hw;obtain⟨a,xs,e1,hq,hl,hw⟩:=hw;subst e1;cases r;obtain⟨its,rv,ht,hz⟩:=I.tuple hq;refine assign_Tuple_tuple (I.ok.hd hc) ht (by simp[hn,<- hl,rv.length]) hst fun h' hx=> ?_;have I1:Inv X pins σ H { s with heap:=h' }:=I.kept (t':=s.toks) fun b o e=>hx b o (ck (bp e)) e;exact h pins _ σ H xs _ Q I1 (by simpa using rv) hw
def gSub (to ti:TE) (t:Sc):TG:=fun v σ H Q=>to σ H fun o H1=>ti σ H1 fun i H2=>t o i v H2 fun H3=>Q σ H3
theorem NP (ho:PE X o to) (hi:PE X i ti) (hs:Sd X t)
  (ha:∀ v,assign (.Subscript o i pos) X.env v=(do
   let ov <- holding [v] (eval o X.env)
   let iv <- holding [v,ov] (eval i X.env)
   n9 pos
   holding [v,ov,iv] (setItem ov iv v)
   release [v,ov,iv] []):=by intro _;rfl):PG X (.Subscript o i pos) (gSub to ti t):=by
 intro pins s σ H v u Q I r h;rw[ha];refine ae (i8 (thn (ho pins s σ H _ I h) fun ov s1 ⟨x,H1,I1,r1,q1⟩=> ?_));refine ae (i8 (thn (hi pins s1 σ H1 _ I1 q1) fun iv s2 ⟨y,H2,I2,r2,q2⟩=> ?_));refine ae (ut (ae (i8 (thn (hs pins s2 σ H2 x y v ov iv u _ I2 r1 r2 r q2) fun _ s3 ⟨H3,I3,q3⟩=> ?_))));exact wpAny_release ⟨σ,H3,I3,q3⟩
def RQ (te:TE) (g:TG):TS:=fun D σ H=>te σ H fun x H1=>g x σ H1 D.nx
theorem JI (he:PE X e te) (hg:PG X tg g) (hs:uu [tg] e pos.line X.env=pure false:=by rfl) (hw:uv [tg] e X.env=pure xx:=by rfl)
  (h1:(l8 [tg] X.env).map (·.2)=[assign tg X.env]:=by rfl):PS X (.Assign [tg] e pos) (RQ te g):=by
 intro pins s σ H D I h;refine wpAny_Assign_stores (thn (he pins s σ H _ I h) fun v s1 ⟨x,H1,I1,r1,q1⟩=> ?_) hs hw;rw[h1];exact thn (hg pins s1 σ H1 x v _ I1 r1 q1) fun _ s2 q=>q
theorem NK (hN:X.N.Nodup) (hi:X.N[i]?=xw x) (hx:Loc X.env.scope x) (he:PE X e te) (hs:jo e (xw (.Name x pos')) pos.line X.env=pure false:=by rfl) (hf:X.fn x=true∨X.env.scope.names.lookup x=xw .local:=by first|exact .inl rfl|exact .inr rfl|assumption):
  PS X (.Assign [.Name x pos'] e pos) (RQ te (Pw i)):=by
 intro pins s σ H D I h;refine wpAny_Assign_Name (thn (he pins s σ H _ I h) fun v s1 ⟨y,H1,I1,r1,q1⟩=> ?_) hs;exact BF I1 hN hi hx r1 (fun s2 I2=>⟨_,H1,I2,q1⟩) hf
end
section
variable {X:Cx}{pos:Pos}
end
structure It where
 go:Nat->Hp->Prop
 yld:Nat->Hp->V->Hp->Prop
 stop:Nat->Hp->Prop
def Kk (X:Cx) (pins:List (af×Obj)) (H:Hp) (b:af):Prop:=
 H b=xx/\b≠X.env.locals/\b∉X.fs/\(b∈X.ex∨X.s₀.heap.objs.size<=b)/\(∀ x c,X.env.cells.lookup x=xw c->c≠b)/\∀ p∈X.pn++pins,p.1≠b
theorem Inv.fpOk (I:Inv X pins σ H s) (hb:s.heap.objs.size<=b) (hn:H' b=xx):Kk X pins H' b:=by
 refine⟨hn,Nat.ne_of_gt (b9 I.lt hb),I.nofs hb,.inr (ci I.sz hb),fun x c e z=> ?_,fun p hp z=> ?_⟩
 ·obtain⟨v,q⟩:=I.cell x c e;exact absurd (b9 q.lt (by rw[z];exact hb)) (gx _)
 ·exact absurd (b9 (bp (I.pin p hp).1) (by rw[z];exact hb)) (gx _)
structure Kj (P:di) (w:du) (K:aa) (tg:bv) (J:It) (fp:List af) (it:af) (tn:Nat->c9->Prop):Prop where
 mem:it∈fp
 obj:∀ i h,tn i h->∀ b∈fp,∃ o,h.get? b=xw o/\∀ v,o.data≠ .cell v
 keep:∀ i h h',tn i h->(∀ b∈fp,∀ o,h.get? b=xw o->h'.get? b=xw o)->tn i h'
 item:∀(X:Cx),X.prog=P->X.w=w->X.K=K->X.calm=true->∀(i:Nat) (pins:List (af×Obj)) (s:au) (σ:St) (H:Hp) (E:ag->au->Prop),Inv X pins σ H s->(∀ b∈fp,Kk X pins H b)->tn i s.heap->J.go i H->
  bc (model P w) X.A (oq (.ref it)) (fun r s1=>∃ u,r=xw u/\
   bc (model P w) X.A (pi tg (.ref it) u) (fun _ s2=>∃ x H',Inv X pins σ H' s2/\RelV x u/\J.yld i H x H'/\tn (i+1) s2.heap/\∀ b∈fp,H' b=xx) E s1) E s
 done:∀(X:Cx),X.prog=P->X.w=w->X.K=K->X.calm=true->∀(i:Nat) (pins:List (af×Obj)) (s:au) (σ:St) (H:Hp) (E:ag->au->Prop),Inv X pins σ H s->(∀ b∈fp,Kk X pins H b)->tn i s.heap->J.stop i H->
  bc (model P w) X.A (oq (.ref it)) (fun r s1=>r=xx/\Inv X pins σ H s1) E s
 self:∀(A:d7) (i:Nat) (s:au) (Q:ag->au->Prop) (E:ag->au->Prop),tn i s.heap->Q (.ref it) s->bc (model P w) A (pyIter (.ref it)) Q E s
abbrev TI:=St->Hp->(It->Hp->Prop)->Prop
def PIE (X:Cx) (pins:List (af×Obj)) (σ:St) (tg:bv) (R:It->Hp->Prop) (itv:ag) (s2:au):Prop:=
 ∃(it:af) (fp:List af) (tn:Nat->c9->Prop) (J:It) (H':Hp),itv=.ref it/\Inv X pins σ H' s2/\Kj X.prog X.w X.K tg J fp it tn/\tn 0 s2.heap/\(∀ b∈fp,Kk X pins H' b)/\R J H'
def PI (X:Cx) (tg iter:bv) (wi:TI):Prop:=
 ∀(pins:List (af×Obj)) (s:au) (σ:St) (H:Hp) (R:It->Hp->Prop),Inv X pins σ H s->wi σ H R->
  bc (model X.prog X.w) X.A (eval iter X.env) (fun v s1=>bc (model X.prog X.w) X.A (pyIter v) (PIE X pins σ tg R) X.xe s1) X.xe s
theorem FQ (ho:s.heap.get? it=xw o) (hc:o.cls=.type n) (hd:o.data=.fields vs)
  (hn:["enumerate","zip","dict_itemiterator","dict_reverseitemiterator","odict_iterator","itertools.zip_longest","itertools.pairwise"].contains n=false) (hQ:Q () s):bc M A (pi tg (.ref it) u) Q E s:=by
 unfold pi;cases tg <;> first
  |exact ar hQ
  |(cases u <;> first
    |exact ar hQ
    |(refine ae (wpAny_load ho ?_)
      rw[hc,hd];show bc M A (if(["enumerate","zip","dict_itemiterator","dict_reverseitemiterator","odict_iterator","itertools.zip_longest","itertools.pairwise"].contains n&&vs[0]?==xw (my _))=true then _ else _) Q E s;rw[if_neg (by intro h;rw[hn,Bool.false_and] at h;cases h)];exact ar hQ))
noncomputable def Itl (K:aa) (a:af):It:=
 ⟨fun i H=>∃ xs x,SqL K H a xs/\xs[i]?=xw x,fun i H x H'=>H'=H/\∀ xs,SqL K H a xs->xs[i]?=xw x,fun i H=>∃ xs,SqL K H a xs/\xs.length<=i⟩
noncomputable def Itt (K:aa) (a:af):It:=
 ⟨fun i H=>∃ xs x,SqT K H a xs/\xs[i]?=xw x,fun i H x H'=>H'=H/\∀ xs,SqT K H a xs->xs[i]?=xw x,fun i H=>∃ xs,SqT K H a xs/\xs.length<=i⟩
noncomputable def Itr (lo:Int) (n:Nat):It:=⟨fun i _=>i<n,fun i H x H'=>H'=H/\x=.int (lo+i),fun i _=>n<=i⟩
theorem Ei {K:aa} (a it:af):Kj P w K tg (Itl K a) [it] it (fun i h=>h.IsListIter it a i) where
 mem:=by simp
 obj:=fun i h st b hb=>by
  have e:b=it:=by simpa using hb
  subst e;obtain⟨o,e,c,d⟩:=st;exact⟨o,e,fun v z=>by rw[d] at z;cases z⟩
 keep:=fun i h h' st k=>st.at fun o e=>k it (by simp) o e
 item:=by
  intro X hP hw hK hc i pins s σ H E I hf st hg;subst hP hw hK;obtain⟨xs,x,hq,hx⟩:=hg;obtain⟨its,rv,p,hz⟩:=I.list hq;obtain⟨u,hu,ru⟩:=rv.get hx;obtain⟨f0,f1,f2,f3,f4,f5⟩:=hf it (by simp);refine wpAny_pyNext_list_item st p.isList (x:=u) (by simpa using hu) fun h' st' sb=> ?_;have I1:Inv X pins σ H { s with heap:=h' }:=I.turned (t':=s.toks) (fun b o hb e=>(sb.2 b hb).trans e) f0 f1 f3 f4 f5;obtain⟨o,e,c,d⟩:=id st';exact⟨u,rfl,FQ (s:={ s with heap:=h' }) e c d (by decide) ⟨x,H,I1,ru,⟨rfl,fun ys hy=>by rw[I.list_inj hy hq];exact hx⟩,st',fun b hb=>(hf b hb).1⟩⟩
 done:=by
  intro X hP hw hK hc i pins s σ H E I hf st hg;subst hP hw hK;obtain⟨xs,hq,hx⟩:=hg;obtain⟨its,rv,p,hz⟩:=I.list hq;obtain⟨f0,f1,f2,f3,f4,f5⟩:=hf it (by simp);have hl:=rv.length;exact wpAny_pyNext_list_end (I.ok.hd hc) st p.isList (by simp;omega) fun h' eb=>⟨rfl,I.turned (t':=s.toks) (fun b o hb e=>eb b o hb e) f0 f1 f3 f4 f5⟩
 self:=fun _ _ _ _ _ st h=>wpAny_pyIter_listiter st h
theorem CO {K:aa} (a it:af):Kj P w K tg (Itt K a) [it] it (fun i h=>h.IsTupleIter it a i) where
 mem:=by simp
 obj:=fun i h st b hb=>by
  have e:b=it:=by simpa using hb
  subst e;obtain⟨o,e,c,d⟩:=st;exact⟨o,e,fun v z=>by rw[d] at z;cases z⟩
 keep:=fun i h h' st k=>st.at fun o e=>k it (by simp) o e
 item:=by
  intro X hP hw hK hc i pins s σ H E I hf st hg;subst hP hw hK;obtain⟨xs,x,hq,hx⟩:=hg;obtain⟨its,rv,p,hz⟩:=I.tuple hq;obtain⟨u,hu,ru⟩:=rv.get hx;obtain⟨f0,f1,f2,f3,f4,f5⟩:=hf it (by simp);refine wpAny_pyNext_tuple_item st (show s.heap.IsTuple a its.toArray from p) (x:=u) (by simpa using hu) fun h' st' sb=> ?_;have I1:Inv X pins σ H { s with heap:=h' }:=I.turned (t':=s.toks) (fun b o hb e=>(sb.2 b hb).trans e) f0 f1 f3 f4 f5;obtain⟨o,e,c,d⟩:=id st';exact⟨u,rfl,FQ (s:={ s with heap:=h' }) e c d (by decide) ⟨x,H,I1,ru,⟨rfl,fun ys hy=>by rw[I.tuple_inj hy hq];exact hx⟩,st',fun b hb=>(hf b hb).1⟩⟩
 done:=by
  intro X hP hw hK hc i pins s σ H E I hf st hg;subst hP hw hK;obtain⟨xs,hq,hx⟩:=hg;obtain⟨its,rv,p,hz⟩:=I.tuple hq;obtain⟨f0,f1,f2,f3,f4,f5⟩:=hf it (by simp);have hl:=rv.length;exact wpAny_pyNext_tuple_end (I.ok.hd hc) st (show s.heap.IsTuple a its.toArray from p) (by simp;omega) fun h' eb=>⟨rfl,I.turned (t':=s.toks) (fun b o hb e=>eb b o hb e) f0 f1 f3 f4 f5⟩
 self:=fun _ _ _ _ _ st h=>wpAny_pyIter_tupleiter st h
theorem CP {K:aa} (it:af) (lo:Int) (n:Nat):Kj P w K tg (Itr lo n) [it] it (fun i h=>sy h it (lo+(i:Nat)*1) ((n:Int)-(i:Nat)) 1) where
 mem:=by simp
 obj:=fun i h st b hb=>by
  have e:b=it:=by simpa using hb
  subst e;exact⟨_,st,fun v z=>by
   have z':we _=sf v:=z;cases z'⟩
 keep:=fun i h h' st k=>k it (by simp) _ st
 item:=by
  intro X hP hw hK hc i pins s σ H E I hf st hg;subst hP hw hK;obtain⟨f0,f1,f2,f3,f4,f5⟩:=hf it (by simp);have W:=Walks.range (prog:=X.prog) (w:=X.w) (I.ok.hd hc) it lo 1 n;refine W.item i s _ _ hg st fun v h' tk hv st' kk=> ?_;obtain⟨t,rfl⟩:=hv;have I1:Inv X pins σ H { s with heap:=h',toks:=tk }:=I.turned (fun b o hb e=>kk b o (by simpa using hb) e) f0 f1 f3 f4 f5;refine⟨_,rfl,FQ (s:={ s with heap:=h',toks:=tk }) (n:="range_iterator") st' rfl rfl (by decide) ⟨.int (lo+i),H,I1,⟨t,?_⟩,⟨rfl,rfl⟩,st',fun b hb=>(hf b hb).1⟩⟩;rw[Int.mul_one]
 done:=by
  intro X hP hw hK hc i pins s σ H E I hf st hg;subst hP hw hK;obtain⟨f0,f1,f2,f3,f4,f5⟩:=hf it (by simp);exact s0 (I.ok.hd hc) st (by have:n<=i:=hg;omega) fun h' eb=>⟨rfl,I.turned (t':=s.toks) (fun b o hb e=>eb b o hb e) f0 f1 f3 f4 f5⟩
 self:=fun _ _ _ _ _ st h=>tf st h
end L2
namespace L2
section
variable {X:Cx}{tg:bv}
def Rn (K:aa) (tl:TE):TI:=fun σ H R=>tl σ H fun x H1=>∃ a,x=.ref a/\(∃ xs,SqL K H1 a xs)/\R (Itl K a) H1
def SE (K:aa) (tl:TE):TI:=fun σ H R=>tl σ H fun x H1=>∃ a,x=.ref a/\(∃ xs,SqT K H1 a xs)/\R (Itt K a) H1
theorem KM (hl:PE X l tl):PI X tg l (Rn X.K tl):=by
 intro pins s σ H R I h;refine thn (hl pins s σ H _ I h) fun v s1 ⟨x,H1,I1,r1,q1⟩=> ?_;obtain⟨a,e,⟨xs,hq⟩,q⟩:=q1;subst e;cases r1;obtain⟨its,rv,p,hz⟩:=I1.list hq;refine wpAny_pyIter_list p.isList ?_;refine⟨s1.heap.objs.size,[s1.heap.objs.size],_,_,H1,rfl,I1.kept (t':=s1.toks) fun b o e=>az _ e,Ei a _,⟨_,bz _ rfl,rfl,rfl⟩,fun b hb=> ?_,q⟩;have e:b=s1.heap.objs.size:=by simpa using hb
 subst e;exact I1.fpOk (bf _) (I1.hok.fresh (bf _))
theorem NO (hl:PE X l tl):PI X tg l (SE X.K tl):=by
 intro pins s σ H R I h;refine thn (hl pins s σ H _ I h) fun v s1 ⟨x,H1,I1,r1,q1⟩=> ?_;obtain⟨a,e,⟨xs,hq⟩,q⟩:=q1;subst e;cases r1;obtain⟨its,rv,p,hz⟩:=I1.tuple hq;refine wpAny_pyIter_tuple (show s1.heap.IsTuple a its.toArray from p) ?_;refine⟨s1.heap.objs.size,[s1.heap.objs.size],_,_,H1,rfl,I1.kept (t':=s1.toks) fun b o e=>az _ e,CO a _,⟨_,bz _ rfl,rfl,rfl⟩,fun b hb=> ?_,q⟩;have e:b=s1.heap.objs.size:=by simpa using hb
 subst e;exact I1.fpOk (bf _) (I1.hok.fresh (bf _))
theorem Hu {lo hi:Int} (I:Inv X pins σ H s) (h1: -(2 ^ 62)<=lo) (h2:lo<2 ^ 62) (h3: -(2 ^ 62)<=hi) (h4:hi<2 ^ 62)
  (q:R (Itr lo (hi-lo).toNat) H):bc (model X.prog X.w) X.A (pyIter (.ref s.heap.objs.size)) (PIE X pins σ tg R) E { s with heap:=s.heap.push { cls:=.type "range",data:=.fields #[.int lo t,.int hi u,.int 1 v] },toks:=tk }:=by
 refine wpAny_pyIter_range (xu ..) (small_one h1 h2 h3 h4) ?_;have I1:Inv X pins σ H { s with heap:=s.heap.push { cls:=.type "range",data:=.fields #[.int lo t,.int hi u,.int 1 v] },toks:=tk }:=I.kept fun b o e=>az _ e;refine⟨(s.heap.push { cls:=.type "range",data:=.fields #[.int lo t,.int hi u,.int 1 v] }).objs.size,[(s.heap.push { cls:=.type "range",data:=.fields #[.int lo t,.int hi u,.int 1 v] }).objs.size],_,_,H,rfl,
  I1.kept (t':=tk) fun b o e=>az _ e,CP _ lo (hi-lo).toNat,?_,fun b hb=> ?_,q⟩
 ·have e1:lo+((0:Nat):Int)*1=lo:=by simp
  have e2:(((hi-lo).toNat:Nat):Int)-((0:Nat):Int)=jk lo hi 1:=by rw[rangeSize_one];split <;> omega
  show sy _ _ (lo+((0:Nat):Int)*1) ((((hi-lo).toNat:Nat):Int)-((0:Nat):Int)) 1;rw[e1,e2];exact bz _ rfl
 ·have e:b=(s.heap.push { cls:=.type "range",data:=.fields #[.int lo t,.int hi u,.int 1 v] }).objs.size:=by simpa using hb
  subst e;exact I1.fpOk (bf _) (I1.hok.fresh (bf _))
def Rm (ta:TA):TI:=fun σ H R=>ta σ H fun vs H1=>∃ j:Int,vs=[.int j]/\ -(2 ^ 62)<=j/\j<2 ^ 62/\R (Itr 0 j.toNat) H1
theorem EM (hg:Gl X "range") (hm:X.mg "range"=xx) (ha:PA X [a] ta) (hs:av [a] X.env=[(false,eval a X.env)]:=by rfl):PI X tg (.Call (.Name "range" p) [a] [] pos) (Rm ta):=by
 intro pins s σ H R I h;refine Call_ (tR I hg hm boot_range (jp (thn (ha pos pins s σ H _ I h) fun us s1 ⟨vs,H1,I1,r1,q1⟩=> ?_) hs rfl));obtain⟨j,e,q1,q2,q⟩:=q1;subst e;cases r1 with
 |cons r rr=>
  cases rr;obtain⟨t,rfl⟩:=r;exact call_range_1 (Hu I1 (by omega) (by omega) q1 q2 (by simpa using q))
def Qy (wi:TI) (g:TG) (tb:TS):TS:=fun D σ H=>wi σ H fun J H1=>∃ W:Nat->Nat->St->Hp->Prop,(∃ m,W 0 m σ H1)/\∀ i m σ H,W i m σ H->
 (J.stop i H/\D.nx σ H)∨(J.go i H/\∃ N:St->Hp->Prop,(∀ σ' H',N σ' H'->∃ m',m'<m/\W (i+1) m' σ' H')/\∀ x H',J.yld i H x H'->g x σ H' fun σ2 H2=>tb { D with nx:=N,ct:=N,bk:=D.nx } σ2 H2)
noncomputable def xV (fp:List af) (h:c9):List (af×Obj):=fp.filterMap fun b=>(h.get? b).map fun o=>(b,o)
theorem kH (hb:b∈fp) (e:h.get? b=xw o):(b,o)∈xV fp h:=hW.mpr ⟨b,hb,by rw[e];rfl⟩
theorem EY (hp:p∈xV fp h):p.1∈fp/\h.get? p.1=xw p.2:=by
 obtain⟨b,hb,e⟩:=hW.mp hp;cases q:h.get? b with
 |none=>rw[q] at e;cases e
 |some o=>
  rw[q] at e;have e':(b,o)=p:=ca e;subst e';exact⟨hb,q⟩
theorem Inv.pinned (I:Inv X pins σ H s) (hf:∀ b∈fp,Kk X pins H b) (ho:∀ b∈fp,∃ o,s.heap.get? b=xw o/\∀ v,o.data≠ .cell v):Inv X (pins++xV fp s.heap) σ H s:=
 I.pins_of fun p hp=>(cu.mp hp).elim (fun z=>I.pin p (d9 _ z)) fun z=>by
  obtain⟨hb,e⟩:=EY z;obtain⟨f0,f1,f2,_⟩:=hf p.1 hb;obtain⟨o,e',d⟩:=ho p.1 hb;rw[e] at e';cases e';exact⟨e,f0,f1,f2,d⟩
theorem Inv.unpinned (I:Inv X (pins++pl) σ H s):Inv X pins σ H s:=I.pins_of fun p hp=>I.pin p (d9 _ (db _ hp))
theorem JH (hp:PassesOwn (model X.prog X.w) X.A X.env X.xe) (hc:X.calm=true) (hi:PI X tg iter wi) (hg:PG X tg g) (hb:PSs X body tb)
  (hs:∀ x,gs iter X.env x=pure x:=by intro _;rfl):PS X (.For tg iter body [] pos) (Qy wi g tb):=by
 intro pins s σ H D I h;refine wpAny_For (thn (hi pins s σ H _ I h) fun v s1 h1=>thn h1 fun itv s2 h2=> ?_) hs;obtain⟨it,fp,tn,J,H2,e,I2,T,st2,f2,W,⟨m0,w0⟩,turn⟩:=h2;subst e
 -- what stays true of the iterator's objects through the loop
 have stat:∀ {H':Hp},(∀ b∈fp,H' b=xx)->∀ b∈fp,Kk X pins H' b:=fun hn b hb=>⟨hn b hb,(f2 b hb).2⟩;refine codeAny_forLoop_any (fun n s'=>∃ i σ' H',Inv X pins σ' H' s'/\tn i s'.heap/\(∀ b∈fp,H' b=xx)/\W i n σ' H') ?_ m0 ⟨0,σ,H2,I2,st2,fun b hb=>(f2 b hb).1,w0⟩;rintro n s3 ⟨i,σ3,H3,I3,st3,fr3,w3⟩;rcases turn i n σ3 H3 w3 with⟨stop,qn⟩|⟨go,N,hN,step⟩
 ·refine mm hp (thn (T.done X rfl rfl rfl hc i pins s3 σ3 H3 X.xe I3 (stat fr3) st3 stop) fun r s4 ⟨hr,I4⟩=> ?_);subst hr;exact ph ⟨σ3,H3,I4,qn⟩
 ·refine mm hp (thn (T.item X rfl rfl rfl hc i pins s3 σ3 H3 X.xe I3 (stat fr3) st3 go) fun r s4 ⟨u,hr,h4⟩=> ?_);subst hr;refine mm hp (thn h4 fun _ s5 ⟨x,H5,I5,r5,y5,st5,fr5⟩=> ?_);have I5':=I5.pinned (stat fr5) (T.obj _ _ st5);refine mm hp (thn (hg _ s5 σ3 H5 x u _ I5' r5 (step x H5 y5)) fun _ s6 ⟨σ6,H6,I6,q6⟩=> ?_);refine mm hp (thn (hb _ s6 σ6 H6 _ I6 q6) fun f s7 q7=> ?_);have again:∀ {σ7:St}{H7:Hp},Inv X (pins++xV fp s5.heap) σ7 H7 s7->N σ7 H7->∃ m,m<n/\∃ i σ' H',Inv X pins σ' H' s7/\tn i s7.heap/\(∀ b∈fp,H' b=xx)/\W i m σ' H':=fun {σ7 H7} I7 n7=>by
   obtain⟨m',hm,w7⟩:=hN σ7 H7 n7;refine⟨m',hm,i+1,σ7,H7,I7.unpinned,T.keep _ _ _ st5 fun b hb o e=>(I7.pin (b,o) (d9 _ (d9 _ (kH hb e)))).1,fun b hb=> ?_,w7⟩;obtain⟨o,e,d⟩:=T.obj _ _ st5 b hb;exact(I7.pin (b,o) (d9 _ (d9 _ (kH hb e)))).2.1
  cases f with
  |next=>obtain⟨σ7,H7,I7,n7⟩:=q7;exact again I7 n7
  |cont=>obtain⟨σ7,H7,I7,n7⟩:=q7;exact again I7 n7
  |brk=>obtain⟨σ7,H7,I7,q7⟩:=q7;exact⟨σ7,H7,I7.unpinned,q7⟩
  |ret v=>obtain⟨x7,σ7,H7,I7,r7,q7⟩:=q7;exact⟨x7,σ7,H7,I7.unpinned,r7,q7⟩
end
end L2
namespace L2
abbrev R2:=V->V->Hp->VK->Prop
def OpR (X:Cx) (f:ag->ag->Sem ag) (r:R2):Prop:=
 ∀(pins:List (af×Obj)) (s:au) (σ:St) (H:Hp) (x y:V) (v u:ag) (Q:VK),Inv X pins σ H s->RelV x v->RelV y u->r x y H Q->
  bc (model X.prog X.w) X.A (f v u) (EP X pins σ Q) X.xe s
def UnR (X:Cx) (f:ag->Sem ag) (r:V->Hp->VK->Prop):Prop:=
 ∀(pins:List (af×Obj)) (s:au) (σ:St) (H:Hp) (x:V) (v:ag) (Q:VK),Inv X pins σ H s->RelV x v->r x H Q->
  bc (model X.prog X.w) X.A (f v) (EP X pins σ Q) X.xe s
def CallR (X:Cx) (f:ag) (r:List V->Hp->VK->Prop):Prop:=
 ∀(pins:List (af×Obj)) (s:au) (σ:St) (H:Hp) (xs:List V) (us:List ag) (Q:VK),Inv X pins σ H s->Vals xs us->r xs H Q->
  bc (model X.prog X.w) X.A (call f us) (EP X pins σ Q) X.xe s
def SR (X:Cx) (r:V->Hp->(Bool->Hp->Prop)->Prop):Prop:=
 ∀(pins:List (af×Obj)) (s:au) (σ:St) (H:Hp) (x:V) (v:ag) (Q:Bool->Hp->Prop),Inv X pins σ H s->RelV x v->r x H Q->
  bc (model X.prog X.w) X.A (truthy v) (TP X pins σ Q) X.xe s
def tOp (r:R2) (ta tb:TE):TE:=fun σ H Q=>ta σ H fun x H1=>tb σ H1 fun y H2=>r x y H2 Q
def tUn (r:V->Hp->VK->Prop) (ta:TE):TE:=fun σ H Q=>ta σ H fun x H1=>r x H1 Q
noncomputable def rI (C:Int->Int->Prop) (g:Int->Int->V):R2:=fun x y H Q=>∃ i j,x=.int i/\y=.int j/\C i j/\Q (g i j) H
noncomputable def rI0 (g:Int->Int->V):R2:=fun x y H Q=>∃ i j,x=.int i/\y=.int j/\Q (g i j) H
def rU (g:Int->V):V->Hp->VK->Prop:=fun x H Q=>∃ i,x=.int i/\Q (g i) H
section
variable {X:Cx}{a b c:bv}{ta tb tc:TE}{pos:Pos}
theorem RB (ha:PE X a ta) (hb:PE X b tb) {R:V->V->Hp->Prop} (I:Inv X pins σ H s)
  (h:ta σ H fun x H1=>tb σ H1 fun y H2=>R x y H2) {f:ag->ag->Sem ag}
  (hf:∀ v u s2 x y H2,Inv X pins σ H2 s2->RelV x v->RelV y u->R x y H2->bc (model X.prog X.w) X.A (f v u) Q X.xe s2):
  bc (model X.prog X.w) X.A (eval a X.env) (fun v s₁=>bc (model X.prog X.w) X.A (eval b X.env) (fun u s₂=>bc (model X.prog X.w) X.A (f v u) Q X.xe s₂) X.xe s₁) X.xe s:=by
 refine thn (ha pins s σ H _ I h) fun v s1 ⟨x,H1,I1,r1,q1⟩=> ?_;refine thn (hb pins s1 σ H1 _ I1 q1) fun u s2 ⟨y,H2,I2,r2,q2⟩=> ?_;exact hf v u s2 x y H2 I2 r1 r2 q2
theorem QP (ho:OpR X (ke op) r) (ha:PE X a ta) (hb:PE X b tb):PE X (.BinOp a op b pos) (tOp r ta tb):=by
 intro pins s σ H Q I h;exact wpAny_BinOp (RB ha hb I h fun v u s2 x y H2 I2 rx ry q=>ho pins s2 σ H2 x y v u Q I2 rx ry q)
theorem QO (ho:UnR X (unaryOp op) r) (ha:PE X a ta):PE X (.UnaryOp op a pos) (tUn r ta):=by
 intro pins s σ H Q I h;exact UnaryOp_ (thn (ha pins s σ H _ I h) fun v s1 ⟨x,H1,I1,r1,q1⟩=>ho pins s1 σ H1 x v Q I1 r1 q1)
theorem opI {g:Int->Int->Int}
  (rule:∀(i j:Int) (t u:Tok) (s:au) (Q:ag->au->Prop) (E:ag->au->Prop),C i j->Q (.int (g i j) s.toks) { s with toks:=s.toks+1 }->bc (model X.prog X.w) X.A (f (.int i t) (.int j u)) Q E s):
  OpR X f (rI C fun i j=>.int (g i j)):=by
 intro pins s σ H x y v u Q I rx ry h;obtain⟨i,j,rfl,rfl,hc,q⟩:=h;obtain⟨t,rfl⟩:=rx;obtain⟨t',rfl⟩:=ry;exact rule i j t t' s _ _ hc ⟨.int (g i j),H,I.tok _,⟨_,rfl⟩,q⟩
theorem RZ {g:Int->Int->Int}
  (rule:∀(i j:Int) (t u:Tok) (s:au) (Q:ag->au->Prop) (E:ag->au->Prop),Q (.int (g i j) s.toks) { s with toks:=s.toks+1 }->bc (model X.prog X.w) X.A (f (.int i t) (.int j u)) Q E s):
  OpR X f (rI0 fun i j=>.int (g i j)):=by
 intro pins s σ H x y v u Q I rx ry h;obtain⟨i,j,rfl,rfl,q⟩:=h;obtain⟨t,rfl⟩:=rx;obtain⟨t',rfl⟩:=ry;exact rule i j t t' s _ _ ⟨.int (g i j),H,I.tok _,⟨_,rfl⟩,q⟩
theorem Qf {g:Int->Int->Bool}
  (rule:∀(i j:Int) (t u:Tok) (s:au) (Q:ag->au->Prop) (E:ag->au->Prop),Q (.bool (g i j)) s->bc (model X.prog X.w) X.A (f (.int i t) (.int j u)) Q E s):
  OpR X f (rI0 fun i j=>.bl (g i j)):=by
 intro pins s σ H x y v u Q I rx ry h;obtain⟨i,j,rfl,rfl,q⟩:=h;obtain⟨t,rfl⟩:=rx;obtain⟨t',rfl⟩:=ry;exact rule i j t t' s _ _ ⟨.bl (g i j),H,I,rfl,q⟩
def CMul (i j:Int):Prop:=(-(2 ^ 64)<i/\i<2 ^ 64)∨(-(2 ^ 64)<j/\j<2 ^ 64)
theorem CMul.ok (h:CMul i j):IntMulOk i j:=by
 rcases h with⟨h1,h2⟩|⟨h1,h2⟩
 ·exact .of_left (intBits_le_64 h1 h2)
 ·exact .of_right (intBits_le_64 h1 h2)
theorem OF:OpR X (ke .Add) (rI0 fun i j=>.int (i+j)):=RZ fun _ _ _ _ _ _ _ q=>add_int q
theorem Ow:OpR X (ke .Sub) (rI0 fun i j=>.int (i-j)):=RZ fun _ _ _ _ _ _ _ q=>sub_int q
theorem Ox:OpR X (ke .Mult) (rI CMul fun i j=>.int (i*j)):=opI fun _ _ _ _ _ _ _ hc q=>mul_int q hc.ok
theorem Oy:OpR X (ke .Mod) (rI (fun _ j=>0<j) fun i j=>.int (i % j)):=opI fun i j _ _ _ _ _ hc q=>by
 have h1:(0:Int)<j:=hc;exact mod_int' (by omega) (by rw[Int.fmod_eq_emod_of_nonneg i (by omega)];exact q)
theorem unI {g:Int->Int}
  (rule:∀(i:Int) (t:Tok) (s:au) (Q:ag->au->Prop) (E:ag->au->Prop),Q (.int (g i) s.toks) { s with toks:=s.toks+1 }->bc (model X.prog X.w) X.A (f (.int i t)) Q E s):
  UnR X f (rU fun i=>.int (g i)):=by
 intro pins s σ H x v Q I rx h;obtain⟨i,rfl,q⟩:=h;obtain⟨t,rfl⟩:=rx;exact rule i t s _ _ ⟨.int (g i),H,I.tok _,⟨_,rfl⟩,q⟩
theorem Nk:UnR X (unaryOp .USub) (rU fun i=>.int (-i)):=unI fun _ _ _ _ _ q=>neg_int q
end
section
variable {X:Cx}{a b c:bv}{ta tb tc:TE}{pos:Pos}
theorem Kd (I:Inv X pins σ H s) (q:Q (.bl k) H) (e:k=k'):EP X pins σ Q (.bool k') s:=by
 subst e;exact⟨.bl k,H,I,rfl,q⟩
theorem Oz:OpR X (fu .Lt) (rI0 fun i j=>.bl (decide (i<j))):=Qf fun _ _ _ _ _ _ _ q=>wt q
theorem Lm:OpR X (fu .LtE) (rI0 fun i j=>.bl (decide (i<=j))):=Qf fun _ _ _ _ _ _ _ q=>le_int q
theorem OC:OpR X (fu .Gt) (rI0 fun i j=>.bl (decide (j<i))):=Qf fun _ _ _ _ _ _ _ q=>gt_int q
theorem Ra:OpR X (fu .GtE) (rI0 fun i j=>.bl (decide (j<=i))):=Qf fun _ _ _ _ _ _ _ q=>ge_int q
theorem JT:OpR X (fu .Is) (fun x y H Q=>y=.non/\Q (.bl (decide (x=.non))) H):=by
 intro pins s σ H x y v u Q I rx ry h;obtain⟨rfl,q⟩:=h;cases ry;refine is_none_gen (Kd I q ?_);cases x <;> first
  |(cases rx;rfl)
  |(obtain⟨t,rfl⟩:=rx;rfl)
theorem Lk:OpR X (fu .IsNot) (fun x y H Q=>y=.non/\Q (.bl (!decide (x=.non))) H):=by
 intro pins s σ H x y v u Q I rx ry h;obtain⟨rfl,q⟩:=h;cases ry;refine isnot_none_gen (Kd I q ?_);cases x <;> first
  |(cases rx;rfl)
  |(obtain⟨t,rfl⟩:=rx;rfl)
theorem gU (b:bv) (h:op≠ .In:=by decide) (h2:op≠ .NotIn:=by decide):i7 op b=false:=by
 have e1:(op==CmpOp.In)=false:=by cases op <;> first|rfl|exact absurd rfl h
 have e2:(op==CmpOp.NotIn)=false:=by cases op <;> first|rfl|exact absurd rfl h2
 cases b <;> simp[i7,e1,e2]
theorem KU (ho:OpR X (fu op) r) (ha:PE X a ta) (hb:PE X b tb) (hm:i7 op b=false):PE X (.Compare a [op] [b] pos) (tOp r ta tb):=by
 intro pins s σ H Q I h;exact wpAny_Compare1 (RB ha hb I h fun v u s2 x y H2 I2 rx ry q=>ho pins s2 σ H2 x y v u Q I2 rx ry q) hm
def No (t:TE):TT:=fun σ H Q=>t σ H fun x H'=>∃ k,x=.bl k/\Q k H'
theorem KA (ho:OpR X (fu op) r) (ha:PE X a ta) (hb:PE X b tb) (hm:i7 op b=false):PT X (.Compare a [op] [b] pos) (No (tOp r ta tb)):=by
 intro pins s σ H Q I h;refine t8 (thn (ha pins s σ H _ I h) fun v s1 ⟨x,H1,I1,r1,q1⟩=>thn (hb pins s1 σ H1 _ I1 q1) fun u s2 ⟨y,H2,I2,r2,q2⟩=>
  thn (ho pins s2 σ H2 x y v u _ I2 r1 r2 q2) fun c s3 ⟨z,H3,I3,r3,k,e,q3⟩=> ?_) hm
 subst e;cases r3;exact dw ⟨H3,I3,q3⟩
def Nt (r r':R2) (ta tb tc:TE):TE:=fun σ H Q=>ta σ H fun x H1=>tb σ H1 fun y H2=>r x y H2 fun z H3=>∃ k,z=.bl k/\
 (if k=true then tc σ H3 fun w' H4=>r' y w' H4 Q else Q (.bl false) H3)
theorem HA (ho:OpR X (fu op) r) (ho':OpR X (fu op') r') (ha:PE X a ta) (hb:PE X b tb) (hc:PE X c tc)
  (hm:lastMarks [op,op'] [b,c]=false:=by with_unfolding_all rfl):PT X (.Compare a [op,op'] [b,c] pos) (No (Nt r r' ta tb tc)):=by
 intro pins s σ H Q I h;refine isTrue_chain (thn (ha pins s σ H _ I h) fun v s1 ⟨x,H1,I1,r1,q1⟩=>test_link (thn (hb pins s1 σ H1 _ I1 q1) fun u s2 ⟨y,H2,I2,r2,q2⟩=>
  thn (ho pins s2 σ H2 x y v u _ I2 r1 r2 q2) fun d s3 ⟨z,H3,I3,r3,k,e,q3⟩=> ?_)) hm
 subst e;cases r3;refine dw ?_;cases k with
 |false=>
  obtain⟨k',e',q'⟩:=q3;cases e';exact ite_ff ⟨H3,I3,q'⟩
 |true=>
  refine ite_tt (test_last (thn (hc pins s3 σ H3 _ I3 q3) fun w' s4 ⟨z',H4,I4,r4,q4⟩=>thn (ho' pins s4 σ H4 y z' u w' _ I4 r2 r4 q4) fun d' s5 ⟨z2,H5,I5,r5,k2,e2,q5⟩=> ?_));subst e2;cases r5;exact dw ⟨H5,I5,q5⟩
def RD (K:aa) (x:V) (H:Hp) (k:Bool):Prop:=
 match x with
 |.non=>k=false
 |.bl b=>k=b
 |.int i=>k=(i !=0)
 |.str y=>y.length<=sizeLine/\k=((y.length:Int) !=0)
 |.byt y=>y.size<=sizeLine/\k=((y.size:Int) !=0)
 |.ref p=>(∃ xs,SqL K H p xs/\k= !xs.isEmpty)∨(∃ xs,SqT K H p xs/\k= !xs.isEmpty)∨∃ kvs,H p=xw (.dK kvs)/\k= !kvs.isEmpty
 |_=>False
theorem Dp {vs:List (κ×ag)} (r:KV kvs vs):(!vs.isEmpty)= !kvs.isEmpty:=by
 cases r <;> rfl
theorem tT (r:Vals xs its):(!its.toArray.isEmpty)= !xs.isEmpty:=by
 cases r <;> simp
theorem tP:(sizeLine:Nat)<2 ^ 63:=by rw[bt];decide
theorem tru_ok:SR X (fun x H Q=>∃ k,RD X.K x H k/\Q k H):=by
 intro pins s σ H x v Q I rx h;obtain⟨k,e,q⟩:=h;have hl:=tP;have hs:sizeLine=16777216:=bt;cases x with
 |non=>
  cases rx;have e':k=false:=e;subst e';exact truthy_none ⟨H,I,q⟩
 |bl b=>
  cases rx;have e':k=b:=e;subst e';exact dw ⟨H,I,q⟩
 |int i=>
  obtain⟨t,rfl⟩:=rx;have e':k=(i !=0):=e;subst e';exact PySem.P.truthy_int ⟨H,I,q⟩
 |str y=>
  obtain⟨t,rfl⟩:=rx;obtain⟨hy,e'⟩:y.length<=sizeLine/\k=((y.length:Int) !=0):=e;subst e';exact PySem.P.truthy_str (by omega) ⟨H,I.tok _,q⟩
 |byt y=>
  obtain⟨t,rfl⟩:=rx;obtain⟨hy,e'⟩:y.size<=sizeLine/\k=((y.size:Int) !=0):=e;subst e';exact PySem.W.truthy_bytes (by omega) ⟨H,I.tok _,q⟩
 |ref p=>
  cases rx;have e':(∃ xs,SqL X.K H p xs/\k= !xs.isEmpty)∨(∃ xs,SqT X.K H p xs/\k= !xs.isEmpty)∨∃ kvs,H p=xw (.dK kvs)/\k= !kvs.isEmpty:=e;rcases e' with⟨xs,hx,e'⟩|⟨xs,hx,e'⟩|⟨kvs,hx,e'⟩
  ·subst e';obtain⟨its,r,pl,hz⟩:=I.list hx;have hlen:=r.length;exact wpAny_truthy_list pl.isList (by simp only[bi];omega) ⟨H,I.tok _,by rw[tT r];exact q⟩
  ·subst e';obtain⟨its,r,pl,hz⟩:=I.tuple hx;have hlen:=r.length;exact truthy_tuple pl (by simp only[bi];omega) ⟨H,I.tok _,by rw[tT r];exact q⟩
  ·subst e';obtain⟨hz,hS,vs,r,m⟩:kvs.length<=sizeLine/\(p==fy)=false/\∃ vs,KV kvs vs/\s.heap.DictOf (aO X.prog X.w) p vs:=I.hok p _ hx;have hlen:kvs.length=vs.length:=jh r;exact wpAny_truthy_dict hS m (by omega) ⟨H,I.tok _,by rw[Dp r];exact q⟩
 |_=>exact(show False from e).elim
theorem Hz (ha:PE X a ta) (he:∀ whole,isTrue a X.env whole=(do let v <- whole;n9 a.pos;holding [v] (truthy v))):
  PT X a (fun σ H Q=>ta σ H fun x H'=>∃ k,RD X.K x H' k/\Q k H'):=by
 intro pins s σ H Q I h;exact isTrue_plain (thn (ha pins s σ H _ I h) fun v s1 ⟨x,H1,I1,r1,q1⟩=>tru_ok pins s1 σ H1 x v Q I1 r1 q1) (he _)
theorem Dc:OpR X (ke .Add) (fun x y H Q=>∃ i j,x=.str i/\y=.str j/\i.length+j.length<=sizeLine/\Q (.str (i++j)) H):=by
 intro pins s σ H x y v u Q I rx ry h;obtain⟨i,j,rfl,rfl,hz,q⟩:=h;obtain⟨t,rfl⟩:=rx;obtain⟨t',rfl⟩:=ry;exact add_str (fun t' tk=>⟨.str (i++j),H,I.tok _,⟨_,rfl⟩,q⟩) hz
theorem mS (r:Vals [x] us):∃ u,us=[u]/\RelV x u:=by
 cases r with
 |cons r1 r2=>cases r2;exact⟨_,rfl,r1⟩
theorem Ef (r:Vals [x,y] us):∃ u w',us=[u,w']/\RelV x u/\RelV y w':=by
 cases r with
 |cons r1 r2=>
  cases r2 with
  |cons r3 r4=>cases r4;exact⟨_,_,rfl,r1,r3⟩
theorem GJ (hc:X.calm=true):CallR X (.builtin "max") (fun xs H Q=>∃ i j,xs=[.int i,.int j]/\Q (.int (if j>i then j else i)) H):=by
 intro pins s σ H xs us Q I r h;obtain⟨i,j,rfl,q⟩:=h;obtain⟨u,w',rfl,⟨t,rfl⟩,⟨t',rfl⟩⟩:=Ef r;refine max_two_ints (I.ok.hd hc) fun h' tk k=>⟨_,H,I.kept k,?_,q⟩
 by_cases hj:j>i
 ·rw[if_pos hj,if_pos hj];exact⟨_,rfl⟩
 ·rw[if_neg hj,if_neg hj];exact⟨_,rfl⟩
theorem GI (hc:X.calm=true):CallR X (.builtin "min") (fun xs H Q=>∃ i j,xs=[.int i,.int j]/\Q (.int (if j<i then j else i)) H):=by
 intro pins s σ H xs us Q I r h;obtain⟨i,j,rfl,q⟩:=h;obtain⟨u,w',rfl,⟨t,rfl⟩,⟨t',rfl⟩⟩:=Ef r;refine min_two_ints (I.ok.hd hc) fun h' tk k=>⟨_,H,I.kept k,?_,q⟩
 by_cases hj:j<i
 ·rw[if_pos hj,if_pos hj];exact⟨_,rfl⟩
 ·rw[if_neg hj,if_neg hj];exact⟨_,rfl⟩
theorem call_int1:CallR X (.type "int") (fun xs H Q=>(∃ i,xs=[.int i]/\Q (.int i) H)∨∃ k,xs=[.bl k]/\Q (.int (if k then 1 else 0)) H):=by
 intro pins s σ H xs us Q I r h;rcases h with⟨i,rfl,q⟩|⟨k,rfl,q⟩
 ·obtain⟨u,rfl,t,rfl⟩:=mS r;exact call_int_int ⟨.int i,H,I,⟨_,rfl⟩,q⟩
 ·obtain⟨u,rfl,r1⟩:=mS r;cases r1;exact call_int_bool ⟨.int (if k then 1 else 0),H,I.tok _,⟨_,rfl⟩,q⟩
def RJ (K:aa) (x:V) (H:Hp) (n:Nat):Prop:=
 match x with
 |.str y=>y.length<=sizeLine/\n=y.length
 |.byt y=>y.size<=sizeLine/\n=y.size
 |.ref p=>(∃ xs,SqL K H p xs/\n=xs.length)∨∃ xs,SqT K H p xs/\n=xs.length
 |_=>False
theorem Jt:CallR X (.builtin "len") (fun xs H Q=>∃ x n,xs=[x]/\RJ X.K x H n/\Q (.int n) H):=by
 intro pins s σ H xs us Q I r h;obtain⟨x,n,rfl,e,q⟩:=h;obtain⟨u,rfl,rx⟩:=mS r;have hl:=tP;have hs:sizeLine=16777216:=bt;cases x with
 |str y=>
  obtain⟨t,rfl⟩:=rx;obtain⟨hy,e'⟩:y.length<=sizeLine/\n=y.length:=e;subst e';exact len_str (by omega) ⟨.int _,H,I.tok _,⟨_,rfl⟩,q⟩
 |byt y=>
  obtain⟨t,rfl⟩:=rx;obtain⟨hy,e'⟩:y.size<=sizeLine/\n=y.size:=e;subst e';exact PySem.W.len_bytes (by omega) ⟨.int _,H,I.tok _,⟨_,rfl⟩,q⟩
 |ref p=>
  cases rx;have e':(∃ xs,SqL X.K H p xs/\n=xs.length)∨∃ xs,SqT X.K H p xs/\n=xs.length:=e;rcases e' with⟨xs,hx,e'⟩|⟨xs,hx,e'⟩
  ·subst e';obtain⟨its,r',pl,hz⟩:=I.list hx;have hlen:=r'.length;exact Calls.call_len_list pl.isList (by simp only[bi];omega) ⟨.int xs.length,H,I.tok _,⟨_,by simp only[bi];rw[hlen]⟩,q⟩
  ·subst e';obtain⟨its,r',pl,hz⟩:=I.tuple hx;have hlen:=r'.length;exact len_tuple pl (by simp only[bi];omega) ⟨.int xs.length,H,I.tok _,⟨_,by simp only[bi];rw[hlen]⟩,q⟩
 |_=>exact(show False from e).elim
end
end L2
namespace L2
structure ObjM (h:c9) (x dx C:af) (mA:Str->Option ag):Prop where
 obj:h.get? x=xw (je C dx)
 ns:h.Ns1 dx mA
 ne:dx≠x
theorem Fq {h:c9} (n:h.Ns1 dx mA):∃ od,h.get? dx=xw od/\∀ name,pz name od=xw (mA name):=by
 obtain⟨o,es,ep,ho,hd,hk,_,hm⟩:=n;refine⟨o,ho,fun name=> ?_⟩;have e:=hm name;unfold nsFind findBy at e;rw[<- Array.find?_toList] at e;unfold pz;rw[hd];dsimp only;split
 ·rename_i y q
  rw[q] at e;exact congrArg xw e
 ·rename_i q
  rw[q] at e;have a:es.toList.any (·.refKey)=false:=by
   rw[List.any_eq_false];intro y hy;obtain⟨z,t,hkey⟩:=hk y (Array.mem_toList_iff.mp hy);simp[DictEntry.refKey,hkey]
  have a':¬ es.toList.any (·.refKey)=true:=by rw[a];exact cj
  rw[if_neg a'];exact congrArg xw e
theorem ObjM.look (I:ObjM h x dx C mA):∃ od,PySem.W.InstAt h x (je C dx) C (xw od)/\∀ name,pz name od=xw (mA name):=
 let ⟨od,ho,hl⟩:=Fq I.ns
 ⟨od,⟨I.obj,rfl,rfl,ho⟩,hl⟩
section
variable {prog:di}{w:du}{A:d7}{E:ag->au->Prop}{s:au}{K:aa}{x dx C f:af}{mA:Str->Option ag}{name:Str}{v:ag}
theorem Ms (X:K.In s.heap) (I:ObjM s.heap x dx C mA) (hg:oy K C name=true) (hh:qm K C=true)
  (ha:ie K (.ref C) name=xw xx) (hv:mA name=xw v) (hv':wg v=true) (h:Q v { s with toks:=s.toks+1 }):
  bc (model prog w) A (getAttr (.ref x) name expr) Q E s:=by
 obtain⟨od,J,hl⟩:=I.look;exact PySem.W.get_value X J (px hg).1 (PySem.W.findObj_own hh ha rfl (by rw[hl,hv])) hv' h
theorem ID (X:K.In s.heap) (I:ObjM s.heap x dx C mA) (hg:oy K C name=true)
  (hf:ie K (.ref C) name=xw (xw (.ref f))) (ht:pj K (.ref f)=true) (hv:mA name=xx) (h:Q (.ref f,[.ref x]) s):
  bc (model prog w) A (mz (.ref x) name pl) Q E s:=by
 obtain⟨od,J,hl⟩:=I.look;exact PySem.W.method_fn X J (px hg).1 (px hg).2 hf (beq_iff_eq.mp ht) (by show(pz name od).map (·.isSome)=xw false;rw[hl,hv];rfl) h
theorem Ks (X:K.In s.heap) (I:ObjM s.heap x dx C mA)
  (hs:ie K (.ref C) "__setattr__"=xw (xw (.builtin "object.__setattr__"))) (hp:vx K C=true) (ht:sg K C name=xw xx) (hh:qm K C=true)
  (hw:vb mA ns) (hsz:ns.length<=sizeLine)
  (h:∀ h',ObjM h' x dx C (fun y=>if y=name then xw v else mA y)->f8 dx s.heap h'->Q () { s with heap:=h',toks:=s.toks+2 }):
  bc (model prog w) A (setAttr (.ref x) name v) Q E s:=by
 obtain⟨od,J,hl⟩:=I.look;refine PySem.W.set_plain X J hs (PySem.W.osa_open (s:={ s with toks:=s.toks+1 }) (r:=xx) X J hp ht fun b=> ?_);obtain⟨cd,hc,hd'⟩:=PySem.W.any_some hh;have hx:s.heap.get? x=xw ⟨.ref C,xw dx,.plain,#[]⟩:=I.obj;refine ae (ar (ae (ae (wpAny_loadPart hx (ae (PySem.W.Looks.here (s:={ s with toks:=s.toks+1 }) (PySem.W.looks_clsIn X hc) ?_))))));rw[hd'];refine ar (a:=xw dx) (ae (ar (ae ?_)));refine wpAny_nsSet1 (s:={ s with toks:=s.toks+1 }) I.ns fun h' hn2 hs2=> ?_;obtain⟨oD,esD,epD,hoD,hdD,hcD⟩:=hn2.count (PySem.Within.cons name v hw);refine ae (wpAny_lookBehind hoD (by rw[hdD];exact pastItsLine_dict (ci hcD (by rw[b7];omega))) ?_);exact ar (h _ ⟨(hs2.2 _ (bx I.ne)).trans I.obj,hn2,I.ne⟩ hs2)
theorem Ik (X:K.In s.heap) (hm:sh K C=true)
  (hi:ie K (.ref C) "__init__"=xw (xw (.ref f))) (hf:PySem.W.typeIn K (.ref f)=xw (.type "function"))
  (h:pd (model prog w) (A.under (.builtin "type.__call__" ⟨.ref C::vs,kw⟩)) (.call (.ref f) ⟨.ref (s.heap.objs.size+1)::vs,kw⟩) (PySem.W.InitBack (s.heap.objs.size+1) R)
   { s with heap:=(s.heap.push ig).push (je C s.heap.objs.size) }):
  pd (model prog w) A (.call (.ref C) ⟨vs,kw⟩) R s:=by
 obtain⟨hh,g,d,t,os⟩:=s;exact PySem.W.make_core (PySem.W.makes_of X hm) (PySem.W.looks_findIn X hi) (fun self=>PySem.W.bind_fn X self hf) (.inl rfl) h
end
noncomputable def putF (f:Str) (v:V):List (Str×V)->List (Str×V)
 |[]=>[(f,v)]
 |(g,x)::r=>if g=f then(g,v)::r else(g,x)::putF f v r
theorem pT (f g:Str) (v:V):∀ fs:List (Str×V),(putF f v fs).lookup g=if g=f then xw v else fs.lookup g
 |[]=>by
  show j8 g [(f,v)]=_
  by_cases h:g=f
  ·have hb:(g==f)=true:=beq_iff_eq.mpr h;simp only[j8,hb,if_pos h]
  ·have hb:(g==f)=false:=beq_eq_false_iff_ne.mpr h;simp only[j8,hb,if_neg h]
 |(k,x)::r=>by
  have ih:=pT f g v r;rw[show putF f v ((k,x)::r)=(if k=f then(k,v)::r else(k,x)::putF f v r) from rfl]
  by_cases hk:k=f
  ·rw[if_pos hk]
   by_cases h:g=k
   ·have hb:(g==k)=true:=beq_iff_eq.mpr h;simp only[j8,hb,if_pos (h.trans hk)]
   ·have hb:(g==k)=false:=beq_eq_false_iff_ne.mpr h;simp only[j8,hb,if_neg (fun e:g=f=>h (e.trans hk.symm))]
  ·rw[if_neg hk]
   by_cases h:g=k
   ·have hb:(g==k)=true:=beq_iff_eq.mpr h;simp only[j8,hb,if_neg (fun e:g=f=>hk (h.symm.trans e))]
   ·have hb:(g==k)=false:=beq_eq_false_iff_ne.mpr h;simp only[j8,hb];exact ih
theorem pV (f:Str) (v:V):∀ fs:List (Str×V),f∈(putF f v fs).map (·.1)/\∀ g,g∈fs.map (·.1)->g∈(putF f v fs).map (·.1)
 |[]=>⟨by simp[putF],fun g h=>by simp at h⟩
 |(k,x)::r=>by
  obtain⟨i1,i2⟩:=pV f v r;rw[show putF f v ((k,x)::r)=(if k=f then(k,v)::r else(k,x)::putF f v r) from rfl]
  by_cases hk:k=f
  ·rw[if_pos hk];subst hk;exact⟨by simp,fun g h=>by simpa using h⟩
  ·rw[if_neg hk];refine⟨?_,fun g h=> ?_⟩
   ·rw[bg];exact ai _ i1
   ·rw[bg] at h ⊢;rcases ak.mp h with e|e
    ·exact ak.mpr (.inl e)
    ·exact ai _ (i2 g e)
theorem pU (f:Str) (v:V):∀ fs:List (Str×V),(putF f v fs).length<=fs.length+1
 |[]=>by simp[putF]
 |(k,x)::r=>by
  have ih:=pU f v r;rw[show putF f v ((k,x)::r)=(if k=f then(k,v)::r else(k,x)::putF f v r) from rfl]
  by_cases hk:k=f
  ·rw[if_pos hk,b7,b7];omega
  ·rw[if_neg hk,b7,b7];omega
theorem RelO.some_of (r:RelO (xw v) o):∃ u,o=xw u/\RelV v u:=by
 cases o with
 |none=>exact(show False from r).elim
 |some u=>exact⟨u,rfl,r⟩
theorem RelO.none_of (r:RelO xx o):o=xx:=by
 cases o with
 |none=>rfl
 |some u=>exact(show False from r).elim
theorem FH (r:RelV v u):wg u=true:=by
 cases v with
 |non=>cases (show u=iu from r);rfl
 |bl b=>cases (show u=uj b from r);rfl
 |int i=>obtain⟨t,e⟩:=(show ∃ t,u=u8 i t from r);cases e;rfl
 |str x=>obtain⟨t,e⟩:=(show ∃ t,u=va x t from r);cases e;rfl
 |byt b=>obtain⟨t,e⟩:=(show ∃ t,u=Value.bytes b t from r);cases e;rfl
 |flt b=>obtain⟨t,e⟩:=(show ∃ t,u=Value.float b t from r);cases e;rfl
 |ref a=>cases (show u=cq a from r);rfl
 |ty n=>cases (show u=j4 n from r);rfl
section
variable {P:di}{w:du}{H H':Hp}{h h':c9}{a C dx:af}{fs fs':List (Str×V)}
theorem Av (hok:HOk P w H h) (e:H a=xw (.ins C dx fs)):∃ mA,ObjM h a dx C mA/\(∀ f,RelO (fs.lookup f) (mA f))/\vb mA (fs.map (·.1))/\fs.length<=1000/\H dx=xw (.own a):=by
 obtain⟨d,z,ne,ob,mA,n,r,q⟩:=(show ObjOk P w H h a (.ins C dx fs) from hok a _ e);exact⟨mA,⟨ob,n,ne⟩,r,q,z,d⟩
end
structure Cls (K:aa) (C:af):Prop where
 pg:oy K C Str.empty=true
 hd:qm K C=true
 po:vx K C=true
 sa:ie K (.ref C) "__setattr__"=xw (xw (.builtin "object.__setattr__"))
theorem Cls.get {K:aa} (c:Cls K C) (f:Str):oy K C f=true:=c.pg
def NoAttr (K:aa) (C:af) (f:Str):Prop:=ie K (.ref C) f=xw xx
theorem NoAttr.taker {K:aa} (n:NoAttr K C f):sg K C f=xw xx:=by
 unfold sg;rw[show ie K (.ref C) f=xw xx from n];rfl
structure JD (K:aa) (C:af) (m:Str) (f:af):Prop where
 at_:ie K (.ref C) m=xw (xw (.ref f))
 fn:pj K (.ref f)=true
 kp:gy K (.ref f)=true
section
variable {X:Cx}{pins:List (af×Obj)}{σ:St}{H:Hp}{s:au}{a C dx:af}{fs:List (Str×V)}{f:Str}{v:V}{A:d7}{E:ag->au->Prop}
theorem Dx (I:Inv X pins σ H s) (e:H a=xw (.ins C dx fs)) (c:Cls X.K C) (n:NoAttr X.K C f) (l:fs.lookup f=xw v)
  (h:∀ u s',Inv X pins σ H s'->RelV v u->Q u s'):bc (model X.prog X.w) A (getAttr (.ref a) f b) Q E s:=by
 obtain⟨mA,O,r,_,_,_⟩:=Av I.hok e;obtain⟨u,hu,ru⟩:=RelO.some_of (v:=v) (o:=mA f) (by rw[<- l];exact r f);exact Ms I.kIn O (c.get f) c.hd n hu (FH ru) (h u _ (I.tok _) ru)
theorem tX (I:Inv X pins σ H s) (e:H a=xw (.ins C dx fs)) (c:Cls X.K C) (k:JD X.K C m g) (l:fs.lookup m=xx)
  (h:Q (.ref g,[.ref a]) s):bc (model X.prog X.w) A (mz (.ref a) m pl) Q E s:=by
 obtain⟨mA,O,r,_,_,_⟩:=Av I.hok e;have hn:mA m=xx:=RelO.none_of (by rw[<- l];exact r m);exact ID I.kIn O (c.get m) k.at_ k.fn hn h
theorem CV (I:Inv X pins σ H s) (e:H a=xw (.ins C dx fs)) (c:Cls X.K C) (n:NoAttr X.K C f) (hl:fs.length<1000) (ry:RelV y u)
  (h:∀ s',Inv X pins σ (upd H a (.ins C dx (putF f y fs))) s'->Q () s'):bc (model X.prog X.w) A (setAttr (.ref a) f u) Q E s:=by
 obtain⟨mA,O,r,wi,_,ho⟩:=Av I.hok e;have hz:(fs.map (·.1)).length<=sizeLine:=by rw[ao,bt];omega
 refine Ks I.kIn O c.sa c.po n.taker c.hd wi hz fun h' O' sb=>h _ ?_;have hd:∃ o,h'.get? dx=xw o:=let ⟨o,_,_,e',_⟩:=O'.ns;⟨o,e'⟩;refine I.write (x:=a) (e:=dx) (by rw[e];exact ga) (.inr ho) (fun b q hb z=>(sb.2 b hb).trans z) hd ?_;refine⟨by rw[aH O.ne];exact ho,?_,O.ne,O'.obj,_,O'.ns,fun g=> ?_,fun g hg=> ?_⟩
 ·have:=pU f y fs;omega
 ·show RelO ((putF f y fs).lookup g) (if g=f then xw u else mA g);rw[pT]
  by_cases q:g=f
  ·rw[if_pos q,if_pos q];exact ry
  ·rw[if_neg q,if_neg q];exact r g
 ·by_cases q:g=f
  ·rw[q];exact(pV f y fs).1
  ·refine(pV f y fs).2 g (wi g fun z=>hg ?_)
   show(if g=f then xw u else mA g)=xx
   rw[if_neg q];exact z
theorem Inv.made (I:Inv X pins σ H s):Inv X pins σ (upd (upd H s.heap.objs.size (.own (s.heap.objs.size+1))) (s.heap.objs.size+1) (.ins C s.heap.objs.size []))
  { s with heap:=(s.heap.push ig).push (je C s.heap.objs.size) }:=by
 have e1:(s.heap.push ig).get? s.heap.objs.size=xw ig:=bz s.heap rfl;have e2:((s.heap.push ig).push (je C s.heap.objs.size)).get? (s.heap.objs.size+1)=xw (je C s.heap.objs.size):=by
  have:=bz (s.heap.push ig) (o:=je C s.heap.objs.size) rfl
  rwa [iw] at this
 have e3:(s.heap.push ig).Ns s.heap.objs.size (fun _=>xx):=⟨ig,#[],_,e1,rfl,(fun e he=>absurd he (by simp)),fun _=>rfl⟩;have I1:=I.laid (a:=s.heap.objs.size) (o:=.own (s.heap.objs.size+1)) (h':=s.heap.push ig) (t':=s.toks) (fun b u q=>az _ q) (bf _) ⟨_,e1⟩;refine I1.laid (a:=s.heap.objs.size+1) (o:=.ins C s.heap.objs.size []) (t':=s.toks) (fun b u q=>az _ q) (vc (iw _ _)) ?_;have ne:s.heap.objs.size≠s.heap.objs.size+1:=ck (oz _);refine⟨by rw[aH ne,aP],iz _,ne,e2,fun _=>xx,(Heap.Ns1.of_empty e3).at fun o q=>az _ q,fun _=>ga,fun y hy=>absurd rfl hy⟩
theorem MU (hb:iq e f env (eval e env)=eval e env)
  (h:bc (model prog w) A (eval e env) (fun o s₁=>bc (model prog w) A (getAttr o f true) Q E s₁) E s):bc (model prog w) A (eval (.Attribute e f pos) env) Q E s:=
 Attribute_any_ h (by rw[arm_eval_Attribute,hb])
end
def Sn (K:aa) (ta:TE) (f:Str):TE:=fun σ H Q=>ta σ H fun x H1=>∃ a C dx fs v,x=.ref a/\H1 a=xw (.ins C dx fs)/\Cls K C/\NoAttr K C f/\fs.lookup f=xw v/\Q v H1
def Ss (K:aa) (ta tv:TE) (f:Str):TS:=fun D σ H=>tv σ H fun y H1=>ta σ H1 fun x H2=>∃ a C dx fs,x=.ref a/\H2 a=xw (.ins C dx fs)/\Cls K C/\NoAttr K C f/\fs.length<1000/\
 D.nx σ (upd H2 a (.ins C dx (putF f y fs)))
section
variable {X:Cx}{o e value:bv}{f:Str}{pos pos' tpos:Pos}{ta tv:TE}
theorem NW (he:PE X e ta) (hb:iq e f X.env (eval e X.env)=eval e X.env):PE X (.Attribute e f pos) (Sn X.K ta f):=by
 intro pins s σ H Q I h;refine MU hb (thn (he pins s σ H _ I h) fun u s1 ⟨x,H1,I1,rx,a,C,dx,fs,v,ex,ea,c,n,l,q⟩=> ?_);subst ex;obtain rfl:u=cq a:=rx;exact Dx I1 ea c n l fun u' s2 I2 ru=>⟨v,H1,I2,ru,q⟩
theorem NM (ha:PE X o ta) (hv:PE X value tv) (hs:jo value (xw (.Attribute o f pos')) pos.line X.env=pure false):PS X (.Assign [.Attribute o f pos'] value pos) (Ss X.K ta tv f):=by
 intro pins s σ H D I h;refine plainObj_wpAny_Assign_Attribute (thn (hv pins s σ H _ I h) fun u s1 ⟨y,H1,I1,ry,q⟩=>thn (ha pins s1 σ H1 _ I1 q) fun ov s2 ⟨x,H2,I2,rx,a,C,dx,fs,ex,ea,c,n,l,q2⟩=> ?_) hs;subst ex;obtain rfl:ov=cq a:=rx;exact CV I2 ea c n l ry fun s3 I3=>⟨σ,_,I3,q2⟩
end
section
variable {X:Cx}{pins:List (af×Obj)}{σ:St}{H:Hp}{s:au}{A:d7}{E:ag->au->Prop}{Q:ag->au->Prop}{c:ag}{b:Bool}
end
end L2
namespace L2
structure Room (k:Nat) (A:d7):Prop where
 hd:A.handled=xx
 dp:A.depth+3*k+5<recursionLimit
 un:A.units+16*k+200<eu
theorem Room.mono (r:Room k A) (h:j<=k):Room j A:=⟨r.hd,by have:=r.dp;omega,by have:=r.un;omega⟩
theorem Room.deeper (r:Room (k+1) A) (env:Env):Room k (A.deeper env):=
 ⟨r.hd,by have:=r.dp;show A.depth+1+3*k+5<_;omega,by have:=r.un;show A.units+3+16*k+200<_;omega⟩
theorem Dj {A:d7}:(A.under (.builtin "type.__call__" ⟨.ref C::us,kw⟩)).depth=A.depth+1:=by
 first|rfl|simp[vd,Code.weight,Code.isCreation,Code.isGuard,Code.isCaller,Code.frames,ve,guardIds]
theorem Di {A:d7}:(A.under (.builtin "type.__call__" ⟨.ref C::us,kw⟩)).units=A.units+1:=by
 first|rfl|simp[vd,Code.cUnits,Code.frames,ve]
theorem Room.make (r:Room (k+1) A) (C:af) (us:List ag) (kw:List (Str×ag)):Room k (A.under (.builtin "type.__call__" ⟨.ref C::us,kw⟩)):=
 ⟨r.hd,by have:=r.dp;rw[Dj];omega,by have:=r.un;rw[Di];omega⟩
theorem Room.depth (r:Room k A):A.depth<recursionLimit:=by have:=r.dp;omega
theorem Room.units (r:Room k A):A.units+64<eu:=by have:=r.un;omega
def RO:TA:=fun _ H Q=>Q [] H
def QC (ta:TE) (tr:TA):TA:=fun σ H Q=>ta σ H fun x H1=>tr σ H1 fun xs H2=>Q (x::xs) H2
section
variable {X:Cx}{e:bv}{es:List bv}{te:TE}{t:TA}{pos:Pos}
theorem tG:PA X [] RO:=fun _ _ _ _ H Q I h=>Calls.spliced_nil ⟨[],H,I,.nil,h⟩
theorem iA (ha:PE X e te) (hr:PA X es t) (hs:av (e::es) X.env=(false,eval e X.env)::av es X.env:=by rfl):PA X (e::es) (QC te t):=by
 intro pos pins s σ H Q I h;rw[hs];show bc _ _ (spliced ((false,eval e X.env)::dq pos (av es X.env))) _ _ s;refine Calls.spliced_cons (thn (ha pins s σ H _ I h) fun u s1 ⟨x,H1,I1,r1,q1⟩=> ?_);exact thn (hr pos pins s1 σ H1 _ I1 q1) fun us s2 ⟨xs,H2,I2,r2,q2⟩=>⟨x::xs,H2,I2,.cons r1 r2,q2⟩
def Sh (t:TA):TE:=fun σ H Q=>t σ H fun xs H1=>xs.length<=sizeLine/\∀ p,H1 p=xx->Q (.ref p) (upd H1 p (.tup xs))
def Sl (t:TA):TE:=fun σ H Q=>t σ H fun xs H1=>xs.length<=sizeLine/\∀ p,H1 p=xx->Q (.ref p) (upd H1 p (.lst xs))
theorem JK (h:PA X es t):PE X (.Tuple es x1 pos) (Sh t):=by
 intro pins s σ H Q I hq;refine wpAny_Tuple_spliced (thn (h pos pins s σ H _ I hq) fun us s1 ⟨xs,H1,I1,r,z,q⟩=>⟨by rw[<- r.length];exact z,?_⟩);have hf:H1 s1.heap.objs.size=xx:=I1.hok.fresh (bf _);refine⟨.ref s1.heap.objs.size,upd H1 s1.heap.objs.size (.tup xs),I1.laid (t':=s1.toks) (fun b u e=>az _ e) (bf _) ?_,rfl,q _ hf⟩;exact⟨z,us,r,⟨_,bz _ rfl,rfl,_,rfl⟩⟩
theorem JL (h:PA X es t):PE X (.List es pos) (Sl t):=by
 intro pins s σ H Q I hq;refine wpAny_List_spliced (thn (h pos pins s σ H _ I hq) fun us s1 ⟨xs,H1,I1,r,z,q⟩=>⟨by rw[<- r.length];exact z,?_⟩);have hf:H1 s1.heap.objs.size=xx:=I1.hok.fresh (bf _);refine⟨.ref s1.heap.objs.size,upd H1 s1.heap.objs.size (.lst xs),I1.laid (t':=s1.toks) (fun b u e=>az _ e) (bf _) ?_,rfl,q _ hf⟩;exact⟨z,us,0,r,bz _ rfl⟩
end
abbrev Sp:=List V->Hp->VK->XK->Prop
abbrev CXT:=List Env->Hp->au->XK->ag->au->Prop
structure Env0 (P:di) (w:du) (K:aa) (mg:Str->Option ag) (base:c9) (A:d7) (outer:List Env) (s:au) (H:Hp):Prop where
 frames:A.frames=xw outer
 mod:Mod K mg base
 bs:∀ b o,base.get? b=xw o->s.heap.get? b=xw o/\H b=xx
 bsz:base.objs.size<=s.heap.objs.size
 funs:s.heap.FunFrames base outer
 frf:∀ b∈frs outer,H b=xx
 hok:HOk P w H s.heap
 bare:n8 s.gens
def CE (outer:List Env) (P:di) (w:du) (H:Hp) (s:au) (Q:VK) (u:ag) (s':au):Prop:=
 ∃ v H',s'.os=s.os/\n8 s'.gens/\Un (frs outer) [] H H' s.heap s'.heap/\HOk P w H' s'.heap/\RelV v u/\Q v H'
def CR (CX:CXT) (outer:List Env) (P:di) (w:du) (H:Hp) (s:au) (Q:VK) (E:XK) (r:Result) (s':au):Prop:=
 match r with
 |.ok (.ret u)=>CE outer P w H s Q u s'
 |.ok _=>False
 |.error e=>CX outer H s E e s'
structure sN (P:di) (w:du) (K:aa) (mg:Str->Option ag) (base:c9) (CX:CXT) (k:Nat) (f:af) (fd:jy) (ps:List Str) (sp:Sp):Prop where
 len:∀ vs H Q E,sp vs H Q E->vs.length=ps.length
 run:∀(A:d7) (outer:List Env) (s:au) (H:Hp) (args:Args) (us:List ag) (vs:List V) (Q:VK) (E:XK),Room k A->Env0 P w K mg base A outer s H->t9 s fd args (ps.zip us)->Vals vs us->sp vs H Q E->
  pd (model P w) A (.call (.ref f) args) (CR CX outer P w H s Q E) s
theorem Env0.make {K:aa} (e:Env0 P w K mg base A outer s H) (C:af) (us:List ag) (kw:List (Str×ag)):
  Env0 P w K mg base (A.under (.builtin "type.__call__" ⟨.ref C::us,kw⟩)) outer s H:=⟨by first|exact e.frames|(simpa [vd,Code.envs,ve,pushEnvs] using e.frames),e.mod,e.bs,e.bsz,e.funs,e.frf,e.hok,e.bare⟩
section
variable {X:Cx}{pins:List (af×Obj)}{σ:St}{H:Hp}{s s':au}
theorem Inv.env0 (I:Inv X pins σ H s):Env0 X.prog X.w X.K X.mg X.base X.A X.stack s H:=
 ⟨I.ok.frames,I.ok.mod,I.bs,ci I.ok.bsz I.sz,I.stack,I.stkFree,I.hok,I.bare⟩
theorem Inv.after (I:Inv X pins σ H s) (h:CE X.stack X.prog X.w H s Q u s'):EP X pins σ Q u s':=by
 obtain⟨v,H',os,bare,un,hok,r,q⟩:=h;obtain⟨hh,g,d,t,os'⟩:=s';obtain rfl:os'=s.os:=os;exact⟨v,H',I.call (h':=hh) (g':=g) (d':=d) (t':=t) (ch:=[]) un hok bare (fun b z=>absurd z (by simp)),r,q⟩
end
def QD (sp:Sp) (dvs:List V) (E:XK) (t:TA):TE:=fun σ H Q=>t σ H fun vs H1=>sp (vs++dvs) H1 Q E
def Np (C:af) (m:Str) (sp:Sp) (dvs:List V) (E:XK) (ta:TE) (t:TA):TE:=fun σ H Q=>ta σ H fun x H1=>∃ a dx fs,x=.ref a/\H1 a=xw (.ins C dx fs)/\fs.lookup m=xx/\
 t σ H1 fun vs H2=>sp (x::(vs++dvs)) H2 Q E
def Qx (C:af) (sp:Sp) (dvs:List V) (E:XK) (t:TA):TE:=fun σ H Q=>t σ H fun vs H1=>∀ x dx,H1 x=xx->H1 dx=xx->dx≠x->
 sp (.ref x::(vs++dvs)) (upd (upd H1 dx (.own x)) x (.ins C dx [])) (fun v H2=>v=.non/\Q (.ref x) H2) E
def Binds (K:aa) (fd:jy) (ps:List Str) (ds:List ag):Prop:=
 ∀(s:au) (us:List ag),K.In s.heap->(us++ds).length=ps.length->t9 s fd ⟨us,[]⟩ (ps.zip (us++ds))
theorem Binds.all {K:aa} (h:∀ us:List ag,us.length=ps.length->bindArgs fd ⟨us,[]⟩=pure (ps.zip us)):Binds K fd ps []:=fun s us _ hl=>by
 rw[c6] at hl ⊢;exact .of_eq (h us hl)
def rD (CX:CXT) (X:Cx) (E:XK):Prop:=∀(pins:List (af×Obj)) (σ:St) (H:Hp) (s:au) (e:ag) (s':au),Inv X pins σ H s->CX X.stack H s E e s'->X.xe e s'
section
variable {X:Cx}{CX:CXT}{k:Nat}{f C:af}{fd:jy}{ps:List Str}{sp:Sp}{dvs:List V}{ds:List ag}{E:XK}{x m:Str}{p pos apos:Pos}{e o:bv}{es:List bv}{ta:TE}{t:TA}
theorem Ez (F:sN X.prog X.w X.K X.mg X.base CX k f fd ps sp) (hr:Room k X.A) (hb:Binds X.K fd ps ds) (hd:Vals dvs ds) (hx:rD CX X E)
  (I:Inv X pins σ H s) (r:Vals vs us) (h:sp (vs++dvs) H Q E):bc (model X.prog X.w) X.A (call (.ref f) us) (EP X pins σ Q) X.xe s:=by
 have r2:Vals (vs++dvs) (us++ds):=r.append hd;have hl:(us++ds).length=ps.length:=by rw[<- r2.length];exact F.len _ _ _ _ h
 refine wpAny_call (qy (F.run X.A X.stack s H ⟨us,[]⟩ (us++ds) (vs++dvs) Q E hr I.env0 (hb s us I.kIn hl) r2 h) fun r s' hq=> ?_);cases r with
 |error e=>exact hx pins σ H s e s' I hq
 |ok fl=>
  cases fl with
  |ret u=>exact I.after hq
  |next=>exact i9 hq
  |brk=>exact i9 hq
  |cont=>exact i9 hq
theorem KW (F:sN X.prog X.w X.K X.mg X.base CX k f fd ps sp) (hr:Room k X.A) (hg:Gl X x) (hm:X.mg x=xw (.ref f)) (hk:gy X.K (.ref f)=true) (hb:Binds X.K fd ps ds) (hd:Vals dvs ds) (hx:rD CX X E)
  (ha:PA X (e::es) t) (hdb:(x==("__debug__":Str))=false:=by decide) (he:av (e::es) X.env=(false,eval e X.env)::av es X.env:=by rfl) (hpl:(dq pos (av es X.env)).any (·.1)=false:=by rfl):
  PE X (.Call (.Name x p) (e::es) [] pos) (QD sp dvs E t):=by
 intro pins s σ H Q I h;refine m7 (vK I hg hm ?_ hdb);refine qf (h₀:=X.base) I.ok.mod.kin hk (thn (ha pos pins s σ H _ I h) fun us s1 ⟨vs,H1,I1,r,q⟩=>⟨I1.kIn,?_⟩) he hpl;exact Ez F hr hb hd hx I1 r q
theorem KO (he:PE X o ta) (c:Cls X.K C) (hm:JD X.K C m f) (F:sN X.prog X.w X.K X.mg X.base CX k f fd ps sp) (hr:Room k X.A) (hb:Binds X.K fd ps ds) (hd:Vals dvs ds) (hx:rD CX X E) (ha:PA X (e::es) t)
  (hst:av (e::es) X.env=(false,eval e X.env)::av es X.env:=by rfl) (hpl:(dq pos (av es X.env)).any (·.1)=false:=by rfl)
  (ht:eval (.Call (.Attribute o m apos) (e::es) [] pos) X.env=(do
   let ov <- eval o X.env
   n9 apos.atName
   let (f,first) <- holding [ov] (mz ov m pl)
   qz pos f first (dq pos (av (e::es) X.env)) (kh pos (i4 [] X.env))):=by rfl):
  PE X (.Call (.Attribute o m apos) (e::es) [] pos) (Np C m sp dvs E ta t):=by
 intro pins s σ H Q I h;refine ua (pl:=pl) (thn (he pins s σ H _ I h) fun u s1 ⟨x,H1,I1,rx,a,dx,fs,ex,ea,l,q⟩=> ?_) ht;subst ex;obtain rfl:u=cq a:=rx;refine tX I1 ea c hm l ?_;refine qf (first:=[.ref a]) (h₀:=X.base) I.ok.mod.kin hm.kp (thn (ha pos pins s1 σ H1 _ I1 q) fun us s2 ⟨vs,H2,I2,r,q2⟩=>⟨I2.kIn,?_⟩) hst hpl;exact Ez (us:=.ref a::us) (vs:=.ref a::vs) F hr hb hd hx I2 (.cons rfl r) q2
theorem HG (he:PE X o ta) (c:Cls X.K C) (hm:JD X.K C m f) (F:sN X.prog X.w X.K X.mg X.base CX k f fd ps sp) (hr:Room k X.A) (hb:Binds X.K fd ps ds) (hd:Vals dvs ds) (hx:rD CX X E)
  (ht:eval (.Call (.Attribute o m apos) [] [] pos) X.env=(do
   let ov <- eval o X.env
   n9 apos.atName
   let (f,first) <- holding [ov] (mz ov m pl)
   qz pos f first (dq pos (av [] X.env)) (kh pos (i4 [] X.env))):=by rfl):
  PE X (.Call (.Attribute o m apos) [] [] pos) (Np C m sp dvs E ta RO):=by
 intro pins s σ H Q I h;refine ua (pl:=pl) (thn (he pins s σ H _ I h) fun u s1 ⟨x,H1,I1,rx,a,dx,fs,ex,ea,l,q⟩=> ?_) ht;subst ex;obtain rfl:u=cq a:=rx;refine tX I1 ea c hm l ?_;exact PySem.W.callWith_K0 (first:=[.ref a]) I1.kIn hm.kp (Ez (us:=[.ref a]) (vs:=[.ref a]) F hr hb hd hx I1 (.cons rfl .nil) q)
structure Mk (K:aa) (C f:af):Prop where
 makes:sh K C=true
 init:ie K (.ref C) "__init__"=xw (xw (.ref f))
 fn:pj K (.ref f)=true
 kp:gy K (.ref C)=true
theorem Hj (M:Mk X.K C f) (F:sN X.prog X.w X.K X.mg X.base CX k f fd ps sp) (hr:Room (k+1) X.A) (hb:Binds X.K fd ps ds) (hd:Vals dvs ds)
  (hx:rD CX X E) (I:Inv X pins σ H s) (r:Vals vs us)
  (h:∀ x dx,H x=xx->H dx=xx->dx≠x->sp (.ref x::(vs++dvs)) (upd (upd H dx (.own x)) x (.ins C dx [])) (fun v H2=>v=.non/\Q (.ref x) H2) E):
  bc (model X.prog X.w) X.A (call (.ref C) us) (EP X pins σ Q) X.xe s:=by
 have hq:=h (s.heap.objs.size+1) s.heap.objs.size (I.hok.fresh (Nat.le_succ _)) (I.hok.fresh (bf _)) (ck (oz _));have I2:=Inv.made (C:=C) I;have r2:Vals (V.ref (s.heap.objs.size+1)::(vs++dvs)) (cq (s.heap.objs.size+1)::(us++ds)):=.cons rfl (r.append hd);have hl:(cq (s.heap.objs.size+1)::us++ds).length=ps.length:=by
  have e:=r2.length;rw[F.len _ _ _ _ hq] at e;exact e.symm
 refine wpAny_call (Ik (f:=f) I.kIn M.makes M.init (beq_iff_eq.mp M.fn) (qy (F.run _ X.stack _ _ ⟨cq (s.heap.objs.size+1)::us,[]⟩ (cq (s.heap.objs.size+1)::(us++ds)) _ _ E (hr.make C us [])
  (I2.env0.make C us []) (hb _ (cq (s.heap.objs.size+1)::us) I2.kIn hl) r2 hq) fun r s' hq'=> ?_))
 cases r with
 |error e=>exact hx pins σ _ _ e s' I2 hq'
 |ok fl=>
  cases fl with
  |ret u=>
   obtain⟨v,H',I3,rv,ev,q3⟩:=I2.after hq';subst ev;exact⟨rv,⟨V.ref (s.heap.objs.size+1),H',I3,rfl,q3⟩⟩
  |next=>exact i9 hq'
  |brk=>exact i9 hq'
  |cont=>exact i9 hq'
theorem KP (M:Mk X.K C f) (F:sN X.prog X.w X.K X.mg X.base CX k f fd ps sp) (hr:Room (k+1) X.A) (hg:Gl X x) (hm:X.mg x=xw (.ref C)) (hb:Binds X.K fd ps ds) (hd:Vals dvs ds) (hx:rD CX X E)
  (ha:PA X (e::es) t) (hdb:(x==("__debug__":Str))=false:=by decide) (he:av (e::es) X.env=(false,eval e X.env)::av es X.env:=by rfl) (hpl:(dq pos (av es X.env)).any (·.1)=false:=by rfl):
  PE X (.Call (.Name x p) (e::es) [] pos) (Qx C sp dvs E t):=by
 intro pins s σ H Q I h;refine m7 (vK I hg hm ?_ hdb);refine qf (h₀:=X.base) I.ok.mod.kin M.kp (thn (ha pos pins s σ H _ I h) fun us s1 ⟨vs,H1,I1,r,q⟩=>⟨I1.kIn,?_⟩) he hpl;exact Hj M F hr hb hd hx I1 r q
end
section
variable {X:Cx}{CX:CXT}{k:Nat}{f C:af}{fd:jy}{ps ks:List Str}{sp:Sp}{E:XK}{x m:Str}{p pos apos kpos:Pos}{e o:bv}{es:List bv}{kws:List k6}{te ta:TE}{t tk:TA}{nm:Option Str}
variable {g:List ag->List ag->List ag}{gV:List V->List V->List V}
end
structure lH (N P:List Str) (sc:kt):Prop where
 kind:sc.kind=.function
 co:sc.isCoroutine=false
 gen:sc.isGenerator=false
 nd:N.Nodup
 pre:N.take P.length=P
 par:∀ x∈P,sc.names.lookup x=xw .local∨sc.names.lookup x=xw .cell
 nofree:∀ y∈sc.names,y.2≠ .free
theorem zG {kindOf:Str->Option ij}:∀ {binds:List (Str×ag)}{m:Str->Option ag},(∀ v,(x,v)∉binds)->bindL kindOf binds m x=m x
 |[],_,_=>rfl
 |(n,v)::r,m,h=>by
  unfold bindL;rw[zG fun w hw=>h w (ai _ hw)];split
  ·have:x≠n:=by rintro rfl;exact h v aq
   simp[this]
  ·rfl
theorem zJ {kindOf:Str->Option ij}:∀ {binds:List (Str×ag)}{m:Str->Option ag},(∀ v,(x,v)∉binds)->bindC kindOf binds m x=m x
 |[],_,_=>rfl
 |(n,v)::r,m,h=>by
  unfold bindC;rw[zJ fun w hw=>h w (ai _ hw)];split
  ·rfl
  ·have:x≠n:=by rintro rfl;exact h v aq
   simp[this]
theorem zH {kindOf:Str->Option ij}:∀ {P:List Str}{vs:List ag}{i:Nat}{m:Str->Option ag},P.Nodup->P[i]?=xw x->vs[i]?=xw v->kindOf x=xw .local->
  bindL kindOf (P.zip vs) m x=xw v
 |[],_,_,_,_,h,_,_=>by simp at h
 |_::_,[],_,_,_,_,h,_=>by simp at h
 |p::P,w::vs,0,m,nd,h1,h2,hk=>by
  simp at h1 h2;subst h1;subst h2;show bindL kindOf ((p,w)::P.zip vs) m p=_;unfold bindL;rw[zG fun v hv=>(b8.mp nd).1 (si hv).1,if_pos hk];simp
 |p::P,w::vs,i+1,m,nd,h1,h2,hk=>by
  show bindL kindOf ((p,w)::P.zip vs) m x=_;unfold bindL;exact zH (i:=i) (b8.mp nd).2 (by simpa using h1) (by simpa using h2) hk
theorem zK {kindOf:Str->Option ij}:∀ {P:List Str}{vs:List ag}{i:Nat}{m:Str->Option ag},P.Nodup->P[i]?=xw x->vs[i]?=xw v->kindOf x≠xw .local->
  bindC kindOf (P.zip vs) m x=xw v
 |[],_,_,_,_,h,_,_=>by simp at h
 |_::_,[],_,_,_,_,h,_=>by simp at h
 |p::P,w::vs,0,m,nd,h1,h2,hk=>by
  simp at h1 h2;subst h1;subst h2;show bindC kindOf ((p,w)::P.zip vs) m p=_;unfold bindC;rw[zJ fun v hv=>(b8.mp nd).1 (si hv).1,if_neg hk];simp
 |p::P,w::vs,i+1,m,nd,h1,h2,hk=>by
  show bindC kindOf ((p,w)::P.zip vs) m x=_;unfold bindC;exact zK (i:=i) (b8.mp nd).2 (by simpa using h1) (by simpa using h2) hk
noncomputable def start (N:List Str) (vs:List V):St:=vs.map xw++aj (N.length-vs.length) xx
noncomputable def AT (CX:CXT) (P:di) (w:du) (K:aa) (mg:Str->Option ag) (base:c9) (N:List Str) (qual:Str) (scope:kt) (f:af) (cd:ag) (A:d7) (outer:List Env) (s:au) (H:Hp) (E:XK):Cx where
 prog:=P
 w:=w
 K:=K
 mg:=mg
 base:=base
 A:=A.deeper (jq qual scope s.heap.objs.size f cd)
 N:=N
 s₀:=s
 H₀:=H
 env:=jq qual scope s.heap.objs.size f cd
 outer:=outer
 stack:=jq qual scope s.heap.objs.size f cd::outer
 ex:=[]
 calm:=true
 fn:=fun _=>true
 pn:=[]
 xe:=fun e s'=>bc (model P w) (A.deeper (jq qual scope s.heap.objs.size f cd)) (leaving (jq qual scope s.heap.objs.size f cd) e) (fun _ s''=>CX outer H s E e s'') (fun e' s''=>CX outer H s E e' s'') s'
theorem CA {sc:kt} (h:sc.names.lookup x=xw .cell):∃ c,(hX n sc.names []).lookup x=xw c:=by
 have q:=tj sc.names n [] (.inl h);exact m8.mp q
theorem FC {K:aa}
  (S:lH N ps scope) (hd:A.handled=xx) (e0:Env0 P w K mg base A outer s H) (hl:vs.length=ps.length) (r:Vals vs us)
  (x:InCallC s s.heap.objs.size (bindL (jq qual scope s.heap.objs.size f cd).kindOf (ps.zip us) fun _=>xx) (hX (s.heap.objs.size+1) scope.names []) (bindC (jq qual scope s.heap.objs.size f cd).kindOf (ps.zip us) fun _=>xx) s1):
  Inv (AT CX P w K mg base N qual scope f cd A outer s H E) [] (start N vs) H s1:=by
 have hpl:ps.length<=N.length:=by have:=congrArg lr S.pre;rw[o5] at this;omega
 obtain⟨h1,tk,rfl,hk⟩:=x.done;have noA:∀ b:af,b∉(AT CX P w K mg base N qual scope f cd A outer s H E).ex:=fun b z=>absurd (show b∈([]:List af) from z) (by simp);refine⟨⟨e0.mod,S.kind,rfl,rfl,bf _,fun y z c h1 h2=> ?_,fun y hy=> ?_,fun y c _ h=> ?_,fun _=>hd,Around.frames_deeper e0.frames,.inr ⟨rfl,rfl⟩,fun b z=>absurd z (noA b),e0.bs,e0.bsz,fun b _ _=>noA b,fun b z=>absurd z (noA b),e0.funs,e0.frf⟩,
  rfl,e0.bare,Un.kept hk,⟨_,x.toInCall.ns,fun i y v h1 h2 h3=> ?_⟩,fun y c h=>⟨_,x.cell y c h⟩,e0.hok.fresh (bf _),fun y c h=> ?_,fun p hp=>absurd (show p∈([]:List (af×Obj)) from hp) (by simp),e0.hok.kept hk,?_⟩
 ·exact name_of_addr x.apart (gp h1) (gp h2)
 ·have hy:scope.names.lookup y=xw .cell∨scope.names.lookup y=xw .free:=hy;rcases hy with hy|hy
  ·exact CA hy
  ·exact absurd rfl (S.nofree _ (gp hy))
 ·exact io (x.above y c (gp h))
 ·have hi:i<vs.length:=by
   unfold start at h2
   by_cases hi:i<vs.length
   ·exact hi
   ·rw[dr (by simpa using hi)] at h2;rw[dc] at h2;split at h2 <;> cases h2
  have ha:vs[i]?=xw v:=by
   unfold start at h2;rw[am (by simpa using hi),aw] at h2;cases e:vs[i]? with
   |none=>rw[e] at h2;cases h2
   |some a=>rw[e] at h2;cases h2;rfl
  obtain⟨u,hu,rv⟩:=r.get ha;have hp:ps[i]?=xw y:=by
   rw[<- S.pre,List.getElem?_take_of_lt (by omega)];exact h1
  have ndP:ps.Nodup:=by rw[<- S.pre];exact S.nd.sublist (List.take_sublist _ _)
  refine⟨u,rv,?_⟩;rcases S.par y (gg hp) with k|k
  ·exact .inl ⟨k,zH ndP hp hu k⟩
  ·obtain⟨c,e⟩:=CA (n:=s.heap.objs.size+1) k;refine .inr ⟨.inl k,c,e,?_⟩;have q:=x.cell y c e;rw[zK ndP hp hu (by show scope.names.lookup y≠_;rw[k];decide)] at q;exact q
 ·exact e0.hok.fresh (io (x.above y c (gp h)))
 ·unfold start;show _=N.length;rw[bw,ao,jw];omega
theorem Rt {K:aa}{dV kV doc pm cdv ct oc:ag}
    (lk:K.lookup f=xw ⟨oc,od,.func (i5 name qual params body scope dV kV doc pm an cdv ct),osl⟩) (hcd:ka K cdv qual=true) (S:lH N ps scope)
  (len:∀ vs H Q E,sp vs H Q E->vs.length=ps.length)
  (hbody:∀(A:d7) (outer:List Env) (s:au) (H:Hp) (vs:List V) (Q:VK) (E:XK),Room k (A.deeper (jq qual scope s.heap.objs.size f cdv))->sp vs H Q E->
   ∃ t,PSs (AT CX P w K mg base N qual scope f cdv A outer s H E) body t/\t { nx:=fun _ H'=>Q .non H',rt:=Q } (start N vs) H):
  sN P w K mg base CX (k+1) f (i5 name qual params body scope dV kV doc pm an cdv ct) ps sp:=by
 refine⟨len,fun A outer s H args us vs Q E hr e0 hb r hsp=> ?_⟩;have hl:=len _ _ _ _ hsp;have KX:K.In s.heap:=e0.mod.kin.keeps fun b o e=>(e0.bs b o e).1;have lim:s.heap.NoLimit:=e0.mod.nolimit.keeps fun b o e=>(e0.bs b o e).1;have hkind:∀ y∈ps.zip us,scope.names.lookup y.1=xw .local∨(scope.names.lookup y.1=xw .cell/\((hX (s.heap.objs.size+1) scope.names []).lookup y.1).isSome=true):=fun⟨n,v⟩ hy=>by
  rcases S.par n (si hy).1 with q|q
  ·exact .inl q
  ·exact .inr ⟨q,tj _ _ _ (.inl q)⟩
 refine codeAny_call_function hr.depth (KX _ _ lk) rfl S.co S.gen rfl (PySem.W.codeRec_of KX hcd) (hb _ _ _ _ ?_);refine wpAny_newFunctionEnv_cells S.kind hkind fun env he s1 x=> ?_;subst he;refine⟨lim.keeps x.toInCall.keep,codeAny_func ?_⟩;obtain⟨t,ht,hq⟩:=hbody A outer s H vs Q E (hr.deeper _) hsp;have I:Inv (AT CX P w K mg base N qual scope f cdv A outer s H E) [] (start N vs) H s1:=FC S hr.hd e0 hl r x;refine hZ (ht [] s1 (start N vs) H _ I hq) (fun fl s' hs=> ?_) fun e s' hs=>hs;have fin:∀ {σ':St}{H':Hp}{v:V}{u:ag},Inv (AT CX P w K mg base N qual scope f cdv A outer s H E) [] σ' H' s'->RelV v u->Q v H'->CE outer P w H s Q u s':=
  fun {σ' H' v u} J rv q=>⟨v,H',J.os,J.bare,J.base,J.hok,rv,q⟩
 cases fl with
 |ret u=>
  obtain⟨v,σ',H',J,rv,q⟩:=hs;exact fin J rv q
 |next=>
  obtain⟨σ',H',J,q⟩:=hs;exact fin (v:=V.non) (u:=iu) J rfl q
 |brk=>
  obtain⟨_,_,_,q⟩:=hs;exact i9 q
 |cont=>
  obtain⟨_,_,_,q⟩:=hs;exact i9 q
end L2
namespace L2
section
variable {X:Cx}{x:Str}{p pos:Pos}{e:bv}{es:List bv}{t:TA}{id T:String}{r:List V->Hp->VK->Prop}
def tCB (r:List V->Hp->VK->Prop) (t:TA):TE:=fun σ H Q=>t σ H fun vs H1=>r vs H1 Q
theorem oG (hc:CallR X (.builtin id) r) (hg:Gl X x) (hm:X.mg x=xx) (hv:dm x=xw (.builtin id)) (ha:PA X (e::es) t) (hn:x≠"__name__":=by decide) (hdb:(x==("__debug__":Str))=false:=by decide)
  (he:av (e::es) X.env=(false,eval e X.env)::av es X.env:=by rfl) (hpl:(dq pos (av es X.env)).any (·.1)=false:=by rfl):PE X (.Call (.Name x p) (e::es) [] pos) (tCB r t):=by
 intro pins s σ H Q I h;refine m7 (tR I hg hm hv ?_ hn hdb);exact PyProof.Rows.callWith_builtin1 (thn (ha pos pins s σ H _ I h) fun us s1 ⟨vs,H1,I1,r1,q1⟩=>hc pins s1 σ H1 vs us Q I1 r1 q1) he hpl
theorem EO (hc:CallR X (.type T) r) (hg:Gl X x) (hm:X.mg x=xx) (hv:dm x=xw (.type T)) (ha:PA X (e::es) t) (hn:x≠"__name__":=by decide) (hdb:(x==("__debug__":Str))=false:=by decide)
  (he:av (e::es) X.env=(false,eval e X.env)::av es X.env:=by rfl) (hpl:(dq pos (av es X.env)).any (·.1)=false:=by rfl):PE X (.Call (.Name x p) (e::es) [] pos) (tCB r t):=by
 intro pins s σ H Q I h;refine m7 (tR I hg hm hv ?_ hn hdb);exact jp (thn (ha pos pins s σ H _ I h) fun us s1 ⟨vs,H1,I1,r1,q1⟩=>hc pins s1 σ H1 vs us Q I1 r1 q1) he hpl
end
end L2
namespace HT
open PySem PyProof.Rows
noncomputable def lexLt:List Int->List Int->Bool
 |[],[]=>false
 |[],_::_=>true
 |_::_,[]=>false
 |x::xs,y::ys=>if x=y then lexLt xs ys else decide (x<y)
theorem Dk (x y:Int) (xs ys:List Int):lexLt (x::xs) (y::ys)=if x=y then lexLt xs ys else decide (x<y):=rfl
theorem vJ:lexLt [] []=false:=rfl
theorem rY (y:Int) (ys:List Int):lexLt [] (y::ys)=true:=rfl
theorem rZ (x:Int) (xs:List Int):lexLt (x::xs) []=false:=rfl
theorem Jb (A:d7) (s:au) (a:Int) (t:Tok) (c:Int) (u:Tok):∃ e,wu A s (.int a t) (.int c u) e/\(e=true↔a=c):=
 ⟨(a==c),SeqAt.EqAt.int_int a t c u,by simp⟩
theorem Hs (A:d7) (s:au) (a:Int) (t:Tok) (c:Int) (u:Tok) (prog:di) (w:du) (E:ag->au->Prop) (Q:ag->au->Prop) (h:Q (.bool (decide (a<c))) s):
  bc (model prog w) A (richCompare .Lt (.int a t) (.int c u)) Q E s:=
 (wt h:bc (model prog w) A (fu .Lt (.int a t) (.int c u)) Q E s)
section
open PySem.SeqAt
open PySem.AutoSeq1 (wpAny_loadPart')
open PySem.MeetsSeq PySem.MeetsSeq2 PySem.MeetsSeq3
theorem uR (l b:af) (items items2:Array ag) (n n2:Nat) (dd dd2:Option af) (sl sl2:Array (Option ag)) (ns ms:List Int) (hi:k7 items.toList ns) (hj:k7 items2.toList ms):
  Meets (Builtin.«tuple.__lt__» ⟨[.ref l,.ref b],[]⟩)
   (fun _ R s=>s.heap.get? l=xw { cls:=.type "tuple",dict:=dd,data:=.seq items n,slots:=sl }/\s.heap.get? b=xw { cls:=.type "tuple",dict:=dd2,data:=.seq items2 n2,slots:=sl2 }/\
    R (.ok (.ret (.bool (lexLt ns ms)))) s):=
 .of_wp fun prog w A R s h=>by
  obtain⟨hp,g,d,tk,os⟩:=s;obtain⟨hl,hb,h⟩:=h;have f2:=AutoSeq1.sub_tuple_tuple;have z1:items.size=ns.length:=by rw[<- hi.length];simp
  have z2:items2.size=ms.length:=by rw[<- hj.length];simp
  wp_walk using wpAny_loadPart' hl,wpAny_loadPart' hb,rc _ (fun rest b s'=>b.1=xx/\s'=⟨hp,g,d,tk,os⟩/\∃(vs ws:List ag) (ns' ms':List Int),rest=vs.zip ws/\
   k7 vs ns'/\k7 ws ms'/\ns'.length+items2.size=ms'.length+items.size/\R (.ok (.ret (.bool (lexLt ns' ms')))) ⟨hp,g,d,tk,os⟩) _
  case turn=>
   rintro⟨y,x⟩ rest b s' ⟨hb',rfl,vs,ws,ns',ms',hz,hvi,hwi,hlen,hR⟩
   cases hvi with
   |nil=>rw[List.zip_nil_left] at hz;cases hz
   |cons a t hvi'=>
    cases hwi with
    |nil=>rw[List.zip_nil_right] at hz;cases hz
    |cons c u hwi'=>
     rw[m9] at hz;injection hz with hyx hrest
     injection hyx with hy hx
     subst hy hx;rw[Dk] at hR;simp only[b7] at hlen;obtain⟨e,he,hiff⟩:=Jb A.in1 ⟨hp,g,d,tk,os⟩ a t c u;refine ae (he prog w _ _ ?_);cases e with
     |true=>
      rw[if_pos (hiff.mp rfl)] at hR
      wp_walk
      exact⟨rfl,rfl,_,_,_,_,hrest,hvi',hwi',by omega,hR⟩
     |false=>
      rw[if_neg (fun q=>absurd (hiff.mpr q) cj)] at hR;have hri:=Hs A.in1 ⟨hp,g,d,tk,os⟩ a t c u prog w
      wp_walk using hri
      exact⟨_,rfl,by simpa using hR⟩
  case fin=>
   rintro⟨b1,b2⟩ s' ⟨hb',rfl,vs,ws,ns',ms',hz,hvi,hwi,hlen,hR⟩
   simp only at hb';subst hb';have hv:lexLt ns' ms'=decide (items.size<items2.size):=by
    cases hvi with
    |nil=>
     cases hwi with
     |nil=>
      simp only[k8] at hlen;rw[vJ];exact(decide_eq_false (by omega)).symm
     |cons c u hw=>
      simp only[k8,b7] at hlen;rw[rY];exact(decide_eq_true (by omega)).symm
    |cons a t hv=>
     cases hwi with
     |nil=>
      simp only[k8,b7] at hlen;rw[rZ];exact(decide_eq_false (by omega)).symm
     |cons c u hw=>
      rw[m9] at hz;cases hz
   rw[hv] at hR
   wp_walk
   exact⟨_,rfl,by simpa [Builtin.Tuple.tupleCompareSizes] using hR⟩
  case h=>
   exact⟨rfl,rfl,items.toList,items2.toList,ns,ms,rfl,hi,hj,by omega,h⟩
end
section
variable {prog:di}{w:du}{A:d7}{E:ag->au->Prop}{s:au}
theorem lt_tupInts (hl:IsTup s.heap l items) (hb:IsTup s.heap b items2) (hi:k7 items.toList ns) (hj:k7 items2.toList ms)
  (hu:A.units<eu) (h:Q (.bool (lexLt ns ms)) s):bc (model prog w) A (fu .Lt (.ref l) (.ref b)) Q E s:=by
 obtain⟨⟨cls,dd,data,sl⟩,ho,hc,n,hd⟩:=id hl;obtain⟨⟨cls2,dd2,data2,sl2⟩,ho2,hc2,n2,hd2⟩:=id hb;simp only at hc hd hc2 hd2;subst hc hd hc2 hd2;exact richCompare_meets_room (op:=.Lt) ⟨_,ho,rfl⟩ ⟨_,ho2,rfl⟩ PySem.F.slot_tuple_lt PySem.F.entry_tuple_lt (PySem.F.args_tuple_lt_2 _ _) (uR l b items items2 n n2 dd dd2 sl sl2 ns ms hi hj)
  ⟨ho,ho2,show uj (lexLt ns ms)≠Value.notImplemented/\Q (.bool (lexLt ns ms)) s from⟨(fun x=>nomatch x),h⟩⟩ hu
theorem cat_tup (ht:IsTup s.heap t vs.toArray) (hb:IsTup s.heap b ws.toArray) (hv:vs≠[])
  (h1:ws=[]->Q (.ref t) s) (h2:ws≠[]->Q (.ref s.heap.objs.size) { s with heap:=s.heap.push { cls:=.type "tuple",data:=.seq (vs++ws).toArray } })
  (hsz:vs.length+ws.length<=sizeLine):bc (model prog w) A (ke .Add (.ref t) (.ref b)) Q E s:=by
 obtain⟨⟨cls,dd,data,sl⟩,ho,hc,n,hd⟩:=id ht;obtain⟨⟨cls2,dd2,data2,sl2⟩,ho2,hc2,n2,hd2⟩:=id hb;simp only at hc hd hc2 hd2;subst hc hd hc2 hd2;have e:vs.toArray++ws.toArray=(vs++ws).toArray:=by simp
 by_cases hw:ws=[]
 ·exact concat_meets ⟨_,ho,rfl⟩ ⟨_,ho2,rfl⟩ noFill_tuple_add seq_tuple_add tm rq (rg _ _)
   (tuple_addW1 t b vs.toArray ws.toArray n n2 dd dd2 sl sl2 (by simpa using hv) (by simp[hw])) ⟨ho,ho2,h1 hw⟩
 ·refine concat_meets ⟨_,ho,rfl⟩ ⟨_,ho2,rfl⟩ noFill_tuple_add seq_tuple_add tm rq (rg _ _)
   (tuple_addW2 t b vs.toArray ws.toArray n n2 dd dd2 sl sl2 (by simpa using hv) (by simpa using hw) (by rw[bi,bi];exact hsz)) ⟨ho,ho2,?_⟩
  rw[e];exact h2 hw
noncomputable def sIx (n d:Nat):Option Int->Nat
 |none=>d
 |some v=>if v<0 then(v+(n:Int)).toNat else min v.toNat n
theorem sIx_nat (n d k:Nat):sIx n d (xw (k:Int))=min k n:=by
 show(if(k:Int)<0 then((k:Int)+(n:Int)).toNat else min (k:Int).toNat n)=min k n
 rw[if_neg (by omega),cw]
theorem Nz (n d:Nat) (hd:d<=n) (o:Option Int):sIx n d o<=n:=by
 cases o with
 |none=>exact hd
 |some v=>
  show(if v<0 then(v+(n:Int)).toNat else min v.toNat n)<=n
  by_cases hv:v<0
  ·rw[if_pos hv];omega
  ·rw[if_neg hv];exact Nat.min_le_right _ _
theorem GA (v:Int) (n d:Nat):(if v<0 then max (v+(n:Int)) 0 else min v (n:Int))=((sIx n d (xw v):Nat):Int):=by
 show(if v<0 then max (v+(n:Int)) 0 else min v (n:Int))=(((if v<0 then(v+(n:Int)).toNat else min v.toNat n):Nat):Int)
 by_cases hv:v<0
 ·simp only[if_pos hv];omega
 ·simp only[if_neg hv];omega
theorem DT (lo hi:Option Int) (n:Nat):mq lo hi 1 (n:Int)=(((sIx n 0 lo:Nat):Int),((sIx n n hi:Nat):Int)):=by
 have h1:¬((1:Int)<0):=by omega
 unfold mq;simp only[h1,if_false];refine Prod.ext ?_ ?_
 ·cases lo with
  |none=>rfl
  |some v=>exact GA v n 0
 ·cases hi with
  |none=>rfl
  |some v=>exact GA v n n
theorem Db (i j:Nat):j5 (i:Int) (j:Int) 1=j-i:=by
 unfold j5;have h1:(1:Int)>0:=by omega
 simp only[h1,if_true,Int.ediv_one];split <;> omega
theorem sU (p:rh v o) (h:Q o s):bc (model prog w) A (Builtin.Slice.slicePartIndex v) Q E s:=by
 cases p with
 |none=>exact slicePart_none h
 |int i t=>exact slicePart_int h
theorem nN {lo hi:Option Int}{Q:Int×Int×Nat->au->Prop} (hs:s.heap.IsSliceOf sl vl vu .none) (pl:rh vl lo) (pu:rh vu hi)
  (h:Q (((sIx n 0 lo:Nat):Int),1,sIx n n hi-sIx n 0 lo) s):bc (model prog w) A (qi (.ref sl) (pure (n:Int))) Q E s:=by
 obtain⟨os,hos,hcs,hds⟩:=id hs;unfold qi Builtin.Slice.sliceFields;refine ae (ae (tq hos hds (x:=vl) rfl (ae (tq hos hds (x:=vu) rfl (ae (tq hos hds (x:=.none) rfl (ar ?_)))))));refine ae (slicePart_none ?_);show bc _ _ (if((1:Int)==0)=true then _ else _) _ _ s;rw[if_neg (by decide)];refine ae (sU pl (ae (sU pu (ae (ar ?_)))));show bc _ _ (match mq lo hi 1 (n:Int) with|(lo,hi)=>pure (lo,(1:Int),j5 lo hi 1)) _ _ s;rw[DT lo hi n];show bc _ _ (pure (((sIx n 0 lo:Nat):Int),(1:Int),j5 ((sIx n 0 lo:Nat):Int) ((sIx n n hi:Nat):Int) 1)) _ _ s;rw[Db];exact ar h
theorem HD (xs:Array ag) (i k:Nat):((bj k).filterMap fun(m:Nat)=>xs[((i:Int)+(m:Int)*1).toNat]?).toArray=((xs.toList.drop i).take k).toArray:=by
 have e:(fun(m:Nat)=>xs[((i:Int)+(m:Int)*1).toNat]?)=fun m=>xs[i+m]?:=by
  funext m
  have:((i:Int)+(m:Int)*1).toNat=i+m:=by omega
  rw[this]
 rw[e]
 have:=pick_run xs i k
 rw[List.filterMap_map] at this;have e2:((fun x=>xs[x]?)∘fun x=>i+x)=fun m=>xs[i+m]?:=rfl;rw[e2] at this;rw[this]
theorem getItem_tuple_cut {lo hi:Option Int} (ht:IsTup s.heap t items) (hs:s.heap.IsSliceOf sl vl vu .none) (pl:rh vl lo) (pu:rh vu hi)
  (hw:¬(sIx items.size 0 lo=0/\sIx items.size items.size hi=items.size))
  (h:Q (.ref s.heap.objs.size) { s with heap:=s.heap.push { cls:=.type "tuple",data:=.seq ((items.toList.drop (sIx items.size 0 lo)).take (sIx items.size items.size hi-sIx items.size 0 lo)).toArray } })
  (hsz:items.size<=sizeLine):bc (model prog w) A (p0 (.ref t) (.ref sl)) Q E s:=by
 have htake:sizeOk (.seq ((items.toList.drop (sIx items.size 0 lo)).take (sIx items.size items.size hi-sIx items.size 0 lo)).toArray):=by
  show((items.toList.drop (sIx items.size 0 lo)).take (sIx items.size items.size hi-sIx items.size 0 lo)).toArray.size<=sizeLine
  rw[bi,o5,wj,ff];omega
 have hj:sIx items.size items.size hi<=items.size:=Nz _ _ (bf _) hi;obtain⟨os,hos,hcs,hds⟩:=id hs;have hTs:s.TypeIs (.ref sl) "slice":=⟨os,hos,hcs⟩;unfold p0
 try with_reducible refine i8 ?_
 first|refine ae (ar ?_)|skip
 refine ae (wpAny_sequenceKey ht.typeIs (by decide) ?_);refine ae (jl (name:=jz "__getitem__") ht.typeIs jm
  (ip jm ht.typeIs entry_tuple_getitem ?_ (args_tuple_getitem _ _)))
 show bc _ _ (Builtin.Tuple.tupleItemsOf (.ref t) >>= _) _ _ s;refine ae (tupleItemsOf_ ht ?_);refine ae (wpAny_typeOf hTs ?_);rw[if_pos (by decide)];refine ae (nN hs pl pu ?_);have hno:¬((((sIx items.size 0 lo:Nat):Int)==0&&(1:Int)==1&&(sIx items.size items.size hi-sIx items.size 0 lo)==items.size)=true):=by
  intro q;rw[bu,bu] at q;have q1:((sIx items.size 0 lo:Nat):Int)=0:=eq_of_beq q.1.1;have q2:sIx items.size items.size hi-sIx items.size 0 lo=items.size:=eq_of_beq q.2;exact hw ⟨by omega,by omega⟩
 show bc _ _ (if(((sIx items.size 0 lo:Nat):Int)==0&&(1:Int)==1&&(sIx items.size items.size hi-sIx items.size 0 lo)==items.size)=true then _ else _) _ _ s;rw[if_neg hno,HD]
 first
  |exact ae (m:=ki _) (fj (ar ⟨_,rfl,ar h⟩) htake)
  |exact ae (m:=ki _) (fj (ae (ar (ar ⟨_,rfl,ar h⟩))) htake)
  |exact ae (ae (m:=ki _) (fj (ar (ar ⟨_,rfl,ar h⟩)) htake))
  |exact ae (ae (m:=ki _) (fj (ar ⟨_,rfl,ar h⟩) htake))
end
end HT
namespace L2
abbrev TO:=St->Hp->(Option Int->Hp->Prop)->Prop
def PO (X:Cx) (e:Option bv) (t:TO):Prop:=
 ∀(pins:List (af×Obj)) (s:au) (σ:St) (H:Hp) (Q:Option Int->Hp->Prop),Inv X pins σ H s->t σ H Q->
  bc (model X.prog X.w) X.A (evalPart e X.env) (fun u s'=>∃ o H',Inv X pins σ H' s'/\rh u o/\Q o H') X.xe s
noncomputable def Ko:TO:=fun _ H Q=>Q xx H
noncomputable def Qu (t:TE):TO:=fun σ H Q=>t σ H fun x H1=>∃ i,x=.int i/\Q (xw i) H1
theorem Dt:∀ {us:List ag},Vals (ns.map V.int) us->k7 us ns:=by
 induction ns with
 |nil=>intro us r;rw[lu] at r;cases r;exact .nil
 |cons n ns ih=>
  intro us r;rw[bg] at r;cases r with
  |cons r1 r2=>
   obtain⟨t,e⟩:=r1;subst e;exact .cons n t (ih r2)
section
variable {X:Cx}{e:bv}{te:TE}{lo hi:Option bv}{tl th:TO}{pos p2:Pos}
theorem KL:PO X xx Ko:=by
 intro pins s σ H Q I h;rw[evalPart_none];exact ar ⟨xx,H,I,.none,h⟩
theorem KJ (h:PE X e te):PO X (xw e) (Qu te):=by
 intro pins s σ H Q I hw;rw[evalPart_some];refine thn (h pins s σ H _ I hw) fun u s1 ⟨x,H1,I1,r1,q1⟩=> ?_;obtain⟨i,rfl,q⟩:=q1;obtain⟨t,rfl⟩:=r1;exact⟨xw i,H1,I1,.int i t,q⟩
def SlR (X:Cx) (r:V->Option Int->Option Int->Hp->VK->Prop):Prop:=
 ∀(pins:List (af×Obj)) (s:au) (σ:St) (H:Hp) (x:V) (v vl vu:ag) (lo hi:Option Int) (sl:af) (Q:VK),Inv X pins σ H s->RelV x v->s.heap.IsSliceOf sl vl vu .none->rh vl lo->rh vu hi->r x lo hi H Q->
  ∃ T id,uk (.type T) "__getitem__"=pure (xw (.builtin id))/\s.TypeIs v T/\bc (model X.prog X.w) X.A (p0 v (.ref sl)) (EP X pins σ Q) X.xe s
theorem SlR.or (h:SlR X r) (h':SlR X r'):SlR X (fun x lo hi H Q=>r x lo hi H Q∨r' x lo hi H Q):=by
 intro pins s σ H x v vl vu lo hi sl Q I rx hs pl pu q;rcases q with q|q
 ·exact h pins s σ H x v vl vu lo hi sl Q I rx hs pl pu q
 ·exact h' pins s σ H x v vl vu lo hi sl Q I rx hs pl pu q
def tSl (r:V->Option Int->Option Int->Hp->VK->Prop) (te:TE) (tl th:TO):TE:=fun σ H Q=>te σ H fun x H1=>tl σ H1 fun l H2=>th σ H2 fun u H3=>r x l u H3 Q
theorem HE (hr:SlR X r) (he:PE X e te) (hl:PO X lo tl) (hu:PO X hi th):PE X (.Subscript e (.Slice lo hi xx p2) pos) (tSl r te tl th):=by
 intro pins s σ H Q I h;refine Subscript_ (thn (he pins s σ H _ I h) fun v s1 ⟨x,H1,I1,r1,q1⟩=> ?_);refine wpAny_Slice (thn (hl pins s1 σ H1 _ I1 q1) fun vl s2 ⟨l,H2,I2,pl,q2⟩=>thn (hu pins s2 σ H2 _ I2 q2) fun vu s3 ⟨u,H3,I3,pu,q3⟩=> ?_);rw[evalPart_none];refine ar ?_;have I4:Inv X pins σ H3 { s3 with heap:=s3.heap.push { cls:=.type "slice",data:=.fields #[vl,vu,.none] } }:=I3.kept (t':=s3.toks) fun b ob q=>az _ q;obtain⟨T,id,hT,ht,hg⟩:=hr pins { s3 with heap:=s3.heap.push { cls:=.type "slice",data:=.fields #[vl,vu,.none] } } σ H3 x v vl vu l u s3.heap.objs.size Q I4 r1 (Heap.IsSliceOf.new ..) pl pu q3;show bc (model X.prog X.w) X.A (uw e (.Slice lo hi xx p2) v (.ref s3.heap.objs.size)) (EP X pins σ Q) X.xe { s3 with heap:=s3.heap.push { cls:=.type "slice",data:=.fields #[vl,vu,.none] } };exact tail_any (ops:=[.ref s3.heap.objs.size,v]) ht hT hg (by with_unfolding_all rfl)
noncomputable def Kh (xs:List V) (lo hi:Option Int):List V:=(xs.drop (HT.sIx xs.length 0 lo)).take (HT.sIx xs.length xs.length hi-HT.sIx xs.length 0 lo)
theorem qV (xs:List V) (lo hi:Option Int):(Kh xs lo hi).length<=xs.length:=by
 unfold Kh;rw[o5,wj];omega
def Su (K:aa):V->Option Int->Option Int->Hp->VK->Prop:=fun x lo hi H Q=>∃ a xs,x=.ref a/\SqT K H a xs/\
 ¬(HT.sIx xs.length 0 lo=0/\HT.sIx xs.length xs.length hi=xs.length)/\∀ p,H p=xx->Q (.ref p) (upd H p (.tup (Kh xs lo hi)))
theorem Nv:SlR X (Su X.K):=by
 intro pins s σ H x v vl vu lo hi sl Q I rx hs pl pu h;obtain⟨a,xs,rfl,hx,hw,q⟩:=h;cases rx;obtain⟨its,r,ht,hz⟩:=I.tuple hx;have hlen:its.toArray.size=xs.length:=by rw[bi];exact r.length.symm
 refine⟨"tuple",_,jm.lookup,ht.typeIs,?_⟩;refine HT.getItem_tuple_cut ht hs pl pu (by rw[hlen];exact hw) ?_ (by rw[hlen];exact hz);rw[hlen];refine⟨.ref s.heap.objs.size,_,I.laid (t':=s.toks) (o:=.tup (Kh xs lo hi)) (fun b ob q=>az _ q) (bf _) ?_,rfl,q _ (I.hok.fresh (bf _))⟩;exact⟨ci (qV xs lo hi) hz,_,(r.drop (HT.sIx xs.length 0 lo)).take (HT.sIx xs.length xs.length hi-HT.sIx xs.length 0 lo),xm _ _⟩
noncomputable def QL (K:aa):R2:=fun x y H Q=>∃ a b xs ys,x=.ref a/\y=.ref b/\SqT K H a xs/\SqT K H b ys/\xs≠[]/\xs.length+ys.length<=sizeLine/\
 (ys=[]->Q (.ref a) H)/\(ys≠[]->∀ p,H p=xx->Q (.ref p) (upd H p (.tup (xs++ys))))
theorem Vals.nil_iff (r:Vals xs us):us=[]↔xs=[]:=by
 cases r with
 |nil=>simp
 |cons _ _=>simp
theorem Ln:OpR X (ke .Add) (QL X.K):=by
 intro pins s σ H x y v u Q I rx ry h;obtain⟨a,b,xs,ys,rfl,rfl,ha,hb,hx,hz,q1,q2⟩:=h;cases rx;cases ry;obtain⟨its,r1,p1,_⟩:=I.tuple ha;obtain⟨its2,r2,p2,_⟩:=I.tuple hb;refine HT.cat_tup p1 p2 (fun z=>hx (r1.nil_iff.mp z)) (fun z=>⟨.ref a,H,I,rfl,q1 (r2.nil_iff.mp z)⟩) (fun z=> ?_) (by rw[<- r1.length,<- r2.length];exact hz);refine⟨.ref s.heap.objs.size,_,I.laid (t':=s.toks) (o:=.tup (xs++ys)) (fun b ob q=>az _ q) (bf _) ?_,rfl,q2 (fun w=>z (r2.nil_iff.mpr w)) _ (I.hok.fresh (bf _))⟩;exact⟨by rw[bw];exact hz,_,r1.append r2,xm _ _⟩
end
end L2
namespace L2
noncomputable def ixN (n:Nat) (i:Int):Option Nat:=if 0<=i then(if i<n then xw i.toNat else xx) else if -(n:Int)<=i then xw (i+n).toNat else xx
noncomputable def atI {α:Type} (xs:List α) (i:Int):Option α:=(ixN xs.length i).bind fun j=>xs[j]?
theorem Fy (h:ixN n i=xw j):seqIndex? i n=xw j/\j<n/\ -(n:Int)<=i/\i<n:=by
 unfold ixN at h
 by_cases h0:0<=i
 ·rw[if_pos h0] at h
  by_cases h1:i<n
  ·rw[if_pos h1] at h;have e:i.toNat=j:=ca h;exact⟨by rw[wf h0 h1,e],by omega,by omega,h1⟩
  ·rw[if_neg h1] at h;cases h
 ·rw[if_neg h0] at h
  by_cases h1: -(n:Int)<=i
  ·rw[if_pos h1] at h;have e:(i+n).toNat=j:=ca h;exact⟨by rw[vf (by omega) h1,e],by omega,h1,by omega⟩
  ·rw[if_neg h1] at h;cases h
theorem AX {v:α} (h:atI xs i=xw v):∃ j,seqIndex? i xs.length=xw j/\xs[j]?=xw v/\j<xs.length/\ -(xs.length:Int)<=i/\i<xs.length:=by
 unfold atI at h;cases e:ixN xs.length i with
 |none=>rw[e] at h;cases h
 |some j=>
  rw[e] at h;obtain⟨h1,h2,h3,h4⟩:=Fy e;exact⟨j,h1,h,h2,h3,h4⟩
def GP (b:bv):Prop:=∀ o i,subscripted b false o i=operate [o,i] (p0 o i)
def IxR (X:Cx) (r:R2):Prop:=
 ∀(value slice:bv) (pins:List (af×Obj)) (s:au) (σ:St) (H:Hp) (x y:V) (v u:ag) (Q:VK),Inv X pins σ H s->RelV x v->RelV y u->r x y H Q->
  subscripted slice false v u=operate [v,u] (p0 v u)->bc (model X.prog X.w) X.A (uw value slice v u) (EP X pins σ Q) X.xe s
def MtR (X:Cx) (id:String) (r:V->List V->Hp->VK->Prop):Prop:=
 ∀(pins:List (af×Obj)) (s:au) (σ:St) (H:Hp) (x:V) (xs:List V) (v:ag) (us:List ag) (Q:VK),Inv X pins σ H s->RelV x v->Vals xs us->r x xs H Q->
  bc (model X.prog X.w) X.A (call (.builtin id) (v::us)) (EP X pins σ Q) X.xe s
section
variable {X:Cx}{a b:bv}{ta tb:TE}{pos:Pos}
theorem IxR.or (h:IxR X r) (h':IxR X r'):IxR X (fun x y H Q=>r x y H Q∨r' x y H Q):=by
 intro value slice pins s σ H x y v u Q I rx ry q hs;rcases q with q|q
 ·exact h value slice pins s σ H x y v u Q I rx ry q hs
 ·exact h' value slice pins s σ H x y v u Q I rx ry q hs
theorem QQ (hr:IxR X r) (ha:PE X a ta) (hb:PE X b tb) (hs:GP b):PE X (.Subscript a b pos) (tOp r ta tb):=by
 intro pins s σ H Q I h;exact Subscript_ (RB ha hb I h fun v u s2 x y H2 I2 rx ry q=>hr a b pins s2 σ H2 x y v u Q I2 rx ry q (hs _ _))
noncomputable def RV (K:aa):R2:=fun x y H Q=>∃ p xs i v,x=.ref p/\y=.int i/\SqL K H p xs/\atI xs i=xw v/\Q v H
noncomputable def RS (K:aa):R2:=fun x y H Q=>∃ p xs i v,x=.ref p/\y=.int i/\SqT K H p xs/\atI xs i=xw v/\Q v H
noncomputable def RU:R2:=fun x y H Q=>∃ z i c,x=.str z/\y=.int i/\z.length<=sizeLine/\atI z.cps.toList i=xw c/\Q (.str ⟨#[c]⟩) H
theorem ix_list:IxR X (RV X.K):=by
 intro value slice pins s σ H x y v u Q I rx ry h hs;obtain⟨p,xs,i,z,rfl,rfl,hq,he,q⟩:=h;cases rx;obtain⟨t,rfl⟩:=ry;obtain⟨its,r,pl,hz⟩:=I.list hq;obtain⟨j,h1,h2,h3,h4,h5⟩:=AX he;obtain⟨w,ew,rw'⟩:=r.get h2;have hl:=r.length;have hn:=tP;have fin:EP X pins σ Q w s:=⟨z,H,I,rw',q⟩
 by_cases h0:0<=i
 ·have hj:i.toNat=j:=by
   rw[wf h0 h5] at h1;exact ca h1
  exact item_listR pl.isList h0 (by omega) (by rw[hj];simpa using ew) fin hs
 ·have hj:(i+(its.toArray.size:Int)).toNat=j:=by
   rw[vf (by omega) h4] at h1;rw[bi,<- hl];exact ca h1
  exact tu (x:=w) pl.isList.typeIs slot_list_getitem.lookup
   (wpAny_getItem_list_neg (Q:=fun r s'=>r=w/\EP X pins σ Q r s') pl.isList (by omega) (by rw[bi] <;> omega) (by omega) (by rw[hj];simpa using ew) ⟨rfl,fin⟩) hs
theorem ix_tup:IxR X (RS X.K):=by
 intro value slice pins s σ H x y v u Q I rx ry h hs;obtain⟨p,xs,i,z,rfl,rfl,hq,he,q⟩:=h;cases rx;obtain⟨t,rfl⟩:=ry;obtain⟨its,r,pl,hz⟩:=I.tuple hq;obtain⟨j,h1,h2,h3,h4,h5⟩:=AX he;obtain⟨w,ew,rw'⟩:=r.get h2;have hl:=r.length;have hn:=tP;have fin:EP X pins σ Q w s:=⟨z,H,I,rw',q⟩;exact tu (x:=w) pl.typeIs jm.lookup
  (getItem_tuple (j:=j) (Q:=fun r s'=>r=w/\EP X pins σ Q r s') pl (by omega) (by omega) (by rw[bi,<- hl];exact h1) (by simpa using ew) ⟨rfl,fin⟩) hs
theorem Pq:IxR X RU:=by
 intro value slice pins s σ H x y v u Q I rx ry h hs;obtain⟨z,i,c,rfl,rfl,hz,he,q⟩:=h;obtain⟨t,rfl⟩:=rx;obtain⟨t',rfl⟩:=ry;obtain⟨j,h1,h2,h3,h4,h5⟩:=AX he;have hl:z.cps.toList.length=z.length:=by simp[Str.length]
 rw[hl] at h1 h4 h5;have hn:=tP;exact tail_any (typeIs_str s z t) slot_str_getitem.lookup (getItem_str (c:=c) (by
  have e1:decide (i< -(2 ^ 63:Int))=false:=decide_eq_false (by omega);have e2:decide (i≥2 ^ 63)=false:=decide_eq_false (by omega);rw[e1,e2,Bool.or_false]) (by rw[h1];simpa using h2) ⟨.str ⟨#[c]⟩,H,I.tok _,⟨_,rfl⟩,q⟩) hs
noncomputable def rIx (K:aa):R2:=fun x y H Q=>RV K x y H Q∨RS K x y H Q∨RU x y H Q
theorem Pr:IxR X (rIx X.K):=ix_list.or (ix_tup.or Pq)
theorem Dh (its:List ag) (n j:Nat) (u:ag):k9 (·.setIfInBounds j u) { cls:=.type "list",data:=.seq its.toArray n }={ cls:=.type "list",data:=.seq (its.set j u).toArray n }:=by
 simp[k9]
theorem Inv.lst (I:Inv X pins σ H s) (h:H p=xw (.lst xs)):
  ∃(its:List ag) (n:Nat),Vals xs its/\s.heap.get? p=xw { cls:=.type "list",data:=.seq its.toArray n }/\xs.length<=sizeLine:=by
 obtain⟨z,its,n,r,e⟩:=I.hok p _ h;exact⟨its,n,r,e,z⟩
theorem Inv.lstUpd {its its':List ag} (I:Inv X pins σ H s) (h:H p=xw (.lst xs))
  (ho:s.heap.get? p=xw { cls:=.type "list",data:=.seq its.toArray n }) (hf:f { cls:=.type "list",data:=.seq its.toArray n }={ cls:=.type "list",data:=.seq its'.toArray n' }) (r:Vals ys its') (hz:ys.length<=sizeLine) (t:Nat):
  Inv X pins σ (upd H p (.lst ys)) { s with heap:=s.heap.update p f,toks:=t }:=by
 have e:(s.heap.update p f).get? p=xw { cls:=.type "list",data:=.seq its'.toArray n' }:=by
  rw[gz f ho (by rw[hf] <;> rfl),hf]
 refine I.write (x:=p) (e:=p) (by rw[h];trivial) (.inl rfl) (fun b u hb q=>(fw _ _ (bx hb)).trans q) ⟨_,e⟩ ?_;exact⟨hz,its',n',r,e⟩
def QI:V->V->V->Hp->(Hp->Prop)->Prop:=fun o i v H Q=>∃ p xs k j,o=.ref p/\i=.int k/\H p=xw (.lst xs)/\ixN xs.length k=xw j/\Q (upd H p (.lst (xs.set j v)))
theorem Hg:Sd X QI:=by
 intro pins s σ H o i v ov iv u Q I ro ri rv h;obtain⟨p,xs,k,j,rfl,rfl,hp,hj,q⟩:=h;cases ro;obtain⟨t,rfl⟩:=ri;obtain⟨its,n,r,ho,hz⟩:=I.lst hp;obtain⟨h1,h2,h3,h4⟩:=Fy hj;have hl:=r.length;have hn:=tP;have I':Inv X pins σ (upd H p (.lst (xs.set j v))) { s with heap:=s.heap.update p (k9 (·.setIfInBounds j u)) }:=
  I.lstUpd hp ho (Dh its n j u) (r.set rv j) (by rw[ce];exact hz) s.toks
 by_cases h0:0<=k
 ·have hk:k.toNat=j:=by
   rw[wf h0 h4] at h1;exact ca h1
  exact PySem.W.ki_setAt ho h0 (by omega) (by rw[bi,<- hl];exact h4) (by rw[hk];exact⟨_,I',q⟩)
 ·have hk:(k+(its.toArray.size:Int)).toNat=j:=by
   rw[vf (by omega) h3] at h1;rw[bi,<- hl];exact ca h1
  exact PySem.W.ki_setBack ho (by omega) (by rw[bi,<- hl];exact h3) (by omega) (by rw[hk];exact⟨_,I',q⟩)
theorem xH (lo hi:Option Int) (n:Nat):(mf lo hi xx n).1=((HT.sIx n 0 lo:Nat):Int)/\(mf lo hi xx n).2.1=((HT.sIx n n hi:Nat):Int)/\(mf lo hi xx n).2.2=1:=by
 refine⟨?_,?_,rfl⟩
 ·cases lo with
  |none=>simp[mf,HT.sIx]
  |some i=>
   simp only[mf,HT.sIx,wk,show(1:Int)>0 by decide,if_true]
   by_cases h:i<0
   ·simp only[h,if_true] <;> omega
   ·simp only[h,if_false] <;> omega
 ·cases hi with
  |none=>simp[mf,HT.sIx]
  |some i=>
   simp only[mf,HT.sIx,wk,show(1:Int)>0 by decide,if_true]
   by_cases h:i<0
   ·simp only[h,if_true] <;> omega
   ·simp only[h,if_false] <;> omega
theorem uW (its:List ag) (lo hi:Option Int):slicePick its.toArray lo hi xx=((its.drop (HT.sIx its.length 0 lo)).take (HT.sIx its.length its.length hi-HT.sIx its.length 0 lo)).toArray:=by
 obtain⟨h1,h2,h3⟩:=xH lo hi its.toArray.size;unfold slicePick;rw[h1,h2,h3];simp only[sliceRange_one,pick_run,bi] <;> rfl
def Sv (K:aa):V->Option Int->Option Int->Hp->VK->Prop:=fun x lo hi H Q=>∃ a xs,x=.ref a/\SqL K H a xs/\∀ p,H p=xx->Q (.ref p) (upd H p (.lst (Kh xs lo hi)))
theorem sl_list:SlR X (Sv X.K):=by
 intro pins s σ H x v vl vu lo hi sl Q I rx hs pl pu h;obtain⟨a,xs,rfl,hx,q⟩:=h;cases rx;obtain⟨its,r,ht,hz⟩:=I.list hx;have hlen:=r.length;refine⟨"list",_,slot_list_getitem.lookup,ht.isList.typeIs,?_⟩;refine wpAny_getItem_list_slice ht.isList hs pl pu .none (by simp) ?_ (by rw[bi] <;> omega);rw[uW,<- hlen];refine⟨.ref s.heap.objs.size,_,I.laid (t':=s.toks) (o:=.lst (Kh xs lo hi)) (fun b ob q=>az _ q) (bf _) ?_,rfl,q _ (I.hok.fresh (bf _))⟩;exact⟨ci (qV xs lo hi) hz,_,0,(r.drop (HT.sIx xs.length 0 lo)).take (HT.sIx xs.length xs.length hi-HT.sIx xs.length 0 lo),bz _ rfl⟩
theorem CallR.or (h:CallR X f r) (h':CallR X f r'):CallR X f (fun xs H Q=>r xs H Q∨r' xs H Q):=by
 intro pins s σ H xs us Q I rs q;rcases q with q|q
 ·exact h pins s σ H xs us Q I rs q
 ·exact h' pins s σ H xs us Q I rs q
theorem nL:CallR X (.type "list") (fun xs H Q=>∃ p ys,xs=[.ref p]/\(SqL X.K H p ys∨SqT X.K H p ys)/\∀ l,H l=xx->Q (.ref l) (upd H l (.lst ys))):=by
 intro pins s σ H xs us Q I r h;obtain⟨p,ys,rfl,hq,q⟩:=h;obtain⟨u,rfl,rx⟩:=mS r;cases rx;have fin:∀(its:List ag),Vals ys its->ys.length<=sizeLine->∀(h':c9) (c':Nat),(∀ b o',s.heap.get? b=xw o'->h'.get? b=xw o')->
   h'.get? s.heap.objs.size=xw { cls:=.type "list",dict:=xx,data:=.seq its.toArray c',slots:= #[] }->EP X pins σ Q (.ref s.heap.objs.size) { s with heap:=h' }:=fun its r' hz h' c' kp e=>
  ⟨.ref s.heap.objs.size,_,I.laid (t':=s.toks) kp (bf _) (show ObjOk X.prog X.w _ h' _ (.lst ys) from⟨hz,its,c',r',e⟩),rfl,q _ (I.hok.fresh (bf _))⟩
 rcases hq with hq|hq
 ·obtain⟨its,r',pl,hz⟩:=I.list hq;have hlen:=r'.length;obtain⟨o,ho,hc,n,hd⟩:=pl.isList;exact call_list_seq p (.inl rfl) ho hc hd (fun h' c' kp e=>fin its r' hz h' c' kp e) (by simp only[bi] <;> omega)
 ·obtain⟨its,r',pl,hz⟩:=I.tuple hq;have hlen:=r'.length;obtain⟨o,ho,hc,n,hd⟩:=pl;exact call_list_seq p (.inr rfl) ho hc hd (fun h' c' kp e=>fin its r' hz h' c' kp e) (by simp only[bi] <;> omega)
theorem wD:CallR X (.type "tuple") (fun xs H Q=>∃ p ys,xs=[.ref p]/\((SqL X.K H p ys/\∀ l,H l=xx->Q (.ref l) (upd H l (.tup ys)))∨(SqT X.K H p ys/\Q (.ref p) H))):=by
 intro pins s σ H xs us Q I r h;obtain⟨p,ys,rfl,h⟩:=h;obtain⟨u,rfl,rx⟩:=mS r;cases rx;rcases h with⟨hq,q⟩|⟨hq,q⟩
 ·obtain⟨its,r',pl,hz⟩:=I.list hq;have hlen:=r'.length;refine call_tuple_list pl.isList (fun h' kp=> ?_) (by simp only[bi] <;> omega);have I1:Inv X pins σ H { s with heap:=h' }:=I.kept (t':=s.toks) kp;have I2:Inv X pins σ (upd H h'.objs.size (.tup ys)) { s with heap:=h'.push { cls:=.type "tuple",data:=.seq its.toArray } }:=
   I1.laid (t':=s.toks) (fun b o e=>az _ e) (bf _) (show ObjOk X.prog X.w _ _ _ (.tup ys) from⟨hz,its,r',xm _ _⟩)
  exact⟨.ref h'.objs.size,_,I2,rfl,q _ (I1.hok.fresh (bf _))⟩
 ·obtain⟨its,r',pl,hz⟩:=I.tuple hq;exact call_tuple_same pl ⟨.ref p,H,I,rfl,q⟩
def tyV (K:aa) (T:String) (x:V) (H:Hp):Prop:=match x with
 |.str _=>T="str"
 |.int _=>T="int"
 |.ref p=>(T="list"/\∃ xs,SqL K H p xs)∨(T="tuple"/\∃ o,K.lookup p=xw o/\o.cls=.type "tuple"/\o.dict=xx)∨
   (T="dict"/\((∃ kvs,H p=xw (.dK kvs))∨∃ kvs,H p=xw (.dT kvs)))∨(T="set"/\∃ S n,H p=xw (.set S n))
 |_=>False
theorem JE (I:Inv X pins σ H s) (r:RelV x v) (ty:tyV X.K T x H):
  s.TypeIs v T/\∀ a,v=.ref a->∃ ob,s.heap.get? a=xw ob/\ob.dict=xx:=by
 cases x with
 |str z=>
  obtain⟨t,rfl⟩:=r;cases (show T="str" from ty);exact⟨typeIs_str s z t,fun _ e=>nomatch e⟩
 |int i=>
  obtain⟨t,rfl⟩:=r;cases (show T="int" from ty);exact⟨typeIs_int s i t,fun _ e=>nomatch e⟩
 |ref p=>
  cases r;rcases ty with⟨rfl,xs,hq⟩|⟨rfl,o,hk,hc,hd⟩|⟨rfl,hk⟩|⟨rfl,S,n,hk⟩
  ·obtain⟨its,_,pl,_⟩:=I.list hq;refine⟨pl.isList.typeIs,fun a e=> ?_⟩;cases e;obtain⟨o,n,e,c,hd,_⟩:=pl;exact⟨o,e,hd⟩
  ·refine⟨⟨o,I.kIn p o hk,hc⟩,fun a e=> ?_⟩;cases e;exact⟨o,I.kIn _ o hk,hd⟩
  ·have z:∃ o,s.heap.get? p=xw o/\o.ExactDict:=by
    rcases hk with⟨kvs,hk⟩|⟨kvs,hk⟩
    ·obtain⟨_,_,_,_,o,_,_,e,ex,_⟩:=I.hok p _ hk;exact⟨o,e,ex⟩
    ·obtain⟨_,_,_,_,o,_,_,e,ex,_⟩:=I.hok p _ hk;exact⟨o,e,ex⟩
   obtain⟨o,e,ex⟩:=z;refine⟨⟨o,e,ex.1⟩,fun a e2=> ?_⟩;cases e2;exact⟨o,e,ex.2.1⟩
  ·obtain⟨o,_,_,_,e,ex,_⟩:=I.hok p _ hk;refine⟨⟨o,e,ex.1⟩,fun a e2=> ?_⟩;cases e2;exact⟨o,e,ex.2.1⟩
 |_=>exact i9 ty
def Sq (K:aa) (T:String) (r:V->List V->Hp->VK->Prop) (to:TE):TE:=fun σ H Q=>to σ H fun x H1=>tyV K T x H1/\r x [] H1 Q
def tBM (K:aa) (T:String) (r:V->List V->Hp->VK->Prop) (to:TE) (t:TA):TE:=fun σ H Q=>to σ H fun x H1=>tyV K T x H1/\t σ H1 fun xs H2=>r x xs H2 Q
variable {o e:bv}{es:List bv}{to:TE}{t:TA}{name:Str}{apos cpos:Pos}{T id:String}{r:V->List V->Hp->VK->Prop}
theorem NX (pa:PlainAttrs T) (slot:Slot T name id) (hty:typeOf (.builtin id)=pure (.type "method_descriptor")) (hm:MtR X id r) (ho:PE X o to)
  (hbase:iq o name X.env (eval o X.env)=eval o X.env:=by rfl) (hline:(apos.endLine==cpos.line)=true:=by rfl):PE X (.Call (.Attribute o name apos) [] [] cpos) (Sq X.K T r to):=by
 intro pins s σ H Q I h;refine wpAny_Call_method0_late hbase hline (thn (ho pins s σ H _ I h) fun v s1 ⟨x,H1,I1,r1,ty,q1⟩=> ?_);obtain⟨h1,h2⟩:=JE I1 r1 ty;exact⟨T,id,pa,slot,hty,h1,h2,tw rfl (PySem.evalArgs_none (hm pins s1 σ H1 x [] v [] Q I1 r1 .nil q1))⟩
theorem NY (pa:PlainAttrs T) (slot:Slot T name id) (hty:typeOf (.builtin id)=pure (.type "method_descriptor")) (hm:MtR X id r) (ho:PE X o to) (ha:PA X (e::es) t)
  (hbase:iq o name X.env (eval o X.env)=eval o X.env:=by rfl)
  (hfew:((dq cpos (av (e::es) X.env)).all (fun x=> !x.1)&&(kh cpos (i4 [] X.env)).all (fun x=>x.1.isSome)
   &&decide ((e::es).length+([]:List k6).length+(if([]:List k6).isEmpty then 0 else 1)<30))=true:=by rfl)
  (hline:(apos.endLine==cpos.line)=true:=by rfl) (hs:av (e::es) X.env=(false,eval e X.env)::av es X.env:=by rfl) (hplain:(dq cpos (av es X.env)).any (·.1)=false:=by rfl):
  PE X (.Call (.Attribute o name apos) (e::es) [] cpos) (tBM X.K T r to t):=by
 intro pins s σ H Q I h;refine wpAny_Call_method_late hbase hfew hline rfl (thn (ho pins s σ H _ I h) fun v s1 ⟨x,H1,I1,r1,ty,q1⟩=> ?_);obtain⟨h1,h2⟩:=JE I1 r1 ty;refine⟨T,id,pa,slot,hty,h1,h2,?_⟩;have hA:=ha cpos pins s1 σ H1 _ I1 q1;rw[hs] at hA ⊢;refine tw (by show(false||(dq cpos (av es X.env)).any (·.1))=false;rw[hplain] <;> rfl) (ul ?_);exact thn hA fun us s2 ⟨vs,H2,I2,r2,q2⟩=>hm pins s2 σ H2 x vs v us Q I2 r1 r2 q2
end
end L2
namespace L2
def MtM (X:Cx) (id:String) (r:V->List V->Hp->VK->Prop):Prop:=
 ∀(pins:List (af×Obj)) (s:au) (σ:St) (H:Hp) (x:V) (xs:List V) (v:ag) (us:List ag) (Q:VK),Inv X pins σ H s->RelV x v->Vals xs us->r x xs H Q->
  bc (model X.prog X.w) X.A (call (.builtin id) (v::us)) (EP X pins σ Q) X.xe s
theorem Vals.one {x:V}{us:List ag} (h:Vals [x] us):∃ u,us=[u]/\RelV x u:=by
 cases h with|cons r t=>cases t;exact⟨_,rfl,r⟩
theorem Vals.rep (h:Vals xs us):∀ k:Nat,Vals (aj k xs).flatten (aj k us).flatten
 |0=>.nil
 |k+1=>by
  rw[fz,fz,jg,jg];exact Vals.append h (Vals.rep h k)
theorem yQ (its:List ag):∀(k:Nat) (acc:List ag),
  wv (fun x1 x2=>x1++x2) acc.toArray (aj k its.toArray)=(acc++(aj k its).flatten).toArray
 |0,acc=>by simp
 |k+1,acc=>by
  have e:acc.toArray++its.toArray=(acc++its).toArray:=by simp
  have e2:(acc++its)++(aj k its).flatten=acc++(aj (k+1) its).flatten:=by
   rw[fz,jg,gu]
  rw[<- e2,<- yQ its k (acc++its),<- e,fz,ww]
section
variable {X:Cx}{pins:List (af×Obj)}{σ:St}{H:Hp}{s:au}{l b:af}{xs ys zs:List V}
theorem Inv.lset {its its':List ag} (I:Inv X pins σ H s) (hH:H l=xw (.lst xs))
  (e:s.heap.get? l=xw { cls:=.type "list",data:=.seq its.toArray n }) (hf:f its.toArray=its'.toArray) (hv:Vals ys its') (hz:ys.length<=sizeLine):
  Inv X pins σ (upd H l (.lst ys)) { s with heap:=s.heap.update l (k9 f),toks:=t' }:=by
 have q:=PySem.IsL.update e f;rw[hf] at q;refine I.write (x:=l) (e:=l) (by rw[hH];exact trivial) (.inl rfl) (fun b' u hb hu=>(fw s.heap (k9 f) (bx hb)).trans hu) ⟨_,q⟩ ?_;exact⟨hz,its',_,hv,q⟩
theorem Inv.lnew (I:Inv X pins σ H s) (hv:Vals ys its) (hz:ys.length<=sizeLine):
  Inv X pins σ (upd H s.heap.objs.size (.lst ys)) { s with heap:=s.heap.push { cls:=.type "list",data:=.seq its.toArray },toks:=t' }:=
 I.laid (fun _ _ q=>az _ q) (bf _) ⟨hz,its,0,hv,bz _ rfl⟩
theorem Inv.fresh (I:Inv X pins σ H s):H s.heap.objs.size=xx:=I.hok.fresh (bf _)
theorem Inv.lstM (I:Inv X pins σ H s) (hH:H l=xw (.lst xs)):xs.length<=sizeLine/\∃(its:List ag) (n:Nat),Vals xs its/\xs.length=its.length/\s.heap.get? l=xw { cls:=.type "list",data:=.seq its.toArray n }:=by
 obtain⟨z,its,n,r,e⟩:=I.hok l _ hH;exact⟨z,its,n,r,r.length,e⟩
theorem Ib (h:n<=sizeLine):ng n=false:=by
 unfold ng;exact decide_eq_false (by omega)
end
section
variable {X:Cx}
def EH:V->List V->Hp->VK->Prop:=fun x vs H Q=>∃ l xs y,x=.ref l/\vs=[y]/\H l=xw (.lst xs)/\xs.length<sizeLine/\Q .non (upd H l (.lst (xs++[y])))
theorem xY:MtM X "list.append" EH:=by
 intro pins s σ H x vs v us Q I rx rv h;obtain⟨l,xs,y,rfl,rfl,hH,hz,q⟩:=h;cases rx;obtain⟨u,rfl,ru⟩:=rv.one;obtain⟨z,its,n,r,hl,e⟩:=I.lstM hH;refine call_meets ub ⟨_,e,rfl⟩ F.entry_list_append (F.args_list_append_2 _ _) (PySem.list_append l its.toArray n u (by rw[bi];omega)) ⟨e,?_⟩;refine⟨.non,_,I.lset (its':=its++[u]) hH e (by simp) (r.append (.cons ru .nil)) ?_,rfl,q⟩;rw[bw,lw];omega
noncomputable def Sy:R2:=fun x y H Q=>∃ l b xs zs,x=.ref l/\y=.ref b/\H l=xw (.lst xs)/\H b=xw (.lst zs)/\xs.length+zs.length<=sizeLine/\∀ p,H p=xx->Q (.ref p) (upd H p (.lst (xs++zs)))
theorem OD:OpR X (ke .Add) Sy:=by
 intro pins s σ H x y v u Q I rx ry h;obtain⟨l,b,xs,zs,rfl,rfl,hH,hB,hz,q⟩:=h;cases rx;cases ry;obtain⟨z,its,n,r,hl,e⟩:=I.lstM hH;obtain⟨z2,its2,n2,r2,hl2,e2⟩:=I.lstM hB;refine PySem.P.add_list e e2 ?_ (by rw[bi,bi];omega);have ea:its.toArray++its2.toArray=(its++its2).toArray:=by simp
 rw[ea];exact⟨.ref _,_,I.lnew (t':=s.toks) (r.append r2) (by rw[bw];omega),rfl,q _ I.fresh⟩
noncomputable def Sw:R2:=fun x y H Q=>∃ l k xs,x=.ref l/\y=.int k/\H l=xw (.lst xs)/\ -(2 ^ 63)<=k/\k<2 ^ 63/\xs.length*k.toNat<=sizeLine/\
 ∀ p,H p=xx->Q (.ref p) (upd H p (.lst (aj k.toNat xs).flatten))
theorem LW (xs:List α) (k:Nat):(aj k xs).flatten.length=k*xs.length:=by
 induction k with
 |zero=>simp
 |succ k ih=>rw[fz,jg,bw,ih,Nat.succ_mul,Nat.add_comm]
theorem JR:OpR X (ke .Mult) Sw:=by
 intro pins s σ H x y v u Q I rx ry h;obtain⟨l,k,xs,rfl,rfl,hH,h1,h2,hz,q⟩:=h;cases rx;obtain⟨t,rfl⟩:=ry;obtain⟨z,its,n,r,hl,e⟩:=I.lstM hH;have hlen:its.toArray.size*k.toNat<=sizeLine:=by rw[bi,<- hl];exact hz
 have hcap:¬ its.toArray.size*k.toNat>(2 ^ 63-1) / 8:=by
  have:(sizeLine:Nat)<=(2 ^ 63-1) / 8:=by decide
  omega
 have hfit:¬(!Builtin.List.listFitsIndex k)=true:=by
  rw[fitsIndex_both h1 h2];exact cj
 have hlong:¬ ng (its.toArray.size*k.toNat)=true:=by
  rw[Ib hlen];exact cj
 have hnew:wv (fun x1 x2=>x1++x2) #[] (aj (if its.toArray.isEmpty=true then 0 else k.toNat) its.toArray)=(aj k.toNat its).flatten.toArray:=by
  have f0:∀ m:Nat,wv (fun x1 x2=>x1++x2) #[] (aj m its.toArray)=(aj m its).flatten.toArray:=fun m=>by
   have:=yQ its m []
   rw[wx] at this;exact this
  rw[f0];cases its with
  |nil=>simp
  |cons a r'=>rw[if_neg (by simp)]
 refine wpAny_binaryOp_repeat_ref (T:="list") (U:="int") (by decide) ⟨_,e,rfl⟩ (fun s'=>typeIs_int s' k t) noFill_list_mul F.fills_int_mul F.slot_int_rmul repeat_list F.slot_int_index.lookup
  (call_meets F.slot_int_rmul (typeIs_int s k t) F.entry_int_rmul (F.args_int_rmul_2 _ _) (int___rmul___int_list k t l its.toArray n)
   ⟨e,rfl,⟨_,e,rfl⟩,call_meets F.slot_list_mul ⟨_,e,rfl⟩ F.entry_list_mul (F.args_list_mul_2 _ _) (AutoListH.list___mul___list_int_3 l its.toArray n k t hfit hcap hlong) ⟨e,?_⟩⟩)
 rw[hnew];exact⟨.ref _,_,I.lnew (t':=s.toks) (r.rep k.toNat) (by rw[LW,Nat.mul_comm];exact hz),rfl,q _ I.fresh⟩
end
section
variable {prog:di}{w:du}{A:d7}{E:ag->au->Prop}{s:au}
set_option maxRecDepth 100000 in
end
section
variable {X:Cx}
end
end L2
namespace Att
open PySem PySem.W PySem.Calls PyProof.Rows
theorem pW:∀(ns:List Int) (vs:List ag),WellAll P h vs (ns.map WData.int)->k7 vs ns:=by
 intro ns
 induction ns with
 |nil=>
  intro vs w;rw[lu] at w;cases w;exact .nil
 |cons n ns ih=>
  intro vs w;rw[bg] at w;cases w with
  |cons a b=>
   cases a;exact .cons _ _ (ih _ b)
theorem Et {l:OpenLaw} (hn:l.most=xw n)
  (hpre:l.row.toRowW.claim.pre args=true) (hwl:WellAll P h vals args):
  ∃ a vs ns,vals=[cq a]/\args=[WData.list (ns.map WData.int)]/\h.get? a=xw { cls:=.type "list",data:=.seq vs.toArray }/\k7 vs ns/\ns.length<=n:=by
 have hsh:WShape.hasAll [] args [.list .int]=true:=(pre_splitW hpre).1;have hc:l.pre.holds [] { args:=args }=true:=(pre_splitW hpre).2;obtain⟨d,r,rfl,h1,h2⟩:=hasAllW_cons hsh;obtain rfl:=hasAllW_nil h2;obtain⟨xs,rfl,h3⟩:=hasW_list h1;obtain⟨ns,rfl⟩:=items_int h3;have hlen:ns.length<=n:=by
  unfold OpenLaw.pre at hc;have h4:(WTm.not (.lt (.lit (.int (n:Int))) (.len (.arg 0)))).holds [] { args:=[.list (ns.map .int)] }=true:=by
   have h4:=(holds_andW hc).1;rw[hn] at h4;exact h4
  have h5:=condW_of h4 (w_not (w_lt w_lit (w_len_list (w_arg rfl))));rw[ao] at h5;refine Nat.le_of_not_lt fun q=> ?_;have q':(n:Int)<((ns.length:Nat):Int):=by omega
  first
   |(rw[decide_eq_true q'] at h5;exact absurd h5 (by decide))
   |(simp at h5;omega)
 cases hwl with
 |cons w1 w2=>
  cases w2;cases w1 with
  |list ho hall=>exact⟨_,_,ns,rfl,rfl,ho,pW ns _ hall,hlen⟩
theorem EI (l:OpenLaw) (args:List WData):l.row.toRowW.claim.post args (.bool true) args=true:=
 postW_of (r:=l.row.toRowW) (X:=(true==true))
  (show WShape.has [] (.bool true) .bool=true by first|rfl|decide|simp[WShape.has,WShape.arms,WShape.armsAll])
  (show(WTm.eq .res (.lit (.bool true))).value [] { args:=args,res:=xw (.bool true),after:=args }=xw (.bool (true==true)) from w_eq_bool (w_res rfl) w_lit) rfl
theorem attach_call {l:OpenLaw}
  (hn:l.most=xw n) (hdf:d.params.defaults=[])
  (call:∀(w:du) (s₀ s₁:au) (mg mb:Str->Option ag) (fa:af) (o:Obj) (pm cd doc:ag) (a:af) (vs:List ag) (ns:List Int),
   Ground q loose [] XP w s₀ mg mb s₁.heap->YP w s₁.heap->
   s₁.heap.get? fa=xw o->o.data=.func (docDef d.name d.params d.body d.scope pm cd doc)->s₁.heap.CodeRec cd d.name->mg d.name=xw (.ref fa)->
   s₁.heap.get? a=xw { cls:=.type "list",data:=.seq vs.toArray }->k7 vs ns->ns.length<=n->s₁.gens= #[]->
   pd (model l.prog w) p7 (.call (.ref fa) ⟨[.ref a],[]⟩) (fun r s'=>r=.ok (.ret (.bool true))/\OldK s₁.heap s'.heap/\s'.os=s₁.os/\n8 s'.gens) s₁):
  WalkO q loose XP YP l.row.toRowW d [] (fun f vs=>wy f vs):=by
 intro w s₀ s₁ mg mb G Y fa o pm cd doc dV kV ho hd hcd hD hmg hg args vals as hpre hlay hrd hwl hlo;obtain rfl:dV=.none:=Dflts.none hD hdf;obtain rfl:kV=.none:=Dflts.noKw hD;obtain⟨a,vs,ns,rfl,rfl,hobj,hints,hlen⟩:=Et hn hpre hwl;refine enter_call (qy (call w s₀ s₁ mg mb fa o pm cd doc a vs ns G Y ho (fd_plain hd) hcd hmg hobj hints hlen hg) fun r s' hq=> ?_);obtain⟨rfl,h2,h3,h4⟩:=hq;exact⟨.inl ⟨.bool true,.bool true,[],rfl,fun _=>rfl,.bool true,EI l _,fun _=>⟨List.Pairwise.nil,fun _ hm=>(nomatch hm)⟩⟩,h2,h3,h4⟩
section
variable {prog:di}{w:du}{A:d7}{E:ag->au->Prop}{s:au}{K:Frag}
end
end Att
namespace L2
theorem wW:∀ {vs:List ag}{ns:List Int},k7 vs ns->Vals (ns.map V.int) vs
 |_,_,.nil=>.nil
 |_,_,.cons n t h=>.cons ⟨t,rfl⟩ (wW h)
def RF (H:Hp):Prop:=∀ b,H b=xx∨∃ o xs,H b=xw (.frz o (.lst xs))
theorem Im {K:aa}
  (KX:K.In s₁.heap) (hns:s₁.heap.Ns cg mg) (hb:s₁.heap.Ns builtinsNs mb) (hbb:∀ x:Str,x≠"__name__"->mb x=dm x) (hlim:s₁.heap.NoLimit) (hg:s₁.gens= #[])
  (ha:s₁.heap.get? a=xw { cls:=.type "list",data:=.seq vs.toArray }) (hi:k7 vs ns) (hl:ns.length<=sizeLine) (hr:Room k p7)
  (F:∀ base:c9,K.In base->base.Ns cg mg->sN P w K mg base CX k fa fd [x] sp) (hbind:∀(s:au) (u:ag),t9 s fd ⟨[u],[]⟩ [(x,u)])
  (hsp:∀ H:Hp,RF H->SqL K H a (ns.map V.int)->sp [.ref a] H (fun v _=>v=.bl true) fun _ _ _=>False)
  (hCX:∀ H e s',CX [] H s₁ (fun _ _ _=>False) e s'->False):
  pd (model P w) p7 (.call (.ref fa) ⟨[.ref a],[]⟩) (fun r s'=>r=.ok (.ret (.bool true))/\OldK s₁.heap s'.heap/\s'.os=s₁.os/\n8 s'.gens) s₁:=by
 have rv:=wW hi;have lenV:=hi.length
 -- from an abstract heap in which nothing but the script may be tracked
 have core:∀ H:Hp,RF H->SqL K H a (ns.map V.int)->HOk P w H s₁.heap->(∀ b,H b≠xx->b=a)->(H a≠xx->K.lookup a=xx)->
   pd (model P w) p7 (.call (.ref fa) ⟨[.ref a],[]⟩) (fun r s'=>r=.ok (.ret (.bool true))/\OldK s₁.heap s'.heap/\s'.os=s₁.os/\n8 s'.gens) s₁:=by
  intro H hO hS hok hA hK;have base_of:∀ {b:af}{o:Obj},s₁.heap.get? b=xw o->H b=xx->(Iy s₁.heap H).get? b=xw o:=fun e n=>Ix e n;have noA:∀ {b:af}{o:Obj}{es:Array l7}{ep:Nat},s₁.heap.get? b=xw o->o.data=.dict es ep->H b=xx:=fun {b o es ep} e d=>by
   cases q:H b with
   |none=>rfl
   |some u=>
    have e':b=a:=hA b (by rw[q];simp);subst e';rw[ha] at e;cases e;have d':Data.seq vs.toArray _=xn es ep:=d;cases d'
  have nsK:∀ {b:af}{m:Str->Option ag},s₁.heap.Ns b m->(Iy s₁.heap H).Ns b m:=fun {b m} ⟨o,es,ep,e,d,r⟩=>⟨o,es,ep,base_of e (noA e d),d,r⟩;have hKb:K.In (Iy s₁.heap H):=fun b o e=>base_of (KX b o e) (by
   cases q:H b with
   |none=>rfl
   |some u=>
    have e':b=a:=hA b (by rw[q];simp);subst e';rw[hK (by rw[q];simp)] at e;cases e)
  have hM:Mod K mg (Iy s₁.heap H):=⟨hKb,nsK hns,⟨mb,nsK hb,hbb⟩,let ⟨mc,h1,h2⟩:=hlim;⟨mc,nsK h1,h2⟩⟩;have e0:Env0 P w K mg (Iy s₁.heap H) p7 [] s₁ H:=⟨rfl,hM,fun b o e=>Lq e,vc (FE _ _),trivial,fun b hb=>absurd (show b∈([]:List af) from hb) (by simp),hok,.of_eq hg⟩;refine qy ((F _ hKb (nsK hns)).run p7 [] s₁ H ⟨[.ref a],[]⟩ [.ref a] [.ref a] _ _ hr e0 (hbind s₁ (.ref a)) (.cons rfl .nil) (hsp H hO hS)) fun r s' h=> ?_;cases r with
  |error e=>exact(hCX H e s' h).elim
  |ok fl=>
   cases fl with
   |next=>exact i9 h
   |brk=>exact i9 h
   |cont=>exact i9 h
   |ret u=>
    obtain⟨v,H',os,bare,un,hok',r',q⟩:=h;have q':v=.bl true:=q;subst q';obtain rfl:u=uj true:=r';refine⟨rfl,OldK.of_keep fun b o e=> ?_,os,bare⟩;cases q:H b with
    |none=>exact un.keep b o e q (by intro z;exact absurd (show b∈([]:List af) from z) (by simp)) (by simp)
    |some u=>
     rcases hO b with z|⟨ob,xs,z⟩
     ·rw[q] at z;cases z
     ·have z2:=un.frzs b ob _ z;obtain⟨e1,_⟩:=hok b _ z;obtain⟨e2,_⟩:=hok' b _ z2;rw[e] at e1;cases e1;exact e2
 cases hk:K.lookup a with
 |some o=>
  -- the script is one of the module's own objects
  have e:=KX a o hk;rw[ha] at e;cases e;refine core (fun _=>xx) (fun _=>.inl rfl) (.inr ⟨_,vs.toArray,_,hk,rfl,rfl,rfl,by rw[bi,lenV];exact hl,by simpa using rv⟩) (fun b u z=>by have z':(xx:Option HO)=xw u:=z;cases z') (fun b z=>absurd rfl z) fun z=>absurd rfl z
 |none=>
  refine core (fun b=>if b=a then xw (.frz { cls:=.type "list",data:=.seq vs.toArray } (.lst (ns.map V.int))) else xx) (fun b=> ?_) (.inl (.inr ⟨{ cls:=.type "list",data:=.seq vs.toArray },if_pos rfl⟩)) (fun b u z=> ?_) (fun b z=> ?_) fun _=>hk
  ·by_cases hb:b=a
   ·exact .inr ⟨_,_,if_pos hb⟩
   ·exact .inl (if_neg hb)
  ·by_cases hb:b=a
   ·have z':=(if_pos hb).symm.trans z;cases z';subst hb;exact⟨ha,by rw[ao];exact hl,vs,_,rv,ha⟩
   ·have z':=(if_neg hb).symm.trans z;cases z'
  ·by_cases hb:b=a
   ·exact hb
   ·exact absurd (if_neg hb) z
end L2
namespace L2
theorem walk_of {l:wz}{K:Params->aa}{CX:du->CXT}{sp:du->Sp}
  (hn:l.most=xw n) (hn2:n<=sizeLine) (hdf:d.params.defaults=[]) (hr:Room k p7)
  (hY:∀(w:du) (h:c9),YP w h->(K w.params).In h)
  (F:∀(w:du) (mg:Str->Option ag) (fa:af) (h:c9),(K w.params).In h->h.Ns cg mg->mg d.name=xw (.ref fa)->
   ∃ fd:jy,(∀(s:au) (u:ag),t9 s fd ⟨[u],[]⟩ [(x,u)])/\
    ∀ base:c9,(K w.params).In base->base.Ns cg mg->sN l.prog w (K w.params) mg base (CX w) k fa fd [x] (sp w))
  (hsp:∀(w:du) (H:Hp) (a:af) (ns:List Int),ns.length<=n->RF H->SqL (K w.params) H a (ns.map V.int)->sp w [.ref a] H (fun v _=>v=.bl true) fun _ _ _=>False)
  (hCX:∀(w:du) (H:Hp) (s:au) (e:ag) (s':au),CX w [] H s (fun _ _ _=>False) e s'->False):
  xp q loose XP YP l.row.toRowW d [] (fun f vs=>wy f vs):=by
 refine Att.attach_call hn hdf fun w s₀ s₁ mg mb fa o pm cd doc a vs ns G Y ho hd hcd hmg hobj hints hlen hg=> ?_;have KX:=hY w _ Y;obtain⟨fd,hb,hF⟩:=F w mg fa _ KX G.T.g hmg;exact Im KX G.T.g G.T.b G.T.builtins G.T.nolimit hg hobj hints (ci hlen hn2) hr hF hb (fun H hO hS=>hsp w H a ns hlen hO hS) fun H e s'=>hCX w H s₁ e s'
end L2
namespace L2
noncomputable def cA (s:cz) (j:Nat):cz:=match s with
 |.ClassDef _ _ _ body _ _ _ _ _ _ _=>body.getD j (.Pass ⟨0,0,0,0⟩)
 |_=>.Pass ⟨0,0,0,0⟩
noncomputable def iL (s:cz):Arguments:=match s with
 |.FunctionDef _ a _ _ _ _ _ _ _ _=>a
 |_=>{ posonlyargs:=[],args:=[],vararg:=xx,kwonlyargs:=[],kw_defaults:=[],kwarg:=xx,defaults:=[] }
noncomputable def fZ (s:cz):List cz:=match s with
 |.FunctionDef _ _ b _ _ _ _ _ _ _=>b
 |_=>[]
noncomputable def bE (s:cz):kt:=match s with
 |.FunctionDef _ _ _ _ _ _ sc _ _ _=>sc
 |_=>{ kind:=.function,names:=[],isGenerator:=false,isCoroutine:=false }
structure Fun (K:aa) (x qual:Str) (st:cz) (f:af) (fd:jy):Prop where
 ex:∃(oc:ag) (od:Option af) (kV doc pm:ag) (an:Option af) (cdv ct:ag) (osl:Array (Option ag)),
  fd=i5 x qual (iL st) (fZ st) (bE st) .none kV doc pm an cdv ct/\K.lookup f=xw ⟨oc,od,.func fd,osl⟩/\ka K cdv qual=true
 kp:gy K (.ref f)=true
section
variable {P:di}{w:du}{K:aa}{mg:Str->Option ag}{base:c9}
theorem Fun.binds {st:cz} (F:Fun K x qual st f fd)
  (h:∀(kV doc pm:ag) (an:Option af) (cdv ct:ag) (us:List ag),us.length=ps.length->bindArgs (i5 x qual (iL st) (fZ st) (bE st) .none kV doc pm an cdv ct) ⟨us,[]⟩=pure (ps.zip us)):Binds K fd ps []:=by
 obtain⟨oc,od,kV,doc,pm,an,cdv,ct,osl,rfl,lk,hcd⟩:=F.ex;exact .all (h kV doc pm an cdv ct)
theorem Kc {st:cz}{kV doc pm cdv ct:ag} (l:K.lookup f=xw ⟨oc,od,.func (i5 x qual (iL st) (fZ st) (bE st) .none kV doc pm an cdv ct),osl⟩)
  (c:ka K cdv qual=true) (k:gy K (.ref f)=true):Fun K x qual st f (i5 x qual (iL st) (fZ st) (bE st) .none kV doc pm an cdv ct):=⟨⟨oc,od,kV,doc,pm,an,cdv,ct,osl,rfl,l,c⟩,k⟩
end
theorem Ro (hr:Room k A):A.units+1<eu:=nh (Nat.add_le_add_left (by decide:1<=64) _) hr.units
section
variable {X:Cx}
end
theorem Nc {A B:Prop} (h:B):if false=true then A else B:=by
 rw[if_neg cj];exact h
theorem Nb {A B:Prop} (h:A):if true=true then A else B:=by
 rw[if_pos rfl];exact h
def Same (H H':Hp):Prop:=∀ b o,H b=xw o->H' b=xw o
theorem Same.refl (H:Hp):Same H H:=fun _ _ h=>h
theorem Same.trans (a:Same H H1) (b:Same H1 H2):Same H H2:=fun c o h=>b c o (a c o h)
theorem Same.free (e:Same H H') (h:H' l=Option.none):H l=Option.none:=by
 cases q:H l with
 |none=>rfl
 |some o=>
  rw[e l o q] at h;cases h
end L2
end
section
namespace L2
section
variable {κ:Type} [DecidableEq κ]
noncomputable def wX (kvs:List (κ×V)) (k:κ):Option V:=(kvs.find? fun kv=>decide (kv.1=k)).map (·.2)
noncomputable def nC (kvs:List (κ×V)) (k:κ) (v:V):List (κ×V):=
 if(kvs.any fun kv=>decide (kv.1=k))=true then kvs.map (fun kv=>if kv.1=k then(kv.1,v) else kv) else kvs++[(k,v)]
noncomputable def yV (kvs:List (κ×V)) (k:κ):List (κ×V):=kvs.filter fun kv=>decide (kv.1≠k)
theorem nZ {k:κ} (e:p.1=k):wX (p::r) k=xw p.2:=by simp[wX,hV,e]
theorem lI {k:κ} (e:¬ p.1=k):wX (p::r) k=wX r k:=by simp[wX,hV,e]
theorem By (k:κ):∀ kvs:List (κ×V),(kvs.any fun kv=>decide (kv.1=k))=(wX kvs k).isSome
 |[]=>rfl
 |p::r=>by
  rw[ma]
  by_cases e:p.1=k
  ·simp only[nZ e,decide_eq_true e,Bool.true_or,vg]
  ·rw[lI e,decide_eq_false e,Bool.false_or];exact By k r
theorem iG (kvs:List (κ×V)) (k:κ) (v:V):(nC kvs k v).length<=kvs.length+1:=by
 unfold nC;split
 ·rw[ao];omega
 ·rw[bw,b7,k8];omega
theorem RelO.isSome_eq (r:RelO o u):o.isSome=u.isSome:=by
 cases o with
 |none=>cases u with
  |none=>rfl
  |some _=>exact(show False from r).elim
 |some _=>cases u with
  |none=>exact(show False from r).elim
  |some _=>rfl
theorem KV.val (r:KV kvs vs) (k:κ):RelO (wX kvs k) (qx vs k):=by
 unfold KV at r
 induction r with
 |nil=>exact ga
 |@cons p q ps qs h t ih=>
  obtain⟨h1,h2⟩:=h
  by_cases e:p.1=k
  ·have e':q.1=k:=h1.symm.trans e;have b:qx (q::qs) k=xw q.2:=by simp[qx,hV,e']
   rw[nZ e,b];exact h2
  ·have e':¬ q.1=k:=fun z=>e (h1.trans z);have b:qx (q::qs) k=qx qs k:=by simp[qx,hV,e']
   rw[lI e,b];exact ih
theorem KV.any (r:KV kvs vs) (k:κ):(kvs.any fun kv=>decide (kv.1=k))=vs.any fun kv=>decide (kv.1=k):=by
 unfold KV at r
 induction r with
 |nil=>rfl
 |cons h t ih=>rw[ma,ma,ih,h.1]
theorem KV.repl (r:KV kvs vs) (k:κ) (ry:RelV y u):
  KV (kvs.map fun kv=>if kv.1=k then(kv.1,y) else kv) (vs.map fun kv=>if kv.1=k then(kv.1,u) else kv):=by
 unfold KV at r ⊢
 induction r with
 |nil=>exact .nil
 |@cons p q ps qs h t ih=>
  rw[bg,bg];refine .cons ?_ ih;obtain⟨h1,h2⟩:=h
  by_cases e:p.1=k
  ·rw[if_pos e,if_pos (h1.symm.trans e)];exact⟨h1,ry⟩
  ·rw[if_neg e,if_neg (fun z=>e (h1.trans z))];exact⟨h1,h2⟩
theorem KV.put (r:KV kvs vs) (k:κ) (ry:RelV y u):KV (nC kvs k y) (stored vs k u):=by
 unfold nC stored;rw[r.any k]
 by_cases e:(vs.any fun kv=>decide (kv.1=k))=true
 ·rw[if_pos e,if_pos e];exact r.repl k ry
 ·rw[if_neg e,if_neg e];exact Paired.snoc r ⟨rfl,ry⟩
theorem KV.length {vs:List (κ×ag)} (r:KV kvs vs):kvs.length=vs.length:=jh r
theorem Jh (kvs:List (κ×V)) (k:κ):(yV kvs k).length<=kvs.length:=fe _ _
end
theorem Fw (r:RelV (kV k) u):(aO P w).is k u=true:=by
 cases k with
 |inl i=>obtain⟨t,e⟩:=(show ∃ t,u=u8 i t from r);subst e;exact Ap P w i t
 |inr x=>obtain⟨t,e⟩:=(show ∃ t,u=va x t from r);subst e;exact Ao P w x t
theorem yF:∀ {ks:List Key}{us:List ag},Vals (ks.map kV) us->ItemsAre (aO P w) ks us
 |[],_,r=>by rw[lu] at r;cases r;exact .nil
 |k::ks,_,r=>by
  rw[bg] at r;cases r with
  |cons h t=>exact .cons (Fw h) (yF t)
abbrev KT (H:Hp):List (List Key×V)->List (List Key×af×ag)->Prop:=kc fun p q=>p.1=q.1/\H q.2.1=xw (.tup (p.1.map kV))/\RelV p.2 q.2.2
theorem KT.val (r:KT H kvs xs) (k:List Key):RelO (wX kvs k) ((l9 xs k).map (·.2)):=by
 induction r with
 |nil=>exact ga
 |@cons p q ps qs h t ih=>
  obtain⟨h1,_,h2⟩:=h
  by_cases e:p.1=k
  ·have e':q.1=k:=h1.symm.trans e;have b:l9 (q::qs) k=xw q.2:=by simp[l9,hV,e']
   rw[nZ e,b];exact h2
  ·have e':¬ q.1=k:=fun z=>e (h1.trans z);have b:l9 (q::qs) k=l9 qs k:=by simp[l9,hV,e']
   rw[lI e,b];exact ih
theorem KT.repl (r:KT H kvs xs) (k:List Key) (ry:RelV y u):
  KT H (kvs.map fun kv=>if kv.1=k then(kv.1,y) else kv) (xs.map (sj k u)):=by
 induction r with
 |nil=>exact .nil
 |@cons p q ps qs h t ih=>
  rw[bg,bg];refine .cons ?_ ih;obtain⟨h1,h2,h3⟩:=h;unfold sj
  by_cases e:p.1=k
  ·rw[if_pos e,if_pos (h1.symm.trans e)];exact⟨h1,h2,ry⟩
  ·rw[if_neg e,if_neg (fun z=>e (h1.trans z))];exact⟨h1,h2,h3⟩
theorem KT.put (r:KT H kvs xs) (k:List Key) (hb:H b=xw (.tup (k.map kV))) (ry:RelV y u):
  KT H (nC kvs k y) (jx xs k b u):=by
 have e:(kvs.any fun kv=>decide (kv.1=k))=(l9 xs k).isSome:=by
  rw[By,(r.val k).isSome_eq,qo]
 unfold nC jx;rw[e]
 by_cases q:(l9 xs k).isSome=true
 ·rw[if_pos q,if_pos q];exact r.repl k ry
 ·rw[if_neg q,if_neg q];exact Paired.snoc r ⟨rfl,hb,ry⟩
theorem KT.keeps (r:KT H kvs xs) (ht:∀ b ys,H b=xw (.tup ys)->H' b=xw (.tup ys)):KT H' kvs xs:=
 kc.mapP r fun _ _ z=>⟨z.1,ht _ _ z.2.1,z.2.2⟩
section
variable {P:di}{w:du}{H:Hp}{h:c9}{a:af}
theorem NA (ok:HOk P w H h) (e:Rd H a u):ObjOk P w H h a u:=e.ok ok
theorem Jj (ok:HOk P w H h) (e:Rd H a (.dK kvs)):kvs.length<=sizeLine/\(a==fy)=false/\∃ vs,KV kvs vs/\h.DictOf (aO P w) a vs:=
 show ObjOk P w H h a (.dK kvs) from NA ok e
theorem PN (ok:HOk P w H h) (e:H a=xw (.dK kvs)):kvs.length<=sizeLine/\(a==fy)=false/\∃ vs,KV kvs vs/\h.DictOf (aO P w) a vs:=Jj ok (.inl e)
theorem yD (ok:HOk P w H h) (e:H a=xw (.tup (ks.map kV))):(b4 (aO P w)).is h ks a:=by
 obtain⟨_,its,r,o,h1,h2,n,h3⟩:=(show ObjOk P w H h a (.tup (ks.map kV)) from ok a _ e);exact⟨o,its.toArray,n,h1,h2,h3,by simpa using yF r⟩
theorem Jd (ok:HOk P w H h) (e:Rd H a (.dT kvs)):kvs.length<=sizeLine/\(a==fy)=false/\
  ∃ xs,KT H kvs xs/\h.DictOfH (b4 (aO P w)) a xs:=by
 obtain⟨z,y,xs,r,o,es,ep,h1,h2,h3,h4,h5⟩:=(show ObjOk P w H h a (.dT kvs) from NA ok e);refine⟨z,y,xs,r,o,es,ep,h1,h2,h3,h4,fun x hx=> ?_,h5⟩;have all:∀ {l:List (List Key×V)}{m:List (List Key×af×ag)},KT H l m->∀ x∈m,(b4 (aO P w)).is h x.1 x.2.1:=by
  intro l m q
  induction q with
  |nil=>intro x hx;exact nomatch hx
  |@cons p q ps qs hq t ih=>
   intro x hx;rcases ak.mp hx with e|hx
   ·subst e;exact yD ok (by rw[<- hq.1];exact hq.2.1)
   ·exact ih x hx
 exact all r x hx
theorem Je (ok:HOk P w H h) (e:H a=xw (.dT kvs)):kvs.length<=sizeLine/\(a==fy)=false/\
  ∃ xs,KT H kvs xs/\h.DictOfH (b4 (aO P w)) a xs:=Jd ok (.inl e)
end
def DGet (H:Hp) (a:af) (y:V) (r:Option V):Prop:=
 (∃ kvs k,Rd H a (.dK kvs)/\y=kV k/\r=wX kvs k)∨∃ kvs k b,Rd H a (.dT kvs)/\y=.ref b/\H b=xw (.tup (k.map kV))/\r=wX kvs k
def DPut (H:Hp) (a:af) (y v:V) (H':Hp):Prop:=
 (∃ kvs k,H a=xw (.dK kvs)/\y=kV k/\kvs.length<sizeLine/\H'=upd H a (.dK (nC kvs k v)))∨
 ∃ kvs k b,H a=xw (.dT kvs)/\y=.ref b/\H b=xw (.tup (k.map kV))/\kvs.length<sizeLine/\H'=upd H a (.dT (nC kvs k v))
theorem DGet.k {k:Key} (e:H a=xw (.dK kvs)):DGet H a (kV k) (wX kvs k):=.inl ⟨kvs,k,.inl e,rfl,rfl⟩
theorem DGet.t {k:List Key} (e:H a=xw (.dT kvs)) (eb:H b=xw (.tup (k.map kV))):DGet H a (.ref b) (wX kvs k):=.inr ⟨kvs,k,b,.inl e,rfl,eb,rfl⟩
theorem DPut.k {k:Key} (e:H a=xw (.dK kvs)) (hl:kvs.length<sizeLine):DPut H a (kV k) v (upd H a (.dK (nC kvs k v))):=.inl ⟨kvs,k,e,rfl,hl,rfl⟩
theorem DPut.t {k:List Key} (e:H a=xw (.dT kvs)) (eb:H b=xw (.tup (k.map kV))) (hl:kvs.length<sizeLine):
  DPut H a (.ref b) v (upd H a (.dT (nC kvs k v))):=.inr ⟨kvs,k,b,e,rfl,eb,hl,rfl⟩
section
variable {X:Cx}{pins:List (af×Obj)}{σ:St}{H:Hp}{s:au}{a:af}{y v:V}{u r:ag}{o:Option V}{A:d7}{E:ag->au->Prop}
theorem Inv.big (I:Inv X pins σ H s):fy<s.heap.objs.size:=by
 have h:cg<s.heap.objs.size:=(I.mod.glob.keeps I.bk).lt;exact Nat.lt_trans (by decide) h
theorem Gx (hu:A.units+1<eu) (I:Inv X pins σ H s) (g:DGet H a y (xw v)) (ry:RelV y u) (h:∀ w' s',Inv X pins σ H s'->RelV v w'->Q w' s'):
  bc (model X.prog X.w) A (p0 (.ref a) u) Q E s:=by
 rcases g with⟨kvs,k,e,ey,l⟩|⟨kvs,k,b,e,ey,eb,l⟩
 ·subst ey;obtain⟨z,hd,vs,rel,dd⟩:=Jj I.hok e;obtain⟨w',hw,rw'⟩:=RelO.some_of (v:=v) (o:=qx vs k) (by rw[l];exact rel.val k);exact wpAny_getItem_of (Fw ry) dd.mapOf hw (h w' _ (I.tok _) rw')
 ·subst ey;cases (show u=cq b from ry);obtain⟨z,hd,xs,rel,dd⟩:=Jd I.hok e;obtain⟨w',hw,rw'⟩:=RelO.some_of (v:=v) (o:=(l9 xs k).map (·.2)) (by rw[l];exact rel.val k);obtain⟨p,hp,hp2⟩:=ou.mp hw;refine wpAny_getItem_heap (lh hu) (yD I.hok eb) dd hp ?_;rw[hp2];exact h w' _ (I.tok _) rw'
theorem SN (hu:A.units+1<eu) (I:Inv X pins σ H s) (g:DGet H a y o) (ry:RelV y u) (h:∀ s',Inv X pins σ H s'->Q (.bool o.isSome) s'):
  bc (model X.prog X.w) A (fu .In u (.ref a)) Q E s:=by
 rcases g with⟨kvs,k,e,ey,l⟩|⟨kvs,k,b,e,ey,eb,l⟩
 ·subst ey;obtain⟨z,hd,vs,rel,dd⟩:=Jj I.hok e;refine wpAny_in_of (Fw ry) hd dd.mapOf ?_;rw[<- (rel.val k).isSome_eq,<- l];exact h _ (I.tok _)
 ·subst ey;cases (show u=cq b from ry);obtain⟨z,hd,xs,rel,dd⟩:=Jd I.hok e;refine wpAny_in_heap (lh hu) (yD I.hok eb) hd dd ?_;have q:=(rel.val k).isSome_eq;rw[qo] at q;rw[<- q,<- l];exact h _ (I.tok _)
theorem qO (I:Inv X pins σ H s) (mu:Mut (H a)) (hs:f8 a s.heap h') (he:∃ q,h'.get? a=xw q) (new:ObjOk X.prog X.w (upd H a ob) h' a ob):
  Inv X pins σ (upd H a ob) { s with heap:=h',toks:=t' }:=
 I.write (x:=a) (e:=a) mu (.inl rfl) (fun b q hb z=>(hs.2 b hb).trans z) he new
theorem Kf (z:kvs.length<=sizeLine) (hd:(a==fy)=false) (rel:KV kvs vs) (dd:h'.DictOf (aO P w) a vs):
  ObjOk P w H' h' a (.dK kvs):=⟨z,hd,vs,rel,dd⟩
theorem Gs (hu:A.units+1<eu) (I:Inv X pins σ H s) (g:DPut H a y v H') (ry:RelV y u) (rv:RelV v r) (h:∀ s',Inv X pins σ H' s'->Q () s'):
  bc (model X.prog X.w) A (setItem (.ref a) u r) Q E s:=by
 rcases g with⟨kvs,k,e,ey,l,eH⟩|⟨kvs,k,b,e,ey,eb,l,eH⟩
 ·subst ey eH;obtain⟨z,hd,vs,rel,dd⟩:=PN I.hok e;have hz:vs.length<=sizeLine:=by rw[<- rel.length];exact z
  have hl:(nC kvs k v).length<=sizeLine:=by have:=iG kvs k v;omega
  refine wpAny_setItem_pairs (hsz:=hz) (Fw ry) dd fun h' dd' hs=>h _ ?_;have he:∃ q,h'.get? a=xw q:=let ⟨q,_,_,hq,_⟩:=dd';⟨q,hq⟩;exact qO I (by rw[e];exact ga) hs he (Kf hl hd (rel.put k rv) dd')
 ·subst ey eH;cases (show u=cq b from ry);obtain⟨z,hd,xs,rel,dd⟩:=Je I.hok e;have hz:xs.length<=sizeLine:=by rw[<- jh rel];exact z
  have hl:(nC kvs k v).length<=sizeLine:=by have:=iG kvs k v;omega
  refine wpAny_setItem_heap (hsz:=hz) (lh hu) (yD I.hok eb) dd fun h' dd' hs=>h _ ?_;obtain⟨q,es,ep,hq,h2,h3,h4,_,h5⟩:=dd';refine qO I (by rw[e];exact ga) hs ⟨q,hq⟩ ⟨hl,hd,_,(rel.put k eb rv).keeps fun c ys ec=> ?_,q,es,ep,hq,h2,h3,h4,h5⟩;rw[aH (LQ ec e (fun z=>nomatch z))];exact ec
end
section
variable {X:Cx}{pins:List (af×Obj)}{σ:St}{H:Hp}{s:au}{a:af}{kvs:List (Key×V)}{k:Key}{u:ag}{A:d7}{E:ag->au->Prop}
end
def RG (i:bv):Prop:=∀ ov iv,subscripted i false ov iv=operate [ov,iv] (p0 ov iv)
theorem Kq {T id:String}
  (hl:uk (.type T) "__getitem__"=pure (xw (.builtin id))) (hs:RG slice)
  (h:bc (model prog w) A (eval value env) (fun o s₁=>bc (model prog w) A (eval slice env) (fun i s₂=>s₂.TypeIs o T/\bc (model prog w) A (p0 o i) Q E s₂) E s₁) E s):
  bc (model prog w) A (eval (.Subscript value slice pos) env) Q E s:=by
 refine Subscript_ (hZ h (fun o s₁ h₁=>hZ h₁ (fun i s₂ h₂=> ?_) fun _ _ x=>x) fun _ _ x=>x);obtain⟨hT,h₂⟩:=h₂;unfold uw;refine ae ?_;rw[getitemInPython_of_ne hT.not_modules];refine ae (wpAny_specialOf hT hl ?_);have fin:bc (model prog w) A (subscripted slice false o i) (fun r s₃=>bc (model prog w) A (letTemporaryGo value o r >>= fun _=>pure r) Q E s₃) E s₂:=by
  rw[hs o i];exact wpAny_operating (hZ h₂ (fun r s₃ h₃=>ae (wpAny_letTemporaryGo (ar h₃))) fun _ _ x=>x)
 first
  |exact ar (ae fin)
  |exact ae (ar (ae fin))
  |exact ae fin
theorem AJ (I:Inv X pins σ H s) (g:DGet H a y o):s.TypeIs (.ref a) "dict":=by
 rcases g with⟨kvs,k,e,_,_⟩|⟨kvs,k,b,e,_,_,_⟩
 ·obtain⟨_,_,vs,_,dd⟩:=Jj I.hok e;exact dd.typeIs
 ·obtain⟨_,_,xs,_,dd⟩:=Jd I.hok e;exact dd.typeIs
def QB (td ty:TE):TE:=fun σ H Q=>td σ H fun x H1=>ty σ H1 fun y H2=>∃ a v,x=.ref a/\DGet H2 a y (xw v)/\Q v H2
def So (ty td:TE):TE:=fun σ H Q=>ty σ H fun y H1=>td σ H1 fun x H2=>∃ a o,x=.ref a/\DGet H2 a y o/\Q (.bl o.isSome) H2
def QG (td ty tv:TE):TS:=fun D σ H=>tv σ H fun v H1=>td σ H1 fun x H2=>ty σ H2 fun y H3=>∃ a H4,x=.ref a/\DPut H3 a y v H4/\D.nx σ H4
section
variable {X:Cx}{o i e value:bv}{pos pos' tpos:Pos}{td ty tv:TE}
theorem KR (hu:X.A.units+1<eu) (ho:PE X o td) (hi:PE X i ty) (hs:RG i):PE X (.Subscript o i pos) (QB td ty):=by
 intro pins s σ H Q I h;refine Kq PySem.F.slot_dict_getitem.lookup hs (thn (ho pins s σ H _ I h) fun u s1 ⟨x,H1,I1,rx,q1⟩=>thn (hi pins s1 σ H1 _ I1 q1) fun iv s2 ⟨y,H2,I2,ry,a,v,ex,g,q2⟩=> ?_);subst ex;obtain rfl:u=cq a:=rx;exact⟨AJ I2 g,Gx hu I2 g ry fun w' s3 I3 rw'=>⟨v,H2,I3,rw',q2⟩⟩
theorem Oa (hu:X.A.units+1<eu) (hi:PE X i ty) (ho:PE X o td):PC X .In i o (So ty td):=by
 intro pins s σ H Q I h;refine thn (hi pins s σ H _ I h) fun iv s1 ⟨y,H1,I1,ry,q1⟩=>thn (ho pins s1 σ H1 _ I1 q1) fun u s2 ⟨x,H2,I2,rx,a,ov,ex,g,q2⟩=> ?_;subst ex;obtain rfl:u=cq a:=rx;exact SN hu I2 g ry fun s3 I3=>⟨.bl ov.isSome,H2,I3,rfl,q2⟩
theorem KG (hu:X.A.units+1<eu) (ho:PE X o td) (hi:PE X i ty) (hv:PE X value tv) (hs:jo value (xw (.Subscript o i pos')) pos.line X.env=pure false):
  PS X (.Assign [.Subscript o i pos'] value pos) (QG td ty tv):=by
 intro pins s σ H D I h;refine wpAny_Assign_Subscript (thn (hv pins s σ H _ I h) fun r s1 ⟨v,H1,I1,rv,q1⟩=>thn (ho pins s1 σ H1 _ I1 q1) fun u s2 ⟨x,H2,I2,rx,q2⟩=>thn (hi pins s2 σ H2 _ I2 q2) fun iv s3 ⟨y,H3,I3,ry,a,H4,ex,g,q3⟩=> ?_) hs;subst ex;obtain rfl:u=cq a:=rx;exact Gs hu I3 g ry rv fun s4 I4=>⟨σ,H4,I4,q3⟩
end
theorem Jk (h:c9) (hb:fy<h.objs.size):ObjOk P w H (h.push { cls:=.type "dict",data:=.dict #[] }) h.objs.size (.dK []):=
 ⟨iz _,beq_eq_false_iff_ne.mpr (bx (ck hb)),[],.nil,Heap.DictOf.new h⟩
theorem Jf (h:c9) (hb:fy<h.objs.size):ObjOk P w H (h.push { cls:=.type "dict",data:=.dict #[] }) h.objs.size (.dT []):=
 ⟨iz _,beq_eq_false_iff_ne.mpr (bx (ck hb)),[],.nil,_,#[],0,bz _ rfl,⟨rfl,rfl,rfl⟩,rfl,rfl,xj⟩
def Nq:TE:=fun _ H Q=>∀ p,H p=xx->Q (.ref p) (upd H p (.dT []))
section
variable {X:Cx}{pos:Pos}
theorem HH:PE X (.Dict [] [] pos) Nq:=fun pins s σ H Q I h=>
 wpAny_Dict_empty ⟨.ref s.heap.objs.size,_,I.laid (a:=s.heap.objs.size) (o:=.dT []) (t':=s.toks) (fun _ _ q=>az _ q) (bf _) (Jf s.heap I.big),rfl,h _ (I.hok.fresh (bf _))⟩
end
def BD:List (TE×TE)->St->Hp->(List (V×V)->Hp->Prop)->Prop
 |[],_,H,Q=>Q [] H
 |(tk,tv)::r,σ,H,Q=>tk σ H fun x H1=>tv σ H1 fun y H2=>BD r σ H2 fun ps H3=>Q ((x,y)::ps) H3
abbrev VV:List (V×V)->List (ag×ag)->Prop:=kc fun p q=>RelV p.1 q.1/\RelV p.2 q.2
def PPs (X:Cx) (pos:Pos) (keys:List (Option bv)) (values:List bv) (trs:List (TE×TE)):Prop:=
 ∀(pins:List (af×Obj)) (s:au) (σ:St) (H:Hp) (Q:List (V×V)->Hp->Prop),Inv X pins σ H s->BD trs σ H Q->
  bc (model X.prog X.w) X.A (evalPairs (pairTrees keys values X.env pos)) (fun vs s'=>∃ ps H',Inv X pins σ H' s'/\VV ps vs/\Q ps H') X.xe s
theorem KI:PPs X pos [] [] []:=fun pins s σ H Q I h=>pairTrees_nil_walk ⟨[],H,I,.nil,h⟩
theorem HC (hk:PE X k tk) (hv:PE X v tv) (hr:PPs X pos ks vs trs):
  PPs X pos (xw k::ks) (v::vs) ((tk,tv)::trs):=fun pins s σ H Q I h=>
 pairTrees_cons_walk (thn (hk pins s σ H _ I h) fun u s1 ⟨x,H1,I1,rx,q1⟩=>thn (hv pins s1 σ H1 _ I1 q1) fun w2 s2 ⟨y,H2,I2,ry,q2⟩=>
  thn (hr pins s2 σ H2 _ I2 q2) fun ws s3 ⟨ps,H3,I3,rel,q3⟩=>⟨(x,y)::ps,H3,I3,.cons ⟨rx,ry⟩ rel,q3⟩)
noncomputable def mergeK (kvs more:List (Key×V)):List (Key×V):=more.foldl (fun acc kv=>nC acc kv.1 kv.2) kvs
theorem KV.merge:∀ {more:List (Key×V)}{rs:List (Key×ag)}{kvs:List (Key×V)}{vs:List (Key×ag)},KV more rs->KV kvs vs->KV (mergeK kvs more) (merged vs rs):=by
 intro more rs kvs vs r;unfold KV at r
 induction r generalizing kvs vs with
 |nil=>intro q;exact q
 |@cons p q ps qs h t ih=>
  intro r0;have e:KV (nC kvs p.1 p.2) (stored vs q.1 q.2):=by
   have:=r0.put p.1 h.2
   rw[<- h.1];exact this
  exact ih e
theorem lZ:∀(more kvs:List (Key×V)),(mergeK kvs more).length<=kvs.length+more.length
 |[],kvs=>by show kvs.length<=kvs.length+0;omega
 |p::r,kvs=>by
  have h1:=lZ r (nC kvs p.1 p.2);have h2:=iG kvs p.1 p.2
  show(mergeK (nC kvs p.1 p.2) r).length<=_
  rw[b7];omega
theorem uM:∀ {kvs:List (Key×V)}{ws:List (ag×ag)},VV (kvs.map fun kv=>(kV kv.1,kv.2)) ws->∃ rs,Carries (aO P w) ws rs/\KV kvs rs
 |[],_,r=>by rw[lu] at r;cases r;exact⟨[],ga,.nil⟩
 |p::kvs,_,r=>by
  rw[bg] at r;cases r with
  |@cons a b as bs h t=>
   obtain⟨rs,c,q⟩:=uM (P:=P) (w:=w) t;obtain⟨b1,b2⟩:=b;exact⟨(p.1,b2)::rs,⟨Fw h.1,rfl,c⟩,.cons ⟨rfl,h.2⟩ q⟩
def QA (trs:List (TE×TE)):TE:=fun σ H Q=>∀ p,H p=xx->BD trs σ (upd H p (.dK [])) fun ps H2=>H2 p=xw (.dK [])/\∃ kvs:List (Key×V),ps=kvs.map (fun kv=>(kV kv.1,kv.2))/\kvs.length<=15/\Q (.ref p) (upd H2 p (.dK (mergeK [] kvs)))
theorem KQ (h:PPs X pos keys values trs) (hall:keys.all (·.isSome)=true) (hl:keys.length=values.length) (h0:keys≠[])
  (h15:keys.length<=15):PE X (.Dict keys values pos) (QA trs):=by
 intro pins s σ H Q I q;have hn:=I.hok.fresh (bf s.heap.objs.size);have I1:=I.laid (a:=s.heap.objs.size) (o:=.dK []) (h':=s.heap.push { cls:=.type "dict",data:=.dict #[] }) (t':=s.toks) (fun _ _ q=>az _ q) (bf _) (Jk s.heap I.big);refine wpAny_Dict_walk (knd:=aO X.prog X.w) hall hl h0 h15 (thn (h pins _ σ _ _ I1 (q _ hn)) fun ws s2 ⟨ps,H2,I2,rel,e,kvs,ep,lk,q2⟩=> ?_);subst ep;obtain⟨rs,c,rk⟩:=uM (P:=X.prog) (w:=X.w) rel;obtain⟨z,hd,vs0,r0,dd⟩:=PN I2.hok e;cases r0;refine⟨rs,c,dd,fun h' dd' hs=>⟨.ref s.heap.objs.size,_,?_,rfl,q2⟩⟩;have hz:(mergeK [] kvs).length<=sizeLine:=by
  have h1:=lZ kvs [];rw[k8] at h1;rw[bt];omega
 have he:∃ q,h'.get? s.heap.objs.size=xw q:=let ⟨q,_,_,hq,_⟩:=dd';⟨q,hq⟩;exact qO I2 (by rw[e];exact ga) hs he (Kf hz hd (rk.merge .nil) dd')
section
variable {X:Cx}{pins:List (af×Obj)}{σ:St}{H:Hp}{s:au}{a:af}{y d:V}{u r:ag}{o:Option V}{A:d7}{E:ag->au->Prop}
end
section
variable {X:Cx}{o e f:bv}{apos cpos:Pos}{td ty tx:TE}
end
section
variable {X:Cx}{pins:List (af×Obj)}{σ:St}{H:Hp}{s:au}{a:af}{kvs:List (Key×V)}{A:d7}{E:ag->au->Prop}
end
section
variable {X:Cx}{pins:List (af×Obj)}{σ:St}{H:Hp}{s:au}{a:af}{y:V}{u:ag}{A:d7}{E:ag->au->Prop}
end
end L2
namespace L2
section
variable {κ:Type} [DecidableEq κ]
end
end L2
end
section
namespace L2.MB
inductive D where
 |non|bl (b:Bool)|int (i:Int)|str (x:Str)|lst (ds:List D)|tup (ds:List D)
 /-- an object that is told by its number -/
 |obj (n:Nat)
 /-- a list that is handed in and only read -/
 |scr (ds:List D)
 deriving Inhabited
structure Okk where
 p:af->Prop
 al:Nat->Option af
instance:CoeFun Okk (fun _=>af->Prop):=⟨Okk.p⟩
instance:Coe Okk (af->Prop):=⟨Okk.p⟩
noncomputable def Okk.all:Okk:=⟨fun _=>True,fun _=>xx⟩
def RL (K:aa) (ok:Okk) (H:Hp) (a:af) (xs:List V):Prop:=ok a/\H a=xw (.lst xs)
def RC (K:aa) (ok:Okk) (H:Hp) (a:af) (xs:List V):Prop:=
 (ok a/\Rd H a (.lst xs))∨
  ∃(o:Obj) (its:Array ag) (n:Nat),K.lookup a=xw o/\o.cls=.type "list"/\o.dict=xx/\o.data=.seq its n/\its.size<=sizeLine/\Vals xs its.toList
def RT (K:aa) (ok:Okk) (H:Hp) (a:af) (xs:List V):Prop:=ok a/\H a=xw (.tup xs)
section
variable {K:aa}{ok ok':Okk}{H H':Hp}{a:af}{xs:List V}
theorem RL.sq (h:RL K ok H a xs):SqL K H a xs:=.inl (.inl h.2)
theorem RC.sq (h:RC K ok H a xs):SqL K H a xs:=h.elim (fun z=>.inl z.2) .inr
theorem RT.sq (h:RT K ok H a xs):SqT K H a xs:=.inl (.inl h.2)
theorem Rd.mono (f:∀ b o,ok b->H b=xw o->ok' b/\H' b=xw o) (k:ok a) (h:Rd H a u):ok' a/\Rd H' a u:=by
 rcases h with h|⟨o,h⟩
 ·exact⟨(f _ _ k h).1,.inl (f _ _ k h).2⟩
 ·exact⟨(f _ _ k h).1,.inr ⟨o,(f _ _ k h).2⟩⟩
theorem RL.mono (f:∀ b o,ok b->H b=xw o->ok' b/\H' b=xw o) (h:RL K ok H a xs):RL K ok' H' a xs:=f _ _ h.1 h.2
theorem RC.mono (f:∀ b o,ok b->H b=xw o->ok' b/\H' b=xw o) (h:RC K ok H a xs):RC K ok' H' a xs:=
 h.elim (fun z=>.inl (Rd.mono f z.1 z.2)) .inr
theorem RT.mono (f:∀ b o,ok b->H b=xw o->ok' b/\H' b=xw o) (h:RT K ok H a xs):RT K ok' H' a xs:=f _ _ h.1 h.2
end
mutual
inductive Rep (K:aa) (ok:Okk) (H:Hp):V->D->Prop
 |non:Rep K ok H .non .non
 |bl (b:Bool):Rep K ok H (.bl b) (.bl b)
 |int (i:Int):Rep K ok H (.int i) (.int i)
 |str (x:Str):Rep K ok H (.str x) (.str x)
 |lst {a:af}{xs:List V}{ds:List D}:RL K ok H a xs->Reps K ok H xs ds->Rep K ok H (.ref a) (.lst ds)
 |tup {a:af}{xs:List V}{ds:List D}:RT K ok H a xs->Reps K ok H xs ds->Rep K ok H (.ref a) (.tup ds)
 |obj {n:Nat}{a:af}:ok.al n=xw a->Rep K ok H (.ref a) (.obj n)
 |scr {a:af}{xs:List V}{ds:List D}:RC K ok H a xs->Reps K ok H xs ds->Rep K ok H (.ref a) (.scr ds)
inductive Reps (K:aa) (ok:Okk) (H:Hp):List V->List D->Prop
 |nil:Reps K ok H [] []
 |cons {v:V}{d:D}{vs:List V}{ds:List D}:Rep K ok H v d->Reps K ok H vs ds->Reps K ok H (v::vs) (d::ds)
end
section
variable {K:aa}{ok ok':Okk}{H H':Hp}
mutual
theorem Rep.mono (f:∀ b o,ok b->H b=xw o->ok' b/\H' b=xw o) (g:∀ n a,ok.al n=xw a->ok'.al n=xw a:=by exact fun _ _ h=>h):∀ {v:V}{d:D},Rep K ok H v d->Rep K ok' H' v d
 |_,_,.non=>.non
 |_,_,.bl b=>.bl b
 |_,_,.int i=>.int i
 |_,_,.str x=>.str x
 |_,_,.lst h r=>.lst (h.mono f) (Reps.mono f g r)
 |_,_,.tup h r=>.tup (h.mono f) (Reps.mono f g r)
 |_,_,.obj e=>.obj (g _ _ e)
 |_,_,.scr h r=>.scr (h.mono f) (Reps.mono f g r)
theorem Reps.mono (f:∀ b o,ok b->H b=xw o->ok' b/\H' b=xw o) (g:∀ n a,ok.al n=xw a->ok'.al n=xw a:=by exact fun _ _ h=>h):∀ {vs:List V}{ds:List D},Reps K ok H vs ds->Reps K ok' H' vs ds
 |_,_,.nil=>.nil
 |_,_,.cons h r=>.cons (Rep.mono f g h) (Reps.mono f g r)
end
theorem Rep.same {v:V}{d:D} (e:Same H H') (h:Rep K ok H v d):Rep K ok H' v d:=h.mono fun b o k q=>⟨k,e b o q⟩
theorem Reps.same {vs:List V}{ds:List D} (e:Same H H') (h:Reps K ok H vs ds):Reps K ok H' vs ds:=h.mono fun b o k q=>⟨k,e b o q⟩
theorem Rep.non_inv (h:Rep K ok H v .non):v=.non:=by cases h;rfl
theorem Rep.bl_inv (h:Rep K ok H v (.bl b)):v=.bl b:=by cases h;rfl
theorem Rep.int_inv (h:Rep K ok H v (.int i)):v=.int i:=by cases h;rfl
theorem Rep.str_inv (h:Rep K ok H v (.str x)):v=.str x:=by cases h;rfl
theorem Rep.lst_inv (h:Rep K ok H v (.lst ds)):∃ a xs,v=.ref a/\RL K ok H a xs/\Reps K ok H xs ds:=by cases h;exact⟨_,_,rfl,‹_›,‹_›⟩
theorem Rep.tup_inv (h:Rep K ok H v (.tup ds)):∃ a xs,v=.ref a/\RT K ok H a xs/\Reps K ok H xs ds:=by cases h;exact⟨_,_,rfl,‹_›,‹_›⟩
theorem Rep.scr_inv (h:Rep K ok H v (.scr ds)):∃ a xs,v=.ref a/\RC K ok H a xs/\Reps K ok H xs ds:=by cases h;exact⟨_,_,rfl,‹_›,‹_›⟩
theorem Rep.obj_inv (h:Rep K ok H v (.obj n)):∃ a,v=.ref a/\ok.al n=xw a:=by cases h;exact⟨_,rfl,‹_›⟩
theorem Reps.length:∀ {vs:List V}{ds:List D},Reps K ok H vs ds->vs.length=ds.length
 |_,_,.nil=>rfl
 |_,_,.cons _ r=>by rw[b7,b7,Reps.length r]
theorem Reps.get:∀ {vs:List V}{ds:List D}{i:Nat}{d:D},Reps K ok H vs ds->ds[i]?=xw d->∃ v,vs[i]?=xw v/\Rep K ok H v d
 |_,_,_,_,.nil,e=>by simp at e
 |_,_,0,_,.cons h _,e=>by
  simp at e;subst e;exact⟨_,rfl,h⟩
 |_,_,i+1,d,.cons _ r,e=>by
  obtain⟨v,h1,h2⟩:=Reps.get (i:=i) (d:=d) r (by simpa using e);exact⟨v,by simpa using h1,h2⟩
theorem Reps.getV:∀ {vs:List V}{ds:List D}{i:Nat}{v:V},Reps K ok H vs ds->vs[i]?=xw v->∃ d,ds[i]?=xw d/\Rep K ok H v d
 |_,_,_,_,.nil,e=>by simp at e
 |_,_,0,_,.cons h _,e=>by
  simp at e;subst e;exact⟨_,rfl,h⟩
 |_,_,i+1,v,.cons _ r,e=>by
  obtain⟨d,h1,h2⟩:=Reps.getV (i:=i) (v:=v) r (by simpa using e);exact⟨d,by simpa using h1,h2⟩
theorem Reps.append:∀ {vs ws:List V}{ds es:List D},Reps K ok H vs ds->Reps K ok H ws es->Reps K ok H (vs++ws) (ds++es)
 |_,_,_,_,.nil,s=>s
 |_,_,_,_,.cons h r,s=>.cons h (Reps.append r s)
theorem Reps.snoc (h:Reps K ok H vs ds) (q:Rep K ok H v d):Reps K ok H (vs++[v]) (ds++[d]):=h.append (.cons q .nil)
theorem Reps.take:∀ {vs:List V}{ds:List D} (n:Nat),Reps K ok H vs ds->Reps K ok H (vs.take n) (ds.take n)
 |_,_,0,_=>.nil
 |_,_,_+1,.nil=>.nil
 |_,_,n+1,.cons h r=>.cons h (Reps.take n r)
theorem Reps.drop:∀ {vs:List V}{ds:List D} (n:Nat),Reps K ok H vs ds->Reps K ok H (vs.drop n) (ds.drop n)
 |_,_,0,r=>r
 |_,_,_+1,.nil=>.nil
 |_,_,n+1,.cons _ r=>Reps.drop n r
theorem Reps.set (q:Rep K ok H v d):∀ {vs:List V}{ds:List D} (i:Nat),Reps K ok H vs ds->Reps K ok H (vs.set i v) (ds.set i d)
 |_,_,_,.nil=>.nil
 |_,_,0,.cons _ r=>.cons q r
 |_,_,i+1,.cons h r=>.cons h (Reps.set q i r)
theorem Reps.ints:∀(ns:List Int),Reps K ok H (ns.map V.int) (ns.map D.int)
 |[]=>.nil
 |n::ns=>.cons (.int n) (Reps.ints ns)
theorem Reps.of_ints:∀ {ns:List Int}{vs:List V},Reps K ok H vs (ns.map D.int)->vs=ns.map V.int
 |[],_,.nil=>rfl
 |n::ns,_,.cons h r=>by
  cases h;rw[Reps.of_ints r];rfl
theorem Rep.lst_new {p:af}{xs:List V}{ds:List D} (k:ok p) (n:H p=xx) (r:Reps K ok H xs ds):Rep K ok (upd H p (.lst xs)) (.ref p) (.lst ds):=
 .lst ⟨k,aP⟩ (r.mono fun b o q e=>⟨q,by rw[aH (aN e n)];exact e⟩)
theorem Rep.tup_new {p:af}{xs:List V}{ds:List D} (k:ok p) (n:H p=xx) (r:Reps K ok H xs ds):Rep K ok (upd H p (.tup xs)) (.ref p) (.tup ds):=
 .tup ⟨k,aP⟩ (r.mono fun b o q e=>⟨q,by rw[aH (aN e n)];exact e⟩)
end
theorem cF {H:Hp}{p:af}{o:HO} (n:H p=xx):Same H (upd H p o):=fun b u e=>by
 rw[aH (aN e n)];exact e
abbrev Rho:=List (Option D)
abbrev DF:=Rho->Option D
abbrev DB:=Rho->Option Bool
abbrev DL:=Rho->Option (List D)
structure OkH (ok:Okk) (H:Hp):Prop where
 fn:∀ b,H b=xx->ok b
 tp:∀ b xs,H b=xw (.tup xs)->ok b
instance {ok:Okk}{H:Hp}:CoeFun (OkH ok H) (fun _=>∀ b,H b=xx->ok b):=⟨OkH.fn⟩
theorem OkH.same {ok:Okk}{H H':Hp} (h:OkH ok H) (e:Same H H'):OkH ok H':=⟨fun b n=>h b (e.free n),fun b xs q=>by
 cases z:H b with
 |none=>exact h b z
 |some o=>
  rw[e b o z] at q;cases q;exact h.tp b xs z⟩
def EnvR (K:aa) (ok:Okk) (H:Hp) (σ:St) (ρ:Rho):Prop:=∀(i:Nat) (d:D),ρ[i]?=xw (xw d)->∃ v,σ[i]?=xw (xw v)/\Rep K ok H v d
theorem EnvR.same {K:aa}{ok:Okk}{H H':Hp}{σ:St}{ρ:Rho} (h:EnvR K ok H σ ρ) (e:Same H H'):EnvR K ok H' σ ρ:=fun i d q=>
 let ⟨v,a,b⟩:=h i d q
 ⟨v,a,b.same e⟩
def tD (K:aa) (f:DF):TE:=fun σ H Q=>∃(ok:Okk) (ρ:Rho) (d:D),OkH ok H/\EnvR K ok H σ ρ/\f ρ=xw d/\∀ v H',Same H H'->Rep K ok H' v d->Q v H'
def tDA (K:aa) (f:DL):TA:=fun σ H Q=>∃(ok:Okk) (ρ:Rho) (ds:List D),OkH ok H/\EnvR K ok H σ ρ/\f ρ=xw ds/\∀ vs H',Same H H'->Reps K ok H' vs ds->Q vs H'
abbrev DE (X:Cx) (e:bv) (f:DF):Prop:=PE X e (tD X.K f)
abbrev DA (X:Cx) (es:List bv) (f:DL):Prop:=PA X es (tDA X.K f)
theorem _root_.L2.PE.imp {X:Cx}{e:bv}{t t':TE} (h:PE X e t) (f:∀ σ H Q,t' σ H Q->t σ H Q):PE X e t':=fun pins s σ H Q I q=>h pins s σ H Q I (f _ _ _ q)
theorem _root_.L2.PT.imp {X:Cx}{e:bv}{t t':TT} (h:PT X e t) (f:∀ σ H Q,t' σ H Q->t σ H Q):PT X e t':=fun pins s σ H Q I q=>h pins s σ H Q I (f _ _ _ q)
theorem _root_.L2.PA.imp {X:Cx}{e:List bv}{t t':TA} (h:PA X e t) (f:∀ σ H Q,t' σ H Q->t σ H Q):PA X e t':=fun p pins s σ H Q I q=>h p pins s σ H Q I (f _ _ _ q)
theorem _root_.L2.PS.imp {X:Cx}{e:cz}{t t':TS} (h:PS X e t) (f:∀ D σ H,t' D σ H->t D σ H):PS X e t':=fun pins s σ H D I q=>h pins s σ H D I (f _ _ _ q)
theorem _root_.L2.PSs.imp {X:Cx}{e:List cz}{t t':TS} (h:PSs X e t) (f:∀ D σ H,t' D σ H->t D σ H):PSs X e t':=fun pins s σ H D I q=>h pins s σ H D I (f _ _ _ q)
noncomputable def DN (i:Nat):DF:=fun ρ=>ρ[i]?.join
noncomputable def dC (d:D):DF:=fun _=>xw d
noncomputable def d1 (g:D->Option D) (f:DF):DF:=fun ρ=>(f ρ).bind g
noncomputable def RA:DL:=fun _=>xw []
noncomputable def MP (f:DF) (r:DL):DL:=fun ρ=>(f ρ).bind fun d=>(r ρ).map fun ds=>d::ds
theorem bind_some {α β:Type}{o:Option α}{f:α->Option β}{b:β} (h:o.bind f=xw b):∃ a,o=xw a/\f a=xw b:=by
 cases o with
 |none=>cases h
 |some a=>exact⟨a,rfl,h⟩
section
variable {X:Cx}{e a b:bv}{es:List bv}{f fa fb:DF}{fl:DL}{pos:Pos}
theorem PP (h:PE X (.Name x pos) (RN i)):DE X (.Name x pos) (DN i):=h.imp fun σ H Q ⟨ok,ρ,d,h1,h2,h3,h4⟩=>by
 have e:ρ[i]?=xw (xw d):=by
  unfold DN at h3;cases q:ρ[i]? with
  |none=>rw[q] at h3;cases h3
  |some o=>rw[q] at h3;cases o with
   |none=>cases h3
   |some d'=>cases h3;rfl
 obtain⟨v,e1,e2⟩:=h2 i d e;exact⟨v,e1,h4 v H (Same.refl H) e2⟩
theorem dv (i:Nat) (hN:X.N[i]?=xw x:=by rfl) (hv:Vis X.env.scope x:=by first|exact Or.inl rfl|exact Or.inr (Or.inl rfl)|exact Or.inr (Or.inr rfl)) (hd:(x==("__debug__":Str))=false:=by decide)
  (hcd:(x==("__classdict__":Str))=false:=by decide):DE X (.Name x pos) (DN i):=PP (NQ hN hv hd hcd)
theorem oQ (h:PE X e (tC v)) (r:∀ K ok H,Rep K ok H v d):DE X e (dC d):=h.imp fun σ H Q ⟨ok,ρ,d',h1,h2,h3,h4⟩=>by
 cases h3;exact h4 v H (Same.refl H) (r _ _ _)
theorem Cy:DE X (.Constant (.int i) j pos) (dC (.int i)):=oQ NV fun _ _ _=>.int i
theorem Rx {b j pos}:DE X (.Constant (.bool b) j pos) (dC (.bl b)):=oQ QR fun _ _ _=>.bl b
theorem PQ:DE X (.Constant .none j pos) (dC .non):=oQ NU fun _ _ _=>.non
theorem Cw:DE X (.Constant (.str x) j pos) (dC (.str x)):=oQ NR fun _ _ _=>.str x
def Fit2 (K:aa) (r:R2) (g:D->D->Option D):Prop:=∀(ok:Okk) (H:Hp) (x y:V) (a b d:D) (Q:VK),OkH ok H->Rep K ok H x a->Rep K ok H y b->g a b=xw d->(∀ v H',Same H H'->Rep K ok H' v d->Q v H')->r x y H Q
def SV (K:aa) (r:V->Hp->VK->Prop) (g:D->Option D):Prop:=∀(ok:Okk) (H:Hp) (x:V) (a d:D) (Q:VK),OkH ok H->Rep K ok H x a->g a=xw d->(∀ v H',Same H H'->Rep K ok H' v d->Q v H')->r x H Q
def FitL (K:aa) (r:List V->Hp->VK->Prop) (g:List D->Option D):Prop:=∀(ok:Okk) (H:Hp) (xs:List V) (as:List D) (d:D) (Q:VK),OkH ok H->Reps K ok H xs as->g as=xw d->(∀ v H',Same H H'->Rep K ok H' v d->Q v H')->r xs H Q
noncomputable def toB:D->Option Bool
 |.bl b=>xw b
 |_=>xx
theorem oY (h:toB d=xw k):d=.bl k:=by
 cases d with
 |bl b=>cases h;rfl
 |_=>cases h
theorem Rw (ho:UnR X (unaryOp op) r) (F:SV X.K r g) (ha:DE X a fa):DE X (.UnaryOp op a pos) (d1 g fa):=
 (QO ho ha).imp fun σ H Q ⟨ok,ρ,d,h1,h2,h3,h4⟩=>by
  obtain⟨x,e1,h3⟩:=bind_some h3;exact⟨ok,ρ,x,h1,h2,e1,fun v H1 s1 r1=>F ok H1 v x d Q (h1.same s1) r1 h3 fun w H3 s3 r3=>h4 w H3 (s1.trans s3) r3⟩
theorem PR:DA X [] RA:=(PA.imp tG) fun σ H Q ⟨ok,ρ,d,h1,h2,h3,h4⟩=>by
 cases h3;exact h4 [] H (Same.refl H) .nil
theorem ML (ha:DE X e f) (hr:DA X es fl) (hs:av (e::es) X.env=(false,eval e X.env)::av es X.env:=by rfl):DA X (e::es) (MP f fl):=
 (iA ha hr hs).imp fun σ H Q ⟨ok,ρ,ds,h1,h2,h3,h4⟩=>by
  obtain⟨x,e1,h3⟩:=bind_some h3;cases e2:fl ρ with
  |none=>rw[e2] at h3;cases h3
  |some r=>
   rw[e2] at h3;cases h3;exact⟨ok,ρ,x,h1,h2,e1,fun v H1 s1 r1=>⟨ok,ρ,r,h1.same s1,h2.same s1,e2,fun vs H2 s2 r2=>h4 (v::vs) H2 (s1.trans s2) (.cons (r1.same s2) r2)⟩⟩
noncomputable def nP (ds:List D):Option D:=if ds.length<=sizeLine then xw (.tup ds) else xx
noncomputable def DD (ds:List D):Option D:=if ds.length<=sizeLine then xw (.lst ds) else xx
theorem bK {α:Type}{c:Prop} [Decidable c] {a b:α} (h:(if c then xw a else xx)=xw b):c/\a=b:=by
 by_cases hc:c
 ·rw[if_pos hc] at h;exact⟨hc,ca h⟩
 ·rw[if_neg hc] at h;cases h
end
end L2.MB
end
section
namespace L2.MB
noncomputable def gI (g:Int->Int->Option D) (a b:D):Option D:=match a,b with
 |.int i,.int j=>g i j
 |_,_=>xx
theorem Kb (h:gI g a b=xw d):∃ i j,a=.int i/\b=.int j/\g i j=xw d:=by
 unfold gI at h;split at h
 ·exact⟨_,_,rfl,rfl,h⟩
 ·cases h
noncomputable abbrev rR:=gI fun i j=>xw (.int (i+j))
noncomputable abbrev gSub:=gI fun i j=>xw (.int (i-j))
noncomputable abbrev jC:=gI fun i j=>if(-1000000000000000000<i/\i<1000000000000000000)∨(-1000000000000000000<j/\j<1000000000000000000) then xw (.int (i*j)) else xx
noncomputable abbrev cU:=gI fun i j=>if 0<j then xw (.int (i % j)) else xx
noncomputable abbrev gLt:=gI fun i j=>xw (.bl (decide (i<j)))
noncomputable abbrev gLe:=gI fun i j=>xw (.bl (decide (i<=j)))
noncomputable abbrev gGt:=gI fun i j=>xw (.bl (decide (j<i)))
noncomputable abbrev gGe:=gI fun i j=>xw (.bl (decide (j<=i)))
theorem kR {K:aa}{g':Int->Int->D} (r:∀ i j ok H,Rep K ok H (g i j) (g' i j)):Fit2 K (rI0 g) (gI fun i j=>xw (g' i j)):=fun ok H x y a b d Q h1 ra rb e k=>by
 obtain⟨i,j,rfl,rfl,e⟩:=Kb e;cases e;exact⟨i,j,ra.int_inv,rb.int_inv,k _ H (Same.refl H) (r i j ok H)⟩
theorem PH {K:aa}{C C':Int->Int->Prop} [∀ i j,Decidable (C' i j)] {g:Int->Int->V}{g':Int->Int->D} (hC:∀ i j,C' i j->C i j) (r:∀ i j ok H,Rep K ok H (g i j) (g' i j)):
  Fit2 K (rI C g) (gI fun i j=>if C' i j then xw (g' i j) else xx):=fun ok H x y a b d Q h1 ra rb e k=>by
 obtain⟨i,j,rfl,rfl,e⟩:=Kb e;obtain⟨hc,rfl⟩:=bK e;exact⟨i,j,ra.int_inv,rb.int_inv,hC i j hc,k _ H (Same.refl H) (r i j ok H)⟩
section
variable {X:Cx}{e a b c:bv}{es:List bv}{f fa fb fc:DF}{fl:DL}{pos:Pos}
noncomputable def Mw (a:D):Option D:=match a with
 |.int i=>xw (.int (-i))
 |_=>xx
theorem Kg (ha:DE X a fa):DE X (.UnaryOp .USub a pos) (d1 Mw fa):=Rw Nk (fun ok H x a d Q h1 r e k=>by
 cases a with
 |int i=>cases e;exact⟨i,r.int_inv,k _ H (Same.refl H) (.int _)⟩
 |_=>cases e) ha
noncomputable def RM:D->Option Bool
 |.non=>xw false
 |.bl b=>xw b
 |.int i=>xw (i !=0)
 |.str x=>if x.length<=sizeLine then xw ((x.length:Int) !=0) else xx
 |.lst ds=>xw (!ds.isEmpty)
 |.tup ds=>xw (!ds.isEmpty)
 |.obj _=>xx
 |.scr ds=>xw (!ds.isEmpty)
theorem Reps.isEmpty {K:aa} (h:Reps K ok H vs ds):vs.isEmpty=ds.isEmpty:=by cases h <;> rfl
theorem Km {K:aa} (h:Rep K ok H v d) (e:RM d=xw k):RD K v H k:=by
 cases h with
 |non=>cases e;exact rfl
 |bl b=>cases e;exact rfl
 |int i=>cases e;exact rfl
 |str x=>
  obtain⟨hz,rfl⟩:=bK e;exact⟨hz,rfl⟩
 |lst h r=>
  cases e;exact .inl ⟨_,h.sq,by rw[r.isEmpty]⟩
 |tup h r=>
  cases e;exact .inr (.inl ⟨_,h.sq,by rw[r.isEmpty]⟩)
 |obj _=>cases e
 |scr h r=>
  cases e;exact .inl ⟨_,h.sq,by rw[r.isEmpty]⟩
theorem _root_.L2.PW.imp {X:Cx}{e:bv}{t t':TT} (h:PW X e t) (f:∀ σ H Q,t' σ H Q->t σ H Q):PW X e t':=fun wh pins s σ H Q I q=>h wh pins s σ H Q I (f _ _ _ q)
variable {ba bb:DB}{rest:List bv}
noncomputable def SJ (a:D):Option D:=(toB a).map fun k=>.bl (!k)
noncomputable def My (a b:D):Option D:=match a,b with
 |.str x,.str y=>if x.length+y.length<=sizeLine then xw (.str (x++y)) else xx
 |_,_=>xx
noncomputable def gIx (a b:D):Option D:=match a,b with
 |.lst ds,.int i=>atI ds i
 |.scr ds,.int i=>atI ds i
 |.tup ds,.int i=>atI ds i
 |.str x,.int i=>if x.length<=sizeLine then(atI x.cps.toList i).map fun c=>.str ⟨#[c]⟩ else xx
 |_,_=>xx
theorem Reps.atI {K:aa} (h:Reps K ok H vs ds) (e:L2.atI ds i=xw d):∃ v,L2.atI vs i=xw v/\Rep K ok H v d:=by
 unfold L2.atI at e ⊢;rw[h.length];cases q:ixN ds.length i with
 |none=>rw[q] at e;cases e
 |some j=>
  rw[q] at e;exact h.get e
noncomputable def DP (ds:List D) (lo hi:Option Int):List D:=(ds.drop (HT.sIx ds.length 0 lo)).take (HT.sIx ds.length ds.length hi-HT.sIx ds.length 0 lo)
theorem Reps.cut {K:aa} (h:Reps K ok H vs ds) (lo hi:Option Int):Reps K ok H (Kh vs lo hi) (DP ds lo hi):=by
 unfold Kh DP;rw[h.length];exact(h.drop _).take _
abbrev DO:=Rho->Option (Option Int)
noncomputable def tDO (K:aa) (f:DO):TO:=fun σ H Q=>∃(ok:Okk) (ρ:Rho) (o:Option Int),OkH ok H/\EnvR K ok H σ ρ/\f ρ=xw o/\∀ H',Same H H'->Q o H'
theorem _root_.L2.PO.imp {X:Cx}{e:Option bv}{t t':TO} (h:PO X e t) (f:∀ σ H Q,t' σ H Q->t σ H Q):PO X e t':=fun pins s σ H Q I q=>h pins s σ H Q I (f _ _ _ q)
abbrev DOp (X:Cx) (e:Option bv) (f:DO):Prop:=PO X e (tDO X.K f)
noncomputable def dNo:DO:=fun _=>xw xx
noncomputable def toI:D->Option Int
 |.int i=>xw i
 |_=>xx
theorem uT (h:toI d=xw i):d=.int i:=by
 cases d with
 |int b=>cases h;rfl
 |_=>cases h
noncomputable def dSo (f:DF):DO:=fun ρ=>(f ρ).bind fun d=>(toI d).map xw
theorem MK:DOp X xx dNo:=PO.imp KL fun σ H Q ⟨ok,ρ,o,h1,h2,h3,h4⟩=>by
 cases h3;exact h4 H (Same.refl H)
theorem MJ (h:DE X e f):DOp X (xw e) (dSo f):=PO.imp (KJ h) fun σ H Q ⟨ok,ρ,o,h1,h2,h3,h4⟩=>by
 obtain⟨d,e1,e2⟩:=bind_some h3;cases e3:toI d with
 |none=>rw[e3] at e2;cases e2
 |some i=>
  rw[e3] at e2;cases e2;obtain rfl:=uT e3;exact⟨ok,ρ,_,h1,h2,e1,fun v H1 s1 r1=>⟨i,r1.int_inv,h4 H1 s1⟩⟩
noncomputable def gSl (a:D) (lo hi:Option Int):Option D:=match a with
 |.lst ds=>xw (.lst (DP ds lo hi))
 |.scr ds=>xw (.lst (DP ds lo hi))
 |.tup ds=>if HT.sIx ds.length 0 lo=0/\HT.sIx ds.length ds.length hi=ds.length then xx else xw (.tup (DP ds lo hi))
 |_=>xx
noncomputable def Rq (ds:List D):Option D:=match ds with
 |[.lst xs]=>xw (.int xs.length)
 |[.scr xs]=>xw (.int xs.length)
 |[.tup xs]=>xw (.int xs.length)
 |[.str x]=>if x.length<=sizeLine then xw (.int x.length) else xx
 |_=>xx
theorem Reps.one_inv {K:aa} (h:Reps K ok H vs [d]):∃ v,vs=[v]/\Rep K ok H v d:=by
 cases h with
 |cons a r=>cases r;exact⟨_,rfl,a⟩
theorem Reps.two_inv {K:aa} (h:Reps K ok H vs [d,d']):∃ v v',vs=[v,v']/\Rep K ok H v d/\Rep K ok H v' d':=by
 cases h with
 |cons a r=>
  obtain⟨v',rfl,b⟩:=r.one_inv;exact⟨_,_,rfl,a,b⟩
theorem MD {K:aa}:FitL K (fun xs H Q=>∃ x n,xs=[x]/\RJ K x H n/\Q (.int n) H) Rq:=fun ok H xs as d Q h1 r e k=>by
 unfold Rq at e;split at e
 ·cases e;obtain⟨v,rfl,r1⟩:=r.one_inv;obtain⟨p,ys,rfl,g,r2⟩:=r1.lst_inv;exact⟨_,_,rfl,.inl ⟨_,g.sq,r2.length.symm⟩,k _ H (Same.refl H) (.int _)⟩
 ·cases e;obtain⟨v,rfl,r1⟩:=r.one_inv;obtain⟨p,ys,rfl,g,r2⟩:=r1.scr_inv;exact⟨_,_,rfl,.inl ⟨_,g.sq,r2.length.symm⟩,k _ H (Same.refl H) (.int _)⟩
 ·cases e;obtain⟨v,rfl,r1⟩:=r.one_inv;obtain⟨p,ys,rfl,g,r2⟩:=r1.tup_inv;exact⟨_,_,rfl,.inr ⟨_,g.sq,r2.length.symm⟩,k _ H (Same.refl H) (.int _)⟩
 ·obtain⟨hz,rfl⟩:=bK e;obtain⟨v,rfl,r1⟩:=r.one_inv;obtain rfl:=r1.str_inv;exact⟨_,_,rfl,⟨hz,rfl⟩,k _ H (Same.refl H) (.int _)⟩
 ·cases e
end
noncomputable def mP (f:D->D->Option Bool):List D->List D->Option Bool
 |[],_=>xw true
 |_::_,[]=>xw true
 |x::xs,y::ys=>(f x y).bind fun b=>(mP f xs ys).map fun c=>b&&c
noncomputable def eqS:D->D->Bool
 |.non,.non=>true
 |.bl a,.bl b=>a==b
 |.bl a,.int b=>(if a then 1 else 0)==b
 |.int a,.bl b=>a==(if b then 1 else 0)
 |.int a,.int b=>a==b
 |.str a,.str b=>a==b
 |_,_=>false
noncomputable def eqD:Nat->D->D->Option Bool
 |n+1,.lst xs,.lst ys=>if xs.length=ys.length then mP (eqD n) xs ys else xw false
 |n+1,.tup xs,.tup ys=>(mP (eqD n) xs ys).map fun k=>k&&xs.length==ys.length
 |0,.lst _,.lst _=>xx
 |0,.tup _,.tup _=>xx
 |_,.obj _,_=>xx
 |_,_,.obj _=>xx
 |_,.scr _,_=>xx
 |_,_,.scr _=>xx
 |_,a,b=>xw (eqS a b)
noncomputable def eAt (f:D->D->Option Bool) (xs ys:List D) (j:Nat):Bool:=match xs[j]?,ys[j]? with
 |some x,xw y=>(f x y).getD false
 |_,_=>false
theorem mO:∀ {xs ys:List D}{k:Bool}{j:Nat}{x y:D},mP f xs ys=xw k->xs[j]?=xw x->ys[j]?=xw y->f x y=xw (eAt f xs ys j)
 |[],_,_,_,_,_,_,h,_=>by simp at h
 |_::_,[],_,_,_,_,_,_,h=>by simp at h
 |x'::xs,y'::ys,k,j,x,y,h,h1,h2=>by
  obtain⟨b,e1,e2⟩:=bind_some h;cases q:mP f xs ys with
  |none=>rw[q] at e2;cases e2
  |some c=>
   cases j with
   |zero=>
    simp at h1 h2;subst h1 h2;simp[eAt,e1]
   |succ j=>
    simp at h1 h2
    have:=mO q h1 h2
    simpa [eAt] using this
theorem wE:∀ {xs ys:List D}{k:Bool},mP f xs ys=xw k->k=(bj (min xs.length ys.length)).all (eAt f xs ys)
 |[],ys,k,h=>by
  cases h;simp
 |_::_,[],k,h=>by
  cases h;simp
 |x::xs,y::ys,k,h=>by
  obtain⟨b,e1,e2⟩:=bind_some h;cases q:mP f xs ys with
  |none=>rw[q] at e2;cases e2
  |some c=>
   rw[q] at e2;cases e2;have ih:=wE q;have em:min (x::xs).length (y::ys).length=min xs.length ys.length+1:=by
    rw[b7,b7];omega
   rw[em,tz,List.all_cons,List.all_map];have e0:eAt f (x::xs) (y::ys) 0=b:=by simp[eAt,e1]
   have e3:(eAt f (x::xs) (y::ys)∘Nat.succ)=eAt f xs ys:=by
    funext j
    simp[eAt]
   rw[e0,e3,ih]
theorem dM (n m:Nat) (b:D):eqD n (.obj m) b=xx:=by cases n <;> cases b <;> rfl
theorem dL (n m:Nat) (a:D):eqD n a (.obj m)=xx:=by cases n <;> cases a <;> rfl
theorem dJ (n:Nat) (m:List D) (b:D):eqD n (.scr m) b=xx:=by cases n <;> cases b <;> rfl
theorem dI (n:Nat) (m:List D) (a:D):eqD n a (.scr m)=xx:=by cases n <;> cases a <;> rfl
section
variable {X:Cx}{pins:List (af×Obj)}{σ:St}{H:Hp}{s:au}{ok ok':Okk}
theorem eV {A:d7} (h:A.units+(n+1)<eu):A.in1.units+n<eu:=by
 show A.units+1+n<eu;omega
theorem jK (I:Inv X pins σ H s) (h:RL X.K ok H a xs) (g:RT X.K ok' H a ys):False:=by
 obtain⟨_,_,⟨o,n,e,c,_,_⟩,_⟩:=I.list h.sq;obtain⟨_,_,⟨o',e',c',_⟩,_⟩:=I.tuple g.sq;rw[e] at e';cases e';rw[c] at c';exact absurd c' (by decide)
theorem rA (ih:∀ {v:V}{a b:D}{k:Bool},Rep X.K ok H v a->Rep X.K ok' H v b->eqD n a b=xw k->k=true):∀ {vs:List V}{ds es:List D}{k:Bool},Reps X.K ok H vs ds->Reps X.K ok' H vs es->mP (eqD n) ds es=xw k->k=true
 |_,_,_,_,.nil,.nil,h=>by cases h;rfl
 |_,_,_,_,.cons r rs,.cons q qs,h=>by
  obtain⟨b,e1,e2⟩:=bind_some h;cases z:mP (eqD n) _ _ with
  |none=>rw[z] at e2;cases e2
  |some c=>
   rw[z] at e2;cases e2;rw[ih r q e1,rA ih rs qs z];rfl
theorem IY (I:Inv X pins σ H s):∀(n:Nat) {v:V}{a b:D}{k:Bool},Rep X.K ok H v a->Rep X.K ok' H v b->eqD n a b=xw k->k=true:=by
 intro n
 induction n with
 |zero=>
  intro v a b k ra rb e;cases ra with
  |lst g r=>cases rb with
   |lst g' r'=>cases e
   |tup g' r'=>exact(jK I g g').elim
   |obj _=>rw[dL] at e;cases e
   |scr _ _=>rw[dI] at e;cases e
  |tup g r=>cases rb with
   |tup g' r'=>cases e
   |lst g' r'=>exact(jK I g' g).elim
   |obj _=>rw[dL] at e;cases e
   |scr _ _=>rw[dI] at e;cases e
  |obj _=>rw[dM] at e;cases e
  |scr _ _=>rw[dJ] at e;cases e
  |_=>cases rb;cases e;simp[eqS]
 |succ n ih=>
  intro v a b k ra rb e;cases ra with
  |@lst p xs ds g r=>cases rb with
   |@lst _ xs' ds' g' r'=>
    obtain rfl:=I.list_inj g.sq g'.sq;have e':(if ds.length=ds'.length then mP (eqD n) ds ds' else xw false)=xw k:=e;rw[if_pos (by rw[<- r.length,<- r'.length])] at e';exact rA ih r r' e'
   |tup g' r'=>exact(jK I g g').elim
   |obj _=>rw[dL] at e;cases e
   |scr _ _=>rw[dI] at e;cases e
  |@tup p xs ds g r=>cases rb with
   |@tup _ xs' ds' g' r'=>
    obtain rfl:=I.tuple_inj g.sq g'.sq;have e':((mP (eqD n) ds ds').map fun k=>k&&ds.length==ds'.length)=xw k:=e;have hl:ds.length=ds'.length:=by rw[<- r.length,<- r'.length]
    cases q:mP (eqD n) ds ds' with
    |none=>rw[q] at e';cases e'
    |some c=>
     rw[q] at e';cases e';rw[rA ih r r' q,hl];simp
   |lst g' r'=>exact(jK I g' g).elim
   |obj _=>rw[dL] at e;cases e
   |scr _ _=>rw[dI] at e;cases e
  |obj _=>rw[dM] at e;cases e
  |scr _ _=>rw[dJ] at e;cases e
  |_=>cases rb;cases e;simp[eqS]
theorem rC (ih:∀ {v:V}{a b c:D}{k k':Bool},Rep X.K ok H v a->Rep X.K ok' H v b->eqD n a c=xw k->eqD n b c=xw k'->k=k'):∀ {vs:List V}{ds es as:List D}{k k':Bool},Reps X.K ok H vs ds->Reps X.K ok' H vs es->mP (eqD n) ds as=xw k->mP (eqD n) es as=xw k'->k=k'
 |_,_,_,_,_,_,.nil,.nil,h,h'=>by cases h;cases h';rfl
 |_,_,_,[],_,_,.cons r rs,.cons q qs,h,h'=>by cases h;cases h';rfl
 |_,_,_,a::as,_,_,.cons r rs,.cons q qs,h,h'=>by
  obtain⟨b,e1,e2⟩:=bind_some h;obtain⟨b',e1',e2'⟩:=bind_some h';cases z:mP (eqD n) _ as with
  |none=>rw[z] at e2;cases e2
  |some c=>
   rw[z] at e2;cases e2;cases z':mP (eqD n) _ as with
   |none=>rw[z'] at e2';cases e2'
   |some c'=>
    rw[z'] at e2';cases e2';rw[ih r q e1 e1',rC ih rs qs z z']
theorem Ja (I:Inv X pins σ H s):∀(n:Nat) {v:V}{a b c:D}{k k':Bool},Rep X.K ok H v a->Rep X.K ok' H v b->eqD n a c=xw k->eqD n b c=xw k'->k=k':=by
 intro n
 induction n with
 |zero=>
  intro v a b c k k' ra rb e e';cases ra with
  |lst g r=>cases rb with
   |lst g' r'=>cases c <;> first|(cases e;done)|(cases e;cases e';rfl)
   |tup g' r'=>exact(jK I g g').elim
   |obj _=>rw[dM] at e';cases e'
   |scr _ _=>rw[dJ] at e';cases e'
  |tup g r=>cases rb with
   |tup g' r'=>cases c <;> first|(cases e;done)|(cases e;cases e';rfl)
   |lst g' r'=>exact(jK I g' g).elim
   |obj _=>rw[dM] at e';cases e'
   |scr _ _=>rw[dJ] at e';cases e'
  |obj _=>rw[dM] at e;cases e
  |scr _ _=>rw[dJ] at e;cases e
  |_=>cases rb;rw[e] at e';cases e';rfl
 |succ n ih=>
  intro v a b c k k' ra rb e e';cases ra with
  |@lst p xs ds g r=>cases rb with
   |@lst _ xs' ds' g' r'=>
    obtain rfl:=I.list_inj g.sq g'.sq;have hl:ds.length=ds'.length:=by rw[<- r.length,<- r'.length]
    cases c with
    |lst cs=>
     have e1:(if ds.length=cs.length then mP (eqD n) ds cs else xw false)=xw k:=e;have e2:(if ds'.length=cs.length then mP (eqD n) ds' cs else xw false)=xw k':=e';rw[<- hl] at e2
     by_cases z:ds.length=cs.length
     ·rw[if_pos z] at e1 e2;exact rC ih r r' e1 e2
     ·rw[if_neg z] at e1 e2;cases e1;cases e2;rfl
    |_=>first|(cases e;done)|(cases e;cases e';rfl)
   |tup g' r'=>exact(jK I g g').elim
   |obj _=>rw[dM] at e';cases e'
   |scr _ _=>rw[dJ] at e';cases e'
  |@tup p xs ds g r=>cases rb with
   |@tup _ xs' ds' g' r'=>
    obtain rfl:=I.tuple_inj g.sq g'.sq;have hl:ds.length=ds'.length:=by rw[<- r.length,<- r'.length]
    cases c with
    |tup cs=>
     have e1:((mP (eqD n) ds cs).map fun k=>k&&ds.length==cs.length)=xw k:=e;have e2:((mP (eqD n) ds' cs).map fun k=>k&&ds'.length==cs.length)=xw k':=e';rw[<- hl] at e2;cases q:mP (eqD n) ds cs with
     |none=>rw[q] at e1;cases e1
     |some x=>
      cases q':mP (eqD n) ds' cs with
      |none=>rw[q'] at e2;cases e2
      |some x'=>
       rw[q] at e1;rw[q'] at e2;cases e1;cases e2;rw[rC ih r r' q q']
    |_=>first|(cases e;done)|(cases e;cases e';rfl)
   |lst g' r'=>exact(jK I g' g).elim
   |obj _=>rw[dM] at e';cases e'
   |scr _ _=>rw[dJ] at e';cases e'
  |obj _=>rw[dM] at e;cases e
  |scr _ _=>rw[dJ] at e;cases e
  |_=>cases rb;rw[e] at e';cases e';rfl
theorem AI (I:Inv X pins σ H s) (n:Nat) (ra:Rep X.K ok H x a) (rb:Rep X.K ok' H y b) (rv:RelV x v) (ru:RelV y u) (e:eqD n a b=xw k) (hrc:SeqAt.RcAt A s v u k):wu A s v u k:=by
 by_cases hs:v=u
 ·subst hs;obtain rfl:=rv.inj ru;rw[IY I n ra rb e];exact SeqAt.EqAt.same v
 ·intro prog w E Q hq;unfold eqBool;refine i8 ?_;refine wpAny_ite_split (fun hab=>absurd (eq_of_beq hab) hs) (fun _=> ?_);cases ra with
  |non=>cases rv;exact ae (hrc prog w E _ (dw hq))
  |bl b=>cases rv;exact ae (hrc prog w E _ (dw hq))
  |int i=>obtain⟨t,rfl⟩:=rv;exact ae (hrc prog w E _ (dw hq))
  |str z=>obtain⟨t,rfl⟩:=rv;exact ae (hrc prog w E _ (dw hq))
  |lst _ _=>cases rv;exact ae (hrc prog w E _ (dw hq))
  |tup _ _=>cases rv;exact ae (hrc prog w E _ (dw hq))
  |obj _=>rw[dM] at e;cases e
  |scr _ _=>rw[dJ] at e;cases e
theorem both {P Q R:Prop} (h:P) (f:P->Q) (g:P->R):Q/\R:=⟨f h,g h⟩
theorem EC (I:Inv X pins σ H s) (n:Nat):∀ {A:d7}{a b:D}{x y:V}{v u:ag}{k:Bool},Rep X.K ok H x a->Rep X.K ok' H y b->RelV x v->RelV y u->eqD n a b=xw k->A.units+n<eu->SeqAt.RcAt A s v u k/\SeqAt.RcNeAt A s v u (!k):=by
 induction n using Nat.strongRecOn with
 |_ n ih=>
  intro A a b x y v u k ra rb rv ru e hu;have hu0:A.units<eu:=by omega
  cases ra with
  |non=>
   cases rv;cases rb with
   |non=>cases ru;cases n <;> cases e <;> exact⟨.none_none,.none_none⟩
   |obj _=>rw[dL] at e;cases e
   |scr _ _=>rw[dI] at e;cases e
   |bl b=>cases ru;cases n <;> cases e <;> exact⟨.none_bool b,.none_bool b⟩
   |int b=>obtain⟨t,rfl⟩:=ru;cases n <;> cases e <;> exact⟨.none_int b t,.none_int b t⟩
   |str b=>obtain⟨t,rfl⟩:=ru;cases n <;> cases e <;> exact⟨.none_str b t,.none_str b t⟩
   |lst g r=>cases ru;obtain⟨its,_,pl,_⟩:=I.list g.sq;cases n <;> cases e <;> exact⟨.none_list pl.isList hu0,.none_list pl.isList hu0⟩
   |tup g r=>cases ru;obtain⟨its,_,pl,_⟩:=I.tuple g.sq;cases n <;> cases e <;> exact⟨.none_tuple pl hu0,.none_tuple pl hu0⟩
  |bl a=>
   cases rv;cases rb with
   |non=>cases ru;cases n <;> cases e <;> exact⟨.bool_none a,.bool_none a⟩
   |obj _=>rw[dL] at e;cases e
   |scr _ _=>rw[dI] at e;cases e
   |bl b=>cases ru;cases n <;> cases e <;> exact⟨.bool_bool a b,.bool_bool a b⟩
   |int b=>obtain⟨t,rfl⟩:=ru;cases n <;> cases e <;> exact⟨.bool_int a b t,.bool_int a b t⟩
   |str b=>obtain⟨t,rfl⟩:=ru;cases n <;> cases e <;> exact⟨.bool_str a b t,.bool_str a b t⟩
   |lst g r=>cases ru;obtain⟨its,_,pl,_⟩:=I.list g.sq;cases n <;> cases e <;> exact⟨.bool_list a pl.isList hu0,.bool_list a pl.isList hu0⟩
   |tup g r=>cases ru;obtain⟨its,_,pl,_⟩:=I.tuple g.sq;cases n <;> cases e <;> exact⟨.bool_tuple a pl hu0,.bool_tuple a pl hu0⟩
  |int a=>
   obtain⟨t',rfl⟩:=rv;cases rb with
   |non=>cases ru;cases n <;> cases e <;> exact⟨.int_none a t',.int_none a t'⟩
   |obj _=>rw[dL] at e;cases e
   |scr _ _=>rw[dI] at e;cases e
   |bl b=>cases ru;cases n <;> cases e <;> exact⟨.int_bool a t' b,.int_bool a t' b⟩
   |int b=>obtain⟨t,rfl⟩:=ru;cases n <;> cases e <;> exact⟨.int_int a t' b t,.int_int a t' b t⟩
   |str b=>obtain⟨t,rfl⟩:=ru;cases n <;> cases e <;> exact⟨.int_str a t' b t,.int_str a t' b t⟩
   |lst g r=>cases ru;obtain⟨its,_,pl,_⟩:=I.list g.sq;cases n <;> cases e <;> exact⟨.int_list a t' pl.isList hu0,.int_list a t' pl.isList hu0⟩
   |tup g r=>cases ru;obtain⟨its,_,pl,_⟩:=I.tuple g.sq;cases n <;> cases e <;> exact⟨.int_tuple a t' pl hu0,.int_tuple a t' pl hu0⟩
  |str a=>
   obtain⟨t',rfl⟩:=rv;cases rb with
   |non=>cases ru;cases n <;> cases e <;> exact⟨.str_none a t',.str_none a t'⟩
   |obj _=>rw[dL] at e;cases e
   |scr _ _=>rw[dI] at e;cases e
   |bl b=>cases ru;cases n <;> cases e <;> exact⟨.str_bool a t' b,.str_bool a t' b⟩
   |int b=>obtain⟨t,rfl⟩:=ru;cases n <;> cases e <;> exact⟨.str_int a t' b t,.str_int a t' b t⟩
   |str b=>obtain⟨t,rfl⟩:=ru;cases n <;> cases e <;> exact⟨.str_str a t' b t,.str_str a t' b t⟩
   |lst g r=>cases ru;obtain⟨its,_,pl,_⟩:=I.list g.sq;cases n <;> cases e <;> exact⟨.str_list a t' pl.isList hu0,.str_list a t' pl.isList hu0⟩
   |tup g r=>cases ru;obtain⟨its,_,pl,_⟩:=I.tuple g.sq;cases n <;> cases e <;> exact⟨.str_tuple a t' pl hu0,.str_tuple a t' pl hu0⟩
  |obj _=>rw[dM] at e;cases e
  |scr _ _=>rw[dJ] at e;cases e
  |@lst p xs ds g r=>
   cases rv;obtain⟨its,rr,pl,_⟩:=I.list g.sq;cases rb with
   |non=>cases ru;cases n <;> cases e <;> exact⟨.list_none pl.isList hu0,.list_none pl.isList hu0⟩
   |obj _=>rw[dL] at e;cases e
   |scr _ _=>rw[dI] at e;cases e
   |bl b=>cases ru;cases n <;> cases e <;> exact⟨.list_bool b pl.isList hu0,.list_bool b pl.isList hu0⟩
   |int b=>obtain⟨t,rfl⟩:=ru;cases n <;> cases e <;> exact⟨.list_int b t pl.isList hu0,.list_int b t pl.isList hu0⟩
   |str b=>obtain⟨t,rfl⟩:=ru;cases n <;> cases e <;> exact⟨.list_str b t pl.isList hu0,.list_str b t pl.isList hu0⟩
   |tup g' r'=>cases ru;obtain⟨its',_,pl',_⟩:=I.tuple g'.sq;cases n <;> cases e <;> exact⟨.list_tuple pl.isList pl' hu0,.list_tuple pl.isList pl' hu0⟩
   |@lst p' xs' ds' g' r'=>
    cases ru;obtain⟨its',rr',pl',_⟩:=I.list g'.sq;have l1:its.toArray.size=ds.length:=by rw[bi,<- rr.length,r.length]
    have l2:its'.toArray.size=ds'.length:=by rw[bi,<- rr'.length,r'.length]
    cases n with
    |zero=>cases e
    |succ n=>
     have e':(if ds.length=ds'.length then mP (eqD n) ds ds' else xw false)=xw k:=e
     by_cases hl:ds.length=ds'.length
     ·rw[if_pos hl] at e';have hk:k=(bj its.toArray.size).all (eAt (eqD n) ds ds'):=by
       rw[wE e',l1,<- hl,jr]
      rw[hk];have z:=l1.trans (hl.trans l2.symm);refine both ?_ (SeqAt.RcAt.lists pl.isList pl'.isList z hu0) (SeqAt.RcNeAt.lists pl.isList pl'.isList z hu0);intro j h1 h2;obtain⟨d,hd,rd⟩:=r.getV (i:=j) (v:=xs[j]'(by rw[r.length,<- l1];exact h1)) (by simp);obtain⟨d',hd',rd'⟩:=r'.getV (i:=j) (v:=xs'[j]'(by rw[r'.length,<- l2];exact h2)) (by simp);obtain⟨w,hw,rw1⟩:=rr.get (i:=j) (x:=xs[j]'(by rw[r.length,<- l1];exact h1)) (by simp);obtain⟨w',hw',rw2⟩:=rr'.get (i:=j) (x:=xs'[j]'(by rw[r'.length,<- l2];exact h2)) (by simp);have ew:its.toArray[j]=w:=by
       obtain⟨_,q⟩:=br.mp hw;simpa using q
      have ew':its'.toArray[j]=w':=by
       obtain⟨_,q⟩:=br.mp hw';simpa using q
      rw[ew,ew'];exact AI I n rd rd' rw1 rw2 (mO e' hd hd') ((ih n (oz n) rd rd' rw1 rw2 (mO e' hd hd') (eV hu)).1)
     ·rw[if_neg hl] at e';cases e';have z:(its.toArray.size !=its'.toArray.size)=true:=by rw[l1,l2];simpa using hl
      exact⟨.lists_lengths pl.isList pl'.isList z hu0,.lists_lengths pl.isList pl'.isList z hu0⟩
  |@tup p xs ds g r=>
   cases rv;obtain⟨its,rr,pl,_⟩:=I.tuple g.sq;cases rb with
   |non=>cases ru;cases n <;> cases e <;> exact⟨.tuple_none pl hu0,.tuple_none pl hu0⟩
   |obj _=>rw[dL] at e;cases e
   |scr _ _=>rw[dI] at e;cases e
   |bl b=>cases ru;cases n <;> cases e <;> exact⟨.tuple_bool b pl hu0,.tuple_bool b pl hu0⟩
   |int b=>obtain⟨t,rfl⟩:=ru;cases n <;> cases e <;> exact⟨.tuple_int b t pl hu0,.tuple_int b t pl hu0⟩
   |str b=>obtain⟨t,rfl⟩:=ru;cases n <;> cases e <;> exact⟨.tuple_str b t pl hu0,.tuple_str b t pl hu0⟩
   |lst g' r'=>cases ru;obtain⟨its',_,pl',_⟩:=I.list g'.sq;cases n <;> cases e <;> exact⟨.tuple_list pl pl'.isList hu0,.tuple_list pl pl'.isList hu0⟩
   |@tup p' xs' ds' g' r'=>
    cases ru;obtain⟨its',rr',pl',_⟩:=I.tuple g'.sq;have l1:its.toArray.size=ds.length:=by rw[bi,<- rr.length,r.length]
    have l2:its'.toArray.size=ds'.length:=by rw[bi,<- rr'.length,r'.length]
    cases n with
    |zero=>cases e
    |succ n=>
     have e':((mP (eqD n) ds ds').map fun k=>k&&ds.length==ds'.length)=xw k:=e;cases q:mP (eqD n) ds ds' with
     |none=>rw[q] at e';cases e'
     |some c=>
      rw[q] at e';cases e';have hk:(c&&ds.length==ds'.length)=((bj (min its.toArray.size its'.toArray.size)).all (eAt (eqD n) ds ds')&&its.toArray.size==its'.toArray.size):=by
       rw[wE q,l1,l2]
      dsimp only;rw[hk];refine both ?_ (SeqAt.RcAt.tuples pl pl' hu0) (SeqAt.RcNeAt.tuples pl pl' hu0);intro j h1 h2;obtain⟨d,hd,rd⟩:=r.getV (i:=j) (v:=xs[j]'(by rw[r.length,<- l1];exact h1)) (by simp);obtain⟨d',hd',rd'⟩:=r'.getV (i:=j) (v:=xs'[j]'(by rw[r'.length,<- l2];exact h2)) (by simp);obtain⟨w,hw,rw1⟩:=rr.get (i:=j) (x:=xs[j]'(by rw[r.length,<- l1];exact h1)) (by simp);obtain⟨w',hw',rw2⟩:=rr'.get (i:=j) (x:=xs'[j]'(by rw[r'.length,<- l2];exact h2)) (by simp);have ew:its.toArray[j]=w:=by
       obtain⟨_,q⟩:=br.mp hw;simpa using q
      have ew':its'.toArray[j]=w':=by
       obtain⟨_,q⟩:=br.mp hw';simpa using q
      rw[ew,ew'];exact AI I n rd rd' rw1 rw2 (mO q hd hd') ((ih n (oz n) rd rd' rw1 rw2 (mO q hd hd') (eV hu)).1)
theorem yS (I:Inv X pins σ H s) (n:Nat) (ra:Rep X.K ok H x a) (rb:Rep X.K ok' H y b) (rv:RelV x v) (ru:RelV y u) (e:eqD n a b=xw k) (hu:A.units+n<eu):wu A s v u k:=
 AI I n ra rb rv ru e (EC I n ra rb rv ru e hu).1
end
section
variable {X:Cx}{pins:List (af×Obj)}{σ:St}{H:Hp}{s:au}{ok ok':Okk}
end
noncomputable def RX (K:aa) (n:Nat):R2:=fun x y H Q=>∃ ok a b k,Rep K ok H x a/\Rep K ok H y b/\eqD n a b=xw k/\Q (.bl k) H
noncomputable def QJ (K:aa) (n:Nat):R2:=fun x y H Q=>∃ ok a b k,Rep K ok H x a/\Rep K ok H y b/\eqD n a b=xw k/\Q (.bl (!k)) H
noncomputable def gEq (n:Nat) (a b:D):Option D:=(eqD n a b).map D.bl
noncomputable def gNe (n:Nat) (a b:D):Option D:=(eqD n a b).map fun k=>D.bl (!k)
theorem aG {f:α->β} (h:o.map f=xw b):∃ a,o=xw a/\f a=b:=by
 cases o with
 |none=>cases h
 |some a=>exact⟨a,rfl,ca h⟩
abbrev Ha (X:Cx) (n:Nat):Prop:=X.A.units+n<eu
section
variable {X:Cx}{e a b c:bv}{es:List bv}{f fa fb fc:DF}{fl:DL}{pos:Pos}
theorem JU (hu:Ha X n):OpR X (fu .Eq) (RX X.K n):=by
 intro pins s σ H x y v u Q I rx ry h;obtain⟨ok,a,b,k,ra,rb,e,q⟩:=h;exact(EC I n ra rb rx ry e hu).1 X.prog X.w X.xe _ ⟨.bl k,H,I,rfl,q⟩
theorem JS (hu:Ha X n):OpR X (fu .NotEq) (QJ X.K n):=by
 intro pins s σ H x y v u Q I rx ry h;obtain⟨ok,a,b,k,ra,rb,e,q⟩:=h;exact(EC I n ra rb rx ry e hu).2 X.prog X.w X.xe _ ⟨.bl (!k),H,I,rfl,q⟩
noncomputable def isN:D->Bool
 |.non=>true
 |_=>false
noncomputable def Pz (a b:D):Option D:=match b with
 |.non=>xw (.bl (isN a))
 |_=>xx
noncomputable def Mv (a b:D):Option D:=match b with
 |.non=>xw (.bl (!isN a))
 |_=>xx
theorem Ka {K:aa} (h:Rep K ok H v d):decide (v=.non)=isN d:=by
 cases h <;> simp[isN]
theorem Gh {K:aa}:Fit2 K (fun x y H Q=>y=.non/\Q (.bl (decide (x=.non))) H) Pz:=fun ok H x y a b d Q h1 ra rb e k=>by
 cases b with
 |non=>
  cases e;refine⟨rb.non_inv,?_⟩;rw[Ka ra];exact k _ H (Same.refl H) (.bl _)
 |_=>cases e
theorem IT {K:aa}:Fit2 K (fun x y H Q=>y=.non/\Q (.bl (!decide (x=.non))) H) Mv:=fun ok H x y a b d Q h1 ra rb e k=>by
 cases b with
 |non=>
  cases e;refine⟨rb.non_inv,?_⟩;rw[Ka ra];exact k _ H (Same.refl H) (.bl _)
 |_=>cases e
noncomputable def inO (f:D->Option Bool):List D->Option Bool
 |[]=>xw false
 |x::xs=>(f x).bind fun b=>(inO f xs).map fun c=>b||c
noncomputable def inD (n:Nat) (a b:D):Option Bool:=match b with
 |.lst ds=>inO (fun d=>eqD n d a) ds
 |.tup ds=>inO (fun d=>eqD n d a) ds
 |_=>xx
noncomputable def zN (K:aa) (ok:Okk) (H:Hp) (n:Nat) (a:D) (u:ag):Bool:=
 @decide (∃ x d,RelV x u/\Rep K ok H x d/\eqD n d a=xw true) (kz _)
theorem Jy {a d:D} (I:Inv X pins σ H s) (r:RelV x u) (q:Rep X.K ok H x d) (e:eqD n d a=xw k):zN X.K ok H n a u=k:=by
 unfold zN;cases k with
 |true=>exact @decide_eq_true _ (kz _) ⟨x,d,r,q,e⟩
 |false=>
  refine @decide_eq_false _ (kz _) ?_
  rintro⟨x',d',r',q',e'⟩
  obtain rfl:=r.inj r';exact nomatch Ja I n q q' e e'
theorem pX {a:D} (I:Inv X pins σ H s):∀ {xs:List V}{us:List ag}{ds:List D}{k:Bool},Vals xs us->Reps X.K ok H xs ds->inO (fun d=>eqD n d a) ds=xw k->
  us.any (zN X.K ok H n a)=k/\∀ u∈us,∃ x d,RelV x u/\Rep X.K ok H x d/\eqD n d a=xw (zN X.K ok H n a u)
 |_,_,_,_,.nil,.nil,h=>by
  cases h;exact⟨rfl,fun u hu=>by cases hu⟩
 |_,_,_,k,.cons r rs,.cons q qs,h=>by
  obtain⟨b,e1,e2⟩:=bind_some h;obtain⟨c,e3,rfl⟩:=aG e2;obtain⟨h1,h2⟩:=pX I rs qs e3;have hb:=Jy I r q e1;refine⟨by rw[ma,hb,h1],fun u hu=> ?_⟩;rcases ak.mp hu with rfl|hu
  ·exact⟨_,_,r,q,by rw[hb];exact e1⟩
  ·exact h2 u hu
noncomputable def RW (K:aa) (n:Nat):R2:=fun x y H Q=>∃ ok a b k,Rep K ok H x a/\Rep K ok H y b/\inD n a b=xw k/\Q (.bl k) H
noncomputable def EG (K:aa) (n:Nat):R2:=fun x y H Q=>∃ ok a b k,Rep K ok H x a/\Rep K ok H y b/\inD n a b=xw k/\Q (.bl (!k)) H
theorem OB (hu:Ha X (n+1)):OpR X (fu .In) (RW X.K n):=by
 intro pins s σ H x y v u Q I rx ry h;obtain⟨ok,a,b,k,ra,rb,e,q⟩:=h;cases rb with
 |lst g r=>
  cases ry;obtain⟨its,rr,pl,_⟩:=I.list g.sq;obtain⟨h1,h2⟩:=pX I rr r e;refine SeqAt.in_listAt (zN X.K ok H n a) pl.isList (fun w hw=> ?_) ⟨.bl k,H,I,?_,q⟩
  ·obtain⟨x',d',r',q',e'⟩:=h2 w (by simpa using hw);exact yS I n q' ra r' rx e' (eV hu)
  ·rw[<- h1];simp[RelV]
 |tup g r=>
  cases ry;obtain⟨its,rr,pl,_⟩:=I.tuple g.sq;obtain⟨h1,h2⟩:=pX I rr r e;refine SeqAt.in_tupleAt (zN X.K ok H n a) pl (fun w hw=> ?_) ⟨.bl k,H,I,?_,q⟩
  ·obtain⟨x',d',r',q',e'⟩:=h2 w (by simpa using hw);exact yS I n q' ra r' rx e' (eV hu)
  ·rw[<- h1];simp[RelV]
 |_=>cases e
theorem EV (hu:Ha X (n+1)):OpR X (fu .NotIn) (EG X.K n):=by
 intro pins s σ H x y v u Q I rx ry h;obtain⟨ok,a,b,k,ra,rb,e,q⟩:=h;cases rb with
 |lst g r=>
  cases ry;obtain⟨its,rr,pl,_⟩:=I.list g.sq;obtain⟨h1,h2⟩:=pX I rr r e;refine SeqAt.notIn_listAt (zN X.K ok H n a) pl.isList (fun w hw=> ?_) ⟨.bl (!k),H,I,?_,q⟩
  ·obtain⟨x',d',r',q',e'⟩:=h2 w (by simpa using hw);exact yS I n q' ra r' rx e' (eV hu)
  ·rw[<- h1];simp[RelV]
 |tup g r=>
  cases ry;obtain⟨its,rr,pl,_⟩:=I.tuple g.sq;obtain⟨h1,h2⟩:=pX I rr r e;refine SeqAt.notIn_tupleAt (zN X.K ok H n a) pl (fun w hw=> ?_) ⟨.bl (!k),H,I,?_,q⟩
  ·obtain⟨x',d',r',q',e'⟩:=h2 w (by simpa using hw);exact yS I n q' ra r' rx e' (eV hu)
  ·rw[<- h1];simp[RelV]
 |_=>cases e
noncomputable def gIn (n:Nat) (a b:D):Option D:=(inD n a b).map D.bl
noncomputable def Co (n:Nat) (a b:D):Option D:=(inD n a b).map fun k=>D.bl (!k)
theorem PF {K:aa}:Fit2 K (RW K n) (gIn n):=fun ok H x y a b d Q h1 ra rb e k=>by
 obtain⟨c,e1,rfl⟩:=aG e;exact⟨ok,a,b,c,ra,rb,e1,k _ H (Same.refl H) (.bl _)⟩
theorem Ge {K:aa}:Fit2 K (EG K n) (Co n):=fun ok H x y a b d Q h1 ra rb e k=>by
 obtain⟨c,e1,rfl⟩:=aG e;exact⟨ok,a,b,c,ra,rb,e1,k _ H (Same.refl H) (.bl _)⟩
noncomputable def tyD:D->String
 |.non=>"NoneType"
 |.bl _=>"bool"
 |.int _=>"int"
 |.str _=>"str"
 |.lst _=>"list"
 |.tup _=>"tuple"
 |.obj _=>"object"
 |.scr _=>"object"
noncomputable def Fz:D->Bool
 |.obj _=>true
 |.scr _=>true
 |_=>false
noncomputable def Nd (T:String) (d:D):Option Bool:=
 if Fz d=true then xx else if T="int" then xw (match d with|.int _=>true|.bl _=>true|_=>false)
 else if T="bool" then xw (match d with|.bl _=>true|_=>false)
 else if T="str" then xw (match d with|.str _=>true|_=>false)
 else if T="list" then xw (match d with|.lst _=>true|_=>false)
 else if T="tuple" then xw (match d with|.tup _=>true|_=>false)
 else if T="dict" then xw false
 else xx
theorem LZ {K:aa} (h:Nd T d=xw k):PySem.W.kitOne K (.type (tyD d)) (.type T)=xw k:=by
 unfold Nd at h;split at h
 ·cases h
 rename_i hob
 split at h
 ·subst_vars;cases h;cases d <;> first|rfl|exact absurd rfl hob
 ·split at h
  ·subst_vars;cases h;cases d <;> first|rfl|exact absurd rfl hob
  ·split at h
   ·subst_vars;cases h;cases d <;> first|rfl|exact absurd rfl hob
   ·split at h
    ·subst_vars;cases h;cases d <;> first|rfl|exact absurd rfl hob
    ·split at h
     ·subst_vars;cases h;cases d <;> first|rfl|exact absurd rfl hob
     ·split at h
      ·subst_vars;cases h;cases d <;> first|rfl|exact absurd rfl hob
      ·cases h
def Sx (K:aa):List V->Hp->VK->Prop:=fun xs H Q=>∃ x T d ok k,xs=[x,.ty T]/\Rep K ok H x d/\Nd T d=xw k/\Q (.bl k) H
theorem Ju:CallR X (.builtin "isinstance") (Sx X.K):=by
 intro pins s σ H xs us Q I r h;obtain⟨x,T,d,ok,k,rfl,q,e,hq⟩:=h;obtain⟨u,w',rfl,ru,rw'⟩:=Ef r;cases rw';have fin:∀ tk,EP X pins σ Q (.bool k) { s with toks:=tk }:=fun tk=>⟨.bl k,H,I.tok _,rfl,hq⟩;have ek:=LZ (K:=X.K) e;cases q with
 |non=>cases ru;exact lj vy I.kIn ga ek (fun z=>nomatch z) fin
 |bl b=>cases ru;exact lj vz I.kIn ga ek (fun z=>nomatch z) fin
 |int i=>obtain⟨t,rfl⟩:=ru;exact lj wl I.kIn ga ek (fun z=>nomatch z) fin
 |str z=>obtain⟨t,rfl⟩:=ru;exact lj wm I.kIn ga ek (fun z=>nomatch z) fin
 |lst g r=>
  cases ru;obtain⟨its,_,⟨o,n,e1,c1,_,_⟩,_⟩:=I.list g.sq;exact lj wb I.kIn ⟨o,e1,c1⟩ ek (fun z=>nomatch z) fin
 |tup g r=>
  cases ru;obtain⟨its,_,⟨o,e1,c1,_⟩,_⟩:=I.tuple g.sq;exact lj vh I.kIn ⟨o,e1,c1⟩ ek (fun z=>nomatch z) fin
 |obj _=>exact nomatch e
 |scr _ _=>exact nomatch e
end
local macro_rules| `(tactic|walk_at "adr")=> `(tactic|((try unfold af at*);omega))
noncomputable def uJ (env:Env):List (Str×ij)->List (Str×af)->List (Str×af)
 |[],acc=>acc
 |(n,k)::r,acc=>if k== .free then uJ env r ((n,(env.cells.lookup n).getD 0)::acc) else uJ env r acc
theorem vU (f:Str×ij->List (Str×af)->Sem (ForInStep (List (Str×af))))
  (hf:∀ name kind cs,f (name,kind) cs=if kind== .free then(do let c <- cellOf env name;pure (.yield ((name,c)::cs))) else pure (.yield cs)):
  ∀(names:List (Str×ij)) (acc:List (Str×af)),(∀ y∈names,y.2=.free->∃ c,env.cells.lookup y.1=xw c)->(forIn names acc f:Sem _)=pure (uJ env names acc)
 |[],acc,_=>by rw[xk];rfl
 |(n,k)::r,acc,h=>by
  rw[List.forIn_cons,hf];have hr:∀ y∈r,y.2=.free->∃ c,env.cells.lookup y.1=xw c:=fun y hy=>h y (ai _ hy);unfold uJ
  by_cases hk:(k==ia)=true
  ·rw[if_pos hk,if_pos hk];obtain⟨c,hc⟩:=h (n,k) aq (by simpa using hk);have e:(cellOf env n:Sem af)=pure c:=by unfold cellOf;rw[hc]
   rw[e,hc];simp only[pure_bind,Option.getD_some];exact vU f hf r _ hr
  ·rw[if_neg hk,if_neg hk];simp only[pure_bind];exact vU f hf r _ hr
theorem uI (h:∀ y∈scope.names,y.2=.free->∃ c,env.cells.lookup y.1=xw c):closureFor scope env=pure (uJ env scope.names []):=by
 simp only[closureFor];rw[vU (env:=env) _ (fun name kind cs=>by cases hk:kind==ia <;> simp[hk]) scope.names [] h];rfl
theorem oS:∀ {names:List (Str×ij)}{acc:List (Str×af)}{c:af},(uJ env names acc).lookup x=xw c->acc.lookup x=xw c∨((x,ia)∈names/\c=(env.cells.lookup x).getD 0)
 |[],acc,c,h=>.inl h
 |(n,k)::r,acc,c,h=>by
  unfold uJ at h
  by_cases hk:(k==ia)=true
  ·rw[if_pos hk] at h;rcases oS h with q|⟨q1,q2⟩
   ·rw[gn] at q;cases hx:x==n with
    |true=>
     rw[hx] at q;obtain rfl:x=n:=by simpa using hx
     have hk':k=.free:=by simpa using hk
     subst hk';exact .inr ⟨aq,by cases q;rfl⟩
    |false=>
     rw[hx] at q;exact .inl q
   ·exact .inr ⟨ai _ q1,q2⟩
  ·rw[if_neg hk] at h;rcases oS h with q|⟨q1,q2⟩
   ·exact .inl q
   ·exact .inr ⟨ai _ q1,q2⟩
theorem qX:∀ {names:List (Str×ij)}{acc:List (Str×af)},(∃ c,acc.lookup x=xw c)->∃ c,(uJ env names acc).lookup x=xw c
 |[],acc,h=>h
 |(n,k)::r,acc,h=>by
  unfold uJ;split
  ·refine qX ?_;rw[gn];cases hx:x==n with
   |true=>exact⟨_,rfl⟩
   |false=>exact h
  ·exact qX h
theorem wC:∀ {names:List (Str×ij)}{acc:List (Str×af)},(x,ia)∈names->∃ c,(uJ env names acc).lookup x=xw c
 |(n,k)::r,acc,h=>by
  unfold uJ;rcases ak.mp h with e|h
  ·cases e;rw[if_pos (by rfl)];exact qX ⟨_,by rw[gn,beq_self_eq_true]⟩
  ·split
   ·exact wC h
   ·exact wC h
theorem fK:∀ {names:List (Str×ij)}{n:Nat}{acc:List (Str×af)}{c:af},(hX n names acc).lookup x=xw c->acc.lookup x=xw c∨((x,c4)∈names/\n<=c)
 |[],n,acc,c,h=>.inl h
 |(y,k)::r,n,acc,c,h=>by
  unfold hX at h
  by_cases hk:(k==c4)=true
  ·rw[if_pos hk] at h;rcases fK h with q|⟨q1,q2⟩
   ·rw[gn] at q;cases hx:x==y with
    |true=>
     rw[hx] at q;obtain rfl:x=y:=by simpa using hx
     have hk':k=.cell:=by simpa using hk
     subst hk';cases q;exact .inr ⟨aq,bf _⟩
    |false=>
     rw[hx] at q;exact .inl q
   ·exact .inr ⟨ai _ q1,by walk_at "adr"⟩
  ·rw[if_neg hk] at h;rcases fK h with q|⟨q1,q2⟩
   ·exact .inl q
   ·exact .inr ⟨ai _ q1,q2⟩
theorem iO:∀ {names:List (Str×ij)}{n:Nat}{acc:List (Str×af)},(x,c4)∉names->(hX n names acc).lookup x=acc.lookup x
 |[],n,acc,_=>rfl
 |(y,k)::r,n,acc,h=>by
  have hr:(x,c4)∉r:=fun z=>h (ai _ z);unfold hX
  by_cases hk:(k==c4)=true
  ·rw[if_pos hk,iO hr,gn];have hk':k=.cell:=by simpa using hk
   subst hk';cases hx:x==y with
   |true=>
    obtain rfl:x=y:=by simpa using hx
    exact absurd aq h
   |false=>rfl
  ·rw[if_neg hk,iO hr]
theorem eU:∀ {names:List (Str×ij)}{n:Nat}{acc:List (Str×af)},(∃ c,acc.lookup x=xw c)->∃ c,(hX n names acc).lookup x=xw c
 |[],n,acc,h=>h
 |(y,k)::r,n,acc,h=>by
  unfold hX;split
  ·refine eU ?_;rw[gn];cases hx:x==y with
   |true=>exact⟨_,rfl⟩
   |false=>exact h
  ·exact eU h
theorem jU:∀ {names:List (Str×ij)}{n:Nat}{acc:List (Str×af)},(x,c4)∈names->∃ c,(hX n names acc).lookup x=xw c
 |(y,k)::r,n,acc,h=>by
  unfold hX;rcases ak.mp h with e|h
  ·cases e;rw[if_pos (by rfl)];exact eU ⟨_,by rw[gn,beq_self_eq_true]⟩
  ·split
   ·exact jU h
   ·exact jU h
structure wN (h:c9) (n:Nat) (acc cs:List (Str×af)):Prop where
 cell:∀ x c,(x,c)∈cs->(x,c)∈acc∨(h.IsCell c xx/\n<=c)
 apart:∀ x y c,(x,c)∈cs->(y,c)∈cs->n<=c->x=y
theorem vH:∀(names:List (Str×ij)) (h:c9) (n:Nat) (acc0 acc:List (Str×af)),n<=h.objs.size->wN h n acc0 acc->(∀ x c,(x,c)∈acc->c<h.objs.size)->wN (pushCells h names) n acc0 (hX h.objs.size names acc)
 |[],h,n,acc0,acc,_,N,_=>N
 |(y,k)::r,h,n,acc0,acc,hn,N,hlt=>by
  unfold pushCells hX;split
  ·have:=vH r (h.push { cls:=.type "cell",data:=.cell xx }) n acc0 ((y,h.objs.size)::acc) (by rw[iw];walk_at "adr")
    ⟨fun x c hm=>by
     rcases ak.mp hm with e|hm
     ·cases e;exact .inr ⟨⟨_,bz _ rfl,rfl⟩,hn⟩
     ·rcases N.cell x c hm with q|⟨q1,q2⟩
      ·exact .inl q
      ·exact .inr ⟨q1.keeps fun b o e=>az _ e,q2⟩,
    fun x z c h1 h2 h3=>by
     rcases ak.mp h1 with e1|h1 <;> rcases ak.mp h2 with e2|h2
     ·cases e1;cases e2;rfl
     ·cases e1;exact absurd (hlt z _ h2) (gx _)
     ·cases e2;exact absurd (hlt x _ h1) (gx _)
     ·exact N.apart x z c h1 h2 h3⟩
    (fun x c hm=>by
     rw[iw];rcases ak.mp hm with e|hm
     ·cases e;walk_at "adr"
     ·have:=hlt x c hm;walk_at "adr")
   rw[iw] at this;exact this
  ·exact vH r h n acc0 acc hn N hlt
theorem Ic
  (h:∀ h':c9,(∀ b o,s.heap.get? b=xw o->h'.get? b=xw o)->h'.Ns s.heap.objs.size (fun _=>xx)->wN h' (s.heap.objs.size+1) cl (hX (s.heap.objs.size+1) scope.names cl)->
   Q { scope:=scope,locals:=s.heap.objs.size,globals:=globals,cells:=hX (s.heap.objs.size+1) scope.names cl,qual:=qual,func:=xx,code:=env.code,frame:=env.frame,builtins:=env.builtins } { s with heap:=h' })
  (hlt:∀ x c,(x,c)∈cl->c<s.heap.objs.size):bc M A (uc scope globals cl [] qual xx .none (xw env)) Q E s:=by
 simp only[uc,vg,if_true];refine ae (wpAny_alloc ?_);refine ae (wpAny_layCells _ (fun name kind cells=>by cases hkc:kind==c4 <;> simp[hkc]) _ _ _ _ ?_);rw[show({ s with heap:=s.heap.push { cls:=.type "dict",data:=.dict #[] } }:au).heap.objs.size=s.heap.objs.size+1 from iw ..];rw[xk];refine ae (ar (ar (h _ (fun b o e=>pushCells_keeps _ _ b o (az _ e)) ((Heap.Ns.new s.heap (.type "dict")).keeps (pushCells_keeps _ _)) ?_)))
 have:=vH scope.names (s.heap.push { cls:=.type "dict",data:=.dict #[] }) (s.heap.objs.size+1) cl cl (by rw[iw];walk_at "adr")
  ⟨fun x c hm=>.inl hm,fun x y c h1 h2 h3=>absurd (hlt x c h1) (by walk_at "adr")⟩ (fun x c hm=>by rw[iw];have:=hlt x c hm;walk_at "adr")
 rw[iw] at this;exact this
theorem zA (I:Nat->au->Prop)
  (turn:∀ n s,I n s->bc (model prog w) A (oq it) (fun r s₁=>match r with
   |none=>R (.ok .next) s₁
   |some v=>bc (model prog w) A (pi target it v) (fun _ s₁'=>bc (model prog w) A (assign target env v) (fun _ s₂=>
     bc (model prog w) A (forIn ifs true fun c r=>if r=true then do let ok <- isTrue c env (eval c env);pure (pk ok) else pure (pk r)) (fun ok s₃=>
      if ok=true then bc (model prog w) A (eval elt env) (fun x s₄=>
       bc (model prog w) A (call (.builtin "list.append") [acc,x]) (fun _ s₅=>∃ m,m<n/\I m s₅) (fun _ _=>False) s₄) (fun _ _=>False) s₃
      else ∃ m,m<n/\I m s₃) (fun _ _=>False) s₂) (fun _ _=>False) s₁') (fun _ _=>False) s₁) (fun _ _=>False) s)
  (n:Nat) (h:I n s):pd (model prog w) A (.compLoop (.ListComp elt [⟨target,iter,ifs,0⟩] scope pos) 0 it acc env) R s:=by
 refine codeAny_loop rfl I (fun n s hI=> ?_) n h;show bc _ A ((compTurn (.ListComp elt [⟨target,iter,ifs,0⟩] scope pos) 0 it acc env).onRaise (fun x=>do vj x env;theTreesLotGoes x)) _ _ s;refine wpAny_noted ?_;rw[compTurn_list];refine ae (ut (ae (hZ (turn n s hI) (fun r s₁ h₁=> ?_) fun _ _ h'=>h'.elim)));cases r with
 |none=>exact ar h₁
 |some v=>
  refine ae (hZ h₁ (fun _ s₁' h₁'=> ?_) fun _ _ h'=>h'.elim);refine ae (hZ h₁' (fun _ s₂ h₂=>ae (hZ h₂ (fun ok s₃ h₃=> ?_) fun _ _ h'=>h'.elim)) fun _ _ h'=>h'.elim);cases ok with
  |false=>exact ar ⟨rfl,h₃⟩
  |true=>
   exact ae (ae (hZ h₃ (fun x s₄ h₄=>ae (hZ h₄ (fun _ s₅ h₅=>ar (ar ⟨rfl,h₅⟩)) fun _ _ h'=>h'.elim)) fun _ _ h'=>h'.elim))
noncomputable def blk (X:Cx) (N':List Str) (scope:kt) (cells:List (Str×af)) (C:af) (fp:List af) (pins:List (af×Obj)) (s₀:au) (H₀:Hp):Cx where
 prog:=X.prog
 w:=X.w
 K:=X.K
 mg:=X.mg
 base:=X.base
 A:=X.A
 N:=N'
 s₀:=s₀
 H₀:=H₀
 env:=compEnvC scope cells C X.env
 outer:=X.stack
 stack:=X.stack
 ex:=fp
 fn:=fun x=>scope.names.lookup x==xw .cell
 calm:=X.calm
 pn:=X.pn++pins
 xe:=fun _ _=>False
def Nh (X:Cx) (ifs:List bv) (tt:TT):Prop:=
 ∀(pins:List (af×Obj)) (s:au) (σ:St) (H:Hp) (Q:Bool->Hp->Prop),Inv X pins σ H s->tt σ H Q->
  bc (model X.prog X.w) X.A (forIn ifs true fun c r=>if r=true then do let ok <- isTrue c X.env (eval c X.env);pure (pk ok) else pure (pk r)) (TP X pins σ Q) X.xe s
def Sg:TT:=fun _ H Q=>Q true H
theorem Ml:Nh X [] Sg:=fun _ _ _ H _ I h=>wpAny_tests_nil ⟨H,I,h⟩
theorem Mj (h:PT X c tt):Nh X [c] tt:=fun pins s σ H Q I q=>wpAny_tests_one (h pins s σ H Q I q)
noncomputable def GE (caps:List (Option Nat)) (σ:St):St:=caps.map fun o=>o.bind fun j=>(σ[j]?).join
def CB (X:Cx) (scope:kt) (N':List Str) (caps:List (Option Nat)):Prop:=
 caps.length=N'.length/\∀(i j:Nat),caps[i]?=xw (xw j)->∃ x,N'[i]?=xw x/\X.N[j]?=xw x/\scope.names.lookup x=xw .free/\(x,c4)∉scope.names/\(X.env.scope.names.lookup x=xw .cell∨X.env.scope.names.lookup x=xw .free)
def Kp (wi:TI) (caps:List (Option Nat)) (g:TG) (tt:TT) (te:TE):TE:=fun σ H Q=>wi σ H fun J H1=>∀ D,H1 D=xx->∃ W:Nat->Nat->St->Hp->Prop,(∃ m,W 0 m (GE caps σ) (upd H1 D (.lst [])))/\
 ∀ i m σ' H,W i m σ' H->(J.stop i H/\Q (.ref D) H)∨(J.go i H/\∀ x H',J.yld i H x H'->g x σ' H' fun σ2 H2=>tt σ2 H2 fun b H3=>
  if b=true then te σ2 H3 fun y H4=>∃ ys m',H4 D=xw (.lst ys)/\ys.length<sizeLine/\m'<m/\W (i+1) m' σ2 (upd H4 D (.lst (ys++[y]))) else ∃ m',m'<m/\W (i+1) m' σ2 H3)
section
variable {X:Cx}{elt iter tg:bv}{ifs:List bv}{scope:kt}{pos:Pos}{N':List Str}{caps:List (Option Nat)}{wi:TI}{g:TG}{tt:TT}{te:TE}
theorem gK (h:(relabel scope env).names.lookup x=xw k):scope.names.lookup x=xw k∨(k=.cell/\scope.names.lookup x=xw .free):=by
 have aux:∀(names:List (Str×ij)),(names.map fun(n,k)=>if(k==ia&&env.scope.kind== .function&&env.kindOf n==xw .cell) then(n,c4) else(n,k)).lookup x=xw k->
   names.lookup x=xw k∨(k=.cell/\names.lookup x=xw .free):=by
  intro names
  induction names with
  |nil=>intro h;cases h
  |cons p r ih=>
   obtain⟨n,kk⟩:=p;intro h;rw[bg] at h
   by_cases hc:(kk==ia&&env.scope.kind== .function&&env.kindOf n==xw .cell)=true
   ·have h':j8 x ((n,c4)::(r.map fun(n,k)=>if(k==ia&&env.scope.kind== .function&&env.kindOf n==xw .cell) then(n,c4) else(n,k)))=xw k:=by
     have e:(if(kk==ia&&env.scope.kind== .function&&env.kindOf n==xw .cell)=true then(n,c4) else(n,kk))=(n,c4):=if_pos hc;rw[<- e];exact h
    rw[gn] at h' ⊢;cases hx:x==n with
    |true=>
     rw[hx] at h';cases h';have hk:kk=.free:=by
      rw[bu,bu] at hc;simpa using hc.1.1
     exact .inr ⟨rfl,by rw[hk]⟩
    |false=>
     rw[hx] at h';exact ih h'
   ·have h':j8 x ((n,kk)::(r.map fun(n,k)=>if(k==ia&&env.scope.kind== .function&&env.kindOf n==xw .cell) then(n,c4) else(n,k)))=xw k:=by
     have e:(if(kk==ia&&env.scope.kind== .function&&env.kindOf n==xw .cell)=true then(n,c4) else(n,kk))=(n,kk):=if_neg hc;rw[<- e];exact h
    rw[gn] at h' ⊢;cases hx:x==n with
    |true=>
     rw[hx] at h';exact .inl h'
    |false=>
     rw[hx] at h';exact ih h'
 exact aux scope.names h
theorem dF {l:List (Str×ij)} (h:l.lookup x=xw k):(x,k)∈l:=gp h
theorem yY {Qn:V->Hp->Prop}{RR:ag->af->Result->au->Prop}
  (hc:X.calm=true) (hkind:scope.kind=.function)
  (hfree:∀ y∈scope.names,y.2=.free->X.env.scope.names.lookup y.1=xw .cell∨X.env.scope.names.lookup y.1=xw .free) (huniq:∀ y∈scope.names,y.2=.free->(y.1,c4)∉scope.names)
  (hcap:CB X scope N' caps)
  (hb:∀ cells C fp pins s₀ H₀,PG (blk X N' scope cells C fp pins s₀ H₀) tg g/\Nh (blk X N' scope cells C fp pins s₀ H₀) ifs tt/\PE (blk X N' scope cells C fp pins s₀ H₀) elt te)
  (I2:Inv X pins σ H2 s2) (T:Kj X.prog X.w X.K tg J fp it tn) (st2:tn 0 s2.heap) (f2:∀ b∈fp,Kk X pins H2 b)
  (q:∀ D,H2 D=xx->∃ W:Nat->Nat->St->Hp->Prop,(∃ m,W 0 m (GE caps σ) (upd H2 D (.lst [])))/\
   ∀ i m σ' H,W i m σ' H->(J.stop i H/\Qn (.ref D) H)∨(J.go i H/\∀ x H',J.yld i H x H'->g x σ' H' fun σ2 H2=>tt σ2 H2 fun b H3=>
    if b=true then te σ2 H3 fun y H4=>∃ ys m',H4 D=xw (.lst ys)/\ys.length<sizeLine/\m'<m/\W (i+1) m' σ2 (upd H4 D (.lst (ys++[y]))) else ∃ m',m'<m/\W (i+1) m' σ2 H3))
  (hfin:∀(C D:af) (s6:au) (H6:Hp),Inv X pins σ H6 s6->Qn (.ref D) H6->(∃ m,s6.heap.Ns C m)->H6 C=xx->C≠X.env.locals->X.s₀.heap.objs.size<=C->(∀ x c,X.env.cells.lookup x=xw c->c≠C)->(∀ p∈X.pn++pins,p.1≠C)->RR (.ref D) C (.ok .next) s6):
  bc (model X.prog X.w) X.A (newList []) (fun acc s₃=>bc (model X.prog X.w) X.A (uc scope X.env.globals (uJ X.env scope.names []) [] X.env.qual xx .none (xw X.env)) (fun cenv s₄=>
   pd (model X.prog X.w) X.A (.compStart (.ListComp elt [⟨tg,iter,ifs,0⟩] scope pos) 0 (.ref it) acc { cenv with scope:=relabel scope X.env }) (RR acc cenv.locals) s₄) E s₃) E s2:=by
 have hcells:∀ y∈scope.names,y.2=.free->∃ c,X.env.cells.lookup y.1=xw c:=fun y hy hf=>I2.ok.has y.1 (hfree y hy hf);have hD:H2 s2.heap.objs.size=xx:=I2.hok.fresh (bf _);obtain⟨W,⟨m0,w0⟩,turn⟩:=q s2.heap.objs.size hD;refine fj ?_ (iz _)
 generalize hs3:({ s2 with heap:=s2.heap.push { cls:=.type "list",dict:=xx,data:=.seq ([]:List ag).toArray } }:au)=s3
 have I3:Inv X pins σ (upd H2 s2.heap.objs.size (.lst [])) s3:=by
  subst hs3;exact I2.laid (t':=s2.toks) (fun b u e=>az _ e) (bf _) ⟨iz _,[],0,.nil,bz _ rfl⟩
 have sz3:s3.heap.objs.size=s2.heap.objs.size+1:=by rw[<- hs3];exact iw ..
 have k23:∀ b o,s2.heap.get? b=xw o->s3.heap.get? b=xw o:=fun b o e=>by rw[<- hs3];exact az _ e
 generalize hH3:upd H2 s2.heap.objs.size (.lst [])=H3 at I3 w0
 have clLook:∀ x c,(uJ X.env scope.names []).lookup x=xw c->X.env.cells.lookup x=xw c:=fun x c e=>by
  rcases oS e with z|⟨z1,z2⟩
  ·cases z
  ·obtain⟨c',hc'⟩:=hcells (x,.free) z1 rfl;rw[hc'] at z2 ⊢;rw[z2];rfl
 have clMem:∀ x c,(x,c)∈uJ X.env scope.names []->∃ c',X.env.cells.lookup x=xw c'/\c=c':=by
  have aux:∀(names:List (Str×ij)) (acc:List (Str×af)),(∀ y∈names,y.2=.free->∃ c,X.env.cells.lookup y.1=xw c)->(∀ x c,(x,c)∈acc->∃ c',X.env.cells.lookup x=xw c'/\c=c')->
    ∀ x c,(x,c)∈uJ X.env names acc->∃ c',X.env.cells.lookup x=xw c'/\c=c':=by
   intro names
   induction names with
   |nil=>intro acc _ h x c hm;exact h x c hm
   |cons p r ih=>
    obtain⟨n,k⟩:=p;intro acc hn h x c hm;unfold uJ at hm;have hr:∀ y∈r,y.2=.free->∃ c,X.env.cells.lookup y.1=xw c:=fun y hy=>hn y (ai _ hy);split at hm
    ·rename_i hk
     refine ih _ hr (fun x c hm=> ?_) x c hm;rcases ak.mp hm with e|hm
     ·cases e;obtain⟨c',hc'⟩:=hn (n,k) aq (by simpa using hk);exact⟨c',hc',by rw[hc'];rfl⟩
     ·exact h x c hm
    ·exact ih _ hr h x c hm
  exact aux scope.names [] hcells (fun x c hm=>by cases hm)
 have cellLt:∀ x c,X.env.cells.lookup x=xw c->c<s2.heap.objs.size:=fun x c e=>by
  obtain⟨v,z⟩:=I2.cell x c e;exact z.lt
 have hltc:∀ x c,(x,c)∈uJ X.env scope.names []->c<s3.heap.objs.size:=fun x c hm=>by
  obtain⟨c',hc',rfl⟩:=clMem x c hm
  have:=cellLt x c hc'
  walk_at "adr"
 refine Ic (fun h4 k34 ns4 nc=> ?_) hltc
 generalize hC:s3.heap.objs.size=C at ns4 nc
 generalize hcs:hX (C+1) scope.names (uJ X.env scope.names [])=cells at nc
 -- the block's own invariant
 have cellOld:∀ x c,cells.lookup x=xw c->c<C->X.env.cells.lookup x=xw c:=fun x c e hlt=>by
  rw[<- hcs] at e;rcases fK e with z|⟨_,z⟩
  ·exact clLook x c z
  ·walk_at "adr"
 have cellNew:∀ x c,cells.lookup x=xw c->¬ c<C->h4.IsCell c xx/\C+1<=c:=fun x c e hge=>by
  rcases nc.cell x c (gp e) with z|z
  ·obtain⟨c',hc',rfl⟩:=clMem x c z
   have:=cellLt x c hc'
   walk_at "adr"
  ·exact z
 have sz4:C<=h4.objs.size:=io ns4.lt;have okB:(blk X N' scope cells C fp pins s3 H3).Ok:=by
  refine⟨I3.ok.mod,hkind,I3.ok.glob,I3.ok.blt,vc hC,fun x y c h1 h2=> ?_,fun x hx=> ?_,fun x c hf hx=> ?_,I3.ok.hd,I3.ok.frames,.inl rfl,fun b hb=>⟨?_,fun x c hx=> ?_⟩,I3.bs,ci I3.ok.bsz I3.sz,fun b o e hb=> ?_,fun b hb=> ?_,I3.stack,I3.stkFree⟩
  ·by_cases hlt:c<C
   ·exact I3.ok.inj x y c (cellOld x c h1 hlt) (cellOld y c h2 hlt)
   ·exact nc.apart x y c (gp h1) (gp h2) (cellNew x c h1 hlt).2
  ·show ∃ c,cells.lookup x=xw c;rw[<- hcs];have hx':(relabel scope X.env).names.lookup x=xw .cell∨(relabel scope X.env).names.lookup x=xw .free:=hx;have fromFree:(x,ia)∈scope.names->∃ c,(hX (C+1) scope.names (uJ X.env scope.names [])).lookup x=xw c:=fun hm=>eU (wC hm);rcases hx' with hx'|hx'
   ·rcases gK hx' with z|⟨_,z⟩
    ·exact jU (dF z)
    ·exact fromFree (dF z)
   ·rcases gK hx' with z|⟨z,_⟩
    ·exact fromFree (dF z)
    ·cases z
  ·have hf':(x,c4)∈scope.names:=dF (by simpa using (show(scope.names.lookup x==xw .cell)=true from hf))
   by_cases hlt:c<C
   ·exfalso
    have e:(hX (C+1) scope.names (uJ X.env scope.names [])).lookup x=xw c:=by rw[hcs];exact hx
    rcases fK e with z|⟨_,z⟩
    ·rcases oS z with z|⟨z1,_⟩
     ·cases z
     ·exact huniq (x,.free) z1 rfl hf'
    ·walk_at "adr"
   ·show s3.heap.objs.size<=c
    have:=(cellNew x c hx hlt).2
    walk_at "adr"
  ·have:=(f2 b hb)
   obtain⟨o,e,_⟩:=T.obj 0 _ st2 b hb
   have:=bp e
   show b≠C
   walk_at "adr"
  ·obtain⟨o,e,hcell⟩:=T.obj 0 _ st2 b hb;have hlt':=bp e;intro z
   by_cases hlt:c<C
   ·exact(f2 b hb).2.2.2.2.1 x c (cellOld x c hx hlt) z
   ·have:=(cellNew x c hx hlt).2
    walk_at "adr"
  ·rcases(f2 b hb).2.2.2.1 with z|z
   ·exact I2.ok.noex b o e z
   ·have q1:=bp e;have q2:=I2.ok.bsz;have q3:=I2.sz;exact absurd (b9 q1 (ci q2 z)) (gx _)
  ·intro z;rcases ak.mp (I3.stkSub b z) with z|z
   ·exact(f2 b hb).2.1 z
   ·exact(f2 b hb).2.2.1 z
 have hfpC:∀ b∈fp,b<C:=fun b hb=>by
  obtain⟨o,e,_⟩:=T.obj 0 _ st2 b hb
  have:=bp e
  walk_at "adr"
 have Hnew:∀ b,C<=b->H3 b=xx:=fun b hb=>by
  cases z:H3 b with
  |none=>rfl
  |some o=>
   have:=I3.hok.lt z
   walk_at "adr"
 have IB:Inv (blk X N' scope cells C fp pins s3 H3) [] (GE caps σ) H3 { s3 with heap:=h4 }:=by
  refine⟨okB,rfl,I3.bare,Un.kept k34,⟨_,ns4,fun i x v e1 e2 e3=> ?_⟩,fun x c hx=> ?_,Hnew C (bf _),fun x c hx=> ?_,fun p hp=> ?_,I3.hok.kept k34,?_⟩
  ·-- a captured name
   have e2':(GE caps σ)[i]?=xw (xw v):=e2;unfold GE at e2';rw[aw] at e2';cases hci:caps[i]? with
   |none=>rw[hci] at e2';cases e2'
   |some o=>
    rw[hci] at e2';cases o with
    |none=>cases e2'
    |some j=>
     obtain⟨x',hx1,hx2,hx3,hx4,hx5⟩:=hcap.2 i j hci;have ex:x=x':=by
      have e1':N'[i]?=xw x:=e1;rw[hx1] at e1';exact(ca e1').symm
     subst ex;have hσ:σ[j]?=xw (xw v):=by
      have z:(σ[j]?).join=xw v:=ca e2';cases hj:σ[j]? with
      |none=>rw[hj] at z;cases z
      |some o=>
       rw[hj] at z;cases o with
       |none=>cases z
       |some v'=>cases z;rfl
     obtain⟨m,hn,hl⟩:=I3.loc;obtain⟨u,r,l⟩:=hl j x v hx2 hσ (hx5.elim (fun z=>.inr (.inl z)) fun z=>.inr (.inr z));refine⟨u,r,?_⟩;rcases l with⟨k,_⟩|⟨_,c,hcx,hcell⟩
     ·have k':X.env.scope.names.lookup x=xw .local:=k;rcases hx5 with z|z
      ·rw[k'] at z;cases z
      ·rw[k'] at z;cases z
     ·have hlk:cells.lookup x=xw c:=by
       rw[<- hcs,iO hx4];obtain⟨c',hc'⟩:=wC (env:=X.env) (acc:=[]) (dF hx3);rw[hc',<- clLook x c' hc',hcx]
      have e3':(relabel scope X.env).names.lookup x=xw .local∨(relabel scope X.env).names.lookup x=xw .cell∨(relabel scope X.env).names.lookup x=xw .free:=e3;rcases e3' with z|z|z
      ·exfalso
       rcases gK z with z|⟨z,_⟩
       ·rw[hx3] at z;cases z
       ·cases z
      ·exact .inr ⟨.inl z,c,hlk,hcell.keeps k34⟩
      ·exact .inr ⟨.inr z,c,hlk,hcell.keeps k34⟩
  ·by_cases hlt:c<C
   ·obtain⟨v,z⟩:=I3.cell x c (cellOld x c hx hlt);exact⟨v,z.keeps k34⟩
   ·exact⟨xx,(cellNew x c hx hlt).1⟩
  ·by_cases hlt:c<C
   ·exact I3.freeC x c (cellOld x c hx hlt)
   ·exact Hnew c (by walk_at "adr")
  ·have hp':p∈X.pn++pins:=by
    have hp'':p∈(X.pn++pins)++[]:=hp;rwa [c6] at hp''
   obtain⟨e,n,ne,nf,d⟩:=I3.pin p hp';refine⟨k34 _ _ e,n,?_,fun z=> ?_,d⟩
   ·show p.1≠C
    have:=bp e
    walk_at "adr"
   ·rcases ak.mp (I3.stkSub p.1 z) with z|z
    ·exact ne z
    ·exact nf z
  ·show(GE caps σ).length=N'.length
   unfold GE;rw[ao];exact hcap.1
 have tn4:tn 0 h4:=T.keep 0 _ _ st2 fun b hb o e=>k34 b o (k23 b o e);have fr3:∀ b∈fp,H3 b=xx:=fun b hb=>by
  obtain⟨o,e,_⟩:=T.obj 0 _ st2 b hb;rw[<- hH3,aH (ck (bp e))];exact(f2 b hb).1
 have stat:∀ {H':Hp},(∀ b∈fp,H' b=xx)->∀ b∈fp,Kk (blk X N' scope cells C fp pins s3 H3) [] H' b:=fun hn b hb=>
  ⟨hn b hb,ck (hfpC b hb),fun z=>okB.exfs b hb z,.inl hb,fun x c hx=>(okB.exf b hb).2 x c hx,fun p hp=>by
   have hp':p∈X.pn++pins:=by
    have hp'':p∈(X.pn++pins)++[]:=hp;rwa [c6] at hp''
   exact(f2 b hb).2.2.2.2.2 p hp'⟩
 obtain⟨hG,hT,hE⟩:=hb cells C fp pins s3 H3;have loop:pd (model X.prog X.w) X.A (.compLoop (.ListComp elt [⟨tg,iter,ifs,0⟩] scope pos) 0 (.ref it) (.ref s2.heap.objs.size) (compEnvC scope cells C X.env)) (RR (.ref s2.heap.objs.size) C) { s3 with heap:=h4 }:=by
  refine zA (fun n s'=>∃ i σ' H',Inv (blk X N' scope cells C fp pins s3 H3) [] σ' H' s'/\tn i s'.heap/\(∀ b∈fp,H' b=xx)/\W i n σ' H') ?_ m0 ⟨0,_,_,IB,tn4,fr3,w0⟩;rintro n s5 ⟨i,σ5,H5,I5,st5,fr5,w5⟩;rcases turn i n σ5 H5 w5 with⟨stop,qn⟩|⟨go,step⟩
  ·refine thn (T.done (blk X N' scope cells C fp pins s3 H3) rfl rfl rfl hc i [] s5 σ5 H5 _ I5 (stat fr5) st5 stop) fun r s6 ⟨hr,I6⟩=> ?_;subst hr;obtain⟨m6,ns6,_⟩:=I6.loc;have un7:Un (frs X.stack) fp H3 H5 s3.heap s6.heap:=I6.base;have I8:Inv X pins σ H5 s6:=by
    refine I3.call' (ch:=fp) I6.os un7 I6.hok I6.bare fun b hb=>⟨?_,(f2 b hb).2.1,(f2 b hb).2.2.2.2.1,(f2 b hb).2.2.2.2.2⟩;exact(f2 b hb).2.2.2.1
   refine hfin C s2.heap.objs.size s6 H5 I8 qn ⟨m6,ns6⟩ I6.free ?_ (by have:=I3.sz;walk_at "adr") (fun x c e=> ?_) fun p hp=> ?_
   ·have:=I3.lt
    walk_at "adr"
   ·have:=cellLt x c e
    walk_at "adr"
   ·have:=bp (I3.pin p hp).1
    walk_at "adr"
  ·refine thn (T.item (blk X N' scope cells C fp pins s3 H3) rfl rfl rfl hc i [] s5 σ5 H5 _ I5 (stat fr5) st5 go) fun r s6 ⟨u,hr,h6⟩=> ?_;subst hr;refine thn h6 fun _ s7 ⟨x,H7,I7,r7,y7,st7,fr7⟩=> ?_;have I7':=I7.pinned (stat fr7) (T.obj _ _ st7);have keepTn:∀ {σ':St}{H':Hp}{s':au},Inv (blk X N' scope cells C fp pins s3 H3) ([]++xV fp s7.heap) σ' H' s'->tn (i+1) s'.heap/\∀ b∈fp,H' b=xx:=fun {σ' H' s'} I'=>by
    refine⟨T.keep _ _ _ st7 fun b hb o e=>(I'.pin (b,o) (d9 _ (d9 _ (kH hb e)))).1,fun b hb=> ?_⟩;obtain⟨o,e,d⟩:=T.obj _ _ st7 b hb;exact(I'.pin (b,o) (d9 _ (d9 _ (kH hb e)))).2.1
   refine thn (hG _ s7 σ5 H7 x u _ I7' r7 (step x H7 y7)) fun _ s8 ⟨σ8,H8,I8,q8⟩=> ?_;refine thn (hT _ s8 σ8 H8 _ I8 q8) fun b s9 ⟨H9,I9,q9⟩=> ?_;cases b with
   |false=>
    rw[if_neg cj] at q9 ⊢;obtain⟨m',hm,w9⟩:=q9;exact⟨m',hm,i+1,σ8,H9,I9.unpinned,(keepTn I9).1,(keepTn I9).2,w9⟩
   |true=>
    rw[if_pos rfl] at q9 ⊢;refine thn (hE _ s9 σ8 H9 _ I9 q9) fun y s10 ⟨yv,H10,I10,r10,q10⟩=> ?_;obtain⟨ys,m',hy,hz,hm,w10⟩:=q10;refine thn (xY _ s10 σ8 H10 (.ref s2.heap.objs.size) [yv] (.ref s2.heap.objs.size) [y] (fun _ H'=>H'=upd H10 s2.heap.objs.size (.lst (ys++[yv]))) I10 rfl (.cons r10 .nil) ⟨_,ys,yv,rfl,rfl,hy,hz,rfl⟩) fun _ s11 ⟨_,H11,I11,_,e11⟩=> ?_;subst e11;exact⟨m',hm,i+1,σ8,_,I11.unpinned,(keepTn I11).1,(keepTn I11).2,w10⟩
 exact codeAny_compStart_list loop (T.self X.A 0 _ _ _ tn4 loop)
theorem KS (hc:X.calm=true) (hkind:scope.kind=.function) (hnames:∀ x∈scope.names,x.2=.local->scope.names.lookup x.1=xw .local)
  (hfree:∀ y∈scope.names,y.2=.free->X.env.scope.names.lookup y.1=xw .cell∨X.env.scope.names.lookup y.1=xw .free) (huniq:∀ y∈scope.names,y.2=.free->(y.1,c4)∉scope.names)
  (hcap:CB X scope N' caps) (hi:PI X tg iter wi)
  (hb:∀ cells C fp pins s₀ H₀,PG (blk X N' scope cells C fp pins s₀ H₀) tg g/\Nh (blk X N' scope cells C fp pins s₀ H₀) ifs tt/\PE (blk X N' scope cells C fp pins s₀ H₀) elt te)
  (hs:∀ x,gs iter X.env x=pure x:=by intro _;rfl):PE X (.ListComp elt [⟨tg,iter,ifs,0⟩] scope pos) (Kp wi caps g tt te):=by
 intro pins s σ H Q I h;have hclos:=uI (scope:=scope) (env:=X.env) fun y hy hf=>I.ok.has y.1 (hfree y hy hf);rw[eval_ListComp];refine rj (use:=xx) rfl hs hclos hkind hnames (thn (hi pins s σ H _ I h) fun v s1 h1=>thn h1 fun itv s2 h2=> ?_);obtain⟨it,fp,tn,J,H2,e,I2,T,st2,f2,q⟩:=h2;subst e;refine yY (RR:=fun acc C=>compPost (model X.prog X.w) X.A X.xe xx (EP X pins σ Q) acc C) (Qn:=fun v H=>∀ a,v=.ref a->Q (.ref a) H) hc hkind hfree huniq hcap hb I2 T st2 f2 (fun D hD=> ?_) fun C D s6 H6 I6 q6 ⟨m6,ns6⟩ hC h1 h2 h3 h4=> ?_
 ·obtain⟨W,w0,turn⟩:=q D hD;refine⟨W,w0,fun i m σ' H w=> ?_⟩;rcases turn i m σ' H w with⟨a,b⟩|z
  ·exact .inl ⟨a,fun c hc=>by cases hc;exact b⟩
  ·exact .inr z
 ·refine⟨m6,ns6,fun h7 sb=> ?_⟩;have I8:Inv X pins σ H6 { s6 with heap:=h7 }:=I6.turned (t':=s6.toks) (fun b o hb e=>(sb.2 b hb).trans e) hC h1 (.inr h2) h3 h4;exact⟨.ref D,H6,I8,rfl,q6 D rfl⟩
def Nr (wi:TI) (caps:List (Option Nat)) (g:TG) (tt:TT) (te:TE) (i:Nat):TS:=fun D σ H=>Kp wi caps g tt te σ H fun x H1=>D.nx (σ.set i (xw x)) H1
theorem KH (hN:X.N.Nodup) (hiy:X.N[i]?=xw y) (hy:X.env.scope.names.lookup y=xw .local) (hc:X.calm=true) (hkind:scope.kind=.function) (hnames:∀ x∈scope.names,x.2=.local->scope.names.lookup x.1=xw .local)
  (hfree:∀ y∈scope.names,y.2=.free->X.env.scope.names.lookup y.1=xw .cell∨X.env.scope.names.lookup y.1=xw .free) (huniq:∀ y∈scope.names,y.2=.free->(y.1,c4)∉scope.names)
  (hcap:CB X scope N' caps) (hi:PI X tg iter wi)
  (hb:∀ cells C fp pins s₀ H₀,PG (blk X N' scope cells C fp pins s₀ H₀) tg g/\Nh (blk X N' scope cells C fp pins s₀ H₀) ifs tt/\PE (blk X N' scope cells C fp pins s₀ H₀) elt te)
  (hsw:jo (.ListComp elt [⟨tg,iter,ifs,0⟩] scope pos) (xw (.Name y py)) spos.line X.env=pure true:=by rfl)
  (hs:∀ x,gs iter X.env x=pure x:=by intro _;rfl):PS X (.Assign [.Name y py] (.ListComp elt [⟨tg,iter,ifs,0⟩] scope pos) spos) (Nr wi caps g tt te i):=by
 intro pins s σ H D I h;have hclos:=uI (scope:=scope) (env:=X.env) fun y hy hf=>I.ok.has y.1 (hfree y hy hf);rw[exec_Assign_Name_used _ _ _ _ hsw];refine ae (ut (ae ?_));show bc _ X.A (do let _ <- comprehension (.ListComp elt [⟨tg,iter,ifs,0⟩] scope pos) scope X.env _ (newList []) false (eval iter X.env) (xw (assign (.Name y py) X.env))) _ _ s;refine ae (hZ (rj (use:=xw (assign (.Name y py) X.env)) (Q:=fun _ s'=>SP X pins D .next s') rfl hs hclos hkind hnames
  (thn (hi pins s σ H _ I h) fun v s1 h1=>thn h1 fun itv s2 h2=> ?_)) (fun _ s' hq=>ar (ar hq)) fun _ _ e=>e)
 obtain⟨it,fp,tn,J,H2,e,I2,T,st2,f2,q⟩:=h2;subst e;refine yY (RR:=fun acc C=>compPost (model X.prog X.w) X.A X.xe (xw (assign (.Name y py) X.env)) (fun _ s'=>SP X pins D .next s') acc C) (Qn:=fun v H=>∀ a,v=.ref a->D.nx (σ.set i (xw (.ref a))) H) hc hkind hfree huniq hcap hb I2 T st2 f2 (fun D' hD=> ?_) fun C D' s6 H6 I6 q6 ⟨m6,ns6⟩ hC h1 h2 h3 h4=> ?_
 ·obtain⟨W,w0,turn⟩:=q D' hD;refine⟨W,w0,fun i m σ' H w=> ?_⟩;rcases turn i m σ' H w with⟨a,b⟩|z
  ·exact .inl ⟨a,fun c hc=>by cases hc;exact b⟩
  ·exact .inr z
 ·show bc _ X.A (assign (.Name y py) X.env (.ref D')) _ _ _;refine wpAny_assign_Name (xG I6 hN hiy (.inl hy) (v:=.ref D') (u:=.ref D') rfl (fun s7 I7 ⟨a,sb,ha⟩=> ?_) (.inr hy));have hCa:C≠a:=by
   rcases ha with rfl|ha
   ·exact h1
   ·exact fun z=>h3 y a ha z.symm
  refine⟨m6,ns6.sameBut sb hCa,fun h8 sb8=> ?_⟩;have I8:Inv X pins (σ.set i (xw (.ref D'))) H6 { s7 with heap:=h8 }:=I7.turned (t':=s7.toks) (fun b o hb e=>(sb8.2 b hb).trans e) hC h1 (.inr h2) h3 h4;exact⟨_,H6,I8,q6 D' rfl⟩
end
local macro_rules| `(tactic|walk_at "adr")=> `(tactic|((try unfold af at*);omega))
noncomputable def Itz (K:aa) (l1 l2:af):It:=
 ⟨fun i H=>∃ xs ys x y,SqL K H l1 xs/\SqL K H l2 ys/\xs[i]?=xw x/\ys[i]?=xw y,
  fun i H v H'=>∃ T x y,v=.ref T/\H T=xx/\(∀ xs,SqL K H l1 xs->xs[i]?=xw x)/\(∀ ys,SqL K H l2 ys->ys[i]?=xw y)/\H'=upd H T (.tup [x,y]),
  fun i H=>∃ xs ys,SqL K H l1 xs/\SqL K H l2 ys/\(xs.length<=i∨ys.length<=i)⟩
theorem Hf {K:aa}{z TI TO i1 i2 l1 l2:af} (D:ZipApart z TI TO i1 i2 l1 l2):Kj P w K (.Tuple es k pos) (Itz K l1 l2) [z,TI,TO,i1,i2] z
  (fun i h=>IsZip h z TI TO .none/\IsPair h TI (.ref i1) (.ref i2)/\(∃ a b,IsPair h TO a b)/\h.IsListIter i1 l1 i/\h.IsListIter i2 l2 i) where
 mem:=by simp
 obj:=fun i h st b hb=>by
  obtain⟨hz,hTI,⟨a,b',hTO⟩,⟨o1,e1,c1,d1⟩,⟨o2,e2,c2,d2⟩⟩:=st;simp only[ak,cr,or_false] at hb;rcases hb with rfl|rfl|rfl|rfl|rfl
  ·exact⟨_,hz,fun v q=>by cases (show we _=sf v from q)⟩
  ·exact⟨_,hTI,fun v q=>by cases (show Data.seq _ _=sf v from q)⟩
  ·exact⟨_,hTO,fun v q=>by cases (show Data.seq _ _=sf v from q)⟩
  ·exact⟨o1,e1,fun v q=>by rw[d1] at q;cases q⟩
  ·exact⟨o2,e2,fun v q=>by rw[d2] at q;cases q⟩
 keep:=fun i h h' st kp=>by
  obtain⟨hz,hTI,⟨a,b',hTO⟩,h1,h2⟩:=st;exact⟨kp z (by simp) _ hz,kp TI (by simp) _ hTI,⟨a,b',kp TO (by simp) _ hTO⟩,h1.at fun o e=>kp i1 (by simp) o e,h2.at fun o e=>kp i2 (by simp) o e⟩
 item:=by
  intro X hP hw hK hc i pins s σ H E I hf st hg;subst hP hw hK;obtain⟨hz,hTI,⟨a,b',hTO⟩,h1,h2⟩:=st;obtain⟨xs,ys,x,y,hq1,hq2,hx,hy⟩:=hg;obtain⟨its1,rv1,p1,hz1⟩:=I.list hq1;obtain⟨its2,rv2,p2,hz2⟩:=I.list hq2;obtain⟨u1,hu1,ru1⟩:=rv1.get hx;obtain⟨u2,hu2,ru2⟩:=rv2.get hy;have lt:∀ {c:af}{o:Obj},s.heap.get? c=xw o->c<s.heap.objs.size:=fun e=>bp e;refine wpAny_pyNext_zip_item D hz hTI hTO h1 h2 p1.isList p2.isList (x:=u1) (y:=u2) (by simpa using hu1) (by simpa using hu2) fun h' a1 a2 a3 a4 a5 a6 hk=> ?_;refine⟨_,rfl,wpAny_letOwnedTupleGo_zip (s:={ s with heap:=h' }) a1 fun h'' z1 sb=> ?_⟩;have hTf:H s.heap.objs.size=xx:=I.hok.fresh (bf _);have hzlt:=lt hz;have up:∀ b o,b≠z->b≠TO->b≠i1->b≠i2->s.heap.get? b=xw o->h''.get? b=xw o:=fun b o n1 n2 n3 n4 e=>(sb.2 b n1).trans (hk b o n1 n2 n3 n4 e);have fpb:∀ b,b=z∨b=TO∨b=i1∨b=i2->b∈[z,TI,TO,i1,i2]:=fun b hb=>by
   rcases hb with rfl|rfl|rfl|rfl <;> simp
  have nT:∀ b,b∈[z,TI,TO,i1,i2]->b≠s.heap.objs.size:=fun b hb=>by
   obtain⟨o1,e1,_⟩:=h1;obtain⟨o2,e2,_⟩:=h2;simp only[ak,cr,or_false] at hb;rcases hb with rfl|rfl|rfl|rfl|rfl
   ·exact ck (lt hz)
   ·exact ck (lt hTI)
   ·exact ck (lt hTO)
   ·exact ck (lt e1)
   ·exact ck (lt e2)
  have trk:∀ b u,H b=xw u->b∉[z,TI,TO,i1,i2]:=fun b u e hb=>by
   rw[(hf b hb).1] at e;cases e
  have upH:∀ b u o,H b=xw u->s.heap.get? b=xw o->h''.get? b=xw o:=fun b u o e q=>
   up b o (fun w=>trk b u e (fpb b (.inl w))) (fun w=>trk b u e (fpb b (.inr (.inl w)))) (fun w=>trk b u e (fpb b (.inr (.inr (.inl w))))) (fun w=>trk b u e (fpb b (.inr (.inr (.inr w))))) q
  have hTup:IsTup h'' s.heap.objs.size #[u1,u2]:=⟨_,(sb.2 _ (Nat.ne_of_gt hzlt)).trans a5,rfl,_,rfl⟩;have hok:HOk X.prog X.w (upd H s.heap.objs.size (.tup [x,y])) h'':=fun b u e=>by
   by_cases hb:b=s.heap.objs.size
   ·subst hb;rw[aP] at e;cases e;exact⟨by show 2<=sizeLine;decide,[u1,u2],.cons ru1 (.cons ru2 .nil),hTup⟩
   ·rw[aH hb] at e;refine(I.hok b u e).stay (fun c v hcb q=> ?_) (fun c q=>by rw[aH (aN q hTf)];exact q) fun c zs q=>by rw[aH (aN q hTf)];exact q
    rcases hcb with rfl|hcb
    ·exact upH _ _ v e q
    ·exact upH _ _ v hcb q
  have I2:Inv X pins σ (upd H s.heap.objs.size (.tup [x,y])) { s with heap:=h'' }:=by
   refine I.step (g':=s.gens) (d':=s.drawn) (t':=s.toks) (ch:=[z,TO,i1,i2]) (fun b hb=> ?_) (fun b o hL hb hcb e n=> ?_) (fun b o hL hb hcb e n=>⟨o.slots,?_⟩) (fun b o hcb e n=> ?_) (fun b o hcb e=>⟨o,?_⟩)
    (fun b zs e=>by rw[aH (aN e hTf)];exact e) (fun b ob zs e=>by rw[aH (aN e hTf)];exact e) (fun b ps e=>⟨#[],by rw[aH (aN e hTf),e];simp⟩) (fun m hm=> ?_) hok I.bare
   ·have hb':b∈[z,TI,TO,i1,i2]:=by
     simp only[ak,cr,or_false] at hb;exact fpb b hb
    obtain⟨f0,f1,f2,f3,f4,f5⟩:=hf b hb';exact⟨f3,f1,f4,f5⟩
   ·simp only[ak,cr,or_false,not_or] at hcb;exact up b o hcb.1 hcb.2.1 hcb.2.2.1 hcb.2.2.2 e
   ·simp only[ak,cr,or_false,not_or] at hcb;exact up b o hcb.1 hcb.2.1 hcb.2.2.1 hcb.2.2.2 e
   ·rw[aH (ck (lt e))];exact n
   ·simp only[ak,cr,or_false,not_or] at hcb;exact up b o hcb.1 hcb.2.1 hcb.2.2.1 hcb.2.2.2 e
   ·obtain⟨o,es',ep,ho,r⟩:=hm;exact⟨o,es',ep,up _ o (fun q=>(hf z (by simp)).2.1 q.symm) (fun q=>(hf TO (by simp)).2.1 q.symm) (fun q=>(hf i1 (by simp)).2.1 q.symm) (fun q=>(hf i2 (by simp)).2.1 q.symm) ho,r⟩
  refine⟨.ref s.heap.objs.size,_,I2,rfl,⟨s.heap.objs.size,x,y,rfl,hTf,fun zs q=>by rw[I.list_inj q hq1];exact hx,fun zs q=>by rw[I.list_inj q hq2];exact hy,rfl⟩,?_,fun b hb=> ?_⟩
  ·exact⟨z1,(sb.2 _ D.TIz).trans (hk _ _ D.TIz D.TITO D.TIi1 D.TIi2 hTI),⟨_,_,(sb.2 _ D.TOz).trans a2⟩,a3.at fun o e=>(sb.2 _ D.i1z).trans e,a4.at fun o e=>(sb.2 _ D.i2z).trans e⟩
  ·rw[aH (nT b hb)];exact(hf b hb).1
 done:=by
  intro X hP hw hK hc i pins s σ H E I hf st hg;subst hP hw hK;obtain⟨hz,hTI,⟨a,b',hTO⟩,h1,h2⟩:=st;obtain⟨xs,ys,hq1,hq2,hx⟩:=hg;obtain⟨its1,rv1,p1,hz1⟩:=I.list hq1;obtain⟨its2,rv2,p2,hz2⟩:=I.list hq2;have hl1:=rv1.length;have hl2:=rv2.length;refine wpAny_pyNext_zip_end (I.ok.hd hc) D hz hTI hTO h1 h2 p1.isList p2.isList ?_ fun h' hk=>⟨rfl,?_⟩
  ·rcases hx with hx|hx
   ·exact .inl (by simp;omega)
   ·exact .inr (by simp;omega)
  ·have trk:∀ b u,H b=xw u->b∉[z,TI,TO,i1,i2]:=fun b u e hb=>by
    rw[(hf b hb).1] at e;cases e
   have up:∀ b o,b∉[z,TO,i1,i2]->s.heap.get? b=xw o->h'.get? b=xw o:=fun b o hb e=>by
    simp only[ak,cr,or_false,not_or] at hb;exact hk b o hb.1 hb.2.1 hb.2.2.1 hb.2.2.2 e
   have sub:∀ b,b∈[z,TO,i1,i2]->b∈[z,TI,TO,i1,i2]:=fun b hb=>by
    simp only[ak,cr,or_false] at hb ⊢;rcases hb with rfl|rfl|rfl|rfl <;> simp
   refine I.step (g':=s.gens) (d':=s.drawn) (t':=s.toks) (ch:=[z,TO,i1,i2]) (fun b hb=> ?_) (fun b o hL hb hcb e n=>up b o hcb e) (fun b o hL hb hcb e n=>⟨o.slots,up b o hcb e⟩) (fun b o hcb e n=>n) (fun b o hcb e=>⟨o,up b o hcb e⟩)
    (fun b zs e=>e) (fun b ob zs e=>e) (fun b ps e=>⟨#[],by rw[e];simp⟩) (fun m hm=> ?_) (fun b u e=> ?_) I.bare
   ·obtain⟨f0,f1,f2,f3,f4,f5⟩:=hf b (sub b hb);exact⟨f3,f1,f4,f5⟩
   ·obtain⟨o,es',ep,ho,r⟩:=hm;exact⟨o,es',ep,up _ o (fun q=>(hf _ (sub _ q)).2.1 rfl) ho,r⟩
   ·refine(I.hok b u e).stay (fun c v hcb q=>up c v (fun w=> ?_) q) (fun _ q=>q) fun _ _ q=>q;rcases hcb with rfl|hcb
    ·exact trk _ _ e (sub _ w)
    ·exact trk _ _ hcb (sub _ w)
 self:=fun _ _ _ _ _ st h=>wpAny_pyIter_zip st.1 h
def SD (K:aa) (ta:TA):TI:=fun σ H R=>ta σ H fun vs H1=>∃ a b,vs=[.ref a,.ref b]/\(∃ xs,SqL K H1 a xs)/\(∃ ys,SqL K H1 b ys)/\R (Itz K a b) H1
section
variable {X:Cx}
theorem NN (hg:Gl X "zip") (hm:X.mg "zip"=xx) (ha:PA X [a,b] ta) (hs:av [a,b] X.env=[(false,eval a X.env),(false,eval b X.env)]:=by rfl) (hs2:av [b] X.env=[(false,eval b X.env)]:=by rfl):
  PI X (.Tuple es k tp) (.Call (.Name "zip" p) [a,b] [] pos) (SD X.K ta):=by
 intro pins s σ H R I h;refine Call_ (tR I hg hm PyProof.Rows.boot_zip (jp (thn (ha pos pins s σ H _ I h) fun us s1 ⟨vs,H1,I1,r1,q1⟩=> ?_) (by rw[hs,hs2]) (by rw[hs2];rfl)));obtain⟨a1,b1,e,⟨xs,hx⟩,⟨ys,hy⟩,q⟩:=q1;subst e;obtain⟨u1,u2,rfl,ru1,ru2⟩:=Ef r1;cases ru1;cases ru2;obtain⟨its1,rv1,p1,hz1⟩:=I1.list hx;obtain⟨its2,rv2,p2,hz2⟩:=I1.list hy;have lt1:a1<s1.heap.objs.size:=by obtain⟨o,_,e,_⟩:=p1;exact bp e
 have lt2:b1<s1.heap.objs.size:=by obtain⟨o,_,e,_⟩:=p2;exact bp e
 refine call_zip_2 p1.isList p2.isList fun h' hz hTI hTO hi1 hi2 hsz hk=> ?_;have I2:Inv X pins σ H1 { s1 with heap:=h' }:=I1.kept (t':=s1.toks) hk;refine wpAny_pyIter_zip (s:={ s1 with heap:=h' }) hz ?_;refine⟨_,[_,_,_,_,_],_,_,H1,rfl,I2,Hf (zipApart_new lt1 lt2),⟨hz,hTI,⟨_,_,hTO⟩,hi1,hi2⟩,fun b hb=> ?_,q⟩;have hb':s1.heap.objs.size<=b:=by
  simp only[ak,cr,or_false] at hb;rcases hb with rfl|rfl|rfl|rfl|rfl <;> walk_at "adr"
 exact I1.fpOk hb' (I1.hok.fresh hb')
end
noncomputable def Ho (ok:Okk) (H:Hp):Hp:=fun b=>@ite _ (ok b) (kz _) (H b) xx
theorem Hm (h:ok b):Ho ok H b=H b:=by unfold Ho;rw[if_pos h]
theorem Hn (h:¬ ok b):Ho ok H b=xx:=by unfold Ho;rw[if_neg h]
theorem lO (h:Ho ok H b=xw o):ok b/\H b=xw o:=by
 by_cases k:ok b
 ·rw[Hm k] at h;exact⟨k,h⟩
 ·rw[Hn k] at h;cases h
structure ItD (K:aa) (al:Nat->Option af) (H0:Hp) (J:It) (ds:List D):Prop where
 go:∀ i H,Same H0 H->i<ds.length->J.go i H
 yld:∀ i H x H' d,Same H0 H->J.yld i H x H'->ds[i]?=xw d->Same H H'/\Rep K ⟨fun b=>H0 b≠xx∨H b=xx,al⟩ H' x d
 stop:∀ i H,Same H0 H->ds.length<=i->J.stop i H
theorem _root_.L2.PI.imp (h:PI X tg e t) (f:∀ σ H R,t' σ H R->t σ H R):PI X tg e t':=fun pins s σ H R I q=>h pins s σ H R I (f _ _ _ q)
section
variable {X:Cx}{tg e a b c:bv}{f fa fb fc:DF}{fl:DL}{pos p:Pos}
noncomputable def kB (lo:Int) (n:Nat):List D:=(bj n).map fun k=>D.int (lo+(k:Nat))
theorem gE (lo:Int) (n:Nat):(kB lo n).length=n:=by simp[kB]
theorem Hl {lo:Int} (h:(kB lo n)[i]?=xw d):i<n/\d=.int (lo+(i:Nat)):=by
 unfold kB at h;rw[aw] at h;obtain⟨k,e,rfl⟩:=aG h;obtain⟨hi,e'⟩:=br.mp e;rw[fk] at hi;rw[ni] at e';subst e';exact⟨hi,rfl⟩
theorem itD_range {K:aa}{lo:Int}:ItD K al H0 (Itr lo n) (kB lo n):=
 ⟨fun i H _ hi=>by rw[gE] at hi;exact hi,fun i H x H' d _ y hd=>by
  obtain⟨rfl,rfl⟩:=y;obtain⟨_,rfl⟩:=Hl hd;exact⟨Same.refl _,.int _⟩,fun i H _ hi=>by rw[gE] at hi;exact hi⟩
noncomputable def gL (ds:List D):Option (List D):=match ds with
 |[.int j]=>if -1000000000<=j/\j<=1000000000 then xw (kB 0 j.toNat) else xx
 |_=>xx
noncomputable def zW (xs ys:List D):List D:=bq (fun x y=>D.tup [x,y]) xs ys
abbrev BR:=D->Rho->Option Rho
def gR (K:aa) (bd:BR):TG:=fun v σ H Q=>∃(ok:Okk) (ρ ρ':Rho) (d:D),EnvR K ok H σ ρ/\σ.length=ρ.length/\Rep K ok H v d/\bd d ρ=xw ρ'/\∀ σ',EnvR K ok H σ' ρ'->σ'.length=ρ'.length->Q σ' H
noncomputable def aW (i:Nat):BR:=fun d ρ=>xw (ρ.set i (xw d))
theorem _root_.L2.PG.imp (h:PG X tg t) (f:∀ v σ H Q,t' v σ H Q->t v σ H Q):PG X tg t':=fun pins s σ H v u Q I r q=>h pins s σ H v u Q I r (f _ _ _ _ q)
theorem EnvR.set {K:aa} (h:EnvR K ok H σ ρ) (hl:σ.length=ρ.length) (r:Rep K ok H v d) (i:Nat):EnvR K ok H (σ.set i (xw v)) (ρ.set i (xw d)):=fun j e hj=>by
 by_cases hij:i=j
 ·subst hij
  by_cases hi:i<ρ.length
  ·rw[dy hi] at hj;cases hj;exact⟨v,by rw[dy (by omega)],r⟩
  ·rw[cm (by rw[ce];omega)] at hj;cases hj
 ·rw[f9 hij] at hj;obtain⟨w,a,b⟩:=h j e hj;exact⟨w,by rw[f9 hij];exact a,b⟩
theorem Mr (hN:X.N.Nodup) (hi:X.N[i]?=xw x) (hx:Loc X.env.scope x) (hf:X.fn x=true∨X.env.scope.names.lookup x=xw .local:=by first|exact .inl rfl|exact .inr rfl|assumption):PG X (.Name x tp) (gR X.K (aW i)):=
 PG.imp (kW hN hi hx hf) fun v σ H Q ⟨ok,ρ,ρ',d,h1,h2,h3,h4,h5⟩=>by
  cases h4;exact h5 _ (h1.set h2 h3 i) (by rw[ce,ce];exact h2)
noncomputable def qY (i j:Nat):BR:=fun d ρ=>match d with
 |.tup [x,y]=>xw ((ρ.set i (xw x)).set j (xw y))
 |_=>xx
theorem Mq (hc:X.calm=true) (hN:X.N.Nodup) (hi:X.N[i]?=xw x) (hj:X.N[j]?=xw y) (hx:Loc X.env.scope x) (hy:Loc X.env.scope y)
  (hf:X.fn x=true∨X.env.scope.names.lookup x=xw .local:=by first|exact .inl rfl|exact .inr rfl|assumption) (hf2:X.fn y=true∨X.env.scope.names.lookup y=xw .local:=by first|exact .inl rfl|exact .inr rfl|assumption):
  PG X (.Tuple [.Name x p1,.Name y p2] k tp) (gR X.K (qY i j)):=
 PG.imp (JJ (n:=2) hc (kD (kW hN hi hx hf) (kD (kW hN hj hy hf2) EN))) fun v σ H Q ⟨ok,ρ,ρ',d,h1,h2,h3,h4,h5⟩=>by
  unfold qY at h4;split at h4
  ·cases h4;obtain⟨a,xs,rfl,g,r⟩:=h3.tup_inv;obtain⟨v1,v2,rfl,r1,r2⟩:=r.two_inv;refine⟨a,_,rfl,g.sq,rfl,v1,_,rfl,v2,_,rfl,rfl,?_⟩;refine h5 _ ((h1.set h2 r1 i).set (by rw[ce,ce];exact h2) r2 j) ?_;simp only[ce];exact h2
  ·cases h4
noncomputable def GZ (caps:List (Option Nat)) (ρ:Rho):Rho:=caps.map fun o=>o.bind fun j=>(ρ[j]?).join
noncomputable def jV:DB:=fun _=>xw true
theorem EnvR.cap {K:aa} (h:EnvR K ok H σ ρ) (caps:List (Option Nat)):EnvR K ok H (GE caps σ) (GZ caps ρ):=fun i d e=>by
 unfold GZ at e;rw[aw] at e;obtain⟨o,e1,e2⟩:=aG e;cases o with
 |none=>cases e2
 |some j=>
  have e3:(ρ[j]?).join=xw d:=e2;have e4:ρ[j]?=xw (xw d):=by
   cases q:ρ[j]? with
   |none=>rw[q] at e3;cases e3
   |some o=>
    rw[q] at e3;cases o with
    |none=>cases e3
    |some d'=>cases e3;rfl
  obtain⟨v,a,b⟩:=h j d e4;refine⟨v,?_,b⟩;unfold GE;rw[aw,e1];show xw ((σ[j]?).join)=_;rw[a];rfl
theorem MT (caps:List (Option Nat)) (σ:St) (ρ:Rho):(GE caps σ).length=(GZ caps ρ).length:=by simp[GE,GZ]
variable {elt iter:bv}{ifs:List bv}{scope:kt}{N':List Str}{caps:List (Option Nat)}{fi:DL}{bd:BR}{t:DB}
structure GY (X:Cx) (scope:kt) (N':List Str) (caps:List (Option Nat)):Prop where
 calm:X.calm=true
 kind:scope.kind=.function
 names:∀ x∈scope.names,x.2=.local->scope.names.lookup x.1=xw .local
 free:∀ y∈scope.names,y.2=.free->X.env.scope.names.lookup y.1=xw .cell∨X.env.scope.names.lookup y.1=xw .free
 uniq:∀ y∈scope.names,y.2=.free->(y.1,c4)∉scope.names
 cap:CB X scope N' caps
end
section
variable {K:aa}{ok0:Okk}{H0 H H':Hp}{σ:St}{ρ:Rs}{A:Nat->Option af}
theorem Es {l:List α} (h:(l.set i a)[j]?=xw b):(j=i/\i<l.length/\b=a)∨(j≠i/\l[j]?=xw b):=by
 by_cases e:i=j
 ·subst e
  by_cases hi:i<l.length
  ·rw[dy hi] at h;exact .inl ⟨rfl,hi,(ca h).symm⟩
  ·rw[cm (by rw[ce];omega)] at h;cases h
 ·rw[f9 e] at h;exact .inr ⟨fun z=>e z.symm,h⟩
end
section
variable {X:Cx}{st:cz}{rest body els:List cz}{tg e a b c iter:bv}{es:List bv}{f fa fb:DF}{fl fi:DL}{t:DB}{F G:DS}{bd:BS}{pos p:Pos}{M:List Nat}
end
theorem Gr (hr:Room k A) (h:n<=200:=by decide):A.units+n<eu:=by
 have:=hr.un
 omega
end L2.MB
end
section
namespace L2.MB
noncomputable def lL:List D->Option (List Int)
 |[]=>xw []
 |.int i::ds=>(lL ds).map fun ns=>i::ns
 |_::_=>xx
theorem mU:∀ {ds:List D}{ns:List Int},lL ds=xw ns->ds=ns.map D.int
 |[],ns,h=>by cases h;rfl
 |.int i::ds,ns,h=>by
  have h':(lL ds).map (fun ns=>i::ns)=xw ns:=h;obtain⟨ms,e,rfl⟩:=aG h';rw[mU e];rfl
 |.non::_,_,h=>nomatch h
 |.bl _::_,_,h=>nomatch h
 |.str _::_,_,h=>nomatch h
 |.lst _::_,_,h=>nomatch h
 |.tup _::_,_,h=>nomatch h
section
variable {X:Cx}{e a b c:bv}{es:List bv}{f fa fb fc:DF}{fl:DL}{pos p:Pos}
theorem Au (h:Vals (ns.map V.int) its):∃ xs:Array (Int×Tok),its.toArray=intItems xs/\xs.toList.map (·.1)=ns:=by
 have hi:=Dt h;obtain⟨xs,e⟩:=(hi.allInts).items;refine⟨xs,e,?_⟩;rw[<- nums_intItems,<- e];exact hi.numsOf
theorem zE (hc:X.calm=true):CallR X (.builtin "sum") (fun xs H Q=>∃(p:af) (ns:List Int),xs=[.ref p]/\SqL X.K H p (ns.map V.int)/\Q (.int ns.sum) H):=by
 intro pins s σ H xs us Q I r h;obtain⟨p,ns,rfl,hq,q⟩:=h;obtain⟨u,rfl,rx⟩:=mS r;cases rx;obtain⟨its,r',pl,hz⟩:=I.list hq;obtain⟨ys,e1,e2⟩:=Au r';refine sum_intListG (I.ok.hd hc) (by rw[<- e1];exact pl.isList) fun h' tk t' k=> ?_;rw[preSum_eq,t4 (by simp),e2];exact⟨.int ns.sum,H,I.kept k,⟨_,rfl⟩,q⟩
noncomputable def Qj (ds:List D):Option D:=match ds with
 |[.lst xs]=>(lL xs).map fun ns=>.int ns.sum
 |_=>xx
noncomputable def yO (ds:List D):Option D:=match ds with
 |[.int i,.int j]=>xw (.int (if j>i then j else i))
 |_=>xx
noncomputable def IJ (ds:List D):Option D:=match ds with
 |[.int i,.int j]=>xw (.int (if j<i then j else i))
 |_=>xx
noncomputable def Qm (ds:List D):Option D:=match ds with
 |[.int i]=>xw (.int i)
 |[.bl k]=>xw (.int (if k then 1 else 0))
 |[.str x]=>if x.length<=640 then(p8 x).map D.int else xx
 |_=>xx
theorem SB {K:aa} (r:Reps K ok H vs [.lst xs]):∃ p ys,vs=[.ref p]/\RL K ok H p ys/\Reps K ok H ys xs:=by
 obtain⟨v,rfl,r1⟩:=r.one_inv;obtain⟨p,ys,rfl,g,r2⟩:=r1.lst_inv;exact⟨p,ys,rfl,g,r2⟩
theorem Mz {K:aa}:FitL K (fun xs H Q=>∃(p:af) (ns:List Int),xs=[.ref p]/\SqL K H p (ns.map V.int)/\Q (.int ns.sum) H) Qj:=fun ok H xs as d Q h1 r e k=>by
 unfold Qj at e;split at e
 ·obtain⟨ns,e1,rfl⟩:=aG e;obtain rfl:=mU e1;obtain⟨p,ys,rfl,g,r2⟩:=SB r;obtain rfl:=r2.of_ints;exact⟨p,ns,rfl,g.sq,k _ H (Same.refl H) (.int _)⟩
 ·cases e
theorem IV {K:aa}:FitL K (fun xs H Q=>∃ i j,xs=[.int i,.int j]/\Q (.int (if j>i then j else i)) H) yO:=fun ok H xs as d Q h1 r e k=>by
 unfold yO at e;split at e
 ·cases e;obtain⟨v,v',rfl,r1,r2⟩:=r.two_inv;obtain rfl:=r1.int_inv;obtain rfl:=r2.int_inv;exact⟨_,_,rfl,k _ H (Same.refl H) (.int _)⟩
 ·cases e
theorem IU {K:aa}:FitL K (fun xs H Q=>∃ i j,xs=[.int i,.int j]/\Q (.int (if j<i then j else i)) H) IJ:=fun ok H xs as d Q h1 r e k=>by
 unfold IJ at e;split at e
 ·cases e;obtain⟨v,v',rfl,r1,r2⟩:=r.two_inv;obtain rfl:=r1.int_inv;obtain rfl:=r2.int_inv;exact⟨_,_,rfl,k _ H (Same.refl H) (.int _)⟩
 ·cases e
theorem GL:CallR X (.type "int") (fun xs H Q=>∃ x n,xs=[.str x]/\x.length<=640/\p8 x=xw n/\Q (.int n) H):=by
 intro pins s σ H xs us Q I r h;obtain⟨x,n,rfl,hz,hn,q⟩:=h;obtain⟨u,rfl,t,rfl⟩:=mS r;exact PySem.W.KIN.call_text hn hz ⟨.int n,H,I.tok _,⟨_,rfl⟩,q⟩
theorem MF {K:aa}:FitL K (fun xs H Q=>((∃ i,xs=[.int i]/\Q (.int i) H)∨∃ k,xs=[.bl k]/\Q (.int (if k then 1 else 0)) H)∨∃ x n,xs=[.str x]/\x.length<=640/\p8 x=xw n/\Q (.int n) H) Qm:=fun ok H xs as d Q h1 r e k=>by
 unfold Qm at e;split at e
 ·cases e;obtain⟨v,rfl,r1⟩:=r.one_inv;obtain rfl:=r1.int_inv;exact .inl (.inl ⟨_,rfl,k _ H (Same.refl H) (.int _)⟩)
 ·cases e;obtain⟨v,rfl,r1⟩:=r.one_inv;obtain rfl:=r1.bl_inv;exact .inl (.inr ⟨_,rfl,k _ H (Same.refl H) (.int _)⟩)
 ·rename_i x
  by_cases hz:x.length<=640
  ·rw[if_pos hz] at e;obtain⟨n,e1,rfl⟩:=aG e;obtain⟨v,rfl,r1⟩:=r.one_inv;obtain rfl:=r1.str_inv;exact .inr ⟨x,n,rfl,hz,e1,k _ H (Same.refl H) (.int _)⟩
  ·rw[if_neg hz] at e;cases e
 ·cases e
theorem GM:CallR X (.type "int") (fun xs H Q=>((∃ i,xs=[.int i]/\Q (.int i) H)∨∃ k,xs=[.bl k]/\Q (.int (if k then 1 else 0)) H)∨∃ x n,xs=[.str x]/\x.length<=640/\p8 x=xw n/\Q (.int n) H):=call_int1.or GL
theorem uB (a:Array Nat):∀(k:Nat) (acc:Array Nat),((aj k a).foldl (· ++·) acc).size=acc.size+k*a.size
 |0,acc=>by simp
 |k+1,acc=>by
  rw[fz,ww,uB a k,Array.size_append,Nat.succ_mul];omega
noncomputable def Qh (x:Str) (n:Int):Str:=if n<1 then Str.empty else if(n==1||x.length==0)=true then x else⟨(aj n.toNat x.cps).foldl (· ++·) #[]⟩
noncomputable def Mx (a b:D):Option D:=match a,b with
 |.str x,.int n=>if 0<=n/\n<=100000/\x.length<=100 then xw (.str (Qh x n)) else xx
 |_,_=>xx
theorem Ll:OpR X (ke .Mult) (fun x y H Q=>∃ z n,x=.str z/\y=.int n/\(0<=n/\n<=100000/\z.length<=100)/\Q (.str (Qh z n)) H):=by
 intro pins s σ H x y v u Q I rx ry h;obtain⟨z,n,rfl,rfl,⟨h0,h1,h2⟩,q⟩:=h;obtain⟨t,rfl⟩:=rx;obtain⟨t',rfl⟩:=ry;refine PySem.P.mul_str ?_ (fun hn _=> ?_) (fun hn _=> ?_) ?_
 ·have e1:decide (n< -(2 ^ 63:Int))=false:=decide_eq_false (by omega);have e2:decide (n≥2 ^ 63)=false:=decide_eq_false (by omega);rw[e1,e2,Bool.or_false]
 ·have h3:n<=100000:=h1
  have:(100:Int)<=(2 ^ 63-1) / n:=by
   refine(Int.le_ediv_iff_mul_le (by omega)).mpr ?_;omega
  have h4:(z.length:Int)<=100:=by omega
  omega
 ·have hle:z.length*n.toNat<=100*100000:=Nat.mul_le_mul h2 (by omega);have hs:=bt
  first|exact decide_eq_false (by omega)|(simp[Builtin.Str.tooLong];omega)|(simp[tooLong];omega)
 ·unfold Qh at q;split
  ·rename_i hn
   rw[if_pos hn] at q;exact⟨by show 0<=sizeLine;exact iz _,.str _,H,I.tok _,⟨_,rfl⟩,q⟩
  ·rename_i hn
   rw[if_neg hn] at q;split
   ·rename_i hz
    rw[if_pos hz] at q;exact⟨.str _,H,I,⟨_,rfl⟩,q⟩
   ·rename_i hz
    rw[if_neg hz] at q;refine⟨?_,.str _,H,I.tok _,⟨_,rfl⟩,q⟩
    show((aj n.toNat z.cps).foldl (· ++·) #[]).size<=sizeLine
    rw[uB,bt];have hle:n.toNat*z.cps.size<=100000*100:=Nat.mul_le_mul (by omega) h2;simp only[bi,k8];omega
end
noncomputable def RK (lo c:Int) (n:Nat):It:=⟨fun i _=>i<n,fun i H x H'=>H'=H/\x=.int (lo+(i:Nat)*c),fun i _=>n<=i⟩
theorem Aa {K:aa} (it:af) (lo c:Int) (n:Nat):Kj P w K tg (RK lo c n) [it] it (fun i h=>sy h it (lo+(i:Nat)*c) ((n:Int)-(i:Nat)) c) where
 mem:=by simp
 obj:=fun i h st b hb=>by
  have e:b=it:=by simpa using hb
  subst e;exact⟨_,st,fun v z=>by
   have z':we _=sf v:=z;cases z'⟩
 keep:=fun i h h' st k=>k it (by simp) _ st
 item:=by
  intro X hP hw hK hc i pins s σ H E I hf st hg;subst hP hw hK;obtain⟨f0,f1,f2,f3,f4,f5⟩:=hf it (by simp);have W:=Walks.range (prog:=X.prog) (w:=X.w) (I.ok.hd hc) it lo c n;refine W.item i s _ _ hg st fun v h' tk hv st' kk=> ?_;obtain⟨t,rfl⟩:=hv;have I1:Inv X pins σ H { s with heap:=h',toks:=tk }:=I.turned (fun b o hb e=>kk b o (by simpa using hb) e) f0 f1 f3 f4 f5;exact⟨_,rfl,FQ (s:={ s with heap:=h',toks:=tk }) (n:="range_iterator") st' rfl rfl (by decide) ⟨.int (lo+(i:Nat)*c),H,I1,⟨t,rfl⟩,⟨rfl,rfl⟩,st',fun b hb=>(hf b hb).1⟩⟩
 done:=by
  intro X hP hw hK hc i pins s σ H E I hf st hg;subst hP hw hK;obtain⟨f0,f1,f2,f3,f4,f5⟩:=hf it (by simp);exact s0 (I.ok.hd hc) st (by have:n<=i:=hg;omega) fun h' eb=>⟨rfl,I.turned (t':=s.toks) (fun b o hb e=>eb b o hb e) f0 f1 f3 f4 f5⟩
 self:=fun _ _ _ _ _ st h=>tf st h
section
variable {X:Cx}{tg e a b c:bv}{f fa fb fc:DF}{fl:DL}{pos p:Pos}
noncomputable def rV (lo c:Int) (n:Nat):List D:=(bj n).map fun k=>D.int (lo+(k:Nat)*c)
theorem pL (lo c:Int) (n:Nat):(rV lo c n).length=n:=by simp[rV]
theorem itD_range3 {K:aa}{lo c:Int}:ItD K al H0 (RK lo c n) (rV lo c n):=
 ⟨fun i H _ hi=>by rw[pL] at hi;exact hi,fun i H x H' d _ y hd=>by
  obtain⟨rfl,rfl⟩:=y;unfold rV at hd;rw[aw] at hd;obtain⟨k,e,rfl⟩:=aG hd;obtain⟨hi,e'⟩:=br.mp e;rw[ni] at e';subst e';exact⟨Same.refl _,.int _⟩,fun i H _ hi=>by rw[pL] at hi;exact hi⟩
end
noncomputable def AV (scope:kt):Bool:=scope.names.all fun y=> !(y.2== .local)||scope.names.lookup y.1==xw .local
noncomputable def GB (out scope:kt):Bool:=scope.names.all fun y=> !(y.2== .free)||((out.names.lookup y.1==xw .cell||out.names.lookup y.1==xw .free)&& !(scope.names.contains (y.1,c4)))
noncomputable def zB (N:List Str) (out scope:kt) (x:Str):Option Nat->Bool
 |none=>true
 |some j=>N[j]?==xw x&&scope.names.lookup x==xw .free&& !(scope.names.contains (x,c4))&&(out.names.lookup x==xw .cell||out.names.lookup x==xw .free)
noncomputable def nK (N:List Str) (out scope:kt):List Str->List (Option Nat)->Bool
 |[],[]=>true
 |x::xs,c::cs=>zB N out scope x c&&nK N out scope xs cs
 |_,_=>false
theorem uK:∀ {xs:List Str}{cs:List (Option Nat)},nK N out scope xs cs=true->cs.length=xs.length
 |[],[],_=>rfl
 |x::xs,c::cs,h=>by
  have h':(zB N out scope x c&&nK N out scope xs cs)=true:=h;rw[bu] at h';simp[uK h'.2]
 |[],_::_,h=>nomatch h
 |_::_,[],h=>nomatch h
theorem uL:∀ {xs:List Str}{cs:List (Option Nat)}{i j:Nat},nK N out scope xs cs=true->cs[i]?=xw (xw j)->∃ x,xs[i]?=xw x/\zB N out scope x (xw j)=true
 |[],[],i,j,_,h=>by simp at h
 |x::xs,c::cs,i,j,h,h2=>by
  have h':(zB N out scope x c&&nK N out scope xs cs)=true:=h;rw[bu] at h';cases i with
  |zero=>
   simp at h2;subst h2;exact⟨x,rfl,h'.1⟩
  |succ i=>
   simp at h2;obtain⟨y,e,q⟩:=uL (i:=i) h'.2 h2;exact⟨y,by simpa using e,q⟩
 |[],_::_,_,_,h,_=>nomatch h
 |_::_,[],_,_,h,_=>nomatch h
theorem yZ (h1:X.calm=true) (h2:scope.kind=.function) (h3:AV scope=true) (h4:GB X.env.scope scope=true) (h5:nK X.N X.env.scope scope N' caps=true):GY X scope N' caps:=by
 refine⟨h1,h2,fun x hx hl=> ?_,fun y hy hf=> ?_,fun y hy hf hm=> ?_,uK h5,fun i j hij=> ?_⟩
 ·have:=fx.mp h3 x hx
  rw[hl] at this;simpa using this
 ·have:=fx.mp h4 y hy
  rw[hf] at this;simp at this;exact this.1
 ·have:=fx.mp h4 y hy
  rw[hf] at this;simp at this;exact this.2 hm
 ·obtain⟨x,e,q⟩:=uL h5 hij;unfold zB at q;simp only[bu,ik,beq_iff_eq,ls,List.contains_eq_mem,decide_eq_false_iff_not] at q;exact⟨x,e,q.1.1.1,q.1.1.2,q.1.2,q.2⟩
namespace boot
theorem len:dm "len"=xw (.builtin "len"):=by decide+kernel
theorem sum:dm "sum"=xw (.builtin "sum"):=by decide+kernel
theorem min:dm "min"=xw (.builtin "min"):=by decide+kernel
theorem max:dm "max"=xw (.builtin "max"):=by decide+kernel
theorem sorted:dm "sorted"=xw (.builtin "sorted"):=by decide+kernel
theorem list:dm "list"=xw (.type "list"):=by decide+kernel
theorem tuple:dm "tuple"=xw (.type "tuple"):=by decide+kernel
theorem int:dm "int"=xw (.type "int"):=by decide+kernel
theorem bool:dm "bool"=xw (.type "bool"):=by decide+kernel
theorem str:dm "str"=xw (.type "str"):=by decide+kernel
end boot
structure Bn (mg:Str->Option ag):Prop where
 len:mg "len"=xx
 range:mg "range"=xx
 zip:mg "zip"=xx
 sum:mg "sum"=xx
 all:mg "all"=xx
 min:mg "min"=xx
 max:mg "max"=xx
 sorted:mg "sorted"=xx
 isinstance:mg "isinstance"=xx
 list:mg "list"=xx
 tuple:mg "tuple"=xx
 int:mg "int"=xx
 bool:mg "bool"=xx
 str:mg "str"=xx
theorem bn_mk {K:aa} (X:K.In h) (G:h.Ns cg mg) (h1:cx K cg "len"=xw xx) (h2:cx K cg "range"=xw xx) (h3:cx K cg "zip"=xw xx)
  (h4:cx K cg "sum"=xw xx) (h5:cx K cg "all"=xw xx) (h6:cx K cg "min"=xw xx) (h7:cx K cg "max"=xw xx) (h8:cx K cg "sorted"=xw xx)
  (h9:cx K cg "isinstance"=xw xx) (h10:cx K cg "list"=xw xx) (h11:cx K cg "tuple"=xw xx) (h12:cx K cg "int"=xw xx) (h13:cx K cg "bool"=xw xx)
  (h14:cx K cg "str"=xw xx):Bn mg:=
 ⟨da X G h1,da X G h2,da X G h3,da X G h4,da X G h5,da X G h6,da X G h7,da X G h8,da X G h9,da X G h10,da X G h11,da X G h12,
  da X G h13,da X G h14⟩
def FnIn (K:aa) (x:Str) (st:cz):Prop:=∃(f:af) (oc:ag) (od an:Option af) (osl:Array (Option ag)) (kV doc pm cdv ct:ag),cx K cg x=xw (xw (.ref f))/\
 K.lookup f=xw ⟨oc,od,.func (i5 x x (iL st) (fZ st) (bE st) .none kV doc pm an cdv ct),osl⟩/\ka K cdv x=true/\gy K (.ref f)=true
theorem fnIn_mk {K:aa}{st:cz}{kV doc pm cdv ct:ag} (a:cx K cg x=xw (xw (.ref f)))
  (l:K.lookup f=xw ⟨oc,od,.func (i5 x x (iL st) (fZ st) (bE st) .none kV doc pm an cdv ct),osl⟩) (c:ka K cdv x=true) (k:gy K (.ref f)=true):FnIn K x st:=
 ⟨f,oc,od,an,osl,kV,doc,pm,cdv,ct,a,l,c,k⟩
structure Qp (K:aa) (mg:Str->Option ag) (x:Str) (st:cz) (f:af) (fd:jy):Prop where
 fn:Fun K x x st f fd
 at_:mg x=xw (.ref f)
theorem FnIn.fnAt {K:aa}{st:cz} (I:FnIn K x st) (X:K.In h) (G:h.Ns cg mg):∃ f fd,Qp K mg x st f fd:=by
 obtain⟨f,oc,od,an,osl,kV,doc,pm,cdv,ct,a,l,c,k⟩:=I;exact⟨f,_,Kc l c k,ox X G a⟩
inductive Ob where
 /-- an instance of the c-th class;a list;a dict by tuples;a dict by texts and ints -/
 |ins (c:Nat) (fs:List (Str×D))|ml (ds:List D)|dt (kvs:List (List Key×D))|dk (kvs:List (Key×D))
 /-- a dict by tuples while a loop walks it -/
 |dz (kvs:List (List Key×D))
abbrev Om:=List Ob
inductive KvR {κ:Type} (K:aa) (ok:Okk) (H:Hp):List (κ×V)->List (κ×D)->Prop
 |nil:KvR K ok H [] []
 |cons {k:κ}{v:V}{d:D}{vs:List (κ×V)}{ds:List (κ×D)}:Rep K ok H v d->KvR K ok H vs ds->KvR K ok H ((k,v)::vs) ((k,d)::ds)
section
variable {κ:Type}{K:aa}{ok ok':Okk}{H H':Hp}
theorem KvR.mono (f:∀ b o,ok b->H b=xw o->ok' b/\H' b=xw o) (g:∀ n a,ok.al n=xw a->ok'.al n=xw a):∀ {vs:List (κ×V)}{ds:List (κ×D)},KvR K ok H vs ds->KvR K ok' H' vs ds
 |_,_,.nil=>.nil
 |_,_,.cons r rs=>.cons (r.mono f g) (KvR.mono f g rs)
theorem KvR.length:∀ {vs:List (κ×V)}{ds:List (κ×D)},KvR K ok H vs ds->vs.length=ds.length
 |_,_,.nil=>rfl
 |_,_,.cons _ rs=>by rw[b7,b7,KvR.length rs]
theorem KvR.keys:∀ {vs:List (κ×V)}{ds:List (κ×D)},KvR K ok H vs ds->vs.map (·.1)=ds.map (·.1)
 |_,_,.nil=>rfl
 |_,_,.cons _ rs=>by rw[bg,bg,KvR.keys rs]
theorem KvR.vals:∀ {vs:List (κ×V)}{ds:List (κ×D)},KvR K ok H vs ds->Reps K ok H (vs.map (·.2)) (ds.map (·.2))
 |_,_,.nil=>.nil
 |_,_,.cons r rs=>.cons r (KvR.vals rs)
end
section
variable {K:aa}{ok ok':Okk}{H H':Hp}
theorem KvR.look:∀ {vs:List (Str×V)}{ds:List (Str×D)},KvR K ok H vs ds->ds.lookup x=xw d->∃ v,vs.lookup x=xw v/\Rep K ok H v d
 |_,_,.nil,e=>by cases e
 |_,_,@KvR.cons _ _ _ _ k v d' vs ds r rs,e=>by
  rw[gn] at e ⊢;cases q:x==k with
  |true=>
   rw[q] at e;cases e;exact⟨v,rfl,r⟩
  |false=>
   rw[q] at e;exact KvR.look rs e
theorem KvR.look_none:∀ {vs:List (Str×V)}{ds:List (Str×D)},KvR K ok H vs ds->ds.lookup x=xx->vs.lookup x=xx
 |_,_,.nil,e=>rfl
 |_,_,@KvR.cons _ _ _ _ k v d' vs ds r rs,e=>by
  rw[gn] at e ⊢;cases q:x==k with
  |true=>rw[q] at e;cases e
  |false=>rw[q] at e;exact KvR.look_none rs e
end
def CellR (cls:Nat->af) (K:aa) (ok:Okk) (H:Hp) (a:af):Ob->Prop
 |.ins c fs=>∃ dx vs,H a=xw (.ins (cls c) dx vs)/\KvR K ok H vs fs
 |.ml ds=>∃ xs,H a=xw (.lst xs)/\Reps K ok H xs ds
 |.dt kvs=>∃ vs,H a=xw (.dT vs)/\KvR K ok H vs kvs
 |.dk kvs=>∃ vs,H a=xw (.dK vs)/\KvR K ok H vs kvs
 |.dz kvs=>∃ o vs,H a=xw (.frz o (.dT vs))/\KvR K ok H vs kvs
theorem CellR.mono {K:aa} (f:∀ b o,ok b->H b=xw o->ok' b/\H' b=xw o) (g:∀ n a,ok.al n=xw a->ok'.al n=xw a) (e:∀ o,H a=xw o->H' a=xw o)
  (h:CellR cls K ok H a ob):CellR cls K ok' H' a ob:=by
 cases ob with
 |ins c fs=>obtain⟨dx,vs,h1,h2⟩:=h;exact⟨dx,vs,e _ h1,h2.mono f g⟩
 |ml ds=>obtain⟨xs,h1,h2⟩:=h;exact⟨xs,e _ h1,h2.mono f g⟩
 |dt kvs=>obtain⟨xs,h1,h2⟩:=h;exact⟨xs,e _ h1,h2.mono f g⟩
 |dk kvs=>obtain⟨xs,h1,h2⟩:=h;exact⟨xs,e _ h1,h2.mono f g⟩
 |dz kvs=>obtain⟨o,xs,h1,h2⟩:=h;exact⟨o,xs,e _ h1,h2.mono f g⟩
theorem CellR.there {K:aa} (h:CellR cls K ok H a ob):∃ o,H a=xw o/\True:=by
 cases ob with
 |ins c fs=>obtain⟨dx,vs,h1,h2⟩:=h;exact⟨_,h1,trivial⟩
 |ml ds=>obtain⟨xs,h1,h2⟩:=h;exact⟨_,h1,trivial⟩
 |dt kvs=>obtain⟨xs,h1,h2⟩:=h;exact⟨_,h1,trivial⟩
 |dk kvs=>obtain⟨xs,h1,h2⟩:=h;exact⟨_,h1,trivial⟩
 |dz kvs=>obtain⟨o,xs,h1,h2⟩:=h;exact⟨_,h1,trivial⟩
structure Stt (cls:Nat->af) (K:aa) (ok:Okk) (H:Hp) (ω:Om):Prop where
 cell:∀ n ob,ω[n]?=xw ob->∃ a,ok.al n=xw a/\CellR cls K ok H a ob
 dom:∀ n a,ok.al n=xw a->n<ω.length
 inj:∀ n m a,ok.al n=xw a->ok.al m=xw a->n=m
 nok:∀ n a,ok.al n=xw a->¬ ok.p a
structure Ex (ok:Okk) (H:Hp) (ok':Okk) (H':Hp):Prop where
 dat:∀ b o,ok b->H b=xw o->ok' b/\H' b=xw o
 ids:∀ n a,ok.al n=xw a->ok'.al n=xw a
 frm:∀ b o,H b=xw o->(∀ n,ok.al n≠xw b)->H' b=xw o
 new:∀ n a,ok'.al n=xw a->ok.al n=xw a∨H a=xx
 keep:∀ b,H' b=xx->H b=xx
 sub:∀ b,ok' b->ok b∨H b=xx
 /-- what a loop walks stands still -/
 frz:∀ b o u,H b=xw (.frz o u)->H' b=xw (.frz o u)
structure Nw (cls:Nat->af) (K:aa) (ok:Okk) (H:Hp) (ok':Okk) (H':Hp) (ω':Om):Prop where
 ex:Ex ok H ok' H'
 okh:OkH ok' H'
 st:Stt cls K ok' H' ω'
section
variable {cls:Nat->af}{K:aa}{ok ok' ok2:Okk}{H H' H2:Hp}{ω ω' ω2:Om}{σ:St}{ρ:Rho}{a:af}{n:Nat}
theorem Stt.at_ (h:Stt cls K ok H ω) (e:ok.al n=xw a):∃ ob,ω[n]?=xw ob/\CellR cls K ok H a ob:=by
 have hn:=h.dom n a e;obtain⟨b,e1,c⟩:=h.cell n ω[n] (by simp[hn]);rw[e] at e1;cases e1;exact⟨_,by simp[hn],c⟩
theorem Ex.same (s:Same H H'):Ex ok H ok H':=⟨fun b o k e=>⟨k,s b o e⟩,fun _ _ e=>e,fun b o e _=>s b o e,fun _ _ e=>.inl e,fun _ e=>s.free e,fun _ e=>.inl e,fun b o u e=>s b _ e⟩
theorem Ex.trans (x:Ex ok H ok' H') (y:Ex ok' H' ok2 H2):Ex ok H ok2 H2 where
 dat:=fun b o k e=>let ⟨k',e'⟩:=x.dat b o k e;y.dat b o k' e'
 ids:=fun n a e=>y.ids n a (x.ids n a e)
 frm:=fun b o e h=>y.frm b o (x.frm b o e h) fun n z=>by
  rcases x.new n b z with z|z
  ·exact h n z
  ·rw[e] at z;cases z
 new:=fun n a e=>by
  rcases y.new n a e with z|z
  ·exact x.new n a z
  ·exact .inr (x.keep a z)
 keep:=fun b e=>x.keep b (y.keep b e)
 sub:=fun b e=>by
  rcases y.sub b e with z|z
  ·exact x.sub b z
  ·exact .inr (x.keep b z)
 frz:=fun b o u e=>y.frz b o u (x.frz b o u e)
theorem Nw.trans (x:Nw cls K ok H ok' H' ω') (y:Nw cls K ok' H' ok2 H2 ω2):Nw cls K ok H ok2 H2 ω2:=⟨x.ex.trans y.ex,y.okh,y.st⟩
theorem Stt.same (h:Stt cls K ok H ω) (s:Same H H'):Stt cls K ok H' ω:=
 ⟨fun n ob e=>let ⟨a,e1,c⟩:=h.cell n ob e;⟨a,e1,c.mono (fun b o k e=>⟨k,s b o e⟩) (fun _ _ e=>e) fun o e=>s a o e⟩,h.dom,h.inj,h.nok⟩
theorem Nw.same (h:OkH ok H) (t:Stt cls K ok H ω) (s:Same H H'):Nw cls K ok H ok H' ω:=⟨.same s,h.same s,t.same s⟩
theorem Nw.refl (h:OkH ok H) (t:Stt cls K ok H ω):Nw cls K ok H ok H ω:=.same h t (Same.refl H)
theorem Rep.ex (x:Ex ok H ok' H') (h:Rep K ok H v d):Rep K ok' H' v d:=h.mono x.dat x.ids
theorem Reps.ex (x:Ex ok H ok' H') (h:Reps K ok H v d):Reps K ok' H' v d:=h.mono x.dat x.ids
theorem EnvR.ex (x:Ex ok H ok' H') (h:EnvR K ok H σ ρ):EnvR K ok' H' σ ρ:=fun i d e=>let ⟨v,a,r⟩:=h i d e;⟨v,a,r.ex x⟩
theorem sV {l:List Ob}{a b:Ob} (h:(l.set i a)[j]?=xw b):(j=i/\b=a)∨(j≠i/\l[j]?=xw b):=by
 rcases Es h with⟨h1,_,h3⟩|h
 ·exact .inl ⟨h1,h3⟩
 ·exact .inr h
theorem Nw.write (h:OkH ok H) (t:Stt cls K ok H ω) (e:ok.al n=xw a) (h0:H a=xw o0) (c:(∀ b u,ok b->H b=xw u->ok b/\upd H a o b=xw u)->CellR cls K ok (upd H a o) a ob) (nt:∀ xs,o≠ .tup xs:=by intro _ z;cases z) (nz:∀ x u,o0≠ .frz x u:=by intro _ _ z;cases z):Nw cls K ok H ok (upd H a o) (ω.set n ob):=by
 have dat:∀ b u,ok b->H b=xw u->ok b/\upd H a o b=xw u:=fun b u k q=>⟨k,by rw[aH (show b≠a from fun z=>t.nok n a e (z ▸ k))];exact q⟩;refine⟨⟨dat,fun _ _ z=>z,fun b u q z=>by rw[aH (show b≠a from fun w=>z n (w ▸ e))];exact q,fun _ _ z=>.inl z,fun b q=> ?_,fun _ z=>.inl z,fun b x u z=>by rw[aH (show b≠a from fun w=>nz x u (ca ((h0.symm.trans (w ▸ z)))))];exact z⟩,⟨fun b q=> ?_,fun b xs q=> ?_⟩,fun m ob' q=> ?_,fun m b q=> ?_,t.inj,t.nok⟩
 ·by_cases hb:b=a
  ·rw[hb,aP] at q;cases q
  ·rw[aH hb] at q;exact q
 ·by_cases hb:b=a
  ·rw[hb,aP] at q;cases q
  ·rw[aH hb] at q;exact h b q
 ·by_cases hb:b=a
  ·rw[hb,aP] at q;exact absurd (ca q) (nt xs)
  ·rw[aH hb] at q;exact h.tp b xs q
 ·rcases sV q with⟨rfl,rfl⟩|⟨hm,q⟩
  ·exact⟨a,e,c dat⟩
  ·obtain⟨b,e1,c1⟩:=t.cell m ob' q;refine⟨b,e1,c1.mono dat (fun _ _ z=>z) fun u z=> ?_⟩;rw[aH (show b≠a from fun w=>hm (t.inj m n a (w ▸ e1) e))];exact z
 ·rw[ce];exact t.dom m b q
noncomputable def okN (ok:Okk) (n:Nat) (p:af):Okk:=⟨fun b=>ok b/\b≠p,fun m=>if m=n then xw p else ok.al m⟩
theorem vC (t:Stt cls K ok H ω) (m:Nat) (b:af) (e:ok.al m=xw b):(okN ok ω.length p).al m=xw b:=by
 have hm:=t.dom m b e
 show(if m=ω.length then xw p else ok.al m)=xw b
 rw[if_neg (ck hm)];exact e
theorem Am (np:H p=xx) (b:af) (u:HO) (k:ok b) (e:H b=xw u):okN ok n p b/\upd H p o b=xw u:=
 ⟨⟨k,aN e np⟩,by rw[aH (aN e np)];exact e⟩
theorem Nw.make (h:OkH ok H) (t:Stt cls K ok H ω) (np:H p=xx) (c:CellR cls K (okN ok ω.length p) (upd H p o) p ob) (nt:∀ xs,o≠ .tup xs:=by intro _ z;cases z):Nw cls K ok H (okN ok ω.length p) (upd H p o) (ω++[ob]):=by
 have al:∀ m b,(okN ok ω.length p).al m=xw b->(m=ω.length/\b=p)∨(m≠ω.length/\ok.al m=xw b):=fun m b q=>by
  have q':(if m=ω.length then xw p else ok.al m)=xw b:=q
  by_cases hm:m=ω.length
  ·rw[if_pos hm] at q';exact .inl ⟨hm,(ca q').symm⟩
  ·rw[if_neg hm] at q';exact .inr ⟨hm,q'⟩
 have tr:∀ m b,ok.al m=xw b->b≠p:=fun m b q=>by
  obtain⟨_,_,c1⟩:=t.at_ q;obtain⟨_,z,_⟩:=c1.there;exact aN z np
 refine⟨⟨fun b u k e=>Am np b u k e,fun m b q=>vC t m b q,fun b u q z=>by rw[aH (aN q np)];exact q,fun m b q=> ?_,fun b q=> ?_,fun b k=>.inl k.1,fun b x u z=>by rw[aH (aN z np)];exact z⟩,⟨fun b q=> ?_,fun b xs q=> ?_⟩,fun m ob' q=> ?_,fun m b q=> ?_,fun m m' b q q'=> ?_,fun m b q k=> ?_⟩
 ·rcases al m b q with⟨_,rfl⟩|⟨_,q⟩
  ·exact .inr np
  ·exact .inl q
 ·by_cases hb:b=p
  ·rw[hb];exact np
  ·rw[aH hb] at q;exact q
 ·have hb:b≠p:=fun z=>by rw[z,aP] at q;cases q
  rw[aH hb] at q;exact⟨h b q,hb⟩
 ·have hb:b≠p:=fun z=>by rw[z,aP] at q;exact nt xs (ca q)
  rw[aH hb] at q;exact⟨h.tp b xs q,hb⟩
 ·by_cases hm:m<ω.length
  ·rw[am hm] at q;obtain⟨b,e1,c1⟩:=t.cell m ob' q;exact⟨b,vC t m b e1,c1.mono (fun b u k e=>Am np b u k e) (fun m b q=>vC t m b q) fun u z=>by rw[aH (aN z np)];exact z⟩
  ·have hm':m=ω.length:=by
    have:=(br.mp q).1
    simp at this;omega
   subst hm';rw[dr (bf _)] at q;simp at q;subst q;exact⟨p,by show(if ω.length=ω.length then xw p else _)=_;rw[if_pos rfl],c⟩
 ·rw[bw,lw];rcases al m b q with⟨rfl,_⟩|⟨_,q⟩
  ·omega
  ·have:=t.dom m b q
   omega
 ·rcases al m b q with⟨rfl,rfl⟩|⟨_,q⟩ <;> rcases al m' b q' with⟨rfl,w⟩|⟨_,q'⟩
  ·rfl
  ·exact absurd rfl (tr m' b q')
  ·exact absurd w (tr m b q)
  ·exact t.inj m m' b q q'
 ·rcases al m b q with⟨_,rfl⟩|⟨_,q⟩
  ·exact k.2 rfl
  ·exact t.nok m b q k.1
theorem Rep.new_obj:Rep K (okN ok n p) H (.ref p) (.obj n):=.obj (by show(if n=n then xw p else _)=_;rw[if_pos rfl])
end
inductive Rz (α:Type) where
 |ok (a:α)|ex (c:Nat)
abbrev OG (α:Type):=Rho->Om->Option (Rz α×Om)
abbrev XE:=Nat->Hp->Prop
structure Pre (cls:Nat->af) (K:aa) (ok:Okk) (H:Hp) (ω:Om) (σ:St) (ρ:Rho):Prop where
 okh:OkH ok H
 st:Stt cls K ok H ω
 env:EnvR K ok H σ ρ
 len:σ.length=ρ.length
theorem Pre.nw {K:aa} (p:Pre cls K ok H ω σ ρ) (x:Nw cls K ok H ok' H' ω'):Pre cls K ok' H' ω' σ ρ:=⟨x.okh,x.st,p.env.ex x.ex,p.len⟩
def exR (cls:Nat->af) (K:aa) (ok:Okk) (H:Hp) (ω':Om) (E:XE) (c:Nat):Prop:=∀ ok' H',Nw cls K ok H ok' H' ω'->E c H'
def tO (cls:Nat->af) (K:aa) (f:OG D) (E:XE):TE:=fun σ H Q=>∃(ok:Okk) (ρ:Rho) (ω:Om) (r:Rz D) (ω':Om),Pre cls K ok H ω σ ρ/\f ρ ω=xw (r,ω')/\match r with
 |.ok d=>∀ v ok' H',Nw cls K ok H ok' H' ω'->Rep K ok' H' v d->Q v H'
 |.ex c=>exR cls K ok H ω' E c
def tOT (cls:Nat->af) (K:aa) (f:OG Bool) (E:XE):TT:=fun σ H Q=>∃(ok:Okk) (ρ:Rho) (ω:Om) (r:Rz Bool) (ω':Om),Pre cls K ok H ω σ ρ/\f ρ ω=xw (r,ω')/\match r with
 |.ok b=>∀ ok' H',Nw cls K ok H ok' H' ω'->Q b H'
 |.ex c=>exR cls K ok H ω' E c
def tOA (cls:Nat->af) (K:aa) (f:OG (List D)) (E:XE):TA:=fun σ H Q=>∃(ok:Okk) (ρ:Rho) (ω:Om) (r:Rz (List D)) (ω':Om),Pre cls K ok H ω σ ρ/\f ρ ω=xw (r,ω')/\match r with
 |.ok ds=>∀ vs ok' H',Nw cls K ok H ok' H' ω'->Reps K ok' H' vs ds->Q vs H'
 |.ex c=>exR cls K ok H ω' E c
abbrev OE (X:Cx) (cls:Nat->af) (E:XE) (e:bv) (f:OG D):Prop:=PE X e (tO cls X.K f E)
abbrev OT (X:Cx) (cls:Nat->af) (E:XE) (e:bv) (f:OG Bool):Prop:=PT X e (tOT cls X.K f E)
abbrev OA (X:Cx) (cls:Nat->af) (E:XE) (es:List bv) (f:OG (List D)):Prop:=PA X es (tOA cls X.K f E)
noncomputable def oB {α β:Type} (f:OG α) (g:α->OG β):OG β:=fun ρ ω=>match f ρ ω with
 |none=>xx
 |some (.ex c,ω1)=>xw (.ex c,ω1)
 |some (.ok a,ω1)=>g a ρ ω1
theorem kO {g:α->OG β} (h:oB f g ρ ω=xw (r,ω')):(∃ c,f ρ ω=xw (.ex c,ω')/\r=.ex c)∨∃ a ω1,f ρ ω=xw (.ok a,ω1)/\g a ρ ω1=xw (r,ω'):=by
 unfold oB at h;split at h
 ·cases h
 ·cases h;exact .inl ⟨_,‹_›,rfl⟩
 ·exact .inr ⟨_,_,‹_›,h⟩
noncomputable def oR {α:Type} (o:Option (α×Om)):Option (Rz α×Om):=o.map fun p=>(.ok p.1,p.2)
theorem cJ {r:Rz α} (h:oR o=xw (r,ω')):∃ a,o=xw (a,ω')/\r=.ok a:=by
 obtain⟨⟨a,w⟩,e1,e2⟩:=aG h;cases e2;exact⟨a,e1,rfl⟩
noncomputable def oP (f:DF):OG D:=fun ρ ω=>oR ((f ρ).map fun d=>(d,ω))
noncomputable def oPT (f:DB):OG Bool:=fun ρ ω=>oR ((f ρ).map fun d=>(d,ω))
noncomputable def pu {α:Type} (o:Option α) (ω:Om):Option (α×Om):=o.map fun d=>(d,ω)
theorem cK {a:α} (h:pu o ω=xw (a,ω')):o=xw a/\ω'=ω:=by
 obtain⟨b,e1,e2⟩:=aG h;cases e2;exact⟨e1,rfl⟩
section
variable {X:Cx}{cls:Nat->af}{E:XE}{e a b c:bv}{es:List bv}{f:DF}{fa fb:OG D}{fl:OG (List D)}{ft ft':OG Bool}{pos p:Pos}
theorem EZ (h:DE X e f):OE X cls E e (oP f):=h.imp fun σ H Q ⟨ok,ρ,ω,r,ω',P,h3,h4⟩=>by
 obtain⟨d,e1,rfl⟩:=cJ h3;obtain⟨e2,rfl⟩:=cK e1;exact⟨ok,ρ,d,P.okh,P.env,e2,fun v H' s r=>h4 v ok H' (.same P.okh P.st s) r⟩
theorem tO.then_ {K:aa}{r:Rz α} (P:Pre cls K ok H ω σ ρ) (e:oB fa g ρ ω=xw (r,ω')) (hx:∀ c,r=.ex c->exR cls K ok H ω' E c)
  (h:∀ d ω1 v ok1 H1,g d ρ ω1=xw (r,ω')->Nw cls K ok H ok1 H1 ω1->Pre cls K ok1 H1 ω1 σ ρ->Rep K ok1 H1 v d->Q v H1):tO cls K fa E σ H Q:=by
 rcases kO e with⟨c,e1,rfl⟩|⟨d,ω1,e1,e2⟩
 ·exact⟨ok,ρ,ω,.ex c,ω',P,e1,hx c rfl⟩
 ·exact⟨ok,ρ,ω,.ok d,ω1,P,e1,fun v ok1 H1 n r1=>h d ω1 v ok1 H1 e2 n (P.nw n) r1⟩
theorem tOA.then_ {K:aa}{r:Rz α} (P:Pre cls K ok H ω σ ρ) (e:oB fl g ρ ω=xw (r,ω')) (hx:∀ c,r=.ex c->exR cls K ok H ω' E c)
  (h:∀ d ω1 v ok1 H1,g d ρ ω1=xw (r,ω')->Nw cls K ok H ok1 H1 ω1->Pre cls K ok1 H1 ω1 σ ρ->Reps K ok1 H1 v d->Q v H1):tOA cls K fl E σ H Q:=by
 rcases kO e with⟨c,e1,rfl⟩|⟨d,ω1,e1,e2⟩
 ·exact⟨ok,ρ,ω,.ex c,ω',P,e1,hx c rfl⟩
 ·exact⟨ok,ρ,ω,.ok d,ω1,P,e1,fun v ok1 H1 n r1=>h d ω1 v ok1 H1 e2 n (P.nw n) r1⟩
theorem tOT.then_ {K:aa}{r:Rz α} (P:Pre cls K ok H ω σ ρ) (e:oB ft g ρ ω=xw (r,ω')) (hx:∀ c,r=.ex c->exR cls K ok H ω' E c)
  (h:∀ d ω1 ok1 H1,g d ρ ω1=xw (r,ω')->Nw cls K ok H ok1 H1 ω1->Pre cls K ok1 H1 ω1 σ ρ->Q d H1):tOT cls K ft E σ H Q:=by
 rcases kO e with⟨c,e1,rfl⟩|⟨d,ω1,e1,e2⟩
 ·exact⟨ok,ρ,ω,.ex c,ω',P,e1,hx c rfl⟩
 ·exact⟨ok,ρ,ω,.ok d,ω1,P,e1,fun ok1 H1 n=>h d ω1 ok1 H1 e2 n (P.nw n)⟩
theorem exR.nw {K:aa}{c:Nat} (h:exR cls K ok H ω' E c) (n:Nw cls K ok H ok' H' ω1):exR cls K ok' H' ω' E c:=fun ok2 H2 m=>h ok2 H2 (n.trans m)
def wV (cls:Nat->af) (K:aa) (r:R2) (g:Om->D->D->Option (D×Om)):Prop:=∀(ok:Okk) (H:Hp) (ω:Om) (x y:V) (a b d:D) (ω':Om) (Q:VK),OkH ok H->Stt cls K ok H ω->Rep K ok H x a->Rep K ok H y b->g ω a b=xw (d,ω')->
 (∀ v ok' H',Nw cls K ok H ok' H' ω'->Rep K ok' H' v d->Q v H')->r x y H Q
def rQ (cls:Nat->af) (K:aa) (r:List V->Hp->VK->Prop) (g:Om->List D->Option (D×Om)):Prop:=∀(ok:Okk) (H:Hp) (ω:Om) (xs:List V) (as:List D) (d:D) (ω':Om) (Q:VK),OkH ok H->Stt cls K ok H ω->Reps K ok H xs as->g ω as=xw (d,ω')->
 (∀ v ok' H',Nw cls K ok H ok' H' ω'->Rep K ok' H' v d->Q v H')->r xs H Q
theorem Fit2.lift {K:aa} (F:Fit2 K r g):wV cls K r fun ω a b=>pu (g a b) ω:=fun ok H ω x y a b d ω' Q h1 st ra rb e k=>by
 obtain⟨ue,rfl⟩:=cK e;exact F ok H x y a b d Q h1 ra rb ue fun v H' s r=>k v ok H' (.same h1 st s) r
theorem FitL.lift {K:aa} (F:FitL K r g):rQ cls K r fun ω a=>pu (g a) ω:=fun ok H ω x a d ω' Q h1 st ra e k=>by
 obtain⟨ue,rfl⟩:=cK e;exact F ok H x a d Q h1 ra ue fun v H' s r=>k v ok H' (.same h1 st s) r
noncomputable def o2 (g:Om->D->D->Option (D×Om)) (f h:OG D):OG D:=oB f fun a=>oB h fun b _ ω=>oR (g ω a b)
noncomputable def oL (g:Om->List D->Option (D×Om)) (f:OG (List D)):OG D:=oB f fun as _ ω=>oR (g ω as)
theorem tO.op {K:aa} (F:wV cls K r g) (h:tO cls K (o2 g fa fb) E σ H Q):tOp r (tO cls K fa E) (tO cls K fb E) σ H Q:=by
 obtain⟨ok,ρ,ω,rz,ω',P,e,q⟩:=h;refine tO.then_ P e (fun c z=>by subst z;exact q) fun a ω1 v ok1 H1 e1 n1 P1 r1=> ?_;refine tO.then_ P1 e1 (fun c z=>by subst z;exact exR.nw q n1) fun b ω2 u ok2 H2 e2 n2 P2 r2=> ?_;obtain⟨d,e3,rfl⟩:=cJ e2;exact F ok2 H2 ω2 v u a b d ω' Q P2.okh P2.st (r1.ex n2.ex) r2 e3 fun w ok3 H3 n3 r3=>q w ok3 H3 (n1.trans (n2.trans n3)) r3
theorem rX (ho:OpR X (ke op) r) (F:wV cls X.K r g) (ha:OE X cls E a fa) (hb:OE X cls E b fb):OE X cls E (.BinOp a op b pos) (o2 g fa fb):=
 (QP ho ha hb).imp fun _ _ _ h=>tO.op F h
theorem BU (ho:OpR X (fu op) r) (F:wV cls X.K r g) (ha:OE X cls E a fa) (hb:OE X cls E b fb) (hm:i7 op b=false):OE X cls E (.Compare a [op] [b] pos) (o2 g fa fb):=
 (KU ho ha hb hm).imp fun _ _ _ h=>tO.op F h
noncomputable def bS (f:OG D):OG Bool:=oB f fun d _ ω=>oR (pu (toB d) ω)
theorem jG (ho:OpR X (fu op) r) (F:wV cls X.K r g) (ha:OE X cls E a fa) (hb:OE X cls E b fb) (hm:i7 op b=false):OT X cls E (.Compare a [op] [b] pos) (bS (o2 g fa fb)):=
 (KA ho ha hb hm).imp fun σ H Q ⟨ok,ρ,ω,r,ω',P,e,q⟩=>by
  refine tO.op F ?_;refine tO.then_ P e (fun c z=>by subst z;exact q) fun d ω1 v ok1 H1 e1 n1 P1 r1=> ?_;obtain⟨k,e3,rfl⟩:=cJ e1;obtain⟨ue3,rfl⟩:=cK e3;obtain rfl:=oY ue3;exact⟨k,r1.bl_inv,q ok1 H1 n1⟩
noncomputable def gO (f:OG D):OG Bool:=oB f fun d _ ω=>oR (pu (RM d) ω)
theorem Oe (h:OE X cls E e fa) (he:∀ whole,isTrue e X.env whole=(do let v <- whole;n9 e.pos;holding [v] (truthy v)):=by intro _;rfl):OT X cls E e (gO fa):=(Hz h he).imp fun σ H Q ⟨ok,ρ,ω,r,ω',P,e,q⟩=>by
 refine tO.then_ P e (fun c z=>by subst z;exact q) fun d ω1 v ok1 H1 e1 n1 P1 r1=> ?_;obtain⟨k,e3,rfl⟩:=cJ e1;obtain⟨ue3,rfl⟩:=cK e3;exact⟨k,Km r1 ue3,q ok1 H1 n1⟩
noncomputable def iS (f:OG Bool):OG Bool:=oB f fun k _ ω=>xw (.ok (!k),ω)
theorem Of (h:OT X cls E a ft):OT X cls E (.UnaryOp .Not a pos) (iS ft):=(NI h).imp fun σ H Q ⟨ok,ρ,ω,r,ω',P,e,q⟩=>by
 refine tOT.then_ P e (fun c z=>by subst z;exact q) fun d ω1 ok1 H1 e1 n1 P1=> ?_;cases e1;exact q ok1 H1 n1
abbrev OW (X:Cx) (cls:Nat->af) (E:XE) (e:bv) (f:OG Bool):Prop:=PW X e (tOT cls X.K f E)
noncomputable def De (f g:OG Bool):OG Bool:=oB f fun k ρ ω=>if k=true then g ρ ω else xw (.ok false,ω)
noncomputable def oOr (f g:OG Bool):OG Bool:=oB f fun k ρ ω=>if k=true then xw (.ok true,ω) else g ρ ω
variable {rest:List bv}
theorem KY (ha:OT X cls E a ft):OW X cls E (.BoolOp .And [a] pos) ft:=Kz ha
theorem Oc (ha:OT X cls E a ft):OW X cls E (.BoolOp .Or [a] pos) ft:=NF ha
theorem Od (ha:OT X cls E a ft) (hb:OW X cls E (.BoolOp .And (b::rest) pos) ft'):OW X cls E (.BoolOp .And (a::b::rest) pos) (De ft ft'):=PW.imp (NG ha hb) fun σ H Q ⟨ok,ρ,ω,r,ω',P,e,q⟩=>by
 refine tOT.then_ P e (fun c z=>by subst z;exact q) fun d ω1 ok1 H1 e1 n1 P1=> ?_;cases d with
 |true=>
  refine Nb ⟨ok1,ρ,ω1,r,ω',P1,e1,?_⟩;cases r with
  |ok b=>exact fun ok2 H2 n2=>q ok2 H2 (n1.trans n2)
  |ex c=>exact exR.nw q n1
 |false=>
  cases e1;exact Nc (q ok1 H1 n1)
theorem QT (ha:OT X cls E a ft) (hb:OW X cls E (.BoolOp .Or (b::rest) pos) ft'):OW X cls E (.BoolOp .Or (a::b::rest) pos) (oOr ft ft'):=PW.imp (QM ha hb) fun σ H Q ⟨ok,ρ,ω,r,ω',P,e,q⟩=>by
 refine tOT.then_ P e (fun c z=>by subst z;exact q) fun d ω1 ok1 H1 e1 n1 P1=> ?_;cases d with
 |false=>
  refine Nc ⟨ok1,ρ,ω1,r,ω',P1,e1,?_⟩;cases r with
  |ok b=>exact fun ok2 H2 n2=>q ok2 H2 (n1.trans n2)
  |ex c=>exact exR.nw q n1
 |true=>
  cases e1;exact Nb (q ok1 H1 n1)
theorem SA (h:OW X cls E e ft):OT X cls E e ft:=PW.pt h
noncomputable def aM:OG (List D):=fun _ ω=>xw (.ok [],ω)
noncomputable def aC (f:OG D) (g:OG (List D)):OG (List D):=oB f fun d=>oB g fun ds _ ω=>xw (.ok (d::ds),ω)
theorem Pc:OA X cls E [] aM:=(PA.imp tG) fun σ H Q ⟨ok,ρ,ω,r,ω',P,e,q⟩=>by
 cases e;exact q [] ok H (.refl P.okh P.st) .nil
theorem LN (ha:OE X cls E e fa) (hr:OA X cls E es fl) (hs:av (e::es) X.env=(false,eval e X.env)::av es X.env:=by rfl):OA X cls E (e::es) (aC fa fl):=
 (iA ha hr hs).imp fun σ H Q ⟨ok,ρ,ω,r,ω',P,e,q⟩=>by
  refine tO.then_ P e (fun c z=>by subst z;exact q) fun d ω1 v ok1 H1 e1 n1 P1 r1=> ?_;refine tOA.then_ P1 e1 (fun c z=>by subst z;exact exR.nw q n1) fun ds ω2 vs ok2 H2 e2 n2 P2 r2=> ?_;cases e2;exact q (v::vs) ok2 H2 (n1.trans n2) (.cons (r1.ex n2.ex) r2)
theorem OL (h:OA X cls E es fl):OE X cls E (.Tuple es x1 pos) (oL (fun ω ds=>pu (nP ds) ω) fl):=(JK h).imp fun σ H Q ⟨ok,ρ,ω,r,ω',P,e,q⟩=>by
 refine tOA.then_ P e (fun c z=>by subst z;exact q) fun ds ω1 vs ok1 H1 e1 n1 P1 r1=> ?_;obtain⟨d,e3,rfl⟩:=cJ e1;obtain⟨ue3,rfl⟩:=cK e3;obtain⟨hz,rfl⟩:=bK ue3;refine⟨by rw[r1.length];exact hz,fun p n=> ?_⟩;exact q _ ok1 _ (n1.trans (.same P1.okh P1.st (cF n))) (.tup_new (P1.okh p n) n r1)
theorem OU (h:OA X cls E es fl):OE X cls E (.List es pos) (oL (fun ω ds=>pu (DD ds) ω) fl):=(JL h).imp fun σ H Q ⟨ok,ρ,ω,r,ω',P,e,q⟩=>by
 refine tOA.then_ P e (fun c z=>by subst z;exact q) fun ds ω1 vs ok1 H1 e1 n1 P1 r1=> ?_;obtain⟨d,e3,rfl⟩:=cJ e1;obtain⟨ue3,rfl⟩:=cK e3;obtain⟨hz,rfl⟩:=bK ue3;refine⟨by rw[r1.length];exact hz,fun p n=> ?_⟩;exact q _ ok1 _ (n1.trans (.same P1.okh P1.st (cF n))) (.lst_new (P1.okh p n) n r1)
noncomputable def II (ω:Om) (ds:List D):Option (D×Om):=if ds.length<=sizeLine then xw (.obj ω.length,ω++[.ml ds]) else xx
theorem Nw.ml {K:aa}{p:af} (h:OkH ok H) (t:Stt cls K ok H ω) (np:H p=xx) (r:Reps K ok H xs ds):Nw cls K ok H (okN ok ω.length p) (upd H p (.lst xs)) (ω++[.ml ds]):=
 Nw.make h t np ⟨xs,aP,r.mono (fun b u k e=>Am np b u k e) fun m b q=>vC t m b q⟩
theorem LA (h:OA X cls E es fl):OE X cls E (.List es pos) (oL II fl):=(JL h).imp fun σ H Q ⟨ok,ρ,ω,r,ω',P,e,q⟩=>by
 refine tOA.then_ P e (fun c z=>by subst z;exact q) fun ds ω1 vs ok1 H1 e1 n1 P1 r1=> ?_;obtain⟨d,e3,rfl⟩:=cJ e1;obtain⟨hz,e4⟩:=bK e3;cases e4;refine⟨by rw[r1.length];exact hz,fun p n=> ?_⟩;exact q _ _ _ (n1.trans (.ml P1.okh P1.st n r1)) .new_obj
theorem tO.cb {K:aa} (F:rQ cls K r g) (h:tO cls K (oL g fl) E σ H Q):tCB r (tOA cls K fl E) σ H Q:=by
 obtain⟨ok,ρ,ω,rz,ω',P,e,q⟩:=h;refine tOA.then_ P e (fun c z=>by subst z;exact q) fun ds ω1 vs ok1 H1 e1 n1 P1 r1=> ?_;obtain⟨d,e3,rfl⟩:=cJ e1;exact F ok1 H1 ω1 vs ds d ω' Q P1.okh P1.st r1 e3 fun w ok3 H3 n3 r3=>q w ok3 H3 (n1.trans n3) r3
theorem iF {id:String} (hc:CallR X (.builtin id) r) (F:rQ cls X.K r g) (hg:Gl X x) (hm:X.mg x=xx) (hv:dm x=xw (.builtin id)) (ha:OA X cls E (e::es) fl)
  (hn:x≠"__name__":=by decide) (hdb:(x==("__debug__":Str))=false:=by decide)
  (he:av (e::es) X.env=(false,eval e X.env)::av es X.env:=by rfl) (hpl:(dq pos (av es X.env)).any (·.1)=false:=by rfl):OE X cls E (.Call (.Name x p) (e::es) [] pos) (oL g fl):=
 (oG hc hg hm hv ha hn hdb he hpl).imp fun _ _ _ h=>tO.cb F h
theorem lS (hc:CallR X (.type T) r) (F:rQ cls X.K r g) (hg:Gl X x) (hm:X.mg x=xx) (hv:dm x=xw (.type T)) (ha:OA X cls E (e::es) fl)
  (hn:x≠"__name__":=by decide) (hdb:(x==("__debug__":Str))=false:=by decide)
  (he:av (e::es) X.env=(false,eval e X.env)::av es X.env:=by rfl) (hpl:(dq pos (av es X.env)).any (·.1)=false:=by rfl):OE X cls E (.Call (.Name x p) (e::es) [] pos) (oL g fl):=
 (EO hc hg hm hv ha hn hdb he hpl).imp fun _ _ _ h=>tO.cb F h
end
end L2.MB
end
section
namespace L2.MB
mutual
noncomputable def fM:D->D->Bool
 |.non,.non=>true
 |.bl a,.bl b=>a==b
 |.int a,.int b=>a==b
 |.str a,.str b=>decide (a=b)
 |.lst a,.lst b=>sameDs a b
 |.tup a,.tup b=>sameDs a b
 |.obj a,.obj b=>a==b
 |.scr a,.scr b=>sameDs a b
 |_,_=>false
noncomputable def sameDs:List D->List D->Bool
 |[],[]=>true
 |a::as,b::bs=>fM a b&&sameDs as bs
 |_,_=>false
end
mutual
theorem BH:∀(a b:D),fM a b=true->a=b
 |.non,b,h=>by cases b <;> first|rfl|(simp[fM] at h)
 |.bl a,b,h=>by cases b <;> simp[fM] at h;rw[h]
 |.int a,b,h=>by cases b <;> simp[fM] at h;rw[h]
 |.str a,b,h=>by cases b <;> simp[fM] at h;rw[h]
 |.obj a,b,h=>by cases b <;> simp[fM] at h;rw[h]
 |.lst a,b,h=>by
  cases b with
  |lst b=>rw[sameDs_eq a b (by simpa [fM] using h)]
  |_=>simp[fM] at h
 |.scr a,b,h=>by
  cases b with
  |scr b=>rw[sameDs_eq a b (by simpa [fM] using h)]
  |_=>simp[fM] at h
 |.tup a,b,h=>by
  cases b with
  |tup b=>rw[sameDs_eq a b (by simpa [fM] using h)]
  |_=>simp[fM] at h
theorem sameDs_eq:∀(a b:List D),sameDs a b=true->a=b
 |[],[],_=>rfl
 |[],_::_,h=>by simp[sameDs] at h
 |_::_,[],h=>by simp[sameDs] at h
 |a::as,b::bs,h=>by
  simp only[sameDs,bu] at h;rw[BH a b h.1,sameDs_eq as bs h.2]
end
noncomputable def cellOf (ω:Om):D->Option Ob
 |.obj n=>ω[n]?
 |_=>xx
theorem dQ (h:cellOf ω d=xw ob):∃ n,d=.obj n/\ω[n]?=xw ob:=by
 cases d with
 |obj n=>exact⟨n,rfl,h⟩
 |_=>cases h
theorem Stt.ref {K:aa} (t:Stt cls K ok H ω) (r:Rep K ok H v (.obj n)) (e:ω[n]?=xw ob):∃ a,v=.ref a/\ok.al n=xw a/\CellR cls K ok H a ob:=by
 obtain⟨a,rfl,e1⟩:=r.obj_inv;obtain⟨b,e2,c⟩:=t.cell n ob e;rw[e1] at e2;cases e2;exact⟨a,rfl,e1,c⟩
noncomputable def Nf (c:Nat) (x:Str) (ω:Om) (d:D):Option D:=match cellOf ω d with
 |some (.ins c' fs)=>if c'=c then fs.lookup x else xx
 |_=>xx
theorem IL (h:Nf c x ω d=xw y):∃ n fs,d=.obj n/\ω[n]?=xw (.ins c fs)/\fs.lookup x=xw y:=by
 unfold Nf at h;split at h
 ·rename_i c' fs hc
  obtain⟨n,rfl,e⟩:=dQ hc
  by_cases hcc:c'=c
  ·subst hcc;rw[if_pos rfl] at h;exact⟨n,fs,rfl,e,h⟩
  ·rw[if_neg hcc] at h;cases h
 ·cases h
noncomputable def gB (c:Nat) (x:Str) (f:OG D):OG D:=oB f fun d _ ω=>oR (pu (Nf c x ω d) ω)
section
variable {X:Cx}{cls:Nat->af}{E:XE}{e a b c o i value:bv}{es:List bv}{f:DF}{fa fb fo fi fv:OG D}{fl:OG (List D)}{ft ft':OG Bool}{pos p apos pos':Pos}{x m:Str}{cn:Nat}
theorem OX (hc:Cls X.K (cls cn)) (hn:NoAttr X.K (cls cn) x) (he:OE X cls E e fa) (hb:iq e x X.env (eval e X.env)=eval e X.env:=by rfl):OE X cls E (.Attribute e x pos) (gB cn x fa):=(NW he hb).imp fun σ H Q ⟨ok,ρ,ω,r,ω',P,e,q⟩=>by
 refine tO.then_ P e (fun c z=>by subst z;exact q) fun d ω1 v ok1 H1 e1 n1 P1 r1=> ?_;obtain⟨y,e3,rfl⟩:=cJ e1;obtain⟨ue3,rfl⟩:=cK e3;obtain⟨n,fs,rfl,e4,e5⟩:=IL ue3;obtain⟨a,rfl,e6,dx,vs,e7,kv⟩:=P1.st.ref r1 e4;obtain⟨u,e8,ru⟩:=kv.look e5;exact⟨a,_,dx,vs,u,rfl,e7,hc,hn,e8,q u ok1 H1 n1 ru⟩
noncomputable def oN (ω:Om) (a b:D):Option D:=match cellOf ω a with
 |some (.ml ds)=>(toI b).bind fun i=>atI ds i
 |some _=>xx
 |none=>gIx a b
theorem ME {K:aa}:wV cls K (fun x y H Q=>(∃ p xs i v,x=.ref p/\y=.int i/\SqL K H p xs/\atI xs i=xw v/\Q v H)∨(∃ p xs i v,x=.ref p/\y=.int i/\SqT K H p xs/\atI xs i=xw v/\Q v H)∨
  ∃ z i c,x=.str z/\y=.int i/\z.length<=sizeLine/\atI z.cps.toList i=xw c/\Q (.str ⟨#[c]⟩) H) fun ω a b=>pu (oN ω a b) ω:=fun ok H ω x y a b d ω' Q h1 st ra rb e k=>by
 obtain⟨ue,rfl⟩:=cK e;clear e;unfold oN at ue;cases hc:cellOf ω' a with
 |some ob=>
  rw[hc] at ue;obtain⟨n,rfl,e1⟩:=dQ hc;cases ob with
  |ml ds=>
   obtain⟨i,e0,ue⟩:=bind_some (show(toI b).bind _=xw d from ue);obtain rfl:=uT e0;obtain⟨p,rfl,e2,xs,e3,r⟩:=st.ref ra e1;obtain rfl:=rb.int_inv;obtain⟨v,e4,rv⟩:=r.atI ue;exact .inl ⟨p,xs,i,v,rfl,rfl,SqL.of e3,e4,k v ok H (.refl h1 st) rv⟩
  |_=>cases ue
 |none=>
  rw[hc] at ue;have ue':gIx a b=xw d:=ue;have k':∀ v H',Same H H'->Rep K ok H' v d->Q v H':=fun v H' s r=>k v ok H' (.same h1 st s) r;cases b with
  |int i=>
   obtain rfl:=rb.int_inv;cases a with
   |lst ds=>
    obtain⟨p,xs,rfl,h,r⟩:=ra.lst_inv;obtain⟨v,e1,r1⟩:=r.atI ue';exact .inl ⟨p,xs,i,v,rfl,rfl,h.sq,e1,k' v H (Same.refl H) r1⟩
   |scr ds=>
    obtain⟨p,xs,rfl,h,r⟩:=ra.scr_inv;obtain⟨v,e1,r1⟩:=r.atI ue';exact .inl ⟨p,xs,i,v,rfl,rfl,h.sq,e1,k' v H (Same.refl H) r1⟩
   |tup ds=>
    obtain⟨p,xs,rfl,h,r⟩:=ra.tup_inv;obtain⟨v,e1,r1⟩:=r.atI ue';exact .inr (.inl ⟨p,xs,i,v,rfl,rfl,h.sq,e1,k' v H (Same.refl H) r1⟩)
   |str z=>
    obtain rfl:=ra.str_inv;have e':(if z.length<=sizeLine then(L2.atI z.cps.toList i).map fun c=>D.str ⟨#[c]⟩ else xx)=xw d:=ue'
    by_cases hz:z.length<=sizeLine
    ·rw[if_pos hz] at e';cases q:L2.atI z.cps.toList i with
     |none=>rw[q] at e';cases e'
     |some c=>
      rw[q] at e';cases e';exact .inr (.inr ⟨z,i,c,rfl,rfl,hz,q,k' _ H (Same.refl H) (.str _)⟩)
    ·rw[if_neg hz] at e';cases e'
   |_=>cases ue'
  |_=>cases a <;> cases ue'
theorem Re (ha:OE X cls E a fa) (hb:OE X cls E b fb) (hs:GP b:=by intro _ _;rfl):OE X cls E (.Subscript a b pos) (o2 (fun ω a b=>pu (oN ω a b) ω) fa fb):=(QQ Pr ha hb hs).imp fun _ _ _ h=>tO.op ME h
noncomputable def toK:D->Option Key
 |.int i=>xw (.inl i)
 |.str x=>xw (.inr x)
 |_=>xx
noncomputable def Nm:List D->Option (List Key)
 |[]=>xw []
 |d::ds=>(toK d).bind fun k=>(Nm ds).map fun ks=>k::ks
noncomputable def ofK:Key->D
 |.inl i=>.int i
 |.inr x=>.str x
theorem Ab {K:aa} (h:toK d=xw k) (r:Rep K ok H v d):v=kV k:=by
 cases d with
 |int i=>cases h;exact r.int_inv
 |str x=>cases h;exact r.str_inv
 |_=>cases h
theorem BB {K:aa}:∀ {vs:List V}{ds:List D}{ks:List Key},Nm ds=xw ks->Reps K ok H vs ds->vs=ks.map kV
 |_,_,_,h,.nil=>by cases h;rfl
 |_,_,_,h,.cons r rs=>by
  obtain⟨k,e1,h⟩:=bind_some h;obtain⟨ks,e2,rfl⟩:=aG h;rw[Ab e1 r,BB e2 rs];rfl
noncomputable def Ec:D->Option (List Key)
 |.tup ds=>Nm ds
 |_=>xx
theorem toT'_rep {K:aa} (h:Ec d=xw ks) (r:Rep K ok H v d):∃ b,v=.ref b/\ok b/\H b=xw (.tup (ks.map kV)):=by
 cases d with
 |tup ds=>
  obtain⟨b,xs,rfl,g,rs⟩:=r.tup_inv;rw[BB h rs] at g;exact⟨b,rfl,g.1,g.2⟩
 |_=>cases h
section
variable {κ:Type} [DecidableEq κ]
noncomputable def iR (kvs:List (κ×D)) (k:κ):Option D:=(kvs.find? fun kv=>decide (kv.1=k)).map (·.2)
noncomputable def putD (kvs:List (κ×D)) (k:κ) (v:D):List (κ×D):=if(kvs.any fun kv=>decide (kv.1=k))=true then kvs.map (fun kv=>if kv.1=k then(kv.1,v) else kv) else kvs++[(k,v)]
noncomputable def dZ (kvs:List (κ×D)) (k:κ):List (κ×D):=kvs.filter fun kv=>decide (kv.1≠k)
variable {K:aa}{ok:Okk}{H:Hp}
theorem KvR.val:∀ {vs:List (κ×V)}{ds:List (κ×D)}{d:D},KvR K ok H vs ds->iR ds k=xw d->∃ v,wX vs k=xw v/\Rep K ok H v d
 |_,_,_,.nil,e=>by cases e
 |_,_,d,@KvR.cons _ _ _ _ k' v d' vs ds r rs,e=>by
  by_cases q:k'=k
  ·have e':iR ((k',d')::ds) k=xw d':=by simp[iR,hV,q]
   rw[e'] at e;cases e;exact⟨v,nZ (p:=(k',v)) q,r⟩
  ·have e':iR ((k',d')::ds) k=iR ds k:=by simp[iR,hV,q]
   rw[e'] at e;obtain⟨u,e1,ru⟩:=KvR.val rs e;exact⟨u,by rw[lI (p:=(k',v)) q];exact e1,ru⟩
theorem KvR.val_none:∀ {vs:List (κ×V)}{ds:List (κ×D)},KvR K ok H vs ds->iR ds k=xx->wX vs k=xx
 |_,_,.nil,e=>rfl
 |_,_,@KvR.cons _ _ _ _ k' v d' vs ds r rs,e=>by
  by_cases q:k'=k
  ·have e':iR ((k',d')::ds) k=xw d':=by simp[iR,hV,q]
   rw[e'] at e;cases e
  ·have e':iR ((k',d')::ds) k=iR ds k:=by simp[iR,hV,q]
   rw[e'] at e;rw[lI (p:=(k',v)) q];exact KvR.val_none rs e
theorem KvR.any:∀ {vs:List (κ×V)}{ds:List (κ×D)},KvR K ok H vs ds->(vs.any fun kv=>decide (kv.1=k))=ds.any fun kv=>decide (kv.1=k)
 |_,_,.nil=>rfl
 |_,_,.cons _ rs=>by rw[ma,ma,KvR.any rs]
theorem KvR.rep1 (q:Rep K ok H v d):∀ {vs:List (κ×V)}{ds:List (κ×D)},KvR K ok H vs ds->KvR K ok H (vs.map fun kv=>if kv.1=k then(kv.1,v) else kv) (ds.map fun kv=>if kv.1=k then(kv.1,d) else kv)
 |_,_,.nil=>.nil
 |_,_,@KvR.cons _ _ _ _ k' v' d' vs ds r rs=>by
  rw[bg,bg]
  by_cases z:k'=k
  ·rw[if_pos z,if_pos z];exact .cons q (KvR.rep1 q rs)
  ·rw[if_neg z,if_neg z];exact .cons r (KvR.rep1 q rs)
theorem KvR.snoc (q:Rep K ok H v d):∀ {vs:List (κ×V)}{ds:List (κ×D)},KvR K ok H vs ds->KvR K ok H (vs++[(k,v)]) (ds++[(k,d)])
 |_,_,.nil=>.cons q .nil
 |_,_,.cons r rs=>.cons r (KvR.snoc q rs)
theorem KvR.put {ds:List (κ×D)} (h:KvR K ok H vs ds) (q:Rep K ok H v d):KvR K ok H (nC vs k v) (putD ds k d):=by
 unfold nC putD;rw[h.any];split
 ·exact h.rep1 q
 ·exact h.snoc q
theorem KvR.drop:∀ {vs:List (κ×V)}{ds:List (κ×D)},KvR K ok H vs ds->KvR K ok H (yV vs k) (dZ ds k)
 |_,_,.nil=>.nil
 |_,_,@KvR.cons _ _ _ _ k' v' d' vs ds r rs=>by
  unfold yV dZ
  by_cases z:k'=k
  ·rw[o6,o6];simp only[z,ne_eq,not_true_eq_false,decide_false,d8,if_false];exact KvR.drop rs
  ·rw[o6,o6];simp only[z,ne_eq,not_false_eq_true,decide_true,if_true];exact .cons r (KvR.drop rs)
end
noncomputable def Ed (ω:Om) (d y:D):Option (Option D):=match cellOf ω d with
 |some (.dt kvs)=>(Ec y).map fun k=>iR kvs k
 |some (.dz kvs)=>(Ec y).map fun k=>iR kvs k
 |some (.dk kvs)=>(toK y).map fun k=>iR kvs k
 |_=>xx
def ResR (K:aa) (ok:Okk) (H:Hp):Option D->Option V->Prop
 |some z,u=>∃ v,u=xw v/\Rep K ok H v z
 |none,u=>u=xx
theorem ResR.isSome {K:aa} (h:ResR K ok H r u):u.isSome=r.isSome:=by
 cases r with
 |none=>rw[show u=xx from h];rfl
 |some z=>obtain⟨v,rfl,_⟩:=h;rfl
theorem KvR.res {κ:Type} [DecidableEq κ] {K:aa}{ok:Okk}{H:Hp}{k:κ}{vs:List (κ×V)}{ds:List (κ×D)} (h:KvR K ok H vs ds):ResR K ok H (iR ds k) (wX vs k):=by
 cases q:iR ds k with
 |none=>exact h.val_none q
 |some z=>exact h.val q
theorem DGet.of {K:aa}{x y:V} (t:Stt cls K ok H ω) (rx:Rep K ok H x d) (ry:Rep K ok H y k) (e:Ed ω d k=xw r):∃ a u,x=.ref a/\DGet H a y u/\ResR K ok H r u:=by
 unfold Ed at e;cases hc:cellOf ω d with
 |none=>rw[hc] at e;cases e
 |some ob=>
  rw[hc] at e;obtain⟨n,rfl,e1⟩:=dQ hc;cases ob with
  |dt kvs=>
   obtain⟨a,rfl,e2,vs,e3,kv⟩:=t.ref rx e1;obtain⟨ks,e4,e5⟩:=aG (show(Ec k).map _=xw r from e);subst e5;obtain⟨b,rfl,_,hb⟩:=toT'_rep e4 ry;exact⟨a,_,rfl,DGet.t e3 hb,kv.res⟩
  |dz kvs=>
   obtain⟨a,rfl,e2,ob,vs,e3,kv⟩:=t.ref rx e1;obtain⟨ks,e4,e5⟩:=aG (show(Ec k).map _=xw r from e);subst e5;obtain⟨b,rfl,_,hb⟩:=toT'_rep e4 ry;exact⟨a,_,rfl,.inr ⟨vs,ks,b,.inr ⟨ob,e3⟩,rfl,hb,rfl⟩,kv.res⟩
  |dk kvs=>
   obtain⟨a,rfl,e2,vs,e3,kv⟩:=t.ref rx e1;obtain⟨ks,e4,e5⟩:=aG (show(toK k).map _=xw r from e);subst e5;obtain rfl:=Ab e4 ry;exact⟨a,_,rfl,DGet.k e3,kv.res⟩
  |_=>cases e
noncomputable def jA (ω:Om) (d y:D):Option D:=(Ed ω d y).join
theorem LI (hu:X.A.units+1<eu) (ho:OE X cls E o fo) (hi:OE X cls E i fi) (hs:RG i:=by intro _ _;rfl):OE X cls E (.Subscript o i pos) (o2 (fun ω a b=>pu (jA ω a b) ω) fo fi):=(KR hu ho hi hs).imp fun σ H Q ⟨ok,ρ,ω,r,ω',P,e,q⟩=>by
 refine tO.then_ P e (fun c z=>by subst z;exact q) fun d ω1 v ok1 H1 e1 n1 P1 r1=> ?_;refine tO.then_ P1 e1 (fun c z=>by subst z;exact exR.nw q n1) fun y ω2 u ok2 H2 e2 n2 P2 r2=> ?_;obtain⟨z,e3,rfl⟩:=cJ e2;obtain⟨ue3,rfl⟩:=cK e3;have e4:Ed ω' d y=xw (xw z):=by
  unfold jA at ue3;cases q:Ed ω' d y with
  |none=>rw[q] at ue3;cases ue3
  |some w=>rw[q] at ue3;cases w with
   |none=>cases ue3
   |some w=>cases ue3;rfl
 obtain⟨a,w,rfl,g,w2⟩:=DGet.of P2.st (r1.ex n2.ex) r2 e4;obtain⟨v',rfl,rv⟩:=w2;exact⟨a,v',rfl,g,q v' ok2 H2 (n1.trans n2) rv⟩
noncomputable def Ng (ω:Om) (y d:D):Option D:=(Ed ω d y).map fun r=>.bl r.isSome
theorem Oo (hu:X.A.units+1<eu) (hi:OE X cls E i fi) (ho:OE X cls E o fo) (hm:i7 .In o=false:=by with_unfolding_all rfl):OT X cls E (.Compare i [.In] [o] pos) (bS (o2 (fun ω a b=>pu (Ng ω a b) ω) fi fo)):=
 (NJ (Oa hu hi ho) hm).imp fun σ H Q ⟨ok,ρ,ω,r,ω',P,e,q⟩=>by
 rcases kO e with⟨c,e1,rfl⟩|⟨dd,ωd,e0,e5⟩
 ·rcases kO e1 with⟨c',e2,e3⟩|⟨y,ω1,e2,e3⟩
  ·cases e3;exact⟨ok,ρ,ω,.ex c,ω',P,e2,q⟩
  ·refine⟨ok,ρ,ω,.ok y,ω1,P,e2,fun v ok1 H1 n1 r1=> ?_⟩;rcases kO e3 with⟨c',e4,e6⟩|⟨z,ω2,e4,e6⟩
   ·cases e6;exact⟨ok1,ρ,ω1,.ex c,ω',P.nw n1,e4,exR.nw q n1⟩
   ·obtain⟨_,_,w⟩:=cJ e6;cases w
 ·rcases kO e0 with⟨c',e2,e3⟩|⟨y,ω1,e2,e3⟩
  ·cases e3
  ·refine⟨ok,ρ,ω,.ok y,ω1,P,e2,fun v ok1 H1 n1 r1=> ?_⟩;rcases kO e3 with⟨c',e4,e6⟩|⟨z,ω2,e4,e6⟩
   ·cases e6
   ·refine⟨ok1,ρ,ω1,.ok z,ω2,P.nw n1,e4,fun u ok2 H2 n2 r2=> ?_⟩;obtain⟨w,e7,w'⟩:=cJ e6;cases w';obtain⟨ue7,rfl⟩:=cK e7;obtain⟨ro,e8,rfl⟩:=aG ue7;obtain⟨k,e9,rfl⟩:=cJ e5;obtain⟨ue9,rfl⟩:=cK e9;cases ue9;obtain⟨a,w,rfl,g,w2⟩:=DGet.of n2.st r2 (r1.ex n2.ex) e8;exact⟨a,w,rfl,g,ro.isSome,by rw[w2.isSome],q ok2 H2 (n1.trans n2)⟩
noncomputable def vD:OG D:=fun _ ω=>xw (.ok (.obj ω.length),ω++[.dt []])
theorem Ly:OE X cls E (.Dict [] [] pos) vD:=(PE.imp HH) fun σ H Q ⟨ok,ρ,ω,r,ω',P,e,q⟩=>by
 cases e;exact fun p n=>q _ _ _ (Nw.make (o:=.dT []) P.okh P.st n ⟨[],aP,.nil⟩) .new_obj
end
end L2.MB
end
section
namespace L2.MB
inductive OOut where
 |nx (ρ:Rho)|rt (d:D)|bk (ρ:Rho)|ct (ρ:Rho)|ex (c:Nat)
abbrev OS:=Rho->Om->Option (OOut×Om)
def nxR (cls:Nat->af) (K:aa) (ok:Okk) (H:Hp) (ω':Om) (ρ:Rho) (N:St->Hp->Prop):Prop:=∀ ok' H' σ',Nw cls K ok H ok' H' ω'->EnvR K ok' H' σ' ρ->σ'.length=ρ.length->N σ' H'
def outO (cls:Nat->af) (K:aa) (ok:Okk) (H:Hp) (ω':Om) (E:XE) (D:CM):OOut->Prop
 |.nx ρ=>nxR cls K ok H ω' ρ D.nx
 |.bk ρ=>nxR cls K ok H ω' ρ D.bk
 |.ct ρ=>nxR cls K ok H ω' ρ D.ct
 |.rt d=>∀ v ok' H',Nw cls K ok H ok' H' ω'->Rep K ok' H' v d->D.rt v H'
 |.ex c=>exR cls K ok H ω' E c
def tOS (cls:Nat->af) (K:aa) (F:OS) (E:XE):TS:=fun D σ H=>∃(ok:Okk) (ρ:Rho) (ω:Om) (o:OOut) (ω':Om),Pre cls K ok H ω σ ρ/\F ρ ω=xw (o,ω')/\outO cls K ok H ω' E D o
abbrev OSt (X:Cx) (cls:Nat->af) (E:XE) (st:cz) (F:OS):Prop:=PS X st (tOS cls X.K F E)
abbrev OSs (X:Cx) (cls:Nat->af) (E:XE) (st:List cz) (F:OS):Prop:=PSs X st (tOS cls X.K F E)
theorem nxR.nw {K:aa} (h:nxR cls K ok H ω' ρ N) (n:Nw cls K ok H ok' H' ω1):nxR cls K ok' H' ω' ρ N:=fun ok2 H2 σ2 m e l=>h ok2 H2 σ2 (n.trans m) e l
theorem outO.nw {K:aa}{D:CM} (h:outO cls K ok H ω' E D o) (n:Nw cls K ok H ok' H' ω1):outO cls K ok' H' ω' E D o:=by
 cases o with
 |nx ρ=>exact nxR.nw h n
 |bk ρ=>exact nxR.nw h n
 |ct ρ=>exact nxR.nw h n
 |rt d=>exact fun v ok2 H2 m r=>h v ok2 H2 (n.trans m) r
 |ex c=>exact exR.nw h n
noncomputable def oX {α:Type} (f:OG α) (g:α->Rho->Om->Option (OOut×Om)):OS:=fun ρ ω=>match f ρ ω with
 |none=>xx
 |some (.ex c,ω1)=>xw (.ex c,ω1)
 |some (.ok a,ω1)=>g a ρ ω1
theorem Fb {g:α->Rho->Om->Option (OOut×Om)} (h:oX f g ρ ω=xw (o,ω')):(∃ c,f ρ ω=xw (.ex c,ω')/\o=.ex c)∨∃ a ω1,f ρ ω=xw (.ok a,ω1)/\g a ρ ω1=xw (o,ω'):=by
 unfold oX at h;split at h
 ·cases h
 ·cases h;exact .inl ⟨_,‹_›,rfl⟩
 ·exact .inr ⟨_,_,‹_›,h⟩
noncomputable def bG:OS:=fun ρ ω=>xw (.nx ρ,ω)
noncomputable def aF (F G:OS):OS:=fun ρ ω=>match F ρ ω with
 |none=>xx
 |some (.nx ρ1,ω1)=>G ρ1 ω1
 |some (o,ω1)=>xw (o,ω1)
theorem Eu (h:aF F G ρ ω=xw (o,ω')):(∃ ρ1 ω1,F ρ ω=xw (.nx ρ1,ω1)/\G ρ1 ω1=xw (o,ω'))∨(F ρ ω=xw (o,ω')/\∀ ρ1,o≠ .nx ρ1):=by
 unfold aF at h;split at h
 ·cases h
 ·exact .inl ⟨_,_,‹_›,h⟩
 ·rename_i o1 ω1 hn q
  cases h;exact .inr ⟨q,fun ρ1 z=>hn ρ1 z⟩
noncomputable def aY (i:Nat) (f:OG D):OS:=oX f fun d ρ ω=>xw (.nx (ρ.set i (xw d)),ω)
noncomputable def bT (f:OG D):OS:=oX f fun _ ρ ω=>xw (.nx ρ,ω)
noncomputable def dA (t:OG Bool) (F G:OS):OS:=oX t fun k ρ ω=>if k=true then F ρ ω else G ρ ω
noncomputable def aS (f:OG D):OS:=oX f fun d _ ω=>xw (.rt d,ω)
section
variable {X:Cx}{cls:Nat->af}{E:XE}{st:cz}{rest body els:List cz}{tg e a b c o i iter value:bv}{es:List bv}{f:DF}{fa fb fo fi fv:OG D}{fl:OG (List D)}{ft ft':OG Bool}{F G:OS}{pos p apos pos':Pos}{x m:Str}{cn:Nat}
theorem tO.thenS {K:aa}{o:OOut}{D:CM} (P:Pre cls K ok H ω σ ρ) (e:oX fa g ρ ω=xw (o,ω')) (hx:outO cls K ok H ω' E D o)
  (h:∀ d ω1 v ok1 H1,g d ρ ω1=xw (o,ω')->Nw cls K ok H ok1 H1 ω1->Pre cls K ok1 H1 ω1 σ ρ->Rep K ok1 H1 v d->outO cls K ok1 H1 ω' E D o->Q v H1):tO cls K fa E σ H Q:=by
 rcases Fb e with⟨c,e1,rfl⟩|⟨d,ω1,e1,e2⟩
 ·exact⟨ok,ρ,ω,.ex c,ω',P,e1,hx⟩
 ·exact⟨ok,ρ,ω,.ok d,ω1,P,e1,fun v ok1 H1 n r1=>h d ω1 v ok1 H1 e2 n (P.nw n) r1 (hx.nw n)⟩
theorem Os:OSs X cls E [] bG:=(PSs.imp KC) fun D σ H ⟨ok,ρ,ω,o,ω',P,e,q⟩=>by
 cases e;exact q ok H σ (.refl P.okh P.st) P.env P.len
theorem Lh (h1:OSt X cls E st F) (h2:OSs X cls E rest G):OSs X cls E (st::rest) (aF F G):=(HB h1 h2).imp fun D σ H ⟨ok,ρ,ω,o,ω',P,e,q⟩=>by
 rcases Eu e with⟨ρ1,ω1,e1,e2⟩|⟨e1,hn⟩
 ·exact⟨ok,ρ,ω,_,ω1,P,e1,fun ok1 H1 σ1 n1 r1 l1=>⟨ok1,ρ1,ω1,o,ω',⟨n1.okh,n1.st,r1,l1⟩,e2,q.nw n1⟩⟩
 ·refine⟨ok,ρ,ω,o,ω',P,e1,?_⟩;cases o with
  |nx ρ1=>exact absurd rfl (hn ρ1)
  |_=>exact q
theorem Oq (h1:OSt X cls E st F):OSs X cls E [st] F:=KB h1
theorem Ov {i:Nat} (hN:X.N.Nodup) (hi:X.N[i]?=xw x) (hx:Loc X.env.scope x) (he:OE X cls E e fa) (hs:jo e (xw (.Name x pos')) pos.line X.env=pure false:=by rfl)
  (hf:X.fn x=true∨X.env.scope.names.lookup x=xw .local:=by first|exact .inl rfl|exact .inr rfl|assumption):OSt X cls E (.Assign [.Name x pos'] e pos) (aY i fa):=
 (NK hN hi hx he hs hf).imp fun D σ H ⟨ok,ρ,ω,o,ω',P,e,q⟩=>by
  refine tO.thenS P e q fun d ω1 v ok1 H1 e1 n1 P1 r1 q1=> ?_;cases e1;exact q1 ok1 H1 _ (.refl P1.okh P1.st) (P1.env.set P1.len r1 i) (by rw[ce,ce];exact P1.len)
theorem Lf (he:OE X cls E e fa) (hs:jo e xx pos.line X.env=pure false:=by rfl):OSt X cls E (.Expr e pos) (bT fa):=
 (KE he hs).imp fun D σ H ⟨ok,ρ,ω,o,ω',P,e,q⟩=>by
  refine tO.thenS P e q fun d ω1 v ok1 H1 e1 n1 P1 r1 q1=> ?_;cases e1;exact q1 ok1 H1 σ (.refl P1.okh P1.st) P1.env P1.len
theorem QZ (hc:OT X cls E c ft) (ha:OSs X cls E body F) (hb:OSs X cls E els G):OSt X cls E (.If c body els pos) (dA ft F G):=(QN hc ha hb).imp fun D σ H ⟨ok,ρ,ω,o,ω',P,e,q⟩=>by
 rcases Fb e with⟨c,e1,rfl⟩|⟨k,ω1,e1,e2⟩
 ·exact⟨ok,ρ,ω,.ex c,ω',P,e1,q⟩
 ·refine⟨ok,ρ,ω,.ok k,ω1,P,e1,fun ok1 H1 n1=> ?_⟩;cases k with
  |true=>exact Nb ⟨ok1,ρ,ω1,o,ω',P.nw n1,e2,q.nw n1⟩
  |false=>exact Nc ⟨ok1,ρ,ω1,o,ω',P.nw n1,e2,q.nw n1⟩
theorem Op (he:OE X cls E e fa):OSt X cls E (.Return (xw e) pos) (aS fa):=(NL he).imp fun D σ H ⟨ok,ρ,ω,o,ω',P,e,q⟩=>by
 refine tO.thenS P e q fun d ω1 v ok1 H1 e1 n1 P1 r1 q1=> ?_;cases e1;exact q1 v ok1 H1 (.refl P1.okh P1.st) r1
noncomputable def lP (f:Str) (v:D):List (Str×D)->List (Str×D)
 |[]=>[(f,v)]
 |(g,x)::r=>if g=f then(g,v)::r else(g,x)::lP f v r
theorem KvR.putF {K:aa} (q:Rep K ok H v d):∀ {vs:List (Str×V)}{ds:List (Str×D)},KvR K ok H vs ds->KvR K ok H (L2.putF x v vs) (lP x d ds)
 |_,_,.nil=>.cons q .nil
 |_,_,@KvR.cons _ _ _ _ k v' d' vs ds r rs=>by
  show KvR K ok H (if k=x then(k,v)::vs else(k,v')::L2.putF x v vs) (if k=x then(k,d)::ds else(k,d')::lP x d ds)
  by_cases z:k=x
  ·rw[if_pos z,if_pos z];exact .cons q rs
  ·rw[if_neg z,if_neg z];exact .cons r (KvR.putF q rs)
noncomputable def vQ (c:Nat) (x:Str) (ω:Om) (o v:D):Option Om:=match o with
 |.obj n=>match ω[n]? with
  |some (.ins c' fs)=>if c'=c/\fs.length<1000 then xw (ω.set n (.ins c (lP x v fs))) else xx
  |_=>xx
 |_=>xx
theorem FZ {c:Nat}{o v:D} (h:vQ c x ω o v=xw ω'):∃ n fs,o=.obj n/\ω[n]?=xw (.ins c fs)/\fs.length<1000/\ω'=ω.set n (.ins c (lP x v fs)):=by
 unfold vQ at h;split at h
 ·split at h
  ·obtain⟨⟨rfl,hl⟩,rfl⟩:=bK h;exact⟨_,_,rfl,‹_›,hl,rfl⟩
  ·cases h
 ·cases h
noncomputable def nO (c:Nat) (x:Str) (fo fv:OG D):OS:=oX fv fun v=>oX fo fun o ρ ω=>(vQ c x ω o v).map fun ω'=>(.nx ρ,ω')
theorem Ou (hc:Cls X.K (cls cn)) (hn:NoAttr X.K (cls cn) x) (ho:OE X cls E o fo) (hv:OE X cls E value fv) (hs:jo value (xw (.Attribute o x pos')) pos.line X.env=pure false:=by rfl):OSt X cls E (.Assign [.Attribute o x pos'] value pos) (nO cn x fo fv):=
 (NM ho hv hs).imp fun D σ H ⟨ok,ρ,ω,oo,ω',P,e,q⟩=>by
  refine tO.thenS P e q fun dv ω1 v ok1 H1 e1 n1 P1 r1 q1=> ?_;refine tO.thenS P1 e1 q1 fun d ω2 u ok2 H2 e2 n2 P2 r2 q2=> ?_;obtain⟨ω3,e3,e4⟩:=aG e2;cases e4;obtain⟨n,fs,rfl,e5,hl,rfl⟩:=FZ e3;obtain⟨a,rfl,e6,dx,vs,e7,kv⟩:=P2.st.ref r2 e5;refine⟨a,_,dx,vs,rfl,e7,hc,hn,by rw[kv.length];exact hl,?_⟩;have nw:=Nw.write (o:=.ins (cls cn) dx (L2.putF x v vs)) (ob:=.ins cn (lP x dv fs)) P2.okh P2.st e6 e7 fun dat=>⟨dx,_,aP,((kv.mono dat fun _ _ z=>z).putF ((r1.ex n2.ex).mono dat))⟩;exact q2 ok2 _ σ nw (P2.env.ex nw.ex) P2.len
noncomputable def nQ (ω:Om) (o i v:D):Option Om:=match o,i with
 |.obj n,.int k=>match ω[n]? with
  |some (.ml ds)=>(ixN ds.length k).map fun j=>ω.set n (.ml (ds.set j v))
  |_=>xx
 |_,_=>xx
theorem FY {o i v:D} (h:nQ ω o i v=xw ω'):∃ n k ds j,o=.obj n/\i=.int k/\ω[n]?=xw (.ml ds)/\ixN ds.length k=xw j/\ω'=ω.set n (.ml (ds.set j v)):=by
 unfold nQ at h;split at h
 ·split at h
  ·obtain⟨j,e1,rfl⟩:=aG h;exact⟨_,_,_,j,rfl,rfl,‹_›,e1,rfl⟩
  ·cases h
 ·cases h
noncomputable def iY (g:Om->D->D->D->Option Om) (fo fi fv:OG D):OS:=oX fv fun v=>oX fo fun o=>oX fi fun i ρ ω=>(g ω o i v).map fun ω'=>(.nx ρ,ω')
theorem Lc (ho:OE X cls E o fo) (hi:OE X cls E i fi) (hv:OE X cls E value fv) (hs:uu [.Subscript o i pos'] value pos.line X.env=pure false:=by rfl) (hw:uv [.Subscript o i pos'] value X.env=pure xx:=by rfl)
  (h1:(l8 [.Subscript o i pos'] X.env).map (·.2)=[assign (.Subscript o i pos') X.env]:=by rfl)
  (ha:∀ v,assign (.Subscript o i pos') X.env v=(do
   let ov <- holding [v] (eval o X.env)
   let iv <- holding [v,ov] (eval i X.env)
   n9 pos'
   holding [v,ov,iv] (setItem ov iv v)
   release [v,ov,iv] []):=by intro _;rfl):OSt X cls E (.Assign [.Subscript o i pos'] value pos) (iY nQ fo fi fv):=
 (JI hv (NP ho hi Hg ha) hs hw h1).imp fun D σ H ⟨ok,ρ,ω,oo,ω',P,e,q⟩=>by
  refine tO.thenS P e q fun dv ω1 v ok1 H1 e1 n1 P1 r1 q1=> ?_;refine tO.thenS P1 e1 q1 fun d ω2 u ok2 H2 e2 n2 P2 r2 q2=> ?_;refine tO.thenS P2 e2 q2 fun y ω3 w ok3 H3 e3 n3 P3 r3 q3=> ?_;obtain⟨ω4,e4,e5⟩:=aG e3;cases e5;obtain⟨n,k,ds,j,rfl,rfl,e5,hj,rfl⟩:=FY e4;obtain⟨a,rfl,e6,xs,e7,rs⟩:=P3.st.ref (r2.ex n3.ex) e5;obtain rfl:=r3.int_inv;refine⟨a,xs,k,j,rfl,rfl,e7,by rw[rs.length];exact hj,?_⟩;have nw:=Nw.write (o:=.lst (xs.set j v)) (ob:=.ml (ds.set j dv)) P3.okh P3.st e6 e7 fun dat=>⟨_,aP,(rs.mono dat).set ((r1.ex (n2.ex.trans n3.ex)).mono dat) j⟩;exact q3 ok3 _ σ nw (P3.env.ex nw.ex) P3.len
noncomputable def nR (ω:Om) (o i v:D):Option Om:=match o with
 |.obj n=>match ω[n]? with
  |some (.dt kvs)=>(Ec i).bind fun k=>if kvs.length<sizeLine then xw (ω.set n (.dt (putD kvs k v))) else xx
  |some (.dk kvs)=>(toK i).bind fun k=>if kvs.length<sizeLine then xw (ω.set n (.dk (putD kvs k v))) else xx
  |_=>xx
 |_=>xx
theorem Lg (hu:X.A.units+1<eu) (ho:OE X cls E o fo) (hi:OE X cls E i fi) (hv:OE X cls E value fv) (hs:jo value (xw (.Subscript o i pos')) pos.line X.env=pure false:=by rfl):
  OSt X cls E (.Assign [.Subscript o i pos'] value pos) (iY nR fo fi fv):=
 (KG hu ho hi hv hs).imp fun D σ H ⟨ok,ρ,ω,oo,ω',P,e,q⟩=>by
  refine tO.thenS P e q fun dv ω1 v ok1 H1 e1 n1 P1 r1 q1=> ?_;refine tO.thenS P1 e1 q1 fun d ω2 u ok2 H2 e2 n2 P2 r2 q2=> ?_;refine tO.thenS P2 e2 q2 fun y ω3 w ok3 H3 e3 n3 P3 r3 q3=> ?_;obtain⟨ω4,e4,e5⟩:=aG e3;cases e5;have rv:=r1.ex (n2.ex.trans n3.ex);unfold nR at e4;split at e4
  ·split at e4
   ·rename_i n kvs e5
    obtain⟨ks,e8,e9⟩:=bind_some e4;obtain⟨hl,rfl⟩:=bK e9;obtain⟨a,rfl,e6,vs,e7,kv⟩:=P3.st.ref (r2.ex n3.ex) e5;obtain⟨b,rfl,_,hb⟩:=toT'_rep e8 r3;refine⟨a,_,rfl,DPut.t e7 hb (by rw[kv.length];exact hl),?_⟩;have nw:=Nw.write (o:=.dT (nC vs ks v)) (ob:=.dt (putD kvs ks dv)) P3.okh P3.st e6 e7 fun dat=>⟨_,aP,(kv.mono dat fun _ _ z=>z).put (rv.mono dat)⟩;exact q3 ok3 _ σ nw (P3.env.ex nw.ex) P3.len
   ·rename_i n kvs e5
    obtain⟨ks,e8,e9⟩:=bind_some e4;obtain⟨hl,rfl⟩:=bK e9;obtain⟨a,rfl,e6,vs,e7,kv⟩:=P3.st.ref (r2.ex n3.ex) e5;obtain rfl:=Ab e8 r3;refine⟨a,_,rfl,DPut.k e7 (by rw[kv.length];exact hl),?_⟩;have nw:=Nw.write (o:=.dK (nC vs ks v)) (ob:=.dk (putD kvs ks dv)) P3.okh P3.st e6 e7 fun dat=>⟨_,aP,(kv.mono dat fun _ _ z=>z).put (rv.mono dat)⟩;exact q3 ok3 _ σ nw (P3.env.ex nw.ex) P3.len
   ·cases e4
  ·cases e4
structure ItO (cls:Nat->af) (K:aa) (ok1:Okk) (H1:Hp) (C:Om->Bool) (J:It) (ds:List D):Prop where
 go:∀ i ok H ω,Nw cls K ok1 H1 ok H ω->C ω=true->i<ds.length->J.go i H
 yld:∀ i ok H ω x H' d,Nw cls K ok1 H1 ok H ω->C ω=true->J.yld i H x H'->ds[i]?=xw d->Same H H'/\Rep K ok H' x d
 stop:∀ i ok H ω,Nw cls K ok1 H1 ok H ω->C ω=true->ds.length<=i->J.stop i H
abbrev OI':=OG (List D×(Om->Bool))
def tOI (cls:Nat->af) (K:aa) (f:OI') (E:XE):TI:=fun σ H R=>∃(ok:Okk) (ρ:Rho) (ω:Om) (r:Rz (List D×(Om->Bool))) (ω':Om),Pre cls K ok H ω σ ρ/\f ρ ω=xw (r,ω')/\match r with
 |.ok p=>∀ J ok' H',Nw cls K ok H ok' H' ω'->ItO cls K ok' H' p.2 J p.1->R J H'
 |.ex c=>exR cls K ok H ω' E c
abbrev OI (X:Cx) (cls:Nat->af) (E:XE) (tg e:bv) (f:OI'):Prop:=PI X tg e (tOI cls X.K f E)
noncomputable def bO:Om->Bool:=fun _=>true
theorem ItD.toO {K:aa} (h:ItD K ok1.al (Ho ok1 H1) J ds):ItO cls K ok1 H1 bO J ds:=by
 have sm:∀ {ok:Okk}{H:Hp}{ω:Om},Nw cls K ok1 H1 ok H ω->Same (Ho ok1 H1) H:=fun n b u z=>(n.ex.dat b u (lO z).1 (lO z).2).2;refine⟨fun i ok H ω n _ hi=>h.go i H (sm n) hi,fun i ok H ω x H' d n _ y hd=> ?_,fun i ok H ω n _ hi=>h.stop i H (sm n) hi⟩;obtain⟨s,r⟩:=h.yld i H x H' d (sm n) y hd;refine⟨s,Rep.mono (ok:=⟨fun b=>Ho ok1 H1 b≠xx∨H b=xx,ok1.al⟩) (fun b u z w=>⟨?_,w⟩) (fun m a z=>n.ex.ids m a z) r⟩;rcases z with z|z
 ·cases q:Ho ok1 H1 b with
  |none=>exact absurd q z
  |some u'=>exact(n.ex.dat b u' (lO q).1 (lO q).2).1
 ·exact n.okh b z
noncomputable def iZ (n:Nat) (ds:List D) (ω:Om):Bool:=match ω[n]? with
 |some (.ml ds')=>sameDs ds' ds
 |_=>false
theorem Iu (h:iZ n ds ω=true):ω[n]?=xw (.ml ds):=by
 unfold iZ at h;split at h
 ·rename_i ds' e
  rw[sameDs_eq ds' ds h] at e;exact e
 ·cases h
noncomputable def mG (ω:Om) (d:D):Option (List D×(Om->Bool)):=match d with
 |.lst ds=>xw (ds,bO)
 |.obj n=>match ω[n]? with
  |some (.ml ds)=>xw (ds,iZ n ds)
  |_=>xx
 |_=>xx
theorem IK (h:mG ω d=xw (ds,chk)):(d=.lst ds/\chk=bO)∨∃ n,d=.obj n/\ω[n]?=xw (.ml ds)/\chk=iZ n ds:=by
 cases d with
 |lst xs=>cases h;exact .inl ⟨rfl,rfl⟩
 |obj n=>
  have h':(match ω[n]? with
   |some (.ml ds)=>xw (ds,iZ n ds)
   |_=>xx)=xw (ds,chk):=h
  split at h'
  ·rename_i xs e
   cases h';exact .inr ⟨n,rfl,e,rfl⟩
  ·cases h'
 |_=>cases h
theorem AD {K:aa} (e:mG ω1 d=xw (ds,chk)) (st:Stt cls K ok1 H1 ω1) (r:Rep K ok1 H1 v d):
  ∃ a,v=.ref a/\(∃ xs,SqL K H1 a xs)/\∀ ok H ω,Nw cls K ok1 H1 ok H ω->chk ω=true->∃ xs,SqL K H a xs/\Reps K ok H xs ds:=by
 rcases IK e with⟨rfl,rfl⟩|⟨n,rfl,e1,rfl⟩
 ·obtain⟨a,xs,rfl,g,rs⟩:=r.lst_inv;refine⟨a,rfl,⟨xs,g.sq⟩,fun ok H ω n _=>⟨xs,(g.mono n.ex.dat).sq,rs.ex n.ex⟩⟩
 ·obtain⟨a,rfl,e2,xs,e3,rs⟩:=st.ref r e1;refine⟨a,rfl,⟨xs,SqL.of e3⟩,fun ok H ω nw hc=> ?_⟩;obtain⟨b,e4,xs',e5,rs'⟩:=nw.st.cell n _ (Iu hc)
  have:=nw.ex.ids n a e2
  rw[e4] at this;cases this;exact⟨xs',SqL.of e5,rs'⟩
noncomputable def oIL (f:OG D):OI':=oB f fun d _ ω=>oR (pu (mG ω d) ω)
theorem Lp (h:OE X cls E e fa):OI X cls E tg e (oIL fa):=PI.imp (KM h) fun σ H R ⟨ok,ρ,ω,r,ω',P,e,q⟩=>by
 refine tO.then_ P e (fun c z=>by subst z;exact q) fun d ω1 v ok1 H1 e1 n1 P1 r1=> ?_;obtain⟨⟨ds,chk⟩,e3,rfl⟩:=cJ e1;obtain⟨ue3,rfl⟩:=cK e3;obtain⟨a,rfl,hx,at_⟩:=AD ue3 P1.st r1;refine⟨a,rfl,hx,q _ ok1 H1 n1 ⟨fun i ok H ω n c hi=> ?_,fun i ok H ω x H' d n c y hd=> ?_,fun i ok H ω n c hi=> ?_⟩⟩
 ·obtain⟨xs,s1,rs⟩:=at_ ok H ω n c;have hi':i<xs.length:=by rw[rs.length];exact hi
  exact⟨xs,xs[i],s1,by simp[hi']⟩
 ·obtain⟨xs,s1,rs⟩:=at_ ok H ω n c;obtain⟨rfl,y⟩:=y;obtain⟨w,z1,z2⟩:=rs.get hd;rw[y xs s1] at z1;cases z1;exact⟨Same.refl _,z2⟩
 ·obtain⟨xs,s1,rs⟩:=at_ ok H ω n c;exact⟨xs,s1,by rw[rs.length];exact hi⟩
noncomputable def Ql (ω:Om) (ds:List D):Option (List D×(Om->Bool)):=match ds with
 |[a,b]=>(mG ω a).bind fun p=>(mG ω b).map fun q=>(zW p.1 q.1,fun ω=>p.2 ω&&q.2 ω)
 |_=>xx
noncomputable def oIZ (f:OG (List D)):OI':=oB f fun ds _ ω=>oR (pu (Ql ω ds) ω)
theorem OH (hg:Gl X "zip") (hm:X.mg "zip"=xx) (ha:OA X cls E [a,b] fl) (hs:av [a,b] X.env=[(false,eval a X.env),(false,eval b X.env)]:=by rfl) (hs2:av [b] X.env=[(false,eval b X.env)]:=by rfl):
  OI X cls E (.Tuple ts k tp) (.Call (.Name "zip" p) [a,b] [] pos) (oIZ fl):=PI.imp (NN hg hm ha hs hs2) fun σ H R ⟨ok,ρ,ω,r,ω',P,e,q⟩=>by
 refine tOA.then_ P e (fun c z=>by subst z;exact q) fun ds ω1 vs ok1 H1 e1 n1 P1 r1=> ?_;obtain⟨⟨dz,chk⟩,e3,rfl⟩:=cJ e1;obtain⟨ue3,rfl⟩:=cK e3;unfold Ql at ue3;split at ue3
 ·obtain⟨⟨d1,c1⟩,e4,e5⟩:=bind_some ue3;obtain⟨⟨d2,c2⟩,e6,e7⟩:=aG e5;cases e7;obtain⟨v,v',rfl,ra,rb⟩:=r1.two_inv;obtain⟨a1,rfl,hx,at1⟩:=AD e4 P1.st ra;obtain⟨b1,rfl,hy,at2⟩:=AD e6 P1.st rb;have hl:(zW d1 d2).length=min d1.length d2.length:=by simp[zW]
  refine⟨a1,b1,rfl,hx,hy,q _ ok1 H1 n1 ⟨fun i ok H ω n c hi=> ?_,fun i ok H ω x H' d n c y hd=> ?_,fun i ok H ω n c hi=> ?_⟩⟩
  ·obtain⟨xs,s1,rs⟩:=at1 ok H ω n (bu _ _ ▸ c).1;obtain⟨ys,s2,rs2⟩:=at2 ok H ω n (bu _ _ ▸ c).2;rw[hl] at hi;have hi1:i<xs.length:=by rw[rs.length];omega
   have hi2:i<ys.length:=by rw[rs2.length];omega
   exact⟨xs,ys,xs[i],ys[i],s1,s2,by simp[hi1],by simp[hi2]⟩
  ·obtain⟨xs,s1,rs⟩:=at1 ok H ω n (bu _ _ ▸ c).1;obtain⟨ys,s2,rs2⟩:=at2 ok H ω n (bu _ _ ▸ c).2;obtain⟨T,x1,y1,rfl,hT,hx,hy,rfl⟩:=y;have hx':=hx xs s1;have hy':=hy ys s2;unfold zW at hd;rw[ud] at hd;cases q1:d1[i]? with
   |none=>rw[q1] at hd;cases hd
   |some u1=>
    cases q2:d2[i]? with
    |none=>rw[q1,q2] at hd;cases hd
    |some u2=>
     rw[q1,q2] at hd;cases hd;obtain⟨w1,z1,z2⟩:=rs.get q1;rw[hx'] at z1;cases z1;obtain⟨w2,z3,z4⟩:=rs2.get q2;rw[hy'] at z3;cases z3;exact⟨cF hT,.tup_new (n.okh T hT) hT (.cons z2 (.cons z4 .nil))⟩
  ·obtain⟨xs,s1,rs⟩:=at1 ok H ω n (bu _ _ ▸ c).1;obtain⟨ys,s2,rs2⟩:=at2 ok H ω n (bu _ _ ▸ c).2;rw[hl] at hi;refine⟨xs,ys,s1,s2,?_⟩;rw[rs.length,rs2.length];omega
 ·cases ue3
noncomputable abbrev EF:XE:=fun _ _=>False
noncomputable def bP (bd:BR) (chk:Om->Bool) (F:OS):List D->OS
 |[],ρ,ω=>if chk ω=true then xw (.nx ρ,ω) else xx
 |d::ds,ρ,ω=>if chk ω=true then(bd d ρ).bind fun ρ1=>match F ρ1 ω with
  |none=>xx
  |some (.nx ρ2,ω2)=>bP bd chk F ds ρ2 ω2
  |some (.ct ρ2,ω2)=>bP bd chk F ds ρ2 ω2
  |some (.bk ρ2,ω2)=>xw (.nx ρ2,ω2)
  |some (.rt d,ω2)=>xw (.rt d,ω2)
  |some (.ex _,_)=>xx else xx
noncomputable def bI (fi:OI') (bd:BR) (F:OS):OS:=oX fi fun p ρ ω=>bP bd p.2 F p.1 ρ ω
theorem cR {α:Type}{c:Prop} [Decidable c] {a:Option α}{b:α} (h:(if c then a else xx)=xw b):c/\a=xw b:=by
 by_cases hc:c
 ·rw[if_pos hc] at h;exact⟨hc,h⟩
 ·rw[if_neg hc] at h;cases h
def SL (g:TG) (tb:TS) (D:CM) (σ:St) (J:It) (H1:Hp):Prop:=∃ W:Nat->Nat->St->Hp->Prop,(∃ m,W 0 m σ H1)/\∀ i m σ H,W i m σ H->
 (J.stop i H/\D.nx σ H)∨(J.go i H/\∃ N:St->Hp->Prop,(∀ σ' H',N σ' H'->∃ m',m'<m/\W (i+1) m' σ' H')/\∀ x H',J.yld i H x H'->g x σ H' fun σ2 H2=>tb { D with nx:=N,ct:=N,bk:=D.nx } σ2 H2)
theorem Cq {K:aa}{D:CM}{o:OOut} (it:ItO cls K ok1 H1 chk J ds) (P1:Pre cls K ok1 H1 ω1 σ ρ) (e2':bP bd chk F ds ρ ω1=xw (o,ω')) (q1:outO cls K ok1 H1 ω' EF D o):
  SL (gR K bd) (tOS cls K F EF) D σ J H1:=by
 refine⟨fun i m σ' H'=>∃ ok' ωc ρ',m=ds.length-i/\i<=ds.length/\Nw cls K ok1 H1 ok' H' ωc/\EnvR K ok' H' σ' ρ'/\σ'.length=ρ'.length/\bP bd chk F (ds.drop i) ρ' ωc=xw (o,ω'),
  ⟨ds.length,ok1,ω1,ρ,by simp,iz _,.refl P1.okh P1.st,P1.env,P1.len,by simpa using e2'⟩,?_⟩
 rintro i m σ' H' ⟨ok',ωc,ρ',rfl,hi,n2,env,len,ef⟩
 by_cases hlt:i<ds.length
 ·have hdrop:ds.drop i=ds[i]::ds.drop (i+1):=qq hlt;rw[hdrop] at ef;have ef':(if chk ωc=true then(bd ds[i] ρ').bind fun ρ1=>(match F ρ1 ωc with
   |none=>xx
   |some (.nx ρ2,ω2)=>bP bd chk F (ds.drop (i+1)) ρ2 ω2
   |some (.ct ρ2,ω2)=>bP bd chk F (ds.drop (i+1)) ρ2 ω2
   |some (.bk ρ2,ω2)=>xw (.nx ρ2,ω2)
   |some (.rt d,ω2)=>xw (.rt d,ω2)
   |some (.ex _,_)=>xx) else xx)=xw (o,ω'):=ef
  obtain⟨hc,ef'⟩:=cR ef';obtain⟨ρ1,e3,e4⟩:=bind_some ef';refine .inr ⟨it.go i ok' H' ωc n2 hc hlt,fun σ2 H2=>∃ ok2 ω2 ρ2,Nw cls K ok1 H1 ok2 H2 ω2/\EnvR K ok2 H2 σ2 ρ2/\σ2.length=ρ2.length/\bP bd chk F (ds.drop (i+1)) ρ2 ω2=xw (o,ω'),
   fun σ2 H2 ⟨ok2,ω2,ρ2,z1,z2,z3,z4⟩=>⟨ds.length-(i+1),by omega,ok2,ω2,ρ2,rfl,hlt,z1,z2,z3,z4⟩,fun x H'' y=> ?_⟩
  obtain⟨s2,rx⟩:=it.yld i ok' H' ωc x H'' ds[i] n2 hc y (by simp[hlt]);have n3:Nw cls K ok1 H1 ok' H'' ωc:=n2.trans (.same n2.okh n2.st s2);refine⟨ok',ρ',ρ1,ds[i],env.same s2,len,rx,e3,fun σ2 env2 len2=> ?_⟩;cases eF:F ρ1 ωc with
  |none=>rw[eF] at e4;cases e4
  |some p=>
   obtain⟨o1,ω2⟩:=p;rw[eF] at e4;refine⟨ok',ρ1,ωc,o1,ω2,⟨n3.okh,n3.st,env2,len2⟩,eF,?_⟩;cases o1 with
   |nx ρ2=>exact fun ok3 H3 σ3 m3 r3 l3=>⟨ok3,ω2,ρ2,n3.trans m3,r3,l3,e4⟩
   |ct ρ2=>exact fun ok3 H3 σ3 m3 r3 l3=>⟨ok3,ω2,ρ2,n3.trans m3,r3,l3,e4⟩
   |bk ρ2=>
    cases e4;exact fun ok3 H3 σ3 m3 r3 l3=>q1 ok3 H3 σ3 (n3.trans m3) r3 l3
   |rt d=>
    cases e4;exact fun v ok3 H3 m3 r3=>q1 v ok3 H3 (n3.trans m3) r3
   |ex c=>cases e4
 ·have ei:i=ds.length:=by omega
  subst ei;rw[wn] at ef;have ef':(if chk ωc=true then xw (OOut.nx ρ',ωc) else xx)=xw (o,ω'):=ef;obtain⟨hc,ef'⟩:=bK ef';cases ef';exact .inl ⟨it.stop _ ok' H' _ n2 hc (bf _),q1 ok' H' σ' n2 env len⟩
theorem tOS.for_ {K:aa}{fi:OI'}{D:CM} (h:tOS cls K (bI fi bd F) EF D σ H):Qy (tOI cls K fi EF) (gR K bd) (tOS cls K F EF) D σ H:=by
 obtain⟨ok,ρ,ω,o,ω',P,e,q⟩:=h;rcases Fb e with⟨c,e1,rfl⟩|⟨⟨ds,chk⟩,ω1,e1,e2⟩
 ·exact⟨ok,ρ,ω,.ex c,ω',P,e1,q⟩
 ·exact⟨ok,ρ,ω,.ok (ds,chk),ω1,P,e1,fun J ok1 H1 n1 it=>Cq it (P.nw n1) e2 (q.nw n1)⟩
noncomputable def sNx (F:OS):OS:=fun ρ ω=>match F ρ ω with
 |some (.ex _,_)=>xx
 |r=>r
theorem Ev {o:OOut} (h:sNx F ρ ω=xw (o,ω')):F ρ ω=xw (o,ω')/\∀ c,o≠ .ex c:=by
 unfold sNx at h;split at h
 ·cases h
 ·rename_i hn
  exact⟨h,fun c z=>by subst z;exact hn c ω' h⟩
theorem _root_.L2.PS.nox (h:PS X.nox st t):PS X st t:=fun pins s σ H D I hw=>
 hZ (h pins s σ H D (I.wish _) hw) (fun _ _ q=>q.unwish) fun _ _ z=>i9 z
theorem JQ (h:OSt X.nox cls EF st F):OSt X cls E st (sNx F):=(PS.nox h).imp fun D σ H ⟨ok,ρ,ω,o,ω',P,e,q⟩=>by
 obtain⟨e,hn⟩:=Ev e;refine⟨ok,ρ,ω,o,ω',P,e,?_⟩;cases o with
 |ex c=>exact absurd rfl (hn c)
 |_=>exact q
theorem Ot {fi:OI'} (hc:X.calm=true) (hi:OI X.nox cls EF tg iter fi) (hg:PG X.nox tg (gR X.K bd)) (hb:OSs X.nox cls EF body F) (hs:∀ x,gs iter X.env x=pure x:=by intro _;rfl):
  OSt X cls E (.For tg iter body [] pos) (sNx (bI fi bd F)):=JQ ((JH (X:=X.nox) xb hc hi hg hb hs).imp fun D σ H h=>tOS.for_ h)
end
noncomputable def compLO (bd:BR) (chk:Om->Bool) (t:OG Bool) (f:OG D):List D->Rho->Om->Option (List D×Om)
 |[],_,ω=>if chk ω=true then xw ([],ω) else xx
 |d::ds,ρ,ω=>if chk ω=true then(bd d ρ).bind fun ρ1=>match t ρ1 ω with
  |some (.ok k,ω1)=>if k=true then(match f ρ1 ω1 with
   |some (.ok y,ω2)=>(compLO bd chk t f ds ρ1 ω2).map fun r=>(y::r.1,r.2)
   |_=>xx) else compLO bd chk t f ds ρ1 ω1
  |_=>xx else xx
noncomputable def cP (fin:Om->List D->Option (D×Om)) (fi:OI') (caps:List (Option Nat)) (bd:BR) (t:OG Bool) (f:OG D):OG D:=oB fi fun p ρ ω=>if p.1.length<=sizeLine then(compLO bd p.2 t f p.1 (GZ caps ρ) ω).bind fun r=>oR (fin r.2 r.1) else xx
noncomputable def rS (ω:Om) (ds:List D):Option (D×Om):=xw (.lst ds,ω)
noncomputable def IX (ω:Om) (ds:List D):Option (D×Om):=xw (.obj ω.length,ω++[.ml ds])
def Fin (fin:Om->List D->Option (D×Om)):Prop:=∀(cls:Nat->af) (K:aa) (ok1 ok:Okk) (H1 H:Hp) (ω ω':Om) (P:af) (vs:List V) (ds:List D) (d:D),Nw cls K ok1 H1 ok H ω->H1 P=xx->H P=xw (.lst vs)->¬ ok.p P->(∀ n,ok.al n≠xw P)->Reps K ok H vs ds->fin ω ds=xw (d,ω')->
 ∃ ok',Nw cls K ok1 H1 ok' H ω'/\Rep K ok' H (.ref P) d
theorem Rv:Fin rS:=fun cls K ok1 ok H1 H ω ω' P vs ds d nw h1 hP np na rs e=>by
 cases e;have dat:∀ b o,ok.p b->H b=xw o->(ok.p b∨b=P)/\H b=xw o:=fun b o k e=>⟨.inl k,e⟩;refine⟨⟨fun b=>ok.p b∨b=P,ok.al⟩,⟨⟨fun b o k e=>⟨.inl (nw.ex.dat b o k e).1,(nw.ex.dat b o k e).2⟩,nw.ex.ids,nw.ex.frm,nw.ex.new,nw.ex.keep,fun b k=> ?_,nw.ex.frz⟩,⟨fun b e=>.inl (nw.okh b e),fun b xs e=>.inl (nw.okh.tp b xs e)⟩,fun n ob e=> ?_,nw.st.dom,nw.st.inj,fun n a e k=> ?_⟩,.lst ⟨.inr rfl,hP⟩ (rs.mono dat)⟩
 ·rcases k with k|rfl
  ·exact nw.ex.sub b k
  ·exact .inr h1
 ·obtain⟨a,e1,c⟩:=nw.st.cell n ob e;exact⟨a,e1,c.mono dat (fun _ _ z=>z) fun _ z=>z⟩
 ·rcases k with k|rfl
  ·exact nw.st.nok n a e k
  ·exact na n e
theorem Ru:Fin IX:=fun cls K ok1 ok H1 H ω ω' P vs ds d nw h1 hP np na rs e=>by
 cases e;have al:∀ m b,(if m=ω.length then xw P else ok.al m)=xw b->(m=ω.length/\b=P)∨(m≠ω.length/\ok.al m=xw b):=fun m b q=>by
  by_cases hm:m=ω.length
  ·rw[if_pos hm] at q;exact .inl ⟨hm,(ca q).symm⟩
  ·rw[if_neg hm] at q;exact .inr ⟨hm,q⟩
 have ids:∀ m b,ok.al m=xw b->(if m=ω.length then xw P else ok.al m)=xw b:=fun m b q=>by
  rw[if_neg (ck (nw.st.dom m b q))];exact q
 have dat:∀ b o,ok.p b->H b=xw o->ok.p b/\H b=xw o:=fun b o k e=>⟨k,e⟩;refine⟨⟨ok.p,fun m=>if m=ω.length then xw P else ok.al m⟩,⟨⟨nw.ex.dat,fun m b q=>ids m b (nw.ex.ids m b q),nw.ex.frm,fun m b q=> ?_,nw.ex.keep,nw.ex.sub,nw.ex.frz⟩,⟨nw.okh.fn,nw.okh.tp⟩,fun m ob q=> ?_,fun m b q=> ?_,fun m m' b q q'=> ?_,fun m b q k=> ?_⟩,.obj (by show(if ω.length=ω.length then xw P else _)=_;rw[if_pos rfl])⟩
 ·rcases al m b q with⟨_,rfl⟩|⟨_,q⟩
  ·exact .inr h1
  ·exact nw.ex.new m b q
 ·by_cases hm:m<ω.length
  ·rw[am hm] at q;obtain⟨b,e1,c⟩:=nw.st.cell m ob q;exact⟨b,ids m b e1,c.mono dat ids fun _ z=>z⟩
  ·have hm':m=ω.length:=by
    have:=(br.mp q).1
    simp at this;omega
   subst hm';rw[dr (bf _)] at q;simp at q;subst q;exact⟨P,by show(if ω.length=ω.length then xw P else _)=_;rw[if_pos rfl],vs,hP,Reps.mono (ok':=⟨ok.p,fun m=>if m=ω.length then xw P else ok.al m⟩) dat ids rs⟩
 ·rw[bw,lw];rcases al m b q with⟨rfl,_⟩|⟨_,q⟩
  ·omega
  ·have:=nw.st.dom m b q
   omega
 ·rcases al m b q with⟨rfl,rfl⟩|⟨_,qa⟩ <;> rcases al m' b q' with⟨rfl,w⟩|⟨_,qb⟩
  ·rfl
  ·exact absurd qb (na m')
  ·rw[w] at qa;exact absurd qa (na m)
  ·exact nw.st.inj m m' b qa qb
 ·rcases al m b q with⟨_,rfl⟩|⟨_,q⟩
  ·exact np k
  ·exact nw.st.nok m b q k
theorem AU (h:compLO bd chk t f (d::ds) ρ ω=xw (ys,ω')):
  chk ω=true/\∃ ρ1 k ω1,bd d ρ=xw ρ1/\t ρ1 ω=xw (.ok k,ω1)/\((k=true/\∃ y zs ω2,f ρ1 ω1=xw (.ok y,ω2)/\compLO bd chk t f ds ρ1 ω2=xw (zs,ω')/\ys=y::zs)∨(k=false/\compLO bd chk t f ds ρ1 ω1=xw (ys,ω'))):=by
 obtain⟨hc,h⟩:=cR (show(if chk ω=true then _ else xx)=_ from h);obtain⟨ρ1,e1,h⟩:=bind_some h;refine⟨hc,ρ1,?_⟩;split at h
 ·rename_i k ω1 e2
  refine⟨k,ω1,e1,e2,?_⟩;cases k with
  |true=>
   rw[if_pos rfl] at h;split at h
   ·rename_i y ω2 e3
    obtain⟨⟨zs,ω3⟩,e4,e5⟩:=aG h;cases e5;exact .inl ⟨rfl,y,zs,ω2,e3,e4,rfl⟩
   ·cases h
  |false=>
   rw[if_neg cj] at h;exact .inr ⟨rfl,h⟩
 ·cases h
section
variable {X:Cx}{cls:Nat->af}{E:XE}{tg iter elt:bv}{ifs:List bv}{scope:kt}{N':List Str}{caps:List (Option Nat)}{fi:OI'}{bd:BR}{t:OG Bool}{f:OG D}{pos:Pos}{fin:Om->List D->Option (D×Om)}
theorem tO.comp {K:aa} (Fn:Fin fin) (h:tO cls K (cP fin fi caps bd t f) E σ H Q):Kp (tOI cls K fi E) caps (gR K bd) (tOT cls K t EF) (tO cls K f EF) σ H Q:=by
 obtain⟨ok,ρ,ω,r,ω',P,e,q⟩:=h;rcases kO e with⟨c,e1,rfl⟩|⟨⟨ds,chk⟩,ω1,e1,e2⟩
 ·exact⟨ok,ρ,ω,.ex c,ω',P,e1,q⟩
 ·refine⟨ok,ρ,ω,.ok (ds,chk),ω1,P,e1,fun J ok1 H1 n1 it A hA=> ?_⟩;have P1:=P.nw n1;obtain⟨hz,e2⟩:=cR (show(if ds.length<=sizeLine then _ else xx)=_ from e2);obtain⟨⟨out,ωf⟩,e3,e4⟩:=bind_some e2;obtain⟨d,e5,rfl⟩:=cJ e4
  -- ahead of the first turn:the list that is filled stands apart
  have start:Nw cls K ok1 H1 ⟨fun b=>ok1 b/\b≠A,ok1.al⟩ (upd H1 A (.lst [])) ω1:=by
   have dat:∀ b o,ok1.p b->H1 b=xw o->(ok1.p b/\b≠A)/\upd H1 A (.lst []) b=xw o:=fun b o k e=>⟨⟨k,aN e hA⟩,by rw[aH (aN e hA)];exact e⟩;refine⟨⟨dat,fun _ _ z=>z,fun b o z _=>by rw[aH (aN z hA)];exact z,fun _ _ z=>.inl z,fun b z=> ?_,fun b k=>.inl k.1,fun b x u z=>by rw[aH (aN z hA)];exact z⟩,⟨fun b z=> ?_,fun b xs z=> ?_⟩,fun n ob z=> ?_,P1.st.dom,P1.st.inj,fun n a z k=>P1.st.nok n a z k.1⟩
   ·by_cases hb:b=A
    ·rw[hb];exact hA
    ·rw[aH hb] at z;exact z
   ·have hb:b≠A:=fun w=>by rw[w,aP] at z;cases z
    rw[aH hb] at z;exact⟨P1.okh b z,hb⟩
   ·have hb:b≠A:=fun w=>by rw[w,aP] at z;cases z
    rw[aH hb] at z;exact⟨P1.okh.tp b xs z,hb⟩
   ·obtain⟨a,z1,c⟩:=P1.st.cell n ob z;exact⟨a,z1,c.mono dat (fun _ _ z=>z) fun o w=>by rw[aH (aN w hA)];exact w⟩
  refine⟨fun i m σ' H'=>∃ ok' ωc ρ' vs acc rest,m=ds.length-i/\i<=ds.length/\Nw cls K ok1 H1 ok' H' ωc/\¬ ok'.p A/\(∀ n,ok'.al n≠xw A)/\H' A=xw (.lst vs)/\Reps K ok' H' vs acc/\EnvR K ok' H' σ' ρ'/\σ'.length=ρ'.length/\
   compLO bd chk t f (ds.drop i) ρ' ωc=xw (rest,ωf)/\acc++rest=out/\acc.length<=i,
   ⟨ds.length,_,ω1,GZ caps ρ,[],[],out,by simp,iz _,start,fun k=>k.2 rfl,fun n z=> ?_,aP,.nil,(P1.env.ex start.ex).cap caps,MT _ _ _,by simpa using e3,by simp,iz _⟩,?_⟩
  ·obtain⟨_,_,c⟩:=P1.st.at_ (show ok1.al n=xw A from z);obtain⟨_,w,_⟩:=c.there;rw[hA] at w;cases w
  ·rintro i m σ' H' ⟨ok',ωc,ρ',vs,acc,rest,rfl,hi,nw,np,na,hv,ra,re,rl,ec,ea,hal⟩
   by_cases hlt:i<ds.length
   ·have hdrop:ds.drop i=ds[i]::ds.drop (i+1):=qq hlt;rw[hdrop] at ec;obtain⟨hc,ρ1,k,ω2,b1,b2,hk⟩:=AU ec;refine .inr ⟨it.go i ok' H' ωc nw hc hlt,fun x H'' y=> ?_⟩;obtain⟨s2,rx⟩:=it.yld i ok' H' ωc x H'' ds[i] nw hc y (by simp[hlt]);have nw2:Nw cls K ok' H' ok' H'' ωc:=.same nw.okh nw.st s2;refine⟨ok',ρ',ρ1,ds[i],re.same s2,rl,rx,b1,fun σ2 re2 rl2=> ?_⟩;refine⟨ok',ρ1,ωc,.ok k,ω2,⟨nw2.okh,nw2.st,re2,rl2⟩,b2,fun ok3 H3 nw3=> ?_⟩
    -- the list that is filled stays apart
    have apart:∀ {okx:Okk}{Hx:Hp}{ωx:Om},Nw cls K ok' H' okx Hx ωx->¬ okx.p A/\(∀ n,okx.al n≠xw A)/\Hx A=xw (.lst vs):=by
     intro okx Hx ωx nx;refine⟨fun z=> ?_,fun n z=> ?_,nx.ex.frm A _ hv na⟩
     ·rcases nx.ex.sub A z with z|z
      ·exact np z
      ·rw[hv] at z;cases z
     ·rcases nx.ex.new n A z with z|z
      ·exact na n z
      ·rw[hv] at z;cases z
    rcases hk with⟨rfl,yd,zs,ω4,b5,b6,rfl⟩|⟨rfl,b6⟩
    ·refine Nb ⟨ok3,ρ1,ω2,.ok yd,ω4,⟨nw3.okh,nw3.st,re2.ex nw3.ex,rl2⟩,b5,fun yv ok4 H4 nw4 ry=> ?_⟩;have nx:=nw2.trans (nw3.trans nw4);obtain⟨np4,na4,hv4⟩:=apart nx;have hvl:vs.length<sizeLine:=by
      rw[ra.length];omega
     have keep:∀ b o,ok4.p b->H4 b=xw o->ok4.p b/\upd H4 A (.lst (vs++[yv])) b=xw o:=fun b o k e=>⟨k,by rw[aH (show b≠A from fun w=>np4 (w ▸ k))];exact e⟩;have nwf:=nw.trans nx;refine⟨vs,ds.length-(i+1),hv4,hvl,by omega,ok4,ω4,ρ1,vs++[yv],acc++[yd],zs,rfl,hlt,?_,np4,na4,aP,?_,?_,rl2,b6,by simpa using ea,by simp;omega⟩
     ·have nA:∀ {b:af}{o:HO},H1 b=xw o->b≠A:=fun z=>aN z hA;refine⟨⟨fun b o k e=>⟨(nwf.ex.dat b o k e).1,by rw[aH (nA e)];exact(nwf.ex.dat b o k e).2⟩,nwf.ex.ids,fun b o e z=>by rw[aH (nA e)];exact nwf.ex.frm b o e z,nwf.ex.new,fun b e=> ?_,nwf.ex.sub,fun b x u z=>by rw[aH (nA z)];exact nwf.ex.frz b x u z⟩,⟨fun b e=> ?_,fun b xs e=> ?_⟩,fun n ob e=> ?_,nwf.st.dom,nwf.st.inj,nwf.st.nok⟩
      ·by_cases hb:b=A
       ·rw[hb];exact hA
       ·rw[aH hb] at e;exact nwf.ex.keep b e
      ·have hb:b≠A:=fun w=>by rw[w,aP] at e;cases e
       rw[aH hb] at e;exact nwf.okh b e
      ·have hb:b≠A:=fun w=>by rw[w,aP] at e;cases e
       rw[aH hb] at e;exact nwf.okh.tp b xs e
      ·obtain⟨a,z1,c⟩:=nwf.st.cell n ob e;exact⟨a,z1,c.mono keep (fun _ _ z=>z) fun o w=>by rw[aH (show a≠A from fun w'=>na4 n (w' ▸ z1))];exact w⟩
     ·exact((ra.ex nx.ex).snoc ry).mono keep
     ·intro j dj ej;obtain⟨w,a,r⟩:=(re2.ex (nw3.trans nw4).ex) j dj ej;exact⟨w,a,r.mono keep⟩
    ·have nx:=nw2.trans nw3;obtain⟨np4,na4,hv4⟩:=apart nx;exact Nc ⟨ds.length-(i+1),by omega,ok3,ω2,ρ1,vs,acc,rest,rfl,hlt,nw.trans nx,np4,na4,hv4,ra.ex nx.ex,re2.ex nw3.ex,rl2,b6,ea,by omega⟩
   ·have ei:i=ds.length:=by omega
    subst ei;rw[wn] at ec;obtain⟨hc,ec⟩:=bK (show(if chk ωc=true then xw ([],ωc) else xx)=_ from ec);cases ec;rw[c6] at ea;subst ea;refine .inl ⟨it.stop _ ok' H' _ nw hc (bf _),?_⟩;obtain⟨ok2,nw2,rr⟩:=Fn cls K ok1 ok' H1 H' _ ω' A vs acc d nw hA hv np na ra e5;exact q _ ok2 H' (n1.trans nw2) rr
def MZ (X:Cx) (cls:Nat->af) (E:XE) (ifs:List bv) (t:OG Bool):Prop:=Nh X ifs (tOT cls X.K t E)
theorem HQ:MZ X cls E [] (oPT jV):=fun pins s σ H Q I ⟨ok,ρ,ω,r,ω',P,e,q⟩=>by
 cases e;exact Ml pins s σ H Q I (q ok H (.refl P.okh P.st))
theorem HP (h:OT X cls E c t):MZ X cls E [c] t:=Mj h
theorem LJ (Fn:Fin fin) (C:GY X scope N' caps) (hi:OI X cls E tg iter fi)
  (hb:∀ cells C fp pins s₀ H₀,PG (blk X N' scope cells C fp pins s₀ H₀) tg (gR X.K bd)/\MZ (blk X N' scope cells C fp pins s₀ H₀) cls EF ifs t/\OE (blk X N' scope cells C fp pins s₀ H₀) cls EF elt f)
  (hs:∀ x,gs iter X.env x=pure x:=by intro _;rfl):OE X cls E (.ListComp elt [⟨tg,iter,ifs,0⟩] scope pos) (cP fin fi caps bd t f):=
 (KS C.calm C.kind C.names C.free C.uniq C.cap hi hb hs).imp fun _ _ _ h=>tO.comp Fn h
theorem Li (Fn:Fin fin) (hN:X.N.Nodup) (hiy:X.N[i]?=xw y) (hy:X.env.scope.names.lookup y=xw .local) (C:GY X scope N' caps) (hi:OI X cls E tg iter fi)
  (hb:∀ cells C fp pins s₀ H₀,PG (blk X N' scope cells C fp pins s₀ H₀) tg (gR X.K bd)/\MZ (blk X N' scope cells C fp pins s₀ H₀) cls EF ifs t/\OE (blk X N' scope cells C fp pins s₀ H₀) cls EF elt f)
  (hsw:jo (.ListComp elt [⟨tg,iter,ifs,0⟩] scope pos) (xw (.Name y py)) spos.line X.env=pure true:=by rfl)
  (hs:∀ x,gs iter X.env x=pure x:=by intro _;rfl):OSt X cls E (.Assign [.Name y py] (.ListComp elt [⟨tg,iter,ifs,0⟩] scope pos) spos) (aY i (cP fin fi caps bd t f)):=
 (KH hN hiy hy C.calm C.kind C.names C.free C.uniq C.cap hi hb hsw hs).imp fun D σ H ⟨ok,ρ,ω,o,ω',P,e,q⟩=>by
  refine tO.comp (fi:=fi) (caps:=caps) (bd:=bd) (t:=t) (f:=f) (E:=E) Fn ?_;refine tO.thenS P e q fun d ω1 v ok1 H1 e1 n1 P1 r1 q1=> ?_;cases e1;exact q1 ok1 H1 _ (.refl P1.okh P1.st) (P1.env.set P1.len r1 i) (by rw[ce,ce];exact P1.len)
end
structure FlyT (exC:Nat->af) (c:Nat) (ea:af) (T:af) (h0:c9) (H:Hp) (h:c9):Prop where
 tr:∃(oe oT:Obj) (vs ts:Array ag) (a0:ag),h.get? ea=xw oe/\oe.cls=.ref (exC c)/\oe.data=.fields vs/\vs[0]?=xw a0/\vs[1]?=xw (.ref T)/\T≠ea/\h.get? T=xw oT/\oT.data=.fields ts/\ts[3]?=xw .none
 h0e:h0.get? ea=xx
 h0T:h0.get? T=xx
 He:H ea=xx
 HT:H T=xx
structure Raw (exC:Nat->af) (c:Nat) (ea:af) (h0:c9) (H:Hp) (h:c9):Prop where
 at_:∃ t,h.get? ea=xw { cls:=.ref (exC c),data:=.fields #[.ref t,.none,.none,.none,.bool false,.none] }
 h0e:h0.get? ea=xx
 He:H ea=xx
noncomputable def CX1 (P:di) (w:du) (exC:Nat->af):CXT:=fun outer H s E e s'=>∃ c ea T H',e=.ref ea/\s'.os=s.os/\n8 s'.gens/\Un (frs outer) [] H H' s.heap s'.heap/\HOk P w H' s'.heap/\FlyT exC c ea T s.heap H' s'.heap/\E (.ref (exC c)) xx H'
noncomputable def exK (exC:Nat->af) (E:XE):XK:=fun cv _ H'=>∃ c,cv=.ref (exC c)/\E c H'
structure Exc (X:Cx) (exC:Nat->af) (E:XE):Prop where
 fly:∀ c ea T H' pins σ' s',Inv X pins σ' H' s'->FlyT exC c ea T X.s₀.heap H' s'.heap->(∀ p∈X.pn,p.1≠ea/\p.1≠T)->E c H'->X.xe (.ref ea) s'
 ex:X.ex=[]
structure Qq (X:Cx) (exC:Nat->af) (E:XE):Prop where
 raw:∀ c ea H' pins σ' s',Inv X pins σ' H' s'->Raw exC c ea X.s₀.heap H' s'.heap->E c H'->X.xe (.ref ea) s'
 ex:X.ex=[]
abbrev Pas (X:Cx) (exC:Nat->af) (E:XE):Prop:=rD (CX1 X.prog X.w exC) X (exK exC E)
theorem QS:Pas X exC EF:=fun _ _ _ _ _ _ _ ⟨_,_,_,_,_,_,_,_,_,_,_,_,z⟩=>z.elim
theorem _root_.L2.Inv.pers (I:Inv X pins σ H s) (hx:X.ex=[]) (e:s.heap.get? b=xx):X.s₀.heap.get? b=xx:=by
 cases q:X.s₀.heap.get? b with
 |none=>rfl
 |some o=>
  obtain⟨o',z⟩:=I.base.there b o q (by rw[hx];simp);rw[e] at z;cases z
theorem Exc.pas (h:Exc X exC E):Pas X exC E:=fun pins σ H s e s' I ⟨c,ea,T,H',e1,os,bare,un,hok,fl,c',hc,hE⟩=>by
 subst e1;have I':Inv X pins σ H' s':=I.call' (ch:=[]) os un hok bare (fun b z=>absurd z (by simp));obtain⟨oe,oT,vs,ts,a0,g1,g2,g3⟩:=fl.tr;refine h.fly c' ea T H' pins σ s' I' ⟨⟨oe,oT,vs,ts,a0,g1,by rw[g2,hc],g3⟩,I.pers h.ex fl.h0e,I.pers h.ex fl.h0T,fl.He,fl.HT⟩ (fun p hp=> ?_) hE;obtain⟨w,_⟩:=I.pin p (db _ hp);exact⟨fun z=>(by rw[z,fl.h0e] at w;cases w),fun z=>(by rw[z,fl.h0T] at w;cases w)⟩
abbrev eB:=List D->Om->Option (Rz D×Om)
noncomputable def spO (cls exC:Nat->af) (K:aa) (φ:eB):Sp:=fun vs H Q E=>∃(ok:Okk) (ω:Om) (ds:List D) (r:Rz D) (ω':Om),OkH ok H/\Stt cls K ok H ω/\Reps K ok H vs ds/\φ ds ω=xw (r,ω')/\match r with
 |.ok d=>∀ v ok' H',Nw cls K ok H ok' H' ω'->Rep K ok' H' v d->Q v H'
 |.ex c=>∀ ok' H',Nw cls K ok H ok' H' ω'->E (.ref (exC c)) xx H'
section
variable {X:Cx}{cls exC:Nat->af}{E:XE}{e a b c o i value:bv}{es:List bv}{fa fb fo fi fv:OG D}{fl:OG (List D)}{pos p apos pos':Pos}{x m:Str}{cn k:Nat}{fn C:af}{fd:jy}{ps:List Str}{φ:eB}
theorem spO.at {K:aa} (h1:OkH ok H) (st:Stt cls K ok H ω) (rs:Reps K ok H vs ds) (e:φ ds ω=xw (r,ω'))
  (hq:∀ d,r=.ok d->∀ v ok' H',Nw cls K ok H ok' H' ω'->Rep K ok' H' v d->Q v H') (hx:∀ c,r=.ex c->exR cls K ok H ω' E c):spO cls exC K φ vs H Q (exK exC E):=by
 refine⟨ok,ω,ds,r,ω',h1,st,rs,e,?_⟩;cases r with
 |ok d=>exact hq d rfl
 |ex c=>exact fun ok' H' n=>⟨c,rfl,hx c rfl ok' H' n⟩
noncomputable def bM (φ:eB) (fl:OG (List D)):OG D:=oB fl fun ds _ ω=>φ ds ω
theorem Ag {K:aa}{r:Rz D}{Q:VK} (n1:Nw cls K ok H ok1 H1 ω1) (q:match r with
  |.ok d=>∀ v ok' H',Nw cls K ok H ok' H' ω'->Rep K ok' H' v d->Q v H'
  |.ex c=>exR cls K ok H ω' E c):∀ d,r=.ok d->∀ v ok' H',Nw cls K ok1 H1 ok' H' ω'->Rep K ok' H' v d->Q v H':=fun d z v ok' H' n r=>by
 subst z;exact q v ok' H' (n1.trans n) r
theorem Ah {K:aa}{r:Rz D}{Q:VK} (n1:Nw cls K ok H ok1 H1 ω1) (q:match r with
  |.ok d=>∀ v ok' H',Nw cls K ok H ok' H' ω'->Rep K ok' H' v d->Q v H'
  |.ex c=>exR cls K ok H ω' E c):∀ c,r=.ex c->exR cls K ok1 H1 ω' E c:=fun c z=>by
 subst z;exact exR.nw q n1
theorem LL (F:sN X.prog X.w X.K X.mg X.base (CX1 X.prog X.w exC) k fn fd ps (spO cls exC X.K φ)) (hr:Room k X.A) (hg:Gl X x) (hm:X.mg x=xw (.ref fn)) (hk:gy X.K (.ref fn)=true)
  (hb:Binds X.K fd ps []) (hx:Pas X exC E) (ha:OA X cls E (e::es) fl) (hdb:(x==("__debug__":Str))=false:=by decide) (he:av (e::es) X.env=(false,eval e X.env)::av es X.env:=by rfl) (hpl:(dq pos (av es X.env)).any (·.1)=false:=by rfl):
  OE X cls E (.Call (.Name x p) (e::es) [] pos) (bM φ fl):=
 (KW F hr hg hm hk hb .nil hx ha hdb he hpl).imp fun σ H Q ⟨ok,ρ,ω,r,ω',P,e,q⟩=>by
  refine tOA.then_ P e (fun c z=>by subst z;exact q) fun ds ω1 vs ok1 H1 e1 n1 P1 r1=> ?_;rw[c6];exact spO.at P1.okh P1.st r1 e1 (Ag n1 q) (Ah (Q:=Q) n1 q)
noncomputable def Do (c:Nat) (m:Str) (ω:Om) (d:D):Bool:=match cellOf ω d with
 |some (.ins c' fs)=>c'==c&&(fs.lookup m).isNone
 |_=>false
theorem yG {c:Nat} (h:Do c m ω d=true):∃ n fs,d=.obj n/\ω[n]?=xw (.ins c fs)/\fs.lookup m=xx:=by
 unfold Do at h;split at h
 ·rename_i c' fs hc
  obtain⟨n,rfl,e⟩:=dQ hc;simp only[bu,beq_iff_eq,Option.isNone_iff_eq_none] at h;obtain⟨rfl,h⟩:=h;exact⟨n,fs,rfl,e,h⟩
 ·cases h
noncomputable def bL (c:Nat) (m:Str) (φ:eB) (fo:OG D) (fl:OG (List D)):OG D:=oB fo fun d ρ ω=>if Do c m ω d=true then oB fl (fun ds _ ω=>φ (d::ds) ω) ρ ω else xx
theorem LB (ho:OE X cls E o fo) (hc:Cls X.K (cls cn)) (hm:JD X.K (cls cn) m fn) (F:sN X.prog X.w X.K X.mg X.base (CX1 X.prog X.w exC) k fn fd ps (spO cls exC X.K φ)) (hr:Room k X.A) (hb:Binds X.K fd ps []) (hx:Pas X exC E) (ha:OA X cls E (e::es) fl)
  (hst:av (e::es) X.env=(false,eval e X.env)::av es X.env:=by rfl) (hpl:(dq pos (av es X.env)).any (·.1)=false:=by rfl)
  (ht:eval (.Call (.Attribute o m apos) (e::es) [] pos) X.env=(do
   let ov <- eval o X.env
   n9 apos.atName
   let (f,first) <- holding [ov] (mz ov m pl)
   qz pos f first (dq pos (av (e::es) X.env)) (kh pos (i4 [] X.env))):=by rfl):
  OE X cls E (.Call (.Attribute o m apos) (e::es) [] pos) (bL cn m φ fo fl):=
 (KO (pl:=pl) ho hc hm F hr hb .nil hx ha hst hpl ht).imp fun σ H Q ⟨ok,ρ,ω,r,ω',P,e,q⟩=>by
  refine tO.then_ P e (fun c z=>by subst z;exact q) fun d ω1 v ok1 H1 e1 n1 P1 r1=> ?_;obtain⟨hi,e1⟩:=cR e1;obtain⟨n,fs,rfl,e2,e3⟩:=yG hi;obtain⟨a,rfl,e4,dx,vs,e5,kv⟩:=P1.st.ref r1 e2;refine⟨a,dx,vs,rfl,e5,kv.look_none e3,?_⟩;refine tOA.then_ P1 e1 (fun c z=>by subst z;exact exR.nw q n1) fun ds ω2 us ok2 H2 e6 n2 P2 r2=> ?_;rw[c6];exact spO.at P2.okh P2.st (.cons (r1.ex n2.ex) r2) e6 (Ag (n1.trans n2) q) (Ah (Q:=Q) (n1.trans n2) q)
theorem HS (ho:OE X cls E o fo) (hc:Cls X.K (cls cn)) (hm:JD X.K (cls cn) m fn) (F:sN X.prog X.w X.K X.mg X.base (CX1 X.prog X.w exC) k fn fd ps (spO cls exC X.K φ)) (hr:Room k X.A) (hb:Binds X.K fd ps []) (hx:Pas X exC E)
  (ht:eval (.Call (.Attribute o m apos) [] [] pos) X.env=(do
   let ov <- eval o X.env
   n9 apos.atName
   let (f,first) <- holding [ov] (mz ov m pl)
   qz pos f first (dq pos (av [] X.env)) (kh pos (i4 [] X.env))):=by rfl):
  OE X cls E (.Call (.Attribute o m apos) [] [] pos) (bL cn m φ fo aM):=
 (HG (pl:=pl) ho hc hm F hr hb .nil hx ht).imp fun σ H Q ⟨ok,ρ,ω,r,ω',P,e,q⟩=>by
  refine tO.then_ P e (fun c z=>by subst z;exact q) fun d ω1 v ok1 H1 e1 n1 P1 r1=> ?_;obtain⟨hi,e1⟩:=cR e1;obtain⟨n,fs,rfl,e2,e3⟩:=yG hi;obtain⟨a,rfl,e4,dx,vs,e5,kv⟩:=P1.st.ref r1 e2;refine⟨a,dx,vs,rfl,e5,kv.look_none e3,?_⟩;have e6:φ [.obj n] ω1=xw (r,ω'):=e1;exact spO.at P1.okh P1.st (.cons r1 .nil) e6 (Ag n1 q) (Ah (Q:=Q) n1 q)
noncomputable def vE (c:Nat) (φ:eB) (fl:OG (List D)):OG D:=oB fl fun ds _ ω=>match φ (.obj ω.length::ds) (ω++[.ins c []]) with
 |some (.ok .non,ω')=>xw (.ok (.obj ω.length),ω')
 |some (.ex c,ω')=>xw (.ex c,ω')
 |_=>xx
theorem LD (M:Mk X.K (cls cn) fn) (F:sN X.prog X.w X.K X.mg X.base (CX1 X.prog X.w exC) k fn fd ps (spO cls exC X.K φ)) (hr:Room (k+1) X.A) (hg:Gl X x) (hm:X.mg x=xw (.ref (cls cn))) (hb:Binds X.K fd ps []) (hx:Pas X exC E)
  (ha:OA X cls E (e::es) fl) (hdb:(x==("__debug__":Str))=false:=by decide) (he:av (e::es) X.env=(false,eval e X.env)::av es X.env:=by rfl) (hpl:(dq pos (av es X.env)).any (·.1)=false:=by rfl):
  OE X cls E (.Call (.Name x p) (e::es) [] pos) (vE cn φ fl):=
 (KP M F hr hg hm hb .nil hx ha hdb he hpl).imp fun σ H Q ⟨ok,ρ,ω,r,ω',P,e,q⟩=>by
  refine tOA.then_ P e (fun c z=>by subst z;exact q) fun ds ω1 vs ok1 H1 e1 n1 P1 r1=> ?_;intro a dx na ndx hne;rw[c6];have n2:Nw cls X.K ok1 H1 ok1 (upd H1 dx (.own a)) ω1:=.same P1.okh P1.st (cF ndx);have n3:Nw cls X.K ok1 (upd H1 dx (.own a)) (okN ok1 ω1.length a) (upd (upd H1 dx (.own a)) a (.ins (cls cn) dx [])) (ω1++[.ins cn []]):=
   Nw.make n2.okh n2.st (by rw[aH (bx hne)];exact na) ⟨dx,[],aP,.nil⟩
  have n4:=n1.trans (n2.trans n3);have rs:Reps X.K (okN ok1 ω1.length a) (upd (upd H1 dx (.own a)) a (.ins (cls cn) dx [])) (.ref a::vs) (.obj ω1.length::ds):=.cons .new_obj ((r1.ex n2.ex).ex n3.ex);cases eφ:φ (.obj ω1.length::ds) (ω1++[.ins cn []]) with
  |none=>rw[eφ] at e1;cases e1
  |some pr=>
   obtain⟨rz,ω2⟩:=pr;rw[eφ] at e1;refine⟨_,_,_,rz,ω2,n3.okh,n3.st,rs,eφ,?_⟩;cases rz with
   |ex c=>
    cases e1;exact fun ok' H' n=>⟨c,rfl,q ok' H' (n4.trans n)⟩
   |ok d=>
    cases d with
    |non=>
     cases e1;refine fun v ok' H' n rv=>⟨rv.non_inv,q _ ok' H' (n4.trans n) (.obj (n.ex.ids _ _ ?_))⟩
     show(if ω1.length=ω1.length then xw a else _)=_
     rw[if_pos rfl]
    |_=>cases e1
end
theorem _root_.L2.HOk.obj (x:HOk P w H h) (e:H a=xw o):∃ u,h.get? a=xw u:=by
 have z:=x a o e;cases o with
 |lst xs=>obtain⟨_,_,_,_,e⟩:=z;exact⟨_,e⟩
 |tup xs=>obtain⟨_,_,_,o,e,_⟩:=z;exact⟨_,e⟩
 |dK kvs=>obtain⟨_,_,_,_,o,_,_,e,_⟩:=z;exact⟨_,e⟩
 |dT kvs=>obtain⟨_,_,_,_,o,_,_,e,_⟩:=z;exact⟨_,e⟩
 |set S n=>obtain⟨o,_,_,_,e,_⟩:=z;exact⟨_,e⟩
 |ins C dx fs=>obtain⟨_,_,_,e,_⟩:=z;exact⟨_,e⟩
 |own y=>exact z
 |xd fs=>obtain⟨_,⟨_,_,_,e,_⟩,_⟩:=z;exact⟨_,e⟩
 |rng lo hi=>obtain⟨_,_,_,e⟩:=z;exact⟨_,e⟩
 |frz ob u=>obtain⟨e,_⟩:=z;exact⟨_,e⟩
 |tbl ps=>exact⟨_,show h.get? a=xw _ from z⟩
 |met f y=>exact⟨_,show h.get? a=xw _ from z⟩
 |ext φ=>exact z.2.1
structure Pass (fs:List af) (ea T:af) (h h':c9):Prop where
 keep:∀ b o,h.get? b=xw o->b∉fs->b≠ea->b≠T->h'.get? b=xw o
 slot:∀ b o,h.get? b=xw o->b∈fs->∃ sl,h'.get? b=xw { o with slots:=sl }
theorem vT {h base base':c9}:∀ {l:List Env},h.FunFrames base l->(∀ b∈frs l,base'.get? b=xx)->h.FunFrames base' l
 |[],_,_=>trivial
 |env::r,⟨hk,⟨L,o,hf,hn,ho,hd⟩,hr⟩,n=>by
  refine⟨hk,⟨L,o,hf,n L ?_,ho,hd⟩,vT hr fun b hb=>n b ?_⟩
  ·unfold frs;rw[ku,hf];exact aq
  ·unfold frs at hb ⊢;rw[ku,hf];exact ai _ hb
section
variable {M:Model}{A:d7}{E:ag->au->Prop}{s:au}{env:Env}{outer:List Env}{base h0:c9}{H:Hp}{exC:Nat->af}{c:Nat}{ea T L:af}{Q:Unit->au->Prop}{P:di}{w:du}
theorem AF (hok:HOk P w H s.heap) (h0p:∀ b,s.heap.get? b=xx->h0.get? b=xx) (hb:∀ b,base'.get? b=xx->b=ea∨b=T∨b∈frs l∨s.heap.get? b=xx)
  (hl:h'.FunFrames base' l) (tr:h'.TracedW base' ea cls a0) (hc:cls=.ref (exC c)) (n1:h0.get? ea=xx) (n2:H ea=xx) (n3:h0.get? T=xx) (n4:H T=xx):∃ T',FlyT exC c ea T' h0 H h'/\(T'=T∨s.heap.get? T'=xx):=by
 obtain⟨oe,vs,T',oT,ts,e1,⟨e2,e3⟩,e4,e5,e6,e7,e8,e9,e10⟩:=tr;have hT:T'=T∨s.heap.get? T'=xx:=by
  rcases hb T' e6 with z|z|z|z
  ·exact absurd z e7
  ·exact .inl z
  ·obtain⟨_,o,q1,q2⟩:=hl.mem z;rw[e8] at q1;cases q1;exact absurd e9 (q2 ts)
  ·exact .inr z
 refine⟨T',⟨⟨oe,oT,vs,ts,a0,e1,by rw[e2,hc],e4,e3,e5,e7,e8,e9,e10⟩,n1,?_,n2,?_⟩,hT⟩
 ·rcases hT with rfl|z
  ·exact n3
  ·exact h0p _ z
 ·rcases hT with rfl|z
  ·exact n4
  ·cases q:H T' with
   |none=>rfl
   |some o=>
    obtain⟨u,w⟩:=hok.obj q;rw[z] at w;cases w
theorem Aw (e:(f6 h l).get? b=xx):b∈l∨h.get? b=xx:=by
 by_cases hb:b∈l
 ·exact .inl hb
 ·right;cases q:h.get? b with
  |none=>rfl
  |some o=>
   rw[kr l q hb] at e;cases e
theorem Ft (hfr:A.frames=xw (env::outer)) (hf:env.frame=xw L) (funs:s.heap.FunFrames base (env::outer)) (hok:HOk P w H s.heap) (h0p:∀ b,s.heap.get? b=xx->h0.get? b=xx) (fl:FlyT exC c ea T h0 H s.heap)
  (hQ:∀ h' T',Pass (frs (env::outer)) ea T s.heap h'->FlyT exC c ea T' h0 H h'->(T'=T∨s.heap.get? T'=xx)->Q () { s with heap:=h' }):bc M A (leaving env (.ref ea)) Q E s:=by
 obtain⟨oe,oT,vs,ts,a0,e1,e2,e3,e4,e5,e6,e7,e8,e9⟩:=fl.tr;have nF:∀ b∈frs (env::outer),(f6 s.heap (ea::T::frs (env::outer))).get? b=xx:=fun b hb=>f7 _ (ai _ (ai _ hb));have hb0:∀ b,(f6 s.heap (ea::T::frs (env::outer))).get? b=xx->b=ea∨b=T∨b∈frs (env::outer)∨s.heap.get? b=xx:=fun b z=>by
  rcases Aw z with z|z
  ·rcases ak.mp z with z|z
   ·exact .inl z
   ·rcases ak.mp z with z|z
    ·exact .inr (.inl z)
    ·exact .inr (.inr (.inl z))
  ·exact .inr (.inr (.inr z))
 refine wpAny_leaving_nextW (base:=f6 s.heap (ea::T::frs (env::outer))) (cls:=.ref (exC c)) (a0:=a0) hfr (vT funs nF) hf ?_ (fun b o z=>mw _ z) (f7 _ aq) fun h' hL=> ?_
 ·exact⟨oe,vs,T,oT,ts,e1,⟨e2,e4⟩,e3,e5,f7 _ (ai _ aq),e6,e7,e8,e9⟩
 ·obtain⟨k1,k2,k3,k4⟩:=hL;obtain⟨T',f1,f2⟩:=AF (T:=T) hok h0p hb0 k2 k3 rfl fl.h0e fl.He fl.h0T fl.HT;refine hQ h' T' ⟨fun b o z n1 n2 n3=>k1 b o (kr _ z ?_),fun b o z hb=> ?_⟩ f1 f2
  ·intro hm;rcases ak.mp hm with hm|hm
   ·exact n2 hm
   ·rcases ak.mp hm with hm|hm
    ·exact n3 hm
    ·exact n1 hm
  ·obtain⟨_,o',q1,q2⟩:=funs.mem hb;rw[z] at q1;cases q1;exact k4 b o z q2
theorem Fs (hfr:A.frames=xw (env::outer)) (hf:env.frame=xw L) (funs:s.heap.FunFrames base (env::outer)) (hok:HOk P w H s.heap) (h0p:∀ b,s.heap.get? b=xx->h0.get? b=xx) (fl:Raw exC c ea h0 H s.heap)
  (hQ:∀ h' T',Pass (frs (env::outer)) ea ea s.heap h'->FlyT exC c ea T' h0 H h'->s.heap.get? T'=xx->Q () { s with heap:=h' }):bc M A (leaving env (.ref ea)) Q E s:=by
 obtain⟨t,e1⟩:=fl.at_;have nF:∀ b∈frs (env::outer),(f6 s.heap (ea::frs (env::outer))).get? b=xx:=fun b hb=>f7 _ (ai _ hb);have hb0:∀ b,(f6 s.heap (ea::frs (env::outer))).get? b=xx->b=ea∨b=ea∨b∈frs (env::outer)∨s.heap.get? b=xx:=fun b z=>by
  rcases Aw z with z|z
  ·rcases ak.mp z with z|z
   ·exact .inl z
   ·exact .inr (.inr (.inl z))
  ·exact .inr (.inr (.inr z))
 refine wpAny_leaving_firstW (base:=f6 s.heap (ea::frs (env::outer))) (a0:=.ref t) hfr (vT funs nF) hf e1 (fun b o z=>mw _ z) (f7 _ aq) rfl rfl rfl fun h' hL=> ?_;obtain⟨k1,k2,k3,k4⟩:=hL;obtain⟨T',f1,f2⟩:=AF (T:=ea) (c:=c) (exC:=exC) hok h0p hb0 k2 k3 rfl fl.h0e fl.He fl.h0e fl.He;have hTe:T'≠ea:=by obtain⟨_,_,_,_,_,_,_,_,_,_,z,_⟩:=f1.tr;exact z
 refine hQ h' T' ⟨fun b o z n1 n2 n3=>k1 b o (kr _ z ?_),fun b o z hb=> ?_⟩ f1 (f2.resolve_left hTe)
 ·intro hm;rcases ak.mp hm with hm|hm
  ·exact n2 hm
  ·exact n1 hm
 ·obtain⟨_,o',q1,q2⟩:=funs.mem hb;rw[z] at q1;cases q1;exact k4 b o z q2
end
theorem exc_def {K:aa}:
  Exc (AT (CX1 P w exC) P w K mg base N qual scope f cd A outer s H E) exC (fun c H'=>E (.ref (exC c)) xx H')/\Qq (AT (CX1 P w exC) P w K mg base N qual scope f cd A outer s H E) exC (fun c H'=>E (.ref (exC c)) xx H'):=by
 have main:∀ {pins:List (af×Obj)}{σ':St}{H':Hp}{s':au}{c:Nat}{ea T T':af}{h'':c9},Inv (AT (CX1 P w exC) P w K mg base N qual scope f cd A outer s H E) pins σ' H' s'->
   s.heap.get? ea=xx->s.heap.get? T=xx->H' ea=xx->H' T=xx->Pass (frs (jq qual scope s.heap.objs.size f cd::outer)) ea T s'.heap h''->FlyT exC c ea T' s.heap H' h''->E (.ref (exC c)) xx H'->
   CX1 P w exC outer H s E (.ref ea) { s' with heap:=h'' }:=fun {pins σ' H' s' c ea T T' h''} I n1 n2 n3 n4 ps fl hE=>by
  have nofr:∀ b u,H' b=xw u->b∉frs (jq qual scope s.heap.objs.size f cd::outer):=fun b u e z=>by
   have:=I.stkFree b z
   rw[e] at this;cases this
  have kb:∀ b u v,H' b=xw u->s'.heap.get? b=xw v->h''.get? b=xw v:=fun b u v e z=>ps.keep b v z (nofr b u e) (fun q=>by rw[q,n3] at e;cases e) fun q=>by rw[q,n4] at e;cases e
  have old:∀ {b:af}{o:Obj},s.heap.get? b=xw o->b≠ea/\b≠T:=fun {b o} z=>⟨fun q=>(by rw[q,n1] at z;cases z),fun q=>(by rw[q,n2] at z;cases z)⟩;have fr1:∀ b,b∈frs (jq qual scope s.heap.objs.size f cd::outer)->b=s.heap.objs.size∨b∈frs outer:=fun b hb=>by
   have hb':b∈s.heap.objs.size::frs outer:=hb;exact ak.mp hb'
  have nx:∀ b:af,b∉(AT (CX1 P w exC) P w K mg base N qual scope f cd A outer s H E).ex:=fun b z=>absurd (show b∈([]:List af) from z) (by simp);refine⟨c,ea,T',H',rfl,I.os,I.bare,⟨fun b o e n hb _=> ?_,fun b o e n hb _=> ?_,fun b o e n _=>I.base.free b o e n (nx b),fun b o e _=> ?_,I.base.tups,I.base.frzs,I.base.tbls⟩,fun b u e=> ?_,fl,hE⟩
  ·have z:=I.base.keep b o e n hb (nx b);refine ps.keep b o z (fun hm=> ?_) (old e).1 (old e).2;rcases fr1 b hm with q|q
   ·exact absurd (bp e) (by rw[q];exact gx _)
   ·exact hb q
  ·obtain⟨sl,z⟩:=I.base.slot b o e n hb (nx b);obtain⟨sl2,z2⟩:=ps.slot b _ z (show b∈s.heap.objs.size::frs outer from ai _ hb);exact⟨sl2,z2⟩
  ·obtain⟨o',z⟩:=I.base.there b o e (nx b)
   by_cases hm:b∈frs (jq qual scope s.heap.objs.size f cd::outer)
   ·obtain⟨sl2,z2⟩:=ps.slot b _ z hm;exact⟨_,z2⟩
   ·exact⟨_,ps.keep b o' z hm (old e).1 (old e).2⟩
  ·refine(I.hok b u e).stay (fun c v hc q=> ?_) (fun _ q=>q) fun _ _ q=>q;rcases hc with rfl|hc
   ·exact kb c u v e q
   ·exact kb c _ v hc q
 refine⟨⟨fun c ea T H' pins σ' s' I fl _ hE=> ?_,rfl⟩,⟨fun c ea H' pins σ' s' I fl hE=> ?_,rfl⟩⟩
 ·exact Ft (L:=s.heap.objs.size) I.ok.frames rfl I.stack I.hok (fun b z=>I.pers rfl z) fl fun h'' T' ps fl' _=>main I fl.h0e fl.h0T fl.He fl.HT ps fl' hE
 ·exact Fs (L:=s.heap.objs.size) I.ok.frames rfl I.stack I.hok (fun b z=>I.pers rfl z) fl fun h'' T' ps fl' _=>main I fl.h0e fl.h0e fl.He fl.He ps fl' hE
noncomputable def cE (N:List Str) (ds:List D):Rho:=ds.map xw++aj (N.length-ds.length) xx
theorem CU {K:aa} (r:Reps K ok H vs ds):EnvR K ok H (start N vs) (cE N ds)/\(start N vs).length=(cE N ds).length:=by
 refine⟨fun i d e=> ?_,?_⟩
 ·unfold cE at e
  by_cases hi:i<ds.length
  ·rw[am (by simpa using hi),aw] at e;obtain⟨d',e1,e2⟩:=aG e;cases e2;obtain⟨v,e3,r'⟩:=r.get e1;have hv:i<vs.length:=(br.mp e3).1;refine⟨v,?_,r'⟩;unfold start;rw[am (by simpa using hv),aw,e3];rfl
  ·rw[dr (by simpa using hi),dc] at e;split at e <;> cases e
 ·unfold start cE;rw[bw,bw,ao,ao,jw,jw,r.length]
noncomputable def eA (n:Nat) (N:List Str) (G:OS):eB:=fun ds ω=>if ds.length=n then(match G (cE N ds) ω with
 |some (.rt d,ω')=>xw (.ok d,ω')
 |some (.nx _,ω')=>xw (.ok .non,ω')
 |some (.ex c,ω')=>xw (.ex c,ω')
 |_=>xx) else xx
theorem SM {K:aa}{st:cz} (F:Fun K x qual st f fd) (S:lH N ps (bE st))
  (hbody:∀(cdv:ag) (A:d7) (outer:List Env) (s:au) (H:Hp) (E:XK),Room k (A.deeper (jq qual (bE st) s.heap.objs.size f cdv))->Exc (AT (CX1 P w exC) P w K mg base N qual (bE st) f cdv A outer s H E) exC (fun c H'=>E (.ref (exC c)) xx H')->Qq (AT (CX1 P w exC) P w K mg base N qual (bE st) f cdv A outer s H E) exC (fun c H'=>E (.ref (exC c)) xx H')->
   OSs (AT (CX1 P w exC) P w K mg base N qual (bE st) f cdv A outer s H E) cls (fun c H'=>E (.ref (exC c)) xx H') (fZ st) G):sN P w K mg base (CX1 P w exC) (k+1) f fd ps (spO cls exC K (eA ps.length N G)):=by
 obtain⟨oc,od,kV,doc,pm,an,cdv,ct,osl,rfl,lk,hcd⟩:=F.ex;have len:∀ vs H Q E,spO cls exC K (eA ps.length N G) vs H Q E->vs.length=ps.length:=fun vs H Q E ⟨ok,ω,ds,r,ω',h1,h2,h3,h4,h5⟩=>by
  rw[h3.length];exact(cR (show(if ds.length=ps.length then _ else xx)=_ from h4)).1
 refine Rt lk hcd S len fun A outer s H vs Q E hr hsp=> ?_;obtain⟨ok,ω,ds,r,ω',h1,h2,h3,h4,h5⟩:=hsp;refine⟨_,hbody cdv A outer s H E hr exc_def.1 exc_def.2,?_⟩;obtain⟨_,h4⟩:=cR (show(if ds.length=ps.length then _ else xx)=_ from h4);obtain⟨e1,e2⟩:=CU (N:=N) h3;cases q:G (cE N ds) ω with
 |none=>rw[q] at h4;cases h4
 |some pr=>
  obtain⟨o,ω2⟩:=pr;rw[q] at h4;refine⟨ok,cE N ds,ω,o,ω2,⟨h1,h2,e1,e2⟩,q,?_⟩;cases o with
  |rt d=>cases h4;exact fun v ok' H' n rv=>h5 v ok' H' n rv
  |nx ρ=>cases h4;exact fun ok' H' σ' n _ _=>h5 .non ok' H' n .non
  |ex c=>cases h4;exact fun ok' H' n=>h5 ok' H' n
  |bk ρ=>cases h4
  |ct ρ=>cases h4
noncomputable abbrev CN:List ag:=[.type "ValueError",.type "Exception",.type "BaseException",.type "object"]
def ownIn (K:aa) (C:af) (tl:List ag):Prop:=∃(dd:Option af) (cd:ClassData) (k0 k1 k2 k3 k5:Option ag),K.lookup C=xw ⟨.type "type",dd,.cls cd,#[k0,k1,k2,k3,xw (.builtin "ValueError.__new__"),k5]⟩/\
 cd.mro=.ref C::tl/\cd.hasDel=false/\oa K CN tl=true/\lz K cd.ns=true/\cx K cd.ns "__init__"=xw xx
theorem ER {K:aa} (X:K.In h) (q:ownIn K C tl):∃(nm qn:Str) (N:af) (bs:List ag) (hdct:Bool) (sn:List Str) (sub:List ag) (ab:Bool) (col:Option Bool) (dd:Option af) (k0 k1 k2 k3 k5:Option ag) (mN:Str->Option ag),
  h.get? C=xw (excClassObj nm qn C N bs tl hdct sn sub ab col dd k0 k1 k2 k3 k5 "ValueError.__new__")/\h.Ns N mN/\mN "__init__"=xx/\OwnTail h CN tl:=by
 obtain⟨dd,cd,k0,k1,k2,k3,k5,hl,hm,hd,ht,hn,hi⟩:=q;obtain⟨a1,a2,a3,a4,a5,a6,a7,a8,a9,b1,b2⟩:=cd;dsimp only at hm hd hn hi;subst hm hd;exact⟨a1,a5,a4,a2,a6,a7,a8,a9,b1,dd,k0,k1,k2,k3,k5,_,X _ _ hl,.of_isNs (PySem.W.isNs_of_in X hn),PySem.W.nsMap_none_of_in X hn hi,PySem.W.tail_of_in X ht⟩
noncomputable def BI (c:Nat) (f:DF):OS:=fun ρ ω=>(f ρ).map fun _=>(.ex c,ω)
section
variable {X:Cx}{cls exC:Nat->af}{E:XE}{e:bv}{f:DF}{pos np cpos:Pos}{x:Str}{c:Nat}{tl:List ag}
theorem BP (hc:X.calm=true) (hx:Qq X exC E) (hg:Gl X x) (hm:X.mg x=xw (.ref (exC c))) (hq:ownIn X.K (exC c) tl) (he:DE X e f) (hdb:(x==("__debug__":Str))=false:=by decide)
  (hst:av [e] X.env=(false,eval e X.env)::av [] X.env:=by rfl) (hpl:(dq cpos (av [e] X.env)).any (·.1)=false:=by rfl):
  OSt X cls E (.Raise (xw (.Call (.Name x np) [e] [] cpos)) xx pos) (BI c f):=by
 rintro pins s σ H D I ⟨ok,ρ,ω,o,ω',P,e0,q⟩;obtain⟨d,e1,e2⟩:=aG e0;cases e2;obtain⟨nm,qn,N,bs,hdct,sn,sub,ab,col,dd,k0,k1,k2,k3,k5,mN,hC,hN,hni,T⟩:=ER I.mod.kin hq;refine wpAny_Raise_call_subT (C:=exC c) (N:=N) (bm:=tl) (hdct:=hdct) (sn:=sn) (sub:=sub) (ab:=ab) (col:=col) (dd:=dd) (k0:=k0) (k1:=k1) (k2:=k2) (k3:=k3) (k5:=k5) (nm:=nm) (q:=qn) (bs:=bs)
  PySem.F.excBase_ValueError (mN:=mN) (T.hasType rfl) (I.ok.hd hc) hpl hni (vK I hg hm ⟨rfl,?_⟩ hdb)
 have ha:=(ML he PR hst:DA X [e] (MP f RA)) cpos pins s σ H (fun vs H'=>vs.length<=sizeLine/\Same H H') I
  ⟨ok,ρ,[d],P.okh,P.env,by unfold MP RA;rw[e1];rfl,fun vs H' s' r=>⟨by rw[r.length];show 1<=sizeLine;decide,s'⟩⟩
 rw[hst] at ha ⊢;refine ul (thn ha fun us s2 ⟨vs,H2,I2,rv,hl,sm⟩=>⟨rfl,by show us.length<=_;rw[<- rv.length];exact hl,I2.bk _ _ hC,hN.keeps I2.bk,T.keeps I2.bk,fun h' ea hm'=> ?_⟩);have I3:Inv X pins σ H2 { s2 with heap:=h' }:=I2.kept (t':=s2.toks) hm'.keeps;obtain⟨t,z1,z2,z3⟩:=hm'.there;refine hx.raw c ea H2 pins σ _ I3 ⟨⟨t,z1⟩,I2.pers hx.ex hm'.new,?_⟩ (q ok H2 (.same P.okh P.st sm));cases w:H2 ea with
 |none=>rfl
 |some u=>
  obtain⟨u',w'⟩:=HOk.obj I2.hok w;rw[hm'.new] at w';cases w'
theorem _root_.L2.Inv.passed (I:Inv X pins σ H s) (hx:X.ex=[]) (ps:Pass (frs X.stack) ea T s.heap h') (n1:X.s₀.heap.get? ea=xx) (n2:X.s₀.heap.get? T=xx) (n3:H ea=xx) (n4:H T=xx)
  (hp:∀ p∈X.pn++pins,p.1≠ea/\p.1≠T) (hf:∀ b,(b=ea∨b=T)->∃ o vs,s.heap.get? b=xw o/\o.data=.fields vs):Inv X pins σ H { s with heap:=h' }:=by
 have nofr:∀ b u,H b=xw u->b∉frs X.stack:=fun b u e z=>by
  have:=I.stkFree b z
  rw[e] at this;cases this
 have any:∀ b o,s.heap.get? b=xw o->(∀ vs,o.data≠ .fields vs)->∃ sl,h'.get? b=xw { o with slots:=sl }:=fun b o e nf=>by
  by_cases hb:b∈frs X.stack
  ·exact ps.slot b o e hb
  ·refine⟨o.slots,ps.keep b o e hb (fun z=> ?_) fun z=> ?_⟩
   ·obtain⟨o',vs,w1,w2⟩:=hf b (.inl z);rw[e] at w1;cases w1;exact nf vs w2
   ·obtain⟨o',vs,w1,w2⟩:=hf b (.inr z);rw[e] at w1;cases w1;exact nf vs w2
 have kb:∀ b u v,H b=xw u->s.heap.get? b=xw v->h'.get? b=xw v:=fun b u v e z=>ps.keep b v z (nofr b u e) (fun q=>by rw[q,n3] at e;cases e) fun q=>by rw[q,n4] at e;cases e
 have old:∀ {b:af}{o:Obj},X.s₀.heap.get? b=xw o->b≠ea/\b≠T:=fun {b o} z=>⟨fun q=>(by rw[q,n1] at z;cases z),fun q=>(by rw[q,n2] at z;cases z)⟩;have locf:∀ b,b∈frs X.stack->b=X.env.locals∨b∈X.fs:=fun b hb=>ak.mp (I.stkSub b hb);obtain⟨m,⟨oL,es,ep,hoL,hdL,rL⟩,lk⟩:=id I.loc;obtain⟨slL,hL⟩:=any _ oL hoL fun vs z=>by rw[hdL] at z;cases z
 refine⟨I.ok,I.os,I.bare,⟨fun b o e n hb hxx=> ?_,fun b o e n hb hxx=> ?_,I.base.free,fun b o e hxx=> ?_,I.base.tups,I.base.frzs,I.base.tbls⟩,⟨m,⟨_,es,ep,hL,hdL,rL⟩,fun i x v e1 e2 e3=> ?_⟩,fun x c e=> ?_,I.free,I.freeC,fun p hpp=> ?_,fun b u e=> ?_,I.len⟩
 ·have z:=I.base.keep b o e n hb hxx;refine ps.keep b o z (fun hm=> ?_) (old e).1 (old e).2;rcases locf b hm with q|q
  ·exact absurd (bp e) (by rw[q];exact um.mpr I.ok.above)
  ·exact hb q
 ·obtain⟨sl,z⟩:=I.base.slot b o e n hb hxx
  by_cases hm:b∈frs X.stack
  ·obtain⟨sl2,z2⟩:=ps.slot b _ z hm;exact⟨sl2,z2⟩
  ·exact⟨sl,ps.keep b _ z hm (old e).1 (old e).2⟩
 ·obtain⟨o',z⟩:=I.base.there b o e hxx
  by_cases hm:b∈frs X.stack
  ·obtain⟨sl2,z2⟩:=ps.slot b _ z hm;exact⟨_,z2⟩
  ·exact⟨_,ps.keep b o' z hm (old e).1 (old e).2⟩
 ·obtain⟨u,ru,z⟩:=lk i x v e1 e2 e3;refine⟨u,ru,?_⟩;rcases z with z|⟨k,c,e,oc,w1,w2⟩
  ·exact .inl z
  ·obtain⟨sl,w3⟩:=any c oc w1 fun vs q=>by rw[w2] at q;cases q
   exact .inr ⟨k,c,e,_,w3,w2⟩
 ·obtain⟨v,oc,w1,w2⟩:=I.cell x c e;obtain⟨sl,w3⟩:=any c oc w1 fun vs q=>by rw[w2] at q;cases q
  exact⟨v,_,w3,w2⟩
 ·obtain⟨e,n,ne,nf,d⟩:=I.pin p hpp;refine⟨ps.keep p.1 p.2 e (fun hm=> ?_) (hp p hpp).1 (hp p hpp).2,n,ne,nf,d⟩;rcases locf p.1 hm with q|q
  ·exact ne q
  ·exact nf q
 ·refine(I.hok b u e).stay (fun c v hc q=> ?_) (fun _ q=>q) fun _ _ q=>q;rcases hc with rfl|hc
  ·exact kb c u v e q
  ·exact kb c _ v hc q
end
theorem sC {K:aa} (X:K.In s.heap) (q:ownIn K C tl) (q':ownIn K C' tl') (he:s.heap.get? ea=xw oe) (hc:oe.cls=.ref C)
  (h:Q ((cq C::tl).contains (.ref C')) s):bc M A (excMatches (.ref ea) (.ref C')) Q E s:=by
 obtain⟨nm,qn,N,bs,hdct,sn,sub,ab,col,dd,k0,k1,k2,k3,k5,mN,hC,hN,hni,T⟩:=ER X q;obtain⟨nm',qn',N',bs',hdct',sn',sub',ab',col',dd',k0',k1',k2',k3',k5',mN',hC',hN',hni',T'⟩:=ER X q';have hB:(cq C'::tl').contains (.type "BaseException")=true:=by rw[List.contains_cons,T'.hasType (X:="BaseException") (b:=true) rfl,Bool.or_true]
 have f:=tc_notTuple;obtain⟨hp,g,d,tk,os⟩:=s;unfold excMatches
 generalize hb:(cq C::tl).contains (.ref C')=b at h
 repeat (first|(with_reducible refine qp he ?_;rw[hc])|with_reducible refine qp hC' ?_|(with_reducible refine uy hC' ?_;rw[hB])|(with_reducible refine uy hC ?_;rw[hb])|wp_step)
 cases b <;> (wp_walk;exact h)
section
variable {M:Model}{A:d7}{E:ag->au->Prop}{s:au}{env:Env}{outer:List Env}{base h0:c9}{H:Hp}{exC:Nat->af}{c:Nat}{ea T L:af}{Q:Unit->au->Prop}{P:di}{w:du}
theorem Ia (hfr:A.frames=xw (env::outer)) (hf:env.frame=xw L) (funs:s.heap.FunFrames base (env::outer)) (hok:HOk P w H s.heap) (h0p:∀ b,s.heap.get? b=xx->h0.get? b=xx) (fl:FlyT exC c ea T h0 H s.heap)
  (hQ:∀ h' T',Pass (frs (env::outer)) ea T s.heap h'->FlyT exC c ea T' h0 H h'->(T'=T∨s.heap.get? T'=xx)->Q () { s with heap:=h' }):
  bc M A (vj (.ref ea) env) (fun _ s₂=>bc M A (vk (.ref ea) xx) Q E s₂) E s:=by
 obtain⟨oe,oT,vs,ts,a0,e1,e2,e3,e4,e5,e6,e7,e8,e9⟩:=fl.tr;have nF:∀ b∈frs (env::outer),(f6 s.heap (ea::T::frs (env::outer))).get? b=xx:=fun b hb=>f7 _ (ai _ (ai _ hb));have hb0:∀ b,(f6 s.heap (ea::T::frs (env::outer))).get? b=xx->b=ea∨b=T∨b∈frs (env::outer)∨s.heap.get? b=xx:=fun b z=>by
  rcases Aw z with z|z
  ·rcases ak.mp z with z|z
   ·exact .inl z
   ·rcases ak.mp z with z|z
    ·exact .inr (.inl z)
    ·exact .inr (.inr (.inl z))
  ·exact .inr (.inr (.inr z))
 refine wpAny_noteFrame_onW (base:=f6 s.heap (ea::T::frs (env::outer))) (cls:=.ref (exC c)) (a0:=a0) hfr (vT funs nF) hf ?_ (fun b o z=>mw _ z) (f7 _ aq) fun h' hN=> ?_
 ·exact⟨oe,vs,T,oT,ts,e1,⟨e2,e4⟩,e3,e5,f7 _ (ai _ aq),e6,e7,e8,e9⟩
 ·obtain⟨k1,k2,k3,k4⟩:=hN;refine wpAny_setFlight_noneW (base:=f6 s.heap (ea::T::frs (env::outer))) (l:=env::outer) k1 k2 k3 fun h'' m1 m2 m3 m4=> ?_;obtain⟨T',f1,f2⟩:=AF (T:=T) (s:=s) hok h0p hb0 m2 m3 rfl fl.h0e fl.He fl.h0T fl.HT;refine hQ h'' T' ⟨fun b o z n1 n2 n3=>m1 b o (kr _ z ?_),fun b o z hb=> ?_⟩ f1 f2
  ·intro hm;rcases ak.mp hm with hm|hm
   ·exact n2 hm
   ·rcases ak.mp hm with hm|hm
    ·exact n3 hm
    ·exact n1 hm
  ·obtain⟨_,o',q1,q2⟩:=funs.mem hb;rw[z] at q1;cases q1;obtain⟨sl,w1⟩:=k4 b o z q2;exact⟨sl,m4 b _ w1 q2⟩
theorem AG (funs:s.heap.FunFrames base outer) (fl:FlyT exC c ea T h0 H s.heap) (hQ:∀ h',Pass (frs outer) ea T s.heap h'->FlyT exC c ea T h0 H h'->Q () { s with heap:=h' }):bc M A (vk (.ref ea) xx) Q E s:=by
 obtain⟨oe,oT,vs,ts,a0,e1,e2,e3,e4,e5,e6,e7,e8,e9⟩:=fl.tr;have hz:3<ts.size:=(md.mp e9).1;have oth:∀ b,b≠T->(s.heap.update T (me (·.setIfInBounds 3 .none))).get? b=s.heap.get? b:=fun b hb=>fw _ _ (bx hb);refine wpAny_setFlight_none e1 e3 e5 e7 e8 hz (hQ _ ⟨fun b o z _ _ n3=>(oth b n3).trans z,fun b o z hb=>⟨o.slots,(oth b fun q=> ?_).trans z⟩⟩ ⟨⟨oe,_,vs,_,a0,(oth ea (bx e6)).trans e1,e2,e3,e4,e5,e6,gz _ e7 (pe (jt e8 _)),jt e8 _,by simp[hz]⟩,fl.h0e,fl.h0T,fl.He,fl.HT⟩);obtain⟨_,o',q1,q2⟩:=funs.mem hb;rw[q,e7] at q1;cases q1;exact q2 ts e8
end
noncomputable abbrev Xm (X:Cx) (ea:af):Cx:={ X with A:=X.A.mark (xw (.ref ea)),calm:=false,xe:=fun _ _=>False }
noncomputable abbrev Xp (X:Cx) (pn:List (af×Obj)) (xe:ag->au->Prop):Cx:={ X with pn:=pn,xe:=xe }
section
variable {X:Cx}{pins pins':List (af×Obj)}{σ:St}{H:Hp}{s:au}{xe:ag->au->Prop}
theorem _root_.L2.Inv.marked (I:Inv X pins σ H s) (ea:af):Inv (Xm X ea) pins σ H s:=
 ⟨⟨I.ok.mod,I.ok.kind,I.ok.glob,I.ok.blt,I.ok.above,I.ok.inj,I.ok.has,I.ok.cab,(fun z=>nomatch z),I.ok.frames,I.ok.stk,I.ok.exf,I.ok.bs,I.ok.bsz,I.ok.noex,I.ok.exfs,I.ok.funs,I.ok.frf⟩,I.os,I.bare,I.base,I.loc,I.cell,I.free,I.freeC,I.pin,I.hok,I.len⟩
theorem _root_.L2.Inv.unmarked (k:X.calm=true->X.A.handled=xx) (I:Inv (Xm X ea) pins σ H s):Inv X pins σ H s:=
 ⟨⟨I.ok.mod,I.ok.kind,I.ok.glob,I.ok.blt,I.ok.above,I.ok.inj,I.ok.has,I.ok.cab,k,I.ok.frames,I.ok.stk,I.ok.exf,I.ok.bs,I.ok.bsz,I.ok.noex,I.ok.exfs,I.ok.funs,I.ok.frf⟩,I.os,I.bare,I.base,I.loc,I.cell,I.free,I.freeC,I.pin,I.hok,I.len⟩
theorem _root_.L2.Inv.pned (I:Inv X pins σ H s):Inv (Xp X (X.pn++pins) xe) [] σ H s:=
 ⟨⟨I.ok.mod,I.ok.kind,I.ok.glob,I.ok.blt,I.ok.above,I.ok.inj,I.ok.has,I.ok.cab,I.ok.hd,I.ok.frames,I.ok.stk,I.ok.exf,I.ok.bs,I.ok.bsz,I.ok.noex,I.ok.exfs,I.ok.funs,I.ok.frf⟩,I.os,I.bare,I.base,I.loc,I.cell,I.free,I.freeC,fun p hp=>I.pin p (by simpa using hp),I.hok,I.len⟩
theorem _root_.L2.Inv.unpned (I:Inv (Xp X (X.pn++pins) xe) pins' σ H s):Inv X pins σ H s:=
 ⟨⟨I.ok.mod,I.ok.kind,I.ok.glob,I.ok.blt,I.ok.above,I.ok.inj,I.ok.has,I.ok.cab,I.ok.hd,I.ok.frames,I.ok.stk,I.ok.exf,I.ok.bs,I.ok.bsz,I.ok.noex,I.ok.exfs,I.ok.funs,I.ok.frf⟩,I.os,I.bare,I.base,I.loc,I.cell,I.free,I.freeC,fun p hp=>I.pin p (db _ hp),I.hok,I.len⟩
theorem SP.unpned {D:CM} (h:SP (Xp X (X.pn++pins) xe) [] D f s):SP X pins D f s:=by
 cases f with
 |next=>obtain⟨σ',H',I,q⟩:=h;exact⟨σ',H',I.unpned,q⟩
 |brk=>obtain⟨σ',H',I,q⟩:=h;exact⟨σ',H',I.unpned,q⟩
 |cont=>obtain⟨σ',H',I,q⟩:=h;exact⟨σ',H',I.unpned,q⟩
 |ret u=>obtain⟨v,σ',H',I,r,q⟩:=h;exact⟨v,σ',H',I.unpned,r,q⟩
theorem SP.unmarked {D:CM} (k:X.calm=true->X.A.handled=xx) (h:SP (Xm X ea) pins D f s):SP X pins D f s:=by
 cases f with
 |next=>obtain⟨σ',H',I,q⟩:=h;exact⟨σ',H',I.unmarked k,q⟩
 |brk=>obtain⟨σ',H',I,q⟩:=h;exact⟨σ',H',I.unmarked k,q⟩
 |cont=>obtain⟨σ',H',I,q⟩:=h;exact⟨σ',H',I.unmarked k,q⟩
 |ret u=>obtain⟨v,σ',H',I,r,q⟩:=h;exact⟨v,σ',H',I.unmarked k,r,q⟩
variable {exC:Nat->af}{c c':Nat}{ea T:af}{x:Str}{np pos:Pos}{b₀:cz}{suite:List cz}{rest:List ExceptHandler}{tl tl':List ag}{Q:Flow->au->Prop}{E:ag->au->Prop}
theorem FlyT.fields (fl:FlyT exC c ea T X.s₀.heap H s.heap):∀ b,(b=ea∨b=T)->∃ o vs,s.heap.get? b=xw o/\o.data=.fields vs:=fun b hb=>by
 obtain⟨oe,oT,vs,ts,a0,e1,e2,e3,e4,e5,e6,e7,e8,e9⟩:=fl.tr;rcases hb with rfl|rfl
 ·exact⟨_,_,e1,e3⟩
 ·exact⟨_,_,e7,e8⟩
theorem lA (I:Inv X pins σ H s) (hex:X.ex=[]) (fl:FlyT exC c ea T X.s₀.heap H s.heap) (hp:∀ p∈X.pn++pins,p.1≠ea/\p.1≠T) (hg:Gl X x) (hm:X.mg x=xw (.ref (exC c'))) (ho:ownIn X.K (exC c) tl) (ho':ownIn X.K (exC c') tl')
  (hit:(cq (exC c)::tl).contains (.ref (exC c'))=true->∀ s',Inv (Xm X ea) pins σ H s'->bc (model X.prog X.w) (Xm X ea).A (execs (b₀::suite) X.env) Q (fun _ _=>False) s')
  (miss:(cq (exC c)::tl).contains (.ref (exC c'))=false->bc (model X.prog X.w) X.A (handleBy (.ref ea) X.env rest) Q E s) (hdb:(x==("__debug__":Str))=false:=by decide):
  bc (model X.prog X.w) X.A (handleBy (.ref ea) X.env (.ExceptHandler (xw (.Name x np)) xx (b₀::suite) pos::rest)) Q E s:=by
 obtain⟨oe,oT,vs,ts,a0,e1,e2,_⟩:=fl.tr;refine wpAny_handleBy_cons (codeAny_handlers_test (vK (I.marked ea) hg hm ?_ hdb)) (fun z=>nomatch z);refine sC (K:=X.K) (C:=exC c) (C':=exC c') I.kIn ho ho' e1 e2 ?_;cases hb:(cq (exC c)::tl).contains (.ref (exC c')) with
 |false=>exact miss hb
 |true=>
  refine codeAny_handlers_suite (AG I.stack fl fun h' ps fl'=> ?_);have I':Inv X pins σ H { s with heap:=h' }:=I.passed hex ps fl.h0e fl.h0T fl.He fl.HT hp fl.fields;exact hZ (hit hb _ (I'.marked ea)) (fun _ _ q=>q) fun _ _ z=>z.elim
end
noncomputable def xL (F:OS) (c1:Nat) (G1:OS) (c2:Nat) (G2:OS):OS:=fun ρ ω=>match F ρ ω with
 |some (.ex c,ω1)=>if c=c1 then sNx G1 (aj ρ.length xx) ω1 else if c=c2 then sNx G2 (aj ρ.length xx) ω1 else xx
 |r=>r
section
variable {X:Cx}{cls exC:Nat->af}{E:XE}{body:List cz}{F G1 G2:OS}{c1 c2:Nat}{x1 x2:Str}{np1 np2 p1 p2 pos:Pos}{b1 b2:cz}{r1 r2:List cz}{tl1 tl2:List ag}
theorem Hc (I:Inv X pins σ H s):Inv X pins (aj σ.length xx) H s:=I.weak (by simp) fun i v e=>by
 rw[dc] at e;split at e <;> cases e
theorem Lb (hex:X.ex=[]) (hc:X.calm=true) (hs:X.stack=X.env::X.outer) (hf:∃ L,X.env.frame=xw L) (hg1:Gl X x1) (hg2:Gl X x2) (hm1:X.mg x1=xw (.ref (exC c1))) (hm2:X.mg x2=xw (.ref (exC c2))) (ho1:ownIn X.K (exC c1) tl1) (ho2:ownIn X.K (exC c2) tl2)
  (hne:(cq (exC c2)::tl2).contains (.ref (exC c1))=false)
  (hb:∀ pn xe E',Exc (Xp X pn xe) exC E'->OSs (Xp X pn xe) cls E' body F) (h1:∀ ea,OSs (Xm X ea) cls EF (b1::r1) G1) (h2:∀ ea,OSs (Xm X ea) cls EF (b2::r2) G2)
  (hd1:(x1==("__debug__":Str))=false:=by decide) (hd2:(x2==("__debug__":Str))=false:=by decide):
  OSt X cls E (.Try body [.ExceptHandler (xw (.Name x1 np1)) xx (b1::r1) p1,.ExceptHandler (xw (.Name x2 np2)) xx (b2::r2) p2] [] [] pos) (xL F c1 G1 c2 G2):=by
 rintro pins s σ H D I ⟨ok,ρ,ω,o,ω',P,e,q⟩;obtain⟨L,hL⟩:=hf
 -- what the body wants
 cases eF:F ρ ω with
 |none=>unfold xL at e;rw[eF] at e;cases e
 |some pr=>
  obtain⟨o1,ω1⟩:=pr;unfold xL at e;rw[eF] at e;refine wpAny_Try_except ?_
  -- the wish within
  have main:∀(E':XE),(∀ c H',E' c H'->∃ ok',Nw cls X.K ok H ok' H' ω1/\∃ z,o1=.ex z/\c=z)->outO cls X.K ok H ω1 E' D o1->
    bc (model X.prog X.w) X.A (execs body X.env) (fun f s₁=>match f with|.next=>bc (model X.prog X.w) X.A (execs [] X.env) (SP X pins D) X.xe s₁|f=>SP X pins D f s₁)
     (fun e s₁=>bc (model X.prog X.w) X.A (vj e X.env) (fun _ s₂=>bc (model X.prog X.w) X.A (vk e xx) (fun _ s₃=>bc (model X.prog X.w) X.A (handleBy e X.env [.ExceptHandler (xw (.Name x1 np1)) xx (b1::r1) p1,.ExceptHandler (xw (.Name x2 np2)) xx (b2::r2) p2]) (SP X pins D) X.xe s₃) X.xe s₂) X.xe s₁) s:=by
   intro E' hE' hout;have ex:Exc (Xp X (X.pn++pins) fun e s₁=>bc (model X.prog X.w) X.A (vj e X.env) (fun _ s₂=>bc (model X.prog X.w) X.A (vk e xx) (fun _ s₃=>bc (model X.prog X.w) X.A (handleBy e X.env [.ExceptHandler (xw (.Name x1 np1)) xx (b1::r1) p1,.ExceptHandler (xw (.Name x2 np2)) xx (b2::r2) p2]) (SP X pins D) X.xe s₃) X.xe s₂) X.xe s₁) exC E':=by
    refine⟨fun c ea T H' pins' σ' s' I' fl hpn hE=> ?_,hex⟩;have I1:Inv X pins σ' H' s':=I'.unpned;obtain⟨ok',nw,z,ez,rfl⟩:=hE' c H' hE;subst ez;refine Ia (L:=L) (outer:=X.outer) (P:=X.prog) (w:=X.w) (by rw[I1.ok.frames,hs]) hL (by rw[<- hs];exact I1.stack) I1.hok (fun b w=>I1.pers hex w) fl fun h' T' ps fl' hT=> ?_;have hpT:∀ p∈X.pn++pins,p.1≠ea/\p.1≠T':=fun p hp=>⟨(hpn p hp).1,fun w=>by
     rcases hT with rfl|hT
     ·exact(hpn p hp).2 w
     ·have:=(I1.pin p hp).1
      rw[w,hT] at this;cases this⟩
    have I2:Inv X pins σ' H' { s' with heap:=h' }:=I1.passed hex (by rw[hs];exact ps) fl.h0e fl.h0T fl.He fl.HT hpn fl.fields;have I3:=Hc I2;have run:∀ {G:OS}{b:cz}{r:List cz}{s4:au},OSs (Xm X ea) cls EF (b::r) G->sNx G (aj ρ.length xx) ω1=xw (o,ω')->Inv (Xm X ea) pins (aj σ'.length xx) H' s4->bc (model X.prog X.w) (Xm X ea).A (execs (b::r) X.env) (SP X pins D) (fun _ _=>False) s4:=fun {G b r s4} hG eG I4=>by
     obtain⟨eG,hn⟩:=Ev eG;have hlen:σ'.length=ρ.length:=by rw[I1.len,<- I.len,P.len]
     refine hZ (hG pins s4 _ H' D I4 ⟨ok',_,ω1,o,ω',⟨nw.okh,nw.st,fun i d w=> ?_,by simp[hlen]⟩,eG,?_⟩) (fun _ _ z=>SP.unmarked I.ok.hd z) fun _ _ z=>z
     ·rw[dc] at w;split at w <;> cases w
     ·have q':=q.nw nw;cases o with
      |ex c=>exact absurd rfl (hn c)
      |_=>exact q'
    have e0:(if c=c1 then sNx G1 (aj ρ.length xx) ω1 else if c=c2 then sNx G2 (aj ρ.length xx) ω1 else xx)=xw (o,ω'):=e
    by_cases hz1:c=c1
    ·subst hz1;have e':sNx G1 (aj ρ.length xx) ω1=xw (o,ω'):=by
      rw[if_pos rfl] at e0;exact e0
     refine lA I3 hex fl' hpT hg1 hm1 ho1 ho1 (fun _ s4 I4=>run (h1 ea) e' I4) (fun w=> ?_) hd1;exact absurd w (by simp)
    ·have e2:(if c=c2 then sNx G2 (aj ρ.length xx) ω1 else xx)=xw (o,ω'):=by
      rw[if_neg hz1] at e0;exact e0
     obtain⟨hz2,e3⟩:=cR e2;subst hz2;refine lA I3 hex fl' hpT hg1 hm1 ho2 ho1 (fun w=> ?_) (fun _=> ?_) hd1
     ·rw[hne] at w;cases w
     ·refine lA I3 hex fl' hpT hg2 hm2 ho2 ho2 (fun _ s4 I4=>run (h2 ea) e3 I4) (fun w=> ?_) hd2;exact absurd w (by simp)
   refine hZ (hb _ _ E' ex [] s σ H D I.pned ⟨ok,ρ,ω,o1,ω1,P,eF,hout⟩) (fun f s₁ z=> ?_) fun _ _ z=>z;have z':=SP.unpned z;cases f with
   |next=>
    obtain⟨σ',H',I',q'⟩:=z';exact ph ⟨σ',H',I',q'⟩
   |_=>exact z'
  cases o1 with
  |ex c=>exact main (fun c' H'=>(∃ ok',Nw cls X.K ok H ok' H' ω1)/\c'=c) (fun c' H' ⟨⟨ok',n⟩,ez⟩=>⟨ok',n,c,rfl,ez⟩) fun ok' H' n=>⟨⟨ok',n⟩,rfl⟩
  |nx ρ1=>cases e;exact main (fun _ _=>False) (fun _ _ z=>z.elim) q
  |rt d=>cases e;exact main (fun _ _=>False) (fun _ _ z=>z.elim) q
  |bk ρ1=>cases e;exact main (fun _ _=>False) (fun _ _ z=>z.elim) q
  |ct ρ1=>cases e;exact main (fun _ _=>False) (fun _ _ z=>z.elim) q
end
def RawD (h:c9) (d:af) (es:Array l7) (ep:Nat):Prop:=∃ o,h.get? d=xw o/\o.ExactDict/\o.data=.dict es ep
theorem RawD.at (x:RawD h d es ep) (k:∀ o,h.get? d=xw o->h'.get? d=xw o):RawD h' d es ep:=let ⟨o,e,r⟩:=x;⟨o,k o e,r⟩
theorem RawD.typeIs {s:au} (x:RawD s.heap d es ep):s.TypeIs (.ref d) "dict":=let ⟨o,e,c,_⟩:=x;⟨o,e,c.1⟩
theorem RawD.lt (x:RawD h d es ep):d<h.objs.size:=let ⟨_,e,_⟩:=x;bp e
section
variable {prog:di}{w:du}{A:d7}{E:ag->au->Prop}{s:au}{d v it:af}{es:Array l7}{ep i:Nat}
theorem Da (lo:(d==fy)=false) (r:RawD s.heap d es ep) (q:Q (.ref s.heap.objs.size) { s with heap:=s.heap.push { cls:=.type "dict_values",data:=.fields #[.ref d] } }):
  bc (model prog w) A (call (.builtin "dict.values") [.ref d]) Q E s:=by
 refine vm (prog:=prog) (w:=w) rm r.typeIs PySem.F.entry_dict_values (PySem.F.args_dict_values_1 _) (S:=fun _ R t=>RawD t.heap d es ep/\R (.ok (.ret (.ref t.heap.objs.size))) { t with heap:=t.heap.push { cls:=.type "dict_values",data:=.fields #[.ref d] } }) (.of_wp fun B R t z=> ?_) ⟨r,q⟩;obtain⟨r1,q1⟩:=z;refine ae ?_;unfold Builtin.Dict.noArgs;refine ae (uf r1.typeIs ?_);show bc _ _ (pure d) _ _ t;refine ar ?_;show bc _ _ (l0 d >>= _) _ _ t;unfold l0;rw[if_neg (show ¬((d==fy)=true) by rw[lo];exact cj)];exact ae (ar (ae (fj (ar ⟨_,rfl,q1⟩))))
theorem EE (vw:s.heap.IsValuesView v d) (r:RawD s.heap d es ep)
  (q:Q (.ref s.heap.objs.size) { s with heap:=s.heap.push { cls:=.type "dict_valueiterator",data:=.fields #[.ref d,.int 0 0,.int es.size 0,.int ep 0] } }):bc (model prog w) A (pyIter (.ref v)) Q E s:=by
 obtain⟨ov,v1,v2,v3⟩:=id vw;obtain⟨o,r1,r2,r3⟩:=id r;refine wpAny_pyIter_slot vw.typeIs pv (ip pv vw.typeIs PySem.F.entry_dict_values_iter ?_ (PySem.F.args_dict_values_iter_1 _));unfold Builtin.«dict_values.__iter__»;refine ae (ar (ae ?_));unfold xq;refine ae (tq v1 v3 (x:=.ref d) rfl (ar (ae ?_)));unfold xc;refine ae (j0 r1 r3 (ae (lm r1 r3 ?_)));have own:iy "dict_valueiterator"=false:=by decide
 simp only[own,d8,ite_false];refine fj (ar ⟨_,rfl,"dict_valueiterator",_,⟨_,bz _ rfl,rfl⟩,gk.lookup,?_⟩);simpa [my] using q
theorem ED (vi:s.heap.IsValIter it d i es.size ep) (r:RawD s.heap d es ep) (hx:es[i]?=xw e)
  (q:∀ h',h'.IsValIter it d (i+1) es.size ep->f8 it s.heap h'->Q (xw e.val) { s with heap:=h' }):bc (model prog w) A (oq (.ref it)) Q E s:=by
 obtain⟨o,i1,i2,i3⟩:=id vi;obtain⟨od,r1,r2,r3⟩:=id r;have lt:i<es.size:=(md.mp hx).1;have own:iy "dict_valueiterator"=false:=by decide
 unfold oq;refine ae (qj (jl (name:=jz "__next__") vi.typeIs gk (ip gk vi.typeIs mv ?_ (mh _))));refine ae (ar (ae (ae ?_)))
 first|refine ae (ji vi.typeIs (ar ?_))|refine ae (kj vi.typeIs (ar ?_))
 refine ae (p9 i1 i3 ?_);simp only[own,d8,ite_false];show bc _ _ (if(cq d==iu)=true then _ else _) _ _ s;rw[if_neg (show ¬((cq d==iu)=true) from fun z=>nomatch z)];refine ae (ar (ae (j0 r1 r3 ?_)));rw[if_neg (by simp:¬ _)];refine ae (ar (ae (lm r1 r3 ?_)));rw[if_neg (by simp:¬ _)];refine ar ?_;simp only[show ¬((i:Int)<0) by omega,ite_false,cw,hx];refine ae ?_
 first|refine ae (ji vi.typeIs (ar ?_))|refine ae (kj vi.typeIs (ar ?_))
 refine ae (pf vi.typeIs ?_);show bc _ _ (setField (.ref it) 1 (my ((i:Int)+1)) >>= _) _ _ s;refine ae (qc i1 i3 (by simp) ?_);have vi2:(s.heap.update it (me (·.setIfInBounds 1 (my ((i:Int)+1))))).IsValIter it d (i+1) es.size ep:=⟨_,gz _ i1 (pe (jt i3 _)),(wc ..).trans i2,by rw[jt i3];simp[my]⟩;refine ae (i8 (ae (pf (s:={ s with heap:=s.heap.update it (me (·.setIfInBounds 1 (my ((i:Int)+1)))) }) vi2.typeIs ?_)));refine ae (pf (s:={ s with heap:=s.heap.update it (me (·.setIfInBounds 1 (my ((i:Int)+1)))) }) vi2.typeIs ?_);exact ar (ar ⟨_,rfl,ar (q _ vi2 (mj ..))⟩)
theorem Ht (hh:A.handled=xx) (vi:s.heap.IsValIter it d i es.size ep) (r:RawD s.heap d es ep) (hx:es.size<=i) (q:∀ h',Heap.ExtBut it s.heap h'->Q xx { s with heap:=h' }):bc (model prog w) A (oq (.ref it)) Q E s:=by
 obtain⟨o,i1,i2,i3⟩:=id vi;obtain⟨od,r1,r2,r3⟩:=id r;have own:iy "dict_valueiterator"=false:=by decide
 unfold oq;refine ae (qj (jl (name:=jz "__next__") vi.typeIs gk (ip gk vi.typeIs mv ?_ (mh _))));refine ae (ar (ae (ae ?_)))
 first|refine ae (ji vi.typeIs (ar ?_))|refine ae (kj vi.typeIs (ar ?_))
 refine ae (p9 i1 i3 ?_);simp only[own,d8,ite_false];show bc _ _ (if(cq d==iu)=true then _ else _) _ _ s;rw[if_neg (show ¬((cq d==iu)=true) from fun z=>nomatch z)];refine ae (ar (ae (j0 r1 r3 ?_)));rw[if_neg (by simp:¬ _)];refine ae (ar (ae (lm r1 r3 ?_)));rw[if_neg (by simp:¬ _)];refine ar ?_;simp only[show ¬((i:Int)<0) by omega,ite_false,cw,t7 hx];refine ae ?_
 first|refine ae (ji vi.typeIs (ar ?_))|refine ae (kj vi.typeIs (ar ?_))
 show bc _ _ (setField (.ref it) 0 .none >>= _) _ _ s;refine ae (qc i1 i3 (by simp) ?_);show bc _ _ (newExc (.type "StopIteration") [] >>= _) _ _ _;refine ae ?_;simp only[newExc,newTuple];refine ae (fj (ae (m:=qd _ _) (wpAny_of_eq (a:=iu) (by first|rfl|(simp only[qd];rfl)) ?_)) (by size_fits));refine fj ?_ (by size_fits);simp only[raiseNew];refine ae (wpAny_handled ?_);rw[show A.in1.handled=xx from hh];refine ae (ar (wpAny_throw ?_));refine ae (wpAny_isInstance (T:="StopIteration") (b:=true) ⟨_,(bz _ rfl),rfl⟩ isSubtype_stop ?_);exact ar (q _ (((mj ..).extBut.push _).push _))
theorem Ni (hh:A.handled=xx) (I:af) (hne:d≠I):Walks prog w A I [I,d] [I] es.size (fun i v=>∃ e,es[i]?=xw e/\v=e.val) (fun i h=>h.IsValIter I d i es.size ep/\RawD h d es ep) where
 sub:=fun b hb=>by simp at hb;simp[hb]
 frame:=fun _ _ _ st hk=>⟨let ⟨o,e,z⟩:=st.1;⟨o,hk I (by simp) o e,z⟩,st.2.at fun o e=>hk d (by simp) o e⟩
 item:=fun i s Q E hi st hQ=>ED (e:=es[i]) st.1 st.2 (by simp[hi]) fun h' st' sb=>hQ _ h' s.toks ⟨es[i],by simp[hi],rfl⟩ ⟨st',st.2.at fun o e=>(sb.2 d hne).trans e⟩ fun b o hb e=>(sb.2 b fun z=>hb (by simp[z])).trans e
 done:=fun s Q E st hQ=>Ht hh st.1 st.2 (bf _) fun h' eb=>hQ h' s.toks fun b o hb e=>eb b o (fun z=>hb (by simp[z])) e
 self:=fun _ _ _ _ st hQ=>wpAny_pyIter_valiter st.1 hQ
theorem sT:qe prog w "dict_values" v d es.size (fun i x=>∃ e,es[i]?=xw e/\x=e.val) (fun h=>h.IsValuesView v d/\RawD h d es ep) where
 type:=fun _ z=>z.1.typeIs
 there:=fun _ z=>⟨let ⟨_,e,_⟩:=z.1;bp e,z.2.lt⟩
 keep:=fun _ _ z hk=>⟨let ⟨o,e,x⟩:=z.1;⟨o,hk v (.inl rfl) o e,x⟩,z.2.at fun o e=>hk d (.inr rfl) o e⟩
 notList:=by decide
 notTuple:=by decide
 hint:=fun _ _ _ _ z hq=>PySem.W.kdl_hint_values z.1.typeIs hq
 iter:=fun _ _ hh z=>⟨_,_,(fun _ _ hq=>EE z.1 z.2 hq),Ni hh _ (ck z.2.lt),⟨⟨_,bz _ rfl,rfl,rfl⟩,z.2.at fun o e=>az _ e⟩⟩
theorem xP (lo:(d==fy)=false) (r:RawD s.heap d es ep)
  (q:Q (.ref s.heap.objs.size) { s with heap:=s.heap.push { cls:=.type "dict_keyiterator",data:=.fields #[.ref d,.int 0 0,.int es.size 0,.int ep 0] } }):bc (model prog w) A (pyIter (.ref d)) Q E s:=by
 obtain⟨o,r1,r2,r3⟩:=id r;refine wpAny_pyIter_slot r.typeIs ow (ip ow r.typeIs PySem.F.entry_dict_iter ?_ (PySem.F.args_dict_iter_1 _));unfold Builtin.«dict.__iter__»;refine ae ?_;unfold Builtin.Dict.dictSlotNone;refine ae (uf r.typeIs ?_);show bc _ _ (pure (cq d)) _ _ s;refine ar ?_;show bc _ _ (l0 d >>= _) _ _ s;unfold l0;rw[if_neg (show ¬((d==fy)=true) by rw[lo];exact cj)];refine ae (ar (ae (j0 r1 r3 (ae (lm r1 r3 ?_)))));refine ae (fj (ar ⟨_,rfl,"dict_keyiterator",_,⟨_,bz _ rfl,rfl⟩,gv.lookup,?_⟩));simpa [my] using q
theorem xO (vi:s.heap.IsKeyIter it d i es.size ep) (r:RawD s.heap d es ep) (hx:es[i]?=xw e)
  (q:∀ h',h'.IsKeyIter it d (i+1) es.size ep->f8 it s.heap h'->Q (xw e.key) { s with heap:=h' }):bc (model prog w) A (oq (.ref it)) Q E s:=by
 obtain⟨o,i1,i2,i3⟩:=id vi;obtain⟨od,r1,r2,r3⟩:=id r;have lt:i<es.size:=(md.mp hx).1;have own:iy "dict_keyiterator"=false:=by decide
 unfold oq;refine ae (qj (jl (name:=jz "__next__") vi.typeIs gv (ip gv vi.typeIs oj ?_ (nj _))));refine ae (ar (ae (ae ?_)))
 first|refine ae (jj vi.typeIs (ar ?_))|refine ae (km vi.typeIs (ar ?_))
 refine ae (p9 i1 i3 ?_);simp only[own,d8,ite_false];show bc _ _ (if(cq d==iu)=true then _ else _) _ _ s;rw[if_neg (show ¬((cq d==iu)=true) from fun z=>nomatch z)];refine ae (ar (ae (j0 r1 r3 ?_)));rw[if_neg (by simp:¬ _)];refine ae (ar (ae (lm r1 r3 ?_)));rw[if_neg (by simp:¬ _)];refine ar ?_;simp only[show ¬((i:Int)<0) by omega,ite_false,cw,hx];refine ae ?_
 first|refine ae (jj vi.typeIs (ar ?_))|refine ae (km vi.typeIs (ar ?_))
 refine ae (ug vi.typeIs ?_);show bc _ _ (setField (.ref it) 1 (my ((i:Int)+1)) >>= _) _ _ s;refine ae (qc i1 i3 (by simp) ?_);have vi2:(s.heap.update it (me (·.setIfInBounds 1 (my ((i:Int)+1))))).IsKeyIter it d (i+1) es.size ep:=⟨_,gz _ i1 (pe (jt i3 _)),(wc ..).trans i2,by rw[jt i3];simp[my]⟩;refine ae (i8 (ae (ug (s:={ s with heap:=s.heap.update it (me (·.setIfInBounds 1 (my ((i:Int)+1)))) }) vi2.typeIs ?_)));exact ar (ar ⟨_,rfl,ar (q _ vi2 (mj ..))⟩)
theorem BM (hh:A.handled=xx) (vi:s.heap.IsKeyIter it d i es.size ep) (r:RawD s.heap d es ep) (hx:es.size<=i) (q:∀ h',Heap.ExtBut it s.heap h'->Q xx { s with heap:=h' }):bc (model prog w) A (oq (.ref it)) Q E s:=by
 obtain⟨o,i1,i2,i3⟩:=id vi;obtain⟨od,r1,r2,r3⟩:=id r;have own:iy "dict_keyiterator"=false:=by decide
 unfold oq;refine ae (qj (jl (name:=jz "__next__") vi.typeIs gv (ip gv vi.typeIs oj ?_ (nj _))));refine ae (ar (ae (ae ?_)))
 first|refine ae (jj vi.typeIs (ar ?_))|refine ae (km vi.typeIs (ar ?_))
 refine ae (p9 i1 i3 ?_);simp only[own,d8,ite_false];show bc _ _ (if(cq d==iu)=true then _ else _) _ _ s;rw[if_neg (show ¬((cq d==iu)=true) from fun z=>nomatch z)];refine ae (ar (ae (j0 r1 r3 ?_)));rw[if_neg (by simp:¬ _)];refine ae (ar (ae (lm r1 r3 ?_)));rw[if_neg (by simp:¬ _)];refine ar ?_;simp only[show ¬((i:Int)<0) by omega,ite_false,cw,t7 hx];refine ae ?_
 first|refine ae (jj vi.typeIs (ar ?_))|refine ae (km vi.typeIs (ar ?_))
 show bc _ _ (setField (.ref it) 0 .none >>= _) _ _ s;refine ae (qc i1 i3 (by simp) ?_);show bc _ _ (newExc (.type "StopIteration") [] >>= _) _ _ _;refine ae ?_;simp only[newExc,newTuple];refine ae (fj (ae (m:=qd _ _) (wpAny_of_eq (a:=iu) (by first|rfl|(simp only[qd];rfl)) ?_)) (by size_fits));refine fj ?_ (by size_fits);simp only[raiseNew];refine ae (wpAny_handled ?_);rw[show A.in1.handled=xx from hh];refine ae (ar (wpAny_throw ?_));refine ae (wpAny_isInstance (T:="StopIteration") (b:=true) ⟨_,(bz _ rfl),rfl⟩ isSubtype_stop ?_);exact ar (q _ (((mj ..).extBut.push _).push _))
theorem Nj (hh:A.handled=xx) (I:af) (hne:d≠I):Walks prog w A I [I,d] [I] es.size (fun i v=>∃ e,es[i]?=xw e/\v=e.key) (fun i h=>h.IsKeyIter I d i es.size ep/\RawD h d es ep) where
 sub:=fun b hb=>by simp at hb;simp[hb]
 frame:=fun _ _ _ st hk=>⟨let ⟨o,e,z⟩:=st.1;⟨o,hk I (by simp) o e,z⟩,st.2.at fun o e=>hk d (by simp) o e⟩
 item:=fun i s Q E hi st hQ=>xO (e:=es[i]) st.1 st.2 (by simp[hi]) fun h' st' sb=>hQ _ h' s.toks ⟨es[i],by simp[hi],rfl⟩ ⟨st',st.2.at fun o e=>(sb.2 d hne).trans e⟩ fun b o hb e=>(sb.2 b fun z=>hb (by simp[z])).trans e
 done:=fun s Q E st hQ=>BM hh st.1 st.2 (bf _) fun h' eb=>hQ h' s.toks fun b o hb e=>eb b o (fun z=>hb (by simp[z])) e
 self:=fun _ _ _ _ st hQ=>uo st.1 hQ
theorem BG (lo:(d==fy)=false):qe prog w "dict" d d es.size (fun i x=>∃ e,es[i]?=xw e/\x=e.key) (fun h=>RawD h d es ep) where
 type:=fun _ z=>z.typeIs
 there:=fun _ z=>⟨z.lt,z.lt⟩
 keep:=fun _ _ z hk=>z.at fun o e=>hk d (.inl rfl) o e
 notList:=by decide
 notTuple:=by decide
 hint:=fun _ _ _ _ z hq=>PySem.W.kdl_hint_dict z.typeIs hq
 iter:=fun _ _ hh z=>⟨_,_,(fun _ _ hq=>xP lo z hq),Nj hh _ (ck z.lt),⟨⟨_,bz _ rfl,rfl,rfl⟩,z.at fun o e=>az _ e⟩⟩
end
theorem _root_.L2.Inv.laidN (I:Inv X pins σ H s) (k:∀ b u,s.heap.get? b=xw u->h'.get? b=xw u) (n:s.heap.get? a=xx) (new:ObjOk X.prog X.w (upd H a o) h' a o):
  H a=xx/\Inv X pins σ (upd H a o) { s with heap:=h',toks:=t' }:=by
 have hn:H a=xx:=by
  cases q:H a with
  |none=>rfl
  |some u=>
   obtain⟨v,w⟩:=HOk.obj I.hok q;rw[n] at w;cases w
 have ne:∀ {b:af}{u:Obj},s.heap.get? b=xw u->b≠a:=fun e z=>by rw[z,n] at e;cases e
 refine⟨hn,I.un ⟨fun b u e _ _ _=>k b u e,fun b u e _ _ _=>⟨u.slots,k b u e⟩,fun b u e q _=>by rw[aH (ne e)];exact q,fun b u e _=>⟨u,k b u e⟩,fun b xs e=>by rw[aH (aN e hn)];exact e,fun b u v e=>by rw[aH (aN e hn)];exact e,fun b ps e=>⟨#[],by rw[aH (aN e hn),e];simp⟩⟩ fun b u e=> ?_⟩
 by_cases hb:b=a
 ·subst hb;rw[aP] at e;cases e;exact new
 ·rw[aH hb] at e;exact(I.hok b u e).stay (fun c v _ q=>k c v q) (fun c q=>by rw[aH (aN q hn)];exact q) fun c xs q=>by rw[aH (aN q hn)];exact q
section
variable {prog:di}{w:du}{A:d7}{E:ag->au->Prop}{s:au}
theorem QF (ho:s.heap.get? a=xw (ib "list" vs.toArray n)) (h1:vs.length<2)
  (h:P (.done (.ret .none)) { s with heap:=qr s.heap a vs ((vs.toArray.zip vs.toArray).map (·.2)) }):bc (model prog w) A (Builtin.«list.sort» ⟨[.ref a],[]⟩) P E s:=by
 have la:a<s.heap.objs.size:=bp ho;have z:vs.toArray.size<2:=by rw[bi];exact h1
 obtain⟨e1,o1⟩:∃ e1,(s.heap.update a (k9 fun _=> #[])).get? a=xw (ib "list" #[] e1):=⟨_,ss ho (fun _=> #[])⟩;have o2:(((s.heap.update a (k9 fun _=> #[])).push (ib "tuple" vs.toArray 0)).push (ib "list" #[] 0)).get? a=xw (ib "list" #[] e1):=az _ (az _ o1);rw[list_sort_plain];refine ae (listItems_at ho rfl (ae (listUpdate_at ho rfl (ae (seqEpoch_at o1 rfl (ae (wpAny_newTuple (ae (ux (i8 ?_))))))))));show bc (model prog w) A _ P E { s with heap:=((s.heap.update a (k9 fun _=> #[])).push (ib "tuple" vs.toArray 0)).push (ib "list" #[] 0) };dsimp only;rw[if_pos z,if_pos z];refine ae (ar ?_);rw[StateT.run_pure];refine ae (ar ?_);dsimp only;refine ae (seqEpoch_at o2 rfl (ae (listUpdate_at o2 rfl ?_ (hsz2:=by rw[Array.size_map];show(vs.toArray.zip vs.toArray).size<=_;rw[Array.size_zip,bi,bt];omega))));simp only[bne_self_eq_false,d8,ite_false];exact ar h
theorem pG (col:∀ {R:List ag->au->Prop},(∀(h':c9) (tk:Nat) (acc:Array ag),(∀ b o,s.heap.get? b=xw o->h'.get? b=xw o)->ItemsOf P acc n->R acc.toList { s with heap:=h',toks:=tk })->bc (model prog w) A.in1 (collect (.ref r)) R E s) (hn:n<2)
  (h:∀(h':c9) (tk:Nat) (vs:List ag) (a:af) (c:Nat),(∀ b o,s.heap.get? b=xw o->h'.get? b=xw o)->s.heap.get? a=xx->vs.length=n->(∀(j:Nat) (v:ag),vs[j]?=xw v->P j v)->h'.get? a=xw (ib "list" vs.toArray c)->Q (.ref a) { s with heap:=h',toks:=tk }):
  bc (model prog w) A (call (.builtin "sorted") [.ref r]) Q E s:=by
 refine qt kind_sorted plain_sorted entry_sorted (args_sorted1 _) ?_;unfold Builtin.«sorted»;refine ae (m:=checkCount "sorted" 1 1 _) (ar (ae (col fun h1 tk acc kp it=> ?_)));have hl:acc.toList.length=n:=by rw[ff];exact it.1
 refine ae (ux ?_ (by rw[hl,bt];omega));have o1:(h1.push (ib "list" acc.toList.toArray 0)).get? h1.objs.size=xw (ib "list" acc.toList.toArray 0):=bz _ rfl;refine ae (i8 (ip slot_list_sort ⟨_,o1,rfl⟩ entry_list_sort (QF (s:={ s with heap:=h1.push (ib "list" acc.toList.toArray 0),toks:=tk }) o1 (by rw[hl];exact hn) ⟨_,rfl,?_⟩) (args_list_sort _)));have nw:s.heap.get? h1.objs.size=xx:=by
  cases q:s.heap.get? h1.objs.size with
  |none=>rfl
  |some u=>exact absurd (bp (kp _ _ q)) (gx _)
 have ez:(acc.toList.toArray.zip acc.toList.toArray).map (·.2)=acc.toList.toArray:=by
  apply Array.ext';rw[Array.toList_map,Array.toList_zip];simp[List.map_snd_zip]
 have ne:∀ b,b≠h1.objs.size->∀ o,h1.get? b=xw o->(qr (h1.push (ib "list" acc.toList.toArray 0)) h1.objs.size acc.toList ((acc.toList.toArray.zip acc.toList.toArray).map (·.2))).get? b=xw o:=fun b hb o e=>by
  unfold qr;rw[fw _ _ (bx hb)];refine az _ (az _ ?_);rw[fw _ _ (bx hb)];exact az _ e
 have o2:=ss o1 (fun _=> #[]);have o3:=ss (az (ib "list" #[] 0) (az (ib "tuple" acc.toList.toArray 0) o2)) (fun _=>(acc.toList.toArray.zip acc.toList.toArray).map (·.2));have o4:∃ c,(qr (h1.push (ib "list" acc.toList.toArray 0)) h1.objs.size acc.toList ((acc.toList.toArray.zip acc.toList.toArray).map (·.2))).get? h1.objs.size=xw (ib "list" acc.toList.toArray c):=by
  unfold qr;rw[ez] at o3 ⊢;exact⟨_,o3⟩
 obtain⟨c,o4⟩:=o4;exact ar ⟨_,rfl,h _ tk acc.toList h1.objs.size c (fun b o e=>ne b (fun z=>by rw[z,nw] at e;cases e) o (kp b o e)) nw hl (fun j v e=>it.2 j v (by rw[<- im];exact e)) o4⟩
theorem pE (K:qe prog w T r d n P OK) (hh:A.handled=xx) (hok:OK s.heap) (hn:n<2)
  (h:∀(h':c9) (tk:Nat) (vs:List ag) (a:af) (c:Nat),(∀ b o,s.heap.get? b=xw o->h'.get? b=xw o)->s.heap.get? a=xx->vs.length=n->(∀(j:Nat) (v:ag),vs[j]?=xw v->P j v)->h'.get? a=xw (ib "list" vs.toArray c)->Q (.ref a) { s with heap:=h',toks:=tk }):
  bc (model prog w) A (call (.builtin "sorted") [.ref r]) Q E s:=
 pG (fun h=>uz (A:=A.in1) K hh hok (by rw[bt];omega) h) hn h
end
noncomputable abbrev lf (g:D->D->Option D):Om->D->D->Option (D×Om):=fun ω a b=>pu (g a b) ω
noncomputable abbrev lfL (g:List D->Option D):Om->List D->Option (D×Om):=fun ω a=>pu (g a) ω
noncomputable def Ny:OS:=fun _ _=>xx
noncomputable def fG (ω:Om) (d:D):Option (List D):=match d with
 |.lst ds=>xw ds
 |.obj n=>match ω[n]? with
  |some (.ml ds)=>xw ds
  |_=>xx
 |_=>xx
theorem fF (h:fG ω d=xw ds):d=.lst ds∨∃ n,d=.obj n/\ω[n]?=xw (.ml ds):=by
 cases d with
 |lst xs=>cases h;exact .inl rfl
 |obj n=>
  have h':(match ω[n]? with
   |some (.ml ds)=>xw ds
   |_=>xx)=xw ds:=h
  split at h'
  ·cases h';exact .inr ⟨n,rfl,‹_›⟩
  ·cases h'
 |_=>cases h
theorem eI {K:aa} (t:Stt cls K ok H ω) (r:Rep K ok H v d) (e:fG ω d=xw ds):∃ a xs,v=.ref a/\H a=xw (.lst xs)/\Reps K ok H xs ds:=by
 rcases fF e with rfl|⟨n,rfl,e1⟩
 ·obtain⟨a,xs,rfl,g,rs⟩:=r.lst_inv;exact⟨a,xs,rfl,g.2,rs⟩
 ·obtain⟨a,rfl,e2,xs,e3,rs⟩:=t.ref r e1;exact⟨a,xs,rfl,e3,rs⟩
section
variable {X:Cx}{cls exC:Nat->af}{E:XE}{e a b c o i value:bv}{es rest:List bv}{fa fb fc fo fi fv:OG D}{fl:OG (List D)}{ft ft':OG Bool}{pos p apos pos':Pos}{x m:Str}{st:cz}
theorem Ld:OSt X cls E st Ny:=fun _ _ _ _ _ _ ⟨_,_,_,_,_,_,z,_⟩=>nomatch z
theorem Pb (ha:OE X cls E a fa) (hb:OE X cls E b fb):OE X cls E (.BinOp a .Add b pos) (o2 (lf rR) fa fb):=rX OF (Fit2.lift (kR fun _ _ _ _=>.int _)) ha hb
theorem OM (ha:OE X cls E a fa) (hb:OE X cls E b fb):OE X cls E (.BinOp a .Sub b pos) (o2 (lf gSub) fa fb):=rX Ow (Fit2.lift (kR fun _ _ _ _=>.int _)) ha hb
theorem OP (ha:OE X cls E a fa) (hb:OE X cls E b fb):OE X cls E (.BinOp a .Mult b pos) (o2 (lf jC) fa fb):=rX Ox (Fit2.lift (PH (fun i j h=>by unfold CMul;omega) fun _ _ _ _=>.int _)) ha hb
theorem OQ (ha:OE X cls E a fa) (hb:OE X cls E b fb):OE X cls E (.BinOp a .Mod b pos) (o2 (lf cU) fa fb):=rX Oy (Fit2.lift (PH (fun _ _ h=>h) fun _ _ _ _=>.int _)) ha hb
theorem Rc (ha:OE X cls E a fa) (hb:OE X cls E b fb):OE X cls E (.Compare a [.LtE] [b] pos) (o2 (lf gLe) fa fb):=BU Lm (Fit2.lift (kR fun _ _ _ _=>.bl _)) ha hb (gU _)
theorem Rf (ha:OE X cls E a fa) (hb:OE X cls E b fb):OE X cls E (.Compare a [.Gt] [b] pos) (o2 (lf gGt) fa fb):=BU OC (Fit2.lift (kR fun _ _ _ _=>.bl _)) ha hb (gU _)
theorem QU (ha:OE X cls E a fa) (hb:OE X cls E b fb):OT X cls E (.Compare a [.Lt] [b] pos) (bS (o2 (lf gLt) fa fb)):=jG Oz (Fit2.lift (kR fun _ _ _ _=>.bl _)) ha hb (gU _)
theorem QV (ha:OE X cls E a fa) (hb:OE X cls E b fb):OT X cls E (.Compare a [.LtE] [b] pos) (bS (o2 (lf gLe) fa fb)):=jG Lm (Fit2.lift (kR fun _ _ _ _=>.bl _)) ha hb (gU _)
theorem QX (ha:OE X cls E a fa) (hb:OE X cls E b fb):OT X cls E (.Compare a [.Gt] [b] pos) (bS (o2 (lf gGt) fa fb)):=jG OC (Fit2.lift (kR fun _ _ _ _=>.bl _)) ha hb (gU _)
theorem QY (ha:OE X cls E a fa) (hb:OE X cls E b fb):OT X cls E (.Compare a [.GtE] [b] pos) (bS (o2 (lf gGe) fa fb)):=jG Ra (Fit2.lift (kR fun _ _ _ _=>.bl _)) ha hb (gU _)
theorem OV (ha:OE X cls E a fa) (hb:OE X cls E b fb):OE X cls E (.Compare a [.Is] [b] pos) (o2 (lf Pz) fa fb):=BU JT (Fit2.lift Gh) ha hb (gU _)
theorem Ol (ha:OE X cls E a fa) (hb:OE X cls E b fb):OT X cls E (.Compare a [.Is] [b] pos) (bS (o2 (lf Pz) fa fb)):=jG JT (Fit2.lift Gh) ha hb (gU _)
theorem KZ (ha:OE X cls E a fa) (hb:OE X cls E b fb):OT X cls E (.Compare a [.IsNot] [b] pos) (bS (o2 (lf Mv) fa fb)):=jG Lk (Fit2.lift IT) ha hb (gU _)
theorem QW (hu:Ha X (n+1)) (ha:OE X cls E a fa) (hb:OE X cls E b fb) (hm:i7 .In b=false:=by with_unfolding_all rfl):OT X cls E (.Compare a [.In] [b] pos) (bS (o2 (lf (gIn n)) fa fb)):=jG (OB hu) (Fit2.lift PF) ha hb hm
theorem HK (hu:Ha X (n+1)) (ha:OE X cls E a fa) (hb:OE X cls E b fb) (hm:i7 .NotIn b=false:=by with_unfolding_all rfl):OT X cls E (.Compare a [.NotIn] [b] pos) (bS (o2 (lf (Co n)) fa fb)):=jG (EV hu) (Fit2.lift Ge) ha hb hm
noncomputable def tI (g g':D->D->Option D) (fa fb fc:OG D):OG Bool:=oB fa fun x=>oB fb fun y ρ ω=>match (g x y).bind toB with
 |none=>xx
 |some true=>oB fc (fun z _ ω=>oR (pu ((g' y z).bind toB) ω)) ρ ω
 |some false=>xw (.ok false,ω)
theorem ES (ho:OpR X (fu op) r) (F:Fit2 X.K r g) (ho':OpR X (fu op') r') (F':Fit2 X.K r' g') (ha:OE X cls E a fa) (hb:OE X cls E b fb) (hc:OE X cls E c fc)
  (hm:lastMarks [op,op'] [b,c]=false:=by with_unfolding_all rfl):OT X cls E (.Compare a [op,op'] [b,c] pos) (tI g g' fa fb fc):=(HA ho ho' ha hb hc hm).imp fun σ H Q ⟨ok,ρ,ω,rz,ω',P,e,q⟩=>by
 refine tO.then_ P e (fun c z=>by subst z;exact q) fun x ω1 v ok1 H1 e1 n1 P1 r1=> ?_;refine tO.then_ P1 e1 (fun c z=>by subst z;exact exR.nw q n1) fun y ω2 u ok2 H2 e2 n2 P2 r2=> ?_;cases hg:(g x y).bind toB with
 |none=>rw[hg] at e2;cases e2
 |some k=>
  rw[hg] at e2;obtain⟨dk,g1,g2⟩:=bind_some hg;obtain rfl:=oY g2;refine F ok2 H2 v u x y _ _ P2.okh (r1.ex n2.ex) r2 g1 fun w H3 s3 r3=>⟨k,r3.bl_inv,?_⟩;have n3:Nw cls X.K ok2 H2 ok2 H3 ω2:=.same P2.okh P2.st s3;cases k with
  |false=>
   cases e2;exact Nc ⟨false,rfl,q ok2 H3 (n1.trans (n2.trans n3))⟩
  |true=>
   refine Nb (tO.then_ (P2.nw n3) e2 (fun c z=>by subst z;exact exR.nw q (n1.trans (n2.trans n3))) fun z ω4 w4 ok4 H4 e4 n4 P4 r4=> ?_);obtain⟨k',e5,rfl⟩:=cJ e4;obtain⟨ue5,rfl⟩:=cK e5;obtain⟨dk',g3,g4⟩:=bind_some ue5;obtain rfl:=oY g4;exact F' ok4 H4 u w4 y z _ _ P4.okh ((r2.ex n3.ex).ex n4.ex) r4 g3 fun w5 H5 s5 r5=>⟨k',r5.bl_inv,q ok4 H5 (n1.trans (n2.trans (n3.trans (n4.trans (.same P4.okh P4.st s5)))))⟩
theorem PD {K:aa}:Fit2 K (rI0 fun i j=>.bl (decide (i<=j))) gLe:=kR fun _ _ _ _=>.bl _
theorem PB {K:aa}:Fit2 K (rI0 fun i j=>.bl (decide (i<j))) gLt:=kR fun _ _ _ _=>.bl _
theorem La (ha:OE X cls E a fa) (hb:OE X cls E b fb) (hc:OE X cls E c fc) (hm:lastMarks [.LtE,.Lt] [b,c]=false:=by with_unfolding_all rfl):OT X cls E (.Compare a [.LtE,.Lt] [b,c] pos) (tI gLe gLt fa fb fc):=ES Lm PD Oz PB ha hb hc hm
noncomputable def vF (f g:OG D):OG D:=oB f fun d ρ ω=>match toB d with
 |none=>xx
 |some true=>g ρ ω
 |some false=>xw (.ok (.bl false),ω)
noncomputable def LO (f:OG D):OG D:=oB f fun d _ ω=>oR (pu (SJ d) ω)
theorem ON (h:OE X cls E a fa):OE X cls E (.BoolOp op [a] pos) fa:=NS h
theorem Pa (ha:OE X cls E a fa) (hb:OE X cls E (.BoolOp .And (b::rest) pos) fb):OE X cls E (.BoolOp .And (a::b::rest) pos) (vF fa fb):=(NZ ha hb).imp fun σ H Q ⟨ok,ρ,ω,r,ω',P,e,q⟩=>by
 refine tO.then_ P e (fun c z=>by subst z;exact q) fun d ω1 v ok1 H1 e1 n1 P1 r1=> ?_;cases hd:toB d with
 |none=>rw[hd] at e1;cases e1
 |some k=>
  rw[hd] at e1;obtain rfl:=oY hd;refine⟨k,r1.bl_inv,?_⟩;cases k with
  |true=>exact Nb ⟨ok1,ρ,ω1,r,ω',P1,e1,by
   cases r with
   |ok d=>exact fun v ok' H' n r=>q v ok' H' (n1.trans n) r
   |ex c=>exact exR.nw q n1⟩
  |false=>
   cases e1;exact Nc (q _ ok1 H1 n1 (.bl false))
theorem OO (ha:OE X cls E a fa):OE X cls E (.UnaryOp .Not a pos) (LO fa):=(NT ha).imp fun σ H Q ⟨ok,ρ,ω,r,ω',P,e,q⟩=>by
 refine tO.then_ P e (fun c z=>by subst z;exact q) fun d ω1 v ok1 H1 e1 n1 P1 r1=> ?_;obtain⟨y,e3,rfl⟩:=cJ e1;obtain⟨ue3,rfl⟩:=cK e3;obtain⟨k,e4,rfl⟩:=aG (show(toB d).map _=xw y from ue3);obtain rfl:=oY e4;exact⟨k,r1.bl_inv,q _ ok1 H1 n1 (.bl _)⟩
noncomputable def vS (ω:Om) (a b:D):Option (D×Om):=(fG ω a).bind fun xs=>(fG ω b).bind fun ys=>if xs.length+ys.length<=sizeLine then xw (.lst (xs++ys),ω) else xx
theorem OZ (ha:OE X cls E a fa) (hb:OE X cls E b fb):OE X cls E (.BinOp a .Add b pos) (o2 vS fa fb):=rX OD (fun ok H ω x y a b d ω' Q h1 st ra rb e k=>by
 obtain⟨xs,e1,e⟩:=bind_some e;obtain⟨ys,e2,e⟩:=bind_some e;obtain⟨hz,e3⟩:=bK e;cases e3;obtain⟨a1,us,rfl,g1,r1⟩:=eI st ra e1;obtain⟨b1,ws,rfl,g2,r2⟩:=eI st rb e2;exact⟨a1,b1,us,ws,rfl,rfl,g1,g2,by rw[r1.length,r2.length];exact hz,fun p n=>k _ ok _ (.same h1 st (cF n)) (.lst_new (h1 p n) n (r1.append r2))⟩) ha hb
theorem Reps.rep {K:aa} (h:Reps K ok H vs ds):∀ k:Nat,Reps K ok H (aj k vs).flatten (aj k ds).flatten
 |0=>.nil
 |k+1=>by
  rw[fz,fz,jg,jg];exact h.append (Reps.rep h k)
noncomputable def yN (ω:Om) (a b:D):Option (D×Om):=(fG ω a).bind fun xs=>(toI b).bind fun k=>if -1000000<=k/\k<=1000000/\xs.length*k.toNat<=sizeLine then xw (.obj ω.length,ω++[.ml (aj k.toNat xs).flatten]) else xx
theorem Lu (ha:OE X cls E a fa) (hb:OE X cls E b fb):OE X cls E (.BinOp a .Mult b pos) (o2 yN fa fb):=rX JR (fun ok H ω x y a b d ω' Q h1 st ra rb e k=>by
 obtain⟨xs,e1,e⟩:=bind_some e;obtain⟨kk,e2,e⟩:=bind_some e;obtain⟨hz,e3⟩:=bK e;cases e3;obtain rfl:=uT e2;obtain⟨a1,us,rfl,g1,r1⟩:=eI st ra e1;exact⟨a1,kk,us,rfl,rb.int_inv,g1,by omega,by omega,by rw[r1.length];exact hz.2.2,fun p n=>k _ _ _ (.ml h1 st n (r1.rep kk.toNat)) .new_obj⟩) ha hb
noncomputable def Mu (ω:Om) (a b:D):Option (D×Om):=(fG ω a).bind fun xs=>(toI b).bind fun k=>if -1000000<=k/\k<=1000000/\xs.length*k.toNat<=sizeLine then xw (.lst (aj k.toNat xs).flatten,ω) else xx
theorem Lv (ha:OE X cls E a fa) (hb:OE X cls E b fb):OE X cls E (.BinOp a .Mult b pos) (o2 Mu fa fb):=rX JR (fun ok H ω x y a b d ω' Q h1 st ra rb e k=>by
 obtain⟨xs,e1,e⟩:=bind_some e;obtain⟨kk,e2,e⟩:=bind_some e;obtain⟨hz,e3⟩:=bK e;cases e3;obtain rfl:=uT e2;obtain⟨a1,us,rfl,g1,r1⟩:=eI st ra e1;exact⟨a1,kk,us,rfl,rb.int_inv,g1,by omega,by omega,by rw[r1.length];exact hz.2.2,fun p n=>k _ ok _ (.same h1 st (cF n)) (.lst_new (h1 p n) n (r1.rep kk.toNat))⟩) ha hb
noncomputable def gC (ω:Om) (ds:List D):Option (D×Om):=match ds with
 |[d]=>match fG ω d with
  |some xs=>xw (.int xs.length,ω)
  |none=>pu (Rq [d]) ω
 |_=>xx
theorem IW {K:aa}:rQ cls K (fun xs H Q=>∃ x n,xs=[x]/\RJ K x H n/\Q (.int n) H) gC:=fun ok H ω xs as d ω' Q h1 st r e k=>by
 unfold gC at e;split at e
 ·split at e
  ·rename_i d0 ys hs
   cases e;obtain⟨v,rfl,r1⟩:=r.one_inv;obtain⟨a,us,rfl,g,rs⟩:=eI st r1 hs;exact⟨_,_,rfl,.inl ⟨_,SqL.of g,rs.length.symm⟩,k _ ok H (.refl h1 st) (.int _)⟩
  ·exact FitL.lift (cls:=cls) MD ok H ω xs _ d ω' Q h1 st r e k
 ·cases e
noncomputable def bZ (ω:Om) (d:D):Option (List D):=match d with
 |.tup ds=>xw ds
 |d=>fG ω d
theorem tS {K:aa} (t:Stt cls K ok H ω) (r:Rep K ok H v d) (e:bZ ω d=xw ds):∃ a xs,v=.ref a/\(SqL K H a xs∨SqT K H a xs)/\Reps K ok H xs ds:=by
 cases d with
 |tup xs=>
  cases e;obtain⟨a,ys,rfl,g,rs⟩:=r.tup_inv;exact⟨a,ys,rfl,.inr g.sq,rs⟩
 |lst xs=>
  obtain⟨a,ys,rfl,g,rs⟩:=eI t r (show fG ω (.lst xs)=xw ds from e);exact⟨a,ys,rfl,.inl (SqL.of g),rs⟩
 |obj n=>
  obtain⟨a,ys,rfl,g,rs⟩:=eI t r (show fG ω (.obj n)=xw ds from e);exact⟨a,ys,rfl,.inl (SqL.of g),rs⟩
 |_=>cases e
noncomputable def iV (ω:Om) (ds:List D):Option (D×Om):=match ds with
 |[d]=>(bZ ω d).map fun xs=>(.lst xs,ω)
 |_=>xx
theorem Gf {K:aa}:rQ cls K (fun xs H Q=>∃ p ys,xs=[.ref p]/\(SqL K H p ys∨SqT K H p ys)/\∀ l,H l=xx->Q (.ref l) (upd H l (.lst ys))) iV:=fun ok H ω xs as d ω' Q h1 st r e k=>by
 unfold iV at e;split at e
 ·obtain⟨ys,e1,e2⟩:=aG e;cases e2;obtain⟨v,rfl,r1⟩:=r.one_inv;obtain⟨a,us,rfl,g,rs⟩:=tS st r1 e1;exact⟨a,us,rfl,g,fun l n=>k _ ok _ (.same h1 st (cF n)) (.lst_new (h1 l n) n rs)⟩
 ·cases e
noncomputable def uA (ω:Om) (ds:List D):Option (D×Om):=match ds with
 |[d]=>(bZ ω d).map fun xs=>(.obj ω.length,ω++[.ml xs])
 |_=>xx
theorem Gg {K:aa}:rQ cls K (fun xs H Q=>∃ p ys,xs=[.ref p]/\(SqL K H p ys∨SqT K H p ys)/\∀ l,H l=xx->Q (.ref l) (upd H l (.lst ys))) uA:=fun ok H ω xs as d ω' Q h1 st r e k=>by
 unfold uA at e;split at e
 ·obtain⟨ys,e1,e2⟩:=aG e;cases e2;obtain⟨v,rfl,r1⟩:=r.one_inv;obtain⟨a,us,rfl,g,rs⟩:=tS st r1 e1;exact⟨a,us,rfl,g,fun l n=>k _ _ _ (.ml h1 st n rs) .new_obj⟩
 ·cases e
noncomputable def FV (ω:Om) (ds:List D):Option (D×Om):=match ds with
 |[d]=>(fG ω d).map fun xs=>(.tup xs,ω)
 |_=>xx
theorem IN {K:aa}:rQ cls K (fun xs H Q=>∃ p ys,xs=[.ref p]/\((SqL K H p ys/\∀ l,H l=xx->Q (.ref l) (upd H l (.tup ys)))∨(SqT K H p ys/\Q (.ref p) H))) FV:=fun ok H ω xs as d ω' Q h1 st r e k=>by
 unfold FV at e;split at e
 ·obtain⟨ys,e1,e2⟩:=aG e;cases e2;obtain⟨v,rfl,r1⟩:=r.one_inv;obtain⟨a,us,rfl,g,rs⟩:=eI st r1 e1;exact⟨a,us,rfl,.inl ⟨SqL.of g,fun l n=>k _ ok _ (.same h1 st (cF n)) (.tup_new (h1 l n) n rs)⟩⟩
 ·cases e
noncomputable def Pv (ω:Om) (a:D) (lo hi:Option Int):Option D:=match fG ω a with
 |some ds=>xw (.lst (DP ds lo hi))
 |none=>gSl a lo hi
noncomputable def oSl (f:OG D) (l u:DO):OG D:=oB f fun a ρ ω=>(l ρ).bind fun lo=>(u ρ).bind fun hi=>oR (pu (Pv ω a lo hi) ω)
theorem HR {lo hi:Option bv} (he:OE X cls E e fa) (hl:DOp X lo l) (hu:DOp X hi u):OE X cls E (.Subscript e (.Slice lo hi xx p2) pos) (oSl fa l u):=(HE (sl_list.or Nv) he hl hu).imp fun σ H Q ⟨ok,ρ,ω,r,ω',P,e,q⟩=>by
 refine tO.then_ P e (fun c z=>by subst z;exact q) fun a ω1 v ok1 H1 e1 n1 P1 r1=> ?_;obtain⟨il,g1,e1⟩:=bind_some e1;obtain⟨ih,g2,e1⟩:=bind_some e1;obtain⟨d,e3,rfl⟩:=cJ e1;obtain⟨ue3,rfl⟩:=cK e3;refine⟨ok1,ρ,il,P1.okh,P1.env,g1,fun H2 s2=>⟨ok1,ρ,ih,P1.okh.same s2,P1.env.same s2,g2,fun H3 s3=> ?_⟩⟩;have sx:=s2.trans s3;have ra:=r1.same sx;have st3:=P1.st.same sx;have okh:=P1.okh.same sx;have q':∀ v H',Same H3 H'->Rep X.K ok1 H' v d->Q v H':=fun v H' s r=>q v ok1 H' (n1.trans (.same P1.okh P1.st (sx.trans s))) r;unfold Pv at ue3;cases hs:fG ω' a with
 |some ds=>
  rw[hs] at ue3;cases ue3;obtain⟨p,xs,rfl,g,rs⟩:=eI st3 ra hs;exact .inl ⟨p,xs,rfl,SqL.of g,fun p' n=>q' _ _ (cF n) (.lst_new (okh p' n) n (rs.cut il ih))⟩
 |none=>
  rw[hs] at ue3;have ue4:gSl a il ih=xw d:=ue3;cases a with
  |lst ds=>cases hs
  |scr ds=>
   cases ue4;obtain⟨p,xs,rfl,g,rs⟩:=ra.scr_inv;exact .inl ⟨p,xs,rfl,g.sq,fun p' n=>q' _ _ (cF n) (.lst_new (okh p' n) n (rs.cut il ih))⟩
  |tup ds=>
   have h3':(if HT.sIx ds.length 0 il=0/\HT.sIx ds.length ds.length ih=ds.length then xx else xw (D.tup (DP ds il ih)))=xw d:=ue4;obtain⟨p,xs,rfl,g,rs⟩:=ra.tup_inv
   by_cases hw:HT.sIx ds.length 0 il=0/\HT.sIx ds.length ds.length ih=ds.length
   ·rw[if_pos hw] at h3';cases h3'
   ·rw[if_neg hw] at h3';cases h3';exact .inr ⟨p,xs,rfl,g.sq,by rw[rs.length];exact hw,fun p' n=>q' _ _ (cF n) (.tup_new (okh p' n) n (rs.cut il ih))⟩
  |_=>cases ue4
end
noncomputable def Ps (T:String) (ω:Om) (d:D):Option Bool:=match fG ω d with
 |some ds=>Nd T (.lst ds)
 |none=>Nd T d
noncomputable def Mf (ω:Om) (d:D):Option Bool:=match fG ω d with
 |some _=>xw true
 |none=>if Fz d=true then xx else xw (match d with|.tup _=>true|_=>false)
theorem Ip {K:aa} (h:Fz d=false):PySem.W.kitAny K (.type (tyD d)) [.type "list",.type "tuple"]=xw (match d with|.lst _=>true|.tup _=>true|_=>false):=by
 cases d <;> first|rfl|cases h
theorem Rep.wide {K:aa} (r:Rep K ok H v d):Rep K ⟨fun _=>True,ok.al⟩ H v d:=Rep.mono (ok:=ok) (ok':=⟨fun _=>True,ok.al⟩) (fun _ _ _ e=>⟨trivial,e⟩) (fun _ _ h=>h) r
theorem Reps.wide {K:aa} (r:Reps K ok H v d):Reps K ⟨fun _=>True,ok.al⟩ H v d:=Reps.mono (ok:=ok) (ok':=⟨fun _=>True,ok.al⟩) (fun _ _ _ e=>⟨trivial,e⟩) (fun _ _ h=>h) r
theorem pJ {K:aa} (t:Stt cls K ok H ω) (r:Rep K ok H v d) (e:fG ω d=xw ds):Rep K ⟨fun _=>True,ok.al⟩ H v (.lst ds):=by
 obtain⟨a,xs,rfl,g,rs⟩:=eI t r e;exact .lst ⟨trivial,g⟩ rs.wide
section
variable {X:Cx}{cls exC:Nat->af}{E:XE}{e a b c o i value:bv}{es rest:List bv}{fa fb fc fo fi fv:OG D}{fl:OG (List D)}{ft ft':OG Bool}{pos p apos pos' cpos:Pos}{x m:Str}{st:cz}
noncomputable def iT (T:String) (f:OG D):OG D:=oB f fun d _ ω=>oR (pu ((Ps T ω d).map D.bl) ω)
theorem Me {K:aa} (t:Stt cls K ok H ω) (r:Rep K ok H v d) (e:Ps T ω d=xw k):∃ d',Rep K ⟨fun _=>True,ok.al⟩ H v d'/\Nd T d'=xw k:=by
 unfold Ps at e;cases hs:fG ω d with
 |some ds=>rw[hs] at e;exact⟨_,pJ t r hs,e⟩
 |none=>rw[hs] at e;exact⟨d,r.wide,e⟩
theorem tH (he:OE X cls E e fa) (hg:Gl X "isinstance") (hm:X.mg "isinstance"=xx) (hgT:Gl X T) (hmT:X.mg T=xx) (hv:dm T=xw (.type Tn)) (hn:T≠"__name__":=by decide) (hdb:(T==("__debug__":Str))=false:=by decide)
  (h1:av [e,.Name T p2] X.env=(false,eval e X.env)::av [.Name T p2] X.env:=by rfl) (h2:av [.Name T p2] X.env=(false,eval (.Name T p2) X.env)::av [] X.env:=by rfl) (hpl:(dq pos (av [.Name T p2] X.env)).any (·.1)=false:=by rfl):
  OE X cls E (.Call (.Name "isinstance" p) [e,.Name T p2] [] pos) (iT Tn fa):=
 (oG Ju hg hm (by decide+kernel) (iA he (iA (Ai (v:=.ty Tn) hgT hmT hv rfl hn hdb) tG h2) h1) (by decide) (by decide) h1 hpl).imp fun σ H Q ⟨ok,ρ,ω,r,ω',P,e,q⟩=>by
  refine tO.then_ P e (fun c z=>by subst z;exact q) fun d ω1 v ok1 H1 e1 n1 P1 r1=> ?_;obtain⟨y,e3,rfl⟩:=cJ e1;obtain⟨ue3,rfl⟩:=cK e3;obtain⟨k,e4,rfl⟩:=aG ue3;obtain⟨d',rd,e5⟩:=Me P1.st r1 e4;exact⟨v,Tn,d',_,k,rfl,rd,e5,q _ ok1 H1 n1 (.bl _)⟩
def QK (K:aa):List V->Hp->VK->Prop:=fun xs H Q=>∃ x t d ok,xs=[x,.ref t]/\H t=xw (.tup [.ty "list",.ty "tuple"])/\Rep K ok H x d/\Fz d=false/\Q (.bl (match d with|.lst _=>true|.tup _=>true|_=>false)) H
theorem GK:CallR X (.builtin "isinstance") (QK X.K):=by
 intro pins s σ H xs us Q I r h;obtain⟨x,t,d,ok,rfl,ht,q,e,hq⟩:=h;obtain⟨u,w',rfl,ru,rw'⟩:=Ef r;cases rw';obtain⟨its,rt,⟨ot,t1,t2,n,t3⟩,_⟩:=I.tuple (show SqT X.K H t _ from .inl (.inl ht));have hit:its=[j4 "list",j4 "tuple"]:=by
  cases rt with
  |cons a1 b1=>cases b1 with
   |cons a2 b2=>cases b2;cases a1;cases a2;rfl
 subst hit;obtain⟨oc,od,odt,osl⟩:=ot;dsimp only at t2 t3;subst t2 t3;have fin:∀ tk,EP X pins σ Q (.bool (match d with|.lst _=>true|.tup _=>true|_=>false)) { s with toks:=tk }:=fun tk=>⟨.bl _,H,I.tok _,rfl,hq⟩;have ek:=Ip (K:=X.K) e;cases q with
 |non=>cases ru;exact ln vy I.kIn ga t1 ek (fun z=>nomatch z) fin
 |bl b=>cases ru;exact ln vz I.kIn ga t1 ek (fun z=>nomatch z) fin
 |int i=>obtain⟨t',rfl⟩:=ru;exact ln wl I.kIn ga t1 ek (fun z=>nomatch z) fin
 |str z=>obtain⟨t',rfl⟩:=ru;exact ln wm I.kIn ga t1 ek (fun z=>nomatch z) fin
 |lst g r=>
  cases ru;obtain⟨its,_,⟨o,n,e1,c1,_,_⟩,_⟩:=I.list g.sq;exact ln wb I.kIn ⟨o,e1,c1⟩ t1 ek (fun z=>nomatch z) fin
 |tup g r=>
  cases ru;obtain⟨its,_,⟨o,e1,c1,_⟩,_⟩:=I.tuple g.sq;exact ln vh I.kIn ⟨o,e1,c1⟩ t1 ek (fun z=>nomatch z) fin
 |obj _=>cases e
 |scr _ _=>cases e
noncomputable def HY (f:OG D):OG D:=oB f fun d _ ω=>oR (pu ((Mf ω d).map D.bl) ω)
theorem Ir {K:aa} (t:Stt cls K ok H ω) (r:Rep K ok H v d) (e:Mf ω d=xw k):∃ d',Rep K ⟨fun _=>True,ok.al⟩ H v d'/\Fz d'=false/\(match d' with|.lst _=>true|.tup _=>true|_=>false)=k:=by
 unfold Mf at e;cases hs:fG ω d with
 |some ds=>rw[hs] at e;cases e;exact⟨_,pJ t r hs,rfl,rfl⟩
 |none=>
  rw[hs] at e;cases d with
  |lst ds=>cases hs
  |obj n=>cases e
  |scr n=>cases e
  |non=>cases e;exact⟨_,r.wide,rfl,rfl⟩
  |bl z=>cases e;exact⟨_,r.wide,rfl,rfl⟩
  |int z=>cases e;exact⟨_,r.wide,rfl,rfl⟩
  |str z=>cases e;exact⟨_,r.wide,rfl,rfl⟩
  |tup z=>cases e;exact⟨_,r.wide,rfl,rfl⟩
theorem LG (he:OE X cls E e fa) (hg:Gl X "isinstance") (hm:X.mg "isinstance"=xx) (hgL:Gl X "list") (hmL:X.mg "list"=xx) (hgT:Gl X "tuple") (hmT:X.mg "tuple"=xx)
  (h1:av [e,.Tuple [.Name "list" p2,.Name "tuple" p3] k4 p4] X.env=(false,eval e X.env)::av [.Tuple [.Name "list" p2,.Name "tuple" p3] k4 p4] X.env:=by rfl)
  (h2:av [.Tuple [.Name "list" p2,.Name "tuple" p3] k4 p4] X.env=(false,eval (.Tuple [.Name "list" p2,.Name "tuple" p3] k4 p4) X.env)::av [] X.env:=by rfl)
  (h3:av [.Name "list" p2,.Name "tuple" p3] X.env=(false,eval (.Name "list" p2) X.env)::av [.Name "tuple" p3] X.env:=by rfl) (h4:av [.Name "tuple" p3] X.env=(false,eval (.Name "tuple" p3) X.env)::av [] X.env:=by rfl)
  (hpl:(dq pos (av [.Tuple [.Name "list" p2,.Name "tuple" p3] k4 p4] X.env)).any (·.1)=false:=by rfl):
  OE X cls E (.Call (.Name "isinstance" p) [e,.Tuple [.Name "list" p2,.Name "tuple" p3] k4 p4] [] pos) (HY fa):=
 (oG GK hg hm (by decide+kernel) (iA he (iA (JK (iA (Ai (v:=.ty "list") hgL hmL boot.list rfl) (iA (Ai (v:=.ty "tuple") hgT hmT boot.tuple rfl) tG h4) h3)) tG h2) h1) (by decide) (by decide) h1 hpl).imp fun σ H Q ⟨ok,ρ,ω,r,ω',P,e,q⟩=>by
  refine tO.then_ P e (fun c z=>by subst z;exact q) fun d ω1 v ok1 H1 e1 n1 P1 r1=> ?_;obtain⟨y,e3,rfl⟩:=cJ e1;obtain⟨ue3,rfl⟩:=cK e3;obtain⟨k,e4,rfl⟩:=aG ue3;refine⟨by show 2<=sizeLine;decide,fun t n=> ?_⟩;have n2:Nw cls X.K ok1 H1 ok1 (upd H1 t (.tup [.ty "list",.ty "tuple"])) ω':=.same P1.okh P1.st (cF n);obtain⟨d',rd,e5,e6⟩:=Ir n2.st (r1.ex n2.ex) e4;refine⟨v,t,d',_,rfl,aP,rd,e5,?_⟩;rw[e6];exact q _ ok1 _ (n1.trans n2) (.bl _)
noncomputable def Dn (ω:Om) (d:D):Bool:=match cellOf ω d with
 |some (.ml _)=>true
 |_=>false
theorem FA (h:Dn ω d=true):∃ n ds,d=.obj n/\ω[n]?=xw (.ml ds):=by
 unfold Dn at h;split at h
 ·obtain⟨n,rfl,e⟩:=dQ ‹_›;exact⟨n,_,rfl,e⟩
 ·cases h
noncomputable def lU (g:Om->D->List D->Option (D×Om)) (fo:OG D) (fl:OG (List D)):OG D:=oB fo fun d ρ ω=>if Dn ω d=true then oB fl (fun ds _ ω=>oR (g ω d ds)) ρ ω else xx
def GX (cls:Nat->af) (K:aa) (r:V->List V->Hp->VK->Prop) (g:Om->D->List D->Option (D×Om)):Prop:=∀(ok:Okk) (H:Hp) (ω:Om) (x:V) (xs:List V) (a:D) (as:List D) (d:D) (ω':Om) (Q:VK),OkH ok H->Stt cls K ok H ω->Rep K ok H x a->Reps K ok H xs as->g ω a as=xw (d,ω')->
 (∀ v ok' H',Nw cls K ok H ok' H' ω'->Rep K ok' H' v d->Q v H')->r x xs H Q
theorem Rb {id:String} (slot:Slot "list" m id) (hty:typeOf (.builtin id)=pure (.type "method_descriptor")) (hm:MtR X id r) (F:GX cls X.K r g) (ho:OE X cls E o fo) (ha:OA X cls E (e::es) fl)
  (hbase:iq o m X.env (eval o X.env)=eval o X.env:=by rfl)
  (hfew:((dq cpos (av (e::es) X.env)).all (fun x=> !x.1)&&(kh cpos (i4 [] X.env)).all (fun x=>x.1.isSome)
   &&decide ((e::es).length+([]:List k6).length+(if([]:List k6).isEmpty then 0 else 1)<30))=true:=by rfl)
  (hline:(apos.endLine==cpos.line)=true:=by rfl) (hs:av (e::es) X.env=(false,eval e X.env)::av es X.env:=by rfl) (hplain:(dq cpos (av es X.env)).any (·.1)=false:=by rfl):
  OE X cls E (.Call (.Attribute o m apos) (e::es) [] cpos) (lU g fo fl):=
 (NY PySem.F.plainAttrs_list slot hty hm ho ha hbase hfew hline hs hplain).imp fun σ H Q ⟨ok,ρ,ω,r,ω',P,e,q⟩=>by
  refine tO.then_ P e (fun c z=>by subst z;exact q) fun d ω1 v ok1 H1 e1 n1 P1 r1=> ?_;obtain⟨hi,e1⟩:=cR e1;obtain⟨n,ds0,rfl,e2⟩:=FA hi;obtain⟨a,rfl,e4,xs,e5,rs⟩:=P1.st.ref r1 e2;refine⟨.inl ⟨rfl,xs,SqL.of e5⟩,?_⟩;refine tOA.then_ P1 e1 (fun c z=>by subst z;exact exR.nw q n1) fun ds ω2 us ok2 H2 e6 n2 P2 r2=> ?_;obtain⟨y,e7,rfl⟩:=cJ e6;exact F ok2 H2 ω2 _ us _ ds y ω' Q P2.okh P2.st (r1.ex n2.ex) r2 e7 fun w ok3 H3 n3 r3=>q w ok3 H3 (n1.trans (n2.trans n3)) r3
noncomputable def mH (ω:Om) (d:D) (as:List D):Option (D×Om):=match d,as with
 |.obj n,[v]=>match ω[n]? with
  |some (.ml ds)=>if ds.length<sizeLine then xw (.non,ω.set n (.ml (ds++[v]))) else xx
  |_=>xx
 |_,_=>xx
theorem Gd (h:mH ω d as=xw (y,ω')):∃ n v ds,d=.obj n/\as=[v]/\ω[n]?=xw (.ml ds)/\ds.length<sizeLine/\y=.non/\ω'=ω.set n (.ml (ds++[v])):=by
 unfold mH at h;split at h
 ·split at h
  ·obtain⟨hz,e3⟩:=bK h;cases e3;exact⟨_,_,_,rfl,rfl,‹_›,hz,rfl,rfl⟩
  ·cases h
 ·cases h
theorem MG {K:aa}:GX cls K EH mH:=fun ok H ω x xs a as d ω' Q h1 st ra rs e k=>by
 obtain⟨n,v,ds,rfl,rfl,hc,hz,rfl,rfl⟩:=Gd e;obtain⟨a1,rfl,e4,us,e5,r5⟩:=st.ref ra hc;obtain⟨w,rfl,rw'⟩:=rs.one_inv;refine⟨a1,us,w,rfl,rfl,e5,by rw[r5.length];exact hz,?_⟩;exact k _ ok _ (Nw.write (o:=.lst (us++[w])) (ob:=.ml (ds++[v])) h1 st e4 e5 fun dat=>⟨_,aP,(r5.snoc rw').mono dat⟩) .non
theorem Fa (ho:OE X cls E o fo) (ha:OA X cls E [e] fl) (hbase:iq o "append" X.env (eval o X.env)=eval o X.env:=by rfl)
  (hfew:((dq cpos (av [e] X.env)).all (fun x=> !x.1)&&(kh cpos (i4 [] X.env)).all (fun x=>x.1.isSome)
   &&decide ([e].length+([]:List k6).length+(if([]:List k6).isEmpty then 0 else 1)<30))=true:=by rfl)
  (hline:(apos.endLine==cpos.line)=true:=by rfl) (hs:av [e] X.env=(false,eval e X.env)::av [] X.env:=by rfl) (hplain:(dq cpos (av [] X.env)).any (·.1)=false:=by rfl):
  OE X cls E (.Call (.Attribute o "append" apos) [e] [] cpos) (lU mH fo fl):=Rb ub PySem.F.type_list_append (fun pins s σ H x xs v us Q=>xY pins s σ H x xs v us Q) MG ho ha hbase hfew hline hs hplain
end
theorem kc.get2:∀ {l:List α}{l':List β}{i:Nat}{b:β},kc F l l'->l'[i]?=xw b->∃ a,l[i]?=xw a/\F a b
 |_,_,_,_,.nil,e=>by simp at e
 |_,_,0,_,.cons r _,e=>by simp at e;subst e;exact⟨_,rfl,r⟩
 |_,_,i+1,b,.cons _ t,e=>by
  obtain⟨a,h1,h2⟩:=kc.get2 (i:=i) (b:=b) t (by simpa using e);exact⟨a,by simpa using h1,h2⟩
section
variable {X:Cx}{pins:List (af×Obj)}{σ:St}{H:Hp}{s:au}{d:af}{kvs:List (List Key×V)}
theorem qU (I:Inv X pins σ H s) (e:Rd H d (.dT kvs)):(d==fy)=false/\kvs.length<=sizeLine/\∃ es ep,RawD s.heap d es ep/\es.size=kvs.length/\
  ∀(i:Nat) (y:l7),es[i]?=xw y->∃ p,kvs[i]?=xw p/\RelV p.2 y.val/\∃ a,y.key=.ref a/\H a=xw (.tup (p.1.map kV)):=by
 obtain⟨z,lo,xs,pr,o,es,ep,h1,h2,h3,h4,h5⟩:=(show ObjOk X.prog X.w H s.heap d (.dT kvs) from e.ok I.hok);have hl:es.size=kvs.length:=by
  have:=congrArg lr h4
  rw[ao,ff] at this;rw[this,<- jh pr]
 refine⟨lo,z,es,ep,⟨o,h1,h2,h3⟩,hl,fun i y hy=> ?_⟩;have hy':(xs.map (gq (b4 (aO X.prog X.w))))[i]?=xw y:=by rw[<- h4,im];exact hy
 rw[aw] at hy';obtain⟨q,q1,q2⟩:=aG hy';obtain⟨p,p1,p2,p3,p4⟩:=kc.get2 pr q1;subst q2;exact⟨p,p1,p4,q.2.1,rfl,p3⟩
end
noncomputable def Na (v d:af):HO:=.ext fun h=>h.IsValuesView v d
section
variable {X:Cx}{cls exC:Nat->af}{E:XE}{e a b c o i value:bv}{es rest:List bv}{fa fb fc fo fi fv:OG D}{fl:OG (List D)}{ft ft':OG Bool}{pos p apos pos' cpos:Pos}{x m:Str}{st:cz}
theorem Fk:MtR X "dict.values" fun x xs H Q=>∃ d kvs,x=.ref d/\xs=[]/\H d=xw (.dT kvs)/\∀ p,H p=xx->Q (.ref p) (upd H p (Na p d)):=by
 intro pins s σ H x xs v us Q I rx rs h;obtain⟨d,kvs,rfl,rfl,hd,q⟩:=h;cases rx;cases rs;obtain⟨lo,_,es,ep,r,_,_⟩:=qU I (.inl hd);refine Da lo r ?_;have e1:(s.heap.push { cls:=.type "dict_values",data:=.fields #[.ref d] }).get? s.heap.objs.size=xw { cls:=.type "dict_values",data:=.fields #[.ref d] }:=bz _ rfl;refine⟨.ref _,_,I.laid (t':=s.toks) (fun b u q=>az _ q) (bf _) ?_,rfl,q _ (I.hok.fresh (bf _))⟩;exact⟨⟨_,e1,rfl,rfl⟩,⟨_,e1⟩,fun h1 h2 z k=>let ⟨o,y1,y2⟩:=z;⟨o,k o y1,y2⟩⟩
theorem vI {a:af}{c:Nat} (r:Vals xs vs) (hz:xs.length<=sizeLine) (e:h.get? a=xw (ib "list" vs.toArray c)):ObjOk P w H h a (.lst xs):=⟨hz,vs,c,r,e⟩
theorem zY (hl:vs.length=xs.length) (h:∀(j:Nat) (v:ag),vs[j]?=xw v->∃ x,xs[j]?=xw x/\RelV x v):Vals xs vs:=by
 induction vs generalizing xs with
 |nil=>
  cases xs with
  |nil=>exact .nil
  |cons _ _=>cases hl
 |cons v vs ih=>
  cases xs with
  |nil=>cases hl
  |cons x xs=>
   obtain⟨y,e,r⟩:=h 0 v rfl;simp at e;subst e;exact .cons r (ih (by simpa using hl) fun j u hu=>by simpa using h (j+1) u (by simpa using hu))
theorem zF (hc:X.calm=true):CallR X (.builtin "sorted") (fun xs H Q=>∃ v d kvs,xs=[.ref v]/\H v=xw (Na v d)/\H d=xw (.dT kvs)/\kvs.length<2/\∀ l,H l=xx->Q (.ref l) (upd H l (.lst (kvs.map (·.2))))):=by
 intro pins s σ H xs us Q I r h;obtain⟨v,d,kvs,rfl,hv,hd,hl,q⟩:=h;obtain⟨u,rfl,rx⟩:=mS r;cases rx;obtain⟨lo,hz,es,ep,rd,sz,it⟩:=qU I (.inl hd);have vw:s.heap.IsValuesView v d:=(show ObjOk X.prog X.w H s.heap v (Na v d) from I.hok v _ hv).1;refine pE (sT (d:=d) (es:=es) (ep:=ep)) (I.ok.hd hc) ⟨vw,rd⟩ (by rw[sz];exact hl) fun h' tk vs a c kp na hlen hP ha=> ?_;have rv:Vals (kvs.map (·.2)) vs:=zY (by rw[hlen,sz,ao]) fun j w hw=>by
  obtain⟨y,y1,y2⟩:=hP j w hw;obtain⟨p,p1,p2,_⟩:=it j y y1;exact⟨p.2,by rw[aw,p1];rfl,by rw[y2];exact p2⟩
 obtain⟨hn,I'⟩:=I.laidN (t':=tk) kp na (vI (H:=upd H a (.lst (kvs.map (·.2)))) rv (by rw[ao];exact hz) ha);exact⟨.ref a,_,I',rfl,q a hn⟩
end
section
variable {X:Cx}{pins:List (af×Obj)}{σ:St}{H:Hp}{s:au}{d:af}{kvs:List (List Key×V)}{o:Obj}
theorem Ce (x:HOk P w H h) (hd:H d=xw u) (h1:∀ y,u≠ .own y) (h2:∀ ys,u≠ .tup ys) (new:ObjOk P w (upd H d u') h d u'):HOk P w (upd H d u') h:=fun b v e=>by
 by_cases hb:b=d
 ·subst hb;rw[aP] at e;cases e;exact new
 ·rw[aH hb] at e;exact(x b v e).stay (fun c q _ z=>z) (fun c q=>by rw[aH (fun z=>by rw[z,hd] at q;exact h1 _ (ca q))];exact q) fun c xs q=>by rw[aH (fun z=>by rw[z,hd] at q;exact h2 _ (ca q))];exact q
theorem BV (x:ObjOk P w H h b v) (hd:H d=xw u) (h1:∀ y,u≠ .own y) (h2:∀ ys,u≠ .tup ys):ObjOk P w (upd H d u') h b v:=
 x.stay (fun c q _ z=>z) (fun c q=>by rw[aH (fun z=>by rw[z,hd] at q;exact h1 _ (ca q))];exact q) fun c xs q=>by rw[aH (fun z=>by rw[z,hd] at q;exact h2 _ (ca q))];exact q
theorem _root_.L2.Inv.frozen (I:Inv X pins σ H s) (hd:H d=xw (.dT kvs)) (ho:s.heap.get? d=xw o):Inv X pins σ (upd H d (.frz o (.dT kvs))) s:=by
 have nn:∀ b,H b=xx->upd H d (.frz o (.dT kvs)) b=xx:=fun b e=>by rw[aH (fun z=>by rw[z,hd] at e;cases e)];exact e
 refine⟨I.ok,I.os,I.bare,⟨I.base.keep,I.base.slot,fun b u e n x=>nn b (I.base.free b u e n x),I.base.there,fun b xs e=> ?_,fun b u v e=> ?_,fun b ps e=> ?_⟩,I.loc,I.cell,nn _ I.free,fun x c e=>nn _ (I.freeC x c e),fun p hp=> ?_,Ce I.hok hd (fun _ z=>nomatch z) (fun _ z=>nomatch z) ⟨ho,BV (I.hok d _ hd) hd (fun _ z=>nomatch z) (fun _ z=>nomatch z)⟩,I.len⟩
 ·have z:=I.base.tups b xs e;rw[aH (fun q=>by rw[q,hd] at z;cases z)];exact z
 ·have z:=I.base.frzs b u v e;rw[aH (fun q=>by rw[q,hd] at z;cases z)];exact z
 ·obtain⟨m,z⟩:=I.base.tbls b ps e;exact⟨m,by rw[aH (fun q=>by rw[q,hd] at z;cases z)];exact z⟩
 ·obtain⟨z1,z2,z3⟩:=I.pin p hp;exact⟨z1,nn _ z2,z3⟩
theorem _root_.L2.Inv.thawed (I:Inv X pins σ H s) (hd:H d=xw (.frz o (.dT kvs))) (hn:∀ o u,X.H₀ d≠xw (.frz o u)):Inv X pins σ (upd H d (.dT kvs)) s:=by
 have nn:∀ b,H b=xx->upd H d (.dT kvs) b=xx:=fun b e=>by rw[aH (fun z=>by rw[z,hd] at e;cases e)];exact e
 refine⟨I.ok,I.os,I.bare,⟨I.base.keep,I.base.slot,fun b u e n x=>nn b (I.base.free b u e n x),I.base.there,fun b xs e=> ?_,fun b u v e=> ?_,fun b ps e=> ?_⟩,I.loc,I.cell,nn _ I.free,fun x c e=>nn _ (I.freeC x c e),fun p hp=> ?_,Ce I.hok hd (fun _ z=>nomatch z) (fun _ z=>nomatch z) (BV (show ObjOk X.prog X.w H s.heap d (.dT kvs) from(I.hok d _ hd).2) hd (fun _ z=>nomatch z) (fun _ z=>nomatch z)),I.len⟩
 ·have z:=I.base.tups b xs e;rw[aH (fun q=>by rw[q,hd] at z;cases z)];exact z
 ·have z:=I.base.frzs b u v e;rw[aH (fun q=>hn u v (by rw[<- q];exact e))];exact z
 ·obtain⟨m,z⟩:=I.base.tbls b ps e;exact⟨m,by rw[aH (fun q=>by rw[q,hd] at z;cases z)];exact z⟩
 ·obtain⟨z1,z2,z3⟩:=I.pin p hp;exact⟨z1,nn _ z2,z3⟩
end
noncomputable def Itk (d:af) (o:Obj) (kvs:List (List Key×V)):It:=
 ⟨fun i H=>H d=xw (.frz o (.dT kvs))/\i<kvs.length,fun i H x H'=>H'=H/\∃ b p,x=.ref b/\kvs[i]?=xw p/\H b=xw (.tup (p.1.map kV)),fun i H=>H d=xw (.frz o (.dT kvs))/\kvs.length<=i⟩
theorem Ej {K:aa} (d it:af) (o:Obj) (kvs:List (List Key×V)) (es:Array l7) (ep:Nat) (hod:o.data=.dict es ep) (hsz:es.size=kvs.length):Kj P w K tg (Itk d o kvs) [it] it (fun i h=>h.IsKeyIter it d i es.size ep) where
 mem:=by simp
 obj:=fun i h st b hb=>by
  have e:b=it:=by simpa using hb
  subst e;obtain⟨o,e,c,d⟩:=st;exact⟨o,e,fun v z=>by rw[d] at z;cases z⟩
 keep:=fun i h h' st k=>let ⟨o,e,z⟩:=st;⟨o,k it (by simp) o e,z⟩
 item:=by
  intro X hP hw hK hc i pins s σ H E I hf st hg;subst hP hw hK;obtain⟨hd,hi⟩:=hg;obtain⟨f0,f1,f2,f3,f4,f5⟩:=hf it (by simp);obtain⟨lo,_,es',ep',⟨o',r1,r2,r3⟩,sz,its⟩:=qU I (.inr ⟨o,hd⟩);have ho:s.heap.get? d=xw o:=(I.hok d _ hd).1;rw[ho] at r1;cases r1;rw[hod] at r3;cases r3;have hi':i<es.size:=by rw[hsz];exact hi
  obtain⟨p,p1,_,a,p2,p3⟩:=its i es[i] (by simp[hi']);refine xO (e:=es[i]) st ⟨o,ho,r2,hod⟩ (by simp[hi']) fun h' st' sb=> ?_;have I1:Inv X pins σ H { s with heap:=h' }:=I.turned (t':=s.toks) (fun b o hb e=>(sb.2 b hb).trans e) f0 f1 f3 f4 f5;obtain⟨oi,e1,c1,d1⟩:=id st';exact⟨_,rfl,FQ (s:={ s with heap:=h' }) e1 c1 d1 (by decide) ⟨.ref a,H,I1,p2,⟨rfl,a,p,rfl,p1,p3⟩,st',fun b hb=>(hf b hb).1⟩⟩
 done:=by
  intro X hP hw hK hc i pins s σ H E I hf st hg;subst hP hw hK;obtain⟨hd,hi⟩:=hg;obtain⟨f0,f1,f2,f3,f4,f5⟩:=hf it (by simp);obtain⟨lo,_,es',ep',⟨o',r1,r2,r3⟩,sz,its⟩:=qU I (.inr ⟨o,hd⟩);have ho:s.heap.get? d=xw o:=(I.hok d _ hd).1;rw[ho] at r1;cases r1;exact BM (I.ok.hd hc) st ⟨o,ho,r2,hod⟩ (by rw[hsz];exact hi) fun h' eb=>⟨rfl,I.turned (t':=s.toks) (fun b o hb e=>eb b o hb e) f0 f1 f3 f4 f5⟩
 self:=fun _ _ _ _ _ st h=>uo st h
def Pt (H₀:Hp) (to:TE):TI:=fun σ H R=>to σ H fun x H1=>∃ d kvs,x=.ref d/\H1 d=xw (.dT kvs)/\∀ o,(∀ o' u,H₀ d≠xw (.frz o' u))->R (Itk d o kvs) (upd H1 d (.frz o (.dT kvs)))
section
variable {X:Cx}{cls exC:Nat->af}{E:XE}{e a b c o i value tg iter:bv}{es rest:List bv}{fa fb fc fo fi fv:OG D}{fl:OG (List D)}{ft ft':OG Bool}{pos p apos pos' cpos:Pos}{x m:Str}{st:cz}{body:List cz}{F:OS}
theorem KN (ho:PE X iter to):PI X tg iter (Pt X.H₀ to):=by
 intro pins s σ H R I h;refine thn (ho pins s σ H _ I h) fun v s1 ⟨x,H1,I1,rx,d,kvs,ex,hd,q⟩=> ?_;subst ex;cases rx;obtain⟨lo,_,es,ep,⟨o,r1,r2,r3⟩,sz,its⟩:=qU I1 (.inl hd);have nf:∀ o' u,X.H₀ d≠xw (.frz o' u):=fun o' u z=>by
  have:=I1.base.frzs d o' u z
  rw[hd] at this;cases this
 have I2:=I1.frozen hd r1;refine xP lo ⟨o,r1,r2,r3⟩ ?_;have nd:d≠s1.heap.objs.size:=ck (bp r1);have hn:upd H1 d (.frz o (.dT kvs)) s1.heap.objs.size=xx:=by rw[aH (bx nd)];exact I1.hok.fresh (bf _)
 refine⟨s1.heap.objs.size,[s1.heap.objs.size],_,Itk d o kvs,_,rfl,I2.kept (t':=s1.toks) (fun b u e=>az _ e),Ej d _ o kvs es ep r3 sz,⟨_,bz _ rfl,rfl,rfl⟩,fun b hb=> ?_,q o nf⟩;have e:b=s1.heap.objs.size:=by simpa using hb
 subst e;exact(I1.fpOk (bf _) hn)
noncomputable def MO (H₀:Hp) (D:CM):CM:={ nx:=fun σ H=>∃ d o kvs,H d=xw (.frz o (.dT kvs))/\(∀ o' u,H₀ d≠xw (.frz o' u))/\D.nx σ (upd H d (.dT kvs)),rt:=fun _ _=>False }
theorem KD (hp:PassesOwn (model X.prog X.w) X.A X.env X.xe) (hc:X.calm=true) (ho:PE X iter to) (hg:PG X tg g) (hb:PSs X body tb) (hs:∀ x,gs iter X.env x=pure x:=by intro _;rfl):
  PS X (.For tg iter body [] pos) (fun D σ H=>Qy (Pt X.H₀ to) g tb (MO X.H₀ D) σ H):=fun pins s σ H D I h=>by
 refine thn (JH (pos:=pos) hp hc (KN ho) hg hb hs pins s σ H (MO X.H₀ D) I h) fun f s' z=> ?_;cases f with
 |next=>
  obtain⟨σ',H',I',d,o,kvs,h1,h2,h3⟩:=z;exact⟨σ',_,I'.thawed h1 h2,h3⟩
 |brk=>obtain⟨_,_,_,q⟩:=z;exact q.elim
 |cont=>obtain⟨_,_,_,q⟩:=z;exact q.elim
 |ret u=>obtain⟨_,_,_,_,_,q⟩:=z;exact q.elim
noncomputable def bH (k:List Key):D:=.tup (k.map ofK)
noncomputable def sW:List (List Key×D)->List (List Key×D)->Bool
 |[],[]=>true
 |a::as,b::bs=>decide (a.1=b.1)&&fM a.2 b.2&&sW as bs
 |_,_=>false
theorem xJ:∀ {a b:List (List Key×D)},sW a b=true->a=b
 |[],[],_=>rfl
 |[],_::_,h=>nomatch h
 |_::_,[],h=>nomatch h
 |a::as,b::bs,h=>by
  simp only[sW,bu,decide_eq_true_eq] at h;rw[xJ h.2,show a=b from Prod.ext h.1.1 (BH _ _ h.1.2)]
noncomputable def yH (n:Nat) (kvs:List (List Key×D)) (ω:Om):Bool:=match ω[n]? with
 |some (.dz k)=>sW k kvs
 |_=>false
theorem Iv (h:yH n kvs ω=true):ω[n]?=xw (.dz kvs):=by
 unfold yH at h;split at h
 ·rename_i k e
  rw[xJ h] at e;exact e
 ·cases h
noncomputable def DG (ω:Om) (d:D):Option (Nat×List (List Key×D)):=match d with
 |.obj n=>match ω[n]? with
  |some (.dt kvs)=>xw (n,kvs)
  |_=>xx
 |_=>xx
theorem Gc (h:DG ω d=xw (n,kvs)):d=.obj n/\ω[n]?=xw (.dt kvs):=by
 unfold DG at h;split at h
 ·split at h
  ·cases h;exact⟨rfl,‹_›⟩
  ·cases h
 ·cases h
noncomputable def Kt (fo:OG D) (bd:BR) (F:OS):OS:=oX fo fun d ρ ω=>(DG ω d).bind fun p=>match bP bd (yH p.1 p.2) F (p.2.map fun kv=>bH kv.1) ρ (ω.set p.1 (.dz p.2)) with
 |some (.nx ρ',ω')=>if yH p.1 p.2 ω'=true then xw (.nx ρ',ω'.set p.1 (.dt p.2)) else xx
 |_=>xx
theorem Pp {K:aa} (k:Key):Rep K ok H (kV k) (ofK k):=by
 cases k with
 |inl i=>exact .int i
 |inr x=>exact .str x
theorem As {K:aa}:∀ ks:List Key,Reps K ok H (ks.map kV) (ks.map ofK)
 |[]=>.nil
 |k::ks=>.cons (Pp k) (As ks)
end
section
variable {X:Cx}{cls exC:Nat->af}{E:XE}{e a b c o i value tg iter:bv}{es rest:List bv}{fa fb fc fo fi fv:OG D}{fl:OG (List D)}{ft ft':OG Bool}{pos p apos pos' cpos:Pos}{x m:Str}{st:cz}{body:List cz}{F:OS}
noncomputable def Jv (i j k l:Nat):BR:=fun d ρ=>match d with
 |.tup [x,y,z,w]=>xw ((((ρ.set i (xw x)).set j (xw y)).set k (xw z)).set l (xw w))
 |_=>xx
theorem Mp {i j k l:Nat} (hc:X.calm=true) (hN:X.N.Nodup) (hi:X.N[i]?=xw x) (hj:X.N[j]?=xw y) (hk:X.N[k]?=xw z) (hl:X.N[l]?=xw w) (hx:Loc X.env.scope x) (hy:Loc X.env.scope y) (hz:Loc X.env.scope z) (hw:Loc X.env.scope w)
  (hf:X.fn x=true∨X.env.scope.names.lookup x=xw .local:=by first|exact .inl rfl|exact .inr rfl|assumption) (hf2:X.fn y=true∨X.env.scope.names.lookup y=xw .local:=by first|exact .inl rfl|exact .inr rfl|assumption)
  (hf3:X.fn z=true∨X.env.scope.names.lookup z=xw .local:=by first|exact .inl rfl|exact .inr rfl|assumption) (hf4:X.fn w=true∨X.env.scope.names.lookup w=xw .local:=by first|exact .inl rfl|exact .inr rfl|assumption):
  PG X (.Tuple [.Name x p1,.Name y p2,.Name z p3,.Name w p4] kk tp) (gR X.K (Jv i j k l)):=
 PG.imp (JJ (n:=4) hc (kD (kW hN hi hx hf) (kD (kW hN hj hy hf2) (kD (kW hN hk hz hf3) (kD (kW hN hl hw hf4) EN))))) fun v σ H Q ⟨ok,ρ,ρ',d,h1,h2,h3,h4,h5⟩=>by
  unfold Jv at h4;split at h4
  ·cases h4;obtain⟨a,xs,rfl,g,r⟩:=h3.tup_inv;cases r with
   |cons r1 r=>cases r with
    |cons r2 r=>cases r with
     |cons r3 r=>cases r with
      |cons r4 r=>cases r with
       |nil=>
        refine⟨a,_,rfl,g.sq,rfl,_,_,rfl,_,_,rfl,_,_,rfl,_,_,rfl,rfl,?_⟩;have e1:=h1.set h2 r1 i;have e2:=e1.set (by simpa using h2) r2 j;have e3:=e2.set (by simpa using h2) r3 k;have e4:=e3.set (by simpa using h2) r4 l;exact h5 _ e4 (by simpa using h2)
  ·cases h4
noncomputable def CW (bd:BR) (f:OG D):OS:=oX f fun d ρ ω=>(bd d ρ).map fun ρ'=>(.nx ρ',ω)
theorem Lj (he:OE X cls E e fa) (hg:PG X tg (gR X.K bd)) (hs:uu [tg] e pos.line X.env=pure false:=by rfl) (hw:uv [tg] e X.env=pure xx:=by rfl)
  (h1:(l8 [tg] X.env).map (·.2)=[assign tg X.env]:=by rfl):OSt X cls E (.Assign [tg] e pos) (CW bd fa):=(JI he hg hs hw h1).imp fun D σ H ⟨ok,ρ,ω,oo,ω',P,e,q⟩=>by
 refine tO.thenS P e q fun d ω1 v ok1 H1 e1 n1 P1 r1 q1=> ?_;obtain⟨ρ',e2,e3⟩:=aG e1;cases e3;exact⟨ok1,ρ,ρ',d,P1.env,P1.len,r1,e2,fun σ' env len=>q1 ok1 H1 σ' (.refl P1.okh P1.st) env len⟩
noncomputable def oIA (g:List D->Option (List D)) (f:OG (List D)):OI':=oB f fun ds _ ω=>oR (pu ((g ds).map fun xs=>(xs,bO)) ω)
theorem EX (hg:Gl X "range") (hm:X.mg "range"=xx) (ha:OA X cls E [a] fl) (hs:av [a] X.env=[(false,eval a X.env)]:=by rfl):OI X cls E tg (.Call (.Name "range" p) [a] [] pos) (oIA gL fl):=
 PI.imp (EM hg hm ha hs) fun σ H R ⟨ok,ρ,ω,r,ω',P,e,q⟩=>by
  refine tOA.then_ P e (fun c z=>by subst z;exact q) fun ds ω1 vs ok1 H1 e1 n1 P1 r1=> ?_;obtain⟨⟨dz,chk⟩,e3,rfl⟩:=cJ e1;obtain⟨ue3,rfl⟩:=cK e3;obtain⟨xs,e4,e5⟩:=aG ue3;cases e5;unfold gL at e4;split at e4
  ·obtain⟨⟨hl,hh⟩,rfl⟩:=bK e4;obtain⟨v,rfl,rv⟩:=r1.one_inv;obtain rfl:=rv.int_inv;exact⟨_,rfl,by omega,by omega,q _ ok1 H1 n1 itD_range.toO⟩
  ·cases e4
end
noncomputable def jW (K:aa) (ns:List Str) (n:Nat):af:=match cx K cg (ns.getD n "") with
 |some (xw (.ref a))=>a
 |_=>0
theorem oU {K:aa} (hx:ns.getD n ""=x) (h:cx K cg x=xw (xw (.ref a))):jW K ns n=a:=by
 unfold jW;rw[hx,h]
structure nM (P:di) (w:du) (K:aa) (mg:Str->Option ag) (base:c9) (cls exC:Nat->af) (k:Nat) (x:Str) (ps:List Str) (φ:eB):Prop where
 ex:∃ f fd,sN P w K mg base (CX1 P w exC) k f fd ps (spO cls exC K φ)/\mg x=xw (.ref f)/\gy K (.ref f)=true/\Binds K fd ps []
structure rT (P:di) (w:du) (K:aa) (mg:Str->Option ag) (base:c9) (cls exC:Nat->af) (k c:Nat) (m:Str) (ps:List Str) (φ:eB):Prop where
 ex:∃ f fd,sN P w K mg base (CX1 P w exC) k f fd ps (spO cls exC K φ)/\JD K (cls c) m f/\Binds K fd ps []
 cl:Cls K (cls c)
structure Qo (P:di) (w:du) (K:aa) (mg:Str->Option ag) (base:c9) (cls exC:Nat->af) (k c:Nat) (x:Str) (ps:List Str) (φ:eB):Prop where
 ex:∃ f fd,sN P w K mg base (CX1 P w exC) k f fd ps (spO cls exC K φ)/\Mk K (cls c) f/\Binds K fd ps []
 at_:mg x=xw (.ref (cls c))
section
variable {X:Cx}{cls exC:Nat->af}{E:XE}{e a b c o i value:bv}{es:List bv}{fa fb fo fi fv:OG D}{fl:OG (List D)}{pos p apos pos':Pos}{x m:Str}{cn k:Nat}{ps:List Str}{φ:eB}
theorem HW (F:nM X.prog X.w X.K X.mg X.base cls exC k x ps φ) (hr:Room k X.A) (hg:Gl X x) (hx:Pas X exC E) (ha:OA X cls E (e::es) fl) (hdb:(x==("__debug__":Str))=false:=by decide)
  (he:av (e::es) X.env=(false,eval e X.env)::av es X.env:=by rfl) (hpl:(dq pos (av es X.env)).any (·.1)=false:=by rfl):OE X cls E (.Call (.Name x p) (e::es) [] pos) (bM φ fl):=by
 obtain⟨f,fd,h1,h2,h3,h4⟩:=F.ex;exact LL h1 hr hg h2 h3 h4 hx ha hdb he hpl
theorem LC (F:rT X.prog X.w X.K X.mg X.base cls exC k cn m ps φ) (hr:Room k X.A) (hx:Pas X exC E) (ho:OE X cls E o fo) (ha:OA X cls E (e::es) fl)
  (hst:av (e::es) X.env=(false,eval e X.env)::av es X.env:=by rfl) (hpl:(dq pos (av es X.env)).any (·.1)=false:=by rfl)
  (ht:eval (.Call (.Attribute o m apos) (e::es) [] pos) X.env=(do
   let ov <- eval o X.env
   n9 apos.atName
   let (f,first) <- holding [ov] (mz ov m pl)
   qz pos f first (dq pos (av (e::es) X.env)) (kh pos (i4 [] X.env))):=by rfl):
  OE X cls E (.Call (.Attribute o m apos) (e::es) [] pos) (bL cn m φ fo fl):=by
 obtain⟨f,fd,h1,h2,h4⟩:=F.ex;exact LB (pl:=pl) ho F.cl h2 h1 hr h4 hx ha hst hpl ht
theorem HU (F:rT X.prog X.w X.K X.mg X.base cls exC k cn m ps φ) (hr:Room k X.A) (hx:Pas X exC E) (ho:OE X cls E o fo)
  (ht:eval (.Call (.Attribute o m apos) [] [] pos) X.env=(do
   let ov <- eval o X.env
   n9 apos.atName
   let (f,first) <- holding [ov] (mz ov m pl)
   qz pos f first (dq pos (av [] X.env)) (kh pos (i4 [] X.env))):=by rfl):
  OE X cls E (.Call (.Attribute o m apos) [] [] pos) (bL cn m φ fo aM):=by
 obtain⟨f,fd,h1,h2,h4⟩:=F.ex;exact HS (pl:=pl) ho F.cl h2 h1 hr h4 hx ht
theorem LF (F:Qo X.prog X.w X.K X.mg X.base cls exC k cn x ps φ) (hr:Room (k+1) X.A) (hg:Gl X x) (hx:Pas X exC E) (ha:OA X cls E (e::es) fl) (hdb:(x==("__debug__":Str))=false:=by decide)
  (he:av (e::es) X.env=(false,eval e X.env)::av es X.env:=by rfl) (hpl:(dq pos (av es X.env)).any (·.1)=false:=by rfl):OE X cls E (.Call (.Name x p) (e::es) [] pos) (vE cn φ fl):=by
 obtain⟨f,fd,h1,h2,h3⟩:=F.ex;exact LD h2 h1 hr hg F.at_ h3 hx ha hdb he hpl
end
theorem boot.dict:dm "dict"=xw (.type "dict"):=by decide+kernel
theorem LX {K:aa}{ns:List Int} (h:φ [.scr (ns.map D.int)] []=xw (.ok (.bl true),ω')) (hS:SqL K H a (ns.map V.int)):spO cls exC K φ [.ref a] H (fun v _=>v=.bl true) fun _ _ _=>False:=by
 refine⟨Okk.all,[],[.scr (ns.map D.int)],.ok (.bl true),ω',⟨fun _ _=>trivial,fun _ _ _=>trivial⟩,⟨fun n ob e=>by simp at e,(fun _ _ e=>nomatch e),(fun _ _ _ e=>nomatch e),(fun _ _ e=>nomatch e)⟩,.cons (.scr ?_ (Reps.ints ns)) .nil,h,fun v ok' H' _ r=>r.bl_inv⟩;rcases hS with h|h
 ·exact .inl ⟨trivial,h⟩
 ·exact .inr h
theorem law_walkO {l:wz}{K:Params->aa} (hn:l.most=xw 63) (hdf:d.params.defaults=[]) (hr:Room k p7)
  (hY:∀(w:du) (h:c9),YP w h->(K w.params).In h) (hφ:∀ ns:List Int,ns.length<=63->∃ ω',φ [.scr (ns.map D.int)] []=xw (.ok (.bl true),ω'))
  (F:∀(w:du) (mg:Str->Option ag) (fa:af) (h:c9),(K w.params).In h->h.Ns cg mg->mg d.name=xw (.ref fa)->
   ∃ fd:jy,(∀(s:au) (u:ag),t9 s fd ⟨[u],[]⟩ [(x,u)])/\∀ base:c9,(K w.params).In base->base.Ns cg mg->sN l.prog w (K w.params) mg base (CX1 l.prog w (jW (K w.params) es)) k fa fd [x] (spO (jW (K w.params) cs) (jW (K w.params) es) (K w.params) φ)):
  xp q loose XP YP l.row.toRowW d [] (fun f vs=>wy f vs):=
 L2.walk_of (n:=63) (k:=k) (x:=x) (CX:=fun w=>CX1 l.prog w (jW (K w.params) es)) (sp:=fun w=>spO (jW (K w.params) cs) (jW (K w.params) es) (K w.params) φ) hn (by decide) hdf hr hY F (fun _ _ a ns hl _ hS=>let ⟨_,h⟩:=hφ ns hl;LX h hS) fun _ _ _ _ _ ⟨_,_,_,_,_,_,_,_,_,_,z⟩=>z
section
variable {α β:Type}{f h:OG D}{fl:OG (List D)}{ρ:Rho}{ω ω1 ω2 ω3:Om}{a b d:D}{ds:List D}{F G:OS}
theorem bF {f:OG α}{g:α->OG β} (e:f ρ ω=xw (.ok x,ω1)):oB f g ρ ω=g x ρ ω1:=by unfold oB;rw[e]
theorem bV {f:OG α} (e:f ρ ω=xw (.ok x,ω1)):oX f g ρ ω=g x ρ ω1:=by unfold oX;rw[e]
theorem Rg {f:DF} (e:f ρ=xw d):oP f ρ ω=xw (.ok d,ω):=by unfold oP;rw[e];rfl
theorem aB (e:ρ[i]?=xw (xw d)):oP (DN i) ρ ω=xw (.ok d,ω):=Rg (by unfold DN;rw[e];rfl)
theorem aU:oP (dC d) ρ ω=xw (.ok d,ω):=rfl
theorem dO (e1:f ρ ω=xw (.ok a,ω1)) (e2:h ρ ω1=xw (.ok b,ω2)) (e3:g ω2 a b=xw (d,ω3)):o2 g f h ρ ω=xw (.ok d,ω3):=by
 unfold o2;rw[bF e1,bF e2];show oR (g ω2 a b)=_;rw[e3];rfl
theorem fT (e1:f ρ ω=xw (.ok a,ω1)) (e2:h ρ ω1=xw (.ok b,ω2)) (e3:g a b=xw d):o2 (lf g) f h ρ ω=xw (.ok d,ω2):=dO e1 e2 (by show pu (g a b) ω2=_;rw[e3];rfl)
theorem aD:aM ρ ω=xw (.ok [],ω):=rfl
theorem aA (e1:f ρ ω=xw (.ok a,ω1)) (e2:fl ρ ω1=xw (.ok ds,ω2)):aC f fl ρ ω=xw (.ok (a::ds),ω2):=by
 unfold aC;rw[bF e1,bF e2]
theorem cO (e1:fl ρ ω=xw (.ok ds,ω1)) (e2:g ω1 ds=xw (d,ω2)):oL g fl ρ ω=xw (.ok d,ω2):=by
 unfold oL;rw[bF e1];show oR (g ω1 ds)=_;rw[e2];rfl
theorem aR (e1:fl ρ ω=xw (.ok ds,ω1)) (e2:φ ds ω1=xw (r,ω2)):bM φ fl ρ ω=xw (r,ω2):=by
 unfold bM;rw[bF e1];exact e2
theorem aK (e:f ρ ω=xw (.ok d,ω1)):aF (aY i f) G ρ ω=G (ρ.set i (xw d)) ω1:=by
 unfold aF aY;rw[bV e]
theorem bA (e:F ρ ω=xw (.nx ρ1,ω1)):aF F G ρ ω=G ρ1 ω1:=by
 unfold aF;rw[e]
theorem bR (e:f ρ ω=xw (.ok (.bl k),ω1)):bS f ρ ω=xw (.ok k,ω1):=by
 unfold bS;rw[bF e];rfl
theorem mW (e:t ρ ω=xw (.ok true,ω1)):dA t F G ρ ω=F ρ ω1:=by unfold dA;rw[bV e];rfl
theorem lN (e:t ρ ω=xw (.ok false,ω1)):dA t F G ρ ω=G ρ ω1:=by unfold dA;rw[bV e];rfl
theorem bD (e:f ρ ω=xw (.ok d,ω1)):aS f ρ ω=xw (.rt d,ω1):=by unfold aS;rw[bV e]
theorem aT (hl:ds.length=n) (e:G (cE N ds) ω=xw (.rt d,ω1)):eA n N G ds ω=xw (.ok d,ω1):=by
 unfold eA;rw[if_pos hl,e]
theorem Px (h: -1000000000000000000<j/\j<1000000000000000000):jC (.int i) (.int j)=xw (.int (i*j)):=by
 show(if _ then _ else _)=_
 rw[if_pos (.inr h)]
theorem Py (h:0<j):cU (.int i) (.int j)=xw (.int (i % j)):=by
 show(if _ then _ else _)=_
 rw[if_pos h]
end
section
variable {X:Cx}{cls exC:Nat->af}{E:XE}{e a b c o i value tg iter:bv}{es rest:List bv}{fa fb fc fo fi fv:OG D}{fl:OG (List D)}{ft ft':OG Bool}{pos p apos pos' cpos:Pos}{x m:Str}{st:cz}{body:List cz}{F:OS}
theorem Nw.freeze {K:aa}{a:af} (P:OkH ok H) (st:Stt cls K ok H ω) (e:ok.al n=xw a) (h:H a=xw (.dT vs)) (kv:KvR K ok H vs kvs):
  Nw cls K ok H ok (upd H a (.frz oo (.dT vs))) (ω.set n (.dz kvs)):=Nw.write P st e h fun dat=>⟨oo,vs,aP,kv.mono dat fun _ _ z=>z⟩
theorem Rk {K:aa}{a:af} (e:ok1.al n=xw a) (h:H1 a=xw (.frz oo (.dT vs))) (kv:KvR K ok1 H1 vs kvs):
  ItO cls K ok1 H1 (yH n kvs) (Itk a oo vs) (kvs.map fun kv=>bH kv.1):=by
 refine⟨fun i ok H ω nw _ hi=>⟨nw.ex.frz _ _ _ h,by rw[kv.length];simpa using hi⟩,fun i ok H ω x H' d nw _ y hd=> ?_,fun i ok H ω nw _ hi=>⟨nw.ex.frz _ _ _ h,by rw[kv.length];simpa using hi⟩⟩;obtain⟨rfl,b,p,rfl,hp,ht⟩:=y;refine⟨Same.refl _,?_⟩;have hk:=kv.keys;have e1:(vs.map (·.1))[i]?=xw p.1:=by rw[aw,hp];rfl
 rw[hk,aw] at e1;obtain⟨q,e2,e3⟩:=aG e1;rw[aw,e2] at hd;cases hd;show Rep K ok _ _ (bH q.1);rw[e3];exact .tup ⟨nw.okh.tp b _ ht,ht⟩ (As p.1)
theorem Nw.thaw {K:aa}{a:af} (st1:Stt cls K ok1 H1 ω1) (e:ok1.al n=xw a) (h:H1 a=xw (.dT vs)) (nw:Nw cls K ok1 (upd H1 a (.frz oo (.dT vs))) ok H ω) (hc:ω[n]?=xw (.dz kvs)):
  ∃ ws,H a=xw (.frz oo (.dT ws))/\ws=vs/\Nw cls K ok1 H1 ok (upd H a (.dT vs)) (ω.set n (.dt kvs)):=by
 have hf:H a=xw (.frz oo (.dT vs)):=nw.ex.frz _ _ _ aP;have ea:=nw.ex.ids n a e;obtain⟨b,e1,o',vs',e2,kv⟩:=nw.st.cell n _ hc;rw[ea] at e1;cases e1;rw[hf] at e2;cases e2;have na:¬ ok1.p a:=st1.nok n a e;have na':¬ ok.p a:=nw.st.nok n a ea;have dat:∀ b o,ok.p b->H b=xw o->ok.p b/\upd H a (.dT vs) b=xw o:=fun b o k z=>⟨k,by rw[aH (show b≠a from fun w=>na' (w ▸ k))];exact z⟩;refine⟨vs,hf,rfl,⟨⟨fun b o k z=> ?_,nw.ex.ids,fun b o z w=> ?_,fun m b z=> ?_,fun b z=> ?_,fun b k=> ?_,fun b x u z=> ?_⟩,⟨fun b z=> ?_,fun b xs z=> ?_⟩,fun m ob z=> ?_,fun m b z=>by rw[ce];exact nw.st.dom m b z,nw.st.inj,nw.st.nok⟩⟩
 ·have hb:b≠a:=fun w=>na (w ▸ k)
  have:=nw.ex.dat b o k (by rw[aH hb];exact z)
  exact⟨this.1,by rw[aH hb];exact this.2⟩
 ·have hb:b≠a:=fun q=>w n (q ▸ e);rw[aH hb];exact nw.ex.frm b o (by rw[aH hb];exact z) w
 ·rcases nw.ex.new m b z with w|w
  ·exact .inl w
  ·by_cases hb:b=a
   ·rw[hb,aP] at w;cases w
   ·rw[aH hb] at w;exact .inr w
 ·by_cases hb:b=a
  ·rw[hb,aP] at z;cases z
  ·rw[aH hb] at z
   have:=nw.ex.keep b z
   rw[aH hb] at this;exact this
 ·rcases nw.ex.sub b k with w|w
  ·exact .inl w
  ·by_cases hb:b=a
   ·rw[hb,aP] at w;cases w
   ·rw[aH hb] at w;exact .inr w
 ·have hb:b≠a:=fun w=>by rw[w,h] at z;cases z
  rw[aH hb];exact nw.ex.frz b x u (by rw[aH hb];exact z)
 ·by_cases hb:b=a
  ·rw[hb,aP] at z;cases z
  ·rw[aH hb] at z;exact nw.okh b z
 ·by_cases hb:b=a
  ·rw[hb,aP] at z;cases z
  ·rw[aH hb] at z;exact nw.okh.tp b xs z
 ·rcases sV z with⟨rfl,rfl⟩|⟨hm,z⟩
  ·exact⟨a,ea,vs,aP,kv.mono dat fun _ _ z=>z⟩
  ·obtain⟨b,e1,c1⟩:=nw.st.cell m ob z;refine⟨b,e1,c1.mono dat (fun _ _ z=>z) fun u q=> ?_⟩;rw[aH (show b≠a from fun w=>hm (nw.st.inj m n a (w ▸ e1) ea))];exact q
theorem Le (hc:X.calm=true) (ho:OE X.nox cls EF iter fo) (hg:PG X.nox tg (gR X.K bd)) (hb:OSs X.nox cls EF body F) (hs:∀ x,gs iter X.env x=pure x:=by intro _;rfl):
  OSt X cls E (.For tg iter body [] pos) (sNx (Kt fo bd F)):=JQ ((KD (X:=X.nox) xb hc ho hg hb hs).imp fun D σ H ⟨ok,ρ,ω,oo,ω',P,e,q⟩=>by
 refine tO.thenS P e q fun d ω1 v ok1 H1 e1 n1 P1 r1 q1=> ?_;obtain⟨⟨n,kvs⟩,hd,e2⟩:=bind_some e1;obtain⟨rfl,e3⟩:=Gc hd;obtain⟨a,rfl,e4,vs,e5,kv⟩:=P1.st.ref r1 e3;refine⟨a,vs,rfl,e5,fun o nf=> ?_⟩;have nf1:Nw cls X.K ok1 H1 ok1 (upd H1 a (.frz o (.dT vs))) (ω1.set n (.dz kvs)):=.freeze P1.okh P1.st e4 e5 kv;dsimp only at e2;split at e2
 ·rename_i ρ' ω2 hF
  obtain⟨hz,e6⟩:=bK e2;cases e6;refine Cq (D:=MO X.H₀ D) (Rk e4 aP (kv.mono nf1.ex.dat nf1.ex.ids)) (P1.nw nf1) hF fun ok2 H2 σ2 nw2 env2 len2=> ?_;obtain⟨ws,w1,rfl,nw3⟩:=Nw.thaw P1.st e4 e5 nw2 (Iv hz);refine⟨a,o,ws,w1,nf,q1 ok2 _ σ2 nw3 ?_ len2⟩;intro j dj ej;obtain⟨u,z1,z2⟩:=env2 j dj ej;refine⟨u,z1,z2.mono (fun b u' k z=>⟨k,?_⟩) fun _ _ z=>z⟩;rw[aH (show b≠a from fun w=>nw2.st.nok n a (nw2.ex.ids n a e4) (w ▸ k))];exact z
 ·cases e2)
end
end L2.MB
end
section
namespace L2.MB
open PySem PySem.Spec PyProof.Rows PySem.Builtin
theorem nodup_ix {xs:List (α×β)} (h:(xs.map (·.1)).Nodup) {i j:Nat} (h1:xs[i]?=xw (k,p)) (h2:xs[j]?=xw (k,q)):i=j:=by
 have a1:(xs.map (·.1))[i]?=xw k:=by rw[aw,h1];rfl
 have a2:(xs.map (·.1))[j]?=xw k:=by rw[aw,h2];rfl
 exact(List.getElem?_inj (br.mp a1).1 h).mp (a1.trans a2.symm)
theorem EK (d b:af):MeetsIn P w («dict.pop» { pos:=[.ref d,.ref b] }) fun A R s=>
  A.units+1<eu/\∃(xs:List (List Key×af×ag)) (j:Nat) (p:af×ag),i6 (b4 (aO P w)) s.heap d xs/\xs.length<=sizeLine/\(b4 (aO P w)).is s.heap k b/\xs[j]?=xw (k,p)/\
   ∀ h' t,i6 (b4 (aO P w)) h' d (xs.eraseIdx j)->f8 d s.heap h'->R (.ok (.ret p.2)) { s with heap:=h',toks:=t }:=by
 rintro A R s ⟨hu,xs,j,p,dd,hz,hk,hj,hR⟩;obtain⟨o,es,ep,h1,h2,h3,h4,h5,h6⟩:=dd;obtain⟨oc,od,odt,osl⟩:=o;obtain⟨q1,q2,q3⟩:=h2;dsimp only at q1 q2 q3 h3;subst q1 q2 q3 h3;have hne:es.isEmpty=false:=by
  have:es.toList≠[]:=by
   rw[h4];intro z;rw[List.map_eq_nil_iff] at z;rw[z] at hj;simp at hj
  cases q:es.isEmpty with
  |false=>rfl
  |true=>rw[ol] at q;rw[q] at this;exact absurd rfl this
 have hr:(b4 (aO P w)).room A.in1:=lh hu;have hes:es[j]?=xw (gq (b4 (aO P w)) (k,p)):=by
  rw[<- im,h4,aw,hj];rfl
 unfold «dict.pop» Dict.keyAndDefault
 repeat (first|with_reducible refine HeapKind.pyHash (b4 (aO P w)) hr hk ?_|(with_reducible refine u0 hr hk h1 rfl h4 h5 h6 (fun z=>absurd hj (z j p)) fun i q hi=> ?_)|wp_step)
 obtain rfl:=nodup_ix h6 hj hi;rw[hes]
 repeat (first|(with_reducible refine uq h1 rfl ?_ ?_ ?_)|wp_step)
 ·have sb:f8 d s.heap (s.heap.update d (su fun x=>x.eraseIdxIfInBounds j)):=⟨o7 _ _ _,fun b hb=>fw _ _ (bx hb)⟩;refine hR _ _ ⟨_,es.eraseIdxIfInBounds j,ep+1,gz _ h1 ?_,⟨rfl,rfl,rfl⟩,rfl,?_,fun x hx=>(b4 (aO P w)).keeps (h5 x (List.mem_of_mem_eraseIdx hx)) h1 rfl sb,?_⟩ sb
  ·rfl
  ·have em:∀(l:List (List Key×af×ag)) (n:Nat),(l.eraseIdx n).map (gq (b4 (aO P w)))=(l.map (gq (b4 (aO P w)))).eraseIdx n:=fun l=>by
    induction l with
    |nil=>intro n;rfl
    |cons x r ih=>intro n;cases n with
     |zero=>rfl
     |succ n=>simp[ih n]
   rw[em,<- h4];unfold Array.eraseIdxIfInBounds;split
   ·simp
   ·rename_i hn
    rw[List.eraseIdx_of_length_le (by simpa using hn)]
  ·exact h6.sublist ((List.eraseIdx_sublist xs j).map _)
 ·have:=congrArg lr h4
  rw[ao,ff] at this;rw[this];exact hz
 ·have:=PySem.size_eraseIdxIfInBounds_le es j
  omega
theorem nH {α β:Type} [DecidableEq α] {k:α}{p:β}:∀ {xs:List (α×β)}{j:Nat},(xs.map (·.1)).Nodup->xs[j]?=xw (k,p)->xs.eraseIdx j=xs.filter fun x=>decide (x.1≠k)
 |[],j,_,h=>by simp at h
 |x::r,0,nd,h=>by
  have h':x=(k,p):=by simpa using h
  subst h';rw[bg,b8] at nd;rw[List.eraseIdx_cons_zero,de (by simp)]
  symm
  rw[u4];intro a ha
  have:a.1≠k:=fun z=>nd.1 (ax.mpr ⟨a,ha,z⟩)
  simpa using this
 |x::r,j+1,nd,h=>by
  rw[bg,b8] at nd;have h':r[j]?=xw (k,p):=by simpa using h
  have hm:k∈r.map (·.1):=ax.mpr ⟨_,gg h',rfl⟩;have hx:x.1≠k:=fun z=>nd.1 (z ▸ hm);rw[List.eraseIdx_cons_succ,df (by simpa using hx),nH nd.2 h']
theorem KT.drop (r:KT H kvs xs) (k:List Key):KT H (yV kvs k) (xs.filter fun x=>decide (x.1≠k)):=by
 induction r with
 |nil=>exact .nil
 |@cons p q ps qs h t ih=>
  unfold yV at ih ⊢
  by_cases e:p.1=k
  ·have e':q.1=k:=h.1.symm.trans e;rw[de (by simp[e]),de (by simp[e'])];exact ih
  ·have e':¬ q.1=k:=fun z=>e (h.1.trans z);rw[df (by simp[e]),df (by simp[e'])];exact .cons h ih
theorem Jw {k:List Key} (h:l9 xs k=xw p):∃ j:Nat,xs[j]?=xw (k,p):=by
 unfold l9 at h;obtain⟨q,e1,e2⟩:=aG h;have m:=qu e1;have e3:=xf e1;obtain⟨j,hj⟩:=j6 m;refine⟨j,?_⟩;rw[hj]
 have:q.1=k:=by simpa using e3
 rw[<- this,<- e2]
section
variable {X:Cx}{pins:List (af×Obj)}{σ:St}{H:Hp}{s:au}{a b:af}{kvs:List (List Key×V)}{k:List Key}{A:d7}{E:ag->au->Prop}
theorem PV (hu:A.units+1<eu) (I:Inv X pins σ H s) (e:H a=xw (.dT kvs)) (eb:H b=xw (.tup (k.map kV))) (l:wX kvs k=xw v)
  (h:∀ w' s',Inv X pins σ (upd H a (.dT (yV kvs k))) s'->RelV v w'->Q w' s'):bc (model X.prog X.w) A (call (.builtin "dict.pop") [.ref a,.ref b]) Q E s:=by
 obtain⟨z,hd,xs,rel,dd⟩:=Je I.hok e;obtain⟨w',hw,rw'⟩:=RelO.some_of (v:=v) (o:=(l9 xs k).map (·.2)) (by rw[<- l];exact rel.val k);obtain⟨p,hp,hp2⟩:=ou.mp hw;obtain⟨j,hj⟩:=Jw hp;have hz:xs.length<=sizeLine:=by rw[<- jh rel];exact z
 have nd:(xs.map (·.1)).Nodup:=by obtain⟨_,_,_,_,_,_,_,_,q⟩:=dd;exact q
 refine vm uh dd.typeIs PySem.F.entry_dict_pop (PySem.F.args_dict_pop_2 _ _) (EK (k:=k) a b) ⟨hu,xs,j,p,dd,hz,yD I.hok eb,hj,fun h' t dd' hs=>h p.2 _ ?_ (hp2 ▸ rw')⟩;rw[nH nd hj] at dd';obtain⟨q,es,ep,hq,h2,h3,h4,_,h5⟩:=dd';refine qO I (by rw[e];exact ga) hs ⟨q,hq⟩ ⟨ci (Jh kvs k) z,hd,_,KT.keeps (KT.drop rel k) fun c ys ec=> ?_,q,es,ep,hq,h2,h3,h4,h5⟩;rw[aH (LQ ec e (fun z=>nomatch z))];exact ec
def NE:V->List V->Hp->VK->Prop:=fun x xs H Q=>∃ a b kvs k v,x=.ref a/\xs=[.ref b]/\H a=xw (.dT kvs)/\H b=xw (.tup (k.map kV))/\wX kvs k=xw v/\Q v (upd H a (.dT (yV kvs k)))
theorem LU (hu:X.A.units+1<eu):MtR X "dict.pop" NE:=by
 intro pins s σ H x xs v us Q I rx rs h;obtain⟨a,b,kvs,k,y,rfl,rfl,ha,hb,l,q⟩:=h;obtain⟨u,rfl,ru⟩:=mS rs;cases rx;cases ru;exact PV hu I ha hb l fun w' s' I' r=>⟨y,_,I',r,q⟩
end
section
variable {X:Cx}{cls exC:Nat->af}{E:XE}{e a b c o i value:bv}{es rest:List bv}{fa fb fc fo fi fv:OG D}{fl:OG (List D)}{ft ft':OG Bool}{pos p apos pos' cpos:Pos}{x m:Str}{st:cz}
noncomputable def Dr (ω:Om) (d:D):Bool:=match cellOf ω d with
 |some (.dt _)=>true
 |_=>false
theorem FB (h:Dr ω d=true):∃ n kvs,d=.obj n/\ω[n]?=xw (.dt kvs):=by
 unfold Dr at h;split at h
 ·obtain⟨n,rfl,e⟩:=dQ ‹_›;exact⟨n,_,rfl,e⟩
 ·cases h
noncomputable def pP (g:Om->D->List D->Option (D×Om)) (fo:OG D) (fl:OG (List D)):OG D:=oB fo fun d ρ ω=>if Dr ω d=true then oB fl (fun ds _ ω=>oR (g ω d ds)) ρ ω else xx
theorem OR {id:String} (slot:Slot "dict" m id) (hty:typeOf (.builtin id)=pure (.type "method_descriptor")) (hm:MtR X id r) (F:GX cls X.K r g) (ho:OE X cls E o fo) (ha:OA X cls E (e::es) fl)
  (hbase:iq o m X.env (eval o X.env)=eval o X.env:=by rfl)
  (hfew:((dq cpos (av (e::es) X.env)).all (fun x=> !x.1)&&(kh cpos (i4 [] X.env)).all (fun x=>x.1.isSome)
   &&decide ((e::es).length+([]:List k6).length+(if([]:List k6).isEmpty then 0 else 1)<30))=true:=by rfl)
  (hline:(apos.endLine==cpos.line)=true:=by rfl) (hs:av (e::es) X.env=(false,eval e X.env)::av es X.env:=by rfl) (hplain:(dq cpos (av es X.env)).any (·.1)=false:=by rfl):
  OE X cls E (.Call (.Attribute o m apos) (e::es) [] cpos) (pP g fo fl):=
 (NY r9 slot hty hm ho ha hbase hfew hline hs hplain).imp fun σ H Q ⟨ok,ρ,ω,r,ω',P,e,q⟩=>by
  refine tO.then_ P e (fun c z=>by subst z;exact q) fun d ω1 v ok1 H1 e1 n1 P1 r1=> ?_;obtain⟨hi,e1⟩:=cR e1;obtain⟨n,ds0,rfl,e2⟩:=FB hi;obtain⟨a,rfl,e4,xs,e5,rs⟩:=P1.st.ref r1 e2;refine⟨.inr (.inr (.inl ⟨rfl,.inr ⟨xs,e5⟩⟩)),?_⟩;refine tOA.then_ P1 e1 (fun c z=>by subst z;exact exR.nw q n1) fun ds ω2 us ok2 H2 e6 n2 P2 r2=> ?_;obtain⟨y,e7,rfl⟩:=cJ e6;exact F ok2 H2 ω2 _ us _ ds y ω' Q P2.okh P2.st (r1.ex n2.ex) r2 e7 fun w ok3 H3 n3 r3=>q w ok3 H3 (n1.trans (n2.trans n3)) r3
noncomputable def Ga (ω:Om) (d:D) (as:List D):Option (D×Om):=match d,as with
 |.obj n,[y]=>match ω[n]? with
  |some (.dt kvs)=>(Ec y).bind fun k=>(iR kvs k).map fun v=>(v,ω.set n (.dt (dZ kvs k)))
  |_=>xx
 |_,_=>xx
theorem IS {K:aa}:GX cls K NE Ga:=fun ok H ω x xs a as d ω' Q h1 st ra rs e k=>by
 unfold Ga at e;split at e
 ·rename_i n y
  split at e
  ·rename_i kvs hc
   obtain⟨ks,e8,e⟩:=bind_some e;obtain⟨v,e9,e10⟩:=aG e;cases e10;obtain⟨a1,rfl,e4,vs,e5,kv⟩:=st.ref ra hc;obtain⟨w,rfl,rw'⟩:=rs.one_inv;obtain⟨b,rfl,_,hb⟩:=toT'_rep e8 rw';obtain⟨u,l,ru⟩:=kv.val e9;refine⟨a1,b,vs,ks,u,rfl,rfl,e5,hb,l,?_⟩;have nw:=Nw.write (o:=.dT (yV vs ks)) (ob:=.dt (dZ kvs ks)) h1 st e4 e5 fun dat=>⟨_,aP,(KvR.drop (k:=ks) kv).mono dat fun _ _ z=>z⟩;exact k _ ok _ nw (ru.ex nw.ex)
  ·cases e
 ·cases e
theorem Lx (hu:X.A.units+1<eu) (ho:OE X cls E o fo) (ha:OA X cls E [e] fl) (hbase:iq o "pop" X.env (eval o X.env)=eval o X.env:=by rfl)
  (hfew:((dq cpos (av [e] X.env)).all (fun x=> !x.1)&&(kh cpos (i4 [] X.env)).all (fun x=>x.1.isSome)
   &&decide ([e].length+([]:List k6).length+(if([]:List k6).isEmpty then 0 else 1)<30))=true:=by rfl)
  (hline:(apos.endLine==cpos.line)=true:=by rfl) (hs:av [e] X.env=(false,eval e X.env)::av [] X.env:=by rfl) (hplain:(dq cpos (av [] X.env)).any (·.1)=false:=by rfl):
  OE X cls E (.Call (.Attribute o "pop" apos) [e] [] cpos) (pP Ga fo fl):=OR uh PySem.F.type_dict_pop (LU hu) IS ho ha hbase hfew hline hs hplain
end
end L2.MB
end
section
namespace L2.MB
open PySem PySem.Spec PyProof.Rows PySem.Builtin
section
variable {P:di}{w:du}{K:Type} [DecidableEq K] {knd:HeapKind P w K}{A:d7}{E:ag->au->Prop}{s:au}{d a:af}{xs ys:List (K×af×ag)}{k:K}{v:ag}{Q:Unit->au->Prop}
theorem uN (h:∀(j:Nat) (p:af×ag),xs[j]?≠xw (k,p)):l9 xs k=xx:=by
 unfold l9;rw[Option.map_eq_none_iff,vn];intro x hx;obtain⟨j,hj⟩:=j6 hx;intro z;have e:x.1=k:=by simpa using z
 exact h j x.2 (by rw[hj,<- e])
theorem DR {j:Nat} (h:xs[j]?=xw (k,p)):(l9 xs k).isSome=true:=by
 unfold l9;rw[qo,List.find?_isSome];exact⟨(k,p),gg h,by simp⟩
theorem Df (nd:(xs.map (·.1)).Nodup) (h:xs[j]?=xw (k,p)):(xs.map (gq knd)).modify j (fun e=>{ hash:=e.hash,key:=e.key,val:=v })=(xs.map (sj k v)).map (gq knd):=by
 apply ii;intro i;rw[List.getElem?_modify,aw,aw,aw];cases q:xs[i]? with
 |none=>rfl
 |some x=>
  show xw _=xw _
  by_cases e:j=i
  ·subst e;rw[h] at q;cases q;simp[sj,gq]
  ·have hx:x.1≠k:=fun z=>e (nodup_ix nd h (show xs[i]?=xw (k,x.2) by rw[q,<- z]));simp[sj,e,hx]
theorem Iq:(xs.map (sj k v)).map (·.1)=xs.map (·.1):=by
 rw[fm];apply fg;intro x _;unfold sj
 show(if _ then _ else _:K×af×ag).1=_
 split <;> rfl
theorem Hh (hr:knd.room A) (hk:knd.is s.heap k a) (hd:i6 knd s.heap d xs) (hz:xs.length<=sizeLine) (h:∀ h',i6 knd h' d (jx xs k a v)->f8 d s.heap h'->Q () { s with heap:=h' }):
  bc (model P w) A (dictSetHashed d (.ref a) (knd.hash k) v) Q E s:=by
 obtain⟨o,es,ep,h1,h2,h3,h4,h5,h6⟩:=hd;obtain⟨oc,od,odt,osl⟩:=o;obtain⟨q1,q2,q3⟩:=h2;dsimp only at q1 q2 q3 h3;subst q1 q2 q3 h3;have hs:es.size=xs.length:=by
  have:=congrArg lr h4
  rw[ao,ff] at this;exact this
 unfold dictSetHashed
 repeat (first|(with_reducible refine u0 hr hk h1 rfl h4 h5 h6 (fun hn=> ?none) fun j p hj=> ?some)|(with_reducible refine uq h1 rfl ?main ?sz ?gr)|wp_step)
 case main=>
   have sb:f8 d s.heap (s.heap.update d (su fun x=>x.push { hash:=knd.hash k,key:=.ref a,val:=v })):=⟨o7 _ _ _,fun b hb=>fw _ _ (bx hb)⟩;have e1:jx xs k a v=xs++[(k,a,v)]:=by
    unfold jx;rw[uN hn];rfl
   refine h _ ⟨_,es.push { hash:=knd.hash k,key:=.ref a,val:=v },ep+1,gz _ h1 rfl,⟨rfl,rfl,rfl⟩,rfl,?_,fun x hx=> ?_,?_⟩ sb
   ·rw[e1,Array.toList_push,h4,cf];rfl
   ·rw[e1] at hx;rcases cu.mp hx with hx|hx
    ·exact knd.keeps (h5 x hx) h1 rfl sb
    ·rw[dh] at hx;subst hx;exact knd.keeps hk h1 rfl sb
   ·rw[e1,cf];refine j3.mpr ⟨h6,by simp,fun x hx y hy z=> ?_⟩;have hy':y=k:=by simpa using hy
    rw[z,hy'] at hx;obtain⟨q,q1,q2⟩:=ax.mp hx;obtain⟨j,hj⟩:=j6 q1;exact hn j q.2 (by rw[hj,<- q2])
 case sz=>rw[hs];exact hz
 case gr=>simp
 case some=>
  have e1:jx xs k a v=xs.map (sj k v):=by
   unfold jx;rw[if_pos (DR hj)]
  repeat (first|(with_reducible refine wpAny_updateDict h1 rfl ?_ ?_)|wp_step)
  ·have sb:f8 d s.heap (s.heap.update d (Obj.mapDict fun x=>x.modify j fun e=>{ hash:=e.hash,key:=e.key,val:=v })):=⟨o7 _ _ _,fun b hb=>fw _ _ (bx hb)⟩;refine h _ ⟨_,es.modify j fun e=>{ hash:=e.hash,key:=e.key,val:=v },ep,gz _ h1 rfl,⟨rfl,rfl,rfl⟩,rfl,?_,fun x hx=> ?_,?_⟩ sb
   ·rw[e1,Array.toList_modify,h4];exact Df h6 hj
   ·rw[e1] at hx;obtain⟨q,q1,q2⟩:=ax.mp hx;subst q2
    have:=knd.keeps (h5 q q1) h1 rfl sb
    unfold sj;split
    ·exact this
    ·exact this
   ·rw[e1,Iq];exact h6
  ·simp
end
section
variable {P:di}{w:du}{A:d7}{E:ag->au->Prop}{s:au}{d o:af}{xs ys:List (List Key×af×ag)}{k:List Key}{v:ag}{Q:Unit->au->Prop}{id:String}
noncomputable def fU (xs ys:List (List Key×af×ag)):List (List Key×af×ag):=ys.foldl (fun acc y=>jx acc y.1 y.2.1 y.2.2) xs
theorem Ad:(jx xs k a v).length<=xs.length+1:=by
 unfold jx;split
 ·rw[ao];omega
 ·rw[bw,lw];omega
theorem pS:fU xs (ys++[y])=jx (fU xs ys) y.1 y.2.1 y.2.2:=by
 unfold fU;rw[List.foldl_append];rfl
theorem yA:∀ {ys xs:List (List Key×af×ag)},((xs++ys).map (·.1)).Nodup->fU xs ys=xs++ys
 |[],xs,_=>by rw[c6];rfl
 |y::r,xs,nd=>by
  have e1:fU xs (y::r)=fU (jx xs y.1 y.2.1 y.2.2) r:=rfl;have e2:jx xs y.1 y.2.1 y.2.2=xs++[y]:=by
   unfold jx;rw[uN (fun j p hj=> ?_)]
   ·rfl
   ·have m1:y.1∈xs.map (·.1):=ax.mpr ⟨_,gg hj,rfl⟩;rw[cf,j3] at nd;exact nd.2.2 _ m1 _ (ax.mpr ⟨y,aq,rfl⟩) rfl
  rw[e1,e2,yA (by rw[gu];exact nd),gu];rfl
theorem Fm (nd:(ys.map (·.1)).Nodup):fU [] ys=ys:=yA (by simpa using nd)
theorem kG (hne:d≠o) (hsys:(o==fy)=false) (hr:(b4 (aO P w)).room A) (hd:i6 (b4 (aO P w)) s.heap d xs) (ho:i6 (b4 (aO P w)) s.heap o ys) (hz:xs.length+ys.length<=sizeLine)
  (hh:∀(i j:Nat) x y,ys[i]?=xw x->ys[j]?=xw y->(b4 (aO P w)).hash x.1=(b4 (aO P w)).hash y.1->i=j)
  (h:∀ h',i6 (b4 (aO P w)) h' d (fU xs ys)->f8 d s.heap h'->Q () { s with heap:=h' }):bc (model P w) A (Dict.mergeDict id d o) Q E s:=by
 have hd0:=hd;obtain⟨o1,es,ep,h1,h2,h3,h4,h5,h6⟩:=hd;obtain⟨oc,od,odt,osl⟩:=o1;obtain⟨q1,q2,q3⟩:=h2;dsimp only at q1 q2 q3 h3;subst q1 q2 q3 h3;obtain⟨o2,fs,fp,g1,g2,g3,g4,g5,g6⟩:=ho;obtain⟨oc,od,odt,osl⟩:=o2;obtain⟨q1,q2,q3⟩:=g2;dsimp only at q1 q2 q3 g3;subst q1 q2 q3 g3;have hn:(d==o)=false:=by simpa using hne
 unfold Dict.mergeDict;simp only[u6];rw[hn];simp only[d8,if_false]
 repeat wp_step
 have fl:fs.size=ys.length:=by
  have:=congrArg lr g4
  rw[ao,ff] at this;exact this
 have el:es.size=xs.length:=by
  have:=congrArg lr h4
  rw[ao,ff] at this;exact this
 have few:(decide (fs.size<=8)&&fs.all fun e=>(keyPart e.key).isSome)=decide (ys=[]):=by
  rw[<- wo,g4];cases ys with
  |nil=>simp[fl]
  |cons y r=>simp[gq,keyPart]
 rw[few]
 by_cases hy:ys=[]
 ·rw[decide_eq_true hy];simp only[Bool.not_true,d8,if_false];have e0:c5 ([:fs.size]:ko).start ([:fs.size]:ko).size ([:fs.size]:ko).step=[]:=by rw[fl,hy];rfl
  subst hy
  repeat (first|(with_reducible refine rc _ (fun rest _ s'=>rest=[]/\s'=s) _ ?step ?fin _ _ ?init)|wp_step)
  case init=>exact⟨e0,rfl⟩
  case step=>rintro i rest b s' ⟨z,_⟩;cases z
  case fin=>
   rintro b s' ⟨_,rfl⟩
   repeat wp_step
   exact h _ hd0 ⟨rfl,fun _ _=>rfl⟩
 ·rw[decide_eq_false hy];simp only[xl,if_true]
  repeat wp_step
  by_cases hx:xs=[]
  ·have e0:es.isEmpty=true:=by
    rw[ol];apply Array.eq_empty_of_size_eq_zero;rw[el,hx];rfl
   rw[e0];simp only[if_true];unfold Dict.entriesForEmpty
   repeat (first|(with_reducible refine wpAny_forIn_array' _ (fun(rest:List l7) _ s'=>(∀ e∈rest,∃ i:Nat,fs[i]?=xw e)/\s'=s) _ ?step ?fin _ _ ?init)|wp_step)
   case init=>exact⟨fun e he=>by obtain⟨i,hi⟩:=j6 he;exact⟨i,by rw[<- im];exact hi⟩,rfl⟩
   case step=>
    rintro e rest b s' ⟨hi,rfl⟩;obtain⟨i,hi0⟩:=hi e aq;have hi1:(ys.map (gq (b4 (aO P w))))[i]?=xw e:=by rw[<- g4,im];exact hi0
    rw[aw] at hi1;obtain⟨y,hy1,rfl⟩:=aG hi1;obtain⟨ot,its,nt,t1,t2,t3,_⟩:=(show IsTupleKey (aO P w) s'.heap y.1 y.2.1 from g5 y (gg hy1));show bc _ _ (do let __do_lift <- Dict.quietEq (cq y.2.1);_) _ _ _;unfold Dict.quietEq;have small:¬(Array.filter (fun x=>x.hash==(gq (b4 (aO P w)) y).hash) fs).size>1:=by
     have:(fs.filter (fun x=>x.hash==(gq (b4 (aO P w)) y).hash)).toList.length<=1:=by
      rw[Array.toList_filter,g4,List.filter_map,ao];have nd:∀(l:List (List Key×af×ag)),(∀(i j:Nat) x y,l[i]?=xw x->l[j]?=xw y->(b4 (aO P w)).hash x.1=(b4 (aO P w)).hash y.1->i=j)->∀ c:Int,(l.filter ((fun x:l7=>x.hash==c)∘gq (b4 (aO P w)))).length<=1:=by
       intro l
       induction l with
       |nil=>intro _ _;simp
       |cons z r ih=>
        intro hl c;have ih':=ih (fun i j x y h1 h2 e=>by have:=hl (i+1) (j+1) x y (by simpa using h1) (by simpa using h2) e;omega) c
        by_cases hc:(b4 (aO P w)).hash z.1=c
        ·rw[df (by simpa [gq] using hc)]
         have:r.filter ((fun x:l7=>x.hash==c)∘gq (b4 (aO P w)))=[]:=by
          rw[List.filter_eq_nil_iff];intro q hq z';obtain⟨j,hj⟩:=j6 hq;have e:(b4 (aO P w)).hash q.1=c:=by simpa [gq] using z'
          have:=hl 0 (j+1) z q (by simp) (by simpa using hj) (hc.trans e.symm)
          omega
         rw[this];simp
        ·rw[de (by simpa [gq] using hc)];exact ih'
      exact nd ys hh _
     rw[ff] at this;omega
    repeat wp_step
    rw[t2,show uk (j4 "tuple") (jz "__eq__")=pure (xw (.builtin "tuple.__eq__")) from PySem.F.slot_tuple_eq.lookup]
    repeat wp_step
    rw[if_neg small]
    repeat wp_step
    exact⟨fun e he=>hi e (ai _ he),rfl⟩
   case fin=>
    rintro b s' ⟨_,rfl⟩
    repeat wp_step
    have f0:fs.isEmpty=false:=by
     cases q:fs.isEmpty with
     |false=>rfl
     |true=>
      rw[ol] at q;rw[q] at fl;exact absurd (List.eq_nil_of_length_eq_zero fl.symm) hy
    rw[f0];simp only[xl,if_true];have sb:f8 d s'.heap (s'.heap.update d (su fun _=>fs)):=⟨o7 _ _ _,fun b hb=>fw _ _ (bx hb)⟩;have mg:fU xs ys=ys:=by
     rw[hx];exact Fm g6
    repeat (first|(with_reducible refine wpAny_updateDictKeysTo h1 rfl ?main ?sz)|wp_step)
    case sz=>show fs.size<=_;rw[fl];omega
    case main=>
     refine h _ ⟨_,fs,ep+1,gz _ h1 rfl,⟨rfl,rfl,rfl⟩,rfl,?_,fun x hx'=> ?_,?_⟩ sb
     ·rw[mg];exact g4
     ·rw[mg] at hx';exact(b4 (aO P w)).keeps (g5 x hx') h1 rfl sb
     ·rw[mg];exact g6
  ·have e0:es.isEmpty=false:=by
    cases q:es.isEmpty with
    |false=>rfl
    |true=>
     rw[ol] at q;rw[q] at el;exact absurd (List.eq_nil_of_length_eq_zero el.symm) hx
   rw[e0];simp only[d8,if_false];have e1:c5 ([:fs.size]:ko).start ([:fs.size]:ko).size ([:fs.size]:ko).step=c5 0 ys.length:=by
    rw[fl];simp[xv]
   have len:∀ n,n<=ys.length->(fU xs (ys.take n)).length<=xs.length+n:=fun n=>by
    induction n with
    |zero=>intro _;simp[fU]
    |succ n ih=>
     intro hn;have hn':n<ys.length:=hn;rw[o8 hn',pS]
     have:=ih (io hn')
     exact ci Ad (by omega)
   repeat (first|(with_reducible refine rc _ (fun(rest:List Nat) _ s'=>∃(i:Nat) (h':c9),rest=c5 i (ys.length-i)/\i<=ys.length/\s'={ s with heap:=h' }/\i6 (b4 (aO P w)) h' d (fU xs (ys.take i))/\f8 d s.heap h') _ ?step ?fin _ _ ?init)|wp_step)
   case init=>exact⟨0,s.heap,e1,iz _,rfl,hd0,⟨rfl,fun _ _=>rfl⟩⟩
   case step=>
    rintro i rest b s' ⟨j,h',e2,hj,rfl,dd,sb⟩;have hlt:j<ys.length:=by
     rcases nq j ys.length with z|z
     ·exact z
     ·rw[Nat.sub_eq_zero_of_le z] at e2;cases e2
    have e3:ys.length-j=(ys.length-(j+1))+1:=by omega
    rw[e3,kq] at e2;cases e2;have go:h'.get? o=xw { cls:=j4 "dict",data:=xn fs fp }:=(sb.2 o (bx hne)).trans g1;have hes:fs[i]?=xw { hash:=(b4 (aO P w)).hash ys[i].1,key:=.ref ys[i].2.1,val:=ys[i].2.2 }:=by
     rw[<- im,g4,aw,bh hlt];rfl
    have hk:(b4 (aO P w)).is h' ys[i].1 ys[i].2.1:=(b4 (aO P w)).keeps (g5 _ (jc hlt)) h1 rfl sb
    repeat wp_step
    rw[hes]
    repeat (first|(with_reducible refine Hh hr hk dd (ci (len i (io hlt)) (by omega)) fun h2 dd2 sb2=> ?_)|wp_step)
    have go2:h2.get? o=xw { cls:=j4 "dict",data:=xn fs fp }:=(sb2.2 o (bx hne)).trans go
    repeat (first|(with_reducible refine qp go2 ?_)|wp_step)
    simp only[bne_self_eq_false,d8,if_false]
    repeat wp_step
    refine⟨i+1,h2,rfl,hlt,rfl,?_,sb.trans sb2⟩;rw[o8 hlt,pS];exact dd2
   case fin=>
    rintro b s' ⟨j,h',e2,hj,rfl,dd,sb⟩
    have:j=ys.length:=by
     have:=congrArg lr e2
     simp at this;omega
    subst this;rw[List.take_length] at dd
    repeat wp_step
    exact h h' dd sb
end
end L2.MB
end
section
namespace L2.MB
open PySem PySem.Spec PyProof.Rows PySem.Builtin
theorem Eh (d b:af) (hne:d≠b) (hsys:(b==fy)=false):MeetsIn P w («dict.update» { pos:=[.ref d,.ref b] }) fun A R s=>
  A.units+1<eu/\∃ xs ys:List (List Key×af×ag),i6 (b4 (aO P w)) s.heap d xs/\i6 (b4 (aO P w)) s.heap b ys/\xs.length+ys.length<=sizeLine/\
   (∀(i j:Nat) x y,ys[i]?=xw x->ys[j]?=xw y->(b4 (aO P w)).hash x.1=(b4 (aO P w)).hash y.1->i=j)/\
   ∀ h',i6 (b4 (aO P w)) h' d (fU xs ys)->f8 d s.heap h'->R (.ok (.ret .none)) { s with heap:=h' }:=by
 rintro A R s ⟨hu,xs,ys,hd,ho,hz,hh,hR⟩;have hr:(b4 (aO P w)).room A.in1:=lh hu;have hd0:=hd;have ho0:=ho;obtain⟨o1,es,ep,h1,h2,h3,h4,h5,h6⟩:=hd;obtain⟨oc,od,odt,osl⟩:=o1;obtain⟨q1,q2,q3⟩:=h2;dsimp only at q1 q2 q3 h3;subst q1 q2 q3 h3;obtain⟨o2,fs,fp,g1,g2,g3,g4,g5,g6⟩:=ho;obtain⟨oc,od,odt,osl⟩:=o2;obtain⟨q1,q2,q3⟩:=g2;dsimp only at q1 q2 q3 g3;subst q1 q2 q3 g3;unfold «dict.update» Dict.selfAndRest
 repeat (first|(with_reducible refine kG hne hsys hr hd0 ho0 hz hh fun h' dd sb=> ?_)|wp_step)
 simp only[bne_self_eq_false,d8,if_false]
 repeat (first|(with_reducible refine kG hne hsys hr hd0 ho0 hz hh fun h' dd sb=> ?_)|wp_step)
 rw[PySem.isSubtype_dict_dict]
 repeat (first|(with_reducible refine kG hne hsys hr hd0 ho0 hz hh fun h' dd sb=> ?_)|wp_step)
 rw[show uk (j4 "dict") (jz "__iter__")=pure (xw (.builtin "dict.__iter__")) from ow.lookup]
 repeat (first|(with_reducible refine kG hne hsys hr hd0 ho0 hz hh fun h' dd sb=> ?_)|wp_step)
 exact hR h' dd sb
noncomputable def Mh:List Key->Option (List Int)
 |[]=>xw []
 |.inl i::r=>(Mh r).map fun is=>i::is
 |.inr _::_=>xx
noncomputable def fD (k:List Key):Option Int:=(Mh k).map fun is=>reduceHash (qv (is.map hashInt))
theorem yI:∀ {k:List Key}{is:List Int},Mh k=xw is->k=is.map pc
 |[],_,h=>by cases h;rfl
 |.inl i::r,_,h=>by
  obtain⟨js,e,rfl⟩:=aG h;rw[yI e];rfl
 |.inr _::_,_,h=>nomatch h
theorem Cg (h:fD k=xw c):(b4 (aO P w)).hash k=c:=by
 obtain⟨is,e,rfl⟩:=aG h;rw[yI e];show reduceHash (qv ((is.map pc).map (aO P w).hash))=_;rw[fm];rfl
noncomputable def fB:List (List Key)->Bool
 |[]=>true
 |k::r=>(fD k).isSome&&r.all (fun k'=>match fD k,fD k' with
  |some a,xw b=>decide (a≠b)
  |_,_=>false)&&fB r
theorem tU:∀ {ks:List (List Key)},fB ks=true->∀(i j:Nat) x y,ks[i]?=xw x->ks[j]?=xw y->(b4 (aO P w)).hash x=(b4 (aO P w)).hash y->i=j
 |[],_,i,j,x,y,h1,_,_=>by simp at h1
 |k::r,h,i,j,x,y,h1,h2,e=>by
  have h':((fD k).isSome&&r.all (fun k'=>match fD k,fD k' with
   |some a,xw b=>decide (a≠b)
   |_,_=>false)&&fB r)=true:=h
  rw[bu,bu] at h';obtain⟨⟨_,ha⟩,hr⟩:=h';have main:∀ y,y∈r->(b4 (aO P w)).hash k=(b4 (aO P w)).hash y->False:=fun y hy e=>by
   have:=fx.mp ha y hy
   split at this
   ·rename_i a b e1 e2
    rw[Cg e1,Cg e2] at e;simp at this;exact this e
   ·cases this
  cases i with
  |zero=>
   cases j with
   |zero=>rfl
   |succ j=>
    simp at h1 h2;subst h1;exact(main y (gg h2) e).elim
  |succ i=>
   cases j with
   |zero=>
    simp at h1 h2;subst h2;exact(main x (gg h1) e.symm).elim
   |succ j=>
    simp at h1 h2;rw[tU hr i j x y h1 h2 e]
noncomputable def mergeK (kvs more:List (List Key×V)):List (List Key×V):=more.foldl (fun acc p=>nC acc p.1 p.2) kvs
noncomputable def jJ (kvs more:List (List Key×D)):List (List Key×D):=more.foldl (fun acc p=>putD acc p.1 p.2) kvs
theorem KT.merge:∀ {ms:List (List Key×V)}{ys:List (List Key×af×ag)},KT H ms ys->∀ {kvs:List (List Key×V)}{xs:List (List Key×af×ag)},KT H kvs xs->KT H (mergeK kvs ms) (fU xs ys)
 |_,_,.nil,_,_,r=>r
 |_,_,.cons (a:=p) (b:=q) h t,kvs,xs,r=>by
  obtain⟨h1,h2,h3⟩:=h;have r':=r.put p.1 h2 h3;rw[h1] at r'
  have:=KT.merge t r'
  rw[<- h1] at this;show KT H (mergeK (nC kvs p.1 p.2) _) (fU (jx xs q.1 q.2.1 q.2.2) _);rw[<- h1];exact this
theorem KvR.mergeR {K:aa}:∀ {ms:List (List Key×V)}{ns:List (List Key×D)},KvR K ok H ms ns->∀ {vs:List (List Key×V)}{ds:List (List Key×D)},KvR K ok H vs ds->KvR K ok H (mergeK vs ms) (jJ ds ns)
 |_,_,.nil,_,_,r=>r
 |_,_,.cons h t,vs,ds,r=>KvR.mergeR t (r.put h)
theorem Hv {k:List Key}:(nC kvs k v).length<=kvs.length+1:=iG kvs k v
theorem tL:∀ {ms kvs:List (List Key×V)},(mergeK kvs ms).length<=kvs.length+ms.length
 |[],_=>bf _
 |p::r,kvs=>by
  have:=tL (ms:=r) (kvs:=nC kvs p.1 p.2)
  have:=Hv (kvs:=kvs) (k:=p.1) (v:=p.2)
  show(mergeK (nC kvs p.1 p.2) r).length<=kvs.length+(r.length+1)
  omega
section
variable {X:Cx}{pins:List (af×Obj)}{σ:St}{H:Hp}{s:au}{a b:af}{kvs ms:List (List Key×V)}{A:d7}{E:ag->au->Prop}
theorem PU (hu:A.units+1<eu) (I:Inv X pins σ H s) (ea:H a=xw (.dT kvs)) (eb:H b=xw (.dT ms)) (hne:a≠b) (hl:kvs.length+ms.length<=sizeLine) (hh:fB (ms.map (·.1))=true)
  (h:∀ s',Inv X pins σ (upd H a (.dT (mergeK kvs ms))) s'->Q .none s'):bc (model X.prog X.w) A (call (.builtin "dict.update") [.ref a,.ref b]) Q E s:=by
 obtain⟨z,hd,xs,rel,dd⟩:=Je I.hok ea;obtain⟨z2,hd2,ys,rel2,dd2⟩:=Je I.hok eb;have lx:kvs.length=xs.length:=jh rel;have ly:ms.length=ys.length:=jh rel2;have keys:ms.map (·.1)=ys.map (·.1):=by
  clear dd2 ly z2 hl hh eb h
  induction rel2 with
  |nil=>rfl
  |cons h t ih=>rw[bg,bg,ih,h.1]
 rw[keys] at hh;refine vm rn dd.typeIs PySem.F.entry_dict_update (PySem.F.args_dict_update_2 _ _) (Eh a b hne hd2) ⟨hu,xs,ys,dd,dd2,by omega,fun i j x y h1 h2 e=> ?_,fun h' dd' hs=>h _ ?_⟩
 ·exact tU hh i j x.1 y.1 (by rw[aw,h1];rfl) (by rw[aw,h2];rfl) e
 ·obtain⟨q,es,ep,hq,h2,h3,h4,_,h5⟩:=dd';refine qO I (by rw[ea];exact ga) hs ⟨q,hq⟩ ⟨ci tL hl,hd,_,KT.keeps (KT.merge rel2 rel) fun c ws ec=> ?_,q,es,ep,hq,h2,h3,h4,h5⟩;rw[aH (LQ ec ea (fun z=>nomatch z))];exact ec
def NB:V->List V->Hp->VK->Prop:=fun x xs H Q=>∃ a b kvs ms,x=.ref a/\xs=[.ref b]/\H a=xw (.dT kvs)/\H b=xw (.dT ms)/\a≠b/\kvs.length+ms.length<=sizeLine/\fB (ms.map (·.1))=true/\Q .non (upd H a (.dT (mergeK kvs ms)))
theorem LS (hu:X.A.units+1<eu):MtR X "dict.update" NB:=by
 intro pins s σ H x xs v us Q I rx rs h;obtain⟨a,b,kvs,ms,rfl,rfl,ha,hb,hne,hl,hh,q⟩:=h;obtain⟨u,rfl,ru⟩:=mS rs;cases rx;cases ru;exact PU hu I ha hb hne hl hh fun s' I'=>⟨.non,_,I',rfl,q⟩
end
section
variable {X:Cx}{cls exC:Nat->af}{E:XE}{e a b c o i value:bv}{es rest:List bv}{fa fb fc fo fi fv:OG D}{fl:OG (List D)}{ft ft':OG Bool}{pos p apos pos' cpos:Pos}{x m:Str}{st:cz}
noncomputable def FU (ω:Om) (d:D) (as:List D):Option (D×Om):=match d,as with
 |.obj n,[.obj m]=>match ω[n]?,ω[m]? with
  |some (.dt kvs),xw (.dt ms)=>if n≠m/\kvs.length+ms.length<=sizeLine/\fB (ms.map (·.1))=true then xw (.non,ω.set n (.dt (jJ kvs ms))) else xx
  |_,_=>xx
 |_,_=>xx
theorem IM {K:aa}:GX cls K NB FU:=fun ok H ω x xs a as d ω' Q h1 st ra rs e k=>by
 unfold FU at e;split at e
 ·rename_i n m
  split at e
  ·rename_i kvs ms hc hc2
   obtain⟨⟨hnm,hl,hh⟩,e3⟩:=bK e;cases e3;obtain⟨a1,rfl,e4,vs,e5,kv⟩:=st.ref ra hc;obtain⟨w,rfl,rw'⟩:=rs.one_inv;obtain⟨b1,rfl,e6,us,e7,kv2⟩:=st.ref rw' hc2;refine⟨a1,b1,vs,us,rfl,rfl,e5,e7,fun z=>hnm (st.inj n m a1 e4 (z ▸ e6)),by rw[kv.length,kv2.length];exact hl,by rw[kv2.keys];exact hh,?_⟩;have nw:=Nw.write (o:=.dT (mergeK vs us)) (ob:=.dt (jJ kvs ms)) h1 st e4 e5 fun dat=>⟨_,aP,(kv2.mergeR kv).mono dat fun _ _ z=>z⟩;exact k _ ok _ nw .non
  ·cases e
 ·cases e
theorem Lr (hu:X.A.units+1<eu) (ho:OE X cls E o fo) (ha:OA X cls E [e] fl) (hbase:iq o "update" X.env (eval o X.env)=eval o X.env:=by rfl)
  (hfew:((dq cpos (av [e] X.env)).all (fun x=> !x.1)&&(kh cpos (i4 [] X.env)).all (fun x=>x.1.isSome)
   &&decide ([e].length+([]:List k6).length+(if([]:List k6).isEmpty then 0 else 1)<30))=true:=by rfl)
  (hline:(apos.endLine==cpos.line)=true:=by rfl) (hs:av [e] X.env=(false,eval e X.env)::av [] X.env:=by rfl) (hplain:(dq cpos (av [] X.env)).any (·.1)=false:=by rfl):
  OE X cls E (.Call (.Attribute o "update" apos) [e] [] cpos) (pP FU fo fl):=OR rn PySem.F.type_dict_update (LS hu) IM ho ha hbase hfew hline hs hplain
end
end L2.MB
end
section
namespace L2.MB
theorem _root_.L2.Inv.movedN (I:Inv X pins σ H s) (k:∀ b o,b≠X.env.locals->s.heap.get? b=xw o->h'.get? b=xw o) (ns:∀ m,s.heap.Ns X.env.locals m->h'.Ns X.env.locals m)
  (old:∀ b o,s.heap.get? b=xw o->H' b=H b) (sub:∀ b u,H b=xw u->H' b=xw u) (hok:HOk X.prog X.w H' h'):Inv X pins σ H' { s with heap:=h',toks:=t' }:=by
 obtain⟨m,hn,lk⟩:=I.loc;obtain⟨oL,esL,epL,hoL,hdL,rL⟩:=id hn;have nl:∀ {b:af}{o:Obj},X.s₀.heap.get? b=xw o->b≠X.env.locals:=fun e z=>absurd (bp e) (by rw[z];exact um.mpr I.ok.above);have nc:∀ {c:af}{v:Option ag}{o:Obj},s.heap.get? c=xw o->o.data=.cell v->c≠X.env.locals:=fun {c v o} e1 e2 z=>by
  rw[z,hoL] at e1;cases e1;rw[hdL] at e2;cases e2
 have th:∀ b o,s.heap.get? b=xw o->H b=xx->H' b=xx:=fun b o e n=>(old b o e).trans n;refine⟨I.ok,I.os,I.bare,⟨fun b o e n hb hx=>k b o (nl e) (I.base.keep b o e n hb hx),fun b o e n hb hx=> ?_,fun b o e n hx=> ?_,fun b o e hx=> ?_,fun b xs e=>sub _ _ (I.base.tups b xs e),fun b u v e=>sub _ _ (I.base.frzs b u v e),fun b ps e=> ?_⟩,⟨m,ns m hn,fun i x v e1 e2 e3=> ?_⟩,fun x c e=> ?_,th _ _ hoL I.free,fun x c e=> ?_,fun p hp=> ?_,hok,I.len⟩
 ·obtain⟨sl,z⟩:=I.base.slot b o e n hb hx;exact⟨sl,k b _ (nl e) z⟩
 ·obtain⟨o',z⟩:=I.base.there b o e hx;exact th b o' z (I.base.free b o e n hx)
 ·obtain⟨o',z⟩:=I.base.there b o e hx;exact⟨o',k b o' (nl e) z⟩
 ·obtain⟨m,z⟩:=I.base.tbls b ps e;exact⟨m,sub _ _ z⟩
 ·obtain⟨u,ru,z⟩:=lk i x v e1 e2 e3;refine⟨u,ru,?_⟩;rcases z with z|⟨q,c,e,oc,w1,w2⟩
  ·exact .inl z
  ·exact .inr ⟨q,c,e,oc,k c oc (nc w1 w2) w1,w2⟩
 ·obtain⟨v,oc,w1,w2⟩:=I.cell x c e;exact⟨v,oc,k c oc (nc w1 w2) w1,w2⟩
 ·obtain⟨v,oc,w1,w2⟩:=I.cell x c e;exact th c oc w1 (I.freeC x c e)
 ·obtain⟨z1,z2,z3,z4⟩:=I.pin p hp;exact⟨k p.1 p.2 z3 z1,th _ _ z1 z2,z3,z4⟩
theorem _root_.L2.Inv.moved (I:Inv X pins σ H s) (k:∀ b o,b≠X.env.locals->s.heap.get? b=xw o->h'.get? b=xw o) (ns:∀ m,s.heap.Ns X.env.locals m->h'.Ns X.env.locals m):Inv X pins σ H { s with heap:=h',toks:=t' }:=
 I.movedN k ns (fun _ _ _=>rfl) (fun _ _ e=>e) fun b u e=>by
  have nl:∀ {c:af}{o:HO},H c=xw o->c≠X.env.locals:=fun e z=>by rw[z,I.free] at e;cases e
  refine(I.hok b u e).stay (fun c v hc q=> ?_) (fun _ q=>q) fun _ _ q=>q;rcases hc with rfl|hc
  ·exact k c v (nl e) q
  ·exact k c v (nl hc) q
noncomputable def Ri:List Int->List Int->Bool:=HT.lexLt
noncomputable def Iw:List D->Option (List Int)
 |[]=>xw []
 |.int i::r=>(Iw r).map fun is=>i::is
 |_::_=>xx
noncomputable def fV (a b:D):Option Bool:=match a,b with
 |.int i,.int j=>xw (decide (i<j))
 |.str x,.str y=>xw (decide (x.cps.toList<y.cps.toList))
 |.tup xs,.tup ys=>(Iw xs).bind fun is=>(Iw ys).map fun js=>Ri is js
 |_,_=>xx
noncomputable def Qi (n:Nat):List D->List D->Bool->Option Bool
 |a::r,b::r',fin=>match eqD n a b with
  |some true=>Qi n r r' fin
  |some false=>fV a b
  |none=>xx
 |_,_,fin=>xw fin
noncomputable def Ku {α:Type} (lt:Nat->Nat->Option Bool):xt α->Option α
 |.ret a=>xw a
 |.ask i j k=>(lt i j).bind fun c=>Ku lt (k c)
theorem EA (hc:∀ i j c C,lt i j=xw c->C c s->cmp i j C s):∀ {t:xt α}{a:α},Ku lt t=xw a->Q a s->PySem.W.KasT.kasWp cmp t Q s
 |.ret b,a,h,q=>by
  rw[PySem.W.KasT.kasWp.eq_1];cases h;exact q
 |.ask i j k,a,h,q=>by
  rw[PySem.W.KasT.kasWp.eq_2];obtain⟨c,e1,e2⟩:=bind_some (show(lt i j).bind _=_ from h);exact hc i j c _ e1 (EA hc e2 q)
noncomputable def dY (n:Nat) (a b:D):Option Bool:=match a,b with
 |.tup xs,.tup ys=>Qi n xs ys (decide (xs.length<ys.length))
 |_,_=>xx
noncomputable def kY:D->Option Bool
 |.tup (.int _::_)=>xw true
 |.tup (.str _::_)=>xw false
 |_=>xx
noncomputable def jH (ds:List D):Bool:=ds.all (fun d=>kY d==xw true)||ds.all (fun d=>kY d==xw false)
noncomputable def eC (n:Nat) (ds:List D):Option (List D):=if ds.length<2 then xw ds else if ds.length<64/\jH ds=true then
 (Ku (fun i j=>dY n (ds.getD i .non) (ds.getD j .non)) (PySem.W.kas_sort ds.length)).bind fun p=>if p.toList.length<=64 then xw (p.toList.map fun i=>ds.getD i .non) else xx else xx
section
variable {X:Cx}{pins:List (af×Obj)}{σ:St}{H:Hp}{s:au}{ok:Okk}{A:d7}{E:ag->au->Prop}
theorem FD {K:aa}:∀ {ds:List D}{is:List Int}{xs:List V}{us:List ag},Iw ds=xw is->Reps K ok H xs ds->Vals xs us->k7 us is:=by
 intro ds
 induction ds with
 |nil=>intro is xs us h r v;cases h;cases r;cases v;exact .nil
 |cons d ds ih=>
  intro is xs us h r v;cases r with|cons rr rs=>
  cases v with|cons v vs=>
  cases d with
  |int i=>
   obtain⟨js,e,rfl⟩:=aG h;obtain rfl:=rr.int_inv;obtain⟨t,rfl⟩:=v;exact .cons _ _ (ih e rs vs)
  |_=>cases h
theorem Mc (I:Inv X pins σ H s) (f:Bool) (hf:f=true->kY (.tup [a])≠xx/\kY (.tup [b])≠xx) (ra:Rep X.K ok H x a) (rb:Rep X.K ok H y b) (rv:RelV x v) (ru:RelV y u) (e:fV a b=xw k) (hu:A.units<eu) (q:Q k s):
  bc (model X.prog X.w) A (oneLt' f v u) Q E s:=by
 unfold fV at e;split at e
 ·cases e;obtain rfl:=ra.int_inv;obtain rfl:=rb.int_inv;obtain⟨t,rfl⟩:=rv;obtain⟨t',rfl⟩:=ru;cases f with
  |true=>exact PySem.W.kat_lt_int q
  |false=>exact sv _ _ (wt q)
 ·cases e;obtain rfl:=ra.str_inv;obtain rfl:=rb.str_inv;obtain⟨t,rfl⟩:=rv;obtain⟨t',rfl⟩:=ru;cases f with
  |true=>exact PySem.W.kas_lt_str q
  |false=>exact sv _ _ (lt_str q)
 ·obtain⟨is,e1,e⟩:=bind_some e;obtain⟨js,e2,rfl⟩:=aG e;cases f with
  |true=>exact absurd rfl (hf rfl).1
  |false=>
   obtain⟨p,xs,rfl,g,rs⟩:=ra.tup_inv;obtain⟨p',xs',rfl,g',rs'⟩:=rb.tup_inv;cases rv;cases ru;obtain⟨its,rr,pl,_⟩:=I.tuple g.sq;obtain⟨its',rr',pl',_⟩:=I.tuple g'.sq;exact sv _ _ (HT.lt_tupInts pl pl' (by simpa using FD e1 rs rr) (by simpa using FD e2 rs' rr') hu q)
 ·cases e
theorem Ph (I:Inv X pins σ H s) (hu:A.units+n<eu) (q:Q k s):∀ {as bs:List D}{xs ys:List V}{vs us:List ag} (i:Nat),(i=0->kY (.tup as)≠xx/\kY (.tup bs)≠xx)->Reps X.K ok H xs as->Reps X.K ok H ys bs->Vals xs vs->Vals ys us->Qi n as bs fin=xw k->
  PySem.W.KatLex X.prog X.w A true fin Q (vs.zip us) i s:=by
 intro as
 induction as with
 |nil=>
  intro bs xs ys vs us i _ r1 r2 v1 v2 e;cases r1;cases v1;cases (show xw fin=xw k from e);exact xg q
 |cons a as ih=>
  intro bs xs ys vs us i hk r1 r2 v1 v2 e;cases r1 with|cons r1 rs1=>
  cases v1 with|cons w1 ws1=>
  cases r2 with
  |nil=>
  cases v2;cases (show xw fin=xw k from e);exact xg q
  |@cons _ b _ bs r2 rs2=>
  cases v2 with|cons w2 ws2=>
  refine PySem.W.kat_cons ?_;have e':(match eqD n a b with
   |some true=>Qi n as bs fin
   |some false=>fV a b
   |none=>xx)=xw k:=e
  cases hq:eqD n a b with
  |none=>rw[hq] at e';cases e'
  |some c=>
   rw[hq] at e';refine yS I n r1 r2 w1 w2 hq hu X.prog X.w _ _ ?_;cases c with
   |true=>exact PySem.W.kat_yes (ih (i+1) (fun z=>absurd z (Nat.succ_ne_zero i)) rs1 rs2 ws1 ws2 e')
   |false=>
    refine PySem.W.kat_no ?_;refine Mc I (true&&i==0) (fun hf=> ?_) r1 r2 w1 w2 e' (by omega) q;have hi:i=0:=by simpa using hf
    obtain⟨h1,h2⟩:=hk hi;constructor
    ·intro z;apply h1;cases a <;> first|rfl|cases z
    ·intro z;apply h2;cases b <;> first|rfl|cases z
theorem PZ (I:Inv X pins σ H s) (hu:A.units+n<eu) (h1:kY a≠xx) (h2:kY b≠xx) (ra:Rep X.K ok H x a) (rb:Rep X.K ok H y b) (rv:RelV x v) (ru:RelV y u) (e:dY n a b=xw k) (q:Q k s):
  bc (model X.prog X.w) A (keyLt' (tuples' true) v u) Q E s:=by
 unfold dY at e;split at e
 ·rename_i as bs
  obtain⟨p,xs,rfl,g,rs⟩:=ra.tup_inv;obtain⟨p',xs',rfl,g',rs'⟩:=rb.tup_inv;cases rv;cases ru;obtain⟨its,rr,⟨o,t1,t2,m,t3⟩,_⟩:=I.tuple g.sq;obtain⟨its',rr',⟨o',t1',t2',m',t3'⟩,_⟩:=I.tuple g'.sq;refine PySem.W.kat_lt t1 t3 t1' t3' ?_;have l1:its.toArray.size=as.length:=by rw[bi,<- rr.length,rs.length]
  have l2:its'.toArray.size=bs.length:=by rw[bi,<- rr'.length,rs'.length]
  rw[l1,l2];simpa using Ph I hu q 0 (fun _=>⟨h1,h2⟩) rs rs' rr rr' e
 ·cases e
theorem Vals.getD (r:Vals xs vs) (i:Nat):RelV (xs.getD i .non) (vs.getD i .none):=by
 rcases nq i xs.length with h|h
 ·obtain⟨u,e,ru⟩:=r.get (i:=i) (x:=xs[i]) (by simp[h]);rw[ay,ay,e,bh h];exact ru
 ·rw[ay,ay,cm h,cm (by rw[<- r.length];exact h)];rfl
theorem Reps.getD {K:aa} (r:Reps K ok H xs ds) (i:Nat):Rep K ok H (xs.getD i .non) (ds.getD i .non):=by
 rcases nq i ds.length with h|h
 ·obtain⟨v,e,rv⟩:=r.get (i:=i) (d:=ds[i]) (by simp[h]);rw[ay,ay,e,bh h];exact rv
 ·rw[ay,ay,cm h,cm (by rw[r.length];exact h)];exact .non
theorem Reps.pick {K:aa} (r:Reps K ok H xs ds):∀ is:List Nat,Reps K ok H (is.map fun i=>xs.getD i .non) (is.map fun i=>ds.getD i .non)
 |[]=>.nil
 |i::r'=>.cons (Reps.getD r i) (Reps.pick r r')
theorem Vals.pick (r:Vals xs vs):∀ is:List Nat,Vals (is.map fun i=>xs.getD i .non) (is.map fun i=>vs.getD i .none)
 |[]=>.nil
 |i::r'=>.cons (Vals.getD r i) (Vals.pick r r')
theorem Gj (I:Inv X pins σ H s) (c:Bool):∀ {ds:List D}{xs:List V}{vs:List ag},ds.all (fun d=>kY d==xw c)=true->Reps X.K ok H xs ds->Vals xs vs->∃ fs,PySem.W.KatTups s.heap vs fs/\fs.length=ds.length/\∀ v∈fs,PySem.W.Looks (model X.prog X.w) s.heap (typeOf v) (.type (if c then "int" else "str")):=by
 intro ds
 induction ds with
 |nil=>intro xs vs _ r w;cases r;cases w;exact⟨[],by rw[PySem.W.KatTups.eq_1];trivial,rfl,fun v hv=>absurd hv (by simp)⟩
 |cons d ds ih=>
  intro xs vs h r w;cases r with|cons r rs=>
  cases w with|cons w ws=>
  rw[List.all_cons,bu] at h;obtain⟨fs,h1,h2,h3⟩:=ih h.2 rs ws;have hd:kY d=xw c:=by simpa using h.1
  cases d with
  |tup as=>
   cases as with
   |nil=>cases hd
   |cons a as=>
    obtain⟨p,xs,rfl,g,rs'⟩:=r.tup_inv;cases w;cases rs' with
    |cons ra rs'=>
     obtain⟨its,rr,⟨o,t1,t2,m,t3⟩,_⟩:=I.tuple g.sq;cases rr with
     |cons wa rr=>
      rename_i u us
      refine⟨u::fs,?_,by simp[h2],fun v hv=> ?_⟩
      ·rw[PySem.W.KatTups.eq_2];exact⟨⟨p,o,_,m,rfl,t1,t2,t3,by simp⟩,h1⟩
      ·rcases ak.mp hv with rfl|hv
       ·cases a with
        |int i=>
         cases hd;obtain rfl:=ra.int_inv;obtain⟨t,rfl⟩:=wa;intro A Q E s' _ q;exact ar q
        |str i=>
         cases hd;obtain rfl:=ra.str_inv;obtain⟨t,rfl⟩:=wa;intro A Q E s' _ q;exact ar q
        |_=>cases hd
       ·exact h3 v hv
  |_=>cases hd
end
noncomputable def xX (h h0:c9) (L a:af):List (af×Obj):=(bj h.objs.size).filterMap fun b=>if b=L∨b=a∨(h0.get? b).isSome=true then xx else(h.get? b).map fun o=>(b,o)
theorem Dg (e:h.get? b=xw o) (h1:b≠L) (h2:b≠a) (h3:h0.get? b=xx):(b,o)∈xX h h0 L a:=by
 unfold xX;refine hW.mpr ⟨b,ic.mpr (bp e),?_⟩;rw[if_neg (by simp[h1,h2,h3]),e];rfl
theorem pO (hp:p∈xX h h0 L a):h.get? p.1=xw p.2/\p.1≠L/\p.1≠a/\h0.get? p.1=xx:=by
 obtain⟨b,_,e⟩:=hW.mp hp
 by_cases hc:b=L∨b=a∨(h0.get? b).isSome=true
 ·rw[if_pos hc] at e;cases e
 ·rw[if_neg hc] at e;obtain⟨o,e1,e2⟩:=aG e;subst e2;refine⟨e1,fun z=>hc (.inl z),fun z=>hc (.inr (.inl z)),?_⟩;cases q:h0.get? b with
  |none=>rfl
  |some u=>exact absurd (.inr (.inr (by rw[q];rfl))) hc
theorem Pe {h:c9} (h1:h.Ns a m) (h2:h.Ns a m'):m=m':=by
 obtain⟨o,es,ep,e1,e2,_,e3⟩:=h1;obtain⟨o',es',ep',g1,g2,_,g3⟩:=h2;rw[e1] at g1;cases g1;rw[e2] at g2;cases g2
 funext x
 rw[<- e3,g3]
theorem EQ:∀ {us:List ag},xs.length=us.length->(∀(j:Nat) x v,xs[j]?=xw x->us[j]?=xw v->RelV x v)->Vals xs us:=by
 induction xs with
 |nil=>
  intro us h _;cases us with
  |nil=>exact .nil
  |cons _ _=>cases h
 |cons x r ih=>
  intro us h g;cases us with
  |nil=>cases h
  |cons u us=>exact .cons (g 0 x u rfl rfl) (ih (by simpa using h) fun j y v e1 e2=>g (j+1) y v (by simpa using e1) (by simpa using e2))
section
variable {X:Cx}{pins:List (af×Obj)}{σ:St}{H:Hp}{s:au}{ok:Okk}{A:d7}{E:ag->au->Prop}
theorem Ma (hk:jH ds=true) (e:dY n (ds.getD i .non) (ds.getD j .non)=xw c):kY (ds.getD i .non)≠xx/\kY (ds.getD j .non)≠xx:=by
 have inr:∀ i,ds.getD i .non≠ .non->kY (ds.getD i .non)≠xx:=fun i hi=>by
  have hlt:i<ds.length:=by
   rcases nq i ds.length with h|h
   ·exact h
   ·rw[ay,cm h] at hi;exact absurd rfl hi
  have hm:ds.getD i .non∈ds:=by
   rw[ay,bh hlt];exact jc hlt
  unfold jH at hk;rw[ik] at hk;rcases hk with hk|hk
  ·have:=fx.mp hk _ hm
   intro z;rw[z] at this;cases this
  ·have:=fx.mp hk _ hm
   intro z;rw[z] at this;cases this
 refine⟨inr i fun z=> ?_,inr j fun z=> ?_⟩
 ·rw[z] at e;cases e
 ·rw[z] at e;unfold dY at e;split at e
  ·rename_i h2
   cases h2
  ·cases e
theorem pF (I:Inv X pins σ H s) (col:∀ {R:List ag->au->Prop},(∀(h':c9) (tk:Nat) (acc:Array ag),(∀ b o,s.heap.get? b=xw o->h'.get? b=xw o)->ItemsOf P acc n->R acc.toList { s with heap:=h',toks:=tk })->bc (model X.prog X.w) A.in1 (collect (.ref r)) R E s) (hn2:2<=n) (hn:n<64) (hu:A.units+(m+2)<eu)
  (hx:xs.length=n) (hP:∀(j:Nat) v x,P j v->xs[j]?=xw x->RelV x v) (rs:Reps X.K ok H xs ds) (hs:eC m ds=xw out)
  (h:∀(h':c9) (tk:Nat) (ys:List V) (l:af),H l=xx->Inv X pins σ (upd H l (.lst ys)) { s with heap:=h',toks:=tk }->Reps X.K ok H ys out->Q (.ref l) { s with heap:=h',toks:=tk }):
  bc (model X.prog X.w) A (call (.builtin "sorted") [.ref r]) Q E s:=by
 have hl':ds.length=n:=by rw[<- rs.length];exact hx
 unfold eC at hs;rw[if_neg (by omega)] at hs;obtain⟨⟨_,hk⟩,hs⟩:=cR hs;obtain⟨p,hrun,hs⟩:=bind_some hs;obtain⟨hpl,hs⟩:=bK hs;refine qt kind_sorted plain_sorted entry_sorted (args_sorted1 _) ?_;unfold Builtin.«sorted»;refine ae (m:=checkCount "sorted" 1 1 _) (ar (ae (col fun h1 tk acc kp it=> ?_)));have hl:acc.toList.length=n:=by rw[ff];exact it.1
 refine ae (ux ?_ (by rw[hl,bt];omega));have o1:(h1.push (ib "list" acc.toList.toArray 0)).get? h1.objs.size=xw (ib "list" acc.toList.toArray 0):=bz _ rfl;have nw:s.heap.get? h1.objs.size=xx:=by
  cases q:s.heap.get? h1.objs.size with
  |none=>rfl
  |some u=>exact absurd (bp (kp _ _ q)) (gx _)
 have hH:H h1.objs.size=xx:=by
  cases q:H h1.objs.size with
  |none=>rfl
  |some u=>
   obtain⟨v,w⟩:=HOk.obj I.hok q;rw[nw] at w;cases w
 obtain⟨mL,hnL,_⟩:=I.loc;have kp2:∀ b o,s.heap.get? b=xw o->(h1.push (ib "list" acc.toList.toArray 0)).get? b=xw o:=fun b o e=>az _ (kp b o e);have fr:Fr X.base X.env.locals (h1.push (ib "list" acc.toList.toArray 0)) mL:=⟨hnL.keeps kp2,fun b o e=>kp2 b o (I.bk b o e),ci I.ok.bsz I.ok.above⟩;have aL:h1.objs.size≠X.env.locals:=fun z=>by
  obtain⟨oL,_,_,hoL,_⟩:=id hnL;rw[<- z,nw] at hoL;cases hoL
 have hb0:X.base.get? h1.objs.size=xx:=by
  cases q:X.base.get? h1.objs.size with
  |none=>rfl
  |some u=>
   have:=I.bk _ _ q
   rw[nw] at this;cases this
 have rv:Vals xs acc.toList:=by
  refine EQ (by rw[hx,hl]) fun j x v e1 e2=> ?_;exact hP j v x (it.2 j v (by rw[<- im];exact e2)) e1
 refine ae (i8 (ip slot_list_sort ⟨_,o1,rfl⟩ entry_list_sort (PySem.W.kat_list_sort (s:={ s with heap:=h1.push (ib "list" acc.toList.toArray 0),toks:=tk }) (news:=xX (h1.push (ib "list" acc.toList.toArray 0)) X.base X.env.locals h1.objs.size) fr (fun q hq=>let ⟨z1,z2,z3,z4⟩:=pO hq;⟨z1,z2,z4⟩) o1 aL hb0 (fun q hq=>(pO hq).2.2.1) (by rw[hl];exact hn2) (by rw[hl];exact hn) fun e1 h' fr' nw'=> ?_) (args_list_sort _)))
 -- the state in its midst
 have keep:∀ {h':c9},Fr X.base X.env.locals h' mL->News X.base X.env.locals h' (xX (h1.push (ib "list" acc.toList.toArray 0)) X.base X.env.locals h1.objs.size)->∀ b o,b≠X.env.locals->s.heap.get? b=xw o->h'.get? b=xw o:=fun {h'} fr' nw' b o hb e=>by
  have hne:b≠h1.objs.size:=fun z=>by rw[z,nw] at e;cases e
  cases q:X.base.get? b with
  |some u=>
   have:=I.bk b u q
   rw[e] at this;cases this;exact fr'.keep b _ q
  |none=>exact(nw' _ (Dg (kp2 b o e) hb hne q)).1
 have nsk:∀ {h':c9},Fr X.base X.env.locals h' mL->∀ m,s.heap.Ns X.env.locals m->h'.Ns X.env.locals m:=fun {h'} fr' m hm=>by
  rw[Pe hm hnL];exact fr'.ns
 have I1:Inv X pins σ H { s with heap:=h',toks:=tk }:=I.moved (keep fr' fun q hq=>nw' q (ai _ hq)) (nsk fr');have hka:∃ c:Bool,ds.all (fun d=>kY d==xw c)=true:=by
  unfold jH at hk;rw[ik] at hk;rcases hk with hk|hk
  ·exact⟨true,hk⟩
  ·exact⟨false,hk⟩
 obtain⟨c,hka⟩:=hka;obtain⟨fs,f1,f2,f3⟩:=Gj I1 c hka rs rv;refine PySem.W.kat_kind f1 (by rw[f2];omega) f3 (by cases c <;> rfl) ?_;have hT:((j4 (if c=true then "int" else "str")) !=j4 "tuple")=true:=by cases c <;> rfl
 rw[hT,hl,<- hl'];refine EA (fun i j c C e q=> ?_) hrun ?_
 ·obtain⟨k1,k2⟩:=Ma hk e;exact PZ I1 (eV (eV hu)) k1 k2 (Reps.getD rs i) (Reps.getD rs j) (Vals.getD rv i) (Vals.getD rv j) e q
 ·refine⟨_,_,fr',nw',.head (fun q hq=>(pO hq).2.2.1),fun h2 cc fr2 nw2=>⟨_,rfl,?_⟩⟩;have na2:h2.get? h1.objs.size=xw (PySem.W.listOf (List.map (fun i=>acc.toList.getD i iu) p.toList).toArray cc):=(nw2 _ aq).1;have I2:Inv X pins σ (upd H h1.objs.size (.lst (p.toList.map fun i=>xs.getD i .non))) { s with heap:=h2,toks:=tk }:=by
   have kk:=keep fr2 fun q hq=>nw2 q (ai _ hq);refine I.movedN kk (nsk fr2) (fun b o e=> ?_) (fun b u e=> ?_) fun b u e=> ?_
   ·rw[aH (fun z=>by rw[z,nw] at e;cases e)]
   ·rw[aH (aN e hH)];exact e
   ·by_cases hb:b=h1.objs.size
    ·subst hb;rw[aP] at e;cases e;refine⟨?_,_,cc,Vals.pick rv p.toList,na2⟩;rw[ao,bt];omega
    ·rw[aH hb] at e;have nl:∀ {c:af}{o:HO},H c=xw o->c≠X.env.locals:=fun e z=>by rw[z,I.free] at e;cases e
     refine(I.hok b u e).stay (fun c v hc q=> ?_) (fun c q=>by rw[aH (aN q hH)];exact q) fun c xs q=>by rw[aH (aN q hH)];exact q
     rcases hc with rfl|hc
     ·exact kk c v (nl e) q
     ·exact kk c v (nl hc) q
  cases hs;exact ar ⟨_,rfl,h h2 tk _ _ hH I2 (Reps.pick rs p.toList)⟩
theorem pD (I:Inv X pins σ H s) (K:qe X.prog X.w T r d n P OK) (hh:A.handled=xx) (hok:OK s.heap) (hn2:2<=n) (hn:n<64) (hu:A.units+(m+2)<eu)
  (hx:xs.length=n) (hP:∀(j:Nat) v x,P j v->xs[j]?=xw x->RelV x v) (rs:Reps X.K ok H xs ds) (hs:eC m ds=xw out)
  (h:∀(h':c9) (tk:Nat) (ys:List V) (l:af),H l=xx->Inv X pins σ (upd H l (.lst ys)) { s with heap:=h',toks:=tk }->Reps X.K ok H ys out->Q (.ref l) { s with heap:=h',toks:=tk }):
  bc (model X.prog X.w) A (call (.builtin "sorted") [.ref r]) Q E s:=
 pF I (fun h=>uz (A:=A.in1) K hh hok (by rw[bt];omega) h) hn2 hn hu hx hP rs hs h
end
section
variable {X:Cx}{cls exC:Nat->af}{E:XE}{e a b c o i value:bv}{es rest:List bv}{fa fb fc fo fi fv:OG D}{fl:OG (List D)}{ft ft':OG Bool}{pos p apos pos' cpos:Pos}{x m:Str}{st:cz}
def QH (K:aa) (n:Nat):List V->Hp->VK->Prop:=fun xs H Q=>∃ v d kvs ds out ok,xs=[.ref v]/\H v=xw (Na v d)/\H d=xw (.dT kvs)/\Reps K ok H (kvs.map (·.2)) ds/\eC n ds=xw out/\∀ l ys,H l=xx->Reps K ok H ys out->Q (.ref l) (upd H l (.lst ys))
theorem pI (h:eC n ds=xw out) (hl:ds.length<2):out=ds:=by
 unfold eC at h;rw[if_pos hl] at h;cases h;rfl
theorem pH (h:eC n ds=xw out) (hl:¬ ds.length<2):ds.length<64:=by
 unfold eC at h;rw[if_neg hl] at h;exact(cR h).1.1
theorem GF (hc:X.calm=true) (hu:X.A.units+(n+2)<eu):CallR X (.builtin "sorted") (QH X.K n):=by
 intro pins s σ H xs us Q I r h;obtain⟨v,d,kvs,ds,out,ok,rfl,hv,hd,rs,hs,q⟩:=h;have hlen:ds.length=kvs.length:=by rw[<- rs.length,ao]
 by_cases hl:ds.length<2
 ·obtain rfl:=pI hs hl;exact zF hc pins s σ H _ us Q I r ⟨v,d,kvs,rfl,hv,hd,by omega,fun l nl=>q l _ nl rs⟩
 ·obtain⟨u,rfl,rx⟩:=mS r;cases rx;obtain⟨lo,hz,es,ep,rd,sz,it⟩:=qU I (.inl hd);have vw:s.heap.IsValuesView v d:=(show ObjOk X.prog X.w H s.heap v (Na v d) from I.hok v _ hv).1;have h64:=pH hs hl;refine pD I (sT (d:=d) (es:=es) (ep:=ep)) (I.ok.hd hc) ⟨vw,rd⟩ (by omega) (by omega) hu (by rw[ao,sz]) (fun j v x hp hx=> ?_) rs hs fun h' tk ys l nl I' rs'=>⟨.ref l,_,I',rfl,q l ys nl rs'⟩;obtain⟨y,y1,y2⟩:=hp;obtain⟨p,p1,p2,_⟩:=it j y y1;rw[aw,p1] at hx;cases hx;rw[y2];exact p2
noncomputable def FW (n:Nat) (ω:Om) (d:D):Option D:=match cellOf ω d with
 |some (.dt kvs)=>(eC n (kvs.map (·.2))).map D.lst
 |_=>xx
noncomputable def HX (n:Nat) (f:OG D):OG D:=oB f fun d _ ω=>oR (pu (FW n ω d) ω)
theorem Ls (hu:X.A.units+(n+2)<eu) (hc:X.calm=true) (hg:Gl X "sorted") (hm:X.mg "sorted"=xx) (ho:OE X cls E o fo) (hbase:iq o "values" X.env (eval o X.env)=eval o X.env:=by rfl) (hline:(ap.endLine==cp.line)=true:=by rfl)
  (he:av [.Call (.Attribute o "values" ap) [] [] cp] X.env=(false,eval (.Call (.Attribute o "values" ap) [] [] cp) X.env)::av [] X.env:=by rfl) (hpl:(dq pos (av [] X.env)).any (·.1)=false:=by rfl):
  OE X cls E (.Call (.Name "sorted" p) [.Call (.Attribute o "values" ap) [] [] cp] [] pos) (HX n fo):=
 (oG (GF hc hu) hg hm boot.sorted (iA (NX r9 rm PySem.F.type_dict_values Fk ho hbase hline) tG he) (by decide) (by decide) he hpl).imp fun σ H Q ⟨ok,ρ,ω,r,ω',P,e,q⟩=>by
  refine tO.then_ P e (fun c z=>by subst z;exact q) fun d ω1 v ok1 H1 e1 n1 P1 r1=> ?_;obtain⟨y,e3,rfl⟩:=cJ e1;obtain⟨ue3,rfl⟩:=cK e3;unfold FW at ue3;split at ue3
  ·rename_i kvs hcell
   obtain⟨k,rfl,e4⟩:=dQ hcell;obtain⟨out,e5,rfl⟩:=aG ue3;obtain⟨a,rfl,e6,vs,e7,kv⟩:=P1.st.ref r1 e4;refine⟨.inr (.inr (.inl ⟨rfl,.inr ⟨vs,e7⟩⟩)),a,vs,rfl,rfl,e7,fun w nw=> ?_⟩;have hne:a≠w:=aN e7 nw;have s2:=cF (o:=Na w a) nw;refine⟨w,a,vs,_,out,ok1,rfl,aP,by rw[aH hne];exact e7,kv.vals.same s2,e5,fun l ys nl rs=> ?_⟩;have s3:=cF (o:=.lst ys) nl;exact q _ ok1 _ (n1.trans (.same P1.okh P1.st (s2.trans s3))) (.lst_new (P1.okh l (s2.free nl)) nl rs)
  ·cases ue3
def ND (K:aa) (n:Nat):List V->Hp->VK->Prop:=fun xs H Q=>∃ d kvs out ok,xs=[.ref d]/\H d=xw (.dT kvs)/\OkH ok H/\eC n (kvs.map fun p=>bH p.1)=xw out/\∀ l ys,H l=xx->Reps K ok H ys out->Q (.ref l) (upd H l (.lst ys))
theorem yC {K:aa} (hok:OkH ok H):∀ {kvs:List (List Key×V)}{as:List af},as.length=kvs.length->(∀(j:Nat) p a,kvs[j]?=xw p->as[j]?=xw a->H a=xw (.tup (p.1.map kV)))->Reps K ok H (as.map V.ref) (kvs.map fun p=>bH p.1)
 |[],[],_,_=>.nil
 |p::kvs,a::as,hl,h=>by
  refine .cons ?_ (yC hok (by simpa using hl) fun j q b e1 e2=>h (j+1) q b (by simpa using e1) (by simpa using e2))
  have:=h 0 p a rfl rfl
  exact .tup ⟨hok.tp a _ this,this⟩ (As p.1)
 |[],_::_,hl,_=>by cases hl
 |_::_,[],hl,_=>by cases hl
theorem GH (hc:X.calm=true) (hu:X.A.units+(n+2)<eu):CallR X (.builtin "sorted") (ND X.K n):=by
 intro pins s σ H xs us Q I r h;obtain⟨d,kvs,out,ok,rfl,hd,hok,hs,q⟩:=h;obtain⟨u,rfl,rx⟩:=mS r;cases rx;obtain⟨lo,hz,es,ep,rd,sz,it⟩:=qU I (.inl hd)
 -- the keys' addresses
 have hex:∀ j,j<es.size->∃ a,∃ y p,es[j]?=xw y/\kvs[j]?=xw p/\y.key=.ref a/\H a=xw (.tup (p.1.map kV)):=fun j hj=>by
  obtain⟨p,p1,_,a,p2,p3⟩:=it j es[j] (by simp[hj]);exact⟨a,_,p,by simp[hj],p1,p2,p3⟩
 have hass:∃ as:List af,as.length=kvs.length/\∀(j:Nat) a,as[j]?=xw a->∃ y p,es[j]?=xw y/\kvs[j]?=xw p/\y.key=.ref a/\H a=xw (.tup (p.1.map kV)):=by
  refine⟨(bj es.size).map fun j=>if hj:j<es.size then(hex j hj).choose else 0,by simp[sz],fun j a ha=> ?_⟩;rw[aw] at ha;obtain⟨j',e1,e2⟩:=aG ha;have hj0:j<es.size:=by
   rcases nq j es.size with z|z
   ·exact z
   ·rw[cm (by simpa using z)] at e1;cases e1
  have hj:j<es.size/\j'=j:=by
   rw[c7 hj0] at e1;cases e1;exact⟨hj0,rfl⟩
  obtain⟨hj,rfl⟩:=hj;rw[dif_pos hj] at e2;rw[<- e2];exact(hex _ hj).choose_spec
 obtain⟨as,al,ah⟩:=hass;have rs:Reps X.K ok H (as.map V.ref) (kvs.map fun p=>bH p.1):=yC hok al fun j p a e1 e2=>by
  obtain⟨y,p',_,g2,_,g4⟩:=ah j a e2;rw[e1] at g2;cases g2;exact g4
 have hPP:∀(j:Nat) v x,(∃ e,es[j]?=xw e/\v=e.key)->(as.map V.ref)[j]?=xw x->RelV x v:=fun j v x ⟨e,e1,e2⟩ hx=>by
  rw[aw] at hx;obtain⟨a,a1,a2⟩:=aG hx;subst a2;obtain⟨y,p,g1,_,g3,_⟩:=ah j a a1;rw[e1] at g1;cases g1;rw[e2,g3];rfl
 by_cases hl:kvs.length<2
 ·obtain rfl:=pI hs (by simpa using hl);refine pE (BG (d:=d) (es:=es) (ep:=ep) lo) (I.ok.hd hc) rd (by rw[sz];exact hl) fun h' tk vs a c kp na hlen hP ha=> ?_;have rv:Vals (as.map V.ref) vs:=zY (by rw[hlen,sz,ao,al]) fun j w hw=>by
   have hj:j<as.length:=by
    have:=(br.mp hw).1
    rw[al,<- sz,<- hlen];exact this
   exact⟨.ref as[j],by rw[aw,bh hj];rfl,hPP j w _ (hP j w hw) (by rw[aw,bh hj];rfl)⟩
  obtain⟨hn,I'⟩:=I.laidN (t':=tk) kp na (vI (H:=upd H a (.lst (as.map V.ref))) rv (by rw[ao,al];exact hz) ha);exact⟨.ref a,_,I',rfl,q a _ hn rs⟩
 ·have h64:=pH hs (by simpa using hl);rw[ao] at h64;exact pD I (BG (d:=d) (es:=es) (ep:=ep) lo) (I.ok.hd hc) rd (by omega) (by omega) hu (by rw[ao,al,sz]) hPP rs hs fun h' tk ys l nl I' rs'=>⟨.ref l,_,I',rfl,q l ys nl rs'⟩
noncomputable def FX (n:Nat) (ω:Om) (ds:List D):Option (D×Om):=match ds with
 |[d]=>match cellOf ω d with
  |some (.dt kvs)=>(eC n (kvs.map fun p=>bH p.1)).map fun out=>(.lst out,ω)
  |_=>xx
 |_=>xx
theorem IR {K:aa}:rQ cls K (ND K n) (FX n):=fun ok H ω xs as d ω' Q h1 st r e k=>by
 unfold FX at e;split at e
 ·split at e
  ·rename_i kvs hcell
   obtain⟨out,e5,e6⟩:=aG e;cases e6;obtain⟨n,rfl,e1⟩:=dQ hcell;obtain⟨v,rfl,r1⟩:=r.one_inv;obtain⟨a,rfl,e6,vs,e7,kv⟩:=st.ref r1 e1;have hk:(vs.map fun p=>bH p.1)=kvs.map fun p=>bH p.1:=by
    have:=congrArg (List.map bH) kv.keys
    rw[fm,fm] at this;exact this
   refine⟨a,vs,out,ok,rfl,e7,h1,?_,fun l ys nl rs=>k _ ok _ (.same h1 st (cF nl)) (.lst_new (h1 l nl) nl rs)⟩;rw[hk];exact e5
  ·cases e
 ·cases e
end
section
variable {X:Cx}{cls exC:Nat->af}{E:XE}{e a b c o i o2 i2 value:bv}{es rest:List bv}{fa fb fc fo fi fo2 fi2 fv:OG D}{fl:OG (List D)}{ft ft':OG Bool}{pos p apos pos' pos2 tp cpos:Pos}{x m:Str}{st:cz}
theorem LM (ha:OE X cls E a fa) (hb:OE X cls E b fb):OE X cls E (.BinOp a .Add b pos) (MB.o2 (lf My) fa fb):=rX Dc (Fit2.lift (fun ok H x y a b d Q h1 ra rb e k=>by
 cases a with
 |str u=>cases b with
  |str v=>
   obtain⟨hz,rfl⟩:=bK (show(if u.length+v.length<=sizeLine then xw (D.str (u++v)) else xx)=xw d from e);exact⟨u,v,ra.str_inv,rb.str_inv,hz,k _ H (Same.refl H) (.str _)⟩
  |_=>cases e
 |_=>cases e)) ha hb
theorem Lz (ha:OE X cls E a fa) (hb:OE X cls E b fb):OE X cls E (.BinOp a .Mult b pos) (MB.o2 (lf Mx) fa fb):=rX Ll (Fit2.lift (fun ok H x y a b d Q h1 ra rb e k=>by
 cases a with
 |str u=>cases b with
  |int v=>
   obtain⟨hz,rfl⟩:=bK (show(if 0<=v/\v<=100000/\u.length<=100 then xw (D.str (Qh u v)) else xx)=xw d from e);exact⟨u,v,ra.str_inv,rb.int_inv,hz,k _ H (Same.refl H) (.str _)⟩
  |_=>cases e
 |_=>cases e)) ha hb
noncomputable def fC (ω:Om) (d:D):D:=match fG ω d with
 |some ds=>.lst ds
 |none=>d
theorem gX {K:aa} (t:Stt cls K ok H ω) (r:Rep K ok H v d):Rep K ⟨fun _=>True,ok.al⟩ H v (fC ω d):=by
 unfold fC;cases hs:fG ω d with
 |some ds=>exact pJ t r hs
 |none=>exact r.wide
noncomputable def iW (n:Nat) (ω:Om) (a b:D):Option (D×Om):=pu (gEq n (fC ω a) (fC ω b)) ω
noncomputable def vR (n:Nat) (ω:Om) (a b:D):Option (D×Om):=pu (gNe n (fC ω a) (fC ω b)) ω
theorem Gi {K:aa}:wV cls K (RX K n) (iW n):=fun ok H ω x y a b d ω' Q h1 st ra rb e k=>by
 obtain⟨ue,rfl⟩:=cK e;obtain⟨c,e1,rfl⟩:=aG ue;exact⟨_,_,_,c,gX st ra,gX st rb,e1,k _ ok H (.refl h1 st) (.bl _)⟩
theorem MC {K:aa}:wV cls K (QJ K n) (vR n):=fun ok H ω x y a b d ω' Q h1 st ra rb e k=>by
 obtain⟨ue,rfl⟩:=cK e;obtain⟨c,e1,rfl⟩:=aG ue;exact⟨_,_,_,c,gX st ra,gX st rb,e1,k _ ok H (.refl h1 st) (.bl _)⟩
theorem OY (hu:Ha X n) (ha:OE X cls E a fa) (hb:OE X cls E b fb):OE X cls E (.Compare a [.Eq] [b] pos) (MB.o2 (iW n) fa fb):=BU (JU hu) Gi ha hb (gU _)
theorem On (hu:Ha X n) (ha:OE X cls E a fa) (hb:OE X cls E b fb):OT X cls E (.Compare a [.Eq] [b] pos) (bS (MB.o2 (iW n) fa fb)):=jG (JU hu) Gi ha hb (gU _)
theorem Oh (hu:Ha X n) (ha:OE X cls E a fa) (hb:OE X cls E b fb):OT X cls E (.Compare a [.NotEq] [b] pos) (bS (MB.o2 (vR n) fa fb)):=jG (JS hu) MC ha hb (gU _)
noncomputable def oIT (f:OG D):OI':=oB f fun d _ ω=>oR (pu (match d with|.tup ds=>xw (ds,bO)|_=>xx) ω)
theorem OJ (h:OE X cls E e fa):OI X cls E tg e (oIT fa):=PI.imp (NO h) fun σ H R ⟨ok,ρ,ω,r,ω',P,e,q⟩=>by
 refine tO.then_ P e (fun c z=>by subst z;exact q) fun d ω1 v ok1 H1 e1 n1 P1 r1=> ?_;obtain⟨⟨ds,chk⟩,e3,rfl⟩:=cJ e1;obtain⟨ue3,rfl⟩:=cK e3;split at ue3
 ·cases ue3;obtain⟨a,xs,rfl,g,rs⟩:=r1.tup_inv;refine⟨a,rfl,⟨xs,g.sq⟩,q _ ok1 H1 n1 ⟨fun i ok H ω n c hi=> ?_,fun i ok H ω x H' d n c y hd=> ?_,fun i ok H ω n c hi=>⟨xs,(g.mono n.ex.dat).sq,by rw[rs.length];exact hi⟩⟩⟩
  ·have hi':i<xs.length:=by rw[rs.length];exact hi
   exact⟨xs,xs[i],(g.mono n.ex.dat).sq,by simp[hi']⟩
  ·obtain⟨rfl,y⟩:=y;have rs':=rs.ex n.ex;obtain⟨w,z1,z2⟩:=rs'.get hd;rw[y xs (g.mono n.ex.dat).sq] at z1;cases z1;exact⟨Same.refl _,z2⟩
 ·cases ue3
end
end L2.MB
end
section
namespace L2.MB
open PySem PySem.Spec PyProof.Rows PySem.W
def Tree {α:Type} (n:Nat) (Q:α->Prop):KasT α->Prop
 |.ret a=>Q a
 |.ask i j k=>i<n/\j<n/\∀ b,Tree n Q (k b)
theorem Tree.bind {f:α->KasT β} (g:∀ a,Q a->Tree n R (f a)):∀ {t:KasT α},Tree n Q t->Tree n R (t.bind f)
 |.ret a,h=>by rw[KasT.bind.eq_1];exact g a h
 |.ask i j k,h=>by
  rw[KasT.bind.eq_2];exact⟨h.1,h.2.1,fun b=>Tree.bind g (h.2.2 b)⟩
theorem Tree.run (hl:∀ i j,i<n->j<n->∃ c,lt i j=xw c):∀ {t:KasT α},Tree n Q t->∃ a,Ku lt t=xw a/\Q a
 |.ret a,h=>⟨a,rfl,h⟩
 |.ask i j k,h=>by
  obtain⟨c,e⟩:=hl i j h.1 h.2.1;obtain⟨a,e2,q⟩:=Tree.run hl (h.2.2 c);refine⟨a,?_,q⟩
  show(lt i j).bind _=_
  rw[e];exact e2
def Pm (n:Nat) (p:Array Nat):Prop:=p.Perm (bj n).toArray
theorem Pm.lt (h:Pm n p) (h0:0<n) (i:Nat):p.getD i 0<n:=by
 rw[cy];cases q:p[i]? with
 |none=>exact h0
 |some x=>
  have hm:x∈p:=Array.mem_of_getElem? q
  have:x∈(bj n).toArray:=(h.mem_iff).mp hm
  simpa using this
theorem Pm.rev (h:Pm n p) (i j:Nat):Pm n (kas_rev p i j):=(mirror_perm p i j _).trans h
theorem Pm.bub (h:Pm n p) (k d:Nat):Pm n (bubble p k d):=(bubble_perm p k d).trans h
section
variable {n:Nat} (h0:0<n)
include h0
theorem uS (hp:Pm n p):∀(f m:Nat),Tree n (fun _=>True) (kas_asc p f m)
 |0,m=>by rw[kas_asc.eq_def];trivial
 |f+1,m=>by
  rw[kas_asc.eq_def];refine⟨hp.lt h0 _,hp.lt h0 _,fun b=> ?_⟩;cases b with
  |true=>(dsimp only;rw[if_pos rfl]);trivial
  |false=>(dsimp only;rw[if_neg cj]);exact uS hp f (m+1)
theorem lK:∀(f:Nat) {p:Array Nat} (m q:Nat),Pm n p->Tree n (fun r:Array Nat×Nat×Nat=>Pm n r.1) (kas_desc f p m q)
 |0,p,m,q,hp=>by rw[kas_desc.eq_def];exact hp
 |f+1,p,m,q,hp=>by
  rw[kas_desc.eq_def];refine⟨hp.lt h0 _,hp.lt h0 _,fun b=> ?_⟩;cases b with
  |true=>
   (dsimp only;rw[if_pos rfl])
   by_cases hq:q>0
   ·rw[if_pos hq];exact lK f _ _ (hp.rev _ _)
   ·rw[if_neg hq];exact lK f _ _ hp
  |false=>
   (dsimp only;rw[if_neg cj])
   refine⟨hp.lt h0 _,hp.lt h0 _,fun b=> ?_⟩;cases b with
   |true=>(dsimp only;rw[if_pos rfl]);exact hp
   |false=>(dsimp only;rw[if_neg cj]);exact lK f _ _ hp
theorem wZ (m r:Nat) (hp:Pm n p):Tree n (fun r:Nat×Array Nat=>Pm n r.2) (kas_tail3 m r p):=by
 unfold kas_tail3;refine Tree.bind (Q:=fun _=>True) (fun a _=> ?_) (uS h0 (hp.rev _ _) _ _);exact hp.rev _ _
theorem lJ (m r:Nat) (hp:Pm n p):Tree n (fun r:Nat×Array Nat=>Pm n r.2) (kas_descPart m r p):=by
 unfold kas_descPart;refine(lK h0 _ _ _ hp).bind fun a ha=> ?_;split
 ·exact wZ h0 _ _ (Pm.rev ha _ _)
 ·exact wZ h0 _ _ ha
theorem CQ (r:Nat) (hp:Pm n p):Tree n (fun r:Nat×Array Nat=>Pm n r.2) (kas_count r p):=by
 unfold kas_count;refine(uS h0 hp _ _).bind fun a _=> ?_;split
 ·exact hp
 ·split
  ·refine⟨hp.lt h0 _,hp.lt h0 _,fun b=> ?_⟩;cases b with
   |true=>(dsimp only;rw[if_pos rfl]);exact hp
   |false=>(dsimp only;rw[if_neg cj]);exact lJ h0 _ _ (hp.rev _ _)
  ·exact lJ h0 _ _ hp
theorem mT (hp:Pm n p) (k:Nat):∀(f l r:Nat),Tree n (fun _=>True) (kas_place p k f l r)
 |0,l,r=>by rw[kas_place.eq_def];trivial
 |f+1,l,r=>by
  rw[kas_place.eq_def];show Tree n _ (if l≥r then _ else _);split
  ·trivial
  ·refine⟨hp.lt h0 _,hp.lt h0 _,fun b=> ?_⟩;cases b with
   |true=>(dsimp only;rw[if_pos rfl]);exact mT hp k f _ _
   |false=>(dsimp only;rw[if_neg cj]);exact mT hp k f _ _
theorem Bz:∀(f:Nat) {p:Array Nat} (k:Nat),Pm n p->Tree n (fun r:Array Nat=>Pm n r) (kas_bin f p k)
 |0,p,k,hp=>by rw[kas_bin.eq_def];exact hp
 |f+1,p,k,hp=>by
  rw[kas_bin.eq_def];exact(mT h0 hp k _ _ _).bind fun l _=>Bz f _ (hp.bub _ _)
theorem xA:Tree n (fun r:Array Nat=>Pm n r) (kas_sort n):=by
 unfold kas_sort;refine(CQ h0 _ (xh _)).bind fun r hr=> ?_;split
 ·exact Bz h0 _ _ hr
 ·exact hr
end
theorem uV (h64:ds.length<64) (hk:jH ds=true) (hl:∀ a∈ds,∀ b∈ds,∃ c,dY m a b=xw c):∃ out,eC m ds=xw out/\out.Perm ds:=by
 unfold eC
 by_cases h2:ds.length<2
 ·rw[if_pos h2];exact⟨ds,rfl,.refl _⟩
 ·rw[if_neg h2,if_pos ⟨h64,hk⟩];have gm:∀ i,i<ds.length->ds.getD i .non∈ds:=fun i hi=>by
   rw[ay,bh hi];exact jc hi
  obtain⟨p,e,hp⟩:=Tree.run (n:=ds.length) (lt:=fun i j=>dY m (ds.getD i .non) (ds.getD j .non)) (fun i j hi hj=>hl _ (gm i hi) _ (gm j hj)) (xA (n:=ds.length) (by omega));rw[e];have pl:p.toList.Perm (bj ds.length):=by
   have:=hp
   unfold Pm at this;rw[qk] at this;simpa using this
  have hl2:p.toList.length<=64:=by rw[pl.length_eq,fk];omega
  refine⟨_,by show(if p.toList.length<=64 then _ else xx)=_;rw[if_pos hl2],?_⟩;refine(pl.map _).trans ?_
  have:(bj ds.length).map (fun i=>ds.getD i .non)=ds:=by
   apply ii;intro i;rw[aw];rcases nq i ds.length with h|h
   ·rw[c7 h,bh h];show xw (ds.getD i .non)=_;rw[ay,bh h];rfl
   ·rw[cm h,cm (by simpa using h)];rfl
  rw[this]
def TreeL {α:Type} (L:Nat->Nat->Bool) (Q:α->Prop):KasT α->Prop
 |.ret a=>Q a
 |.ask i j k=>TreeL L Q (k (L i j))
theorem TreeL.bind {f:α->KasT β} (g:∀ a,Q a->TreeL L R (f a)):∀ {t:KasT α},TreeL L Q t->TreeL L R (t.bind f)
 |.ret a,h=>by rw[KasT.bind.eq_1];exact g a h
 |.ask i j k,h=>by
  rw[KasT.bind.eq_2];exact TreeL.bind g h
theorem TreeL.run:∀ {t:KasT α}{a:α},TreeL (fun i j=>lt i j==xw true) Q t->Ku lt t=xw a->Q a
 |.ret a,_,h,e=>by cases e;exact h
 |.ask i j k,a,h,e=>by
  change TreeL _ Q (k (lt i j==xw true)) at h
  change (lt i j).bind (fun c=>Ku lt (k c))=xw a at e
  cases hq:lt i j with
  |none=>rw[hq] at e;cases e
  |some c=>
   rw[hq] at e h
   have:(xw c==xw true)=c:=by cases c <;> rfl
   rw[this] at h;exact TreeL.run h e
theorem Tree.run':∀ {t:KasT α}{a:α},Tree n Q t->Ku lt t=xw a->Q a
 |.ret a,_,h,e=>by cases e;exact h
 |.ask i j k,a,h,e=>by
  obtain⟨c,e1,e2⟩:=bind_some (show(lt i j).bind _=_ from e);exact Tree.run' (h.2.2 c) e2
section
variable {n:Nat}{L:Nat->Nat->Bool} (ht:∀ i j,i<n->j<n->i≠j->L i j=false->L j i=true) (hr:∀ i j k,i<n->j<n->k<n->L i j=true->L j k=true->L i k=true)
def Asc (L:Nat->Nat->Bool) (p:Array Nat) (m:Nat):Prop:=∀ i j,i<j->j<m->L (p.getD i 0) (p.getD j 0)=true
def Dsc (L:Nat->Nat->Bool) (p:Array Nat) (m:Nat):Prop:=∀ i j,i<j->j<m->L (p.getD j 0) (p.getD i 0)=true
theorem Pm.size (h:Pm n p):p.size=n:=by
 have:=h.size_eq
 simpa using this
theorem Pm.ne (h:Pm n p) (hi:i<n) (hj:j<n) (hne:i≠j):p.getD i 0≠p.getD j 0:=by
 have pl:p.toList.Perm (bj n):=by
  have:=h
  unfold Pm at this;rw[qk] at this;simpa using this
 have nd:p.toList.Nodup:=pl.nodup_iff.mpr List.nodup_range;have hs:=h.size;intro z;have gi:p.getD i 0=p.toList[i]'(by simp[hs,hi]):=by
  rw[cy,j7 (by omega)];simp
 have gj:p.getD j 0=p.toList[j]'(by simp[hs,hj]):=by
  rw[cy,j7 (by omega)];simp
 rw[gi,gj] at z;have pw:=mr.mp nd;rcases Nat.lt_or_gt_of_ne hne with q|q
 ·exact pw i j _ _ q z
 ·exact pw j i _ _ q z.symm
include ht hr in
theorem Jx {p:Array Nat} (h0:0<n) (hp:Pm n p) {m:Nat} (h1:1<=m) (hm:m<n) (a:Asc L p m) (c:L (p.getD m 0) (p.getD (m-1) 0)=false):Asc L p (m+1):=by
 have up:=ht _ _ (hp.lt h0 m) (hp.lt h0 (m-1)) (hp.ne hm (by omega) (by omega)) c;intro i j hij hj
 by_cases e:j=m
 ·subst e
  by_cases e2:i=j-1
  ·rw[e2];exact up
  ·exact hr _ _ _ (hp.lt h0 _) (hp.lt h0 _) (hp.lt h0 _) (a i (j-1) (by omega) (by omega)) up
 ·exact a i j hij (by omega)
include ht hr in
theorem Al {p:Array Nat} (h0:0<n) (hp:Pm n p):∀(f m:Nat),1<=m->m+f<=n->Asc L p m->TreeL L (fun q=>m<=q/\q<=m+f/\Asc L p q/\(q<m+f->L (p.getD q 0) (p.getD (q-1) 0)=true)) (kas_asc p f m)
 |0,m,h1,hm,a=>by
  rw[kas_asc.eq_def];exact⟨bf _,bf _,a,fun z=>by omega⟩
 |f+1,m,h1,hm,a=>by
  rw[kas_asc.eq_def];show TreeL L _ (if L (p.getD m 0) (p.getD (m-1) 0)=true then KasT.ret m else kas_asc p f (m+1));cases c:L (p.getD m 0) (p.getD (m-1) 0) with
  |true=>
   rw[if_pos rfl];exact⟨bf _,by omega,a,fun _=>c⟩
  |false=>
   rw[if_neg cj];have ih:=Al h0 hp f (m+1) (by omega) (by omega) (Jx ht hr h0 hp h1 (by omega) a c)
   have:m+1+f=m+(f+1):=by omega
   rw[this] at ih;have mono:∀ {t:KasT Nat},TreeL L (fun q=>m+1<=q/\q<=m+(f+1)/\Asc L p q/\(q<m+(f+1)->L (p.getD q 0) (p.getD (q-1) 0)=true)) t->TreeL L (fun q=>m<=q/\q<=m+(f+1)/\Asc L p q/\(q<m+(f+1)->L (p.getD q 0) (p.getD (q-1) 0)=true)) t:=by
    intro t
    induction t with
    |ret a=>exact fun h=>⟨by have:=h.1;omega,h.2⟩
    |ask i j k ih=>exact fun h=>ih _ h
   exact mono ih
include ht hr in
theorem BQ {p:Array Nat} (h0:0<n) (hp:Pm n p):∀(f m:Nat),1<=m->m+f<=n->Dsc L p m->TreeL L (fun r:Array Nat×Nat×Nat=>r.1=p/\r.2.2=0/\m<=r.2.1/\r.2.1<=m+f/\Dsc L p r.2.1) (kas_desc f p m 0)
 |0,m,h1,hm,a=>by
  rw[kas_desc.eq_def];exact⟨rfl,rfl,bf _,bf _,a⟩
 |f+1,m,h1,hm,a=>by
  rw[kas_desc.eq_def];show TreeL L _ (if L (p.getD m 0) (p.getD (m-1) 0)=true then(if 0>0 then kas_desc f (kas_rev p (m-(0+1)) m) (m+1) 0 else kas_desc f p (m+1) 0) else KasT.ask (p.getD (m-1) 0) (p.getD m 0) fun d=>if d=true then .ret (p,m,0) else kas_desc f p (m+1) (0+1));cases c:L (p.getD m 0) (p.getD (m-1) 0) with
  |true=>
   rw[if_pos rfl,if_neg (gx 0)];have a':Dsc L p (m+1):=by
    intro i j hij hj
    by_cases e:j=m
    ·subst e
     by_cases e2:i=j-1
     ·rw[e2];exact c
     ·exact hr _ _ _ (hp.lt h0 _) (hp.lt h0 _) (hp.lt h0 _) c (a i (j-1) (by omega) (by omega))
    ·exact a i j hij (by omega)
   have ih:=BQ h0 hp f (m+1) (by omega) (by omega) a';have mono:∀ {t:KasT (Array Nat×Nat×Nat)},TreeL L (fun r:Array Nat×Nat×Nat=>r.1=p/\r.2.2=0/\m+1<=r.2.1/\r.2.1<=m+1+f/\Dsc L p r.2.1) t->TreeL L (fun r:Array Nat×Nat×Nat=>r.1=p/\r.2.2=0/\m<=r.2.1/\r.2.1<=m+(f+1)/\Dsc L p r.2.1) t:=by
    intro t
    induction t with
    |ret a=>exact fun h=>⟨h.1,h.2.1,by have:=h.2.2.1;omega,by have:=h.2.2.2.1;omega,h.2.2.2.2⟩
    |ask i j k ih=>exact fun h=>ih _ h
   exact mono ih
  |false=>
   rw[if_neg cj];show TreeL L _ (if L (p.getD (m-1) 0) (p.getD m 0)=true then KasT.ret (p,m,0) else _);rw[if_pos (ht _ _ (hp.lt h0 _) (hp.lt h0 _) (hp.ne (by omega) (by omega) (by omega)) c)];exact⟨rfl,rfl,bf _,by show m<=m+(f+1);omega,a⟩
theorem Ci (hm:m<=p.size) (hk:k<m):(kas_rev p 0 m).getD k 0=p.getD (m-1-k) 0:=by
 unfold kas_rev;rw[cy,cy,getElem?_mirror_all hm,if_pos ⟨iz _,hk⟩,Nat.zero_add]
theorem Dsc.rev (hm:m<=p.size) (d:Dsc L p m):Asc L (kas_rev p 0 m) m:=fun i j hij hj=>by
 rw[Ci hm (by omega),Ci hm hj];exact d _ _ (by omega) (by omega)
include ht hr in
theorem ET {p:Array Nat} (h2:2<=n) (hp:Pm n p):TreeL L (fun r:Nat×Array Nat=>Pm n r.2/\1<=r.1/\r.1<=n/\Asc L r.2 r.1) (kas_count n p):=by
 have h0:0<n:=by omega
 unfold kas_count;refine(Al ht hr h0 hp (n-1) 1 (bf _) (by omega) fun i j hij hj=>by omega).bind fun q hq=> ?_;obtain⟨q1,q2,qa,qs⟩:=hq
 by_cases e:q=n
 ·rw[if_pos (by simpa using e)];exact⟨hp,q1,by omega,qa⟩
 ·rw[if_neg (by simpa using e)]
  by_cases h1:q>1
  ·rw[if_pos h1];show TreeL L _ (if L (p.getD 0 0) (p.getD (q-1) 0)=true then KasT.ret (q,p) else _);rw[if_pos (qa 0 (q-1) (by omega) (by omega))];exact⟨hp,q1,by omega,qa⟩
  ·rw[if_neg h1];have hq1:q=1:=by omega
   subst hq1;have c:=qs (by omega);unfold kas_descPart;refine(BQ ht hr h0 hp (n-(1+1)) (1+1) (by omega) (by omega) fun i j hij hj=> ?_).bind fun r hrr=> ?_
   ·have:i=0/\j=1:=by omega
    rw[this.1,this.2];exact c
   ·obtain⟨r1,r2,r3,r4,r5⟩:=hrr;rw[if_neg (by omega),r1];unfold kas_tail3;have hs:=hp.size;refine(Al ht hr h0 (hp.rev 0 r.2.1) (n-r.2.1) r.2.1 (by omega) (by omega) (r5.rev (by omega))).bind fun m hm=> ?_;exact⟨hp.rev _ _,by have:=hm.1;show 1<=m;omega,by have:=hm.2.1;show m<=n;omega,hm.2.2.1⟩
include ht hr in
theorem pN {p:Array Nat} (h0:0<n) (hp:Pm n p) {k:Nat} (hk:k<n) (a:Asc L p k):∀(f l r:Nat),l<=r->r<=k->r-l<=f->(∀ i,i<l->L (p.getD i 0) (p.getD k 0)=true)->(∀ i,r<=i->i<k->L (p.getD k 0) (p.getD i 0)=true)->TreeL L (fun q=>q<=k/\(∀ i,i<q->L (p.getD i 0) (p.getD k 0)=true)/\(∀ i,q<=i->i<k->L (p.getD k 0) (p.getD i 0)=true)) (kas_place p k f l r)
 |0,l,r,h1,h2,h3,h4,h5=>by
  rw[kas_place.eq_def]
  have:r=l:=by omega
  subst this;exact⟨h2,h4,h5⟩
 |f+1,l,r,h1,h2,h3,h4,h5=>by
  rw[kas_place.eq_def];show TreeL L _ (if l≥r then KasT.ret l else _)
  by_cases e:l≥r
  ·rw[if_pos e]
   have:r=l:=by omega
   subst this;exact⟨h2,h4,h5⟩
  ·rw[if_neg e];show TreeL L _ (if L (p.getD k 0) (p.getD ((l+r) / 2) 0)=true then kas_place p k f l ((l+r) / 2) else kas_place p k f ((l+r) / 2+1) r);cases c:L (p.getD k 0) (p.getD ((l+r) / 2) 0) with
   |true=>
    rw[if_pos rfl];refine pN h0 hp hk a f l ((l+r) / 2) (by omega) (by omega) (by omega) h4 fun i hi hik=> ?_
    by_cases e2:i=(l+r) / 2
    ·rw[e2];exact c
    ·exact hr _ _ _ (hp.lt h0 _) (hp.lt h0 _) (hp.lt h0 _) c (a _ _ (by omega) hik)
   |false=>
    rw[if_neg cj];have up:=ht _ _ (hp.lt h0 _) (hp.lt h0 _) (hp.ne hk (by omega) (by omega)) c;refine pN h0 hp hk a f ((l+r) / 2+1) r (by omega) (by omega) (by omega) (fun i hi=> ?_) h5
    by_cases e2:i=(l+r) / 2
    ·rw[e2];exact up
    ·exact hr _ _ _ (hp.lt h0 _) (hp.lt h0 _) (hp.lt h0 _) (a _ _ (by omega) (by omega)) up
theorem Cj (hk:k<p.size) (hl:l<=k):(bubble p k (k-l)).getD i 0=if i=l then p.getD k 0 else if l<i/\i<=k then p.getD (i-1) 0 else p.getD i 0:=by
 rw[cy,getElem?_bubble hk (k-l) (by omega)]
 have:k-(k-l)=l:=by omega
 rw[this]
 by_cases h1:i=l
 ·rw[if_pos h1,if_pos h1,cy]
 ·rw[if_neg h1,if_neg h1]
  by_cases h2:l<i/\i<=k
  ·rw[if_pos h2,if_pos h2,cy]
  ·rw[if_neg h2,if_neg h2,cy]
theorem Asc.bub (hk:k<p.size) (hl:l<=k) (a:Asc L p k) (h1:∀ i,i<l->L (p.getD i 0) (p.getD k 0)=true) (h2:∀ i,l<=i->i<k->L (p.getD k 0) (p.getD i 0)=true):Asc L (bubble p k (k-l)) (k+1):=by
 intro i j hij hj;rw[Cj hk hl,Cj hk hl]
 by_cases i1:i=l
 ·rw[if_pos i1,if_neg (by omega),if_pos (by omega)];exact h2 _ (by omega) (by omega)
 ·rw[if_neg i1]
  by_cases i2:l<i/\i<=k
  ·rw[if_pos i2,if_neg (by omega),if_pos (by omega)];exact a _ _ (by omega) (by omega)
  ·rw[if_neg i2]
   by_cases j1:j=l
   ·rw[if_pos j1];exact h1 _ (by omega)
   ·rw[if_neg j1]
    by_cases j2:l<j/\j<=k
    ·rw[if_pos j2];exact a _ _ (by omega) (by omega)
    ·rw[if_neg j2];exact a _ _ (by omega) (by omega)
include ht hr in
theorem EU:∀(f:Nat) {p:Array Nat} (k:Nat),Pm n p->1<=k->k+f=n->Asc L p k->TreeL L (fun r:Array Nat=>Pm n r/\Asc L r n) (kas_bin f p k)
 |0,p,k,hp,_,hk,a=>by
  rw[kas_bin.eq_def]
  have:k=n:=by omega
  subst this;exact⟨hp,a⟩
 |f+1,p,k,hp,h1,hk,a=>by
  rw[kas_bin.eq_def];have hs:=hp.size;refine(pN ht hr (by omega) hp (by omega) a k 0 k (by omega) (bf _) (by omega) (fun i hi=>by omega) fun i hi hik=>by omega).bind fun l hl=> ?_;exact EU f (k+1) (hp.bub _ _) (by omega) (by omega) (Asc.bub (by omega) hl.1 a hl.2.1 hl.2.2)
include ht hr in
theorem HM (h2:2<=n):TreeL L (fun r:Array Nat=>Asc L r n) (kas_sort n):=by
 unfold kas_sort;refine(ET ht hr h2 (xh _)).bind fun r hrr=> ?_;obtain⟨r1,r2,r3,r4⟩:=hrr;have weak:∀ {t:KasT (Array Nat)},TreeL L (fun r:Array Nat=>Pm n r/\Asc L r n) t->TreeL L (fun r:Array Nat=>Asc L r n) t:=by
  intro t
  induction t with
  |ret a=>exact fun h=>h.2
  |ask i j k ih=>exact fun h=>ih _ h
 by_cases e:r.1<n
 ·rw[if_pos e,Nat.max_eq_left r2];exact weak (EU ht hr (n-r.1) r.1 r1 r2 (by omega) r4)
 ·rw[if_neg e]
  have:r.1=n:=by omega
  rw[this] at r4;exact r4
end
theorem Ep (hs:eC m ds=xw out) (ht:∀ i j,i<ds.length->j<ds.length->i≠j->dY m (ds.getD i .non) (ds.getD j .non)=xw true∨dY m (ds.getD j .non) (ds.getD i .non)=xw true)
  (hr:∀ a∈ds,∀ b∈ds,∀ c∈ds,dY m a b=xw true->dY m b c=xw true->dY m a c=xw true):out.Pairwise fun a b=>dY m a b=xw true:=by
 unfold eC at hs
 by_cases h2:ds.length<2
 ·rw[if_pos h2] at hs;cases hs
  match ds,h2 with
  |[],_=>exact .nil
  |[a],_=>simp
 ·rw[if_neg h2] at hs;obtain⟨h64,hs⟩:=cR hs;obtain⟨p,e1,e2⟩:=bind_some hs;obtain⟨_,e3⟩:=cR e2;cases e3;have gm:∀ i,i<ds.length->ds.getD i .non∈ds:=fun i hi=>by
   rw[ay,bh hi];exact jc hi
  have A:=TreeL.run (HM (n:=ds.length) (L:=fun i j=>dY m (ds.getD i .non) (ds.getD j .non)==xw true) (fun i j hi hj hne c=>by
   rcases ht i j hi hj hne with z|z
   ·rw[z] at c;cases c
   ·rw[z];rfl) (fun i j k hi hj hk a b=>by
   have a':dY m (ds.getD i .non) (ds.getD j .non)=xw true:=by simpa using a
   have b':dY m (ds.getD j .non) (ds.getD k .non)=xw true:=by simpa using b
   rw[hr _ (gm i hi) _ (gm j hj) _ (gm k hk) a' b'];rfl) (by omega)) e1
  have hp:Pm ds.length p:=by
   exact Tree.run' (xA (n:=ds.length) (by omega)) e1
  have sz:=hp.size;rw[List.pairwise_map,mr];intro i j hi hj hij;have hi':i<p.size:=by simpa using hi
  have hj':j<p.size:=by simpa using hj
  have:=A i j hij (by omega)
  rw[cy,j7 hi',cy,j7 hj'] at this;simpa using this
def sLt (x y:Str):Prop:=x.cps.toList<y.cps.toList
theorem Ew (h1:sLt x y) (h2:sLt y z):sLt x z:=List.lt_trans h1 h2
theorem sY (x:Str):¬ sLt x x:=List.lt_irrefl _
theorem Ey (h:x≠y):sLt x y∨sLt y x:=by
 by_cases q:x.cps.toList<y.cps.toList
 ·exact .inl q
 ·by_cases q2:y.cps.toList<x.cps.toList
  ·exact .inr q2
  ·exfalso
   apply h
   have:x.cps.toList=y.cps.toList:=List.le_antisymm (List.not_lt.mp q2) (List.not_lt.mp q)
   cases x;cases y;simp at this;simp[this]
abbrev mLt (a b a' b':Int):Prop:=a<a'∨(a=a'/\b<b')
def eLt (x:Str) (a b v:Int) (x':Str) (a' b' v':Int):Prop:=sLt x x'∨(x=x'/\(mLt a b a' b'∨(a=a'/\b=b'/\v<v')))
theorem Il (a b a' b':Int):Ri [a,b] [a',b']=decide (mLt a b a' b'):=by
 show(if a=a' then(if b=b' then false else decide (b<b')) else decide (a<a'))=_
 unfold mLt
 by_cases h:a=a'
 ·rw[if_pos h]
  by_cases h2:b=b'
  ·rw[if_pos h2];simp[h,h2]
  ·rw[if_neg h2];simp[h]
 ·rw[if_neg h];simp[h]
theorem IZ (a b a' b':Int):eqD 4 (.tup [.int a,.int b]) (.tup [.int a',.int b'])=xw (decide (a=a'/\b=b')):=by
 have:eqD 4 (.tup [.int a,.int b]) (.tup [.int a',.int b'])=xw ((a==a'&&(b==b'&&true))&&true):=rfl
 rw[this]
 congr 1
 by_cases h:a=a' <;> by_cases h2:b=b' <;> simp[h,h2]
theorem PK (n:Nat) (x y:Str):eqD n (.str x) (.str y)=xw (decide (x=y)):=by cases n <;> rfl
theorem BY (x:Str) (a b v:Int) (x':Str) (a' b' v':Int):dY 4 (.tup [.str x,.tup [.int a,.int b],.int v]) (.tup [.str x',.tup [.int a',.int b'],.int v'])=xw true↔eLt x a b v x' a' b' v':=by
 show(match eqD 4 (.str x) (.str x') with
  |some true=>(match eqD 4 (.tup [.int a,.int b]) (.tup [.int a',.int b']) with
   |some true=>(match eqD 4 (.int v) (.int v') with
    |some true=>xw (decide (3<3))
    |some false=>fV (.int v) (.int v')
    |none=>xx)
   |some false=>fV (.tup [.int a,.int b]) (.tup [.int a',.int b'])
   |none=>xx)
  |some false=>fV (.str x) (.str x')
  |none=>xx)=xw true↔_
 rw[PK,IZ];have e3:eqD 4 (.int v) (.int v')=xw (decide (v=v')):=rfl;rw[e3];unfold eLt
 by_cases hx:x=x'
 ·rw[decide_eq_true hx]
  show(match xw (decide (a=a'/\b=b')) with
   |some true=>(match xw (decide (v=v')) with
    |some true=>xw (decide (3<3))
    |some false=>fV (.int v) (.int v')
    |none=>xx)
   |some false=>fV (.tup [.int a,.int b]) (.tup [.int a',.int b'])
   |none=>xx)=xw true↔_
  have nx:¬ sLt x x':=by rw[hx];exact sY _
  by_cases hm:a=a'/\b=b'
  ·rw[decide_eq_true hm];have nm:¬ mLt a b a' b':=by unfold mLt;omega
   by_cases hv:v=v'
   ·rw[decide_eq_true hv];show xw (decide (3<3))=xw true↔_;constructor
    ·intro z;simp at z
    ·rintro(z|⟨_,z|z⟩)
     ·exact absurd z nx
     ·exact absurd z nm
     ·omega
   ·rw[decide_eq_false hv];show xw (decide (v<v'))=xw true↔_;constructor
    ·intro z;exact .inr ⟨hx,.inr ⟨hm.1,hm.2,by simpa using z⟩⟩
    ·rintro(z|⟨_,z|z⟩)
     ·exact absurd z nx
     ·exact absurd z nm
     ·simpa using z.2.2
  ·rw[decide_eq_false hm];show xw (Ri [a,b] [a',b'])=xw true↔_;rw[Il];constructor
   ·intro z;exact .inr ⟨hx,.inl (by simpa using z)⟩
   ·rintro(z|⟨_,z|z⟩)
    ·exact absurd z nx
    ·simpa using z
    ·exact absurd ⟨z.1,z.2.1⟩ hm
 ·rw[decide_eq_false hx];show xw (decide (x.cps.toList<x'.cps.toList))=xw true↔_;constructor
  ·intro z;exact .inl (by simpa [sLt] using z)
  ·rintro(z|⟨z,_⟩)
   ·simpa [sLt] using z
   ·exact absurd z hx
theorem Fp (h1:mLt a b a' b') (h2:mLt a' b' a2 b2):mLt a b a2 b2:=by unfold mLt at*;omega
theorem Go (h1:eLt x a b v x' a' b' v') (h2:eLt x' a' b' v' x2 a2 b2 v2):eLt x a b v x2 a2 b2 v2:=by
 unfold eLt at*;rcases h1 with h1|⟨rfl,h1⟩
 ·rcases h2 with h2|⟨rfl,h2⟩
  ·exact .inl (Ew h1 h2)
  ·exact .inl h1
 ·rcases h2 with h2|⟨rfl,h2⟩
  ·exact .inl h2
  ·refine .inr ⟨rfl,?_⟩;rcases h1 with h1|⟨rfl,rfl,h1⟩
   ·rcases h2 with h2|⟨rfl,rfl,h2⟩
    ·exact .inl (Fp h1 h2)
    ·exact .inl h1
   ·rcases h2 with h2|⟨rfl,rfl,h2⟩
    ·exact .inl h2
    ·exact .inr ⟨rfl,rfl,by omega⟩
theorem nD {r:α->α->Prop} (ha:∀ a b,r a b->r b a->False):∀ {l m:List α},l.Perm m->l.Pairwise r->m.Pairwise r->l=m
 |[],m,h,_,_=>(List.nil_perm.mp h).symm
 |a::l,m,h,h1,h2=>by
  cases m with
  |nil=>exact absurd h.length_eq (by simp)
  |cons b m=>
   rw[List.pairwise_cons] at h1 h2;have e:a=b:=by
    have m1:a∈b::m:=h.mem_iff.mp aq;have m2:b∈a::l:=h.mem_iff.mpr aq;rcases ak.mp m1 with z|z
    ·exact z
    ·rcases ak.mp m2 with w|w
     ·exact w.symm
     ·exact(ha a b (h1.1 b w) (h2.1 a z)).elim
   subst e;rw[nD ha (List.Perm.cons_inv h) h1.2 h2.2]
section
variable {X:Cx}{cls exC:Nat->af}{E:XE}{e a b c o i value:bv}{es rest:List bv}{fa fb fc fo fi fv:OG D}{fl:OG (List D)}{pos p apos pos' cpos:Pos}{x m:Str}{st:cz}
theorem Ca {E:ag->au->Prop}{vs:List ag} (hl:s.heap.IsList l vs.toArray) (hz:vs.length<=sizeLine)
  (h:∀(h':c9) (tk:Nat) (acc:Array ag),(∀ b o,s.heap.get? b=xw o->h'.get? b=xw o)->ItemsOf (fun j v=>vs[j]?=xw v) acc vs.length->R acc.toList { s with heap:=h',toks:=tk }):bc (model prog w) A (collect (.ref l)) R E s:=by
 refine collect_list hl ?_ hz
 have:=h ((s.heap.push (ib "list" #[] 0)).update s.heap.objs.size (k9 (· ++vs.toArray))) s.toks vs.toArray (fun b o q=>by
  have hlt:b<s.heap.objs.size:=bp q;rw[Heap.get?_update_ne _ _ _ _ (ck hlt),Heap.get?_push_ne _ _ _ (ck hlt)];exact q) ⟨by simp,fun j v q=>by simpa using q⟩
 simpa using this
def NC (K:aa) (n:Nat):List V->Hp->VK->Prop:=fun xs H Q=>∃ a ys ds out ok,xs=[.ref a]/\H a=xw (.lst ys)/\Reps K ok H ys ds/\eC n ds=xw out/\∀ l zs,H l=xx->Reps K ok H zs out->Q (.ref l) (upd H l (.lst zs))
theorem GG (hu:X.A.units+(n+2)<eu):CallR X (.builtin "sorted") (NC X.K n):=by
 intro pins s σ H xs us Q I r h;obtain⟨a,ys,ds,out,ok,rfl,ha,rs,hs,q⟩:=h;obtain⟨u,rfl,rx⟩:=mS r;cases rx;obtain⟨hz,its,c,rv,hlen,eo⟩:=I.lstM ha;have hli:s.heap.IsList a its.toArray:=⟨_,eo,rfl,c,rfl⟩;have hPP:∀(j:Nat) v x,its[j]?=xw v->ys[j]?=xw x->RelV x v:=fun j v x e1 e2=>by
  obtain⟨v',e3,r3⟩:=rv.get e2;rw[e1] at e3;cases e3;exact r3
 have dl:ds.length=its.length:=by rw[<- rs.length,hlen]
 by_cases hl:ds.length<2
 ·obtain rfl:=pI hs hl;refine pG (fun h=>Ca hli (by omega) h) (by omega) fun h' tk vs l c kp na hvl hP ho=> ?_;have rv2:Vals ys vs:=zY (by omega) fun j w hw=>by
   have hj:j<ys.length:=by
    have:=(br.mp hw).1
    omega
   exact⟨ys[j],bh hj,hPP j w _ (hP j w hw) (bh hj)⟩
  obtain⟨hn,I'⟩:=I.laidN (t':=tk) kp na (vI (H:=upd H l (.lst ys)) rv2 hz ho);exact⟨.ref l,_,I',rfl,q l _ hn rs⟩
 ·have h64:=pH hs hl;exact pF I (fun h=>Ca hli (by omega) h) (by omega) (by omega) hu (by omega) hPP rs hs fun h' tk ys l nl I' rs'=>⟨.ref l,_,I',rfl,q l ys nl rs'⟩
noncomputable def IF (n:Nat) (ω:Om) (ds:List D):Option (D×Om):=match ds with
 |[d]=>match fG ω d with
  |some xs=>(eC n xs).map fun out=>(.lst out,ω)
  |none=>xx
 |_=>xx
theorem IQ {K:aa}:rQ cls K (NC K n) (IF n):=fun ok H ω xs as d ω' Q h1 st r e k=>by
 unfold IF at e;split at e
 ·split at e
  ·rename_i ys hseq
   obtain⟨out,e5,e6⟩:=aG e;cases e6;obtain⟨v,rfl,r1⟩:=r.one_inv;obtain⟨a,xs,rfl,g,rs⟩:=eI st r1 hseq;exact⟨a,xs,ys,out,ok,rfl,g,rs,e5,fun l zs nl rz=>k _ ok _ (.same h1 st (cF nl)) (.lst_new (h1 l nl) nl rz)⟩
  ·cases e
 ·cases e
end
section
variable {X:Cx}{cls exC:Nat->af}{E:XE}{e a b c o i value:bv}{es rest:List bv}{fa fb fc fo fi fv:OG D}{fl:OG (List D)}{pos p apos pos' cpos:Pos}{x m:Str}{st:cz}
noncomputable def AE (ω:Om) (a b:D):Option (D×Om):=match a,b with
 |.tup xs,.tup ys=>if xs≠[]/\ys≠[]/\xs.length+ys.length<=sizeLine then xw (.tup (xs++ys),ω) else xx
 |_,_=>xx
theorem LK (ha:OE X cls E a fa) (hb:OE X cls E b fb):OE X cls E (.BinOp a .Add b pos) (o2 AE fa fb):=rX Ln (fun ok H ω x y a b d ω' Q h1 st ra rb e k=>by
 unfold AE at e;split at e
 ·rename_i xs ys
  obtain⟨⟨hx,hy,hz⟩,e3⟩:=bK e;cases e3;obtain⟨a1,us,rfl,g1,r1⟩:=ra.tup_inv;obtain⟨b1,ws,rfl,g2,r2⟩:=rb.tup_inv;have nx:us≠[]:=fun z=>hx (by have:=r1.length;rw[z] at this;exact se.mp this.symm);have ny:ws≠[]:=fun z=>hy (by have:=r2.length;rw[z] at this;exact se.mp this.symm);exact⟨a1,b1,us,ws,rfl,rfl,g1.sq,g2.sq,nx,by rw[r1.length,r2.length];exact hz,fun z=>absurd z ny,fun _ p n=>k _ ok _ (.same h1 st (cF n)) (.tup_new (h1 p n) n (r1.append r2))⟩
 ·cases e) ha hb
noncomputable def AC (ω:Om) (ds:List D):Option (D×Om):=match ds with
 |[d]=>(fG ω d).bind fun xs=>(lL xs).map fun ns=>(.int ns.sum,ω)
 |_=>xx
theorem IP {K:aa}:rQ cls K (fun xs H Q=>∃(p:af) (ns:List Int),xs=[.ref p]/\SqL K H p (ns.map V.int)/\Q (.int ns.sum) H) AC:=fun ok H ω xs as d ω' Q h1 st r e k=>by
 unfold AC at e;split at e
 ·obtain⟨ys,e1,e⟩:=bind_some e;obtain⟨ns,e2,e3⟩:=aG e;cases e3;obtain rfl:=mU e2;obtain⟨v,rfl,r1⟩:=r.one_inv;obtain⟨a,xs,rfl,g,rs⟩:=eI st r1 e1;obtain rfl:=rs.of_ints;exact⟨a,ns,rfl,SqL.of g,k _ ok H (.refl h1 st) (.int _)⟩
 ·cases e
noncomputable def oVs:List (OG D)->OG (List D)
 |[]=>aM
 |f::r=>aC f (oVs r)
theorem BO {K:aa}:∀ {xs:List (Str×OG D)}{H:Hp}{Q:List (V×V)->Hp->Prop},tOA cls K (oVs (xs.map (·.2))) E σ H (fun vs H'=>vs.length=xs.length->Q ((xs.map fun p=>V.str p.1).zip vs) H')->BD (xs.map fun p=>(tO cls K (oP (dC (.str p.1))) E,tO cls K p.2 E)) σ H Q
 |[],H,Q,⟨ok,ρ,ω,r,ω',P,e,q⟩=>by
  cases e;exact q [] ok H (.refl P.okh P.st) .nil rfl
 |(x,f)::xs,H,Q,⟨ok,ρ,ω,r,ω',P,e,q⟩=>by
  refine⟨ok,ρ,ω,.ok (.str x),ω,P,rfl,fun v ok1 H1 n1 r1=> ?_⟩;obtain rfl:=r1.str_inv;refine tO.then_ (P.nw n1) e (fun c z=>by subst z;exact exR.nw q n1) fun d ω1 w ok2 H2 e1 n2 P2 r2=> ?_;refine BO ?_;rcases kO e1 with⟨c,e2,rfl⟩|⟨ds,ω2,e2,e3⟩
  ·exact⟨ok2,ρ,ω1,.ex c,ω',P2,e2,exR.nw (exR.nw q n1) n2⟩
  ·cases e3;exact⟨ok2,ρ,ω1,.ok ds,ω',P2,e2,fun vs ok3 H3 n3 r3 hl=>q (w::vs) ok3 H3 (n1.trans (n2.trans n3)) (.cons (r2.ex n3.ex) r3) (by simp[hl])⟩
noncomputable def Jl (ks:List Key) (ds:List D):List (Key×D):=(ks.zip ds).foldl (fun acc p=>putD acc p.1 p.2) []
noncomputable def Ds (ω:Om) (n:Nat):Bool:=match ω[n]? with
 |some (.dk [])=>true
 |_=>false
noncomputable def Dd (xs:List (Str×OG D)):OG D:=fun ρ ω=>match oVs (xs.map (·.2)) ρ (ω++[.dk []]) with
 |none=>xx
 |some (.ex c,ω2)=>xw (.ex c,ω2)
 |some (.ok ds,ω2)=>if xs.length<=15/\Ds ω2 ω.length=true then xw (.ok (.obj ω.length),ω2.set ω.length (.dk (Jl (xs.map fun p=>j9 p.1) ds))) else xx
theorem KvR.disp {K:aa}:∀ {ks:List Key}{vs:List V}{ds:List D}{kv:List (Key×V)}{kd:List (Key×D)},Reps K ok H vs ds->KvR K ok H kv kd->KvR K ok H ((ks.zip vs).foldl (fun acc p=>nC acc p.1 p.2) kv) ((ks.zip ds).foldl (fun acc p=>putD acc p.1 p.2) kd)
 |[],_,_,_,_,_,h=>h
 |k::ks,_,_,kv,kd,.nil,h=>h
 |k::ks,_,_,kv,kd,.cons r rs,h=>KvR.disp (ks:=ks) rs (h.put r)
theorem LH (h:PPs X pos keys values (xs.map fun p=>(tO cls X.K (oP (dC (.str p.1))) E,tO cls X.K p.2 E))) (hall:keys.all (·.isSome)=true) (hl:keys.length=values.length) (h0:keys≠[]) (h15:keys.length<=15):OE X cls E (.Dict keys values pos) (Dd xs):=
 (KQ h hall hl h0 h15).imp fun σ H Q ⟨ok,ρ,ω,r,ω',P,e,q⟩=>by
  intro p np;have n0:=Nw.make (o:=.dK []) (ob:=.dk []) P.okh P.st np ⟨[],aP,.nil⟩;have P0:=P.nw n0;refine BO ?_;unfold Dd at e;cases hv:oVs (xs.map (·.2)) ρ (ω++[.dk []]) with
  |none=>rw[hv] at e;cases e
  |some rr=>
   obtain⟨r1,ω2⟩:=rr;rw[hv] at e;cases r1 with
   |ex c=>
    cases e;exact⟨_,ρ,_,.ex c,ω',P0,hv,exR.nw q n0⟩
   |ok ds=>
    obtain⟨⟨hx,hd⟩,e3⟩:=bK (show(if xs.length<=15/\Ds ω2 ω.length=true then xw (Rz.ok (D.obj ω.length),ω2.set ω.length (.dk (Jl (xs.map fun p=>j9 p.1) ds))) else xx)=xw (r,ω') from e);cases e3;refine⟨_,ρ,_,.ok ds,ω2,P0,hv,fun vs ok3 H3 n3 r3 hvl=> ?_⟩;have hc:ω2[ω.length]?=xw (.dk []):=by
     unfold Ds at hd;split at hd
     ·assumption
     ·cases hd
    have al:ok3.al ω.length=xw p:=n3.ex.ids _ _ (by show(if ω.length=ω.length then xw p else _)=_;rw[if_pos rfl]);obtain⟨a,e4,vs0,e5,kv⟩:=n3.st.cell _ _ hc;rw[al] at e4;cases e4;cases kv;have ez:∀(xs:List (Str×OG D)) (vs:List V),(xs.map fun p=>V.str p.1).zip vs=((xs.map fun p=>(j9 p.1:Key)).zip vs).map fun kv=>(kV kv.1,kv.2):=by
     intro xs
     induction xs with
     |nil=>intro vs;rfl
     |cons y ys ih=>
      intro vs;cases vs with
      |nil=>rfl
      |cons v vs=>
       rw[bg,bg,m9,m9,bg,ih vs];rfl
    refine⟨e5,(xs.map fun p=>(j9 p.1:Key)).zip vs,ez xs vs,by rw[List.length_zip,ao];omega,?_⟩;have nw:=Nw.write (o:=.dK (_root_.L2.mergeK [] ((xs.map fun p:Str×OG D=>(j9 p.1:Key)).zip vs))) (ob:=.dk (Jl (xs.map fun p:Str×OG D=>(j9 p.1:Key)) ds)) n3.okh n3.st al e5 fun dat=>⟨_,aP,KvR.disp (ks:=xs.map fun p:Str×OG D=>(j9 p.1:Key)) (r3.mono dat) .nil⟩;exact q _ ok3 _ (n0.trans (n3.trans nw)) (.obj (nw.ex.ids _ _ al))
end
section
variable {P:di}{w:du}{K:aa}{mg:Str->Option ag}{base:c9}{cls exC:Nat->af}
def Bod (P:di) (w:du) (K:aa) (mg:Str->Option ag) (base:c9) (cls exC:Nat->af) (k:Nat) (N:List Str) (q:Str) (st:cz) (G:OS):Prop:=∀(f:af) (cdv:ag) (A:d7) (outer:List Env) (s:au) (H:Hp) (E:XK),Room k (A.deeper (jq q (bE st) s.heap.objs.size f cdv))->(A.deeper (jq q (bE st) s.heap.objs.size f cdv)).units+8<eu->(A.deeper (jq q (bE st) s.heap.objs.size f cdv)).units+1<eu->(A.deeper (jq q (bE st) s.heap.objs.size f cdv)).units+(4+2)<eu->
 Exc (AT (CX1 P w exC) P w K mg base N q (bE st) f cdv A outer s H E) exC (fun c H'=>E (.ref (exC c)) xx H')->Qq (AT (CX1 P w exC) P w K mg base N q (bE st) f cdv A outer s H E) exC (fun c H'=>E (.ref (exC c)) xx H')->OSs (AT (CX1 P w exC) P w K mg base N q (bE st) f cdv A outer s H E) cls (fun c H'=>E (.ref (exC c)) xx H') (fZ st) G
theorem CC {x q:Str}{st:cz}{f:af}{fd:jy}{N ps:List Str}{k:Nat}{G:OS} (F:Fun K x q st f fd) (sc:lH N ps (bE st)) (b:Bod P w K mg base cls exC k N q st G):sN P w K mg base (CX1 P w exC) (k+1) f fd ps (spO cls exC K (eA ps.length N G)):=
 SM F sc fun cdv A outer s H E hr hE hR=>b f cdv A outer s H E hr (Gr hr) (Ro hr) (by have h8:(A.deeper (jq q (bE st) s.heap.objs.size f cdv)).units+8<eu:=Gr hr;omega) hE hR
def All:Nat->(List ag->Prop)->Prop
 |0,Q=>Q []
 |n+1,Q=>∀ a,All n fun l=>Q (a::l)
theorem All.out:∀ {n:Nat}{Q:List ag->Prop},All n Q->∀ us:List ag,us.length=n->Q us
 |0,_,h,[],_=>h
 |_+1,_,h,a::_,e=>(h a).out _ (Nat.succ.inj e)
def Bnd (x q:Str) (st:cz) (ps:List Str):Prop:=All ps.length fun us=>∀(kV doc pm:ag) (an:Option af) (cdv ct:ag),bindArgs (i5 x q (iL st) (fZ st) (bE st) .none kV doc pm an cdv ct) ⟨us,[]⟩=pure (ps.zip us)
theorem Bnd.out {x q:Str}{st:cz}{ps:List Str}{f:af}{fd:jy} (h:Bnd x q st ps) (F:Fun K x q st f fd):Binds K fd ps []:=F.binds fun _ _ _ _ _ _ us e=>All.out h us e _ _ _ _ _ _
theorem dfD {x:Str}{st:cz}{N ps:List Str}{k:Nat}{G:OS} (e:∃ f fd,Qp K mg x st f fd) (b:Bod P w K mg base cls exC k N x st G) (sc:lH N ps (bE st):=by constructor <;> first|rfl|decide+kernel) (hb:Bnd x x st ps:=by first|exact fun _ _ _ _ _ _ _=>rfl|exact fun _ _ _ _ _ _ _ _=>rfl|exact fun _ _ _ _ _ _ _ _ _=>rfl|exact fun _ _ _ _ _ _ _ _ _ _=>rfl):nM P w K mg base cls exC (k+1) x ps (eA ps.length N G):=
 let ⟨f,fd,F⟩:=e
 ⟨f,fd,CC F.fn sc b,F.at_,F.fn.kp,hb.out F.fn⟩
theorem dfM {x q:Str}{st:cz}{N ps:List Str}{k c:Nat}{G:OS} (e:∃ f fd,Fun K x q st f fd/\JD K (cls c) x f) (hc:Cls K (cls c)) (b:Bod P w K mg base cls exC k N q st G) (sc:lH N ps (bE st):=by constructor <;> first|rfl|decide+kernel) (hb:Bnd x q st ps:=by first|exact fun _ _ _ _ _ _ _=>rfl|exact fun _ _ _ _ _ _ _ _=>rfl|exact fun _ _ _ _ _ _ _ _ _=>rfl|exact fun _ _ _ _ _ _ _ _ _ _=>rfl):rT P w K mg base cls exC (k+1) c x ps (eA ps.length N G):=
 let ⟨f,fd,F,M⟩:=e
 ⟨⟨f,fd,CC F sc b,M,hb.out F⟩,hc⟩
theorem dfI {x q:Str}{st:cz}{N ps:List Str}{k c:Nat}{C:Str}{G:OS} (e:∃ f fd,Fun K x q st f fd/\Mk K (cls c) f) (hm:mg C=xw (.ref (cls c))) (b:Bod P w K mg base cls exC k N q st G) (sc:lH N ps (bE st):=by constructor <;> first|rfl|decide+kernel) (hb:Bnd x q st ps:=by first|exact fun _ _ _ _ _ _ _=>rfl|exact fun _ _ _ _ _ _ _ _=>rfl|exact fun _ _ _ _ _ _ _ _ _=>rfl|exact fun _ _ _ _ _ _ _ _ _ _=>rfl):Qo P w K mg base cls exC (k+1) c C ps (eA ps.length N G):=
 let ⟨f,fd,F,M⟩:=e
 ⟨⟨f,fd,CC F sc b,M,hb.out F⟩,hm⟩
end
abbrev FF (K:aa) (mg:Str->Option ag) (x:Str) (st:cz):Prop:=∃ f fd,Qp K mg x st f fd
abbrev FM (K:aa) (C:af) (x q:Str) (st:cz):Prop:=∃ f fd,Fun K x q st f fd/\JD K C x f
abbrev FI (K:aa) (C:af) (x q:Str) (st:cz):Prop:=∃ f fd,Fun K x q st f fd/\Mk K C f
def AllP (p:Str->Str->cz->Prop):List (Str×Str×cz)->Prop
 |[]=>True
 |(x,q,s)::r=>p x q s/\AllP p r
theorem AllP.imp {p p':Str->Str->cz->Prop} (f:∀ x q s,p x q s->p' x q s):∀ {l:List (Str×Str×cz)},AllP p l->AllP p' l
 |[],_=>trivial
 |(_,_,_)::_,⟨a,b⟩=>⟨f _ _ _ a,AllP.imp f b⟩
theorem AllP.get {p:Str->Str->cz->Prop}{x q:Str}{s:cz}:∀ {l:List (Str×Str×cz)} (_:AllP p l) (i:Nat) (_:l[i]?=xw (x,q,s)),p x q s
 |(_,_,_)::_,⟨a,_⟩,0,e=>by cases e;exact a
 |(_,_,_)::_,⟨_,b⟩,i+1,e=>b.get i e
def Se (K:aa) (C:af) (m qual:Str) (st:cz) (f:af):Prop:=∃(oc:ag) (od an:Option af) (osl:Array (Option ag)) (kV doc pm cdv ct:ag),ie K (.ref C) m=xw (xw (.ref f))/\pj K (.ref f)=true/\
 K.lookup f=xw ⟨oc,od,.func (i5 m qual (iL st) (fZ st) (bE st) .none kV doc pm an cdv ct),osl⟩/\ka K cdv qual=true/\gy K (.ref f)=true
theorem mtIn_mk {K:aa}{C:af}{m qual:Str}{st:cz}{f:af}{oc:ag}{od an:Option af}{osl:Array (Option ag)}{kV doc pm cdv ct:ag} (a:ie K (.ref C) m=xw (xw (.ref f)))
  (l:K.lookup f=xw ⟨oc,od,.func (i5 m qual (iL st) (fZ st) (bE st) .none kV doc pm an cdv ct),osl⟩) (b:pj K (.ref f)=true) (c:ka K cdv qual=true) (k:gy K (.ref f)=true):Se K C m qual st f:=
 ⟨oc,od,an,osl,kV,doc,pm,cdv,ct,a,b,l,c,k⟩
def mtF (K:aa) (C:af) (m qual:Str) (st:cz):Prop:=∃ f,Se K C m qual st f
theorem mtF.out {K:aa}{C:af}{m qual:Str}{st:cz} (h:mtF K C m qual st):∃ f fd,Fun K m qual st f fd/\JD K C m f:=by
 obtain⟨f,oc,od,an,osl,kV,doc,pm,cdv,ct,a,b,l,c,k⟩:=h;exact⟨f,_,Kc l c k,a,b,k⟩
def clsIn (K:aa) (x:Str) (C:af):Prop:=cx K cg x=xw (xw (.ref C))
def mkIn (K:aa) (C:af):Prop:=sh K C=true/\gy K (.ref C)=true
theorem mtF.mk {K:aa}{C:af}{qual:Str}{st:cz} (h:mtF K C "__init__" qual st) (k:mkIn K C):FI K C "__init__" qual st:=match h.out with|⟨f,fd,F,M⟩=>⟨f,fd,F,⟨k.1,M.at_,M.fn,k.2⟩⟩
theorem own_mk {K:aa}{C:af}{tl:List ag}{dd:Option af}{cd:ClassData}{k0 k1 k2 k3 k5:Option ag} (h1:K.lookup C=xw ⟨.type "type",dd,.cls cd,#[k0,k1,k2,k3,xw (.builtin "ValueError.__new__"),k5]⟩)
  (h2:cd.mro=.ref C::tl) (h3:cd.hasDel=false) (h4:oa K CN tl=true) (h5:lz K cd.ns=true) (h6:cx K cd.ns "__init__"=xw xx):ownIn K C tl:=⟨dd,cd,k0,k1,k2,k3,k5,h1,h2,h3,h4,h5,h6⟩
theorem nsOk_mk {K:aa}{N:af}{c:ag}{d:Option af}{es:Array l7}{ep:Nat}{sl:Array (Option ag)} (l:K.lookup N=xw ⟨c,d,.dict es ep,sl⟩) (h:(es.toList.all fun e=>match e.key with|.str _ _=>true|_=>false)=true):lz K N=true:=by
 unfold lz;rw[l];exact wo.symm.trans h
theorem tail_mk {K:aa}{A:af}{r:List ag}{c:ag}{dd:Option af}{cd:ClassData}{sl:Array (Option ag)} (l:K.lookup A=xw ⟨c,dd,.cls cd,sl⟩) (h1:lz K cd.ns=true) (h2:cx K cd.ns "__init__"=xw xx) (h3:oa K CN r=true):oa K CN (.ref A::r)=true:=by
 rw[PySem.W.tailIn.eq_2,l]
 show(_||(lz K cd.ns&&cx K cd.ns _==xw xx&&oa K CN r))=true
 rw[h1,h3,show cx K cd.ns (jz "__init__")=xw xx from h2];simp
noncomputable def nTg:bv->List Str
 |.Name x _=>[x]
 |.Tuple es _ _=>es.filterMap fun|.Name x _=>xw x|_=>xx
 |_=>[]
noncomputable def Fj (N:List Str):List (Option Nat)->List Str->List Str
 |[],_=>[]
 |none::r,t::ts=>t::Fj N r ts
 |some i::r,ts=>N.getD i ""::Fj N r ts
 |none::r,[]=>Fj N r []
noncomputable def Rh (sc:kt) (x:Str):Bool:=sc.names.lookup x==xw .local||sc.names.lookup x==xw .cell
noncomputable def slB (N:List Str) (i:Nat) (x:Str):Bool:=decide (N[i]?=xw x)
section
variable {X:Cx}{x y:Str}{i j:Nat}
theorem Fg:∀ {a b:Option ij},(a==b)=true->a=b:=by
 intro a b h;cases a with
 |none=>cases b with
  |none=>rfl
  |some _=>cases h
 |some a=>cases b with
  |none=>cases h
  |some b=>cases a <;> cases b <;> first|rfl|cases h
theorem BZ (h:Rh sc x=true):Loc sc x:=(Bool.or_eq_true_iff.mp h).imp Fg Fg
theorem Ae {N:List Str} (h:slB N i x=true):N[i]?=xw x:=of_decide_eq_true h
theorem dvk (h:(slB X.N i x&&(Rh X.env.scope x||X.env.scope.names.lookup x==xw .free)&& !(x==("__debug__":Str))&& !(x==("__classdict__":Str)))=true):DE X (.Name x pos) (DN i):=by
 simp only[bu,ik,ls] at h;refine dv i (Ae h.1.1.1) ?_ h.1.2 h.2;rcases h.1.1.2 with z|z
 ·rcases BZ z with z|z
  ·exact .inl z
  ·exact .inr (.inl z)
 ·exact .inr (.inr (Fg z))
noncomputable def nsB (X:Cx) (x:Str) (i:Nat):Bool:=slB X.N i x&&Rh X.env.scope x&&decide X.N.Nodup&&(X.fn x||X.env.scope.names.lookup x==xw .local)
theorem jI (h:nsB X x i=true):X.N.Nodup/\X.N[i]?=xw x/\Loc X.env.scope x/\(X.fn x=true∨X.env.scope.names.lookup x=xw .local):=by
 unfold nsB at h;simp only[bu,ik] at h;exact⟨of_decide_eq_true h.1.2,Ae h.1.1.1,BZ h.1.1.2,h.2.imp id Fg⟩
theorem SH (h:nsB X x i=true):PG X (.Name x tp) (gR X.K (aW i)):=let ⟨a,b,c,d⟩:=jI h;Mr a b c d
theorem SG (hc:X.calm=true) (h:nsB X x i=true) (h':nsB X y j=true):PG X (.Tuple [.Name x p1,.Name y p2] k tp) (gR X.K (qY i j)):=let ⟨a,b,c,d⟩:=jI h;let ⟨_,b',c',d'⟩:=jI h';Mq hc a b b' c c' d d'
theorem SF {z w:Str}{k l:Nat} (hc:X.calm=true) (h:nsB X x i=true) (h':nsB X y j=true) (h2:nsB X z k=true) (h3:nsB X w l=true):PG X (.Tuple [.Name x p1,.Name y p2,.Name z p3,.Name w p4] kk tp) (gR X.K (Jv i j k l)):=
 let ⟨a,b,c,d⟩:=jI h
 let ⟨_,b',c',d'⟩:=jI h'
 let ⟨_,b2,c2,d2⟩:=jI h2
 let ⟨_,b3,c3,d3⟩:=jI h3
 Mp hc a b b' b2 b3 c c' c2 c3 d d' d2 d3
theorem SO {cls:Nat->af}{E:XE}{e:bv}{fa:OG D}{pos pos':Pos} (h:nsB X x i=true) (he:OE X cls E e fa) (hs:jo e (xw (.Name x pos')) pos.line X.env=pure false:=by rfl):OSt X cls E (.Assign [.Name x pos'] e pos) (aY i fa):=
 let ⟨a,b,c,d⟩:=jI h
 Ov a b c he hs (hf:=d)
theorem HV {cls:Nat->af}{E:XE}{tg iter elt:bv}{ifs:List bv}{scope:kt}{caps:List (Option Nat)}{fi:OI'}{bd:BR}{t:OG Bool}{f:OG D}{pos:Pos} (Fn:Fin fin) (h1:X.calm=true) (h2:scope.kind=.function) (h3:(AV scope&&GB X.env.scope scope&&nK X.N X.env.scope scope (Fj X.N caps (nTg tg)) caps)=true) (hi:OI X cls E tg iter fi)
  (hb:∀ cells C fp pins s₀ H₀,PG (blk X (Fj X.N caps (nTg tg)) scope cells C fp pins s₀ H₀) tg (gR X.K bd)/\MZ (blk X (Fj X.N caps (nTg tg)) scope cells C fp pins s₀ H₀) cls EF ifs t/\OE (blk X (Fj X.N caps (nTg tg)) scope cells C fp pins s₀ H₀) cls EF elt f)
  (hs:∀ x,gs iter X.env x=pure x:=by intro _;rfl):OE X cls E (.ListComp elt [⟨tg,iter,ifs,0⟩] scope pos) (cP fin fi caps bd t f):=by
 simp only[bu] at h3;exact LJ Fn (yZ h1 h2 h3.1.1 h3.1.2 h3.2) hi hb hs
theorem HL {cls:Nat->af}{E:XE}{tg iter elt:bv}{ifs:List bv}{scope:kt}{caps:List (Option Nat)}{fi:OI'}{bd:BR}{t:OG Bool}{f:OG D}{pos spos py:Pos} (Fn:Fin fin) (h:(slB X.N i y&&(X.env.scope.names.lookup y==xw .local)&&decide X.N.Nodup)=true) (h1:X.calm=true) (h2:scope.kind=.function) (h3:(AV scope&&GB X.env.scope scope&&nK X.N X.env.scope scope (Fj X.N caps (nTg tg)) caps)=true) (hi:OI X cls E tg iter fi)
  (hb:∀ cells C fp pins s₀ H₀,PG (blk X (Fj X.N caps (nTg tg)) scope cells C fp pins s₀ H₀) tg (gR X.K bd)/\MZ (blk X (Fj X.N caps (nTg tg)) scope cells C fp pins s₀ H₀) cls EF ifs t/\OE (blk X (Fj X.N caps (nTg tg)) scope cells C fp pins s₀ H₀) cls EF elt f)
  (hsw:jo (.ListComp elt [⟨tg,iter,ifs,0⟩] scope pos) (xw (.Name y py)) spos.line X.env=pure true:=by rfl)
  (hs:∀ x,gs iter X.env x=pure x:=by intro _;rfl):OSt X cls E (.Assign [.Name y py] (.ListComp elt [⟨tg,iter,ifs,0⟩] scope pos) spos) (aY i (cP fin fi caps bd t f)):=by
 simp only[bu] at h h3;exact Li Fn (of_decide_eq_true h.2) (Ae h.1.1) (Fg h.1.2) (yZ h1 h2 h3.1.1 h3.1.2 h3.2) hi hb hsw hs
end
noncomputable abbrev zV (i:Nat):OG D:=oP (DN i)
noncomputable abbrev zI (i:Int):OG D:=oP (dC (.int i))
noncomputable abbrev zS (x:Str):OG D:=oP (dC (.str x))
noncomputable abbrev zX (f g:OG D):OG D:=o2 (fun ω a b=>pu (oN ω a b) ω) f g
noncomputable abbrev zD (f g:OG D):OG D:=o2 (fun ω a b=>pu (jA ω a b) ω) f g
noncomputable abbrev zT (f:OG (List D)):OG D:=oL (fun ω ds=>pu (nP ds) ω) f
noncomputable abbrev zL (f:OG (List D)):OG D:=oL (fun ω ds=>pu (DD ds) ω) f
def CD (a b:Int):Prop:=(-1000000000<=a/\a<=1000000000)/\(-1000000000<=b/\b<=1000000000)
instance (a b:Int):Decidable (CD a b):=by unfold CD;infer_instance
theorem Nx (a b:Int):jk a b (-1)=((a-b).toNat:Int):=by
 unfold jk;rw[if_neg (by decide),show(- (-1:Int))=1 from rfl,Int.ediv_one];split <;> omega
theorem Nu {a b:Int} (h:CD a b):u7 a b (-1)=true:=by
 unfold u7;rw[Nx];obtain⟨⟨h1,h2⟩,h3,h4⟩:=h;simp only[Builtin.Range.rangeFitsLong,bu,ik,decide_eq_true_eq,beq_iff_eq,show ¬((-1:Int)>0) from by decide,if_false];omega
noncomputable def IH (ds:List D):Option (List D):=match ds with
 |[.int i,.int j,.int k]=>if CD i j/\k= -1 then xw (rV i (-1) (i-j).toNat) else xx
 |_=>xx
section
variable {X:Cx}{tg a b c:bv}{pos p:Pos}{cls:Nat->af}{E:XE}{fl:OG (List D)}
def Rl (ta:TA):TI:=fun σ H R=>ta σ H fun vs H1=>∃ i j:Int,vs=[.int i,.int j,.int (-1)]/\CD i j/\R (RK i (-1) (i-j).toNat) H1
theorem EL (hg:Gl X "range") (hm:X.mg "range"=xx) (ha:PA X [a,b,c] ta) (hs:av [a,b,c] X.env=(false,eval a X.env)::av [b,c] X.env:=by rfl) (hpl:(dq pos (av [b,c] X.env)).any (·.1)=false:=by rfl):
  PI X tg (.Call (.Name "range" p) [a,b,c] [] pos) (Rl ta):=by
 intro pins s σ H R I h;refine Call_ (tR I hg hm boot_range (jp (thn (ha pos pins s σ H _ I h) fun us s1 ⟨vs,H1,I1,r1,q1⟩=> ?_) hs hpl));obtain⟨i,j,e,hC,q⟩:=q1;subst e;cases r1 with
 |cons r rr=>
  cases rr with
  |cons r' rr=>
   cases rr with
   |cons r'' rr=>
    cases rr;obtain⟨t,rfl⟩:=r;obtain⟨t',rfl⟩:=r';obtain⟨t'',rfl⟩:=r'';have hC':=hC;obtain⟨⟨h1,h2⟩,h3,h4⟩:=hC';refine call_range_3 (by omega) ?_ (.inl (PyProof.noPylong_small (by omega)));refine wpAny_pyIter_range (xu ..) (Nu hC) ?_;have I2:Inv X pins σ H1 { s1 with heap:=s1.heap.push { cls:=.type "range",data:=.fields #[.int i t,.int j t',.int (-1) t''] },toks:=s1.toks }:=I1.kept fun b o e=>az _ e;refine⟨_,[_],_,_,H1,rfl,I2.kept (t':=s1.toks) fun b o e=>az _ e,Aa _ i (-1) (i-j).toNat,?_,fun b hb=> ?_,q⟩
    ·have e1:i+((0:Nat):Int)* -1=i:=by simp
     show sy _ _ (i+((0:Nat):Int)* -1) (((i-j).toNat:Int)-((0:Nat):Int)) (-1);rw[e1,<- Nx];have e2:jk i j (-1)-((0:Nat):Int)=jk i j (-1):=by simp
     rw[e2];exact bz _ rfl
    ·have e:b=(s1.heap.push { cls:=.type "range",data:=.fields #[.int i t,.int j t',.int (-1) t''] }).objs.size:=by simpa using hb
     subst e;exact I2.fpOk (bf _) (I2.hok.fresh (bf _))
theorem EW (hg:Gl X "range") (hm:X.mg "range"=xx) (ha:OA X cls E [a,b,c] fl) (hs:av [a,b,c] X.env=(false,eval a X.env)::av [b,c] X.env:=by rfl) (hpl:(dq pos (av [b,c] X.env)).any (·.1)=false:=by rfl):
  OI X cls E tg (.Call (.Name "range" p) [a,b,c] [] pos) (oIA IH fl):=
 PI.imp (EL hg hm ha hs hpl) fun σ H R ⟨ok,ρ,ω,r,ω',P,e,q⟩=>by
  refine tOA.then_ P e (fun c z=>by subst z;exact q) fun ds ω1 vs ok1 H1 e1 n1 P1 r1=> ?_;obtain⟨⟨dz,chk⟩,e3,rfl⟩:=cJ e1;obtain⟨ue3,rfl⟩:=cK e3;obtain⟨xs,e4,e5⟩:=aG ue3;cases e5;unfold IH at e4;split at e4
  ·obtain⟨⟨hl,rfl⟩,rfl⟩:=bK e4;cases r1 with
   |cons r rr=>
    obtain⟨v,v',rfl,rv,rv'⟩:=rr.two_inv;obtain rfl:=r.int_inv;obtain rfl:=rv.int_inv;obtain rfl:=rv'.int_inv;exact⟨_,_,rfl,hl,q _ ok1 H1 n1 itD_range3.toO⟩
  ·cases e4
end
noncomputable def nI (ω:Om) (d:D):D:=match fG ω d with
 |some ds=>.lst (ds.map (fC ω))
 |none=>d
theorem uD {K:aa} (t:Stt cls K ok H ω):∀ {vs:List V}{ds:List D},Reps K ok H vs ds->Reps K ⟨fun _=>True,ok.al⟩ H vs (ds.map (fC ω))
 |_,_,.nil=>.nil
 |_,_,.cons q r=>.cons (gX t q) (uD t r)
theorem uE {K:aa} (t:Stt cls K ok H ω) (r:Rep K ok H v d):Rep K ⟨fun _=>True,ok.al⟩ H v (nI ω d):=by
 unfold nI;cases e:fG ω d with
 |none=>exact r.wide
 |some ds=>
  obtain⟨a,xs,rfl,g,rs⟩:=eI t r e;exact Rep.lst ⟨trivial,g⟩ (uD t rs)
noncomputable def Qk (n:Nat) (ω:Om) (a b:D):Option (D×Om):=pu (gNe n (nI ω a) (nI ω b)) ω
theorem MA {K:aa}:wV cls K (QJ K n) (Qk n):=fun ok H ω x y a b d ω' Q h1 st ra rb e k=>by
 obtain⟨ue,rfl⟩:=cK e;obtain⟨c,e1,rfl⟩:=aG ue;exact⟨_,_,_,c,uE st ra,uE st rb,e1,k _ ok H (.refl h1 st) (.bl _)⟩
section
variable {X:Cx}{cls:Nat->af}{E:XE}
theorem Og (hu:Ha X n) (ha:OE X cls E a fa) (hb:OE X cls E b fb):OT X cls E (.Compare a [.NotEq] [b] pos) (bS (MB.o2 (Qk n) fa fb)):=jG (JS hu) MA ha hb (gU _)
end
end L2.MB
end
section
namespace L2.MB.Lw
open PySem PySem.Spec PyProof.Rows L2.MB
abbrev DZ:List Str:=["seen","mark"]
abbrev DV:List Str:=["seen","mark"]
noncomputable abbrev Dz:OS:=(aS (o2 (lf gLe) (zX (zV 1) (zI 1)) (zX (zV 0) (zX (zV 1) (zI 0)))))
noncomputable def fL:eB:=eA 2 DZ Dz
abbrev CK:List Str:=["one","other"]
abbrev JB:List Str:=["one","other"]
noncomputable abbrev IE:OS:=(aS (cP IX (oIZ (aC (zV 0) (aC (zV 1) aM))) [xx,xx] (qY 0 1) (oPT jV) (oL (lfL yO) (aC (zV 0) (aC (zV 1) aM)))))
noncomputable def iD:eB:=eA 2 CK IE
abbrev wP:List Str:=["rows","least","row"]
abbrev JC:List Str:=["rows"]
noncomputable abbrev fW:OS:=(aY 1 (cP rS (oIZ (aC (zV 1) (aC (zV 2) aM))) [xx,xx] (qY 0 1) (oPT jV) (oL (lfL IJ) (aC (zV 0) (aC (zV 1) aM)))))
noncomputable abbrev Cm:OS:=(aF (aY 1 (oL iV (aC (zX (zV 0) (zI 0)) aM))) (aF (sNx (bI (oIL (oSl (zV 0) (dSo (dC (.int 1))) dNo)) (aW 2) fW)) (aS (zV 1))))
noncomputable def oH:eB:=eA 1 wP Cm
abbrev GT:List Str:=["one","other"]
abbrev MX:List Str:=["one","other"]
noncomputable abbrev Mt:OS:=(aS (oL (lfL Qj) (aC (cP rS (oIZ (aC (zV 0) (aC (zV 1) aM))) [xx,xx] (qY 0 1) (oPT jV) (oL (lfL yO) (aC (o2 (lf gSub) (zV 1) (zV 0)) (aC (zI 0) aM)))) aM)))
noncomputable def Aj:eB:=eA 2 GT Mt
abbrev Bq:List Str:=["self"]
abbrev Be:List Str:=["self"]
noncomputable abbrev AA:OS:=(aS (zX (gB 0 "knows" (zV 0)) (gB 0 "number" (zV 0))))
noncomputable def bW:eB:=eA 1 Bq AA
abbrev GU:List Str:=["entries","hand"]
abbrev GQ:List Str:=["entries","hand"]
noncomputable abbrev FR:OS:=(aS (cP rS (oIL (zV 0)) [xx,xw 1] (aW 0) (oOr (bS (o2 (fun ω a b=>pu (Ng ω a b) ω) (zX (zV 0) (zI 1)) (gB 0 "table" (zV 1)))) (iS (gO (bM fL (aC (bL 0 "seen" bW (zV 1) aM) (aC (zX (zV 0) (zI 1)) aM)))))) (zV 0)))
noncomputable def lR:eB:=eA 2 GU FR
abbrev wQ:List Str:=["self","number","count"]
abbrev wI:List Str:=["self","number","count"]
noncomputable abbrev mD:OS:=(aF (nO 0 "number" (zV 0) (zV 1)) (aF (nO 0 "knows" (zV 0) (cP IX (oIA gL (aC (zV 2) aM)) [xx,xw 2] (aW 0) (oPT jV) (o2 yN (zL (aC (zI 0) aM)) (zV 1)))) (aF (nO 0 "table" (zV 0) vD) (nO 0 "kept" (zV 0) vD))))
noncomputable def dU:eB:=eA 3 wQ mD
abbrev sM:List Str:=["self"]
abbrev sH:List Str:=["self"]
noncomputable abbrev sB:OS:=(aS (HX 4 (gB 0 "table" (zV 0))))
noncomputable def bU:eB:=eA 1 sM sB
abbrev zQ:List Str:=["self"]
abbrev zP:List Str:=["self"]
noncomputable abbrev yM:OS:=(aS (cP rS (oIL (gB 0 "knows" (zV 0))) [xx] (aW 0) (oPT jV) (oL iV (aC (zV 0) aM))))
noncomputable def gF:eB:=eA 1 zQ yM
abbrev sL:List Str:=["self"]
abbrev sG:List Str:=["self"]
noncomputable abbrev sA:OS:=(aS (cP rS (oIL (oL (FX 4) (aC (gB 0 "kept" (zV 0)) aM))) [xx,xw 0] (aW 0) (oPT jV) (zT (aC (zV 0) (aC (oL iV (aC (zD (gB 0 "kept" (zV 1)) (zV 0)) aM)) aM)))))
noncomputable def eQ:eB:=eA 1 sL sA
abbrev rP:List Str:=["self","seen"]
abbrev rH:List Str:=["self"]
noncomputable abbrev jQ:OS:=(aF (aY 1 (bL 0 "seen" bW (zV 0) aM)) (aF (iY nQ (zV 1) (gB 0 "number" (zV 0)) (o2 (lf rR) (zX (zV 1) (gB 0 "number" (zV 0))) (zI 1))) (aS (zT (aC (gB 0 "number" (zV 0)) (aC (zX (zV 1) (gB 0 "number" (zV 0))) aM))))))
noncomputable def cY:eB:=eA 1 rP jQ
abbrev Ea:List Str:=["self","name","value","mark"]
abbrev DW:List Str:=["self","name","value"]
noncomputable abbrev tZ:OS:=(aF (aY 3 (bL 0 "new_mark" cY (zV 0) aM)) (aF (iY nR (gB 0 "table" (zV 0)) (zV 3) (zT (aC (zV 1) (aC (zV 3) (aC (zV 2) aM))))) (aS (zV 3))))
noncomputable def eL:eB:=eA 3 Ea tZ
abbrev iQ:List Str:=["self","seen_by_all","kept","deed"]
abbrev wJ:List Str:=["self"]
noncomputable abbrev aV:OS:=(dA (iS (gO (bM fL (aC (zV 1) (aC (zV 3) aM))))) (iY nR (zV 2) (zV 3) (zD (gB 0 "kept" (zV 0)) (zV 3))) bG)
noncomputable abbrev iJ:OS:=(aF (aY 1 (bM oH (aC (gB 0 "knows" (zV 0)) aM))) (aF (aY 2 vD) (aF (sNx (Kt (gB 0 "kept" (zV 0)) (aW 3) aV)) (nO 0 "kept" (zV 0) (zV 2)))))
noncomputable def fI:eB:=eA 1 iQ iJ
abbrev jY:List Str:=["self","deed","marks","mark"]
abbrev rG:List Str:=["self","deed","marks"]
noncomputable abbrev cI:OS:=(bT (pP Ga (gB 0 "table" (zV 0)) (aC (zV 3) aM)))
noncomputable abbrev jP:OS:=(aF (sNx (bI (oIL (zV 2)) (aW 3) cI)) (aF (dA (gO (zV 2)) (iY nR (gB 0 "kept" (zV 0)) (zV 1) (oL FV (aC (zV 2) aM))) bG) (bT (bL 0 "forget" fI (zV 0) aM))))
noncomputable def cX:eB:=eA 3 jY jP
abbrev jZ:List Str:=["self","name"]
abbrev rJ:List Str:=["self","name"]
noncomputable abbrev qE:OS:=(aS (cP rS (oIL (bL 0 "entries" bU (zV 0) aM)) [xx,xw 1] (aW 0) (bS (o2 (iW 8) (zX (zV 0) (zI 0)) (zV 1))) (zX (zV 0) (zI 1))))
noncomputable def cZ:eB:=eA 2 jZ qE
abbrev wS:List Str:=["self","name","value","marks","mark"]
abbrev wK:List Str:=["self","name","value"]
noncomputable abbrev mE:OS:=(aF (aY 3 (bL 0 "marks_of" cZ (zV 0) (aC (zV 1) aM))) (aF (aY 4 (bL 0 "put" eL (zV 0) (aC (zV 1) (aC (zV 2) aM)))) (aF (bT (bL 0 "take_out" cX (zV 0) (aC (zV 4) (aC (zV 3) aM)))) (aS (zV 4)))))
noncomputable def dW:eB:=eA 3 wS mE
abbrev Bp:List Str:=["self","name","marks"]
abbrev Bd:List Str:=["self","name"]
noncomputable abbrev lB:OS:=(aF (aY 2 (bL 0 "marks_of" cZ (zV 0) (aC (zV 1) aM))) (aF (dA (iS (gO (zV 2))) (aS (oP (dC .non))) bG) (aF (bT (bL 0 "take_out" cX (zV 0) (aC (bL 0 "new_mark" cY (zV 0) aM) (aC (zV 2) aM)))) (aS (zV 2)))))
noncomputable def fP:eB:=eA 2 Bp lB
abbrev Br:List Str:=["self","teller","many","seen","table","entry"]
abbrev Bf:List Str:=["self","teller"]
noncomputable abbrev eT:OS:=(iY nR (zV 4) (zX (zV 5) (zI 1)) (zV 5))
noncomputable abbrev qF:OS:=(aF (aY 2 (bM Aj (aC (bL 0 "seen" bW (zV 0) aM) (aC (bL 0 "seen" bW (zV 1) aM) aM)))) (aF (aY 3 (bM iD (aC (bL 0 "seen" bW (zV 0) aM) (aC (bL 0 "seen" bW (zV 1) aM) aM)))) (aF (aY 4 vD) (aF (sNx (bI (oIL (o2 vS (bM lR (aC (bL 0 "entries" bU (zV 0) aM) (aC (zV 1) aM))) (bM lR (aC (bL 0 "entries" bU (zV 1) aM) (aC (zV 0) aM))))) (aW 5) eT)) (aF (nO 0 "table" (zV 0) (zV 4)) (aF (nO 0 "knows" (zV 0) (cP IX (oIZ (aC (gB 0 "knows" (zV 0)) (aC (gB 0 "knows" (zV 1)) aM))) [xx,xx] (qY 0 1) (oPT jV) (bM iD (aC (zV 0) (aC (zV 1) aM))))) (aF (iY nQ (gB 0 "knows" (zV 0)) (gB 0 "number" (zV 0)) (zV 3)) (aF (bT (pP FU (gB 0 "kept" (zV 0)) (aC (gB 0 "kept" (zV 1)) aM))) (aF (bT (bL 0 "forget" fI (zV 0) aM)) (aS (zV 2)))))))))))
noncomputable def cL:eB:=eA 2 Br qF
abbrev wT:List Str:=["self","count"]
abbrev wL:List Str:=["self","count"]
noncomputable abbrev mF:OS:=(nO 1 "hands" (zV 0) (cP rS (oIA gL (aC (zV 1) aM)) [xx,xw 1] (aW 0) (oPT jV) (vE 0 dU (aC (zV 0) (aC (zV 1) aM)))))
noncomputable def iE:eB:=eA 2 wT mF
abbrev Bw:List Str:=["self","number"]
abbrev Bk:List Str:=["self","number"]
noncomputable abbrev lE:OS:=(aF (dA (iS (tI gLe gLt (zI 0) (zV 1) (oL gC (aC (gB 1 "hands" (zV 0)) aM)))) (BI 0 (dC (.str "there is no hand of that number"))) bG) (aS (zX (gB 1 "hands" (zV 0)) (zV 1))))
noncomputable def bN:eB:=eA 2 Bw lE
abbrev Bu:List Str:=["self","one","other","hands"]
abbrev Bi:List Str:=["self","one","other"]
noncomputable abbrev fX:OS:=(aF (aY 3 (zT (aC (bL 1 "hand" bN (zV 0) (aC (zV 1) aM)) (aC (bL 1 "hand" bN (zV 0) (aC (zV 2) aM)) aM)))) (aF (dA (bS (o2 (iW 8) (zV 1) (zV 2))) (BI 1 (dC (.str "a hand can't tell or meet itself"))) bG) (aS (zV 3))))
noncomputable def bX:eB:=eA 3 Bu fX
abbrev Eb:List Str:=["self","number","name","value"]
abbrev DX:List Str:=["self","number","name","value"]
noncomputable abbrev DC:OS:=(aS (bL 0 "put" eL (bL 1 "hand" bN (zV 0) (aC (zV 1) aM)) (aC (zV 2) (aC (zV 3) aM))))
noncomputable def gS:eB:=eA 4 Eb DC
abbrev wU:List Str:=["self","number","name","value"]
abbrev wM:List Str:=["self","number","name","value"]
noncomputable abbrev vP:OS:=(aS (bL 0 "change" dW (bL 1 "hand" bN (zV 0) (aC (zV 1) aM)) (aC (zV 2) (aC (zV 3) aM))))
noncomputable def dX:eB:=eA 4 wU vP
abbrev Bt:List Str:=["self","number","name"]
abbrev Bh:List Str:=["self","number","name"]
noncomputable abbrev AB:OS:=(aS (bL 0 "take" fP (bL 1 "hand" bN (zV 0) (aC (zV 1) aM)) (aC (zV 2) aM)))
noncomputable def fR:eB:=eA 3 Bt AB
abbrev Bs:List Str:=["self","one","other","hands"]
abbrev Bg:List Str:=["self","one","other"]
noncomputable abbrev lC:OS:=(aF (aY 3 (bL 1 "pair" bX (zV 0) (aC (zV 1) (aC (zV 2) aM)))) (aS (bL 0 "hear" cL (zX (zV 3) (zI 1)) (aC (zX (zV 3) (zI 0)) aM))))
noncomputable def fQ:eB:=eA 3 Bs lC
abbrev Bv:List Str:=["self","one","other","hands","many","gained"]
abbrev Bj:List Str:=["self","one","other"]
noncomputable abbrev lD:OS:=(aF (aY 3 (bL 1 "pair" bX (zV 0) (aC (zV 1) (aC (zV 2) aM)))) (aF (aY 4 (bL 0 "hear" cL (zX (zV 3) (zI 1)) (aC (zX (zV 3) (zI 0)) aM))) (aF (aY 5 (zT (aC (bL 0 "hear" cL (zX (zV 3) (zI 0)) (aC (zX (zV 3) (zI 1)) aM)) (aC (zV 4) aM)))) (aF (bT (bL 0 "hear" cL (zX (zV 3) (zI 1)) (aC (zX (zV 3) (zI 0)) aM))) (aS (zV 5))))))
noncomputable def fS:eB:=eA 3 Bv lD
abbrev Qd:List Str:=["hall","deed","kind"]
abbrev Qc:List Str:=["hall","deed"]
noncomputable abbrev tY:OS:=(aF (aY 2 (zX (zV 1) (zI 0))) (aF (dA (bS (o2 (iW 8) (zV 2) (zS "put"))) (aS (bL 1 "put" gS (zV 0) (aC (zX (zV 1) (zI 1)) (aC (zX (zV 1) (zI 2)) (aC (zX (zV 1) (zI 3)) aM))))) bG) (aF (dA (bS (o2 (iW 8) (zV 2) (zS "change"))) (aS (bL 1 "change" dX (zV 0) (aC (zX (zV 1) (zI 1)) (aC (zX (zV 1) (zI 2)) (aC (zX (zV 1) (zI 3)) aM))))) bG) (aF (dA (bS (o2 (iW 8) (zV 2) (zS "take"))) (aS (bL 1 "take" fR (zV 0) (aC (zX (zV 1) (zI 1)) (aC (zX (zV 1) (zI 2)) aM)))) bG) (aF (dA (bS (o2 (iW 8) (zV 2) (zS "tell"))) (aS (bL 1 "tell" fQ (zV 0) (aC (zX (zV 1) (zI 1)) (aC (zX (zV 1) (zI 2)) aM)))) bG) (aS (bL 1 "meet" fS (zV 0) (aC (zX (zV 1) (zI 1)) (aC (zX (zV 1) (zI 2)) aM)))))))))
noncomputable def kN:eB:=eA 2 Qd tY
abbrev Bo:List Str:=["hall","deed"]
abbrev Bc:List Str:=["hall","deed"]
noncomputable abbrev iI:OS:=(xL (aS (bM kN (aC (zV 0) (aC (zV 1) aM)))) 0 (aS (zS "no hand")) 1 (aS (zS "same hand")))
noncomputable def eK:eB:=eA 2 Bo iI
abbrev GW:List Str:=["count","deeds","hall","deed"]
abbrev MY:List Str:=["count","deeds"]
noncomputable abbrev eO:OS:=(bT (bM eK (aC (zV 2) (aC (zV 3) aM))))
noncomputable abbrev FT:OS:=(aF (aY 2 (vE 1 iE (aC (zV 0) aM))) (aF (sNx (bI (oIL (zV 1)) (aW 3) eO)) (aS (zT (aC (cP rS (oIL (gB 1 "hands" (zV 2))) [xx] (aW 0) (oPT jV) (bL 0 "entries" bU (zV 0) aM)) (aC (cP rS (oIL (gB 1 "hands" (zV 2))) [xx] (aW 0) (oPT jV) (oL iV (aC (bL 0 "seen" bW (zV 0) aM) aM))) (aC (cP rS (oIL (gB 1 "hands" (zV 2))) [xx] (aW 0) (oPT jV) (bL 0 "known" gF (zV 0) aM)) (aC (cP rS (oIL (gB 1 "hands" (zV 2))) [xx] (aW 0) (oPT jV) (bL 0 "in_mind" eQ (zV 0) aM)) aM))))))))
noncomputable def Ak:eB:=eA 2 GW FT
abbrev CJ:List Str:=["_law_found","_law_meant","_law_k"]
abbrev CI:List Str:=["_law_found","_law_meant"]
noncomputable abbrev Ck (φ:eB):OS:=(aF (dA (bS (o2 (lf Pz) (zV 1) (oP (dC .non)))) (aS (o2 (lf Pz) (zV 0) (oP (dC .non)))) bG) (aF (dA (gO (iT "bool" (zV 1))) (aS (vF (iT "bool" (zV 0)) (o2 (iW 8) (zV 0) (zV 1)))) bG) (aF (dA (gO (iT "int" (zV 1))) (aS (vF (iT "int" (zV 0)) (vF (LO (iT "bool" (zV 0))) (o2 (iW 8) (zV 0) (zV 1))))) bG) (aF (dA (gO (iT "str" (zV 1))) (aS (vF (iT "str" (zV 0)) (o2 (iW 8) (zV 0) (zV 1)))) bG) (aF (dA (gO (iT "dict" (zV 1))) Ny bG) (aF (dA (bS (o2 (vR 8) (iT "tuple" (zV 1)) (iT "tuple" (zV 0)))) (aS (oP (dC (.bl false)))) bG) (aF (dA (oOr (bS (o2 (vR 8) (iT "list" (zV 1)) (iT "list" (zV 0)))) (iS (gO (HY (zV 1))))) (aS (oP (dC (.bl false)))) bG) (aF (dA (bS (o2 (vR 8) (oL gC (aC (zV 0) aM)) (oL gC (aC (zV 1) aM)))) (aS (oP (dC (.bl false)))) bG) (aF (sNx (bI (oIA gL (aC (oL gC (aC (zV 1) aM)) aM)) (aW 2) (dA (iS (gO (bM φ (aC (zX (zV 0) (zV 2)) (aC (zX (zV 1) (zV 2)) aM))))) (aS (oP (dC (.bl false)))) bG))) (aS (oP (dC (.bl true)))))))))))))
noncomputable def kF:Nat->eB
 |0=>fun _ _=>xx
 |n+1=>eA 2 CJ (Ck (kF n))
abbrev Bl:List Str:=["_law_found"]
abbrev AY:List Str:=["_law_found"]
noncomputable abbrev Ay:OS:=(aS (vF (iT "int" (zV 0)) (LO (iT "bool" (zV 0)))))
noncomputable def fN:eB:=eA 1 Bl Ay
abbrev oV:List Str:=["_law_script","_law_k"]
abbrev JA:List Str:=["_law_script","_law_k"]
noncomputable abbrev vO:OS:=(aF (dA (bS (o2 (lf gLt) (zV 1) (oL gC (aC (zV 0) aM)))) (aS (zX (zV 0) (zV 1))) bG) (aS (zI 0)))
noncomputable def vB:eB:=eA 2 oV vO
abbrev rO:List Str:=["_law_count","_law_deeds","_law_handed","_law_found"]
abbrev rF:List Str:=["_law_count","_law_deeds"]
noncomputable abbrev jO:OS:=(aF (aY 2 (oL iV (aC (zV 1) aM))) (aF (aY 3 (bM Ak (aC (zV 0) (aC (zV 2) aM)))) (aF (dA (oOr (bS (o2 (vR 8) (zV 2) (zV 1))) (oOr (iS (gO (iT "tuple" (zV 3)))) (bS (o2 (vR 8) (oL gC (aC (zV 3) aM)) (zI 4))))) (aS (zT (aC (oP (dC .non)) (aC (oP (dC .non)) (aC (oP (dC .non)) (aC (oP (dC .non)) aM)))))) bG) (aS (zV 3)))))
noncomputable def fO:eB:=eA 2 rO jO
abbrev GV:List Str:=["_law_count","_law_large"]
abbrev GR:List Str:=["_law_count"]
noncomputable abbrev FS:OS:=(aF (aY 1 (zI 100000000000000000000)) (aS (zL (aC (oP (d1 Mw (dC (.int 1)))) (aC (zV 0) (aC (oP (d1 Mw (dC (.int 2)))) (aC (o2 (lf gSub) (zI 0) (zV 0)) (aC (zV 1) (aC (o2 (lf gSub) (zI 0) (zV 1)) aM)))))))))
noncomputable def eZ:eB:=eA 1 GV FS
abbrev DY:List Str:=["_law_j","_law_count"]
abbrev DU:List Str:=["_law_j","_law_count"]
noncomputable abbrev Dy:OS:=(aF (dA (bS (o2 (iW 8) (o2 (lf cU) (zV 1) (zI 2)) (zI 0))) (aS (o2 (lf My) (o2 (lf My) (o2 (lf Mx) (zS "o") (o2 (lf cU) (zV 1) (zI 5))) (zX (zS "abcd") (zV 0))) (o2 (lf Mx) (zS "o") (o2 (lf gSub) (zI 5) (o2 (lf cU) (zV 1) (zI 5)))))) bG) (aS (zX (zL (aC (zS "oats") (aC (zS "oat") (aC (zS "") (aC (zS "oatsack") aM))))) (zV 0))))
noncomputable def kE:eB:=eA 2 DY Dy
abbrev mQ:List Str:=["_law_cell","_law_k","_law_count","_law_way","_law_one","_law_other","_law_name","_law_values","_law_value"]
abbrev wH:List Str:=["_law_cell","_law_k","_law_count"]
noncomputable abbrev vM:OS:=(aF (aY 3 (o2 (lf cU) (o2 (lf cU) (o2 (lf jC) (zV 0) (zI 48271)) (zI 1009)) (zI 16))) (aF (aY 4 (o2 (lf cU) (o2 (lf cU) (o2 (lf jC) (o2 (lf rR) (zV 0) (zV 1)) (zI 48271)) (zI 1013)) (zV 2))) (aF (aY 5 (zV 4)) (aF (dA (De (bS (o2 (lf gGt) (zV 2) (zI 1))) (bS (o2 (lf gGt) (o2 (lf cU) (o2 (lf cU) (o2 (lf jC) (zV 0) (zI 48271)) (zI 1019)) (zI 19)) (zI 0)))) (aY 5 (o2 (lf cU) (o2 (lf rR) (o2 (lf rR) (zV 4) (zI 1)) (o2 (lf cU) (o2 (lf cU) (o2 (lf jC) (zV 0) (zI 48271)) (zI 1021)) (o2 (lf gSub) (zV 2) (zI 1)))) (zV 2))) bG) (aF (aY 6 (bM kE (aC (o2 (lf cU) (o2 (lf cU) (o2 (lf jC) (zV 0) (zI 48271)) (zI 1031)) (zI 4)) (aC (zV 2) aM)))) (aF (aY 7 (zL (aC (o2 (lf gSub) (o2 (lf cU) (o2 (lf cU) (o2 (lf jC) (zV 0) (zI 48271)) (zI 1033)) (zI 9)) (zI 4)) (aC (o2 (lf gSub) (zI 0) (zV 1)) (aC (o2 (lf rR) (zI 100000000000000000000) (zV 1)) aM))))) (aF (aY 8 (zX (zV 7) (o2 (lf cU) (o2 (lf cU) (o2 (lf jC) (zV 0) (zI 48271)) (zI 1039)) (zI 3)))) (aF (dA (bS (o2 (iW 8) (o2 (lf cU) (o2 (lf cU) (o2 (lf jC) (zV 0) (zI 48271)) (zI 1049)) (zI 31)) (zI 30))) (aY 4 (zX (bM eZ (aC (zV 2) aM)) (o2 (lf cU) (o2 (lf cU) (o2 (lf jC) (zV 0) (zI 48271)) (zI 1051)) (zI 6)))) bG) (aF (dA (bS (o2 (iW 8) (o2 (lf cU) (o2 (lf cU) (o2 (lf jC) (zV 0) (zI 48271)) (zI 1061)) (zI 31)) (zI 30))) (aY 5 (zX (bM eZ (aC (zV 2) aM)) (o2 (lf cU) (o2 (lf cU) (o2 (lf jC) (zV 0) (zI 48271)) (zI 1063)) (zI 6)))) bG) (aF (dA (bS (o2 (lf gLt) (zV 3) (zI 5))) (aS (zT (aC (zS "put") (aC (zV 4) (aC (zV 6) (aC (zV 8) aM)))))) bG) (aF (dA (bS (o2 (lf gLt) (zV 3) (zI 7))) (aS (zT (aC (zS "take") (aC (zV 4) (aC (zV 6) aM))))) bG) (aF (dA (bS (o2 (lf gLt) (zV 3) (zI 9))) (aS (zT (aC (zS "change") (aC (zV 4) (aC (zV 6) (aC (zV 8) aM)))))) bG) (aS (zT (aC (zX (zL (aC (zS "tell") (aC (zS "meet") aM))) (oL (lfL Qm) (aC (o2 (lf gGt) (zV 3) (zI 11)) aM))) (aC (zV 4) (aC (zV 5) aM)))))))))))))))))
noncomputable def iC:eB:=eA 3 mQ vM
abbrev rN:List Str:=["_law_cells","_law_count","_law_deeds","_law_k"]
abbrev Bb:List Str:=["_law_cells","_law_count"]
noncomputable abbrev eR:OS:=(bT (lU mH (zV 2) (aC (bM iC (aC (o2 (lf rR) (zX (zV 0) (zV 3)) (o2 (lf jC) (zI 7) (zV 3))) (aC (zV 3) (aC (zV 1) aM)))) aM)))
noncomputable abbrev qD:OS:=(aF (aY 2 (oL II aM)) (aF (sNx (bI (oIA gL (aC (oL gC (aC (zV 0) aM)) aM)) (aW 3) eR)) (aS (zV 2))))
noncomputable def kX:eB:=eA 2 rN qD
abbrev jX:List Str:=["_law_count","_law_hall"]
abbrev GS:List Str:=["_law_count"]
noncomputable abbrev yL:OS:=(aF (aY 1 (Dd [("count",(zV 0)),("deeds",vD),("order",(oL II aM))])) (aF (iY nR (zV 1) (zS "known") (cP IX (oIA gL (aC (zV 0) aM)) [xx,xw 0] (aW 0) (oPT jV) (cP IX (oIA gL (aC (zV 1) aM)) [xx,xw 1] (aW 0) (oPT jV) (o2 yN (zL (aC (zI 0) aM)) (zV 1))))) (aS (zV 1))))
noncomputable def pM:eB:=eA 1 jX yL
abbrev wO:List Str:=["_law_hall","_law_seen","_law_gone","_law_there","_law_mark","_law_put","_law_outs"]
abbrev wG:List Str:=["_law_hall","_law_seen"]
noncomputable abbrev bB:OS:=(dA (bS (o2 (lf gLe) (zX (zV 4) (zI 1)) (zX (zV 1) (zX (zV 4) (zI 0))))) (aF (CW (qY 5 6) (zD (zD (zV 0) (zS "deeds")) (zV 4))) (aF (aY 2 (o2 vS (zV 2) (zV 6))) (dA (bS (o2 (lf Mv) (zV 5) (oP (dC .non)))) (bT (lU mH (zV 3) (aC (zT (aC (zX (zV 5) (zI 0)) (aC (zV 4) (aC (zX (zV 5) (zI 1)) aM)))) aM))) bG))) bG)
noncomputable abbrev mC:OS:=(aF (aY 2 (zL aM)) (aF (aY 3 (oL II aM)) (aF (sNx (bI (oIL (zD (zV 0) (zS "order"))) (aW 4) bB)) (aS (oL (IF 4) (aC (cP rS (oIL (zV 3)) [xx,xw 2] (aW 0) (bS (o2 (lf (Co 7)) (zX (zV 0) (zI 1)) (zV 1))) (zV 0)) aM))))))
noncomputable def fH:eB:=eA 2 wO mC
abbrev rK:List Str:=["_law_hall","_law_own","_law_put","_law_outs","_law_seen"]
abbrev Ba:List Str:=["_law_hall","_law_own","_law_put","_law_outs"]
noncomputable abbrev qC:OS:=(aF (aY 4 (oL uA (aC (zX (zX (zD (zV 0) (zS "known")) (zV 1)) (zV 1)) aM))) (aF (iY nQ (zV 4) (zV 1) (o2 (lf rR) (zX (zV 4) (zV 1)) (zI 1))) (aF (iY nQ (zX (zD (zV 0) (zS "known")) (zV 1)) (zV 1) (zV 4)) (aF (iY nR (zD (zV 0) (zS "deeds")) (zT (aC (zV 1) (aC (zX (zV 4) (zV 1)) aM))) (zT (aC (zV 2) (aC (zV 3) aM)))) (aF (bT (lU mH (zD (zV 0) (zS "order")) (aC (zT (aC (zV 1) (aC (zX (zV 4) (zV 1)) aM))) aM))) (aS (zT (aC (zV 1) (aC (zX (zV 4) (zV 1)) aM)))))))))
noncomputable def cV:eB:=eA 4 rK qC
abbrev rM:List Str:=["_law_hall","_law_one","_law_other","_law_left","_law_right","_law_before","_law_made","_law_k","_law_row","_law_j","_law_most"]
abbrev rE:List Str:=["_law_hall","_law_one","_law_other"]
noncomputable abbrev cT:OS:=(aF (aY 10 (oL (lfL yO) (aC (zX (zX (zV 3) (zV 7)) (zV 9)) (aC (zX (zX (zV 4) (zV 7)) (zV 9)) aM)))) (aF (dA (bS (o2 (iW 8) (zV 7) (zV 2))) (aY 10 (oL (lfL yO) (aC (zV 10) (aC (zX (zX (zV 3) (zV 1)) (zV 9)) aM)))) bG) (bT (lU mH (zV 8) (aC (zV 10) aM)))))
noncomputable abbrev cS:OS:=(aF (aY 8 (oL II aM)) (aF (sNx (bI (oIA gL (aC (zD (zV 0) (zS "count")) aM)) (aW 9) cT)) (bT (lU mH (zV 6) (aC (zV 8) aM)))))
noncomputable abbrev jN:OS:=(aF (aY 3 (zX (zD (zV 0) (zS "known")) (zV 1))) (aF (aY 4 (zX (zD (zV 0) (zS "known")) (zV 2))) (aF (aY 5 (oL AC (aC (zX (zV 4) (zV 2)) aM))) (aF (aY 6 (oL II aM)) (aF (sNx (bI (oIA gL (aC (zD (zV 0) (zS "count")) aM)) (aW 7) cS)) (aF (iY nQ (zD (zV 0) (zS "known")) (zV 2) (zV 6)) (aS (o2 (lf gSub) (oL AC (aC (zX (zV 6) (zV 2)) aM)) (zV 5)))))))))
noncomputable def cW:eB:=eA 3 rM jN
abbrev nX:List Str:=["_law_hall","_law_deed","_law_count","_law_number","_law_own","_law_rows","_law_marks","_law_many","_law_more"]
abbrev nV:List Str:=["_law_hall","_law_deed"]
noncomputable abbrev aE:OS:=(dA (De (iS (gO (iT "str" (zV 3)))) (oOr (bS (o2 (lf gLt) (zV 3) (zI 0))) (bS (o2 (lf gGe) (zV 3) (zV 2))))) (aS (zS "no hand")) bG)
noncomputable abbrev bQ:OS:=(aF (aY 2 (zD (zV 0) (zS "count"))) (aF (sNx (bI (oIT (o2 AE (oSl (zV 1) (dSo (dC (.int 1))) (dSo (dC (.int 2)))) (oSl (zV 1) (dSo (dC (.int 2))) (dSo (dC (.int 3)))))) (aW 3) aE)) (aF (aY 4 (zX (zV 1) (zI 1))) (aF (dA (bS (o2 (lf (gIn 7)) (zX (zV 1) (zI 0)) (zL (aC (zS "put") (aC (zS "take") (aC (zS "change") aM)))))) (aF (aY 5 (bM fH (aC (zV 0) (aC (zX (zX (zD (zV 0) (zS "known")) (zV 4)) (zV 4)) aM)))) (aF (aY 6 (cP rS (oIL (zV 5)) [xx,xw 1] (aW 0) (bS (o2 (iW 8) (zX (zV 0) (zI 0)) (zX (zV 1) (zI 2)))) (zX (zV 0) (zI 1)))) (aF (dA (bS (o2 (iW 8) (zX (zV 1) (zI 0)) (zS "put"))) (aS (bM cV (aC (zV 0) (aC (zV 4) (aC (oSl (zV 1) (dSo (dC (.int 2))) dNo) (aC (zL aM) aM)))))) bG) (aF (dA (bS (o2 (iW 8) (zX (zV 1) (zI 0)) (zS "change"))) (aS (bM cV (aC (zV 0) (aC (zV 4) (aC (oSl (zV 1) (dSo (dC (.int 2))) dNo) (aC (zV 6) aM)))))) bG) (aF (dA (bS (o2 (iW 8) (zV 6) (zL aM))) (aS (oP (dC .non))) bG) (aF (bT (bM cV (aC (zV 0) (aC (zV 4) (aC (oP (dC .non)) (aC (zV 6) aM)))))) (aS (zV 6)))))))) bG) (aF (dA (bS (o2 (iW 8) (zV 4) (zX (zV 1) (zI 2)))) (aS (zS "same hand")) bG) (aF (dA (bS (o2 (iW 8) (zX (zV 1) (zI 0)) (zS "tell"))) (aS (bM cW (aC (zV 0) (aC (zV 4) (aC (zX (zV 1) (zI 2)) aM))))) bG) (aF (aY 7 (bM cW (aC (zV 0) (aC (zX (zV 1) (zI 2)) (aC (zV 4) aM))))) (aF (aY 8 (bM cW (aC (zV 0) (aC (zV 4) (aC (zX (zV 1) (zI 2)) aM))))) (aF (iY nQ (zX (zD (zV 0) (zS "known")) (zV 4)) (zX (zV 1) (zI 2)) (oL iV (aC (zX (zX (zD (zV 0) (zS "known")) (zV 4)) (zV 4)) aM))) (aS (zT (aC (zV 7) (aC (zV 8) aM)))))))))))))
noncomputable def cD:eB:=eA 2 nX bQ
abbrev nY:List Str:=["_law_found","_law_count","_law_rows","_law_row"]
abbrev nW:List Str:=["_law_found","_law_count"]
noncomputable abbrev dP:OS:=(aF (dA (oOr (iS (gO (iT "tuple" (zV 3)))) (oOr (bS (o2 (vR 8) (oL gC (aC (zV 3) aM)) (zI 3))) (iS (gO (iT "str" (zX (zV 3) (zI 0))))))) (aS (oP (dC (.bl false)))) bG) (aF (dA (oOr (iS (gO (iT "tuple" (zX (zV 3) (zI 1))))) (oOr (bS (o2 (vR 8) (oL gC (aC (zX (zV 3) (zI 1)) aM)) (zI 2))) (iS (gO (bM fN (aC (zX (zV 3) (zI 2)) aM)))))) (aS (oP (dC (.bl false)))) bG) (dA (oOr (iS (gO (bM fN (aC (zX (zX (zV 3) (zI 1)) (zI 0)) aM)))) (iS (gO (bM fN (aC (zX (zX (zV 3) (zI 1)) (zI 1)) aM))))) (aS (oP (dC (.bl false)))) bG)))
noncomputable abbrev cN:OS:=(aF (dA (iS (gO (iT "list" (zV 2)))) (aS (oP (dC (.bl false)))) bG) (sNx (bI (oIL (zV 2)) (aW 3) dP)))
noncomputable abbrev iU:OS:=(aF (dA (oOr (iS (gO (iT "list" (zV 0)))) (bS (o2 (vR 8) (oL gC (aC (zV 0) aM)) (zV 1)))) (aS (oP (dC (.bl false)))) bG) (aF (sNx (bI (oIL (zV 0)) (aW 2) cN)) (aS (oP (dC (.bl true))))))
noncomputable def dN:eB:=eA 2 nY iU
abbrev sK:List Str:=["_law_found","_law_count","_law_row","_law_number"]
abbrev sF:List Str:=["_law_found","_law_count"]
noncomputable abbrev gW:OS:=(dA (iS (gO (bM fN (aC (zV 3) aM)))) (aS (oP (dC (.bl false)))) bG)
noncomputable abbrev dB:OS:=(aF (dA (oOr (iS (gO (iT "list" (zV 2)))) (bS (o2 (vR 8) (oL gC (aC (zV 2) aM)) (zV 1)))) (aS (oP (dC (.bl false)))) bG) (sNx (bI (oIL (zV 2)) (aW 3) gW)))
noncomputable abbrev kQ:OS:=(aF (dA (oOr (iS (gO (iT "list" (zV 0)))) (bS (o2 (vR 8) (oL gC (aC (zV 0) aM)) (zV 1)))) (aS (oP (dC (.bl false)))) bG) (aF (sNx (bI (oIL (zV 0)) (aW 2) dB)) (aS (oP (dC (.bl true))))))
noncomputable def dE:eB:=eA 2 sK kQ
abbrev Bm:List Str:=["_law_count","_law_deeds"]
abbrev AZ:List Str:=["_law_count"]
noncomputable abbrev Az:OS:=(aF (aY 1 (cP rS (oIA gL (aC (o2 (lf gSub) (zV 0) (zI 1)) aM)) [xx] (aW 0) (oPT jV) (zT (aC (zS "meet") (aC (zV 0) (aC (o2 (lf rR) (zV 0) (zI 1)) aM)))))) (aS (o2 vS (zV 1) (cP rS (oIA IH (aC (o2 (lf gSub) (zV 0) (zI 2)) (aC (oP (d1 Mw (dC (.int 1)))) (aC (oP (d1 Mw (dC (.int 1)))) aM)))) [xx] (aW 0) (oPT jV) (zT (aC (zS "meet") (aC (o2 (lf rR) (zV 0) (zI 1)) (aC (zV 0) aM))))))))
noncomputable def iB:eB:=eA 1 Bm Az
abbrev RH:List Str:=["_law_script","_law_count","_law_deeds","_law_longer","_law_hall","_law_deed","_law_all_seen","_law_mark","_law_tables","_law_seen","_law_known","_law_kept","_law_due","_law_k"]
abbrev RE:List Str:=["_law_script"]
noncomputable abbrev oM:OS:=(aF (dA (oOr (bS (o2 (vR 8) (zX (zV 9) (zV 13)) (zV 6))) (bS (o2 (vR 8) (zX (zV 8) (zV 13)) (zV 12)))) (aS (oP (dC (.bl false)))) bG) (dA (oOr (iS (gO (bM dE (aC (zX (zV 10) (zV 13)) (aC (zV 1) aM))))) (bS (o2 (Qk 8) (zX (zV 10) (zV 13)) (o2 Mu (zL (aC (zV 6) aM)) (zV 1))))) (aS (oP (dC (.bl false)))) bG))
noncomputable abbrev oK:OS:=(iY nQ (zV 6) (zX (zV 7) (zI 0)) (o2 (lf rR) (zX (zV 6) (zX (zV 7) (zI 0))) (zI 1)))
noncomputable abbrev vN:OS:=(bT (bM cD (aC (zV 4) (aC (zV 5) aM))))
noncomputable abbrev Pu:OS:=(aF (aY 1 (zX (zL (aC (zI 1) (aC (zI 2) (aC (zI 3) (aC (zI 4) (aC (zI 5) (aC (zI 2) (aC (zI 3) (aC (zI 8) aM))))))))) (o2 (lf cU) (o2 (lf cU) (o2 (lf jC) (bM vB (aC (zV 0) (aC (zI 0) aM))) (zI 48271)) (zI 1069)) (zI 8)))) (aF (aY 2 (bM kX (aC (oSl (zV 0) (dSo (dC (.int 1))) (dSo (dC (.int 25)))) (aC (zV 1) aM)))) (aF (aY 3 (o2 vS (o2 vS (zV 2) (bM iB (aC (zV 1) aM))) (bM iB (aC (zV 1) aM)))) (aF (aY 4 (bM pM (aC (zV 1) aM))) (aF (sNx (bI (oIL (zV 2)) (aW 5) vN)) (aF (aY 6 (o2 yN (zL (aC (zI 0) aM)) (zV 1))) (aF (sNx (bI (oIL (zD (zV 4) (zS "order"))) (aW 7) oK)) (aF (CW (Jv 8 9 10 11) (bM fO (aC (zV 1) (aC (zV 3) aM)))) (aF (dA (oOr (iS (gO (bM dE (aC (zV 9) (aC (zV 1) aM))))) (iS (gO (bM dN (aC (zV 8) (aC (zV 1) aM)))))) (aS (oP (dC (.bl false)))) bG) (aF (dA (oOr (iS (gO (iT "list" (zV 10)))) (bS (o2 (vR 8) (oL gC (aC (zV 10) aM)) (zV 1)))) (aS (oP (dC (.bl false)))) bG) (aF (aY 12 (bM fH (aC (zV 4) (aC (zV 6) aM)))) (aF (sNx (bI (oIA gL (aC (zV 1) aM)) (aW 13) oM)) (aS (vF (iT "list" (zV 11)) (bM (kF 8) (aC (zV 11) (aC (cP rS (oIA gL (aC (zV 1) aM)) [xx] (aW 0) (oPT jV) (zL aM)) aM)))))))))))))))))
noncomputable def p_law:eB:=eA 1 RH Pu
theorem eP (J:Rho->Prop) (hc:chk ω=true):∀ {ds:List D}{ρ:Rho},J ρ->(∀ d∈ds,∀ ρ,J ρ->∃ ρ1,bd d ρ=xw ρ1/\J ρ1/\t ρ1 ω=xw (.ok (p d),ω)/\(p d=true->f ρ1 ω=xw (.ok (g d),ω)))->
  compLO bd chk t f ds ρ ω=xw ((ds.filter p).map g,ω)
 |[],ρ,_,_=>by
  show(if chk ω=true then xw ([],ω) else xx)=_
  rw[if_pos hc];rfl
 |d::ds,ρ,hJ,h=>by
  obtain⟨ρ1,h1,h2,h3,h4⟩:=h d aq ρ hJ;have ih:=eP J hc h2 fun d' hd=>h d' (ai _ hd);unfold compLO;rw[if_pos hc,h1]
  show(match t ρ1 ω with
   |some (.ok k,ω1)=>_
   |_=>_)=_
  rw[h3];cases hp:p d with
  |true=>
   rw[df hp]
   show(if true=true then(match f ρ1 ω with
    |some (.ok y,ω2)=>_
    |_=>xx) else _)=_
   rw[if_pos rfl,h4 hp]
   show(compLO bd chk t f ds ρ1 ω).map _=_
   rw[ih];rfl
  |false=>
   rw[de (by rw[hp];exact cj)];exact ih
theorem gG (J:Rho->Prop) (hc:chk ω=true) (hJ:J ρ) (h:∀ d∈ds,∀ ρ,J ρ->∃ ρ1,bd d ρ=xw ρ1/\J ρ1/\f ρ1 ω=xw (.ok (g d),ω)):
  compLO bd chk (oPT jV) f ds ρ ω=xw (ds.map g,ω):=by
 have:=eP (t:=oPT jV) (p:=fun _=>true) (g:=g) J hc hJ fun d hd ρ hρ=>let ⟨ρ1,h1,h2,h3⟩:=h d hd ρ hρ;⟨ρ1,h1,h2,rfl,fun _=>h3⟩
 rw[this]
 congr 2
 rw[u4.mpr (fun _ _=>rfl)]
theorem eM (h1:fi ρ ω=xw (.ok (ds,chk),ω1)) (hl:ds.length<=sizeLine) (h2:compLO bd chk t f ds (GZ caps ρ) ω1=xw (out,ω2)):cP rS fi caps bd t f ρ ω=xw (.ok (.lst out),ω2):=by
 unfold cP;rw[bF h1]
 show(if ds.length<=sizeLine then _ else xx)=_
 rw[if_pos hl]
 show(compLO bd chk t f ds (GZ caps ρ) ω1).bind _=_
 rw[h2];rfl
theorem pQ (h1:fi ρ ω=xw (.ok (ds,chk),ω1)) (hl:ds.length<=sizeLine) (h2:compLO bd chk t f ds (GZ caps ρ) ω1=xw (out,ω2)):cP IX fi caps bd t f ρ ω=xw (.ok (.obj ω2.length),ω2++[.ml out]):=by
 unfold cP;rw[bF h1]
 show(if ds.length<=sizeLine then _ else xx)=_
 rw[if_pos hl]
 show(compLO bd chk t f ds (GZ caps ρ) ω1).bind _=_
 rw[h2];rfl
theorem dD (hc:chk ω=true) (hb:bd d ρ=xw ρ1) (hF:F ρ1 ω=xw (.nx ρ2,ω2)):bP bd chk F (d::ds) ρ ω=bP bd chk F ds ρ2 ω2:=by
 show(if chk ω=true then(bd d ρ).bind (fun ρ1=>match F ρ1 ω with
  |none=>xx
  |some (.nx ρ2,ω2)=>bP bd chk F ds ρ2 ω2
  |some (.ct ρ2,ω2)=>bP bd chk F ds ρ2 ω2
  |some (.bk ρ2,ω2)=>xw (.nx ρ2,ω2)
  |some (.rt d,ω2)=>xw (.rt d,ω2)
  |some (.ex _,_)=>xx) else xx)=_
 rw[if_pos hc,hb]
 show(match F ρ1 ω with
  |none=>xx
  |some (.nx ρ2,ω2)=>bP bd chk F ds ρ2 ω2
  |some (.ct ρ2,ω2)=>bP bd chk F ds ρ2 ω2
  |some (.bk ρ2,ω2)=>xw (.nx ρ2,ω2)
  |some (.rt d,ω2)=>xw (.rt d,ω2)
  |some (.ex _,_)=>xx)=_
 rw[hF]
theorem qW (hc:chk ω=true) (hb:bd d ρ=xw ρ1) (hf:f ρ1 ω=xw (.ok y,ω2)):compLO bd chk (oPT jV) f (d::ds) ρ ω=(compLO bd chk (oPT jV) f ds ρ1 ω2).map fun r=>(y::r.1,r.2):=by
 rw[compLO.eq_2,if_pos hc,hb]
 show(match f ρ1 ω with
  |some (.ok y,ω2)=>(compLO bd chk (oPT jV) f ds ρ1 ω2).map fun r:List D×Om=>(y::r.1,r.2)
  |_=>xx)=_
 rw[hf]
mutual
theorem sX:∀ a:D,fM a a=true
 |.non=>by simp[fM]
 |.bl a=>by simp[fM]
 |.int a=>by simp[fM]
 |.str a=>by simp[fM]
 |.obj a=>by simp[fM]
 |.lst a=>by simpa [fM] using sameDs_refl a
 |.tup a=>by simpa [fM] using sameDs_refl a
 |.scr a=>by simpa [fM] using sameDs_refl a
theorem sameDs_refl:∀ a:List D,sameDs a a=true
 |[]=>by simp[sameDs]
 |a::as=>by simp[sameDs,sX a,sameDs_refl as]
end
noncomputable def iv (xs:List Int):List D:=xs.map D.int
def RowV (ω:Om) (d:D) (xs:List Int):Prop:=fG ω d=xw (iv xs)
theorem RowV.it (h:RowV ω d xs):∃ chk,mG ω d=xw (iv xs,chk)/\chk ω=true:=by
 rcases fF h with rfl|⟨n,rfl,e⟩
 ·exact⟨bO,rfl,rfl⟩
 ·refine⟨iZ n (iv xs),?_,?_⟩
  ·show(match ω[n]? with
    |some (.ml ds)=>xw (ds,iZ n ds)
    |_=>xx)=_
   rw[e]
  ·unfold iZ;rw[e];exact sameDs_refl _
theorem lF (e:ω[n]?=xw (.ml ds)):oN ω (.obj n) (.int a)=atI ds a:=by
 simp only[oN,cellOf,e];rfl
theorem RowV.ix (h:RowV ω d xs) {a:Int} (h0:0<=a) (h1:a<xs.length):oN ω d (.int a)=xw (.int (xs.getD a.toNat 0)):=by
 have key:atI (iv xs) a=xw (.int (xs.getD a.toNat 0)):=by
  unfold atI ixN iv;have hl:a<((xs.map D.int).length:Int):=by simpa using h1
  rw[if_pos h0,if_pos hl]
  show(xs.map D.int)[a.toNat]?=_
  have:a.toNat<xs.length:=by omega
  rw[aw,bh this,ay,bh this];rfl
 rcases fF h with rfl|⟨n,rfl,e⟩
 ·exact key
 ·rw[lF e];exact key
theorem aJ (e1:f ρ ω=xw (.ok a,ω1)) (e2:h ρ ω1=xw (.ok b,ω2)) (e3:oN ω2 a b=xw d):zX f h ρ ω=xw (.ok d,ω2):=dO e1 e2 (by show pu (oN ω2 a b) ω2=_;rw[e3];rfl)
theorem pZ (h:RowV ω d xs) {a b:Int} (h0:0<=a) (h1:a<xs.length):fL [d,.tup [.int a,.int b]] ω=xw (.ok (.bl (decide (b<=xs.getD a.toNat 0))),ω):=by
 refine aT rfl (bD (fT (aJ (aB (d:=.tup [.int a,.int b]) rfl) aU rfl) (aJ (aB (d:=d) rfl) (aJ (aB (d:=.tup [.int a,.int b]) rfl) aU rfl) (h.ix h0 h1)) rfl))
theorem Ee (e1:f ρ ω=xw (.ok a,ω)) (e2:h ρ ω=xw (.ok b,ω)) (h1:RowV ω a xs) (h2:RowV ω b ys):∃ chk,oIZ (aC f (aC h aM)) ρ ω=xw (.ok (zW (iv xs) (iv ys),chk),ω)/\chk ω=true:=by
 obtain⟨c1,g1,k1⟩:=h1.it;obtain⟨c2,g2,k2⟩:=h2.it;refine⟨fun ω=>c1 ω&&c2 ω,?_,by simp[k1,k2]⟩;unfold oIZ;rw[bF (aA e1 (aA e2 aD))];show oR (pu (Ql ω [a,b]) ω)=_;unfold Ql;show oR (pu ((mG ω a).bind _) ω)=_;rw[g1];show oR (pu ((mG ω b).map _) ω)=_;rw[g2];rfl
theorem uP (hG:∀ x y,G (.tup [.int x,.int y])=.int (g x y)):(zW (iv xs) (iv ys)).map G=iv (bq g xs ys):=by
 unfold zW iv;rw[wp]
 induction xs generalizing ys with
 |nil=>rfl
 |cons x r ih=>
  cases ys with
  |nil=>rfl
  |cons y r'=>simp only[jn,bg,hG,ih]
theorem zR (h:d∈zW (iv xs) (iv ys)):∃ x y,d=.tup [.int x,.int y]:=by
 unfold zW iv at h;rw[wp] at h
 induction xs generalizing ys with
 |nil=>simp at h
 |cons x r ih=>
  cases ys with
  |nil=>simp at h
  |cons y r'=>
   rw[jn] at h;rcases ak.mp h with h|h
   ·exact⟨x,y,h⟩
   ·exact ih h
theorem zU (h:xs.length<=sizeLine):(zW (iv xs) (iv ys)).length<=sizeLine:=by
 unfold zW iv;rw[fh,ao,ao];omega
noncomputable def D2 (g:Int->Int->Int):D->D
 |.tup [.int x,.int y]=>.int (g x y)
 |d=>d
noncomputable def mx (i j:Int):Int:=if j>i then j else i
noncomputable def mn (i j:Int):Int:=if j<i then j else i
theorem oW:∀ xs:List Int,lL (iv xs)=xw xs
 |[]=>rfl
 |x::r=>by
  show(lL (iv r)).map _=_
  rw[oW r];rfl
theorem yE (h1:RowV ω a xs) (h2:RowV ω b ys) (hl:xs.length<=sizeLine):iD [a,b] ω=xw (.ok (.obj ω.length),ω++[.ml (iv (bq mx xs ys))]):=by
 obtain⟨chk,z1,z2⟩:=Ee (f:=zV 0) (h:=zV 1) (ρ:=cE CK [a,b]) (aB (d:=a) rfl) (aB (d:=b) rfl) h1 h2;refine aT rfl (bD (pQ z1 (zU hl) ?_));rw[<- uP (G:=D2 mx) (fun _ _=>rfl)];refine gG (fun ρ=>ρ.length=2) z2 rfl fun d hd ρ hρ=> ?_;obtain⟨x,y,rfl⟩:=zR hd
 match ρ,hρ with
 |[u,v],_=>exact⟨_,rfl,rfl,rfl⟩
theorem Ig (h1:RowV ω a xs) (h2:RowV ω b ys) (hl:xs.length<=sizeLine):Aj [a,b] ω=xw (.ok (.int (bq (fun x y=>mx (y-x) 0) xs ys).sum),ω):=by
 obtain⟨chk,z1,z2⟩:=Ee (f:=zV 0) (h:=zV 1) (ρ:=cE GT [a,b]) (aB (d:=a) rfl) (aB (d:=b) rfl) h1 h2;refine aT rfl (bD (cO (aA (eM (ω2:=ω) (out:=iv (bq (fun x y=>mx (y-x) 0) xs ys)) z1 (zU hl) ?_) aD) ?_))
 ·rw[<- uP (G:=D2 fun x y=>mx (y-x) 0) (fun _ _=>rfl)];refine gG (fun ρ=>ρ.length=2) z2 rfl fun d hd ρ hρ=> ?_;obtain⟨x,y,rfl⟩:=zR hd
  match ρ,hρ with
  |[u,v],_=>exact⟨_,rfl,rfl,rfl⟩
 ·show pu ((lL (iv _)).map _) ω=_;rw[oW];rfl
theorem Cp (R:α->Rho->Om->Prop) (st:α->D->α) (hc:∀ a ρ ω,R a ρ ω->chk ω=true):∀ {ds:List D}{a:α}{ρ:Rho}{ω:Om},R a ρ ω->(∀ d∈ds,∀ a ρ ω,R a ρ ω->∃ ρ1 ρ2 ω2,bd d ρ=xw ρ1/\F ρ1 ω=xw (.nx ρ2,ω2)/\R (st a d) ρ2 ω2)->
  ∃ ρ' ω',bP bd chk F ds ρ ω=xw (.nx ρ',ω')/\R (ds.foldl st a) ρ' ω'
 |[],a,ρ,ω,h,_=>⟨ρ,ω,by show(if chk ω=true then _ else xx)=_;rw[if_pos (hc a ρ ω h)],h⟩
 |d::ds,a,ρ,ω,h,g=>by
  obtain⟨ρ1,ρ2,ω2,e1,e2,h2⟩:=g d aq a ρ ω h;obtain⟨ρ',ω',e3,h3⟩:=Cp R st hc h2 fun d' hd=>g d' (ai _ hd);refine⟨ρ',ω',?_,h3⟩;exact(dD (hc a ρ ω h) e1 e2).trans e3
theorem eY (h:F ρ ω=xw (.nx ρ',ω')):sNx F ρ ω=xw (.nx ρ',ω'):=by
 unfold sNx;rw[h]
structure Hd where
 knows:List (List Int)
 table:List (List Key×D)
 kept:List (List Key×D)
def RowsAt (ω:Om):List Nat->List (List Int)->Prop:=kc fun r xs=>ω[r]?=xw (Ob.ml (iv xs))
structure HandAt (ω:Om) (h:Nat) (i:Int) (hd:Hd) (k t e:Nat) (rs:List Nat):Prop where
 obj:ω[h]?=xw (.ins 0 [("number",.int i),("knows",.obj k),("table",.obj t),("kept",.obj e)])
 kn:ω[k]?=xw (.ml (rs.map D.obj))
 rows:RowsAt ω rs hd.knows
 tb:ω[t]?=xw (.dt hd.table)
 kp:ω[e]?=xw (.dt hd.kept)
 nd:(h::k::t::e::rs).Nodup
theorem RowsAt.get (h:RowsAt ω rs kn) {j:Nat} (e:kn[j]?=xw xs):∃ r,rs[j]?=xw r/\ω[r]?=xw (.ml (iv xs)):=by
 induction h generalizing j with
 |nil=>simp at e
 |cons hr _ ih=>
  cases j with
  |zero=>simp at e;subst e;exact⟨_,rfl,hr⟩
  |succ j=>simp at e;obtain⟨r,e1,e2⟩:=ih e;exact⟨r,by simpa using e1,e2⟩
theorem RowsAt.length (h:RowsAt ω rs kn):rs.length=kn.length:=jh h
theorem fY (e1:f ρ ω=xw (.ok (.obj n),ω1)) (e2:ω1[n]?=xw (.ins c fs)) (e3:fs.lookup x=xw d):gB c x f ρ ω=xw (.ok d,ω1):=by
 unfold gB;rw[bF e1];show oR (pu (Nf c x ω1 (.obj n)) ω1)=_
 have:Nf c x ω1 (.obj n)=xw d:=by
  simp[Nf,cellOf,e2,e3]
 rw[this];rfl
theorem bY (e1:fo ρ ω=xw (.ok (.obj n),ω1)) (e2:ω1[n]?=xw (.ins c fs)) (e3:fs.lookup m=xx) (e4:fl ρ ω1=xw (.ok ds,ω2)) (e5:φ (.obj n::ds) ω2=xw (r,ω3)):
  bL c m φ fo fl ρ ω=xw (r,ω3):=by
 unfold bL;rw[bF e1]
 have:Do c m ω1 (.obj n)=true:=by
  simp only[Do,cellOf,e2,e3];simp
 show(if Do c m ω1 (.obj n)=true then _ else xx)=_
 rw[if_pos this,bF e4];exact e5
section
variable {ω:Om}{h k t e:Nat}{i:Int}{hd:Hd}{rs:List Nat}{ρ:Rho}{f:OG D}
theorem HandAt.number (H:HandAt ω h i hd k t e rs) (ef:f ρ ω=xw (.ok (.obj h),ω)):gB 0 "number" f ρ ω=xw (.ok (.int i),ω):=fY ef H.obj rfl
theorem HandAt.knows (H:HandAt ω h i hd k t e rs) (ef:f ρ ω=xw (.ok (.obj h),ω)):gB 0 "knows" f ρ ω=xw (.ok (.obj k),ω):=fY ef H.obj rfl
theorem HandAt.table (H:HandAt ω h i hd k t e rs) (ef:f ρ ω=xw (.ok (.obj h),ω)):gB 0 "table" f ρ ω=xw (.ok (.obj t),ω):=fY ef H.obj rfl
theorem HandAt.kept (H:HandAt ω h i hd k t e rs) (ef:f ρ ω=xw (.ok (.obj h),ω)):gB 0 "kept" f ρ ω=xw (.ok (.obj e),ω):=fY ef H.obj rfl
noncomputable def Hd.seen (hd:Hd) (i:Nat):List Int:=hd.knows.getD i []
theorem kU {i:Nat} (H:HandAt ω h i hd k t e rs) (hr:rs[i]?=xw r):bW [.obj h] ω=xw (.ok (.obj r),ω):=by
 refine aT rfl (bD (aJ (H.knows (aB rfl)) (H.number (aB rfl)) ?_));rw[lF H.kn];have hl:i<rs.length:=(br.mp hr).1;unfold atI ixN;rw[if_pos (ju i),if_pos (by simpa using hl)]
 show(rs.map D.obj)[i]?=_
 rw[aw,hr];rfl
theorem HandAt.seenRow {i:Nat} (H:HandAt ω h i hd k t e rs) (hi:i<hd.knows.length):∃ r,rs[i]?=xw r/\ω[r]?=xw (.ml (iv (hd.seen i))):=by
 refine H.rows.get ?_;unfold Hd.seen;rw[ay,bh hi];rfl
noncomputable def Hd.entries (hd:Hd):Option (List D):=eC 4 (hd.table.map (·.2))
theorem kK (H:HandAt ω h i hd k t e rs) (hs:hd.entries=xw out):bU [.obj h] ω=xw (.ok (.lst out),ω):=by
 refine aT rfl (bD ?_);unfold HX;rw[bF (H.table (aB rfl))];show oR (pu (FW 4 ω (.obj t)) ω)=_
 have:FW 4 ω (.obj t)=xw (.lst out):=by
  simp only[FW,cellOf,H.tb]
  show(hd.entries).map _=_
  rw[hs];rfl
 rw[this];rfl
theorem cH (e1:fo ρ ω=xw (.ok (.obj n),ω1)) (e2:ω1[n]?=xw (.ins c fs)) (e3:fs.lookup m=xx) (e5:φ [.obj n] ω1=xw (r,ω3)):
  bL c m φ fo aM ρ ω=xw (r,ω3):=bY e1 e2 e3 aD e5
noncomputable def marksIn (name:D) (rows:List D):List D:=(rows.filter fun d=>match d with|.tup (a::_)=>(eqD 8 a name)==xw true|_=>false).map fun d=>match d with|.tup (_::m::_)=>m|_=>.non
def fE (d:D):Prop:=∃ x a b v,d=.tup [.str x,.tup [.int a,.int b],.int v]
theorem iK (n:Nat) (x y:Str):eqD n (.str x) (.str y)=xw (decide (x=y)):=by cases n <;> rfl
theorem Ij (H:HandAt ω h i hd k t e rs) (hs:hd.entries=xw out) (he:∀ d∈out,fE d) (hl:out.length<=sizeLine) (y:Str):cZ [.obj h,.str y] ω=xw (.ok (.lst (marksIn (.str y) out)),ω):=by
 have e1:bL 0 "entries" bU (zV 0) aM (cE jZ [.obj h,.str y]) ω=xw (.ok (.lst out),ω):=cH (aB rfl) H.obj rfl (kK H hs);refine aT rfl (bD (eM (ds:=out) (chk:=bO) (ω1:=ω) ?_ hl ?_))
 ·unfold oIL;rw[bF e1];rfl
 ·unfold marksIn;refine eP (fun ρ=>∃ u,ρ=[u,xw (.str y)]) rfl ⟨_,rfl⟩ fun d hd ρ hρ=> ?_;obtain⟨x,a,b,v,rfl⟩:=he d hd;obtain⟨u,rfl⟩:=hρ;refine⟨_,rfl,⟨_,rfl⟩,?_,fun _=>rfl⟩;refine bR (dO (aJ (aB rfl) aU rfl) (aB rfl) ?_);show pu ((eqD 8 (.str x) (.str y)).map D.bl) ω=_;rw[iK];show xw (D.bl (decide (x=y)),ω)=xw (D.bl (eqD 8 (.str x) (.str y)==xw true),ω);rw[iK];cases decide (x=y) <;> rfl
theorem eE {o i v:D} (e1:fv ρ ω=xw (.ok v,ω1)) (e2:fo ρ ω1=xw (.ok o,ω2)) (e3:fi ρ ω2=xw (.ok i,ω3)) (e4:g ω3 o i v=xw ω4):iY g fo fi fv ρ ω=xw (.nx ρ,ω4):=by
 unfold iY;rw[bV e1,bV e2,bV e3]
 show(g ω3 o i v).map _=_
 rw[e4];rfl
theorem kS {j:Nat} (e:ω[n]?=xw (.ml ds)) (hj:j<ds.length):nQ ω (.obj n) (.int j) v=xw (ω.set n (.ml (ds.set j v))):=by
 simp only[nQ,e];unfold ixN;rw[if_pos (ju j),if_pos (by simpa using hj)];simp
theorem aI (h:m≠n):(ω.set n ob)[m]?=ω[m]?:=f9 (bx h)
theorem cB (h:ω[n]?=xw ob'):(ω.set n ob)[n]?=xw ob:=by
 have hl:n<ω.length:=(br.mp h).1;simp[hl]
theorem RowsAt.mono (h:RowsAt ω rs kn) (k:∀ r∈rs,ω'[r]?=ω[r]?):RowsAt ω' rs kn:=by
 induction h with
 |nil=>exact .nil
 |cons hr _ ih=>exact .cons ((k _ aq).trans hr) (ih fun r hr=>k r (ai _ hr))
theorem HandAt.mono (H:HandAt ω h i hd k t e rs) (g:∀ n∈h::k::t::e::rs,ω'[n]?=ω[n]?):HandAt ω' h i hd k t e rs:=
 ⟨(g h (by simp)).trans H.obj,(g k (by simp)).trans H.kn,H.rows.mono fun r hr=>g r (by simp[hr]),(g t (by simp)).trans H.tb,(g e (by simp)).trans H.kp,H.nd⟩
theorem RowsAt.set (h:RowsAt ω rs kn) (nd:rs.Nodup) (hr:rs[j]?=xw r):RowsAt (ω.set r (.ml (iv xs))) rs (kn.set j xs):=by
 induction h generalizing j with
 |nil=>simp at hr
 |@cons r0 x0 rs' kn' h0 t ih=>
  rw[b8] at nd;cases j with
  |zero=>
   simp at hr;subst hr;rw[vo];refine .cons (cB h0) (RowsAt.mono t fun q hq=>aI fun z=>nd.1 (z ▸ hq))
  |succ j=>
   simp at hr;rw[vp];refine .cons ?_ (ih nd.2 hr)
   show(ω.set r (.ml (iv xs)))[r0]?=_
   rw[aI (show r0≠r from fun z=>nd.1 (by rw[z];exact gg hr))];exact h0
def Keep (fp:List Nat) (ω ω':Om):Prop:=ω.length<=ω'.length/\∀ n,n<ω.length->n∉fp->ω'[n]?=ω[n]?
theorem Keep.refl (fp:List Nat) (ω:Om):Keep fp ω ω:=⟨bf _,fun _ _ _=>rfl⟩
theorem Keep.trans (a:Keep fp ω ω1) (b:Keep fp ω1 ω2):Keep fp ω ω2:=⟨ci a.1 b.1,fun n h1 h2=>(b.2 n (b9 h1 a.1) h2).trans (a.2 n h1 h2)⟩
theorem Keep.set (h:n∈fp):Keep fp ω (ω.set n ob):=⟨by simp,fun m _ hm=>aI fun z=>hm (z ▸ h)⟩
noncomputable def Hd.bump (hd:Hd) (i:Nat):Hd:={ hd with knows:=hd.knows.set i ((hd.seen i).set i ((hd.seen i).getD i 0+1)) }
theorem pR {i:Nat} (H:HandAt ω h i hd k t e rs) (hi:i<hd.knows.length) (hs:i<(hd.seen i).length):∃ ω',cY [.obj h] ω=xw (.ok (.tup [.int i,.int ((hd.seen i).getD i 0+1)]),ω')/\HandAt ω' h i (hd.bump i) k t e rs/\Keep rs ω ω'/\ω'.length=ω.length:=by
 obtain⟨r,hr,er⟩:=H.seenRow hi;have hm:r∈rs:=gg hr;have nd:=H.nd;simp only[b8,ak,not_or] at nd;obtain⟨⟨h1,h2,h3,h4⟩,⟨h5,h6,h7⟩,⟨h8,h9⟩,h10,h11⟩:=nd;have ne:∀ {n:Nat},n∉rs->n≠r:=fun hn z=>hn (z ▸ hm);refine⟨ω.set r (.ml (iv ((hd.seen i).set i ((hd.seen i).getD i 0+1)))),?_,⟨?_,?_,H.rows.set h11 hr,?_,?_,H.nd⟩,Keep.set hm,by simp⟩
 ·have ix:oN ω (.obj r) (.int i)=xw (.int ((hd.seen i).getD i 0)):=by
   have:=RowV.ix (ω:=ω) (d:=.obj r) (xs:=hd.seen i) (by unfold RowV fG;simp only[er]) (a:=i) (ju i) (by simpa using hs)
   simpa using this
  refine aT rfl ?_;unfold jQ;rw[aK (cH (aB rfl) H.obj rfl (kU H hr))];have e2:(ω.set r (.ml (iv ((hd.seen i).set i ((hd.seen i).getD i 0+1)))))[h]?=ω[h]?:=aI (ne h4);rw[bA (eE (fT (aJ (aB (d:=.obj r) rfl) (H.number (aB rfl)) ix) aU rfl) (aB (d:=.obj r) rfl) (H.number (aB rfl)) (kS er (by unfold iv;simpa using hs)))];have e3:(iv (hd.seen i)).set i (.int ((hd.seen i).getD i 0+1))=iv ((hd.seen i).set i ((hd.seen i).getD i 0+1)):=by
   unfold iv;rw[rp]
  rw[e3];have H2:gB 0 "number" (zV 0) [xw (.obj h),xw (.obj r)] (ω.set r (.ml (iv ((hd.seen i).set i ((hd.seen i).getD i 0+1)))))=xw (.ok (.int i),ω.set r (.ml (iv ((hd.seen i).set i ((hd.seen i).getD i 0+1))))):=fY (aB rfl) (e2.trans H.obj) rfl;have er2:=cB (ob:=.ml (iv ((hd.seen i).set i ((hd.seen i).getD i 0+1)))) er;refine bD (cO (aA H2 (aA (aJ (d:=.int ((hd.seen i).getD i 0+1)) (aB (d:=.obj r) rfl) H2 ?_) aD)) rfl)
  have:=RowV.ix (ω:=ω.set r (.ml (iv ((hd.seen i).set i ((hd.seen i).getD i 0+1))))) (d:=.obj r) (xs:=(hd.seen i).set i ((hd.seen i).getD i 0+1)) (by unfold RowV fG;simp only[er2]) (a:=i) (ju i) (by simpa using hs)
  rw[this];simp[hs]
 ·rw[aI (ne h4)];exact H.obj
 ·rw[aI (ne h7)];exact H.kn
 ·rw[aI (ne h9)];exact H.tb
 ·rw[aI (ne h10)];exact H.kp
end
section
variable {ω:Om}{h k t e:Nat}{i:Nat}{hd:Hd}{rs:List Nat}{ρ:Rho}{f:OG D}
theorem HandAt.ne (H:HandAt ω h i hd k t e rs):(h≠k/\h≠t/\h≠e/\h∉rs)/\(k≠t/\k≠e/\k∉rs)/\(t≠e/\t∉rs)/\e∉rs/\rs.Nodup:=by
 have nd:=H.nd;simp only[b8,ak,not_or] at nd;obtain⟨⟨h1,h2,h3,h4⟩,⟨h5,h6,h7⟩,⟨h8,h9⟩,h10,h11⟩:=nd;exact⟨⟨h1,h2,h3,h4⟩,⟨h5,h6,h7⟩,⟨h8,h9⟩,h10,h11⟩
theorem HandAt.setT (H:HandAt ω h i hd k t e rs) (T:List (List Key×D)):HandAt (ω.set t (.dt T)) h i { hd with table:=T } k t e rs:=by
 obtain⟨⟨h1,h2,h3,h4⟩,⟨h5,h6,h7⟩,⟨h8,h9⟩,h10,h11⟩:=H.ne;refine⟨?_,?_,H.rows.mono fun r hr=>aI fun z=>h9 (z ▸ hr),cB H.tb,?_,H.nd⟩
 ·rw[aI h2];exact H.obj
 ·rw[aI h5];exact H.kn
 ·rw[aI (bx h8)];exact H.kp
theorem HandAt.setE (H:HandAt ω h i hd k t e rs) (T:List (List Key×D)):HandAt (ω.set e (.dt T)) h i { hd with kept:=T } k t e rs:=by
 obtain⟨⟨h1,h2,h3,h4⟩,⟨h5,h6,h7⟩,⟨h8,h9⟩,h10,h11⟩:=H.ne;refine⟨?_,?_,H.rows.mono fun r hr=>aI fun z=>h10 (z ▸ hr),?_,cB H.kp,H.nd⟩
 ·rw[aI h3];exact H.obj
 ·rw[aI h6];exact H.kn
 ·rw[aI h8];exact H.tb
theorem HandAt.lt (H:HandAt ω h i hd k t e rs):∀ n∈h::k::t::e::rs,n<ω.length:=by
 intro n hn;have lt:∀ {m:Nat}{o:Ob},ω[m]?=xw o->m<ω.length:=fun q=>(br.mp q).1;rcases ak.mp hn with rfl|hn
 ·exact lt H.obj
 rcases ak.mp hn with rfl|hn
 ·exact lt H.kn
 rcases ak.mp hn with rfl|hn
 ·exact lt H.tb
 rcases ak.mp hn with rfl|hn
 ·exact lt H.kp
 ·have:∀ {rs:List Nat}{kn:List (List Int)},RowsAt ω rs kn->∀ n∈rs,n<ω.length:=by
   intro rs kn hR
   induction hR with
   |nil=>intro n hn;simp at hn
   |cons hr _ ih=>
    intro n hn;rcases ak.mp hn with rfl|hn
    ·exact lt hr
    ·exact ih n hn
  exact this H.rows n hn
noncomputable def gA (i:Nat) (b:Int):List Key:=[.inl (i:Int),.inl b]
noncomputable def mkD (i:Nat) (b:Int):D:=.tup [.int i,.int b]
noncomputable def Hd.next (hd:Hd) (i:Nat):Int:=(hd.seen i).getD i 0+1
noncomputable def Hd.put (hd:Hd) (i:Nat) (x:Str) (v:Int):Hd:={ hd.bump i with table:=putD hd.table (gA i (hd.next i)) (.tup [.str x,mkD i (hd.next i),.int v]) }
theorem qK (e:ω[n]?=xw (.dt kvs)) (hk:Ec y=xw ks) (hl:kvs.length<sizeLine):nR ω (.obj n) y v=xw (ω.set n (.dt (putD kvs ks v))):=by
 simp only[nR,e,hk]
 show(if kvs.length<sizeLine then _ else xx)=_
 rw[if_pos hl]
theorem NH (H:HandAt ω h i hd k t e rs) (hi:i<hd.knows.length) (hs:i<(hd.seen i).length) (hl:hd.table.length<sizeLine) (x:Str) (v:Int):
  ∃ ω',eL [.obj h,.str x,.int v] ω=xw (.ok (mkD i (hd.next i)),ω')/\HandAt ω' h i (hd.put i x v) k t e rs/\Keep (t::rs) ω ω'/\ω'.length=ω.length:=by
 obtain⟨ω1,e1,H1,K1,L1⟩:=pR H hi hs;have hb:(hd.bump i).table=hd.table:=rfl;refine⟨ω1.set t (.dt (putD hd.table (gA i (hd.next i)) (.tup [.str x,mkD i (hd.next i),.int v]))),?_,?_,⟨by simp[L1],fun n hn hm=> ?_⟩,by simp[L1]⟩
 ·refine aT rfl ?_;unfold tZ;rw[aK (cH (aB rfl) H.obj rfl e1)];rw[bA (eE (cO (aA (aB (d:=.str x) rfl) (aA (aB (d:=mkD i (hd.next i)) rfl) (aA (aB (d:=.int v) rfl) aD))) rfl) (H1.table (aB rfl)) (aB (d:=mkD i (hd.next i)) rfl) (qK (ks:=gA i (hd.next i)) H1.tb rfl hl))];exact bD (aB rfl)
 ·exact H1.setT _
 ·rw[aI (fun z=>hm (by rw[z];simp))];exact K1.2 n hn fun z=>hm (ai _ z)
noncomputable def common:List (List Int)->List Int
 |[]=>[]
 |r::rest=>rest.foldl (bq mn) r
theorem Gy (hk:ω[k]?=xw (.ml (rs.map D.obj))) (hr:RowsAt ω rs kn) (hne:kn≠[]) (hl:∀ xs∈kn,xs.length<=sizeLine):oH [.obj k] ω=xw (.ok (.lst (iv (common kn))),ω):=by
 cases hr with
 |nil=>exact absurd rfl hne
 |@cons r0 x0 rs kn h0 ht=>
  refine aT rfl ?_;unfold Cm;have e0:oN ω (.obj k) (.int 0)=xw (.obj r0):=by
   rw[lF hk];unfold atI ixN;simp
  rw[aK (d:=.lst (iv x0)) (cO (aA (aJ (aB (d:=.obj k) rfl) aU e0) aD) (by
   show(bZ ω (.obj r0)).map _=_
   have:bZ ω (.obj r0)=xw (iv x0):=by simp only[bZ,fG,h0]
   rw[this];rfl))]
  have e1:oSl (zV 0) (dSo (dC (.int 1))) dNo ((cE wP [.obj k]).set 1 (xw (.lst (iv x0)))) ω=xw (.ok (.lst (rs.map D.obj)),ω):=by
   unfold oSl;rw[bF (aB (d:=.obj k) rfl)];show oR (pu (Pv ω (.obj k) (xw 1) xx) ω)=_
   have:Pv ω (.obj k) (xw 1) xx=xw (.lst (DP ((r0::rs).map D.obj) (xw 1) xx)):=by simp only[Pv,fG,hk]
   rw[this];have c1:DP ((r0::rs).map D.obj) (xw 1) xx=rs.map D.obj:=by
    simp only[DP,HT.sIx];simp[t4]
   rw[c1];rfl
  have hloop:∃ ρ' ω',bP (aW 2) bO fW (rs.map D.obj) ((cE wP [.obj k]).set 1 (xw (.lst (iv x0)))) ω=xw (.nx ρ',ω')/\(ω'=ω/\∃ v,ρ'=[xw (.obj k),xw (.lst (iv (kn.foldl (bq mn) x0))),v]):=by
   have gen:∀ {rs:List Nat}{kn:List (List Int)},RowsAt ω rs kn->(∀ xs∈kn,xs.length<=sizeLine)->∀(x0:List Int) (v:Option D),x0.length<=sizeLine->∃ ρ' ω',bP (aW 2) bO fW (rs.map D.obj) [xw (.obj k),xw (.lst (iv x0)),v] ω=xw (.nx ρ',ω')/\(ω'=ω/\∃ v,ρ'=[xw (.obj k),xw (.lst (iv (kn.foldl (bq mn) x0))),v]):=by
    intro rs kn hR
    induction hR with
    |nil=>intro _ x0 v _;exact⟨_,_,rfl,rfl,_,rfl⟩
    |@cons r1 x1 rs kn h1 _ ih=>
     intro hl x0 v hx;obtain⟨ρ',ω',g1,g2,g3⟩:=ih (fun xs hxs=>hl xs (ai _ hxs)) (bq mn x0 x1) (xw (.obj r1)) (by rw[fh];omega);refine⟨ρ',ω',?_,g2,g3⟩;rw[<- g1];have step:fW [xw (.obj k),xw (.lst (iv x0)),xw (.obj r1)] ω=xw (.nx [xw (.obj k),xw (.lst (iv (bq mn x0 x1))),xw (.obj r1)],ω):=by
      obtain⟨chk,z1,z2⟩:=Ee (f:=zV 1) (h:=zV 2) (ρ:=[xw (.obj k),xw (.lst (iv x0)),xw (.obj r1)]) (ω:=ω) (a:=.lst (iv x0)) (b:=.obj r1) (xs:=x0) (ys:=x1) (aB rfl) (aB rfl) rfl (by unfold RowV fG;simp only[h1]);unfold fW aY;rw[bV (eM (ω2:=ω) (out:=iv (bq mn x0 x1)) z1 (zU hx) (by
       rw[<- uP (G:=D2 mn) (fun _ _=>rfl)];refine gG (fun ρ=>ρ.length=2) z2 rfl fun d hd ρ hρ=> ?_;obtain⟨x,y,rfl⟩:=zR hd
       match ρ,hρ with
       |[u,v],_=>exact⟨_,rfl,rfl,rfl⟩))]
      rfl
     exact dD rfl rfl step
   exact gen ht (fun xs hxs=>hl xs (ai _ hxs)) x0 xx (hl x0 aq)
  obtain⟨ρ',ω',g1,rfl,v,rfl⟩:=hloop;rw[bA (eY (by
   unfold bI oIL;rw[bV (bF e1)];exact g1))]
  exact bD (aB rfl)
end
theorem uZ (hl:ds.length=n) (e:G (cE N ds) ω=xw (.nx ρ1,ω1)):eA n N G ds ω=xw (.ok .non,ω1):=by
 unfold eA;rw[if_pos hl,e]
theorem pK:∀ kvs:List (List Key×D),sW kvs kvs=true
 |[]=>rfl
 |a::r=>by simp[sW,sX,pK r]
theorem At (h:ω[n]?=xw (.dz kvs)):yH n kvs ω=true:=by
 unfold yH;rw[h];exact pK kvs
def RI (c:Nat) (k:List Key):Prop:=∃ a b:Int,k=[.inl a,.inl b]/\0<=a/\a<c
noncomputable def eX (xs:List Int):List Key->Bool
 |[.inl a,.inl b]=>decide (b<=xs.getD a.toNat 0)
 |_=>false
theorem zZ (nd:(kvs.map (·.1)).Nodup) {kv:List Key×D} (h:kv∈kvs):iR kvs kv.1=xw kv.2:=by
 induction kvs with
 |nil=>simp at h
 |cons p r ih=>
  rw[bg,b8] at nd;unfold iR;rcases ak.mp h with rfl|h
  ·simp[hV]
  ·have hne:p.1≠kv.1:=fun z=>nd.1 (z ▸ ax.mpr ⟨kv,h,rfl⟩);rw[List.find?_cons_of_neg (by simpa using hne)];exact ih nd.2 h
theorem oF {k:List Key} (h:k∉kvs.map (·.1)):putD kvs k v=kvs++[(k,v)]:=by
 unfold putD;rw[if_neg];simp only[o9,decide_eq_true_eq,not_exists,not_and];intro x hx z;exact h (ax.mpr ⟨x,hx,z⟩)
section
variable {ω:Om}{h k t e:Nat}{i:Nat}{hd:Hd}{rs:List Nat}{ρ:Rho}{f:OG D}
noncomputable def Hd.forget (hd:Hd):Hd:={ hd with kept:=hd.kept.filter fun kv=> !eX (common hd.knows) kv.1 }
structure Hd.Ok (c:Nat) (hd:Hd):Prop where
 len:hd.knows.length=c
 row:∀ xs∈hd.knows,xs.length=c
 small:c<=8
 pos:0<c
 kk:∀ kv∈hd.kept,RI c kv.1
 kn:(hd.kept.map (·.1)).Nodup
 kl:hd.kept.length<64
 tk:∀ kv∈hd.table,∃ a b:Int,0<=a/\a<c/\kv.1=[.inl a,.inl b]/\∃ x v,kv.2=.tup [.str x,.tup [.int a,.int b],.int v]
 tn:(hd.table.map (·.1)).Nodup
 tl:hd.table.length<64
theorem DQ:∀ {kn:List (List Int)},kn≠[]->(∀ xs∈kn,xs.length=c)->(common kn).length=c
 |[],hne,_=>absurd rfl hne
 |r::rest,_,h=>by
  have gen:∀(rest:List (List Int)) (r:List Int),r.length=c->(∀ xs∈rest,xs.length=c)->(rest.foldl (bq mn) r).length=c:=by
   intro rest
   induction rest with
   |nil=>intro r hr _;exact hr
   |cons x rest ih=>
    intro r hr hx;refine ih _ ?_ fun xs hxs=>hx xs (ai _ hxs);rw[fh,hr,hx x aq,jr]
  exact gen rest r (h r aq) fun xs hxs=>h xs (ai _ hxs)
theorem yP (H:HandAt ω h i hd k t e rs) (W:hd.Ok c):∃ ω',fI [.obj h] ω=xw (.ok .non,ω')/\HandAt ω' h i hd.forget k t ω.length rs/\Keep [h] ω ω':=by
 have hne:hd.knows≠[]:=fun z=>by have:=W.len;rw[z] at this;have:=W.pos;simp at*;omega
 have hcl:=DQ hne W.row;obtain⟨⟨h1,h2,h3,h4⟩,⟨h5,h6,h7⟩,⟨h8,h9⟩,h10,h11⟩:=H.ne;have ltn:∀ {n:Nat},n∈h::k::t::e::rs->n≠ω.length:=fun hn z=>absurd (H.lt _ hn) (by rw[z];exact gx _);have e1:bM oH (aC (gB 0 "knows" (zV 0)) aM) (cE iQ [.obj h]) ω=xw (.ok (.lst (iv (common hd.knows))),ω):=aR (aA (H.knows (aB rfl)) aD) (Gy H.kn H.rows hne fun xs hx=>by rw[W.row xs hx,bt];have:=W.small;omega)
 -- the loop
 have loop:∀(post pre:List (List Key×D)) (v:Option D) (ω1:Om),hd.kept=pre++post->ω1[ω.length]?=xw (.dt (pre.filter fun kv=> !eX (common hd.knows) kv.1))->ω1[e]?=xw (.dz hd.kept)->(∀ n,n<ω.length->n≠e->ω1[n]?=ω[n]?)->ω1.length=ω.length+1->
   ∃ ρ' ω',bP (aW 3) (yH e hd.kept) aV (post.map fun kv=>bH kv.1) [xw (.obj h),xw (.lst (iv (common hd.knows))),xw (.obj ω.length),v] ω1=xw (.nx ρ',ω')/\(∃ v,ρ'=[xw (.obj h),xw (.lst (iv (common hd.knows))),xw (.obj ω.length),v])/\
    ω'[ω.length]?=xw (.dt (hd.kept.filter fun kv=> !eX (common hd.knows) kv.1))/\ω'[e]?=xw (.dz hd.kept)/\(∀ n,n<ω.length->n≠e->ω'[n]?=ω[n]?)/\ω'.length=ω.length+1:=by
  intro post
  induction post with
  |nil=>
   intro pre v ω1 hp g1 g2 g3 g4;rw[c6] at hp;refine⟨_,ω1,by show(if yH e hd.kept ω1=true then _ else xx)=_;rw[if_pos (At g2)],⟨v,rfl⟩,by rw[hp];exact g1,g2,g3,g4⟩
  |cons kv post ih=>
   intro pre v ω1 hp g1 g2 g3 g4;have hm:kv∈hd.kept:=by rw[hp];simp
   obtain⟨a,b,hk,ha0,ha1⟩:=W.kk kv hm;have hdk:bH kv.1=.tup [.int a,.int b]:=by rw[hk];rfl
   have hseen:fL [.lst (iv (common hd.knows)),.tup [.int a,.int b]] ω1=xw (.ok (.bl (eX (common hd.knows) kv.1)),ω1):=by
    rw[hk];exact pZ (ω:=ω1) (d:=.lst (iv (common hd.knows))) (xs:=common hd.knows) (show fG ω1 (.lst (iv (common hd.knows)))=_ from rfl) ha0 (by rw[hcl];exact ha1)
   have hobj:ω1[h]?=xw (.ins 0 [("number",.int i),("knows",.obj k),("table",.obj t),("kept",.obj e)]):=by rw[g3 h (H.lt h (by simp)) h3];exact H.obj
   have hp':hd.kept=(pre++[kv])++post:=by rw[gu];exact hp
   have first:∀ ω2,aV [xw (.obj h),xw (.lst (iv (common hd.knows))),xw (.obj ω.length),xw (.tup [.int a,.int b])] ω1=xw (.nx [xw (.obj h),xw (.lst (iv (common hd.knows))),xw (.obj ω.length),xw (.tup [.int a,.int b])],ω2)->
     bP (aW 3) (yH e hd.kept) aV ((kv::post).map fun kv=>bH kv.1) [xw (.obj h),xw (.lst (iv (common hd.knows))),xw (.obj ω.length),v] ω1=bP (aW 3) (yH e hd.kept) aV (post.map fun kv=>bH kv.1) [xw (.obj h),xw (.lst (iv (common hd.knows))),xw (.obj ω.length),xw (.tup [.int a,.int b])] ω2:=fun ω2 q=>by
    rw[bg,hdk]
    show(if yH e hd.kept ω1=true then(match aV [xw (.obj h),xw (.lst (iv (common hd.knows))),xw (.obj ω.length),xw (.tup [.int a,.int b])] ω1 with
     |none=>xx
     |some (.nx ρ2,ω2)=>bP (aW 3) (yH e hd.kept) aV (post.map fun kv=>bH kv.1) ρ2 ω2
     |some (.ct ρ2,ω2)=>bP (aW 3) (yH e hd.kept) aV (post.map fun kv=>bH kv.1) ρ2 ω2
     |some (.bk ρ2,ω2)=>xw (.nx ρ2,ω2)
     |some (.rt d,ω2)=>xw (.rt d,ω2)
     |some (.ex _,_)=>xx) else xx)=_
    rw[if_pos (At g2),q]
   have tst:iS (gO (bM fL (aC (zV 1) (aC (zV 3) aM)))) [xw (.obj h),xw (.lst (iv (common hd.knows))),xw (.obj ω.length),xw (.tup [.int a,.int b])] ω1=xw (.ok (!eX (common hd.knows) kv.1),ω1):=by
    unfold iS gO;rw[bF (bF (aR (aA (aB rfl) (aA (aB rfl) aD)) hseen))]
   cases hs:eX (common hd.knows) kv.1 with
   |true=>
    have b1:aV [xw (.obj h),xw (.lst (iv (common hd.knows))),xw (.obj ω.length),xw (.tup [.int a,.int b])] ω1=xw (.nx [xw (.obj h),xw (.lst (iv (common hd.knows))),xw (.obj ω.length),xw (.tup [.int a,.int b])],ω1):=by
     unfold aV;rw[hs] at tst;rw[lN tst];rfl
    rw[first ω1 b1];refine ih (pre++[kv]) _ ω1 hp' ?_ g2 g3 g4;rw[jv,de (by rw[hs];decide),lq,c6];exact g1
   |false=>
    have nin:kv.1∉(pre.filter fun kv=> !eX (common hd.knows) kv.1).map (·.1):=fun z=>by
     obtain⟨q,q1,q2⟩:=ax.mp z;have nd:=W.kn;rw[hp,cf,j3] at nd;exact nd.2.2 _ (ax.mpr ⟨q,(b0.mp q1).1,rfl⟩) _ (ax.mpr ⟨kv,aq,rfl⟩) q2
    have fl:(pre.filter fun kv=> !eX (common hd.knows) kv.1).length<sizeLine:=by
     have h1:=fe (fun kv:List Key×D=> !eX (common hd.knows) kv.1) pre;have h2:=W.kl;rw[hp,bw] at h2;rw[bt];omega
    have dg:jA ω1 (.obj e) (.tup [.int a,.int b])=xw kv.2:=by
     have:iR hd.kept [.inl a,.inl b]=xw kv.2:=by rw[<- hk];exact zZ W.kn hm
     simp only[jA,Ed,cellOf,g2]
     show(((xw [.inl a,.inl b]:Option (List Key)).map fun k=>iR hd.kept k)).join=_
     show(xw (iR hd.kept [.inl a,.inl b])).join=_
     rw[this];rfl
    have b1:aV [xw (.obj h),xw (.lst (iv (common hd.knows))),xw (.obj ω.length),xw (.tup [.int a,.int b])] ω1=xw (.nx [xw (.obj h),xw (.lst (iv (common hd.knows))),xw (.obj ω.length),xw (.tup [.int a,.int b])],ω1.set ω.length (.dt ((pre.filter fun kv=> !eX (common hd.knows) kv.1)++[kv]))):=by
     unfold aV;rw[hs] at tst;rw[mW tst];refine eE (v:=kv.2) (ω1:=ω1) (ω2:=ω1) (ω3:=ω1) (o:=.obj ω.length) (i:=.tup [.int a,.int b]) (dO (fY (aB rfl) hobj rfl) (aB rfl) ?_) (aB rfl) (aB rfl) ?_
     ·show pu (jA ω1 (.obj e) (.tup [.int a,.int b])) ω1=_;rw[dg];rfl
     ·rw[qK (ks:=kv.1) g1 (by rw[hk];rfl) fl,oF nin]
    rw[first _ b1];refine ih (pre++[kv]) _ _ hp' ?_ ?_ (fun n hn hne=> ?_) (by simp[g4])
    ·rw[cB g1,jv,df (by rw[hs];decide),lq]
    ·rw[aI (ltn (by simp))];exact g2
    ·rw[aI (by omega)];exact g3 n hn hne
 have ge:(ω++[Ob.dt []])[e]?=xw (.dt hd.kept):=by rw[am (H.lt e (by simp))];exact H.kp
 obtain⟨ρ',ω2,l1,⟨v,rfl⟩,l3,l4,l5,l6⟩:=loop hd.kept [] xx ((ω++[Ob.dt []]).set e (.dz hd.kept)) rfl (by rw[aI (bx (ltn (by simp)))];simp) (cB ge) (fun n hn hne=>by rw[aI hne,am hn]) (by simp);have l3':(ω2.set e (.dt hd.kept))[ω.length]?=xw (.dt (hd.kept.filter fun kv=> !eX (common hd.knows) kv.1)):=by rw[aI (bx (ltn (by simp)))];exact l3
 have ho:(ω2.set e (.dt hd.kept))[h]?=xw (.ins 0 [("number",.int i),("knows",.obj k),("table",.obj t),("kept",.obj e)]):=by rw[aI h3,l5 h (H.lt h (by simp)) h3];exact H.obj
 refine⟨(ω2.set e (.dt hd.kept)).set h (.ins 0 [("number",.int i),("knows",.obj k),("table",.obj t),("kept",.obj ω.length)]),?_,⟨cB ho,?_,?_,?_,?_,?_⟩,⟨by simp[l6],fun n hn hm=> ?_⟩⟩
 ·have body:iJ (cE iQ [.obj h]) ω=xw (.nx [xw (.obj h),xw (.lst (iv (common hd.knows))),xw (.obj ω.length),v],(ω2.set e (.dt hd.kept)).set h (.ins 0 [("number",.int i),("knows",.obj k),("table",.obj t),("kept",.obj ω.length)])):=by
   unfold iJ;rw[aK e1];rw[aK (d:=.obj ω.length) (ω1:=ω++[.dt []]) rfl];have ho1:(ω++[Ob.dt []])[h]?=xw (.ins 0 [("number",.int i),("knows",.obj k),("table",.obj t),("kept",.obj e)]):=by rw[am (H.lt h (by simp))];exact H.obj
   rw[bA (eY (by
    unfold Kt;rw[bV (fY (aB (d:=.obj h) rfl) ho1 rfl)]
    have:DG (ω++[Ob.dt []]) (.obj e)=xw (e,hd.kept):=by simp only[DG,ge]
    show(DG (ω++[Ob.dt []]) (.obj e)).bind _=_
    rw[this]
    show(match bP (aW 3) (yH e hd.kept) aV (hd.kept.map fun kv=>bH kv.1) [xw (.obj h),xw (.lst (iv (common hd.knows))),xw (.obj ω.length),xx] ((ω++[Ob.dt []]).set e (.dz hd.kept)) with
     |some (.nx ρ',ω')=>if yH e hd.kept ω'=true then xw (OOut.nx ρ',ω'.set e (.dt hd.kept)) else xx
     |_=>xx)=_
    rw[l1]
    show(if yH e hd.kept ω2=true then _ else xx)=_
    rw[if_pos (At l4)]))]
   unfold nO;rw[bV (aB (d:=.obj ω.length) rfl),bV (aB (d:=.obj h) rfl)]
   have:vQ 0 "kept" (ω2.set e (.dt hd.kept)) (.obj h) (.obj ω.length)=xw ((ω2.set e (.dt hd.kept)).set h (.ins 0 [("number",.int i),("knows",.obj k),("table",.obj t),("kept",.obj ω.length)])):=by
    simp only[vQ,ho];rfl
   show(vQ 0 "kept" (ω2.set e (.dt hd.kept)) (.obj h) (.obj ω.length)).map _=_
   rw[this];rfl
  exact uZ rfl body
 ·rw[aI (bx h1),aI h6,l5 k (H.lt k (by simp)) h6];exact H.kn
 ·refine H.rows.mono fun r hr=> ?_;rw[aI (show r≠h from fun z=>h4 (z ▸ hr)),aI (show r≠e from fun z=>h10 (z ▸ hr)),l5 r (H.lt r (by simp[hr])) (fun z=>h10 (z ▸ hr))]
 ·rw[aI (bx h2),aI h8,l5 t (H.lt t (by simp)) h8];exact H.tb
 ·rw[aI (bx (ltn (by simp)))];exact l3'
 ·have nn:∀ n∈h::k::t::rs,n≠ω.length:=fun n hn=>ltn (by
   simp only[ak] at hn ⊢;rcases hn with z|z|z|z
   ·exact .inl z
   ·exact .inr (.inl z)
   ·exact .inr (.inr (.inl z))
   ·exact .inr (.inr (.inr (.inr z))))
  simp only[b8,ak,not_or];exact⟨⟨h1,h2,nn h (by simp),h4⟩,⟨h5,nn k (by simp),h7⟩,⟨nn t (by simp),h9⟩,fun z=>nn _ (by simp[z]) rfl,h11⟩
 ·rw[aI (fun z=>hm (by rw[z];simp))]
  by_cases he:n=e
  ·subst he;rw[cB l4];exact H.kp.symm
  ·rw[aI he];exact l5 n hn he
end
theorem gZ {ω:Om}{n:Nat}{ob:Ob} (h:ω[n]?=xw ob):ω.set n ob=ω:=by
 apply ii;intro m
 by_cases hm:m=n
 ·subst hm;rw[cB h,h]
 ·rw[aI hm]
theorem Nn (k:Key):toK (ofK k)=xw k:=by cases k <;> rfl
theorem El:∀ ks:List Key,Nm (ks.map ofK)=xw ks
 |[]=>rfl
 |k::r=>by
  show(toK (ofK k)).bind _=_
  rw[Nn]
  show(Nm (r.map ofK)).map _=_
  rw[El r];rfl
theorem BA (k:List Key):Ec (bH k)=xw k:=El k
theorem Ke (ha:fE a) (hb:fE b):∃ c,dY 4 a b=xw c:=by
 obtain⟨x,p,q,v,rfl⟩:=ha;obtain⟨x',p',q',v',rfl⟩:=hb;show ∃ c,(match eqD 4 (.str x) (.str x') with
  |some true=>(match eqD 4 (.tup [.int p,.int q]) (.tup [.int p',.int q']) with
   |some true=>(match eqD 4 (.int v) (.int v') with
    |some true=>xw _
    |some false=>fV (.int v) (.int v')
    |none=>xx)
   |some false=>fV (.tup [.int p,.int q]) (.tup [.int p',.int q'])
   |none=>xx)
  |some false=>fV (.str x) (.str x')
  |none=>xx)=xw c
 rw[iK];cases decide (x=x') with
 |false=>exact⟨_,rfl⟩
 |true=>
  have e2:∃ c,eqD 4 (.tup [.int p,.int q]) (.tup [.int p',.int q'])=xw c:=⟨_,rfl⟩;obtain⟨c,e2⟩:=e2;rw[e2];cases c with
  |false=>exact⟨_,rfl⟩
  |true=>
   show ∃ c,(match eqD 4 (.int v) (.int v') with
    |some true=>xw _
    |some false=>fV (.int v) (.int v')
    |none=>xx)=xw c
   have e3:eqD 4 (.int v) (.int v')=xw (decide (v=v')):=rfl;rw[e3];cases decide (v=v') with
   |false=>exact⟨_,rfl⟩
   |true=>exact⟨_,rfl⟩
theorem Cs (h:fE d):kY d=xw false:=by
 obtain⟨x,a,b,v,rfl⟩:=h;rfl
section
variable {ω:Om}{h k t e:Nat}{i:Nat}{hd:Hd}{rs:List Nat}{ρ:Rho}{f:OG D}
theorem Hd.Ok.ent (W:hd.Ok c):∀ d∈hd.table.map (·.2),fE d:=fun d hd'=>by
 obtain⟨kv,h1,rfl⟩:=ax.mp hd';obtain⟨a,b,_,_,_,x,v,e⟩:=W.tk kv h1;exact⟨x,a,b,v,e⟩
theorem Hd.Ok.sorts (W:hd.Ok c):∃ out,hd.entries=xw out/\out.Perm (hd.table.map (·.2)):=by
 refine uV (by rw[ao];exact W.tl) ?_ fun a ha b hb=>Ke (W.ent a ha) (W.ent b hb);unfold jH;rw[ik];right;rw[fx];intro d hd';rw[Cs (W.ent d hd')];rfl
noncomputable def Hd.takeOut0 (hd:Hd) (mk:List Key) (ks:List (List Key)):Hd:={ hd with table:=ks.foldl dZ hd.table,kept:=if ks=[] then hd.kept else putD hd.kept mk (.tup (ks.map bH)) }
noncomputable def Hd.takeOut (hd:Hd) (mk:List Key) (ks:List (List Key)):Hd:=(hd.takeOut0 mk ks).forget
theorem BX {g:Om->D->List D->Option (D×Om)}{fo:OG D}{fl:OG (List D)}{ρ:Rho}{ω ω1 ω2 ω3:Om}{n:Nat}{kvs:List (List Key×D)}{ds:List D}{r:D} (e1:fo ρ ω=xw (.ok (.obj n),ω1)) (e2:ω1[n]?=xw (.dt kvs)) (e3:fl ρ ω1=xw (.ok ds,ω2)) (e4:g ω2 (.obj n) ds=xw (r,ω3)):pP g fo fl ρ ω=xw (.ok r,ω3):=by
 unfold pP;rw[bF e1]
 have:Dr ω1 (.obj n)=true:=by simp only[Dr,cellOf,e2]
 show(if Dr ω1 (.obj n)=true then _ else xx)=_
 rw[if_pos this,bF e3];show oR (g ω2 (.obj n) ds)=_;rw[e4];rfl
theorem DI {kvs:List (List Key×D)}{q k:List Key} (h:q∈kvs.map (·.1)) (hn:q≠k):q∈(dZ kvs k).map (·.1):=by
 obtain⟨p,h1,rfl⟩:=ax.mp h;exact ax.mpr ⟨p,b0.mpr ⟨h1,by simpa using hn⟩,rfl⟩
theorem Eg {kvs:List (List Key×D)}{k:List Key} (h:k∈kvs.map (·.1)):∃ v,iR kvs k=xw v:=by
 obtain⟨p,h1,h2⟩:=ax.mp h;unfold iR;cases q:kvs.find? fun kv=>decide (kv.1=k) with
 |some u=>exact⟨u.2,rfl⟩
 |none=>
  rw[vn] at q;exact absurd (by simpa using h2) (q p h1)
theorem EJ:∀ {ks:List (List Key)}{T:List (List Key×D)}{v:Option D}{ω:Om},ω[h]?=xw (.ins 0 [("number",.int i),("knows",.obj k),("table",.obj t),("kept",.obj e)])->ω[t]?=xw (.dt T)->h≠t->ks.Nodup->(∀ q∈ks,q∈T.map (·.1))->
  ∃ ρ',bP (aW 3) bO cI (ks.map bH) [xw (.obj h),xw mk,xw ms,v] ω=xw (.nx ρ',ω.set t (.dt (ks.foldl dZ T)))/\∃ v,ρ'=[xw (.obj h),xw mk,xw ms,v]
 |[],T,v,ω,_,ht,_,_,_=>⟨_,by
   show xw (OOut.nx _,ω)=_
   congr 2
   exact(gZ ht).symm,v,rfl⟩
 |q::ks,T,v,ω,ho,ht,hne,hk,hin=>by
  rw[b8] at hk;obtain⟨u,hu⟩:=Eg (hin q aq);have b1:cI [xw (.obj h),xw mk,xw ms,xw (bH q)] ω=xw (.nx [xw (.obj h),xw mk,xw ms,xw (bH q)],ω.set t (.dt (dZ T q))):=by
   unfold cI bT;rw[bV (BX (r:=u) (ω3:=ω.set t (.dt (dZ T q))) (fY (aB rfl) ho rfl) ht (aA (aB rfl) aD) (by
    simp only[Ga,ht]
    show(Ec (bH q)).bind _=_
    rw[BA]
    show(iR T q).map _=_
    rw[hu];rfl))]
  obtain⟨ρ',g1,v',g2⟩:=EJ (mk:=mk) (ms:=ms) (ks:=ks) (T:=dZ T q) (v:=xw (bH q)) (ω:=ω.set t (.dt (dZ T q))) (by rw[aI hne];exact ho) (cB ht) hne hk.2 fun q' hq'=>DI (hin q' (ai _ hq')) fun z=>hk.1 (z ▸ hq');refine⟨ρ',?_,v',g2⟩;rw[pp] at g1;rw[bg];refine(dD rfl rfl (b1)).trans ?_;exact g1
theorem Ac (H:HandAt ω h i hd k t e rs) (hk:ks.Nodup) (hin:∀ q∈ks,q∈hd.table.map (·.1)) (hl:hd.kept.length<sizeLine) (W:(hd.takeOut0 mk ks).Ok c):
  ∃ ω' e',cX [.obj h,bH mk,.lst (ks.map bH)] ω=xw (.ok .non,ω')/\HandAt ω' h i (hd.takeOut mk ks) k t e' rs/\Keep [h,t,e] ω ω'/\ω.length<=e':=by
 obtain⟨⟨h1,h2,h3,h4⟩,⟨h5,h6,h7⟩,⟨h8,h9⟩,h10,h11⟩:=H.ne;obtain⟨ρ1,g1,v,rfl⟩:=EJ (h:=h) (i:=i) (k:=k) (t:=t) (e:=e) (mk:=bH mk) (ms:=.lst (ks.map bH)) (ks:=ks) (T:=hd.table) (v:=xx) (ω:=ω) H.obj H.tb h2 hk hin;have H1:HandAt (ω.set t (.dt (ks.foldl dZ hd.table))) h i { hd with table:=ks.foldl dZ hd.table } k t e rs:=H.setT _;have l1:sNx (bI (oIL (zV 2)) (aW 3) cI) (cE jY [.obj h,bH mk,.lst (ks.map bH)]) ω=xw (.nx [xw (.obj h),xw (bH mk),xw (.lst (ks.map bH)),v],ω.set t (.dt (ks.foldl dZ hd.table))):=eY (by
  unfold bI oIL;rw[bV (bF (aB (d:=.lst (ks.map bH)) rfl))];exact g1)
 have mid:∃ ω2,dA (gO (zV 2)) (iY nR (gB 0 "kept" (zV 0)) (zV 1) (oL FV (aC (zV 2) aM))) bG [xw (.obj h),xw (bH mk),xw (.lst (ks.map bH)),v] (ω.set t (.dt (ks.foldl dZ hd.table)))=xw (.nx [xw (.obj h),xw (bH mk),xw (.lst (ks.map bH)),v],ω2)/\HandAt ω2 h i (hd.takeOut0 mk ks) k t e rs/\Keep [t,e] ω ω2/\ω2.length=ω.length:=by
  cases hks:ks with
  |nil=>
   refine⟨ω.set t (.dt (([]:List (List Key)).foldl dZ hd.table)),?_,?_,Keep.set (by simp),by simp⟩
   ·rw[lN (ω1:=ω.set t (.dt (([]:List (List Key)).foldl dZ hd.table))) (by
     unfold gO;rw[bF (aB (d:=.lst []) rfl)];rfl)]
    rfl
   ·subst hks;exact H1
  |cons q r=>
   have hks':ks≠[]:=by rw[hks];simp
   rw[<- hks];refine⟨(ω.set t (.dt (ks.foldl dZ hd.table))).set e (.dt (putD hd.kept mk (.tup (ks.map bH)))),?_,?_,(Keep.set (by simp)).trans (Keep.set (by simp)),by simp⟩
   ·rw[mW (ω1:=ω.set t (.dt (ks.foldl dZ hd.table))) (by
     unfold gO;rw[bF (aB (d:=.lst (ks.map bH)) rfl)];rw[hks];rfl)]
    exact eE (cO (aA (aB (d:=.lst (ks.map bH)) rfl) aD) rfl) (H1.kept (aB rfl)) (aB (d:=bH mk) rfl) (qK (ks:=mk) H1.kp (BA mk) hl)
   ·have:=H1.setE (putD hd.kept mk (.tup (ks.map bH)))
    have e0:hd.takeOut0 mk ks={ hd with table:=ks.foldl dZ hd.table,kept:=putD hd.kept mk (.tup (ks.map bH)) }:=by
     unfold Hd.takeOut0;rw[if_neg hks']
    rw[e0];exact this
 obtain⟨ω2,m1,H2,K2,L2⟩:=mid;obtain⟨ω3,f1,H3,K3⟩:=yP H2 W;refine⟨ω3,ω2.length,?_,H3,⟨by rw[<- L2];exact K3.1,fun n hn hm=> ?_⟩,by rw[L2];exact bf _⟩
 ·refine uZ (ρ1:=[xw (.obj h),xw (bH mk),xw (.lst (ks.map bH)),v]) rfl ?_;unfold jP;rw[bA l1,bA m1];unfold bT;rw[bV (cH (aB rfl) H2.obj rfl f1)]
 ·simp only[ak,cr,or_false,not_or] at hm;rw[K3.2 n (by rw[L2];exact hn) (by simpa using hm.1)];exact K2.2 n hn (by simp[hm.2.1,hm.2.2])
end
noncomputable def aZ:D->List Key
 |.tup [_,.tup [.int a,.int b],_]=>[.inl a,.inl b]
 |_=>[]
noncomputable def Mg (y:Str):D->Bool
 |.tup [.str x,_,_]=>decide (x=y)
 |_=>false
noncomputable def Hd.ents (hd:Hd):List D:=hd.entries.getD []
noncomputable def Hd.marksK (hd:Hd) (y:Str):List (List Key):=(hd.ents.filter (Mg y)).map aZ
theorem tN:∀ {out:List D},(∀ d∈out,fE d)->marksIn (.str y) out=((out.filter (Mg y)).map aZ).map bH
 |[],_=>rfl
 |d::r,h=>by
  have ih:=tN (y:=y) (out:=r) fun d hd=>h d (ai _ hd);obtain⟨x,a,b,v,rfl⟩:=h d aq;unfold marksIn at ih ⊢;have e0:(eqD 8 (.str x) (.str y)==xw true)=decide (x=y):=by rw[iK];cases decide (x=y) <;> rfl
  by_cases hx:x=y
  ·rw[df (by show(eqD 8 (.str x) (.str y)==xw true)=true;rw[e0];exact decide_eq_true hx),df (by show decide (x=y)=true;exact decide_eq_true hx)];rw[bg,bg,bg,ih];rfl
  ·rw[de (by show ¬(eqD 8 (.str x) (.str y)==xw true)=true;rw[e0];simpa using hx),de (by show ¬ decide (x=y)=true;simpa using hx)];exact ih
section
variable {ω ω1 ω2:Om}{h k t e:Nat}{i c:Nat}{hd hd1 hd2:Hd}{rs fp:List Nat}
theorem Hd.Ok.ents (W:hd.Ok c):hd.entries=xw hd.ents/\hd.ents.Perm (hd.table.map (·.2)):=by
 obtain⟨out,e1,e2⟩:=W.sorts
 have:hd.ents=out:=by unfold Hd.ents;rw[e1];rfl
 rw[this];exact⟨e1,e2⟩
theorem Hd.Ok.entsEnt (W:hd.Ok c):∀ d∈hd.ents,fE d:=fun d hd'=>W.ent d (W.ents.2.mem_iff.mp hd')
theorem Hd.Ok.keys (W:hd.Ok c):(hd.table.map (·.2)).map aZ=hd.table.map (·.1):=by
 rw[fm];apply fg;intro kv hkv;obtain⟨a,b,_,_,e1,x,v,e2⟩:=W.tk kv hkv;show aZ kv.2=kv.1;rw[e2,e1];rfl
theorem Hd.Ok.entsKeys (W:hd.Ok c):(hd.ents.map aZ).Perm (hd.table.map (·.1)):=by
 rw[<- W.keys];exact W.ents.2.map aZ
theorem Hd.Ok.entsNodup (W:hd.Ok c):(hd.ents.map aZ).Nodup:=W.entsKeys.nodup_iff.mpr W.tn
theorem Hd.Ok.entsLen (W:hd.Ok c):hd.ents.length<64:=by rw[W.ents.2.length_eq,ao];exact W.tl
theorem Hd.Ok.marksNodup (W:hd.Ok c) (y:Str):(hd.marksK y).Nodup:=W.entsNodup.sublist (ky.map aZ)
theorem Hd.Ok.marksIn (W:hd.Ok c) (y:Str):∀ q∈hd.marksK y,q∈hd.table.map (·.1):=fun q hq=>W.entsKeys.mem_iff.mp ((ky.map aZ).subset hq)
theorem Hd.Ok.seenMem (W:hd.Ok c) (hi:i<c):hd.seen i∈hd.knows:=by
 unfold Hd.seen
 have:i<hd.knows.length:=by rw[W.len];exact hi
 rw[ay,bh this];exact jc this
theorem Hd.Ok.seenLen (W:hd.Ok c) (hi:i<c):(hd.seen i).length=c:=W.row _ (W.seenMem hi)
theorem eD (h:n<64):n<sizeLine:=by rw[bt];omega
def HandS (ω:Om) (h i:Nat) (hd:Hd) (fp:List Nat):Prop:=∃ k t e rs,HandAt ω h i hd k t e rs/\fp=h::k::t::e::rs
def Did (ω:Om) (h i:Nat) (fp:List Nat) (ω':Om) (hd':Hd):Prop:=∃ fp',HandS ω' h i hd' fp'/\Keep fp ω ω'/\∀ n∈fp',n∈fp∨ω.length<=n
theorem HandS.obj (H:HandS ω h i hd fp):∃ k t e,ω[h]?=xw (.ins 0 [("number",.int i),("knows",.obj k),("table",.obj t),("kept",.obj e)]):=by
 obtain⟨k,t,e,rs,H,_⟩:=H;exact⟨k,t,e,H.obj⟩
theorem HandS.lt (H:HandS ω h i hd fp):∀ n∈fp,n<ω.length:=by
 obtain⟨k,t,e,rs,H,rfl⟩:=H;exact H.lt
theorem HandS.mono (H:HandS ω h i hd fp) (g:∀ n∈fp,ω'[n]?=ω[n]?):HandS ω' h i hd fp:=by
 obtain⟨k,t,e,rs,H,rfl⟩:=H;exact⟨k,t,e,rs,H.mono g,rfl⟩
theorem Did.refl (H:HandS ω h i hd fp):Did ω h i fp ω hd:=⟨fp,H,Keep.refl _ _,fun n hn=>.inl hn⟩
theorem Did.trans (a:Did ω h i fp ω1 hd1) (b:∀ fp1,HandS ω1 h i hd1 fp1->Did ω1 h i fp1 ω2 hd2):Did ω h i fp ω2 hd2:=by
 obtain⟨fp1,H1,K1,F1⟩:=a;obtain⟨fp2,H2,K2,F2⟩:=b fp1 H1;refine⟨fp2,H2,⟨ci K1.1 K2.1,fun n hn hf=> ?_⟩,fun n hn=> ?_⟩
 ·rw[K2.2 n (b9 hn K1.1) fun z=>(F1 n z).elim hf fun q=>absurd hn (um.mpr q)];exact K1.2 n hn hf
 ·rcases F2 n hn with z|z
  ·exact F1 n z
  ·exact .inr (ci K1.1 z)
theorem Keep.sub (a:Keep fp ω ω') (h:∀ n∈fp,n∈fq):Keep fq ω ω':=⟨a.1,fun n hn hf=>a.2 n hn fun z=>hf (h n z)⟩
theorem RY (H:HandS ω h i hd fp) (W:hd.Ok c) (hi:i<c) (x:Str) (v:Int):∃ ω',eL [.obj h,.str x,.int v] ω=xw (.ok (mkD i (hd.next i)),ω')/\Did ω h i fp ω' (hd.put i x v):=by
 obtain⟨k,t,e,rs,H,rfl⟩:=H;obtain⟨ω',e1,H',K,L⟩:=NH H (by rw[W.len];exact hi) (by rw[W.seenLen hi];exact hi) (eD W.tl) x v;exact⟨ω',e1,_,⟨k,t,e,rs,H',rfl⟩,K.sub (fun n hn=>by simp only[ak] at hn ⊢;rcases hn with z|z <;> simp[z]),fun n hn=>.inl hn⟩
theorem Fh (H:HandS ω h i hd fp) (W:hd.Ok c) (hi:i<c):∃ ω',cY [.obj h] ω=xw (.ok (mkD i (hd.next i)),ω')/\Did ω h i fp ω' (hd.bump i):=by
 obtain⟨k,t,e,rs,H,rfl⟩:=H;obtain⟨ω',e1,H',K,L⟩:=pR H (by rw[W.len];exact hi) (by rw[W.seenLen hi];exact hi);exact⟨ω',e1,_,⟨k,t,e,rs,H',rfl⟩,K.sub (fun n hn=>by simp[hn]),fun n hn=>.inl hn⟩
theorem JX (H:HandS ω h i hd fp) (W:hd.Ok c) (y:Str):cZ [.obj h,.str y] ω=xw (.ok (.lst ((hd.marksK y).map bH)),ω):=by
 obtain⟨k,t,e,rs,H,rfl⟩:=H;rw[Ij H W.ents.1 W.entsEnt (io (eD W.entsLen)) y,tN W.entsEnt];rfl
theorem oC {mk:List Key}{ks:List (List Key)} (H:HandS ω h i hd fp) (hk:ks.Nodup) (hin:∀ q∈ks,q∈hd.table.map (·.1)) (hl:hd.kept.length<64) (W:(hd.takeOut0 mk ks).Ok c):∃ ω',cX [.obj h,bH mk,.lst (ks.map bH)] ω=xw (.ok .non,ω')/\Did ω h i fp ω' (hd.takeOut mk ks):=by
 obtain⟨k,t,e,rs,H,rfl⟩:=H;obtain⟨ω',e',e1,H',K,L⟩:=Ac H hk hin (eD hl) W;refine⟨ω',e1,_,⟨k,t,e',rs,H',rfl⟩,K.sub (fun n hn=>by simp only[ak,cr,or_false] at hn ⊢;rcases hn with z|z|z <;> simp[z]),fun n hn=> ?_⟩;simp only[ak] at hn ⊢;rcases hn with z|z|z|z|z
 ·exact .inl (.inl z)
 ·exact .inl (.inr (.inl z))
 ·exact .inl (.inr (.inr (.inl z)))
 ·exact .inr (z ▸ L)
 ·exact .inl (.inr (.inr (.inr (.inr z))))
theorem xQ {kvs:List (List Key×D)}{q k:List Key}{v:D} (h:q∈kvs.map (·.1)):q∈(putD kvs k v).map (·.1):=by
 unfold putD;split
 ·obtain⟨p,h1,h2⟩:=ax.mp h;refine ax.mpr ⟨if p.1=k then(p.1,v) else p,ax.mpr ⟨p,h1,rfl⟩,?_⟩;split <;> exact h2
 ·rw[cf];exact db _ h
noncomputable def Hd.change (hd:Hd) (i:Nat) (x:Str) (v:Int):Hd:=(hd.put i x v).takeOut (gA i (hd.next i)) (hd.marksK x)
theorem MR (H:HandS ω h i hd fp) (W:hd.Ok c) (hi:i<c) (x:Str) (v:Int) (W2:((hd.put i x v).takeOut0 (gA i (hd.next i)) (hd.marksK x)).Ok c):∃ ω',dW [.obj h,.str x,.int v] ω=xw (.ok (mkD i (hd.next i)),ω')/\Did ω h i fp ω' (hd.change i x v):=by
 obtain⟨ω1,e1,D1⟩:=RY H W hi x v;obtain⟨fp1,H1,K1,F1⟩:=id D1;obtain⟨ω2,e2,D2⟩:=oC (mk:=gA i (hd.next i)) (ks:=hd.marksK x) H1 (W.marksNodup x) (fun q hq=>xQ (W.marksIn x q hq)) W.kl W2;refine⟨ω2,?_,D1.trans fun fq Hq=> ?_⟩
 ·obtain⟨k0,t0,e0,ho⟩:=H.obj;obtain⟨k1,t1,e1',ho1⟩:=H1.obj;refine aT rfl ?_;unfold mE;rw[aK (bY (aB rfl) ho rfl (aA (aB rfl) aD) (JX H W x))];rw[aK (bY (aB (d:=.obj h) rfl) ho rfl (aA (aB (d:=.str x) rfl) (aA (aB (d:=.int v) rfl) aD)) e1)];rw[bA (ρ1:=[xw (.obj h),xw (.str x),xw (.int v),xw (.lst ((hd.marksK x).map bH)),xw (mkD i (hd.next i))]) (ω1:=ω2) (by
   unfold bT;rw[bV (bY (aB (d:=.obj h) rfl) ho1 rfl (aA (aB (d:=bH (gA i (hd.next i))) rfl) (aA (aB (d:=.lst ((hd.marksK x).map bH)) rfl) aD)) e2)];rfl)]
  exact bD (aB rfl)
 ·obtain⟨ωq,eq,Dq⟩:=oC (mk:=gA i (hd.next i)) (ks:=hd.marksK x) Hq (W.marksNodup x) (fun q hq=>xQ (W.marksIn x q hq)) W.kl W2;rw[e2] at eq;cases eq;exact Dq
noncomputable def Hd.take (hd:Hd) (i:Nat) (x:Str):Hd:=if hd.marksK x=[] then hd else(hd.bump i).takeOut (gA i (hd.next i)) (hd.marksK x)
noncomputable def Hd.takeA (hd:Hd) (x:Str):D:=if hd.marksK x=[] then .non else .lst ((hd.marksK x).map bH)
theorem Qs (H:HandS ω h i hd fp) (W:hd.Ok c) (hi:i<c) (x:Str) (W2:((hd.bump i).takeOut0 (gA i (hd.next i)) (hd.marksK x)).Ok c):∃ ω',fP [.obj h,.str x] ω=xw (.ok (hd.takeA x),ω')/\Did ω h i fp ω' (hd.take i x):=by
 obtain⟨k0,t0,e0,ho⟩:=H.obj;unfold Hd.take Hd.takeA;have m1:=JX H W x;cases hm:hd.marksK x with
 |nil=>
  rw[if_pos rfl,if_pos rfl];refine⟨ω,?_,Did.refl H⟩;refine aT rfl ?_;unfold lB;rw[hm] at m1;rw[aK (bY (aB rfl) ho rfl (aA (aB rfl) aD) m1)];rfl
 |cons q r=>
  rw[if_neg (by simp),if_neg (by simp)];rw[hm] at m1 W2;obtain⟨ω1,e1,D1⟩:=Fh H W hi;obtain⟨fp1,H1,K1,F1⟩:=id D1;have nd:=W.marksNodup x;have mi:=W.marksIn x;rw[hm] at nd mi;obtain⟨ω2,e2,D2⟩:=oC (mk:=gA i (hd.next i)) (ks:=q::r) H1 nd mi W.kl W2;refine⟨ω2,?_,D1.trans fun fq Hq=> ?_⟩
  ·obtain⟨k1,t1,e1',ho1⟩:=H1.obj;refine aT rfl ?_;unfold lB;rw[aK (bY (aB rfl) ho rfl (aA (aB rfl) aD) m1)];rw[bA (ρ1:=[xw (.obj h),xw (.str x),xw (.lst ((q::r).map bH))]) (ω1:=ω) rfl];rw[bA (ρ1:=[xw (.obj h),xw (.str x),xw (.lst ((q::r).map bH))]) (ω1:=ω2) (by
    unfold bT;rw[bV (bY (aB (d:=.obj h) rfl) ho rfl (aA (a:=bH (gA i (hd.next i))) (cH (aB rfl) ho rfl e1) (aA (aB (d:=.lst ((q::r).map bH)) rfl) aD)) e2)])]
   exact bD (aB rfl)
  ·obtain⟨ωq,eq,Dq⟩:=oC (mk:=gA i (hd.next i)) (ks:=q::r) Hq nd mi W.kl W2;rw[e2] at eq;cases eq;exact Dq
end
theorem cG (er:ω[r]?=xw (.ml (iv xs))):RowV ω (.obj r) xs:=by unfold RowV fG;simp only[er]
theorem dH {ω:Om} (h:ω[n]?=xw o):n<ω.length:=(br.mp h).1
theorem RowsAt.app (h:RowsAt ω rs kn) (obs:List Ob):RowsAt (ω++obs) rs kn:=by
 induction h with
 |nil=>exact .nil
 |cons hr _ ih=>exact .cons ((am (dH hr)).trans hr) ih
theorem RowsAt.setAt (h:RowsAt ω rs kn) (hr:ω[r]?=xw (.ml (iv xs))):RowsAt ω (rs.set j r) (kn.set j xs):=by
 induction h generalizing j with
 |nil=>exact .nil
 |cons h0 t ih=>
  cases j with
  |zero=>exact .cons hr t
  |succ j=>exact .cons h0 ih
theorem Ff {l:List Nat} (h:l.Nodup) (ha:a∉l) (j:Nat):(l.set j a).Nodup:=by
 induction l generalizing j with
 |nil=>exact h
 |cons x r ih=>
  rw[b8] at h;simp only[ak,not_or] at ha;cases j with
  |zero=>rw[vo,b8];exact⟨ha.2,h.2⟩
  |succ j=>
   rw[vp,b8];refine⟨fun z=> ?_,ih h.2 ha.2 j⟩;rcases jd z with z|z
   ·exact h.1 z
   ·exact ha.1 z.symm
noncomputable def Hd.leaves (tl:Hd) (j:Nat) (d:D):Bool:=(iR tl.table (aZ d)).isSome|| !eX (tl.seen j) (aZ d)
def Sf (c:Nat) (d:D):Prop:=∃(x:Str) (a b:Int) (v:Int),d=.tup [.str x,.tup [.int a,.int b],.int v]/\0<=a/\a<c
section
variable {ω:Om}{h k t e h2 k2 t2 e2:Nat}{i j c:Nat}{hd tl:Hd}{rs rs2 fp:List Nat}
theorem tQ (G:HandAt ω h2 j tl k2 t2 e2 rs2) (V:tl.Ok c) (hj:j<c) (ho:∀ d∈out,Sf c d) (hl:out.length<=sizeLine):lR [.lst out,.obj h2] ω=xw (.ok (.lst (out.filter (tl.leaves j))),ω):=by
 obtain⟨r,hr,er⟩:=G.seenRow (by rw[V.len];exact hj);refine aT rfl (bD (eM (ds:=out) (chk:=bO) (ω1:=ω) ?_ hl ?_))
 ·unfold oIL;rw[bF (aB (d:=.lst out) rfl)];rfl
 ·have e0:out.filter (tl.leaves j)=(out.filter (tl.leaves j)).map fun d=>d:=by simp
  rw[e0];refine eP (fun ρ=>∃ u,ρ=[u,xw (.obj h2)]) rfl ⟨_,rfl⟩ fun d hd ρ hρ=> ?_;obtain⟨x,a,b,v,rfl,ha0,ha1⟩:=ho d hd;obtain⟨u,rfl⟩:=hρ;refine⟨_,rfl,⟨_,rfl⟩,?_,fun _=>aB rfl⟩;have d1:bS (o2 (fun ω a b=>pu (Ng ω a b) ω) (zX (zV 0) (zI 1)) (gB 0 "table" (zV 1))) [xw (.tup [.str x,.tup [.int a,.int b],.int v]),xw (.obj h2)] ω=xw (.ok (iR tl.table [.inl a,.inl b]).isSome,ω):=
   bR (dO (aJ (aB (d:=.tup [.str x,.tup [.int a,.int b],.int v]) rfl) aU rfl) (G.table (aB rfl)) (by
    show pu (Ng ω (.tup [.int a,.int b]) (.obj t2)) ω=_
    have:Ng ω (.tup [.int a,.int b]) (.obj t2)=xw (.bl (iR tl.table [.inl a,.inl b]).isSome):=by
     simp only[Ng,Ed,cellOf,G.tb];rfl
    rw[this];rfl))
  have lv:tl.leaves j (.tup [.str x,.tup [.int a,.int b],.int v])=((iR tl.table [.inl a,.inl b]).isSome|| !decide (b<=(tl.seen j).getD a.toNat 0)):=rfl;rw[lv];show oOr _ _ _ _=_;unfold oOr;show oB _ _ [xw (.tup [.str x,.tup [.int a,.int b],.int v]),xw (.obj h2)] ω=_;rw[bF d1];cases hv:(iR tl.table [.inl a,.inl b]).isSome with
  |true=>rfl
  |false=>
   have s1:=pZ (ω:=ω) (d:=.obj r) (xs:=tl.seen j) (cG er) (a:=a) (b:=b) ha0 (by rw[V.seenLen hj];exact ha1);show iS _ _ _=_;unfold iS;rw[bF (x:=decide (b<=(tl.seen j).getD a.toNat 0)) (ω1:=ω) (by
    unfold gO;rw[bF (aR (aA (cH (aB rfl) G.obj rfl (kU G hr)) (aA (aJ (aB (d:=.tup [.str x,.tup [.int a,.int b],.int v]) rfl) aU rfl) aD)) s1)];rfl)]
   rfl
noncomputable def Qg (xs ys:List Int):Int:=(bq (fun x y=>mx (y-x) 0) xs ys).sum
noncomputable def pC (out:List D) (T:List (List Key×D)):List (List Key×D):=out.foldl (fun T d=>putD T (aZ d) d) T
theorem Hw (kvs:List (List Key×D)) (k:List Key) (v:D):(putD kvs k v).length<=kvs.length+1:=by
 unfold putD;split
 ·simp
 ·simp
theorem yJ {h h2 n0 n1:Nat}:∀ {out:List D}{T:List (List Key×D)}{v:Option D}{ω:Om},(∀ d∈out,fE d)->ω[n1]?=xw (.dt T)->T.length+out.length<sizeLine->
  ∃ v',bP (aW 5) bO eT out [xw (.obj h),xw (.obj h2),xw m,xw (.obj n0),xw (.obj n1),v] ω=xw (.nx [xw (.obj h),xw (.obj h2),xw m,xw (.obj n0),xw (.obj n1),v'],ω.set n1 (.dt (pC out T)))
 |[],T,v,ω,_,ht,_=>⟨v,by
   show xw (OOut.nx _,ω)=_;rw[show pC [] T=T from rfl,gZ ht]⟩
 |d::out,T,v,ω,he,ht,hl=>by
  rw[b7] at hl;have hd:=he d aq;obtain⟨x,a,b,w,rfl⟩:=hd;have b1:eT [xw (.obj h),xw (.obj h2),xw m,xw (.obj n0),xw (.obj n1),xw (.tup [.str x,.tup [.int a,.int b],.int w])] ω=xw (.nx [xw (.obj h),xw (.obj h2),xw m,xw (.obj n0),xw (.obj n1),xw (.tup [.str x,.tup [.int a,.int b],.int w])],ω.set n1 (.dt (putD T [.inl a,.inl b] (.tup [.str x,.tup [.int a,.int b],.int w])))):=by
   unfold eT;exact eE (aB rfl) (aB (d:=.obj n1) rfl) (aJ (aB (d:=.tup [.str x,.tup [.int a,.int b],.int w]) rfl) aU rfl) (qK (ks:=[.inl a,.inl b]) ht rfl (by omega))
  have hp:=Hw T [.inl a,.inl b] (.tup [.str x,.tup [.int a,.int b],.int w]);obtain⟨v',g1⟩:=yJ (h:=h) (h2:=h2) (n0:=n0) (n1:=n1) (m:=m) (out:=out) (T:=putD T [.inl a,.inl b] (.tup [.str x,.tup [.int a,.int b],.int w])) (v:=xw (.tup [.str x,.tup [.int a,.int b],.int w])) (ω:=ω.set n1 (.dt (putD T [.inl a,.inl b] (.tup [.str x,.tup [.int a,.int b],.int w])))) (fun d hd=>he d (ai _ hd)) (cB ht) (by omega);refine⟨v',?_⟩;rw[pp] at g1;refine(dD rfl rfl (b1)).trans ?_;exact g1
theorem Cc:∀ {rs1 rs2:List Nat}{kn1 kn2:List (List Int)}{ω:Om}{ρ:Rho},ρ.length=2->RowsAt ω rs1 kn1->RowsAt ω rs2 kn2->(∀ xs∈kn1,xs.length<=sizeLine)->(∀ obs,chk (ω++obs)=true)->
  compLO (qY 0 1) chk (oPT jV) (bM iD (aC (zV 0) (aC (zV 1) aM))) (zW (rs1.map D.obj) (rs2.map D.obj)) ρ ω=xw ((c5 ω.length (bq (bq mx) kn1 kn2).length).map D.obj,ω++(bq (bq mx) kn1 kn2).map fun xs=>Ob.ml (iv xs))
 |_,rs2,_,kn2,ω,ρ,hρ,.nil,_,_,hc=>by
  show(if chk ω=true then xw ([],ω) else xx)=_
  rw[if_pos (by have:=hc [];rwa [c6] at this)];simp
 |_,_,_,_,ω,ρ,hρ,.cons _ _,.nil,_,hc=>by
  show(if chk ω=true then xw ([],ω) else xx)=_
  rw[if_pos (by have:=hc [];rwa [c6] at this)];simp
 |_,_,_,_,ω,ρ,hρ,@Paired.cons _ _ _ r1 x1 rs1 kn1 a1 t1,@Paired.cons _ _ _ r2 x2 rs2 kn2 a2 t2,hl,hc=>by
  match ρ,hρ with
  |[u,v],_=>
   have j1:=yE (ω:=ω) (cG a1) (cG a2) (hl x1 aq);have ih:=Cc (chk:=chk) (ω:=ω++[.ml (iv (bq mx x1 x2))]) (ρ:=[xw (.obj r1),xw (.obj r2)]) rfl (RowsAt.app t1 _) (RowsAt.app t2 _) (fun xs hx=>hl xs (ai _ hx)) (fun obs=>by rw[gu];exact hc _)
   show(if chk ω=true then(match bM iD (aC (zV 0) (aC (zV 1) aM)) [xw (.obj r1),xw (.obj r2)] ω with
    |some (.ok y,ω2)=>(compLO (qY 0 1) chk (oPT jV) (bM iD (aC (zV 0) (aC (zV 1) aM))) (zW (rs1.map D.obj) (rs2.map D.obj)) [xw (.obj r1),xw (.obj r2)] ω2).map fun r=>(y::r.1,r.2)
    |_=>xx) else xx)=_
   rw[if_pos (by have:=hc [];rwa [c6] at this),aR (aA (aB (d:=.obj r1) rfl) (aA (aB (d:=.obj r2) rfl) aD)) j1]
   show(compLO _ _ _ _ _ _ _).map _=_
   rw[ih];rw[jn,b7,kq,bg,bg,bw];show xw (_,_)=_;rw[gu];rfl
theorem mX:∀(kn:List (List Int)) (pre post:Om),RowsAt (pre++(kn.map fun xs=>Ob.ml (iv xs))++post) (c5 pre.length kn.length) kn
 |[],_,_=>.nil
 |x::r,pre,post=>by
  rw[b7,kq];refine .cons (by simp) ?_
  have:=mX r (pre++[.ml (iv x)]) post
  unfold RowsAt at this;simpa using this
theorem kT (e1:fv ρ ω=xw (.ok v,ω1)) (e2:fo ρ ω1=xw (.ok (.obj n),ω2)) (e3:ω2[n]?=xw (.ins c fs)) (hl:fs.length<1000):nO c x fo fv ρ ω=xw (.nx ρ,ω2.set n (.ins c (lP x v fs))):=by
 unfold nO;rw[bV e1,bV e2]
 have:vQ c x ω2 (.obj n) v=xw (ω2.set n (.ins c (lP x v fs))):=by
  simp only[vQ,e3];rw[if_pos ⟨trivial,hl⟩]
 show(vQ c x ω2 (.obj n) v).map _=_
 rw[this];rfl
noncomputable def Hd.hearT (hd:Hd) (i:Nat) (tl:Hd) (j:Nat):List D:=hd.ents.filter (tl.leaves j)++tl.ents.filter (hd.leaves i)
noncomputable def Hd.hear0 (hd:Hd) (i:Nat) (tl:Hd) (j:Nat):Hd:=⟨(bq (bq mx) hd.knows tl.knows).set i (bq mx (hd.seen i) (tl.seen j)),pC (hd.hearT i tl j) [],jJ hd.kept tl.kept⟩
noncomputable def Hd.hear (hd:Hd) (i:Nat) (tl:Hd) (j:Nat):Hd:=(hd.hear0 i tl j).forget
theorem Hd.Ok.entC (W:hd.Ok c):∀ d∈hd.ents,Sf c d:=fun d hd'=>by
 obtain⟨kv,h1,rfl⟩:=ax.mp (W.ents.2.mem_iff.mp hd');obtain⟨a,b,ha0,ha1,_,x,v,e⟩:=W.tk kv h1;exact⟨x,a,b,v,e,ha0,ha1⟩
theorem Mm (H:HandAt ω h i hd k t e rs) (G:HandAt ω h2 j tl k2 t2 e2 rs2) (hij:∀ n∈h::k::t::e::rs,n∉h2::k2::t2::e2::rs2) (W:hd.Ok c) (V:tl.Ok c) (hi:i<c) (hj:j<c) (hh:fB (tl.kept.map (·.1))=true) (W2:(hd.hear0 i tl j).Ok c):
  ∃ ω' k' t' e' rs',cL [.obj h,.obj h2] ω=xw (.ok (.int (Qg (hd.seen i) (tl.seen j))),ω')/\HandAt ω' h i (hd.hear i tl j) k' t' e' rs'/\Keep [h,e] ω ω'/\∀ n∈k'::t'::e'::rs',ω.length<=n:=by
 obtain⟨r,hr,er⟩:=H.seenRow (by rw[W.len];exact hi);obtain⟨r2,hr2,er2⟩:=G.seenRow (by rw[V.len];exact hj);obtain⟨⟨h1,h2',h3,h4⟩,⟨h5,h6,h7⟩,⟨h8,h9⟩,h10,h11⟩:=H.ne;have ltH:=H.lt;have ltG:=G.lt;have c8:∀ {n:Nat},n=c->n<=sizeLine:=fun z=>by rw[z,bt];have:=W.small;omega
 have hs1:(hd.seen i).length<=sizeLine:=c8 (W.seenLen hi);have hh2:h2≠h:=fun z=>hij h (by simp) (by simp[z]);have he2:e2≠e:=fun z=>hij e (by simp) (by simp[z]);have hk2h:k2≠h:=fun z=>hij h (by simp) (by simp[z]);have he2h:e2≠h:=fun z=>hij h (by simp) (by simp[z]);have hrs2h:∀ r∈rs2,r≠h:=fun r hr z=>hij h (by simp) (by rw[<- z];simp[hr])
 -- the stages of the store
 obtain⟨s,hs⟩:∃ s,s=bq mx (hd.seen i) (tl.seen j):=⟨_,rfl⟩;obtain⟨ωa,hωa⟩:∃ ωa,ωa=ω++[Ob.ml (iv s)]:=⟨_,rfl⟩;obtain⟨ωb,hωb⟩:∃ ωb,ωb=ωa++[Ob.dt []]:=⟨_,rfl⟩;have la:ωa.length=ω.length+1:=by rw[hωa];simp
 have lb:ωb.length=ω.length+2:=by rw[hωb];simp[la]
 have gb:∀ n,n<ω.length->ωb[n]?=ω[n]?:=fun n hn=>by rw[hωb,am (by omega),hωa,am hn]
 have Hb:HandAt ωb h i hd k t e rs:=H.mono fun n hn=>gb n (ltH n hn);have Gb:HandAt ωb h2 j tl k2 t2 e2 rs2:=G.mono fun n hn=>gb n (ltG n hn);have nb:ωb[ωa.length]?=xw (.dt []):=by rw[hωb];simp
 have sb:ωb[ω.length]?=xw (.ml (iv s)):=by rw[hωb,am (by omega),hωa];simp
 -- the table
 have l1:(hd.ents.filter (tl.leaves j)).length<64:=nh (fe ..) W.entsLen;have l2:(tl.ents.filter (hd.leaves i)).length<64:=nh (fe ..) V.entsLen;have lT:(hd.hearT i tl j).length<128:=by unfold Hd.hearT;rw[bw];omega
 have entT:∀ d∈hd.hearT i tl j,fE d:=fun d hd'=>by
  rcases cu.mp hd' with z|z
  ·exact W.entsEnt d (b0.mp z).1
  ·exact V.entsEnt d (b0.mp z).1
 obtain⟨v',loop⟩:=yJ (h:=h) (h2:=h2) (n0:=ω.length) (n1:=ωa.length) (m:=.int (Qg (hd.seen i) (tl.seen j))) (out:=hd.hearT i tl j) (T:=[]) (v:=xx) (ω:=ωb) entT nb (by rw[bt];simp;omega);obtain⟨T,hT⟩:∃ T,T=pC (hd.hearT i tl j) []:=⟨_,rfl⟩;rw[<- hT] at loop;obtain⟨ωc,hωc⟩:∃ ωc,ωc=ωb.set ωa.length (.dt T):=⟨_,rfl⟩;rw[<- hωc] at loop;have lc:ωc.length=ω.length+2:=by rw[hωc];simp[lb]
 have gc:∀ n,n<ω.length->ωc[n]?=ω[n]?:=fun n hn=>by rw[hωc,aI (by omega)];exact gb n hn
 have tc:ωc[ωa.length]?=xw (.dt T):=by rw[hωc];exact cB nb
 have sc:ωc[ω.length]?=xw (.ml (iv s)):=by rw[hωc,aI (by omega)];exact sb
 have oc:ωc[h]?=xw (.ins 0 [("number",.int i),("knows",.obj k),("table",.obj t),("kept",.obj e)]):=by rw[gc h (ltH h (by simp))];exact H.obj
 -- table set
 obtain⟨ωd,hωd⟩:∃ ωd,ωd=ωc.set h (.ins 0 [("number",.int i),("knows",.obj k),("table",.obj ωa.length),("kept",.obj e)]):=⟨_,rfl⟩;have ld:ωd.length=ω.length+2:=by rw[hωd];simp[lc]
 have hlt:=ltH h (by simp);have gd:∀ n,n<ω.length->n≠h->ωd[n]?=ω[n]?:=fun n hn hne=>by rw[hωd,aI hne];exact gc n hn
 have od:ωd[h]?=xw (.ins 0 [("number",.int i),("knows",.obj k),("table",.obj ωa.length),("kept",.obj e)]):=by rw[hωd];exact cB oc
 have td:ωd[ωa.length]?=xw (.dt T):=by rw[hωd,aI (by omega)];exact tc
 have sd:ωd[ω.length]?=xw (.ml (iv s)):=by rw[hωd,aI (by omega)];exact sc
 have kd:ωd[k]?=xw (.ml (rs.map D.obj)):=by rw[gd k (ltH k (by simp)) (bx h1)];exact H.kn
 have kd2:ωd[k2]?=xw (.ml (rs2.map D.obj)):=by rw[gd k2 (ltG k2 (by simp)) hk2h];exact G.kn
 have od2:ωd[h2]?=_:=(gd h2 (ltG h2 (by simp)) hh2).trans G.obj;have rd:RowsAt ωd rs hd.knows:=H.rows.mono fun r hr=>gd r (ltH r (by simp[hr])) fun z=>h4 (z ▸ hr);have rd2:RowsAt ωd rs2 tl.knows:=G.rows.mono fun r hr=>gd r (ltG r (by simp[hr])) (hrs2h r hr)
 -- rows joined
 obtain⟨kn,hkn⟩:∃ kn,kn=bq (bq mx) hd.knows tl.knows:=⟨_,rfl⟩;have lkn:kn.length=c:=by rw[hkn,fh,W.len,V.len,jr]
 have joins:=Cc (chk:=fun ω=>iZ k (rs.map D.obj) ω&&iZ k2 (rs2.map D.obj) ω) (ω:=ωd) (ρ:=[xx,xx]) rfl rd rd2 (fun xs hx=>c8 (W.row xs hx)) (fun obs=>by
  rw[bu];constructor
  ·unfold iZ;rw[am (dH kd),kd];exact sameDs_refl _
  ·unfold iZ;rw[am (dH kd2),kd2];exact sameDs_refl _)
 rw[<- hkn] at joins;obtain⟨ωe,hωe⟩:∃ ωe,ωe=ωd++kn.map fun xs=>Ob.ml (iv xs):=⟨_,rfl⟩;rw[<- hωe] at joins;have le:ωe.length=ω.length+2+c:=by rw[hωe];simp[ld,lkn]
 obtain⟨ωf,hωf⟩:∃ ωf,ωf=ωe++[Ob.ml ((c5 ωd.length kn.length).map D.obj)]:=⟨_,rfl⟩;have lf:ωf.length=ω.length+3+c:=by rw[hωf];simp[le];omega
 have gf:∀ n,n<ω.length+2->ωf[n]?=ωd[n]?:=fun n hn=>by rw[hωf,am (by omega),hωe,am (by omega)]
 have kf:ωf[ωe.length]?=xw (.ml ((c5 ωd.length kn.length).map D.obj)):=by rw[hωf];simp
 have rf:RowsAt ωf (c5 ωd.length kn.length) kn:=by rw[hωf,hωe];exact mX kn ωd _
 have of:ωf[h]?=xw (.ins 0 [("number",.int i),("knows",.obj k),("table",.obj ωa.length),("kept",.obj e)]):=by rw[gf h (by omega)];exact od
 obtain⟨ωg,hωg⟩:∃ ωg,ωg=ωf.set h (.ins 0 [("number",.int i),("knows",.obj ωe.length),("table",.obj ωa.length),("kept",.obj e)]):=⟨_,rfl⟩;have og:ωg[h]?=xw (.ins 0 [("number",.int i),("knows",.obj ωe.length),("table",.obj ωa.length),("kept",.obj e)]):=by rw[hωg];exact cB of
 have kg:ωg[ωe.length]?=xw (.ml ((c5 ωd.length kn.length).map D.obj)):=by rw[hωg,aI (by omega)];exact kf
 obtain⟨rs',hrs'⟩:∃ rs',rs'=(c5 ωd.length kn.length).set i ω.length:=⟨_,rfl⟩;have hset:((c5 ωd.length kn.length).map D.obj).set i (.obj ω.length)=rs'.map D.obj:=by rw[hrs',rp]
 obtain⟨ωh,hωh⟩:∃ ωh,ωh=ωg.set ωe.length (.ml (rs'.map D.obj)):=⟨_,rfl⟩;have elt:=ltH e (by simp);have oh:ωh[h]?=xw (.ins 0 [("number",.int i),("knows",.obj ωe.length),("table",.obj ωa.length),("kept",.obj e)]):=by rw[hωh,aI (by omega)];exact og
 have gh:∀ n,n<ω.length+2->n≠h->ωh[n]?=ωd[n]?:=fun n hn hne=>by rw[hωh,aI (by omega),hωg,aI hne];exact gf n hn
 have eh:ωh[e]?=xw (.dt hd.kept):=by rw[gh e (by omega) (bx h3),gd e elt (bx h3)];exact H.kp
 have eh2:ωh[e2]?=xw (.dt tl.kept):=by rw[gh e2 (by have:=ltG e2 (by simp);omega) he2h,gd e2 (ltG e2 (by simp)) he2h];exact G.kp
 have oh2:ωh[h2]?=_:=(gh h2 (by have:=ltG h2 (by simp);omega) hh2).trans od2;obtain⟨ωi,hωi⟩:∃ ωi,ωi=ωh.set e (.dt (jJ hd.kept tl.kept)):=⟨_,rfl⟩;have li:ωi.length=ω.length+3+c:=by rw[hωi,hωh,hωg];simp[lf]
 have gi:∀ n,n<ω.length+2->n≠h->n≠e->ωi[n]?=ωd[n]?:=fun n hn hne hee=>by rw[hωi,aI hee];exact gh n hn hne
 have rin:∀ q∈c5 ωd.length kn.length,ω.length+2<=q/\q<ω.length+2+c:=fun q hq=>by
  rw[om,ld,lkn] at hq;exact hq
 have rsin:∀ q∈rs',ω.length<=q/\q≠ωa.length/\q<ω.length+2+c:=fun q hq=>by
  rw[hrs'] at hq;rcases jd hq with z|z
  ·have:=rin q z;omega
  ·omega
 have HI:HandAt ωi h i (hd.hear0 i tl j) ωe.length ωa.length e rs':=by
  refine⟨?_,?_,?_,?_,?_,?_⟩
  ·rw[hωi,aI h3];exact oh
  ·rw[hωi,aI (by omega),hωh];exact cB kg
  ·show RowsAt ωi rs' ((bq (bq mx) hd.knows tl.knows).set i (bq mx (hd.seen i) (tl.seen j)));rw[<- hkn,<- hs,hrs'];refine RowsAt.setAt (rf.mono fun q hq=> ?_) ?_
   ·have:=rin q hq
    rw[hωi,aI (by omega),hωh,aI (by omega),hωg,aI (by omega)]
   ·rw[gi _ (by omega) (by omega) (by omega)];exact sd
  ·show ωi[ωa.length]?=xw (.dt (pC (hd.hearT i tl j) []));rw[gi _ (by omega) (by omega) (by omega),<- hT];exact td
  ·rw[hωi];exact cB eh
  ·have hnd:rs'.Nodup:=by
    rw[hrs'];exact Ff (wd) (fun z=>by have:=rin _ z;omega) i
   simp only[b8,ak,not_or];refine⟨⟨by omega,by omega,h3,fun z=>by have:=rsin _ z;omega⟩,⟨by omega,by omega,fun z=>by have:=rsin _ z;omega⟩,⟨by omega,fun z=>(rsin _ z).2.1 rfl⟩,fun z=>by have:=rsin _ z;omega,hnd⟩
 obtain⟨ω',f1,HF,KF⟩:=yP HI W2;refine⟨ω',ωe.length,ωa.length,ωi.length,rs',?_,HF,⟨?_,fun n hn hm=> ?_⟩,fun n hn=> ?_⟩
 ·refine aT rfl ?_;unfold qF;rw[aK (aR (aA (cH (aB rfl) H.obj rfl (kU H hr)) (aA (cH (aB rfl) G.obj rfl (kU G hr2)) aD)) (Ig (cG er) (cG er2) hs1))];rw[aK (aR (aA (cH (aB rfl) H.obj rfl (kU H hr)) (aA (cH (aB rfl) G.obj rfl (kU G hr2)) aD)) (yE (cG er) (cG er2) hs1))];rw[<- hs,<- hωa];rw[aK (d:=.obj ωa.length) (ω1:=ωb) (by rw[hωb];rfl)];rw[bA (eY (by
   unfold bI oIL;rw[bV (x:=(hd.hearT i tl j,bO)) (ω1:=ωb) (by
    rw[bF (x:=.lst (hd.hearT i tl j)) (ω1:=ωb) (dO (aR (aA (cH (aB (d:=.obj h) rfl) Hb.obj rfl (kK Hb W.ents.1)) (aA (aB (d:=.obj h2) rfl) aD)) (tQ Gb V hj W.entC (io (eD W.entsLen)))) (aR (aA (cH (aB (d:=.obj h2) rfl) Gb.obj rfl (kK Gb V.ents.1)) (aA (aB (d:=.obj h) rfl) aD)) (tQ Hb W hi V.entC (io (eD V.entsLen)))) (by
     show(if(hd.ents.filter (tl.leaves j)).length+(tl.ents.filter (hd.leaves i)).length<=sizeLine then xw (D.lst (hd.hearT i tl j),ωb) else xx)=_
     rw[if_pos (by rw[bt];omega)]))]
    rfl)]
   exact loop))]
  rw[bA (kT (aB (d:=.obj ωa.length) rfl) (aB (d:=.obj h) rfl) oc (by simp))];rw[show ωc.set h (.ins 0 (lP "table" (.obj ωa.length) [("number",.int i),("knows",.obj k),("table",.obj t),("kept",.obj e)]))=ωd from by rw[hωd];rfl];rw[bA (kT (pQ (ω1:=ωd) (ω2:=ωe) (ds:=zW (rs.map D.obj) (rs2.map D.obj)) (chk:=fun ω=>iZ k (rs.map D.obj) ω&&iZ k2 (rs2.map D.obj) ω) (by
    unfold oIZ;rw[bF (aA (fY (aB (d:=.obj h) rfl) od rfl) (aA (fY (aB (d:=.obj h2) rfl) od2 rfl) aD))];have z1:mG ωd (.obj k)=xw (rs.map D.obj,iZ k (rs.map D.obj)):=by simp only[mG,kd]
    have z2:mG ωd (.obj k2)=xw (rs2.map D.obj,iZ k2 (rs2.map D.obj)):=by simp only[mG,kd2]
    show oR (pu ((mG ωd (.obj k)).bind _) ωd)=_;rw[z1];show oR (pu ((mG ωd (.obj k2)).map _) ωd)=_;rw[z2];rfl) (by
     unfold zW;rw[fh,ao,ao,rd.length,rd2.length,W.len,V.len,jr];exact c8 rfl) joins) (by rw[<- hωf];exact aB (d:=.obj h) rfl) of (by simp))]
  rw[show ωf.set h (.ins 0 (lP "knows" (.obj ωe.length) [("number",.int i),("knows",.obj k),("table",.obj ωa.length),("kept",.obj e)]))=ωg from by rw[hωg];rfl];rw[bA (eE (aB (d:=.obj ω.length) rfl) (fY (aB (d:=.obj h) rfl) og rfl) (fY (aB (d:=.obj h) rfl) og rfl) (kS kg (by rw[ao,List.length_range',lkn];exact hi)))];rw[hset,<- hωh];rw[bA (ω1:=ωi) (by
   unfold bT;rw[bV (BX (r:=.non) (ω3:=ωi) (fY (aB (d:=.obj h) rfl) oh rfl) eh (aA (fY (aB (d:=.obj h2) rfl) oh2 rfl) aD) (by
    simp only[FU,eh,eh2];rw[if_pos ⟨bx he2,by have:=W.kl;have:=V.kl;rw[bt];omega,hh⟩,<- hωi]))])]
  rw[bA (ω1:=ω') (by
   unfold bT;rw[bV (cH (aB (d:=.obj h) rfl) HI.obj rfl f1)])]
  exact bD (aB rfl)
 ·have:=KF.1;omega
 ·simp only[ak,cr,or_false,not_or] at hm;rw[KF.2 n (by omega) (by simpa using hm.1),gi n (by omega) hm.1 hm.2,gd n hn hm.1]
 ·simp only[ak] at hn;rcases hn with z|z|z|z
  ·omega
  ·omega
  ·omega
  ·exact(rsin n z).1
theorem Rp (H:HandS ω h i hd fp) (G:HandS ω h2 j tl fq) (hij:∀ n∈fp,n∉fq) (W:hd.Ok c) (V:tl.Ok c) (hi:i<c) (hj:j<c) (hh:fB (tl.kept.map (·.1))=true) (W2:(hd.hear0 i tl j).Ok c):
  ∃ ω',cL [.obj h,.obj h2] ω=xw (.ok (.int (Qg (hd.seen i) (tl.seen j))),ω')/\Did ω h i fp ω' (hd.hear i tl j):=by
 obtain⟨k,t,e,rs,H,rfl⟩:=H;obtain⟨k2,t2,e2,rs2,G,rfl⟩:=G;obtain⟨ω',k',t',e',rs',e1,H',K,F⟩:=Mm H G hij W V hi hj hh W2;refine⟨ω',e1,_,⟨k',t',e',rs',H',rfl⟩,K.sub (fun n hn=>by simp only[ak,cr,or_false] at hn ⊢;rcases hn with z|z <;> simp[z]),fun n hn=> ?_⟩;rcases ak.mp hn with z|z
 ·exact .inl (by simp[z])
 ·exact .inr (F n z)
end
def KeyIn (c:Nat) (own:Nat->Nat) (k:List Key):Prop:=∃ a b:Nat,a<c/\1<=b/\b<=own a/\k=gA a b
noncomputable def tot (c:Nat) (own:Nat->Nat):Nat:=((bj c).map own).sum
noncomputable def univ (c:Nat) (own:Nat->Nat):List (List Key):=(bj c).flatMap fun a=>(bj (own a)).map fun b=>gA a ((b+1:Nat):Int)
theorem uQ (c:Nat) (own:Nat->Nat):(univ c own).length=tot c own:=by
 unfold univ tot;rw[List.length_flatMap]
 congr 1
 apply fg;intro a _;simp
theorem KeyIn.univ (h:KeyIn c own k):k∈univ c own:=by
 obtain⟨a,b,h1,h2,h3,rfl⟩:=h;unfold Lw.univ;rw[pb];refine⟨a,ic.mpr h1,ax.mpr ⟨b-1,ic.mpr (by omega),?_⟩⟩;rw[Nat.sub_add_cancel h2]
theorem KeyIn.mono (h:KeyIn c own k) (le:∀ a,own a<=own' a):KeyIn c own' k:=by
 obtain⟨a,b,h1,h2,h3,e⟩:=h;exact⟨a,b,h1,h2,ci h3 (le a),e⟩
theorem oI {α:Type} [DecidableEq α]:∀ {l m:List α},l.Nodup->(∀ x∈l,x∈m)->l.length<=m.length
 |[],m,_,_=>iz _
 |a::r,m,h,hs=>by
  rw[b8] at h;have ha:=hs a aq;have h1:=oI (l:=r) (m:=m.erase a) h.2 fun x hx=>(List.mem_erase_of_ne (fun z:x=a=>h.1 (z ▸ hx))).mpr (hs x (ai _ hx));rw[List.length_erase_of_mem ha] at h1;have h2:=List.length_pos_of_mem ha;rw[b7];omega
structure Hd.In (c:Nat) (own:Nat->Nat) (hd:Hd):Prop where
 len:hd.knows.length=c
 row:∀ xs∈hd.knows,xs.length=c
 kb:∀ xs∈hd.knows,∀ a,a<c->0<=xs.getD a 0/\xs.getD a 0<=own a
 kk:∀ kv∈hd.kept,KeyIn c own kv.1
 kn:(hd.kept.map (·.1)).Nodup
 kv:∀ kv∈hd.kept,∃ ks:List (List Key),kv.2=.tup (ks.map bH)/\ks.length<64/\∀ q∈ks,KeyIn c own q
 tk:∀ kv∈hd.table,∃ a b:Nat,a<c/\1<=b/\b<=own a/\kv.1=gA a b/\∃(x:Str) (v:Int),kv.2=.tup [.str x,mkD a b,.int v]
 tn:(hd.table.map (·.1)).Nodup
section
variable {c:Nat}{own own':Nat->Nat}{hd tl:Hd}{i j:Nat}
theorem Hd.In.ok (W:hd.In c own) (c0:0<c) (c8:c<=8) (ht:tot c own<64):hd.Ok c where
 len:=W.len
 row:=W.row
 small:=c8
 pos:=c0
 kk:=fun kv h=>by
  obtain⟨a,b,h1,_,_,e⟩:=W.kk kv h;exact⟨a,b,e,by omega,by omega⟩
 kn:=W.kn
 kl:=by
  have:=oI W.kn (m:=univ c own) fun x hx=>by
   obtain⟨kv,h1,rfl⟩:=ax.mp hx;exact(W.kk kv h1).univ
  rw[uQ,ao] at this;omega
 tk:=fun kv h=>by
  obtain⟨a,b,h1,_,_,e,x,v,e2⟩:=W.tk kv h;exact⟨a,b,by omega,by omega,e,x,v,e2⟩
 tn:=W.tn
 tl:=by
  have:=oI W.tn (m:=univ c own) fun x hx=>by
   obtain⟨kv,h1,rfl⟩:=ax.mp hx;obtain⟨a,b,h2,h3,h4,e,_⟩:=W.tk kv h1;exact KeyIn.univ ⟨a,b,h2,h3,h4,e⟩
  rw[uQ,ao] at this;omega
theorem Hd.In.mono (W:hd.In c own) (le:∀ a,own a<=own' a):hd.In c own' where
 len:=W.len
 row:=W.row
 kb:=fun xs hx a ha=>⟨(W.kb xs hx a ha).1,vq (W.kb xs hx a ha).2 (by have:=le a;omega)⟩
 kk:=fun kv h=>(W.kk kv h).mono le
 kn:=W.kn
 kv:=fun kv h=>by
  obtain⟨ks,e,hl,h2⟩:=W.kv kv h;exact⟨ks,e,hl,fun q hq=>(h2 q hq).mono le⟩
 tk:=fun kv h=>by
  obtain⟨a,b,h1,h2,h3,r⟩:=W.tk kv h;exact⟨a,b,h1,h2,ci h3 (le a),r⟩
 tn:=W.tn
theorem lQ {p:List Key×D} (h:p∈putD kvs k v):p=(k,v)∨p∈kvs:=by
 unfold putD at h;split at h
 ·obtain⟨q,h1,h2⟩:=ax.mp h
  by_cases hq:q.1=k
  ·rw[if_pos hq] at h2;exact .inl (by rw[<- h2,hq])
  ·rw[if_neg hq] at h2;exact .inr (h2 ▸ h1)
 ·rcases cu.mp h with z|z
  ·exact .inr z
  ·exact .inl (by simpa using z)
theorem kC {k:List Key} (h:(kvs.map (·.1)).Nodup):((putD kvs k v).map (·.1)).Nodup:=by
 unfold putD;split
 ·rw[fm];rw[show kvs.map ((·.1)∘fun kv=>if kv.1=k then(kv.1,v) else kv)=kvs.map (·.1) from fg fun kv _=>by
   show(if kv.1=k then(kv.1,v) else kv).1=kv.1
   split <;> rfl]
  exact h
 ·rename_i hn
  rw[cf,j3];refine⟨h,by simp,fun a ha b hb z=>hn ?_⟩;rw[o9];obtain⟨p,h1,h2⟩:=ax.mp ha;refine⟨p,h1,decide_eq_true ?_⟩;have hb':b=k:=by simpa using hb
  rw[h2,z,hb']
theorem Gq (kvs:List (List Key×D)) (k:List Key):(dZ kvs k).Sublist kvs:=ky
theorem qJ:∀(ks:List (List Key)) (kvs:List (List Key×D)),(ks.foldl dZ kvs).Sublist kvs
 |[],kvs=>List.Sublist.refl _
 |k::ks,kvs=>(qJ ks (dZ kvs k)).trans (Gq kvs k)
theorem oZ:∀ {out:List D}{T:List (List Key×D)},(T.map (·.1)).Nodup->((pC out T).map (·.1)).Nodup
 |[],T,h=>h
 |d::out,T,h=>oZ (out:=out) (kC h)
theorem pA:∀ {out:List D}{T:List (List Key×D)}{p:List Key×D},p∈pC out T->p∈T∨∃ d∈out,p=(aZ d,d)
 |[],T,p,h=>.inl h
 |d::out,T,p,h=>by
  rcases pA (out:=out) (T:=putD T (aZ d) d) h with z|⟨d',h1,h2⟩
  ·rcases lQ z with z|z
   ·exact .inr ⟨d,aq,z⟩
   ·exact .inl z
  ·exact .inr ⟨d',ai _ h1,h2⟩
theorem nE:∀ {ms kvs:List (List Key×D)},(kvs.map (·.1)).Nodup->((jJ kvs ms).map (·.1)).Nodup
 |[],kvs,h=>h
 |d::ms,kvs,h=>nE (ms:=ms) (kvs:=putD kvs d.1 d.2) (kC h)
theorem mY:∀ {ms kvs:List (List Key×D)}{p:List Key×D},p∈jJ kvs ms->p∈kvs∨p∈ms
 |[],kvs,p,h=>.inl h
 |d::ms,kvs,p,h=>by
  rcases mY (ms:=ms) (kvs:=putD kvs d.1 d.2) h with z|z
  ·rcases lQ z with z|z
   ·exact .inr (by rw[z];exact aq)
   ·exact .inl z
  ·exact .inr (ai _ z)
theorem fJ (xs:List Int) (i a:Nat) (v:Int) (hi:i<xs.length):(xs.set i v).getD a 0=if a=i then v else xs.getD a 0:=by
 rw[ay,ay,List.getElem?_set]
 by_cases h:a=i
 ·subst h;simp[hi]
 ·rw[if_neg (bx h),if_neg h]
theorem sO {f:Int->Int->Int}{xs ys:List Int}{a:Nat} (h1:a<xs.length) (h2:a<ys.length):(bq f xs ys).getD a 0=f (xs.getD a 0) (ys.getD a 0):=by
 simp[ay,ud,bh h1,bh h2]
theorem JW {α β γ:Type}{f:α->β->γ}:∀ {xs:List α}{ys:List β}{z:γ},z∈bq f xs ys->∃ x∈xs,∃ y∈ys,z=f x y
 |[],_,_,h=>by simp at h
 |_::_,[],_,h=>by simp at h
 |x::xs,y::ys,z,h=>by
  rw[jn] at h;rcases ak.mp h with h|h
  ·exact⟨x,aq,y,aq,h⟩
  ·obtain⟨x',h1,y',h2,e⟩:=JW h;exact⟨x',ai _ h1,y',ai _ h2,e⟩
noncomputable def cQ (own:Nat->Nat) (i:Nat):Nat->Nat:=fun a=>if a=i then own a+1 else own a
theorem iP (own:Nat->Nat) (i a:Nat):own a<=cQ own i a:=by
 unfold cQ;split <;> omega
theorem Hd.In.seenMem (W:hd.In c own) (hi:i<c):hd.seen i∈hd.knows:=by
 unfold Hd.seen
 have:i<hd.knows.length:=by rw[W.len];exact hi
 rw[ay,bh this];exact jc this
theorem Hd.In.seenLen (W:hd.In c own) (hi:i<c):(hd.seen i).length=c:=W.row _ (W.seenMem hi)
theorem Hd.In.bump (W:hd.In c own) (hi:i<c) (hs:(hd.seen i).getD i 0=own i):(hd.bump i).In c (cQ own i):=by
 have W':=W.mono (iP own i);refine⟨?_,?_,?_,W'.kk,W'.kn,W'.kv,W'.tk,W'.tn⟩
 ·show(hd.knows.set i _).length=c
  rw[ce];exact W.len
 ·intro xs hx;rcases jd hx with z|z
  ·exact W.row xs z
  ·rw[z,ce];exact W.seenLen hi
 ·intro xs hx a ha;rcases jd hx with z|z
  ·exact W'.kb xs z a ha
  ·rw[z,fJ _ _ _ _ (by rw[W.seenLen hi];exact hi)]
   by_cases h:a=i
   ·rw[if_pos h,hs,h];unfold cQ;rw[if_pos rfl];omega
   ·rw[if_neg h];exact W'.kb _ (W.seenMem hi) a ha
theorem kL (W:hd.In c own) (hi:i<c) (hs:(hd.seen i).getD i 0=own i):((hd.bump i).seen i).getD i 0=cQ own i i:=by
 have:(hd.bump i).seen i=(hd.seen i).set i ((hd.seen i).getD i 0+1):=by
  show(hd.knows.set i _).getD i []=_
  rw[ay,dy (by rw[W.len];exact hi)];rfl
 rw[this,fJ _ _ _ _ (by rw[W.seenLen hi];exact hi),if_pos rfl,hs];unfold cQ;rw[if_pos rfl];omega
theorem Ie (hs:(hd.seen i).getD i 0=own i):hd.next i=((cQ own i i:Nat):Int):=by
 unfold Hd.next cQ;rw[hs,if_pos rfl];omega
theorem lW (hi:i<c) (hs:(hd.seen i).getD i 0=own i):KeyIn c (cQ own i) (gA i (hd.next i)):=by
 rw[Ie hs];refine⟨i,cQ own i i,hi,?_,bf _,rfl⟩;unfold cQ;rw[if_pos rfl];omega
theorem Hd.In.put (W:hd.In c own) (hi:i<c) (hs:(hd.seen i).getD i 0=own i) (x:Str) (v:Int):(hd.put i x v).In c (cQ own i):=by
 have B:=W.bump hi hs;refine⟨B.len,B.row,B.kb,B.kk,B.kn,B.kv,?_,kC W.tn⟩;intro kv hkv;rcases lQ hkv with z|z
 ·obtain⟨a,b,h1,h2,h3,e⟩:=lW hi hs;have hab:(i:Int)=a/\hd.next i=b:=by
   unfold gA at e;simp at e;omega
  refine⟨a,b,h1,h2,h3,by rw[z];exact e,x,v,?_⟩;rw[z];show D.tup [.str x,mkD i (hd.next i),.int v]=D.tup [.str x,mkD a b,.int v];unfold mkD;rw[hab.1,hab.2]
 ·exact B.tk kv z
theorem Hd.In.takeOut0 (W:hd.In c own) {mk:List Key} (hm:KeyIn c own mk) (hl:ks.length<64) (hk:∀ q∈ks,KeyIn c own q):(hd.takeOut0 mk ks).In c own:=by
 refine⟨W.len,W.row,W.kb,?_,?_,?_,fun kv h=>W.tk kv ((qJ ks hd.table).subset h),?_⟩
 ·intro kv h
  change kv∈(if ks=[] then hd.kept else _) at h
  split at h
  ·exact W.kk kv h
  ·rcases lQ h with z|z
   ·rw[z];exact hm
   ·exact W.kk kv z
 ·show((if ks=[] then hd.kept else _).map (·.1)).Nodup
  split
  ·exact W.kn
  ·exact kC W.kn
 ·intro kv h
  change kv∈(if ks=[] then hd.kept else _) at h
  split at h
  ·exact W.kv kv h
  ·rcases lQ h with z|z
   ·rw[z];exact⟨ks,rfl,hl,hk⟩
   ·exact W.kv kv z
 ·exact W.tn.sublist ((qJ ks hd.table).map _)
theorem Hd.In.forget (W:hd.In c own):hd.forget.In c own:=
 ⟨W.len,W.row,W.kb,fun kv h=>W.kk kv (b0.mp h).1,W.kn.sublist (ky.map _),fun kv h=>W.kv kv (b0.mp h).1,W.tk,W.tn⟩
theorem Hd.In.hear0 (W:hd.In c own) (V:tl.In c own) (Wo:hd.Ok c) (Vo:tl.Ok c) (hi:i<c) (hj:j<c):(hd.hear0 i tl j).In c own:=by
 have joinB:∀ xs ys:List Int,xs.length=c->ys.length=c->(∀ a,a<c->0<=xs.getD a 0/\xs.getD a 0<=own a)->(∀ a,a<c->0<=ys.getD a 0/\ys.getD a 0<=own a)->(bq mx xs ys).length=c/\∀ a,a<c->0<=(bq mx xs ys).getD a 0/\(bq mx xs ys).getD a 0<=own a:=by
  intro xs ys h1 h2 h3 h4;refine⟨by rw[fh,h1,h2,jr],fun a ha=> ?_⟩;rw[sO (by omega) (by omega)];unfold mx;split
  ·exact h4 a ha
  ·exact h3 a ha
 have rowsB:∀ zs∈(hd.hear0 i tl j).knows,zs.length=c/\∀ a,a<c->0<=zs.getD a 0/\zs.getD a 0<=own a:=by
  intro zs hz;rcases jd hz with z|z
  ·obtain⟨x,hx,y,hy,rfl⟩:=JW z;exact joinB x y (W.row x hx) (V.row y hy) (W.kb x hx) (V.kb y hy)
  ·rw[z];exact joinB _ _ (W.seenLen hi) (V.seenLen hj) (W.kb _ (W.seenMem hi)) (V.kb _ (V.seenMem hj))
 have entT:∀ {hd:Hd},hd.In c own->hd.Ok c->∀ d∈hd.ents,∃ a b:Nat,a<c/\1<=b/\b<=own a/\aZ d=gA a b/\∃(x:Str) (v:Int),d=.tup [.str x,mkD a b,.int v]:=by
  intro hd W Wo d hd';obtain⟨kv,h1,rfl⟩:=ax.mp (Wo.ents.2.mem_iff.mp hd');obtain⟨a,b,h2,h3,h4,e,x,v,e2⟩:=W.tk kv h1;exact⟨a,b,h2,h3,h4,by rw[e2];rfl,x,v,e2⟩
 refine⟨?_,fun xs hx=>(rowsB xs hx).1,fun xs hx=>(rowsB xs hx).2,?_,nE W.kn,?_,?_,oZ (by simp)⟩
 ·show((bq (bq mx) hd.knows tl.knows).set i _).length=c
  rw[ce,fh,W.len,V.len,jr]
 ·intro kv h;rcases mY h with z|z
  ·exact W.kk kv z
  ·exact V.kk kv z
 ·intro kv h;rcases mY h with z|z
  ·exact W.kv kv z
  ·exact V.kv kv z
 ·intro kv h;rcases pA h with z|⟨d,hd',rfl⟩
  ·simp at z
  ·rcases cu.mp hd' with z|z
   ·exact entT W Wo d (b0.mp z).1
   ·exact entT V Vo d (b0.mp z).1
theorem Cf (W:hd.In c own) (V:tl.In c own) (hi:i<c) (hj:j<c) (hs:(hd.seen i).getD i 0=own i):((hd.hear i tl j).seen i).getD i 0=own i:=by
 have:(hd.hear i tl j).seen i=bq mx (hd.seen i) (tl.seen j):=by
  show((bq (bq mx) hd.knows tl.knows).set i _).getD i []=_
  rw[ay,dy (by rw[fh,W.len,V.len,jr];exact hi)];rfl
 rw[this,sO (by rw[W.seenLen hi];exact hi) (by rw[V.seenLen hj];exact hi),hs]
 have:=(V.kb _ (V.seenMem hj) i hi).2
 unfold mx;rw[if_neg (by omega)]
theorem Hd.Ok.marksLen (Wo:hd.Ok c) (x:Str):(hd.marksK x).length<64:=by
 unfold Hd.marksK;rw[ao];exact nh (fe ..) Wo.entsLen
theorem Hd.In.marks (W:hd.In c own) (Wo:hd.Ok c) (x:Str):∀ q∈hd.marksK x,KeyIn c own q:=fun q hq=>by
 obtain⟨kv,h1,rfl⟩:=ax.mp (Wo.marksIn x q hq);obtain⟨a,b,h2,h3,h4,e,_⟩:=W.tk kv h1;exact⟨a,b,h2,h3,h4,e⟩
end
theorem pY:∀ {U:List (List Key)},fB U=true->(∀ k∈U,∃ a,fD k=xw a)/\∀ k∈U,∀ k'∈U,fD k=fD k'->k=k'
 |[],_=>⟨fun k h=>by simp at h,fun k h=>by simp at h⟩
 |k::r,h=>by
  have h':((fD k).isSome&&r.all (fun k'=>match fD k,fD k' with
   |some a,xw b=>decide (a≠b)
   |_,_=>false)&&fB r)=true:=h
  rw[bu,bu] at h';obtain⟨⟨h0,ha⟩,hr⟩:=h';obtain⟨i1,i2⟩:=pY hr;have main:∀ y∈r,fD k=fD y->False:=fun y hy e=>by
   have:=fx.mp ha y hy
   split at this
   ·rename_i a b e1 e2
    rw[e1,e2] at e;cases e;simp at this
   ·cases this
  refine⟨fun q hq=> ?_,fun q hq q' hq' e=> ?_⟩
  ·rcases ak.mp hq with rfl|hq
   ·exact m8.mp h0
   ·exact i1 q hq
  ·rcases ak.mp hq with z|hq1
   ·rcases ak.mp hq' with z'|hq2
    ·rw[z,z']
    ·rw[z] at e;exact(main q' hq2 e).elim
   ·rcases ak.mp hq' with z'|hq2
    ·rw[z'] at e;exact(main q hq1 e.symm).elim
    ·exact i2 q hq1 q' hq2 e
theorem nG (hU:fB U=true):∀ {ks:List (List Key)},(∀ k∈ks,k∈U)->ks.Nodup->fB ks=true
 |[],_,_=>rfl
 |k::r,hs,nd=>by
  rw[b8] at nd;obtain⟨s1,s2⟩:=pY hU;have hk:=hs k aq;obtain⟨a,ea⟩:=s1 k hk
  show((fD k).isSome&&r.all (fun k'=>match fD k,fD k' with
   |some a,xw b=>decide (a≠b)
   |_,_=>false)&&fB r)=true
  rw[bu,bu];refine⟨⟨by rw[ea];rfl,?_⟩,nG hU (fun q hq=>hs q (ai _ hq)) nd.2⟩;rw[fx];intro k' hk';obtain⟨b,eb⟩:=s1 k' (hs k' (ai _ hk'));rw[ea,eb];show decide (a≠b)=true;refine decide_eq_true fun z=>nd.1 ?_;rw[s2 k hk k' (hs k' (ai _ hk')) (by rw[ea,eb,z])];exact hk'
theorem RowsAt.mem (h:RowsAt ω rs kn):∀ r∈rs,∃ xs,ω[r]?=xw (.ml (iv xs)):=by
 induction h with
 |nil=>intro r hr;simp at hr
 |cons h0 _ ih=>
  intro r hr;rcases ak.mp hr with rfl|hr
  ·exact⟨_,h0⟩
  ·exact ih r hr
theorem CY (h:RowsAt ω rs kn):(rs.map D.obj).map (fun d=>D.lst ((bZ ω d).getD []))=kn.map fun xs=>D.lst (iv xs):=by
 induction h with
 |nil=>rfl
 |@cons r x rs kn h0 _ ih=>
  rw[bg,bg,bg,ih]
  have:bZ ω (.obj r)=xw (iv x):=by simp only[bZ,fG,h0]
  rw[this];rfl
theorem kZ (h:ω[n]?=xw (.ml ds)):iZ n ds ω=true:=by
 unfold iZ;rw[h];exact sameDs_refl _
theorem Pk (a b a' b':Int):∃ c,dY 4 (.tup [.int a,.int b]) (.tup [.int a',.int b'])=xw c:=by
 show ∃ c,(match eqD 4 (.int a) (.int a') with
  |some true=>(match eqD 4 (.int b) (.int b') with
   |some true=>xw _
   |some false=>fV (.int b) (.int b')
   |none=>xx)
  |some false=>fV (.int a) (.int a')
  |none=>xx)=xw c
 have e1:eqD 4 (.int a) (.int a')=xw (decide (a=a')):=rfl;have e2:eqD 4 (.int b) (.int b')=xw (decide (b=b')):=rfl;rw[e1,e2];cases decide (a=a') with
 |false=>exact⟨_,rfl⟩
 |true=>
  cases decide (b=b') with
  |false=>exact⟨_,rfl⟩
  |true=>exact⟨_,rfl⟩
section
variable {ω:Om}{h k t e:Nat}{i c:Nat}{hd:Hd}{rs fp:List Nat}{own:Nat->Nat}
theorem Io (H:HandAt ω h i hd k t e rs) (hl:rs.length<=sizeLine):gF [.obj h] ω=xw (.ok (.lst (hd.knows.map fun xs=>.lst (iv xs))),ω):=by
 refine aT rfl (bD (eM (ds:=rs.map D.obj) (chk:=iZ k (rs.map D.obj)) (ω1:=ω) ?_ (by simpa using hl) ?_))
 ·unfold oIL;rw[bF (H.knows (aB rfl))]
  have:mG ω (.obj k)=xw (rs.map D.obj,iZ k (rs.map D.obj)):=by simp only[mG,H.kn]
  show oR (pu (mG ω (.obj k)) ω)=_;rw[this];rfl
 ·rw[<- CY H.rows];refine gG (fun ρ=>ρ.length=1) (kZ H.kn) rfl fun d hd ρ hρ=> ?_;obtain⟨r,hr,rfl⟩:=ax.mp hd;obtain⟨xs,ex⟩:=H.rows.mem r hr
  match ρ,hρ with
  |[u],_=>
   refine⟨_,rfl,rfl,cO (aA (aB (d:=.obj r) rfl) aD) ?_⟩
   have:bZ ω (.obj r)=xw (iv xs):=by simp only[bZ,fG,ex]
   show(bZ ω (.obj r)).map _=_
   rw[this];rfl
theorem Hi (H:HandAt ω h i hd k t e rs) (hi:i<hd.knows.length) (ef:f ρ ω=xw (.ok (.obj h),ω)):oL iV (aC (bL 0 "seen" bW f aM) aM) ρ ω=xw (.ok (.lst (iv (hd.seen i))),ω):=by
 obtain⟨r,hr,er⟩:=H.seenRow hi;refine cO (aA (cH ef H.obj rfl (kU H hr)) aD) ?_
 have:bZ ω (.obj r)=xw (iv (hd.seen i)):=by simp only[bZ,fG,er]
 show(bZ ω (.obj r)).map _=_
 rw[this];rfl
noncomputable def Hd.mindK (hd:Hd):List D:=(eC 4 (hd.kept.map fun p=>bH p.1)).getD []
noncomputable def Hd.mindV (hd:Hd) (q:D):D:=match Ec q with
 |some k=>(match iR hd.kept k with
  |some (.tup ds)=>.lst ds
  |_=>.non)
 |none=>.non
noncomputable def Hd.mind (hd:Hd):List D:=hd.mindK.map fun q=>.tup [q,hd.mindV q]
theorem Hd.Ok.mindK (W:hd.Ok c):eC 4 (hd.kept.map fun p=>bH p.1)=xw hd.mindK/\hd.mindK.Perm (hd.kept.map fun p=>bH p.1):=by
 have key:∀ d∈hd.kept.map fun p=>bH p.1,∃ a b:Int,d=.tup [.int a,.int b]:=fun d hd'=>by
  obtain⟨kv,h1,rfl⟩:=ax.mp hd';obtain⟨a,b,e,_⟩:=W.kk kv h1;exact⟨a,b,by show bH kv.1=_;rw[e];rfl⟩
 obtain⟨out,e1,e2⟩:=uV (m:=4) (ds:=hd.kept.map fun p=>bH p.1) (by rw[ao];exact W.kl) (by
  unfold jH;rw[ik];left;rw[fx];intro d hd';obtain⟨a,b,rfl⟩:=key d hd';rfl) (fun x hx y hy=>by
  obtain⟨a,b,rfl⟩:=key x hx;obtain⟨a',b',rfl⟩:=key y hy;exact Pk a b a' b')
 have:hd.mindK=out:=by unfold Hd.mindK;rw[e1];rfl
 rw[this];exact⟨e1,e2⟩
theorem Ih (W:hd.In c own) (hq:q∈hd.kept):∃ ks:List (List Key),iR hd.kept q.1=xw (.tup (ks.map bH))/\hd.mindV (bH q.1)=.lst (ks.map bH)/\ks.length<64/\∀ x∈ks,KeyIn c own x:=by
 obtain⟨ks,e,hl,h2⟩:=W.kv q hq;have e1:=zZ W.kn hq;rw[e] at e1;refine⟨ks,e1,?_,hl,h2⟩;unfold Hd.mindV;rw[BA]
 show(match iR hd.kept q.1 with
  |some (.tup ds)=>D.lst ds
  |_=>.non)=_
 rw[e1]
theorem Du (H:HandAt ω h i hd k t e rs) (W:hd.Ok c) (I:hd.In c own):eQ [.obj h] ω=xw (.ok (.lst hd.mind),ω):=by
 have hl:hd.mindK.length<64:=by rw[W.mindK.2.length_eq,ao];exact W.kl
 refine aT rfl (bD (eM (ds:=hd.mindK) (chk:=bO) (ω1:=ω) ?_ (io (eD hl)) ?_))
 ·unfold oIL;rw[bF (cO (d:=.lst hd.mindK) (ω2:=ω) (aA (H.kept (aB rfl)) aD) (by
   simp only[FX,cellOf,H.kp];rw[W.mindK.1];rfl))]
  rfl
 ·refine gG (fun ρ=>∃ u,ρ=[u,xw (.obj h)]) rfl ⟨_,rfl⟩ fun d hd' ρ hρ=> ?_;obtain⟨q,hq,rfl⟩:=ax.mp (W.mindK.2.mem_iff.mp hd');obtain⟨ks,e1,e2,_⟩:=Ih I hq;obtain⟨u,rfl⟩:=hρ;refine⟨_,rfl,⟨_,rfl⟩,cO (aA (aB (d:=bH q.1) rfl) (aA (cO (aA (dO (d:=.tup (ks.map bH)) (H.kept (aB rfl)) (aB (d:=bH q.1) rfl) (by
   show pu (jA ω (.obj e) (bH q.1)) ω=_
   have:jA ω (.obj e) (bH q.1)=xw (.tup (ks.map bH)):=by
    simp only[jA,Ed,cellOf,H.kp,BA];rw[sw,e1];rfl
   rw[this];rfl)) aD) (d:=.lst (ks.map bH)) rfl) aD)) ?_⟩
  show pu (nP [bH q.1,.lst (ks.map bH)]) ω=xw (D.tup [bH q.1,hd.mindV (bH q.1)],ω);rw[e2];unfold nP;rw[if_pos (by rw[bt];simp)];rfl
end
noncomputable def Hd0 (c:Nat):Hd:=⟨aj c (aj c 0),[],[]⟩
theorem vV:∀ c:Nat,(aj c [D.int 0]).flatten=iv (aj c 0)
 |0=>rfl
 |c+1=>by
  rw[fz,jg,vV c];rfl
theorem AH {c:Nat} (c8:c<=8):∀(ds:List D) (u:Option D) (ω:Om),compLO (aW 0) bO (oPT jV) (o2 yN (zL (aC (zI 0) aM)) (zV 1)) ds [u,xw (.int c)] ω=xw ((c5 ω.length ds.length).map D.obj,ω++aj ds.length (.ml (iv (aj c 0))))
 |[],u,ω=>by
  show xw ([],ω)=_;simp
 |d::ds,u,ω=>by
  have ih:=AH c8 ds (xw d) (ω++[.ml (iv (aj c 0))]);have b1:o2 yN (zL (aC (zI 0) aM)) (zV 1) [xw d,xw (.int c)] ω=xw (.ok (.obj ω.length),ω++[.ml (iv (aj c 0))]):=by
   refine dO (ω1:=ω) (ω2:=ω) (a:=.lst [.int 0]) (b:=.int c) (cO (aA aU aD) ?_) (aB rfl) ?_
   ·show pu (DD [.int 0]) ω=_;unfold DD;rw[if_pos (by rw[bt];simp)];rfl
   ·show(if -1000000<=(c:Int)/\(c:Int)<=1000000/\1*(c:Int).toNat<=sizeLine then xw (D.obj ω.length,ω++[.ml (aj (c:Int).toNat [D.int 0]).flatten]) else xx)=_
    rw[if_pos ⟨by omega,by omega,by rw[bt];omega⟩,cw,vV]
  refine(qW rfl rfl (b1)).trans ?_;rw[ih,b7,kq,bg,fz,bw];show xw (_,_)=_;rw[gu];rfl
theorem IG {c:Nat} (c8:c<=1000):gL [.int (c:Int)]=xw (kB 0 c):=by
 show(if -1000000000<=(c:Int)/\(c:Int)<=1000000000 then xw (kB 0 (c:Int).toNat) else xx)=_
 rw[if_pos ⟨by omega,by omega⟩,cw]
theorem jE (e:f ρ ω=xw (.ok (.int c),ω1)) (c8:c<=1000):oIA gL (aC f aM) ρ ω=xw (.ok (kB 0 c,bO),ω1):=by
 unfold oIA;rw[bF (aA e aD)];show oR (pu ((gL [.int (c:Int)]).map _) ω1)=_;rw[IG c8];rfl
theorem FJ {i c:Nat} (c8:c<=8):∃ ω' fp,dU [.obj ω.length,.int i,.int c] (ω++[.ins 0 []])=xw (.ok .non,ω')/\HandS ω' ω.length i (Hd0 c) fp/\Keep [] ω ω'/\∀ n∈fp,ω.length<=n:=by
 obtain⟨ω1,hω1⟩:∃ ω1,ω1=(ω++[Ob.ins 0 []]).set ω.length (.ins 0 [("number",.int i)]):=⟨_,rfl⟩;have g0:(ω++[Ob.ins 0 []])[ω.length]?=xw (.ins 0 []):=by simp
 have g1:ω1[ω.length]?=xw (.ins 0 [("number",.int i)]):=by rw[hω1];exact cB g0
 have l1:ω1.length=ω.length+1:=by rw[hω1];simp
 have k1:∀ n,n<ω.length->ω1[n]?=ω[n]?:=fun n hn=>by rw[hω1,aI (by omega),am hn]
 have fill:=AH c8 (kB 0 c) xx ω1;rw[gE] at fill;obtain⟨ω2,hω2⟩:∃ ω2,ω2=ω1++aj c (Ob.ml (iv (aj c 0))):=⟨_,rfl⟩;rw[<- hω2] at fill;have l2:ω2.length=ω.length+1+c:=by rw[hω2];simp[l1]
 obtain⟨ω3,hω3⟩:∃ ω3,ω3=ω2++[Ob.ml ((c5 ω1.length c).map D.obj)]:=⟨_,rfl⟩;have l3:ω3.length=ω.length+2+c:=by rw[hω3];simp[l2];omega
 have k3:∀ n,n<ω.length+1->ω3[n]?=ω1[n]?:=fun n hn=>by rw[hω3,am (by omega),hω2,am (by omega)]
 have g3:ω3[ω.length]?=xw (.ins 0 [("number",.int i)]):=by rw[k3 _ (by omega)];exact g1
 have r3:RowsAt ω3 (c5 ω1.length c) (aj c (aj c 0)):=by
  have:=mX (aj c (aj c 0)) ω1 [Ob.ml ((c5 ω1.length c).map D.obj)]
  rw[nu,jw,<- hω2,<- hω3] at this;exact this
 have kk3:ω3[ω2.length]?=xw (.ml ((c5 ω1.length c).map D.obj)):=by rw[hω3];simp
 obtain⟨ω4,hω4⟩:∃ ω4,ω4=ω3.set ω.length (.ins 0 [("number",.int i),("knows",.obj ω2.length)]):=⟨_,rfl⟩;have l4:ω4.length=ω.length+2+c:=by rw[hω4];simp[l3]
 have g4:ω4[ω.length]?=xw (.ins 0 [("number",.int i),("knows",.obj ω2.length)]):=by rw[hω4];exact cB g3
 obtain⟨ω5,hω5⟩:∃ ω5,ω5=(ω4++[Ob.dt []]).set ω.length (.ins 0 [("number",.int i),("knows",.obj ω2.length),("table",.obj ω4.length)]):=⟨_,rfl⟩;have g4':(ω4++[Ob.dt []])[ω.length]?=xw (.ins 0 [("number",.int i),("knows",.obj ω2.length)]):=by rw[am (by omega)];exact g4
 have l5:ω5.length=ω.length+3+c:=by rw[hω5];simp[l4];omega
 have g5:ω5[ω.length]?=xw (.ins 0 [("number",.int i),("knows",.obj ω2.length),("table",.obj ω4.length)]):=by rw[hω5];exact cB g4'
 have t5:ω5[ω4.length]?=xw (.dt []):=by rw[hω5,aI (by omega)];simp
 obtain⟨ω6,hω6⟩:∃ ω6,ω6=(ω5++[Ob.dt []]).set ω.length (.ins 0 [("number",.int i),("knows",.obj ω2.length),("table",.obj ω4.length),("kept",.obj ω5.length)]):=⟨_,rfl⟩;have g5':(ω5++[Ob.dt []])[ω.length]?=xw (.ins 0 [("number",.int i),("knows",.obj ω2.length),("table",.obj ω4.length)]):=by rw[am (by omega)];exact g5
 have l6:ω6.length=ω.length+4+c:=by rw[hω6];simp[l5];omega
 have g6:∀ n,n<ω.length+2+c->n≠ω.length->ω6[n]?=ω3[n]?:=fun n hn hne=>by
  rw[hω6,aI hne,am (by omega),hω5,aI hne,am (by omega),hω4,aI hne]
 have rin:∀ q∈c5 ω1.length c,ω.length+1<=q/\q<ω.length+1+c:=fun q hq=>by
  rw[om,l1] at hq;exact hq
 refine⟨ω6,ω.length::ω2.length::ω4.length::ω5.length::c5 ω1.length c,?_,⟨ω2.length,ω4.length,ω5.length,c5 ω1.length c,⟨?_,?_,?_,?_,?_,?_⟩,rfl⟩,⟨by omega,fun n hn _=> ?_⟩,fun n hn=> ?_⟩
 ·refine uZ (ρ1:=[xw (.obj ω.length),xw (.int i),xw (.int c)]) rfl ?_;unfold mD;rw[bA (kT (aB (d:=.int i) rfl) (aB (d:=.obj ω.length) rfl) g0 (by simp))];rw[show(ω++[Ob.ins 0 []]).set ω.length (.ins 0 (lP "number" (.int i) []))=ω1 from by rw[hω1];rfl];rw[bA (kT (pQ (ω2:=ω2) (jE (c:=c) (aB rfl) (by omega)) (by rw[gE,bt];omega) fill) (by rw[<- hω3];exact aB (d:=.obj ω.length) rfl) g3 (by simp))];rw[show ω3.set ω.length (.ins 0 (lP "knows" (.obj ω2.length) [("number",.int i)]))=ω4 from by rw[hω4];rfl];rw[bA (kT (v:=.obj ω4.length) (ω1:=ω4++[.dt []]) rfl (aB (d:=.obj ω.length) rfl) g4' (by simp))];rw[show(ω4++[Ob.dt []]).set ω.length (.ins 0 (lP "table" (.obj ω4.length) [("number",.int i),("knows",.obj ω2.length)]))=ω5 from by rw[hω5];rfl];rw[kT (v:=.obj ω5.length) (ω1:=ω5++[.dt []]) rfl (aB (d:=.obj ω.length) rfl) g5' (by simp)];rw[show(ω5++[Ob.dt []]).set ω.length (.ins 0 (lP "kept" (.obj ω5.length) [("number",.int i),("knows",.obj ω2.length),("table",.obj ω4.length)]))=ω6 from by rw[hω6];rfl];rfl
 ·rw[hω6];exact cB g5'
 ·rw[g6 _ (by omega) (by omega)];exact kk3
 ·exact r3.mono fun q hq=>by have:=rin q hq;exact g6 q (by omega) (by omega)
 ·rw[hω6,aI (by omega),am (by omega)];exact t5
 ·rw[hω6,aI (by omega)];simp[Hd0]
 ·simp only[b8,ak,not_or];refine⟨⟨by omega,by omega,by omega,fun z=>by have:=rin _ z;omega⟩,⟨by omega,by omega,fun z=>by have:=rin _ z;omega⟩,⟨by omega,fun z=>by have:=rin _ z;omega⟩,fun z=>by have:=rin _ z;omega,wd⟩
 ·rw[g6 n (by omega) (by omega),k3 n (by omega)];exact k1 n hn
 ·simp only[ak] at hn;rcases hn with z|z|z|z|z
  ·omega
  ·omega
  ·omega
  ·omega
  ·have:=rin n z;omega
theorem Fo (e1:fl ρ ω=xw (.ok ds,ω1)) (e2:φ (.obj ω1.length::ds) (ω1++[.ins cl []])=xw (.ok .non,ω2)):vE cl φ fl ρ ω=xw (.ok (.obj ω1.length),ω2):=by
 unfold vE;rw[bF e1]
 show(match φ (.obj ω1.length::ds) (ω1++[.ins cl []]) with
  |some (.ok .non,ω')=>xw (Rz.ok (D.obj ω1.length),ω')
  |some (.ex c,ω')=>xw (.ex c,ω')
  |_=>xx)=_
 rw[e2]
theorem gQ (s:Int) (m:Nat):kB s (m+1)=.int s::kB (s+1) m:=by
 unfold kB;rw[tz,bg,fm]
 congr 1
 ·simp
 ·apply fg;intro k _;show D.int (s+((k+1:Nat):Int))=D.int (s+1+(k:Int))
  congr 1
  omega
theorem Ch {c:Nat} (c8:c<=8):∀(m s:Nat) (u:Option D) (ω:Om),∃(ω':Om) (hs:Nat->Nat) (fp:Nat->List Nat),compLO (aW 0) bO (oPT jV) (vE 0 dU (aC (zV 0) (aC (zV 1) aM))) (kB s m) [u,xw (.int c)] ω=xw ((c5 s m).map fun i=>D.obj (hs i),ω')/\
  (∀ i,s<=i->i<s+m->HandS ω' (hs i) i (Hd0 c) (fp i))/\(∀ i,s<=i->i<s+m->∀ n∈fp i,ω.length<=n)/\(∀ i,s<=i->i<s+m->∀ j,s<=j->j<s+m->i≠j->∀ n∈fp i,n∉fp j)/\Keep [] ω ω'
 |0,s,u,ω=>⟨ω,fun _=>0,fun _=>[],rfl,fun i h1 h2=>by omega,fun i h1 h2=>by omega,fun i h1 h2=>by omega,Keep.refl _ _⟩
 |m+1,s,u,ω=>by
  obtain⟨ω1,fp0,e1,H1,K1,F1⟩:=FJ (ω:=ω) (i:=s) c8;obtain⟨ω2,hs,fp,e2,H2,F2,A2,K2⟩:=Ch c8 m (s+1) (xw (.int s)) ω1;have ltH:=H1.lt;refine⟨ω2,fun i=>if i=s then ω.length else hs i,fun i=>if i=s then fp0 else fp i,?_,fun i h1 h2=> ?_,fun i h1 h2 n hn=> ?_,fun i h1 h2 j h3 h4 hne n hn=> ?_,⟨ci K1.1 K2.1,fun n hn _=> ?_⟩⟩
  ·rw[gQ];have mk:vE 0 dU (aC (zV 0) (aC (zV 1) aM)) [xw (.int s),xw (.int c)] ω=xw (.ok (.obj ω.length),ω1):=Fo (aA (aB rfl) (aA (aB rfl) aD)) e1;refine(qW rfl rfl (mk)).trans ?_
   show(compLO _ _ _ _ (kB ((s+1:Nat):Int) m) _ _).map _=_
   rw[e2,kq,bg];show xw (_::_,_)=_
   congr 3
   ·simp
   ·apply fg;intro i hi;rw[om] at hi;show D.obj (hs i)=D.obj (if i=s then ω.length else hs i);rw[if_neg (by omega)]
  ·by_cases hi:i=s
   ·subst hi;simp only[if_pos];exact H1.mono fun n hn=>K2.2 n (ltH n hn) (by simp)
   ·simp only[if_neg hi];exact H2 i (by omega) (by omega)
  ·by_cases hi:i=s
   ·simp only[if_pos hi] at hn;exact F1 n hn
   ·simp only[if_neg hi] at hn;exact ci K1.1 (F2 i (by omega) (by omega) n hn)
  ·by_cases hi:i=s
   ·by_cases hj:j=s
    ·exact absurd (hi.trans hj.symm) hne
    ·simp only[if_pos hi] at hn;simp only[if_neg hj];intro z
     have:=F2 j (by omega) (by omega) n z
     have:=ltH n hn
     omega
   ·simp only[if_neg hi] at hn
    by_cases hj:j=s
    ·simp only[if_pos hj];intro z
     have:=F2 i (by omega) (by omega) n hn
     have:=ltH n z
     omega
    ·simp only[if_neg hj];exact A2 i (by omega) (by omega) j (by omega) (by omega) hne n hn
  ·rw[K2.2 n (b9 hn K1.1) (by simp)];exact K1.2 n hn (by simp)
structure HallS (B ω:Om) (g c:Nat) (hs:Nat->Nat) (fp:Nat->List Nat) (S:Nat->Hd):Prop where
 obj:ω[g]?=xw (.ins 1 [("hands",.lst ((bj c).map fun i=>.obj (hs i)))])
 hand:∀ i,i<c->HandS ω (hs i) i (S i) (fp i)
 apart:∀ i,i<c->∀ j,j<c->i≠j->∀ n∈fp i,n∉fp j
 out:∀ i,i<c->g∉fp i
 low:∀ i,i<c->∀ n∈fp i,B.length<=n
 bas:B.length<=ω.length/\∀ n,n<B.length->ω[n]?=B[n]?
theorem FP (c8:c<=8) (e:fl ρ ω=xw (.ok [.int c],ω)):∃ ω' hs fp,vE 1 iE fl ρ ω=xw (.ok (.obj ω.length),ω')/\HallS ω ω' ω.length c hs fp (fun _=>Hd0 c):=by
 obtain⟨ω1,hs,fp,e1,H1,F1,A1,K1⟩:=Ch c8 c 0 xx (ω++[Ob.ins 1 []]);have g0:(ω++[Ob.ins 1 []])[ω.length]?=xw (.ins 1 []):=by simp
 have g1:ω1[ω.length]?=xw (.ins 1 []):=(K1.2 _ (by simp) (by simp)).trans g0;have l1:=K1.1;rw[bw] at l1;have hl:[Ob.ins 1 []].length=1:=rfl;have f1:∀ i,i<c->∀ n∈fp i,n≠ω.length:=fun i hi n hn z=>by
  have:=F1 i (by omega) (by omega) n hn
  rw[bw] at this;omega
 refine⟨ω1.set ω.length (.ins 1 [("hands",.lst ((bj c).map fun i=>.obj (hs i)))]),hs,fp,Fo e ?_,⟨cB g1,fun i hi=> ?_,fun i hi j hj=>A1 i (by omega) (by omega) j (by omega) (by omega),fun i hi z=>f1 i hi _ z rfl,fun i hi n hn=> ?_,⟨by simp;omega,fun n hn=> ?_⟩⟩⟩
 ·refine uZ (ρ1:=[xw (.obj ω.length),xw (.int c)]) rfl ?_;unfold mF;rw[kT (eM (ω2:=ω1) (jE (c:=c) (aB rfl) (by omega)) (by rw[gE,bt];omega) e1) (aB (d:=.obj ω.length) rfl) g1 (by simp)];rw[<- ur];rfl
 ·exact(H1 i (by omega) (by omega)).mono fun n hn=>aI (f1 i hi n hn)
 ·have:=F1 i (by omega) (by omega) n hn
  rw[bw] at this;omega
 ·rw[aI (by omega),K1.2 n (by simp;omega) (by simp),am hn]
noncomputable def MQ:List (List Key)->Nat->Bool
 |[],_=>true
 |k::r,acc=>match fD k with
  |some h=> !(acc.testBit (h % 4096).toNat)&&MQ r (acc|||(1<<<(h % 4096).toNat))
  |none=>false
theorem Ki (acc i j:Nat):(acc|||(1<<<i)).testBit j=(acc.testBit j||decide (j=i)):=by
 rw[Nat.testBit_or,Nat.testBit_shiftLeft]
 congr 1
 by_cases h:j=i
 ·subst h;simp
 ·rw[decide_eq_false h]
  by_cases h2:j≥i
  ·have:j-i≠0:=by omega
   obtain⟨n,hn⟩:∃ n,j-i=n+1:=⟨j-i-1,by omega⟩;rw[hn,Nat.testBit_succ];simp
  ·simp[h2]
theorem zC:∀ {l:List (List Key)}{acc:Nat},MQ l acc=true->∀ k∈l,∃ h,fD k=xw h/\acc.testBit (h % 4096).toNat=false
 |[],_,_,k,hk=>by simp at hk
 |k::r,acc,h,q,hq=>by
  unfold MQ at h;cases hh:fD k with
  |none=>rw[hh] at h;cases h
  |some a=>
   rw[hh] at h;have h':(!(acc.testBit (a % 4096).toNat)&&MQ r (acc|||(1<<<(a % 4096).toNat)))=true:=h;rw[bu] at h';rcases ak.mp hq with rfl|hq
   ·exact⟨a,hh,by simpa using h'.1⟩
   ·obtain⟨b,e1,e2⟩:=zC h'.2 q hq;rw[Ki,Bool.or_eq_false_iff] at e2;exact⟨b,e1,e2.1⟩
theorem GC:∀ {l:List (List Key)}{acc:Nat},MQ l acc=true->fB l=true
 |[],_,_=>rfl
 |k::r,acc,h=>by
  unfold MQ at h;cases hh:fD k with
  |none=>rw[hh] at h;cases h
  |some a=>
   rw[hh] at h;have h':(!(acc.testBit (a % 4096).toNat)&&MQ r (acc|||(1<<<(a % 4096).toNat)))=true:=h;rw[bu] at h'
   show((fD k).isSome&&r.all (fun k'=>match fD k,fD k' with
    |some a,xw b=>decide (a≠b)
    |_,_=>false)&&fB r)=true
   rw[bu,bu];refine⟨⟨by rw[hh];rfl,?_⟩,GC h'.2⟩;rw[fx];intro k' hk';obtain⟨b,e1,e2⟩:=zC h'.2 k' hk';rw[hh,e1];refine decide_eq_true fun z=> ?_;rw[Ki,<- z] at e2;simp at e2
theorem FG:fB (univ 8 fun _=>63)=true:=GC (acc:=0) (by decide+kernel)
noncomputable def nB (S:Nat->Hd) (i:Nat) (hd:Hd):Nat->Hd:=fun j=>if j=i then hd else S j
theorem gJ:nB S i hd i=hd:=if_pos rfl
theorem gH (h:j≠i):nB S i hd j=S j:=if_neg h
inductive Deed where
 |put (a:Int) (x:Str) (v:Int)
 |change (a:Int) (x:Str) (v:Int)
 |take (a:Int) (x:Str)
 |tell (a b:Int)
 |meet (a b:Int)
noncomputable def Deed.d:Deed->D
 |.put a x v=>.tup [.str "put",.int a,.str x,.int v]
 |.change a x v=>.tup [.str "change",.int a,.str x,.int v]
 |.take a x=>.tup [.str "take",.int a,.str x]
 |.tell a b=>.tup [.str "tell",.int a,.int b]
 |.meet a b=>.tup [.str "meet",.int a,.int b]
noncomputable def gY (S:Nat->Hd) (a b:Nat):Nat->Hd:=nB S b ((S b).hear b (S a) a)
noncomputable def uU (S:Nat->Hd) (a b:Nat):Int:=Qg ((S b).seen b) ((S a).seen a)
noncomputable def lY (S:Nat->Hd) (a b:Nat):Nat->Hd:=gY (gY (gY S a b) b a) a b
noncomputable def step (c:Nat) (S:Nat->Hd):Deed->D×(Nat->Hd)
 |.put a x v=>if 0<=a/\a<c then(mkD a.toNat ((S a.toNat).next a.toNat),nB S a.toNat ((S a.toNat).put a.toNat x v)) else(.str "no hand",S)
 |.change a x v=>if 0<=a/\a<c then(mkD a.toNat ((S a.toNat).next a.toNat),nB S a.toNat ((S a.toNat).change a.toNat x v)) else(.str "no hand",S)
 |.take a x=>if 0<=a/\a<c then((S a.toNat).takeA x,nB S a.toNat ((S a.toNat).take a.toNat x)) else(.str "no hand",S)
 |.tell a b=>if(0<=a/\a<c)/\(0<=b/\b<c) then(if a=b then(.str "same hand",S) else(.int (uU S a.toNat b.toNat),gY S a.toNat b.toNat)) else(.str "no hand",S)
 |.meet a b=>if(0<=a/\a<c)/\(0<=b/\b<c) then(if a=b then(.str "same hand",S) else(.tup [.int (uU (gY S a.toNat b.toNat) b.toNat a.toNat),.int (uU S a.toNat b.toNat)],lY S a.toNat b.toNat)) else(.str "no hand",S)
def HInv (c:Nat) (own:Nat->Nat) (S:Nat->Hd):Prop:=∀ a,a<c->(S a).In c own/\((S a).seen a).getD a 0=own a
theorem kA (own:Nat->Nat) (i:Nat):∀ c,tot c (cQ own i)=tot c own+if i<c then 1 else 0
 |0=>rfl
 |c+1=>by
  have ih:=kA own i c;unfold tot at ih ⊢;rw[jf,cf,cf,pq,pq,ih];simp only[bg,lu,List.sum_cons,List.sum_nil];unfold cQ
  by_cases h1:i<c
  ·rw[if_pos h1,if_neg (by omega),if_pos (by omega)];omega
  ·rw[if_neg h1]
   by_cases h2:c=i
   ·rw[if_pos h2,if_pos (by omega)];omega
   ·rw[if_neg h2,if_neg (by omega)];omega
theorem JP (own:Nat->Nat) (a:Nat):∀ c,a<c->own a<=tot c own
 |0,h=>by omega
 |c+1,h=>by
  have ih:=JP own a c;unfold tot at ih ⊢;rw[jf,cf,pq];simp only[bg,lu,List.sum_cons,List.sum_nil]
  by_cases h1:a<c
  ·have:=ih h1;omega
  ·have:a=c:=by omega
   subst this;omega
section
variable {B:Om}{c g i j:Nat}{own:Nat->Nat}{S:Nat->Hd}{ω ω':Om}{hs:Nat->Nat}{fp:Nat->List Nat}{hd':Hd}
theorem HInv.upd (I:HInv c own S) (W:hd'.In c own) (e:(hd'.seen i).getD i 0=own i):HInv c own (nB S i hd'):=fun a ha=>by
 by_cases h:a=i
 ·subst h;rw[gJ];exact⟨W,e⟩
 ·rw[gH h];exact I a ha
theorem HInv.updB (I:HInv c own S) (W:hd'.In c (cQ own i)) (e:(hd'.seen i).getD i 0=cQ own i i):HInv c (cQ own i) (nB S i hd'):=fun a ha=>by
 by_cases h:a=i
 ·subst h;rw[gJ];exact⟨W,e⟩
 ·rw[gH h];refine⟨(I a ha).1.mono (iP own i),?_⟩;rw[(I a ha).2];unfold cQ;rw[if_neg h]
theorem HallS.did (L:HallS B ω g c hs fp S) (hi:i<c) (D:Did ω (hs i) i (fp i) ω' hd'):∃ fp',HallS B ω' g c hs fp' (nB S i hd'):=by
 obtain⟨fi,H',K,F⟩:=D;refine⟨fun j=>if j=i then fi else fp j,⟨?_,fun j hj=> ?_,fun a ha b hb hne n hn=> ?_,fun j hj=> ?_,fun j hj n hn=> ?_,⟨ci L.bas.1 K.1,fun n hn=> ?_⟩⟩⟩
 ·rw[K.2 g (dH L.obj) (L.out i hi)];exact L.obj
 ·by_cases h:j=i
  ·subst h;rw[gJ];simp only[if_pos];exact H'
  ·rw[gH h];simp only[if_neg h];exact(L.hand j hj).mono fun n hn=>K.2 n ((L.hand j hj).lt n hn) fun z=>L.apart j hj i hi h n hn z
 ·by_cases h1:a=i
  ·simp only[if_pos h1] at hn
   by_cases h2:b=i
   ·exact absurd (h1.trans h2.symm) hne
   ·simp only[if_neg h2];intro z;rcases F n hn with q|q
    ·exact L.apart i hi b hb (fun w=>h2 w.symm) n q z
    ·have:=(L.hand b hb).lt n z
     omega
  ·simp only[if_neg h1] at hn
   by_cases h2:b=i
   ·simp only[if_pos h2];intro z;rcases F n z with q|q
    ·exact L.apart a ha i hi h1 n hn q
    ·have:=(L.hand a ha).lt n hn
     omega
   ·simp only[if_neg h2];exact L.apart a ha b hb hne n hn
 ·by_cases h:j=i
  ·simp only[if_pos h];intro z;rcases F g z with q|q
   ·exact L.out i hi q
   ·have:=dH L.obj
    omega
  ·simp only[if_neg h];exact L.out j hj
 ·by_cases h:j=i
  ·simp only[if_pos h] at hn;rcases F n hn with q|q
   ·exact L.low i hi n q
   ·exact ci L.bas.1 q
  ·simp only[if_neg h] at hn;exact L.low j hj n hn
 ·rw[K.2 n (b9 hn L.bas.1) fun z=>absurd hn (um.mpr (L.low i hi n z))];exact L.bas.2 n hn
end
section
variable {α β:Type}{f h fo:OG D}{fl:OG (List D)}{ρ:Rho}{ω ω1 ω2 ω3:Om}{a b d:D}{ds:List D}{F G:OS}{x:Nat}{r:Rz D}
theorem HZ {f:OG α}{g:α->OG β} (e:f ρ ω=xw (.ex x,ω1)):oB f g ρ ω=xw (.ex x,ω1):=by unfold oB;rw[e]
theorem Aq (e:fo ρ ω=xw (.ex x,ω1)):bL c m φ fo fl ρ ω=xw (.ex x,ω1):=HZ e
theorem xW (e:f ρ ω=xw (.ex x,ω1)):aC f fl ρ ω=xw (.ex x,ω1):=HZ e
theorem Fd (e1:f ρ ω=xw (.ok a,ω1)) (e2:fl ρ ω1=xw (.ex x,ω2)):aC f fl ρ ω=xw (.ex x,ω2):=by
 unfold aC;rw[bF e1,HZ e2]
theorem Pd (e:fl ρ ω=xw (.ex x,ω1)):oL g fl ρ ω=xw (.ex x,ω1):=HZ e
theorem Fc {f:OG α} (e:f ρ ω=xw (.ex x,ω1)):oX f g ρ ω=xw (.ex x,ω1):=by unfold oX;rw[e]
noncomputable def Kw:Rz D->OOut
 |.ok d=>.rt d
 |.ex c=>.ex c
theorem jD (e:f ρ ω=xw (r,ω1)):aS f ρ ω=xw (Kw r,ω1):=by
 cases r with
 |ok d=>exact bD e
 |ex c=>exact Fc e
theorem uY (e:F ρ ω=xw (Kw r,ω1)):aF F G ρ ω=xw (Kw r,ω1):=by
 unfold aF;rw[e];cases r <;> rfl
theorem dS (hl:ds.length=n) (e:G (cE N ds) ω=xw (Kw r,ω1)):eA n N G ds ω=xw (r,ω1):=by
 unfold eA;rw[if_pos hl,e];cases r <;> rfl
end
section
variable {B:Om}{c g i j:Nat}{own:Nat->Nat}{S:Nat->Hd}{ω ω':Om}{hs:Nat->Nat}{fp:Nat->List Nat}{hd':Hd}
theorem qA (L:HallS B ω g c hs fp S) (ef:f ρ ω=xw (.ok (.obj g),ω)):gB 1 "hands" f ρ ω=xw (.ok (.lst ((bj c).map fun i=>.obj (hs i))),ω):=fY ef L.obj rfl
theorem mB (L:HallS B ω g c hs fp S) (a:Int):bN [.obj g,.int a] ω=if 0<=a/\a<c then xw (.ok (.obj (hs a.toNat)),ω) else xw (.ex 0,ω):=by
 have len:oL gC (aC (gB 1 "hands" (zV 0)) aM) [xw (.obj g),xw (.int a)] ω=xw (.ok (.int c),ω):=cO (aA (qA L (aB rfl)) aD) (by
  show xw (D.int (((bj c).map fun i=>D.obj (hs i)).length:Nat),ω)=_;rw[ao,fk])
 have ch:tI gLe gLt (zI 0) (zV 1) (oL gC (aC (gB 1 "hands" (zV 0)) aM)) [xw (.obj g),xw (.int a)] ω=xw (.ok (decide (0<=a/\a<c)),ω):=by
  unfold tI;rw[bF aU,bF (aB (d:=.int a) rfl)]
  show(match xw (decide (0<=a)) with
   |none=>xx
   |some true=>oB _ (fun z _ ω=>oR (pu ((gLt (.int a) z).bind toB) ω)) [xw (.obj g),xw (.int a)] ω
   |some false=>xw (Rz.ok false,ω))=_
  by_cases h0:0<=a
  ·rw[decide_eq_true h0];show oB _ (fun z _ ω=>oR (pu ((gLt (.int a) z).bind toB) ω)) [xw (.obj g),xw (.int a)] ω=_;rw[bF len];show xw (Rz.ok (decide (a<(c:Int))),ω)=_;simp[h0]
  ·rw[decide_eq_false h0];simp[h0]
 have nt:iS (tI gLe gLt (zI 0) (zV 1) (oL gC (aC (gB 1 "hands" (zV 0)) aM))) [xw (.obj g),xw (.int a)] ω=xw (.ok (!decide (0<=a/\a<c)),ω):=by
  unfold iS;rw[bF ch]
 by_cases h:0<=a/\a<c
 ·rw[if_pos h];rw[decide_eq_true h] at nt;refine aT rfl ?_;unfold lE;rw[bA (ρ1:=[xw (.obj g),xw (.int a)]) (ω1:=ω) (by
   show dA _ _ _ [xw (.obj g),xw (.int a)] ω=_;rw[lN nt];rfl)]
  refine bD (aJ (qA L (aB rfl)) (aB (d:=.int a) rfl) ?_);show atI ((bj c).map fun i=>D.obj (hs i)) a=_;unfold atI ixN;rw[if_pos h.1,if_pos (by rw[ao,fk];exact h.2)]
  show((bj c).map fun i=>D.obj (hs i))[a.toNat]?=_
  rw[aw,c7 (by omega)];rfl
 ·rw[if_neg h];rw[decide_eq_false h] at nt;refine dS (r:=.ex 0) rfl ?_;unfold lE;refine uY (r:=.ex 0) ?_;show dA _ _ _ [xw (.obj g),xw (.int a)] ω=_;rw[mW nt];rfl
theorem Mi (h1:ρ[k]?=xw (xw (.int a))) (h2:ρ[l]?=xw (xw (.int b))):bS (o2 (iW 8) (zV k) (zV l)) ρ ω=xw (.ok (decide (a=b)),ω):=bR (dO (aB h1) (aB h2) rfl)
theorem qB (L:HallS B ω g c hs fp S) (a b:Int):bX [.obj g,.int a,.int b] ω=if(0<=a/\a<c)/\(0<=b/\b<c) then(if a=b then xw (.ex 1,ω) else xw (.ok (.tup [.obj (hs a.toNat),.obj (hs b.toNat)]),ω)) else xw (.ex 0,ω):=by
 have ha:=mB L a;have hb:=mB L b;have m1:∀ {r:Rz D}{fa:OG D}{n:Int},bN [.obj g,.int n] ω=xw (r,ω)->fa [xw (.obj g),xw (.int a),xw (.int b),xx] ω=xw (.ok (.int n),ω)->bL 1 "hand" bN (zV 0) (aC fa aM) [xw (.obj g),xw (.int a),xw (.int b),xx] ω=xw (r,ω):=fun e q=>bY (aB rfl) L.obj rfl (aA q aD) e
 by_cases h1:0<=a/\a<c
 ·rw[if_pos h1] at ha
  by_cases h2:0<=b/\b<c
  ·rw[if_pos h2] at hb;rw[if_pos ⟨h1,h2⟩];have tup:zT (aC (bL 1 "hand" bN (zV 0) (aC (zV 1) aM)) (aC (bL 1 "hand" bN (zV 0) (aC (zV 2) aM)) aM)) [xw (.obj g),xw (.int a),xw (.int b),xx] ω=xw (.ok (.tup [.obj (hs a.toNat),.obj (hs b.toNat)]),ω):=cO (aA (m1 ha (aB rfl)) (aA (m1 hb (aB rfl)) aD)) (by
    show pu (nP _) ω=_;unfold nP;rw[if_pos (by rw[bt];simp)];rfl)
   by_cases h3:a=b
   ·rw[if_pos h3];refine dS (r:=.ex 1) rfl ?_;unfold fX;refine(aK tup).trans ?_;refine uY (r:=.ex 1) ?_;rw[mW (ω1:=ω) (by rw[Mi (a:=a) (b:=b) rfl rfl,decide_eq_true h3])];rfl
   ·rw[if_neg h3];refine aT rfl ?_;unfold fX;refine(aK tup).trans ?_;rw[bA (ρ1:=[xw (.obj g),xw (.int a),xw (.int b),xw (.tup [.obj (hs a.toNat),.obj (hs b.toNat)])]) (ω1:=ω) (by
     rw[lN (ω1:=ω) (by rw[Mi (a:=a) (b:=b) rfl rfl,decide_eq_false h3])];rfl)]
    exact bD (aB rfl)
  ·rw[if_neg h2] at hb;rw[if_neg (fun z=>h2 z.2)];refine dS (r:=.ex 0) rfl ?_;unfold fX;refine uY (r:=.ex 0) (Fc (Pd (Fd (m1 ha (aB rfl)) (xW (m1 hb (aB rfl))))))
 ·rw[if_neg h1] at ha;rw[if_neg (fun z=>h1 z.1)];refine dS (r:=.ex 0) rfl ?_;unfold fX;refine uY (r:=.ex 0) (Fc (Pd (xW (m1 ha (aB rfl)))))
end
end L2.MB.Lw
end
section
namespace L2.MB.Lw
open PySem PySem.Spec PyProof.Rows L2.MB
section
variable {B:Om}{c g i j:Nat}{own:Nat->Nat}{S:Nat->Hd}{ω ω':Om}{hs:Nat->Nat}{fp:Nat->List Nat}{hd hd':Hd}
theorem Hd.In.hash (W:hd.In c own) (c8:c<=8) (ht:tot c own<64):fB (hd.kept.map (·.1))=true:=nG FG (fun k hk=>by
 obtain⟨kv,h1,rfl⟩:=ax.mp hk;obtain⟨a,b,h2,h3,h4,e⟩:=W.kk kv h1
 have:=JP own a c h2
 exact KeyIn.univ (own:=fun _=>63) ⟨a,b,by omega,h3,(by show b<=63;omega),e⟩) W.kn
theorem Iz (L:HallS B ω g c hs fp S) (I:HInv c own S) (c0:0<c) (c8:c<=8) (ht:tot c own<64) (hi:i<c) (hj:j<c) (hne:i≠j):∃ ω' fp',cL [.obj (hs i),.obj (hs j)] ω=xw (.ok (.int (uU S j i)),ω')/\HallS B ω' g c hs fp' (gY S j i)/\HInv c own (gY S j i):=by
 have Wi:=(I i hi).1;have Wj:=(I j hj).1;have Oi:=Wi.ok c0 c8 ht;have Oj:=Wj.ok c0 c8 ht;have H0:=Wi.hear0 Wj Oi Oj hi hj;obtain⟨ω',e,D⟩:=Rp (L.hand i hi) (L.hand j hj) (fun n hn=>L.apart i hi j hj hne n hn) Oi Oj hi hj (Wj.hash c8 ht) (H0.ok c0 c8 ht);obtain⟨fp',L'⟩:=L.did hi D;exact⟨ω',fp',e,L',I.upd H0.forget (Cf Wi Wj hi hj (I i hi).2)⟩
theorem Sz (L:HallS B ω g c hs fp S) (I:HInv c own S) (c0:0<c) (c8:c<=8) (ht:tot c own<63) (hi:i<c) (x:Str) (v:Int):∃ ω' fp',eL [.obj (hs i),.str x,.int v] ω=xw (.ok (mkD i ((S i).next i)),ω')/\HallS B ω' g c hs fp' (nB S i ((S i).put i x v))/\HInv c (cQ own i) (nB S i ((S i).put i x v)):=by
 have W:=(I i hi).1;have O:=W.ok c0 c8 (by omega);obtain⟨ω',e,D⟩:=RY (L.hand i hi) O hi x v;obtain⟨fp',L'⟩:=L.did hi D;exact⟨ω',fp',e,L',I.updB (W.put hi (I i hi).2 x v) (kL W hi (I i hi).2)⟩
theorem xB (hi:i<c) (ht:tot c own<63):tot c (cQ own i)<64:=by
 rw[kA,if_pos hi];omega
theorem MS (L:HallS B ω g c hs fp S) (I:HInv c own S) (c0:0<c) (c8:c<=8) (ht:tot c own<63) (hi:i<c) (x:Str) (v:Int):∃ ω' fp',dW [.obj (hs i),.str x,.int v] ω=xw (.ok (mkD i ((S i).next i)),ω')/\HallS B ω' g c hs fp' (nB S i ((S i).change i x v))/\HInv c (cQ own i) (nB S i ((S i).change i x v)):=by
 have W:=(I i hi).1;have O:=W.ok c0 c8 (by omega);have P:=W.put hi (I i hi).2 x v;have T:=P.takeOut0 (mk:=gA i ((S i).next i)) (ks:=(S i).marksK x) (lW hi (I i hi).2) (O.marksLen x) fun q hq=>(W.marks O x q hq).mono (iP own i);obtain⟨ω',e,D⟩:=MR (L.hand i hi) O hi x v (T.ok c0 c8 (xB hi ht));obtain⟨fp',L'⟩:=L.did hi D;exact⟨ω',fp',e,L',I.updB T.forget (kL W hi (I i hi).2)⟩
theorem Qt (L:HallS B ω g c hs fp S) (I:HInv c own S) (c0:0<c) (c8:c<=8) (ht:tot c own<63) (hi:i<c) (x:Str):∃ ω' fp' own',fP [.obj (hs i),.str x] ω=xw (.ok ((S i).takeA x),ω')/\HallS B ω' g c hs fp' (nB S i ((S i).take i x))/\HInv c own' (nB S i ((S i).take i x))/\tot c own'<=tot c own+1:=by
 have W:=(I i hi).1;have O:=W.ok c0 c8 (by omega);have P:=W.bump hi (I i hi).2;have T:=P.takeOut0 (mk:=gA i ((S i).next i)) (ks:=(S i).marksK x) (lW hi (I i hi).2) (O.marksLen x) fun q hq=>(W.marks O x q hq).mono (iP own i);obtain⟨ω',e,D⟩:=Qs (L.hand i hi) O hi x (T.ok c0 c8 (xB hi ht));obtain⟨fp',L'⟩:=L.did hi D
 by_cases hm:(S i).marksK x=[]
 ·refine⟨ω',fp',own,e,L',?_,by omega⟩
  have:(S i).take i x=S i:=by unfold Hd.take;rw[if_pos hm]
  rw[this];exact I.upd W (I i hi).2
 ·refine⟨ω',fp',cQ own i,e,L',?_,by rw[kA,if_pos hi];omega⟩
  have:(S i).take i x=((S i).bump i).takeOut (gA i ((S i).next i)) ((S i).marksK x):=by unfold Hd.take;rw[if_neg hm]
  rw[this];exact I.updB T.forget (kL W hi (I i hi).2)
theorem Cb (h:ρ[2]?=xw (xw (.str y))):bS (o2 (iW 8) (zV 2) (zS y)) ρ ω=xw (.ok true,ω):=bR (dO (aB h) aU (by
 show pu ((eqD 8 (.str y) (.str y)).map D.bl) ω=_;rw[iK,decide_eq_true rfl];rfl))
theorem kP (h:ρ[2]?=xw (xw (.str x))) (hne:x≠y):bS (o2 (iW 8) (zV 2) (zS y)) ρ ω=xw (.ok false,ω):=bR (dO (aB h) aU (by
 show pu ((eqD 8 (.str x) (.str y)).map D.bl) ω=_;rw[iK,decide_eq_false hne];rfl))
theorem skip (e:t ρ ω=xw (.ok false,ω)):aF (dA t F bG) G ρ ω=G ρ ω:=bA (by rw[lN e];rfl)
theorem Dv (e:t ρ ω=xw (.ok true,ω)) (e2:f ρ ω=xw (r,ω')):aF (dA t (aS f) bG) G ρ ω=xw (Kw r,ω'):=uY (by rw[mW e];exact jD e2)
variable {fs:List (Str×D)}{r:Rz D}{a b v:Int}{x:Str}
theorem Cv (ho:ω[g]?=xw (.ins 1 fs)) (hf:fs.lookup ("put":Str)=xx) (e:gS [.obj g,.int a,.str x,.int v] ω=xw (r,ω')):kN [.obj g,(Deed.put a x v).d] ω=xw (r,ω'):=by
 refine dS rfl ?_;unfold tY;rw[aK (d:=.str "put") (aJ (aB (d:=(Deed.put a x v).d) rfl) aU rfl)];exact Dv (Cb rfl) (bY (aB (d:=.obj g) rfl) ho hf (aA (aJ (aB (d:=(Deed.put a x v).d) rfl) aU rfl) (aA (aJ (aB (d:=(Deed.put a x v).d) rfl) aU rfl) (aA (aJ (aB (d:=(Deed.put a x v).d) rfl) aU rfl) aD))) e)
theorem qN (ho:ω[g]?=xw (.ins 1 fs)) (hf:fs.lookup ("change":Str)=xx) (e:dX [.obj g,.int a,.str x,.int v] ω=xw (r,ω')):kN [.obj g,(Deed.change a x v).d] ω=xw (r,ω'):=by
 refine dS rfl ?_;unfold tY;rw[aK (d:=.str "change") (aJ (aB (d:=(Deed.change a x v).d) rfl) aU rfl)];rw[skip (kP (x:="change") rfl (by decide))];exact Dv (Cb rfl) (bY (aB (d:=.obj g) rfl) ho hf (aA (aJ (aB (d:=(Deed.change a x v).d) rfl) aU rfl) (aA (aJ (aB (d:=(Deed.change a x v).d) rfl) aU rfl) (aA (aJ (aB (d:=(Deed.change a x v).d) rfl) aU rfl) aD))) e)
theorem yW (ho:ω[g]?=xw (.ins 1 fs)) (hf:fs.lookup ("take":Str)=xx) (e:fR [.obj g,.int a,.str x] ω=xw (r,ω')):kN [.obj g,(Deed.take a x).d] ω=xw (r,ω'):=by
 refine dS rfl ?_;unfold tY;rw[aK (d:=.str "take") (aJ (aB (d:=(Deed.take a x).d) rfl) aU rfl)];rw[skip (kP (x:="take") rfl (by decide)),skip (kP (x:="take") rfl (by decide))];exact Dv (Cb rfl) (bY (aB (d:=.obj g) rfl) ho hf (aA (aJ (aB (d:=(Deed.take a x).d) rfl) aU rfl) (aA (aJ (aB (d:=(Deed.take a x).d) rfl) aU rfl) aD)) e)
theorem qL (ho:ω[g]?=xw (.ins 1 fs)) (hf:fs.lookup ("tell":Str)=xx) (e:fQ [.obj g,.int a,.int b] ω=xw (r,ω')):kN [.obj g,(Deed.tell a b).d] ω=xw (r,ω'):=by
 refine dS rfl ?_;unfold tY;rw[aK (d:=.str "tell") (aJ (aB (d:=(Deed.tell a b).d) rfl) aU rfl)];rw[skip (kP (x:="tell") rfl (by decide)),skip (kP (x:="tell") rfl (by decide)),skip (kP (x:="tell") rfl (by decide))];exact Dv (Cb rfl) (bY (aB (d:=.obj g) rfl) ho hf (aA (aJ (aB (d:=(Deed.tell a b).d) rfl) aU rfl) (aA (aJ (aB (d:=(Deed.tell a b).d) rfl) aU rfl) aD)) e)
theorem qM (ho:ω[g]?=xw (.ins 1 fs)) (hf:fs.lookup ("meet":Str)=xx) (e:fS [.obj g,.int a,.int b] ω=xw (r,ω')):kN [.obj g,(Deed.meet a b).d] ω=xw (r,ω'):=by
 refine dS rfl ?_;unfold tY;rw[aK (d:=.str "meet") (aJ (aB (d:=(Deed.meet a b).d) rfl) aU rfl)];rw[skip (kP (x:="meet") rfl (by decide)),skip (kP (x:="meet") rfl (by decide)),skip (kP (x:="meet") rfl (by decide)),skip (kP (x:="meet") rfl (by decide))];exact jD (bY (aB (d:=.obj g) rfl) ho hf (aA (aJ (aB (d:=(Deed.meet a b).d) rfl) aU rfl) (aA (aJ (aB (d:=(Deed.meet a b).d) rfl) aU rfl) aD)) e)
theorem HallS.handObj (L:HallS B ω g c hs fp S) (hi:i<c):∃ fs,ω[hs i]?=xw (.ins 0 fs)/\fs.lookup ("put":Str)=xx/\fs.lookup ("change":Str)=xx/\fs.lookup ("take":Str)=xx/\fs.lookup ("hear":Str)=xx:=by
 obtain⟨k,t,e,h⟩:=(L.hand i hi).obj;exact⟨_,h,rfl,rfl,rfl,rfl⟩
theorem Mo (L:HallS B ω g c hs fp S) (ef:f ρ ω=xw (.ok (.obj g),ω)) (ea:fa ρ ω=xw (.ok (.int a),ω)) (h:0<=a/\a<c):bL 1 "hand" bN f (aC fa aM) ρ ω=xw (.ok (.obj (hs a.toNat)),ω):=bY ef L.obj rfl (aA ea aD) (by rw[mB L a,if_pos h])
theorem Mn (L:HallS B ω g c hs fp S) (ef:f ρ ω=xw (.ok (.obj g),ω)) (ea:fa ρ ω=xw (.ok (.int a),ω)) (h:¬(0<=a/\a<c)):bL 1 "hand" bN f (aC fa aM) ρ ω=xw (.ex 0,ω):=bY ef L.obj rfl (aA ea aD) (by rw[mB L a,if_neg h])
theorem IA (L:HallS B ω g c hs fp S) (h:0<=a/\a<c) (e:eL [.obj (hs a.toNat),.str x,.int v] ω=xw (r,ω')):gS [.obj g,.int a,.str x,.int v] ω=xw (r,ω'):=by
 obtain⟨fs,ho,h1,_⟩:=L.handObj (i:=a.toNat) (by omega);exact dS rfl (jD (bY (Mo L (aB rfl) (aB rfl) h) ho h1 (aA (aB rfl) (aA (aB rfl) aD)) e))
theorem FN (L:HallS B ω g c hs fp S) (h:¬(0<=a/\a<c)):gS [.obj g,.int a,.str x,.int v] ω=xw (.ex 0,ω):=dS (r:=.ex 0) rfl (jD (Aq (Mn (a:=a) L (aB rfl) (aB rfl) h)))
theorem Ax (L:HallS B ω g c hs fp S) (h:0<=a/\a<c) (e:dW [.obj (hs a.toNat),.str x,.int v] ω=xw (r,ω')):dX [.obj g,.int a,.str x,.int v] ω=xw (r,ω'):=by
 obtain⟨fs,ho,_,h1,_⟩:=L.handObj (i:=a.toNat) (by omega);exact dS rfl (jD (bY (Mo L (aB rfl) (aB rfl) h) ho h1 (aA (aB rfl) (aA (aB rfl) aD)) e))
theorem yK (L:HallS B ω g c hs fp S) (h:¬(0<=a/\a<c)):dX [.obj g,.int a,.str x,.int v] ω=xw (.ex 0,ω):=dS (r:=.ex 0) rfl (jD (Aq (Mn (a:=a) L (aB rfl) (aB rfl) h)))
theorem FL (L:HallS B ω g c hs fp S) (h:0<=a/\a<c) (e:fP [.obj (hs a.toNat),.str x] ω=xw (r,ω')):fR [.obj g,.int a,.str x] ω=xw (r,ω'):=by
 obtain⟨fs,ho,_,_,h1,_⟩:=L.handObj (i:=a.toNat) (by omega);exact dS rfl (jD (bY (Mo L (aB rfl) (aB rfl) h) ho h1 (aA (aB rfl) aD) e))
theorem Dw (L:HallS B ω g c hs fp S) (h:¬(0<=a/\a<c)):fR [.obj g,.int a,.str x] ω=xw (.ex 0,ω):=dS (r:=.ex 0) rfl (jD (Aq (Mn (a:=a) L (aB rfl) (aB rfl) h)))
theorem HJ {p:Option (Rz D×Om)} (L:HallS B ω g c hs fp S) (ef:f ρ ω=xw (.ok (.obj g),ω)) (ea:fa ρ ω=xw (.ok (.int a),ω)) (eb:fb ρ ω=xw (.ok (.int b),ω)) (e:bX [.obj g,.int a,.int b] ω=xw (r,ω)):bL 1 "pair" bX f (aC fa (aC fb aM)) ρ ω=xw (r,ω):=bY ef L.obj rfl (aA ea (aA eb aD)) e
theorem JN (L:HallS B ω g c hs fp S) (h:(0<=a/\a<c)/\(0<=b/\b<c)) (hne:a≠b):bX [.obj g,.int a,.int b] ω=xw (.ok (.tup [.obj (hs a.toNat),.obj (hs b.toNat)]),ω):=by rw[qB L,if_pos h,if_neg hne]
theorem JO (L:HallS B ω g c hs fp S) (h:(0<=a/\a<c)/\(0<=b/\b<c)) (hne:a=b):bX [.obj g,.int a,.int b] ω=xw (.ex 1,ω):=by rw[qB L,if_pos h,if_pos hne]
theorem JM (L:HallS B ω g c hs fp S) (h:¬((0<=a/\a<c)/\(0<=b/\b<c))):bX [.obj g,.int a,.int b] ω=xw (.ex 0,ω):=by rw[qB L,if_neg h]
theorem tV (L:HallS B ω g c hs fp S) (e:bX [.obj g,.int a,.int b] ω=xw (.ex n,ω)):fQ [.obj g,.int a,.int b] ω=xw (.ex n,ω):=by
 refine dS (r:=.ex n) rfl ?_;unfold lC;exact uY (r:=.ex n) (Fc (HJ (p:=xx) L (aB rfl) (aB rfl) (aB rfl) e))
theorem tW (L:HallS B ω g c hs fp S) (e:bX [.obj g,.int a,.int b] ω=xw (.ex n,ω)):fS [.obj g,.int a,.int b] ω=xw (.ex n,ω):=by
 refine dS (r:=.ex n) rfl ?_;unfold lD;exact uY (r:=.ex n) (Fc (HJ (p:=xx) L (aB rfl) (aB rfl) (aB rfl) e))
theorem FK (L:HallS B ω g c hs fp S) (h:(0<=a/\a<c)/\(0<=b/\b<c)) (hne:a≠b) (e:cL [.obj (hs b.toNat),.obj (hs a.toNat)] ω=xw (r,ω')):fQ [.obj g,.int a,.int b] ω=xw (r,ω'):=by
 obtain⟨fs,ho,_,_,_,h1⟩:=L.handObj (i:=b.toNat) (by omega);refine dS rfl ?_;unfold lC;rw[aK (HJ (p:=xx) L (aB rfl) (aB rfl) (aB rfl) (JN L h hne))];exact jD (bY (aJ (aB (d:=.tup [.obj (hs a.toNat),.obj (hs b.toNat)]) rfl) aU rfl) ho h1 (aA (aJ (aB (d:=.tup [.obj (hs a.toNat),.obj (hs b.toNat)]) rfl) aU rfl) aD) e)
theorem FO (L:HallS B ω g c hs fp S) (I:HInv c own S) (c0:0<c) (c8:c<=8) (ht:tot c own<64) (h:(0<=a/\a<c)/\(0<=b/\b<c)) (hne:a≠b):∃ ω' fp',fS [.obj g,.int a,.int b] ω=xw (.ok (.tup [.int (uU (gY S a.toNat b.toNat) b.toNat a.toNat),.int (uU S a.toNat b.toNat)]),ω')/\HallS B ω' g c hs fp' (lY S a.toNat b.toNat)/\HInv c own (lY S a.toNat b.toNat):=by
 have ha:a.toNat<c:=by omega
 have hb:b.toNat<c:=by omega
 have hn:a.toNat≠b.toNat:=by omega
 obtain⟨ω1,fp1,e1,L1,I1⟩:=Iz L I c0 c8 ht hb ha (bx hn);obtain⟨ω2,fp2,e2,L2,I2⟩:=Iz L1 I1 c0 c8 ht ha hb hn;obtain⟨ω3,fp3,e3,L3,I3⟩:=Iz L2 I2 c0 c8 ht hb ha (bx hn);refine⟨ω3,fp3,?_,L3,I3⟩;obtain⟨fs0,ho0,_,_,_,h0⟩:=L.handObj hb;obtain⟨fs1,ho1,_,_,_,h1⟩:=L1.handObj ha;obtain⟨fs2,ho2,_,_,_,h2⟩:=L2.handObj hb;refine aT rfl ?_;unfold lD;rw[aK (HJ (p:=xx) L (aB rfl) (aB rfl) (aB rfl) (JN L h hne))];rw[aK (bY (aJ (aB (d:=.tup [.obj (hs a.toNat),.obj (hs b.toNat)]) rfl) aU rfl) ho0 h0 (aA (aJ (aB (d:=.tup [.obj (hs a.toNat),.obj (hs b.toNat)]) rfl) aU rfl) aD) e1)];rw[aK (d:=.tup [.int (uU (gY S a.toNat b.toNat) b.toNat a.toNat),.int (uU S a.toNat b.toNat)]) (ω1:=ω2) (cO (aA (bY (aJ (aB (d:=.tup [.obj (hs a.toNat),.obj (hs b.toNat)]) rfl) aU rfl) ho1 h1 (aA (aJ (aB (d:=.tup [.obj (hs a.toNat),.obj (hs b.toNat)]) rfl) aU rfl) aD) e2) (aA (aB (d:=.int (uU S a.toNat b.toNat)) rfl) aD)) (by
  show pu (nP _) ω2=_;unfold nP;rw[if_pos (by rw[bt];simp)];rfl))]
 rw[bA (ω1:=ω3) (by
  unfold bT;rw[bV (bY (aJ (aB (d:=.tup [.obj (hs a.toNat),.obj (hs b.toNat)]) rfl) aU rfl) ho2 h2 (aA (aJ (aB (d:=.tup [.obj (hs a.toNat),.obj (hs b.toNat)]) rfl) aU rfl) aD) e3)])]
 exact bD (aB rfl)
theorem wY (e:kN [.obj g,d] ω=xw (.ok y,ω')):eK [.obj g,d] ω=xw (.ok y,ω'):=aT rfl (by
 unfold iI xL;rw[bD (aR (aA (aB rfl) (aA (aB rfl) aD)) e)])
theorem Ek (e:kN [.obj g,d] ω=xw (.ex 0,ω')):eK [.obj g,d] ω=xw (.ok (.str "no hand"),ω'):=aT rfl (by
 unfold iI xL;rw[jD (r:=.ex 0) (aR (aA (aB rfl) (aA (aB rfl) aD)) e)];rfl)
theorem Nl (e:kN [.obj g,d] ω=xw (.ex 1,ω')):eK [.obj g,d] ω=xw (.ok (.str "same hand"),ω'):=aT rfl (by
 unfold iI xL;rw[jD (r:=.ex 1) (aR (aA (aB rfl) (aA (aB rfl) aD)) e)];rfl)
theorem GO (L:HallS B ω g c hs fp S) (I:HInv c own S) (c0:0<c) (c8:c<=8) (ht:tot c own<63) (d:Deed):∃ ω' fp' own',eK [.obj g,d.d] ω=xw (.ok (step c S d).1,ω')/\HallS B ω' g c hs fp' (step c S d).2/\HInv c own' (step c S d).2/\tot c own'<=tot c own+1:=by
 cases d with
 |put a x v=>
  show ∃ ω' fp' own',_=xw (Rz.ok (if 0<=a/\a<(c:Int) then(_,_) else(_,_):D×(Nat->Hd)).1,ω')/\HallS B ω' g c hs fp' (if 0<=a/\a<(c:Int) then(_,_) else(_,_):D×(Nat->Hd)).2/\HInv c own' (if 0<=a/\a<(c:Int) then(_,_) else(_,_):D×(Nat->Hd)).2/\_
  by_cases h:0<=a/\a<c
  ·rw[if_pos h];obtain⟨ω',fp',e,L',I'⟩:=Sz L I c0 c8 ht (i:=a.toNat) (by omega) x v;exact⟨ω',fp',_,wY (Cv L.obj rfl (IA L h e)),L',I',by rw[kA,if_pos (by omega)];omega⟩
  ·rw[if_neg h];exact⟨ω,fp,own,Ek (Cv L.obj rfl (FN L h)),L,I,by omega⟩
 |change a x v=>
  show ∃ ω' fp' own',_=xw (Rz.ok (if 0<=a/\a<(c:Int) then(_,_) else(_,_):D×(Nat->Hd)).1,ω')/\HallS B ω' g c hs fp' (if 0<=a/\a<(c:Int) then(_,_) else(_,_):D×(Nat->Hd)).2/\HInv c own' (if 0<=a/\a<(c:Int) then(_,_) else(_,_):D×(Nat->Hd)).2/\_
  by_cases h:0<=a/\a<c
  ·rw[if_pos h];obtain⟨ω',fp',e,L',I'⟩:=MS L I c0 c8 ht (i:=a.toNat) (by omega) x v;exact⟨ω',fp',_,wY (qN L.obj rfl (Ax L h e)),L',I',by rw[kA,if_pos (by omega)];omega⟩
  ·rw[if_neg h];exact⟨ω,fp,own,Ek (qN L.obj rfl (yK L h)),L,I,by omega⟩
 |take a x=>
  show ∃ ω' fp' own',_=xw (Rz.ok (if 0<=a/\a<(c:Int) then(_,_) else(_,_):D×(Nat->Hd)).1,ω')/\HallS B ω' g c hs fp' (if 0<=a/\a<(c:Int) then(_,_) else(_,_):D×(Nat->Hd)).2/\HInv c own' (if 0<=a/\a<(c:Int) then(_,_) else(_,_):D×(Nat->Hd)).2/\_
  by_cases h:0<=a/\a<c
  ·rw[if_pos h];obtain⟨ω',fp',own',e,L',I',t'⟩:=Qt L I c0 c8 ht (i:=a.toNat) (by omega) x;exact⟨ω',fp',own',wY (yW L.obj rfl (FL L h e)),L',I',t'⟩
  ·rw[if_neg h];exact⟨ω,fp,own,Ek (yW L.obj rfl (Dw L h)),L,I,by omega⟩
 |tell a b=>
  show ∃ ω' fp' own',_=xw (Rz.ok (if(0<=a/\a<(c:Int))/\(0<=b/\b<(c:Int)) then(if a=b then(_,_) else(_,_)) else(_,_):D×(Nat->Hd)).1,ω')/\HallS B ω' g c hs fp' (if(0<=a/\a<(c:Int))/\(0<=b/\b<(c:Int)) then(if a=b then(_,_) else(_,_)) else(_,_):D×(Nat->Hd)).2/\HInv c own' (if(0<=a/\a<(c:Int))/\(0<=b/\b<(c:Int)) then(if a=b then(_,_) else(_,_)) else(_,_):D×(Nat->Hd)).2/\_
  by_cases h:(0<=a/\a<(c:Int))/\(0<=b/\b<(c:Int))
  ·rw[if_pos h]
   by_cases hab:a=b
   ·rw[if_pos hab];exact⟨ω,fp,own,Nl (qL L.obj rfl (tV L (JO L h hab))),L,I,by omega⟩
   ·rw[if_neg hab];obtain⟨ω',fp',e,L',I'⟩:=Iz L I c0 c8 (by omega) (i:=b.toNat) (j:=a.toNat) (by omega) (by omega) (by omega);exact⟨ω',fp',own,wY (qL L.obj rfl (FK L h hab e)),L',I',by omega⟩
  ·rw[if_neg h];exact⟨ω,fp,own,Ek (qL L.obj rfl (tV L (JM L h))),L,I,by omega⟩
 |meet a b=>
  show ∃ ω' fp' own',_=xw (Rz.ok (if(0<=a/\a<(c:Int))/\(0<=b/\b<(c:Int)) then(if a=b then(_,_) else(_,_)) else(_,_):D×(Nat->Hd)).1,ω')/\HallS B ω' g c hs fp' (if(0<=a/\a<(c:Int))/\(0<=b/\b<(c:Int)) then(if a=b then(_,_) else(_,_)) else(_,_):D×(Nat->Hd)).2/\HInv c own' (if(0<=a/\a<(c:Int))/\(0<=b/\b<(c:Int)) then(if a=b then(_,_) else(_,_)) else(_,_):D×(Nat->Hd)).2/\_
  by_cases h:(0<=a/\a<(c:Int))/\(0<=b/\b<(c:Int))
  ·rw[if_pos h]
   by_cases hab:a=b
   ·rw[if_pos hab];exact⟨ω,fp,own,Nl (qM L.obj rfl (tW L (JO L h hab))),L,I,by omega⟩
   ·rw[if_neg hab];obtain⟨ω',fp',e,L',I'⟩:=FO L I c0 c8 (by omega) h hab;exact⟨ω',fp',own,wY (qM L.obj rfl e),L',I',by omega⟩
  ·rw[if_neg h];exact⟨ω,fp,own,Ek (qM L.obj rfl (tW L (JM L h))),L,I,by omega⟩
end
def Pl:Nat->D->Prop
 |_,.non=>True
 |_,.bl _=>True
 |_,.int _=>True
 |_,.str _=>True
 |n+1,.lst ds=>ds.length<=1000/\∀ d∈ds,Pl n d
 |n+1,.tup ds=>ds.length<=1000/\∀ d∈ds,Pl n d
 |_,_=>False
theorem Pl.int (n:Nat) (i:Int):Pl n (.int i):=by cases n <;> trivial
theorem Pl.str (n:Nat) (x:Str):Pl n (.str x):=by cases n <;> trivial
theorem Pl.tup2 (h1:Pl n a) (h2:Pl n b):Pl (n+1) (.tup [a,b]):=⟨by simp,fun d hd=>by
 simp only[ak,cr,or_false] at hd;rcases hd with rfl|rfl
 ·exact h1
 ·exact h2⟩
noncomputable def jB (c:Nat):List Deed->(Nat->Hd)->List D×(Nat->Hd)
 |[],S=>([],S)
 |d::r,S=>((step c S d).1::(jB c r (step c S d).2).1,(jB c r (step c S d).2).2)
noncomputable def iX (c:Nat) (ds:List Deed):Nat->Hd:=(jB c ds fun _=>Hd0 c).2
section
variable {B:Om}{c g i j:Nat}{own:Nat->Nat}{S:Nat->Hd}{ω ω':Om}{hs:Nat->Nat}{fp:Nat->List Nat}
theorem Qe (c:Nat):HInv c (fun _=>0) (fun _=>Hd0 c):=fun a ha=>by
 have hz:∀ n m:Nat,(aj n (0:Int)).getD m 0=0:=fun n m=>by
  rw[ay,dc];split <;> rfl
 refine⟨⟨by simp[Hd0],fun xs hx=> ?_,fun xs hx b hb=> ?_,fun kv h=>by simp[Hd0] at h,by simp[Hd0],fun kv h=>by simp[Hd0] at h,fun kv h=>by simp[Hd0] at h,by simp[Hd0]⟩,?_⟩
 ·rw[(vt.mp hx).2,jw]
 ·rw[(vt.mp hx).2,hz];exact⟨ir _,ir _⟩
 ·show((aj c (aj c (0:Int))).getD a []).getD a 0=0
  have e1:(aj c (aj c (0:Int))).getD a []=aj c 0:=by
   rw[ay,dc,if_pos ha];rfl
  rw[e1];exact hz c a
theorem Qr:∀ c,tot c (fun _=>0)=0
 |0=>rfl
 |c+1=>by
  have ih:=Qr c;unfold tot at ih ⊢;rw[jf,cf,pq,ih];rfl
theorem uO (c0:0<c) (c8:c<=8):∀(ds:List Deed) {u:Option D}{S:Nat->Hd}{ω:Om}{fp:Nat->List Nat}{own:Nat->Nat},HallS B ω g c hs fp S->HInv c own S->tot c own+ds.length<64->∃ v ω' fp' own',bP (aW 3) bO eO (ds.map Deed.d) [xw n,xw l,xw (.obj g),u] ω=xw (.nx [xw n,xw l,xw (.obj g),v],ω')/\HallS B ω' g c hs fp' (jB c ds S).2/\HInv c own' (jB c ds S).2/\tot c own'<64
 |[],u,S,ω,fp,own,L,I,ht=>⟨u,ω,fp,own,rfl,L,I,by simpa using ht⟩
 |d::ds,u,S,ω,fp,own,L,I,ht=>by
  rw[b7] at ht;obtain⟨ω1,fp1,own1,e1,L1,I1,t1⟩:=GO L I c0 c8 (by omega) d;obtain⟨v,ω2,fp2,own2,e2,L2,I2,t2⟩:=uO c0 c8 ds (u:=xw d.d) L1 I1 (by omega);refine⟨v,ω2,fp2,own2,?_,L2,I2,t2⟩;have b1:eO [xw n,xw l,xw (.obj g),xw d.d] ω=xw (.nx [xw n,xw l,xw (.obj g),xw d.d],ω1):=by
   unfold eO bT;rw[bV (aR (aA (aB (d:=.obj g) rfl) (aA (aB (d:=d.d) rfl) aD)) e1)]
  show(match eO [xw n,xw l,xw (.obj g),xw d.d] ω with
   |none=>xx
   |some (.nx ρ2,ω2)=>bP (aW 3) bO eO (ds.map Deed.d) ρ2 ω2
   |some (.ct ρ2,ω2)=>bP (aW 3) bO eO (ds.map Deed.d) ρ2 ω2
   |some (.bk ρ2,ω2)=>xw (.nx ρ2,ω2)
   |some (.rt d,ω2)=>xw (.rt d,ω2)
   |some (.ex _,_)=>xx)=_
  rw[b1];exact e2
theorem uH:∀ {l:List Nat}{u:Option D},(∀ i∈l,F [xw (.obj (hs i))] ω=xw (.ok (R i),ω))->compLO (aW 0) bO (oPT jV) F (l.map fun i=>.obj (hs i)) [u] ω=xw (l.map R,ω)
 |[],u,_=>rfl
 |i::l,u,h=>by
  have ih:=uH (F:=F) (R:=R) (l:=l) (u:=xw (.obj (hs i))) fun j hj=>h j (ai _ hj)
  show(match F [xw (.obj (hs i))] ω with
   |some (.ok y,ω2)=>(compLO (aW 0) bO (oPT jV) F (l.map fun i=>.obj (hs i)) [xw (.obj (hs i))] ω2).map fun r:List D×Om=>(y::r.1,r.2)
   |_=>xx)=_
  rw[h i aq]
  show(compLO _ _ _ _ _ _ _).map _=_
  rw[ih];rfl
theorem mK (L:HallS B ω g c hs fp S) (c8:c<=8) (ef:f ρ ω=xw (.ok (.obj g),ω)) (h:∀ i,i<c->F [xw (.obj (hs i))] ω=xw (.ok (R i),ω)):cP rS (oIL (gB 1 "hands" f)) [xx] (aW 0) (oPT jV) F ρ ω=xw (.ok (.lst ((bj c).map R)),ω):=by
 refine eM (ds:=(bj c).map fun i=>.obj (hs i)) (chk:=bO) (ω1:=ω) ?_ (by rw[ao,fk,bt];omega) (uH fun i hi=>h i (ic.mp hi));unfold oIL;rw[bF (qA L ef)];rfl
noncomputable def BJ (c:Nat) (S:Nat->Hd):D:=.lst ((bj c).map fun i=>.lst (S i).ents)
noncomputable def BK (c:Nat) (S:Nat->Hd):D:=.lst ((bj c).map fun i=>.lst (iv ((S i).seen i)))
noncomputable def Af (c:Nat) (S:Nat->Hd):D:=.lst ((bj c).map fun i=>.lst ((S i).knows.map fun xs=>.lst (iv xs)))
noncomputable def Kx (c:Nat) (S:Nat->Hd):D:=.lst ((bj c).map fun i=>.lst (S i).mind)
theorem Jz (c0:0<c) (c8:c<=8) (hl:ds.length<64) (ω:Om):∃ ω',Ak [.int c,.lst (ds.map Deed.d)] ω=xw (.ok (.tup [BJ c (iX c ds),BK c (iX c ds),Af c (iX c ds),Kx c (iX c ds)]),ω')/\Keep [] ω ω'/\∃ own,HInv c own (iX c ds)/\tot c own<64:=by
 obtain⟨ω1,hs,fp,e1,L1⟩:=FP (ω:=ω) c8 (fl:=aC (zV 0) aM) (ρ:=cE GW [.int c,.lst (ds.map Deed.d)]) (aA (aB rfl) aD);obtain⟨v,ω2,fp2,own2,e2,L2,I2,t2⟩:=uO c0 c8 (n:=.int c) (l:=.lst (ds.map Deed.d)) ds (u:=xx) L1 (Qe c) (by rw[Qr];omega);refine⟨ω2,?_,⟨L2.bas.1,fun n hn _=>L2.bas.2 n hn⟩,own2,I2,t2⟩;refine aT rfl ?_;unfold FT;rw[aK e1];rw[bA (eY (by
  unfold bI oIL;rw[bV (x:=(ds.map Deed.d,bO)) (ω1:=ω1) (by rw[bF (aB (d:=.lst (ds.map Deed.d)) rfl)];rfl)];exact e2))]
 have K:∀ i,i<c->(iX c ds i).Ok c:=fun i hi=>(I2 i hi).1.ok c0 c8 t2;have a1:=mK (ρ:=[xw (.int c),xw (.lst (ds.map Deed.d)),xw (.obj ω.length),v]) (F:=bL 0 "entries" bU (zV 0) aM) (R:=fun i=>.lst (iX c ds i).ents) (f:=zV 2) L2 c8 (aB rfl) fun i hi=>by
  obtain⟨k,t,e,rs,H,_⟩:=L2.hand i hi;exact cH (aB rfl) H.obj rfl (kK H (K i hi).ents.1)
 have a2:=mK (ρ:=[xw (.int c),xw (.lst (ds.map Deed.d)),xw (.obj ω.length),v]) (F:=oL iV (aC (bL 0 "seen" bW (zV 0) aM) aM)) (R:=fun i=>.lst (iv ((iX c ds i).seen i))) (f:=zV 2) L2 c8 (aB rfl) fun i hi=>by
  obtain⟨k,t,e,rs,H,_⟩:=L2.hand i hi;exact Hi H (Nat.lt_of_lt_of_eq hi (K i hi).len.symm) (aB rfl)
 have a3:=mK (ρ:=[xw (.int c),xw (.lst (ds.map Deed.d)),xw (.obj ω.length),v]) (F:=bL 0 "known" gF (zV 0) aM) (R:=fun i=>.lst ((iX c ds i).knows.map fun xs=>.lst (iv xs))) (f:=zV 2) L2 c8 (aB rfl) fun i hi=>by
  obtain⟨k,t,e,rs,H,_⟩:=L2.hand i hi;exact cH (aB rfl) H.obj rfl (Io H (by rw[H.rows.length];have:=(K i hi).len;unfold iX at this;rw[this,bt];omega))
 have a4:=mK (ρ:=[xw (.int c),xw (.lst (ds.map Deed.d)),xw (.obj ω.length),v]) (F:=bL 0 "in_mind" eQ (zV 0) aM) (R:=fun i=>.lst (iX c ds i).mind) (f:=zV 2) L2 c8 (aB rfl) fun i hi=>by
  obtain⟨k,t,e,rs,H,_⟩:=L2.hand i hi;exact cH (aB rfl) H.obj rfl (Du H (K i hi) (I2 i hi).1)
 refine bD (cO (aA a1 (aA a2 (aA a3 (aA a4 aD)))) ?_);show pu (nP _) ω2=_;unfold nP;rw[if_pos (by rw[bt];simp)];rfl
end
section
variable {c:Nat}{S S':Nat->Hd}{d x y:Deed}{a b n:Nat}
theorem gD (c:Nat):∀(p q:List Deed) (S:Nat->Hd),jB c (p++q) S=((jB c p S).1++(jB c q (jB c p S).2).1,(jB c q (jB c p S).2).2)
 |[],q,S=>rfl
 |d::p,q,S=>by
  show((step c S d).1::(jB c (p++q) (step c S d).2).1,(jB c (p++q) (step c S d).2).2)=_
  rw[gD c p q];rfl
end
theorem rB:∀ {ds:List D},(∀ d∈ds,f d d=xw true)->mP f ds ds=xw true
 |[],_=>rfl
 |d::ds,h=>by
  show(f d d).bind _=_
  rw[h d aq]
  show(mP f ds ds).map _=_
  rw[rB fun d' hd=>h d' (ai _ hd)];rfl
theorem kJ:∀ {n:Nat}{d:D},Pl n d->eqD n d d=xw true
 |n,.non,_=>by cases n <;> rfl
 |n,.bl b,_=>by cases n <;> cases b <;> rfl
 |n,.int i,_=>by
  have:eqD n (.int i) (.int i)=xw (i==i):=by cases n <;> rfl
  rw[this];simp
 |n,.str x,_=>by
  rw[iK];simp
 |n+1,.lst ds,h=>by
  show(if ds.length=ds.length then mP (eqD n) ds ds else xw false)=_
  rw[if_pos rfl];exact rB fun d hd=>kJ (h.2 d hd)
 |n+1,.tup ds,h=>by
  show(mP (eqD n) ds ds).map (fun k=>k&&ds.length==ds.length)=_
  rw[rB fun d hd=>kJ (h.2 d hd)];simp
 |0,.lst _,h=>h.elim
 |0,.tup _,h=>h.elim
 |0,.obj _,h=>h.elim
 |n+1,.obj _,h=>h.elim
 |0,.scr _,h=>h.elim
 |n+1,.scr _,h=>h.elim
theorem Pl.mono:∀ {n m:Nat}{d:D},Pl n d->n<=m->Pl m d
 |_,m,.non,_,_=>by cases m <;> trivial
 |_,m,.bl _,_,_=>by cases m <;> trivial
 |_,m,.int _,_,_=>by cases m <;> trivial
 |_,m,.str _,_,_=>by cases m <;> trivial
 |n+1,m+1,.lst ds,h,hm=>⟨h.1,fun d hd=>Pl.mono (h.2 d hd) (by omega)⟩
 |n+1,m+1,.tup ds,h,hm=>⟨h.1,fun d hd=>Pl.mono (h.2 d hd) (by omega)⟩
 |n+1,0,.lst ds,h,hm=>by omega
 |n+1,0,.tup ds,h,hm=>by omega
 |0,_,.lst _,h,_=>h.elim
 |0,_,.tup _,h,_=>h.elim
 |0,_,.obj _,h,_=>h.elim
 |n+1,_,.obj _,h,_=>h.elim
 |0,_,.scr _,h,_=>h.elim
 |n+1,_,.scr _,h,_=>h.elim
section
variable {ω:Om}{ρ:Rho}{f h:OG D}{d:D}
theorem fA (e:f ρ ω=xw (.ok d,ω)) (h:Ps T ω d=xw k):iT T f ρ ω=xw (.ok (.bl k),ω):=by
 unfold iT;rw[bF e];show oR (pu ((Ps T ω d).map D.bl) ω)=_;rw[h];rfl
theorem tru_ok (e:f ρ ω=xw (.ok (.bl k),ω)):gO f ρ ω=xw (.ok k,ω):=by
 unfold gO;rw[bF e];rfl
theorem gT (e:t ρ ω=xw (.ok k,ω)):iS t ρ ω=xw (.ok (!k),ω):=by
 unfold iS;rw[bF e]
theorem rW (e1:t ρ ω=xw (.ok false,ω)) (e2:u ρ ω=xw (.ok false,ω)):oOr t u ρ ω=xw (.ok false,ω):=by
 unfold oOr;rw[bF e1];exact e2
theorem Pf (e1:f ρ ω=xw (.ok (.bl b),ω)) (e2:h ρ ω=xw (.ok (.bl b),ω)):bS (o2 (vR 8) f h) ρ ω=xw (.ok false,ω):=bR (dO e1 e2 (by cases b <;> rfl))
theorem tK (e1:f ρ ω=xw (.ok (.int a),ω)) (e2:h ρ ω=xw (.ok (.int b),ω)) (hab:a=b):bS (o2 (vR 8) f h) ρ ω=xw (.ok false,ω):=bR (dO e1 e2 (by
 subst hab;show xw (D.bl (!(a==a)),ω)=_;simp))
theorem AW {ds:List D} (hk:k<ds.length):atI ds (k:Int)=xw ds[k]:=by
 unfold atI ixN;rw[if_pos (ju k),if_pos (by omega)];show ds[(k:Int).toNat]?=_;rw[cw,bh hk]
theorem qZ {k:Nat} (h:ds[k]?=xw d):atI ds (k:Int)=xw d:=by
 obtain⟨hk,e⟩:=br.mp h;rw[AW hk,e]
theorem jL (e:f ρ ω=xw (.ok d,ω)) (hd:d=.lst ds∨d=.tup ds):oL gC (aC f aM) ρ ω=xw (.ok (.int ds.length),ω):=by
 refine cO (aA e aD) ?_;rcases hd with rfl|rfl <;> rfl
theorem JZ {k:Nat} (e:f ρ ω=xw (.ok d,ω)) (e2:h ρ ω=xw (.ok (.int k),ω)) (hd:d=.lst ds∨d=.tup ds) (hk:k<ds.length):zX f h ρ ω=xw (.ok ds[k],ω):=by
 refine aJ e e2 ?_;rcases hd with rfl|rfl
 ·exact AW hk
 ·exact AW hk
end
theorem Kv (h:d∈kB s n):∃ k:Nat,k<n/\d=.int (s+k):=by
 unfold kB at h;obtain⟨k,hk,rfl⟩:=ax.mp h;exact⟨k,ic.mp hk,rfl⟩
theorem MV:dP [F,N,R,xw (.tup [.str x,.tup [.int a,.int b],.int v])] ω=xw (.nx [F,N,R,xw (.tup [.str x,.tup [.int a,.int b],.int v])],ω):=by
 rfl
theorem CH:∀ {ds:List D}{u:Option D},(∀ d∈ds,fE d)->∃ v,bP (aW 3) bO dP ds [F,N,xw R,u] ω=xw (.nx [F,N,xw R,v],ω)
 |[],u,_=>⟨u,rfl⟩
 |d::ds,u,h=>by
  obtain⟨x,a,b,w,rfl⟩:=h d aq;obtain⟨v,e⟩:=CH (F:=F) (N:=N) (R:=R) (ω:=ω) (ds:=ds) (u:=xw (.tup [.str x,.tup [.int a,.int b],.int w])) fun d hd=>h d (ai _ hd);refine⟨v,?_⟩;refine(dD rfl rfl (MV)).trans ?_;exact e
theorem CG:∀ {ts:List (List D)}{u v:Option D},(∀ t∈ts,∀ d∈t,fE d)->∃ u' v',bP (aW 2) bO cN (ts.map D.lst) [F,N,u,v] ω=xw (.nx [F,N,u',v'],ω)
 |[],u,v,_=>⟨u,v,rfl⟩
 |t::ts,u,v,h=>by
  obtain⟨w,e1⟩:=CH (F:=F) (N:=N) (R:=.lst t) (ω:=ω) (ds:=t) (u:=v) (h t aq);obtain⟨u',v',e2⟩:=CG (F:=F) (N:=N) (ω:=ω) (ts:=ts) (u:=xw (.lst t)) (v:=w) fun t' ht=>h t' (ai _ ht);refine⟨u',v',?_⟩;have b2:cN [F,N,xw (.lst t),v] ω=xw (.nx [F,N,xw (.lst t),w],ω):=by
   unfold cN;rw[skip (gT (k:=true) (tru_ok (fA (aB (d:=.lst t) rfl) rfl)))];refine eY ?_;unfold bI oIL;rw[bV (x:=(t,bO)) (ω1:=ω) (by rw[bF (aB (d:=.lst t) rfl)];rfl)];exact e1
  refine(dD rfl rfl (b2)).trans ?_;exact e2
theorem Qa {ts:List (List D)} (h:∀ t∈ts,∀ d∈t,fE d) (hc:ts.length=c) (ω:Om):dN [.lst (ts.map D.lst),.int c] ω=xw (.ok (.bl true),ω):=by
 obtain⟨u,v,e⟩:=CG (F:=xw (.lst (ts.map D.lst))) (N:=xw (.int c)) (ω:=ω) (ts:=ts) (u:=xx) (v:=xx) h;refine aT rfl ?_;unfold iU;show aF _ _ [xw (.lst (ts.map D.lst)),xw (.int c),xx,xx] ω=_;rw[skip (rW (gT (k:=true) (tru_ok (fA (aB (d:=.lst (ts.map D.lst)) rfl) rfl))) (tK (a:=((ts.map D.lst).length:Nat)) (b:=(c:Int)) (jL (aB (d:=.lst (ts.map D.lst)) rfl) (.inl rfl)) (aB rfl) (by rw[ao,hc])))];rw[bA (eY (by
  unfold bI oIL;rw[bV (x:=(ts.map D.lst,bO)) (ω1:=ω) (by rw[bF (aB (d:=.lst (ts.map D.lst)) rfl)];rfl)];exact e))]
 rfl
theorem Kr {φ:eB}{d:D}{ds:List D}{ω:Om} (hd:d=.lst ds∨d=.tup ds) (hl:ds.length<=1000) (hφ:∀ x∈ds,φ [x,x] ω=xw (.ok (.bl true),ω)):∃ v,sNx (bI (oIA gL (aC (oL gC (aC (zV 1) aM)) aM)) (aW 2) (dA (iS (gO (bM φ (aC (zX (zV 0) (zV 2)) (aC (zX (zV 1) (zV 2)) aM))))) (aS (oP (dC (.bl false)))) bG)) [xw d,xw d,xx] ω=xw (.nx [xw d,xw d,v],ω):=by
 obtain⟨ρ',ω',e,rfl,v,rfl⟩:=Cp (bd:=aW 2) (chk:=bO) (F:=dA (iS (gO (bM φ (aC (zX (zV 0) (zV 2)) (aC (zX (zV 1) (zV 2)) aM))))) (aS (oP (dC (.bl false)))) bG) (fun(_:Unit) ρ ω'=>ω'=ω/\∃ v,ρ=[xw d,xw d,v]) (fun _ _=>()) (fun _ _ _ _=>rfl) (ds:=kB 0 ds.length) (a:=()) (ρ:=[xw d,xw d,xx]) (ω:=ω) ⟨rfl,xx,rfl⟩ fun x hx _ ρ ω1 hR=>by
  obtain⟨rfl,v,rfl⟩:=hR;obtain⟨k,hk,rfl⟩:=Kv hx;rw[Int.zero_add];refine⟨[xw d,xw d,xw (.int k)],[xw d,xw d,xw (.int k)],ω1,rfl,?_,rfl,xw (.int k),rfl⟩;rw[lN (ω1:=ω1) (by
   have:=gT (tru_ok (k:=true) (aR (φ:=φ) (ρ:=[xw d,xw d,xw (.int k)]) (aA (JZ (f:=zV 0) (h:=zV 2) (k:=k) (aB rfl) (aB rfl) hd hk) (aA (JZ (f:=zV 1) (h:=zV 2) (k:=k) (aB rfl) (aB rfl) hd hk) aD)) (hφ _ (jc hk))))
   exact this)]
  rfl
 refine⟨v,eY ?_⟩;unfold bI;rw[bV (jE (c:=ds.length) (jL (aB rfl) hd) hl)];exact e
theorem JF {n:Nat}{ds:List D}{ω:Om} (hl:ds.length<=1000) (h:∀ x∈ds,kF (n+1) [x,x] ω=xw (.ok (.bl true),ω)):kF (n+2) [.lst ds,.lst ds] ω=xw (.ok (.bl true),ω):=by
 obtain⟨v,lp⟩:=Kr (φ:=kF (n+1)) (d:=.lst ds) (ds:=ds) (ω:=ω) (.inl rfl) hl h;have v0:zV 0 [xw (.lst ds),xw (.lst ds),xx] ω=xw (.ok (.lst ds),ω):=aB rfl;have v1:zV 1 [xw (.lst ds),xw (.lst ds),xx] ω=xw (.ok (.lst ds),ω):=aB rfl;refine aT rfl ?_;unfold Ck;show aF _ _ [xw (.lst ds),xw (.lst ds),xx] ω=_;rw[skip (bR (fT v1 aU rfl)),skip (tru_ok (fA v1 rfl)),skip (tru_ok (fA v1 rfl)),skip (tru_ok (fA v1 rfl)),skip (tru_ok (fA v1 rfl))];rw[skip (Pf (b:=false) (fA v1 rfl) (fA v0 rfl))];rw[skip (rW (Pf (b:=true) (fA v1 rfl) (fA v0 rfl)) (gT (k:=true) (tru_ok (by unfold HY;rw[bF v1];rfl))))];rw[skip (tK (jL v0 (.inl rfl)) (jL v1 (.inl rfl)) rfl)];rw[bA lp];rfl
section
variable {ω:Om}{ρ:Rho}{f h:OG D}{a b:Int}
theorem qH (e1:f ρ ω=xw (.ok (.int a),ω)) (e2:h ρ ω=xw (.ok (.int b),ω)):o2 (lf rR) f h ρ ω=xw (.ok (.int (a+b)),ω):=fT e1 e2 rfl
theorem Cr (e1:f ρ ω=xw (.ok (.int a),ω)) (e2:h ρ ω=xw (.ok (.int b),ω)):o2 (lf gSub) f h ρ ω=xw (.ok (.int (a-b)),ω):=fT e1 e2 rfl
theorem Gk (e1:f ρ ω=xw (.ok (.int a),ω)) (e2:h ρ ω=xw (.ok (.int b),ω)) (hb: -1000000000000000000<b/\b<1000000000000000000):o2 (lf jC) f h ρ ω=xw (.ok (.int (a*b)),ω):=fT e1 e2 (Px hb)
theorem yR (e1:f ρ ω=xw (.ok (.int a),ω)) (e2:h ρ ω=xw (.ok (.int b),ω)) (hb:0<b):o2 (lf cU) f h ρ ω=xw (.ok (.int (a % b)),ω):=fT e1 e2 (Py hb)
theorem qG {p q:Int} (e1:f ρ ω=xw (.ok (.int a),ω)) (e2:h ρ ω=xw (.ok (.int q),ω)) (hp:0<p) (hq:0<q):o2 (lf cU) (o2 (lf cU) (o2 (lf jC) f (zI 48271)) (zI p)) h ρ ω=xw (.ok (.int (a*48271 % p % q)),ω):=yR (yR (Gk e1 aU (by decide)) aU hp) e2 hq
theorem Fl {x q:Int} (hq:0<q):0<=x % q/\x % q<q:=⟨Int.emod_nonneg x (by omega),Int.emod_lt_of_pos x hq⟩
theorem PJ {z:Int} (e1:f ρ ω=xw (.ok (.int a),ω)):bS (o2 (iW 8) f (zI z)) ρ ω=xw (.ok (a==z),ω):=bR (dO e1 aU rfl)
theorem mZ {z:Int} (e1:f ρ ω=xw (.ok (.int a),ω)):bS (o2 (lf gLt) f (zI z)) ρ ω=xw (.ok (decide (a<z)),ω):=bR (fT e1 aU rfl)
theorem MH {z:Int} (e1:f ρ ω=xw (.ok (.int a),ω)):bS (o2 (lf gGt) f (zI z)) ρ ω=xw (.ok (decide (z<a)),ω):=bR (fT e1 aU rfl)
theorem Fx {xs:List Int} (e1:f ρ ω=xw (.ok (.lst (iv xs)),ω)) (e2:h ρ ω=xw (.ok (.int a),ω)) (h0:0<=a) (h1:a<xs.length):zX f h ρ ω=xw (.ok (.int (xs.getD a.toNat 0)),ω):=aJ e1 e2 (RowV.ix (ω:=ω) (d:=.lst (iv xs)) rfl h0 h1)
theorem CF {i:Nat}{d:D}{ω1:Om} (e:f ρ ω=xw (.ok d,ω1)):aY i f ρ ω=xw (.nx (ρ.set i (xw d)),ω1):=by
 unfold aY;rw[bV e]
theorem ifI {t:OG Bool}{F:OS}{i:Nat}{a0 a1:Int}{k:Bool} (ht:t ρ ω=xw (.ok k,ω)) (hF:F ρ ω=xw (.nx (ρ.set i (xw (.int a1))),ω)) (h0:ρ.set i (xw (.int a0))=ρ):∃ a:Int,dA t F bG ρ ω=xw (.nx (ρ.set i (xw (.int a))),ω):=by
 cases k with
 |true=>exact⟨a1,by rw[mW ht];exact hF⟩
 |false=>exact⟨a0,by rw[lN ht,h0];rfl⟩
theorem Qb {t u:OG Bool}{k l:Bool} (e1:t ρ ω=xw (.ok k,ω)) (e2:u ρ ω=xw (.ok l,ω)):De t u ρ ω=xw (.ok (k&&l),ω):=by
 unfold De;rw[bF e1];cases k with
 |true=>exact e2
 |false=>rfl
end
theorem Kl {j:Int}{c:Nat} (h0:0<=j) (h4:j<4) (c1:1<=c) (c8:c<=8) (ω:Om):∃ x,kE [.int j,.int c] ω=xw (.ok (.str x),ω):=by
 have hj:j=0∨j=1∨j=2∨j=3:=by omega
 have hc:c=1∨c=2∨c=3∨c=4∨c=5∨c=6∨c=7∨c=8:=by omega
 rcases hj with rfl|rfl|rfl|rfl <;> rcases hc with rfl|rfl|rfl|rfl|rfl|rfl|rfl|rfl <;> exact⟨_,rfl⟩
theorem JV (c:Nat) (ω:Om):eZ [.int c] ω=xw (.ok (.lst (iv [-1,c,-2,0-c,100000000000000000000,0-100000000000000000000])),ω):=rfl
theorem DJ (cell:Int) (k c:Nat) (c2:1<=c) (c8:c<=8) (ω:Om):∃ d:Deed,iC [.int cell,.int k,.int c] ω=xw (.ok d.d,ω):=by
 have cpos:(0:Int)<c:=by omega
 obtain⟨way,hway⟩:∃ w,w=cell*48271 % 1009 % 16:=⟨_,rfl⟩;obtain⟨one,hone⟩:∃ w,w=(cell+k)*48271 % 1013 % c:=⟨_,rfl⟩;have q1:∃ a:Int,dA (De (bS (o2 (lf gGt) (zV 2) (zI 1))) (bS (o2 (lf gGt) (o2 (lf cU) (o2 (lf cU) (o2 (lf jC) (zV 0) (zI 48271)) (zI 1019)) (zI 19)) (zI 0)))) (aY 5 (o2 (lf cU) (o2 (lf rR) (o2 (lf rR) (zV 4) (zI 1)) (o2 (lf cU) (o2 (lf cU) (o2 (lf jC) (zV 0) (zI 48271)) (zI 1021)) (o2 (lf gSub) (zV 2) (zI 1)))) (zV 2))) bG [xw (.int cell),xw (.int k),xw (.int c),xw (.int way),xw (.int one),xw (.int one),xx,xx,xx] ω=xw (.nx [xw (.int cell),xw (.int k),xw (.int c),xw (.int way),xw (.int one),xw (.int a),xx,xx,xx],ω):=by
  by_cases c1:c=1
  ·refine⟨one,?_⟩;rw[lN (ω1:=ω) (by
    unfold De;rw[bF (MH (a:=c) (aB rfl)),decide_eq_false (by omega)];rfl)]
   rfl
  ·have cpos1:(0:Int)<c-1:=by omega
   exact ifI (ω:=ω) (i:=5) (ρ:=[xw (.int cell),xw (.int k),xw (.int c),xw (.int way),xw (.int one),xw (.int one),xx,xx,xx]) (a0:=one)
    (t:=De (bS (o2 (lf gGt) (zV 2) (zI 1))) (bS (o2 (lf gGt) (o2 (lf cU) (o2 (lf cU) (o2 (lf jC) (zV 0) (zI 48271)) (zI 1019)) (zI 19)) (zI 0))))
    (F:=aY 5 (o2 (lf cU) (o2 (lf rR) (o2 (lf rR) (zV 4) (zI 1)) (o2 (lf cU) (o2 (lf cU) (o2 (lf jC) (zV 0) (zI 48271)) (zI 1021)) (o2 (lf gSub) (zV 2) (zI 1)))) (zV 2)))
    (Qb (MH (a:=c) (aB rfl)) (MH (qG (a:=cell) (aB rfl) aU (by decide) (by decide))))
    (CF (yR (b:=c) (qH (qH (a:=one) (aB rfl) aU) (qG (a:=cell) (aB rfl) (Cr (a:=c) (aB rfl) aU) (by decide) cpos1)) (aB rfl) cpos)) rfl
 obtain⟨other,e1⟩:=q1;have r4:=Fl (x:=cell*48271 % 1031) (q:=4) (by decide);obtain⟨x,ex⟩:=Kl r4.1 r4.2 (by omega:1<=c) c8 ω;obtain⟨vs,hvs⟩:∃ vs:List Int,vs=[cell*48271 % 1033 % 9-4,0-k,100000000000000000000+k]:=⟨_,rfl⟩;have r3:=Fl (x:=cell*48271 % 1039) (q:=3) (by decide);obtain⟨v,hv⟩:∃ v,v=vs.getD (cell*48271 % 1039 % 3).toNat 0:=⟨_,rfl⟩;have r6:=Fl (x:=cell*48271 % 1051) (q:=6) (by decide);have r6':=Fl (x:=cell*48271 % 1063) (q:=6) (by decide);have q2:=ifI (ω:=ω) (i:=4) (ρ:=[xw (.int cell),xw (.int k),xw (.int c),xw (.int way),xw (.int one),xw (.int other),xw (.str x),xw (.lst (iv vs)),xw (.int v)]) (a0:=one)
  (t:=bS (o2 (iW 8) (o2 (lf cU) (o2 (lf cU) (o2 (lf jC) (zV 0) (zI 48271)) (zI 1049)) (zI 31)) (zI 30)))
  (F:=aY 4 (zX (bM eZ (aC (zV 2) aM)) (o2 (lf cU) (o2 (lf cU) (o2 (lf jC) (zV 0) (zI 48271)) (zI 1051)) (zI 6))))
  (PJ (qG (a:=cell) (aB rfl) aU (by decide) (by decide)))
  (CF (Fx (aR (aA (aB rfl) aD) (JV c ω)) (qG (a:=cell) (aB rfl) aU (by decide) (by decide)) r6.1 r6.2)) rfl
 obtain⟨one',e2⟩:=q2;have q3:=ifI (ω:=ω) (i:=5) (ρ:=[xw (.int cell),xw (.int k),xw (.int c),xw (.int way),xw (.int one'),xw (.int other),xw (.str x),xw (.lst (iv vs)),xw (.int v)]) (a0:=other)
  (t:=bS (o2 (iW 8) (o2 (lf cU) (o2 (lf cU) (o2 (lf jC) (zV 0) (zI 48271)) (zI 1061)) (zI 31)) (zI 30)))
  (F:=aY 5 (zX (bM eZ (aC (zV 2) aM)) (o2 (lf cU) (o2 (lf cU) (o2 (lf jC) (zV 0) (zI 48271)) (zI 1063)) (zI 6))))
  (PJ (qG (a:=cell) (aB rfl) aU (by decide) (by decide)))
  (CF (Fx (aR (aA (aB rfl) aD) (JV c ω)) (qG (a:=cell) (aB rfl) aU (by decide) (by decide)) r6'.1 r6'.2)) rfl
 obtain⟨other',e3⟩:=q3;have main:∀ d:Deed,∀ G:OS,G [xw (.int cell),xw (.int k),xw (.int c),xw (.int way),xw (.int one'),xw (.int other'),xw (.str x),xw (.lst (iv vs)),xw (.int v)] ω=xw (.rt d.d,ω)->
   aF (aY 3 (o2 (lf cU) (o2 (lf cU) (o2 (lf jC) (zV 0) (zI 48271)) (zI 1009)) (zI 16))) (aF (aY 4 (o2 (lf cU) (o2 (lf cU) (o2 (lf jC) (o2 (lf rR) (zV 0) (zV 1)) (zI 48271)) (zI 1013)) (zV 2))) (aF (aY 5 (zV 4)) (aF (dA (De (bS (o2 (lf gGt) (zV 2) (zI 1))) (bS (o2 (lf gGt) (o2 (lf cU) (o2 (lf cU) (o2 (lf jC) (zV 0) (zI 48271)) (zI 1019)) (zI 19)) (zI 0)))) (aY 5 (o2 (lf cU) (o2 (lf rR) (o2 (lf rR) (zV 4) (zI 1)) (o2 (lf cU) (o2 (lf cU) (o2 (lf jC) (zV 0) (zI 48271)) (zI 1021)) (o2 (lf gSub) (zV 2) (zI 1)))) (zV 2))) bG) (aF (aY 6 (bM kE (aC (o2 (lf cU) (o2 (lf cU) (o2 (lf jC) (zV 0) (zI 48271)) (zI 1031)) (zI 4)) (aC (zV 2) aM)))) (aF (aY 7 (zL (aC (o2 (lf gSub) (o2 (lf cU) (o2 (lf cU) (o2 (lf jC) (zV 0) (zI 48271)) (zI 1033)) (zI 9)) (zI 4)) (aC (o2 (lf gSub) (zI 0) (zV 1)) (aC (o2 (lf rR) (zI 100000000000000000000) (zV 1)) aM))))) (aF (aY 8 (zX (zV 7) (o2 (lf cU) (o2 (lf cU) (o2 (lf jC) (zV 0) (zI 48271)) (zI 1039)) (zI 3)))) (aF (dA (bS (o2 (iW 8) (o2 (lf cU) (o2 (lf cU) (o2 (lf jC) (zV 0) (zI 48271)) (zI 1049)) (zI 31)) (zI 30))) (aY 4 (zX (bM eZ (aC (zV 2) aM)) (o2 (lf cU) (o2 (lf cU) (o2 (lf jC) (zV 0) (zI 48271)) (zI 1051)) (zI 6)))) bG) (aF (dA (bS (o2 (iW 8) (o2 (lf cU) (o2 (lf cU) (o2 (lf jC) (zV 0) (zI 48271)) (zI 1061)) (zI 31)) (zI 30))) (aY 5 (zX (bM eZ (aC (zV 2) aM)) (o2 (lf cU) (o2 (lf cU) (o2 (lf jC) (zV 0) (zI 48271)) (zI 1063)) (zI 6)))) bG) G)))))))) (cE mQ [.int cell,.int k,.int c]) ω=xw (.rt d.d,ω):=by
  intro d G hG;refine(aK (qG (a:=cell) (aB rfl) aU (by decide) (by decide))).trans ?_;rw[<- hway];refine(aK (yR (b:=c) (yR (Gk (qH (a:=cell) (b:=k) (aB rfl) (aB rfl)) aU (by decide)) aU (by decide)) (aB rfl) cpos)).trans ?_;rw[<- hone];refine(aK (d:=.int one) (aB rfl)).trans ?_;refine(bA e1).trans ?_;refine(aK (d:=.str x) (ω1:=ω) (aR (aA (qG (a:=cell) (aB rfl) aU (by decide) (by decide)) (aA (aB (d:=.int c) rfl) aD)) ex)).trans ?_;refine(aK (d:=.lst (iv vs)) (ω1:=ω) (cO (aA (Cr (qG (a:=cell) (aB rfl) aU (by decide) (by decide)) aU) (aA (Cr (b:=k) aU (aB rfl)) (aA (qH (b:=k) aU (aB rfl)) aD))) (by rw[hvs];rfl))).trans ?_;refine(aK (Fx (xs:=vs) (aB rfl) (qG (a:=cell) (aB rfl) aU (by decide) (by decide)) r3.1 (by rw[hvs];exact r3.2))).trans ?_;rw[<- hv];refine(bA e2).trans ?_;refine(bA e3).trans ?_;exact hG
 have vw:∀ ω,zV 3 [xw (.int cell),xw (.int k),xw (.int c),xw (.int way),xw (.int one'),xw (.int other'),xw (.str x),xw (.lst (iv vs)),xw (.int v)] ω=xw (.ok (.int way),ω):=fun ω=>aB rfl
 by_cases h5:way<5
 ·refine⟨.put one' x v,aT rfl (main _ _ ?_)⟩;exact Dv (r:=.ok _) (by rw[mZ (vw ω),decide_eq_true h5]) rfl
 by_cases h7:way<7
 ·refine⟨.take one' x,aT rfl (main _ _ ?_)⟩;rw[skip (by rw[mZ (vw ω),decide_eq_false h5])];exact Dv (r:=.ok _) (by rw[mZ (vw ω),decide_eq_true h7]) rfl
 by_cases h9:way<9
 ·refine⟨.change one' x v,aT rfl (main _ _ ?_)⟩;rw[skip (by rw[mZ (vw ω),decide_eq_false h5]),skip (by rw[mZ (vw ω),decide_eq_false h7])];exact Dv (r:=.ok _) (by rw[mZ (vw ω),decide_eq_true h9]) rfl
 have gt:∀ q:Bool,decide (11<way)=q->o2 (lf gGt) (zV 3) (zI 11) [xw (.int cell),xw (.int k),xw (.int c),xw (.int way),xw (.int one'),xw (.int other'),xw (.str x),xw (.lst (iv vs)),xw (.int v)] ω=xw (.ok (.bl q),ω):=fun q hq=>by
  rw[<- hq];exact fT (vw ω) aU rfl
 by_cases h11:11<way
 ·refine⟨.meet one' other',aT rfl (main _ _ ?_)⟩;rw[skip (by rw[mZ (vw ω),decide_eq_false h5]),skip (by rw[mZ (vw ω),decide_eq_false h7]),skip (by rw[mZ (vw ω),decide_eq_false h9])];refine bD (cO (aA (a:=.str "meet") (aJ (a:=.lst [.str "tell",.str "meet"]) (b:=.int 1) rfl (cO (aA (gt true (decide_eq_true h11)) aD) rfl) rfl) (aA (aB rfl) (aA (aB rfl) aD))) rfl)
 ·refine⟨.tell one' other',aT rfl (main _ _ ?_)⟩;rw[skip (by rw[mZ (vw ω),decide_eq_false h5]),skip (by rw[mZ (vw ω),decide_eq_false h7]),skip (by rw[mZ (vw ω),decide_eq_false h9])];refine bD (cO (aA (a:=.str "tell") (aJ (a:=.lst [.str "tell",.str "meet"]) (b:=.int 0) rfl (cO (aA (gt false (decide_eq_false h11)) aD) rfl) rfl) (aA (aB rfl) (aA (aB rfl) aD))) rfl)
theorem lX (e1:fo ρ ω=xw (.ok (.obj n),ω1)) (e2:ω1[n]?=xw (.ml xs)) (e3:fl ρ ω1=xw (.ok ds,ω2)) (e4:g ω2 (.obj n) ds=xw (r,ω3)):lU g fo fl ρ ω=xw (.ok r,ω3):=by
 unfold lU;rw[bF e1]
 have:Dn ω1 (.obj n)=true:=by simp only[Dn,cellOf,e2]
 show(if Dn ω1 (.obj n)=true then _ else xx)=_
 rw[if_pos this,bF e3];show oR (g ω2 (.obj n) ds)=_;rw[e4];rfl
theorem uC {c n:Nat} (c2:1<=c) (c8:c<=8) (hx:xs.length<=1000):∀(m s:Nat) (pre:List Deed) (v:Option D) (ω:Om),ω[n]?=xw (.ml (pre.map Deed.d))->s+m=xs.length->pre.length=s->∃ v' post,post.length=m/\bP (aW 3) bO eR (kB s m) [xw (.lst (iv xs)),xw (.int c),xw (.obj n),v] ω=xw (.nx [xw (.lst (iv xs)),xw (.int c),xw (.obj n),v'],ω.set n (.ml ((pre++post).map Deed.d)))
 |0,s,pre,v,ω,ht,_,_=>⟨v,[],rfl,by
   rw[c6,gZ ht];rfl⟩
 |m+1,s,pre,v,ω,ht,hs,hp=>by
  obtain⟨d,ed⟩:=DJ (xs.getD (s:Int).toNat 0+7*s) s c c2 c8 ω;have b1:eR [xw (.lst (iv xs)),xw (.int c),xw (.obj n),xw (.int s)] ω=xw (.nx [xw (.lst (iv xs)),xw (.int c),xw (.obj n),xw (.int s)],ω.set n (.ml ((pre++[d]).map Deed.d))):=by
   unfold eR bT;rw[bV (lX (r:=.non) (ω3:=ω.set n (.ml ((pre++[d]).map Deed.d))) (aB (d:=.obj n) rfl) ht (aA (aR (aA (qH (Fx (xs:=xs) (a:=s) (aB rfl) (aB rfl) (by omega) (by omega)) (Gk (b:=s) aU (aB rfl) ⟨by omega,by omega⟩)) (aA (aB (d:=.int s) rfl) (aA (aB (d:=.int c) rfl) aD))) ed) aD) (by
    simp only[mH,ht];rw[if_pos (by rw[ao,bt];omega),cf];rfl))]
  obtain⟨v',post,hl,e2⟩:=uC c2 c8 hx m (s+1) (pre++[d]) (xw (.int s)) (ω.set n (.ml ((pre++[d]).map Deed.d))) (cB ht) (by omega) (by simp[hp]);refine⟨v',d::post,by simp[hl],?_⟩;rw[gQ];refine(dD rfl rfl (b1)).trans ?_;rw[pp,gu] at e2;exact e2
theorem Ji {c:Nat} (c2:1<=c) (c8:c<=8) (hx:xs.length<=1000) (ω:Om):∃ ds:List Deed,ds.length=xs.length/\kX [.lst (iv xs),.int c] ω=xw (.ok (.obj ω.length),ω++[.ml (ds.map Deed.d)]):=by
 have h0:(ω++[Ob.ml []])[ω.length]?=xw (.ml (([]:List Deed).map Deed.d)):=by simp
 obtain⟨v',post,hl,e⟩:=uC c2 c8 hx xs.length 0 [] xx (ω++[Ob.ml []]) h0 (by omega) rfl;refine⟨post,hl,aT rfl ?_⟩;unfold qD;rw[aK (d:=.obj ω.length) (ω1:=ω++[.ml []]) rfl];rw[bA (eY (by
  unfold bI;rw[bV (jE (c:=xs.length) (by
   have:=jL (f:=zV 0) (ρ:=(cE rN [.lst (iv xs),.int c]).set 2 (xw (.obj ω.length))) (ω:=ω++[.ml []]) (d:=.lst (iv xs)) (ds:=iv xs) (aB rfl) (.inl rfl)
   rw[show(iv xs).length=xs.length from by unfold iv;simp] at this;exact this) hx)]
  exact e))]
 refine(bD (aB (d:=.obj ω.length) rfl)).trans ?_;simp
theorem PY (ns:List Int) (k:Nat) (ω:Om):∃ x:Int,vB [.scr (ns.map D.int),.int k] ω=xw (.ok (.int x),ω):=by
 have v0:∀ ω:Om,zV 0 (cE oV [.scr (ns.map D.int),.int k]) ω=xw (.ok (.scr (ns.map D.int)),ω):=fun ω=>rfl;have v1:∀ ω:Om,zV 1 (cE oV [.scr (ns.map D.int),.int k]) ω=xw (.ok (.int k),ω):=fun ω=>rfl;have t:∀ q:Bool,decide ((k:Int)<((ns.map D.int).length:Int))=q->bS (o2 (lf gLt) (zV 1) (oL gC (aC (zV 0) aM))) (cE oV [.scr (ns.map D.int),.int k]) ω=xw (.ok q,ω):=fun q hq=>
  bR (fT (v1 ω) (cO (aA (v0 ω) aD) (show _=xw (D.int ((ns.map D.int).length),ω) from rfl)) (show xw (D.bl (decide ((k:Int)<((ns.map D.int).length:Int))))=_ by rw[hq]))
 by_cases h:k<ns.length
 ·refine⟨ns[k],aT rfl ?_⟩;have hd:decide ((k:Int)<((ns.map D.int).length:Int))=true:=by simp[h]
  unfold vO aF;rw[mW (t true hd),bD (dO (v0 ω) (v1 ω) (show pu (atI (ns.map D.int) (k:Int)) ω=xw (.int ns[k],ω) from ?_))];have e1:ixN (ns.map D.int).length (k:Int)=xw k:=by
   unfold ixN;have hk:(k:Int)<((ns.map D.int).length:Int):=by simpa using hd
   rw[if_pos (ju k),if_pos hk];simp
  unfold atI;rw[e1];simp[pu,h]
 ·refine⟨0,aT rfl ?_⟩;have hd:decide ((k:Int)<((ns.map D.int).length:Int))=false:=by simp;omega
  unfold vO aF;rw[lN (t false hd)];rfl
theorem Pl.lst (hl:ds.length<=1000) (h:∀ d∈ds,Pl n d):Pl (n+1) (.lst ds):=⟨hl,h⟩
theorem Pl.ent (h:fE d):Pl (n+2) d:=by
 obtain⟨x,a,b,v,rfl⟩:=h;refine⟨by simp,fun d hd=> ?_⟩;simp only[ak,cr,or_false] at hd;rcases hd with rfl|rfl|rfl
 ·exact Pl.str _ _
 ·exact Pl.tup2 (Pl.int _ _) (Pl.int _ _)
 ·exact Pl.int _ _
theorem Pl.deed (d:Deed):Pl 1 d.d:=by
 have two:∀(x:Str) (l:List D),l.length<=3->(∀ y∈l,Pl 0 y)->Pl 1 (.tup (.str x::l)):=fun x l h1 h2=>⟨by rw[b7];omega,fun y hy=>by
  rcases ak.mp hy with rfl|hy
  ·exact Pl.str _ _
  ·exact h2 y hy⟩
 cases d with
 |put a x v=>
  refine two _ _ (by simp) fun y hy=> ?_;simp only[ak,cr,or_false] at hy;rcases hy with rfl|rfl|rfl <;> trivial
 |change a x v=>
  refine two _ _ (by simp) fun y hy=> ?_;simp only[ak,cr,or_false] at hy;rcases hy with rfl|rfl|rfl <;> trivial
 |take a x=>
  refine two _ _ (by simp) fun y hy=> ?_;simp only[ak,cr,or_false] at hy;rcases hy with rfl|rfl <;> trivial
 |tell a b=>
  refine two _ _ (by simp) fun y hy=> ?_;simp only[ak,cr,or_false] at hy;rcases hy with rfl|rfl <;> trivial
 |meet a b=>
  refine two _ _ (by simp) fun y hy=> ?_;simp only[ak,cr,or_false] at hy;rcases hy with rfl|rfl <;> trivial
theorem Pl.deeds {ds:List Deed} (hl:ds.length<=1000):Pl 2 (.lst (ds.map Deed.d)):=Pl.lst (by rw[ao];exact hl) fun d hd=>by
 obtain⟨x,_,rfl⟩:=ax.mp hd;exact Pl.deed x
def DeedsAt (ω:Om) (d:D) (ds:List Deed):Prop:=fG ω d=xw (ds.map Deed.d)
theorem DeedsAt.keep (h:DeedsAt ω d ds) (K:Keep [] ω ω'):DeedsAt ω' d ds:=by
 rcases fF h with rfl|⟨n,rfl,e⟩
 ·rfl
 ·have e':=(K.2 n (dH e) (by simp)).trans e;unfold DeedsAt fG;simp only[e']
theorem DeedsAt.list (h:DeedsAt ω d ds) (e:f ρ ω=xw (.ok d,ω)):oL iV (aC f aM) ρ ω=xw (.ok (.lst (ds.map Deed.d)),ω):=by
 refine cO (aA e aD) ?_
 have:bZ ω d=xw (ds.map Deed.d):=by
  rcases fF h with rfl|⟨n,rfl,e2⟩
  ·rfl
  ·simp only[bZ,fG,e2]
 show(bZ ω d).map _=_
 rw[this];rfl
theorem zO {c:Nat} (c0:0<c) (c8:c<=8) (hl:ds.length<64) (h:DeedsAt ω d ds):∃ ω',fO [.int c,d] ω=xw (.ok (.tup [BJ c (iX c ds),BK c (iX c ds),Af c (iX c ds),Kx c (iX c ds)]),ω')/\Keep [] ω ω'/\∃ own,HInv c own (iX c ds)/\tot c own<64:=by
 obtain⟨ω',e1,K,I⟩:=Jz c0 c8 hl ω;refine⟨ω',?_,K,I⟩;refine aT rfl ?_;unfold jO;rw[aK (h.list (aB rfl))];rw[aK (aR (aA (aB (d:=.int c) rfl) (aA (aB (d:=.lst (ds.map Deed.d)) rfl) aD)) e1)];rw[skip (rW (bR (dO (aB (d:=.lst (ds.map Deed.d)) rfl) (aB (d:=d) rfl) (by
  have hd:=h.keep K
  have:fC ω' d=.lst (ds.map Deed.d):=by unfold fC;rw[hd]
  show pu ((eqD 8 (.lst (ds.map Deed.d)) (fC ω' d)).map fun k=>D.bl (!k)) ω'=_;rw[this,kJ ((Pl.deeds (by omega)).mono (by decide))];rfl))) (rW (gT (k:=true) (tru_ok (fA (aB rfl) rfl))) (tK (b:=4) (jL (aB rfl) (.inr rfl)) aU rfl)))]
 exact bD (aB rfl)
structure Rec where
 a:Nat
 b:Nat
 put:Option (Str×Int)
 outs:List (List Key)
noncomputable def Rec.key (r:Rec):List Key:=gA r.a r.b
noncomputable def Rec.mark (r:Rec):D:=mkD r.a r.b
noncomputable def Rec.putD (r:Rec):D:=match r.put with
 |none=>.non
 |some p=>.tup [.str p.1,.int p.2]
noncomputable def Rec.val (r:Rec):D:=.tup [r.putD,.lst (r.outs.map bH)]
noncomputable def Rec.ent (r:Rec):Option D:=r.put.map fun p=>.tup [.str p.1,mkD r.a r.b,.int p.2]
noncomputable def upF {α:Type} (f:Nat->α) (i:Nat) (x:α):Nat->α:=fun j=>if j=i then x else f j
theorem aX {x:α}:upF f i x i=x:=if_pos rfl
theorem aQ {x:α} (h:j≠i):upF f i x j=f j:=if_neg h
theorem RowV.app (h:RowV ω d xs) (obs:List Ob):RowV (ω++obs) d xs:=by
 rcases fF h with rfl|⟨n,rfl,e⟩
 ·rfl
 ·exact cG ((am (dH e)).trans e)
theorem RowV.keep (h:RowV ω d xs) (g:∀ n:Nat,ω[n]?=xw (Ob.ml (iv xs))->ω'[n]?=xw (Ob.ml (iv xs))):RowV ω' d xs:=by
 rcases fF h with rfl|⟨n,rfl,e⟩
 ·rfl
 ·exact cG (g n e)
theorem RowV.noInt (h:RowV ω (.int x) xs):False:=by
 unfold RowV fG at h;cases h
def sI (ω:Om) (n:Nat):Prop:=∀ y ys,ω[n]?≠xw (Ob.ml (iv (y::ys)))
theorem RowV.set (h:RowV ω d xs) (hx:xs≠[]) (hn:sI ω n):RowV (ω.set n ob) d xs:=h.keep fun m e=>by
 match xs,hx with
 |y::ys,_=>
  have:m≠n:=fun z=>hn y ys (z ▸ e)
  rw[aI this];exact e
def RowsD (ω:Om) (c:Nat) (ds:List D) (kn:Nat->List Int):Prop:=ds.length=c/\∀ j,j<c->∃ d,ds[j]?=xw d/\RowV ω d (kn j)
structure LawAt (B ω:Om) (c h dd oo kk:Nat) (ks:Nat->Nat) (rs:List Rec) (kn:Nat->Nat->List Int):Prop where
 obj:ω[h]?=xw (.dk [(.inr "count",.int c),(.inr "deeds",.obj dd),(.inr "order",.obj oo),(.inr "known",.obj kk)])
 deeds:ω[dd]?=xw (.dt (rs.map fun r=>(r.key,r.val)))
 order:ω[oo]?=xw (.ml (rs.map Rec.mark))
 known:ω[kk]?=xw (.ml ((bj c).map fun i=>.obj (ks i)))
 row:∀ i,i<c->∃ ds,ω[ks i]?=xw (.ml ds)/\RowsD ω c ds (kn i)
 len:∀ i j,i<c->j<c->(kn i j).length=c
 inj:∀ i j,i<c->j<c->i≠j->ks i≠ks j
 out:∀ i,i<c->ks i≠h/\ks i≠dd/\ks i≠oo/\ks i≠kk
 nd:h≠dd/\h≠oo/\h≠kk/\dd≠oo/\dd≠kk/\oo≠kk
 low:B.length<=h/\B.length<=dd/\B.length<=oo/\B.length<=kk/\∀ i,i<c->B.length<=ks i
 bas:B.length<=ω.length/\∀ n,n<B.length->ω[n]?=B[n]?
 keys:(rs.map Rec.key).Nodup
 ra:∀ r∈rs,r.a<c
section
variable {B ω:Om}{c h dd oo kk:Nat}{ks:Nat->Nat}{rs:List Rec}{kn:Nat->Nat->List Int}{ρ:Rho}{f:OG D}
theorem oJ (L:LawAt B ω c h dd oo kk ks rs kn) (ef:f ρ ω=xw (.ok (.obj h),ω)) (e:iR [((.inr "count":Key),D.int c),(.inr "deeds",.obj dd),(.inr "order",.obj oo),(.inr "known",.obj kk)] (.inr x)=xw d):zD f (zS x) ρ ω=xw (.ok d,ω):=dO ef aU (by
 show pu (jA ω (.obj h) (.str x)) ω=_
 have:jA ω (.obj h) (.str x)=xw d:=by
  simp only[jA,Ed,cellOf,L.obj,toK];rw[sw,e];rfl
 rw[this];rfl)
theorem LawAt.gCount (L:LawAt B ω c h dd oo kk ks rs kn) (ef:f ρ ω=xw (.ok (.obj h),ω)):zD f (zS "count") ρ ω=xw (.ok (.int c),ω):=oJ L ef rfl
theorem LawAt.gDeeds (L:LawAt B ω c h dd oo kk ks rs kn) (ef:f ρ ω=xw (.ok (.obj h),ω)):zD f (zS "deeds") ρ ω=xw (.ok (.obj dd),ω):=oJ L ef rfl
theorem LawAt.gOrder (L:LawAt B ω c h dd oo kk ks rs kn) (ef:f ρ ω=xw (.ok (.obj h),ω)):zD f (zS "order") ρ ω=xw (.ok (.obj oo),ω):=oJ L ef rfl
theorem LawAt.gKnown (L:LawAt B ω c h dd oo kk ks rs kn) (ef:f ρ ω=xw (.ok (.obj h),ω)):zD f (zS "known") ρ ω=xw (.ok (.obj kk),ω):=oJ L ef rfl
theorem LawAt.ixKnown (L:LawAt B ω c h dd oo kk ks rs kn) (hi:i<c):oN ω (.obj kk) (.int i)=xw (.obj (ks i)):=by
 rw[lF L.known];exact qZ (by rw[aw,c7 hi];rfl)
theorem RowsD.ix (e:ω[n]?=xw (.ml ds)) (h:RowsD ω c ds q) (hj:j<c):∃ d,oN ω (.obj n) (.int j)=xw d/\RowV ω d (q j):=by
 obtain⟨d,e1,r⟩:=h.2 j hj;exact⟨d,by rw[lF e];exact qZ e1,r⟩
theorem RowsD.noRow (e:ω[n]?=xw (.ml ds)) (h:RowsD ω c ds q) (c0:0<c):sI ω n:=fun y ys z=>by
 rw[e] at z;cases z;obtain⟨d,e1,r⟩:=h.2 0 c0;cases e1;exact r.noInt
theorem LawAt.noOrder (L:LawAt B ω c h dd oo kk ks rs kn):sI ω oo:=fun y ys z=>by
 rw[L.order] at z;cases rs with
 |nil=>cases z
 |cons r rs=>cases z
theorem LawAt.noDeeds (L:LawAt B ω c h dd oo kk ks rs kn):sI ω dd:=fun y ys z=>by
 rw[L.deeds] at z;cases z
theorem LawAt.len0 (L:LawAt B ω c h dd oo kk ks rs kn) (c0:0<c) (hi:i<c) (hj:j<c):kn i j≠[]:=fun z=>by
 have:=L.len i j hi hj
 rw[z] at this;simp at this;omega
theorem RowsD.keep (h:RowsD ω c ds q) (g:∀ d xs,xs≠[]->RowV ω d xs->RowV ω' d xs) (hl:∀ j,j<c->q j≠[]):RowsD ω' c ds q:=⟨h.1,fun j hj=>by
 obtain⟨d,e,r⟩:=h.2 j hj;exact⟨d,e,g d _ (hl j hj) r⟩⟩
theorem LawAt.mono (L:LawAt B ω c h dd oo kk ks rs kn) (c0:0<c) (hl:ω.length<=ω'.length) (g:∀ n:Nat,n<ω.length->ω'[n]?=ω[n]?):LawAt B ω' c h dd oo kk ks rs kn:=by
 have gr:∀ d xs,xs≠[]->RowV ω d xs->RowV ω' d xs:=fun d xs _ r=>r.keep fun n e=>by rw[g n (dH e)];exact e
 refine⟨?_,?_,?_,?_,fun i hi=> ?_,L.len,L.inj,L.out,L.nd,L.low,⟨ci L.bas.1 hl,fun n hn=> ?_⟩,L.keys,L.ra⟩
 ·rw[g _ (dH L.obj)];exact L.obj
 ·rw[g _ (dH L.deeds)];exact L.deeds
 ·rw[g _ (dH L.order)];exact L.order
 ·rw[g _ (dH L.known)];exact L.known
 ·obtain⟨ds,e,r⟩:=L.row i hi;exact⟨ds,by rw[g _ (dH e)];exact e,r.keep gr fun j hj=>L.len0 c0 hi hj⟩
 ·rw[g n (b9 hn L.bas.1)];exact L.bas.2 n hn
theorem LawAt.app (L:LawAt B ω c h dd oo kk ks rs kn) (c0:0<c) (obs:List Ob):LawAt B (ω++obs) c h dd oo kk ks rs kn:=L.mono c0 (by simp) fun n hn=>am hn
end
noncomputable def cC (row:List Int) (r:Rec):Bool:=decide ((r.b:Int)<=row.getD r.a 0)
noncomputable def dR (rs:List Rec) (row:List Int):List (List Key):=(rs.filter (cC row)).flatMap (·.outs)
noncomputable def bC (rs:List Rec) (row:List Int):List D:=(rs.filter (cC row)).filterMap Rec.ent
noncomputable def Ii (q:List Key) (l:List (List Key)):Bool:=l.any fun k=>decide (k=q)
theorem memK_iff:Ii q l=true↔q∈l:=by
 unfold Ii;rw[o9];constructor
 ·rintro⟨k,hk,e⟩
  rw[<- of_decide_eq_true e];exact hk
 ·exact fun h=>⟨q,h,decide_eq_true rfl⟩
noncomputable def eJ (rs:List Rec) (row:List Int):List D:=(bC rs row).filter fun d=> !Ii (aZ d) (dR rs row)
structure wF (c:Nat) (own:Nat->Nat) (rs:List Rec):Prop where
 keys:(rs.map Rec.key).Nodup
 inn:∀ r∈rs,r.a<c/\1<=r.b/\r.b<=own r.a
 outs:∀ r∈rs,r.outs.length<64/\∀ q∈r.outs,KeyIn c own q
theorem Gm (a b a' b':Int):eqD 7 (.tup [.int a,.int b]) (.tup [.int a',.int b'])=xw (decide (a=a'/\b=b')):=by
 have:eqD 7 (.tup [.int a,.int b]) (.tup [.int a',.int b'])=xw ((a==a'&&(b==b'&&true))&&true):=rfl
 rw[this]
 congr 1
 by_cases h:a=a' <;> by_cases h2:b=b' <;> simp[h,h2]
theorem Cd (a b:Nat):∀(l:List (List Key)),(∀ q∈l,∃ x y:Nat,q=gA x y)->inO (fun d=>eqD 7 d (mkD a b)) (l.map bH)=xw (Ii (gA a b) l)
 |[],_=>rfl
 |q::l,h=>by
  obtain⟨x,y,rfl⟩:=h q aq;have ih:=Cd a b l fun q hq=>h q (ai _ hq)
  show(eqD 7 (mkD x y) (mkD a b)).bind (fun k=>(inO (fun d=>eqD 7 d (mkD a b)) (l.map bH)).map fun c=>k||c)=_
  rw[ih];unfold mkD;rw[Gm];show xw (decide ((x:Int)=a/\(y:Int)=b)||Ii (gA a b) l)=xw (decide (gA x y=gA a b)||Ii (gA a b) l)
  have:(gA x y=gA a b)↔((x:Int)=a/\(y:Int)=b):=by
   unfold gA;simp
  rw[decide_eq_decide.mpr this]
theorem KeyIn.mk (h:KeyIn c own q):∃ x y:Nat,q=gA x y:=by
 obtain⟨a,b,_,_,_,e⟩:=h;exact⟨a,b,e⟩
section
variable {B ω:Om}{c h dd oo kk:Nat}{ks:Nat->Nat}{rs:List Rec}{kn:Nat->Nat->List Int}{own:Nat->Nat}
theorem Jm (L:LawAt B ω c h dd oo kk ks rs kn) (hr:r∈rs):jA ω (.obj dd) r.mark=xw r.val:=by
 have e1:Ec r.mark=xw r.key:=rfl;have e2:iR (rs.map fun r=>(r.key,r.val)) r.key=xw r.val:=by
  have nd:((rs.map fun r=>(r.key,r.val)).map (·.1)).Nodup:=by
   rw[fm];exact L.keys
  exact zZ nd (ax.mpr ⟨r,hr,rfl⟩)
 simp only[jA,Ed,cellOf,L.deeds,e1];rw[sw,e2];rfl
theorem xR (hrow:row.length=c):∀(post pre:List Rec) {ω:Om}{n:Nat}{v4 v5 v6:Option D},LawAt B ω c h dd oo kk ks rs kn->0<c->wF c own rs->RowV ω rowD row->rs=pre++post->rs.length<64->ω[n]?=xw (.ml (bC pre row))->sI ω n->n≠h->n≠dd->n≠oo->n≠kk->(∀ i,i<c->n≠ks i)->B.length<=n->
  ∃ v4' v5' v6',bP (aW 4) (iZ oo (rs.map Rec.mark)) bB (post.map Rec.mark) [xw (.obj h),xw rowD,xw (.lst ((dR pre row).map bH)),xw (.obj n),v4,v5,v6] ω=xw (.nx [xw (.obj h),xw rowD,xw (.lst ((dR rs row).map bH)),xw (.obj n),v4',v5',v6'],ω.set n (.ml (bC rs row)))
 |[],pre,ω,n,v4,v5,v6,L,c0,R,hr,hp,hl,hn,nr,n1,n2,n3,n4,n5,nb=>by
  rw[c6] at hp;subst hp;refine⟨v4,v5,v6,?_⟩
  show(if iZ oo (rs.map Rec.mark) ω=true then _ else xx)=_
  rw[if_pos (kZ L.order),gZ hn]
 |r::post,pre,ω,n,v4,v5,v6,L,c0,R,hr,hp,hl,hn,nr,n1,n2,n3,n4,n5,nb=>by
  have hm:r∈rs:=by rw[hp];simp
  have hp':rs=(pre++[r])++post:=by rw[gu];exact hp
  have rin:=R.inn r hm;have step:∀(ω2:Om) (v5' v6':Option D) (g' t':D),g'=.lst ((dR (pre++[r]) row).map bH)->bB [xw (.obj h),xw rowD,xw (.lst ((dR pre row).map bH)),xw (.obj n),xw r.mark,v5,v6] ω=xw (.nx [xw (.obj h),xw rowD,xw g',xw (.obj n),xw r.mark,v5',v6'],ω2)->ω2=ω.set n (.ml (bC (pre++[r]) row))->
    ∃ v4' v5' v6',bP (aW 4) (iZ oo (rs.map Rec.mark)) bB ((r::post).map Rec.mark) [xw (.obj h),xw rowD,xw (.lst ((dR pre row).map bH)),xw (.obj n),v4,v5,v6] ω=xw (.nx [xw (.obj h),xw rowD,xw (.lst ((dR rs row).map bH)),xw (.obj n),v4',v5',v6'],ω.set n (.ml (bC rs row))):=by
   intro ω2 v5' v6' g' t' hg e1 hω2;subst hg hω2;have hne:∀ m,m≠n->(ω.set n (.ml (bC (pre++[r]) row)))[m]?=ω[m]?:=fun m hm=>aI hm;have L2:LawAt B (ω.set n (.ml (bC (pre++[r]) row))) c h dd oo kk ks rs kn:=by
    refine⟨?_,?_,?_,?_,fun i hi=> ?_,L.len,L.inj,L.out,L.nd,L.low,⟨by simpa using L.bas.1,fun m hm=> ?_⟩,L.keys,L.ra⟩
    ·rw[hne _ (bx n1)];exact L.obj
    ·rw[hne _ (bx n2)];exact L.deeds
    ·rw[hne _ (bx n3)];exact L.order
    ·rw[hne _ (bx n4)];exact L.known
    ·obtain⟨ds,e,rr⟩:=L.row i hi;exact⟨ds,by rw[hne _ (bx (n5 i hi))];exact e,rr.keep (fun d xs hx q=>q.set hx nr) fun j hj=>L.len0 c0 hi hj⟩
    ·rw[hne _ (by omega)];exact L.bas.2 m hm
   have nr2:sI (ω.set n (.ml (bC (pre++[r]) row))) n:=fun y ys z=>by
    rw[cB hn] at z;have z':bC (pre++[r]) row=iv (y::ys):=by
     injection z with z
     injection z
    have:D.int y∈bC (pre++[r]) row:=by rw[z'];exact aq
    obtain⟨q,_,e2⟩:=hW.mp this;unfold Rec.ent at e2;cases hq:q.put with
    |none=>rw[hq] at e2;cases e2
    |some p=>rw[hq] at e2;cases e2
   have row0:row≠[]:=fun z=>by rw[z] at hrow;simp at hrow;omega
   obtain⟨w4,w5,w6,e3⟩:=xR hrow post (pre++[r]) (v4:=xw r.mark) (v5:=v5') (v6:=v6') L2 c0 R (hr.set row0 nr) hp' hl (cB hn) nr2 n1 n2 n3 n4 n5 nb;refine⟨w4,w5,w6,?_⟩;rw[pp] at e3
   show(if iZ oo (rs.map Rec.mark) ω=true then(match bB [xw (.obj h),xw rowD,xw (.lst ((dR pre row).map bH)),xw (.obj n),xw r.mark,v5,v6] ω with
    |none=>xx
    |some (.nx ρ2,ω2)=>bP (aW 4) (iZ oo (rs.map Rec.mark)) bB (post.map Rec.mark) ρ2 ω2
    |some (.ct ρ2,ω2)=>bP (aW 4) (iZ oo (rs.map Rec.mark)) bB (post.map Rec.mark) ρ2 ω2
    |some (.bk ρ2,ω2)=>xw (.nx ρ2,ω2)
    |some (.rt d,ω2)=>xw (.rt d,ω2)
    |some (.ex _,_)=>xx) else xx)=_
   rw[if_pos (kZ L.order),e1];exact e3
  have tst:bS (o2 (lf gLe) (zX (zV 4) (zI 1)) (zX (zV 1) (zX (zV 4) (zI 0)))) [xw (.obj h),xw rowD,xw (.lst ((dR pre row).map bH)),xw (.obj n),xw r.mark,v5,v6] ω=xw (.ok (cC row r),ω):=
   bR (fT (aJ (aB (d:=r.mark) rfl) aU rfl) (aJ (aB (d:=rowD) rfl) (aJ (aB (d:=r.mark) rfl) aU rfl) (hr.ix (a:=r.a) (by omega) (by omega))) (by
    show xw (D.bl (decide ((r.b:Int)<=row.getD (r.a:Int).toNat 0)))=_;rw[cw];rfl))
  cases hs:cC row r with
  |false=>
   rw[hs] at tst;refine step ω v5 v6 (.lst ((dR pre row).map bH)) .non ?_ ?_ ?_
   ·unfold dR;rw[jv,de (by rw[hs];exact cj),lq,c6]
   ·unfold bB;rw[lN tst];rfl
   ·unfold bC at hn ⊢;rw[jv,de (by rw[hs];exact cj),lq,c6,gZ hn]
  |true=>
   rw[hs] at tst;have eg:dR (pre++[r]) row=dR pre row++r.outs:=by
    unfold dR;rw[jv,df hs,lq,List.flatMap_append];simp
   have et:bC (pre++[r]) row=bC pre row++r.ent.toList:=by
    unfold bC;rw[jv,df hs,lq,List.filterMap_append]
    congr 1
   have hgl:(dR pre row).length<=64*64:=by
    have gen:∀ l:List Rec,(∀ q∈l,q.outs.length<64)->(l.flatMap (·.outs)).length<=64*l.length:=by
     intro l
     induction l with
     |nil=>intro _;simp
     |cons q l ih=>
      intro hq;rw[List.flatMap_cons,bw,b7]
      have:=hq q aq
      have:=ih fun x hx=>hq x (ai _ hx)
      omega
    have h1:=gen (pre.filter (cC row)) fun q hq=>(R.outs q (by rw[hp];exact db _ (b0.mp hq).1)).1;have h2:(pre.filter (cC row)).length<=pre.length:=fe ..;have h3:pre.length<64:=by rw[hp,bw] at hl;omega
    unfold dR;omega
   have houts:=(R.outs r hm).1;have b1:∀ G:OS,aF (CW (qY 5 6) (zD (zD (zV 0) (zS "deeds")) (zV 4))) (aF (aY 2 (o2 vS (zV 2) (zV 6))) G) [xw (.obj h),xw rowD,xw (.lst ((dR pre row).map bH)),xw (.obj n),xw r.mark,v5,v6] ω=G [xw (.obj h),xw rowD,xw (.lst ((dR (pre++[r]) row).map bH)),xw (.obj n),xw r.mark,xw r.putD,xw (.lst (r.outs.map bH))] ω:=by
    intro G;rw[bA (ρ1:=[xw (.obj h),xw rowD,xw (.lst ((dR pre row).map bH)),xw (.obj n),xw r.mark,xw r.putD,xw (.lst (r.outs.map bH))]) (ω1:=ω) (by
     unfold CW;rw[bV (dO (d:=r.val) (ω3:=ω) (L.gDeeds (aB rfl)) (aB (d:=r.mark) rfl) (by
      show pu (jA ω (.obj dd) r.mark) ω=_;rw[Jm L hm];rfl))]
     rfl)]
    rw[aK (d:=.lst ((dR (pre++[r]) row).map bH)) (ω1:=ω) (dO (aB (d:=.lst ((dR pre row).map bH)) rfl) (aB (d:=.lst (r.outs.map bH)) rfl) (by
     show(if((dR pre row).map bH).length+(r.outs.map bH).length<=sizeLine then xw (D.lst ((dR pre row).map bH++r.outs.map bH),ω) else xx)=_
     rw[if_pos (by rw[ao,ao,bt];omega),eg,cf]))]
    rfl
   cases hq:r.put with
   |none=>
    have ep:r.putD=.non:=by unfold Rec.putD;rw[hq]
    have ee:r.ent=xx:=by unfold Rec.ent;rw[hq];rfl
    refine step ω (xw r.putD) (xw (.lst (r.outs.map bH))) _ .non rfl ?_ ?_
    ·unfold bB;rw[mW tst,b1,ep];rfl
    ·rw[et,ee];simp only[Option.toList_none,c6];rw[gZ hn]
   |some p=>
    have ep:r.putD=.tup [.str p.1,.int p.2]:=by unfold Rec.putD;rw[hq]
    have ee:r.ent=xw (.tup [.str p.1,mkD r.a r.b,.int p.2]):=by unfold Rec.ent;rw[hq];rfl
    refine step (ω.set n (.ml (bC (pre++[r]) row))) (xw r.putD) (xw (.lst (r.outs.map bH))) _ .non rfl ?_ rfl;unfold bB;rw[mW tst,b1,ep];rw[mW (ω1:=ω) rfl];unfold bT;have tl:(bC pre row).length<=pre.length:=ci (nv ..) (fe ..);have h3:pre.length<64:=by rw[hp,bw] at hl;omega
    rw[bV (lX (r:=.non) (ω3:=ω.set n (.ml (bC (pre++[r]) row))) (aB (d:=.obj n) rfl) hn (aA (cO (d:=.tup [.str p.1,mkD r.a r.b,.int p.2]) (aA (aJ (aB (d:=.tup [.str p.1,.int p.2]) rfl) aU rfl) (aA (aB (d:=r.mark) rfl) (aA (aJ (aB (d:=.tup [.str p.1,.int p.2]) rfl) aU rfl) aD))) rfl) aD) (by
     simp only[mH,hn];rw[if_pos (by rw[bt];omega),et,ee];rfl))]
end
theorem uX {o o':Ob}:(ω++[o]).set ω.length o'=ω++[o']:=by simp
section
variable {B ω:Om}{c h dd oo kk:Nat}{ks:Nat->Nat}{rs:List Rec}{kn:Nat->Nat->List Int}{own:Nat->Nat}
theorem xC (R:wF c own rs) (hd:d∈bC rs row):∃(a b:Nat) (x:Str) (v:Int),d=.tup [.str x,mkD a b,.int v]/\a<c/\1<=b/\b<=own a:=by
 obtain⟨r,hr,e⟩:=hW.mp hd;have hin:=R.inn r (b0.mp hr).1;unfold Rec.ent at e;cases hq:r.put with
 |none=>rw[hq] at e;cases e
 |some p=>
  rw[hq] at e;cases e;exact⟨r.a,r.b,p.1,p.2,rfl,hin⟩
theorem IC (R:wF c own rs) (hq:q∈dR rs row):KeyIn c own q:=by
 obtain⟨r,hr,e⟩:=pb.mp hq;exact(R.outs r (b0.mp hr).1).2 q e
theorem LawAt.lts (L:LawAt B ω c h dd oo kk ks rs kn):h<ω.length/\dd<ω.length/\oo<ω.length/\kk<ω.length/\∀ i,i<c->ks i<ω.length:=⟨dH L.obj,dH L.deeds,dH L.order,dH L.known,fun i hi=>by
 obtain⟨ds,e,_⟩:=L.row i hi;exact dH e⟩
theorem tE (L:LawAt B ω c h dd oo kk ks rs kn) (c0:0<c) (R:wF c own rs) (hr:RowV ω rowD row) (hrow:row.length=c) (hl:rs.length<64) (hs:eC 4 (eJ rs row)=xw out):fH [.obj h,rowD] ω=xw (.ok (.lst out),ω++[.ml (bC rs row)]):=by
 obtain⟨l1,l2,l3,l4,l5⟩:=L.lts;have L1:=L.app c0 [Ob.ml []];have nr:sI (ω++[Ob.ml []]) ω.length:=fun y ys z=>by
  rw[dr (bf _)] at z;simp at z;cases z
 obtain⟨v4,v5,v6,e⟩:=xR hrow rs [] (n:=ω.length) (v4:=xx) (v5:=xx) (v6:=xx) L1 c0 R (hr.app _) rfl hl (by simp[bC]) nr (by omega) (by omega) (by omega) (by omega) (fun i hi=>by have:=l5 i hi;omega) L.bas.1;rw[uX] at e;have hn:(ω++[Ob.ml (bC rs row)])[ω.length]?=xw (.ml (bC rs row)):=by simp
 have cp:cP rS (oIL (zV 3)) [xx,xw 2] (aW 0) (bS (o2 (lf (Co 7)) (zX (zV 0) (zI 1)) (zV 1))) (zV 0) [xw (.obj h),xw rowD,xw (.lst ((dR rs row).map bH)),xw (.obj ω.length),v4,v5,v6] (ω++[.ml (bC rs row)])=xw (.ok (.lst (eJ rs row)),ω++[.ml (bC rs row)]):=by
  have tl:(bC rs row).length<=rs.length:=ci (nv ..) (fe ..);refine eM (ds:=bC rs row) (chk:=iZ ω.length (bC rs row)) (ω1:=ω++[.ml (bC rs row)]) ?_ (by rw[bt];omega) ?_
  ·unfold oIL;rw[bF (aB (d:=.obj ω.length) rfl)]
   have:mG (ω++[Ob.ml (bC rs row)]) (.obj ω.length)=xw (bC rs row,iZ ω.length (bC rs row)):=by simp only[mG,hn]
   show oR (pu (mG (ω++[Ob.ml (bC rs row)]) (.obj ω.length)) _)=_;rw[this];rfl
  ·refine(eP (p:=fun d=> !Ii (aZ d) (dR rs row)) (g:=fun d=>d) (fun ρ=>∃ u,ρ=[u,xw (.lst ((dR rs row).map bH))]) (kZ hn) ⟨_,rfl⟩ fun d hd ρ hρ=> ?_).trans (by rw[List.map_id'];rfl);obtain⟨u,rfl⟩:=hρ;obtain⟨a,b,x,v,rfl,_⟩:=xC R hd;refine⟨_,rfl,⟨_,rfl⟩,?_,fun _=>aB rfl⟩;refine bR (fT (aJ (aB (d:=.tup [.str x,mkD a b,.int v]) rfl) aU rfl) (aB (d:=.lst ((dR rs row).map bH)) rfl) ?_)
   show(inO (fun d=>eqD 7 d (mkD a b)) ((dR rs row).map bH)).map (fun k=>D.bl (!k))=_
   rw[Cd a b _ fun q hq=>(IC R hq).mk];rfl
 refine aT rfl ?_;unfold mC;rw[aK (d:=.lst []) (ω1:=ω) rfl];rw[aK (d:=.obj ω.length) (ω1:=ω++[.ml []]) rfl];refine(bA (eY (by
  unfold bI oIL;rw[bV (x:=(rs.map Rec.mark,iZ oo (rs.map Rec.mark))) (ω1:=ω++[Ob.ml []]) (by
   rw[bF (L1.gOrder (aB (d:=.obj h) rfl))]
   have:mG (ω++[Ob.ml []]) (.obj oo)=xw (rs.map Rec.mark,iZ oo (rs.map Rec.mark)):=by simp only[mG,L1.order]
   show oR (pu (mG (ω++[Ob.ml []]) (.obj oo)) _)=_;rw[this];rfl)]
  exact e))).trans ?_
 refine bD (cO (aA cp aD) ?_)
 show(eC 4 (eJ rs row)).map _=_
 rw[hs];rfl
theorem LawAt.setRow (L:LawAt B ω c h dd oo kk ks rs kn) (c0:0<c) (hi:i<c) (hj:j<c) (hd:ω[ks i]?=xw (.ml ds)) (hD:RowsD ω c ds (kn i)) (hr:RowV ω d xs) (hx:xs.length=c):LawAt B (ω.set (ks i) (.ml (ds.set j d))) c h dd oo kk ks rs (upF kn i (upF (kn i) j xs)):=by
 have nr:=hD.noRow hd c0;obtain⟨o1,o2,o3,o4⟩:=L.out i hi;have x0:xs≠[]:=fun z=>by rw[z] at hx;simp at hx;omega
 refine⟨?_,?_,?_,?_,fun k hk=> ?_,fun a b ha hb=> ?_,L.inj,L.out,L.nd,L.low,⟨by simpa using L.bas.1,fun m hm=> ?_⟩,L.keys,L.ra⟩
 ·rw[aI (bx o1)];exact L.obj
 ·rw[aI (bx o2)];exact L.deeds
 ·rw[aI (bx o3)];exact L.order
 ·rw[aI (bx o4)];exact L.known
 ·by_cases hk2:k=i
  ·subst hk2;refine⟨ds.set j d,cB hd,by rw[ce];exact hD.1,fun b hb=> ?_⟩;rw[aX]
   by_cases hb2:b=j
   ·subst hb2;rw[aX];exact⟨d,dy (by rw[hD.1];exact hb),hr.set x0 nr⟩
   ·rw[aQ hb2];obtain⟨d',e,r⟩:=hD.2 b hb;exact⟨d',by rw[f9 (bx hb2)];exact e,r.set (L.len0 c0 hi hb) nr⟩
  ·rw[aQ hk2];obtain⟨ds',e,r⟩:=L.row k hk;exact⟨ds',by rw[aI (L.inj k i hk hi hk2)];exact e,r.keep (fun d xs hx q=>q.set hx nr) fun b hb=>L.len0 c0 hk hb⟩
 ·by_cases hk2:a=i
  ·subst hk2;rw[aX]
   by_cases hb2:b=j
   ·subst hb2;rw[aX];exact hx
   ·rw[aQ hb2];exact L.len _ _ ha hb
  ·rw[aQ hk2];exact L.len _ _ ha hb
 ·rw[aI (by have:=L.low.2.2.2.2 i hi;omega)];exact L.bas.2 m hm
theorem LawAt.addRec (L:LawAt B ω c h dd oo kk ks rs kn) (c0:0<c) (hr:r.a<c) (hk:r.key∉rs.map Rec.key):LawAt B ((ω.set dd (.dt ((rs++[r]).map fun r=>(r.key,r.val)))).set oo (.ml ((rs++[r]).map Rec.mark))) c h dd oo kk ks (rs++[r]) kn:=by
 obtain⟨d1,d2,d3,d4,d5,d6⟩:=L.nd;have nd:=L.noDeeds;have no:sI (ω.set dd (.dt ((rs++[r]).map fun r=>(r.key,r.val)))) oo:=fun y ys z=>by
  rw[aI (bx d4)] at z;exact L.noOrder y ys z
 refine⟨?_,?_,?_,?_,fun i hi=> ?_,L.len,L.inj,L.out,L.nd,L.low,⟨by simpa using L.bas.1,fun m hm=> ?_⟩,?_,fun q hq=> ?_⟩
 ·rw[aI d2,aI d1];exact L.obj
 ·rw[aI d4];exact cB L.deeds
 ·exact cB (by rw[aI (bx d4)];exact L.order)
 ·rw[aI (bx d6),aI (bx d5)];exact L.known
 ·obtain⟨ds,e,rr⟩:=L.row i hi;obtain⟨o1,o2,o3,o4⟩:=L.out i hi;exact⟨ds,by rw[aI o3,aI o2];exact e,rr.keep (fun d xs hx q=>(q.set hx nd).set hx no) fun j hj=>L.len0 c0 hi hj⟩
 ·obtain⟨m1,m2,m3,m4,m5⟩:=L.low;rw[aI (by omega),aI (by omega)];exact L.bas.2 m hm
 ·rw[cf,j3];refine⟨L.keys,by simp,fun a ha b hb z=>hk ?_⟩
  have:b=r.key:=by simpa using hb
  rw[<- this,<- z];exact ha
 ·rcases cu.mp hq with z|z
  ·exact L.ra q z
  ·rw[dh.mp z];exact hr
theorem vG (L:LawAt B ω c h dd oo kk ks rs kn) (c0:0<c) (hi:own'<c) (ha:r.a=own') (hb:(r.b:Int)=(kn own' own').getD own' 0+1) (hk:r.key∉rs.map Rec.key) (hl:rs.length<64):∃ ω',cV [.obj h,.int own',r.putD,.lst (r.outs.map bH)] ω=xw (.ok r.mark,ω')/\LawAt B ω' c h dd oo kk ks (rs++[r]) (upF kn own' (upF (kn own') own' ((kn own' own').set own' r.b)))/\ω.length<=ω'.length:=by
 obtain⟨ds,e1,D1⟩:=L.row own' hi;obtain⟨d,e2,R1⟩:=D1.ix e1 hi;obtain⟨xs,hxs⟩:∃ xs,xs=kn own' own':=⟨_,rfl⟩;have hlen:xs.length=c:=by rw[hxs];exact L.len _ _ hi hi
 rw[<- hxs] at R1 hb ⊢;obtain⟨ω2,hω2⟩:∃ ω2,ω2=ω++[Ob.ml (iv (xs.set own' r.b))]:=⟨_,rfl⟩;have L2:LawAt B ω2 c h dd oo kk ks rs kn:=by rw[hω2];exact L.app c0 _
 have s2:ω2[ω.length]?=xw (.ml (iv (xs.set own' r.b))):=by rw[hω2];simp
 have e1':ω2[ks own']?=xw (.ml ds):=by rw[hω2,am (dH e1)];exact e1
 have D2:RowsD ω2 c ds (kn own'):=D1.keep (fun d xs _ q=>by rw[hω2];exact q.app _) fun j hj=>L.len0 c0 hi hj;have xr:(xs.set own' (r.b:Int)).length=c:=by rw[ce];exact hlen
 obtain⟨ω3,hω3⟩:∃ ω3,ω3=ω2.set (ks own') (.ml (ds.set own' (.obj ω.length))):=⟨_,rfl⟩;have L3:LawAt B ω3 c h dd oo kk ks rs (upF kn own' (upF (kn own') own' (xs.set own' r.b))):=by rw[hω3];exact L2.setRow c0 hi hi e1' D2 (cG s2) xr
 have nr2:=D2.noRow e1' c0;have s3:ω3[ω.length]?=xw (.ml (iv (xs.set own' r.b))):=by
  have:=L.lts.2.2.2.2 own' hi
  rw[hω3,aI (by omega)];exact s2
 have L4:=L3.addRec (r:=r) c0 (by omega) hk;have key:r.key=gA own' r.b:=by unfold Rec.key;rw[ha]
 have mk:r.mark=mkD own' r.b:=by unfold Rec.mark;rw[ha]
 have ix3:oN ω3 (.obj ω.length) (.int own')=xw (.int r.b):=by
  have:=(cG s3).ix (a:=own') (by omega) (by rw[xr];omega)
  rw[this,cw,fJ _ _ _ _ (by omega),if_pos rfl]
 refine⟨_,?_,L4,by rw[ce,ce,hω3,ce,hω2];simp⟩;refine aT rfl ?_;unfold qC;refine(aK (d:=.obj ω.length) (ω1:=ω++[.ml (iv xs)]) (cO (aA (aJ (aJ (L.gKnown (aB rfl)) (aB (d:=.int own') rfl) (L.ixKnown hi)) (aB (d:=.int own') rfl) e2) aD) (by
  have:bZ ω d=xw (iv xs):=by
   rcases fF R1 with rfl|⟨n,rfl,e⟩
   ·rfl
   ·simp only[bZ,fG,e]
  show uA ω [d]=_;simp only[uA,this];rfl))).trans ?_
 have s1:(ω++[Ob.ml (iv xs)])[ω.length]?=xw (.ml (iv xs)):=by simp
 have ix1:oN (ω++[Ob.ml (iv xs)]) (.obj ω.length) (.int own')=xw (.int (xs.getD own' 0)):=by
  have:=(cG s1).ix (a:=own') (by omega) (by rw[hlen];omega)
  rw[this,cw]
 refine(bA (eE (v:=.int r.b) (o:=.obj ω.length) (i:=.int own') (ω4:=ω2) (by
  have:=qH (ω:=ω++[Ob.ml (iv xs)]) (f:=zX (zV 4) (zV 1)) (h:=zI 1) (ρ:=(cE rK [.obj h,.int own',r.putD,.lst (r.outs.map bH)]).set 4 (xw (.obj ω.length))) (aJ (aB (d:=.obj ω.length) rfl) (aB (d:=.int own') rfl) ix1) aU
  rw[hb];exact this) (aB rfl) (aB rfl) (by
  rw[kS s1 (by unfold iv;rw[ao];omega),uX,hω2];unfold iv;rw[rp]))).trans ?_
 refine(bA (eE (v:=.obj ω.length) (o:=.obj (ks own')) (i:=.int own') (ω4:=ω3) (aB rfl) (aJ (L2.gKnown (aB (d:=.obj h) rfl)) (aB (d:=.int own') rfl) (L2.ixKnown hi)) (aB rfl) (by rw[kS e1' (by rw[D1.1];exact hi),hω3]))).trans ?_;refine(bA (eE (v:=r.val) (o:=.obj dd) (i:=r.mark) (ω4:=ω3.set dd (.dt ((rs++[r]).map fun r=>(r.key,r.val)))) (cO (aA (aB (d:=r.putD) rfl) (aA (aB (d:=.lst (r.outs.map bH)) rfl) aD)) rfl) (L3.gDeeds (aB (d:=.obj h) rfl)) (cO (aA (aB (d:=.int own') rfl) (aA (aJ (aB (d:=.obj ω.length) rfl) (aB (d:=.int own') rfl) ix3) aD)) (by rw[mk];rfl)) (by
  rw[qK (ks:=r.key) L3.deeds rfl (by rw[ao,bt];omega),oF (by rw[fm];exact hk),cf];rfl))).trans ?_
 obtain⟨d1,d2,d3,d4,d5,d6⟩:=L.nd;have o4:(ω3.set dd (.dt ((rs++[r]).map fun r=>(r.key,r.val))))[oo]?=xw (.ml (rs.map Rec.mark)):=by rw[aI (bx d4)];exact L3.order
 have h4:(ω3.set dd (.dt ((rs++[r]).map fun r=>(r.key,r.val))))[h]?=xw (.dk [(.inr "count",.int c),(.inr "deeds",.obj dd),(.inr "order",.obj oo),(.inr "known",.obj kk)]):=by rw[aI d1];exact L3.obj
 have dlt:=L.lts.2.1;have s4:(ω3.set dd (.dt ((rs++[r]).map fun r=>(r.key,r.val))))[ω.length]?=xw (.ml (iv (xs.set own' r.b))):=by rw[aI (by omega)];exact s3
 have ix4:oN (ω3.set dd (.dt ((rs++[r]).map fun r=>(r.key,r.val)))) (.obj ω.length) (.int own')=xw (.int r.b):=by
  have:=(cG s4).ix (a:=own') (by omega) (by rw[xr];omega)
  rw[this,cw,fJ _ _ _ _ (by omega),if_pos rfl]
 refine(bA (ρ1:=[xw (.obj h),xw (.int own'),xw r.putD,xw (.lst (r.outs.map bH)),xw (.obj ω.length)]) (ω1:=(ω3.set dd (.dt ((rs++[r]).map fun r=>(r.key,r.val)))).set oo (.ml ((rs++[r]).map Rec.mark))) (by
  unfold bT;rw[bV (lX (r:=.non) (ω3:=(ω3.set dd (.dt ((rs++[r]).map fun r=>(r.key,r.val)))).set oo (.ml ((rs++[r]).map Rec.mark))) (dO (aB (d:=.obj h) rfl) aU (d:=.obj oo) (ω3:=ω3.set dd (.dt ((rs++[r]).map fun r=>(r.key,r.val)))) (by
   show pu (jA _ (.obj h) (.str "order")) _=_
   have:jA (ω3.set dd (.dt ((rs++[r]).map fun r=>(r.key,r.val)))) (.obj h) (.str "order")=xw (.obj oo):=by
    simp only[jA,Ed,cellOf,h4,toK];rfl
   rw[this];rfl)) o4 (aA (cO (d:=r.mark) (aA (aB (d:=.int own') rfl) (aA (aJ (aB (d:=.obj ω.length) rfl) (aB (d:=.int own') rfl) ix4) aD)) (by rw[mk];rfl)) aD) (by
   simp only[mH,o4];rw[if_pos (by rw[ao,bt];omega),show(rs++[r]).map Rec.mark=rs.map Rec.mark++[r.mark] from by simp]))]
  rfl)).trans ?_
 have olt:=L.lts.2.2.1;have s5:((ω3.set dd (.dt ((rs++[r]).map fun r=>(r.key,r.val)))).set oo (.ml ((rs++[r]).map Rec.mark)))[ω.length]?=xw (.ml (iv (xs.set own' r.b))):=by rw[aI (by omega)];exact s4
 refine bD (cO (aA (aB (d:=.int own') rfl) (aA (aJ (d:=.int r.b) (aB (d:=.obj ω.length) rfl) (aB (d:=.int own') rfl) (by
  have:=(cG s5).ix (a:=own') (by omega) (by rw[xr];omega)
  rw[this,cw,fJ _ _ _ _ (by omega),if_pos rfl])) aD)) (by rw[mk];rfl))
end
noncomputable def mo (kn:Nat->Nat->List Int) (one other k j:Nat):Int:=if k=other then mx (mx ((kn one k).getD j 0) ((kn other k).getD j 0)) ((kn one one).getD j 0) else mx ((kn one k).getD j 0) ((kn other k).getD j 0)
noncomputable def moR (c:Nat) (kn:Nat->Nat->List Int) (one other k:Nat):List Int:=(bj c).map (mo kn one other k)
section
variable {B ω0:Om}{c h dd oo kk:Nat}{ks:Nat->Nat}{rs:List Rec}{kn:Nat->Nat->List Int}{one other:Nat}
theorem LawAt.ixRow (L:LawAt B ω0 c h dd oo kk ks rs kn) (g:∀ n:Nat,n<ω0.length->ω[n]?=ω0[n]?) (hi:i<c) (hj:j<c):∃ d,oN ω (.obj (ks i)) (.int j)=xw d/\RowV ω d (kn i j):=by
 obtain⟨ds,e,r⟩:=L.row i hi;obtain⟨d,e1,r1⟩:=r.2 j hj;have e':ω[ks i]?=xw (.ml ds):=by rw[g _ (dH e)];exact e
 exact⟨d,by rw[lF e'];exact qZ e1,r1.keep fun n q=>by rw[g n (dH q)];exact q⟩
theorem sQ (L:LawAt B ω0 c h dd oo kk ks rs kn) (c8:c<=8) (h1:one<c) (h2:other<c) (hk:k<c) (hq:ω0.length<=q):∀(r s:Nat) {ω:Om}{v9 v10:Option D},(∀ n:Nat,n<ω0.length->ω[n]?=ω0[n]?)->ω[q]?=xw (.ml (iv ((bj s).map (mo kn one other k))))->s+r=c->
  ∃ v9' v10',bP (aW 9) bO cT (kB s r) [v0,xw (.int one),xw (.int other),xw (.obj (ks one)),xw (.obj (ks other)),v5,v6,xw (.int k),xw (.obj q),v9,v10] ω=xw (.nx [v0,xw (.int one),xw (.int other),xw (.obj (ks one)),xw (.obj (ks other)),v5,v6,xw (.int k),xw (.obj q),v9',v10'],ω.set q (.ml (iv (moR c kn one other k))))
 |0,s,ω,v9,v10,g,e,hs=>⟨v9,v10,by
   have:s=c:=by omega
   subst this;show xw (OOut.nx _,ω)=_;rw[show moR s kn one other k=(bj s).map (mo kn one other k) from rfl,gZ e]⟩
 |r+1,s,ω,v9,v10,g,e,hs=>by
  have hsc:s<c:=by omega
  obtain⟨d1,i1,r1⟩:=L.ixRow g h1 hk;obtain⟨d2,i2,r2⟩:=L.ixRow g h2 hk;obtain⟨d3,i3,r3⟩:=L.ixRow g h1 h1;have rx:∀ {d:D}{xs:List Int},RowV ω d xs->xs.length=c->oN ω d (.int s)=xw (.int (xs.getD s 0)):=fun {d xs} rr hx=>by
   have:=rr.ix (a:=s) (by omega) (by omega)
   rw[this,cw]
  have b1:∃ v10',cT [v0,xw (.int one),xw (.int other),xw (.obj (ks one)),xw (.obj (ks other)),v5,v6,xw (.int k),xw (.obj q),xw (.int s),v10] ω=xw (.nx [v0,xw (.int one),xw (.int other),xw (.obj (ks one)),xw (.obj (ks other)),v5,v6,xw (.int k),xw (.obj q),xw (.int s),v10'],ω.set q (.ml (iv ((bj (s+1)).map (mo kn one other k))))):=by
   refine⟨xw (.int (mo kn one other k s)),?_⟩;unfold cT;rw[aK (d:=.int (mx ((kn one k).getD s 0) ((kn other k).getD s 0))) (ω1:=ω) (cO (aA (aJ (aJ (aB (d:=.obj (ks one)) rfl) (aB (d:=.int k) rfl) i1) (aB (d:=.int s) rfl) (rx r1 (L.len _ _ h1 hk))) (aA (aJ (aJ (aB (d:=.obj (ks other)) rfl) (aB (d:=.int k) rfl) i2) (aB (d:=.int s) rfl) (rx r2 (L.len _ _ h2 hk))) aD)) rfl)];have mid:dA (bS (o2 (iW 8) (zV 7) (zV 2))) (aY 10 (oL (lfL yO) (aC (zV 10) (aC (zX (zX (zV 3) (zV 1)) (zV 9)) aM)))) bG [v0,xw (.int one),xw (.int other),xw (.obj (ks one)),xw (.obj (ks other)),v5,v6,xw (.int k),xw (.obj q),xw (.int s),xw (.int (mx ((kn one k).getD s 0) ((kn other k).getD s 0)))] ω=xw (.nx [v0,xw (.int one),xw (.int other),xw (.obj (ks one)),xw (.obj (ks other)),v5,v6,xw (.int k),xw (.obj q),xw (.int s),xw (.int (mo kn one other k s))],ω):=by
    have t:=Mi (ω:=ω) (ρ:=[v0,xw (.int one),xw (.int other),xw (.obj (ks one)),xw (.obj (ks other)),v5,v6,xw (.int k),xw (.obj q),xw (.int s),xw (.int (mx ((kn one k).getD s 0) ((kn other k).getD s 0)))]) (k:=7) (l:=2) (a:=(k:Int)) (b:=(other:Int)) rfl rfl
    by_cases hko:k=other
    ·rw[decide_eq_true (by omega:(k:Int)=other)] at t;rw[mW t,CF (d:=.int (mo kn one other k s)) (ω1:=ω) (cO (aA (aB (d:=.int (mx ((kn one k).getD s 0) ((kn other k).getD s 0))) rfl) (aA (aJ (aJ (aB (d:=.obj (ks one)) rfl) (aB (d:=.int one) rfl) i3) (aB (d:=.int s) rfl) (rx r3 (L.len _ _ h1 h1))) aD)) (by
      unfold mo;rw[if_pos hko];rfl))]
     rfl
    ·rw[decide_eq_false (by omega:¬(k:Int)=other)] at t;rw[lN t];unfold mo;rw[if_neg hko];rfl
   refine(bA mid).trans ?_;unfold bT;rw[bV (lX (r:=.non) (ω3:=ω.set q (.ml (iv ((bj (s+1)).map (mo kn one other k))))) (aB (d:=.obj q) rfl) e (aA (aB (d:=.int (mo kn one other k s)) rfl) aD) (by
    simp only[mH,e];rw[if_pos (by unfold iv;rw[ao,ao,fk,bt];omega),jf];unfold iv;rw[cf,cf];rfl))]
  obtain⟨w10,b1⟩:=b1;obtain⟨u9,u10,e2⟩:=sQ L c8 h1 h2 hk hq (v0:=v0) (v5:=v5) (v6:=v6) r (s+1) (ω:=ω.set q (.ml (iv ((bj (s+1)).map (mo kn one other k))))) (v9:=xw (.int s)) (v10:=w10) (fun n hn=>by rw[aI (by omega)];exact g n hn) (cB e) (by omega);refine⟨u9,u10,?_⟩;rw[pp] at e2;rw[gQ];refine(dD rfl rfl (b1)).trans ?_;exact e2
def CL (ω:Om) (lo m s:Nat) (ds:List D) (q:Nat->List Int):Prop:=ω[m]?=xw (.ml ds)/\ds.length=s/\∀ j,j<s->∃ n,ds[j]?=xw (.obj n)/\ω[n]?=xw (.ml (iv (q j)))/\n≠m/\lo<=n
theorem sP (L:LawAt B ω0 c h dd oo kk ks rs kn) (c0:0<c) (c8:c<=8) (h1:one<c) (h2:other<c) (hm:ω0.length<=m):∀(r s:Nat) {ω:Om}{ds:List D}{v7 v8 v9 v10:Option D},(∀ n:Nat,n<ω0.length->ω[n]?=ω0[n]?)->ω0.length<=ω.length->CL ω ω0.length m s ds (moR c kn one other)->s+r=c->
  ∃ ω' ds' v7' v8' v9' v10',bP (aW 7) bO cS (kB s r) [xw (.obj h),xw (.int one),xw (.int other),xw (.obj (ks one)),xw (.obj (ks other)),v5,xw (.obj m),v7,v8,v9,v10] ω=xw (.nx [xw (.obj h),xw (.int one),xw (.int other),xw (.obj (ks one)),xw (.obj (ks other)),v5,xw (.obj m),v7',v8',v9',v10'],ω')/\(∀ n:Nat,n<ω0.length->ω'[n]?=ω0[n]?)/\ω0.length<=ω'.length/\CL ω' ω0.length m c ds' (moR c kn one other)
 |0,s,ω,ds,v7,v8,v9,v10,g,gl,M,hs=>by
  have:s=c:=by omega
  subst this;exact⟨ω,ds,v7,v8,v9,v10,rfl,g,gl,M⟩
 |r+1,s,ω,ds,v7,v8,v9,v10,g,gl,M,hs=>by
  obtain⟨M1,M2,M3⟩:=M;have mlt:=dH M1;have g1:∀ n:Nat,n<ω0.length->(ω++[Ob.ml []])[n]?=ω0[n]?:=fun n hn=>by rw[am (by omega)];exact g n hn
  obtain⟨u9,u10,e1⟩:=sQ L c8 h1 h2 (k:=s) (q:=ω.length) (by omega) gl (v0:=xw (.obj h)) (v5:=v5) (v6:=xw (.obj m)) c 0 (ω:=ω++[Ob.ml []]) (v9:=v9) (v10:=v10) g1 (by simp[iv]) (by omega);rw[uX] at e1;have M1':(ω++[Ob.ml (iv (moR c kn one other s))])[m]?=xw (.ml ds):=by rw[am mlt];exact M1
  obtain⟨ω2,hω2⟩:∃ ω2,ω2=(ω++[Ob.ml (iv (moR c kn one other s))]).set m (.ml (ds++[.obj ω.length])):=⟨_,rfl⟩;have L1:LawAt B (ω++[Ob.ml []]) c h dd oo kk ks rs kn:=L.mono c0 (by simp;omega) g1;have b2:cS [xw (.obj h),xw (.int one),xw (.int other),xw (.obj (ks one)),xw (.obj (ks other)),v5,xw (.obj m),xw (.int s),v8,v9,v10] ω=xw (.nx [xw (.obj h),xw (.int one),xw (.int other),xw (.obj (ks one)),xw (.obj (ks other)),v5,xw (.obj m),xw (.int s),xw (.obj ω.length),u9,u10],ω2):=by
   unfold cS;rw[aK (d:=.obj ω.length) (ω1:=ω++[.ml []]) rfl];refine(bA (eY (by
    unfold bI;rw[bV (jE (c:=c) (L1.gCount (aB (d:=.obj h) rfl)) (by omega))];exact e1))).trans ?_
   unfold bT;rw[bV (lX (r:=.non) (ω3:=ω2) (aB (d:=.obj m) rfl) M1' (aA (aB (d:=.obj ω.length) rfl) aD) (by
    simp only[mH,M1'];rw[if_pos (by rw[bt];omega),hω2]))]
  have g2:∀ n:Nat,n<ω0.length->ω2[n]?=ω0[n]?:=fun n hn=>by rw[hω2,aI (by omega),am (by omega)];exact g n hn
  have l2:ω2.length=ω.length+1:=by rw[hω2];simp
  have Md:CL ω2 ω0.length m (s+1) (ds++[.obj ω.length]) (moR c kn one other):=by
   refine⟨by rw[hω2];exact cB M1',by simp[M2],fun j hj=> ?_⟩
   by_cases hjs:j<s
   ·obtain⟨n,a1,a2,a3,a4⟩:=M3 j hjs;refine⟨n,by rw[am (by omega)];exact a1,?_,a3,a4⟩;rw[hω2,aI a3,am (dH a2)];exact a2
   ·have:j=s:=by omega
    subst this;refine⟨ω.length,by rw[dr (by omega),M2];simp,?_,by omega,gl⟩;rw[hω2,aI (by omega)];simp
  obtain⟨ω',ds',w7,w8,w9,w10,e2,g3,l3,M4⟩:=sP L c0 c8 h1 h2 hm (v5:=v5) r (s+1) (v7:=xw (.int s)) (v8:=xw (.obj ω.length)) (v9:=u9) (v10:=u10) g2 (by omega) Md (by omega);refine⟨ω',ds',w7,w8,w9,w10,?_,g3,l3,M4⟩;rw[gQ];refine(dD rfl rfl (b2)).trans ?_;exact e2
theorem En (e:f ρ ω=xw (.ok d,ω)) (r:RowV ω d xs):oL AC (aC f aM) ρ ω=xw (.ok (.int xs.sum),ω):=by
 refine cO (aA e aD) ?_;have r':fG ω d=xw (iv xs):=r;simp only[AC,r']
 show(lL (iv xs)).map _=_
 rw[oW];rfl
theorem jM (L:LawAt B ω0 c h dd oo kk ks rs kn) (c0:0<c) (c8:c<=8) (h1:one<c) (h2:other<c):∃ ω' ks',cW [.obj h,.int one,.int other] ω0=xw (.ok (.int ((moR c kn one other other).sum-(kn other other).sum)),ω')/\LawAt B ω' c h dd oo kk ks' rs (upF kn other (moR c kn one other))/\ω0.length<=ω'.length:=by
 obtain⟨l1,l2,l3,l4,l5⟩:=L.lts;obtain⟨d0,i0,r0⟩:=L.ixRow (ω:=ω0) (fun _ _=>rfl) h2 h2;have g1:∀ n:Nat,n<ω0.length->(ω0++[Ob.ml []])[n]?=ω0[n]?:=fun n hn=>am hn;have M0:CL (ω0++[Ob.ml []]) ω0.length ω0.length 0 [] (moR c kn one other):=⟨by simp,rfl,fun j hj=>by omega⟩;obtain⟨ω5,ds,v7,v8,v9,v10,e5,g5,ll5,M1,M2,M3⟩:=sP L c0 c8 h1 h2 (bf ω0.length) (v5:=xw (.int (kn other other).sum)) c 0 (v7:=xx) (v8:=xx) (v9:=xx) (v10:=xx) g1 (by simp) M0 (by omega);have L5:LawAt B ω5 c h dd oo kk ks rs kn:=L.mono c0 ll5 g5;have L1:LawAt B (ω0++[Ob.ml []]) c h dd oo kk ks rs kn:=L.app c0 _;obtain⟨ω6,hω6⟩:∃ ω6,ω6=ω5.set kk (.ml ((bj c).map fun i=>.obj (upF ks other ω0.length i))):=⟨_,rfl⟩;have kset:((bj c).map fun i=>D.obj (ks i)).set other (.obj ω0.length)=(bj c).map fun i=>.obj (upF ks other ω0.length i):=by
  apply ii;intro i
  by_cases hi:i=other
  ·subst hi;rw[dy (by rw[ao,fk];exact h2),aw,c7 h2];show _=xw (D.obj (upF ks i ω0.length i));rw[aX]
  ·rw[f9 (bx hi),aw,aw];cases hq:(bj c)[i]? with
   |none=>rfl
   |some j=>
    have hj:j=i:=by
     obtain⟨hlt,e⟩:=br.mp hq;rw[ni] at e;exact e.symm
    subst hj;show xw (D.obj (ks j))=xw (D.obj (upF ks other ω0.length j));rw[aQ hi]
 have moL:∀ k,(moR c kn one other k).length=c:=fun k=>by unfold moR;simp
 have nk:sI ω5 kk:=fun y ys z=>by
  rw[L5.known] at z;injection z with z
  injection z with z
  have:D.int y∈(bj c).map fun i=>D.obj (ks i):=by rw[z];exact aq
  obtain⟨i,_,e⟩:=ax.mp this;cases e
 obtain⟨d1,d2,d3,d4,d5,d6⟩:=L.nd;have L6:LawAt B ω6 c h dd oo kk (upF ks other ω0.length) rs (upF kn other (moR c kn one other)):=by
  rw[hω6];refine⟨?_,?_,?_,cB L5.known,fun i hi=> ?_,fun i j hi hj=> ?_,fun i j hi hj hne=> ?_,fun i hi=> ?_,L.nd,⟨L.low.1,L.low.2.1,L.low.2.2.1,L.low.2.2.2.1,fun i hi=> ?_⟩,⟨by simpa using L5.bas.1,fun n hn=> ?_⟩,L.keys,L.ra⟩
  ·rw[aI d3];exact L5.obj
  ·rw[aI d5];exact L5.deeds
  ·rw[aI d6];exact L5.order
  ·by_cases hio:i=other
   ·subst hio;rw[aX,aX];refine⟨ds,by rw[aI (by omega)];exact M1,M2,fun j hj=> ?_⟩;obtain⟨n,a1,a2,a3,a4⟩:=M3 j hj;exact⟨.obj n,a1,cG (by rw[aI (by omega)];exact a2)⟩
   ·rw[aQ hio,aQ hio];obtain⟨ds',e,r⟩:=L5.row i hi;exact⟨ds',by rw[aI (L.out i hi).2.2.2];exact e,r.keep (fun d xs hx q=>q.set hx nk) fun j hj=>L.len0 c0 hi hj⟩
  ·by_cases hio:i=other
   ·subst hio;rw[aX];exact moL j
   ·rw[aQ hio];exact L.len i j hi hj
  ·by_cases hio:i=other
   ·subst hio;rw[aX,aQ (bx hne)]
    have:=l5 j hj
    omega
   ·rw[aQ hio]
    by_cases hjo:j=other
    ·subst hjo;rw[aX]
     have:=l5 i hi
     omega
    ·rw[aQ hjo];exact L.inj i j hi hj hne
  ·by_cases hio:i=other
   ·subst hio;rw[aX];omega
   ·rw[aQ hio];exact L.out i hi
  ·by_cases hio:i=other
   ·subst hio;rw[aX];exact L.bas.1
   ·rw[aQ hio];exact L.low.2.2.2.2 i hi
  ·rw[aI (by have:=L.low.2.2.2.1;omega)];exact L5.bas.2 n hn
 refine⟨ω6,upF ks other ω0.length,?_,L6,by rw[hω6];simpa using ll5⟩;refine aT rfl ?_;unfold jN;refine(aK (aJ (L.gKnown (aB (d:=.obj h) rfl)) (aB (d:=.int one) rfl) (L.ixKnown h1))).trans ?_;refine(aK (aJ (L.gKnown (aB (d:=.obj h) rfl)) (aB (d:=.int other) rfl) (L.ixKnown h2))).trans ?_;refine(aK (En (aJ (aB (d:=.obj (ks other)) rfl) (aB (d:=.int other) rfl) i0) r0)).trans ?_;refine(aK (d:=.obj ω0.length) (ω1:=ω0++[.ml []]) rfl).trans ?_;refine(bA (eY (by
  unfold bI;rw[bV (jE (c:=c) (L1.gCount (aB (d:=.obj h) rfl)) (by omega))];exact e5))).trans ?_
 refine(bA (eE (ω4:=ω6) (aB (d:=.obj ω0.length) rfl) (L5.gKnown (aB (d:=.obj h) rfl)) (aB (d:=.int other) rfl) (by rw[kS L5.known (by rw[ao,fk];exact h2),kset,hω6]))).trans ?_;obtain⟨n,a1,a2,a3,a4⟩:=M3 other h2;have m6:ω6[ω0.length]?=xw (.ml ds):=by rw[hω6,aI (by omega)];exact M1
 have n6:ω6[n]?=xw (.ml (iv (moR c kn one other other))):=by rw[hω6,aI (by omega)];exact a2
 exact bD (Cr (En (aJ (aB (d:=.obj ω0.length) rfl) (aB (d:=.int other) rfl) (by rw[lF m6];exact qZ a1)) (cG n6)) (aB rfl))
end
theorem Fi {c:Nat} (c8:c<=8):∀(m s:Nat) (u:Option D) (ω:Om),∃(ω':Om) (ks:Nat->Nat),compLO (aW 0) bO (oPT jV) (cP IX (oIA gL (aC (zV 1) aM)) [xx,xw 1] (aW 0) (oPT jV) (o2 yN (zL (aC (zI 0) aM)) (zV 1))) (kB s m) [u,xw (.int c)] ω=xw ((c5 s m).map fun i=>D.obj (ks i),ω')/\
  (∀ i,s<=i->i<s+m->∃ ds,ω'[ks i]?=xw (.ml ds)/\RowsD ω' c ds (fun _=>aj c 0))/\(∀ i,s<=i->i<s+m->ω.length<=ks i)/\(∀ i,s<=i->i<s+m->∀ j,s<=j->j<s+m->i≠j->ks i≠ks j)/\Keep [] ω ω'
 |0,s,u,ω=>⟨ω,fun _=>0,rfl,fun i h1 h2=>by omega,fun i h1 h2=>by omega,fun i h1 h2=>by omega,Keep.refl _ _⟩
 |m+1,s,u,ω=>by
  have fill:=AH c8 (kB 0 c) xx ω;rw[gE] at fill;obtain⟨ω1,hω1⟩:∃ ω1,ω1=ω++aj c (Ob.ml (iv (aj c 0))):=⟨_,rfl⟩;rw[<- hω1] at fill;have l1:ω1.length=ω.length+c:=by rw[hω1];simp
  have one:cP IX (oIA gL (aC (zV 1) aM)) [xx,xw 1] (aW 0) (oPT jV) (o2 yN (zL (aC (zI 0) aM)) (zV 1)) [xw (.int s),xw (.int c)] ω=xw (.ok (.obj ω1.length),ω1++[.ml ((c5 ω.length c).map D.obj)]):=pQ (jE (c:=c) (aB rfl) (by omega)) (by rw[gE,bt];omega) fill;obtain⟨ω2,hω2⟩:∃ ω2,ω2=ω1++[Ob.ml ((c5 ω.length c).map D.obj)]:=⟨_,rfl⟩;rw[<- hω2] at one;have l2:ω2.length=ω.length+c+1:=by rw[hω2];simp[l1]
  have k2:∀ n:Nat,n<ω.length->ω2[n]?=ω[n]?:=fun n hn=>by rw[hω2,am (by omega),hω1,am hn]
  have d2:ω2[ω1.length]?=xw (.ml ((c5 ω.length c).map D.obj)):=by rw[hω2];simp
  have r2:∀ j,j<c->ω2[ω.length+j]?=xw (.ml (iv (aj c 0))):=fun j hj=>by
   rw[hω2,am (by omega),hω1,dr (by omega),dc,if_pos (by omega)]
  obtain⟨ω3,ks,e3,R3,F3,A3,K3⟩:=Fi c8 m (s+1) (xw (.int s)) ω2;have g3:∀ n:Nat,n<ω2.length->ω3[n]?=ω2[n]?:=fun n hn=>K3.2 n hn (by simp);refine⟨ω3,upF ks s ω1.length,?_,fun i h1 h2=> ?_,fun i h1 h2=> ?_,fun i h1 h2 j h3 h4 hne=> ?_,⟨by have:=K3.1;omega,fun n hn _=> ?_⟩⟩
  ·rw[gQ];refine(qW rfl rfl (one)).trans ?_
   show(compLO _ _ _ _ (kB ((s+1:Nat):Int) m) _ _).map _=_
   rw[e3,kq,bg];show xw (_::_,_)=_
   congr 3
   ·rw[aX]
   ·apply fg;intro i hi;rw[om] at hi;rw[aQ (by omega)]
  ·by_cases hi:i=s
   ·subst hi;rw[aX];refine⟨_,by rw[g3 _ (by omega)];exact d2,by simp,fun j hj=>⟨.obj (ω.length+j),?_,cG (by rw[g3 _ (by omega)];exact r2 j hj)⟩⟩;rw[aw,List.getElem?_range' hj];simp
   ·rw[aQ hi];exact R3 i (by omega) (by omega)
  ·by_cases hi:i=s
   ·subst hi;rw[aX];omega
   ·rw[aQ hi]
    have:=F3 i (by omega) (by omega)
    omega
  ·by_cases hi:i=s
   ·subst hi;rw[aX,aQ (bx hne)]
    have:=F3 j (by omega) (by omega)
    omega
   ·rw[aQ hi]
    by_cases hj:j=s
    ·subst hj;rw[aX]
     have:=F3 i (by omega) (by omega)
     omega
    ·rw[aQ hj];exact A3 i (by omega) (by omega) j (by omega) (by omega) hne
  ·rw[g3 n (by omega)];exact k2 n hn
theorem Dl {c:Nat} (c0:0<c) (c8:c<=8) (ω:Om):∃ ω' h dd oo kk ks,pM [.int c] ω=xw (.ok (.obj h),ω')/\LawAt ω ω' c h dd oo kk ks [] (fun _ _=>aj c 0):=by
 obtain⟨ω2,hω2⟩:∃ ω2:Om,ω2=ω++[Ob.dk [(.inr "count",.int c),(.inr "deeds",.obj (ω.length+1)),(.inr "order",.obj (ω.length+2))],.dt [],.ml []]:=⟨_,rfl⟩;have l2:ω2.length=ω.length+3:=by rw[hω2];simp
 have h2:ω2[ω.length]?=xw (.dk [(.inr "count",.int c),(.inr "deeds",.obj (ω.length+1)),(.inr "order",.obj (ω.length+2))]):=by rw[hω2];simp
 have d2:ω2[ω.length+1]?=xw (.dt []):=by rw[hω2,dr (by omega)];simp
 have o2':ω2[ω.length+2]?=xw (.ml []):=by rw[hω2,dr (by omega)];simp
 have k2:∀ n:Nat,n<ω.length->ω2[n]?=ω[n]?:=fun n hn=>by rw[hω2,am hn]
 have disp:Dd [("count",(zV 0)),("deeds",vD),("order",(oL II aM))] (cE jX [.int c]) ω=xw (.ok (.obj ω.length),ω2):=by
  unfold Dd;have e:oVs [zV 0,vD,oL II aM] (cE jX [.int c]) (ω++[.dk []])=xw (.ok [.int c,.obj (ω.length+1),.obj (ω.length+2)],ω++[Ob.dk [],.dt [],.ml []]):=by
   refine aA (aB (d:=.int c) rfl) (aA (a:=.obj (ω.length+1)) (ω1:=ω++[Ob.dk [],.dt []]) (by
    show xw (Rz.ok (D.obj (ω++[Ob.dk []]).length),(ω++[Ob.dk []])++[Ob.dt []])=_;simp) (aA (a:=.obj (ω.length+2)) (ω1:=ω++[Ob.dk [],.dt [],.ml []]) (by
    show xw (Rz.ok (D.obj (ω++[Ob.dk [],Ob.dt []]).length),(ω++[Ob.dk [],Ob.dt []])++[Ob.ml []])=_;simp) aD))
  show(match oVs [zV 0,vD,oL II aM] (cE jX [.int c]) (ω++[.dk []]) with
   |none=>xx
   |some (.ex c,ω2)=>xw (Rz.ex c,ω2)
   |some (.ok ds,ω2)=>if 3<=15/\Ds ω2 ω.length=true then xw (Rz.ok (D.obj ω.length),ω2.set ω.length (.dk (Jl [(.inr "count":Key),.inr "deeds",.inr "order"] ds))) else xx)=_
  rw[e]
  show(if 3<=15/\Ds (ω++[Ob.dk [],.dt [],.ml []]) ω.length=true then xw (Rz.ok (D.obj ω.length),(ω++[Ob.dk [],.dt [],.ml []]).set ω.length (.dk [((.inr "count":Key),D.int c),(.inr "deeds",.obj (ω.length+1)),(.inr "order",.obj (ω.length+2))])) else xx)=_
  rw[if_pos ⟨by decide,by unfold Ds;simp⟩,hω2];simp
 obtain⟨ω3,ks,e3,R3,F3,A3,K3⟩:=Fi c8 c 0 xx ω2;have g3:∀ n:Nat,n<ω2.length->ω3[n]?=ω2[n]?:=fun n hn=>K3.2 n hn (by simp);have l3:=K3.1;obtain⟨ω4,hω4⟩:∃ ω4,ω4=ω3++[Ob.ml ((bj c).map fun i=>.obj (ks i))]:=⟨_,rfl⟩;have k4:ω4[ω3.length]?=xw (.ml ((bj c).map fun i=>.obj (ks i))):=by rw[hω4];simp
 have g4:∀ n:Nat,n<ω3.length->ω4[n]?=ω3[n]?:=fun n hn=>by rw[hω4,am hn]
 obtain⟨ω5,hω5⟩:∃ ω5,ω5=ω4.set ω.length (.dk [(.inr "count",.int c),(.inr "deeds",.obj (ω.length+1)),(.inr "order",.obj (ω.length+2)),(.inr "known",.obj ω3.length)]):=⟨_,rfl⟩;have h4:ω4[ω.length]?=xw (.dk [(.inr "count",.int c),(.inr "deeds",.obj (ω.length+1)),(.inr "order",.obj (ω.length+2))]):=by rw[g4 _ (by omega),g3 _ (by omega)];exact h2
 have nrh:sI ω4 ω.length:=fun y ys z=>by rw[h4] at z;cases z
 refine⟨ω5,ω.length,ω.length+1,ω.length+2,ω3.length,ks,?_,?_⟩
 ·refine aT rfl ?_;unfold yL;refine(aK disp).trans ?_;refine(bA (eE (v:=.obj ω3.length) (ω1:=ω4) (o:=.obj ω.length) (i:=.str "known") (ω4:=ω5) (by
   have:=pQ (fi:=oIA gL (aC (zV 0) aM)) (caps:=[xx,xw 0]) (ρ:=(cE jX [.int c]).set 1 (xw (.obj ω.length))) (ω:=ω2) (jE (c:=c) (aB rfl) (by omega)) (by rw[gE,bt];omega) e3
   rw[<- ur,<- hω4] at this;exact this) (aB rfl) aU (by
   simp only[nR,h4]
   show(if 3<sizeLine then xw (ω4.set ω.length (.dk [((.inr "count":Key),D.int c),(.inr "deeds",.obj (ω.length+1)),(.inr "order",.obj (ω.length+2)),(.inr "known",.obj ω3.length)])) else xx)=_
   rw[if_pos (by rw[bt];decide),hω5]))).trans ?_
  exact bD (aB rfl)
 ·have lks:∀ i,i<c->ω.length+3<=ks i:=fun i hi=>by have:=F3 i (by omega) (by omega);omega
  have ltk:∀ i,i<c->ks i<ω3.length:=fun i hi=>by
   obtain⟨ds,e,_⟩:=R3 i (by omega) (by omega);exact dH e
  rw[hω5];refine⟨cB h4,?_,?_,?_,fun i hi=> ?_,fun i j hi hj=>by simp,fun i j hi hj hne=>A3 i (by omega) (by omega) j (by omega) (by omega) hne,fun i hi=> ?_,⟨by omega,by omega,by omega,by omega,by omega,by omega⟩,⟨by omega,by omega,by omega,by omega,fun i hi=>by have:=lks i hi;omega⟩,⟨?_,fun n hn=> ?_⟩,by simp,fun r hr=>by simp at hr⟩
  ·rw[aI (by omega),g4 _ (by omega),g3 _ (by omega)];exact d2
  ·rw[aI (by omega),g4 _ (by omega),g3 _ (by omega)];exact o2'
  ·rw[aI (by omega)];exact k4
  ·obtain⟨ds,e,r⟩:=R3 i (by omega) (by omega)
   have:=lks i hi
   refine⟨ds,by rw[aI (by omega),g4 _ (dH e)];exact e,r.keep (fun d xs hx q=>RowV.set (q.keep fun n z=>by rw[g4 n (dH z)];exact z) hx nrh) fun j hj z=> ?_⟩
   have:(aj c (0:Int)).length=0:=by rw[z];rfl
   simp at this;omega
  ·have:=lks i hi
   have:=ltk i hi
   omega
  ·rw[ce,hω4];simp;omega
  ·rw[aI (by omega),g4 _ (by omega),g3 _ (by omega)];exact k2 n hn
theorem tJ:∀ {l m:List α},l.Nodup->m.Nodup->(∀ x,x∈l↔x∈m)->l.Perm m
 |[],m,_,_,h=>by
  cases m with
  |nil=>exact .refl _
  |cons y m=>exact absurd ((h y).mpr aq) (by simp)
 |x::l,m,h1,h2,h=>by
  obtain⟨s,t,rfl⟩:=List.append_of_mem ((h x).mp aq);have nd:=h2;rw[b8] at h1;have pm:(s++x::t).Perm (x::(s++t)):=List.perm_middle;have nd2:=pm.nodup_iff.mp nd;rw[b8] at nd2;refine(List.Perm.cons x (tJ h1.2 nd2.2 fun y=>⟨fun hy=> ?_,fun hy=> ?_⟩)).trans pm.symm
  ·have:y∈x::(s++t):=pm.mem_iff.mp ((h y).mp (ai _ hy))
   rcases ak.mp this with z|z
   ·exact absurd (z ▸ hy) h1.1
   ·exact z
  ·have:y∈x::l:=(h y).mpr (pm.mem_iff.mpr (ai _ hy))
   rcases ak.mp this with z|z
   ·exact absurd (z ▸ hy) nd2.1
   ·exact z
def EntsOk (ds:List D):Prop:=(∀ d∈ds,fE d)/\(ds.map aZ).Nodup
theorem Gn (ha:fE a) (hb:fE b) (h:aZ a≠aZ b):dY 4 a b=xw true∨dY 4 b a=xw true:=by
 obtain⟨x,p,q,v,rfl⟩:=ha;obtain⟨x',p',q',v',rfl⟩:=hb;rw[BY,BY];unfold eLt
 by_cases hx:x=x'
 ·have:¬(p=p'/\q=q'):=fun z=>h (by unfold aZ;rw[z.1,z.2])
  subst hx
  have:mLt p q p' q'∨mLt p' q' p q:=by unfold mLt;omega
  rcases this with z|z
  ·exact .inl (.inr ⟨rfl,.inl z⟩)
  ·exact .inr (.inr ⟨rfl,.inl z⟩)
 ·rcases Ey hx with z|z
  ·exact .inl (.inl z)
  ·exact .inr (.inl z)
theorem yU (ha:fE a) (hb:fE b) (hc:fE c) (h1:dY 4 a b=xw true) (h2:dY 4 b c=xw true):dY 4 a c=xw true:=by
 obtain⟨x,p,q,v,rfl⟩:=ha;obtain⟨x',p',q',v',rfl⟩:=hb;obtain⟨x2,p2,q2,v2,rfl⟩:=hc;rw[BY] at*;exact Go h1 h2
theorem EntsOk.sorted (h:EntsOk ds) (hs:eC 4 ds=xw out):out.Pairwise fun a b=>dY 4 a b=xw true:=by
 have gm:∀ i,i<ds.length->ds.getD i .non∈ds/\ds[i]?=xw (ds.getD i .non):=fun i hi=>by
  rw[ay,bh hi];exact⟨jc hi,rfl⟩
 refine Ep hs (fun i j hi hj hne=> ?_) fun a ha b hb c hc=>yU (h.1 a ha) (h.1 b hb) (h.1 c hc);refine Gn (h.1 _ (gm i hi).1) (h.1 _ (gm j hj).1) fun z=>hne ?_;have pw:=mr.mp h.2;have hi':i<(ds.map aZ).length:=by simpa using hi
 have hj':j<(ds.map aZ).length:=by simpa using hj
 have ei:(ds.map aZ)[i]=aZ (ds.getD i .non):=by
  rw[wq,ay,bh hi];rfl
 have ej:(ds.map aZ)[j]=aZ (ds.getD j .non):=by
  rw[wq,ay,bh hj];rfl
 rcases Nat.lt_trichotomy i j with q|q|q
 ·exact absurd (by rw[ei,ej,z]) (pw i j hi' hj' q)
 ·exact q
 ·exact absurd (by rw[ei,ej,z]) (pw j i hj' hi' q)
theorem Jc (ha:fE a) (hb:fE b) (h1:dY 4 a b=xw true) (h2:dY 4 b a=xw true):False:=by
 have:=yU ha hb ha h1 h2
 obtain⟨x,p,q,v,rfl⟩:=ha;rw[BY] at this;unfold eLt mLt at this;rcases this with z|⟨_,z⟩
 ·exact sY _ z
 ·omega
theorem Eo (h:EntsOk ds) (hp:ds.Perm ds') (hs:eC 4 ds=xw o) (hs':eC 4 ds'=xw o') (p1:o.Perm ds) (p2:o'.Perm ds'):o=o':=by
 have h':EntsOk ds':=⟨fun d hd=>h.1 d (hp.mem_iff.mpr hd),(hp.map aZ).nodup_iff.mp h.2⟩;have s1:=h.sorted hs;have s2:=h'.sorted hs';have s1':o.Pairwise fun a b=>fE a/\fE b/\dY 4 a b=xw true:=s1.imp_of_mem fun {a b} ha hb q=>⟨h.1 a (p1.mem_iff.mp ha),h.1 b (p1.mem_iff.mp hb),q⟩;have s2':o'.Pairwise fun a b=>fE a/\fE b/\dY 4 a b=xw true:=s2.imp_of_mem fun {a b} ha hb q=>⟨h'.1 a (p2.mem_iff.mp ha),h'.1 b (p2.mem_iff.mp hb),q⟩;exact nD (fun a b x y=>Jc x.1 x.2.1 x.2.2 y.2.2) (p1.trans (hp.trans p2.symm)) s1' s2'
section
variable {c:Nat}{own:Nat->Nat}{rs:List Rec}{row:List Int}
theorem sR (row:List Int):∀ {rs:List Rec},(rs.map Rec.key).Nodup->((bC rs row).map aZ).Nodup
 |[],_=>by simp[bC]
 |r::rs,h=>by
  rw[bg,b8] at h;have ih:=sR row (rs:=rs) h.2;unfold bC at ih ⊢
  by_cases hs:cC row r=true
  ·rw[df hs];cases he:r.ent with
   |none=>rw[List.filterMap_cons_none he];exact ih
   |some d=>
    rw[List.filterMap_cons_some he,bg,b8];refine⟨fun z=>h.1 ?_,ih⟩;obtain⟨d',hd',e⟩:=ax.mp z;obtain⟨r',hr',e'⟩:=hW.mp hd';have key:∀ {r:Rec}{d:D},r.ent=xw d->aZ d=r.key:=fun {r d} q=>by
     unfold Rec.ent at q;cases hp:r.put with
     |none=>rw[hp] at q;cases q
     |some p=>rw[hp] at q;cases q;rfl
    rw[<- key he,<- e,key e'];exact ax.mpr ⟨r',(b0.mp hr').1,rfl⟩
  ·rw[de hs];exact ih
theorem xU (R:wF c own rs) (row:List Int):EntsOk (eJ rs row):=by
 refine⟨fun d hd=> ?_,(sR row R.keys).sublist (ky.map _)⟩;obtain⟨a,b,x,v,rfl,_⟩:=xC R (b0.mp hd).1;exact⟨x,a,b,v,rfl⟩
theorem oE (R:wF c own rs):rs.length<=tot c own:=by
 have:=oI R.keys (m:=univ c own) fun k hk=>by
  obtain⟨r,hr,rfl⟩:=ax.mp hk
  have:=R.inn r hr
  exact KeyIn.univ ⟨r.a,r.b,this.1,this.2.1,this.2.2,rfl⟩
 rw[uQ,ao] at this;exact this
theorem tF (R:wF c own rs) (ht:tot c own<64) (row:List Int):∃ out,eC 4 (eJ rs row)=xw out/\out.Perm (eJ rs row):=by
 have E:=xU R row;have hl:(eJ rs row).length<64:=by
  have h1:(eJ rs row).length<=(bC rs row).length:=fe ..;have h2:(bC rs row).length<=rs.length:=ci (nv ..) (fe ..);have h3:=oE R;omega
 refine uV hl ?_ fun a ha b hb=>Ke (E.1 a ha) (E.1 b hb);unfold jH;rw[ik];right;rw[fx];intro d hd;rw[Cs (E.1 d hd)];rfl
theorem Hd.Ok.entsOk {hd:Hd} (W:hd.Ok c):EntsOk (hd.table.map (·.2)):=⟨W.ent,by rw[W.keys];exact W.tn⟩
theorem lV {ds:List D} (h:(ds.map aZ).Nodup):ds.Nodup:=by
 induction ds with
 |nil=>exact xj
 |cons d r ih=>
  rw[bg,b8] at h;rw[b8];exact⟨fun z=>h.1 (ax.mpr ⟨d,z,rfl⟩),ih h.2⟩
theorem yT {hd:Hd} (W:hd.Ok c) (R:wF c own rs) (ht:tot c own<64) (h:∀ e,e∈hd.table.map (·.2)↔e∈eJ rs row):eC 4 (eJ rs row)=xw hd.ents:=by
 obtain⟨out,e1,p1⟩:=tF R ht row;rw[e1];have E:=xU R row;have pm:(hd.table.map (·.2)).Perm (eJ rs row):=tJ (lV W.entsOk.2) (lV E.2) h;rw[Eo W.entsOk pm W.ents.1 e1 W.ents.2 p1]
end
theorem jF (f:Nat->α) (c i:Nat) (x:α):((bj c).map f).set i x=(bj c).map (upF f i x):=by
 apply ii;intro j
 by_cases h:j=i
 ·subst h
  by_cases hj:j<c
  ·rw[dy (by rw[ao,fk];exact hj),aw,c7 hj];show _=xw (upF f j x j);rw[aX]
  ·rw[cm (by simp;omega),cm (by simp;omega)]
 ·rw[f9 (bx h),aw,aw];cases hq:(bj c)[j]? with
  |none=>rfl
  |some k=>
   have hk:k=j:=by
    obtain⟨hlt,e⟩:=br.mp hq;rw[ni] at e;exact e.symm
   subst hk;show xw (f k)=xw (upF f i x k);rw[aQ h]
theorem kI {xs ys:List Int} (h1:xs.length=c) (h2:ys.length=c) (h:∀ j,j<c->xs.getD j 0=ys.getD j 0):xs=ys:=by
 apply List.ext_getElem (by omega);intro j hj hj'
 have:=h j (by omega)
 rw[ay,ay,bh hj,bh hj'] at this;exact this
theorem eN {f:Nat->Int} (h:j<c):((bj c).map f).getD j 0=f j:=by
 rw[ay,aw,c7 h];rfl
theorem gM {r:Rec} (q:r.ent=xw d):aZ d=r.key:=by
 unfold Rec.ent at q;cases hp:r.put with
 |none=>rw[hp] at q;cases q
 |some p=>rw[hp] at q;cases q;rfl
theorem mV (row:List Int) (r:Rec):eX row r.key=cC row r:=by
 show decide ((r.b:Int)<=row.getD (r.a:Int).toNat 0)=_;rw[cw];rfl
theorem Gz (ha:a<c) (b:Int):∀ {kn:List (List Int)}{r:List Int},r.length=c->(∀ xs∈kn,xs.length=c)->(b<=(kn.foldl (bq mn) r).getD a 0↔b<=r.getD a 0/\∀ xs∈kn,b<=xs.getD a 0)
 |[],r,_,_=>by simp
 |x::kn,r,h1,h2=>by
  have hx:=h2 x aq;show b<=(kn.foldl (bq mn) (bq mn r x)).getD a 0↔_;rw[Gz ha b (by rw[fh];omega) fun y hy=>h2 y (ai _ hy),sO (by omega) (by omega)]
  have:b<=mn (r.getD a 0) (x.getD a 0)↔b<=r.getD a 0/\b<=x.getD a 0:=by unfold mn;split <;> omega
  rw[this];simp[and_assoc]
theorem mM {f:Nat->List Int}{r:Rec} (ha:r.a<c) (hl:∀ j,j<c->(f j).length=c):eX (common ((bj c).map f)) r.key=false↔∃ j,j<c/\cC (f j) r=false:=by
 rw[mV];cases hr:(bj c).map f with
 |nil=>
  have:=congrArg lr hr
  simp at this;omega
 |cons x xs=>
  have hm:∀ y,y∈x::xs↔∃ j,j<c/\f j=y:=fun y=>by rw[<- hr];simp
  have hlen:∀ y∈x::xs,y.length=c:=fun y hy=>by
   obtain⟨j,hj,rfl⟩:=(hm y).mp hy;exact hl j hj
  have g:=Gz ha r.b (hlen x aq) fun y hy=>hlen y (ai _ hy);unfold cC;rw[decide_eq_false_iff_not];show ¬(r.b:Int)<=(xs.foldl (bq mn) x).getD r.a 0↔_;rw[g];constructor
  ·intro h;apply qw;intro z;have al:∀ y∈x::xs,(r.b:Int)<=y.getD r.a 0:=fun y hy=>by
    obtain⟨j,hj,rfl⟩:=(hm y).mp hy;exact qw fun w=>z ⟨j,hj,decide_eq_false w⟩
   exact h ⟨al x aq,fun y hy=>al y (ai _ hy)⟩
  ·rintro⟨j,hj,w⟩ h
   have w:=of_decide_eq_false w;rcases ak.mp ((hm (f j)).mpr ⟨j,hj,rfl⟩) with z|z
   ·exact w (by rw[z];exact h.1)
   ·exact w (h.2 _ z)
def KpR (c:Nat) (k:Nat->List Int) (i:Nat) (rs:List Rec) (kv:List Key×D):Prop:=∃ r∈rs,r.outs≠[]/\cC (k i) r=true/\(∃ j,j<c/\cC (k j) r=false)/\kv=(r.key,.tup (r.outs.map bH))
structure Rel (c:Nat) (own:Nat->Nat) (S:Nat->Hd) (rs:List Rec) (kn:Nat->Nat->List Int):Prop where
 knows:∀ i,i<c->(S i).knows=(bj c).map (kn i)
 recs:wF c own rs
 tab:∀ i,i<c->∀ e,e∈(S i).table.map (·.2)↔e∈eJ rs (kn i i)
 clo:∀ i,i<c->∀ r∈rs,cC (kn i i) r=true->∀ q∈r.outs,eX (kn i i) q=true
 le:∀ i j,i<c->j<c->∀ t,t<c->(kn i j).getD t 0<=(kn j j).getD t 0
 kpt:∀ i,i<c->∀ kv,kv∈(S i).kept↔KpR c (kn i) i rs kv
section
variable {c:Nat}{own:Nat->Nat}{S:Nat->Hd}{rs:List Rec}{kn:Nat->Nat->List Int}{i j a:Nat}
theorem Rel.seen (Q:Rel c own S rs kn) (hi:i<c):(S i).seen i=kn i i:=by
 unfold Hd.seen;rw[Q.knows i hi,ay,aw,c7 hi];rfl
theorem Rel.row (Q:Rel c own S rs kn) (I:HInv c own S) (hi:i<c) (hj:j<c):kn i j∈(S i).knows/\(kn i j).length=c:=by
 have hm:kn i j∈(S i).knows:=by
  rw[Q.knows i hi];exact ax.mpr ⟨j,ic.mpr hj,rfl⟩
 exact⟨hm,(I i hi).1.row _ hm⟩
theorem Rel.ownE (Q:Rel c own S rs kn) (I:HInv c own S) (hi:i<c):(kn i i).getD i 0=own i:=by rw[<- Q.seen hi];exact(I i hi).2
theorem mem_pres:e∈eJ rs row↔(∃ r∈rs,cC row r=true/\r.ent=xw e)/\∀ r∈rs,cC row r=true->aZ e∉r.outs:=by
 unfold eJ bC dR;rw[b0];constructor
 ·rintro⟨h1,h2⟩
  obtain⟨r,hr,he⟩:=hW.mp h1;have hr':=b0.mp hr;refine⟨⟨r,hr'.1,hr'.2,he⟩,fun q hq hs z=> ?_⟩
  have:Ii (aZ e) ((rs.filter (cC row)).flatMap (·.outs))=true:=memK_iff.mpr (pb.mpr ⟨q,b0.mpr ⟨hq,hs⟩,z⟩)
  rw[this] at h2;cases h2
 ·rintro⟨⟨r,hr,hs,he⟩,h2⟩
  refine⟨hW.mpr ⟨r,b0.mpr ⟨hr,hs⟩,he⟩,?_⟩;cases hm:Ii (aZ e) ((rs.filter (cC row)).flatMap (·.outs)) with
  |false=>rfl
  |true=>
   obtain⟨q,hq,z⟩:=pb.mp (memK_iff.mp hm);have hq':=b0.mp hq;exact absurd z (h2 q hq'.1 hq'.2)
theorem Rel.note (Q:Rel c own S rs kn) (I:HInv c own S) (ha:a<c) (r1:r.a=a) (r2:r.b=own a+1) (ro:r.outs.length<64) (rk:∀ q∈r.outs,KeyIn c own q) (rs':∀ q∈r.outs,eX (kn a a) q=true)
  (k1:hd'.knows=(S a).knows.set a ((kn a a).set a r.b)) (t1:∀ e,e∈hd'.table.map (·.2)↔(e∈(S a).table.map (·.2)∨r.ent=xw e)/\aZ e∉r.outs)
  (q1:∀ kv,kv∈hd'.kept↔(kv∈(S a).kept∨r.outs≠[]/\kv=(r.key,D.tup (r.outs.map bH)))/\eX (common hd'.knows) kv.1=false):
  Rel c (cQ own a) (nB S a hd') (rs++[r]) (upF kn a (upF (kn a) a ((kn a a).set a r.b))):=by
 have len:=(Q.row I ha ha).2;have oe:=Q.ownE I ha;have bo:cQ own a a=own a+1:=by unfold cQ;rw[if_pos rfl]
 have le':=iP own a
 -- what is seen
 have s1:∀ q∈rs,cC ((kn a a).set a r.b) q=cC (kn a a) q:=fun q hq=>by
  unfold cC;rw[fJ _ _ _ _ (by omega)]
  by_cases h:q.a=a
  ·rw[if_pos h,h,oe]
   have:=Q.recs.inn q hq
   rw[h] at this;rw[decide_eq_true (by omega),decide_eq_true (by omega)]
  ·rw[if_neg h]
 have s2:cC ((kn a a).set a r.b) r=true:=by
  unfold cC;rw[fJ _ _ _ _ (by omega),if_pos r1];exact decide_eq_true (ir _)
 have s3:∀ i,i<c->i≠a->cC (kn i i) r=false:=fun i hi hne=>by
  unfold cC;refine decide_eq_false fun z=> ?_
  have:=((I i hi).1.kb _ (Q.row I hi hi).1 a ha).2
  rw[r1] at z;omega
 have sk:∀ q,eX (kn a a) q=true->eX ((kn a a).set a r.b) q=true:=fun q hq=>by
  unfold eX at hq ⊢;split at hq
  ·rename_i x y
   have hq':=of_decide_eq_true hq;refine decide_eq_true ?_;rw[fJ _ _ _ _ (by omega)]
   by_cases h:x.toNat=a
   ·rw[if_pos h];rw[h,oe] at hq';omega
   ·rw[if_neg h];exact hq'
  ·cases hq
 have nk:r.key∉rs.map Rec.key:=fun z=>by
  obtain⟨q,hq,e⟩:=ax.mp z
  have:=Q.recs.inn q hq
  unfold Rec.key gA at e;simp at e;have e1:q.a=a:=by omega
  rw[e1] at this;omega
 refine⟨fun i hi=> ?_,⟨?_,fun q hq=> ?_,fun q hq=> ?_⟩,fun i hi e=> ?_,fun i hi q hq hs x hx=> ?_,fun i j hi hj t ht=> ?_,fun i hi kv=> ?_⟩
 ·by_cases h:i=a
  ·subst h;rw[gJ,k1,Q.knows i hi,jF,aX]
  ·rw[gH h,aQ h];exact Q.knows i hi
 ·rw[cf,j3];refine⟨Q.recs.keys,by simp,fun x hx y hy z=>nk ?_⟩
  have:y=r.key:=by simpa using hy
  rw[<- this,<- z];exact hx
 ·rcases cu.mp hq with z|z
  ·have:=Q.recs.inn q z
   exact⟨this.1,this.2.1,ci this.2.2 (le' _)⟩
  ·rw[dh.mp z,r1,r2,bo];omega
 ·rcases cu.mp hq with z|z
  ·exact⟨(Q.recs.outs q z).1,fun x hx=>((Q.recs.outs q z).2 x hx).mono le'⟩
  ·rw[dh.mp z];exact⟨ro,fun x hx=>(rk x hx).mono le'⟩
 ·by_cases h:i=a
  ·subst h;rw[gJ,aX,aX,t1,Q.tab i hi,mem_pres,mem_pres];constructor
   ·rintro⟨h1,h2⟩
    refine⟨?_,fun q hq hs=> ?_⟩
    ·rcases h1 with⟨⟨q,hq,hs,he⟩,_⟩|h1
     ·exact⟨q,db _ hq,by rw[s1 q hq];exact hs,he⟩
     ·exact⟨r,by simp,s2,h1⟩
    ·rcases cu.mp hq with z|z
     ·rcases h1 with⟨_,h3⟩|h1
      ·exact h3 q z (by rw[<- s1 q z];exact hs)
      ·intro w
       have:=((Q.recs.outs q z).2 _ w)
       rw[gM h1] at this;obtain⟨x,y,g1,g2,g3,e⟩:=this;unfold Rec.key gA at e;simp at e
       have:x=i:=by omega
       rw[this] at g3;omega
     ·rw[dh.mp z];exact h2
   ·rintro⟨⟨q,hq,hs,he⟩,h2⟩
    refine⟨?_,h2 r (by simp) s2⟩;rcases cu.mp hq with z|z
    ·exact .inl ⟨⟨q,z,by rw[<- s1 q z];exact hs,he⟩,fun p hp hps=>h2 p (db _ hp) (by rw[s1 p hp];exact hps)⟩
    ·rw[dh.mp z] at he;exact .inr he
  ·rw[gH h,aQ h,Q.tab i hi,mem_pres,mem_pres];constructor
   ·rintro⟨⟨q,hq,hs,he⟩,h2⟩
    refine⟨⟨q,db _ hq,hs,he⟩,fun p hp hps=> ?_⟩;rcases cu.mp hp with z|z
    ·exact h2 p z hps
    ·rw[dh.mp z,s3 i hi h] at hps;cases hps
   ·rintro⟨⟨q,hq,hs,he⟩,h2⟩
    refine⟨?_,fun p hp hps=>h2 p (db _ hp) hps⟩;rcases cu.mp hq with z|z
    ·exact⟨q,z,hs,he⟩
    ·rw[dh.mp z,s3 i hi h] at hs;cases hs
 ·by_cases h:i=a
  ·subst h;rw[aX,aX] at hs ⊢;rcases cu.mp hq with z|z
   ·exact sk _ (Q.clo i hi q z (by rw[<- s1 q z];exact hs) x hx)
   ·rw[dh.mp z] at hx;exact sk _ (rs' x hx)
  ·rw[aQ h] at hs ⊢;rcases cu.mp hq with z|z
   ·exact Q.clo i hi q z hs x hx
   ·rw[dh.mp z,s3 i hi h] at hs;cases hs
 ·have grow:∀ t,(kn a a).getD t 0<=((kn a a).set a (r.b:Int)).getD t 0:=fun t=>by
   rw[fJ _ _ _ _ (by omega)]
   by_cases h:t=a
   ·rw[if_pos h,h,oe];omega
   ·rw[if_neg h];exact ir _
  by_cases h:i=a
  ·subst h;rw[aX]
   by_cases h2:j=i
   ·subst h2;simp only[aX];exact ir _
   ·rw[aQ h2,aQ h2];exact Q.le i j hi hj t ht
  ·rw[aQ h]
   by_cases h2:j=a
   ·subst h2;rw[aX,aX];exact vq (Q.le i j hi hj t ht) (grow t)
   ·rw[aQ h2];exact Q.le i j hi hj t ht
 ·by_cases h:i=a
  ·subst h;have hk:hd'.knows=(bj c).map (upF (kn i) i ((kn i i).set i r.b)):=by rw[k1,Q.knows i hi,jF]
   have hl:∀ j,j<c->(upF (kn i) i ((kn i i).set i (r.b:Int)) j).length=c:=fun j hj=>by
    by_cases h2:j=i
    ·subst h2;rw[aX,ce];exact len
    ·rw[aQ h2];exact(Q.row I hi hj).2
   have ra:∀ q∈rs++[r],q.a<c:=fun q hq=>by
    rcases cu.mp hq with z|z
    ·exact(Q.recs.inn q z).1
    ·rw[dh.mp z,r1];exact hi
   rw[gJ,aX,q1,Q.kpt i hi,hk];constructor
   ·rintro⟨⟨q,hq,h1,h2,_,rfl⟩|⟨h1,rfl⟩,h3⟩
    ·have hq':=db [r] hq;exact⟨q,hq',h1,by rw[aX,s1 q hq];exact h2,(mM (ra q hq') hl).mp h3,rfl⟩
    ·have hr:r∈rs++[r]:=by simp
     exact⟨r,hr,h1,by rw[aX];exact s2,(mM (ra r hr) hl).mp h3,rfl⟩
   ·rintro⟨q,hq,h1,h2,h3,rfl⟩
    refine⟨?_,(mM (ra q hq) hl).mpr h3⟩;rcases cu.mp hq with z|z
    ·refine .inl ⟨q,z,h1,by rw[aX,s1 q z] at h2;exact h2,?_,rfl⟩;obtain⟨j,hj,w⟩:=h3
     by_cases hji:j=i
     ·subst hji;rw[h2] at w;cases w
     ·rw[aQ hji] at w;exact⟨j,hj,w⟩
    ·rw[dh.mp z] at h1 ⊢;exact .inr ⟨h1,rfl⟩
  ·rw[gH h,aQ h,Q.kpt i hi];constructor
   ·rintro⟨q,hq,h1⟩
    exact⟨q,db _ hq,h1⟩
   ·rintro⟨q,hq,h1,h2,h3⟩
    rcases cu.mp hq with z|z
    ·exact⟨q,z,h1,h2,h3⟩
    ·rw[dh.mp z,s3 i hi h] at h2;cases h2
theorem Mb (Q:Rel c own S rs kn) (I:HInv c own S) (ha:a<c) (b:Int) {kv:List Key×D} (hv:kv∈(S a).kept):eX (common ((S a).knows.set a ((kn a a).set a b))) kv.1=false:=by
 obtain⟨q,hq,_,h2,⟨j,hj,w⟩,rfl⟩:=(Q.kpt a ha kv).mp hv;rw[Q.knows a ha,jF];refine(mM (Q.recs.inn q hq).1 fun k hk=> ?_).mpr ⟨j,hj,?_⟩
 ·by_cases h:k=a
  ·subst h;rw[aX,ce];exact(Q.row I hk hk).2
  ·rw[aQ h];exact(Q.row I ha hk).2
 ·by_cases h:j=a
  ·subst h;rw[h2] at w;cases w
  ·rw[aQ h];exact w
end
theorem vA {k:List Key}:(k,v)∈putD T k v:=by
 unfold putD;split
 ·rename_i h
  obtain⟨p,hp,e⟩:=o9.mp h;have e':=of_decide_eq_true e;exact ax.mpr ⟨p,hp,by rw[if_pos e',e']⟩
 ·simp
theorem sZ {p:List Key×D} (hp:p∈T) (h:p.1≠k∨p.2=v):p∈putD T k v:=by
 unfold putD;split
 ·refine ax.mpr ⟨p,hp,?_⟩
  by_cases e:p.1=k
  ·rw[if_pos e];rcases h with z|z
   ·exact absurd e z
   ·rw[<- z]
  ·rw[if_neg e]
 ·exact db _ hp
theorem pB:∀ {out:List D}{T:List (List Key×D)}{d:D},(∀ d'∈out,aZ d=aZ d'->d=d')->(aZ d,d)∈T->(aZ d,d)∈pC out T
 |[],_,_,_,h=>h
 |x::out,T,d,hu,h=>by
  refine pB (out:=out) (fun d' hd'=>hu d' (ai _ hd')) (sZ h ?_)
  by_cases e:aZ d=aZ x
  ·exact .inr (hu x aq e)
  ·exact .inl e
theorem xE:∀ {out:List D}{T:List (List Key×D)}{d:D},(∀ d'∈out,aZ d=aZ d'->d=d')->d∈out->(aZ d,d)∈pC out T
 |[],_,_,_,h=>by simp at h
 |x::out,T,d,hu,h=>by
  rcases ak.mp h with rfl|h
  ·exact pB (out:=out) (fun d' hd'=>hu d' (ai _ hd')) vA
  ·exact xE (out:=out) (fun d' hd'=>hu d' (ai _ hd')) h
theorem CS (hu:∀ d∈out,∀ d'∈out,aZ d=aZ d'->d=d') (e:D):e∈(pC out []).map (·.2)↔e∈out:=by
 constructor
 ·intro h;obtain⟨p,hp,rfl⟩:=ax.mp h;rcases pA hp with z|⟨d,hd,rfl⟩
  ·simp at z
  ·exact hd
 ·exact fun h=>ax.mpr ⟨(aZ e,e),xE (hu e h) h,rfl⟩
theorem Hy {k:List Key} (h:∀ q∈T,q.1=k->q=(k,v)):p∈putD T k v↔p∈T∨p=(k,v):=by
 constructor
 ·intro z;unfold putD at z;split at z
  ·obtain⟨q,hq,rfl⟩:=ax.mp z
   by_cases e:q.1=k
   ·rw[if_pos e,e];exact .inr rfl
   ·rw[if_neg e];exact .inl hq
  ·simpa using z
 ·rintro(z|rfl)
  ·by_cases e:p.1=k
   ·rw[h p z e];exact vA
   ·exact sZ z (.inl e)
  ·exact vA
theorem xZ {P:List Key×D->Prop} (hP:∀ p q,P p->P q->p.1=q.1->p=q):∀ {B A:List (List Key×D)},(∀ q∈A,P q)->(∀ q∈B,P q)->(p∈jJ A B↔p∈A∨p∈B)
 |[],A,_,_=>by simp[jJ]
 |b::B,A,hA,hB=>by
  have hb:=hB b aq;have hi:∀ q,q∈putD A b.1 b.2↔q∈A∨q=b:=fun q=>Hy fun q hq e=>hP q b (hA q hq) hb e;show p∈jJ (putD A b.1 b.2) B↔_;rw[xZ hP (fun q hq=>by
   rcases(hi q).mp hq with z|rfl
   ·exact hA q z
   ·exact hb) fun q hq=>hB q (ai _ hq),hi,ak,or_assoc]
section
variable {c:Nat}{own:Nat->Nat}{S:Nat->Hd}{rs:List Rec}{kn:Nat->Nat->List Int}{one other:Nat}
theorem Bx {f:List Int->List Int->List Int}:∀ l:List Nat,bq f (l.map p) (l.map q)=l.map fun k=>f (p k) (q k)
 |[]=>rfl
 |x::l=>by
  rw[bg,bg,jn,Bx l,bg]
theorem Ar:∀ {rs:List Rec}{r r':Rec},(rs.map Rec.key).Nodup->r∈rs->r'∈rs->r.key=r'.key->r=r'
 |[],_,_,_,hr,_,_=>by simp at hr
 |x::l,r,r',nd,hr,hr',hk=>by
  rw[bg,b8] at nd;rcases ak.mp hr with z|z
  ·rcases ak.mp hr' with w|w
   ·rw[z,w]
   ·exact absurd (ax.mpr ⟨r',w,by rw[<- hk,z]⟩) nd.1
  ·rcases ak.mp hr' with w|w
   ·exact absurd (ax.mpr ⟨r,z,by rw[hk,w]⟩) nd.1
   ·exact Ar nd.2 z w hk
theorem Rel.hear (Q:Rel c own S rs kn) (I:HInv c own S) (c0:0<c) (c8:c<=8) (ht:tot c own<64) (h1:one<c) (h2:other<c) (hne:one≠other):Rel c own (gY S one other) rs (upF kn other (moR c kn one other)):=by
 have lenK:∀ i j,i<c->j<c->(kn i j).length=c:=fun i j hi hj=>(Q.row I hi hj).2;have moL:∀ k,(moR c kn one other k).length=c:=fun k=>by unfold moR;simp
 have moG:∀ k t,t<c->(moR c kn one other k).getD t 0=mo kn one other k t:=fun k t ht=>eN ht;have W1:=(I one h1).1;have W2:=(I other h2).1;have O1:=W1.ok c0 c8 ht;have O2:=W2.ok c0 c8 ht
 -- the row of what is seen
 have J:moR c kn one other other=bq mx (kn other other) (kn one one):=by
  refine kI (moL other) (by rw[fh,lenK _ _ h2 h2,lenK _ _ h1 h1,jr]) fun t htc=> ?_;rw[moG other t htc,sO (by rw[lenK _ _ h2 h2];exact htc) (by rw[lenK _ _ h1 h1];exact htc)]
  have:=Q.le one other h1 h2 t htc
  unfold mo;rw[if_pos rfl];unfold mx;omega
 have Jg:∀ t,t<c->(moR c kn one other other).getD t 0=mx ((kn other other).getD t 0) ((kn one one).getD t 0):=fun t htc=>by
  rw[J,sO (by rw[lenK _ _ h2 h2];exact htc) (by rw[lenK _ _ h1 h1];exact htc)]
 have sJ:∀ r∈rs,(cC (moR c kn one other other) r=true↔cC (kn other other) r=true∨cC (kn one one) r=true):=fun r hr=>by
  have hra:=(Q.recs.inn r hr).1;unfold cC;rw[Jg r.a hra];simp only[decide_eq_true_eq];unfold mx;omega
 have sKJ:∀ q,KeyIn c own q->(eX (moR c kn one other other) q=true↔eX (kn other other) q=true∨eX (kn one one) q=true):=fun q hq=>by
  obtain⟨x,y,g1,_,_,rfl⟩:=hq;show decide ((y:Int)<=(moR c kn one other other).getD (x:Int).toNat 0)=true↔decide ((y:Int)<=(kn other other).getD (x:Int).toNat 0)=true∨decide ((y:Int)<=(kn one one).getD (x:Int).toNat 0)=true;rw[cw,Jg x g1];simp only[decide_eq_true_eq];unfold mx;omega
 have uniq:∀ {r r':Rec}{e e':D},r∈rs->r'∈rs->r.ent=xw e->r'.ent=xw e'->aZ e=aZ e'->e=e':=fun {r r' e e'} hr hr' he he' hk=>by
  rw[gM he,gM he'] at hk
  have:r=r':=Ar Q.recs.keys hr hr' hk
  rw[this,he'] at he;cases he;rfl
 have pm1:∀ e,e∈(S one).ents↔e∈eJ rs (kn one one):=fun e=>by rw[O1.ents.2.mem_iff];exact Q.tab one h1 e
 have pm2:∀ e,e∈(S other).ents↔e∈eJ rs (kn other other):=fun e=>by rw[O2.ents.2.mem_iff];exact Q.tab other h2 e
 have lv:∀ i,i<c->(S i).Ok c->∀ {r:Rec}{e:D},r∈rs->r.ent=xw e->((S i).leaves i e=true↔e∈eJ rs (kn i i)∨cC (kn i i) r=false):=by
  intro i hi O r e hr he;unfold Hd.leaves;rw[Q.seen hi,gM he,mV,ik];have h3:(iR (S i).table r.key).isSome=true↔e∈eJ rs (kn i i):=by
   constructor
   ·intro z;obtain⟨v,hv⟩:=m8.mp z;unfold iR at hv;obtain⟨p,hp,rfl⟩:=ou.mp hv;have hpm:=qu hp;have hpk:p.1=r.key:=by
     have:=xf hp
     simpa using this
    have hv2:p.2∈eJ rs (kn i i):=(Q.tab i hi p.2).mp (ax.mpr ⟨p,hpm,rfl⟩);obtain⟨⟨r',hr',_,he'⟩,_⟩:=mem_pres.mp hv2;have hk2:aZ p.2=p.1:=by
     obtain⟨x,y,_,_,_,e1,u,w,e2⟩:=(I i hi).1.tk p hpm;rw[e2,e1];rfl
    have:e=p.2:=uniq hr hr' he he' (by rw[gM he,hk2,hpk])
    rw[this];exact hv2
   ·intro z;obtain⟨p,hp,e2⟩:=ax.mp ((Q.tab i hi e).mpr z);have hk2:aZ p.2=p.1:=by
     obtain⟨x,y,_,_,_,e1,u,w,e2⟩:=(I i hi).1.tk p hp;rw[e2,e1];rfl
    have:r.key∈(S i).table.map (·.1):=ax.mpr ⟨p,hp,by rw[<- hk2,e2,gM he]⟩
    obtain⟨v,hv⟩:=Eg this;rw[hv];rfl
  rw[h3];cases cC (kn i i) r <;> simp
 have kno:∀ i,i<c->(gY S one other i).knows=(bj c).map (upF kn other (moR c kn one other) i):=fun i hi=>by
  by_cases h:i=other
  ·subst h;unfold gY;rw[gJ,aX]
   show(bq (bq mx) (S i).knows (S one).knows).set i (bq mx ((S i).seen i) ((S one).seen one))=_
   rw[Q.knows i hi,Q.knows one h1,Bx,jF,Q.seen hi,Q.seen h1];apply fg;intro k hk;have hkc:=ic.mp hk
   by_cases hki:k=i
   ·subst hki;rw[aX,J]
   ·rw[aQ hki];refine kI (by rw[fh,lenK _ _ hi hkc,lenK _ _ h1 hkc,jr]) (moL k) fun t htc=> ?_;rw[moG k t htc,sO (by rw[lenK _ _ hi hkc];exact htc) (by rw[lenK _ _ h1 hkc];exact htc)];unfold mo;rw[if_neg hki];unfold mx;omega
  ·unfold gY;rw[gH h,aQ h];exact Q.knows i hi
 refine⟨kno,Q.recs,fun i hi e=> ?_,fun i hi q hq hs x hx=> ?_,fun i j hi hj t htc=> ?_,fun i hi kv=> ?_⟩
 ·by_cases h:i=other
  ·subst h;unfold gY;rw[gJ,aX];show e∈(pC ((S i).hearT i (S one) one) []).map (·.2)↔_;have hrec:∀ d∈(S i).hearT i (S one) one,∃ r∈rs,r.ent=xw d:=fun d hd=>by
    rcases cu.mp hd with z|z
    ·obtain⟨⟨r,hr,_,he⟩,_⟩:=mem_pres.mp ((pm2 d).mp (b0.mp z).1);exact⟨r,hr,he⟩
    ·obtain⟨⟨r,hr,_,he⟩,_⟩:=mem_pres.mp ((pm1 d).mp (b0.mp z).1);exact⟨r,hr,he⟩
   rw[CS fun d hd d' hd' hk=>by
    obtain⟨r,hr,he⟩:=hrec d hd;obtain⟨r',hr',he'⟩:=hrec d' hd';exact uniq hr hr' he he' hk]
   unfold Hd.hearT;rw[cu,b0,b0,pm1,pm2];constructor
   ·intro z
    -- e is a deed's entry
    have he:∃ r∈rs,r.ent=xw e:=by
     rcases z with z|z
     ·obtain⟨⟨r,hr,_,he⟩,_⟩:=mem_pres.mp z.1;exact⟨r,hr,he⟩
     ·obtain⟨⟨r,hr,_,he⟩,_⟩:=mem_pres.mp z.1;exact⟨r,hr,he⟩
    obtain⟨r,hr,he⟩:=he;rw[lv one h1 O1 hr he,lv i hi O2 hr he] at z;rw[mem_pres];have sr:∀ {row:List Int},e∈eJ rs row->cC row r=true:=fun {row} q=>by
     obtain⟨⟨r',hr',hs',he'⟩,_⟩:=mem_pres.mp q;have hk:r'.key=r.key:=by rw[<- gM he',gM he]
     rw[<- mV,<- hk,mV];exact hs'
    have both:(e∈eJ rs (kn i i)/\e∈eJ rs (kn one one))∨(e∈eJ rs (kn i i)/\cC (kn one one) r=false)∨(e∈eJ rs (kn one one)/\cC (kn i i) r=false):=by
     rcases z with⟨z1,z2|z2⟩|⟨z1,z2|z2⟩
     ·exact .inl ⟨z1,z2⟩
     ·exact .inr (.inl ⟨z1,z2⟩)
     ·exact .inl ⟨z2,z1⟩
     ·exact .inr (.inr ⟨z1,z2⟩)
    have clos:∀ k,k<c->cC (kn k k) r=false->∀ p∈rs,cC (kn k k) p=true->aZ e∉p.outs:=fun k hk hs p hp hps w=>by
     have:=Q.clo k hk p hp hps _ w
     rw[gM he,mV,hs] at this;cases this
    refine⟨⟨r,hr,(sJ r hr).mpr ?_,he⟩,fun p hp hps=> ?_⟩
    ·rcases both with z|z|z
     ·exact .inl (sr z.1)
     ·exact .inl (sr z.1)
     ·exact .inr (sr z.1)
    ·rcases(sJ p hp).mp hps with w|w
     ·rcases both with z|z|z
      ·exact(mem_pres.mp z.1).2 p hp w
      ·exact(mem_pres.mp z.1).2 p hp w
      ·exact clos i hi z.2 p hp w
     ·rcases both with z|z|z
      ·exact(mem_pres.mp z.2).2 p hp w
      ·exact clos one h1 z.2 p hp w
      ·exact(mem_pres.mp z.1).2 p hp w
   ·intro z;obtain⟨⟨r,hr,hs,he⟩,hn⟩:=mem_pres.mp z;have inP:∀ k,k<c->(∀ p∈rs,cC (kn k k) p=true->cC (moR c kn one i i) p=true)->cC (kn k k) r=true->e∈eJ rs (kn k k):=fun k hk hsub hks=>mem_pres.mpr ⟨⟨r,hr,hks,he⟩,fun p hp hps=>hn p hp (hsub p hp hps)⟩;have p2:=inP i hi fun p hp q=>(sJ p hp).mpr (.inl q);have p1:=inP one h1 fun p hp q=>(sJ p hp).mpr (.inr q);rw[lv one h1 O1 hr he,lv i hi O2 hr he]
    rcases(sJ r hr).mp hs with w|w
    ·cases hq:cC (kn one one) r with
     |true=>exact .inl ⟨p2 w,.inl (p1 hq)⟩
     |false=>exact .inl ⟨p2 w,.inr rfl⟩
    ·cases hq:cC (kn i i) r with
     |true=>exact .inr ⟨p1 w,.inl (p2 hq)⟩
     |false=>exact .inr ⟨p1 w,.inr rfl⟩
  ·unfold gY;rw[gH h,aQ h];exact Q.tab i hi e
 ·by_cases h:i=other
  ·subst h;rw[aX] at hs ⊢;have kx:=(Q.recs.outs q hq).2 x hx
   rcases(sJ q hq).mp hs with w|w
   ·exact(sKJ x kx).mpr (.inl (Q.clo i hi q hq w x hx))
   ·exact(sKJ x kx).mpr (.inr (Q.clo one h1 q hq w x hx))
  ·rw[aQ h] at hs ⊢;exact Q.clo i hi q hq hs x hx
 ·by_cases h:i=other
  ·subst h;rw[aX]
   by_cases hji:j=i
   ·subst hji;rw[aX];exact ir _
   ·rw[aQ hji,moG j t htc];have e1:=Q.le one j h1 hj t htc;have e2:=Q.le i j hi hj t htc;unfold mo;rw[if_neg hji];unfold mx;omega
  ·rw[aQ h]
   by_cases hji:j=other
   ·subst hji;rw[aX,Jg t htc];have e1:=Q.le i j hi hj t htc;unfold mx;omega
   ·rw[aQ hji];exact Q.le i j hi hj t htc
 ·by_cases h:i=other
  ·subst h;have kn':=kno i hi;unfold gY at kn' ⊢;rw[gJ] at kn' ⊢;rw[aX] at kn' ⊢;have gr:∀ r∈rs,∀ j,j<c->cC (moR c kn one i j) r=false->cC (kn i j) r=false/\cC (kn one j) r=false:=fun r hr j hj z=>by
    have hra:=(Q.recs.inn r hr).1;unfold cC at z ⊢;rw[moG j r.a hra] at z;have z:=of_decide_eq_false z;unfold mo mx at z;exact⟨decide_eq_false (by split at z <;> omega),decide_eq_false (by split at z <;> omega)⟩
   show kv∈(jJ (S i).kept (S one).kept).filter (fun kv=> !eX (common ((S i).hear0 i (S one) one).knows) kv.1)↔_;rw[b0,xZ (P:=fun kv=>∃ r∈rs,kv=(r.key,.tup (r.outs.map bH))) (fun p q hp hq e=>by
    obtain⟨r,hr,rfl⟩:=hp;obtain⟨r',hr',rfl⟩:=hq;rw[Ar Q.recs.keys hr hr' e]) (fun q hq=>by
    obtain⟨r,hr,_,_,_,e⟩:=(Q.kpt i hi q).mp hq;exact⟨r,hr,e⟩) (fun q hq=>by
    obtain⟨r,hr,_,_,_,e⟩:=(Q.kpt one h1 q).mp hq;exact⟨r,hr,e⟩),Q.kpt i hi,Q.kpt one h1,ls,show((S i).hear0 i (S one) one).knows=_ from kn']
   have cs:∀ r∈rs,_:=fun r hr=>mM (f:=moR c kn one i) (Q.recs.inn r hr).1 fun j _=>moL j;constructor
   ·rintro⟨⟨r,hr,g1,g2,_,rfl⟩|⟨r,hr,g1,g2,_,rfl⟩,g3⟩
    ·exact⟨r,hr,g1,(sJ r hr).mpr (.inl g2),(cs r hr).mp g3,rfl⟩
    ·exact⟨r,hr,g1,(sJ r hr).mpr (.inr g2),(cs r hr).mp g3,rfl⟩
   ·rintro⟨r,hr,g1,g2,g3,rfl⟩
    refine⟨?_,(cs r hr).mpr g3⟩;obtain⟨j,hj,w⟩:=g3;have gw:=gr r hr j hj w
    rcases(sJ r hr).mp g2 with z|z
    ·exact .inl ⟨r,hr,g1,z,⟨j,hj,gw.1⟩,rfl⟩
    ·exact .inr ⟨r,hr,g1,z,⟨j,hj,gw.2⟩,rfl⟩
  ·unfold gY;rw[gH h,aQ h];exact Q.kpt i hi kv
end
theorem drops_mem:∀ {ks:List (List Key)}{T:List (List Key×D)},p∈ks.foldl dZ T↔p∈T/\p.1∉ks
 |[],T=>by simp
 |k::ks,T=>by
  show p∈ks.foldl dZ (dZ T k)↔_;rw[drops_mem];unfold dZ;rw[b0,ak,not_or];constructor
  ·rintro⟨⟨h1,h2⟩,h3⟩
   exact⟨h1,by simpa using h2,h3⟩
  ·rintro⟨h1,h2,h3⟩
   exact⟨⟨h1,by simpa using h2⟩,h3⟩
section
variable {c:Nat}{own:Nat->Nat}{S:Nat->Hd}{rs:List Rec}{kn:Nat->Nat->List Int}{a:Nat}
theorem Hd.In.tkey {hd:Hd} (W:hd.In c own) (hp:p∈hd.table):aZ p.2=p.1:=by
 obtain⟨x,y,_,_,_,e1,u,w,e2⟩:=W.tk p hp;rw[e2,e1];rfl
theorem BW (I:HInv c own S) (ha:a<c):(S a).next a=((own a+1:Nat):Int):=by
 unfold Hd.next;rw[(I a ha).2];omega
theorem LP (I:HInv c own S) (ha:a<c):gA a ((own a+1:Nat):Int)∉(S a).table.map (·.1):=fun z=>by
 obtain⟨p,hp,e⟩:=ax.mp z;obtain⟨x,y,_,_,g3,e1,_⟩:=(I a ha).1.tk p hp;rw[e1] at e;unfold gA at e;simp at e
 have:x=a:=by omega
 rw[this] at g3;omega
theorem kM (Q:Rel c own S rs kn) (I:HInv c own S) (ha:a<c):((S a).bump a).knows=(S a).knows.set a ((kn a a).set a ((own a+1:Nat):Int)):=by
 show(S a).knows.set a (((S a).seen a).set a (((S a).seen a).getD a 0+1))=_
 rw[(I a ha).2,Q.seen ha];rfl
theorem BN (I:HInv c own S) (ha:a<c) (x:Str) (v:Int) (e:D):e∈((S a).put a x v).table.map (·.2)↔e∈(S a).table.map (·.2)∨xw (D.tup [.str x,mkD a ((own a+1:Nat):Int),.int v])=xw e:=by
 show e∈(putD (S a).table (gA a ((S a).next a)) (.tup [.str x,mkD a ((S a).next a),.int v])).map (·.2)↔_;rw[BW I ha,oF (LP I ha),cf,cu];simp only[bg,lu,dh,Option.some.injEq];constructor
 ·rintro(z|z)
  ·exact .inl z
  ·exact .inr z.symm
 ·rintro(z|z)
  ·exact .inl z
  ·exact .inr z.symm
theorem Ky (Q:Rel c own S rs kn) (I:HInv c own S) (ha:a<c) (x:Str) (v:Int):HInv c (cQ own a) (nB S a ((S a).put a x v))/\Rel c (cQ own a) (nB S a ((S a).put a x v)) (rs++[⟨a,own a+1,xw (x,v),[]⟩]) (upF kn a (upF (kn a) a ((kn a a).set a ((own a+1:Nat):Int)))):=by
 have W:=(I a ha).1;refine⟨I.updB (W.put ha (I a ha).2 x v) (kL W ha (I a ha).2),Q.note I ha (r:=⟨a,own a+1,xw (x,v),[]⟩) rfl rfl (by simp) (fun q hq=>by simp at hq) (fun q hq=>by simp at hq) (kM Q I ha) (fun e=> ?_) fun kv=>⟨fun h=>⟨.inl h,by rw[show((S a).put a x v).knows=_ from kM Q I ha];exact Mb Q I ha _ h⟩,?_⟩⟩
 ·rw[BN I ha x v e];show _↔(_∨xw _=xw e)/\_;simp
 ·rintro⟨h|⟨h,_⟩,_⟩
  ·exact h
  ·exact absurd rfl h
theorem xD (I:HInv c own S) (ha:a<c) (ks:List (List Key)):kv∈(if ks=[] then(S a).kept else putD (S a).kept (gA a ((S a).next a)) (.tup (ks.map bH)))↔kv∈(S a).kept∨ks≠[]/\kv=(gA a ((own a+1:Nat):Int),D.tup (ks.map bH)):=by
 by_cases h:ks=[]
 ·rw[if_pos h];simp[h]
 ·rw[if_neg h,BW I ha,oF fun z=>by
   obtain⟨p,hp,e⟩:=ax.mp z;obtain⟨x,y,_,_,g3,e1⟩:=(I a ha).1.kk p hp;rw[e1] at e;unfold gA at e;simp at e
   have:x=a:=by omega
   rw[this] at g3;omega]
  simp[h]
theorem tM (Q:Rel c own S rs kn) (I:HInv c own S) (O:(S a).Ok c) (ha:a<c) (x:Str):∀ q∈(S a).marksK x,eX (kn a a) q=true:=fun q hq=>by
 obtain⟨p,hp,rfl⟩:=ax.mp (O.marksIn x q hq);have h1:p.2∈eJ rs (kn a a):=(Q.tab a ha p.2).mp (ax.mpr ⟨p,hp,rfl⟩);obtain⟨⟨r,hr,hs,he⟩,_⟩:=mem_pres.mp h1;rw[<- (I a ha).1.tkey hp,gM he,mV];exact hs
theorem CZ (Q:Rel c own S rs kn) (I:HInv c own S) (c0:0<c) (c8:c<=8) (ht:tot c own<63) (ha:a<c) (x:Str) (v:Int):HInv c (cQ own a) (nB S a ((S a).change a x v))/\Rel c (cQ own a) (nB S a ((S a).change a x v)) (rs++[⟨a,own a+1,xw (x,v),(S a).marksK x⟩]) (upF kn a (upF (kn a) a ((kn a a).set a ((own a+1:Nat):Int)))):=by
 have W:=(I a ha).1;have O:=W.ok c0 c8 (by omega);have P:=W.put ha (I a ha).2 x v;have T:=P.takeOut0 (mk:=gA a ((S a).next a)) (ks:=(S a).marksK x) (lW ha (I a ha).2) (O.marksLen x) fun q hq=>(W.marks O x q hq).mono (iP own a);refine⟨I.updB T.forget (kL W ha (I a ha).2),Q.note I ha (r:=⟨a,own a+1,xw (x,v),(S a).marksK x⟩) rfl rfl (O.marksLen x) (W.marks O x) (tM Q I O ha x) (kM Q I ha) (fun e=> ?_) fun kv=>by
  show kv∈List.filter _ _↔_;rw[b0,ls];exact and_congr (xD I ha _) Iff.rfl⟩
 show e∈(((S a).marksK x).foldl dZ ((S a).put a x v).table).map (·.2)↔(_∨xw _=xw e)/\_;rw[<- BN I ha x v e];constructor
 ·intro z;obtain⟨p,hp,rfl⟩:=ax.mp z;have hp':=drops_mem.mp hp;exact⟨ax.mpr ⟨p,hp'.1,rfl⟩,by rw[P.tkey hp'.1];exact hp'.2⟩
 ·rintro⟨z,w⟩
  obtain⟨p,hp,rfl⟩:=ax.mp z;rw[P.tkey hp] at w;exact ax.mpr ⟨p,drops_mem.mpr ⟨hp,w⟩,rfl⟩
theorem Hr (Q:Rel c own S rs kn) (I:HInv c own S) (c0:0<c) (c8:c<=8) (ht:tot c own<63) (ha:a<c) (x:Str) (hm:(S a).marksK x≠[]):HInv c (cQ own a) (nB S a ((S a).take a x))/\Rel c (cQ own a) (nB S a ((S a).take a x)) (rs++[⟨a,own a+1,xx,(S a).marksK x⟩]) (upF kn a (upF (kn a) a ((kn a a).set a ((own a+1:Nat):Int)))):=by
 have W:=(I a ha).1;have O:=W.ok c0 c8 (by omega);have P:=W.bump ha (I a ha).2;have T:=P.takeOut0 (mk:=gA a ((S a).next a)) (ks:=(S a).marksK x) (lW ha (I a ha).2) (O.marksLen x) fun q hq=>(W.marks O x q hq).mono (iP own a);have et:(S a).take a x=((S a).bump a).takeOut (gA a ((S a).next a)) ((S a).marksK x):=by unfold Hd.take;rw[if_neg hm]
 rw[et];refine⟨I.updB T.forget (kL W ha (I a ha).2),Q.note I ha (r:=⟨a,own a+1,xx,(S a).marksK x⟩) rfl rfl (O.marksLen x) (W.marks O x) (tM Q I O ha x) (kM Q I ha) (fun e=> ?_) fun kv=>by
  show kv∈List.filter _ _↔_;rw[b0,ls];exact and_congr (xD I ha _) Iff.rfl⟩
 show e∈(((S a).marksK x).foldl dZ (S a).table).map (·.2)↔(_∨xx=xw e)/\_;constructor
 ·intro z;obtain⟨p,hp,rfl⟩:=ax.mp z;have hp':=drops_mem.mp hp;exact⟨.inl (ax.mpr ⟨p,hp'.1,rfl⟩),by rw[W.tkey hp'.1];exact hp'.2⟩
 ·rintro⟨z|z,w⟩
  ·obtain⟨p,hp,rfl⟩:=ax.mp z;rw[W.tkey hp] at w;exact ax.mpr ⟨p,drops_mem.mpr ⟨hp,w⟩,rfl⟩
  ·cases z
theorem dG (I:HInv c own S) (c0:0<c) (c8:c<=8) (ht:tot c own<64) (hi:i<c) (hj:j<c):HInv c own (gY S j i):=by
 have Wi:=(I i hi).1;have Wj:=(I j hj).1;have H0:=Wi.hear0 Wj (Wi.ok c0 c8 ht) (Wj.ok c0 c8 ht) hi hj;exact I.upd H0.forget (Cf Wi Wj hi hj (I i hi).2)
end
theorem LawAt.congr (L:LawAt B ω c h dd oo kk ks rs kn) (e:∀ i j,i<c->j<c->kn i j=kn' i j):LawAt B ω c h dd oo kk ks rs kn':=
 ⟨L.obj,L.deeds,L.order,L.known,fun i hi=>by
  obtain⟨ds,h1,h2⟩:=L.row i hi;exact⟨ds,h1,h2.1,fun j hj=>by rw[<- e i j hi hj];exact h2.2 j hj⟩,fun i j hi hj=>by rw[<- e i j hi hj];exact L.len i j hi hj,L.inj,L.out,L.nd,L.low,L.bas,L.keys,L.ra⟩
theorem mx_lub {a b z:Int}:mx a b<=z↔a<=z/\b<=z:=by unfold mx;split <;> omega
theorem DH {a b:Int} (h:∀ z,a<=z↔b<=z):a=b:=xi ((h b).mpr (ir b)) ((h a).mp (ir a))
theorem LV (ha:a<c) (hb:b<c) (hne:a≠b) (len:∀ i j,i<c->j<c->(kn i j).length=c) (le:∀ i j,i<c->j<c->∀ t,t<c->(kn i j).getD t 0<=(kn j j).getD t 0) (k1 k2 k3 l1 l2 l3:Nat->Nat->List Int)
  (e1:k1=upF kn b (moR c kn a b)) (e2:k2=upF k1 a (moR c k1 b a)) (e3:k3=upF k2 b (moR c k2 a b))
  (f1:l1=upF kn a (moR c kn b a)) (f2:l2=upF l1 b (moR c l1 a b)) (f3:l3=upF l2 a (upF (l2 a) b (l2 a a))):∀ i j,i<c->j<c->l3 i j=k3 i j:=by
 intro i j hi hj;have moL:∀(q:Nat->Nat->List Int) x y k,(moR c q x y k).length=c:=fun q x y k=>by unfold moR;simp
 have moG:∀(q:Nat->Nat->List Int) x y k t,t<c->(moR c q x y k).getD t 0=mo q x y k t:=fun q x y k t ht=>eN ht
 -- the values
 have K1b:∀ k t,t<c->(k1 b k).getD t 0=mo kn a b k t:=fun k t ht=>by rw[e1,aX];exact moG _ _ _ _ _ ht
 have K1a:∀ k,k1 a k=kn a k:=fun k=>by rw[e1,aQ hne]
 have K2a:∀ k t,t<c->(k2 a k).getD t 0=mo k1 b a k t:=fun k t ht=>by rw[e2,aX];exact moG _ _ _ _ _ ht
 have K2b:∀ k,k2 b k=k1 b k:=fun k=>by rw[e2,aQ (bx hne)]
 have K3b:∀ k t,t<c->(k3 b k).getD t 0=mo k2 a b k t:=fun k t ht=>by rw[e3,aX];exact moG _ _ _ _ _ ht
 have K3a:∀ k,k3 a k=k2 a k:=fun k=>by rw[e3,aQ hne]
 have L1a:∀ k t,t<c->(l1 a k).getD t 0=mo kn b a k t:=fun k t ht=>by rw[f1,aX];exact moG _ _ _ _ _ ht
 have L1b:∀ k,l1 b k=kn b k:=fun k=>by rw[f1,aQ (bx hne)]
 have L2b:∀ k t,t<c->(l2 b k).getD t 0=mo l1 a b k t:=fun k t ht=>by rw[f2,aX];exact moG _ _ _ _ _ ht
 have L2a:∀ k,l2 a k=l1 a k:=fun k=>by rw[f2,aQ hne]
 have lenK:∀ k,k<c->(k3 a k).length=c/\(k3 b k).length=c:=fun k hk=>⟨by rw[K3a,e2,aX];exact moL _ _ _ _,by rw[e3,aX];exact moL _ _ _ _⟩;have lenL1:∀ k,(l1 a k).length=c:=fun k=>by rw[f1,aX];exact moL _ _ _ _
 by_cases hia:i=a
 ·subst hia;have l3a:l3 i j=if j=b then l1 i i else l1 i j:=by
   rw[f3,aX]
   by_cases h:j=b
   ·rw[if_pos h,h,aX,L2a]
   ·rw[if_neg h,aQ h,L2a]
  rw[l3a];refine kI (c:=c) (by split <;> exact lenL1 _) (lenK j hj).1 fun t ht=> ?_;rw[K3a,K2a j t ht];have u1:=le i b hi hb t ht;have u2:=le b i hb hi t ht
  by_cases h:j=b
  ·subst h;rw[if_pos rfl,L1a i t ht];unfold mo;rw[if_pos rfl,if_neg (bx hne),K1b j t ht,K1a];unfold mo;rw[if_pos rfl];exact DH fun z=>by simp only[mx_lub];omega
  ·rw[if_neg h,L1a j t ht]
   by_cases h2:j=i
   ·subst h2;unfold mo;rw[if_pos rfl,if_pos rfl,K1b j t ht,K1b b t ht,K1a];unfold mo;rw[if_neg h,if_pos rfl];exact DH fun z=>by simp only[mx_lub];omega
   ·unfold mo;rw[if_neg h2,if_neg h2,K1b j t ht,K1a];unfold mo;rw[if_neg h];exact DH fun z=>by simp only[mx_lub];omega
 ·by_cases hib:i=b
  ·subst hib;have l3b:l3 i j=l2 i j:=by rw[f3,aQ hia]
   rw[l3b];refine kI (c:=c) (by rw[f2,aX];exact moL _ _ _ _) (lenK j hj).2 fun t ht=> ?_;rw[L2b j t ht,K3b j t ht];have u1:=le a i ha hi t ht;have u2:=le i a hi ha t ht
   by_cases h:j=i
   ·subst h;unfold mo;rw[if_pos rfl,if_pos rfl,L1a j t ht,L1a a t ht,L1b,K2a j t ht,K2a a t ht,K2b,K1b j t ht];unfold mo;simp only[if_true,if_neg hne,if_neg (bx hne),K1b _ t ht,K1a];unfold mo;simp only[if_true,if_neg hne,if_neg (bx hne)];exact DH fun z=>by simp only[mx_lub];omega
   ·by_cases h2:j=a
    ·subst h2;unfold mo;rw[if_neg h,if_neg h,L1a j t ht,L1b,K2a j t ht,K2b,K1b j t ht];unfold mo;simp only[if_true,if_neg h,K1b _ t ht,K1a];unfold mo;simp only[if_true,if_neg h];exact DH fun z=>by simp only[mx_lub];omega
    ·unfold mo;rw[if_neg h,if_neg h,L1a j t ht,L1b,K2a j t ht,K2b,K1b j t ht];unfold mo;simp only[if_neg h,if_neg h2,K1b _ t ht,K1a];unfold mo;simp only[if_neg h,if_neg h2];exact DH fun z=>by simp only[mx_lub];omega
  ·rw[f3,aQ hia,f2,aQ hib,f1,aQ hia,e3,aQ hib,e2,aQ hia,e1,aQ hib]
theorem LR {a b:Int} (h:b<=a):mx a b=a:=by unfold mx;split <;> omega
section
variable {c:Nat}{own:Nat->Nat}{S:Nat->Hd}{rs:List Rec}{kn:Nat->Nat->List Int}{a b i t:Nat}
theorem Pg {one other k j:Nat} (hj:j<c):(moR c kn one other k).getD j 0=mo kn one other k j:=eN hj
theorem vL (Q:Rel c own S rs kn) (ha:a<c) (hb:b<c) (ht:t<c):(moR c kn a b b).getD t 0=mx ((kn a a).getD t 0) ((kn b b).getD t 0):=by
 rw[Pg ht]
 have:=Q.le a b ha hb t ht
 unfold mo;rw[if_pos rfl];unfold mx
 repeat' split
 all_goals omega
theorem JG (Q:Rel c own S rs kn) (I:HInv c own S) (hi:i<c) (ht:t<c):(kn i i).getD t 0<=own t:=((I i hi).1.kb _ (Q.row I hi hi).1 t ht).2
theorem BL (I:HInv c own S) (Q:Rel c own S rs kn) (c0:0<c) (c8:c<=8) (ht:tot c own<64) (ha:a<c) (hb:b<c) (hne:a≠b):∃ kn',HInv c own (lY S a b)/\Rel c own (lY S a b) rs kn'/\(∀ t,t<c->(kn' a a).getD t 0=mx ((kn a a).getD t 0) ((kn b b).getD t 0))/\(∀ t,t<c->(kn' b b).getD t 0=mx ((kn a a).getD t 0) ((kn b b).getD t 0))/\∀ i,i≠a->i≠b->kn' i i=kn i i:=by
 have I1:=dG I c0 c8 ht hb ha;have Q1:=Q.hear I c0 c8 ht ha hb hne;have I2:=dG I1 c0 c8 ht ha hb;have Q2:=Q1.hear I1 c0 c8 ht hb ha (bx hne);have I3:=dG I2 c0 c8 ht hb ha;have Q3:=Q2.hear I2 c0 c8 ht ha hb hne;have r1:∀ t,t<c->(upF kn b (moR c kn a b) b b).getD t 0=mx ((kn a a).getD t 0) ((kn b b).getD t 0):=fun t ht=>by rw[aX];exact vL Q ha hb ht
 have r1a:upF kn b (moR c kn a b) a a=kn a a:=by rw[aQ hne]
 have r2:∀ t,t<c->(upF (upF kn b (moR c kn a b)) a (moR c (upF kn b (moR c kn a b)) b a) a a).getD t 0=mx ((kn a a).getD t 0) ((kn b b).getD t 0):=fun t ht=>by
  rw[aX,vL Q1 hb ha ht,r1 t ht,r1a];unfold mx
  repeat' split
  all_goals omega
 have r2b:upF (upF kn b (moR c kn a b)) a (moR c (upF kn b (moR c kn a b)) b a) b b=upF kn b (moR c kn a b) b b:=by rw[aQ (bx hne)]
 refine⟨_,I3,Q3,fun t ht=> ?_,fun t ht=> ?_,fun i hia hib=> ?_⟩
 ·rw[aQ hne];exact r2 t ht
 ·rw[aX,vL Q2 ha hb ht,r2 t ht,r2b,r1 t ht];exact LR (ir _)
 ·rw[aQ hib,aQ hia,aQ hib]
theorem lM (ha:a<c) (hb:b<c) (hne:a≠b):(step c S (.meet (a:Int) (b:Int))).2=lY S a b:=by
 have e:step c S (.meet (a:Int) (b:Int))=(_,lY S a b):=(if_pos ⟨⟨by omega,by omega⟩,by omega,by omega⟩).trans (if_neg (by omega));rw[e]
noncomputable def eW (k:Nat):List Deed:=(bj k).map fun(j:Nat)=>.meet (j:Int) ((j:Int)+1)
noncomputable def lG (c k:Nat):List Deed:=(bj k).map fun(j:Nat)=>.meet ((c:Int)-2+(j:Int)* -1+1) ((c:Int)-2+(j:Int)* -1)
theorem BC (I:HInv c own S) (Q:Rel c own S rs kn) (c0:0<c) (c8:c<=8) (ht:tot c own<64):∀ k,k<c->∃ kn',HInv c own (jB c (eW k) S).2/\Rel c own (jB c (eW k) S).2 rs kn'/\(∀ j,j<=k->∀ t,t<c->(kn j j).getD t 0<=(kn' k k).getD t 0)/\∀ j,k<j->kn' j j=kn j j
 |0,hk=>⟨kn,I,Q,fun j hj t _=>by rw[show j=0 by omega];exact ir _,fun _ _=>rfl⟩
 |k+1,hk=>by
  obtain⟨kn1,I1,Q1,h1,h2⟩:=BC I Q c0 c8 ht k (by omega);obtain⟨kn2,I2,Q2,g1,g2,g3⟩:=BL I1 Q1 c0 c8 ht (a:=k) (b:=k+1) (by omega) hk (by omega);have e:(jB c (eW (k+1)) S).2=lY (jB c (eW k) S).2 k (k+1):=by
   unfold eW;rw[jf,cf,gD];exact lM (b:=k+1) (by omega) hk (by omega)
  rw[e];refine⟨kn2,I2,Q2,fun j hj t ht=> ?_,fun j hj=> ?_⟩
  ·rw[g2 t ht,h2 (k+1) (by omega)]
   by_cases hjk:j=k+1
   ·rw[hjk];unfold mx;split <;> omega
   ·have:=h1 j (by omega) t ht
    unfold mx;split <;> omega
  ·rw[g3 j (by omega) (by omega)];exact h2 j (by omega)
theorem GN (I:HInv c own S) (Q:Rel c own S rs kn) (c0:0<c) (c8:c<=8) (ht:tot c own<64) (full:∀ t,t<c->(kn (c-1) (c-1)).getD t 0=own t):∀ k,k<c->∃ kn',HInv c own (jB c (lG c k) S).2/\Rel c own (jB c (lG c k) S).2 rs kn'/\∀ j,c<=j+k+1->j<c->∀ t,t<c->(kn' j j).getD t 0=own t
 |0,hk=>⟨kn,I,Q,fun j hj hc t ht=>by rw[show j=c-1 by omega];exact full t ht⟩
 |k+1,hk=>by
  obtain⟨kn1,I1,Q1,h1⟩:=GN I Q c0 c8 ht full k (by omega);obtain⟨kn2,I2,Q2,g1,g2,g3⟩:=BL I1 Q1 c0 c8 ht (a:=c-2-k+1) (b:=c-2-k) (by omega) (by omega) (by omega);have e:(jB c (lG c (k+1)) S).2=lY (jB c (lG c k) S).2 (c-2-k+1) (c-2-k):=by
   unfold lG;rw[jf,cf,gD];have e1:(c:Int)-2+(k:Int)* -1+1=((c-2-k+1:Nat):Int):=by omega
   have e2:(c:Int)-2+(k:Int)* -1=((c-2-k:Nat):Int):=by omega
   show(step c _ (.meet _ _)).2=_
   rw[e1,e2];exact lM (by omega) (by omega) (by omega)
  rw[e];refine⟨kn2,I2,Q2,fun j hj hc t ht=> ?_⟩;have f1:=h1 (c-2-k+1) (by omega) (by omega) t ht;have f2:=JG Q1 I1 (i:=c-2-k) (by omega) ht
  by_cases ja:j=c-2-k+1
  ·rw[ja,g1 t ht,f1];exact LR f2
  ·by_cases jb:j=c-2-k
   ·rw[jb,g2 t ht,f1];exact LR f2
   ·rw[g3 j ja jb];exact h1 j (by omega) hc t ht
noncomputable def gP (c:Nat):List Deed:=eW (c-1)++lG c (c-1)
noncomputable def bJ (c:Nat) (own:Nat->Nat):List Int:=(bj c).map fun t=>(own t:Int)
theorem Em (I:HInv c own S) (Q:Rel c own S rs kn) (c0:0<c) (c8:c<=8) (ht:tot c own<64):∃ kn',HInv c own (jB c (gP c) S).2/\Rel c own (jB c (gP c) S).2 rs kn'/\∀ i,i<c->kn' i i=bJ c own:=by
 obtain⟨kn1,I1,Q1,h1,_⟩:=BC I Q c0 c8 ht (c-1) (by omega);obtain⟨kn2,I2,Q2,h2⟩:=GN I1 Q1 c0 c8 ht (fun t ht'=>by
  have g1:=h1 t (by omega) t ht';have g2:=JG Q1 I1 (i:=c-1) (by omega) ht';rw[Q.ownE I ht'] at g1;omega) (c-1) (by omega)
 unfold gP;rw[gD];refine⟨kn2,I2,Q2,fun i hi=>kI (Q2.row I2 hi hi).2 (by unfold bJ;simp) fun t ht=> ?_⟩;unfold bJ;rw[eN ht];exact h2 i (by omega) hi t ht
theorem SS (c:Nat):Rel c (fun _=>0) (fun _=>Hd0 c) [] (fun _ _=>aj c 0) where
 knows:=fun i hi=>by
  show aj c (aj c (0:Int))=_;apply ii;intro j;rw[dc,aw]
  by_cases h:j<c
  ·rw[if_pos h,c7 h];rfl
  ·rw[if_neg h,cm (by simp;omega)];rfl
 recs:=⟨by simp,fun r hr=>by simp at hr,fun r hr=>by simp at hr⟩
 tab:=fun i hi e=>by simp[Hd0,eJ,bC]
 clo:=fun i hi r hr=>by simp at hr
 le:=fun i j hi hj t ht=>ir _
 kpt:=fun i hi kv=>by simp[Hd0,KpR]
end
noncomputable def Deed.n1:Deed->Int
 |.put a _ _=>a
 |.change a _ _=>a
 |.take a _=>a
 |.tell a _=>a
 |.meet a _=>a
noncomputable def Deed.n2:Deed->D
 |.put _ x _=>.str x
 |.change _ x _=>.str x
 |.take _ x=>.str x
 |.tell _ b=>.int b
 |.meet _ b=>.int b
noncomputable def okN (c:Nat):D->Bool
 |.int n=>decide (0<=n/\n<c)
 |_=>true
noncomputable abbrev mR (h c:Nat) (d:D) (v3 v4 v5 v6 v7 v8:Option D):Rho:=[xw (.obj h),xw d,xw (.int c),v3,v4,v5,v6,v7,v8]
section
variable {ω:Om}{h c:Nat}{v3 v4 v5 v6 v7 v8:Option D}
theorem Gp:aE (mR h c d (xw (.int n)) v4 v5 v6 v7 v8) ω=if 0<=n/\n<c then xw (.nx (mR h c d (xw (.int n)) v4 v5 v6 v7 v8),ω) else xw (.rt (.str "no hand"),ω):=by
 have t:De (iS (gO (iT "str" (zV 3)))) (oOr (bS (o2 (lf gLt) (zV 3) (zI 0))) (bS (o2 (lf gGe) (zV 3) (zV 2)))) (mR h c d (xw (.int n)) v4 v5 v6 v7 v8) ω=xw (.ok (!decide (0<=n/\n<c)),ω):=by
  have t1:iS (gO (iT "str" (zV 3))) (mR h c d (xw (.int n)) v4 v5 v6 v7 v8) ω=xw (.ok true,ω):=gT (k:=false) (tru_ok (fA (aB (d:=.int n) rfl) rfl));unfold De;rw[bF t1];show oOr _ _ _ ω=_;unfold oOr;rw[bF (mZ (a:=n) (z:=0) (aB rfl))]
  by_cases h0:n<0
  ·rw[decide_eq_true h0];show xw (Rz.ok true,ω)=_;rw[decide_eq_false (by omega)];rfl
  ·rw[decide_eq_false h0];show bS (o2 (lf gGe) (zV 3) (zV 2)) _ ω=_;rw[bR (k:=decide ((c:Int)<=n)) (ω1:=ω) (fT (aB (d:=.int n) rfl) (aB (d:=.int c) rfl) rfl)]
   by_cases h1:(c:Int)<=n
   ·rw[decide_eq_true h1,decide_eq_false (by omega)];rfl
   ·rw[decide_eq_false h1,decide_eq_true (by omega)];rfl
 unfold aE
 by_cases hv:0<=n/\n<c
 ·rw[if_pos hv];rw[decide_eq_true hv] at t;rw[lN t];rfl
 ·rw[if_neg hv];rw[decide_eq_false hv] at t;rw[mW t];rfl
theorem MI:aE (mR h c d (xw (.str x)) v4 v5 v6 v7 v8) ω=xw (.nx (mR h c d (xw (.str x)) v4 v5 v6 v7 v8),ω):=by
 have t:De (iS (gO (iT "str" (zV 3)))) (oOr (bS (o2 (lf gLt) (zV 3) (zI 0))) (bS (o2 (lf gGe) (zV 3) (zV 2)))) (mR h c d (xw (.str x)) v4 v5 v6 v7 v8) ω=xw (.ok false,ω):=by
  have t1:iS (gO (iT "str" (zV 3))) (mR h c d (xw (.str x)) v4 v5 v6 v7 v8) ω=xw (.ok false,ω):=gT (k:=true) (tru_ok (fA (aB (d:=.str x) rfl) rfl));unfold De;rw[bF t1];rfl
 unfold aE;rw[lN t];rfl
theorem PM (d:Deed):oIT (o2 AE (oSl (zV 1) (dSo (dC (.int 1))) (dSo (dC (.int 2)))) (oSl (zV 1) (dSo (dC (.int 2))) (dSo (dC (.int 3))))) (mR h c d.d xx xx xx xx xx xx) ω=xw (.ok ([.int d.n1,d.n2],bO),ω):=by
 cases d with
 |put a x v=>rfl
 |change a x v=>rfl
 |take a x=>rfl
 |tell a b=>rfl
 |meet a b=>rfl
theorem oO (d:Deed):sNx (bI (oIT (o2 AE (oSl (zV 1) (dSo (dC (.int 1))) (dSo (dC (.int 2)))) (oSl (zV 1) (dSo (dC (.int 2))) (dSo (dC (.int 3)))))) (aW 3) aE) (mR h c d.d xx xx xx xx xx xx) ω=if(0<=d.n1/\d.n1<c)/\okN c d.n2=true then xw (.nx (mR h c d.d (xw d.n2) xx xx xx xx xx),ω) else xw (.rt (.str "no hand"),ω):=by
 have run:∀ r,bP (aW 3) bO aE [.int d.n1,d.n2] (mR h c d.d xx xx xx xx xx xx) ω=xw (r,ω)->(∀ x,r≠ .ex x)->sNx (bI (oIT (o2 AE (oSl (zV 1) (dSo (dC (.int 1))) (dSo (dC (.int 2)))) (oSl (zV 1) (dSo (dC (.int 2))) (dSo (dC (.int 3)))))) (aW 3) aE) (mR h c d.d xx xx xx xx xx xx) ω=xw (r,ω):=by
  intro r e hr
  have:bI (oIT (o2 AE (oSl (zV 1) (dSo (dC (.int 1))) (dSo (dC (.int 2)))) (oSl (zV 1) (dSo (dC (.int 2))) (dSo (dC (.int 3)))))) (aW 3) aE (mR h c d.d xx xx xx xx xx xx) ω=xw (r,ω):=by
   unfold bI;rw[bV (PM d)];exact e
  unfold sNx;rw[this];cases r with
  |ex x=>exact absurd rfl (hr x)
  |_=>rfl
 have s1:bP (aW 3) bO aE [.int d.n1,d.n2] (mR h c d.d xx xx xx xx xx xx) ω=(match aE (mR h c d.d (xw (.int d.n1)) xx xx xx xx xx) ω with
   |none=>xx
   |some (.nx ρ2,ω2)=>bP (aW 3) bO aE [d.n2] ρ2 ω2
   |some (.ct ρ2,ω2)=>bP (aW 3) bO aE [d.n2] ρ2 ω2
   |some (.bk ρ2,ω2)=>xw (.nx ρ2,ω2)
   |some (.rt d,ω2)=>xw (.rt d,ω2)
   |some (.ex _,_)=>xx):=rfl
 have s2:bP (aW 3) bO aE [d.n2] (mR h c d.d (xw (.int d.n1)) xx xx xx xx xx) ω=(match aE (mR h c d.d (xw d.n2) xx xx xx xx xx) ω with
   |none=>xx
   |some (.nx ρ2,ω2)=>xw (.nx ρ2,ω2)
   |some (.ct ρ2,ω2)=>xw (.nx ρ2,ω2)
   |some (.bk ρ2,ω2)=>xw (.nx ρ2,ω2)
   |some (.rt d,ω2)=>xw (.rt d,ω2)
   |some (.ex _,_)=>xx):=by
  show(match aE (mR h c d.d (xw d.n2) xx xx xx xx xx) ω with
   |none=>xx
   |some (.nx ρ2,ω2)=>bP (aW 3) bO aE [] ρ2 ω2
   |some (.ct ρ2,ω2)=>bP (aW 3) bO aE [] ρ2 ω2
   |some (.bk ρ2,ω2)=>xw (.nx ρ2,ω2)
   |some (.rt d,ω2)=>xw (.rt d,ω2)
   |some (.ex _,_)=>xx)=_
  rfl
 rw[Gp] at s1
 by_cases h1:0<=d.n1/\d.n1<c
 ·rw[if_pos h1] at s1;have s1':bP (aW 3) bO aE [.int d.n1,d.n2] (mR h c d.d xx xx xx xx xx xx) ω=bP (aW 3) bO aE [d.n2] (mR h c d.d (xw (.int d.n1)) xx xx xx xx xx) ω:=s1;have shape:(∃ n,d.n2=.int n)∨∃ x,d.n2=.str x:=by
   cases d with
   |put a x v=>exact .inr ⟨x,rfl⟩
   |change a x v=>exact .inr ⟨x,rfl⟩
   |take a x=>exact .inr ⟨x,rfl⟩
   |tell a b=>exact .inl ⟨b,rfl⟩
   |meet a b=>exact .inl ⟨b,rfl⟩
  rcases shape with⟨n,e⟩|⟨x,e⟩
  ·rw[e,Gp] at s2
   by_cases h2:0<=n/\n<c
   ·rw[if_pos h2] at s2;rw[if_pos ⟨h1,by rw[e];exact decide_eq_true h2⟩];rw[e] at s1' ⊢;exact run _ (by rw[e];exact s1'.trans s2) (by intro x;exact fun z=>nomatch z)
   ·rw[if_neg h2] at s2;rw[if_neg (fun z=>by rw[e] at z;exact h2 (of_decide_eq_true z.2))];rw[e] at s1';exact run _ (by rw[e];exact s1'.trans s2) (by intro x;exact fun z=>nomatch z)
  ·rw[e,MI] at s2;rw[if_pos ⟨h1,by rw[e];rfl⟩];rw[e] at s1' ⊢;exact run _ (by rw[e];exact s1'.trans s2) (by intro x;exact fun z=>nomatch z)
 ·rw[if_neg h1] at s1;rw[if_neg (fun z=>h1 z.1)];exact run _ s1 (by intro x;exact fun z=>nomatch z)
end
section
variable {B ω:Om}{c h dd oo kk:Nat}{ks:Nat->Nat}{rs:List Rec}{kn:Nat->Nat->List Int}{own:Nat->Nat}{S:Nat->Hd}
noncomputable abbrev Lo:OS:=(aF (dA (bS (o2 (iW 8) (zX (zV 1) (zI 0)) (zS "put"))) (aS (bM cV (aC (zV 0) (aC (zV 4) (aC (oSl (zV 1) (dSo (dC (.int 2))) dNo) (aC (zL aM) aM)))))) bG) (aF (dA (bS (o2 (iW 8) (zX (zV 1) (zI 0)) (zS "change"))) (aS (bM cV (aC (zV 0) (aC (zV 4) (aC (oSl (zV 1) (dSo (dC (.int 2))) dNo) (aC (zV 6) aM)))))) bG) (aF (dA (bS (o2 (iW 8) (zV 6) (zL aM))) (aS (oP (dC .non))) bG) (aF (bT (bM cV (aC (zV 0) (aC (zV 4) (aC (oP (dC .non)) (aC (zV 6) aM)))))) (aS (zV 6))))))
theorem iH (h1:ρ[1]?=xw (xw d)) (h0:oN ω d (.int 0)=xw (.str x)):bS (o2 (iW 8) (zX (zV 1) (zI 0)) (zS y)) ρ ω=xw (.ok (decide (x=y)),ω):=bR (dO (aJ (aB h1) aU h0) aU (by
 show pu ((eqD 8 (.str x) (.str y)).map D.bl) ω=_;rw[iK];rfl))
theorem HN:∀ {d:Deed},(∃ x,d.n2=.str x)->bS (o2 (lf (gIn 7)) (zX (zV 1) (zI 0)) (zL (aC (zS "put") (aC (zS "take") (aC (zS "change") aM))))) (mR h c d.d (xw d.n2) (xw (.int d.n1)) xx xx xx xx) ω=xw (.ok true,ω)
 |.put a x v,_=>rfl
 |.change a x v,_=>rfl
 |.take a x,_=>rfl
 |.tell a b,⟨_,e⟩=>by cases e
 |.meet a b,⟨_,e⟩=>by cases e
theorem oA:∀ {d:Deed},(∃ b,d.n2=.int b)->bS (o2 (lf (gIn 7)) (zX (zV 1) (zI 0)) (zL (aC (zS "put") (aC (zS "take") (aC (zS "change") aM))))) (mR h c d.d (xw d.n2) (xw (.int d.n1)) xx xx xx xx) ω=xw (.ok false,ω)
 |.put a x v,⟨_,e⟩=>by cases e
 |.change a x v,⟨_,e⟩=>by cases e
 |.take a x,⟨_,e⟩=>by cases e
 |.tell a b,_=>rfl
 |.meet a b,_=>rfl
theorem Jo (d:Deed):oN ω d.d (.int 1)=xw (.int d.n1):=by cases d <;> rfl
theorem Jn (d:Deed):oN ω d.d (.int 2)=xw d.n2:=by cases d <;> rfl
theorem qI (L:LawAt B ω c h dd oo kk ks rs kn) {d:Deed} (hb:¬((0<=d.n1/\d.n1<c)/\okN c d.n2=true)):cD [.obj h,d.d] ω=xw (.ok (.str "no hand"),ω):=by
 refine aT rfl ?_;unfold bQ;refine(aK (L.gCount (aB rfl))).trans ?_;refine uY (r:=.ok (.str "no hand")) ?_
 have:=oO (ω:=ω) (h:=h) (c:=c) d
 rw[if_neg hb] at this;exact this
theorem vW {d:Deed} (L:LawAt B ω c h dd oo kk ks rs kn) (I:HInv c own S) (Q:Rel c own S rs kn) (c0:0<c) (c8:c<=8) (ht:tot c own<64) (ha:a<c) (e1:d.n1=a) (e2:d.n2=.str x)
  (e:Lo (mR h c d.d (xw (.str x)) (xw (.int a)) (xw (.lst (S a).ents)) (xw (.lst (((S a).marksK x).map bH))) xx xx) (ω++[.ml (bC rs (kn a a))])=xw (Kw r,ω')):cD [.obj h,d.d] ω=xw (r,ω'):=by
 have W:=(I a ha).1;have O:=W.ok c0 c8 ht;obtain⟨rd,i1,r1⟩:=L.ixRow (ω:=ω) (fun _ _=>rfl) ha ha;have rl:=oE Q.recs;have pr:=tE L c0 Q.recs r1 (L.len _ _ ha ha) (by omega) (yT O Q.recs ht (Q.tab a ha));have lp:=oO (ω:=ω) (h:=h) (c:=c) d;rw[if_pos ⟨by rw[e1];omega,by rw[e2];rfl⟩] at lp;refine dS rfl ?_;unfold bQ;refine(aK (L.gCount (aB rfl))).trans ?_;refine(bA lp).trans ?_;refine(aK (aJ (aB (d:=d.d) rfl) aU (Jo d))).trans ?_;refine uY ?_;refine(mW (HN ⟨x,e2⟩)).trans ?_;show aF _ _ (mR h c d.d (xw d.n2) (xw (.int d.n1)) xx xx xx xx) ω=_;rw[e1,e2];refine(aK (aR (aA (aB (d:=.obj h) rfl) (aA (aJ (aJ (L.gKnown (aB (d:=.obj h) rfl)) (aB (d:=.int a) rfl) (L.ixKnown ha)) (aB (d:=.int a) rfl) i1) aD)) pr)).trans ?_;refine(aK (d:=.lst (((S a).marksK x).map bH)) (ω1:=ω++[.ml (bC rs (kn a a))]) (eM (ds:=(S a).ents) (chk:=bO) (ω1:=ω++[.ml (bC rs (kn a a))]) (by
  unfold oIL;rw[bF (aB (d:=.lst (S a).ents) rfl)];rfl) (io (eD O.entsLen)) (by
  have e0:((S a).marksK x).map bH=((S a).ents.filter (Mg x)).map fun q=>bH (aZ q):=by
   unfold Hd.marksK;rw[fm];rfl
  rw[e0];refine eP (fun ρ=>∃ u,ρ=[u,xw d.d]) rfl ⟨_,rfl⟩ fun q hq ρ hρ=> ?_;obtain⟨u,rfl⟩:=hρ;obtain⟨y,p1,p2,v,rfl⟩:=O.entsEnt q hq;refine⟨_,rfl,⟨_,rfl⟩,?_,fun _=>aJ (aB (d:=.tup [.str y,.tup [.int p1,.int p2],.int v]) rfl) aU rfl⟩;refine bR (dO (aJ (aB (d:=.tup [.str y,.tup [.int p1,.int p2],.int v]) rfl) aU rfl) (aJ (aB (d:=d.d) rfl) aU (by rw[Jn,e2])) ?_);show pu ((eqD 8 (.str y) (.str x)).map D.bl) _=_;rw[iK];rfl))).trans ?_
 exact e
def Cn (own:Nat->Nat) (rs:List Rec):Prop:=∀ t,rs.countP (fun r=>r.a==t)=own t
theorem Cn.snoc {own:Nat->Nat}{rs:List Rec}{r:Rec} (N:Cn own rs) (h:r.a=a):Cn (cQ own a) (rs++[r]):=fun t=>by
 rw[vv,N t,ui,h];unfold cQ
 by_cases e:t=a
 ·rw[if_pos e,if_pos (by simp[e])]
 ·rw[if_neg e,if_neg (by simp;exact fun z=>e z.symm)];omega
theorem PL (L:LawAt B ω c h dd oo kk ks rs kn) (I:HInv c own S) (Q:Rel c own S rs kn) (c0:0<c) (c8:c<=8) (ht:tot c own<63) (N:Cn own rs) (d:Deed):∃ ω' ks' rs' kn' own' ans,cD [.obj h,d.d] ω=xw (.ok ans,ω')/\LawAt B ω' c h dd oo kk ks' rs' kn'/\HInv c own' (step c S d).2/\Rel c own' (step c S d).2 rs' kn'/\tot c own'<=tot c own+1/\Cn own' rs':=by
 have nk:∀ {a:Nat} (p:Option (Str×Int)) (o:List (List Key)),a<c->(⟨a,own a+1,p,o⟩:Rec).key∉rs.map Rec.key:=fun {a} p o ha z=>by
  obtain⟨q,hq,e⟩:=ax.mp z
  have:=Q.recs.inn q hq
  unfold Rec.key gA at e;simp at e;have e1:q.a=a:=by omega
  rw[e1] at this;omega
 have tb:∀ {a:Nat},a<c->tot c (cQ own a)<=tot c own+1:=fun {a} ha=>by rw[kA,if_pos ha];omega
 have rl:=oE Q.recs;have ob:∀ {a:Nat},a<c->(((own a+1:Nat)):Int)=(kn a a).getD a 0+1:=fun {a} ha=>by rw[Q.ownE I ha];omega
 cases d with
 |put a x v=>
  by_cases hv:0<=a/\a<(c:Int)
  ·obtain⟨n,rfl⟩:=Int.eq_ofNat_of_zero_le hv.1;have hn:n<c:=by omega
   have e0:(step c S (.put n x v)).2=nB S n ((S n).put n x v):=by
    show(if 0<=(n:Int)/\(n:Int)<c then(_,_) else(_,_):D×(Nat->Hd)).2=_
    rw[if_pos hv];rfl
   rw[e0];have RP:=Ky Q I hn x v;have L1:=L.app c0 [.ml (bC rs (kn n n))];obtain⟨ω',e1,L2,_⟩:=vG (own':=n) L1 c0 hn (r:=⟨n,own n+1,xw (x,v),[]⟩) rfl (ob hn) (nk _ _ hn) (by omega);refine⟨ω',ks,_,_,cQ own n,_,vW (d:=.put n x v) L I Q c0 c8 (by omega) hn rfl rfl (r:=.ok (mkD n ((own n+1:Nat):Int))) ?_,L2,RP.1,RP.2,tb hn,N.snoc rfl⟩;exact Dv (r:=.ok _) (by rw[iH (x:="put") rfl rfl];rfl) (aR (aA (aB rfl) (aA (aB rfl) (aA (a:=.tup [.str x,.int v]) rfl (aA (a:=.lst []) rfl aD)))) e1)
  ·have e0:(step c S (.put a x v)).2=S:=by
    show(if 0<=a/\a<(c:Int) then(_,_) else(_,_):D×(Nat->Hd)).2=_
    rw[if_neg hv]
   rw[e0];exact⟨ω,ks,rs,kn,own,_,qI L (d:=.put a x v) fun z=>hv z.1,L,I,Q,by omega,N⟩
 |change a x v=>
  by_cases hv:0<=a/\a<(c:Int)
  ·obtain⟨n,rfl⟩:=Int.eq_ofNat_of_zero_le hv.1;have hn:n<c:=by omega
   have e0:(step c S (.change n x v)).2=nB S n ((S n).change n x v):=by
    show(if 0<=(n:Int)/\(n:Int)<c then(_,_) else(_,_):D×(Nat->Hd)).2=_
    rw[if_pos hv];rfl
   rw[e0];have RP:=CZ Q I c0 c8 ht hn x v;have L1:=L.app c0 [.ml (bC rs (kn n n))];obtain⟨ω',e1,L2,_⟩:=vG (own':=n) L1 c0 hn (r:=⟨n,own n+1,xw (x,v),(S n).marksK x⟩) rfl (ob hn) (nk _ _ hn) (by omega);refine⟨ω',ks,_,_,cQ own n,_,vW (d:=.change n x v) L I Q c0 c8 (by omega) hn rfl rfl (r:=.ok (mkD n ((own n+1:Nat):Int))) ?_,L2,RP.1,RP.2,tb hn,N.snoc rfl⟩;refine(skip (by rw[iH (x:="change") rfl rfl];rfl)).trans ?_;exact Dv (r:=.ok _) (by rw[iH (x:="change") rfl rfl];rfl) (aR (aA (aB rfl) (aA (aB rfl) (aA (a:=.tup [.str x,.int v]) rfl (aA (aB (d:=.lst (((S n).marksK x).map bH)) rfl) aD)))) e1)
  ·have e0:(step c S (.change a x v)).2=S:=by
    show(if 0<=a/\a<(c:Int) then(_,_) else(_,_):D×(Nat->Hd)).2=_
    rw[if_neg hv]
   rw[e0];exact⟨ω,ks,rs,kn,own,_,qI L (d:=.change a x v) fun z=>hv z.1,L,I,Q,by omega,N⟩
 |take a x=>
  by_cases hv:0<=a/\a<(c:Int)
  ·obtain⟨n,rfl⟩:=Int.eq_ofNat_of_zero_le hv.1;have hn:n<c:=by omega
   have e0:(step c S (.take n x)).2=nB S n ((S n).take n x):=by
    show(if 0<=(n:Int)/\(n:Int)<c then(_,_) else(_,_):D×(Nat->Hd)).2=_
    rw[if_pos hv];rfl
   rw[e0];have L1:=L.app c0 [.ml (bC rs (kn n n))];have tst:∀ {ω:Om}{ρ:Rho},ρ[6]?=xw (xw (.lst (((S n).marksK x).map bH)))->bS (o2 (iW 8) (zV 6) (zL aM)) ρ ω=xw (.ok (decide ((S n).marksK x=[])),ω):=fun {ω ρ} h6=>bR (dO (aB h6) (b:=.lst []) (ω2:=ω) rfl (by
    show pu ((eqD 8 (.lst (((S n).marksK x).map bH)) (.lst [])).map D.bl) ω=_;cases hm:(S n).marksK x with
    |nil=>rfl
    |cons q l=>rfl))
   by_cases hm:(S n).marksK x=[]
   ·have et:(S n).take n x=S n:=by unfold Hd.take;rw[if_pos hm]
    have eS:nB S n ((S n).take n x)=S:=by
     rw[et]
     funext j
     by_cases h:j=n
     ·rw[h,gJ]
     ·rw[gH h]
    rw[eS];refine⟨_,ks,rs,kn,own,_,vW (d:=.take n x) L I Q c0 c8 (by omega) hn rfl rfl (r:=.ok .non) ?_,L1,I,Q,by omega,N⟩;refine(skip (by rw[iH (x:="take") rfl rfl];rfl)).trans ?_;refine(skip (by rw[iH (x:="take") rfl rfl];rfl)).trans ?_;exact Dv (r:=.ok .non) (by rw[tst rfl,decide_eq_true hm]) rfl
   ·have RP:=Hr Q I c0 c8 ht hn x hm;obtain⟨ω',e1,L2,_⟩:=vG (own':=n) L1 c0 hn (r:=⟨n,own n+1,xx,(S n).marksK x⟩) rfl (ob hn) (nk _ _ hn) (by omega);refine⟨ω',ks,_,_,cQ own n,_,vW (d:=.take n x) L I Q c0 c8 (by omega) hn rfl rfl (r:=.ok (.lst (((S n).marksK x).map bH))) ?_,L2,RP.1,RP.2,tb hn,N.snoc rfl⟩;refine(skip (by rw[iH (x:="take") rfl rfl];rfl)).trans ?_;refine(skip (by rw[iH (x:="take") rfl rfl];rfl)).trans ?_;refine(skip (by rw[tst rfl,decide_eq_false hm])).trans ?_;refine(bA (ω1:=ω') (by
     unfold bT;rw[bV (aR (aA (aB (d:=.obj h) rfl) (aA (aB (d:=.int n) rfl) (aA (a:=.non) rfl (aA (aB (d:=.lst (((S n).marksK x).map bH)) rfl) aD)))) e1)])).trans ?_
    exact bD (aB rfl)
  ·have e0:(step c S (.take a x)).2=S:=by
    show(if 0<=a/\a<(c:Int) then(_,_) else(_,_):D×(Nat->Hd)).2=_
    rw[if_neg hv]
   rw[e0];exact⟨ω,ks,rs,kn,own,_,qI L (d:=.take a x) fun z=>hv z.1,L,I,Q,by omega,N⟩
 |tell a b=>
  by_cases hv:(0<=a/\a<(c:Int))/\(0<=b/\b<(c:Int))
  ·obtain⟨n,rfl⟩:=Int.eq_ofNat_of_zero_le hv.1.1;obtain⟨m,rfl⟩:=Int.eq_ofNat_of_zero_le hv.2.1;have hn:n<c:=by omega
   have hm:m<c:=by omega
   have lp:=oO (ω:=ω) (h:=h) (c:=c) (.tell n m);rw[if_pos ⟨hv.1,decide_eq_true hv.2⟩] at lp;have head:∀(r:Rz D) (ω':Om) (G:OS),G (mR h c (Deed.tell n m).d (xw (.int m)) (xw (.int n)) xx xx xx xx) ω=xw (Kw r,ω')->True:=fun _ _ _ _=>trivial;have eqt:bS (o2 (iW 8) (zV 4) (zX (zV 1) (zI 2))) (mR h c (Deed.tell n m).d (xw (.int m)) (xw (.int n)) xx xx xx xx) ω=xw (.ok (decide ((n:Int)=m)),ω):=bR (dO (aB (d:=.int n) rfl) (aJ (aB (d:=(Deed.tell n m).d) rfl) aU rfl) rfl)
   by_cases hnm:n=m
   ·subst hnm;have e0:(step c S (.tell n n)).2=S:=by
     show(if(0<=(n:Int)/\(n:Int)<c)/\(0<=(n:Int)/\(n:Int)<c) then(if(n:Int)=n then(_,_) else(_,_)) else(_,_):D×(Nat->Hd)).2=_
     rw[if_pos hv,if_pos rfl]
    rw[e0];refine⟨ω,ks,rs,kn,own,.str "same hand",?_,L,I,Q,by omega,N⟩;refine aT rfl ?_;unfold bQ;refine(aK (L.gCount (aB rfl))).trans ?_;refine(bA lp).trans ?_;refine(aK (aJ (aB (d:=(Deed.tell n n).d) rfl) aU rfl)).trans ?_;refine(skip (oA (d:=.tell n n) ⟨_,rfl⟩)).trans ?_;exact Dv (r:=.ok _) (eqt.trans (by rw[decide_eq_true rfl])) rfl
   ·have e0:(step c S (.tell n m)).2=gY S n m:=by
     show(if(0<=(n:Int)/\(n:Int)<c)/\(0<=(m:Int)/\(m:Int)<c) then(if(n:Int)=m then(_,_) else(_,_)) else(_,_):D×(Nat->Hd)).2=_
     rw[if_pos hv,if_neg (by omega)];rfl
    rw[e0];obtain⟨ω',ks',e1,L2,_⟩:=jM L c0 c8 hn hm;refine⟨ω',ks',rs,_,own,.int ((moR c kn n m m).sum-(kn m m).sum),?_,L2,dG I c0 c8 (by omega) hm hn,Q.hear I c0 c8 (by omega) hn hm hnm,by omega,N⟩
    ·refine aT rfl ?_;unfold bQ;refine(aK (L.gCount (aB rfl))).trans ?_;refine(bA lp).trans ?_;refine(aK (aJ (aB (d:=(Deed.tell n m).d) rfl) aU rfl)).trans ?_;refine(skip (oA (d:=.tell n m) ⟨_,rfl⟩)).trans ?_;refine(skip (eqt.trans (by rw[decide_eq_false (by omega)]))).trans ?_;exact Dv (r:=.ok _) (by rw[iH (x:="tell") rfl rfl];rfl) (aR (aA (aB rfl) (aA (aB rfl) (aA (aJ (aB (d:=(Deed.tell n m).d) rfl) aU rfl) aD))) e1)
  ·have e0:(step c S (.tell a b)).2=S:=by
    show(if(0<=a/\a<(c:Int))/\(0<=b/\b<(c:Int)) then(if a=b then(_,_) else(_,_)) else(_,_):D×(Nat->Hd)).2=_
    rw[if_neg hv]
   rw[e0];exact⟨ω,ks,rs,kn,own,_,qI L (d:=.tell a b) fun z=>hv ⟨z.1,of_decide_eq_true z.2⟩,L,I,Q,by omega,N⟩
 |meet a b=>
  by_cases hv:(0<=a/\a<(c:Int))/\(0<=b/\b<(c:Int))
  ·obtain⟨n,rfl⟩:=Int.eq_ofNat_of_zero_le hv.1.1;obtain⟨m,rfl⟩:=Int.eq_ofNat_of_zero_le hv.2.1;have hn:n<c:=by omega
   have hm:m<c:=by omega
   have lp:=oO (ω:=ω) (h:=h) (c:=c) (.meet n m);rw[if_pos ⟨hv.1,decide_eq_true hv.2⟩] at lp;have eqt:bS (o2 (iW 8) (zV 4) (zX (zV 1) (zI 2))) (mR h c (Deed.meet n m).d (xw (.int m)) (xw (.int n)) xx xx xx xx) ω=xw (.ok (decide ((n:Int)=m)),ω):=bR (dO (aB (d:=.int n) rfl) (aJ (aB (d:=(Deed.meet n m).d) rfl) aU rfl) rfl)
   by_cases hnm:n=m
   ·subst hnm;have e0:(step c S (.meet n n)).2=S:=by
     show(if(0<=(n:Int)/\(n:Int)<c)/\(0<=(n:Int)/\(n:Int)<c) then(if(n:Int)=n then(_,_) else(_,_)) else(_,_):D×(Nat->Hd)).2=_
     rw[if_pos hv,if_pos rfl]
    rw[e0];refine⟨ω,ks,rs,kn,own,.str "same hand",?_,L,I,Q,by omega,N⟩;refine aT rfl ?_;unfold bQ;refine(aK (L.gCount (aB rfl))).trans ?_;refine(bA lp).trans ?_;refine(aK (aJ (aB (d:=(Deed.meet n n).d) rfl) aU rfl)).trans ?_;refine(skip (oA (d:=.meet n n) ⟨_,rfl⟩)).trans ?_;exact Dv (r:=.ok _) (eqt.trans (by rw[decide_eq_true rfl])) rfl
   ·have e0:(step c S (.meet n m)).2=lY S n m:=by
     show(if(0<=(n:Int)/\(n:Int)<c)/\(0<=(m:Int)/\(m:Int)<c) then(if(n:Int)=m then(_,_) else(_,_)) else(_,_):D×(Nat->Hd)).2=_
     rw[if_pos hv,if_neg (by omega)];rfl
    rw[e0];have I1:=dG I c0 c8 (by omega) hm hn;have Q1:=Q.hear I c0 c8 (by omega) hn hm hnm;have I2:=dG I1 c0 c8 (by omega) hn hm;have Q2:=Q1.hear I1 c0 c8 (by omega) hm hn (bx hnm);have I3:=dG I2 c0 c8 (by omega) hm hn;have Q3:=Q2.hear I2 c0 c8 (by omega) hn hm hnm;obtain⟨ω1,ks1,e1,L1,_⟩:=jM L c0 c8 hm hn;obtain⟨ω2,ks2,e2,L2,_⟩:=jM L1 c0 c8 hn hm;obtain⟨ds,g1,g2⟩:=L2.row n hn;obtain⟨rd,i1,r1⟩:=g2.ix g1 hn;have L3:=L2.setRow c0 hn hm g1 g2 (d:=.lst (iv (upF (upF kn n (moR c kn m n)) m (moR c (upF kn n (moR c kn m n)) n m) n n))) (xs:=upF (upF kn n (moR c kn m n)) m (moR c (upF kn n (moR c kn m n)) n m) n n) rfl (L2.len _ _ hn hn);have same:=LV (c:=c) (kn:=kn) hn hm hnm L.len Q.le _ _ _ _ _ _ rfl rfl rfl rfl rfl rfl;refine⟨_,ks2,rs,_,own,.tup [.int ((moR c kn m n n).sum-(kn n n).sum),.int ((moR c (upF kn n (moR c kn m n)) n m m).sum-(upF kn n (moR c kn m n) m m).sum)],?_,L3.congr same,I3,Q3,by omega,N⟩
    ·refine aT rfl ?_;unfold bQ;refine(aK (L.gCount (aB rfl))).trans ?_;refine(bA lp).trans ?_;refine(aK (aJ (aB (d:=(Deed.meet n m).d) rfl) aU rfl)).trans ?_;refine(skip (oA (d:=.meet n m) ⟨_,rfl⟩)).trans ?_;refine(skip (eqt.trans (by rw[decide_eq_false (by omega)]))).trans ?_;refine(skip (by rw[iH (x:="meet") rfl rfl];rfl)).trans ?_;refine(aK (aR (aA (aB (d:=.obj h) rfl) (aA (aJ (aB (d:=(Deed.meet n m).d) rfl) aU rfl) (aA (aB (d:=.int n) rfl) aD))) e1)).trans ?_;refine(aK (aR (aA (aB (d:=.obj h) rfl) (aA (aB (d:=.int n) rfl) (aA (aJ (aB (d:=(Deed.meet n m).d) rfl) aU rfl) aD))) e2)).trans ?_;refine(bA (eE (cO (aA (aJ (aJ (L2.gKnown (aB (d:=.obj h) rfl)) (aB (d:=.int n) rfl) (L2.ixKnown hn)) (aB (d:=.int n) rfl) i1) aD) (by
      have:bZ ω2 rd=xw (iv (upF (upF kn n (moR c kn m n)) m (moR c (upF kn n (moR c kn m n)) n m) n n)):=by
       rcases fF r1 with rfl|⟨q,rfl,e⟩
       ·rfl
       ·simp only[bZ,fG,e]
      show(bZ ω2 rd).map _=_
      rw[this];rfl)) (aJ (L2.gKnown (aB (d:=.obj h) rfl)) (aB (d:=.int n) rfl) (L2.ixKnown hn)) (aJ (aB (d:=(Deed.meet n m).d) rfl) aU rfl) (kS g1 (by rw[g2.1];exact hm)))).trans ?_
     exact bD (cO (aA (aB rfl) (aA (aB rfl) aD)) rfl)
  ·have e0:(step c S (.meet a b)).2=S:=by
    show(if(0<=a/\a<(c:Int))/\(0<=b/\b<(c:Int)) then(if a=b then(_,_) else(_,_)) else(_,_):D×(Nat->Hd)).2=_
    rw[if_neg hv]
   rw[e0];exact⟨ω,ks,rs,kn,own,_,qI L (d:=.meet a b) fun z=>hv ⟨z.1,of_decide_eq_true z.2⟩,L,I,Q,by omega,N⟩
end
theorem xN:∀ {xs:List Int}{u:Option D},∃ v,bP (aW 3) bO gW (iv xs) [F,N,R,u] ω=xw (.nx [F,N,R,v],ω)
 |[],u=>⟨u,rfl⟩
 |x::xs,u=>by
  obtain⟨v,e⟩:=xN (F:=F) (N:=N) (R:=R) (ω:=ω) (xs:=xs) (u:=xw (.int x));exact⟨v,e⟩
theorem xM:∀ {ts:List (List Int)}{u v:Option D},(∀ t∈ts,t.length=c)->∃ u' v',bP (aW 2) bO dB (ts.map fun xs=>D.lst (iv xs)) [F,xw (.int c),u,v] ω=xw (.nx [F,xw (.int c),u',v'],ω)
 |[],u,v,_=>⟨u,v,rfl⟩
 |t::ts,u,v,h=>by
  obtain⟨w,e1⟩:=xN (F:=F) (N:=xw (.int c)) (R:=xw (.lst (iv t))) (ω:=ω) (xs:=t) (u:=v);obtain⟨u',v',e2⟩:=xM (F:=F) (c:=c) (ω:=ω) (ts:=ts) (u:=xw (.lst (iv t))) (v:=w) fun t' ht=>h t' (ai _ ht);refine⟨u',v',?_⟩;have b2:dB [F,xw (.int c),xw (.lst (iv t)),v] ω=xw (.nx [F,xw (.int c),xw (.lst (iv t)),w],ω):=by
   unfold dB;rw[skip (rW (gT (k:=true) (tru_ok (fA (aB (d:=.lst (iv t)) rfl) rfl))) (tK (a:=((iv t).length:Nat)) (b:=(c:Int)) (jL (aB (d:=.lst (iv t)) rfl) (.inl rfl)) (aB rfl) (by unfold iv;rw[ao,h t aq])))];refine eY ?_;unfold bI oIL;rw[bV (x:=(iv t,bO)) (ω1:=ω) (by rw[bF (aB (d:=.lst (iv t)) rfl)];rfl)];exact e1
  refine(dD rfl rfl (b2)).trans ?_;exact e2
theorem EB {ts:List (List Int)} (h:∀ t∈ts,t.length=c) (hc:ts.length=c) (ω:Om):dE [.lst (ts.map fun xs=>D.lst (iv xs)),.int c] ω=xw (.ok (.bl true),ω):=by
 obtain⟨u,v,e⟩:=xM (F:=xw (.lst (ts.map fun xs=>D.lst (iv xs)))) (c:=c) (ω:=ω) (ts:=ts) (u:=xx) (v:=xx) h;refine aT rfl ?_;unfold kQ;refine(skip (rW (gT (k:=true) (tru_ok (fA (aB (d:=.lst (ts.map fun xs=>D.lst (iv xs))) rfl) rfl))) (tK (a:=((ts.map fun xs=>D.lst (iv xs)).length:Nat)) (b:=(c:Int)) (jL (aB (d:=.lst (ts.map fun xs=>D.lst (iv xs))) rfl) (.inl rfl)) (aB rfl) (by rw[ao,hc])))).trans ?_;refine(bA (eY (by
  unfold bI oIL;rw[bV (x:=(ts.map fun xs=>D.lst (iv xs),bO)) (ω1:=ω) (by rw[bF (aB (d:=.lst (ts.map fun xs=>D.lst (iv xs))) rfl)];rfl)];exact e))).trans ?_
 rfl
theorem Cu (c0:0<c) (c8:c<=8):∀(ds:List Deed) {S:Nat->Hd}{ω:Om}{ks:Nat->Nat}{rs:List Rec}{kn:Nat->Nat->List Int}{own:Nat->Nat},LawAt B ω c h dd oo kk ks rs kn->HInv c own S->Rel c own S rs kn->tot c own+ds.length<64->Cn own rs->
  ∃ ω' ks' rs' kn' own',(∀(bd:BR) (chk:Om->Bool) (G:OS) (ρ:Option D->Rho),(∀ ω:Om,B.length<=ω.length->(∀ n:Nat,n<B.length->ω[n]?=B[n]?)->chk ω=true)->(∀(d:Deed) u,bd d.d (ρ u)=xw (ρ (xw d.d)))->(∀(d:Deed) (ω ω':Om) (ans:D),cD [.obj h,d.d] ω=xw (.ok ans,ω')->G (ρ (xw d.d)) ω=xw (.nx (ρ (xw d.d)),ω'))->∀ u,∃ u',bP bd chk G (ds.map Deed.d) (ρ u) ω=xw (.nx (ρ u'),ω'))/\LawAt B ω' c h dd oo kk ks' rs' kn'/\HInv c own' (jB c ds S).2/\Rel c own' (jB c ds S).2 rs' kn'/\tot c own'<64/\Cn own' rs'
 |[],S,ω,ks,rs,kn,own,L,I,Q,ht,N=>⟨ω,ks,rs,kn,own,fun bd chk G ρ hc hb hg u=>⟨u,by
   show(if chk ω=true then _ else xx)=_
   rw[if_pos (hc ω L.bas.1 L.bas.2)]⟩,L,I,Q,by simpa using ht,N⟩
 |d::ds,S,ω,ks,rs,kn,own,L,I,Q,ht,N=>by
  rw[b7] at ht;obtain⟨ω1,ks1,rs1,kn1,own1,ans,e1,L1,I1,Q1,t1,N1⟩:=PL L I Q c0 c8 (by omega) N d;obtain⟨ω2,ks2,rs2,kn2,own2,e2,L2,I2,Q2,t2⟩:=Cu c0 c8 ds L1 I1 Q1 (by omega) N1;refine⟨ω2,ks2,rs2,kn2,own2,fun bd chk G ρ hc hb hg u=> ?_,L2,I2,Q2,t2⟩;obtain⟨u',e3⟩:=e2 bd chk G ρ hc hb hg (xw d.d);refine⟨u',?_⟩;exact(dD (hc ω L.bas.1 L.bas.2) (hb d u) (hg d ω ω1 ans e1)).trans e3
section
variable {c:Nat}{own:Nat->Nat}{S:Nat->Hd}{rs:List Rec}{kn:Nat->Nat->List Int}{a b i t:Nat}
end
theorem GD {f h:OG D}{ρ:Rho}{ω ω1 ω2:Om}{a b:D}{xs ys:List D} (e1:f ρ ω=xw (.ok a,ω1)) (e2:h ρ ω1=xw (.ok b,ω2)) (h1:fG ω2 a=xw xs) (h2:fG ω2 b=xw ys) (hl:xs.length+ys.length<=1000):o2 vS f h ρ ω=xw (.ok (.lst (xs++ys)),ω2):=dO e1 e2 (by
 unfold vS;rw[h1,wr,h2,wr,if_pos (by rw[bt];omega)])
theorem xF (c:Nat):(gP c).length=(c-1)+(c-1):=by
 unfold gP eW lG;simp
theorem BE {c:Nat} (c0:0<c) (c8:c<=8) (ω:Om):iB [.int c] ω=xw (.ok (.lst ((gP c).map Deed.d)),ω):=by
 refine aT rfl ?_;have e1:cP rS (oIA gL (aC (o2 (lf gSub) (oP (DN 0)) (oP (dC (.int 1)))) aM)) [xx] (aW 0) (oPT jV) (oL (fun ω ds=>pu (nP ds) ω) (aC (oP (dC (.str "meet"))) (aC (oP (DN 0)) (aC (o2 (lf rR) (oP (DN 0)) (oP (dC (.int 1)))) aM)))) [xw (.int c),xx] ω=xw (.ok (.lst ((eW (c-1)).map Deed.d)),ω):=by
  refine eM (ds:=kB 0 (c-1)) (chk:=bO) (ω1:=ω) (jE (c:=c-1) (fT (aB (d:=.int c) rfl) aU (show xw (D.int ((c:Int)-1))=_ from by rw[show(c:Int)-1=((c-1:Nat):Int) by omega])) (by omega)) (by unfold kB;rw[ao,fk,bt];omega) ?_;have e:(eW (c-1)).map Deed.d=(kB 0 (c-1)).map fun d=>match d with|.int k=>D.tup [.str "meet",.int k,.int (k+1)]|_=>.non:=by
   unfold eW kB;rw[fm,fm];refine fg fun k _=> ?_;show D.tup [.str "meet",.int k,.int (k+1)]=D.tup [.str "meet",.int (0+(k:Int)),.int (0+(k:Int)+1)];rw[Int.zero_add]
  rw[e];refine gG (fun ρ=>∃ u,ρ=[u]) rfl ⟨_,rfl⟩ fun d hd ρ hρ=> ?_;obtain⟨u,rfl⟩:=hρ;unfold kB at hd;obtain⟨k,_,rfl⟩:=ax.mp hd;exact⟨_,rfl,⟨_,rfl⟩,rfl⟩
 have e2:cP rS (oIA IH (aC (o2 (lf gSub) (oP (DN 0)) (oP (dC (.int 2)))) (aC (oP (d1 Mw (dC (.int 1)))) (aC (oP (d1 Mw (dC (.int 1)))) aM)))) [xx] (aW 0) (oPT jV) (oL (fun ω ds=>pu (nP ds) ω) (aC (oP (dC (.str "meet"))) (aC (o2 (lf rR) (oP (DN 0)) (oP (dC (.int 1)))) (aC (oP (DN 0)) aM)))) [xw (.int c),xw (.lst ((eW (c-1)).map Deed.d))] ω=xw (.ok (.lst ((lG c (c-1)).map Deed.d)),ω):=by
  refine eM (ds:=rV ((c:Int)-2) (-1) (c-1)) (chk:=bO) (ω1:=ω) ?_ (by rw[pL,bt];omega) ?_
  ·unfold oIA;rw[bF (aA (a:=.int ((c:Int)-2)) (ω1:=ω) rfl (aA (a:=.int (-1)) (ω1:=ω) rfl (aA (a:=.int (-1)) (ω1:=ω) rfl aD)))];have hC:CD ((c:Int)-2) (-1)/\(-1:Int)= -1:=⟨⟨⟨by omega,by omega⟩,by decide,by decide⟩,rfl⟩;show oR (pu ((if CD ((c:Int)-2) (-1)/\(-1:Int)= -1 then xw (rV ((c:Int)-2) (-1) ((c:Int)-2- -1).toNat) else xx).map fun xs=>(xs,bO)) ω)=_;rw[if_pos hC,show((c:Int)-2- -1).toNat=c-1 by omega];rfl
  ·have e:(lG c (c-1)).map Deed.d=(rV ((c:Int)-2) (-1) (c-1)).map fun d=>match d with|.int k=>D.tup [.str "meet",.int (k+1),.int k]|_=>.non:=by
    unfold lG rV;rw[fm,fm];rfl
   rw[e];refine gG (fun ρ=>∃ u,ρ=[u]) rfl ⟨_,rfl⟩ fun d hd ρ hρ=> ?_;obtain⟨u,rfl⟩:=hρ;unfold rV at hd;obtain⟨k,_,rfl⟩:=ax.mp hd;exact⟨_,rfl,⟨_,rfl⟩,rfl⟩
 refine(aK e1).trans ?_
 have:=xF c
 unfold gP at this ⊢;rw[cf];exact bD (GD (aB (d:=.lst ((eW (c-1)).map Deed.d)) rfl) e2 rfl rfl (by rw[ao,ao,<- bw,this];omega))
section
variable {c:Nat}{own:Nat->Nat}{S:Nat->Hd}{rs:List Rec}{kn:Nat->Nat->List Int}{a b i t:Nat}
theorem LY (Q:Rel c own S rs kn) (I:HInv c own S) (hi:i<c) (hj:j<c) (ht:t<c):(kn i j).getD t 0<=own t:=((I i hi).1.kb _ (Q.row I hi hj).1 t ht).2
theorem An (Q:Rel c own S rs kn) (I:HInv c own S) (ha:a<c) (hb:b<c) (hk:k<c) (h:kn a k=bJ c own∨kn b k=bJ c own):moR c kn a b k=bJ c own:=by
 refine kI (c:=c) (by unfold moR;simp) (by unfold bJ;simp) fun t ht=> ?_;have u1:=LY Q I ha hk ht;have u2:=LY Q I hb hk ht;have u3:=LY Q I ha ha ht;have e:(bJ c own).getD t 0=own t:=by unfold bJ;exact eN ht
 have h':(kn a k).getD t 0=own t∨(kn b k).getD t 0=own t:=by
  rcases h with z|z
  ·exact .inl (by rw[z,e])
  ·exact .inr (by rw[z,e])
 rw[Pg ht,e];refine xi ?_ ?_
 ·unfold mo;split
  ·exact mx_lub.mpr ⟨mx_lub.mpr ⟨u1,u2⟩,u3⟩
  ·exact mx_lub.mpr ⟨u1,u2⟩
 ·have g:(own t:Int)<=mx ((kn a k).getD t 0) ((kn b k).getD t 0):=by
   have:=mx_lub.mp (ir (mx ((kn a k).getD t 0) ((kn b k).getD t 0)))
   omega
  unfold mo;split
  ·exact vq g (mx_lub.mp (ir _)).1
  ·exact g
theorem yB (I:HInv c own S) (Q:Rel c own S rs kn) (c0:0<c) (c8:c<=8) (ht:tot c own<64) (ha:a<c) (hb:b<c) (hne:a≠b) (dg:∀ i,i<c->kn i i=bJ c own):∃ kn',HInv c own (lY S a b)/\Rel c own (lY S a b) rs kn'/\(∀ i,i<c->kn' i i=bJ c own)/\(∀ k,k<c->(kn a k=bJ c own∨kn b k=bJ c own)->kn' a k=bJ c own/\kn' b k=bJ c own)/\∀ i,i≠a->i≠b->kn' i=kn i:=by
 obtain⟨k1,e1⟩:∃ k1,k1=upF kn b (moR c kn a b):=⟨_,rfl⟩;obtain⟨k2,e2⟩:∃ k2,k2=upF k1 a (moR c k1 b a):=⟨_,rfl⟩;obtain⟨k3,e3⟩:∃ k3,k3=upF k2 b (moR c k2 a b):=⟨_,rfl⟩;have I1:=dG I c0 c8 ht hb ha;have Q1:=Q.hear I c0 c8 ht ha hb hne;rw[<- e1] at Q1;have I2:=dG I1 c0 c8 ht ha hb;have Q2:=Q1.hear I1 c0 c8 ht hb ha (bx hne);rw[<- e2] at Q2;have I3:=dG I2 c0 c8 ht hb ha;have Q3:=Q2.hear I2 c0 c8 ht ha hb hne;rw[<- e3] at Q3;have fin:∀ k,k<c->(kn a k=bJ c own∨kn b k=bJ c own)->k3 a k=bJ c own/\k3 b k=bJ c own:=fun k hk h=>by
  have r1:k1 b k=bJ c own:=by rw[e1,aX];exact An Q I ha hb hk h
  have r2:k2 a k=bJ c own:=by rw[e2,aX];exact An Q1 I1 hb ha hk (.inl r1)
  rw[e3,aQ hne,aX];exact⟨r2,An Q2 I2 ha hb hk (.inl r2)⟩
 have oth:∀ i,i≠a->i≠b->k3 i=kn i:=fun i hia hib=>by rw[e3,aQ hib,e2,aQ hia,e1,aQ hib]
 refine⟨k3,I3,Q3,fun i hi=> ?_,fin,oth⟩
 by_cases hia:i=a
 ·subst hia;exact(fin i hi (.inl (dg i hi))).1
 ·by_cases hib:i=b
  ·subst hib;exact(fin i hi (.inr (dg i hi))).2
  ·rw[oth i hia hib];exact dg i hi
theorem sS (I:HInv c own S) (Q:Rel c own S rs kn) (c0:0<c) (c8:c<=8) (ht:tot c own<64) (dg:∀ i,i<c->kn i i=bJ c own):∀ k,k<c->∃ kn',HInv c own (jB c (eW k) S).2/\Rel c own (jB c (eW k) S).2 rs kn'/\(∀ i,i<c->kn' i i=bJ c own)/\∀ j,j<=k->kn' k j=bJ c own
 |0,hk=>⟨kn,I,Q,dg,fun j hj=>by rw[show j=0 by omega];exact dg 0 hk⟩
 |k+1,hk=>by
  obtain⟨kn1,I1,Q1,d1,h1⟩:=sS I Q c0 c8 ht dg k (by omega);obtain⟨kn2,I2,Q2,d2,g,_⟩:=yB I1 Q1 c0 c8 ht (a:=k) (b:=k+1) (by omega) hk (by omega) d1;have e:(jB c (eW (k+1)) S).2=lY (jB c (eW k) S).2 k (k+1):=by
   unfold eW;rw[jf,cf,gD];exact lM (b:=k+1) (by omega) hk (by omega)
  rw[e];refine⟨kn2,I2,Q2,d2,fun j hj=> ?_⟩
  by_cases hjk:j=k+1
  ·subst hjk;exact d2 _ hk
  ·exact(g j (by omega) (.inl (h1 j (by omega)))).2
theorem zM (I:HInv c own S) (Q:Rel c own S rs kn) (c0:0<c) (c8:c<=8) (ht:tot c own<64) (dg:∀ i,i<c->kn i i=bJ c own) (full:∀ j,j<c->kn (c-1) j=bJ c own):∀ k,k<c->∃ kn',HInv c own (jB c (lG c k) S).2/\Rel c own (jB c (lG c k) S).2 rs kn'/\(∀ i,i<c->kn' i i=bJ c own)/\∀ i,c<=i+k+1->i<c->∀ j,j<c->kn' i j=bJ c own
 |0,hk=>⟨kn,I,Q,dg,fun i hi hc j hj=>by rw[show i=c-1 by omega];exact full j hj⟩
 |k+1,hk=>by
  obtain⟨kn1,I1,Q1,d1,h1⟩:=zM I Q c0 c8 ht dg full k (by omega);obtain⟨kn2,I2,Q2,d2,g,g3⟩:=yB I1 Q1 c0 c8 ht (a:=c-2-k+1) (b:=c-2-k) (by omega) (by omega) (by omega) d1;have e:(jB c (lG c (k+1)) S).2=lY (jB c (lG c k) S).2 (c-2-k+1) (c-2-k):=by
   unfold lG;rw[jf,cf,gD];have e1:(c:Int)-2+(k:Int)* -1+1=((c-2-k+1:Nat):Int):=by omega
   have e2:(c:Int)-2+(k:Int)* -1=((c-2-k:Nat):Int):=by omega
   show(step c _ (.meet _ _)).2=_
   rw[e1,e2];exact lM (by omega) (by omega) (by omega)
  rw[e];refine⟨kn2,I2,Q2,d2,fun i hi hc j hj=> ?_⟩;have f:=g j hj (.inl (h1 (c-2-k+1) (by omega) (by omega) j hj))
  by_cases ja:i=c-2-k+1
  ·rw[ja];exact f.1
  ·by_cases jb:i=c-2-k
   ·rw[jb];exact f.2
   ·rw[g3 i ja jb];exact h1 i (by omega) hc j hj
theorem CT (I:HInv c own S) (Q:Rel c own S rs kn) (c0:0<c) (c8:c<=8) (ht:tot c own<64) (dg:∀ i,i<c->kn i i=bJ c own):∃ kn',HInv c own (jB c (gP c) S).2/\Rel c own (jB c (gP c) S).2 rs kn'/\∀ i j,i<c->j<c->kn' i j=bJ c own:=by
 obtain⟨kn1,I1,Q1,d1,h1⟩:=sS I Q c0 c8 ht dg (c-1) (by omega);obtain⟨kn2,I2,Q2,d2,h2⟩:=zM I1 Q1 c0 c8 ht d1 (fun j hj=>h1 j (by omega)) (c-1) (by omega);unfold gP;rw[gD];exact⟨kn2,I2,Q2,fun i j hi hj=>h2 i (by omega) hi j hj⟩
theorem Fe (Q:Rel c own S rs kn) (f:∀ i j,i<c->j<c->kn i j=bJ c own) (hi:i<c):(S i).kept=[]:=by
 refine List.eq_nil_iff_forall_not_mem.mpr fun kv hv=> ?_;obtain⟨r,hr,_,_,⟨j,hj,w⟩,_⟩:=(Q.kpt i hi kv).mp hv;have hra:=Q.recs.inn r hr;rw[f i j hi hj] at w;unfold cC bJ at w;rw[eN hra.1] at w;exact absurd (of_decide_eq_false w) (by omega)
theorem Ct (c:Nat) (p q:List Deed):iX c (p++q)=(jB c q (iX c p)).2:=by
 unfold iX;rw[gD]
end
noncomputable abbrev wR (sc:D) (c:Nat) (lg:D) (h:Nat) (v5 v6 v7 v8 v9 v10 v11 v12 v13:Option D):Rho:=[xw sc,xw (.int c),xw (.obj 0),xw lg,xw (.obj h),v5,v6,v7,v8,v9,v10,v11,v12,v13]
noncomputable def nJ (c:Nat) (rs:List Rec):List Int:=(bj c).map fun t=>((rs.countP (fun r=>r.a==t):Nat):Int)
theorem Js {r:Rec} (pre:List Rec) (h:r.a<c):(nJ c pre).set r.a ((nJ c pre).getD r.a 0+1)=nJ c (pre++[r]):=by
 unfold nJ;rw[eN h,jF];apply fg;intro t _;unfold upF;rw[vv,ui]
 by_cases e:t=r.a
 ·subst e;rw[if_pos rfl,if_pos (by simp)];omega
 ·rw[if_neg e,if_neg (by simp;exact fun z=>e z.symm)];dsimp only;omega
theorem xI (L:LawAt B ω c h dd oo kk ks rs kn):∀(post pre:List Rec) {v7:Option D},(∀ r∈post,r.a<c)->∃ w,bP (aW 7) (iZ oo (rs.map Rec.mark)) oK (post.map Rec.mark) (wR sc c lg h v5 (xw (.obj ω.length)) v7 v8 v9 v10 v11 v12 v13) (ω++[.ml (iv (nJ c pre))])=xw (.nx (wR sc c lg h v5 (xw (.obj ω.length)) w v8 v9 v10 v11 v12 v13),ω++[.ml (iv (nJ c (pre++post)))])
 |[],pre,v7,_=>⟨v7,by
   show(if iZ oo (rs.map Rec.mark) _=true then _ else xx)=_
   rw[if_pos (kZ (by rw[am (dH L.order)];exact L.order)),c6]⟩
 |r::post,pre,v7,hr=>by
  have ha:=hr r aq;obtain⟨w,e2⟩:=xI L post (pre++[r]) (v7:=xw r.mark) fun r' h'=>hr r' (ai _ h');refine⟨w,?_⟩;have g:(ω++[Ob.ml (iv (nJ c pre))])[ω.length]?=xw (.ml (iv (nJ c pre))):=by simp
  have lc:(nJ c pre).length=c:=by unfold nJ;simp
  have b:oK (wR sc c lg h v5 (xw (.obj ω.length)) (xw r.mark) v8 v9 v10 v11 v12 v13) (ω++[.ml (iv (nJ c pre))])=xw (.nx (wR sc c lg h v5 (xw (.obj ω.length)) (xw r.mark) v8 v9 v10 v11 v12 v13),ω++[.ml (iv (nJ c (pre++[r])))]):=by
   have rv:RowV (ω++[Ob.ml (iv (nJ c pre))]) (.obj ω.length) (nJ c pre):=by unfold RowV fG;simp only[g]
   have xa:zX (zV 7) (zI 0) (wR sc c lg h v5 (xw (.obj ω.length)) (xw r.mark) v8 v9 v10 v11 v12 v13) (ω++[.ml (iv (nJ c pre))])=xw (.ok (.int (r.a:Int)),ω++[.ml (iv (nJ c pre))]):=aJ (aB (d:=r.mark) rfl) aU rfl;unfold oK;refine eE (v:=.int ((nJ c pre).getD r.a 0+1)) (qH (aJ (aB (d:=.obj ω.length) rfl) xa (by rw[rv.ix (by omega) (by omega)];rfl)) aU) (aB (d:=.obj ω.length) rfl) xa ?_;rw[kS g (by unfold iv;rw[ao,lc];exact ha)];rw[<- Js pre ha];unfold iv;simp[rp]
  refine(dD (kZ (by rw[am (dH L.order)];exact L.order)) rfl b).trans ?_;rw[e2,gu];rfl
theorem Rj (xs:List Int) (h:xs.length<=1000):Pl 8 (.lst (iv xs)):=(Pl.lst (n:=0) (by unfold iv;rw[ao];exact h) fun d hd=>by
 obtain⟨x,_,rfl⟩:=ax.mp hd;trivial).mono (by decide)
theorem JY {S:Nat->Hd}{out:List D}{n:Nat} (c0:0<c) (c8:c<=8) (I:HInv c own S) (hP:Pl 8 (.lst out)) (hs:∀ i,i<c->(S i).seen i=bJ c own) (he:∀ i,i<c->(S i).ents=out) (hk:∀ i,i<c->(S i).knows=aj c (bJ c own)) (hn:ω[n]?=xw (.ml (iv (bJ c own)))):∀(r s:Nat) {v13:Option D},s+r=c->∃ w,bP (aW 13) bO oM (kB s r) (wR sc c lg h v5 (xw (.obj n)) v7 (xw (BJ c S)) (xw (BK c S)) (xw (Af c S)) v11 (xw (.lst out)) v13) ω=xw (.nx (wR sc c lg h v5 (xw (.obj n)) v7 (xw (BJ c S)) (xw (BK c S)) (xw (Af c S)) v11 (xw (.lst out)) w),ω)
 |0,s,v13,_=>⟨v13,rfl⟩
 |r+1,s,v13,hsr=>by
  have hi:s<c:=by omega
  obtain⟨w,e2⟩:=JY c0 c8 I hP hs he hk hn r (s+1) (v13:=xw (.int s)) (by omega);refine⟨w,?_⟩;have fl:(bJ c own).length=c:=by unfold bJ;simp
  have dn:fG ω (.obj n)=xw (iv (bJ c own)):=by unfold fG;simp only[hn]
  have xT:oN ω (BJ c S) (.int s)=xw (.lst out):=by
   show atI _ (s:Int)=_;exact qZ (by rw[aw,c7 hi];show xw (D.lst (S s).ents)=_;rw[he s hi])
  have xS:oN ω (BK c S) (.int s)=xw (.lst (iv (bJ c own))):=by
   show atI _ (s:Int)=_;exact qZ (by rw[aw,c7 hi];show xw (D.lst (iv ((S s).seen s)))=_;rw[hs s hi])
  have xK:oN ω (Af c S) (.int s)=xw (.lst ((aj c (bJ c own)).map fun xs=>.lst (iv xs))):=by
   show atI _ (s:Int)=_;exact qZ (by rw[aw,c7 hi];show xw (D.lst ((S s).knows.map fun xs=>.lst (iv xs)))=_;rw[hk s hi])
  have b:oM (wR sc c lg h v5 (xw (.obj n)) v7 (xw (BJ c S)) (xw (BK c S)) (xw (Af c S)) v11 (xw (.lst out)) (xw (.int s))) ω=xw (.nx (wR sc c lg h v5 (xw (.obj n)) v7 (xw (BJ c S)) (xw (BK c S)) (xw (Af c S)) v11 (xw (.lst out)) (xw (.int s))),ω):=by
   have d1:fC ω (.obj n)=.lst (iv (bJ c own)):=by unfold fC;rw[dn]
   have t1:bS (o2 (vR 8) (zX (zV 9) (zV 13)) (zV 6)) (wR sc c lg h v5 (xw (.obj n)) v7 (xw (BJ c S)) (xw (BK c S)) (xw (Af c S)) v11 (xw (.lst out)) (xw (.int s))) ω=xw (.ok false,ω):=bR (dO (d:=.bl false) (aJ (aB (d:=BK c S) rfl) (aB (d:=.int s) rfl) xS) (aB (d:=.obj n) rfl) (by
    show pu (gNe 8 (fC ω (.lst (iv (bJ c own)))) (fC ω (.obj n))) ω=_;rw[d1];show pu ((eqD 8 (.lst (iv (bJ c own))) (.lst (iv (bJ c own)))).map fun k=>D.bl (!k)) ω=_;rw[kJ (Rj _ (by omega))];rfl))
   have t2:bS (o2 (vR 8) (zX (zV 8) (zV 13)) (zV 12)) (wR sc c lg h v5 (xw (.obj n)) v7 (xw (BJ c S)) (xw (BK c S)) (xw (Af c S)) v11 (xw (.lst out)) (xw (.int s))) ω=xw (.ok false,ω):=bR (dO (d:=.bl false) (aJ (aB (d:=BJ c S) rfl) (aB (d:=.int s) rfl) xT) (aB (d:=.lst out) rfl) (by
    show pu ((eqD 8 (.lst out) (.lst out)).map fun k=>D.bl (!k)) ω=_;rw[kJ hP];rfl))
   have t3:bS (o2 (Qk 8) (zX (zV 10) (zV 13)) (o2 Mu (zL (aC (zV 6) aM)) (zV 1))) (wR sc c lg h v5 (xw (.obj n)) v7 (xw (BJ c S)) (xw (BK c S)) (xw (Af c S)) v11 (xw (.lst out)) (xw (.int s))) ω=xw (.ok false,ω):=bR (dO (d:=.bl false) (b:=.lst (aj c (.obj n))) (ω2:=ω) (aJ (aB (d:=Af c S) rfl) (aB (d:=.int s) rfl) xK) (dO (a:=.lst [.obj n]) (b:=.int c) (ω1:=ω) (ω2:=ω) rfl (aB rfl) (by
    show(if -1000000<=(c:Int)/\(c:Int)<=1000000/\1*(c:Int).toNat<=sizeLine then xw (D.lst (aj (c:Int).toNat [D.obj n]).flatten,ω) else xx)=_
    rw[if_pos ⟨by omega,by omega,by rw[bt];omega⟩,cw];simp)) (by
    show pu (gNe 8 (nI ω (.lst ((aj c (bJ c own)).map fun xs=>.lst (iv xs)))) (nI ω (.lst (aj c (.obj n))))) ω=_;have d2:nI ω (.lst ((aj c (bJ c own)).map fun xs=>.lst (iv xs)))=.lst (aj c (.lst (iv (bJ c own)))):=by
     show D.lst (((aj c (bJ c own)).map fun xs=>D.lst (iv xs)).map (fC ω))=_;rw[nu,nu];rfl
    have d3:nI ω (.lst (aj c (.obj n)))=.lst (aj c (.lst (iv (bJ c own)))):=by
     show D.lst ((aj c (D.obj n)).map (fC ω))=_;rw[nu,d1]
    rw[d2,d3];show pu ((eqD 8 (.lst (aj c (.lst (iv (bJ c own))))) (.lst (aj c (.lst (iv (bJ c own)))))).map fun k=>D.bl (!k)) ω=_;rw[kJ (Pl.lst (n:=7) (by simp;omega) fun d hd=>by
     rw[List.eq_of_mem_replicate hd];exact(Pl.lst (n:=0) (by unfold iv;rw[ao];omega) fun d hd=>by
      obtain⟨x,_,rfl⟩:=ax.mp hd;trivial).mono (by decide))]
    rfl))
   unfold oM;refine(skip (rW t1 t2)).trans ?_;rw[lN (rW (gT (k:=true) (tru_ok (aR (aA (aJ (aB (d:=Af c S) rfl) (aB (d:=.int s) rfl) xK) (aA (aB (d:=.int c) rfl) aD)) (EB (fun t ht=>by rw[List.eq_of_mem_replicate ht];exact fl) (by simp) ω)))) t3)];rfl
  rw[gQ];exact(dD rfl rfl b).trans e2
theorem Kn {S:Nat->Hd} (c0:0<c) (c8:c<=8) (I:HInv c own S) (ht:tot c own<64) (ω:Om):dN [BJ c S,.int c] ω=xw (.ok (.bl true),ω):=by
 have:=Qa (ts:=(bj c).map fun i=>(S i).ents) (c:=c) (fun t h d hd=>by
  obtain⟨i,hi,rfl⟩:=ax.mp h;exact((I i (ic.mp hi)).1.ok c0 c8 ht).entsEnt d hd) (by simp) ω
 rw[fm] at this;exact this
theorem Hk {S:Nat->Hd} (I:HInv c own S) (ω:Om):dE [BK c S,.int c] ω=xw (.ok (.bl true),ω):=by
 have:=EB (ts:=(bj c).map fun i=>(S i).seen i) (c:=c) (fun t ht=>by
  obtain⟨i,hi,rfl⟩:=ax.mp ht;exact(I i (ic.mp hi)).1.seenLen (ic.mp hi)) (by simp) ω
 rw[fm] at this;exact this
theorem Er {ns:List Int}{i j:Nat}{f:OG D}{l u:DO}{ρ:Rho}{ω:Om} (e:f ρ ω=xw (.ok (.scr (ns.map D.int)),ω)) (hl:l ρ=xw (xw (i:Int))) (hu:u ρ=xw (xw (j:Int))):∃ xs:List Int,oSl f l u ρ ω=xw (.ok (.lst (iv xs)),ω)/\xs.length<=j-i:=by
 have h1:DP (ns.map D.int) (xw (i:Int)) (xw (j:Int))=iv ((ns.drop (min i ns.length)).take (min j ns.length-min i ns.length)):=by
  unfold DP;rw[HT.sIx_nat,HT.sIx_nat,ao];unfold iv;rw[List.map_take,List.map_drop]
 refine⟨(ns.drop (min i ns.length)).take (min j ns.length-min i ns.length),?_,?_⟩
 ·unfold oSl;rw[bF e]
  show(l ρ).bind _=_
  rw[hl]
  show(u ρ).bind _=_
  rw[hu];show oR (pu (xw (D.lst (DP (ns.map D.int) (xw (i:Int)) (xw (j:Int))))) ω)=_;rw[h1];rfl
 ·rw[o5];omega
theorem MW {f g:OG D}{ρ:Rho}{ω:Om}{r:Option (Rz D×Om)} (e:f ρ ω=xw (.ok (.bl true),ω)) (e2:g ρ ω=r):vF f g ρ ω=r:=by
 unfold vF;rw[bF e];exact e2
theorem law_true (ns:List Int) (hns:ns.length<=63):∃ ω',p_law [.scr (ns.map D.int)] []=xw (.ok (.bl true),ω'):=by
 obtain⟨x0,e0⟩:=PY ns 0 [];have r8:=Fl (x:=x0*48271 % 1069) (q:=8) (by decide);obtain⟨c,hc,c0,c8⟩:∃ c:Nat,([1,2,3,4,5,2,3,8]:List Int).getD (x0*48271 % 1069 % 8).toNat 0=(c:Int)/\0<c/\c<=8:=by
  generalize x0*48271 % 1069 % 8=r at r8
  have hr:r=0∨r=1∨r=2∨r=3∨r=4∨r=5∨r=6∨r=7:=by omega
  rcases hr with rfl|rfl|rfl|rfl|rfl|rfl|rfl|rfl
  ·exact⟨1,rfl,by decide,by decide⟩
  ·exact⟨2,rfl,by decide,by decide⟩
  ·exact⟨3,rfl,by decide,by decide⟩
  ·exact⟨4,rfl,by decide,by decide⟩
  ·exact⟨5,rfl,by decide,by decide⟩
  ·exact⟨2,rfl,by decide,by decide⟩
  ·exact⟨3,rfl,by decide,by decide⟩
  ·exact⟨8,rfl,by decide,by decide⟩
 obtain⟨xs,es,hxs⟩:=Er (f:=zV 0) (ρ:=[xw (.scr (ns.map D.int)),xw (.int c),xx,xx,xx,xx,xx,xx,xx,xx,xx,xx,xx,xx]) (ω:=[]) (ns:=ns) (i:=1) (j:=25) (l:=dSo (dC (.int 1))) (u:=dSo (dC (.int 25))) (aB rfl) rfl rfl;obtain⟨ds,hds,ed⟩:=Ji (xs:=xs) c0 c8 (by omega) [];obtain⟨ω1,hω1⟩:∃ ω1:Om,ω1=[]++[Ob.ml (ds.map Deed.d)]:=⟨_,rfl⟩;rw[<- hω1] at ed;have g1:ω1[0]?=xw (.ml (ds.map Deed.d)):=by rw[hω1];rfl
 have sl:=xF c;obtain⟨lg,hlg⟩:∃ lg,lg=ds++gP c++gP c:=⟨_,rfl⟩;have ll:lg.length<64:=by rw[hlg,bw,bw,sl];omega
 obtain⟨ω5,h,dd,oo,kk,ks,en,L5⟩:=Dl c0 c8 ω1;obtain⟨ω6,ks6,rs,kn,own,e6,L6,I6,Q6,t6,N6⟩:=Cu c0 c8 ds L5 (Qe c) (SS c) (by rw[Qr];omega) fun t=>rfl;have I0:HInv c own (iX c ds):=I6;have Q0:Rel c own (iX c ds) rs kn:=Q6;obtain⟨kn3,I3,Q3,f3⟩:=Em I0 Q0 c0 c8 t6;rw[<- Ct] at I3 Q3;obtain⟨kn4,I4,Q4,f4⟩:=CT I3 Q3 c0 c8 t6 f3;rw[<- Ct,<- hlg] at I4 Q4;have rl:=oE Q0.recs;obtain⟨out,hs,_⟩:=tF Q0.recs t6 (bJ c own);have o4:∀ i,i<c->(iX c lg i).ents=out:=fun i hi=>by
  have:=yT ((I4 i hi).1.ok c0 c8 t6) Q4.recs t6 (Q4.tab i hi)
  rw[f4 i i hi hi,hs] at this;exact(ca this).symm
 have s4:∀ i,i<c->(iX c lg i).seen i=bJ c own:=fun i hi=>(Q4.seen hi).trans (f4 i i hi hi);have k4:∀ i,i<c->(iX c lg i).knows=aj c (bJ c own):=fun i hi=>by
  rw[Q4.knows i hi];apply ii;intro j;rw[dc,aw]
  by_cases hj:j<c
  ·rw[if_pos hj,c7 hj];exact congrArg xw (f4 i j hi hj)
  ·rw[if_neg hj,cm (by simp;omega)];rfl
 have m4:Kx c (iX c lg)=.lst (aj c (.lst [])):=by
  unfold Kx
  congr 1
  apply ii;intro j;rw[dc,aw]
  by_cases hj:j<c
  ·rw[if_pos hj,c7 hj];show xw (D.lst (iX c lg j).mind)=_;have e:(iX c lg j).kept=[]:=Fe Q4 f4 hj;unfold Hd.mind Hd.mindK;rw[e];rfl
  ·rw[if_neg hj,cm (by simp;omega)];rfl
 have O:=(I4 0 c0).1.ok c0 c8 t6;have hP:Pl 8 (.lst out):=by
  rw[<- o4 0 c0];exact(Pl.lst (n:=2) (io (b9 O.entsLen (by decide))) fun d hd=>Pl.ent (O.entsEnt d hd)).mono (by decide)
 have cn:nJ c rs=bJ c own:=by
  unfold nJ bJ;apply fg;intro t _;rw[N6 t]
 have cn0:iv (aj c 0)=iv (nJ c []):=by
  unfold nJ
  congr 1
  apply ii;intro j;rw[dc,aw]
  by_cases hj:j<c
  ·rw[if_pos hj,c7 hj];rfl
  ·rw[if_neg hj,cm (by simp;omega)];rfl
 obtain⟨u5,e6'⟩:=e6 (aW 5) (iZ 0 (ds.map Deed.d)) vN (fun u=>wR (.scr (ns.map D.int)) c (.lst (lg.map Deed.d)) h u xx xx xx xx xx xx xx xx) (fun ω hb hk=>kZ (by rw[hk 0 (dH g1)];exact g1)) (fun d u=>rfl) (fun d ω ω' ans e=>by
  unfold vN bT;rw[bV (aR (aA (aB (d:=.obj h) rfl) (aA (aB (d:=d.d) rfl) aD)) e)]) xx
 obtain⟨w7,e7⟩:=xI (sc:=.scr (ns.map D.int)) (lg:=.lst (lg.map Deed.d)) (v5:=u5) (v8:=xx) (v9:=xx) (v10:=xx) (v11:=xx) (v12:=xx) (v13:=xx) L6 rs [] (v7:=xx) L6.ra;obtain⟨ω7,hω7⟩:∃ ω7:Om,ω7=ω6++[.ml (iv (nJ c rs))]:=⟨_,rfl⟩;rw[wx,<- hω7] at e7;have L7:LawAt ω1 ω7 c h dd oo kk ks6 rs kn:=by rw[hω7];exact L6.app c0 _
 have g7:ω7[ω6.length]?=xw (.ml (iv (bJ c own))):=by rw[hω7,<- cn];simp
 obtain⟨ω8,ea,K8,_⟩:=zO c0 c8 (ds:=lg) ll (ω:=ω7) (d:=.lst (lg.map Deed.d)) rfl;have L8:LawAt ω1 ω8 c h dd oo kk ks6 rs kn:=L7.mono c0 K8.1 fun n hn=>K8.2 n hn (by simp);have g8:ω8[ω6.length]?=xw (.ml (iv (bJ c own))):=by rw[K8.2 _ (dH g7) (by simp)];exact g7
 have rv:RowV ω8 (.obj ω6.length) (bJ c own):=by unfold RowV fG;simp only[g8]
 have pr:=tE L8 c0 Q0.recs rv (by unfold bJ;simp) (by omega) hs;obtain⟨ω9,hω9⟩:∃ ω9:Om,ω9=ω8++[.ml (bC rs (bJ c own))]:=⟨_,rfl⟩;rw[<- hω9] at pr;have g9:ω9[ω6.length]?=xw (.ml (iv (bJ c own))):=by rw[hω9,am (dH g8)];exact g8
 obtain⟨w13,e13⟩:=JY (sc:=.scr (ns.map D.int)) (lg:=.lst (lg.map Deed.d)) (h:=h) (v5:=u5) (v7:=w7) (v11:=xw (Kx c (iX c lg))) c0 c8 I4 hP s4 o4 k4 g9 c 0 (v13:=xx) (by omega);refine⟨ω9,aT rfl ?_⟩;unfold Pu;refine(aK (d:=.int c) (ω1:=[]) (by
  rw[<- hc];exact Fx (xs:=[1,2,3,4,5,2,3,8]) rfl (qG (a:=x0) (aR (aA (aB (d:=.scr (ns.map D.int)) rfl) (aA aU aD)) e0) aU (by decide) (by decide)) r8.1 r8.2)).trans ?_
 refine(aK (aR (aA es (aA (aB (d:=.int c) rfl) aD)) ed)).trans ?_;refine(aK (d:=.lst (lg.map Deed.d)) (ω1:=ω1) (by
  rw[hlg,cf,cf];exact GD (a:=.lst (ds.map Deed.d++(gP c).map Deed.d)) (ω1:=ω1) (GD (a:=.obj 0) (ω1:=ω1) (aB rfl) (aR (aA (aB (d:=.int c) rfl) aD) (BE c0 c8 ω1)) (by unfold fG;simp only[g1]) rfl (by rw[ao,ao,sl];omega)) (aR (aA (aB (d:=.int c) rfl) aD) (BE c0 c8 ω1)) rfl rfl (by rw[bw,ao,ao,sl];omega))).trans ?_
 refine(aK (aR (aA (aB (d:=.int c) rfl) aD) en)).trans ?_;refine(bA (eY (by
  unfold bI oIL;rw[bV (x:=(ds.map Deed.d,iZ 0 (ds.map Deed.d))) (ω1:=ω5) (by
   rw[bF (aB (d:=.obj 0) rfl)];have g5:ω5[0]?=xw (.ml (ds.map Deed.d)):=by rw[L5.bas.2 0 (dH g1)];exact g1
   have:mG ω5 (.obj 0)=xw (ds.map Deed.d,iZ 0 (ds.map Deed.d)):=by simp only[mG,g5]
   show oR (pu (mG ω5 (.obj 0)) ω5)=_;rw[this];rfl)]
  exact e6'))).trans ?_
 refine(aK (d:=.obj ω6.length) (ω1:=ω6++[.ml (iv (nJ c []))]) (by
  rw[<- cn0];refine dO (ω1:=ω6) (ω2:=ω6) (a:=.lst [.int 0]) (b:=.int c) (cO (aA aU aD) ?_) (aB rfl) ?_
  ·show pu (DD [.int 0]) ω6=_;unfold DD;rw[if_pos (by rw[bt];simp)];rfl
  ·show(if -1000000<=(c:Int)/\(c:Int)<=1000000/\1*(c:Int).toNat<=sizeLine then xw (D.obj ω6.length,ω6++[.ml (aj (c:Int).toNat [D.int 0]).flatten]) else xx)=_
   rw[if_pos ⟨by omega,by omega,by rw[bt];omega⟩,cw,vV])).trans ?_
 have L6':=L6.app c0 [.ml (iv (nJ c []))];refine(bA (eY (by
  unfold bI oIL;rw[bV (x:=(rs.map Rec.mark,iZ oo (rs.map Rec.mark))) (ω1:=ω6++[.ml (iv (nJ c []))]) (by
   rw[bF (L6'.gOrder (aB (d:=.obj h) rfl))]
   have:mG (ω6++[.ml (iv (nJ c []))]) (.obj oo)=xw (rs.map Rec.mark,iZ oo (rs.map Rec.mark)):=by simp only[mG,L6'.order]
   show oR (pu (mG _ (.obj oo)) _)=_;rw[this];rfl)]
  exact e7))).trans ?_
 refine(bA (ρ1:=wR (.scr (ns.map D.int)) c (.lst (lg.map Deed.d)) h u5 (xw (.obj ω6.length)) w7 (xw (BJ c (iX c lg))) (xw (BK c (iX c lg))) (xw (Af c (iX c lg))) (xw (Kx c (iX c lg))) xx xx) (ω1:=ω8) (by
  unfold CW;rw[bV (aR (aA (aB (d:=.int c) rfl) (aA (aB (d:=.lst (lg.map Deed.d)) rfl) aD)) ea)];rfl)).trans ?_
 refine(skip (rW (gT (k:=true) (tru_ok (aR (aA (aB (d:=BK c (iX c lg)) rfl) (aA (aB (d:=.int c) rfl) aD)) (Hk I4 ω8)))) (gT (k:=true) (tru_ok (aR (aA (aB (d:=BJ c (iX c lg)) rfl) (aA (aB (d:=.int c) rfl) aD)) (Kn c0 c8 I4 t6 ω8)))))).trans ?_;refine(skip (rW (gT (k:=true) (tru_ok (fA (aB (d:=Af c (iX c lg)) rfl) rfl))) (tK (a:=(c:Int)) (b:=(c:Int)) (cO (aA (aB (d:=Af c (iX c lg)) rfl) aD) (by
  show xw (D.int (((bj c).map fun i=>D.lst ((iX c lg i).knows.map fun xs=>.lst (iv xs))).length:Nat),ω8)=_;rw[ao,fk])) (aB rfl) rfl))).trans ?_
 refine(aK (aR (aA (aB (d:=.obj h) rfl) (aA (aB (d:=.obj ω6.length) rfl) aD)) pr)).trans ?_;refine(bA (eY (by
  unfold bI;rw[bV (jE (c:=c) (aB rfl) (by omega))];exact e13))).trans ?_
 refine bD ?_;refine MW (fA (aB (d:=Kx c (iX c lg)) rfl) rfl) ?_;rw[m4];refine aR (aA (aB (d:=.lst (aj c (.lst []))) rfl) (aA (a:=.lst (aj c (.lst []))) (ω1:=ω9) ?_ aD)) (JF (by simp;omega) fun d hd=>by
  rw[List.eq_of_mem_replicate hd];exact JF (by simp) fun d hd=>(nomatch hd))
 refine eM (ds:=kB 0 c) (chk:=bO) (ω1:=ω9) (jE (c:=c) (aB rfl) (by omega)) (by unfold kB;rw[ao,fk,bt];omega) ?_;have e:aj c (D.lst [])=(kB 0 c).map fun _=>D.lst []:=by
  unfold kB;rw[fm];simp[Function.comp_def,List.map_const']
 rw[e];refine gG (fun ρ=>∃ u,ρ=[u]) rfl ⟨_,rfl⟩ fun d hd ρ hρ=> ?_;obtain⟨u,rfl⟩:=hρ;exact⟨_,rfl,⟨_,rfl⟩,rfl⟩
noncomputable def top (i:Nat):cz:=PySem.Challenge.pw_meetbook_k07_whole_all_forgotten_at_last.main.body.getD i (.Pass ⟨0,0,0,0⟩)
noncomputable abbrev lfs:List (Str×Str×cz):=[("has_seen","",top 5),("joined","",top 6),("common","",top 7),("newer","",top 8),("left_by","",top 10),("done","",top 15),("answer_to","",top 16),("after","",top 17),("_law_so","",top 19),("_law_whole","",top 20),("_law_at","",top 21),("_law_all_after","",top 22),("_law_odd","",top 23),("_law_word","",top 24),("_law_deed_of","",top 25),("_law_drawn","",top 26),("_law_new","",top 27),("_law_present","",top 28),("_law_noted","",top 29),("_law_gets_told","",top 30),("_law_due_answer","",top 31),("_law_are_tables","",top 32),("_law_are_rows","",top 33),("_law_sweep","",top 34)]
noncomputable abbrev Sb:List (Str×Str×cz):=[("seen","Hand.seen",cA (top 11) 1),("entries","Hand.entries",cA (top 11) 2),("known","Hand.known",cA (top 11) 3),("in_mind","Hand.in_mind",cA (top 11) 4),("new_mark","Hand.new_mark",cA (top 11) 9),("put","Hand.put",cA (top 11) 5),("forget","Hand.forget",cA (top 11) 12),("take_out","Hand.take_out",cA (top 11) 11),("marks_of","Hand.marks_of",cA (top 11) 10),("change","Hand.change",cA (top 11) 6),("take","Hand.take",cA (top 11) 7),("hear","Hand.hear",cA (top 11) 8)]
noncomputable abbrev Sa:List (Str×Str×cz):=[("hand","Hall.hand",cA (top 13) 1),("pair","Hall.pair",cA (top 13) 2),("put","Hall.put",cA (top 13) 3),("change","Hall.change",cA (top 13) 4),("take","Hall.take",cA (top 13) 5),("tell","Hall.tell",cA (top 13) 6),("meet","Hall.meet",cA (top 13) 7)]
structure Txt (K:aa) (mg:Str->Option ag) (cls exC:Nat->af):Prop where
 bn:Bn mg
 dict:mg "dict"=xx
 c0:Cls K (cls 0)
 m0:mg "Hand"=xw (.ref (cls 0))
 c1:Cls K (cls 1)
 m1:mg "Hall"=xw (.ref (cls 1))
 a0_kept:NoAttr K (cls 0) "kept"
 a0_knows:NoAttr K (cls 0) "knows"
 a0_number:NoAttr K (cls 0) "number"
 a0_table:NoAttr K (cls 0) "table"
 a1_hands:NoAttr K (cls 1) "hands"
 x0:mg "NoHand"=xw (.ref (exC 0))
 x1:mg "SameHand"=xw (.ref (exC 1))
 exs:∃ tl1 tl2,ownIn K (exC 0) tl1/\ownIn K (exC 1) tl2/\(cq (exC 1)::tl2).contains (.ref (exC 0))=false
 fn:AllP (fun x _ s=>FF K mg x s) lfs
 mt0:AllP (FM K (cls 0)) Sb
 in0:FI K (cls 0) "__init__" "Hand.__init__" (cA (top 11) 0)
 mt1:AllP (FM K (cls 1)) Sa
 in1:FI K (cls 1) "__init__" "Hall.__init__" (cA (top 13) 0)
local macro_rules
 | `(tactic|apply_rules [$ts,*])=>do
 let [hu,hu1,hu6,hr,hE,hR,T]:=[`hu,`hu1,`hu6,`hr,`hE,`hR,`T].map Lean.mkIdent|qg
 let R <- `(tactic|apply_rules [$ts,*])
 let hm <- `(by first|exact $hr|exact($hr).mono (by decide))
 let hp <- `(by first|exact QS|exact($hE).pas)
 let cs <- ts.getElems.mapM fun u=>let t:Lean.TSyntax `term:=⟨u.raw[0]⟩;`(tactic|first|(refine HU $t $hm $hp ?_) <;> $R|(refine LC $t $hm $hp ?_ ?_) <;> $R|(refine HW $t $hm ?_ $hp ?_) <;> $R|(refine LF $t $hm ?_ $hp ?_) <;> $R)
 `(tactic|first
  |(with_reducible apply EZ);first|with_reducible exact Cy|with_reducible exact Cw|with_reducible exact PQ|with_reducible exact Rx|with_reducible exact Kg Cy|exact dvk (by kernel_rfl)
  |with_reducible exact Pc
  |with_reducible exact MK
  |with_reducible exact Ly
  |with_reducible exact HQ
  |with_reducible exact Os
  |with_reducible exact Ld
  |with_reducible exact Rv
  |with_reducible exact Ru
  |(with_reducible apply LN) <;> $R
  |(with_reducible apply Re) <;> $R
  |(with_reducible apply LI) <;> $R
  |(with_reducible apply OX) <;> $R
  |(with_reducible apply Pb) <;> $R
  |(with_reducible apply OM) <;> $R
  |(with_reducible apply OP) <;> $R
  |(with_reducible apply OQ) <;> $R
  |(with_reducible apply LM) <;> $R
  |(with_reducible apply Lz) <;> $R
  |(with_reducible apply Lu) <;> $R
  |(with_reducible apply Lv) <;> $R
  |(with_reducible apply LK) <;> $R
  |(with_reducible apply OZ) <;> $R
  |(with_reducible apply Rc) <;> $R
  |(with_reducible apply Rf) <;> $R
  |(with_reducible apply OV) <;> $R
  |(with_reducible apply QU) <;> $R
  |(with_reducible apply QV) <;> $R
  |(with_reducible apply QX) <;> $R
  |(with_reducible apply QY) <;> $R
  |(with_reducible apply Ol) <;> $R
  |(with_reducible apply KZ) <;> $R
  |(with_reducible apply OY) <;> $R
  |(with_reducible apply On) <;> $R
  |(with_reducible apply Oh) <;> $R
  |(with_reducible apply Og) <;> $R
  |(with_reducible apply QW) <;> $R
  |(with_reducible apply HK) <;> $R
  |(with_reducible apply Oo) <;> $R
  |(with_reducible apply La) <;> $R
  |(with_reducible apply OO) <;> $R
  |(with_reducible apply Pa) <;> $R
  |(with_reducible apply ON) <;> $R
  |(with_reducible apply HR) <;> $R
  |(with_reducible apply LA) <;> $R
  |(with_reducible apply OU) <;> $R
  |(with_reducible apply OL) <;> $R
  |(with_reducible apply Fa) <;> $R
  |(with_reducible apply Lx) <;> $R
  |(with_reducible apply Lr) <;> $R
  |(with_reducible apply EX) <;> $R
  |(with_reducible apply EW) <;> $R
  |(with_reducible apply OH) <;> $R
  |(with_reducible apply OJ) <;> $R
  |(with_reducible apply Lp) <;> $R
  |(with_reducible apply HP) <;> $R
  |(with_reducible apply Od) <;> $R
  |(with_reducible apply KY) <;> $R
  |(with_reducible apply QT) <;> $R
  |(with_reducible apply Oc) <;> $R
  |(with_reducible apply Of) <;> $R
  |(with_reducible apply Oe) <;> $R
  |(with_reducible apply SA) <;> $R
  |(with_reducible apply Lh) <;> $R
  |(with_reducible apply Oq) <;> $R
  |(with_reducible apply Op) <;> $R
  |(with_reducible apply QZ) <;> $R
  |(with_reducible apply Lf) <;> $R
  |(with_reducible apply Ou) <;> $R
  |(with_reducible apply Lg) <;> $R
  |(with_reducible apply Lc) <;> $R
  |(with_reducible apply Ot) <;> $R
  |(with_reducible apply Le) <;> $R
  |(with_reducible apply Lj) <;> $R
  |(with_reducible apply MJ) <;> $R
  |(with_reducible show OE _ _ _ _ (oL (lfL IJ) _));(refine iF (GI rfl) (FitL.lift IU) ?_ ($T).bn.min boot.min ?_) <;> $R
  |(with_reducible show OE _ _ _ _ (oL (lfL yO) _));(refine iF (GJ rfl) (FitL.lift IV) ?_ ($T).bn.max boot.max ?_) <;> $R
  |(with_reducible show OE _ _ _ _ (oL AC _));(refine iF (zE rfl) IP ?_ ($T).bn.sum boot.sum ?_) <;> $R
  |(with_reducible show OE _ _ _ _ (oL (lfL Qj) _));(refine iF (zE rfl) (FitL.lift Mz) ?_ ($T).bn.sum boot.sum ?_) <;> $R
  |(with_reducible show OE _ _ _ _ (oL (IF _) _));(refine iF (GG $hu6) IQ ?_ ($T).bn.sorted boot.sorted ?_) <;> $R
  |(with_reducible show OE _ _ _ _ (oL (FX _) _));(refine iF (GH rfl $hu6) IR ?_ ($T).bn.sorted boot.sorted ?_) <;> $R
  |(with_reducible show OE _ _ _ _ (oL gC _));(refine iF Jt IW ?_ ($T).bn.len boot.len ?_) <;> $R
  |(with_reducible show OE _ _ _ _ (oL (lfL Qm) _));(refine lS GM (FitL.lift MF) ?_ ($T).bn.int boot.int ?_) <;> $R
  |(with_reducible show OE _ _ _ _ (oL uA _));(refine lS nL Gg ?_ ($T).bn.list boot.list ?_) <;> $R
  |(with_reducible show OE _ _ _ _ (oL iV _));(refine lS nL Gf ?_ ($T).bn.list boot.list ?_) <;> $R
  |(with_reducible show OE _ _ _ _ (oL FV _));(refine lS wD IN ?_ ($T).bn.tuple boot.tuple ?_) <;> $R
  |(with_reducible show OE _ _ _ _ (HX _ _));(refine Ls $hu6 rfl ?_ ($T).bn.sorted ?_) <;> $R
  |(with_reducible show OE _ _ _ _ (iT "str" _));(refine tH ?_ ?_ ($T).bn.isinstance ?_ ($T).bn.str boot.str) <;> $R
  |(with_reducible show OE _ _ _ _ (iT "int" _));(refine tH ?_ ?_ ($T).bn.isinstance ?_ ($T).bn.int boot.int) <;> $R
  |(with_reducible show OE _ _ _ _ (iT "bool" _));(refine tH ?_ ?_ ($T).bn.isinstance ?_ ($T).bn.bool boot.bool) <;> $R
  |(with_reducible show OE _ _ _ _ (iT "list" _));(refine tH ?_ ?_ ($T).bn.isinstance ?_ ($T).bn.list boot.list) <;> $R
  |(with_reducible show OE _ _ _ _ (iT "tuple" _));(refine tH ?_ ?_ ($T).bn.isinstance ?_ ($T).bn.tuple boot.tuple) <;> $R
  |(with_reducible show OE _ _ _ _ (iT "dict" _));(refine tH ?_ ?_ ($T).bn.isinstance ?_ ($T).dict boot.dict) <;> $R
  |(with_reducible show OE _ _ _ _ (HY _));(refine LG ?_ ?_ ($T).bn.isinstance ?_ ($T).bn.list ?_ ($T).bn.tuple) <;> $R
  |(with_reducible show OE _ _ _ _ (cP _ _ _ _ _ _));(refine HV ?_ rfl rfl (by kernel_rfl) ?_ (fun _ _ _ _ _ _=>⟨?_,?_,?_⟩)) <;> $R
  |(with_reducible show OE _ _ _ _ (Dd _));(refine LH ?_ rfl rfl (by simp) (by decide)) <;> $R
  |(with_reducible show PPs _ _ (_::_) _ _);(refine HC (EZ Cw) ?_ ?_) <;> $R
  |(with_reducible show PPs _ _ [] _ _);(refine KI) <;> $R
  |(with_reducible show OSt _ _ _ _ (xL _ _ _ _ _));(obtain⟨_,_,o0,o1,hne⟩:=($T).exs;refine Lb ($hE).ex rfl rfl ⟨_,rfl⟩ ?_ ?_ ($T).x0 ($T).x1 o0 o1 hne (fun _ _ _ $hE=> ?_) (fun _=> ?_) (fun _=> ?_)) <;> $R
  |with_reducible exact Cy
  |with_reducible exact Kg Cy
  |(with_reducible show DE _ (.Name _ _) _);exact dvk (by kernel_rfl)
  |(with_reducible show PG _ (.Name _ _) _);exact SH (by kernel_rfl)
  |(with_reducible show PG _ (.Tuple [_,_] _ _) _);exact SG rfl (by kernel_rfl) (by kernel_rfl)
  |(with_reducible show PG _ (.Tuple [_,_,_,_] _ _) _);exact SF rfl (by kernel_rfl) (by kernel_rfl) (by kernel_rfl) (by kernel_rfl)
  |(with_reducible show Gl _ _);unfold Gl;kernel_rfl
  |(with_reducible show OSt _ _ _ _ (aY _ _));(refine SO (by kernel_rfl) ?_) <;> $R
  |(with_reducible show OSt _ _ _ _ (aY _ _));(refine HL ?_ (by kernel_rfl) rfl rfl (by kernel_rfl) ?_ (fun _ _ _ _ _ _=>⟨?_,?_,?_⟩)) <;> $R
  |(with_reducible show OSt _ _ _ _ (BI _ _));obtain⟨_,_,o0,o1,hne⟩:=($T).exs;first|exact BP rfl $hR (by rfl) ($T).x0 o0 Cw|exact BP rfl $hR (by rfl) ($T).x1 o1 Cw
  |exact rfl
  |(intro _;exact rfl)
  |(intro _ _;exact rfl)
  |exact($T).bn.range
  |exact($T).bn.zip
  |exact($T).c0
  |exact($T).c1
  |exact($T).a0_kept
  |exact($T).a0_knows
  |exact($T).a0_number
  |exact($T).a0_table
  |exact($T).a1_hands
  |exact $hu
  |exact $hu1
  |exact $hu6
  |with_unfolding_all rfl
  |decide
  $[| $cs:tactic]*)
local macro_rules
 | `(tactic|solve_by_elim [$ts,*])=>do
 let [hu,hu1,hu6,hr,hE,hR]:=[`hu,`hu1,`hu6,`hr,`hE,`hR].map Lean.mkIdent|qg
 `(tactic|(intro _ _ _ _ _ _ _ $hr $hu $hu1 $hu6 $hE $hR;conv=>(arg 4;whnf));apply_rules [$ts,*])
section
seal PE PT PA PS PSs PI PG PW MZ PO PPs
variable {P:di}{w:du}{K:aa}{mg:Str->Option ag}{base:c9}{cls exC:Nat->af} (T:Txt K mg cls exC)
include T
theorem uF:nM P w K mg base cls exC 1 "has_seen" DV fL:=dfD (T.fn.get 0 rfl) (by solve_by_elim [])
theorem Jq:nM P w K mg base cls exC 1 "joined" JB iD:=dfD (T.fn.get 1 rfl) (by solve_by_elim [])
theorem Jr:nM P w K mg base cls exC 1 "common" JC oH:=dfD (T.fn.get 2 rfl) (by solve_by_elim [])
theorem MM:nM P w K mg base cls exC 1 "newer" MX Aj:=dfD (T.fn.get 3 rfl) (by solve_by_elim [])
theorem iM:rT P w K mg base cls exC 1 0 "seen" Be bW:=dfM (T.mt0.get 0 rfl) T.c0 (by solve_by_elim [])
theorem Gu:nM P w K mg base cls exC 2 "left_by" GQ lR:=dfD (T.fn.get 4 rfl) (by solve_by_elim [iM T,uF T])
theorem vY:Qo P w K mg base cls exC 1 0 "Hand" wI dU:=dfI T.in0 T.m0 (by solve_by_elim [])
theorem gN:rT P w K mg base cls exC 1 0 "entries" sH bU:=dfM (T.mt0.get 1 rfl) T.c0 (by solve_by_elim [])
theorem yX:rT P w K mg base cls exC 1 0 "known" zP gF:=dfM (T.mt0.get 2 rfl) T.c0 (by solve_by_elim [])
theorem sE:rT P w K mg base cls exC 1 0 "in_mind" sG eQ:=dfM (T.mt0.get 3 rfl) T.c0 (by solve_by_elim [])
theorem jS:rT P w K mg base cls exC 2 0 "new_mark" rH cY:=dfM (T.mt0.get 4 rfl) T.c0 (by solve_by_elim [iM T])
theorem uG:rT P w K mg base cls exC 3 0 "put" DW eL:=dfM (T.mt0.get 5 rfl) T.c0 (by solve_by_elim [jS T])
theorem mJ:rT P w K mg base cls exC 2 0 "forget" wJ fI:=dfM (T.mt0.get 6 rfl) T.c0 (by solve_by_elim [uF T,Jr T])
theorem jR:rT P w K mg base cls exC 3 0 "take_out" rG cX:=dfM (T.mt0.get 7 rfl) T.c0 (by solve_by_elim [mJ T])
theorem jT:rT P w K mg base cls exC 2 0 "marks_of" rJ cZ:=dfM (T.mt0.get 8 rfl) T.c0 (by solve_by_elim [gN T])
theorem vZ:rT P w K mg base cls exC 4 0 "change" wK dW:=dfM (T.mt0.get 9 rfl) T.c0 (by solve_by_elim [jR T,uG T,jT T])
theorem AO:rT P w K mg base cls exC 4 0 "take" Bd fP:=dfM (T.mt0.get 10 rfl) T.c0 (by solve_by_elim [jR T,jS T,jT T])
theorem qS:rT P w K mg base cls exC 3 0 "hear" Bf cL:=dfM (T.mt0.get 11 rfl) T.c0 (by solve_by_elim [mJ T,Jq T,gN T,Gu T,iM T,MM T])
theorem wA:Qo P w K mg base cls exC 3 1 "Hall" wL iE:=dfI T.in1 T.m1 (by solve_by_elim [vY T])
theorem iN:rT P w K mg base cls exC 1 1 "hand" Bk bN:=dfM (T.mt1.get 0 rfl) T.c1 (by solve_by_elim [])
theorem qT:rT P w K mg base cls exC 2 1 "pair" Bi bX:=dfM (T.mt1.get 1 rfl) T.c1 (by solve_by_elim [iN T])
theorem DM:rT P w K mg base cls exC 4 1 "put" DX gS:=dfM (T.mt1.get 2 rfl) T.c1 (by solve_by_elim [iN T,uG T])
theorem wB:rT P w K mg base cls exC 5 1 "change" wM dX:=dfM (T.mt1.get 3 rfl) T.c1 (by solve_by_elim [iN T,vZ T])
theorem AR:rT P w K mg base cls exC 5 1 "take" Bh fR:=dfM (T.mt1.get 4 rfl) T.c1 (by solve_by_elim [iN T,AO T])
theorem AQ:rT P w K mg base cls exC 4 1 "tell" Bg fQ:=dfM (T.mt1.get 5 rfl) T.c1 (by solve_by_elim [qS T,qT T])
theorem AS:rT P w K mg base cls exC 4 1 "meet" Bj fS:=dfM (T.mt1.get 6 rfl) T.c1 (by solve_by_elim [qS T,qT T])
theorem PX:nM P w K mg base cls exC 6 "done" Qc kN:=dfD (T.fn.get 5 rfl) (by solve_by_elim [AS T,AQ T,AR T,wB T,DM T])
theorem AN:nM P w K mg base cls exC 7 "answer_to" Bc eK:=dfD (T.fn.get 6 rfl) (by solve_by_elim [PX T])
theorem MN:nM P w K mg base cls exC 8 "after" MY Ak:=dfD (T.fn.get 7 rfl) (by solve_by_elim [sE T,yX T,iM T,gN T,AN T,wA T])
theorem Cz:∀ n:Nat,nM P w K mg base cls exC n "_law_so" CI (kF n)
 |0=>match (T.fn.get 8 rfl) with|⟨f,fd,F⟩=>⟨f,fd,⟨(fun _ _ _ _ ⟨_,_,_,_,_,_,_,_,z,_⟩=>nomatch z),(fun _ _ _ _ _ _ _ _ _ _ _ _ _ ⟨_,_,_,_,_,_,_,_,z,_⟩=>nomatch z)⟩,F.at_,F.fn.kp,Bnd.out (show Bnd _ _ _ CI from fun _ _ _ _ _ _ _ _=>rfl) F.fn⟩
 |n+1=>dfD (T.fn.get 8 rfl) (k:=n) (N:=CJ) (by have D:=Cz n;solve_by_elim [D])
theorem qP:nM P w K mg base cls exC 1 "_law_whole" AY fN:=dfD (T.fn.get 9 rfl) (by solve_by_elim [])
theorem Jp:nM P w K mg base cls exC 1 "_law_at" JA vB:=dfD (T.fn.get 10 rfl) (by solve_by_elim [])
theorem qR:nM P w K mg base cls exC 9 "_law_all_after" rF fO:=dfD (T.fn.get 11 rfl) (by solve_by_elim [MN T])
theorem Gv:nM P w K mg base cls exC 1 "_law_odd" GR eZ:=dfD (T.fn.get 12 rfl) (by solve_by_elim [])
theorem DK:nM P w K mg base cls exC 1 "_law_word" DU kE:=dfD (T.fn.get 13 rfl) (by solve_by_elim [])
theorem vX:nM P w K mg base cls exC 2 "_law_deed_of" wH iC:=dfD (T.fn.get 14 rfl) (by solve_by_elim [Gv T,DK T])
theorem AM:nM P w K mg base cls exC 3 "_law_drawn" Bb kX:=dfD (T.fn.get 15 rfl) (by solve_by_elim [vX T])
theorem Gw:nM P w K mg base cls exC 1 "_law_new" GS pM:=dfD (T.fn.get 16 rfl) (by solve_by_elim [])
theorem mI:nM P w K mg base cls exC 1 "_law_present" wG fH:=dfD (T.fn.get 17 rfl) (by solve_by_elim [])
theorem AL:nM P w K mg base cls exC 1 "_law_noted" Ba cV:=dfD (T.fn.get 18 rfl) (by solve_by_elim [])
theorem qQ:nM P w K mg base cls exC 1 "_law_gets_told" rE cW:=dfD (T.fn.get 19 rfl) (by solve_by_elim [])
theorem nS:nM P w K mg base cls exC 2 "_law_due_answer" nV cD:=dfD (T.fn.get 20 rfl) (by solve_by_elim [qQ T,AL T,mI T])
theorem nU:nM P w K mg base cls exC 2 "_law_are_tables" nW dN:=dfD (T.fn.get 21 rfl) (by solve_by_elim [qP T])
theorem sD:nM P w K mg base cls exC 2 "_law_are_rows" sF dE:=dfD (T.fn.get 22 rfl) (by solve_by_elim [qP T])
theorem AK:nM P w K mg base cls exC 1 "_law_sweep" AZ iB:=dfD (T.fn.get 23 rfl) (by solve_by_elim [])
theorem Ry {f:af}{fd:jy} (F:Qp K mg "law" (top 35) f fd):sN P w K mg base (CX1 P w exC) 10 f fd RE (spO cls exC K p_law):=CC F.fn (by constructor <;> first|rfl|decide+kernel) (by solve_by_elim [Cz T 8,sD T,mI T,nU T,qR T,nS T,Gw T,AK T,AM T,Jp T])
end
abbrev cs:List Str:=["Hand","Hall"]
abbrev xs:List Str:=["NoHand","SameHand"]
theorem all_mk {P:di}{w:du}{K:aa}{h:c9}{mg:Str->Option ag}{fa C0 C1 E0 E1:af}{tl0 tl1:List ag} (X:K.In h) (G:h.Ns cg mg) (hfa:mg "law"=xw (.ref fa))
  (T:Bn mg)
  (hdict:cx K cg "dict"=xw xx)
  (n0:clsIn K "Hand" C0) (c0:Cls K C0) (mk0:mkIn K C0)
  (a0_kept:NoAttr K C0 "kept")
  (a0_knows:NoAttr K C0 "knows")
  (a0_number:NoAttr K C0 "number")
  (a0_table:NoAttr K C0 "table")
  (n1:clsIn K "Hall" C1) (c1:Cls K C1) (mk1:mkIn K C1)
  (a1_hands:NoAttr K C1 "hands")
  (e0:clsIn K "NoHand" E0) (o0:ownIn K E0 tl0)
  (e1:clsIn K "SameHand" E1) (o1:ownIn K E1 tl1)
  (hne:(cq E1::tl1).contains (.ref E0)=false)
  (If:AllP (fun x _ s=>FnIn K x s) lfs) (I:FnIn K "law" (top 35))
  (M0:AllP (mtF K C0) Sb) (i0:mtF K C0 "__init__" "Hand.__init__" (cA (top 11) 0))
  (M1:AllP (mtF K C1) Sa) (i1:mtF K C1 "__init__" "Hall.__init__" (cA (top 13) 0))
  :∃ fd:jy,(∀(s:au) (v:ag),t9 s fd ⟨[v],[]⟩ [("_law_script",v)])/\∀ base:c9,K.In base->base.Ns cg mg->sN P w K mg base (CX1 P w (jW K xs)) 10 fa fd ["_law_script"] (spO (jW K cs) (jW K xs) K p_law):=by
 have q0:jW K cs 0=C0:=oU rfl n0;subst q0;have q1:jW K cs 1=C1:=oU rfl n1;subst q1;have r0:jW K xs 0=E0:=oU rfl e0;subst r0;have r1:jW K xs 1=E1:=oU rfl e1;subst r1;have TT:Txt K mg (jW K cs) (jW K xs):=⟨T,da X G hdict,c0,ox X G n0,c1,ox X G n1,a0_kept,a0_knows,a0_number,a0_table,a1_hands,ox X G e0,ox X G e1,⟨tl0,tl1,o0,o1,hne⟩,If.imp fun _ _ _ h=>h.fnAt X G,M0.imp fun _ _ _ h=>h.out,i0.mk mk0,M1.imp fun _ _ _ h=>h.out,i1.mk mk1⟩;obtain⟨a_law,fd_law,F_law⟩:=I.fnAt X G;obtain rfl:a_law=fa:=by
  have e:=hfa.symm.trans F_law.at_;cases e;rfl
 refine⟨fd_law,fun s v=> ?_,fun base kb nb=>Ry TT F_law⟩;obtain⟨oc,od,kV,doc,pm,an,cdv,ct,osl,rfl,_,_⟩:=F_law.fn.ex;exact .of_eq rfl
end L2.MB.Lw
open PySem PySem.W PyProof.Rows
set_option maxRecDepth 100000 in
set_option maxHeartbeats 0 in
theorem PySem.Challenge.cw_meetbook_k07_whole_all_forgotten_at_last_holds : PySem.Challenge.rw_meetbook_k07_whole_all_forgotten_at_last.Holds := by
 refine Hq0.tpQ ?_
 k_fill
 refine L2.MB.law_walkO (l:=PySem.Challenge.rw_meetbook_k07_whole_all_forgotten_at_last) (k:=10) (x:="_law_script") (φ:=L2.MB.Lw.p_law) (cs:=L2.MB.Lw.cs) (es:=L2.MB.Lw.xs) rfl rfl ⟨rfl,by decide,by decide⟩ (fun w h Y=>PySem.W.kIn_of Y) (fun ns h=>L2.MB.Lw.law_true ns h) ?F
 case F=>
  intro w mg fa h KX G hmg;have T:L2.MB.Bn mg:=by
   refine' L2.MB.bn_mk KX G ?_ ?_ ?_ ?_ ?_ ?_ ?_ ?_ ?_ ?_ ?_ ?_ ?_ ?_ <;> k_is
  refine' L2.MB.Lw.all_mk KX G hmg T ?_ ?_ ?_ ?_ ?_ ?_ ?_ ?_ ?_ ?_ ?_ ?_ ?_ ?_ ?_ ?_ ?_ ?_ ?_ ?_ ?_ ?_ ?_
  any_goals (with_reducible show L2.MB.clsIn _ _ _);unfold L2.MB.clsIn;k_is
  any_goals (with_reducible show L2.Cls _ _);refine' ⟨?_,?_,?_,?_⟩ <;> k_is
  any_goals (with_reducible show L2.MB.mkIn _ _);refine' ⟨?_,?_⟩ <;> k_is
  any_goals (with_reducible show L2.NoAttr _ _ _);unfold L2.NoAttr;k_is
  any_goals (with_reducible show L2.MB.ownIn _ _ _);(refine' L2.MB.own_mk ?p1 ?p2 ?p3 ?p4 ?p5 ?p6;(case p1=>k_is);(case p2=>rfl);(case p3=>rfl);(case p4=>(refine' L2.MB.tail_mk ?q1 ?q2 ?q3 ?q4;(case q1=>k_is);(case q2=>(refine' L2.MB.nsOk_mk ?l ?h;(case l=>k_is);(case h=>rfl)));(case q3=>k_is);(case q4=>rfl)));(case p5=>(refine' L2.MB.nsOk_mk ?l ?h;(case l=>k_is);(case h=>rfl)));(case p6=>k_is))
  any_goals (with_reducible show L2.MB.AllP _ _);dsimp only[L2.MB.AllP];(repeat' with_reducible apply And.intro)
  all_goals first|k_is|exact rfl|exact trivial|(refine' L2.MB.fnIn_mk ?z1 ?z2 ?z3 ?z4;(case z1=>k_is);(case z2=>k_is);(case z3=>k_is);(case z4=>k_is))|(refine' ⟨_,L2.MB.mtIn_mk ?z1 ?z2 ?z3 ?z4 ?z5⟩;(case z1=>k_is);(case z2=>k_is);(case z3=>k_is);(case z4=>k_is);(case z5=>k_is))
end
