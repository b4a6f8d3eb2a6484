import PyProof.Rows.All
import Wide.All
import OpenK.AllK
import Wide.FinOn
import Lean
import PyProof.EqAt
import PyProof.EqKinds
import PyProof.TupleCall
import PyProof.NeKinds
import PyProof.StationsW
import PyProof.ExcBaseAll.ValueError
import KE.KSortTup
import PySem.Challenge.RW_meetbook_k02_whole_tables_by_what_is_see
section
set_option Elab.async false
open PySem PySem.W PyProof.Rows
def Hq0.vwQ : Program := { PySem.Challenge.pw_meetbook_k02_whole_tables_by_what_is_see with main := { PySem.Challenge.pw_meetbook_k02_whole_tables_by_what_is_see.main with body := [1, 2, 3, 5, 6, 7, 8, 10, 11, 13, 15, 16, 17, 19, 20, 21, 22, 23, 24, 25, 26, 27, 28, 29, 30, 31, 32, 33].filterMap fun i => PySem.Challenge.pw_meetbook_k02_whole_tables_by_what_is_see.main.body[i]? } }
local macro_rules
 | `(tactic| o_head $H) => `(tactic| (refine holds_open (q := Hq0.vwQ) (loose := []) (Xt := fun s => xlAt Hq0.vwQ [] s && recOk [] s) (XP := XL Hq0.vwQ []) (Yf := Hook.obs $H) (Ya := Hook.val $H) (YP := Hook.says $H) (N := 4950) ?hl (Hook.of $H) (Hook.keeps $H) (fun s e => xl_of s (Bool.and_eq_true_iff.mp e).1) XL.keeps (by rfl) (by rfl) (by rfl) (fun s e => recFacts_of (Bool.and_eq_true_iff.mp e).2) (by rfl) (by first | assumption | decide +kernel) (by decide +kernel) ⟨rfl, rfl, rfl, rfl, rfl, by decide +kernel⟩ ?hw ?hc; (case hl => (intro w; kernel_rfl))))
set_option maxRecDepth 100000 in
set_option maxHeartbeats 0 in
open_top Hq0.tpQ for PySem.Challenge.rw_meetbook_k02_whole_tables_by_what_is_see
end
open PySem.W renaming Frag→aa, nsIn→cm, mg_none_of→c5, hideAll→fu, hideAll_none→fw, keepIn→gn, findIn→gy, emptyDict→gz, fnOf→ip, instObj→iz, codeIn→jv, hideAll_get→j6, kia_one→km, nsOkIn→ku, of_hideAll→l0, tailIn→mt, mg_of→m9, plainGet→ng, isFn→ou, plainGet_of→o6, lookIn→o7, KdlSrc→pf, callWith_K→ph, methodObj→px, hasDictIn→pz, takerIn→qu, makesIn→qv, kat_one→rc, cellsFrom_some→rh, methodCall_KW→sh, kdu_collect→ua, plainOver→uz, handedIn→u6, OpenLaw→vk, kat_nil→vq, WalkO→wd, KasT→wf
open PySem renaming wpAny_bind→ad, Addr→ae, Value→af, wpAny_pure→ak, Shared→am, starEach→av, wpAny→ay, Expr→bt, sizeLine_eq→bu, tupleKind→bx, mainGlobals→ca, Stmt→cr, Heap→cx, Program→db, bootBuiltins→de, World→df, Around→dh, backTo→di, wpAny_truthy_bool→dm, cLine→dr, wpAny_newObj_type→d9, sysModules→fg, compareOp→fk, mem_of_lookup→f8, entryOfKey→f9, foldedSetIterable→ga, cellsFrom→gu, wpAny_mono→gv, NameKind→g9, wpAny_call_entry→hZ, attributeBase→ib, keywordEach→io, behindInMarks→ir, wpAny_holding→iu, wpAny_typeNameOfWhole_valiter→i7, wpAny_typeNameOfWhole_keyiter→i8, wpAny_callSpecial?_slot→i9, swapsWith→jd, storedH→jj, FuncData→jk, wpAny_dictEntries→jm, Paired→jw, binaryOp→jx, backToKw→jy, wpAny_typeNameOf_valiter→j0, wpAny_typeNameOf_keyiter→j3, Scope→j7, Keyword→kc, tupleKind_room_in1→kj, wpAny_dictEpoch→ko, DictEntry→k6, assignEach→k8, atKey→k9, sliceBounds→lm, wpAny_passesOwn→ls, rawInt→l7, getMethod→l8, wpAny_Call_Name_kw→l9, standAt→mr, pyNext→mz, codeAny→oa, wpAny_isOneOf_valiter→ol, wpAny_execs_nil→om, letOwnedTupleGo→oq, getItem→o8, callerA→o9, intText?→pb, wpAny_fieldsOf→pc, wpAny_setField→pd, firstArgMember→pe, wpAny_attempt→pq, wpAny_loadPart_at→p7, valueAt→qf, codeAny_mono→qg, callWith→qh, wpAny_forIn_list→qi, IsPart→qk, wpAny_comprehension_free→qm, putAt→qx, wpAny_field→rm, wpAny_isTrue_Compare1→sf, BindsTo→sg, newFunctionEnv→sj, wpAny_notOrdered_dict→su, wpAny_isOneOf_keyiter→sv, typeLookup→s0, wpAny_pyIter_keyiter→tm, wpAny_updateDictKeys→tq, wpAny_standAt→tw, swapsWithSole→tz, swappedStores→t6, wpAny_newList→t8, wpAny_isSubtype_exc→t9, wpAny_dictFind_heap→ub, Within→uh, seqIndex_neg→um, noteFrame→uq, setFlight→ur, call_meetsIn→ut, seqIndex_of→u5, call→vj
open List renaming mem_cons_of_mem→ag, mem_cons→ai, getElem?_append_left→aj, length_map→ao, mem_cons_self→aq, replicate→ar, getD_eq_getElem?_getD→au, mem_map→aw, getElem?_map→ax, size_toArray→bc, getElem?_eq_some_iff→bg, map_cons→bh, getElem?_eq_getElem→bi, range→bq, zipWith→br, length_cons→bz, nodup_cons→b0, length_append→b7, mem_filter→b8, length_set→ci, not_mem_nil→ck, range'→cw, getElem?_eq_none→cy, mem_append→cz, append_nil→c4, map_append→c6, filter_cons_of_neg→c9, filter_cons_of_pos→da, getElem?_append_right→dc, mem_append_left→dn, getElem?_set_self→dq, mem_append_right→dw, length_filter_le→dy, getElem?_range→d8, mem_singleton→fe, all_eq_true→ff, replicate_succ→fh, length_zipWith→fj, getElem?_replicate→fm, getElem?_set_ne→fy, mem_of_getElem?→fz, lookup_cons→f7, find?_cons→gq, mem_filterMap→gs, append_assoc→g7, length_range→g8, map_congr_left→hV, map_map→ia, mem_range→ie, mem_or_eq_of_mem_set→iy, flatten_cons→i5, getElem_mem→ja, zipWith_cons_cons→jc, filter_append→jh, length_replicate→ji, ext_getElem?→jn, nodup_append→jo, getElem?_of_mem→jq, lookup→jt, range'_succ→j5, filterMap_cons→j8, filter_sublist→j9, length_nil→kh, filter_nil→kq, map_nil→kr, length_singleton→kt, any_cons→lg, length→ll, pairwise_iff_getElem→lw, zip_cons_cons→md, length_filterMap_le→mm, mem_range'_1→my, length_take→ni, filter_cons→nj, take_succ_eq_append_getElem→nu, any_eq_true→nv, mem_flatMap→n8, set_set→ox, range_succ→oy, sum_append→oz, getElem_range→pi, drop_eq_getElem_cons→p8, mem_of_find?_eq_some→qd, length_drop→ql, length_eq_zero_iff→qt, of_mem_zip→qw, range_succ_eq_map→rq, take_of_length_le→r9, getElem?_zipWith→ss, range_eq_range'→tu, filter_eq_self→uc, find?_eq_none→uu, set_cons_zero→uv, set_cons_succ→uw, map_set→ux, mem_replicate→uy, nodup_range'→u4, drop_length→va, zipWith_map→vc, getElem_map→vd, foldl→vg, foldl_cons→vh, find?_some→vp, nodup_nil→vv, forIn_nil→vx
open PySem.Heap renaming get?_push_of_some→az, lt_size→bj, get?_push_size→bw, get?_update_other→eu, SameBut→fx, get?_update_self→gp, size_push→ii, DictOfH→iq, size_update→nq
open Nat renaming le_refl→bf, lt_of_lt_of_le→b4, le_trans→cf, ne_of_lt→cj, lt_irrefl→gk, le_of_lt→hX, zero_le→im, min_self→i4, lt_of_le_of_lt→mf, lt_or_ge→mj, lt_succ_self→nh, not_lt→tj, le_of_eq→uj
open Bool renaming and_eq_true→bp, false_ne_true→cg, false_eq_true→du, or_eq_true→ik, not_eq_true'→u0, not_false→vy
open Ne renaming symm→bv
open PySem.Value renaming ref→b9, none→ic, type→k7, bool→sy, int→uf, str→ug, isStrOf→wc
open Option.some renaming inj→ce
open Array renaming getD_eq_getD_getElem?→cq, length_toList→d7, getElem?_toList→hW, getElem?_eq_getElem→jr, getElem?_eq_some_iff→lh, isEmpty_iff→mw, perm_iff_toList_perm→pv, getElem?_eq_none→se, all_toList→vb
open PySem.NameKind renaming cell→cu, free→gw
open Int renaming toNat_natCast→c7, natCast_nonneg→jg, le_refl→ln
open PySem.F renaming slot_dict_valueiterator_next→f6, slot_dict_keyiterator_next→gg, args_dict_valueiterator_next_1→lq, entry_dict_valueiterator_next→lz, args_dict_keyiterator_next_1→mh, entry_dict_keyiterator_next→mv, slot_dict_iter→m8, slot_dict_values_iter→o5, args_tuple_add_2→qj, slot_dict_values→qo, slot_dict_update→qp, entry_tuple_add→qq, plainAttrs_dict→qr, slot_tuple_add→rj, slot_list_append→si, slot_dict_pop→sw
open PyProof.Rows renaming seqObj→gx, slot_tuple_getitem→jb, envOfC→je, IntsAre→ke, callWith_type1→kz, AllBare→mq, sortedHeap→p9, get?_update_seq→qy, subscriptTail_builtinR→rn, subscriptTail→t7, lt_int→ve
open True renaming intro→ig
open PySem.Builtin.Dict_items renaming ownsTuple→ij, newIterator→vo, dictOf→we
open False renaming elim→iw
open PySem.Paired renaming length→i6
open PySem.Obj renaming data_mapFields→jf, mapSeq→ki, mapFields→lj, isFreed_of_fields→oj, mapDictKeys→qz, cls_mapFields→u3
open PySem.Str renaming ofString→jl
open PySem.Builtin.Slice renaming slicePlaces→jp, sliceAdjust→lu, sliceApplied→pp
open Sum renaming inr→ju, inl→n9
open PySem.Builtin.Tuple renaming tupleExact→jz, tupleHashOf→qe
open Std.Legacy renaming Range→j4
open Classical renaming propDecidable→ka
open PySem.Builtin.Dict renaming showsAll→ky
open PySem.Heap.SameBut renaming update→lr
open Option renaming isSome_iff_exists→ma, map_eq_some_iff→m7, isSome_map→p0, map_some→rg, isSome_some→uo, getD_none→u7, some→wj, none→wk
open PySem.Builtin.List renaming listTooLong→me
open ForInStep renaming yield→ow
open Lean.Macro renaming throwUnsupported→pj
open PySem.Calls renaming Name_function_global→pk, call_function_entry→qc, callWith_builtin→rp, evalArgs_plain→tf
open Std.Legacy.Range renaming forIn_eq_forIn_range'→ud, size→wg
open PySem.Data renaming cell→ui, dict→wb
open PySem.Around renaming under→uk
open PySem.Code renaming isFrame→ul
open PySem.SeqAt renaming EqAt→vf, RcAt→vm
open PySem.PassesOwn renaming never→vn
open Array.Perm renaming refl→vt
open PyProof.Rows.IsTup renaming new→vz
open PySem PySem.Spec PyProof.Rows
set_option Elab.async false
set_option linter.all false
set_option maxRecDepth 100000
set_option maxHeartbeats 4000000
section
namespace L2
noncomputable abbrev Key:=Sum Int Str
noncomputable def Cd:Key->af->Bool
 |.inl k,v=>Value.isInt k v
 |.inr x,v=>wc x v
noncomputable def Qw (w:df):Key->Int
 |.inl k=>hashInt k
 |.inr x=>hashStr w x
theorem cO:∀ {k:Key}{v:af},Cd k v=true->(∃ i t,k=n9 i/\v=uf i t)∨(∃ x t,k=ju x/\v=ug x t)
 |.inl i,v,h=>by
  obtain⟨t,e⟩:=Value.isInt_shape (k:=i) (v:=v) h;exact .inl ⟨i,t,rfl,e⟩
 |.inr x,v,h=>by
  obtain⟨t,e⟩:=Value.isStrOf_shape (x:=x) (v:=v) h;exact .inr ⟨x,t,rfl,e⟩
theorem Ec (i:Int) (t:Tok):Cd (.inl i) (.int i t)=true:=by simp[Cd,Value.isInt]
theorem Eb (x:Str) (t:Tok):Cd (.inr x) (.str x t)=true:=by simp[Cd,wc]
theorem Nc (a b:Int):decide ((n9 a:Key)=n9 b)=(a==b):=by
 by_cases e:a=b
 ·subst e;simp
 ·have h:¬(n9 a:Key)=n9 b:=fun q=>e (Sum.inl.inj q);rw[decide_eq_false h];exact(beq_eq_false_iff_ne.mpr e).symm
theorem MY (a b:Str):decide ((ju a:Key)=ju b)=decide (a=b):=by
 by_cases e:a=b
 ·subst e;simp
 ·have h:¬(ju a:Key)=ju b:=fun q=>e (Sum.inr.inj q);rw[decide_eq_false h,decide_eq_false e]
theorem Nb (a:Int) (b:Str):decide ((n9 a:Key)=ju b)=false:=decide_eq_false (fun q=>nomatch q)
theorem MZ (a:Str) (b:Int):decide ((ju a:Key)=n9 b)=false:=decide_eq_false (fun q=>nomatch q)
noncomputable def aO (prog:db) (w:df):PySem.KeyKind prog w Key where
 is:=Cd
 hash:=Qw w
 inj:=fun v a b ha hb=>by
  rcases cO ha with⟨i,t,rfl,rfl⟩|⟨x,t,rfl,rfl⟩
  ·rcases cO hb with⟨j,u,rfl,e⟩|⟨y,u,rfl,e⟩
   ·injection e with e1 _;rw[e1]
   ·exact nomatch e
  ·rcases cO hb with⟨j,u,rfl,e⟩|⟨y,u,rfl,e⟩
   ·exact nomatch e
   ·injection e with e1 _;rw[e1]
 byValue:=fun k v h=>by
  rcases cO h with⟨i,t,rfl,rfl⟩|⟨x,t,rfl,rfl⟩ <;> rfl
 pyHash:=fun hv h=>by
  rcases cO hv with⟨i,t,rfl,rfl⟩|⟨x,t,rfl,rfl⟩
  ·exact wpAny_pyHash_int h
  ·exact wpAny_pyHash_str h
 eqBool:=fun hu hv h=>by
  rcases cO hu with⟨i,t,rfl,rfl⟩|⟨x,t,rfl,rfl⟩
  ·rcases cO hv with⟨j,u,rfl,rfl⟩|⟨y,u,rfl,rfl⟩
   ·rw[Nc] at h;exact wpAny_eqBool_int h
   ·rw[Nb] at h;exact SeqAt.EqAt.int_str i t y u _ _ _ _ h
  ·rcases cO hv with⟨j,u,rfl,rfl⟩|⟨y,u,rfl,rfl⟩
   ·rw[MZ] at h;exact SeqAt.EqAt.str_int x t j u _ _ _ _ h
   ·rw[MY] at h;exact wpAny_eqBool_str h
 «strs» :=fun k x t v h=>by
  rcases cO h with⟨i,u,rfl,e⟩|⟨y,u,rfl,e⟩
  ·exact nomatch e
  ·injection e with e1 _
   subst e1;cases v <;> rfl
theorem yW (prog:db) (w:df) (i:Int) (t:Tok):(aO prog w).is (.inl i) (.int i t)=true:=Ec i t
theorem yV (prog:db) (w:df) (x:Str) (t:Tok):(aO prog w).is (.inr x) (.str x t)=true:=Eb x t
end L2
namespace L2
inductive V where
 |non|bl (b:Bool)|int (i:Int)|str (x:Str)|byt (b:Array UInt8)|flt (b:UInt64)|ref (a:ae)|ty (n:String)
 deriving DecidableEq
noncomputable def RelV:V->af->Prop
 |.non,u=>u=ic
 |.bl b,u=>u=sy b
 |.int i,u=>∃ t,u=uf i t
 |.str x,u=>∃ t,u=ug x t
 |.byt b,u=>∃ t,u=Value.bytes b t
 |.flt b,u=>∃ t,u=Value.float b t
 |.ref a,u=>u=b9 a
 |.ty n,u=>u=k7 n
noncomputable abbrev Vals:List V->List af->Prop:=jw RelV
theorem Vals.length (r:Vals xs us):xs.length=us.length:=i6 r
theorem Vals.get:∀ {xs:List V}{us:List af}{i:Nat}{x:V},Vals xs us->xs[i]?=wj x->∃ u,us[i]?=wj u/\RelV x u
 |_,_,_,_,.nil,e=>by simp at e
 |_,_,0,_,.cons r _,e=>by simp at e;subst e;exact⟨_,rfl,r⟩
 |_,_,i+1,x,.cons _ t,e=>by
  obtain⟨u,h1,h2⟩:=Vals.get (i:=i) (x:=x) t (by simpa using e);exact⟨u,by simpa using h1,h2⟩
theorem Vals.set (r:RelV x u):∀ {xs:List V}{us:List af} (i:Nat),Vals xs us->Vals (xs.set i x) (us.set i u)
 |_,_,_,.nil=>.nil
 |_,_,0,.cons _ t=>.cons r t
 |_,_,i+1,.cons q t=>.cons q (Vals.set r i t)
theorem Vals.append:∀ {xs ys:List V}{us ws:List af},Vals xs us->Vals ys ws->Vals (xs++ys) (us++ws)
 |_,_,_,_,.nil,s=>s
 |_,_,_,_,.cons r t,s=>.cons r (Vals.append t s)
theorem Vals.take:∀ {xs:List V}{us:List af} (n:Nat),Vals xs us->Vals (xs.take n) (us.take n)
 |_,_,0,_=>.nil
 |_,_,_+1,.nil=>.nil
 |_,_,n+1,.cons r t=>.cons r (Vals.take n t)
theorem Vals.drop:∀ {xs:List V}{us:List af} (n:Nat),Vals xs us->Vals (xs.drop n) (us.drop n)
 |_,_,0,r=>r
 |_,_,_+1,.nil=>.nil
 |_,_,n+1,.cons _ t=>Vals.drop n t
noncomputable def RelO:Option V->Option af->Prop
 |some v,wj u=>RelV v u
 |none,wk=>True
 |_,_=>False
noncomputable def KV {κ:Type}:List (κ×V)->List (κ×af)->Prop:=jw fun(p:κ×V) (q:κ×af)=>p.1=q.1/\RelV p.2 q.2
noncomputable def kV:Key->V
 |.inl i=>.int i
 |.inr x=>.str x
inductive HO where
 /-- a list -/
 |lst (xs:List V)
 /-- a tuple (never changes) -/
 |tup (xs:List V)
 /-- a dict whose keys are ints and texts;one whose keys are tuples of ints and texts (the empty one is both) -/
 |dK (kvs:List (Key×V))|dT (kvs:List (List Key×V))
 /-- a set of ints:its members,its size -/
 |set (S:Int->Bool) (n:Nat)
 /-- an instance of the class at C,its dict at dx,its attributes -/
 |ins (C dx:ae) (fs:List (Str×V))
 /-- the dict of the instance at x -/
 |own (x:ae)
 /-- the dict of an exception -/
 |xd (fs:List (Str×V))
 /-- a bound method,f of x -/
 |met (f x:ae)
 /-- a range object lo,lo+1,.. below hi -/
 |rng (lo hi:Int)
 /-- a thing that is known to the object (the script;a dict while a loop walks it):read,never written while it is so -/
 |frz (o:Obj) (u:HO)
 /-- a code object's table -/
 |tbl (ps:Array af)
 /-- any other thing,by what is true of its one object (a def of one's own:SetO a S n:=HO.ext fun h=> ..) -/
 |ext (φ:cx->Prop)
noncomputable abbrev Hp:=ae->Option HO
noncomputable def upd (H:Hp) (a:ae) (o:HO):Hp:=fun b=>if b=a then wj o else H b
theorem aQ:upd H a o a=wj o:=by unfold upd;rw[if_pos rfl]
theorem aG (h:b≠a):upd H a o b=H b:=by unfold upd;rw[if_neg h]
theorem JV {H:Hp} (h:H a=wj o) (h':H b=wj u) (d:o≠u):a≠b:=by
 intro e;subst e;rw[h] at h';exact d (ce h')
theorem aN {H:Hp} (h:H a=wj o) (h':H b=wk):a≠b:=by
 intro e;subst e;rw[h] at h';cases h'
section
variable (P:db) (w:df)
noncomputable def ObjOk (H:Hp) (h:cx) (a:ae):HO->Prop
 |.lst xs=>xs.length<=sizeLine/\∃(its:List af) (n:Nat),Vals xs its/\h.get? a=wj { cls:=.type "list",data:=.seq its.toArray n }
 |.tup xs=>xs.length<=sizeLine/\∃ its:List af,Vals xs its/\IsTup h a its.toArray
 |.dK kvs=>kvs.length<=sizeLine/\(a==fg)=false/\∃ vs,KV kvs vs/\h.DictOf (aO P w) a vs
 |.dT kvs=>kvs.length<=sizeLine/\(a==fg)=false/\∃ xs:List (List Key×ae×af),
   jw (fun(p:List Key×V) (q:List Key×ae×af)=>p.1=q.1/\H q.2.1=wj (.tup (p.1.map kV))/\RelV p.2 q.2.2) kvs xs/\
   ∃ o es ep,h.get? a=wj o/\o.ExactDict/\o.data=.dict es ep/\es.toList=xs.map (f9 (bx (aO P w)))/\(xs.map (·.1)).Nodup
 |.set S n=>h.SetOf (intKind P w) a S n
 |.ins C dx fs=>H dx=wj (.own a)/\fs.length<=1000/\dx≠a/\h.get? a=wj (iz C dx)/\
   ∃ mA,h.Ns1 dx mA/\(∀ f,RelO (fs.lookup f) (mA f))/\uh mA (fs.map (·.1))
 |.own _=>∃ o,h.get? a=wj o
 |.xd fs=>∃ mA,h.Ns1 a mA/\∀ f,RelO (fs.lookup f) (mA f)
 |.rng lo hi=>∃ t u v,h.get? a=wj { cls:=.type "range",data:=.fields #[.int lo t,.int hi u,.int 1 v] }
 |.frz o u=>h.get? a=wj o/\ObjOk H h a u
 |.tbl ps=>h.get? a=wj { cls:=.none,data:=.fields ps }
 |.met f x=>h.get? a=wj (px (.ref f) (.ref x))
 |.ext φ=>φ h/\(∃ o,h.get? a=wj o)/\∀ h1 h2:cx,φ h1->(∀ o,h1.get? a=wj o->h2.get? a=wj o)->φ h2
noncomputable def HOk (H:Hp) (h:cx):Prop:=∀ a o,H a=wj o->ObjOk P w H h a o
end
section
variable {P:db}{w:df}{H H':Hp}{h h':cx}{a:ae}{o:HO}
theorem ObjOk.lt (x:ObjOk P w H h a o):a<h.objs.size:=by
 cases o with
 |lst xs=>obtain⟨_,_,_,_,e⟩:=x;exact bj e
 |tup xs=>obtain⟨_,_,_,p⟩:=x;exact p.lt
 |dK kvs=>obtain⟨_,_,_,_,o,_,_,e,_⟩:=x;exact bj e
 |dT kvs=>obtain⟨_,_,_,_,o,_,_,e,_⟩:=x;exact bj e
 |set S n=>obtain⟨o,_,_,_,e,_⟩:=x;exact bj e
 |ins C dx fs=>obtain⟨_,_,_,e,_⟩:=x;exact bj e
 |own y=>obtain⟨_,e⟩:=x;exact bj e
 |xd fs=>obtain⟨_,⟨_,_,_,e,_⟩,_⟩:=x;exact bj e
 |rng lo hi=>obtain⟨_,_,_,e⟩:=x;exact bj e
 |frz ob u=>obtain⟨e,_⟩:=x;exact bj e
 |tbl ps=>exact bj (show h.get? a=wj _ from x)
 |met f y=>exact bj (show h.get? a=wj _ from x)
 |ext φ=>obtain⟨_,⟨_,e⟩,_⟩:=x;exact bj e
theorem jw.mapP:∀ {l₁:List α}{l₂:List β},jw F l₁ l₂->(∀ a b,F a b->G a b)->jw G l₁ l₂
 |_,_,.nil,_=>.nil
 |_,_,.cons r t,f=>.cons (f _ _ r) (jw.mapP t f)
theorem ObjOk.stay (x:ObjOk P w H h a o) (k:∀ b u,(b=a∨H b=wj (.own a))->h.get? b=wj u->h'.get? b=wj u)
  (ho:∀ b,H b=wj (.own a)->H' b=wj (.own a)) (ht:∀ b xs,H b=wj (.tup xs)->H' b=wj (.tup xs)):ObjOk P w H' h' a o:=by
 induction o with
 |lst xs=>obtain⟨z,its,n,r,e⟩:=x;exact⟨z,its,n,r,k _ _ (.inl rfl) e⟩
 |tup xs=>obtain⟨z,its,r,ob,e,c⟩:=x;exact⟨z,its,r,ob,k _ _ (.inl rfl) e,c⟩
 |dK kvs=>obtain⟨z,y,vs,r,ob,es,ep,e,c⟩:=x;exact⟨z,y,vs,r,ob,es,ep,k _ _ (.inl rfl) e,c⟩
 |dT kvs=>
  obtain⟨z,y,xs,r,ob,es,ep,e,c⟩:=x;exact⟨z,y,xs,jw.mapP r fun p q z=>⟨z.1,ht _ _ z.2.1,z.2.2⟩,ob,es,ep,k _ _ (.inl rfl) e,c⟩
 |set S n=>obtain⟨ob,es,ep,t,e,c⟩:=x;exact⟨ob,es,ep,t,k _ _ (.inl rfl) e,c⟩
 |ins C dx fs=>
  obtain⟨d,z,ne,e,mA,⟨od,es,ep,e2,c⟩,r⟩:=x;exact⟨ho _ d,z,ne,k _ _ (.inl rfl) e,mA,⟨od,es,ep,k _ _ (.inr d) e2,c⟩,r⟩
 |own y=>obtain⟨ob,e⟩:=x;exact⟨ob,k _ _ (.inl rfl) e⟩
 |xd fs=>obtain⟨mA,⟨od,es,ep,e,c⟩,r⟩:=x;exact⟨mA,⟨od,es,ep,k _ _ (.inl rfl) e,c⟩,r⟩
 |rng lo hi=>obtain⟨t,u,v,e⟩:=x;exact⟨t,u,v,k _ _ (.inl rfl) e⟩
 |frz ob u ih=>obtain⟨e,q⟩:=x;exact⟨k _ _ (.inl rfl) e,ih q⟩
 |tbl ps=>
  have e:h.get? a=wj { cls:=.none,data:=.fields ps }:=x;show h'.get? a=wj { cls:=.none,data:=.fields ps };exact k a _ (.inl rfl) e
 |met f y=>
  have e:h.get? a=wj (px (.ref f) (.ref y)):=x;show h'.get? a=wj (px (.ref f) (.ref y));exact k a _ (.inl rfl) e
 |ext φ=>obtain⟨p,⟨o,e⟩,st⟩:=x;exact⟨st _ _ p fun o q=>k _ _ (.inl rfl) q,⟨o,k _ _ (.inl rfl) e⟩,st⟩
theorem HOk.lt (x:HOk P w H h) (e:H a=wj o):a<h.objs.size:=(x a o e).lt
theorem HOk.fresh (x:HOk P w H h) (e:h.objs.size<=a):H a=wk:=by
 cases q:H a with
 |none=>rfl
 |some u=>exact absurd (b4 (x.lt q) e) (gk _)
theorem HOk.kept (x:HOk P w H h) (k:∀ b u,h.get? b=wj u->h'.get? b=wj u):HOk P w H h':=fun a o e=>
 (x a o e).stay (fun b u _ q=>k b u q) (fun _ q=>q) fun _ _ q=>q
theorem HOk.laid (x:HOk P w H h) (k:∀ b u,h.get? b=wj u->h'.get? b=wj u) (hp:h.objs.size<=a) (new:ObjOk P w (upd H a o) h' a o):HOk P w (upd H a o) h':=fun b u e=>by
 have hn:=x.fresh hp
 by_cases hb:b=a
 ·subst hb;rw[aQ] at e;cases e;exact new
 ·rw[aG hb] at e;exact(x b u e).stay (fun c v _ q=>k c v q) (fun c q=>by rw[aG (aN q hn)];exact q) fun c xs q=>by rw[aG (aN q hn)];exact q
end
noncomputable def Rd (H:Hp) (a:ae) (u:HO):Prop:=H a=wj u∨∃ o,H a=wj (.frz o u)
theorem Rd.ok (r:Rd H a u) (x:HOk P w H h):ObjOk P w H h a u:=by
 rcases r with r|⟨o,r⟩
 ·exact x a u r
 ·obtain⟨_,q⟩:=x a _ r;exact q
noncomputable def Mut:Option HO->Prop
 |some (.lst _)=>True
 |some (.dK _)=>True
 |some (.dT _)=>True
 |some (.set _ _)=>True
 |some (.ins _ _ _)=>True
 |some (.ext _)=>True
 |_=>False
section
variable {P:db}{w:df}{H:Hp}{h h':cx}{x e:ae}{o':HO}
theorem HOk.write (ok:HOk P w H h) (mu:Mut (H x)) (he:e=x∨H e=wj (.own x)) (k:∀ b u,b≠e->h.get? b=wj u->h'.get? b=wj u) (heo:∃ u,h'.get? e=wj u)
  (new:ObjOk P w (upd H x o') h' x o'):HOk P w (upd H x o') h':=fun b u q=>by
 have nown:∀ c y,H c=wj (.own y)->c≠x:=fun c y r z=>by subst z;rw[r] at mu;exact mu
 have ntup:∀ c xs,H c=wj (.tup xs)->c≠x:=fun c xs r z=>by subst z;rw[r] at mu;exact mu
 by_cases hb:b=x
 ·subst hb;rw[aQ] at q;cases q;exact new
 ·rw[aG hb] at q
  by_cases hbe:b=e
  ·have q':H b=wj (.own x):=by
    rcases he with z|z
    ·exact absurd (hbe.trans z) hb
    ·rw[hbe];exact z
   rw[q] at q';cases q';obtain⟨v,hv⟩:=heo;exact⟨v,by rw[hbe];exact hv⟩
  ·refine(ok b u q).stay (fun c v hc r=>k c v ?_ r) (fun c r=>by rw[aG (nown c b r)];exact r) fun c xs r=>by rw[aG (ntup c xs r)];exact r
   rcases hc with rfl|hc
   ·exact hbe
   ·rintro rfl;rcases he with z|z
    ·exact nown c b hc z
    ·rw[hc] at z;cases z;exact hb rfl
end
structure Un (fs ex:List ae) (H H':Hp) (h h':cx):Prop where
 keep:∀ b o,h.get? b=wj o->H b=wk->b∉fs->b∉ex->h'.get? b=wj o
 slot:∀ b o,h.get? b=wj o->H b=wk->b∈fs->b∉ex->∃ sl,h'.get? b=wj { o with slots:=sl }
 free:∀ b o,h.get? b=wj o->H b=wk->b∉ex->H' b=wk
 there:∀ b o,h.get? b=wj o->b∉ex->∃ o',h'.get? b=wj o'
 tups:∀ b xs,H b=wj (.tup xs)->H' b=wj (.tup xs)
 frzs:∀ b o u,H b=wj (.frz o u)->H' b=wj (.frz o u)
 tbls:∀ b ps,H b=wj (.tbl ps)->∃ more,H' b=wj (.tbl (ps++more))
section
variable {fs fs' ex ex':List ae}{H H1 H2:Hp}{h h1 h2 h':cx}{a x e:ae}{o:HO}
theorem Un.any (u:Un fs ex H H1 h h1) (q:h.get? b=wj ob) (n:H b=wk) (hx:b∉ex):∃ sl,h1.get? b=wj { ob with slots:=sl }:=by
 by_cases hb:b∈fs
 ·exact u.slot b ob q n hb hx
 ·exact⟨ob.slots,u.keep b ob q n hb hx⟩
theorem Un.kept (k:∀ b u,h.get? b=wj u->h'.get? b=wj u):Un fs ex H H h h':=
 ⟨fun b ob q _ _ _=>k b ob q,fun b ob q _ _ _=>⟨ob.slots,k b ob q⟩,fun _ _ _ n _=>n,fun b ob q _=>⟨ob,k b ob q⟩,fun _ _ q=>q,fun _ _ _ q=>q,fun _ ps q=>⟨#[],by rw[q];simp⟩⟩
theorem Un.refl:Un fs ex H H h h:=Un.kept fun _ _ q=>q
theorem Un.laid (k:∀ b u,h.get? b=wj u->h'.get? b=wj u) (hp:h.objs.size<=a) (hn:H a=wk):Un fs ex H (upd H a o) h h' where
 keep:=fun b u q _ _ _=>k b u q
 slot:=fun b u q _ _ _=>⟨u.slots,k b u q⟩
 free:=fun b u q n _=>by rw[aG (cj (b4 (bj q) hp))];exact n
 there:=fun b u q _=>⟨u,k b u q⟩
 tups:=fun b xs q=>by rw[aG (aN q hn)];exact q
 frzs:=fun b u xs q=>by rw[aG (aN q hn)];exact q
 tbls:=fun b ps q=>⟨#[],by rw[aG (aN q hn),q];simp⟩
theorem Un.write (mu:Mut (H x)) (he:e=x∨H e=wj (.own x)) (k:∀ b u,b≠e->h.get? b=wj u->h'.get? b=wj u) (heo:∃ u,h'.get? e=wj u):Un fs ex H (upd H x o) h h':=by
 have hx:∀ b,H b=wk->b≠x:=fun b n z=>by subst z;rw[n] at mu;exact mu
 have hb:∀ b,H b=wk->b≠e:=fun b n z=>by
  subst z;rcases he with r|r
  ·exact hx b n r
  ·rw[n] at r;cases r
 have hm:∀ b u,H b=wj u->¬ Mut (wj u)->b≠x:=fun b u q nm z=>by subst z;rw[q] at mu;exact nm mu
 refine⟨fun b u q n _ _=>k b u (hb b n) q,fun b u q n _ _=>⟨u.slots,k b u (hb b n) q⟩,fun b u q n _=>by rw[aG (hx b n)];exact n,fun b u q _=> ?_,
  fun b xs q=>by rw[aG (hm b _ q fun z=>z)];exact q,fun b u xs q=>by rw[aG (hm b _ q fun z=>z)];exact q,fun b ps q=>⟨#[],by rw[aG (hm b _ q fun z=>z),q];simp⟩⟩
 by_cases hbe:b=e
 ·subst hbe;exact heo
 ·exact⟨u,k b u hbe q⟩
end
noncomputable def trk (h:cx) (H:Hp):List ae:=(bq h.objs.size).filter fun a=>(H a).isSome
noncomputable def GK (h:cx) (H:Hp):cx:=fu h (trk h H)
theorem Ej (h:cx) (H:Hp):(GK h H).objs.size=h.objs.size:=PySem.W.hideAll_size _ _
theorem GJ (e:h.get? b=wj o) (n:H b=wk):(GK h H).get? b=wj o:=
 j6 _ e fun hm=>by
  have q:(H b).isSome=true:=(b8.mp hm).2;rw[n] at q;simp at q
theorem JB (e:(GK h H).get? b=wj o):h.get? b=wj o/\H b=wk:=by
 have e':h.get? b=wj o:=l0 (trk h H) e;refine⟨e',?_⟩;cases q:H b with
 |none=>rfl
 |some x=>
  have hm:b∈trk h H:=b8.mpr ⟨ie.mpr (bj e'),by simp[q]⟩;have z:(GK h H).get? b=wk:=fw (trk h H) hm;rw[z] at e;cases e
end L2
namespace L2
structure Mod (K:aa) (mg:Str->Option af) (base:cx):Prop where
 kin:K.In base
 glob:base.Ns ca mg
 blt:∃ mb,base.Ns builtinsNs mb/\∀ x:Str,x≠"__name__"->mb x=de x
 nolimit:base.NoLimit
structure Cx where
 prog:db
 w:df
 K:aa
 mg:Str->Option af
 base:cx
 A:dh
 N:List Str
 s₀:am
 H₀:Hp
 env:Env
 outer:List Env
 stack:List Env
 ex:List ae
 fn:Str->Bool
 calm:Bool
 pn:List (ae×Obj)
 xe:af->am->Prop
noncomputable def frs (l:List Env):List ae:=l.filterMap (·.frame)
noncomputable abbrev Cx.fs (X:Cx):List ae:=frs X.outer
noncomputable def Vis (sc:j7) (x:Str):Prop:=sc.names.lookup x=wj .local∨sc.names.lookup x=wj .cell∨sc.names.lookup x=wj .free
noncomputable def Loc (sc:j7) (x:Str):Prop:=sc.names.lookup x=wj .local∨sc.names.lookup x=wj .cell
noncomputable def QM (env:Env) (h:cx) (m:Str->Option af) (x:Str) (u:af):Prop:=
 (env.kindOf x=wj .local/\m x=wj u)∨((env.kindOf x=wj .cell∨env.kindOf x=wj .free)/\∃ c,env.cells.lookup x=wj c/\h.IsCell c (wj u))
structure Cx.Ok (X:Cx):Prop where
 mod:Mod X.K X.mg X.base
 kind:X.env.scope.kind=.function
 glob:X.env.globals=ca
 blt:X.env.builtins=builtinsNs
 above:X.s₀.heap.objs.size<=X.env.locals
 inj:∀ x y c,X.env.cells.lookup x=wj c->X.env.cells.lookup y=wj c->x=y
 has:∀ x,(X.env.kindOf x=wj .cell∨X.env.kindOf x=wj .free)->∃ c,X.env.cells.lookup x=wj c
 cab:∀ x c,X.fn x=true->X.env.cells.lookup x=wj c->X.s₀.heap.objs.size<=c
 hd:X.calm=true->X.A.handled=wk
 frames:X.A.frames=wj X.stack
 stk:X.stack=X.outer∨(X.stack=X.env::X.outer/\X.env.frame=wj X.env.locals)
 exf:∀ b∈X.ex,b≠X.env.locals/\∀ x c,X.env.cells.lookup x=wj c->c≠b
 bs:∀ b o,X.base.get? b=wj o->X.s₀.heap.get? b=wj o/\X.H₀ b=wk
 bsz:X.base.objs.size<=X.s₀.heap.objs.size
 noex:∀ b o,X.base.get? b=wj o->b∉X.ex
 exfs:∀ b∈X.ex,b∉X.fs
 funs:X.s₀.heap.FunFrames X.base X.outer
 frf:∀ b∈X.fs,X.H₀ b=wk
structure Inv (X:Cx) (pins:List (ae×Obj)) (σ:List (Option V)) (H:Hp) (s:am):Prop where
 ok:X.Ok
 os:s.os=X.s₀.os
 bare:mq s.gens
 base:Un X.fs X.ex X.H₀ H X.s₀.heap s.heap
 loc:∃ m,s.heap.Ns X.env.locals m/\∀(i:Nat) (x:Str) (v:V),X.N[i]?=wj x->σ[i]?=wj (wj v)->Vis X.env.scope x->∃ u,RelV v u/\QM X.env s.heap m x u
 cell:∀ x c,X.env.cells.lookup x=wj c->∃ v,s.heap.IsCell c v
 free:H X.env.locals=wk
 freeC:∀ x c,X.env.cells.lookup x=wj c->H c=wk
 pin:∀ p∈X.pn++pins,s.heap.get? p.1=wj p.2/\H p.1=wk/\p.1≠X.env.locals/\p.1∉X.fs/\∀ v,p.2.data≠ .cell v
 hok:HOk X.prog X.w H s.heap
 len:σ.length=X.N.length
section
variable {X:Cx}{pins:List (ae×Obj)}{σ:List (Option V)}{H H':Hp}{s:am}{h':cx}
theorem Cx.Ok.nofr (ok:X.Ok) (e:X.base.get? b=wj o):b∉X.fs:=fun hb=>by
 have:=(ok.funs.mem hb).1
 rw[e] at this;cases this
theorem Inv.bs (I:Inv X pins σ H s):∀ b o,X.base.get? b=wj o->s.heap.get? b=wj o/\H b=wk:=fun b o e=>
 ⟨I.base.keep b o (I.ok.bs b o e).1 (I.ok.bs b o e).2 (I.ok.nofr e) (I.ok.noex b o e),I.base.free b o (I.ok.bs b o e).1 (I.ok.bs b o e).2 (I.ok.noex b o e)⟩
theorem Inv.bk (I:Inv X pins σ H s):∀ b o,X.base.get? b=wj o->s.heap.get? b=wj o:=fun b o e=>(I.bs b o e).1
theorem Inv.mod (I:Inv X pins σ H s):Mod X.K X.mg X.base:=I.ok.mod
theorem Inv.kIn (I:Inv X pins σ H s):X.K.In s.heap:=I.ok.mod.kin.keeps I.bk
theorem Inv.lt (I:Inv X pins σ H s):X.env.locals<s.heap.objs.size:=let ⟨_,hn,_⟩:=I.loc;hn.lt
theorem Inv.sz (I:Inv X pins σ H s):X.s₀.heap.objs.size<=s.heap.objs.size:=cf I.ok.above (hX I.lt)
theorem Inv.nofs (I:Inv X pins σ H s) (h:s.heap.objs.size<=a):a∉X.fs:=fun hb=>by
 obtain⟨_,o,ho,_⟩:=I.ok.funs.mem hb;exact absurd (b4 (bj ho) (cf I.sz h)) (gk _)
theorem Inv.cne (I:Inv X pins σ H s):∀ x c,X.env.cells.lookup x=wj c->c≠X.env.locals:=fun x c e z=>by
 obtain⟨v,o,ho,hd⟩:=I.cell x c e;obtain⟨m,⟨o',es,ep,ho',hd',_⟩,_⟩:=I.loc;rw[z,ho'] at ho;cases ho;rw[hd'] at hd;cases hd
theorem Inv.funs (I:Inv X pins σ H s):s.heap.FunFrames X.base X.outer:=by
 have all:∀(l:List Env),(∀ b∈frs l,b∈X.fs)->X.s₀.heap.FunFrames X.base l->s.heap.FunFrames X.base l:=by
  intro l
  induction l with
  |nil=>intro _ _;trivial
  |cons env r ih=>
   intro hs hl;obtain⟨hk,⟨L,o,hf,hn,ho,hd⟩,hr⟩:=hl;have hL:L∈X.fs:=hs L (by unfold frs;rw[j8,hf];exact aq);obtain⟨sl,e⟩:=I.base.slot L o ho (I.ok.frf L hL) hL fun z=>I.ok.exfs L z hL;exact⟨hk,⟨L,_,hf,hn,e,hd⟩,ih (fun b hb=>hs b (by unfold frs;rw[j8,hf];exact ag _ hb)) hr⟩
 exact all X.outer (fun _ hb=>hb) I.ok.funs
theorem Inv.stack (I:Inv X pins σ H s):s.heap.FunFrames X.base X.stack:=by
 rcases I.ok.stk with e|⟨e,hf⟩
 ·rw[e];exact I.funs
 ·rw[e];obtain⟨m,hn,_⟩:=I.loc;refine .cons (by rw[I.ok.kind];decide) hf hn ?_ I.funs;exact Heap.get?_none_of_le (cf I.ok.bsz I.ok.above)
theorem Inv.stkSub (I:Inv X pins σ H s):∀ b∈frs X.stack,b∈X.env.locals::X.fs:=fun b hb=>by
 rcases I.ok.stk with e|⟨e,hf⟩
 ·rw[e] at hb;exact ag _ hb
 ·rw[e] at hb;unfold frs at hb;rw[j8,hf] at hb;exact hb
theorem Inv.stkFree (I:Inv X pins σ H s):∀ b∈frs X.stack,H b=wk:=fun b hb=>by
 rcases ai.mp (I.stkSub b hb) with e|hb
 ·rw[e];exact I.free
 ·obtain⟨_,o,ho,_⟩:=I.ok.funs.mem hb;exact I.base.free b o ho (I.ok.frf b hb) fun z=>I.ok.exfs b z hb
theorem Inv.step {ch:List ae} (I:Inv X pins σ H s)
  (hch:∀ b∈ch,(b∈X.ex∨X.s₀.heap.objs.size<=b)/\b≠X.env.locals/\(∀ x c,X.env.cells.lookup x=wj c->c≠b)/\∀ p∈X.pn++pins,p.1≠b)
  (keep:∀ b o,b≠X.env.locals->b∉X.fs->b∉ch->s.heap.get? b=wj o->H b=wk->h'.get? b=wj o)
  (slot:∀ b o,b≠X.env.locals->b∈X.fs->b∉ch->s.heap.get? b=wj o->H b=wk->∃ sl,h'.get? b=wj { o with slots:=sl }) (free:∀ b o,b∉ch->s.heap.get? b=wj o->H b=wk->H' b=wk)
  (there:∀ b o,b∉ch->s.heap.get? b=wj o->∃ o',h'.get? b=wj o')
  (tups:∀ b xs,H b=wj (.tup xs)->H' b=wj (.tup xs)) (frzs:∀ b o u,H b=wj (.frz o u)->H' b=wj (.frz o u)) (tbls:∀ b ps,H b=wj (.tbl ps)->∃ more,H' b=wj (.tbl (ps++more)))
  (ns:∀ m,s.heap.Ns X.env.locals m->h'.Ns X.env.locals m) (hok:HOk X.prog X.w H' h') (hg:mq g'):
  Inv X pins σ H' { s with heap:=h',gens:=g',drawn:=d',toks:=t' }:=by
 have neL:∀ b o,X.s₀.heap.get? b=wj o->b≠X.env.locals:=fun b o e=>cj (b4 (bj e) I.ok.above);have neC:∀ b o,X.s₀.heap.get? b=wj o->b∉X.ex->b∉ch:=fun b o e hx hb=>by
  rcases(hch b hb).1 with z|z
  ·exact hx z
  ·exact absurd (b4 (bj e) z) (gk _)
 have cellK:∀ x c,X.env.cells.lookup x=wj c->∀ v,s.heap.IsCell c v->h'.IsCell c v:=fun x c e v ⟨o,ho,hd⟩=>by
  have nch:c∉ch:=fun z=>(hch c z).2.2.1 x c e rfl
  by_cases hc:c∈X.fs
  ·obtain⟨sl,q⟩:=slot c o (I.cne x c e) hc nch ho (I.freeC x c e);exact⟨_,q,hd⟩
  ·exact⟨o,keep c o (I.cne x c e) hc nch ho (I.freeC x c e),hd⟩
 refine⟨I.ok,I.os,hg,⟨fun b o e n hb hx=> ?_,fun b o e n hb hx=> ?_,fun b o e n hx=> ?_,fun b o e hx=> ?_,fun b xs e=>tups b xs (I.base.tups b xs e),fun b o xs e=>frzs b o xs (I.base.frzs b o xs e),fun b ps e=> ?_⟩,?_,fun x c e=> ?_,?_,fun x c e=> ?_,fun p hp=> ?_,hok,I.len⟩
 ·exact keep b o (neL b o e) hb (neC b o e hx) (I.base.keep b o e n hb hx) (I.base.free b o e n hx)
 ·obtain⟨sl,e1⟩:=I.base.slot b o e n hb hx;obtain⟨sl',e2⟩:=slot b _ (neL b o e) hb (neC b o e hx) e1 (I.base.free b o e n hx);exact⟨sl',e2⟩
 ·obtain⟨o',e1⟩:=I.base.there b o e hx;exact free b o' (neC b o e hx) e1 (I.base.free b o e n hx)
 ·obtain⟨o',e1⟩:=I.base.there b o e hx;exact there b o' (neC b o e hx) e1
 ·obtain⟨m1,e1⟩:=I.base.tbls b ps e;obtain⟨m2,e2⟩:=tbls b _ e1;exact⟨m1++m2,by rw[e2,Array.append_assoc]⟩
 ·obtain⟨m,hn,hl⟩:=I.loc;refine⟨m,ns m hn,fun i x v e1 e2 e3=> ?_⟩;obtain⟨u,r,l⟩:=hl i x v e1 e2 e3;refine⟨u,r,?_⟩;rcases l with l|⟨k,c,e,z⟩
  ·exact .inl l
  ·exact .inr ⟨k,c,e,cellK x c e _ z⟩
 ·obtain⟨v,z⟩:=I.cell x c e;exact⟨v,cellK x c e v z⟩
 ·obtain⟨m,⟨o,_,_,ho,_⟩,_⟩:=I.loc;exact free _ o (fun z=>(hch _ z).2.1 rfl) ho I.free
 ·obtain⟨v,o,ho,hd⟩:=I.cell x c e;exact free c o (fun z=>(hch c z).2.2.1 x c e rfl) ho (I.freeC x c e)
 ·obtain⟨e,n,ne,nf,d⟩:=I.pin p hp;have nch:p.1∉ch:=fun z=>(hch p.1 z).2.2.2 p hp rfl;exact⟨keep p.1 p.2 ne nf nch e n,free p.1 p.2 nch e n,ne,nf,d⟩
theorem Inv.un (I:Inv X pins σ H s) (u:Un X.fs [] H H' s.heap h') (hok:HOk X.prog X.w H' h'):Inv X pins σ H' { s with heap:=h',toks:=t' }:=by
 obtain⟨m,⟨o,es,ep,ho,r⟩,_⟩:=id I.loc;obtain⟨sl,hL⟩:=u.any ho I.free (by simp);exact I.step (g':=s.gens) (d':=s.drawn) (ch:=[]) (fun _ z=>nomatch z) (fun b o _ hb _ e n=>u.keep b o e n hb (by simp)) (fun b o _ hb _ e n=>u.slot b o e n hb (by simp)) (fun b o _ e n=>u.free b o e n (by simp)) (fun b o _ e=>u.there b o e (by simp)) u.tups u.frzs u.tbls (fun m' hm=>by
  obtain⟨o',es',ep',ho',r'⟩:=hm;rw[ho] at ho';cases ho';exact⟨_,es',ep',hL,r'⟩) hok I.bare
theorem Inv.call (I:Inv X pins σ H s) (u:Un (frs X.stack) ch H H' s.heap h') (hok:HOk X.prog X.w H' h') (hg:mq g')
  (hch:∀ b∈ch,(b∈X.ex∨X.s₀.heap.objs.size<=b)/\b≠X.env.locals/\(∀ x c,X.env.cells.lookup x=wj c->c≠b)/\∀ p∈X.pn++pins,p.1≠b):
  Inv X pins σ H' { s with heap:=h',gens:=g',drawn:=d',toks:=t' }:=by
 obtain⟨m,⟨o,es,ep,ho,r⟩,_⟩:=id I.loc;obtain⟨sl,hL⟩:=u.any ho I.free fun z=>(hch _ z).2.1 rfl;exact I.step (ch:=ch) hch (fun b o hL hb hc e n=>u.keep b o e n (fun z=>(ai.mp (I.stkSub b z)).elim hL hb) hc) (fun b o _ _ hc e n=>u.any e n hc) (fun b o hc e n=>u.free b o e n hc) (fun b o hc e=>u.there b o e hc) u.tups u.frzs u.tbls (fun m' hm=>by
  obtain⟨o',es',ep',ho',r'⟩:=hm;rw[ho] at ho';cases ho';exact⟨_,es',ep',hL,r'⟩) hok hg
theorem Inv.turned (I:Inv X pins σ H s) (k:∀ b o,b≠it->s.heap.get? b=wj o->h'.get? b=wj o) (hn:H it=wk) (hL:it≠X.env.locals)
  (h1:it∈X.ex∨X.s₀.heap.objs.size<=it) (h2:∀ x c,X.env.cells.lookup x=wj c->c≠it) (h3:∀ p∈X.pn++pins,p.1≠it):Inv X pins σ H { s with heap:=h',toks:=t' }:=by
 have nit:∀ b u,H b=wj u->b≠it:=fun b u e z=>by rw[z,hn] at e;cases e
 refine I.step (g':=s.gens) (d':=s.drawn) (ch:=[it]) (fun b hb=> ?_) (fun b o _ _ hc e _=>k b o (fun z=>hc (by simp[z])) e) (fun b o _ _ hc e _=>⟨o.slots,k b o (fun z=>hc (by simp[z])) e⟩) (fun _ _ _ _ n=>n)
  (fun b o hc e=>⟨o,k b o (fun z=>hc (by simp[z])) e⟩) (fun _ _ e=>e) (fun _ _ _ e=>e) (fun b ps e=>⟨#[],by rw[e];simp⟩) (fun m hm=> ?_) (fun b u e=> ?_) I.bare
 ·have e:b=it:=by simpa using hb
  subst e;exact⟨h1,hL,h2,h3⟩
 ·obtain⟨o,es,ep,ho,r⟩:=hm;exact⟨o,es,ep,k _ o (bv hL) ho,r⟩
 ·refine(I.hok b u e).stay (fun c v hc q=>k c v ?_ q) (fun _ q=>q) fun _ _ q=>q;rcases hc with z|z
  ·rw[z];exact nit b u e
  ·exact nit c _ z
theorem Inv.tok (I:Inv X pins σ H s) (t:Nat):Inv X pins σ H { s with toks:=t }:=I.un (h':=s.heap) (t':=t) Un.refl I.hok
theorem Inv.kept (I:Inv X pins σ H s) (k:∀ b u,s.heap.get? b=wj u->h'.get? b=wj u):Inv X pins σ H { s with heap:=h',toks:=t' }:=I.un (Un.kept k) (I.hok.kept k)
theorem Inv.laid (I:Inv X pins σ H s) (k:∀ b u,s.heap.get? b=wj u->h'.get? b=wj u) (hp:s.heap.objs.size<=a) (new:ObjOk X.prog X.w (upd H a o) h' a o):
  Inv X pins σ (upd H a o) { s with heap:=h',toks:=t' }:=I.un (Un.laid k hp (I.hok.fresh hp)) (I.hok.laid k hp new)
theorem Inv.write (I:Inv X pins σ H s) (mu:Mut (H x)) (he:e=x∨H e=wj (.own x)) (k:∀ b u,b≠e->s.heap.get? b=wj u->h'.get? b=wj u) (heo:∃ u,h'.get? e=wj u)
  (new:ObjOk X.prog X.w (upd H x o) h' x o):Inv X pins σ (upd H x o) { s with heap:=h',toks:=t' }:=I.un (Un.write mu he k heo) (I.hok.write mu he k heo new)
theorem Inv.weak (I:Inv X pins σ H s) (hl:σ'.length=σ.length) (w:∀(i:Nat) v,σ'[i]?=wj (wj v)->σ[i]?=wj (wj v)):Inv X pins σ' H s:=
 ⟨I.ok,I.os,I.bare,I.base,let ⟨m,hn,hl'⟩:=I.loc;⟨m,hn,fun i x v e1 e2 e3=>hl' i x v e1 (w i v e2) e3⟩,I.cell,I.free,I.freeC,I.pin,I.hok,hl.trans I.len⟩
theorem Inv.pins_of (I:Inv X pins σ H s) (h:∀ p∈pins',s.heap.get? p.1=wj p.2/\H p.1=wk/\p.1≠X.env.locals/\p.1∉X.fs/\∀ v,p.2.data≠ .cell v):Inv X pins' σ H s:=
 ⟨I.ok,I.os,I.bare,I.base,I.loc,I.cell,I.free,I.freeC,fun p hp=>(cz.mp hp).elim (fun z=>I.pin p (dn _ z)) (h p),I.hok,I.len⟩
theorem nodup_ix {N:List Str} (hN:N.Nodup) {i j:Nat} (a:N[i]?=wj x) (b:N[j]?=wj x):i=j:=by
 obtain⟨h1,e1⟩:=bg.mp a;obtain⟨h2,e2⟩:=bg.mp b;exact(List.getElem_inj hN).mp (e1.trans e2.symm)
theorem vV (I:Inv X pins σ H s) (hN:X.N.Nodup) (hi:X.N[i]?=wj x) (hx:Loc X.env.scope x) (r:RelV v u)
  (h:∀ s',Inv X pins (σ.set i (wj v)) H s'->(∃ a,fx a s.heap s'.heap/\(a=X.env.locals∨X.env.cells.lookup x=wj a))->Q () s') (hf:X.fn x=true∨X.env.scope.names.lookup x=wj .local:=by first|exact .inl rfl|exact .inr rfl|assumption):ay M A (storeName X.env x u) Q E s:=by
 obtain⟨m,hn,hl⟩:=id I.loc;have hcls:(X.env.scope.kind== .class||(X.env.scope.kind== .module&&X.env.locals !=X.env.globals))=false:=by rw[I.ok.kind];rfl
 have hiσ:i<σ.length:=by rw[I.len];exact(bg.mp hi).1
 have cne:=I.cne;have tracked:∀ {a:ae}{h':cx},(∃ o,s.heap.get? a=wj o/\H a=wk)->fx a s.heap h'->HOk X.prog X.w H h':=fun {a h'} ha hs b ob e=>by
  obtain⟨_,_,hfree⟩:=ha;refine(I.hok b ob e).stay (fun c w' hc q=>(hs.2 c ?_).trans q) (fun _ q=>q) fun _ _ q=>q;rintro rfl;rcases hc with rfl|hc
  ·rw[hfree] at e;cases e
  ·rw[hfree] at hc;cases hc
 rcases hx with hk|hk
 ·refine wpAny_storeName_local hk hn (fun h' hn' hs=> ?_) hcls;obtain⟨oL,_,_,hoL,_⟩:=id hn;refine h _ ⟨I.ok,I.os,I.bare,⟨fun b o e n hb hx=> ?_,fun b o e n hb hx=> ?_,I.base.free,fun b o e hx=> ?_,I.base.tups,I.base.frzs,I.base.tbls⟩,⟨_,hn',fun j y v' e1 e2 e3=> ?_⟩,fun y c e=> ?_,I.free,I.freeC,fun p hp=> ?_,tracked ⟨oL,hoL,I.free⟩ hs,by simpa using I.len⟩ ⟨_,hs,.inl rfl⟩
  ·exact(hs.2 b (cj (b4 (bj e) I.ok.above))).trans (I.base.keep b o e n hb hx)
  ·obtain⟨sl,e1⟩:=I.base.slot b o e n hb hx;exact⟨sl,(hs.2 b (cj (b4 (bj e) I.ok.above))).trans e1⟩
  ·obtain⟨o',e1⟩:=I.base.there b o e hx;exact⟨o',(hs.2 b (cj (b4 (bj e) I.ok.above))).trans e1⟩
  ·by_cases hj:j=i
   ·subst hj;rw[hi] at e1;cases e1;rw[dq hiσ] at e2;cases e2;exact⟨u,r,.inl ⟨hk,by simp⟩⟩
   ·rw[fy (bv hj)] at e2;obtain⟨u',r',q⟩:=hl j y v' e1 e2 e3;refine⟨u',r',?_⟩;rcases q with⟨k,e⟩|⟨k,c,e,z⟩
    ·refine .inl ⟨k,?_⟩
     have:y≠x:=fun e=>hj (nodup_ix hN e1 (e ▸ hi))
     simp[this,e]
    ·exact .inr ⟨k,c,e,z.sameBut hs (cne y c e)⟩
  ·obtain⟨w',z⟩:=I.cell y c e;exact⟨w',z.sameBut hs (cne y c e)⟩
  ·obtain⟨e,n,ne,nf,d⟩:=I.pin p hp;exact⟨(hs.2 p.1 ne).trans e,n,ne,nf,d⟩
 ·have hfn:X.fn x=true:=by
   rcases hf with z|z
   ·exact z
   ·rw[z] at hk;cases hk
  obtain⟨c,hc⟩:=I.ok.has x (.inl hk);obtain⟨w',z⟩:=I.cell x c hc;refine wpAny_storeName_cell I.ok.kind hk hc z (fun h' hc' hs=> ?_);obtain⟨oc,hoc,hocd⟩:=id z;refine h { s with heap:=h' } ⟨I.ok,I.os,I.bare,⟨fun b o e n hb hx=> ?_,fun b o e n hb hx=> ?_,I.base.free,fun b o e hx=> ?_,I.base.tups,I.base.frzs,I.base.tbls⟩,⟨m,hn.sameBut hs (bv (cne x c hc)),fun j y v' e1 e2 e3=> ?_⟩,fun y c' e=> ?_,I.free,I.freeC,fun p hp=> ?_,tracked ⟨oc,hoc,I.freeC x c hc⟩ hs,by simpa using I.len⟩ ⟨c,hs,.inr hc⟩
  ·exact(hs.2 b (cj (b4 (bj e) (I.ok.cab x c hfn hc)))).trans (I.base.keep b o e n hb hx)
  ·obtain⟨sl,e1⟩:=I.base.slot b o e n hb hx;exact⟨sl,(hs.2 b (cj (b4 (bj e) (I.ok.cab x c hfn hc)))).trans e1⟩
  ·obtain⟨o',e1⟩:=I.base.there b o e hx;exact⟨o',(hs.2 b (cj (b4 (bj e) (I.ok.cab x c hfn hc)))).trans e1⟩
  ·by_cases hj:j=i
   ·subst hj;rw[hi] at e1;cases e1;rw[dq hiσ] at e2;cases e2;exact⟨u,r,.inr ⟨.inl hk,c,hc,hc'⟩⟩
   ·rw[fy (bv hj)] at e2;obtain⟨u',r',q⟩:=hl j y v' e1 e2 e3;refine⟨u',r',?_⟩;rcases q with q|⟨k,c',e,z'⟩
    ·exact .inl q
    ·refine .inr ⟨k,c',e,z'.sameBut hs ?_⟩;rintro rfl;exact hj (nodup_ix hN e1 (I.ok.inj _ _ _ e hc ▸ hi))
  ·by_cases hcc:c'=c
   ·subst hcc;exact⟨_,hc'⟩
   ·obtain⟨w2,z2⟩:=I.cell y c' e;exact⟨w2,z2.sameBut hs hcc⟩
  ·obtain⟨e,n,ne,nf,d⟩:=I.pin p hp;refine⟨(hs.2 p.1 ?_).trans e,n,ne,nf,d⟩;intro q;rw[q,hoc] at e;have q':oc=p.2:=ce e;exact d w' (by rw[<- q'];exact hocd)
theorem AE (I:Inv X pins σ H s) (hN:X.N.Nodup) (hi:X.N[i]?=wj x) (hx:Loc X.env.scope x) (r:RelV v u)
  (h:∀ s',Inv X pins (σ.set i (wj v)) H s'->Q () s') (hf:X.fn x=true∨X.env.scope.names.lookup x=wj .local:=by first|exact .inl rfl|exact .inr rfl|assumption):ay M A (storeName X.env x u) Q E s:=
 vV I hN hi hx r (fun s' I' _=>h s' I') hf
theorem Inv.call' (I:Inv X pins σ H s) (ho:s'.os=s.os) (u:Un (frs X.stack) ch H H' s.heap s'.heap) (hok:HOk X.prog X.w H' s'.heap) (hg:mq s'.gens)
  (hch:∀ b∈ch,(b∈X.ex∨X.s₀.heap.objs.size<=b)/\b≠X.env.locals/\(∀ x c,X.env.cells.lookup x=wj c->c≠b)/\∀ p∈X.pn++pins,p.1≠b):Inv X pins σ H' s':=by
 obtain⟨h',g',d',t',o'⟩:=s';have e:o'=s.os:=ho;subst e;exact I.call (g':=g') (t':=t') (d':=d') u hok hg hch
end
noncomputable abbrev XK:=af->Option ae->Hp->Prop
noncomputable abbrev St:=List (Option V)
noncomputable abbrev VK:=V->Hp->Prop
noncomputable abbrev TE:=St->Hp->VK->Prop
noncomputable abbrev TT:=St->Hp->(Bool->Hp->Prop)->Prop
noncomputable abbrev TA:=St->Hp->(List V->Hp->Prop)->Prop
structure BB where
 nx:St->Hp->Prop
 rt:VK
 bk:St->Hp->Prop:=fun _ _=>False
 ct:St->Hp->Prop:=fun _ _=>False
noncomputable abbrev TS:=BB->St->Hp->Prop
noncomputable def EP (X:Cx) (pins:List (ae×Obj)) (σ:St) (Q:VK) (u:af) (s':am):Prop:=∃ v H',Inv X pins σ H' s'/\RelV v u/\Q v H'
noncomputable def TP (X:Cx) (pins:List (ae×Obj)) (σ:St) (Q:Bool->Hp->Prop) (b:Bool) (s':am):Prop:=∃ H',Inv X pins σ H' s'/\Q b H'
noncomputable def AP (X:Cx) (pins:List (ae×Obj)) (σ:St) (Q:List V->Hp->Prop) (us:List af) (s':am):Prop:=∃ vs H',Inv X pins σ H' s'/\Vals vs us/\Q vs H'
noncomputable def SP (X:Cx) (pins:List (ae×Obj)) (D:BB) (f:Flow) (s':am):Prop:=
 match f with
 |.next=>∃ σ' H',Inv X pins σ' H' s'/\D.nx σ' H'
 |.brk=>∃ σ' H',Inv X pins σ' H' s'/\D.bk σ' H'
 |.cont=>∃ σ' H',Inv X pins σ' H' s'/\D.ct σ' H'
 |.ret u=>∃ v σ' H',Inv X pins σ' H' s'/\RelV v u/\D.rt v H'
noncomputable def PE (X:Cx) (e:bt) (t:TE):Prop:=
 ∀(pins:List (ae×Obj)) (s:am) (σ:St) (H:Hp) (Q:VK),Inv X pins σ H s->t σ H Q->ay (model X.prog X.w) X.A (eval e X.env) (EP X pins σ Q) X.xe s
noncomputable def PT (X:Cx) (e:bt) (t:TT):Prop:=
 ∀(pins:List (ae×Obj)) (s:am) (σ:St) (H:Hp) (Q:Bool->Hp->Prop),Inv X pins σ H s->t σ H Q->ay (model X.prog X.w) X.A (isTrue e X.env (eval e X.env)) (TP X pins σ Q) X.xe s
noncomputable def PW (X:Cx) (e:bt) (t:TT):Prop:=
 ∀(whole:Sem af) (pins:List (ae×Obj)) (s:am) (σ:St) (H:Hp) (Q:Bool->Hp->Prop),Inv X pins σ H s->t σ H Q->ay (model X.prog X.w) X.A (isTrue e X.env whole) (TP X pins σ Q) X.xe s
theorem PW.pt (h:PW X e t):PT X e t:=h _
noncomputable def PA (X:Cx) (es:List bt) (t:TA):Prop:=
 ∀(pos:Pos) (pins:List (ae×Obj)) (s:am) (σ:St) (H:Hp) (Q:List V->Hp->Prop),Inv X pins σ H s->t σ H Q->ay (model X.prog X.w) X.A (spliced (di pos (av es X.env))) (AP X pins σ Q) X.xe s
noncomputable def PS (X:Cx) (st:cr) (t:TS):Prop:=
 ∀(pins:List (ae×Obj)) (s:am) (σ:St) (H:Hp) (D:BB),Inv X pins σ H s->t D σ H->ay (model X.prog X.w) X.A (exec st X.env) (SP X pins D) X.xe s
noncomputable def PSs (X:Cx) (st:List cr) (t:TS):Prop:=
 ∀(pins:List (ae×Obj)) (s:am) (σ:St) (H:Hp) (D:BB),Inv X pins σ H s->t D σ H->ay (model X.prog X.w) X.A (execs st X.env) (SP X pins D) X.xe s
theorem thn {Q Q':α->am->Prop} (h:ay M A t Q E s) (hQ:∀ a s,Q a s->Q' a s):ay M A t Q' E s:=gv h hQ fun _ _ x=>x
end L2
namespace L2
section
variable {X:Cx}
noncomputable def PD (i:Nat):TE:=fun σ H Q=>∃ v,σ[i]?=wj (wj v)/\Q v H
noncomputable def tC (v:V):TE:=fun _ H Q=>Q v H
theorem LR (hN:X.N[i]?=wj x) (hv:Vis X.env.scope x) (hd:(x==("__debug__":Str))=false:=by decide) (hcd:(x==("__classdict__":Str))=false:=by decide):PE X (.Name x pos) (PD i):=by
 intro pins s σ H Q I h;obtain⟨v,e,h⟩:=h;obtain⟨m,hn,hl⟩:=I.loc;obtain⟨u,r,l⟩:=hl i x v hN e hv;have fin:EP X pins σ Q u s:=⟨v,H,I,r,h⟩;rcases l with⟨hk,hm⟩|⟨hk,c,hc,hcell⟩
 ·exact wpAny_Name (wpAny_loadName_local I.ok.kind hk hn hm fin) hd
 ·rcases hk with hk|hk
  ·exact wpAny_Name (wpAny_loadName_cell I.ok.kind hk hc hcell fin) hd
  ·exact wpAny_Name (wpAny_loadName_free I.ok.kind hk hc hcell fin hcd) hd
theorem LY:PE X (.Constant (.int i) j pos) (tC (.int i)):=fun _ _ _ H _ I h=>wpAny_Constant_int ⟨.int i,H,I.tok _,⟨_,rfl⟩,h⟩
theorem OD:PE X (.Constant (.bool b) j pos) (tC (.bl b)):=fun _ _ _ H _ I h=>Constant_bool ⟨.bl b,H,I,rfl,h⟩
theorem LX:PE X (.Constant .none j pos) (tC .non):=fun _ _ _ H _ I h=>Constant_none ⟨.non,H,I,rfl,h⟩
theorem LU:PE X (.Constant (.str x) j pos) (tC (.str x)):=fun _ _ _ H _ I h=>Calls.Constant_str ⟨.str x,H,I.tok _,⟨_,rfl⟩,h⟩
noncomputable def Gl (X:Cx) (x:Str):Prop:=X.env.kindOf x=wj .globalImplicit
theorem uH (I:Inv X pins σ H s) (hg:Gl X x) (hm:X.mg x=wj u) (h:Q u s)
  (hd:(x==("__debug__":Str))=false:=by decide):ay (model X.prog X.w) X.A (eval (.Name x pos) X.env) Q E s:=
 pk I.ok.kind hg (Calls.loadGlobal_global (by rw[I.ok.glob];exact I.mod.glob.keeps I.bk) hm h) hd
theorem wO (I:Inv X pins σ H s) (hg:Gl X x) (hm:X.mg x=wk) (hv:de x=wj u) (h:Q u s)
  (hn:x≠"__name__":=by decide) (hd:(x==("__debug__":Str))=false:=by decide):ay (model X.prog X.w) X.A (eval (.Name x pos) X.env) Q E s:=by
 obtain⟨mb,h1,h2⟩:=I.mod.blt;exact pk I.ok.kind hg (Calls.loadGlobal_builtin (by rw[I.ok.glob];exact I.mod.glob.keeps I.bk) hm (by rw[I.ok.blt];exact h1.keeps I.bk) ((h2 x hn).trans hv) h) hd
theorem Jj (hg:Gl X x) (hm:X.mg x=wk) (hv:de x=wj u) (r:RelV v u) (hn:x≠"__name__":=by decide) (hd:(x==("__debug__":Str))=false:=by decide):PE X (.Name x pos) (tC v):=
 fun _ _ _ H _ I h=>wO I hg hm hv ⟨v,H,I,r,h⟩ hn hd
variable {a b:bt}{ta tb:TE}{pos:Pos}
noncomputable def PC (X:Cx) (op:CmpOp) (a b:bt) (t:TE):Prop:=
 ∀(pins:List (ae×Obj)) (s:am) (σ:St) (H:Hp) (Q:VK),Inv X pins σ H s->t σ H Q->
  ay (model X.prog X.w) X.A (eval a X.env) (fun v s₁=>ay (model X.prog X.w) X.A (eval b X.env) (fun u s₂=>ay (model X.prog X.w) X.A (fk op v u) (EP X pins σ Q) X.xe s₂) X.xe s₁) X.xe s
noncomputable def tB (t:TE):TT:=fun σ H Q=>t σ H fun x H1=>∃ c,x=.bl c/\Q c H1
theorem LK (h:PC X op a b t) (h1:ir op b=false:=by first|exact nobehind _ (by decide) (by decide)|rfl):PT X (.Compare a [op] [b] pos) (tB t):=by
 intro pins s σ H Q I hw;refine sf (thn (h pins s σ H _ I hw) fun v s1 h1=>thn h1 fun u s2 h2=>thn h2 fun c s3 ⟨x,H1,I1,r1,q1⟩=> ?_) h1;obtain⟨d,rfl,q⟩:=q1;cases r1;exact dm ⟨H1,I1,q⟩
variable {tA tB':TT}{rest:List bt}
noncomputable def Ql (t u:TT):TT:=fun σ H Q=>t σ H fun c H1=>if c=true then u σ H1 Q else Q false H1
noncomputable def tOr (t u:TT):TT:=fun σ H Q=>t σ H fun c H1=>if c=true then Q true H1 else u σ H1 Q
noncomputable def Qf (t:TT):TT:=fun σ H Q=>t σ H fun c H1=>Q (!c) H1
theorem IN (ha:PT X a tA):PW X (.BoolOp .And [a] pos) tA:=by
 intro wh pins s σ H Q I h;refine isTrue_and (thn (ha pins s σ H Q I h) fun c s1 e=> ?_);cases c with
 |true=>exact isTrue_and_nil e
 |false=>exact e
theorem LG (ha:PT X a tA):PW X (.BoolOp .Or [a] pos) tA:=by
 intro wh pins s σ H Q I h;refine isTrue_or (thn (ha pins s σ H Q I h) fun c s1 e=> ?_);cases c with
 |false=>exact isTrue_or_nil e
 |true=>exact e
theorem LH (ha:PT X a tA) (hb:PW X (.BoolOp .And (b::rest) pos) tB'):PW X (.BoolOp .And (a::b::rest) pos) (Ql tA tB'):=by
 intro wh pins s σ H Q I h;refine isTrue_and (thn (ha pins s σ H _ I h) fun c s1 ⟨H1,I1,q1⟩=> ?_);cases c with
 |true=>exact hb wh pins s1 σ H1 Q I1 q1
 |false=>exact⟨H1,I1,q1⟩
theorem Ox (ha:PT X a tA) (hb:PW X (.BoolOp .Or (b::rest) pos) tB'):PW X (.BoolOp .Or (a::b::rest) pos) (tOr tA tB'):=by
 intro wh pins s σ H Q I h;refine isTrue_or (thn (ha pins s σ H _ I h) fun c s1 ⟨H1,I1,q1⟩=> ?_);cases c with
 |true=>exact⟨H1,I1,q1⟩
 |false=>exact hb wh pins s1 σ H1 Q I1 q1
theorem LJ (ha:PT X a tA):PT X (.UnaryOp .Not a pos) (Qf tA):=by
 intro pins s σ H Q I h;exact isTrue_not (ha pins s σ H (fun c H1=>Q (!c) H1) I h)
noncomputable def Oq (ta tb:TE):TE:=fun σ H Q=>ta σ H fun x H1=>∃ c,x=.bl c/\if c=true then tb σ H1 Q else Q (.bl false) H1
noncomputable def Od (ta:TE):TE:=fun σ H Q=>ta σ H fun x H1=>∃ c,x=.bl c/\Q (.bl (!c)) H1
theorem LV (h:PE X a t):PE X (.BoolOp op [a] pos) t:=fun pins s σ H Q I hw=>BoolOp_one (h pins s σ H Q I hw)
theorem Mc (ha:PE X a ta) (hb:PE X (.BoolOp .And (b::rest) pos) tb):PE X (.BoolOp .And (a::b::rest) pos) (Oq ta tb):=by
 intro pins s σ H Q I h;refine BoolOp_and (thn (ha pins s σ H _ I h) fun v s1 ⟨x,H1,I1,r1,q1⟩=> ?_);obtain⟨c,rfl,q1⟩:=q1;cases r1;refine dm ?_;cases c with
 |true=>exact hb pins s1 σ H1 Q I1 q1
 |false=>exact⟨.bl false,H1,I1,rfl,q1⟩
theorem LW (ha:PE X a ta):PE X (.UnaryOp .Not a pos) (Od ta):=by
 intro pins s σ H Q I h;refine UnaryOp_ (thn (ha pins s σ H _ I h) fun v s1 ⟨x,H1,I1,r1,q1⟩=> ?_);obtain⟨c,rfl,q1⟩:=q1;cases r1;exact not_of (dm ⟨.bl (!c),H1,I1,rfl,q1⟩)
end
end L2
namespace L2
noncomputable def SqL (K:aa) (H:Hp) (a:ae) (xs:List V):Prop:=
 Rd H a (.lst xs)∨
  ∃(o:Obj) (its:Array af) (n:Nat),K.lookup a=wj o/\o.cls=.type "list"/\o.dict=wk/\o.data=.seq its n/\its.size<=sizeLine/\Vals xs its.toList
noncomputable def SqT (K:aa) (H:Hp) (a:ae) (xs:List V):Prop:=
 Rd H a (.tup xs)∨
  ∃(o:Obj) (its:Array af) (n:Nat),K.lookup a=wj o/\o.cls=.type "tuple"/\o.data=.seq its n/\its.size<=sizeLine/\Vals xs its.toList
noncomputable def QJ:af->Option V
 |.none=>wj .non
 |.bool b=>wj (.bl b)
 |.int i _=>wj (.int i)
 |.str x _=>wj (.str x)
 |.bytes b _=>wj (.byt b)
 |.float b _=>wj (.flt b)
 |.ref a=>wj (.ref a)
 |.type n=>wj (.ty n)
 |_=>wk
theorem RelV.abs (r:RelV x u):QJ u=wj x:=by
 cases x with
 |non=>cases r;rfl
 |bl _=>cases r;rfl
 |int _=>obtain⟨t,rfl⟩:=r;rfl
 |str _=>obtain⟨t,rfl⟩:=r;rfl
 |byt _=>obtain⟨t,rfl⟩:=r;rfl
 |flt _=>obtain⟨t,rfl⟩:=r;rfl
 |ref _=>cases r;rfl
 |ty _=>cases r;rfl
theorem RelV.inj (r:RelV x u) (q:RelV y u):x=y:=ce (r.abs.symm.trans q.abs)
theorem Vals.inj:∀ {xs ys:List V}{us:List af},Vals xs us->Vals ys us->xs=ys
 |_,_,_,.nil,.nil=>rfl
 |_,_,_,.cons r t,.cons r' t'=>by rw[r.inj r',Vals.inj t t']
section
variable {X:Cx}{pins:List (ae×Obj)}{σ:St}{H:Hp}{s:am}{a:ae}{xs ys:List V}
theorem SqL.of {K:aa} (h:H a=wj (.lst xs)):SqL K H a xs:=.inl (.inl h)
theorem Inv.list (I:Inv X pins σ H s) (h:SqL X.K H a xs):∃ its:List af,Vals xs its/\PlainL s.heap a its.toArray/\xs.length<=sizeLine:=by
 rcases h with h|⟨o,its,n,hk,hc,hd,hs,hz,r⟩
 ·obtain⟨z,its,n,r,e⟩:=h.ok I.hok;exact⟨its,r,⟨_,n,e,rfl,rfl,rfl⟩,z⟩
 ·refine⟨its.toList,r,⟨o,n,I.kIn a o hk,hc,hd,by simpa using hs⟩,?_⟩;have e:=r.length;simp only[d7] at e;omega
theorem Inv.tuple (I:Inv X pins σ H s) (h:SqT X.K H a xs):∃ its:List af,Vals xs its/\IsTup s.heap a its.toArray/\xs.length<=sizeLine:=by
 rcases h with h|⟨o,its,n,hk,hc,hs,hz,r⟩
 ·obtain⟨z,its,r,p⟩:=h.ok I.hok;exact⟨its,r,p,z⟩
 ·refine⟨its.toList,r,⟨o,I.kIn a o hk,hc,n,by simpa using hs⟩,?_⟩;have e:=r.length;simp only[d7] at e;omega
theorem Inv.list_inj (I:Inv X pins σ H s) (h:SqL X.K H a xs) (h':SqL X.K H a ys):xs=ys:=by
 obtain⟨its,r,⟨o,n,e,_,_,d⟩,_⟩:=I.list h;obtain⟨its',r',⟨o',n',e',_,_,d'⟩,_⟩:=I.list h';rw[e] at e';cases e';rw[d] at d';injection d' with d1 _
 have:its=its':=by simpa using congrArg Array.toList d1
 subst this;exact r.inj r'
theorem Inv.tuple_inj (I:Inv X pins σ H s) (h:SqT X.K H a xs) (h':SqT X.K H a ys):xs=ys:=by
 obtain⟨its,r,⟨o,e,_,n,d⟩,_⟩:=I.tuple h;obtain⟨its',r',⟨o',e',_,n',d'⟩,_⟩:=I.tuple h';rw[e] at e';cases e';rw[d] at d';injection d' with d1 _
 have:its=its':=by simpa using congrArg Array.toList d1
 subst this;exact r.inj r'
end
noncomputable abbrev Cx.wish (X:Cx) (E:af->am->Prop):Cx:={ X with xe:=E }
noncomputable abbrev Cx.nox (X:Cx):Cx:=X.wish fun _ _=>False
theorem Cx.Ok.wish {X:Cx} (ok:X.Ok) (E:af->am->Prop):(X.wish E).Ok:=
 ⟨ok.mod,ok.kind,ok.glob,ok.blt,ok.above,ok.inj,ok.has,ok.cab,ok.hd,ok.frames,ok.stk,ok.exf,ok.bs,ok.bsz,ok.noex,ok.exfs,ok.funs,ok.frf⟩
theorem Cx.Ok.unwish {X:Cx} (ok:(X.wish E).Ok):X.Ok:=
 ⟨ok.mod,ok.kind,ok.glob,ok.blt,ok.above,ok.inj,ok.has,ok.cab,ok.hd,ok.frames,ok.stk,ok.exf,ok.bs,ok.bsz,ok.noex,ok.exfs,ok.funs,ok.frf⟩
section
variable {X:Cx}{pins:List (ae×Obj)}{σ:St}{H:Hp}{s:am}{E:af->am->Prop}
theorem Inv.wish (I:Inv X pins σ H s) (E:af->am->Prop):Inv (X.wish E) pins σ H s:=⟨I.ok.wish E,I.os,I.bare,I.base,I.loc,I.cell,I.free,I.freeC,I.pin,I.hok,I.len⟩
theorem Inv.unwish (I:Inv (X.wish E) pins σ H s):Inv X pins σ H s:=⟨I.ok.unwish,I.os,I.bare,I.base,I.loc,I.cell,I.free,I.freeC,I.pin,I.hok,I.len⟩
theorem SP.unwish (h:SP (X.wish E) pins D f s'):SP X pins D f s':=by
 cases f with
 |next=>obtain⟨σ',H',I,q⟩:=h;exact⟨σ',H',I.unwish,q⟩
 |brk=>obtain⟨σ',H',I,q⟩:=h;exact⟨σ',H',I.unwish,q⟩
 |cont=>obtain⟨σ',H',I,q⟩:=h;exact⟨σ',H',I.unwish,q⟩
 |ret u=>obtain⟨v,σ',H',I,r,q⟩:=h;exact⟨v,σ',H',I.unwish,r,q⟩
end
section
variable {X:Cx}{st:cr}{rest:List cr}{t u:TS}{e:bt}{te:TE}{pos:Pos}
noncomputable def Oe:TS:=fun D σ H=>D.nx σ H
noncomputable def Qd (t u:TS):TS:=fun D σ H=>t { D with nx:=u D } σ H
theorem IR:PSs X [] Oe:=fun _ _ σ H _ I h=>om ⟨σ,H,I,h⟩
theorem FU (h1:PS X st t) (h2:PSs X rest u):PSs X (st::rest) (Qd t u):=by
 intro pins s σ H D I h;refine wpAny_execs_cons (thn (h1 pins s σ H { D with nx:=u D } I h) fun f s1 q=> ?_);cases f with
 |next=>
  obtain⟨σ',H',I',q⟩:=q;exact h2 pins s1 σ' H' D I' q
 |ret v=>exact q
 |brk=>exact q
 |cont=>exact q
theorem IQ (h1:PS X st t):PSs X [st] t:=by
 intro pins s σ H D I h;refine wpAny_execs_cons (thn (h1 pins s σ H D I h) fun f s1 q=> ?_);cases f with
 |next=>exact om q
 |ret v=>exact q
 |brk=>exact q
 |cont=>exact q
theorem Inv.quiet (I:Inv X pins σ H s):interactive X.env=false:=by simp[interactive,I.ok.kind]
noncomputable def Oh (te:TE):TS:=fun D σ H=>te σ H fun _ H1=>D.nx σ H1
theorem IT (he:PE X e te) (hs:jd e wk pos.line X.env=pure false:=by rfl):PS X (.Expr e pos) (Oh te):=by
 intro pins s σ H D I h;exact wpAny_Expr_any (thn (he pins s σ H _ I h) fun v s1 ⟨x,H1,I1,r1,q1⟩=>⟨σ,H1,I1,q1⟩) I.quiet hs
noncomputable def Qe (te:TE):TS:=fun D σ H=>te σ H D.rt
theorem LM (he:PE X e te):PS X (.Return (wj e) pos) (Qe te):=by
 intro pins s σ H D I h;exact wpAny_Return_some (thn (he pins s σ H _ I h) fun v s1 ⟨x,H1,I1,r1,q1⟩=>⟨x,σ,H1,I1,r1,q1⟩)
noncomputable def Qh (c:TT) (t u:TS):TS:=fun D σ H=>c σ H fun b H1=>if b=true then t D σ H1 else u D σ H1
theorem Oy (hc:PT X c tc) (ha:PSs X a t) (hb:PSs X b u):PS X (.If c a b pos) (Qh tc t u):=by
 intro pins s σ H D I h;refine wpAny_If (thn (hc pins s σ H _ I h) fun d s1 ⟨H1,I1,q1⟩=> ?_);cases d with
 |true=>exact ha pins s1 σ H1 D I1 q1
 |false=>exact hb pins s1 σ H1 D I1 q1
end
noncomputable abbrev TG:=V->St->Hp->(St->Hp->Prop)->Prop
noncomputable abbrev TGs:=List V->St->Hp->(St->Hp->Prop)->Prop
noncomputable def PG (X:Cx) (target:bt) (t:TG):Prop:=
 ∀(pins:List (ae×Obj)) (s:am) (σ:St) (H:Hp) (v:V) (u:af) (Q:St->Hp->Prop),Inv X pins σ H s->RelV v u->t v σ H Q->
  ay (model X.prog X.w) X.A (assign target X.env u) (fun _ s'=>∃ σ' H',Inv X pins σ' H' s'/\Q σ' H') X.xe s
noncomputable def PGs (X:Cx) (ts:List bt) (t:TGs):Prop:=
 ∀(pins:List (ae×Obj)) (s:am) (σ:St) (H:Hp) (vs:List V) (us:List af) (Q:St->Hp->Prop),Inv X pins σ H s->Vals vs us->t vs σ H Q->
  ay (model X.prog X.w) X.A (assignInOrder ((k8 ts X.env).map (·.2)) us) (fun _ s'=>∃ σ' H',Inv X pins σ' H' s'/\Q σ' H') X.xe s
noncomputable abbrev PX:=V->V->V->Hp->(Hp->Prop)->Prop
noncomputable def PY (X:Cx) (t:PX):Prop:=
 ∀(pins:List (ae×Obj)) (s:am) (σ:St) (H:Hp) (o i v:V) (ov iv u:af) (Q:Hp->Prop),Inv X pins σ H s->RelV o ov->RelV i iv->RelV v u->t o i v H Q->
  ay (model X.prog X.w) X.A (setItem ov iv u) (fun _ s'=>∃ H',Inv X pins σ H' s'/\Q H') X.xe s
section
variable {X:Cx}{pos:Pos}
noncomputable def Nl (i:Nat):TG:=fun v σ H Q=>Q (σ.set i (wj v)) H
theorem kC (hN:X.N.Nodup) (hi:X.N[i]?=wj x) (hx:Loc X.env.scope x) (hf:X.fn x=true∨X.env.scope.names.lookup x=wj .local:=by first|exact .inl rfl|exact .inr rfl|assumption):PG X (.Name x pos) (Nl i):=by
 intro pins s σ H v u Q I r h;exact wpAny_assign_Name (AE I hN hi hx r (fun s' I'=>⟨_,H,I',h⟩) hf)
noncomputable def QE:TGs:=fun vs σ H Q=>vs=[]/\Q σ H
noncomputable def Pi (t:TG) (u:TGs):TGs:=fun vs σ H Q=>∃ v r,vs=v::r/\t v σ H fun σ' H'=>u r σ' H' Q
theorem Ds:PGs X [] QE:=by
 intro pins s σ H vs us Q I r h;obtain⟨e,h⟩:=h;subst e;cases r;exact assignInOrder_nil ⟨σ,H,I,h⟩
theorem jG (h1:PG X e t) (h2:PGs X es u)
  (hs:(k8 (e::es) X.env).map (·.2)=assign e X.env::(k8 es X.env).map (·.2):=by rfl):PGs X (e::es) (Pi t u):=by
 intro pins s σ H vs us Q I r h;obtain⟨v,vr,e1,h⟩:=h;subst e1;cases r with
 |cons r rr=>
  rw[hs];refine assignInOrder_cons (thn (h1 pins s σ H _ _ _ I r h) fun _ s1 ⟨σ1,H1,I1,q1⟩=> ?_);exact h2 pins s1 σ1 H1 _ _ Q I1 rr q1
noncomputable def QC (K:aa) (n:Nat) (t:TGs):TG:=fun v σ H Q=>∃ a xs,v=.ref a/\SqT K H a xs/\xs.length=n/\t xs σ H Q
theorem Ib (hc:X.calm=true) (h:PGs X es t)
  (hn:(k8 es X.env).length=n:=by rfl) (hst:(k8 es X.env).findIdx? (·.1)=wk:=by rfl):PG X (.Tuple es k pos) (QC X.K n t):=by
 intro pins s σ H v u Q I r hw;obtain⟨a,xs,e1,hq,hl,hw⟩:=hw;subst e1;cases r;obtain⟨its,rv,ht,hz⟩:=I.tuple hq;refine assign_Tuple_tuple (I.ok.hd hc) ht (by simp[hn,<- hl,rv.length]) hst fun h' hx=> ?_;have I1:Inv X pins σ H { s with heap:=h' }:=I.kept (t':=s.toks) fun b o e=>hx b o (cj (bj e)) e;exact h pins _ σ H xs _ Q I1 (by simpa using rv) hw
noncomputable def gSub (to ti:TE) (t:PX):TG:=fun v σ H Q=>to σ H fun o H1=>ti σ H1 fun i H2=>t o i v H2 fun H3=>Q σ H3
theorem LQ (ho:PE X o to) (hi:PE X i ti) (hs:PY X t)
  (ha:∀ v,assign (.Subscript o i pos) X.env v=(do
   let ov <- holding [v] (eval o X.env)
   let iv <- holding [v,ov] (eval i X.env)
   mr pos
   holding [v,ov,iv] (setItem ov iv v)
   release [v,ov,iv] []):=by intro _;rfl):PG X (.Subscript o i pos) (gSub to ti t):=by
 intro pins s σ H v u Q I r h;rw[ha];refine ad (iu (thn (ho pins s σ H _ I h) fun ov s1 ⟨x,H1,I1,r1,q1⟩=> ?_));refine ad (iu (thn (hi pins s1 σ H1 _ I1 q1) fun iv s2 ⟨y,H2,I2,r2,q2⟩=> ?_));refine ad (tw (ad (iu (thn (hs pins s2 σ H2 x y v ov iv u _ I2 r1 r2 r q2) fun _ s3 ⟨H3,I3,q3⟩=> ?_))));exact wpAny_release ⟨σ,H3,I3,q3⟩
noncomputable def PH (te:TE) (g:TG):TS:=fun D σ H=>te σ H fun x H1=>g x σ H1 D.nx
theorem Ia (he:PE X e te) (hg:PG X tg g) (hs:tz [tg] e pos.line X.env=pure false:=by rfl) (hw:t6 [tg] e X.env=pure wk:=by rfl)
  (h1:(k8 [tg] X.env).map (·.2)=[assign tg X.env]:=by rfl):PS X (.Assign [tg] e pos) (PH te g):=by
 intro pins s σ H D I h;refine wpAny_Assign_stores (thn (he pins s σ H _ I h) fun v s1 ⟨x,H1,I1,r1,q1⟩=> ?_) hs hw;rw[h1];exact thn (hg pins s1 σ H1 x v _ I1 r1 q1) fun _ s2 q=>q
theorem LL (hN:X.N.Nodup) (hi:X.N[i]?=wj x) (hx:Loc X.env.scope x) (he:PE X e te) (hs:jd e (wj (.Name x pos')) pos.line X.env=pure false:=by rfl) (hf:X.fn x=true∨X.env.scope.names.lookup x=wj .local:=by first|exact .inl rfl|exact .inr rfl|assumption):
  PS X (.Assign [.Name x pos'] e pos) (PH te (Nl i)):=by
 intro pins s σ H D I h;refine wpAny_Assign_Name (thn (he pins s σ H _ I h) fun v s1 ⟨y,H1,I1,r1,q1⟩=> ?_) hs;exact AE I1 hN hi hx r1 (fun s2 I2=>⟨_,H1,I2,q1⟩) hf
end
section
variable {X:Cx}{pos:Pos}
end
structure It where
 go:Nat->Hp->Prop
 yld:Nat->Hp->V->Hp->Prop
 stop:Nat->Hp->Prop
noncomputable def Ix (X:Cx) (pins:List (ae×Obj)) (H:Hp) (b:ae):Prop:=
 H b=wk/\b≠X.env.locals/\b∉X.fs/\(b∈X.ex∨X.s₀.heap.objs.size<=b)/\(∀ x c,X.env.cells.lookup x=wj c->c≠b)/\∀ p∈X.pn++pins,p.1≠b
theorem Inv.fpOk (I:Inv X pins σ H s) (hb:s.heap.objs.size<=b) (hn:H' b=wk):Ix X pins H' b:=by
 refine⟨hn,Nat.ne_of_gt (b4 I.lt hb),I.nofs hb,.inr (cf I.sz hb),fun x c e z=> ?_,fun p hp z=> ?_⟩
 ·obtain⟨v,q⟩:=I.cell x c e;exact absurd (b4 q.lt (by rw[z];exact hb)) (gk _)
 ·exact absurd (b4 (bj (I.pin p hp).1) (by rw[z];exact hb)) (gk _)
structure KY (P:db) (w:df) (K:aa) (tg:bt) (J:It) (fp:List ae) (it:ae) (tn:Nat->cx->Prop):Prop where
 mem:it∈fp
 obj:∀ i h,tn i h->∀ b∈fp,∃ o,h.get? b=wj o/\∀ v,o.data≠ .cell v
 keep:∀ i h h',tn i h->(∀ b∈fp,∀ o,h.get? b=wj o->h'.get? b=wj o)->tn i h'
 item:∀(X:Cx),X.prog=P->X.w=w->X.K=K->X.calm=true->∀(i:Nat) (pins:List (ae×Obj)) (s:am) (σ:St) (H:Hp) (E:af->am->Prop),Inv X pins σ H s->(∀ b∈fp,Ix X pins H b)->tn i s.heap->J.go i H->
  ay (model P w) X.A (mz (.ref it)) (fun r s1=>∃ u,r=wj u/\
   ay (model P w) X.A (oq tg (.ref it) u) (fun _ s2=>∃ x H',Inv X pins σ H' s2/\RelV x u/\J.yld i H x H'/\tn (i+1) s2.heap/\∀ b∈fp,H' b=wk) E s1) E s
 done:∀(X:Cx),X.prog=P->X.w=w->X.K=K->X.calm=true->∀(i:Nat) (pins:List (ae×Obj)) (s:am) (σ:St) (H:Hp) (E:af->am->Prop),Inv X pins σ H s->(∀ b∈fp,Ix X pins H b)->tn i s.heap->J.stop i H->
  ay (model P w) X.A (mz (.ref it)) (fun r s1=>r=wk/\Inv X pins σ H s1) E s
 self:∀(A:dh) (i:Nat) (s:am) (Q:af->am->Prop) (E:af->am->Prop),tn i s.heap->Q (.ref it) s->ay (model P w) A (pyIter (.ref it)) Q E s
noncomputable abbrev TI:=St->Hp->(It->Hp->Prop)->Prop
noncomputable def PIE (X:Cx) (pins:List (ae×Obj)) (σ:St) (tg:bt) (R:It->Hp->Prop) (itv:af) (s2:am):Prop:=
 ∃(it:ae) (fp:List ae) (tn:Nat->cx->Prop) (J:It) (H':Hp),itv=.ref it/\Inv X pins σ H' s2/\KY X.prog X.w X.K tg J fp it tn/\tn 0 s2.heap/\(∀ b∈fp,Ix X pins H' b)/\R J H'
noncomputable def PI (X:Cx) (tg iter:bt) (wi:TI):Prop:=
 ∀(pins:List (ae×Obj)) (s:am) (σ:St) (H:Hp) (R:It->Hp->Prop),Inv X pins σ H s->wi σ H R->
  ay (model X.prog X.w) X.A (eval iter X.env) (fun v s1=>ay (model X.prog X.w) X.A (pyIter v) (PIE X pins σ tg R) X.xe s1) X.xe s
theorem GO (ho:s.heap.get? it=wj o) (hc:o.cls=.type n) (hd:o.data=.fields vs)
  (hn:["enumerate","zip","dict_itemiterator","dict_reverseitemiterator","odict_iterator","itertools.zip_longest","itertools.pairwise"].contains n=false) (hQ:Q () s):ay M A (oq tg (.ref it) u) Q E s:=by
 unfold oq;cases tg <;> first
  |exact ak hQ
  |(cases u <;> first
    |exact ak hQ
    |(refine ad (wpAny_load ho ?_)
      rw[hc,hd];show ay M A (if(["enumerate","zip","dict_itemiterator","dict_reverseitemiterator","odict_iterator","itertools.zip_longest","itertools.pairwise"].contains n&&vs[0]?==wj (l7 _))=true then _ else _) Q E s;rw[if_neg (by intro h;rw[hn,Bool.false_and] at h;cases h)];exact ak hQ))
noncomputable def Itl (K:aa) (a:ae):It:=
 ⟨fun i H=>∃ xs x,SqL K H a xs/\xs[i]?=wj x,fun i H x H'=>H'=H/\∀ xs,SqL K H a xs->xs[i]?=wj x,fun i H=>∃ xs,SqL K H a xs/\xs.length<=i⟩
noncomputable def Itt (K:aa) (a:ae):It:=
 ⟨fun i H=>∃ xs x,SqT K H a xs/\xs[i]?=wj x,fun i H x H'=>H'=H/\∀ xs,SqT K H a xs->xs[i]?=wj x,fun i H=>∃ xs,SqT K H a xs/\xs.length<=i⟩
noncomputable def Itr (lo:Int) (n:Nat):It:=⟨fun i _=>i<n,fun i H x H'=>H'=H/\x=.int (lo+i),fun i _=>n<=i⟩
theorem CS {K:aa} (a it:ae):KY P w K tg (Itl K a) [it] it (fun i h=>h.IsListIter it a i) where
 mem:=by simp
 obj:=fun i h st b hb=>by
  have e:b=it:=by simpa using hb
  subst e;obtain⟨o,e,c,d⟩:=st;exact⟨o,e,fun v z=>by rw[d] at z;cases z⟩
 keep:=fun i h h' st k=>st.at fun o e=>k it (by simp) o e
 item:=by
  intro X hP hw hK hc i pins s σ H E I hf st hg;subst hP hw hK;obtain⟨xs,x,hq,hx⟩:=hg;obtain⟨its,rv,p,hz⟩:=I.list hq;obtain⟨u,hu,ru⟩:=rv.get hx;obtain⟨f0,f1,f2,f3,f4,f5⟩:=hf it (by simp);refine wpAny_pyNext_list_item st p.isList (x:=u) (by simpa using hu) fun h' st' sb=> ?_;have I1:Inv X pins σ H { s with heap:=h' }:=I.turned (t':=s.toks) (fun b o hb e=>(sb.2 b hb).trans e) f0 f1 f3 f4 f5;obtain⟨o,e,c,d⟩:=id st';exact⟨u,rfl,GO (s:={ s with heap:=h' }) e c d (by decide) ⟨x,H,I1,ru,⟨rfl,fun ys hy=>by rw[I.list_inj hy hq];exact hx⟩,st',fun b hb=>(hf b hb).1⟩⟩
 done:=by
  intro X hP hw hK hc i pins s σ H E I hf st hg;subst hP hw hK;obtain⟨xs,hq,hx⟩:=hg;obtain⟨its,rv,p,hz⟩:=I.list hq;obtain⟨f0,f1,f2,f3,f4,f5⟩:=hf it (by simp);have hl:=rv.length;exact wpAny_pyNext_list_end (I.ok.hd hc) st p.isList (by simp;omega) fun h' eb=>⟨rfl,I.turned (t':=s.toks) (fun b o hb e=>eb b o hb e) f0 f1 f3 f4 f5⟩
 self:=fun _ _ _ _ _ st h=>wpAny_pyIter_listiter st h
theorem BD {K:aa} (a it:ae):KY P w K tg (Itt K a) [it] it (fun i h=>h.IsTupleIter it a i) where
 mem:=by simp
 obj:=fun i h st b hb=>by
  have e:b=it:=by simpa using hb
  subst e;obtain⟨o,e,c,d⟩:=st;exact⟨o,e,fun v z=>by rw[d] at z;cases z⟩
 keep:=fun i h h' st k=>st.at fun o e=>k it (by simp) o e
 item:=by
  intro X hP hw hK hc i pins s σ H E I hf st hg;subst hP hw hK;obtain⟨xs,x,hq,hx⟩:=hg;obtain⟨its,rv,p,hz⟩:=I.tuple hq;obtain⟨u,hu,ru⟩:=rv.get hx;obtain⟨f0,f1,f2,f3,f4,f5⟩:=hf it (by simp);refine wpAny_pyNext_tuple_item st (show s.heap.IsTuple a its.toArray from p) (x:=u) (by simpa using hu) fun h' st' sb=> ?_;have I1:Inv X pins σ H { s with heap:=h' }:=I.turned (t':=s.toks) (fun b o hb e=>(sb.2 b hb).trans e) f0 f1 f3 f4 f5;obtain⟨o,e,c,d⟩:=id st';exact⟨u,rfl,GO (s:={ s with heap:=h' }) e c d (by decide) ⟨x,H,I1,ru,⟨rfl,fun ys hy=>by rw[I.tuple_inj hy hq];exact hx⟩,st',fun b hb=>(hf b hb).1⟩⟩
 done:=by
  intro X hP hw hK hc i pins s σ H E I hf st hg;subst hP hw hK;obtain⟨xs,hq,hx⟩:=hg;obtain⟨its,rv,p,hz⟩:=I.tuple hq;obtain⟨f0,f1,f2,f3,f4,f5⟩:=hf it (by simp);have hl:=rv.length;exact wpAny_pyNext_tuple_end (I.ok.hd hc) st (show s.heap.IsTuple a its.toArray from p) (by simp;omega) fun h' eb=>⟨rfl,I.turned (t':=s.toks) (fun b o hb e=>eb b o hb e) f0 f1 f3 f4 f5⟩
 self:=fun _ _ _ _ _ st h=>wpAny_pyIter_tupleiter st h
theorem BE {K:aa} (it:ae) (lo:Int) (n:Nat):KY P w K tg (Itr lo n) [it] it (fun i h=>IsRangeIter h it (lo+(i:Nat)*1) ((n:Int)-(i:Nat)) 1) where
 mem:=by simp
 obj:=fun i h st b hb=>by
  have e:b=it:=by simpa using hb
  subst e;exact⟨_,st,fun v z=>by
   have z':Data.fields _=ui v:=z;cases z'⟩
 keep:=fun i h h' st k=>k it (by simp) _ st
 item:=by
  intro X hP hw hK hc i pins s σ H E I hf st hg;subst hP hw hK;obtain⟨f0,f1,f2,f3,f4,f5⟩:=hf it (by simp);have W:=Walks.range (prog:=X.prog) (w:=X.w) (I.ok.hd hc) it lo 1 n;refine W.item i s _ _ hg st fun v h' tk hv st' kk=> ?_;obtain⟨t,rfl⟩:=hv;have I1:Inv X pins σ H { s with heap:=h',toks:=tk }:=I.turned (fun b o hb e=>kk b o (by simpa using hb) e) f0 f1 f3 f4 f5;refine⟨_,rfl,GO (s:={ s with heap:=h',toks:=tk }) (n:="range_iterator") st' rfl rfl (by decide) ⟨.int (lo+i),H,I1,⟨t,?_⟩,⟨rfl,rfl⟩,st',fun b hb=>(hf b hb).1⟩⟩;rw[Int.mul_one]
 done:=by
  intro X hP hw hK hc i pins s σ H E I hf st hg;subst hP hw hK;obtain⟨f0,f1,f2,f3,f4,f5⟩:=hf it (by simp);exact wpAny_pyNext_range_end (I.ok.hd hc) st (by have:n<=i:=hg;omega) fun h' eb=>⟨rfl,I.turned (t':=s.toks) (fun b o hb e=>eb b o hb e) f0 f1 f3 f4 f5⟩
 self:=fun _ _ _ _ _ st h=>wpAny_pyIter_rangeiter st h
end L2
namespace L2
section
variable {X:Cx}{tg:bt}
noncomputable def Pd (K:aa) (tl:TE):TI:=fun σ H R=>tl σ H fun x H1=>∃ a,x=.ref a/\(∃ xs,SqL K H1 a xs)/\R (Itl K a) H1
noncomputable def Qy (K:aa) (tl:TE):TI:=fun σ H R=>tl σ H fun x H1=>∃ a,x=.ref a/\(∃ xs,SqT K H1 a xs)/\R (Itt K a) H1
theorem IZ (hl:PE X l tl):PI X tg l (Pd X.K tl):=by
 intro pins s σ H R I h;refine thn (hl pins s σ H _ I h) fun v s1 ⟨x,H1,I1,r1,q1⟩=> ?_;obtain⟨a,e,⟨xs,hq⟩,q⟩:=q1;subst e;cases r1;obtain⟨its,rv,p,hz⟩:=I1.list hq;refine wpAny_pyIter_list p.isList ?_;refine⟨s1.heap.objs.size,[s1.heap.objs.size],_,_,H1,rfl,I1.kept (t':=s1.toks) fun b o e=>az _ e,CS a _,⟨_,bw _ rfl,rfl,rfl⟩,fun b hb=> ?_,q⟩;have e:b=s1.heap.objs.size:=by simpa using hb
 subst e;exact I1.fpOk (bf _) (I1.hok.fresh (bf _))
theorem LP (hl:PE X l tl):PI X tg l (Qy X.K tl):=by
 intro pins s σ H R I h;refine thn (hl pins s σ H _ I h) fun v s1 ⟨x,H1,I1,r1,q1⟩=> ?_;obtain⟨a,e,⟨xs,hq⟩,q⟩:=q1;subst e;cases r1;obtain⟨its,rv,p,hz⟩:=I1.tuple hq;refine wpAny_pyIter_tuple (show s1.heap.IsTuple a its.toArray from p) ?_;refine⟨s1.heap.objs.size,[s1.heap.objs.size],_,_,H1,rfl,I1.kept (t':=s1.toks) fun b o e=>az _ e,BD a _,⟨_,bw _ rfl,rfl,rfl⟩,fun b hb=> ?_,q⟩;have e:b=s1.heap.objs.size:=by simpa using hb
 subst e;exact I1.fpOk (bf _) (I1.hok.fresh (bf _))
theorem FO {lo hi:Int} (I:Inv X pins σ H s) (h1: -(2 ^ 62)<=lo) (h2:lo<2 ^ 62) (h3: -(2 ^ 62)<=hi) (h4:hi<2 ^ 62)
  (q:R (Itr lo (hi-lo).toNat) H):ay (model X.prog X.w) X.A (pyIter (.ref s.heap.objs.size)) (PIE X pins σ tg R) E { s with heap:=s.heap.push { cls:=.type "range",data:=.fields #[.int lo t,.int hi u,.int 1 v] },toks:=tk }:=by
 refine wpAny_pyIter_range (IsRange.new ..) (small_one h1 h2 h3 h4) ?_;have I1:Inv X pins σ H { s with heap:=s.heap.push { cls:=.type "range",data:=.fields #[.int lo t,.int hi u,.int 1 v] },toks:=tk }:=I.kept fun b o e=>az _ e;refine⟨(s.heap.push { cls:=.type "range",data:=.fields #[.int lo t,.int hi u,.int 1 v] }).objs.size,[(s.heap.push { cls:=.type "range",data:=.fields #[.int lo t,.int hi u,.int 1 v] }).objs.size],_,_,H,rfl,
  I1.kept (t':=tk) fun b o e=>az _ e,BE _ lo (hi-lo).toNat,?_,fun b hb=> ?_,q⟩
 ·have e1:lo+((0:Nat):Int)*1=lo:=by simp
  have e2:(((hi-lo).toNat:Nat):Int)-((0:Nat):Int)=Builtin.Range.rangeSize lo hi 1:=by rw[rangeSize_one];split <;> omega
  show IsRangeIter _ _ (lo+((0:Nat):Int)*1) ((((hi-lo).toNat:Nat):Int)-((0:Nat):Int)) 1;rw[e1,e2];exact bw _ rfl
 ·have e:b=(s.heap.push { cls:=.type "range",data:=.fields #[.int lo t,.int hi u,.int 1 v] }).objs.size:=by simpa using hb
  subst e;exact I1.fpOk (bf _) (I1.hok.fresh (bf _))
noncomputable def Pc (ta:TA):TI:=fun σ H R=>ta σ H fun vs H1=>∃ j:Int,vs=[.int j]/\ -(2 ^ 62)<=j/\j<2 ^ 62/\R (Itr 0 j.toNat) H1
theorem Dr (hg:Gl X "range") (hm:X.mg "range"=wk) (ha:PA X [a] ta) (hs:av [a] X.env=[(false,eval a X.env)]:=by rfl):PI X tg (.Call (.Name "range" p) [a] [] pos) (Pc ta):=by
 intro pins s σ H R I h;refine Call_ (wO I hg hm boot_range (kz (thn (ha pos pins s σ H _ I h) fun us s1 ⟨vs,H1,I1,r1,q1⟩=> ?_) hs rfl));obtain⟨j,e,q1,q2,q⟩:=q1;subst e;cases r1 with
 |cons r rr=>
  cases rr;obtain⟨t,rfl⟩:=r;exact call_range_1 (FO I1 (by omega) (by omega) q1 q2 (by simpa using q))
noncomputable def Og (wi:TI) (g:TG) (tb:TS):TS:=fun D σ H=>wi σ H fun J H1=>∃ W:Nat->Nat->St->Hp->Prop,(∃ m,W 0 m σ H1)/\∀ i m σ H,W i m σ H->
 (J.stop i H/\D.nx σ H)∨(J.go i H/\∃ N:St->Hp->Prop,(∀ σ' H',N σ' H'->∃ m',m'<m/\W (i+1) m' σ' H')/\∀ x H',J.yld i H x H'->g x σ H' fun σ2 H2=>tb { D with nx:=N,ct:=N,bk:=D.nx } σ2 H2)
noncomputable def wI (fp:List ae) (h:cx):List (ae×Obj):=fp.filterMap fun b=>(h.get? b).map fun o=>(b,o)
theorem jJ (hb:b∈fp) (e:h.get? b=wj o):(b,o)∈wI fp h:=gs.mpr ⟨b,hb,by rw[e];rfl⟩
theorem DD (hp:p∈wI fp h):p.1∈fp/\h.get? p.1=wj p.2:=by
 obtain⟨b,hb,e⟩:=gs.mp hp;cases q:h.get? b with
 |none=>rw[q] at e;cases e
 |some o=>
  rw[q] at e;have e':(b,o)=p:=ce e;subst e';exact⟨hb,q⟩
theorem Inv.pinned (I:Inv X pins σ H s) (hf:∀ b∈fp,Ix X pins H b) (ho:∀ b∈fp,∃ o,s.heap.get? b=wj o/\∀ v,o.data≠ .cell v):Inv X (pins++wI fp s.heap) σ H s:=
 I.pins_of fun p hp=>(cz.mp hp).elim (fun z=>I.pin p (dw _ z)) fun z=>by
  obtain⟨hb,e⟩:=DD z;obtain⟨f0,f1,f2,_⟩:=hf p.1 hb;obtain⟨o,e',d⟩:=ho p.1 hb;rw[e] at e';cases e';exact⟨e,f0,f1,f2,d⟩
theorem Inv.unpinned (I:Inv X (pins++pl) σ H s):Inv X pins σ H s:=I.pins_of fun p hp=>I.pin p (dw _ (dn _ hp))
theorem HZ (hp:PassesOwn (model X.prog X.w) X.A X.env X.xe) (hc:X.calm=true) (hi:PI X tg iter wi) (hg:PG X tg g) (hb:PSs X body tb)
  (hs:∀ x,ga iter X.env x=pure x:=by intro _;rfl):PS X (.For tg iter body [] pos) (Og wi g tb):=by
 intro pins s σ H D I h;refine wpAny_For (thn (hi pins s σ H _ I h) fun v s1 h1=>thn h1 fun itv s2 h2=> ?_) hs;obtain⟨it,fp,tn,J,H2,e,I2,T,st2,f2,W,⟨m0,w0⟩,turn⟩:=h2;subst e
 -- what stays true of the iterator's objects through the loop
 have stat:∀ {H':Hp},(∀ b∈fp,H' b=wk)->∀ b∈fp,Ix X pins H' b:=fun hn b hb=>⟨hn b hb,(f2 b hb).2⟩;refine codeAny_forLoop_any (fun n s'=>∃ i σ' H',Inv X pins σ' H' s'/\tn i s'.heap/\(∀ b∈fp,H' b=wk)/\W i n σ' H') ?_ m0 ⟨0,σ,H2,I2,st2,fun b hb=>(f2 b hb).1,w0⟩;rintro n s3 ⟨i,σ3,H3,I3,st3,fr3,w3⟩;rcases turn i n σ3 H3 w3 with⟨stop,qn⟩|⟨go,N,hN,step⟩
 ·refine ls hp (thn (T.done X rfl rfl rfl hc i pins s3 σ3 H3 X.xe I3 (stat fr3) st3 stop) fun r s4 ⟨hr,I4⟩=> ?_);subst hr;exact om ⟨σ3,H3,I4,qn⟩
 ·refine ls hp (thn (T.item X rfl rfl rfl hc i pins s3 σ3 H3 X.xe I3 (stat fr3) st3 go) fun r s4 ⟨u,hr,h4⟩=> ?_);subst hr;refine ls hp (thn h4 fun _ s5 ⟨x,H5,I5,r5,y5,st5,fr5⟩=> ?_);have I5':=I5.pinned (stat fr5) (T.obj _ _ st5);refine ls hp (thn (hg _ s5 σ3 H5 x u _ I5' r5 (step x H5 y5)) fun _ s6 ⟨σ6,H6,I6,q6⟩=> ?_);refine ls hp (thn (hb _ s6 σ6 H6 _ I6 q6) fun f s7 q7=> ?_);have again:∀ {σ7:St}{H7:Hp},Inv X (pins++wI fp s5.heap) σ7 H7 s7->N σ7 H7->∃ m,m<n/\∃ i σ' H',Inv X pins σ' H' s7/\tn i s7.heap/\(∀ b∈fp,H' b=wk)/\W i m σ' H':=fun {σ7 H7} I7 n7=>by
   obtain⟨m',hm,w7⟩:=hN σ7 H7 n7;refine⟨m',hm,i+1,σ7,H7,I7.unpinned,T.keep _ _ _ st5 fun b hb o e=>(I7.pin (b,o) (dw _ (dw _ (jJ hb e)))).1,fun b hb=> ?_,w7⟩;obtain⟨o,e,d⟩:=T.obj _ _ st5 b hb;exact(I7.pin (b,o) (dw _ (dw _ (jJ hb e)))).2.1
  cases f with
  |next=>obtain⟨σ7,H7,I7,n7⟩:=q7;exact again I7 n7
  |cont=>obtain⟨σ7,H7,I7,n7⟩:=q7;exact again I7 n7
  |brk=>obtain⟨σ7,H7,I7,q7⟩:=q7;exact⟨σ7,H7,I7.unpinned,q7⟩
  |ret v=>obtain⟨x7,σ7,H7,I7,r7,q7⟩:=q7;exact⟨x7,σ7,H7,I7.unpinned,r7,q7⟩
end
end L2
namespace L2
noncomputable abbrev R2:=V->V->Hp->VK->Prop
noncomputable def OpR (X:Cx) (f:af->af->Sem af) (r:R2):Prop:=
 ∀(pins:List (ae×Obj)) (s:am) (σ:St) (H:Hp) (x y:V) (v u:af) (Q:VK),Inv X pins σ H s->RelV x v->RelV y u->r x y H Q->
  ay (model X.prog X.w) X.A (f v u) (EP X pins σ Q) X.xe s
noncomputable def UnR (X:Cx) (f:af->Sem af) (r:V->Hp->VK->Prop):Prop:=
 ∀(pins:List (ae×Obj)) (s:am) (σ:St) (H:Hp) (x:V) (v:af) (Q:VK),Inv X pins σ H s->RelV x v->r x H Q->
  ay (model X.prog X.w) X.A (f v) (EP X pins σ Q) X.xe s
noncomputable def CallR (X:Cx) (f:af) (r:List V->Hp->VK->Prop):Prop:=
 ∀(pins:List (ae×Obj)) (s:am) (σ:St) (H:Hp) (xs:List V) (us:List af) (Q:VK),Inv X pins σ H s->Vals xs us->r xs H Q->
  ay (model X.prog X.w) X.A (call f us) (EP X pins σ Q) X.xe s
noncomputable def QK (X:Cx) (r:V->Hp->(Bool->Hp->Prop)->Prop):Prop:=
 ∀(pins:List (ae×Obj)) (s:am) (σ:St) (H:Hp) (x:V) (v:af) (Q:Bool->Hp->Prop),Inv X pins σ H s->RelV x v->r x H Q->
  ay (model X.prog X.w) X.A (truthy v) (TP X pins σ Q) X.xe s
noncomputable def tOp (r:R2) (ta tb:TE):TE:=fun σ H Q=>ta σ H fun x H1=>tb σ H1 fun y H2=>r x y H2 Q
noncomputable def tUn (r:V->Hp->VK->Prop) (ta:TE):TE:=fun σ H Q=>ta σ H fun x H1=>r x H1 Q
noncomputable def rI (C:Int->Int->Prop) (g:Int->Int->V):R2:=fun x y H Q=>∃ i j,x=.int i/\y=.int j/\C i j/\Q (g i j) H
noncomputable def rI0 (g:Int->Int->V):R2:=fun x y H Q=>∃ i j,x=.int i/\y=.int j/\Q (g i j) H
noncomputable def rU (g:Int->V):V->Hp->VK->Prop:=fun x H Q=>∃ i,x=.int i/\Q (g i) H
section
variable {X:Cx}{a b c:bt}{ta tb tc:TE}{pos:Pos}
theorem Ps (ha:PE X a ta) (hb:PE X b tb) {R:V->V->Hp->Prop} (I:Inv X pins σ H s)
  (h:ta σ H fun x H1=>tb σ H1 fun y H2=>R x y H2) {f:af->af->Sem af}
  (hf:∀ v u s2 x y H2,Inv X pins σ H2 s2->RelV x v->RelV y u->R x y H2->ay (model X.prog X.w) X.A (f v u) Q X.xe s2):
  ay (model X.prog X.w) X.A (eval a X.env) (fun v s₁=>ay (model X.prog X.w) X.A (eval b X.env) (fun u s₂=>ay (model X.prog X.w) X.A (f v u) Q X.xe s₂) X.xe s₁) X.xe s:=by
 refine thn (ha pins s σ H _ I h) fun v s1 ⟨x,H1,I1,r1,q1⟩=> ?_;refine thn (hb pins s1 σ H1 _ I1 q1) fun u s2 ⟨y,H2,I2,r2,q2⟩=> ?_;exact hf v u s2 x y H2 I2 r1 r2 q2
theorem OB (ho:OpR X (jx op) r) (ha:PE X a ta) (hb:PE X b tb):PE X (.BinOp a op b pos) (tOp r ta tb):=by
 intro pins s σ H Q I h;exact wpAny_BinOp (Ps ha hb I h fun v u s2 x y H2 I2 rx ry q=>ho pins s2 σ H2 x y v u Q I2 rx ry q)
theorem Oz (ho:UnR X (unaryOp op) r) (ha:PE X a ta):PE X (.UnaryOp op a pos) (tUn r ta):=by
 intro pins s σ H Q I h;exact UnaryOp_ (thn (ha pins s σ H _ I h) fun v s1 ⟨x,H1,I1,r1,q1⟩=>ho pins s1 σ H1 x v Q I1 r1 q1)
theorem opI {g:Int->Int->Int}
  (rule:∀(i j:Int) (t u:Tok) (s:am) (Q:af->am->Prop) (E:af->am->Prop),C i j->Q (.int (g i j) s.toks) { s with toks:=s.toks+1 }->ay (model X.prog X.w) X.A (f (.int i t) (.int j u)) Q E s):
  OpR X f (rI C fun i j=>.int (g i j)):=by
 intro pins s σ H x y v u Q I rx ry h;obtain⟨i,j,rfl,rfl,hc,q⟩:=h;obtain⟨t,rfl⟩:=rx;obtain⟨t',rfl⟩:=ry;exact rule i j t t' s _ _ hc ⟨.int (g i j),H,I.tok _,⟨_,rfl⟩,q⟩
theorem PR {g:Int->Int->Int}
  (rule:∀(i j:Int) (t u:Tok) (s:am) (Q:af->am->Prop) (E:af->am->Prop),Q (.int (g i j) s.toks) { s with toks:=s.toks+1 }->ay (model X.prog X.w) X.A (f (.int i t) (.int j u)) Q E s):
  OpR X f (rI0 fun i j=>.int (g i j)):=by
 intro pins s σ H x y v u Q I rx ry h;obtain⟨i,j,rfl,rfl,q⟩:=h;obtain⟨t,rfl⟩:=rx;obtain⟨t',rfl⟩:=ry;exact rule i j t t' s _ _ ⟨.int (g i j),H,I.tok _,⟨_,rfl⟩,q⟩
theorem NO {g:Int->Int->Bool}
  (rule:∀(i j:Int) (t u:Tok) (s:am) (Q:af->am->Prop) (E:af->am->Prop),Q (.bool (g i j)) s->ay (model X.prog X.w) X.A (f (.int i t) (.int j u)) Q E s):
  OpR X f (rI0 fun i j=>.bl (g i j)):=by
 intro pins s σ H x y v u Q I rx ry h;obtain⟨i,j,rfl,rfl,q⟩:=h;obtain⟨t,rfl⟩:=rx;obtain⟨t',rfl⟩:=ry;exact rule i j t t' s _ _ ⟨.bl (g i j),H,I,rfl,q⟩
noncomputable def CMul (i j:Int):Prop:=(-(2 ^ 64)<i/\i<2 ^ 64)∨(-(2 ^ 64)<j/\j<2 ^ 64)
theorem CMul.ok (h:CMul i j):IntMulOk i j:=by
 rcases h with⟨h1,h2⟩|⟨h1,h2⟩
 ·exact .of_left (intBits_le_64 h1 h2)
 ·exact .of_right (intBits_le_64 h1 h2)
theorem ME:OpR X (jx .Add) (rI0 fun i j=>.int (i+j)):=PR fun _ _ _ _ _ _ _ q=>add_int q
theorem Mt:OpR X (jx .Sub) (rI0 fun i j=>.int (i-j)):=PR fun _ _ _ _ _ _ _ q=>sub_int q
theorem Mw:OpR X (jx .Mult) (rI CMul fun i j=>.int (i*j)):=opI fun _ _ _ _ _ _ _ hc q=>mul_int q hc.ok
theorem Mx:OpR X (jx .Mod) (rI (fun _ j=>0<j) fun i j=>.int (i % j)):=opI fun i j _ _ _ _ _ hc q=>by
 have h1:(0:Int)<j:=hc;exact mod_int' (by omega) (by rw[Int.fmod_eq_emod_of_nonneg i (by omega)];exact q)
theorem unI {g:Int->Int}
  (rule:∀(i:Int) (t:Tok) (s:am) (Q:af->am->Prop) (E:af->am->Prop),Q (.int (g i) s.toks) { s with toks:=s.toks+1 }->ay (model X.prog X.w) X.A (f (.int i t)) Q E s):
  UnR X f (rU fun i=>.int (g i)):=by
 intro pins s σ H x v Q I rx h;obtain⟨i,rfl,q⟩:=h;obtain⟨t,rfl⟩:=rx;exact rule i t s _ _ ⟨.int (g i),H,I.tok _,⟨_,rfl⟩,q⟩
theorem Lk:UnR X (unaryOp .USub) (rU fun i=>.int (-i)):=unI fun _ _ _ _ _ q=>neg_int q
end
section
variable {X:Cx}{a b c:bt}{ta tb tc:TE}{pos:Pos}
theorem Nt (I:Inv X pins σ H s) (q:Q (.bl k) H) (e:k=k'):EP X pins σ Q (.bool k') s:=by
 subst e;exact⟨.bl k,H,I,rfl,q⟩
theorem My:OpR X (fk .Lt) (rI0 fun i j=>.bl (decide (i<j))):=NO fun _ _ _ _ _ _ _ q=>ve q
theorem Jx:OpR X (fk .LtE) (rI0 fun i j=>.bl (decide (i<=j))):=NO fun _ _ _ _ _ _ _ q=>le_int q
theorem MA:OpR X (fk .Gt) (rI0 fun i j=>.bl (decide (j<i))):=NO fun _ _ _ _ _ _ _ q=>gt_int q
theorem OQ:OpR X (fk .GtE) (rI0 fun i j=>.bl (decide (j<=i))):=NO fun _ _ _ _ _ _ _ q=>ge_int q
theorem Jv:OpR X (fk .IsNot) (fun x y H Q=>y=.non/\Q (.bl (!decide (x=.non))) H):=by
 intro pins s σ H x y v u Q I rx ry h;obtain⟨rfl,q⟩:=h;cases ry;refine isnot_none_gen (Nt I q ?_);cases x <;> first
  |(cases rx;rfl)
  |(obtain⟨t,rfl⟩:=rx;rfl)
theorem lA (b:bt) (h:op≠ .In:=by decide) (h2:op≠ .NotIn:=by decide):ir op b=false:=by
 have e1:(op==CmpOp.In)=false:=by cases op <;> first|rfl|exact absurd rfl h
 have e2:(op==CmpOp.NotIn)=false:=by cases op <;> first|rfl|exact absurd rfl h2
 cases b <;> simp[ir,e1,e2]
theorem Jh (ho:OpR X (fk op) r) (ha:PE X a ta) (hb:PE X b tb) (hm:ir op b=false):PE X (.Compare a [op] [b] pos) (tOp r ta tb):=by
 intro pins s σ H Q I h;exact wpAny_Compare1 (Ps ha hb I h fun v u s2 x y H2 I2 rx ry q=>ho pins s2 σ H2 x y v u Q I2 rx ry q) hm
noncomputable def Lo (t:TE):TT:=fun σ H Q=>t σ H fun x H'=>∃ k,x=.bl k/\Q k H'
theorem IP (ho:OpR X (fk op) r) (ha:PE X a ta) (hb:PE X b tb) (hm:ir op b=false):PT X (.Compare a [op] [b] pos) (Lo (tOp r ta tb)):=by
 intro pins s σ H Q I h;refine sf (thn (ha pins s σ H _ I h) fun v s1 ⟨x,H1,I1,r1,q1⟩=>thn (hb pins s1 σ H1 _ I1 q1) fun u s2 ⟨y,H2,I2,r2,q2⟩=>
  thn (ho pins s2 σ H2 x y v u _ I2 r1 r2 q2) fun c s3 ⟨z,H3,I3,r3,k,e,q3⟩=> ?_) hm
 subst e;cases r3;exact dm ⟨H3,I3,q3⟩
noncomputable def Ls (r r':R2) (ta tb tc:TE):TE:=fun σ H Q=>ta σ H fun x H1=>tb σ H1 fun y H2=>r x y H2 fun z H3=>∃ k,z=.bl k/\
 (if k=true then tc σ H3 fun w' H4=>r' y w' H4 Q else Q (.bl false) H3)
theorem FT (ho:OpR X (fk op) r) (ho':OpR X (fk op') r') (ha:PE X a ta) (hb:PE X b tb) (hc:PE X c tc)
  (hm:lastMarks [op,op'] [b,c]=false:=by with_unfolding_all rfl):PT X (.Compare a [op,op'] [b,c] pos) (Lo (Ls r r' ta tb tc)):=by
 intro pins s σ H Q I h;refine isTrue_chain (thn (ha pins s σ H _ I h) fun v s1 ⟨x,H1,I1,r1,q1⟩=>test_link (thn (hb pins s1 σ H1 _ I1 q1) fun u s2 ⟨y,H2,I2,r2,q2⟩=>
  thn (ho pins s2 σ H2 x y v u _ I2 r1 r2 q2) fun d s3 ⟨z,H3,I3,r3,k,e,q3⟩=> ?_)) hm
 subst e;cases r3;refine dm ?_;cases k with
 |false=>
  obtain⟨k',e',q'⟩:=q3;cases e';exact ite_ff ⟨H3,I3,q'⟩
 |true=>
  refine ite_tt (test_last (thn (hc pins s3 σ H3 _ I3 q3) fun w' s4 ⟨z',H4,I4,r4,q4⟩=>thn (ho' pins s4 σ H4 y z' u w' _ I4 r2 r4 q4) fun d' s5 ⟨z2,H5,I5,r5,k2,e2,q5⟩=> ?_));subst e2;cases r5;exact dm ⟨H5,I5,q5⟩
noncomputable def Pt (K:aa) (x:V) (H:Hp) (k:Bool):Prop:=
 match x with
 |.non=>k=false
 |.bl b=>k=b
 |.int i=>k=(i !=0)
 |.str y=>y.length<=sizeLine/\k=((y.length:Int) !=0)
 |.byt y=>y.size<=sizeLine/\k=((y.size:Int) !=0)
 |.ref p=>(∃ xs,SqL K H p xs/\k= !xs.isEmpty)∨(∃ xs,SqT K H p xs/\k= !xs.isEmpty)∨∃ kvs,H p=wj (.dK kvs)/\k= !kvs.isEmpty
 |_=>False
theorem Ch {vs:List (κ×af)} (r:KV kvs vs):(!vs.isEmpty)= !kvs.isEmpty:=by
 cases r <;> rfl
theorem sK (r:Vals xs its):(!its.toArray.isEmpty)= !xs.isEmpty:=by
 cases r <;> simp
theorem sG:(sizeLine:Nat)<2 ^ 63:=by rw[bu];decide
theorem tru_ok:QK X (fun x H Q=>∃ k,Pt X.K x H k/\Q k H):=by
 intro pins s σ H x v Q I rx h;obtain⟨k,e,q⟩:=h;have hl:=sG;have hs:sizeLine=16777216:=bu;cases x with
 |non=>
  cases rx;have e':k=false:=e;subst e';exact truthy_none ⟨H,I,q⟩
 |bl b=>
  cases rx;have e':k=b:=e;subst e';exact dm ⟨H,I,q⟩
 |int i=>
  obtain⟨t,rfl⟩:=rx;have e':k=(i !=0):=e;subst e';exact PySem.P.truthy_int ⟨H,I,q⟩
 |str y=>
  obtain⟨t,rfl⟩:=rx;obtain⟨hy,e'⟩:y.length<=sizeLine/\k=((y.length:Int) !=0):=e;subst e';exact PySem.P.truthy_str (by omega) ⟨H,I.tok _,q⟩
 |byt y=>
  obtain⟨t,rfl⟩:=rx;obtain⟨hy,e'⟩:y.size<=sizeLine/\k=((y.size:Int) !=0):=e;subst e';exact PySem.W.truthy_bytes (by omega) ⟨H,I.tok _,q⟩
 |ref p=>
  cases rx;have e':(∃ xs,SqL X.K H p xs/\k= !xs.isEmpty)∨(∃ xs,SqT X.K H p xs/\k= !xs.isEmpty)∨∃ kvs,H p=wj (.dK kvs)/\k= !kvs.isEmpty:=e;rcases e' with⟨xs,hx,e'⟩|⟨xs,hx,e'⟩|⟨kvs,hx,e'⟩
  ·subst e';obtain⟨its,r,pl,hz⟩:=I.list hx;have hlen:=r.length;exact wpAny_truthy_list pl.isList (by simp only[bc];omega) ⟨H,I.tok _,by rw[sK r];exact q⟩
  ·subst e';obtain⟨its,r,pl,hz⟩:=I.tuple hx;have hlen:=r.length;exact truthy_tuple pl (by simp only[bc];omega) ⟨H,I.tok _,by rw[sK r];exact q⟩
  ·subst e';obtain⟨hz,hS,vs,r,m⟩:kvs.length<=sizeLine/\(p==fg)=false/\∃ vs,KV kvs vs/\s.heap.DictOf (aO X.prog X.w) p vs:=I.hok p _ hx;have hlen:kvs.length=vs.length:=i6 r;exact wpAny_truthy_dict hS m (by omega) ⟨H,I.tok _,by rw[Ch r];exact q⟩
 |_=>exact(show False from e).elim
theorem FS (ha:PE X a ta) (he:∀ whole,isTrue a X.env whole=(do let v <- whole;mr a.pos;holding [v] (truthy v))):
  PT X a (fun σ H Q=>ta σ H fun x H'=>∃ k,Pt X.K x H' k/\Q k H'):=by
 intro pins s σ H Q I h;exact isTrue_plain (thn (ha pins s σ H _ I h) fun v s1 ⟨x,H1,I1,r1,q1⟩=>tru_ok pins s1 σ H1 x v Q I1 r1 q1) (he _)
theorem BT:OpR X (jx .Add) (fun x y H Q=>∃ i j,x=.str i/\y=.str j/\i.length+j.length<=sizeLine/\Q (.str (i++j)) H):=by
 intro pins s σ H x y v u Q I rx ry h;obtain⟨i,j,rfl,rfl,hz,q⟩:=h;obtain⟨t,rfl⟩:=rx;obtain⟨t',rfl⟩:=ry;exact add_str (fun t' tk=>⟨.str (i++j),H,I.tok _,⟨_,rfl⟩,q⟩) hz
theorem lV (r:Vals [x] us):∃ u,us=[u]/\RelV x u:=by
 cases r with
 |cons r1 r2=>cases r2;exact⟨_,rfl,r1⟩
theorem Fy (r:Vals [x,y] us):∃ u w',us=[u,w']/\RelV x u/\RelV y w':=by
 cases r with
 |cons r1 r2=>
  cases r2 with
  |cons r3 r4=>cases r4;exact⟨_,_,rfl,r1,r3⟩
theorem Fg (hc:X.calm=true):CallR X (.builtin "max") (fun xs H Q=>∃ i j,xs=[.int i,.int j]/\Q (.int (if j>i then j else i)) H):=by
 intro pins s σ H xs us Q I r h;obtain⟨i,j,rfl,q⟩:=h;obtain⟨u,w',rfl,⟨t,rfl⟩,⟨t',rfl⟩⟩:=Fy r;refine max_two_ints (I.ok.hd hc) fun h' tk k=>⟨_,H,I.kept k,?_,q⟩
 by_cases hj:j>i
 ·rw[if_pos hj,if_pos hj];exact⟨_,rfl⟩
 ·rw[if_neg hj,if_neg hj];exact⟨_,rfl⟩
theorem Ff (hc:X.calm=true):CallR X (.builtin "min") (fun xs H Q=>∃ i j,xs=[.int i,.int j]/\Q (.int (if j<i then j else i)) H):=by
 intro pins s σ H xs us Q I r h;obtain⟨i,j,rfl,q⟩:=h;obtain⟨u,w',rfl,⟨t,rfl⟩,⟨t',rfl⟩⟩:=Fy r;refine min_two_ints (I.ok.hd hc) fun h' tk k=>⟨_,H,I.kept k,?_,q⟩
 by_cases hj:j<i
 ·rw[if_pos hj,if_pos hj];exact⟨_,rfl⟩
 ·rw[if_neg hj,if_neg hj];exact⟨_,rfl⟩
theorem call_int1:CallR X (.type "int") (fun xs H Q=>(∃ i,xs=[.int i]/\Q (.int i) H)∨∃ k,xs=[.bl k]/\Q (.int (if k then 1 else 0)) H):=by
 intro pins s σ H xs us Q I r h;rcases h with⟨i,rfl,q⟩|⟨k,rfl,q⟩
 ·obtain⟨u,rfl,t,rfl⟩:=lV r;exact call_int_int ⟨.int i,H,I,⟨_,rfl⟩,q⟩
 ·obtain⟨u,rfl,r1⟩:=lV r;cases r1;exact call_int_bool ⟨.int (if k then 1 else 0),H,I.tok _,⟨_,rfl⟩,q⟩
noncomputable def Pz (K:aa) (x:V) (H:Hp) (n:Nat):Prop:=
 match x with
 |.str y=>y.length<=sizeLine/\n=y.length
 |.byt y=>y.size<=sizeLine/\n=y.size
 |.ref p=>(∃ xs,SqL K H p xs/\n=xs.length)∨∃ xs,SqT K H p xs/\n=xs.length
 |_=>False
theorem HK:CallR X (.builtin "len") (fun xs H Q=>∃ x n,xs=[x]/\Pz X.K x H n/\Q (.int n) H):=by
 intro pins s σ H xs us Q I r h;obtain⟨x,n,rfl,e,q⟩:=h;obtain⟨u,rfl,rx⟩:=lV r;have hl:=sG;have hs:sizeLine=16777216:=bu;cases x with
 |str y=>
  obtain⟨t,rfl⟩:=rx;obtain⟨hy,e'⟩:y.length<=sizeLine/\n=y.length:=e;subst e';exact len_str (by omega) ⟨.int _,H,I.tok _,⟨_,rfl⟩,q⟩
 |byt y=>
  obtain⟨t,rfl⟩:=rx;obtain⟨hy,e'⟩:y.size<=sizeLine/\n=y.size:=e;subst e';exact PySem.W.len_bytes (by omega) ⟨.int _,H,I.tok _,⟨_,rfl⟩,q⟩
 |ref p=>
  cases rx;have e':(∃ xs,SqL X.K H p xs/\n=xs.length)∨∃ xs,SqT X.K H p xs/\n=xs.length:=e;rcases e' with⟨xs,hx,e'⟩|⟨xs,hx,e'⟩
  ·subst e';obtain⟨its,r',pl,hz⟩:=I.list hx;have hlen:=r'.length;exact Calls.call_len_list pl.isList (by simp only[bc];omega) ⟨.int xs.length,H,I.tok _,⟨_,by simp only[bc];rw[hlen]⟩,q⟩
  ·subst e';obtain⟨its,r',pl,hz⟩:=I.tuple hx;have hlen:=r'.length;exact len_tuple pl (by simp only[bc];omega) ⟨.int xs.length,H,I.tok _,⟨_,by simp only[bc];rw[hlen]⟩,q⟩
 |_=>exact(show False from e).elim
end
end L2
namespace L2
structure ObjM (h:cx) (x dx C:ae) (mA:Str->Option af):Prop where
 obj:h.get? x=wj (iz C dx)
 ns:h.Ns1 dx mA
 ne:dx≠x
theorem DX {h:cx} (n:h.Ns1 dx mA):∃ od,h.get? dx=wj od/\∀ name,o7 name od=wj (mA name):=by
 obtain⟨o,es,ep,ho,hd,hk,_,hm⟩:=n;refine⟨o,ho,fun name=> ?_⟩;have e:=hm name;unfold nsFind findBy at e;rw[<- Array.find?_toList] at e;unfold o7;rw[hd];dsimp only;split
 ·rename_i y q
  rw[q] at e;exact congrArg wj e
 ·rename_i q
  rw[q] at e;have a:es.toList.any (·.refKey)=false:=by
   rw[List.any_eq_false];intro y hy;obtain⟨z,t,hkey⟩:=hk y (Array.mem_toList_iff.mp hy);simp[DictEntry.refKey,hkey]
  have a':¬ es.toList.any (·.refKey)=true:=by rw[a];exact cg
  rw[if_neg a'];exact congrArg wj e
theorem ObjM.look (I:ObjM h x dx C mA):∃ od,PySem.W.InstAt h x (iz C dx) C (wj od)/\∀ name,o7 name od=wj (mA name):=
 let ⟨od,ho,hl⟩:=DX I.ns
 ⟨od,⟨I.obj,rfl,rfl,ho⟩,hl⟩
section
variable {prog:db}{w:df}{A:dh}{E:af->am->Prop}{s:am}{K:aa}{x dx C f:ae}{mA:Str->Option af}{name:Str}{v:af}
theorem Ks (X:K.In s.heap) (I:ObjM s.heap x dx C mA) (hg:ng K C name=true) (hh:pz K C=true)
  (ha:gy K (.ref C) name=wj wk) (hv:mA name=wj v) (hv':u6 v=true) (h:Q v { s with toks:=s.toks+1 }):
  ay (model prog w) A (getAttr (.ref x) name expr) Q E s:=by
 obtain⟨od,J,hl⟩:=I.look;exact PySem.W.get_value X J (o6 hg).1 (PySem.W.findObj_own hh ha rfl (by rw[hl,hv])) hv' h
theorem GP (X:K.In s.heap) (I:ObjM s.heap x dx C mA) (hg:ng K C name=true)
  (hf:gy K (.ref C) name=wj (wj (.ref f))) (ht:ou K (.ref f)=true) (hv:mA name=wk) (h:Q (.ref f,[.ref x]) s):
  ay (model prog w) A (l8 (.ref x) name pl) Q E s:=by
 obtain⟨od,J,hl⟩:=I.look;exact PySem.W.method_fn X J (o6 hg).1 (o6 hg).2 hf (beq_iff_eq.mp ht) (by show(o7 name od).map (·.isSome)=wj false;rw[hl,hv];rfl) h
theorem IG (X:K.In s.heap) (I:ObjM s.heap x dx C mA)
  (hs:gy K (.ref C) "__setattr__"=wj (wj (.builtin "object.__setattr__"))) (hp:uz K C=true) (ht:qu K C name=wj wk) (hh:pz K C=true)
  (hw:uh mA ns) (hsz:ns.length<=sizeLine)
  (h:∀ h',ObjM h' x dx C (fun y=>if y=name then wj v else mA y)->fx dx s.heap h'->Q () { s with heap:=h',toks:=s.toks+2 }):
  ay (model prog w) A (setAttr (.ref x) name v) Q E s:=by
 obtain⟨od,J,hl⟩:=I.look;refine PySem.W.set_plain X J hs (PySem.W.osa_open (s:={ s with toks:=s.toks+1 }) (r:=wk) X J hp ht fun b=> ?_);obtain⟨cd,hc,hd'⟩:=PySem.W.any_some hh;have hx:s.heap.get? x=wj ⟨.ref C,wj dx,.plain,#[]⟩:=I.obj;refine ad (ak (ad (ad (wpAny_loadPart hx (ad (PySem.W.Looks.here (s:={ s with toks:=s.toks+1 }) (PySem.W.looks_clsIn X hc) ?_))))));rw[hd'];refine ak (a:=wj dx) (ad (ak (ad ?_)));refine wpAny_nsSet1 (s:={ s with toks:=s.toks+1 }) I.ns fun h' hn2 hs2=> ?_;obtain⟨oD,esD,epD,hoD,hdD,hcD⟩:=hn2.count (PySem.Within.cons name v hw);refine ad (wpAny_lookBehind hoD (by rw[hdD];exact pastItsLine_dict (cf hcD (by rw[bz];omega))) ?_);exact ak (h _ ⟨(hs2.2 _ (bv I.ne)).trans I.obj,hn2,I.ne⟩ hs2)
theorem GB (X:K.In s.heap) (hm:qv K C=true)
  (hi:gy K (.ref C) "__init__"=wj (wj (.ref f))) (hf:PySem.W.typeIn K (.ref f)=wj (.type "function"))
  (h:oa (model prog w) (A.under (.builtin "type.__call__" ⟨.ref C::vs,kw⟩)) (.call (.ref f) ⟨.ref (s.heap.objs.size+1)::vs,kw⟩) (PySem.W.InitBack (s.heap.objs.size+1) R)
   { s with heap:=(s.heap.push gz).push (iz C s.heap.objs.size) }):
  oa (model prog w) A (.call (.ref C) ⟨vs,kw⟩) R s:=by
 obtain⟨hh,g,d,t,os⟩:=s;exact PySem.W.make_core (PySem.W.makes_of X hm) (PySem.W.looks_findIn X hi) (fun self=>PySem.W.bind_fn X self hf) (.inl rfl) h
end
noncomputable def putF (f:Str) (v:V):List (Str×V)->List (Str×V)
 |[]=>[(f,v)]
 |(g,x)::r=>if g=f then(g,v)::r else(g,x)::putF f v r
theorem oY (f g:Str) (v:V):∀ fs:List (Str×V),(putF f v fs).lookup g=if g=f then wj v else fs.lookup g
 |[]=>by
  show jt g [(f,v)]=_
  by_cases h:g=f
  ·have hb:(g==f)=true:=beq_iff_eq.mpr h;simp only[jt,hb,if_pos h]
  ·have hb:(g==f)=false:=beq_eq_false_iff_ne.mpr h;simp only[jt,hb,if_neg h]
 |(k,x)::r=>by
  have ih:=oY f g v r;rw[show putF f v ((k,x)::r)=(if k=f then(k,v)::r else(k,x)::putF f v r) from rfl]
  by_cases hk:k=f
  ·rw[if_pos hk]
   by_cases h:g=k
   ·have hb:(g==k)=true:=beq_iff_eq.mpr h;simp only[jt,hb,if_pos (h.trans hk)]
   ·have hb:(g==k)=false:=beq_eq_false_iff_ne.mpr h;simp only[jt,hb,if_neg (fun e:g=f=>h (e.trans hk.symm))]
  ·rw[if_neg hk]
   by_cases h:g=k
   ·have hb:(g==k)=true:=beq_iff_eq.mpr h;simp only[jt,hb,if_neg (fun e:g=f=>hk (h.symm.trans e))]
   ·have hb:(g==k)=false:=beq_eq_false_iff_ne.mpr h;simp only[jt,hb];exact ih
theorem pB (f:Str) (v:V):∀ fs:List (Str×V),f∈(putF f v fs).map (·.1)/\∀ g,g∈fs.map (·.1)->g∈(putF f v fs).map (·.1)
 |[]=>⟨by simp[putF],fun g h=>by simp at h⟩
 |(k,x)::r=>by
  obtain⟨i1,i2⟩:=pB f v r;rw[show putF f v ((k,x)::r)=(if k=f then(k,v)::r else(k,x)::putF f v r) from rfl]
  by_cases hk:k=f
  ·rw[if_pos hk];subst hk;exact⟨by simp,fun g h=>by simpa using h⟩
  ·rw[if_neg hk];refine⟨?_,fun g h=> ?_⟩
   ·rw[bh];exact ag _ i1
   ·rw[bh] at h ⊢;rcases ai.mp h with e|e
    ·exact ai.mpr (.inl e)
    ·exact ag _ (i2 g e)
theorem oZ (f:Str) (v:V):∀ fs:List (Str×V),(putF f v fs).length<=fs.length+1
 |[]=>by simp[putF]
 |(k,x)::r=>by
  have ih:=oZ f v r;rw[show putF f v ((k,x)::r)=(if k=f then(k,v)::r else(k,x)::putF f v r) from rfl]
  by_cases hk:k=f
  ·rw[if_pos hk,bz,bz];omega
  ·rw[if_neg hk,bz,bz];omega
theorem RelO.some_of (r:RelO (wj v) o):∃ u,o=wj u/\RelV v u:=by
 cases o with
 |none=>exact(show False from r).elim
 |some u=>exact⟨u,rfl,r⟩
theorem RelO.none_of (r:RelO wk o):o=wk:=by
 cases o with
 |none=>rfl
 |some u=>exact(show False from r).elim
theorem El (r:RelV v u):u6 u=true:=by
 cases v with
 |non=>cases (show u=ic from r);rfl
 |bl b=>cases (show u=sy b from r);rfl
 |int i=>obtain⟨t,e⟩:=(show ∃ t,u=uf i t from r);cases e;rfl
 |str x=>obtain⟨t,e⟩:=(show ∃ t,u=ug x t from r);cases e;rfl
 |byt b=>obtain⟨t,e⟩:=(show ∃ t,u=Value.bytes b t from r);cases e;rfl
 |flt b=>obtain⟨t,e⟩:=(show ∃ t,u=Value.float b t from r);cases e;rfl
 |ref a=>cases (show u=b9 a from r);rfl
 |ty n=>cases (show u=k7 n from r);rfl
section
variable {P:db}{w:df}{H H':Hp}{h h':cx}{a C dx:ae}{fs fs':List (Str×V)}
theorem zC (hok:HOk P w H h) (e:H a=wj (.ins C dx fs)):∃ mA,ObjM h a dx C mA/\(∀ f,RelO (fs.lookup f) (mA f))/\uh mA (fs.map (·.1))/\fs.length<=1000/\H dx=wj (.own a):=by
 obtain⟨d,z,ne,ob,mA,n,r,q⟩:=(show ObjOk P w H h a (.ins C dx fs) from hok a _ e);exact⟨mA,⟨ob,n,ne⟩,r,q,z,d⟩
end
structure Cls (K:aa) (C:ae):Prop where
 pg:ng K C Str.empty=true
 hd:pz K C=true
 po:uz K C=true
 sa:gy K (.ref C) "__setattr__"=wj (wj (.builtin "object.__setattr__"))
theorem Cls.get {K:aa} (c:Cls K C) (f:Str):ng K C f=true:=c.pg
noncomputable def NoAttr (K:aa) (C:ae) (f:Str):Prop:=gy K (.ref C) f=wj wk
theorem NoAttr.taker {K:aa} (n:NoAttr K C f):qu K C f=wj wk:=by
 unfold qu;rw[show gy K (.ref C) f=wj wk from n];rfl
structure HW (K:aa) (C:ae) (m:Str) (f:ae):Prop where
 at_:gy K (.ref C) m=wj (wj (.ref f))
 fn:ou K (.ref f)=true
 kp:gn K (.ref f)=true
section
variable {X:Cx}{pins:List (ae×Obj)}{σ:St}{H:Hp}{s:am}{a C dx:ae}{fs:List (Str×V)}{f:Str}{v:V}{A:dh}{E:af->am->Prop}
theorem Co (I:Inv X pins σ H s) (e:H a=wj (.ins C dx fs)) (c:Cls X.K C) (n:NoAttr X.K C f) (l:fs.lookup f=wj v)
  (h:∀ u s',Inv X pins σ H s'->RelV v u->Q u s'):ay (model X.prog X.w) A (getAttr (.ref a) f b) Q E s:=by
 obtain⟨mA,O,r,_,_,_⟩:=zC I.hok e;obtain⟨u,hu,ru⟩:=RelO.some_of (v:=v) (o:=mA f) (by rw[<- l];exact r f);exact Ks I.kIn O (c.get f) c.hd n hu (El ru) (h u _ (I.tok _) ru)
theorem sO (I:Inv X pins σ H s) (e:H a=wj (.ins C dx fs)) (c:Cls X.K C) (k:HW X.K C m g) (l:fs.lookup m=wk)
  (h:Q (.ref g,[.ref a]) s):ay (model X.prog X.w) A (l8 (.ref a) m pl) Q E s:=by
 obtain⟨mA,O,r,_,_,_⟩:=zC I.hok e;have hn:mA m=wk:=RelO.none_of (by rw[<- l];exact r m);exact GP I.kIn O (c.get m) k.at_ k.fn hn h
theorem BI (I:Inv X pins σ H s) (e:H a=wj (.ins C dx fs)) (c:Cls X.K C) (n:NoAttr X.K C f) (hl:fs.length<1000) (ry:RelV y u)
  (h:∀ s',Inv X pins σ (upd H a (.ins C dx (putF f y fs))) s'->Q () s'):ay (model X.prog X.w) A (setAttr (.ref a) f u) Q E s:=by
 obtain⟨mA,O,r,wi,_,ho⟩:=zC I.hok e;have hz:(fs.map (·.1)).length<=sizeLine:=by rw[ao,bu];omega
 refine IG I.kIn O c.sa c.po n.taker c.hd wi hz fun h' O' sb=>h _ ?_;have hd:∃ o,h'.get? dx=wj o:=let ⟨o,_,_,e',_⟩:=O'.ns;⟨o,e'⟩;refine I.write (x:=a) (e:=dx) (by rw[e];exact ig) (.inr ho) (fun b q hb z=>(sb.2 b hb).trans z) hd ?_;refine⟨by rw[aG O.ne];exact ho,?_,O.ne,O'.obj,_,O'.ns,fun g=> ?_,fun g hg=> ?_⟩
 ·have:=oZ f y fs;omega
 ·show RelO ((putF f y fs).lookup g) (if g=f then wj u else mA g);rw[oY]
  by_cases q:g=f
  ·rw[if_pos q,if_pos q];exact ry
  ·rw[if_neg q,if_neg q];exact r g
 ·by_cases q:g=f
  ·rw[q];exact(pB f y fs).1
  ·refine(pB f y fs).2 g (wi g fun z=>hg ?_)
   show(if g=f then wj u else mA g)=wk
   rw[if_neg q];exact z
theorem Inv.made (I:Inv X pins σ H s):Inv X pins σ (upd (upd H s.heap.objs.size (.own (s.heap.objs.size+1))) (s.heap.objs.size+1) (.ins C s.heap.objs.size []))
  { s with heap:=(s.heap.push gz).push (iz C s.heap.objs.size) }:=by
 have e1:(s.heap.push gz).get? s.heap.objs.size=wj gz:=bw s.heap rfl;have e2:((s.heap.push gz).push (iz C s.heap.objs.size)).get? (s.heap.objs.size+1)=wj (iz C s.heap.objs.size):=by
  have:=bw (s.heap.push gz) (o:=iz C s.heap.objs.size) rfl
  rwa [ii] at this
 have e3:(s.heap.push gz).Ns s.heap.objs.size (fun _=>wk):=⟨gz,#[],_,e1,rfl,(fun e he=>absurd he (by simp)),fun _=>rfl⟩;have I1:=I.laid (a:=s.heap.objs.size) (o:=.own (s.heap.objs.size+1)) (h':=s.heap.push gz) (t':=s.toks) (fun b u q=>az _ q) (bf _) ⟨_,e1⟩;refine I1.laid (a:=s.heap.objs.size+1) (o:=.ins C s.heap.objs.size []) (t':=s.toks) (fun b u q=>az _ q) (uj (ii _ _)) ?_;have ne:s.heap.objs.size≠s.heap.objs.size+1:=cj (nh _);refine⟨by rw[aG ne,aQ],im _,ne,e2,fun _=>wk,(Heap.Ns1.of_empty e3).at fun o q=>az _ q,fun _=>ig,fun y hy=>absurd rfl hy⟩
theorem KS (hb:ib e f env (eval e env)=eval e env)
  (h:ay (model prog w) A (eval e env) (fun o s₁=>ay (model prog w) A (getAttr o f true) Q E s₁) E s):ay (model prog w) A (eval (.Attribute e f pos) env) Q E s:=
 Attribute_any_ h (by rw[arm_eval_Attribute,hb])
end
noncomputable def Qi (K:aa) (ta:TE) (f:Str):TE:=fun σ H Q=>ta σ H fun x H1=>∃ a C dx fs v,x=.ref a/\H1 a=wj (.ins C dx fs)/\Cls K C/\NoAttr K C f/\fs.lookup f=wj v/\Q v H1
noncomputable def Qm (K:aa) (ta tv:TE) (f:Str):TS:=fun D σ H=>tv σ H fun y H1=>ta σ H1 fun x H2=>∃ a C dx fs,x=.ref a/\H2 a=wj (.ins C dx fs)/\Cls K C/\NoAttr K C f/\fs.length<1000/\
 D.nx σ (upd H2 a (.ins C dx (putF f y fs)))
section
variable {X:Cx}{o e value:bt}{f:Str}{pos pos' tpos:Pos}{ta tv:TE}
theorem LZ (he:PE X e ta) (hb:ib e f X.env (eval e X.env)=eval e X.env):PE X (.Attribute e f pos) (Qi X.K ta f):=by
 intro pins s σ H Q I h;refine KS hb (thn (he pins s σ H _ I h) fun u s1 ⟨x,H1,I1,rx,a,C,dx,fs,v,ex,ea,c,n,l,q⟩=> ?_);subst ex;obtain rfl:u=b9 a:=rx;exact Co I1 ea c n l fun u' s2 I2 ru=>⟨v,H1,I2,ru,q⟩
theorem LN (ha:PE X o ta) (hv:PE X value tv) (hs:jd value (wj (.Attribute o f pos')) pos.line X.env=pure false):PS X (.Assign [.Attribute o f pos'] value pos) (Qm X.K ta tv f):=by
 intro pins s σ H D I h;refine plainObj_wpAny_Assign_Attribute (thn (hv pins s σ H _ I h) fun u s1 ⟨y,H1,I1,ry,q⟩=>thn (ha pins s1 σ H1 _ I1 q) fun ov s2 ⟨x,H2,I2,rx,a,C,dx,fs,ex,ea,c,n,l,q2⟩=> ?_) hs;subst ex;obtain rfl:ov=b9 a:=rx;exact BI I2 ea c n l ry fun s3 I3=>⟨σ,_,I3,q2⟩
end
section
variable {X:Cx}{pins:List (ae×Obj)}{σ:St}{H:Hp}{s:am}{A:dh}{E:af->am->Prop}{Q:af->am->Prop}{c:af}{b:Bool}
end
end L2
namespace L2
structure Room (k:Nat) (A:dh):Prop where
 hd:A.handled=wk
 dp:A.depth+3*k+5<recursionLimit
 un:A.units+16*k+200<dr
theorem Room.mono (r:Room k A) (h:j<=k):Room j A:=⟨r.hd,by have:=r.dp;omega,by have:=r.un;omega⟩
theorem Room.deeper (r:Room (k+1) A) (env:Env):Room k (A.deeper env):=
 ⟨r.hd,by have:=r.dp;show A.depth+1+3*k+5<_;omega,by have:=r.un;show A.units+3+16*k+200<_;omega⟩
theorem Ca {A:dh}:(A.under (.builtin "type.__call__" ⟨.ref C::us,kw⟩)).depth=A.depth+1:=by
 first|rfl|simp[uk,Code.weight,Code.isCreation,Code.isGuard,Code.isCaller,Code.frames,ul,guardIds]
theorem BZ {A:dh}:(A.under (.builtin "type.__call__" ⟨.ref C::us,kw⟩)).units=A.units+1:=by
 first|rfl|simp[uk,Code.cUnits,Code.frames,ul]
theorem Room.make (r:Room (k+1) A) (C:ae) (us:List af) (kw:List (Str×af)):Room k (A.under (.builtin "type.__call__" ⟨.ref C::us,kw⟩)):=
 ⟨r.hd,by have:=r.dp;rw[Ca];omega,by have:=r.un;rw[BZ];omega⟩
theorem Room.depth (r:Room k A):A.depth<recursionLimit:=by have:=r.dp;omega
theorem Room.units (r:Room k A):A.units+64<dr:=by have:=r.un;omega
noncomputable def PF:TA:=fun _ H Q=>Q [] H
noncomputable def Oo (ta:TE) (tr:TA):TA:=fun σ H Q=>ta σ H fun x H1=>tr σ H1 fun xs H2=>Q (x::xs) H2
section
variable {X:Cx}{e:bt}{es:List bt}{te:TE}{t:TA}{pos:Pos}
theorem AN:PA X [] PF:=fun _ _ _ _ H Q I h=>Calls.spliced_nil ⟨[],H,I,.nil,h⟩
theorem oJ (ha:PE X e te) (hr:PA X es t) (hs:av (e::es) X.env=(false,eval e X.env)::av es X.env:=by rfl):PA X (e::es) (Oo te t):=by
 intro pos pins s σ H Q I h;rw[hs];show ay _ _ (spliced ((false,eval e X.env)::di pos (av es X.env))) _ _ s;refine Calls.spliced_cons (thn (ha pins s σ H _ I h) fun u s1 ⟨x,H1,I1,r1,q1⟩=> ?_);exact thn (hr pos pins s1 σ H1 _ I1 q1) fun us s2 ⟨xs,H2,I2,r2,q2⟩=>⟨x::xs,H2,I2,.cons r1 r2,q2⟩
noncomputable def Qc (t:TA):TE:=fun σ H Q=>t σ H fun xs H1=>xs.length<=sizeLine/\∀ p,H1 p=wk->Q (.ref p) (upd H1 p (.tup xs))
noncomputable def Qg (t:TA):TE:=fun σ H Q=>t σ H fun xs H1=>xs.length<=sizeLine/\∀ p,H1 p=wk->Q (.ref p) (upd H1 p (.lst xs))
theorem LS (h:PA X es t):PE X (.Tuple es x1 pos) (Qc t):=by
 intro pins s σ H Q I hq;refine wpAny_Tuple_spliced (thn (h pos pins s σ H _ I hq) fun us s1 ⟨xs,H1,I1,r,z,q⟩=>⟨by rw[<- r.length];exact z,?_⟩);have hf:H1 s1.heap.objs.size=wk:=I1.hok.fresh (bf _);refine⟨.ref s1.heap.objs.size,upd H1 s1.heap.objs.size (.tup xs),I1.laid (t':=s1.toks) (fun b u e=>az _ e) (bf _) ?_,rfl,q _ hf⟩;exact⟨z,us,r,⟨_,bw _ rfl,rfl,_,rfl⟩⟩
theorem Ic (h:PA X es t):PE X (.List es pos) (Qg t):=by
 intro pins s σ H Q I hq;refine wpAny_List_spliced (thn (h pos pins s σ H _ I hq) fun us s1 ⟨xs,H1,I1,r,z,q⟩=>⟨by rw[<- r.length];exact z,?_⟩);have hf:H1 s1.heap.objs.size=wk:=I1.hok.fresh (bf _);refine⟨.ref s1.heap.objs.size,upd H1 s1.heap.objs.size (.lst xs),I1.laid (t':=s1.toks) (fun b u e=>az _ e) (bf _) ?_,rfl,q _ hf⟩;exact⟨z,us,0,r,bw _ rfl⟩
end
noncomputable abbrev Sp:=List V->Hp->VK->XK->Prop
noncomputable abbrev CXT:=List Env->Hp->am->XK->af->am->Prop
structure Env0 (P:db) (w:df) (K:aa) (mg:Str->Option af) (base:cx) (A:dh) (outer:List Env) (s:am) (H:Hp):Prop where
 frames:A.frames=wj outer
 mod:Mod K mg base
 bs:∀ b o,base.get? b=wj o->s.heap.get? b=wj o/\H b=wk
 bsz:base.objs.size<=s.heap.objs.size
 funs:s.heap.FunFrames base outer
 frf:∀ b∈frs outer,H b=wk
 hok:HOk P w H s.heap
 bare:mq s.gens
noncomputable def CE (outer:List Env) (P:db) (w:df) (H:Hp) (s:am) (Q:VK) (u:af) (s':am):Prop:=
 ∃ v H',s'.os=s.os/\mq s'.gens/\Un (frs outer) [] H H' s.heap s'.heap/\HOk P w H' s'.heap/\RelV v u/\Q v H'
noncomputable def CR (CX:CXT) (outer:List Env) (P:db) (w:df) (H:Hp) (s:am) (Q:VK) (E:XK) (r:Result) (s':am):Prop:=
 match r with
 |.ok (.ret u)=>CE outer P w H s Q u s'
 |.ok _=>False
 |.error e=>CX outer H s E e s'
structure rP (P:db) (w:df) (K:aa) (mg:Str->Option af) (base:cx) (CX:CXT) (k:Nat) (f:ae) (fd:jk) (ps:List Str) (sp:Sp):Prop where
 len:∀ vs H Q E,sp vs H Q E->vs.length=ps.length
 run:∀(A:dh) (outer:List Env) (s:am) (H:Hp) (args:Args) (us:List af) (vs:List V) (Q:VK) (E:XK),Room k A->Env0 P w K mg base A outer s H->sg s fd args (ps.zip us)->Vals vs us->sp vs H Q E->
  oa (model P w) A (.call (.ref f) args) (CR CX outer P w H s Q E) s
theorem Env0.make {K:aa} (e:Env0 P w K mg base A outer s H) (C:ae) (us:List af) (kw:List (Str×af)):
  Env0 P w K mg base (A.under (.builtin "type.__call__" ⟨.ref C::us,kw⟩)) outer s H:=⟨by first|exact e.frames|(simpa [uk,Code.envs,ul,pushEnvs] using e.frames),e.mod,e.bs,e.bsz,e.funs,e.frf,e.hok,e.bare⟩
section
variable {X:Cx}{pins:List (ae×Obj)}{σ:St}{H:Hp}{s s':am}
theorem Inv.env0 (I:Inv X pins σ H s):Env0 X.prog X.w X.K X.mg X.base X.A X.stack s H:=
 ⟨I.ok.frames,I.ok.mod,I.bs,cf I.ok.bsz I.sz,I.stack,I.stkFree,I.hok,I.bare⟩
theorem Inv.after (I:Inv X pins σ H s) (h:CE X.stack X.prog X.w H s Q u s'):EP X pins σ Q u s':=by
 obtain⟨v,H',os,bare,un,hok,r,q⟩:=h;obtain⟨hh,g,d,t,os'⟩:=s';obtain rfl:os'=s.os:=os;exact⟨v,H',I.call (h':=hh) (g':=g) (d':=d) (t':=t) (ch:=[]) un hok bare (fun b z=>absurd z (by simp)),r,q⟩
end
noncomputable def Op (sp:Sp) (dvs:List V) (E:XK) (t:TA):TE:=fun σ H Q=>t σ H fun vs H1=>sp (vs++dvs) H1 Q E
noncomputable def Lp (C:ae) (m:Str) (sp:Sp) (dvs:List V) (E:XK) (ta:TE) (t:TA):TE:=fun σ H Q=>ta σ H fun x H1=>∃ a dx fs,x=.ref a/\H1 a=wj (.ins C dx fs)/\fs.lookup m=wk/\
 t σ H1 fun vs H2=>sp (x::(vs++dvs)) H2 Q E
noncomputable def Of (C:ae) (sp:Sp) (dvs:List V) (E:XK) (t:TA):TE:=fun σ H Q=>t σ H fun vs H1=>∀ x dx,H1 x=wk->H1 dx=wk->dx≠x->
 sp (.ref x::(vs++dvs)) (upd (upd H1 dx (.own x)) x (.ins C dx [])) (fun v H2=>v=.non/\Q (.ref x) H2) E
noncomputable def Binds (K:aa) (fd:jk) (ps:List Str) (ds:List af):Prop:=
 ∀(s:am) (us:List af),K.In s.heap->(us++ds).length=ps.length->sg s fd ⟨us,[]⟩ (ps.zip (us++ds))
theorem Binds.all {K:aa} (h:∀ us:List af,us.length=ps.length->bindArgs fd ⟨us,[]⟩=pure (ps.zip us)):Binds K fd ps []:=fun s us _ hl=>by
 rw[c4] at hl ⊢;exact .of_eq (h us hl)
noncomputable def qL (CX:CXT) (X:Cx) (E:XK):Prop:=∀(pins:List (ae×Obj)) (σ:St) (H:Hp) (s:am) (e:af) (s':am),Inv X pins σ H s->CX X.stack H s E e s'->X.xe e s'
section
variable {X:Cx}{CX:CXT}{k:Nat}{f C:ae}{fd:jk}{ps:List Str}{sp:Sp}{dvs:List V}{ds:List af}{E:XK}{x m:Str}{p pos apos:Pos}{e o:bt}{es:List bt}{ta:TE}{t:TA}
theorem Dh (F:rP X.prog X.w X.K X.mg X.base CX k f fd ps sp) (hr:Room k X.A) (hb:Binds X.K fd ps ds) (hd:Vals dvs ds) (hx:qL CX X E)
  (I:Inv X pins σ H s) (r:Vals vs us) (h:sp (vs++dvs) H Q E):ay (model X.prog X.w) X.A (call (.ref f) us) (EP X pins σ Q) X.xe s:=by
 have r2:Vals (vs++dvs) (us++ds):=r.append hd;have hl:(us++ds).length=ps.length:=by rw[<- r2.length];exact F.len _ _ _ _ h
 refine wpAny_call (qg (F.run X.A X.stack s H ⟨us,[]⟩ (us++ds) (vs++dvs) Q E hr I.env0 (hb s us I.kIn hl) r2 h) fun r s' hq=> ?_);cases r with
 |error e=>exact hx pins σ H s e s' I hq
 |ok fl=>
  cases fl with
  |ret u=>exact I.after hq
  |next=>exact iw hq
  |brk=>exact iw hq
  |cont=>exact iw hq
theorem Ji (F:rP X.prog X.w X.K X.mg X.base CX k f fd ps sp) (hr:Room k X.A) (hg:Gl X x) (hm:X.mg x=wj (.ref f)) (hk:gn X.K (.ref f)=true) (hb:Binds X.K fd ps ds) (hd:Vals dvs ds) (hx:qL CX X E)
  (ha:PA X (e::es) t) (hdb:(x==("__debug__":Str))=false:=by decide) (he:av (e::es) X.env=(false,eval e X.env)::av es X.env:=by rfl) (hpl:(di pos (av es X.env)).any (·.1)=false:=by rfl):
  PE X (.Call (.Name x p) (e::es) [] pos) (Op sp dvs E t):=by
 intro pins s σ H Q I h;refine l9 (uH I hg hm ?_ hdb);refine ph (h₀:=X.base) I.ok.mod.kin hk (thn (ha pos pins s σ H _ I h) fun us s1 ⟨vs,H1,I1,r,q⟩=>⟨I1.kIn,?_⟩) he hpl;exact Dh F hr hb hd hx I1 r q
theorem Jb (he:PE X o ta) (c:Cls X.K C) (hm:HW X.K C m f) (F:rP X.prog X.w X.K X.mg X.base CX k f fd ps sp) (hr:Room k X.A) (hb:Binds X.K fd ps ds) (hd:Vals dvs ds) (hx:qL CX X E) (ha:PA X (e::es) t)
  (hst:av (e::es) X.env=(false,eval e X.env)::av es X.env:=by rfl) (hpl:(di pos (av es X.env)).any (·.1)=false:=by rfl)
  (ht:eval (.Call (.Attribute o m apos) (e::es) [] pos) X.env=(do
   let ov <- eval o X.env
   mr apos.atName
   let (f,first) <- holding [ov] (l8 ov m pl)
   qh pos f first (di pos (av (e::es) X.env)) (jy pos (io [] X.env))):=by rfl):
  PE X (.Call (.Attribute o m apos) (e::es) [] pos) (Lp C m sp dvs E ta t):=by
 intro pins s σ H Q I h;refine sh (pl:=pl) (thn (he pins s σ H _ I h) fun u s1 ⟨x,H1,I1,rx,a,dx,fs,ex,ea,l,q⟩=> ?_) ht;subst ex;obtain rfl:u=b9 a:=rx;refine sO I1 ea c hm l ?_;refine ph (first:=[.ref a]) (h₀:=X.base) I.ok.mod.kin hm.kp (thn (ha pos pins s1 σ H1 _ I1 q) fun us s2 ⟨vs,H2,I2,r,q2⟩=>⟨I2.kIn,?_⟩) hst hpl;exact Dh (us:=.ref a::us) (vs:=.ref a::vs) F hr hb hd hx I2 (.cons rfl r) q2
theorem FY (he:PE X o ta) (c:Cls X.K C) (hm:HW X.K C m f) (F:rP X.prog X.w X.K X.mg X.base CX k f fd ps sp) (hr:Room k X.A) (hb:Binds X.K fd ps ds) (hd:Vals dvs ds) (hx:qL CX X E)
  (ht:eval (.Call (.Attribute o m apos) [] [] pos) X.env=(do
   let ov <- eval o X.env
   mr apos.atName
   let (f,first) <- holding [ov] (l8 ov m pl)
   qh pos f first (di pos (av [] X.env)) (jy pos (io [] X.env))):=by rfl):
  PE X (.Call (.Attribute o m apos) [] [] pos) (Lp C m sp dvs E ta PF):=by
 intro pins s σ H Q I h;refine sh (pl:=pl) (thn (he pins s σ H _ I h) fun u s1 ⟨x,H1,I1,rx,a,dx,fs,ex,ea,l,q⟩=> ?_) ht;subst ex;obtain rfl:u=b9 a:=rx;refine sO I1 ea c hm l ?_;exact PySem.W.callWith_K0 (first:=[.ref a]) I1.kIn hm.kp (Dh (us:=[.ref a]) (vs:=[.ref a]) F hr hb hd hx I1 (.cons rfl .nil) q)
structure Mk (K:aa) (C f:ae):Prop where
 makes:qv K C=true
 init:gy K (.ref C) "__init__"=wj (wj (.ref f))
 fn:ou K (.ref f)=true
 kp:gn K (.ref C)=true
theorem FD (M:Mk X.K C f) (F:rP X.prog X.w X.K X.mg X.base CX k f fd ps sp) (hr:Room (k+1) X.A) (hb:Binds X.K fd ps ds) (hd:Vals dvs ds)
  (hx:qL CX X E) (I:Inv X pins σ H s) (r:Vals vs us)
  (h:∀ x dx,H x=wk->H dx=wk->dx≠x->sp (.ref x::(vs++dvs)) (upd (upd H dx (.own x)) x (.ins C dx [])) (fun v H2=>v=.non/\Q (.ref x) H2) E):
  ay (model X.prog X.w) X.A (call (.ref C) us) (EP X pins σ Q) X.xe s:=by
 have hq:=h (s.heap.objs.size+1) s.heap.objs.size (I.hok.fresh (Nat.le_succ _)) (I.hok.fresh (bf _)) (cj (nh _));have I2:=Inv.made (C:=C) I;have r2:Vals (V.ref (s.heap.objs.size+1)::(vs++dvs)) (b9 (s.heap.objs.size+1)::(us++ds)):=.cons rfl (r.append hd);have hl:(b9 (s.heap.objs.size+1)::us++ds).length=ps.length:=by
  have e:=r2.length;rw[F.len _ _ _ _ hq] at e;exact e.symm
 refine wpAny_call (GB (f:=f) I.kIn M.makes M.init (beq_iff_eq.mp M.fn) (qg (F.run _ X.stack _ _ ⟨b9 (s.heap.objs.size+1)::us,[]⟩ (b9 (s.heap.objs.size+1)::(us++ds)) _ _ E (hr.make C us [])
  (I2.env0.make C us []) (hb _ (b9 (s.heap.objs.size+1)::us) I2.kIn hl) r2 hq) fun r s' hq'=> ?_))
 cases r with
 |error e=>exact hx pins σ _ _ e s' I2 hq'
 |ok fl=>
  cases fl with
  |ret u=>
   obtain⟨v,H',I3,rv,ev,q3⟩:=I2.after hq';subst ev;exact⟨rv,⟨V.ref (s.heap.objs.size+1),H',I3,rfl,q3⟩⟩
  |next=>exact iw hq'
  |brk=>exact iw hq'
  |cont=>exact iw hq'
theorem Jc (M:Mk X.K C f) (F:rP X.prog X.w X.K X.mg X.base CX k f fd ps sp) (hr:Room (k+1) X.A) (hg:Gl X x) (hm:X.mg x=wj (.ref C)) (hb:Binds X.K fd ps ds) (hd:Vals dvs ds) (hx:qL CX X E)
  (ha:PA X (e::es) t) (hdb:(x==("__debug__":Str))=false:=by decide) (he:av (e::es) X.env=(false,eval e X.env)::av es X.env:=by rfl) (hpl:(di pos (av es X.env)).any (·.1)=false:=by rfl):
  PE X (.Call (.Name x p) (e::es) [] pos) (Of C sp dvs E t):=by
 intro pins s σ H Q I h;refine l9 (uH I hg hm ?_ hdb);refine ph (h₀:=X.base) I.ok.mod.kin M.kp (thn (ha pos pins s σ H _ I h) fun us s1 ⟨vs,H1,I1,r,q⟩=>⟨I1.kIn,?_⟩) he hpl;exact FD M F hr hb hd hx I1 r q
end
section
variable {X:Cx}{CX:CXT}{k:Nat}{f C:ae}{fd:jk}{ps ks:List Str}{sp:Sp}{E:XK}{x m:Str}{p pos apos kpos:Pos}{e o:bt}{es:List bt}{kws:List kc}{te ta:TE}{t tk:TA}{nm:Option Str}
variable {g:List af->List af->List af}{gV:List V->List V->List V}
end
structure kL (N P:List Str) (sc:j7):Prop where
 kind:sc.kind=.function
 co:sc.isCoroutine=false
 gen:sc.isGenerator=false
 nd:N.Nodup
 pre:N.take P.length=P
 par:∀ x∈P,sc.names.lookup x=wj .local∨sc.names.lookup x=wj .cell
 nofree:∀ y∈sc.names,y.2≠ .free
theorem xW {kindOf:Str->Option g9}:∀ {binds:List (Str×af)}{m:Str->Option af},(∀ v,(x,v)∉binds)->bindL kindOf binds m x=m x
 |[],_,_=>rfl
 |(n,v)::r,m,h=>by
  unfold bindL;rw[xW fun w hw=>h w (ag _ hw)];split
  ·have:x≠n:=by rintro rfl;exact h v aq
   simp[this]
  ·rfl
theorem xY {kindOf:Str->Option g9}:∀ {binds:List (Str×af)}{m:Str->Option af},(∀ v,(x,v)∉binds)->bindC kindOf binds m x=m x
 |[],_,_=>rfl
 |(n,v)::r,m,h=>by
  unfold bindC;rw[xY fun w hw=>h w (ag _ hw)];split
  ·rfl
  ·have:x≠n:=by rintro rfl;exact h v aq
   simp[this]
theorem xX {kindOf:Str->Option g9}:∀ {P:List Str}{vs:List af}{i:Nat}{m:Str->Option af},P.Nodup->P[i]?=wj x->vs[i]?=wj v->kindOf x=wj .local->
  bindL kindOf (P.zip vs) m x=wj v
 |[],_,_,_,_,h,_,_=>by simp at h
 |_::_,[],_,_,_,_,h,_=>by simp at h
 |p::P,w::vs,0,m,nd,h1,h2,hk=>by
  simp at h1 h2;subst h1;subst h2;show bindL kindOf ((p,w)::P.zip vs) m p=_;unfold bindL;rw[xW fun v hv=>(b0.mp nd).1 (qw hv).1,if_pos hk];simp
 |p::P,w::vs,i+1,m,nd,h1,h2,hk=>by
  show bindL kindOf ((p,w)::P.zip vs) m x=_;unfold bindL;exact xX (i:=i) (b0.mp nd).2 (by simpa using h1) (by simpa using h2) hk
theorem xZ {kindOf:Str->Option g9}:∀ {P:List Str}{vs:List af}{i:Nat}{m:Str->Option af},P.Nodup->P[i]?=wj x->vs[i]?=wj v->kindOf x≠wj .local->
  bindC kindOf (P.zip vs) m x=wj v
 |[],_,_,_,_,h,_,_=>by simp at h
 |_::_,[],_,_,_,_,h,_=>by simp at h
 |p::P,w::vs,0,m,nd,h1,h2,hk=>by
  simp at h1 h2;subst h1;subst h2;show bindC kindOf ((p,w)::P.zip vs) m p=_;unfold bindC;rw[xY fun v hv=>(b0.mp nd).1 (qw hv).1,if_neg hk];simp
 |p::P,w::vs,i+1,m,nd,h1,h2,hk=>by
  show bindC kindOf ((p,w)::P.zip vs) m x=_;unfold bindC;exact xZ (i:=i) (b0.mp nd).2 (by simpa using h1) (by simpa using h2) hk
noncomputable def start (N:List Str) (vs:List V):St:=vs.map wj++ar (N.length-vs.length) wk
noncomputable def zY (CX:CXT) (P:db) (w:df) (K:aa) (mg:Str->Option af) (base:cx) (N:List Str) (qual:Str) (scope:j7) (f:ae) (cd:af) (A:dh) (outer:List Env) (s:am) (H:Hp) (E:XK):Cx where
 prog:=P
 w:=w
 K:=K
 mg:=mg
 base:=base
 A:=A.deeper (je qual scope s.heap.objs.size f cd)
 N:=N
 s₀:=s
 H₀:=H
 env:=je qual scope s.heap.objs.size f cd
 outer:=outer
 stack:=je qual scope s.heap.objs.size f cd::outer
 ex:=[]
 calm:=true
 fn:=fun _=>true
 pn:=[]
 xe:=fun e s'=>ay (model P w) (A.deeper (je qual scope s.heap.objs.size f cd)) (leaving (je qual scope s.heap.objs.size f cd) e) (fun _ s''=>CX outer H s E e s'') (fun e' s''=>CX outer H s E e' s'') s'
theorem Bt {sc:j7} (h:sc.names.lookup x=wj .cell):∃ c,(gu n sc.names []).lookup x=wj c:=by
 have q:=rh sc.names n [] (.inl h);exact ma.mp q
theorem Ei {K:aa}
  (S:kL N ps scope) (hd:A.handled=wk) (e0:Env0 P w K mg base A outer s H) (hl:vs.length=ps.length) (r:Vals vs us)
  (x:InCallC s s.heap.objs.size (bindL (je qual scope s.heap.objs.size f cd).kindOf (ps.zip us) fun _=>wk) (gu (s.heap.objs.size+1) scope.names []) (bindC (je qual scope s.heap.objs.size f cd).kindOf (ps.zip us) fun _=>wk) s1):
  Inv (zY CX P w K mg base N qual scope f cd A outer s H E) [] (start N vs) H s1:=by
 have hpl:ps.length<=N.length:=by have:=congrArg ll S.pre;rw[ni] at this;omega
 obtain⟨h1,tk,rfl,hk⟩:=x.done;have noA:∀ b:ae,b∉(zY CX P w K mg base N qual scope f cd A outer s H E).ex:=fun b z=>absurd (show b∈([]:List ae) from z) (by simp);refine⟨⟨e0.mod,S.kind,rfl,rfl,bf _,fun y z c h1 h2=> ?_,fun y hy=> ?_,fun y c _ h=> ?_,fun _=>hd,Around.frames_deeper e0.frames,.inr ⟨rfl,rfl⟩,fun b z=>absurd z (noA b),e0.bs,e0.bsz,fun b _ _=>noA b,fun b z=>absurd z (noA b),e0.funs,e0.frf⟩,
  rfl,e0.bare,Un.kept hk,⟨_,x.toInCall.ns,fun i y v h1 h2 h3=> ?_⟩,fun y c h=>⟨_,x.cell y c h⟩,e0.hok.fresh (bf _),fun y c h=> ?_,fun p hp=>absurd (show p∈([]:List (ae×Obj)) from hp) (by simp),e0.hok.kept hk,?_⟩
 ·exact name_of_addr x.apart (f8 h1) (f8 h2)
 ·have hy:scope.names.lookup y=wj .cell∨scope.names.lookup y=wj .free:=hy;rcases hy with hy|hy
  ·exact Bt hy
  ·exact absurd rfl (S.nofree _ (f8 hy))
 ·exact hX (x.above y c (f8 h))
 ·have hi:i<vs.length:=by
   unfold start at h2
   by_cases hi:i<vs.length
   ·exact hi
   ·rw[dc (by simpa using hi)] at h2;rw[fm] at h2;split at h2 <;> cases h2
  have ha:vs[i]?=wj v:=by
   unfold start at h2;rw[aj (by simpa using hi),ax] at h2;cases e:vs[i]? with
   |none=>rw[e] at h2;cases h2
   |some a=>rw[e] at h2;cases h2;rfl
  obtain⟨u,hu,rv⟩:=r.get ha;have hp:ps[i]?=wj y:=by
   rw[<- S.pre,List.getElem?_take_of_lt (by omega)];exact h1
  have ndP:ps.Nodup:=by rw[<- S.pre];exact S.nd.sublist (List.take_sublist _ _)
  refine⟨u,rv,?_⟩;rcases S.par y (fz hp) with k|k
  ·exact .inl ⟨k,xX ndP hp hu k⟩
  ·obtain⟨c,e⟩:=Bt (n:=s.heap.objs.size+1) k;refine .inr ⟨.inl k,c,e,?_⟩;have q:=x.cell y c e;rw[xZ ndP hp hu (by show scope.names.lookup y≠_;rw[k];decide)] at q;exact q
 ·exact e0.hok.fresh (hX (x.above y c (f8 h)))
 ·unfold start;show _=N.length;rw[b7,ao,ji];omega
theorem Pj {K:aa}{dV kV doc pm cdv ct oc:af}
    (lk:K.lookup f=wj ⟨oc,od,.func (ip name qual params body scope dV kV doc pm an cdv ct),osl⟩) (hcd:jv K cdv qual=true) (S:kL N ps scope)
  (len:∀ vs H Q E,sp vs H Q E->vs.length=ps.length)
  (hbody:∀(A:dh) (outer:List Env) (s:am) (H:Hp) (vs:List V) (Q:VK) (E:XK),Room k (A.deeper (je qual scope s.heap.objs.size f cdv))->sp vs H Q E->
   ∃ t,PSs (zY CX P w K mg base N qual scope f cdv A outer s H E) body t/\t { nx:=fun _ H'=>Q .non H',rt:=Q } (start N vs) H):
  rP P w K mg base CX (k+1) f (ip name qual params body scope dV kV doc pm an cdv ct) ps sp:=by
 refine⟨len,fun A outer s H args us vs Q E hr e0 hb r hsp=> ?_⟩;have hl:=len _ _ _ _ hsp;have KX:K.In s.heap:=e0.mod.kin.keeps fun b o e=>(e0.bs b o e).1;have lim:s.heap.NoLimit:=e0.mod.nolimit.keeps fun b o e=>(e0.bs b o e).1;have hkind:∀ y∈ps.zip us,scope.names.lookup y.1=wj .local∨(scope.names.lookup y.1=wj .cell/\((gu (s.heap.objs.size+1) scope.names []).lookup y.1).isSome=true):=fun⟨n,v⟩ hy=>by
  rcases S.par n (qw hy).1 with q|q
  ·exact .inl q
  ·exact .inr ⟨q,rh _ _ _ (.inl q)⟩
 refine codeAny_call_function hr.depth (KX _ _ lk) rfl S.co S.gen rfl (PySem.W.codeRec_of KX hcd) (hb _ _ _ _ ?_);refine wpAny_newFunctionEnv_cells S.kind hkind fun env he s1 x=> ?_;subst he;refine⟨lim.keeps x.toInCall.keep,codeAny_func ?_⟩;obtain⟨t,ht,hq⟩:=hbody A outer s H vs Q E (hr.deeper _) hsp;have I:Inv (zY CX P w K mg base N qual scope f cdv A outer s H E) [] (start N vs) H s1:=Ei S hr.hd e0 hl r x;refine gv (ht [] s1 (start N vs) H _ I hq) (fun fl s' hs=> ?_) fun e s' hs=>hs;have fin:∀ {σ':St}{H':Hp}{v:V}{u:af},Inv (zY CX P w K mg base N qual scope f cdv A outer s H E) [] σ' H' s'->RelV v u->Q v H'->CE outer P w H s Q u s':=
  fun {σ' H' v u} J rv q=>⟨v,H',J.os,J.bare,J.base,J.hok,rv,q⟩
 cases fl with
 |ret u=>
  obtain⟨v,σ',H',J,rv,q⟩:=hs;exact fin J rv q
 |next=>
  obtain⟨σ',H',J,q⟩:=hs;exact fin (v:=V.non) (u:=ic) J rfl q
 |brk=>
  obtain⟨_,_,_,q⟩:=hs;exact iw q
 |cont=>
  obtain⟨_,_,_,q⟩:=hs;exact iw q
end L2
namespace L2
section
variable {X:Cx}{x:Str}{p pos:Pos}{e:bt}{es:List bt}{t:TA}{id T:String}{r:List V->Hp->VK->Prop}
noncomputable def tCB (r:List V->Hp->VK->Prop) (t:TA):TE:=fun σ H Q=>t σ H fun vs H1=>r vs H1 Q
theorem tX (hc:CallR X (.builtin id) r) (hg:Gl X x) (hm:X.mg x=wk) (hv:de x=wj (.builtin id)) (ha:PA X (e::es) t) (hn:x≠"__name__":=by decide) (hdb:(x==("__debug__":Str))=false:=by decide)
  (he:av (e::es) X.env=(false,eval e X.env)::av es X.env:=by rfl) (hpl:(di pos (av es X.env)).any (·.1)=false:=by rfl):PE X (.Call (.Name x p) (e::es) [] pos) (tCB r t):=by
 intro pins s σ H Q I h;refine l9 (wO I hg hm hv ?_ hn hdb);exact PyProof.Rows.callWith_builtin1 (thn (ha pos pins s σ H _ I h) fun us s1 ⟨vs,H1,I1,r1,q1⟩=>hc pins s1 σ H1 vs us Q I1 r1 q1) he hpl
theorem Dt (hc:CallR X (.type T) r) (hg:Gl X x) (hm:X.mg x=wk) (hv:de x=wj (.type T)) (ha:PA X (e::es) t) (hn:x≠"__name__":=by decide) (hdb:(x==("__debug__":Str))=false:=by decide)
  (he:av (e::es) X.env=(false,eval e X.env)::av es X.env:=by rfl) (hpl:(di pos (av es X.env)).any (·.1)=false:=by rfl):PE X (.Call (.Name x p) (e::es) [] pos) (tCB r t):=by
 intro pins s σ H Q I h;refine l9 (wO I hg hm hv ?_ hn hdb);exact kz (thn (ha pos pins s σ H _ I h) fun us s1 ⟨vs,H1,I1,r1,q1⟩=>hc pins s1 σ H1 vs us Q I1 r1 q1) he hpl
end
end L2
namespace HT
open PySem PyProof.Rows
noncomputable def lexLt:List Int->List Int->Bool
 |[],[]=>false
 |[],_::_=>true
 |_::_,[]=>false
 |x::xs,y::ys=>if x=y then lexLt xs ys else decide (x<y)
theorem Cb (x y:Int) (xs ys:List Int):lexLt (x::xs) (y::ys)=if x=y then lexLt xs ys else decide (x<y):=rfl
theorem uG:lexLt [] []=false:=rfl
theorem qZ (y:Int) (ys:List Int):lexLt [] (y::ys)=true:=rfl
theorem rA (x:Int) (xs:List Int):lexLt (x::xs) []=false:=rfl
theorem Hr (A:dh) (s:am) (a:Int) (t:Tok) (c:Int) (u:Tok):∃ e,vf A s (.int a t) (.int c u) e/\(e=true↔a=c):=
 ⟨(a==c),SeqAt.EqAt.int_int a t c u,by simp⟩
theorem FL (A:dh) (s:am) (a:Int) (t:Tok) (c:Int) (u:Tok) (prog:db) (w:df) (E:af->am->Prop) (Q:af->am->Prop) (h:Q (.bool (decide (a<c))) s):
  ay (model prog w) A (richCompare .Lt (.int a t) (.int c u)) Q E s:=
 (ve h:ay (model prog w) A (fk .Lt (.int a t) (.int c u)) Q E s)
section
open PySem.SeqAt
open PySem.AutoSeq1 (wpAny_loadPart')
open PySem.MeetsSeq PySem.MeetsSeq2 PySem.MeetsSeq3
theorem tN (l b:ae) (items items2:Array af) (n n2:Nat) (dd dd2:Option ae) (sl sl2:Array (Option af)) (ns ms:List Int) (hi:ke items.toList ns) (hj:ke items2.toList ms):
  Meets (Builtin.«tuple.__lt__» ⟨[.ref l,.ref b],[]⟩)
   (fun _ R s=>s.heap.get? l=wj { cls:=.type "tuple",dict:=dd,data:=.seq items n,slots:=sl }/\s.heap.get? b=wj { cls:=.type "tuple",dict:=dd2,data:=.seq items2 n2,slots:=sl2 }/\
    R (.ok (.ret (.bool (lexLt ns ms)))) s):=
 .of_wp fun prog w A R s h=>by
  obtain⟨hp,g,d,tk,os⟩:=s;obtain⟨hl,hb,h⟩:=h;have f2:=AutoSeq1.sub_tuple_tuple;have z1:items.size=ns.length:=by rw[<- hi.length];simp
  have z2:items2.size=ms.length:=by rw[<- hj.length];simp
  wp_walk using wpAny_loadPart' hl,wpAny_loadPart' hb,qi _ (fun rest b s'=>b.1=wk/\s'=⟨hp,g,d,tk,os⟩/\∃(vs ws:List af) (ns' ms':List Int),rest=vs.zip ws/\
   ke vs ns'/\ke ws ms'/\ns'.length+items2.size=ms'.length+items.size/\R (.ok (.ret (.bool (lexLt ns' ms')))) ⟨hp,g,d,tk,os⟩) _
  case turn=>
   rintro⟨y,x⟩ rest b s' ⟨hb',rfl,vs,ws,ns',ms',hz,hvi,hwi,hlen,hR⟩
   cases hvi with
   |nil=>rw[List.zip_nil_left] at hz;cases hz
   |cons a t hvi'=>
    cases hwi with
    |nil=>rw[List.zip_nil_right] at hz;cases hz
    |cons c u hwi'=>
     rw[md] at hz;injection hz with hyx hrest
     injection hyx with hy hx
     subst hy hx;rw[Cb] at hR;simp only[bz] at hlen;obtain⟨e,he,hiff⟩:=Hr A.in1 ⟨hp,g,d,tk,os⟩ a t c u;refine ad (he prog w _ _ ?_);cases e with
     |true=>
      rw[if_pos (hiff.mp rfl)] at hR
      wp_walk
      exact⟨rfl,rfl,_,_,_,_,hrest,hvi',hwi',by omega,hR⟩
     |false=>
      rw[if_neg (fun q=>absurd (hiff.mpr q) cg)] at hR;have hri:=FL A.in1 ⟨hp,g,d,tk,os⟩ a t c u prog w
      wp_walk using hri
      exact⟨_,rfl,by simpa using hR⟩
  case fin=>
   rintro⟨b1,b2⟩ s' ⟨hb',rfl,vs,ws,ns',ms',hz,hvi,hwi,hlen,hR⟩
   simp only at hb';subst hb';have hv:lexLt ns' ms'=decide (items.size<items2.size):=by
    cases hvi with
    |nil=>
     cases hwi with
     |nil=>
      simp only[kh] at hlen;rw[uG];exact(decide_eq_false (by omega)).symm
     |cons c u hw=>
      simp only[kh,bz] at hlen;rw[qZ];exact(decide_eq_true (by omega)).symm
    |cons a t hv=>
     cases hwi with
     |nil=>
      simp only[kh,bz] at hlen;rw[rA];exact(decide_eq_false (by omega)).symm
     |cons c u hw=>
      rw[md] at hz;cases hz
   rw[hv] at hR
   wp_walk
   exact⟨_,rfl,by simpa [Builtin.Tuple.tupleCompareSizes] using hR⟩
  case h=>
   exact⟨rfl,rfl,items.toList,items2.toList,ns,ms,rfl,hi,hj,by omega,h⟩
end
section
variable {prog:db}{w:df}{A:dh}{E:af->am->Prop}{s:am}
theorem lt_tupInts (hl:IsTup s.heap l items) (hb:IsTup s.heap b items2) (hi:ke items.toList ns) (hj:ke items2.toList ms)
  (hu:A.units<dr) (h:Q (.bool (lexLt ns ms)) s):ay (model prog w) A (fk .Lt (.ref l) (.ref b)) Q E s:=by
 obtain⟨⟨cls,dd,data,sl⟩,ho,hc,n,hd⟩:=id hl;obtain⟨⟨cls2,dd2,data2,sl2⟩,ho2,hc2,n2,hd2⟩:=id hb;simp only at hc hd hc2 hd2;subst hc hd hc2 hd2;exact richCompare_meets_room (op:=.Lt) ⟨_,ho,rfl⟩ ⟨_,ho2,rfl⟩ PySem.F.slot_tuple_lt PySem.F.entry_tuple_lt (PySem.F.args_tuple_lt_2 _ _) (tN l b items items2 n n2 dd dd2 sl sl2 ns ms hi hj)
  ⟨ho,ho2,show sy (lexLt ns ms)≠Value.notImplemented/\Q (.bool (lexLt ns ms)) s from⟨(fun x=>nomatch x),h⟩⟩ hu
theorem cat_tup (ht:IsTup s.heap t vs.toArray) (hb:IsTup s.heap b ws.toArray) (hv:vs≠[])
  (h1:ws=[]->Q (.ref t) s) (h2:ws≠[]->Q (.ref s.heap.objs.size) { s with heap:=s.heap.push { cls:=.type "tuple",data:=.seq (vs++ws).toArray } })
  (hsz:vs.length+ws.length<=sizeLine):ay (model prog w) A (jx .Add (.ref t) (.ref b)) Q E s:=by
 obtain⟨⟨cls,dd,data,sl⟩,ho,hc,n,hd⟩:=id ht;obtain⟨⟨cls2,dd2,data2,sl2⟩,ho2,hc2,n2,hd2⟩:=id hb;simp only at hc hd hc2 hd2;subst hc hd hc2 hd2;have e:vs.toArray++ws.toArray=(vs++ws).toArray:=by simp
 by_cases hw:ws=[]
 ·exact concat_meets ⟨_,ho,rfl⟩ ⟨_,ho2,rfl⟩ noFill_tuple_add seq_tuple_add rj qq (qj _ _)
   (tuple_addW1 t b vs.toArray ws.toArray n n2 dd dd2 sl sl2 (by simpa using hv) (by simp[hw])) ⟨ho,ho2,h1 hw⟩
 ·refine concat_meets ⟨_,ho,rfl⟩ ⟨_,ho2,rfl⟩ noFill_tuple_add seq_tuple_add rj qq (qj _ _)
   (tuple_addW2 t b vs.toArray ws.toArray n n2 dd dd2 sl sl2 (by simpa using hv) (by simpa using hw) (by rw[bc,bc];exact hsz)) ⟨ho,ho2,?_⟩
  rw[e];exact h2 hw
noncomputable def sIx (n d:Nat):Option Int->Nat
 |none=>d
 |some v=>if v<0 then(v+(n:Int)).toNat else min v.toNat n
theorem Lv (n d:Nat) (hd:d<=n) (o:Option Int):sIx n d o<=n:=by
 cases o with
 |none=>exact hd
 |some v=>
  show(if v<0 then(v+(n:Int)).toNat else min v.toNat n)<=n
  by_cases hv:v<0
  ·rw[if_pos hv];omega
  ·rw[if_neg hv];exact Nat.min_le_right _ _
theorem EY (v:Int) (n d:Nat):(if v<0 then max (v+(n:Int)) 0 else min v (n:Int))=((sIx n d (wj v):Nat):Int):=by
 show(if v<0 then max (v+(n:Int)) 0 else min v (n:Int))=(((if v<0 then(v+(n:Int)).toNat else min v.toNat n):Nat):Int)
 by_cases hv:v<0
 ·simp only[if_pos hv];omega
 ·simp only[if_neg hv];omega
theorem CB (lo hi:Option Int) (n:Nat):lu lo hi 1 (n:Int)=(((sIx n 0 lo:Nat):Int),((sIx n n hi:Nat):Int)):=by
 have h1:¬((1:Int)<0):=by omega
 unfold lu;simp only[h1,if_false];refine Prod.ext ?_ ?_
 ·cases lo with
  |none=>rfl
  |some v=>exact EY v n 0
 ·cases hi with
  |none=>rfl
  |some v=>exact EY v n n
theorem BP (i j:Nat):jp (i:Int) (j:Int) 1=j-i:=by
 unfold jp;have h1:(1:Int)>0:=by omega
 simp only[h1,if_true,Int.ediv_one];split <;> omega
theorem rV (p:qk v o) (h:Q o s):ay (model prog w) A (Builtin.Slice.slicePartIndex v) Q E s:=by
 cases p with
 |none=>exact slicePart_none h
 |int i t=>exact slicePart_int h
theorem mS {lo hi:Option Int}{Q:Int×Int×Nat->am->Prop} (hs:s.heap.IsSliceOf sl vl vu .none) (pl:qk vl lo) (pu:qk vu hi)
  (h:Q (((sIx n 0 lo:Nat):Int),1,sIx n n hi-sIx n 0 lo) s):ay (model prog w) A (pp (.ref sl) (pure (n:Int))) Q E s:=by
 obtain⟨os,hos,hcs,hds⟩:=id hs;unfold pp Builtin.Slice.sliceFields;refine ad (ad (rm hos hds (x:=vl) rfl (ad (rm hos hds (x:=vu) rfl (ad (rm hos hds (x:=.none) rfl (ak ?_)))))));refine ad (slicePart_none ?_);show ay _ _ (if((1:Int)==0)=true then _ else _) _ _ s;rw[if_neg (by decide)];refine ad (rV pl (ad (rV pu (ad (ak ?_)))));show ay _ _ (match lu lo hi 1 (n:Int) with|(lo,hi)=>pure (lo,(1:Int),jp lo hi 1)) _ _ s;rw[CB lo hi n];show ay _ _ (pure (((sIx n 0 lo:Nat):Int),(1:Int),jp ((sIx n 0 lo:Nat):Int) ((sIx n n hi:Nat):Int) 1)) _ _ s;rw[BP];exact ak h
theorem FW (xs:Array af) (i k:Nat):((bq k).filterMap fun(m:Nat)=>xs[((i:Int)+(m:Int)*1).toNat]?).toArray=((xs.toList.drop i).take k).toArray:=by
 have e:(fun(m:Nat)=>xs[((i:Int)+(m:Int)*1).toNat]?)=fun m=>xs[i+m]?:=by
  funext m
  have:((i:Int)+(m:Int)*1).toNat=i+m:=by omega
  rw[this]
 rw[e]
 have:=pick_run xs i k
 rw[List.filterMap_map] at this;have e2:((fun x=>xs[x]?)∘fun x=>i+x)=fun m=>xs[i+m]?:=rfl;rw[e2] at this;rw[this]
theorem getItem_tuple_cut {lo hi:Option Int} (ht:IsTup s.heap t items) (hs:s.heap.IsSliceOf sl vl vu .none) (pl:qk vl lo) (pu:qk vu hi)
  (hw:¬(sIx items.size 0 lo=0/\sIx items.size items.size hi=items.size))
  (h:Q (.ref s.heap.objs.size) { s with heap:=s.heap.push { cls:=.type "tuple",data:=.seq ((items.toList.drop (sIx items.size 0 lo)).take (sIx items.size items.size hi-sIx items.size 0 lo)).toArray } })
  (hsz:items.size<=sizeLine):ay (model prog w) A (o8 (.ref t) (.ref sl)) Q E s:=by
 have htake:sizeOk (.seq ((items.toList.drop (sIx items.size 0 lo)).take (sIx items.size items.size hi-sIx items.size 0 lo)).toArray):=by
  show((items.toList.drop (sIx items.size 0 lo)).take (sIx items.size items.size hi-sIx items.size 0 lo)).toArray.size<=sizeLine
  rw[bc,ni,ql,d7];omega
 have hj:sIx items.size items.size hi<=items.size:=Lv _ _ (bf _) hi;obtain⟨os,hos,hcs,hds⟩:=id hs;have hTs:s.TypeIs (.ref sl) "slice":=⟨os,hos,hcs⟩;unfold o8
 try with_reducible refine iu ?_
 first|refine ad (ak ?_)|skip
 refine ad (wpAny_sequenceKey ht.typeIs (by decide) ?_);refine ad (i9 (name:=jl "__getitem__") ht.typeIs jb
  (hZ jb ht.typeIs entry_tuple_getitem ?_ (args_tuple_getitem _ _)))
 show ay _ _ (Builtin.Tuple.tupleItemsOf (.ref t) >>= _) _ _ s;refine ad (tupleItemsOf_ ht ?_);refine ad (wpAny_typeOf hTs ?_);rw[if_pos (by decide)];refine ad (mS hs pl pu ?_);have hno:¬((((sIx items.size 0 lo:Nat):Int)==0&&(1:Int)==1&&(sIx items.size items.size hi-sIx items.size 0 lo)==items.size)=true):=by
  intro q;rw[bp,bp] at q;have q1:((sIx items.size 0 lo:Nat):Int)=0:=eq_of_beq q.1.1;have q2:sIx items.size items.size hi-sIx items.size 0 lo=items.size:=eq_of_beq q.2;exact hw ⟨by omega,by omega⟩
 show ay _ _ (if(((sIx items.size 0 lo:Nat):Int)==0&&(1:Int)==1&&(sIx items.size items.size hi-sIx items.size 0 lo)==items.size)=true then _ else _) _ _ s;rw[if_neg hno,FW]
 first
  |exact ad (m:=jz _) (d9 (ak ⟨_,rfl,ak h⟩) htake)
  |exact ad (m:=jz _) (d9 (ad (ak (ak ⟨_,rfl,ak h⟩))) htake)
  |exact ad (ad (m:=jz _) (d9 (ak (ak ⟨_,rfl,ak h⟩)) htake))
  |exact ad (ad (m:=jz _) (d9 (ak ⟨_,rfl,ak h⟩) htake))
end
end HT
namespace L2
noncomputable abbrev TO:=St->Hp->(Option Int->Hp->Prop)->Prop
noncomputable def PO (X:Cx) (e:Option bt) (t:TO):Prop:=
 ∀(pins:List (ae×Obj)) (s:am) (σ:St) (H:Hp) (Q:Option Int->Hp->Prop),Inv X pins σ H s->t σ H Q->
  ay (model X.prog X.w) X.A (evalPart e X.env) (fun u s'=>∃ o H',Inv X pins σ H' s'/\qk u o/\Q o H') X.xe s
noncomputable def ID:TO:=fun _ H Q=>Q wk H
noncomputable def Oc (t:TE):TO:=fun σ H Q=>t σ H fun x H1=>∃ i,x=.int i/\Q (wj i) H1
theorem Ck:∀ {us:List af},Vals (ns.map V.int) us->ke us ns:=by
 induction ns with
 |nil=>intro us r;rw[kr] at r;cases r;exact .nil
 |cons n ns ih=>
  intro us r;rw[bh] at r;cases r with
  |cons r1 r2=>
   obtain⟨t,e⟩:=r1;subst e;exact .cons n t (ih r2)
section
variable {X:Cx}{e:bt}{te:TE}{lo hi:Option bt}{tl th:TO}{pos p2:Pos}
theorem IY:PO X wk ID:=by
 intro pins s σ H Q I h;rw[evalPart_none];exact ak ⟨wk,H,I,.none,h⟩
theorem IX (h:PE X e te):PO X (wj e) (Oc te):=by
 intro pins s σ H Q I hw;rw[evalPart_some];refine thn (h pins s σ H _ I hw) fun u s1 ⟨x,H1,I1,r1,q1⟩=> ?_;obtain⟨i,rfl,q⟩:=q1;obtain⟨t,rfl⟩:=r1;exact⟨wj i,H1,I1,.int i t,q⟩
noncomputable def SlR (X:Cx) (r:V->Option Int->Option Int->Hp->VK->Prop):Prop:=
 ∀(pins:List (ae×Obj)) (s:am) (σ:St) (H:Hp) (x:V) (v vl vu:af) (lo hi:Option Int) (sl:ae) (Q:VK),Inv X pins σ H s->RelV x v->s.heap.IsSliceOf sl vl vu .none->qk vl lo->qk vu hi->r x lo hi H Q->
  ∃ T id,s0 (.type T) "__getitem__"=pure (wj (.builtin id))/\s.TypeIs v T/\ay (model X.prog X.w) X.A (o8 v (.ref sl)) (EP X pins σ Q) X.xe s
theorem SlR.or (h:SlR X r) (h':SlR X r'):SlR X (fun x lo hi H Q=>r x lo hi H Q∨r' x lo hi H Q):=by
 intro pins s σ H x v vl vu lo hi sl Q I rx hs pl pu q;rcases q with q|q
 ·exact h pins s σ H x v vl vu lo hi sl Q I rx hs pl pu q
 ·exact h' pins s σ H x v vl vu lo hi sl Q I rx hs pl pu q
noncomputable def tSl (r:V->Option Int->Option Int->Hp->VK->Prop) (te:TE) (tl th:TO):TE:=fun σ H Q=>te σ H fun x H1=>tl σ H1 fun l H2=>th σ H2 fun u H3=>r x l u H3 Q
theorem FX (hr:SlR X r) (he:PE X e te) (hl:PO X lo tl) (hu:PO X hi th):PE X (.Subscript e (.Slice lo hi wk p2) pos) (tSl r te tl th):=by
 intro pins s σ H Q I h;refine Subscript_ (thn (he pins s σ H _ I h) fun v s1 ⟨x,H1,I1,r1,q1⟩=> ?_);refine wpAny_Slice (thn (hl pins s1 σ H1 _ I1 q1) fun vl s2 ⟨l,H2,I2,pl,q2⟩=>thn (hu pins s2 σ H2 _ I2 q2) fun vu s3 ⟨u,H3,I3,pu,q3⟩=> ?_);rw[evalPart_none];refine ak ?_;have I4:Inv X pins σ H3 { s3 with heap:=s3.heap.push { cls:=.type "slice",data:=.fields #[vl,vu,.none] } }:=I3.kept (t':=s3.toks) fun b ob q=>az _ q;obtain⟨T,id,hT,ht,hg⟩:=hr pins { s3 with heap:=s3.heap.push { cls:=.type "slice",data:=.fields #[vl,vu,.none] } } σ H3 x v vl vu l u s3.heap.objs.size Q I4 r1 (Heap.IsSliceOf.new ..) pl pu q3;show ay (model X.prog X.w) X.A (t7 e (.Slice lo hi wk p2) v (.ref s3.heap.objs.size)) (EP X pins σ Q) X.xe { s3 with heap:=s3.heap.push { cls:=.type "slice",data:=.fields #[vl,vu,.none] } };exact tail_any (ops:=[.ref s3.heap.objs.size,v]) ht hT hg (by with_unfolding_all rfl)
noncomputable def Iv (xs:List V) (lo hi:Option Int):List V:=(xs.drop (HT.sIx xs.length 0 lo)).take (HT.sIx xs.length xs.length hi-HT.sIx xs.length 0 lo)
theorem qE (xs:List V) (lo hi:Option Int):(Iv xs lo hi).length<=xs.length:=by
 unfold Iv;rw[ni,ql];omega
noncomputable def Qo (K:aa):V->Option Int->Option Int->Hp->VK->Prop:=fun x lo hi H Q=>∃ a xs,x=.ref a/\SqT K H a xs/\
 ¬(HT.sIx xs.length 0 lo=0/\HT.sIx xs.length xs.length hi=xs.length)/\∀ p,H p=wk->Q (.ref p) (upd H p (.tup (Iv xs lo hi)))
theorem Lu:SlR X (Qo X.K):=by
 intro pins s σ H x v vl vu lo hi sl Q I rx hs pl pu h;obtain⟨a,xs,rfl,hx,hw,q⟩:=h;cases rx;obtain⟨its,r,ht,hz⟩:=I.tuple hx;have hlen:its.toArray.size=xs.length:=by rw[bc];exact r.length.symm
 refine⟨"tuple",_,jb.lookup,ht.typeIs,?_⟩;refine HT.getItem_tuple_cut ht hs pl pu (by rw[hlen];exact hw) ?_ (by rw[hlen];exact hz);rw[hlen];refine⟨.ref s.heap.objs.size,_,I.laid (t':=s.toks) (o:=.tup (Iv xs lo hi)) (fun b ob q=>az _ q) (bf _) ?_,rfl,q _ (I.hok.fresh (bf _))⟩;exact⟨cf (qE xs lo hi) hz,_,(r.drop (HT.sIx xs.length 0 lo)).take (HT.sIx xs.length xs.length hi-HT.sIx xs.length 0 lo),vz _ _⟩
noncomputable def Ow (K:aa):R2:=fun x y H Q=>∃ a b xs ys,x=.ref a/\y=.ref b/\SqT K H a xs/\SqT K H b ys/\xs≠[]/\xs.length+ys.length<=sizeLine/\
 (ys=[]->Q (.ref a) H)/\(ys≠[]->∀ p,H p=wk->Q (.ref p) (upd H p (.tup (xs++ys))))
theorem Vals.nil_iff (r:Vals xs us):us=[]↔xs=[]:=by
 cases r with
 |nil=>simp
 |cons _ _=>simp
theorem Jy:OpR X (jx .Add) (Ow X.K):=by
 intro pins s σ H x y v u Q I rx ry h;obtain⟨a,b,xs,ys,rfl,rfl,ha,hb,hx,hz,q1,q2⟩:=h;cases rx;cases ry;obtain⟨its,r1,p1,_⟩:=I.tuple ha;obtain⟨its2,r2,p2,_⟩:=I.tuple hb;refine HT.cat_tup p1 p2 (fun z=>hx (r1.nil_iff.mp z)) (fun z=>⟨.ref a,H,I,rfl,q1 (r2.nil_iff.mp z)⟩) (fun z=> ?_) (by rw[<- r1.length,<- r2.length];exact hz);refine⟨.ref s.heap.objs.size,_,I.laid (t':=s.toks) (o:=.tup (xs++ys)) (fun b ob q=>az _ q) (bf _) ?_,rfl,q2 (fun w=>z (r2.nil_iff.mpr w)) _ (I.hok.fresh (bf _))⟩;exact⟨by rw[b7];exact hz,_,r1.append r2,vz _ _⟩
end
end L2
namespace L2
noncomputable def ixN (n:Nat) (i:Int):Option Nat:=if 0<=i then(if i<n then wj i.toNat else wk) else if -(n:Int)<=i then wj (i+n).toNat else wk
noncomputable def atI {α:Type} (xs:List α) (i:Int):Option α:=(ixN xs.length i).bind fun j=>xs[j]?
theorem Ef (h:ixN n i=wj j):seqIndex? i n=wj j/\j<n/\ -(n:Int)<=i/\i<n:=by
 unfold ixN at h
 by_cases h0:0<=i
 ·rw[if_pos h0] at h
  by_cases h1:i<n
  ·rw[if_pos h1] at h;have e:i.toNat=j:=ce h;exact⟨by rw[u5 h0 h1,e],by omega,by omega,h1⟩
  ·rw[if_neg h1] at h;cases h
 ·rw[if_neg h0] at h
  by_cases h1: -(n:Int)<=i
  ·rw[if_pos h1] at h;have e:(i+n).toNat=j:=ce h;exact⟨by rw[um (by omega) h1,e],by omega,h1,by omega⟩
  ·rw[if_neg h1] at h;cases h
theorem Ab {v:α} (h:atI xs i=wj v):∃ j,seqIndex? i xs.length=wj j/\xs[j]?=wj v/\j<xs.length/\ -(xs.length:Int)<=i/\i<xs.length:=by
 unfold atI at h;cases e:ixN xs.length i with
 |none=>rw[e] at h;cases h
 |some j=>
  rw[e] at h;obtain⟨h1,h2,h3,h4⟩:=Ef e;exact⟨j,h1,h,h2,h3,h4⟩
noncomputable def Fk (b:bt):Prop:=∀ o i,subscripted b false o i=operate [o,i] (o8 o i)
noncomputable def IxR (X:Cx) (r:R2):Prop:=
 ∀(value slice:bt) (pins:List (ae×Obj)) (s:am) (σ:St) (H:Hp) (x y:V) (v u:af) (Q:VK),Inv X pins σ H s->RelV x v->RelV y u->r x y H Q->
  subscripted slice false v u=operate [v,u] (o8 v u)->ay (model X.prog X.w) X.A (t7 value slice v u) (EP X pins σ Q) X.xe s
noncomputable def MtR (X:Cx) (id:String) (r:V->List V->Hp->VK->Prop):Prop:=
 ∀(pins:List (ae×Obj)) (s:am) (σ:St) (H:Hp) (x:V) (xs:List V) (v:af) (us:List af) (Q:VK),Inv X pins σ H s->RelV x v->Vals xs us->r x xs H Q->
  ay (model X.prog X.w) X.A (call (.builtin id) (v::us)) (EP X pins σ Q) X.xe s
section
variable {X:Cx}{a b:bt}{ta tb:TE}{pos:Pos}
theorem IxR.or (h:IxR X r) (h':IxR X r'):IxR X (fun x y H Q=>r x y H Q∨r' x y H Q):=by
 intro value slice pins s σ H x y v u Q I rx ry q hs;rcases q with q|q
 ·exact h value slice pins s σ H x y v u Q I rx ry q hs
 ·exact h' value slice pins s σ H x y v u Q I rx ry q hs
theorem OC (hr:IxR X r) (ha:PE X a ta) (hb:PE X b tb) (hs:Fk b):PE X (.Subscript a b pos) (tOp r ta tb):=by
 intro pins s σ H Q I h;exact Subscript_ (Ps ha hb I h fun v u s2 x y H2 I2 rx ry q=>hr a b pins s2 σ H2 x y v u Q I2 rx ry q (hs _ _))
noncomputable def PM (K:aa):R2:=fun x y H Q=>∃ p xs i v,x=.ref p/\y=.int i/\SqL K H p xs/\atI xs i=wj v/\Q v H
noncomputable def PK (K:aa):R2:=fun x y H Q=>∃ p xs i v,x=.ref p/\y=.int i/\SqT K H p xs/\atI xs i=wj v/\Q v H
noncomputable def PL:R2:=fun x y H Q=>∃ z i c,x=.str z/\y=.int i/\z.length<=sizeLine/\atI z.cps.toList i=wj c/\Q (.str ⟨#[c]⟩) H
theorem ix_list:IxR X (PM X.K):=by
 intro value slice pins s σ H x y v u Q I rx ry h hs;obtain⟨p,xs,i,z,rfl,rfl,hq,he,q⟩:=h;cases rx;obtain⟨t,rfl⟩:=ry;obtain⟨its,r,pl,hz⟩:=I.list hq;obtain⟨j,h1,h2,h3,h4,h5⟩:=Ab he;obtain⟨w,ew,rw'⟩:=r.get h2;have hl:=r.length;have hn:=sG;have fin:EP X pins σ Q w s:=⟨z,H,I,rw',q⟩
 by_cases h0:0<=i
 ·have hj:i.toNat=j:=by
   rw[u5 h0 h5] at h1;exact ce h1
  exact item_listR pl.isList h0 (by omega) (by rw[hj];simpa using ew) fin hs
 ·have hj:(i+(its.toArray.size:Int)).toNat=j:=by
   rw[um (by omega) h4] at h1;rw[bc,<- hl];exact ce h1
  exact rn (x:=w) pl.isList.typeIs slot_list_getitem.lookup
   (wpAny_getItem_list_neg (Q:=fun r s'=>r=w/\EP X pins σ Q r s') pl.isList (by omega) (by rw[bc] <;> omega) (by omega) (by rw[hj];simpa using ew) ⟨rfl,fin⟩) hs
theorem ix_tup:IxR X (PK X.K):=by
 intro value slice pins s σ H x y v u Q I rx ry h hs;obtain⟨p,xs,i,z,rfl,rfl,hq,he,q⟩:=h;cases rx;obtain⟨t,rfl⟩:=ry;obtain⟨its,r,pl,hz⟩:=I.tuple hq;obtain⟨j,h1,h2,h3,h4,h5⟩:=Ab he;obtain⟨w,ew,rw'⟩:=r.get h2;have hl:=r.length;have hn:=sG;have fin:EP X pins σ Q w s:=⟨z,H,I,rw',q⟩;exact rn (x:=w) pl.typeIs jb.lookup
  (getItem_tuple (j:=j) (Q:=fun r s'=>r=w/\EP X pins σ Q r s') pl (by omega) (by omega) (by rw[bc,<- hl];exact h1) (by simpa using ew) ⟨rfl,fin⟩) hs
theorem Nf:IxR X PL:=by
 intro value slice pins s σ H x y v u Q I rx ry h hs;obtain⟨z,i,c,rfl,rfl,hz,he,q⟩:=h;obtain⟨t,rfl⟩:=rx;obtain⟨t',rfl⟩:=ry;obtain⟨j,h1,h2,h3,h4,h5⟩:=Ab he;have hl:z.cps.toList.length=z.length:=by simp[Str.length]
 rw[hl] at h1 h4 h5;have hn:=sG;exact tail_any (typeIs_str s z t) slot_str_getitem.lookup (getItem_str (c:=c) (by
  have e1:decide (i< -(2 ^ 63:Int))=false:=decide_eq_false (by omega);have e2:decide (i≥2 ^ 63)=false:=decide_eq_false (by omega);rw[e1,e2,Bool.or_false]) (by rw[h1];simpa using h2) ⟨.str ⟨#[c]⟩,H,I.tok _,⟨_,rfl⟩,q⟩) hs
noncomputable def rIx (K:aa):R2:=fun x y H Q=>PM K x y H Q∨PK K x y H Q∨PL x y H Q
theorem Ng:IxR X (rIx X.K):=ix_list.or (ix_tup.or Nf)
theorem BY (its:List af) (n j:Nat) (u:af):ki (·.setIfInBounds j u) { cls:=.type "list",data:=.seq its.toArray n }={ cls:=.type "list",data:=.seq (its.set j u).toArray n }:=by
 simp[ki]
theorem Inv.lst (I:Inv X pins σ H s) (h:H p=wj (.lst xs)):
  ∃(its:List af) (n:Nat),Vals xs its/\s.heap.get? p=wj { cls:=.type "list",data:=.seq its.toArray n }/\xs.length<=sizeLine:=by
 obtain⟨z,its,n,r,e⟩:=I.hok p _ h;exact⟨its,n,r,e,z⟩
theorem Inv.lstUpd {its its':List af} (I:Inv X pins σ H s) (h:H p=wj (.lst xs))
  (ho:s.heap.get? p=wj { cls:=.type "list",data:=.seq its.toArray n }) (hf:f { cls:=.type "list",data:=.seq its.toArray n }={ cls:=.type "list",data:=.seq its'.toArray n' }) (r:Vals ys its') (hz:ys.length<=sizeLine) (t:Nat):
  Inv X pins σ (upd H p (.lst ys)) { s with heap:=s.heap.update p f,toks:=t }:=by
 have e:(s.heap.update p f).get? p=wj { cls:=.type "list",data:=.seq its'.toArray n' }:=by
  rw[gp f ho (by rw[hf] <;> rfl),hf]
 refine I.write (x:=p) (e:=p) (by rw[h];trivial) (.inl rfl) (fun b u hb q=>(eu _ _ (bv hb)).trans q) ⟨_,e⟩ ?_;exact⟨hz,its',n',r,e⟩
noncomputable def Ov:V->V->V->Hp->(Hp->Prop)->Prop:=fun o i v H Q=>∃ p xs k j,o=.ref p/\i=.int k/\H p=wj (.lst xs)/\ixN xs.length k=wj j/\Q (upd H p (.lst (xs.set j v)))
theorem FA:PY X Ov:=by
 intro pins s σ H o i v ov iv u Q I ro ri rv h;obtain⟨p,xs,k,j,rfl,rfl,hp,hj,q⟩:=h;cases ro;obtain⟨t,rfl⟩:=ri;obtain⟨its,n,r,ho,hz⟩:=I.lst hp;obtain⟨h1,h2,h3,h4⟩:=Ef hj;have hl:=r.length;have hn:=sG;have I':Inv X pins σ (upd H p (.lst (xs.set j v))) { s with heap:=s.heap.update p (ki (·.setIfInBounds j u)) }:=
  I.lstUpd hp ho (BY its n j u) (r.set rv j) (by rw[ci];exact hz) s.toks
 by_cases h0:0<=k
 ·have hk:k.toNat=j:=by
   rw[u5 h0 h4] at h1;exact ce h1
  exact PySem.W.ki_setAt ho h0 (by omega) (by rw[bc,<- hl];exact h4) (by rw[hk];exact⟨_,I',q⟩)
 ·have hk:(k+(its.toArray.size:Int)).toNat=j:=by
   rw[um (by omega) h3] at h1;rw[bc,<- hl];exact ce h1
  exact PySem.W.ki_setBack ho (by omega) (by rw[bc,<- hl];exact h3) (by omega) (by rw[hk];exact⟨_,I',q⟩)
theorem vW (lo hi:Option Int) (n:Nat):(lm lo hi wk n).1=((HT.sIx n 0 lo:Nat):Int)/\(lm lo hi wk n).2.1=((HT.sIx n n hi:Nat):Int)/\(lm lo hi wk n).2.2=1:=by
 refine⟨?_,?_,rfl⟩
 ·cases lo with
  |none=>simp[lm,HT.sIx]
  |some i=>
   simp only[lm,HT.sIx,u7,show(1:Int)>0 by decide,if_true]
   by_cases h:i<0
   ·simp only[h,if_true] <;> omega
   ·simp only[h,if_false] <;> omega
 ·cases hi with
  |none=>simp[lm,HT.sIx]
  |some i=>
   simp only[lm,HT.sIx,u7,show(1:Int)>0 by decide,if_true]
   by_cases h:i<0
   ·simp only[h,if_true] <;> omega
   ·simp only[h,if_false] <;> omega
theorem tS (its:List af) (lo hi:Option Int):slicePick its.toArray lo hi wk=((its.drop (HT.sIx its.length 0 lo)).take (HT.sIx its.length its.length hi-HT.sIx its.length 0 lo)).toArray:=by
 obtain⟨h1,h2,h3⟩:=vW lo hi its.toArray.size;unfold slicePick;rw[h1,h2,h3];simp only[sliceRange_one,pick_run,bc] <;> rfl
noncomputable def Qp (K:aa):V->Option Int->Option Int->Hp->VK->Prop:=fun x lo hi H Q=>∃ a xs,x=.ref a/\SqL K H a xs/\∀ p,H p=wk->Q (.ref p) (upd H p (.lst (Iv xs lo hi)))
theorem sl_list:SlR X (Qp X.K):=by
 intro pins s σ H x v vl vu lo hi sl Q I rx hs pl pu h;obtain⟨a,xs,rfl,hx,q⟩:=h;cases rx;obtain⟨its,r,ht,hz⟩:=I.list hx;have hlen:=r.length;refine⟨"list",_,slot_list_getitem.lookup,ht.isList.typeIs,?_⟩;refine wpAny_getItem_list_slice ht.isList hs pl pu .none (by simp) ?_ (by rw[bc] <;> omega);rw[tS,<- hlen];refine⟨.ref s.heap.objs.size,_,I.laid (t':=s.toks) (o:=.lst (Iv xs lo hi)) (fun b ob q=>az _ q) (bf _) ?_,rfl,q _ (I.hok.fresh (bf _))⟩;exact⟨cf (qE xs lo hi) hz,_,0,(r.drop (HT.sIx xs.length 0 lo)).take (HT.sIx xs.length xs.length hi-HT.sIx xs.length 0 lo),bw _ rfl⟩
theorem CallR.or (h:CallR X f r) (h':CallR X f r'):CallR X f (fun xs H Q=>r xs H Q∨r' xs H Q):=by
 intro pins s σ H xs us Q I rs q;rcases q with q|q
 ·exact h pins s σ H xs us Q I rs q
 ·exact h' pins s σ H xs us Q I rs q
theorem mR:CallR X (.type "list") (fun xs H Q=>∃ p ys,xs=[.ref p]/\(SqL X.K H p ys∨SqT X.K H p ys)/\∀ l,H l=wk->Q (.ref l) (upd H l (.lst ys))):=by
 intro pins s σ H xs us Q I r h;obtain⟨p,ys,rfl,hq,q⟩:=h;obtain⟨u,rfl,rx⟩:=lV r;cases rx;have fin:∀(its:List af),Vals ys its->ys.length<=sizeLine->∀(h':cx) (c':Nat),(∀ b o',s.heap.get? b=wj o'->h'.get? b=wj o')->
   h'.get? s.heap.objs.size=wj { cls:=.type "list",dict:=wk,data:=.seq its.toArray c',slots:= #[] }->EP X pins σ Q (.ref s.heap.objs.size) { s with heap:=h' }:=fun its r' hz h' c' kp e=>
  ⟨.ref s.heap.objs.size,_,I.laid (t':=s.toks) kp (bf _) (show ObjOk X.prog X.w _ h' _ (.lst ys) from⟨hz,its,c',r',e⟩),rfl,q _ (I.hok.fresh (bf _))⟩
 rcases hq with hq|hq
 ·obtain⟨its,r',pl,hz⟩:=I.list hq;have hlen:=r'.length;obtain⟨o,ho,hc,n,hd⟩:=pl.isList;exact call_list_seq p (.inl rfl) ho hc hd (fun h' c' kp e=>fin its r' hz h' c' kp e) (by simp only[bc] <;> omega)
 ·obtain⟨its,r',pl,hz⟩:=I.tuple hq;have hlen:=r'.length;obtain⟨o,ho,hc,n,hd⟩:=pl;exact call_list_seq p (.inr rfl) ho hc hd (fun h' c' kp e=>fin its r' hz h' c' kp e) (by simp only[bc] <;> omega)
theorem uW:CallR X (.type "tuple") (fun xs H Q=>∃ p ys,xs=[.ref p]/\((SqL X.K H p ys/\∀ l,H l=wk->Q (.ref l) (upd H l (.tup ys)))∨(SqT X.K H p ys/\Q (.ref p) H))):=by
 intro pins s σ H xs us Q I r h;obtain⟨p,ys,rfl,h⟩:=h;obtain⟨u,rfl,rx⟩:=lV r;cases rx;rcases h with⟨hq,q⟩|⟨hq,q⟩
 ·obtain⟨its,r',pl,hz⟩:=I.list hq;have hlen:=r'.length;refine call_tuple_list pl.isList (fun h' kp=> ?_) (by simp only[bc] <;> omega);have I1:Inv X pins σ H { s with heap:=h' }:=I.kept (t':=s.toks) kp;have I2:Inv X pins σ (upd H h'.objs.size (.tup ys)) { s with heap:=h'.push { cls:=.type "tuple",data:=.seq its.toArray } }:=
   I1.laid (t':=s.toks) (fun b o e=>az _ e) (bf _) (show ObjOk X.prog X.w _ _ _ (.tup ys) from⟨hz,its,r',vz _ _⟩)
  exact⟨.ref h'.objs.size,_,I2,rfl,q _ (I1.hok.fresh (bf _))⟩
 ·obtain⟨its,r',pl,hz⟩:=I.tuple hq;exact call_tuple_same pl ⟨.ref p,H,I,rfl,q⟩
noncomputable def tyV (K:aa) (T:String) (x:V) (H:Hp):Prop:=match x with
 |.str _=>T="str"
 |.int _=>T="int"
 |.ref p=>(T="list"/\∃ xs,SqL K H p xs)∨(T="tuple"/\∃ o,K.lookup p=wj o/\o.cls=.type "tuple"/\o.dict=wk)∨
   (T="dict"/\((∃ kvs,H p=wj (.dK kvs))∨∃ kvs,H p=wj (.dT kvs)))∨(T="set"/\∃ S n,H p=wj (.set S n))
 |_=>False
theorem HX (I:Inv X pins σ H s) (r:RelV x v) (ty:tyV X.K T x H):
  s.TypeIs v T/\∀ a,v=.ref a->∃ ob,s.heap.get? a=wj ob/\ob.dict=wk:=by
 cases x with
 |str z=>
  obtain⟨t,rfl⟩:=r;cases (show T="str" from ty);exact⟨typeIs_str s z t,fun _ e=>nomatch e⟩
 |int i=>
  obtain⟨t,rfl⟩:=r;cases (show T="int" from ty);exact⟨typeIs_int s i t,fun _ e=>nomatch e⟩
 |ref p=>
  cases r;rcases ty with⟨rfl,xs,hq⟩|⟨rfl,o,hk,hc,hd⟩|⟨rfl,hk⟩|⟨rfl,S,n,hk⟩
  ·obtain⟨its,_,pl,_⟩:=I.list hq;refine⟨pl.isList.typeIs,fun a e=> ?_⟩;cases e;obtain⟨o,n,e,c,hd,_⟩:=pl;exact⟨o,e,hd⟩
  ·refine⟨⟨o,I.kIn p o hk,hc⟩,fun a e=> ?_⟩;cases e;exact⟨o,I.kIn _ o hk,hd⟩
  ·have z:∃ o,s.heap.get? p=wj o/\o.ExactDict:=by
    rcases hk with⟨kvs,hk⟩|⟨kvs,hk⟩
    ·obtain⟨_,_,_,_,o,_,_,e,ex,_⟩:=I.hok p _ hk;exact⟨o,e,ex⟩
    ·obtain⟨_,_,_,_,o,_,_,e,ex,_⟩:=I.hok p _ hk;exact⟨o,e,ex⟩
   obtain⟨o,e,ex⟩:=z;refine⟨⟨o,e,ex.1⟩,fun a e2=> ?_⟩;cases e2;exact⟨o,e,ex.2.1⟩
  ·obtain⟨o,_,_,_,e,ex,_⟩:=I.hok p _ hk;refine⟨⟨o,e,ex.1⟩,fun a e2=> ?_⟩;cases e2;exact⟨o,e,ex.2.1⟩
 |_=>exact iw ty
noncomputable def Qk (K:aa) (T:String) (r:V->List V->Hp->VK->Prop) (to:TE):TE:=fun σ H Q=>to σ H fun x H1=>tyV K T x H1/\r x [] H1 Q
noncomputable def tBM (K:aa) (T:String) (r:V->List V->Hp->VK->Prop) (to:TE) (t:TA):TE:=fun σ H Q=>to σ H fun x H1=>tyV K T x H1/\t σ H1 fun xs H2=>r x xs H2 Q
variable {o e:bt}{es:List bt}{to:TE}{t:TA}{name:Str}{apos cpos:Pos}{T id:String}{r:V->List V->Hp->VK->Prop}
theorem Ma (pa:PlainAttrs T) (slot:Slot T name id) (hty:typeOf (.builtin id)=pure (.type "method_descriptor")) (hm:MtR X id r) (ho:PE X o to)
  (hbase:ib o name X.env (eval o X.env)=eval o X.env:=by rfl) (hline:(apos.endLine==cpos.line)=true:=by rfl):PE X (.Call (.Attribute o name apos) [] [] cpos) (Qk X.K T r to):=by
 intro pins s σ H Q I h;refine wpAny_Call_method0_late hbase hline (thn (ho pins s σ H _ I h) fun v s1 ⟨x,H1,I1,r1,ty,q1⟩=> ?_);obtain⟨h1,h2⟩:=HX I1 r1 ty;exact⟨T,id,pa,slot,hty,h1,h2,rp rfl (PySem.evalArgs_none (hm pins s1 σ H1 x [] v [] Q I1 r1 .nil q1))⟩
theorem Mb (pa:PlainAttrs T) (slot:Slot T name id) (hty:typeOf (.builtin id)=pure (.type "method_descriptor")) (hm:MtR X id r) (ho:PE X o to) (ha:PA X (e::es) t)
  (hbase:ib o name X.env (eval o X.env)=eval o X.env:=by rfl)
  (hfew:((di cpos (av (e::es) X.env)).all (fun x=> !x.1)&&(jy cpos (io [] X.env)).all (fun x=>x.1.isSome)
   &&decide ((e::es).length+([]:List kc).length+(if([]:List kc).isEmpty then 0 else 1)<30))=true:=by rfl)
  (hline:(apos.endLine==cpos.line)=true:=by rfl) (hs:av (e::es) X.env=(false,eval e X.env)::av es X.env:=by rfl) (hplain:(di cpos (av es X.env)).any (·.1)=false:=by rfl):
  PE X (.Call (.Attribute o name apos) (e::es) [] cpos) (tBM X.K T r to t):=by
 intro pins s σ H Q I h;refine wpAny_Call_method_late hbase hfew hline rfl (thn (ho pins s σ H _ I h) fun v s1 ⟨x,H1,I1,r1,ty,q1⟩=> ?_);obtain⟨h1,h2⟩:=HX I1 r1 ty;refine⟨T,id,pa,slot,hty,h1,h2,?_⟩;have hA:=ha cpos pins s1 σ H1 _ I1 q1;rw[hs] at hA ⊢;refine rp (by show(false||(di cpos (av es X.env)).any (·.1))=false;rw[hplain] <;> rfl) (tf ?_);exact thn hA fun us s2 ⟨vs,H2,I2,r2,q2⟩=>hm pins s2 σ H2 x vs v us Q I2 r1 r2 q2
end
end L2
namespace L2
noncomputable def MtM (X:Cx) (id:String) (r:V->List V->Hp->VK->Prop):Prop:=
 ∀(pins:List (ae×Obj)) (s:am) (σ:St) (H:Hp) (x:V) (xs:List V) (v:af) (us:List af) (Q:VK),Inv X pins σ H s->RelV x v->Vals xs us->r x xs H Q->
  ay (model X.prog X.w) X.A (call (.builtin id) (v::us)) (EP X pins σ Q) X.xe s
theorem Vals.one:∀ {x:V}{us:List af},Vals [x] us->∃ u,us=[u]/\RelV x u
 |_,_,.cons r .nil=>⟨_,rfl,r⟩
theorem Vals.rep (h:Vals xs us):∀ k:Nat,Vals (ar k xs).flatten (ar k us).flatten
 |0=>.nil
 |k+1=>by
  rw[fh,fh,i5,i5];exact Vals.append h (Vals.rep h k)
theorem xE (its:List af):∀(k:Nat) (acc:List af),
  vg (fun x1 x2=>x1++x2) acc.toArray (ar k its.toArray)=(acc++(ar k its).flatten).toArray
 |0,acc=>by simp
 |k+1,acc=>by
  have e:acc.toArray++its.toArray=(acc++its).toArray:=by simp
  have e2:(acc++its)++(ar k its).flatten=acc++(ar (k+1) its).flatten:=by
   rw[fh,i5,g7]
  rw[<- e2,<- xE its k (acc++its),<- e,fh,vh]
section
variable {X:Cx}{pins:List (ae×Obj)}{σ:St}{H:Hp}{s:am}{l b:ae}{xs ys zs:List V}
theorem Inv.lset {its its':List af} (I:Inv X pins σ H s) (hH:H l=wj (.lst xs))
  (e:s.heap.get? l=wj { cls:=.type "list",data:=.seq its.toArray n }) (hf:f its.toArray=its'.toArray) (hv:Vals ys its') (hz:ys.length<=sizeLine):
  Inv X pins σ (upd H l (.lst ys)) { s with heap:=s.heap.update l (ki f),toks:=t' }:=by
 have q:=PySem.IsL.update e f;rw[hf] at q;refine I.write (x:=l) (e:=l) (by rw[hH];exact trivial) (.inl rfl) (fun b' u hb hu=>(eu s.heap (ki f) (bv hb)).trans hu) ⟨_,q⟩ ?_;exact⟨hz,its',_,hv,q⟩
theorem Inv.lnew (I:Inv X pins σ H s) (hv:Vals ys its) (hz:ys.length<=sizeLine):
  Inv X pins σ (upd H s.heap.objs.size (.lst ys)) { s with heap:=s.heap.push { cls:=.type "list",data:=.seq its.toArray },toks:=t' }:=
 I.laid (fun _ _ q=>az _ q) (bf _) ⟨hz,its,0,hv,bw _ rfl⟩
theorem Inv.fresh (I:Inv X pins σ H s):H s.heap.objs.size=wk:=I.hok.fresh (bf _)
theorem Inv.lstM (I:Inv X pins σ H s) (hH:H l=wj (.lst xs)):xs.length<=sizeLine/\∃(its:List af) (n:Nat),Vals xs its/\xs.length=its.length/\s.heap.get? l=wj { cls:=.type "list",data:=.seq its.toArray n }:=by
 obtain⟨z,its,n,r,e⟩:=I.hok l _ hH;exact⟨z,its,n,r,r.length,e⟩
theorem Gr (h:n<=sizeLine):me n=false:=by
 unfold me;exact decide_eq_false (by omega)
end
section
variable {X:Cx}
noncomputable def Dm:V->List V->Hp->VK->Prop:=fun x vs H Q=>∃ l xs y,x=.ref l/\vs=[y]/\H l=wj (.lst xs)/\xs.length<sizeLine/\Q .non (upd H l (.lst (xs++[y])))
theorem wM:MtM X "list.append" Dm:=by
 intro pins s σ H x vs v us Q I rx rv h;obtain⟨l,xs,y,rfl,rfl,hH,hz,q⟩:=h;cases rx;obtain⟨u,rfl,ru⟩:=rv.one;obtain⟨z,its,n,r,hl,e⟩:=I.lstM hH;refine call_meets si ⟨_,e,rfl⟩ F.entry_list_append (F.args_list_append_2 _ _) (PySem.list_append l its.toArray n u (by rw[bc];omega)) ⟨e,?_⟩;refine⟨.non,_,I.lset (its':=its++[u]) hH e (by simp) (r.append (.cons ru .nil)) ?_,rfl,q⟩;rw[b7,kt];omega
noncomputable def Qs:R2:=fun x y H Q=>∃ l b xs zs,x=.ref l/\y=.ref b/\H l=wj (.lst xs)/\H b=wj (.lst zs)/\xs.length+zs.length<=sizeLine/\∀ p,H p=wk->Q (.ref p) (upd H p (.lst (xs++zs)))
theorem MD:OpR X (jx .Add) Qs:=by
 intro pins s σ H x y v u Q I rx ry h;obtain⟨l,b,xs,zs,rfl,rfl,hH,hB,hz,q⟩:=h;cases rx;cases ry;obtain⟨z,its,n,r,hl,e⟩:=I.lstM hH;obtain⟨z2,its2,n2,r2,hl2,e2⟩:=I.lstM hB;refine PySem.P.add_list e e2 ?_ (by rw[bc,bc];omega);have ea:its.toArray++its2.toArray=(its++its2).toArray:=by simp
 rw[ea];exact⟨.ref _,_,I.lnew (t':=s.toks) (r.append r2) (by rw[b7];omega),rfl,q _ I.fresh⟩
noncomputable def Qq:R2:=fun x y H Q=>∃ l k xs,x=.ref l/\y=.int k/\H l=wj (.lst xs)/\ -(2 ^ 63)<=k/\k<2 ^ 63/\xs.length*k.toNat<=sizeLine/\
 ∀ p,H p=wk->Q (.ref p) (upd H p (.lst (ar k.toNat xs).flatten))
theorem JZ (xs:List α) (k:Nat):(ar k xs).flatten.length=k*xs.length:=by
 induction k with
 |zero=>simp
 |succ k ih=>rw[fh,i5,b7,ih,Nat.succ_mul,Nat.add_comm]
theorem Mu:OpR X (jx .Mult) Qq:=by
 intro pins s σ H x y v u Q I rx ry h;obtain⟨l,k,xs,rfl,rfl,hH,h1,h2,hz,q⟩:=h;cases rx;obtain⟨t,rfl⟩:=ry;obtain⟨z,its,n,r,hl,e⟩:=I.lstM hH;have hlen:its.toArray.size*k.toNat<=sizeLine:=by rw[bc,<- hl];exact hz
 have hcap:¬ its.toArray.size*k.toNat>(2 ^ 63-1) / 8:=by
  have:(sizeLine:Nat)<=(2 ^ 63-1) / 8:=by decide
  omega
 have hfit:¬(!Builtin.List.listFitsIndex k)=true:=by
  rw[fitsIndex_both h1 h2];exact cg
 have hlong:¬ me (its.toArray.size*k.toNat)=true:=by
  rw[Gr hlen];exact cg
 have hnew:vg (fun x1 x2=>x1++x2) #[] (ar (if its.toArray.isEmpty=true then 0 else k.toNat) its.toArray)=(ar k.toNat its).flatten.toArray:=by
  have f0:∀ m:Nat,vg (fun x1 x2=>x1++x2) #[] (ar m its.toArray)=(ar m its).flatten.toArray:=fun m=>by
   have:=xE its m []
   rw[List.nil_append] at this;exact this
  rw[f0];cases its with
  |nil=>simp
  |cons a r'=>rw[if_neg (by simp)]
 refine wpAny_binaryOp_repeat_ref (T:="list") (U:="int") (by decide) ⟨_,e,rfl⟩ (fun s'=>typeIs_int s' k t) noFill_list_mul F.fills_int_mul F.slot_int_rmul repeat_list F.slot_int_index.lookup
  (call_meets F.slot_int_rmul (typeIs_int s k t) F.entry_int_rmul (F.args_int_rmul_2 _ _) (int___rmul___int_list k t l its.toArray n)
   ⟨e,rfl,⟨_,e,rfl⟩,call_meets F.slot_list_mul ⟨_,e,rfl⟩ F.entry_list_mul (F.args_list_mul_2 _ _) (AutoListH.list___mul___list_int_3 l its.toArray n k t hfit hcap hlong) ⟨e,?_⟩⟩)
 rw[hnew];exact⟨.ref _,_,I.lnew (t':=s.toks) (r.rep k.toNat) (by rw[JZ,Nat.mul_comm];exact hz),rfl,q _ I.fresh⟩
end
section
variable {prog:db}{w:df}{A:dh}{E:af->am->Prop}{s:am}
set_option maxRecDepth 100000 in
end
section
variable {X:Cx}
end
end L2
namespace Att
open PySem PySem.W PySem.Calls PyProof.Rows
theorem pE:∀(ns:List Int) (vs:List af),WellAll P h vs (ns.map WData.int)->ke vs ns:=by
 intro ns
 induction ns with
 |nil=>
  intro vs w;rw[kr] at w;cases w;exact .nil
 |cons n ns ih=>
  intro vs w;rw[bh] at w;cases w with
  |cons a b=>
   cases a;exact .cons _ _ (ih _ b)
theorem Dc {l:OpenLaw} (hn:l.most=wj n)
  (hpre:l.row.toRowW.claim.pre args=true) (hwl:WellAll P h vals args):
  ∃ a vs ns,vals=[b9 a]/\args=[WData.list (ns.map WData.int)]/\h.get? a=wj { cls:=.type "list",data:=.seq vs.toArray }/\ke vs ns/\ns.length<=n:=by
 have hsh:WShape.hasAll [] args [.list .int]=true:=(pre_splitW hpre).1;have hc:l.pre.holds [] { args:=args }=true:=(pre_splitW hpre).2;obtain⟨d,r,rfl,h1,h2⟩:=hasAllW_cons hsh;obtain rfl:=hasAllW_nil h2;obtain⟨xs,rfl,h3⟩:=hasW_list h1;obtain⟨ns,rfl⟩:=items_int h3;have hlen:ns.length<=n:=by
  unfold OpenLaw.pre at hc;have h4:(WTm.not (.lt (.lit (.int (n:Int))) (.len (.arg 0)))).holds [] { args:=[.list (ns.map .int)] }=true:=by
   have h4:=(holds_andW hc).1;rw[hn] at h4;exact h4
  have h5:=condW_of h4 (w_not (w_lt w_lit (w_len_list (w_arg rfl))));rw[ao] at h5;refine Nat.le_of_not_lt fun q=> ?_;have q':(n:Int)<((ns.length:Nat):Int):=by omega
  first
   |(rw[decide_eq_true q'] at h5;exact absurd h5 (by decide))
   |(simp at h5;omega)
 cases hwl with
 |cons w1 w2=>
  cases w2;cases w1 with
  |list ho hall=>exact⟨_,_,ns,rfl,rfl,ho,pE ns _ hall,hlen⟩
theorem Dn (l:OpenLaw) (args:List WData):l.row.toRowW.claim.post args (.bool true) args=true:=
 postW_of (r:=l.row.toRowW) (X:=(true==true))
  (show WShape.has [] (.bool true) .bool=true by first|rfl|decide|simp[WShape.has,WShape.arms,WShape.armsAll])
  (show(WTm.eq .res (.lit (.bool true))).value [] { args:=args,res:=wj (.bool true),after:=args }=wj (.bool (true==true)) from w_eq_bool (w_res rfl) w_lit) rfl
theorem attach_call {l:OpenLaw}
  (hn:l.most=wj n) (hdf:d.params.defaults=[])
  (call:∀(w:df) (s₀ s₁:am) (mg mb:Str->Option af) (fa:ae) (o:Obj) (pm cd doc:af) (a:ae) (vs:List af) (ns:List Int),
   Ground q loose [] XP w s₀ mg mb s₁.heap->YP w s₁.heap->
   s₁.heap.get? fa=wj o->o.data=.func (docDef d.name d.params d.body d.scope pm cd doc)->s₁.heap.CodeRec cd d.name->mg d.name=wj (.ref fa)->
   s₁.heap.get? a=wj { cls:=.type "list",data:=.seq vs.toArray }->ke vs ns->ns.length<=n->s₁.gens= #[]->
   oa (model l.prog w) o9 (.call (.ref fa) ⟨[.ref a],[]⟩) (fun r s'=>r=.ok (.ret (.bool true))/\OldK s₁.heap s'.heap/\s'.os=s₁.os/\mq s'.gens) s₁):
  WalkO q loose XP YP l.row.toRowW d [] (fun f vs=>vj f vs):=by
 intro w s₀ s₁ mg mb G Y fa o pm cd doc dV kV ho hd hcd hD hmg hg args vals as hpre hlay hrd hwl hlo;obtain rfl:dV=.none:=Dflts.none hD hdf;obtain rfl:kV=.none:=Dflts.noKw hD;obtain⟨a,vs,ns,rfl,rfl,hobj,hints,hlen⟩:=Dc hn hpre hwl;refine enter_call (qg (call w s₀ s₁ mg mb fa o pm cd doc a vs ns G Y ho (fd_plain hd) hcd hmg hobj hints hlen hg) fun r s' hq=> ?_);obtain⟨rfl,h2,h3,h4⟩:=hq;exact⟨.inl ⟨.bool true,.bool true,[],rfl,fun _=>rfl,.bool true,Dn l _,fun _=>⟨List.Pairwise.nil,fun _ hm=>(nomatch hm)⟩⟩,h2,h3,h4⟩
section
variable {prog:db}{w:df}{A:dh}{E:af->am->Prop}{s:am}{K:Frag}
end
end Att
namespace L2
theorem vN:∀ {vs:List af}{ns:List Int},ke vs ns->Vals (ns.map V.int) vs
 |_,_,.nil=>.nil
 |_,_,.cons n t h=>.cons ⟨t,rfl⟩ (vN h)
noncomputable def Pv (H:Hp):Prop:=∀ b,H b=wk∨∃ o xs,H b=wj (.frz o (.lst xs))
theorem GD {K:aa}
  (KX:K.In s₁.heap) (hns:s₁.heap.Ns ca mg) (hb:s₁.heap.Ns builtinsNs mb) (hbb:∀ x:Str,x≠"__name__"->mb x=de x) (hlim:s₁.heap.NoLimit) (hg:s₁.gens= #[])
  (ha:s₁.heap.get? a=wj { cls:=.type "list",data:=.seq vs.toArray }) (hi:ke vs ns) (hl:ns.length<=sizeLine) (hr:Room k o9)
  (F:∀ base:cx,K.In base->base.Ns ca mg->rP P w K mg base CX k fa fd [x] sp) (hbind:∀(s:am) (u:af),sg s fd ⟨[u],[]⟩ [(x,u)])
  (hsp:∀ H:Hp,Pv H->SqL K H a (ns.map V.int)->sp [.ref a] H (fun v _=>v=.bl true) fun _ _ _=>False)
  (hCX:∀ H e s',CX [] H s₁ (fun _ _ _=>False) e s'->False):
  oa (model P w) o9 (.call (.ref fa) ⟨[.ref a],[]⟩) (fun r s'=>r=.ok (.ret (.bool true))/\OldK s₁.heap s'.heap/\s'.os=s₁.os/\mq s'.gens) s₁:=by
 have rv:=vN hi;have lenV:=hi.length
 -- from an abstract heap in which nothing but the script may be tracked
 have core:∀ H:Hp,Pv H->SqL K H a (ns.map V.int)->HOk P w H s₁.heap->(∀ b,H b≠wk->b=a)->(H a≠wk->K.lookup a=wk)->
   oa (model P w) o9 (.call (.ref fa) ⟨[.ref a],[]⟩) (fun r s'=>r=.ok (.ret (.bool true))/\OldK s₁.heap s'.heap/\s'.os=s₁.os/\mq s'.gens) s₁:=by
  intro H hO hS hok hA hK;have base_of:∀ {b:ae}{o:Obj},s₁.heap.get? b=wj o->H b=wk->(GK s₁.heap H).get? b=wj o:=fun e n=>GJ e n;have noA:∀ {b:ae}{o:Obj}{es:Array k6}{ep:Nat},s₁.heap.get? b=wj o->o.data=.dict es ep->H b=wk:=fun {b o es ep} e d=>by
   cases q:H b with
   |none=>rfl
   |some u=>
    have e':b=a:=hA b (by rw[q];simp);subst e';rw[ha] at e;cases e;have d':Data.seq vs.toArray _=wb es ep:=d;cases d'
  have nsK:∀ {b:ae}{m:Str->Option af},s₁.heap.Ns b m->(GK s₁.heap H).Ns b m:=fun {b m} ⟨o,es,ep,e,d,r⟩=>⟨o,es,ep,base_of e (noA e d),d,r⟩;have hKb:K.In (GK s₁.heap H):=fun b o e=>base_of (KX b o e) (by
   cases q:H b with
   |none=>rfl
   |some u=>
    have e':b=a:=hA b (by rw[q];simp);subst e';rw[hK (by rw[q];simp)] at e;cases e)
  have hM:Mod K mg (GK s₁.heap H):=⟨hKb,nsK hns,⟨mb,nsK hb,hbb⟩,let ⟨mc,h1,h2⟩:=hlim;⟨mc,nsK h1,h2⟩⟩;have e0:Env0 P w K mg (GK s₁.heap H) o9 [] s₁ H:=⟨rfl,hM,fun b o e=>JB e,uj (Ej _ _),trivial,fun b hb=>absurd (show b∈([]:List ae) from hb) (by simp),hok,.of_eq hg⟩;refine qg ((F _ hKb (nsK hns)).run o9 [] s₁ H ⟨[.ref a],[]⟩ [.ref a] [.ref a] _ _ hr e0 (hbind s₁ (.ref a)) (.cons rfl .nil) (hsp H hO hS)) fun r s' h=> ?_;cases r with
  |error e=>exact(hCX H e s' h).elim
  |ok fl=>
   cases fl with
   |next=>exact iw h
   |brk=>exact iw h
   |cont=>exact iw h
   |ret u=>
    obtain⟨v,H',os,bare,un,hok',r',q⟩:=h;have q':v=.bl true:=q;subst q';obtain rfl:u=sy true:=r';refine⟨rfl,OldK.of_keep fun b o e=> ?_,os,bare⟩;cases q:H b with
    |none=>exact un.keep b o e q (by intro z;exact absurd (show b∈([]:List ae) from z) (by simp)) (by simp)
    |some u=>
     rcases hO b with z|⟨ob,xs,z⟩
     ·rw[q] at z;cases z
     ·have z2:=un.frzs b ob _ z;obtain⟨e1,_⟩:=hok b _ z;obtain⟨e2,_⟩:=hok' b _ z2;rw[e] at e1;cases e1;exact e2
 cases hk:K.lookup a with
 |some o=>
  -- the script is one of the module's own objects
  have e:=KX a o hk;rw[ha] at e;cases e;refine core (fun _=>wk) (fun _=>.inl rfl) (.inr ⟨_,vs.toArray,_,hk,rfl,rfl,rfl,by rw[bc,lenV];exact hl,by simpa using rv⟩) (fun b u z=>by have z':(wk:Option HO)=wj u:=z;cases z') (fun b z=>absurd rfl z) fun z=>absurd rfl z
 |none=>
  refine core (fun b=>if b=a then wj (.frz { cls:=.type "list",data:=.seq vs.toArray } (.lst (ns.map V.int))) else wk) (fun b=> ?_) (.inl (.inr ⟨{ cls:=.type "list",data:=.seq vs.toArray },if_pos rfl⟩)) (fun b u z=> ?_) (fun b z=> ?_) fun _=>hk
  ·by_cases hb:b=a
   ·exact .inr ⟨_,_,if_pos hb⟩
   ·exact .inl (if_neg hb)
  ·by_cases hb:b=a
   ·have z':=(if_pos hb).symm.trans z;cases z';subst hb;exact⟨ha,by rw[ao];exact hl,vs,_,rv,ha⟩
   ·have z':=(if_neg hb).symm.trans z;cases z'
  ·by_cases hb:b=a
   ·exact hb
   ·exact absurd (if_neg hb) z
end L2
namespace L2
theorem walk_of {l:vk}{K:Params->aa}{CX:df->CXT}{sp:df->Sp}
  (hn:l.most=wj n) (hn2:n<=sizeLine) (hdf:d.params.defaults=[]) (hr:Room k o9)
  (hY:∀(w:df) (h:cx),YP w h->(K w.params).In h)
  (F:∀(w:df) (mg:Str->Option af) (fa:ae) (h:cx),(K w.params).In h->h.Ns ca mg->mg d.name=wj (.ref fa)->
   ∃ fd:jk,(∀(s:am) (u:af),sg s fd ⟨[u],[]⟩ [(x,u)])/\
    ∀ base:cx,(K w.params).In base->base.Ns ca mg->rP l.prog w (K w.params) mg base (CX w) k fa fd [x] (sp w))
  (hsp:∀(w:df) (H:Hp) (a:ae) (ns:List Int),ns.length<=n->Pv H->SqL (K w.params) H a (ns.map V.int)->sp w [.ref a] H (fun v _=>v=.bl true) fun _ _ _=>False)
  (hCX:∀(w:df) (H:Hp) (s:am) (e:af) (s':am),CX w [] H s (fun _ _ _=>False) e s'->False):
  wd q loose XP YP l.row.toRowW d [] (fun f vs=>vj f vs):=by
 refine Att.attach_call hn hdf fun w s₀ s₁ mg mb fa o pm cd doc a vs ns G Y ho hd hcd hmg hobj hints hlen hg=> ?_;have KX:=hY w _ Y;obtain⟨fd,hb,hF⟩:=F w mg fa _ KX G.T.g hmg;exact GD KX G.T.g G.T.b G.T.builtins G.T.nolimit hg hobj hints (cf hlen hn2) hr hF hb (fun H hO hS=>hsp w H a ns hlen hO hS) fun H e s'=>hCX w H s₁ e s'
end L2
namespace L2
noncomputable def cB (s:cr) (j:Nat):cr:=match s with
 |.ClassDef _ _ _ body _ _ _ _ _ _ _=>body.getD j (.Pass ⟨0,0,0,0⟩)
 |_=>.Pass ⟨0,0,0,0⟩
noncomputable def gX (s:cr):Arguments:=match s with
 |.FunctionDef _ a _ _ _ _ _ _ _ _=>a
 |_=>{ posonlyargs:=[],args:=[],vararg:=wk,kwonlyargs:=[],kw_defaults:=[],kwarg:=wk,defaults:=[] }
noncomputable def fV (s:cr):List cr:=match s with
 |.FunctionDef _ _ b _ _ _ _ _ _ _=>b
 |_=>[]
noncomputable def bG (s:cr):j7:=match s with
 |.FunctionDef _ _ _ _ _ _ sc _ _ _=>sc
 |_=>{ kind:=.function,names:=[],isGenerator:=false,isCoroutine:=false }
structure Fun (K:aa) (x qual:Str) (st:cr) (f:ae) (fd:jk):Prop where
 ex:∃(oc:af) (od:Option ae) (kV doc pm:af) (an:Option ae) (cdv ct:af) (osl:Array (Option af)),
  fd=ip x qual (gX st) (fV st) (bG st) .none kV doc pm an cdv ct/\K.lookup f=wj ⟨oc,od,.func fd,osl⟩/\jv K cdv qual=true
 kp:gn K (.ref f)=true
section
variable {P:db}{w:df}{K:aa}{mg:Str->Option af}{base:cx}
theorem Fun.binds {st:cr} (F:Fun K x qual st f fd)
  (h:∀(kV doc pm:af) (an:Option ae) (cdv ct:af) (us:List af),us.length=ps.length->bindArgs (ip x qual (gX st) (fV st) (bG st) .none kV doc pm an cdv ct) ⟨us,[]⟩=pure (ps.zip us)):Binds K fd ps []:=by
 obtain⟨oc,od,kV,doc,pm,an,cdv,ct,osl,rfl,lk,hcd⟩:=F.ex;exact .all (h kV doc pm an cdv ct)
theorem Iq {st:cr}{kV doc pm cdv ct:af} (l:K.lookup f=wj ⟨oc,od,.func (ip x qual (gX st) (fV st) (bG st) .none kV doc pm an cdv ct),osl⟩)
  (c:jv K cdv qual=true) (k:gn K (.ref f)=true):Fun K x qual st f (ip x qual (gX st) (fV st) (bG st) .none kV doc pm an cdv ct):=⟨⟨oc,od,kV,doc,pm,an,cdv,ct,osl,rfl,l,c⟩,k⟩
end
theorem Pe (hr:Room k A):A.units+1<dr:=mf (Nat.add_le_add_left (by decide:1<=64) _) hr.units
section
variable {X:Cx}
end
theorem Le {A B:Prop} (h:B):if false=true then A else B:=by
 rw[if_neg cg];exact h
theorem Ld {A B:Prop} (h:A):if true=true then A else B:=by
 rw[if_pos rfl];exact h
noncomputable def Same (H H':Hp):Prop:=∀ b o,H b=wj o->H' b=wj o
theorem Same.refl (H:Hp):Same H H:=fun _ _ h=>h
theorem Same.trans (a:Same H H1) (b:Same H1 H2):Same H H2:=fun c o h=>b c o (a c o h)
theorem Same.free (e:Same H H') (h:H' l=Option.none):H l=Option.none:=by
 cases q:H l with
 |none=>rfl
 |some o=>
  rw[e l o q] at h;cases h
end L2
end
section
namespace L2
section
variable {κ:Type} [DecidableEq κ]
noncomputable def vO (kvs:List (κ×V)) (k:κ):Option V:=(kvs.find? fun kv=>decide (kv.1=k)).map (·.2)
noncomputable def mI (kvs:List (κ×V)) (k:κ) (v:V):List (κ×V):=
 if(kvs.any fun kv=>decide (kv.1=k))=true then kvs.map (fun kv=>if kv.1=k then(kv.1,v) else kv) else kvs++[(k,v)]
noncomputable def xK (kvs:List (κ×V)) (k:κ):List (κ×V):=kvs.filter fun kv=>decide (kv.1≠k)
theorem nC {k:κ} (e:p.1=k):vO (p::r) k=wj p.2:=by simp[vO,gq,e]
theorem kN {k:κ} (e:¬ p.1=k):vO (p::r) k=vO r k:=by simp[vO,gq,e]
theorem Az (k:κ):∀ kvs:List (κ×V),(kvs.any fun kv=>decide (kv.1=k))=(vO kvs k).isSome
 |[]=>rfl
 |p::r=>by
  rw[lg]
  by_cases e:p.1=k
  ·simp only[nC e,decide_eq_true e,Bool.true_or,uo]
  ·rw[kN e,decide_eq_false e,Bool.false_or];exact Az k r
theorem gQ (kvs:List (κ×V)) (k:κ) (v:V):(mI kvs k v).length<=kvs.length+1:=by
 unfold mI;split
 ·rw[ao];omega
 ·rw[b7,bz,kh];omega
theorem RelO.isSome_eq (r:RelO o u):o.isSome=u.isSome:=by
 cases o with
 |none=>cases u with
  |none=>rfl
  |some _=>exact(show False from r).elim
 |some _=>cases u with
  |none=>exact(show False from r).elim
  |some _=>rfl
theorem KV.val (r:KV kvs vs) (k:κ):RelO (vO kvs k) (qf vs k):=by
 unfold KV at r
 induction r with
 |nil=>exact ig
 |@cons p q ps qs h t ih=>
  obtain⟨h1,h2⟩:=h
  by_cases e:p.1=k
  ·have e':q.1=k:=h1.symm.trans e;have b:qf (q::qs) k=wj q.2:=by simp[qf,gq,e']
   rw[nC e,b];exact h2
  ·have e':¬ q.1=k:=fun z=>e (h1.trans z);have b:qf (q::qs) k=qf qs k:=by simp[qf,gq,e']
   rw[kN e,b];exact ih
theorem KV.any (r:KV kvs vs) (k:κ):(kvs.any fun kv=>decide (kv.1=k))=vs.any fun kv=>decide (kv.1=k):=by
 unfold KV at r
 induction r with
 |nil=>rfl
 |cons h t ih=>rw[lg,lg,ih,h.1]
theorem KV.repl (r:KV kvs vs) (k:κ) (ry:RelV y u):
  KV (kvs.map fun kv=>if kv.1=k then(kv.1,y) else kv) (vs.map fun kv=>if kv.1=k then(kv.1,u) else kv):=by
 unfold KV at r ⊢
 induction r with
 |nil=>exact .nil
 |@cons p q ps qs h t ih=>
  rw[bh,bh];refine .cons ?_ ih;obtain⟨h1,h2⟩:=h
  by_cases e:p.1=k
  ·rw[if_pos e,if_pos (h1.symm.trans e)];exact⟨h1,ry⟩
  ·rw[if_neg e,if_neg (fun z=>e (h1.trans z))];exact⟨h1,h2⟩
theorem KV.put (r:KV kvs vs) (k:κ) (ry:RelV y u):KV (mI kvs k y) (stored vs k u):=by
 unfold mI stored;rw[r.any k]
 by_cases e:(vs.any fun kv=>decide (kv.1=k))=true
 ·rw[if_pos e,if_pos e];exact r.repl k ry
 ·rw[if_neg e,if_neg e];exact Paired.snoc r ⟨rfl,ry⟩
theorem KV.length {vs:List (κ×af)} (r:KV kvs vs):kvs.length=vs.length:=i6 r
theorem Hw (kvs:List (κ×V)) (k:κ):(xK kvs k).length<=kvs.length:=dy _ _
end
theorem Ed (r:RelV (kV k) u):(aO P w).is k u=true:=by
 cases k with
 |inl i=>obtain⟨t,e⟩:=(show ∃ t,u=uf i t from r);subst e;exact yW P w i t
 |inr x=>obtain⟨t,e⟩:=(show ∃ t,u=ug x t from r);subst e;exact yV P w x t
theorem wS:∀ {ks:List Key}{us:List af},Vals (ks.map kV) us->ItemsAre (aO P w) ks us
 |[],_,r=>by rw[kr] at r;cases r;exact .nil
 |k::ks,_,r=>by
  rw[bh] at r;cases r with
  |cons h t=>exact .cons (Ed h) (wS t)
noncomputable abbrev KT (H:Hp):List (List Key×V)->List (List Key×ae×af)->Prop:=jw fun p q=>p.1=q.1/\H q.2.1=wj (.tup (p.1.map kV))/\RelV p.2 q.2.2
theorem KT.val (r:KT H kvs xs) (k:List Key):RelO (vO kvs k) ((k9 xs k).map (·.2)):=by
 induction r with
 |nil=>exact ig
 |@cons p q ps qs h t ih=>
  obtain⟨h1,_,h2⟩:=h
  by_cases e:p.1=k
  ·have e':q.1=k:=h1.symm.trans e;have b:k9 (q::qs) k=wj q.2:=by simp[k9,gq,e']
   rw[nC e,b];exact h2
  ·have e':¬ q.1=k:=fun z=>e (h1.trans z);have b:k9 (q::qs) k=k9 qs k:=by simp[k9,gq,e']
   rw[kN e,b];exact ih
theorem KT.repl (r:KT H kvs xs) (k:List Key) (ry:RelV y u):
  KT H (kvs.map fun kv=>if kv.1=k then(kv.1,y) else kv) (xs.map (qx k u)):=by
 induction r with
 |nil=>exact .nil
 |@cons p q ps qs h t ih=>
  rw[bh,bh];refine .cons ?_ ih;obtain⟨h1,h2,h3⟩:=h;unfold qx
  by_cases e:p.1=k
  ·rw[if_pos e,if_pos (h1.symm.trans e)];exact⟨h1,h2,ry⟩
  ·rw[if_neg e,if_neg (fun z=>e (h1.trans z))];exact⟨h1,h2,h3⟩
theorem KT.put (r:KT H kvs xs) (k:List Key) (hb:H b=wj (.tup (k.map kV))) (ry:RelV y u):
  KT H (mI kvs k y) (jj xs k b u):=by
 have e:(kvs.any fun kv=>decide (kv.1=k))=(k9 xs k).isSome:=by
  rw[Az,(r.val k).isSome_eq,p0]
 unfold mI jj;rw[e]
 by_cases q:(k9 xs k).isSome=true
 ·rw[if_pos q,if_pos q];exact r.repl k ry
 ·rw[if_neg q,if_neg q];exact Paired.snoc r ⟨rfl,hb,ry⟩
theorem KT.keeps (r:KT H kvs xs) (ht:∀ b ys,H b=wj (.tup ys)->H' b=wj (.tup ys)):KT H' kvs xs:=
 jw.mapP r fun _ _ z=>⟨z.1,ht _ _ z.2.1,z.2.2⟩
section
variable {P:db}{w:df}{H:Hp}{h:cx}{a:ae}
theorem Lz (ok:HOk P w H h) (e:Rd H a u):ObjOk P w H h a u:=e.ok ok
theorem Hz (ok:HOk P w H h) (e:Rd H a (.dK kvs)):kvs.length<=sizeLine/\(a==fg)=false/\∃ vs,KV kvs vs/\h.DictOf (aO P w) a vs:=
 show ObjOk P w H h a (.dK kvs) from Lz ok e
theorem Nz (ok:HOk P w H h) (e:H a=wj (.dK kvs)):kvs.length<=sizeLine/\(a==fg)=false/\∃ vs,KV kvs vs/\h.DictOf (aO P w) a vs:=Hz ok (.inl e)
theorem wQ (ok:HOk P w H h) (e:H a=wj (.tup (ks.map kV))):(bx (aO P w)).is h ks a:=by
 obtain⟨_,its,r,o,h1,h2,n,h3⟩:=(show ObjOk P w H h a (.tup (ks.map kV)) from ok a _ e);exact⟨o,its.toArray,n,h1,h2,h3,by simpa using wS r⟩
theorem Ht (ok:HOk P w H h) (e:Rd H a (.dT kvs)):kvs.length<=sizeLine/\(a==fg)=false/\
  ∃ xs,KT H kvs xs/\h.DictOfH (bx (aO P w)) a xs:=by
 obtain⟨z,y,xs,r,o,es,ep,h1,h2,h3,h4,h5⟩:=(show ObjOk P w H h a (.dT kvs) from Lz ok e);refine⟨z,y,xs,r,o,es,ep,h1,h2,h3,h4,fun x hx=> ?_,h5⟩;have all:∀ {l:List (List Key×V)}{m:List (List Key×ae×af)},KT H l m->∀ x∈m,(bx (aO P w)).is h x.1 x.2.1:=by
  intro l m q
  induction q with
  |nil=>intro x hx;exact nomatch hx
  |@cons p q ps qs hq t ih=>
   intro x hx;rcases ai.mp hx with e|hx
   ·subst e;exact wQ ok (by rw[<- hq.1];exact hq.2.1)
   ·exact ih x hx
 exact all r x hx
theorem Hu (ok:HOk P w H h) (e:H a=wj (.dT kvs)):kvs.length<=sizeLine/\(a==fg)=false/\
  ∃ xs,KT H kvs xs/\h.DictOfH (bx (aO P w)) a xs:=Ht ok (.inl e)
end
noncomputable def DGet (H:Hp) (a:ae) (y:V) (r:Option V):Prop:=
 (∃ kvs k,Rd H a (.dK kvs)/\y=kV k/\r=vO kvs k)∨∃ kvs k b,Rd H a (.dT kvs)/\y=.ref b/\H b=wj (.tup (k.map kV))/\r=vO kvs k
noncomputable def DPut (H:Hp) (a:ae) (y v:V) (H':Hp):Prop:=
 (∃ kvs k,H a=wj (.dK kvs)/\y=kV k/\kvs.length<sizeLine/\H'=upd H a (.dK (mI kvs k v)))∨
 ∃ kvs k b,H a=wj (.dT kvs)/\y=.ref b/\H b=wj (.tup (k.map kV))/\kvs.length<sizeLine/\H'=upd H a (.dT (mI kvs k v))
theorem DGet.k {k:Key} (e:H a=wj (.dK kvs)):DGet H a (kV k) (vO kvs k):=.inl ⟨kvs,k,.inl e,rfl,rfl⟩
theorem DGet.t {k:List Key} (e:H a=wj (.dT kvs)) (eb:H b=wj (.tup (k.map kV))):DGet H a (.ref b) (vO kvs k):=.inr ⟨kvs,k,b,.inl e,rfl,eb,rfl⟩
theorem DPut.k {k:Key} (e:H a=wj (.dK kvs)) (hl:kvs.length<sizeLine):DPut H a (kV k) v (upd H a (.dK (mI kvs k v))):=.inl ⟨kvs,k,e,rfl,hl,rfl⟩
theorem DPut.t {k:List Key} (e:H a=wj (.dT kvs)) (eb:H b=wj (.tup (k.map kV))) (hl:kvs.length<sizeLine):
  DPut H a (.ref b) v (upd H a (.dT (mI kvs k v))):=.inr ⟨kvs,k,b,e,rfl,eb,hl,rfl⟩
section
variable {X:Cx}{pins:List (ae×Obj)}{σ:St}{H:Hp}{s:am}{a:ae}{y v:V}{u r:af}{o:Option V}{A:dh}{E:af->am->Prop}
theorem Inv.big (I:Inv X pins σ H s):fg<s.heap.objs.size:=by
 have h:ca<s.heap.objs.size:=(I.mod.glob.keeps I.bk).lt;exact Nat.lt_trans (by decide) h
theorem EW (hu:A.units+1<dr) (I:Inv X pins σ H s) (g:DGet H a y (wj v)) (ry:RelV y u) (h:∀ w' s',Inv X pins σ H s'->RelV v w'->Q w' s'):
  ay (model X.prog X.w) A (o8 (.ref a) u) Q E s:=by
 rcases g with⟨kvs,k,e,ey,l⟩|⟨kvs,k,b,e,ey,eb,l⟩
 ·subst ey;obtain⟨z,hd,vs,rel,dd⟩:=Hz I.hok e;obtain⟨w',hw,rw'⟩:=RelO.some_of (v:=v) (o:=qf vs k) (by rw[l];exact rel.val k);exact wpAny_getItem_of (Ed ry) dd.mapOf hw (h w' _ (I.tok _) rw')
 ·subst ey;cases (show u=b9 b from ry);obtain⟨z,hd,xs,rel,dd⟩:=Ht I.hok e;obtain⟨w',hw,rw'⟩:=RelO.some_of (v:=v) (o:=(k9 xs k).map (·.2)) (by rw[l];exact rel.val k);obtain⟨p,hp,hp2⟩:=m7.mp hw;refine wpAny_getItem_heap (kj hu) (wQ I.hok eb) dd hp ?_;rw[hp2];exact h w' _ (I.tok _) rw'
theorem QH (hu:A.units+1<dr) (I:Inv X pins σ H s) (g:DGet H a y o) (ry:RelV y u) (h:∀ s',Inv X pins σ H s'->Q (.bool o.isSome) s'):
  ay (model X.prog X.w) A (fk .In u (.ref a)) Q E s:=by
 rcases g with⟨kvs,k,e,ey,l⟩|⟨kvs,k,b,e,ey,eb,l⟩
 ·subst ey;obtain⟨z,hd,vs,rel,dd⟩:=Hz I.hok e;refine wpAny_in_of (Ed ry) hd dd.mapOf ?_;rw[<- (rel.val k).isSome_eq,<- l];exact h _ (I.tok _)
 ·subst ey;cases (show u=b9 b from ry);obtain⟨z,hd,xs,rel,dd⟩:=Ht I.hok e;refine wpAny_in_heap (kj hu) (wQ I.hok eb) hd dd ?_;have q:=(rel.val k).isSome_eq;rw[p0] at q;rw[<- q,<- l];exact h _ (I.tok _)
theorem pX (I:Inv X pins σ H s) (mu:Mut (H a)) (hs:fx a s.heap h') (he:∃ q,h'.get? a=wj q) (new:ObjOk X.prog X.w (upd H a ob) h' a ob):
  Inv X pins σ (upd H a ob) { s with heap:=h',toks:=t' }:=
 I.write (x:=a) (e:=a) mu (.inl rfl) (fun b q hb z=>(hs.2 b hb).trans z) he new
theorem Is (z:kvs.length<=sizeLine) (hd:(a==fg)=false) (rel:KV kvs vs) (dd:h'.DictOf (aO P w) a vs):
  ObjOk P w H' h' a (.dK kvs):=⟨z,hd,vs,rel,dd⟩
theorem ES (hu:A.units+1<dr) (I:Inv X pins σ H s) (g:DPut H a y v H') (ry:RelV y u) (rv:RelV v r) (h:∀ s',Inv X pins σ H' s'->Q () s'):
  ay (model X.prog X.w) A (setItem (.ref a) u r) Q E s:=by
 rcases g with⟨kvs,k,e,ey,l,eH⟩|⟨kvs,k,b,e,ey,eb,l,eH⟩
 ·subst ey eH;obtain⟨z,hd,vs,rel,dd⟩:=Nz I.hok e;have hz:vs.length<=sizeLine:=by rw[<- rel.length];exact z
  have hl:(mI kvs k v).length<=sizeLine:=by have:=gQ kvs k v;omega
  refine wpAny_setItem_pairs (hsz:=hz) (Ed ry) dd fun h' dd' hs=>h _ ?_;have he:∃ q,h'.get? a=wj q:=let ⟨q,_,_,hq,_⟩:=dd';⟨q,hq⟩;exact pX I (by rw[e];exact ig) hs he (Is hl hd (rel.put k rv) dd')
 ·subst ey eH;cases (show u=b9 b from ry);obtain⟨z,hd,xs,rel,dd⟩:=Hu I.hok e;have hz:xs.length<=sizeLine:=by rw[<- i6 rel];exact z
  have hl:(mI kvs k v).length<=sizeLine:=by have:=gQ kvs k v;omega
  refine wpAny_setItem_heap (hsz:=hz) (kj hu) (wQ I.hok eb) dd fun h' dd' hs=>h _ ?_;obtain⟨q,es,ep,hq,h2,h3,h4,_,h5⟩:=dd';refine pX I (by rw[e];exact ig) hs ⟨q,hq⟩ ⟨hl,hd,_,(rel.put k eb rv).keeps fun c ys ec=> ?_,q,es,ep,hq,h2,h3,h4,h5⟩;rw[aG (JV ec e (fun z=>nomatch z))];exact ec
end
section
variable {X:Cx}{pins:List (ae×Obj)}{σ:St}{H:Hp}{s:am}{a:ae}{kvs:List (Key×V)}{k:Key}{u:af}{A:dh}{E:af->am->Prop}
end
noncomputable def Pw (i:bt):Prop:=∀ ov iv,subscripted i false ov iv=operate [ov,iv] (o8 ov iv)
theorem IF {T id:String}
  (hl:s0 (.type T) "__getitem__"=pure (wj (.builtin id))) (hs:Pw slice)
  (h:ay (model prog w) A (eval value env) (fun o s₁=>ay (model prog w) A (eval slice env) (fun i s₂=>s₂.TypeIs o T/\ay (model prog w) A (o8 o i) Q E s₂) E s₁) E s):
  ay (model prog w) A (eval (.Subscript value slice pos) env) Q E s:=by
 refine Subscript_ (gv h (fun o s₁ h₁=>gv h₁ (fun i s₂ h₂=> ?_) fun _ _ x=>x) fun _ _ x=>x);obtain⟨hT,h₂⟩:=h₂;unfold t7;refine ad ?_;rw[getitemInPython_of_ne hT.not_modules];refine ad (wpAny_specialOf hT hl ?_);have fin:ay (model prog w) A (subscripted slice false o i) (fun r s₃=>ay (model prog w) A (letTemporaryGo value o r >>= fun _=>pure r) Q E s₃) E s₂:=by
  rw[hs o i];exact wpAny_operating (gv h₂ (fun r s₃ h₃=>ad (wpAny_letTemporaryGo (ak h₃))) fun _ _ x=>x)
 first
  |exact ak (ad fin)
  |exact ad (ak (ad fin))
  |exact ad fin
theorem zQ (I:Inv X pins σ H s) (g:DGet H a y o):s.TypeIs (.ref a) "dict":=by
 rcases g with⟨kvs,k,e,_,_⟩|⟨kvs,k,b,e,_,_,_⟩
 ·obtain⟨_,_,vs,_,dd⟩:=Hz I.hok e;exact dd.typeIs
 ·obtain⟨_,_,xs,_,dd⟩:=Ht I.hok e;exact dd.typeIs
noncomputable def On (td ty:TE):TE:=fun σ H Q=>td σ H fun x H1=>ty σ H1 fun y H2=>∃ a v,x=.ref a/\DGet H2 a y (wj v)/\Q v H2
noncomputable def Qj (ty td:TE):TE:=fun σ H Q=>ty σ H fun y H1=>td σ H1 fun x H2=>∃ a o,x=.ref a/\DGet H2 a y o/\Q (.bl o.isSome) H2
noncomputable def Ot (td ty tv:TE):TS:=fun D σ H=>tv σ H fun v H1=>td σ H1 fun x H2=>ty σ H2 fun y H3=>∃ a H4,x=.ref a/\DPut H3 a y v H4/\D.nx σ H4
section
variable {X:Cx}{o i e value:bt}{pos pos' tpos:Pos}{td ty tv:TE}
theorem Je (hu:X.A.units+1<dr) (ho:PE X o td) (hi:PE X i ty) (hs:Pw i):PE X (.Subscript o i pos) (On td ty):=by
 intro pins s σ H Q I h;refine IF PySem.F.slot_dict_getitem.lookup hs (thn (ho pins s σ H _ I h) fun u s1 ⟨x,H1,I1,rx,q1⟩=>thn (hi pins s1 σ H1 _ I1 q1) fun iv s2 ⟨y,H2,I2,ry,a,v,ex,g,q2⟩=> ?_);subst ex;obtain rfl:u=b9 a:=rx;exact⟨zQ I2 g,EW hu I2 g ry fun w' s3 I3 rw'=>⟨v,H2,I3,rw',q2⟩⟩
theorem Me (hu:X.A.units+1<dr) (hi:PE X i ty) (ho:PE X o td):PC X .In i o (Qj ty td):=by
 intro pins s σ H Q I h;refine thn (hi pins s σ H _ I h) fun iv s1 ⟨y,H1,I1,ry,q1⟩=>thn (ho pins s1 σ H1 _ I1 q1) fun u s2 ⟨x,H2,I2,rx,a,ov,ex,g,q2⟩=> ?_;subst ex;obtain rfl:u=b9 a:=rx;exact QH hu I2 g ry fun s3 I3=>⟨.bl ov.isSome,H2,I3,rfl,q2⟩
theorem IU (hu:X.A.units+1<dr) (ho:PE X o td) (hi:PE X i ty) (hv:PE X value tv) (hs:jd value (wj (.Subscript o i pos')) pos.line X.env=pure false):
  PS X (.Assign [.Subscript o i pos'] value pos) (Ot td ty tv):=by
 intro pins s σ H D I h;refine wpAny_Assign_Subscript (thn (hv pins s σ H _ I h) fun r s1 ⟨v,H1,I1,rv,q1⟩=>thn (ho pins s1 σ H1 _ I1 q1) fun u s2 ⟨x,H2,I2,rx,q2⟩=>thn (hi pins s2 σ H2 _ I2 q2) fun iv s3 ⟨y,H3,I3,ry,a,H4,ex,g,q3⟩=> ?_) hs;subst ex;obtain rfl:u=b9 a:=rx;exact ES hu I3 g ry rv fun s4 I4=>⟨σ,H4,I4,q3⟩
end
theorem HA (h:cx) (hb:fg<h.objs.size):ObjOk P w H (h.push { cls:=.type "dict",data:=.dict #[] }) h.objs.size (.dK []):=
 ⟨im _,beq_eq_false_iff_ne.mpr (bv (cj hb)),[],.nil,Heap.DictOf.new h⟩
theorem Hv (h:cx) (hb:fg<h.objs.size):ObjOk P w H (h.push { cls:=.type "dict",data:=.dict #[] }) h.objs.size (.dT []):=
 ⟨im _,beq_eq_false_iff_ne.mpr (bv (cj hb)),[],.nil,_,#[],0,bw _ rfl,⟨rfl,rfl,rfl⟩,rfl,rfl,vv⟩
noncomputable def Lq:TE:=fun _ H Q=>∀ p,H p=wk->Q (.ref p) (upd H p (.dT []))
section
variable {X:Cx}{pos:Pos}
theorem FZ:PE X (.Dict [] [] pos) Lq:=fun pins s σ H Q I h=>
 wpAny_Dict_empty ⟨.ref s.heap.objs.size,_,I.laid (a:=s.heap.objs.size) (o:=.dT []) (t':=s.toks) (fun _ _ q=>az _ q) (bf _) (Hv s.heap I.big),rfl,h _ (I.hok.fresh (bf _))⟩
end
noncomputable def AD:List (TE×TE)->St->Hp->(List (V×V)->Hp->Prop)->Prop
 |[],_,H,Q=>Q [] H
 |(tk,tv)::r,σ,H,Q=>tk σ H fun x H1=>tv σ H1 fun y H2=>AD r σ H2 fun ps H3=>Q ((x,y)::ps) H3
noncomputable abbrev VV:List (V×V)->List (af×af)->Prop:=jw fun p q=>RelV p.1 q.1/\RelV p.2 q.2
noncomputable def PPs (X:Cx) (pos:Pos) (keys:List (Option bt)) (values:List bt) (trs:List (TE×TE)):Prop:=
 ∀(pins:List (ae×Obj)) (s:am) (σ:St) (H:Hp) (Q:List (V×V)->Hp->Prop),Inv X pins σ H s->AD trs σ H Q->
  ay (model X.prog X.w) X.A (evalPairs (pairTrees keys values X.env pos)) (fun vs s'=>∃ ps H',Inv X pins σ H' s'/\VV ps vs/\Q ps H') X.xe s
theorem IW:PPs X pos [] [] []:=fun pins s σ H Q I h=>pairTrees_nil_walk ⟨[],H,I,.nil,h⟩
theorem FV (hk:PE X k tk) (hv:PE X v tv) (hr:PPs X pos ks vs trs):
  PPs X pos (wj k::ks) (v::vs) ((tk,tv)::trs):=fun pins s σ H Q I h=>
 pairTrees_cons_walk (thn (hk pins s σ H _ I h) fun u s1 ⟨x,H1,I1,rx,q1⟩=>thn (hv pins s1 σ H1 _ I1 q1) fun w2 s2 ⟨y,H2,I2,ry,q2⟩=>
  thn (hr pins s2 σ H2 _ I2 q2) fun ws s3 ⟨ps,H3,I3,rel,q3⟩=>⟨(x,y)::ps,H3,I3,.cons ⟨rx,ry⟩ rel,q3⟩)
noncomputable def mergeK (kvs more:List (Key×V)):List (Key×V):=more.foldl (fun acc kv=>mI acc kv.1 kv.2) kvs
theorem KV.merge:∀ {more:List (Key×V)}{rs:List (Key×af)}{kvs:List (Key×V)}{vs:List (Key×af)},KV more rs->KV kvs vs->KV (mergeK kvs more) (merged vs rs):=by
 intro more rs kvs vs r;unfold KV at r
 induction r generalizing kvs vs with
 |nil=>intro q;exact q
 |@cons p q ps qs h t ih=>
  intro r0;have e:KV (mI kvs p.1 p.2) (stored vs q.1 q.2):=by
   have:=r0.put p.1 h.2
   rw[<- h.1];exact this
  exact ih e
theorem lE:∀(more kvs:List (Key×V)),(mergeK kvs more).length<=kvs.length+more.length
 |[],kvs=>by show kvs.length<=kvs.length+0;omega
 |p::r,kvs=>by
  have h1:=lE r (mI kvs p.1 p.2);have h2:=gQ kvs p.1 p.2
  show(mergeK (mI kvs p.1 p.2) r).length<=_
  rw[bz];omega
theorem tH:∀ {kvs:List (Key×V)}{ws:List (af×af)},VV (kvs.map fun kv=>(kV kv.1,kv.2)) ws->∃ rs,Carries (aO P w) ws rs/\KV kvs rs
 |[],_,r=>by rw[kr] at r;cases r;exact⟨[],ig,.nil⟩
 |p::kvs,_,r=>by
  rw[bh] at r;cases r with
  |@cons a b as bs h t=>
   obtain⟨rs,c,q⟩:=tH (P:=P) (w:=w) t;obtain⟨b1,b2⟩:=b;exact⟨(p.1,b2)::rs,⟨Ed h.1,rfl,c⟩,.cons ⟨rfl,h.2⟩ q⟩
noncomputable def Ol (trs:List (TE×TE)):TE:=fun σ H Q=>∀ p,H p=wk->AD trs σ (upd H p (.dK [])) fun ps H2=>H2 p=wj (.dK [])/\∃ kvs:List (Key×V),ps=kvs.map (fun kv=>(kV kv.1,kv.2))/\kvs.length<=15/\Q (.ref p) (upd H2 p (.dK (mergeK [] kvs)))
theorem Jd (h:PPs X pos keys values trs) (hall:keys.all (·.isSome)=true) (hl:keys.length=values.length) (h0:keys≠[])
  (h15:keys.length<=15):PE X (.Dict keys values pos) (Ol trs):=by
 intro pins s σ H Q I q;have hn:=I.hok.fresh (bf s.heap.objs.size);have I1:=I.laid (a:=s.heap.objs.size) (o:=.dK []) (h':=s.heap.push { cls:=.type "dict",data:=.dict #[] }) (t':=s.toks) (fun _ _ q=>az _ q) (bf _) (HA s.heap I.big);refine wpAny_Dict_walk (knd:=aO X.prog X.w) hall hl h0 h15 (thn (h pins _ σ _ _ I1 (q _ hn)) fun ws s2 ⟨ps,H2,I2,rel,e,kvs,ep,lk,q2⟩=> ?_);subst ep;obtain⟨rs,c,rk⟩:=tH (P:=X.prog) (w:=X.w) rel;obtain⟨z,hd,vs0,r0,dd⟩:=Nz I2.hok e;cases r0;refine⟨rs,c,dd,fun h' dd' hs=>⟨.ref s.heap.objs.size,_,?_,rfl,q2⟩⟩;have hz:(mergeK [] kvs).length<=sizeLine:=by
  have h1:=lE kvs [];rw[kh] at h1;rw[bu];omega
 have he:∃ q,h'.get? s.heap.objs.size=wj q:=let ⟨q,_,_,hq,_⟩:=dd';⟨q,hq⟩;exact pX I2 (by rw[e];exact ig) hs he (Is hz hd (rk.merge .nil) dd')
section
variable {X:Cx}{pins:List (ae×Obj)}{σ:St}{H:Hp}{s:am}{a:ae}{y d:V}{u r:af}{o:Option V}{A:dh}{E:af->am->Prop}
end
section
variable {X:Cx}{o e f:bt}{apos cpos:Pos}{td ty tx:TE}
end
section
variable {X:Cx}{pins:List (ae×Obj)}{σ:St}{H:Hp}{s:am}{a:ae}{kvs:List (Key×V)}{A:dh}{E:af->am->Prop}
end
section
variable {X:Cx}{pins:List (ae×Obj)}{σ:St}{H:Hp}{s:am}{a:ae}{y:V}{u:af}{A:dh}{E:af->am->Prop}
end
end L2
namespace L2
section
variable {κ:Type} [DecidableEq κ]
end
end L2
end
section
namespace L2.MB
inductive D where
 |non|bl (b:Bool)|int (i:Int)|str (x:Str)|lst (ds:List D)|tup (ds:List D)
 /-- an object that is told by its number -/
 |obj (n:Nat)
 /-- a list that is handed in and only read -/
 |scr (ds:List D)
 deriving Inhabited
structure Okk where
 p:ae->Prop
 al:Nat->Option ae
instance:CoeFun Okk (fun _=>ae->Prop):=⟨Okk.p⟩
instance:Coe Okk (ae->Prop):=⟨Okk.p⟩
noncomputable def Okk.all:Okk:=⟨fun _=>True,fun _=>wk⟩
noncomputable def RL (K:aa) (ok:Okk) (H:Hp) (a:ae) (xs:List V):Prop:=ok a/\H a=wj (.lst xs)
noncomputable def RC (K:aa) (ok:Okk) (H:Hp) (a:ae) (xs:List V):Prop:=
 (ok a/\Rd H a (.lst xs))∨
  ∃(o:Obj) (its:Array af) (n:Nat),K.lookup a=wj o/\o.cls=.type "list"/\o.dict=wk/\o.data=.seq its n/\its.size<=sizeLine/\Vals xs its.toList
noncomputable def RT (K:aa) (ok:Okk) (H:Hp) (a:ae) (xs:List V):Prop:=ok a/\H a=wj (.tup xs)
section
variable {K:aa}{ok ok':Okk}{H H':Hp}{a:ae}{xs:List V}
theorem RL.sq (h:RL K ok H a xs):SqL K H a xs:=.inl (.inl h.2)
theorem RC.sq (h:RC K ok H a xs):SqL K H a xs:=h.elim (fun z=>.inl z.2) .inr
theorem RT.sq (h:RT K ok H a xs):SqT K H a xs:=.inl (.inl h.2)
theorem Rd.mono (f:∀ b o,ok b->H b=wj o->ok' b/\H' b=wj o) (k:ok a) (h:Rd H a u):ok' a/\Rd H' a u:=by
 rcases h with h|⟨o,h⟩
 ·exact⟨(f _ _ k h).1,.inl (f _ _ k h).2⟩
 ·exact⟨(f _ _ k h).1,.inr ⟨o,(f _ _ k h).2⟩⟩
theorem RL.mono (f:∀ b o,ok b->H b=wj o->ok' b/\H' b=wj o) (h:RL K ok H a xs):RL K ok' H' a xs:=f _ _ h.1 h.2
theorem RC.mono (f:∀ b o,ok b->H b=wj o->ok' b/\H' b=wj o) (h:RC K ok H a xs):RC K ok' H' a xs:=
 h.elim (fun z=>.inl (Rd.mono f z.1 z.2)) .inr
theorem RT.mono (f:∀ b o,ok b->H b=wj o->ok' b/\H' b=wj o) (h:RT K ok H a xs):RT K ok' H' a xs:=f _ _ h.1 h.2
end
mutual
inductive Rep (K:aa) (ok:Okk) (H:Hp):V->D->Prop
 |non:Rep K ok H .non .non
 |bl (b:Bool):Rep K ok H (.bl b) (.bl b)
 |int (i:Int):Rep K ok H (.int i) (.int i)
 |str (x:Str):Rep K ok H (.str x) (.str x)
 |lst {a:ae}{xs:List V}{ds:List D}:RL K ok H a xs->Reps K ok H xs ds->Rep K ok H (.ref a) (.lst ds)
 |tup {a:ae}{xs:List V}{ds:List D}:RT K ok H a xs->Reps K ok H xs ds->Rep K ok H (.ref a) (.tup ds)
 |obj {n:Nat}{a:ae}:ok.al n=wj a->Rep K ok H (.ref a) (.obj n)
 |scr {a:ae}{xs:List V}{ds:List D}:RC K ok H a xs->Reps K ok H xs ds->Rep K ok H (.ref a) (.scr ds)
inductive Reps (K:aa) (ok:Okk) (H:Hp):List V->List D->Prop
 |nil:Reps K ok H [] []
 |cons {v:V}{d:D}{vs:List V}{ds:List D}:Rep K ok H v d->Reps K ok H vs ds->Reps K ok H (v::vs) (d::ds)
end
section
variable {K:aa}{ok ok':Okk}{H H':Hp}
mutual
theorem Rep.mono (f:∀ b o,ok b->H b=wj o->ok' b/\H' b=wj o) (g:∀ n a,ok.al n=wj a->ok'.al n=wj a:=by exact fun _ _ h=>h):∀ {v:V}{d:D},Rep K ok H v d->Rep K ok' H' v d
 |_,_,.non=>.non
 |_,_,.bl b=>.bl b
 |_,_,.int i=>.int i
 |_,_,.str x=>.str x
 |_,_,.lst h r=>.lst (h.mono f) (Reps.mono f g r)
 |_,_,.tup h r=>.tup (h.mono f) (Reps.mono f g r)
 |_,_,.obj e=>.obj (g _ _ e)
 |_,_,.scr h r=>.scr (h.mono f) (Reps.mono f g r)
theorem Reps.mono (f:∀ b o,ok b->H b=wj o->ok' b/\H' b=wj o) (g:∀ n a,ok.al n=wj a->ok'.al n=wj a:=by exact fun _ _ h=>h):∀ {vs:List V}{ds:List D},Reps K ok H vs ds->Reps K ok' H' vs ds
 |_,_,.nil=>.nil
 |_,_,.cons h r=>.cons (Rep.mono f g h) (Reps.mono f g r)
end
theorem Rep.same {v:V}{d:D} (e:Same H H') (h:Rep K ok H v d):Rep K ok H' v d:=h.mono fun b o k q=>⟨k,e b o q⟩
theorem Reps.same {vs:List V}{ds:List D} (e:Same H H') (h:Reps K ok H vs ds):Reps K ok H' vs ds:=h.mono fun b o k q=>⟨k,e b o q⟩
theorem Rep.non_inv (h:Rep K ok H v .non):v=.non:=by cases h;rfl
theorem Rep.bl_inv (h:Rep K ok H v (.bl b)):v=.bl b:=by cases h;rfl
theorem Rep.int_inv (h:Rep K ok H v (.int i)):v=.int i:=by cases h;rfl
theorem Rep.str_inv (h:Rep K ok H v (.str x)):v=.str x:=by cases h;rfl
theorem Rep.lst_inv (h:Rep K ok H v (.lst ds)):∃ a xs,v=.ref a/\RL K ok H a xs/\Reps K ok H xs ds:=by cases h;exact⟨_,_,rfl,‹_›,‹_›⟩
theorem Rep.tup_inv (h:Rep K ok H v (.tup ds)):∃ a xs,v=.ref a/\RT K ok H a xs/\Reps K ok H xs ds:=by cases h;exact⟨_,_,rfl,‹_›,‹_›⟩
theorem Rep.scr_inv (h:Rep K ok H v (.scr ds)):∃ a xs,v=.ref a/\RC K ok H a xs/\Reps K ok H xs ds:=by cases h;exact⟨_,_,rfl,‹_›,‹_›⟩
theorem Rep.obj_inv (h:Rep K ok H v (.obj n)):∃ a,v=.ref a/\ok.al n=wj a:=by cases h;exact⟨_,rfl,‹_›⟩
theorem Reps.length:∀ {vs:List V}{ds:List D},Reps K ok H vs ds->vs.length=ds.length
 |_,_,.nil=>rfl
 |_,_,.cons _ r=>by rw[bz,bz,Reps.length r]
theorem Reps.get:∀ {vs:List V}{ds:List D}{i:Nat}{d:D},Reps K ok H vs ds->ds[i]?=wj d->∃ v,vs[i]?=wj v/\Rep K ok H v d
 |_,_,_,_,.nil,e=>by simp at e
 |_,_,0,_,.cons h _,e=>by
  simp at e;subst e;exact⟨_,rfl,h⟩
 |_,_,i+1,d,.cons _ r,e=>by
  obtain⟨v,h1,h2⟩:=Reps.get (i:=i) (d:=d) r (by simpa using e);exact⟨v,by simpa using h1,h2⟩
theorem Reps.getV:∀ {vs:List V}{ds:List D}{i:Nat}{v:V},Reps K ok H vs ds->vs[i]?=wj v->∃ d,ds[i]?=wj d/\Rep K ok H v d
 |_,_,_,_,.nil,e=>by simp at e
 |_,_,0,_,.cons h _,e=>by
  simp at e;subst e;exact⟨_,rfl,h⟩
 |_,_,i+1,v,.cons _ r,e=>by
  obtain⟨d,h1,h2⟩:=Reps.getV (i:=i) (v:=v) r (by simpa using e);exact⟨d,by simpa using h1,h2⟩
theorem Reps.append:∀ {vs ws:List V}{ds es:List D},Reps K ok H vs ds->Reps K ok H ws es->Reps K ok H (vs++ws) (ds++es)
 |_,_,_,_,.nil,s=>s
 |_,_,_,_,.cons h r,s=>.cons h (Reps.append r s)
theorem Reps.snoc (h:Reps K ok H vs ds) (q:Rep K ok H v d):Reps K ok H (vs++[v]) (ds++[d]):=h.append (.cons q .nil)
theorem Reps.take:∀ {vs:List V}{ds:List D} (n:Nat),Reps K ok H vs ds->Reps K ok H (vs.take n) (ds.take n)
 |_,_,0,_=>.nil
 |_,_,_+1,.nil=>.nil
 |_,_,n+1,.cons h r=>.cons h (Reps.take n r)
theorem Reps.drop:∀ {vs:List V}{ds:List D} (n:Nat),Reps K ok H vs ds->Reps K ok H (vs.drop n) (ds.drop n)
 |_,_,0,r=>r
 |_,_,_+1,.nil=>.nil
 |_,_,n+1,.cons _ r=>Reps.drop n r
theorem Reps.set (q:Rep K ok H v d):∀ {vs:List V}{ds:List D} (i:Nat),Reps K ok H vs ds->Reps K ok H (vs.set i v) (ds.set i d)
 |_,_,_,.nil=>.nil
 |_,_,0,.cons _ r=>.cons q r
 |_,_,i+1,.cons h r=>.cons h (Reps.set q i r)
theorem Reps.ints:∀(ns:List Int),Reps K ok H (ns.map V.int) (ns.map D.int)
 |[]=>.nil
 |n::ns=>.cons (.int n) (Reps.ints ns)
theorem Reps.of_ints:∀ {ns:List Int}{vs:List V},Reps K ok H vs (ns.map D.int)->vs=ns.map V.int
 |[],_,.nil=>rfl
 |n::ns,_,.cons h r=>by
  cases h;rw[Reps.of_ints r];rfl
theorem Rep.lst_new {p:ae}{xs:List V}{ds:List D} (k:ok p) (n:H p=wk) (r:Reps K ok H xs ds):Rep K ok (upd H p (.lst xs)) (.ref p) (.lst ds):=
 .lst ⟨k,aQ⟩ (r.mono fun b o q e=>⟨q,by rw[aG (aN e n)];exact e⟩)
theorem Rep.tup_new {p:ae}{xs:List V}{ds:List D} (k:ok p) (n:H p=wk) (r:Reps K ok H xs ds):Rep K ok (upd H p (.tup xs)) (.ref p) (.tup ds):=
 .tup ⟨k,aQ⟩ (r.mono fun b o q e=>⟨q,by rw[aG (aN e n)];exact e⟩)
end
theorem cM {H:Hp}{p:ae}{o:HO} (n:H p=wk):Same H (upd H p o):=fun b u e=>by
 rw[aG (aN e n)];exact e
noncomputable abbrev Rho:=List (Option D)
noncomputable abbrev DF:=Rho->Option D
noncomputable abbrev DB:=Rho->Option Bool
noncomputable abbrev DL:=Rho->Option (List D)
structure OkH (ok:Okk) (H:Hp):Prop where
 fn:∀ b,H b=wk->ok b
 tp:∀ b xs,H b=wj (.tup xs)->ok b
instance {ok:Okk}{H:Hp}:CoeFun (OkH ok H) (fun _=>∀ b,H b=wk->ok b):=⟨OkH.fn⟩
theorem OkH.same {ok:Okk}{H H':Hp} (h:OkH ok H) (e:Same H H'):OkH ok H':=⟨fun b n=>h b (e.free n),fun b xs q=>by
 cases z:H b with
 |none=>exact h b z
 |some o=>
  rw[e b o z] at q;cases q;exact h.tp b xs z⟩
noncomputable def EnvR (K:aa) (ok:Okk) (H:Hp) (σ:St) (ρ:Rho):Prop:=∀(i:Nat) (d:D),ρ[i]?=wj (wj d)->∃ v,σ[i]?=wj (wj v)/\Rep K ok H v d
theorem EnvR.same {K:aa}{ok:Okk}{H H':Hp}{σ:St}{ρ:Rho} (h:EnvR K ok H σ ρ) (e:Same H H'):EnvR K ok H' σ ρ:=fun i d q=>
 let ⟨v,a,b⟩:=h i d q
 ⟨v,a,b.same e⟩
noncomputable def tD (K:aa) (f:DF):TE:=fun σ H Q=>∃(ok:Okk) (ρ:Rho) (d:D),OkH ok H/\EnvR K ok H σ ρ/\f ρ=wj d/\∀ v H',Same H H'->Rep K ok H' v d->Q v H'
noncomputable def tDA (K:aa) (f:DL):TA:=fun σ H Q=>∃(ok:Okk) (ρ:Rho) (ds:List D),OkH ok H/\EnvR K ok H σ ρ/\f ρ=wj ds/\∀ vs H',Same H H'->Reps K ok H' vs ds->Q vs H'
noncomputable abbrev DE (X:Cx) (e:bt) (f:DF):Prop:=PE X e (tD X.K f)
noncomputable abbrev DA (X:Cx) (es:List bt) (f:DL):Prop:=PA X es (tDA X.K f)
theorem _root_.L2.PE.imp {X:Cx}{e:bt}{t t':TE} (h:PE X e t) (f:∀ σ H Q,t' σ H Q->t σ H Q):PE X e t':=fun pins s σ H Q I q=>h pins s σ H Q I (f _ _ _ q)
theorem _root_.L2.PT.imp {X:Cx}{e:bt}{t t':TT} (h:PT X e t) (f:∀ σ H Q,t' σ H Q->t σ H Q):PT X e t':=fun pins s σ H Q I q=>h pins s σ H Q I (f _ _ _ q)
theorem _root_.L2.PA.imp {X:Cx}{e:List bt}{t t':TA} (h:PA X e t) (f:∀ σ H Q,t' σ H Q->t σ H Q):PA X e t':=fun p pins s σ H Q I q=>h p pins s σ H Q I (f _ _ _ q)
theorem _root_.L2.PS.imp {X:Cx}{e:cr}{t t':TS} (h:PS X e t) (f:∀ D σ H,t' D σ H->t D σ H):PS X e t':=fun pins s σ H D I q=>h pins s σ H D I (f _ _ _ q)
theorem _root_.L2.PSs.imp {X:Cx}{e:List cr}{t t':TS} (h:PSs X e t) (f:∀ D σ H,t' D σ H->t D σ H):PSs X e t':=fun pins s σ H D I q=>h pins s σ H D I (f _ _ _ q)
noncomputable def aD (i:Nat):DF:=fun ρ=>ρ[i]?.join
noncomputable def dC (d:D):DF:=fun _=>wj d
noncomputable def d1 (g:D->Option D) (f:DF):DF:=fun ρ=>(f ρ).bind g
noncomputable def Pr:DL:=fun _=>wj []
noncomputable def KN (f:DF) (r:DL):DL:=fun ρ=>(f ρ).bind fun d=>(r ρ).map fun ds=>d::ds
theorem aR {α β:Type}{o:Option α}{f:α->Option β}{b:β} (h:o.bind f=wj b):∃ a,o=wj a/\f a=wj b:=by
 cases o with
 |none=>cases h
 |some a=>exact⟨a,rfl,h⟩
section
variable {X:Cx}{e a b:bt}{es:List bt}{f fa fb:DF}{fl:DL}{pos:Pos}
theorem NA (h:PE X (.Name x pos) (PD i)):DE X (.Name x pos) (aD i):=h.imp fun σ H Q ⟨ok,ρ,d,h1,h2,h3,h4⟩=>by
 have e:ρ[i]?=wj (wj d):=by
  unfold aD at h3;cases q:ρ[i]? with
  |none=>rw[q] at h3;cases h3
  |some o=>rw[q] at h3;cases o with
   |none=>cases h3
   |some d'=>cases h3;rfl
 obtain⟨v,e1,e2⟩:=h2 i d e;exact⟨v,e1,h4 v H (Same.refl H) e2⟩
theorem dv (i:Nat) (hN:X.N[i]?=wj x:=by rfl) (hv:Vis X.env.scope x:=by first|exact Or.inl rfl|exact Or.inr (Or.inl rfl)|exact Or.inr (Or.inr rfl)) (hd:(x==("__debug__":Str))=false:=by decide)
  (hcd:(x==("__classdict__":Str))=false:=by decide):DE X (.Name x pos) (aD i):=NA (LR hN hv hd hcd)
theorem nN (h:PE X e (tC v)) (r:∀ K ok H,Rep K ok H v d):DE X e (dC d):=h.imp fun σ H Q ⟨ok,ρ,d',h1,h2,h3,h4⟩=>by
 cases h3;exact h4 v H (Same.refl H) (r _ _ _)
theorem Bs:DE X (.Constant (.int i) j pos) (dC (.int i)):=nN LY fun _ _ _=>.int i
theorem Pp {b j pos}:DE X (.Constant (.bool b) j pos) (dC (.bl b)):=nN OD fun _ _ _=>.bl b
theorem NB:DE X (.Constant .none j pos) (dC .non):=nN LX fun _ _ _=>.non
theorem Br:DE X (.Constant (.str x) j pos) (dC (.str x)):=nN LU fun _ _ _=>.str x
noncomputable def Fit2 (K:aa) (r:R2) (g:D->D->Option D):Prop:=∀(ok:Okk) (H:Hp) (x y:V) (a b d:D) (Q:VK),OkH ok H->Rep K ok H x a->Rep K ok H y b->g a b=wj d->(∀ v H',Same H H'->Rep K ok H' v d->Q v H')->r x y H Q
noncomputable def QN (K:aa) (r:V->Hp->VK->Prop) (g:D->Option D):Prop:=∀(ok:Okk) (H:Hp) (x:V) (a d:D) (Q:VK),OkH ok H->Rep K ok H x a->g a=wj d->(∀ v H',Same H H'->Rep K ok H' v d->Q v H')->r x H Q
noncomputable def FitL (K:aa) (r:List V->Hp->VK->Prop) (g:List D->Option D):Prop:=∀(ok:Okk) (H:Hp) (xs:List V) (as:List D) (d:D) (Q:VK),OkH ok H->Reps K ok H xs as->g as=wj d->(∀ v H',Same H H'->Rep K ok H' v d->Q v H')->r xs H Q
noncomputable def toB:D->Option Bool
 |.bl b=>wj b
 |_=>wk
theorem nU (h:toB d=wj k):d=.bl k:=by
 cases d with
 |bl b=>cases h;rfl
 |_=>cases h
theorem Po (ho:UnR X (unaryOp op) r) (F:QN X.K r g) (ha:DE X a fa):DE X (.UnaryOp op a pos) (d1 g fa):=
 (Oz ho ha).imp fun σ H Q ⟨ok,ρ,d,h1,h2,h3,h4⟩=>by
  obtain⟨x,e1,h3⟩:=aR h3;exact⟨ok,ρ,x,h1,h2,e1,fun v H1 s1 r1=>F ok H1 v x d Q (h1.same s1) r1 h3 fun w H3 s3 r3=>h4 w H3 (s1.trans s3) r3⟩
theorem NC:DA X [] Pr:=(PA.imp AN) fun σ H Q ⟨ok,ρ,d,h1,h2,h3,h4⟩=>by
 cases h3;exact h4 [] H (Same.refl H) .nil
theorem KJ (ha:DE X e f) (hr:DA X es fl) (hs:av (e::es) X.env=(false,eval e X.env)::av es X.env:=by rfl):DA X (e::es) (KN f fl):=
 (oJ ha hr hs).imp fun σ H Q ⟨ok,ρ,ds,h1,h2,h3,h4⟩=>by
  obtain⟨x,e1,h3⟩:=aR h3;cases e2:fl ρ with
  |none=>rw[e2] at h3;cases h3
  |some r=>
   rw[e2] at h3;cases h3;exact⟨ok,ρ,x,h1,h2,e1,fun v H1 s1 r1=>⟨ok,ρ,r,h1.same s1,h2.same s1,e2,fun vs H2 s2 r2=>h4 (v::vs) H2 (s1.trans s2) (.cons (r1.same s2) r2)⟩⟩
noncomputable def eM (ds:List D):Option D:=if ds.length<=sizeLine then wj (.tup ds) else wk
noncomputable def fE (ds:List D):Option D:=if ds.length<=sizeLine then wj (.lst ds) else wk
theorem bL {α:Type}{c:Prop} [Decidable c] {a b:α} (h:(if c then wj a else wk)=wj b):c/\a=b:=by
 by_cases hc:c
 ·rw[if_pos hc] at h;exact⟨hc,ce h⟩
 ·rw[if_neg hc] at h;cases h
end
end L2.MB
end
section
namespace L2.MB
noncomputable def gI (g:Int->Int->Option D) (a b:D):Option D:=match a,b with
 |.int i,.int j=>g i j
 |_,_=>wk
theorem Ip (h:gI g a b=wj d):∃ i j,a=.int i/\b=.int j/\g i j=wj d:=by
 unfold gI at h;split at h
 ·exact⟨_,_,rfl,rfl,h⟩
 ·cases h
noncomputable abbrev xC:=gI fun i j=>wj (.int (i+j))
noncomputable abbrev gSub:=gI fun i j=>wj (.int (i-j))
noncomputable abbrev iI:=gI fun i j=>if(-1000000000000000000<i/\i<1000000000000000000)∨(-1000000000000000000<j/\j<1000000000000000000) then wj (.int (i*j)) else wk
noncomputable abbrev cU:=gI fun i j=>if 0<j then wj (.int (i % j)) else wk
noncomputable abbrev gLt:=gI fun i j=>wj (.bl (decide (i<j)))
noncomputable abbrev gLe:=gI fun i j=>wj (.bl (decide (i<=j)))
noncomputable abbrev gGt:=gI fun i j=>wj (.bl (decide (j<i)))
noncomputable abbrev gGe:=gI fun i j=>wj (.bl (decide (j<=i)))
theorem jY {K:aa}{g':Int->Int->D} (r:∀ i j ok H,Rep K ok H (g i j) (g' i j)):Fit2 K (rI0 g) (gI fun i j=>wj (g' i j)):=fun ok H x y a b d Q h1 ra rb e k=>by
 obtain⟨i,j,rfl,rfl,e⟩:=Ip e;cases e;exact⟨i,j,ra.int_inv,rb.int_inv,k _ H (Same.refl H) (r i j ok H)⟩
theorem Nr {K:aa}{C C':Int->Int->Prop} [∀ i j,Decidable (C' i j)] {g:Int->Int->V}{g':Int->Int->D} (hC:∀ i j,C' i j->C i j) (r:∀ i j ok H,Rep K ok H (g i j) (g' i j)):
  Fit2 K (rI C g) (gI fun i j=>if C' i j then wj (g' i j) else wk):=fun ok H x y a b d Q h1 ra rb e k=>by
 obtain⟨i,j,rfl,rfl,e⟩:=Ip e;obtain⟨hc,rfl⟩:=bL e;exact⟨i,j,ra.int_inv,rb.int_inv,hC i j hc,k _ H (Same.refl H) (r i j ok H)⟩
section
variable {X:Cx}{e a b c:bt}{es:List bt}{f fa fb fc:DF}{fl:DL}{pos:Pos}
noncomputable def Pg (a:D):Option D:=match a with
 |.int i=>wj (.int (-i))
 |_=>wk
theorem Iu (ha:DE X a fa):DE X (.UnaryOp .USub a pos) (d1 Pg fa):=Po Lk (fun ok H x a d Q h1 r e k=>by
 cases a with
 |int i=>cases e;exact⟨i,r.int_inv,k _ H (Same.refl H) (.int _)⟩
 |_=>cases e) ha
noncomputable def PB:D->Option Bool
 |.non=>wj false
 |.bl b=>wj b
 |.int i=>wj (i !=0)
 |.str x=>if x.length<=sizeLine then wj ((x.length:Int) !=0) else wk
 |.lst ds=>wj (!ds.isEmpty)
 |.tup ds=>wj (!ds.isEmpty)
 |.obj _=>wk
 |.scr ds=>wj (!ds.isEmpty)
theorem Reps.isEmpty {K:aa} (h:Reps K ok H vs ds):vs.isEmpty=ds.isEmpty:=by cases h <;> rfl
theorem IC {K:aa} (h:Rep K ok H v d) (e:PB d=wj k):Pt K v H k:=by
 cases h with
 |non=>cases e;exact rfl
 |bl b=>cases e;exact rfl
 |int i=>cases e;exact rfl
 |str x=>
  obtain⟨hz,rfl⟩:=bL e;exact⟨hz,rfl⟩
 |lst h r=>
  cases e;exact .inl ⟨_,h.sq,by rw[r.isEmpty]⟩
 |tup h r=>
  cases e;exact .inr (.inl ⟨_,h.sq,by rw[r.isEmpty]⟩)
 |obj _=>cases e
 |scr h r=>
  cases e;exact .inl ⟨_,h.sq,by rw[r.isEmpty]⟩
theorem _root_.L2.PW.imp {X:Cx}{e:bt}{t t':TT} (h:PW X e t) (f:∀ σ H Q,t' σ H Q->t σ H Q):PW X e t':=fun wh pins s σ H Q I q=>h wh pins s σ H Q I (f _ _ _ q)
variable {ba bb:DB}{rest:List bt}
noncomputable def QD (a:D):Option D:=(toB a).map fun k=>.bl (!k)
noncomputable def Kw (a b:D):Option D:=match a,b with
 |.str x,.str y=>if x.length+y.length<=sizeLine then wj (.str (x++y)) else wk
 |_,_=>wk
noncomputable def gIx (a b:D):Option D:=match a,b with
 |.lst ds,.int i=>atI ds i
 |.scr ds,.int i=>atI ds i
 |.tup ds,.int i=>atI ds i
 |.str x,.int i=>if x.length<=sizeLine then(atI x.cps.toList i).map fun c=>.str ⟨#[c]⟩ else wk
 |_,_=>wk
theorem Reps.atI {K:aa} (h:Reps K ok H vs ds) (e:L2.atI ds i=wj d):∃ v,L2.atI vs i=wj v/\Rep K ok H v d:=by
 unfold L2.atI at e ⊢;rw[h.length];cases q:ixN ds.length i with
 |none=>rw[q] at e;cases e
 |some j=>
  rw[q] at e;exact h.get e
noncomputable def Cy (ds:List D) (lo hi:Option Int):List D:=(ds.drop (HT.sIx ds.length 0 lo)).take (HT.sIx ds.length ds.length hi-HT.sIx ds.length 0 lo)
theorem Reps.cut {K:aa} (h:Reps K ok H vs ds) (lo hi:Option Int):Reps K ok H (Iv vs lo hi) (Cy ds lo hi):=by
 unfold Iv Cy;rw[h.length];exact(h.drop _).take _
noncomputable abbrev DO:=Rho->Option (Option Int)
noncomputable def tDO (K:aa) (f:DO):TO:=fun σ H Q=>∃(ok:Okk) (ρ:Rho) (o:Option Int),OkH ok H/\EnvR K ok H σ ρ/\f ρ=wj o/\∀ H',Same H H'->Q o H'
theorem _root_.L2.PO.imp {X:Cx}{e:Option bt}{t t':TO} (h:PO X e t) (f:∀ σ H Q,t' σ H Q->t σ H Q):PO X e t':=fun pins s σ H Q I q=>h pins s σ H Q I (f _ _ _ q)
noncomputable abbrev DOp (X:Cx) (e:Option bt) (f:DO):Prop:=PO X e (tDO X.K f)
noncomputable def dNo:DO:=fun _=>wj wk
noncomputable def toI:D->Option Int
 |.int i=>wj i
 |_=>wk
theorem yL (h:toI d=wj i):d=.int i:=by
 cases d with
 |int b=>cases h;rfl
 |_=>cases h
noncomputable def dSo (f:DF):DO:=fun ρ=>(f ρ).bind fun d=>(toI d).map wj
theorem KI:DOp X wk dNo:=PO.imp IY fun σ H Q ⟨ok,ρ,o,h1,h2,h3,h4⟩=>by
 cases h3;exact h4 H (Same.refl H)
theorem KH (h:DE X e f):DOp X (wj e) (dSo f):=PO.imp (IX h) fun σ H Q ⟨ok,ρ,o,h1,h2,h3,h4⟩=>by
 obtain⟨d,e1,e2⟩:=aR h3;cases e3:toI d with
 |none=>rw[e3] at e2;cases e2
 |some i=>
  rw[e3] at e2;cases e2;obtain rfl:=yL e3;exact⟨ok,ρ,_,h1,h2,e1,fun v H1 s1 r1=>⟨i,r1.int_inv,h4 H1 s1⟩⟩
noncomputable def gSl (a:D) (lo hi:Option Int):Option D:=match a with
 |.lst ds=>wj (.lst (Cy ds lo hi))
 |.scr ds=>wj (.lst (Cy ds lo hi))
 |.tup ds=>if HT.sIx ds.length 0 lo=0/\HT.sIx ds.length ds.length hi=ds.length then wk else wj (.tup (Cy ds lo hi))
 |_=>wk
noncomputable def Ph (ds:List D):Option D:=match ds with
 |[.lst xs]=>wj (.int xs.length)
 |[.scr xs]=>wj (.int xs.length)
 |[.tup xs]=>wj (.int xs.length)
 |[.str x]=>if x.length<=sizeLine then wj (.int x.length) else wk
 |_=>wk
theorem Reps.one_inv {K:aa} (h:Reps K ok H vs [d]):∃ v,vs=[v]/\Rep K ok H v d:=by
 cases h with
 |cons a r=>cases r;exact⟨_,rfl,a⟩
theorem Reps.two_inv {K:aa} (h:Reps K ok H vs [d,d']):∃ v v',vs=[v,v']/\Rep K ok H v d/\Rep K ok H v' d':=by
 cases h with
 |cons a r=>
  obtain⟨v',rfl,b⟩:=r.one_inv;exact⟨_,_,rfl,a,b⟩
theorem Kz {K:aa}:FitL K (fun xs H Q=>∃ x n,xs=[x]/\Pz K x H n/\Q (.int n) H) Ph:=fun ok H xs as d Q h1 r e k=>by
 unfold Ph at e;split at e
 ·cases e;obtain⟨v,rfl,r1⟩:=r.one_inv;obtain⟨p,ys,rfl,g,r2⟩:=r1.lst_inv;exact⟨_,_,rfl,.inl ⟨_,g.sq,r2.length.symm⟩,k _ H (Same.refl H) (.int _)⟩
 ·cases e;obtain⟨v,rfl,r1⟩:=r.one_inv;obtain⟨p,ys,rfl,g,r2⟩:=r1.scr_inv;exact⟨_,_,rfl,.inl ⟨_,g.sq,r2.length.symm⟩,k _ H (Same.refl H) (.int _)⟩
 ·cases e;obtain⟨v,rfl,r1⟩:=r.one_inv;obtain⟨p,ys,rfl,g,r2⟩:=r1.tup_inv;exact⟨_,_,rfl,.inr ⟨_,g.sq,r2.length.symm⟩,k _ H (Same.refl H) (.int _)⟩
 ·obtain⟨hz,rfl⟩:=bL e;obtain⟨v,rfl,r1⟩:=r.one_inv;obtain rfl:=r1.str_inv;exact⟨_,_,rfl,⟨hz,rfl⟩,k _ H (Same.refl H) (.int _)⟩
 ·cases e
end
noncomputable def jZ (f:D->D->Option Bool):List D->List D->Option Bool
 |[],_=>wj true
 |_::_,[]=>wj true
 |x::xs,y::ys=>(f x y).bind fun b=>(jZ f xs ys).map fun c=>b&&c
noncomputable def eqS:D->D->Bool
 |.non,.non=>true
 |.bl a,.bl b=>a==b
 |.bl a,.int b=>(if a then 1 else 0)==b
 |.int a,.bl b=>a==(if b then 1 else 0)
 |.int a,.int b=>a==b
 |.str a,.str b=>a==b
 |_,_=>false
noncomputable def eqD:Nat->D->D->Option Bool
 |n+1,.lst xs,.lst ys=>if xs.length=ys.length then jZ (eqD n) xs ys else wj false
 |n+1,.tup xs,.tup ys=>(jZ (eqD n) xs ys).map fun k=>k&&xs.length==ys.length
 |0,.lst _,.lst _=>wk
 |0,.tup _,.tup _=>wk
 |_,.obj _,_=>wk
 |_,_,.obj _=>wk
 |_,.scr _,_=>wk
 |_,_,.scr _=>wk
 |_,a,b=>wj (eqS a b)
noncomputable def eAt (f:D->D->Option Bool) (xs ys:List D) (j:Nat):Bool:=match xs[j]?,ys[j]? with
 |some x,wj y=>(f x y).getD false
 |_,_=>false
theorem iC:∀ {xs ys:List D}{k:Bool}{j:Nat}{x y:D},jZ f xs ys=wj k->xs[j]?=wj x->ys[j]?=wj y->f x y=wj (eAt f xs ys j)
 |[],_,_,_,_,_,_,h,_=>by simp at h
 |_::_,[],_,_,_,_,_,_,h=>by simp at h
 |x'::xs,y'::ys,k,j,x,y,h,h1,h2=>by
  obtain⟨b,e1,e2⟩:=aR h;cases q:jZ f xs ys with
  |none=>rw[q] at e2;cases e2
  |some c=>
   cases j with
   |zero=>
    simp at h1 h2;subst h1 h2;simp[eAt,e1]
   |succ j=>
    simp at h1 h2
    have:=iC q h1 h2
    simpa [eAt] using this
theorem lR:∀ {xs ys:List D}{k:Bool},jZ f xs ys=wj k->k=(bq (min xs.length ys.length)).all (eAt f xs ys)
 |[],ys,k,h=>by
  cases h;simp
 |_::_,[],k,h=>by
  cases h;simp
 |x::xs,y::ys,k,h=>by
  obtain⟨b,e1,e2⟩:=aR h;cases q:jZ f xs ys with
  |none=>rw[q] at e2;cases e2
  |some c=>
   rw[q] at e2;cases e2;have ih:=lR q;have em:min (x::xs).length (y::ys).length=min xs.length ys.length+1:=by
    rw[bz,bz];omega
   rw[em,rq,List.all_cons,List.all_map];have e0:eAt f (x::xs) (y::ys) 0=b:=by simp[eAt,e1]
   have e3:(eAt f (x::xs) (y::ys)∘Nat.succ)=eAt f xs ys:=by
    funext j
    simp[eAt]
   rw[e0,e3,ih]
theorem dF (n m:Nat) (b:D):eqD n (.obj m) b=wk:=by cases n <;> cases b <;> rfl
theorem bT (n m:Nat) (a:D):eqD n a (.obj m)=wk:=by cases n <;> cases a <;> rfl
theorem dE (n:Nat) (m:List D) (b:D):eqD n (.scr m) b=wk:=by cases n <;> cases b <;> rfl
theorem bS (n:Nat) (m:List D) (a:D):eqD n a (.scr m)=wk:=by cases n <;> cases a <;> rfl
section
variable {X:Cx}{pins:List (ae×Obj)}{σ:St}{H:Hp}{s:am}{ok ok':Okk}
theorem dI {A:dh} (h:A.units+(n+1)<dr):A.in1.units+n<dr:=by
 show A.units+1+n<dr;omega
theorem iP (I:Inv X pins σ H s) (h:RL X.K ok H a xs) (g:RT X.K ok' H a ys):False:=by
 obtain⟨_,_,⟨o,n,e,c,_,_⟩,_⟩:=I.list h.sq;obtain⟨_,_,⟨o',e',c',_⟩,_⟩:=I.tuple g.sq;rw[e] at e';cases e';rw[c] at c';exact absurd c' (by decide)
theorem qI (ih:∀ {v:V}{a b:D}{k:Bool},Rep X.K ok H v a->Rep X.K ok' H v b->eqD n a b=wj k->k=true):∀ {vs:List V}{ds es:List D}{k:Bool},Reps X.K ok H vs ds->Reps X.K ok' H vs es->jZ (eqD n) ds es=wj k->k=true
 |_,_,_,_,.nil,.nil,h=>by cases h;rfl
 |_,_,_,_,.cons r rs,.cons q qs,h=>by
  obtain⟨b,e1,e2⟩:=aR h;cases z:jZ (eqD n) _ _ with
  |none=>rw[z] at e2;cases e2
  |some c=>
   rw[z] at e2;cases e2;rw[ih r q e1,qI ih rs qs z];rfl
theorem Hm (I:Inv X pins σ H s):∀(n:Nat) {v:V}{a b:D}{k:Bool},Rep X.K ok H v a->Rep X.K ok' H v b->eqD n a b=wj k->k=true:=by
 intro n
 induction n with
 |zero=>
  intro v a b k ra rb e;cases ra with
  |lst g r=>cases rb with
   |lst g' r'=>cases e
   |tup g' r'=>exact(iP I g g').elim
   |obj _=>rw[bT] at e;cases e
   |scr _ _=>rw[bS] at e;cases e
  |tup g r=>cases rb with
   |tup g' r'=>cases e
   |lst g' r'=>exact(iP I g' g).elim
   |obj _=>rw[bT] at e;cases e
   |scr _ _=>rw[bS] at e;cases e
  |obj _=>rw[dF] at e;cases e
  |scr _ _=>rw[dE] at e;cases e
  |_=>cases rb;cases e;simp[eqS]
 |succ n ih=>
  intro v a b k ra rb e;cases ra with
  |@lst p xs ds g r=>cases rb with
   |@lst _ xs' ds' g' r'=>
    obtain rfl:=I.list_inj g.sq g'.sq;have e':(if ds.length=ds'.length then jZ (eqD n) ds ds' else wj false)=wj k:=e;rw[if_pos (by rw[<- r.length,<- r'.length])] at e';exact qI ih r r' e'
   |tup g' r'=>exact(iP I g g').elim
   |obj _=>rw[bT] at e;cases e
   |scr _ _=>rw[bS] at e;cases e
  |@tup p xs ds g r=>cases rb with
   |@tup _ xs' ds' g' r'=>
    obtain rfl:=I.tuple_inj g.sq g'.sq;have e':((jZ (eqD n) ds ds').map fun k=>k&&ds.length==ds'.length)=wj k:=e;have hl:ds.length=ds'.length:=by rw[<- r.length,<- r'.length]
    cases q:jZ (eqD n) ds ds' with
    |none=>rw[q] at e';cases e'
    |some c=>
     rw[q] at e';cases e';rw[qI ih r r' q,hl];simp
   |lst g' r'=>exact(iP I g' g).elim
   |obj _=>rw[bT] at e;cases e
   |scr _ _=>rw[bS] at e;cases e
  |obj _=>rw[dF] at e;cases e
  |scr _ _=>rw[dE] at e;cases e
  |_=>cases rb;cases e;simp[eqS]
theorem qK (ih:∀ {v:V}{a b c:D}{k k':Bool},Rep X.K ok H v a->Rep X.K ok' H v b->eqD n a c=wj k->eqD n b c=wj k'->k=k'):∀ {vs:List V}{ds es as:List D}{k k':Bool},Reps X.K ok H vs ds->Reps X.K ok' H vs es->jZ (eqD n) ds as=wj k->jZ (eqD n) es as=wj k'->k=k'
 |_,_,_,_,_,_,.nil,.nil,h,h'=>by cases h;cases h';rfl
 |_,_,_,[],_,_,.cons r rs,.cons q qs,h,h'=>by cases h;cases h';rfl
 |_,_,_,a::as,_,_,.cons r rs,.cons q qs,h,h'=>by
  obtain⟨b,e1,e2⟩:=aR h;obtain⟨b',e1',e2'⟩:=aR h';cases z:jZ (eqD n) _ as with
  |none=>rw[z] at e2;cases e2
  |some c=>
   rw[z] at e2;cases e2;cases z':jZ (eqD n) _ as with
   |none=>rw[z'] at e2';cases e2'
   |some c'=>
    rw[z'] at e2';cases e2';rw[ih r q e1 e1',qK ih rs qs z z']
theorem Ho (I:Inv X pins σ H s):∀(n:Nat) {v:V}{a b c:D}{k k':Bool},Rep X.K ok H v a->Rep X.K ok' H v b->eqD n a c=wj k->eqD n b c=wj k'->k=k':=by
 intro n
 induction n with
 |zero=>
  intro v a b c k k' ra rb e e';cases ra with
  |lst g r=>cases rb with
   |lst g' r'=>cases c <;> first|(cases e;done)|(cases e;cases e';rfl)
   |tup g' r'=>exact(iP I g g').elim
   |obj _=>rw[dF] at e';cases e'
   |scr _ _=>rw[dE] at e';cases e'
  |tup g r=>cases rb with
   |tup g' r'=>cases c <;> first|(cases e;done)|(cases e;cases e';rfl)
   |lst g' r'=>exact(iP I g' g).elim
   |obj _=>rw[dF] at e';cases e'
   |scr _ _=>rw[dE] at e';cases e'
  |obj _=>rw[dF] at e;cases e
  |scr _ _=>rw[dE] at e;cases e
  |_=>cases rb;rw[e] at e';cases e';rfl
 |succ n ih=>
  intro v a b c k k' ra rb e e';cases ra with
  |@lst p xs ds g r=>cases rb with
   |@lst _ xs' ds' g' r'=>
    obtain rfl:=I.list_inj g.sq g'.sq;have hl:ds.length=ds'.length:=by rw[<- r.length,<- r'.length]
    cases c with
    |lst cs=>
     have e1:(if ds.length=cs.length then jZ (eqD n) ds cs else wj false)=wj k:=e;have e2:(if ds'.length=cs.length then jZ (eqD n) ds' cs else wj false)=wj k':=e';rw[<- hl] at e2
     by_cases z:ds.length=cs.length
     ·rw[if_pos z] at e1 e2;exact qK ih r r' e1 e2
     ·rw[if_neg z] at e1 e2;cases e1;cases e2;rfl
    |_=>first|(cases e;done)|(cases e;cases e';rfl)
   |tup g' r'=>exact(iP I g g').elim
   |obj _=>rw[dF] at e';cases e'
   |scr _ _=>rw[dE] at e';cases e'
  |@tup p xs ds g r=>cases rb with
   |@tup _ xs' ds' g' r'=>
    obtain rfl:=I.tuple_inj g.sq g'.sq;have hl:ds.length=ds'.length:=by rw[<- r.length,<- r'.length]
    cases c with
    |tup cs=>
     have e1:((jZ (eqD n) ds cs).map fun k=>k&&ds.length==cs.length)=wj k:=e;have e2:((jZ (eqD n) ds' cs).map fun k=>k&&ds'.length==cs.length)=wj k':=e';rw[<- hl] at e2;cases q:jZ (eqD n) ds cs with
     |none=>rw[q] at e1;cases e1
     |some x=>
      cases q':jZ (eqD n) ds' cs with
      |none=>rw[q'] at e2;cases e2
      |some x'=>
       rw[q] at e1;rw[q'] at e2;cases e1;cases e2;rw[qK ih r r' q q']
    |_=>first|(cases e;done)|(cases e;cases e';rfl)
   |lst g' r'=>exact(iP I g' g).elim
   |obj _=>rw[dF] at e';cases e'
   |scr _ _=>rw[dE] at e';cases e'
  |obj _=>rw[dF] at e;cases e
  |scr _ _=>rw[dE] at e;cases e
  |_=>cases rb;rw[e] at e';cases e';rfl
theorem zP (I:Inv X pins σ H s) (n:Nat) (ra:Rep X.K ok H x a) (rb:Rep X.K ok' H y b) (rv:RelV x v) (ru:RelV y u) (e:eqD n a b=wj k) (hrc:vm A s v u k):vf A s v u k:=by
 by_cases hs:v=u
 ·subst hs;obtain rfl:=rv.inj ru;rw[Hm I n ra rb e];exact SeqAt.EqAt.same v
 ·intro prog w E Q hq;unfold eqBool;refine iu ?_;refine wpAny_ite_split (fun hab=>absurd (eq_of_beq hab) hs) (fun _=> ?_);cases ra with
  |non=>cases rv;exact ad (hrc prog w E _ (dm hq))
  |bl b=>cases rv;exact ad (hrc prog w E _ (dm hq))
  |int i=>obtain⟨t,rfl⟩:=rv;exact ad (hrc prog w E _ (dm hq))
  |str z=>obtain⟨t,rfl⟩:=rv;exact ad (hrc prog w E _ (dm hq))
  |lst _ _=>cases rv;exact ad (hrc prog w E _ (dm hq))
  |tup _ _=>cases rv;exact ad (hrc prog w E _ (dm hq))
  |obj _=>rw[dF] at e;cases e
  |scr _ _=>rw[dE] at e;cases e
theorem HY (I:Inv X pins σ H s) (n:Nat):∀ {A:dh}{a b:D}{x y:V}{v u:af}{k:Bool},Rep X.K ok H x a->Rep X.K ok' H y b->RelV x v->RelV y u->eqD n a b=wj k->A.units+n<dr->vm A s v u k:=by
 induction n using Nat.strongRecOn with
 |_ n ih=>
  intro A a b x y v u k ra rb rv ru e hu;have hu0:A.units<dr:=by omega
  cases ra with
  |non=>
   cases rv;cases rb with
   |non=>cases ru;cases n <;> cases e <;> exact SeqAt.RcAt.none_none
   |obj _=>rw[bT] at e;cases e
   |scr _ _=>rw[bS] at e;cases e
   |bl b=>cases ru;cases n <;> cases e <;> exact SeqAt.RcAt.none_bool b
   |int b=>obtain⟨t,rfl⟩:=ru;cases n <;> cases e <;> exact SeqAt.RcAt.none_int b t
   |str b=>obtain⟨t,rfl⟩:=ru;cases n <;> cases e <;> exact SeqAt.RcAt.none_str b t
   |lst g r=>cases ru;obtain⟨its,_,pl,_⟩:=I.list g.sq;cases n <;> cases e <;> exact SeqAt.RcAt.none_list pl.isList hu0
   |tup g r=>cases ru;obtain⟨its,_,pl,_⟩:=I.tuple g.sq;cases n <;> cases e <;> exact SeqAt.RcAt.none_tuple pl hu0
  |bl a=>
   cases rv;cases rb with
   |non=>cases ru;cases n <;> cases e <;> exact SeqAt.RcAt.bool_none a
   |obj _=>rw[bT] at e;cases e
   |scr _ _=>rw[bS] at e;cases e
   |bl b=>cases ru;cases n <;> cases e <;> exact SeqAt.RcAt.bool_bool a b
   |int b=>obtain⟨t,rfl⟩:=ru;cases n <;> cases e <;> exact SeqAt.RcAt.bool_int a b t
   |str b=>obtain⟨t,rfl⟩:=ru;cases n <;> cases e <;> exact SeqAt.RcAt.bool_str a b t
   |lst g r=>cases ru;obtain⟨its,_,pl,_⟩:=I.list g.sq;cases n <;> cases e <;> exact SeqAt.RcAt.bool_list a pl.isList hu0
   |tup g r=>cases ru;obtain⟨its,_,pl,_⟩:=I.tuple g.sq;cases n <;> cases e <;> exact SeqAt.RcAt.bool_tuple a pl hu0
  |int a=>
   obtain⟨t',rfl⟩:=rv;cases rb with
   |non=>cases ru;cases n <;> cases e <;> exact SeqAt.RcAt.int_none a t'
   |obj _=>rw[bT] at e;cases e
   |scr _ _=>rw[bS] at e;cases e
   |bl b=>cases ru;cases n <;> cases e <;> exact SeqAt.RcAt.int_bool a t' b
   |int b=>obtain⟨t,rfl⟩:=ru;cases n <;> cases e <;> exact SeqAt.RcAt.int_int a t' b t
   |str b=>obtain⟨t,rfl⟩:=ru;cases n <;> cases e <;> exact SeqAt.RcAt.int_str a t' b t
   |lst g r=>cases ru;obtain⟨its,_,pl,_⟩:=I.list g.sq;cases n <;> cases e <;> exact SeqAt.RcAt.int_list a t' pl.isList hu0
   |tup g r=>cases ru;obtain⟨its,_,pl,_⟩:=I.tuple g.sq;cases n <;> cases e <;> exact SeqAt.RcAt.int_tuple a t' pl hu0
  |str a=>
   obtain⟨t',rfl⟩:=rv;cases rb with
   |non=>cases ru;cases n <;> cases e <;> exact SeqAt.RcAt.str_none a t'
   |obj _=>rw[bT] at e;cases e
   |scr _ _=>rw[bS] at e;cases e
   |bl b=>cases ru;cases n <;> cases e <;> exact SeqAt.RcAt.str_bool a t' b
   |int b=>obtain⟨t,rfl⟩:=ru;cases n <;> cases e <;> exact SeqAt.RcAt.str_int a t' b t
   |str b=>obtain⟨t,rfl⟩:=ru;cases n <;> cases e <;> exact SeqAt.RcAt.str_str a t' b t
   |lst g r=>cases ru;obtain⟨its,_,pl,_⟩:=I.list g.sq;cases n <;> cases e <;> exact SeqAt.RcAt.str_list a t' pl.isList hu0
   |tup g r=>cases ru;obtain⟨its,_,pl,_⟩:=I.tuple g.sq;cases n <;> cases e <;> exact SeqAt.RcAt.str_tuple a t' pl hu0
  |obj _=>rw[dF] at e;cases e
  |scr _ _=>rw[dE] at e;cases e
  |@lst p xs ds g r=>
   cases rv;obtain⟨its,rr,pl,_⟩:=I.list g.sq;cases rb with
   |non=>cases ru;cases n <;> cases e <;> exact SeqAt.RcAt.list_none pl.isList hu0
   |obj _=>rw[bT] at e;cases e
   |scr _ _=>rw[bS] at e;cases e
   |bl b=>cases ru;cases n <;> cases e <;> exact SeqAt.RcAt.list_bool b pl.isList hu0
   |int b=>obtain⟨t,rfl⟩:=ru;cases n <;> cases e <;> exact SeqAt.RcAt.list_int b t pl.isList hu0
   |str b=>obtain⟨t,rfl⟩:=ru;cases n <;> cases e <;> exact SeqAt.RcAt.list_str b t pl.isList hu0
   |tup g' r'=>cases ru;obtain⟨its',_,pl',_⟩:=I.tuple g'.sq;cases n <;> cases e <;> exact SeqAt.RcAt.list_tuple pl.isList pl' hu0
   |@lst p' xs' ds' g' r'=>
    cases ru;obtain⟨its',rr',pl',_⟩:=I.list g'.sq;have l1:its.toArray.size=ds.length:=by rw[bc,<- rr.length,r.length]
    have l2:its'.toArray.size=ds'.length:=by rw[bc,<- rr'.length,r'.length]
    cases n with
    |zero=>cases e
    |succ n=>
     have e':(if ds.length=ds'.length then jZ (eqD n) ds ds' else wj false)=wj k:=e
     by_cases hl:ds.length=ds'.length
     ·rw[if_pos hl] at e';have hk:k=(bq its.toArray.size).all (eAt (eqD n) ds ds'):=by
       rw[lR e',l1,<- hl,i4]
      rw[hk];refine SeqAt.RcAt.lists pl.isList pl'.isList (by rw[l1,l2,hl]) hu0 fun j h1 h2=> ?_;obtain⟨d,hd,rd⟩:=r.getV (i:=j) (v:=xs[j]'(by rw[r.length,<- l1];exact h1)) (by simp);obtain⟨d',hd',rd'⟩:=r'.getV (i:=j) (v:=xs'[j]'(by rw[r'.length,<- l2];exact h2)) (by simp);obtain⟨w,hw,rw1⟩:=rr.get (i:=j) (x:=xs[j]'(by rw[r.length,<- l1];exact h1)) (by simp);obtain⟨w',hw',rw2⟩:=rr'.get (i:=j) (x:=xs'[j]'(by rw[r'.length,<- l2];exact h2)) (by simp);have ew:its.toArray[j]=w:=by
       obtain⟨_,q⟩:=bg.mp hw;simpa using q
      have ew':its'.toArray[j]=w':=by
       obtain⟨_,q⟩:=bg.mp hw';simpa using q
      rw[ew,ew'];exact zP I n rd rd' rw1 rw2 (iC e' hd hd') (ih n (nh n) rd rd' rw1 rw2 (iC e' hd hd') (dI hu))
     ·rw[if_neg hl] at e';cases e';exact SeqAt.RcAt.lists_lengths pl.isList pl'.isList (by rw[l1,l2];simpa using hl) hu0
  |@tup p xs ds g r=>
   cases rv;obtain⟨its,rr,pl,_⟩:=I.tuple g.sq;cases rb with
   |non=>cases ru;cases n <;> cases e <;> exact SeqAt.RcAt.tuple_none pl hu0
   |obj _=>rw[bT] at e;cases e
   |scr _ _=>rw[bS] at e;cases e
   |bl b=>cases ru;cases n <;> cases e <;> exact SeqAt.RcAt.tuple_bool b pl hu0
   |int b=>obtain⟨t,rfl⟩:=ru;cases n <;> cases e <;> exact SeqAt.RcAt.tuple_int b t pl hu0
   |str b=>obtain⟨t,rfl⟩:=ru;cases n <;> cases e <;> exact SeqAt.RcAt.tuple_str b t pl hu0
   |lst g' r'=>cases ru;obtain⟨its',_,pl',_⟩:=I.list g'.sq;cases n <;> cases e <;> exact SeqAt.RcAt.tuple_list pl pl'.isList hu0
   |@tup p' xs' ds' g' r'=>
    cases ru;obtain⟨its',rr',pl',_⟩:=I.tuple g'.sq;have l1:its.toArray.size=ds.length:=by rw[bc,<- rr.length,r.length]
    have l2:its'.toArray.size=ds'.length:=by rw[bc,<- rr'.length,r'.length]
    cases n with
    |zero=>cases e
    |succ n=>
     have e':((jZ (eqD n) ds ds').map fun k=>k&&ds.length==ds'.length)=wj k:=e;cases q:jZ (eqD n) ds ds' with
     |none=>rw[q] at e';cases e'
     |some c=>
      rw[q] at e';cases e';have hk:(c&&ds.length==ds'.length)=((bq (min its.toArray.size its'.toArray.size)).all (eAt (eqD n) ds ds')&&its.toArray.size==its'.toArray.size):=by
       rw[lR q,l1,l2]
      show vm A s (b9 p) (b9 p') (c&&ds.length==ds'.length);rw[hk];refine SeqAt.RcAt.tuples pl pl' hu0 fun j h1 h2=> ?_;obtain⟨d,hd,rd⟩:=r.getV (i:=j) (v:=xs[j]'(by rw[r.length,<- l1];exact h1)) (by simp);obtain⟨d',hd',rd'⟩:=r'.getV (i:=j) (v:=xs'[j]'(by rw[r'.length,<- l2];exact h2)) (by simp);obtain⟨w,hw,rw1⟩:=rr.get (i:=j) (x:=xs[j]'(by rw[r.length,<- l1];exact h1)) (by simp);obtain⟨w',hw',rw2⟩:=rr'.get (i:=j) (x:=xs'[j]'(by rw[r'.length,<- l2];exact h2)) (by simp);have ew:its.toArray[j]=w:=by
       obtain⟨_,q⟩:=bg.mp hw;simpa using q
      have ew':its'.toArray[j]=w':=by
       obtain⟨_,q⟩:=bg.mp hw';simpa using q
      rw[ew,ew'];exact zP I n rd rd' rw1 rw2 (iC q hd hd') (ih n (nh n) rd rd' rw1 rw2 (iC q hd hd') (dI hu))
theorem pQ (I:Inv X pins σ H s) (n:Nat) (ra:Rep X.K ok H x a) (rb:Rep X.K ok' H y b) (rv:RelV x v) (ru:RelV y u) (e:eqD n a b=wj k) (hu:A.units+n<dr):vf A s v u k:=
 zP I n ra rb rv ru e (HY I n ra rb rv ru e hu)
end
section
variable {X:Cx}{pins:List (ae×Obj)}{σ:St}{H:Hp}{s:am}{ok ok':Okk}
theorem LA (I:Inv X pins σ H s) (n:Nat):∀ {A:dh}{a b:D}{x y:V}{v u:af}{k:Bool},Rep X.K ok H x a->Rep X.K ok' H y b->RelV x v->RelV y u->eqD n a b=wj k->A.units+n<dr->SeqAt.RcNeAt A s v u (!k):=by
  intro A a b x y v u k ra rb rv ru e hu;have hu0:A.units<dr:=by omega
  cases ra with
  |non=>
   cases rv;cases rb with
   |non=>cases ru;cases n <;> cases e <;> exact SeqAt.RcNeAt.none_none
   |obj _=>rw[bT] at e;cases e
   |scr _ _=>rw[bS] at e;cases e
   |bl b=>cases ru;cases n <;> cases e <;> exact SeqAt.RcNeAt.none_bool b
   |int b=>obtain⟨t,rfl⟩:=ru;cases n <;> cases e <;> exact SeqAt.RcNeAt.none_int b t
   |str b=>obtain⟨t,rfl⟩:=ru;cases n <;> cases e <;> exact SeqAt.RcNeAt.none_str b t
   |lst g r=>cases ru;obtain⟨its,_,pl,_⟩:=I.list g.sq;cases n <;> cases e <;> exact SeqAt.RcNeAt.none_list pl.isList hu0
   |tup g r=>cases ru;obtain⟨its,_,pl,_⟩:=I.tuple g.sq;cases n <;> cases e <;> exact SeqAt.RcNeAt.none_tuple pl hu0
  |bl a=>
   cases rv;cases rb with
   |non=>cases ru;cases n <;> cases e <;> exact SeqAt.RcNeAt.bool_none a
   |obj _=>rw[bT] at e;cases e
   |scr _ _=>rw[bS] at e;cases e
   |bl b=>cases ru;cases n <;> cases e <;> exact SeqAt.RcNeAt.bool_bool a b
   |int b=>obtain⟨t,rfl⟩:=ru;cases n <;> cases e <;> exact SeqAt.RcNeAt.bool_int a b t
   |str b=>obtain⟨t,rfl⟩:=ru;cases n <;> cases e <;> exact SeqAt.RcNeAt.bool_str a b t
   |lst g r=>cases ru;obtain⟨its,_,pl,_⟩:=I.list g.sq;cases n <;> cases e <;> exact SeqAt.RcNeAt.bool_list a pl.isList hu0
   |tup g r=>cases ru;obtain⟨its,_,pl,_⟩:=I.tuple g.sq;cases n <;> cases e <;> exact SeqAt.RcNeAt.bool_tuple a pl hu0
  |int a=>
   obtain⟨t',rfl⟩:=rv;cases rb with
   |non=>cases ru;cases n <;> cases e <;> exact SeqAt.RcNeAt.int_none a t'
   |obj _=>rw[bT] at e;cases e
   |scr _ _=>rw[bS] at e;cases e
   |bl b=>cases ru;cases n <;> cases e <;> exact SeqAt.RcNeAt.int_bool a t' b
   |int b=>obtain⟨t,rfl⟩:=ru;cases n <;> cases e <;> exact SeqAt.RcNeAt.int_int a t' b t
   |str b=>obtain⟨t,rfl⟩:=ru;cases n <;> cases e <;> exact SeqAt.RcNeAt.int_str a t' b t
   |lst g r=>cases ru;obtain⟨its,_,pl,_⟩:=I.list g.sq;cases n <;> cases e <;> exact SeqAt.RcNeAt.int_list a t' pl.isList hu0
   |tup g r=>cases ru;obtain⟨its,_,pl,_⟩:=I.tuple g.sq;cases n <;> cases e <;> exact SeqAt.RcNeAt.int_tuple a t' pl hu0
  |str a=>
   obtain⟨t',rfl⟩:=rv;cases rb with
   |non=>cases ru;cases n <;> cases e <;> exact SeqAt.RcNeAt.str_none a t'
   |obj _=>rw[bT] at e;cases e
   |scr _ _=>rw[bS] at e;cases e
   |bl b=>cases ru;cases n <;> cases e <;> exact SeqAt.RcNeAt.str_bool a t' b
   |int b=>obtain⟨t,rfl⟩:=ru;cases n <;> cases e <;> exact SeqAt.RcNeAt.str_int a t' b t
   |str b=>obtain⟨t,rfl⟩:=ru;cases n <;> cases e <;> exact SeqAt.RcNeAt.str_str a t' b t
   |lst g r=>cases ru;obtain⟨its,_,pl,_⟩:=I.list g.sq;cases n <;> cases e <;> exact SeqAt.RcNeAt.str_list a t' pl.isList hu0
   |tup g r=>cases ru;obtain⟨its,_,pl,_⟩:=I.tuple g.sq;cases n <;> cases e <;> exact SeqAt.RcNeAt.str_tuple a t' pl hu0
  |obj _=>rw[dF] at e;cases e
  |scr _ _=>rw[dE] at e;cases e
  |@lst p xs ds g r=>
   cases rv;obtain⟨its,rr,pl,_⟩:=I.list g.sq;cases rb with
   |non=>cases ru;cases n <;> cases e <;> exact SeqAt.RcNeAt.list_none pl.isList hu0
   |obj _=>rw[bT] at e;cases e
   |scr _ _=>rw[bS] at e;cases e
   |bl b=>cases ru;cases n <;> cases e <;> exact SeqAt.RcNeAt.list_bool b pl.isList hu0
   |int b=>obtain⟨t,rfl⟩:=ru;cases n <;> cases e <;> exact SeqAt.RcNeAt.list_int b t pl.isList hu0
   |str b=>obtain⟨t,rfl⟩:=ru;cases n <;> cases e <;> exact SeqAt.RcNeAt.list_str b t pl.isList hu0
   |tup g' r'=>cases ru;obtain⟨its',_,pl',_⟩:=I.tuple g'.sq;cases n <;> cases e <;> exact SeqAt.RcNeAt.list_tuple pl.isList pl' hu0
   |@lst p' xs' ds' g' r'=>
    cases ru;obtain⟨its',rr',pl',_⟩:=I.list g'.sq;have l1:its.toArray.size=ds.length:=by rw[bc,<- rr.length,r.length]
    have l2:its'.toArray.size=ds'.length:=by rw[bc,<- rr'.length,r'.length]
    cases n with
    |zero=>cases e
    |succ n=>
     have e':(if ds.length=ds'.length then jZ (eqD n) ds ds' else wj false)=wj k:=e
     by_cases hl:ds.length=ds'.length
     ·rw[if_pos hl] at e';have hk:k=(bq its.toArray.size).all (eAt (eqD n) ds ds'):=by
       rw[lR e',l1,<- hl,i4]
      rw[hk];refine SeqAt.RcNeAt.lists pl.isList pl'.isList (by rw[l1,l2,hl]) hu0 fun j h1 h2=> ?_;obtain⟨d,hd,rd⟩:=r.getV (i:=j) (v:=xs[j]'(by rw[r.length,<- l1];exact h1)) (by simp);obtain⟨d',hd',rd'⟩:=r'.getV (i:=j) (v:=xs'[j]'(by rw[r'.length,<- l2];exact h2)) (by simp);obtain⟨w,hw,rw1⟩:=rr.get (i:=j) (x:=xs[j]'(by rw[r.length,<- l1];exact h1)) (by simp);obtain⟨w',hw',rw2⟩:=rr'.get (i:=j) (x:=xs'[j]'(by rw[r'.length,<- l2];exact h2)) (by simp);have ew:its.toArray[j]=w:=by
       obtain⟨_,q⟩:=bg.mp hw;simpa using q
      have ew':its'.toArray[j]=w':=by
       obtain⟨_,q⟩:=bg.mp hw';simpa using q
      rw[ew,ew'];exact pQ I n rd rd' rw1 rw2 (iC e' hd hd') (dI hu)
     ·rw[if_neg hl] at e';cases e';exact SeqAt.RcNeAt.lists_lengths pl.isList pl'.isList (by rw[l1,l2];simpa using hl) hu0
  |@tup p xs ds g r=>
   cases rv;obtain⟨its,rr,pl,_⟩:=I.tuple g.sq;cases rb with
   |non=>cases ru;cases n <;> cases e <;> exact SeqAt.RcNeAt.tuple_none pl hu0
   |obj _=>rw[bT] at e;cases e
   |scr _ _=>rw[bS] at e;cases e
   |bl b=>cases ru;cases n <;> cases e <;> exact SeqAt.RcNeAt.tuple_bool b pl hu0
   |int b=>obtain⟨t,rfl⟩:=ru;cases n <;> cases e <;> exact SeqAt.RcNeAt.tuple_int b t pl hu0
   |str b=>obtain⟨t,rfl⟩:=ru;cases n <;> cases e <;> exact SeqAt.RcNeAt.tuple_str b t pl hu0
   |lst g' r'=>cases ru;obtain⟨its',_,pl',_⟩:=I.list g'.sq;cases n <;> cases e <;> exact SeqAt.RcNeAt.tuple_list pl pl'.isList hu0
   |@tup p' xs' ds' g' r'=>
    cases ru;obtain⟨its',rr',pl',_⟩:=I.tuple g'.sq;have l1:its.toArray.size=ds.length:=by rw[bc,<- rr.length,r.length]
    have l2:its'.toArray.size=ds'.length:=by rw[bc,<- rr'.length,r'.length]
    cases n with
    |zero=>cases e
    |succ n=>
     have e':((jZ (eqD n) ds ds').map fun k=>k&&ds.length==ds'.length)=wj k:=e;cases q:jZ (eqD n) ds ds' with
     |none=>rw[q] at e';cases e'
     |some c=>
      rw[q] at e';cases e';have hk:(c&&ds.length==ds'.length)=((bq (min its.toArray.size its'.toArray.size)).all (eAt (eqD n) ds ds')&&its.toArray.size==its'.toArray.size):=by
       rw[lR q,l1,l2]
      show SeqAt.RcNeAt A s (b9 p) (b9 p') (!(c&&ds.length==ds'.length));rw[hk];refine SeqAt.RcNeAt.tuples pl pl' hu0 fun j h1 h2=> ?_;obtain⟨d,hd,rd⟩:=r.getV (i:=j) (v:=xs[j]'(by rw[r.length,<- l1];exact h1)) (by simp);obtain⟨d',hd',rd'⟩:=r'.getV (i:=j) (v:=xs'[j]'(by rw[r'.length,<- l2];exact h2)) (by simp);obtain⟨w,hw,rw1⟩:=rr.get (i:=j) (x:=xs[j]'(by rw[r.length,<- l1];exact h1)) (by simp);obtain⟨w',hw',rw2⟩:=rr'.get (i:=j) (x:=xs'[j]'(by rw[r'.length,<- l2];exact h2)) (by simp);have ew:its.toArray[j]=w:=by
       obtain⟨_,q⟩:=bg.mp hw;simpa using q
      have ew':its'.toArray[j]=w':=by
       obtain⟨_,q⟩:=bg.mp hw';simpa using q
      rw[ew,ew'];exact pQ I n rd rd' rw1 rw2 (iC q hd hd') (dI hu)
end
noncomputable def PP (K:aa) (n:Nat):R2:=fun x y H Q=>∃ ok a b k,Rep K ok H x a/\Rep K ok H y b/\eqD n a b=wj k/\Q (.bl k) H
noncomputable def PJ (K:aa) (n:Nat):R2:=fun x y H Q=>∃ ok a b k,Rep K ok H x a/\Rep K ok H y b/\eqD n a b=wj k/\Q (.bl (!k)) H
noncomputable def gEq (n:Nat) (a b:D):Option D:=(eqD n a b).map D.bl
noncomputable def gNe (n:Nat) (a b:D):Option D:=(eqD n a b).map fun k=>D.bl (!k)
theorem aJ {f:α->β} (h:o.map f=wj b):∃ a,o=wj a/\f a=b:=by
 cases o with
 |none=>cases h
 |some a=>exact⟨a,rfl,ce h⟩
noncomputable abbrev Iy (X:Cx) (n:Nat):Prop:=X.A.units+n<dr
section
variable {X:Cx}{e a b c:bt}{es:List bt}{f fa fb fc:DF}{fl:DL}{pos:Pos}
theorem MC (hu:Iy X n):OpR X (fk .Eq) (PP X.K n):=by
 intro pins s σ H x y v u Q I rx ry h;obtain⟨ok,a,b,k,ra,rb,e,q⟩:=h;exact HY I n ra rb rx ry e hu X.prog X.w X.xe _ ⟨.bl k,H,I,rfl,q⟩
theorem Mv (hu:Iy X n):OpR X (fk .NotEq) (PJ X.K n):=by
 intro pins s σ H x y v u Q I rx ry h;obtain⟨ok,a,b,k,ra,rb,e,q⟩:=h;exact LA I n ra rb rx ry e hu X.prog X.w X.xe _ ⟨.bl (!k),H,I,rfl,q⟩
noncomputable def isN:D->Bool
 |.non=>true
 |_=>false
noncomputable def Ku (a b:D):Option D:=match b with
 |.non=>wj (.bl (!isN a))
 |_=>wk
theorem Nh {K:aa} (h:Rep K ok H v d):decide (v=.non)=isN d:=by
 cases h <;> simp[isN]
theorem Hh {K:aa}:Fit2 K (fun x y H Q=>y=.non/\Q (.bl (!decide (x=.non))) H) Ku:=fun ok H x y a b d Q h1 ra rb e k=>by
 cases b with
 |non=>
  cases e;refine⟨rb.non_inv,?_⟩;rw[Nh ra];exact k _ H (Same.refl H) (.bl _)
 |_=>cases e
noncomputable def inO (f:D->Option Bool):List D->Option Bool
 |[]=>wj false
 |x::xs=>(f x).bind fun b=>(inO f xs).map fun c=>b||c
noncomputable def inD (n:Nat) (a b:D):Option Bool:=match b with
 |.lst ds=>inO (fun d=>eqD n d a) ds
 |.tup ds=>inO (fun d=>eqD n d a) ds
 |_=>wk
noncomputable def yA (K:aa) (ok:Okk) (H:Hp) (n:Nat) (a:D) (u:af):Bool:=
 @decide (∃ x d,RelV x u/\Rep K ok H x d/\eqD n d a=wj true) (ka _)
theorem HQ {a d:D} (I:Inv X pins σ H s) (r:RelV x u) (q:Rep X.K ok H x d) (e:eqD n d a=wj k):yA X.K ok H n a u=k:=by
 unfold yA;cases k with
 |true=>exact @decide_eq_true _ (ka _) ⟨x,d,r,q,e⟩
 |false=>
  refine @decide_eq_false _ (ka _) ?_
  rintro⟨x',d',r',q',e'⟩
  obtain rfl:=r.inj r';exact nomatch Ho I n q q' e e'
theorem pF {a:D} (I:Inv X pins σ H s):∀ {xs:List V}{us:List af}{ds:List D}{k:Bool},Vals xs us->Reps X.K ok H xs ds->inO (fun d=>eqD n d a) ds=wj k->
  us.any (yA X.K ok H n a)=k/\∀ u∈us,∃ x d,RelV x u/\Rep X.K ok H x d/\eqD n d a=wj (yA X.K ok H n a u)
 |_,_,_,_,.nil,.nil,h=>by
  cases h;exact⟨rfl,fun u hu=>by cases hu⟩
 |_,_,_,k,.cons r rs,.cons q qs,h=>by
  obtain⟨b,e1,e2⟩:=aR h;obtain⟨c,e3,rfl⟩:=aJ e2;obtain⟨h1,h2⟩:=pF I rs qs e3;have hb:=HQ I r q e1;refine⟨by rw[lg,hb,h1],fun u hu=> ?_⟩;rcases ai.mp hu with rfl|hu
  ·exact⟨_,_,r,q,by rw[hb];exact e1⟩
  ·exact h2 u hu
noncomputable def PN (K:aa) (n:Nat):R2:=fun x y H Q=>∃ ok a b k,Rep K ok H x a/\Rep K ok H y b/\inD n a b=wj k/\Q (.bl k) H
noncomputable def Dl (K:aa) (n:Nat):R2:=fun x y H Q=>∃ ok a b k,Rep K ok H x a/\Rep K ok H y b/\inD n a b=wj k/\Q (.bl (!k)) H
theorem Mz (hu:Iy X (n+1)):OpR X (fk .In) (PN X.K n):=by
 intro pins s σ H x y v u Q I rx ry h;obtain⟨ok,a,b,k,ra,rb,e,q⟩:=h;cases rb with
 |lst g r=>
  cases ry;obtain⟨its,rr,pl,_⟩:=I.list g.sq;obtain⟨h1,h2⟩:=pF I rr r e;refine SeqAt.in_listAt (yA X.K ok H n a) pl.isList (fun w hw=> ?_) ⟨.bl k,H,I,?_,q⟩
  ·obtain⟨x',d',r',q',e'⟩:=h2 w (by simpa using hw);exact pQ I n q' ra r' rx e' (dI hu)
  ·rw[<- h1];simp[RelV]
 |tup g r=>
  cases ry;obtain⟨its,rr,pl,_⟩:=I.tuple g.sq;obtain⟨h1,h2⟩:=pF I rr r e;refine SeqAt.in_tupleAt (yA X.K ok H n a) pl (fun w hw=> ?_) ⟨.bl k,H,I,?_,q⟩
  ·obtain⟨x',d',r',q',e'⟩:=h2 w (by simpa using hw);exact pQ I n q' ra r' rx e' (dI hu)
  ·rw[<- h1];simp[RelV]
 |_=>cases e
theorem Dz (hu:Iy X (n+1)):OpR X (fk .NotIn) (Dl X.K n):=by
 intro pins s σ H x y v u Q I rx ry h;obtain⟨ok,a,b,k,ra,rb,e,q⟩:=h;cases rb with
 |lst g r=>
  cases ry;obtain⟨its,rr,pl,_⟩:=I.list g.sq;obtain⟨h1,h2⟩:=pF I rr r e;refine SeqAt.notIn_listAt (yA X.K ok H n a) pl.isList (fun w hw=> ?_) ⟨.bl (!k),H,I,?_,q⟩
  ·obtain⟨x',d',r',q',e'⟩:=h2 w (by simpa using hw);exact pQ I n q' ra r' rx e' (dI hu)
  ·rw[<- h1];simp[RelV]
 |tup g r=>
  cases ry;obtain⟨its,rr,pl,_⟩:=I.tuple g.sq;obtain⟨h1,h2⟩:=pF I rr r e;refine SeqAt.notIn_tupleAt (yA X.K ok H n a) pl (fun w hw=> ?_) ⟨.bl (!k),H,I,?_,q⟩
  ·obtain⟨x',d',r',q',e'⟩:=h2 w (by simpa using hw);exact pQ I n q' ra r' rx e' (dI hu)
  ·rw[<- h1];simp[RelV]
 |_=>cases e
noncomputable def gIn (n:Nat) (a b:D):Option D:=(inD n a b).map D.bl
noncomputable def Bi (n:Nat) (a b:D):Option D:=(inD n a b).map fun k=>D.bl (!k)
theorem Nq {K:aa}:Fit2 K (PN K n) (gIn n):=fun ok H x y a b d Q h1 ra rb e k=>by
 obtain⟨c,e1,rfl⟩:=aJ e;exact⟨ok,a,b,c,ra,rb,e1,k _ H (Same.refl H) (.bl _)⟩
theorem EH {K:aa}:Fit2 K (Dl K n) (Bi n):=fun ok H x y a b d Q h1 ra rb e k=>by
 obtain⟨c,e1,rfl⟩:=aJ e;exact⟨ok,a,b,c,ra,rb,e1,k _ H (Same.refl H) (.bl _)⟩
noncomputable def tyD:D->String
 |.non=>"NoneType"
 |.bl _=>"bool"
 |.int _=>"int"
 |.str _=>"str"
 |.lst _=>"list"
 |.tup _=>"tuple"
 |.obj _=>"object"
 |.scr _=>"object"
noncomputable def wT:D->Bool
 |.obj _=>true
 |.scr _=>true
 |_=>false
noncomputable def Ce (T:String) (d:D):Option Bool:=
 if wT d=true then wk else if T="int" then wj (match d with|.int _=>true|.bl _=>true|_=>false)
 else if T="bool" then wj (match d with|.bl _=>true|_=>false)
 else if T="str" then wj (match d with|.str _=>true|_=>false)
 else if T="list" then wj (match d with|.lst _=>true|_=>false)
 else if T="tuple" then wj (match d with|.tup _=>true|_=>false)
 else if T="dict" then wj false
 else wk
theorem Kb {K:aa} (h:Ce T d=wj k):PySem.W.kitOne K (.type (tyD d)) (.type T)=wj k:=by
 unfold Ce at h;split at h
 ·cases h
 rename_i hob
 split at h
 ·subst_vars;cases h;cases d <;> first|rfl|exact absurd rfl hob
 ·split at h
  ·subst_vars;cases h;cases d <;> first|rfl|exact absurd rfl hob
  ·split at h
   ·subst_vars;cases h;cases d <;> first|rfl|exact absurd rfl hob
   ·split at h
    ·subst_vars;cases h;cases d <;> first|rfl|exact absurd rfl hob
    ·split at h
     ·subst_vars;cases h;cases d <;> first|rfl|exact absurd rfl hob
     ·split at h
      ·subst_vars;cases h;cases d <;> first|rfl|exact absurd rfl hob
      ·cases h
noncomputable def Qr (K:aa):List V->Hp->VK->Prop:=fun xs H Q=>∃ x T d ok k,xs=[x,.ty T]/\Rep K ok H x d/\Ce T d=wj k/\Q (.bl k) H
theorem HL:CallR X (.builtin "isinstance") (Qr X.K):=by
 intro pins s σ H xs us Q I r h;obtain⟨x,T,d,ok,k,rfl,q,e,hq⟩:=h;obtain⟨u,w',rfl,ru,rw'⟩:=Fy r;cases rw';have fin:∀ tk,EP X pins σ Q (.bool k) { s with toks:=tk }:=fun tk=>⟨.bl k,H,I.tok _,rfl,hq⟩;have ek:=Kb (K:=X.K) e;cases q with
 |non=>cases ru;exact km PySem.W.kitx_none I.kIn ig ek (fun z=>nomatch z) fin
 |bl b=>cases ru;exact km PySem.W.kitx_bool I.kIn ig ek (fun z=>nomatch z) fin
 |int i=>obtain⟨t,rfl⟩:=ru;exact km PySem.W.kitx_int I.kIn ig ek (fun z=>nomatch z) fin
 |str z=>obtain⟨t,rfl⟩:=ru;exact km PySem.W.kitx_str I.kIn ig ek (fun z=>nomatch z) fin
 |lst g r=>
  cases ru;obtain⟨its,_,⟨o,n,e1,c1,_,_⟩,_⟩:=I.list g.sq;exact km PySem.W.kitx_list I.kIn ⟨o,e1,c1⟩ ek (fun z=>nomatch z) fin
 |tup g r=>
  cases ru;obtain⟨its,_,⟨o,e1,c1,_⟩,_⟩:=I.tuple g.sq;exact km PySem.W.kitx_tuple I.kIn ⟨o,e1,c1⟩ ek (fun z=>nomatch z) fin
 |obj _=>exact nomatch e
 |scr _ _=>exact nomatch e
end
set_option compiler.extract_closed false
local macro_rules| `(tactic|walk_at "adr")=> `(tactic|((try unfold ae at*);omega))
noncomputable def tE (env:Env):List (Str×g9)->List (Str×ae)->List (Str×ae)
 |[],acc=>acc
 |(n,k)::r,acc=>if k== .free then tE env r ((n,(env.cells.lookup n).getD 0)::acc) else tE env r acc
theorem uO (f:Str×g9->List (Str×ae)->Sem (ForInStep (List (Str×ae))))
  (hf:∀ name kind cs,f (name,kind) cs=if kind== .free then(do let c <- cellOf env name;pure (.yield ((name,c)::cs))) else pure (.yield cs)):
  ∀(names:List (Str×g9)) (acc:List (Str×ae)),(∀ y∈names,y.2=.free->∃ c,env.cells.lookup y.1=wj c)->(forIn names acc f:Sem _)=pure (tE env names acc)
 |[],acc,_=>by rw[vx];rfl
 |(n,k)::r,acc,h=>by
  rw[List.forIn_cons,hf];have hr:∀ y∈r,y.2=.free->∃ c,env.cells.lookup y.1=wj c:=fun y hy=>h y (ag _ hy);unfold tE
  by_cases hk:(k==gw)=true
  ·rw[if_pos hk,if_pos hk];obtain⟨c,hc⟩:=h (n,k) aq (by simpa using hk);have e:(cellOf env n:Sem ae)=pure c:=by unfold cellOf;rw[hc]
   rw[e,hc];simp only[pure_bind,Option.getD_some];exact uO f hf r _ hr
  ·rw[if_neg hk,if_neg hk];simp only[pure_bind];exact uO f hf r _ hr
theorem sZ (h:∀ y∈scope.names,y.2=.free->∃ c,env.cells.lookup y.1=wj c):closureFor scope env=pure (tE env scope.names []):=by
 simp only[closureFor];rw[uO (env:=env) _ (fun name kind cs=>by cases hk:kind==gw <;> simp[hk]) scope.names [] h];rfl
theorem nO:∀ {names:List (Str×g9)}{acc:List (Str×ae)}{c:ae},(tE env names acc).lookup x=wj c->acc.lookup x=wj c∨((x,gw)∈names/\c=(env.cells.lookup x).getD 0)
 |[],acc,c,h=>.inl h
 |(n,k)::r,acc,c,h=>by
  unfold tE at h
  by_cases hk:(k==gw)=true
  ·rw[if_pos hk] at h;rcases nO h with q|⟨q1,q2⟩
   ·rw[f7] at q;cases hx:x==n with
    |true=>
     rw[hx] at q;obtain rfl:x=n:=by simpa using hx
     have hk':k=.free:=by simpa using hk
     subst hk';exact .inr ⟨aq,by cases q;rfl⟩
    |false=>
     rw[hx] at q;exact .inl q
   ·exact .inr ⟨ag _ q1,q2⟩
  ·rw[if_neg hk] at h;rcases nO h with q|⟨q1,q2⟩
   ·exact .inl q
   ·exact .inr ⟨ag _ q1,q2⟩
theorem qG:∀ {names:List (Str×g9)}{acc:List (Str×ae)},(∃ c,acc.lookup x=wj c)->∃ c,(tE env names acc).lookup x=wj c
 |[],acc,h=>h
 |(n,k)::r,acc,h=>by
  unfold tE;split
  ·refine qG ?_;rw[f7];cases hx:x==n with
   |true=>exact⟨_,rfl⟩
   |false=>exact h
  ·exact qG h
theorem uV:∀ {names:List (Str×g9)}{acc:List (Str×ae)},(x,gw)∈names->∃ c,(tE env names acc).lookup x=wj c
 |(n,k)::r,acc,h=>by
  unfold tE;rcases ai.mp h with e|h
  ·cases e;rw[if_pos (by rfl)];exact qG ⟨_,by rw[f7,beq_self_eq_true]⟩
  ·split
   ·exact uV h
   ·exact uV h
theorem fF:∀ {names:List (Str×g9)}{n:Nat}{acc:List (Str×ae)}{c:ae},(gu n names acc).lookup x=wj c->acc.lookup x=wj c∨((x,cu)∈names/\n<=c)
 |[],n,acc,c,h=>.inl h
 |(y,k)::r,n,acc,c,h=>by
  unfold gu at h
  by_cases hk:(k==cu)=true
  ·rw[if_pos hk] at h;rcases fF h with q|⟨q1,q2⟩
   ·rw[f7] at q;cases hx:x==y with
    |true=>
     rw[hx] at q;obtain rfl:x=y:=by simpa using hx
     have hk':k=.cell:=by simpa using hk
     subst hk';cases q;exact .inr ⟨aq,bf _⟩
    |false=>
     rw[hx] at q;exact .inl q
   ·exact .inr ⟨ag _ q1,by walk_at "adr"⟩
  ·rw[if_neg hk] at h;rcases fF h with q|⟨q1,q2⟩
   ·exact .inl q
   ·exact .inr ⟨ag _ q1,q2⟩
theorem iA:∀ {names:List (Str×g9)}{n:Nat}{acc:List (Str×ae)},(x,cu)∉names->(gu n names acc).lookup x=acc.lookup x
 |[],n,acc,_=>rfl
 |(y,k)::r,n,acc,h=>by
  have hr:(x,cu)∉r:=fun z=>h (ag _ z);unfold gu
  by_cases hk:(k==cu)=true
  ·rw[if_pos hk,iA hr,f7];have hk':k=.cell:=by simpa using hk
   subst hk';cases hx:x==y with
   |true=>
    obtain rfl:x=y:=by simpa using hx
    exact absurd aq h
   |false=>rfl
  ·rw[if_neg hk,iA hr]
theorem eT:∀ {names:List (Str×g9)}{n:Nat}{acc:List (Str×ae)},(∃ c,acc.lookup x=wj c)->∃ c,(gu n names acc).lookup x=wj c
 |[],n,acc,h=>h
 |(y,k)::r,n,acc,h=>by
  unfold gu;split
  ·refine eT ?_;rw[f7];cases hx:x==y with
   |true=>exact⟨_,rfl⟩
   |false=>exact h
  ·exact eT h
theorem iZ:∀ {names:List (Str×g9)}{n:Nat}{acc:List (Str×ae)},(x,cu)∈names->∃ c,(gu n names acc).lookup x=wj c
 |(y,k)::r,n,acc,h=>by
  unfold gu;rcases ai.mp h with e|h
  ·cases e;rw[if_pos (by rfl)];exact eT ⟨_,by rw[f7,beq_self_eq_true]⟩
  ·split
   ·exact iZ h
   ·exact iZ h
structure vF (h:cx) (n:Nat) (acc cs:List (Str×ae)):Prop where
 cell:∀ x c,(x,c)∈cs->(x,c)∈acc∨(h.IsCell c wk/\n<=c)
 apart:∀ x y c,(x,c)∈cs->(y,c)∈cs->n<=c->x=y
theorem uE:∀(names:List (Str×g9)) (h:cx) (n:Nat) (acc0 acc:List (Str×ae)),n<=h.objs.size->vF h n acc0 acc->(∀ x c,(x,c)∈acc->c<h.objs.size)->vF (pushCells h names) n acc0 (gu h.objs.size names acc)
 |[],h,n,acc0,acc,_,N,_=>N
 |(y,k)::r,h,n,acc0,acc,hn,N,hlt=>by
  unfold pushCells gu;split
  ·have:=uE r (h.push { cls:=.type "cell",data:=.cell wk }) n acc0 ((y,h.objs.size)::acc) (by rw[ii];walk_at "adr")
    ⟨fun x c hm=>by
     rcases ai.mp hm with e|hm
     ·cases e;exact .inr ⟨⟨_,bw _ rfl,rfl⟩,hn⟩
     ·rcases N.cell x c hm with q|⟨q1,q2⟩
      ·exact .inl q
      ·exact .inr ⟨q1.keeps fun b o e=>az _ e,q2⟩,
    fun x z c h1 h2 h3=>by
     rcases ai.mp h1 with e1|h1 <;> rcases ai.mp h2 with e2|h2
     ·cases e1;cases e2;rfl
     ·cases e1;exact absurd (hlt z _ h2) (gk _)
     ·cases e2;exact absurd (hlt x _ h1) (gk _)
     ·exact N.apart x z c h1 h2 h3⟩
    (fun x c hm=>by
     rw[ii];rcases ai.mp hm with e|hm
     ·cases e;walk_at "adr"
     ·have:=hlt x c hm;walk_at "adr")
   rw[ii] at this;exact this
  ·exact uE r h n acc0 acc hn N hlt
theorem Gs
  (h:∀ h':cx,(∀ b o,s.heap.get? b=wj o->h'.get? b=wj o)->h'.Ns s.heap.objs.size (fun _=>wk)->vF h' (s.heap.objs.size+1) cl (gu (s.heap.objs.size+1) scope.names cl)->
   Q { scope:=scope,locals:=s.heap.objs.size,globals:=globals,cells:=gu (s.heap.objs.size+1) scope.names cl,qual:=qual,func:=wk,code:=env.code,frame:=env.frame,builtins:=env.builtins } { s with heap:=h' })
  (hlt:∀ x c,(x,c)∈cl->c<s.heap.objs.size):ay M A (sj scope globals cl [] qual wk .none (wj env)) Q E s:=by
 simp only[sj,uo,if_true];refine ad (wpAny_alloc ?_);refine ad (wpAny_layCells _ (fun name kind cells=>by cases hkc:kind==cu <;> simp[hkc]) _ _ _ _ ?_);rw[show({ s with heap:=s.heap.push { cls:=.type "dict",data:=.dict #[] } }:am).heap.objs.size=s.heap.objs.size+1 from ii ..];rw[vx];refine ad (ak (ak (h _ (fun b o e=>pushCells_keeps _ _ b o (az _ e)) ((Heap.Ns.new s.heap (.type "dict")).keeps (pushCells_keeps _ _)) ?_)))
 have:=uE scope.names (s.heap.push { cls:=.type "dict",data:=.dict #[] }) (s.heap.objs.size+1) cl cl (by rw[ii];walk_at "adr")
  ⟨fun x c hm=>.inl hm,fun x y c h1 h2 h3=>absurd (hlt x c h1) (by walk_at "adr")⟩ (fun x c hm=>by rw[ii];have:=hlt x c hm;walk_at "adr")
 rw[ii] at this;exact this
theorem xP (I:Nat->am->Prop)
  (turn:∀ n s,I n s->ay (model prog w) A (mz it) (fun r s₁=>match r with
   |none=>R (.ok .next) s₁
   |some v=>ay (model prog w) A (oq target it v) (fun _ s₁'=>ay (model prog w) A (assign target env v) (fun _ s₂=>
     ay (model prog w) A (forIn ifs true fun c r=>if r=true then do let ok <- isTrue c env (eval c env);pure (ow ok) else pure (ow r)) (fun ok s₃=>
      if ok=true then ay (model prog w) A (eval elt env) (fun x s₄=>
       ay (model prog w) A (call (.builtin "list.append") [acc,x]) (fun _ s₅=>∃ m,m<n/\I m s₅) (fun _ _=>False) s₄) (fun _ _=>False) s₃
      else ∃ m,m<n/\I m s₃) (fun _ _=>False) s₂) (fun _ _=>False) s₁') (fun _ _=>False) s₁) (fun _ _=>False) s)
  (n:Nat) (h:I n s):oa (model prog w) A (.compLoop (.ListComp elt [⟨target,iter,ifs,0⟩] scope pos) 0 it acc env) R s:=by
 refine codeAny_loop rfl I (fun n s hI=> ?_) n h;show ay _ A ((compTurn (.ListComp elt [⟨target,iter,ifs,0⟩] scope pos) 0 it acc env).onRaise (fun x=>do uq x env;theTreesLotGoes x)) _ _ s;refine wpAny_noted ?_;rw[compTurn_list];refine ad (tw (ad (gv (turn n s hI) (fun r s₁ h₁=> ?_) fun _ _ h'=>h'.elim)));cases r with
 |none=>exact ak h₁
 |some v=>
  refine ad (gv h₁ (fun _ s₁' h₁'=> ?_) fun _ _ h'=>h'.elim);refine ad (gv h₁' (fun _ s₂ h₂=>ad (gv h₂ (fun ok s₃ h₃=> ?_) fun _ _ h'=>h'.elim)) fun _ _ h'=>h'.elim);cases ok with
  |false=>exact ak ⟨rfl,h₃⟩
  |true=>
   exact ad (ad (gv h₃ (fun x s₄ h₄=>ad (gv h₄ (fun _ s₅ h₅=>ak (ak ⟨rfl,h₅⟩)) fun _ _ h'=>h'.elim)) fun _ _ h'=>h'.elim))
noncomputable def blk (X:Cx) (N':List Str) (scope:j7) (cells:List (Str×ae)) (C:ae) (fp:List ae) (pins:List (ae×Obj)) (s₀:am) (H₀:Hp):Cx where
 prog:=X.prog
 w:=X.w
 K:=X.K
 mg:=X.mg
 base:=X.base
 A:=X.A
 N:=N'
 s₀:=s₀
 H₀:=H₀
 env:=compEnvC scope cells C X.env
 outer:=X.stack
 stack:=X.stack
 ex:=fp
 fn:=fun x=>scope.names.lookup x==wj .cell
 calm:=X.calm
 pn:=X.pn++pins
 xe:=fun _ _=>False
noncomputable def Lh (X:Cx) (ifs:List bt) (tt:TT):Prop:=
 ∀(pins:List (ae×Obj)) (s:am) (σ:St) (H:Hp) (Q:Bool->Hp->Prop),Inv X pins σ H s->tt σ H Q->
  ay (model X.prog X.w) X.A (forIn ifs true fun c r=>if r=true then do let ok <- isTrue c X.env (eval c X.env);pure (ow ok) else pure (ow r)) (TP X pins σ Q) X.xe s
noncomputable def Qb:TT:=fun _ H Q=>Q true H
theorem Kj:Lh X [] Qb:=fun _ _ _ H _ I h=>wpAny_tests_nil ⟨H,I,h⟩
theorem Ki (h:PT X c tt):Lh X [c] tt:=fun pins s σ H Q I q=>wpAny_tests_one (h pins s σ H Q I q)
noncomputable def Fb (caps:List (Option Nat)) (σ:St):St:=caps.map fun o=>o.bind fun j=>(σ[j]?).join
noncomputable def Bu (X:Cx) (scope:j7) (N':List Str) (caps:List (Option Nat)):Prop:=
 caps.length=N'.length/\∀(i j:Nat),caps[i]?=wj (wj j)->∃ x,N'[i]?=wj x/\X.N[j]?=wj x/\scope.names.lookup x=wj .free/\(x,cu)∉scope.names/\(X.env.scope.names.lookup x=wj .cell∨X.env.scope.names.lookup x=wj .free)
noncomputable def IE (wi:TI) (caps:List (Option Nat)) (g:TG) (tt:TT) (te:TE):TE:=fun σ H Q=>wi σ H fun J H1=>∀ D,H1 D=wk->∃ W:Nat->Nat->St->Hp->Prop,(∃ m,W 0 m (Fb caps σ) (upd H1 D (.lst [])))/\
 ∀ i m σ' H,W i m σ' H->(J.stop i H/\Q (.ref D) H)∨(J.go i H/\∀ x H',J.yld i H x H'->g x σ' H' fun σ2 H2=>tt σ2 H2 fun b H3=>
  if b=true then te σ2 H3 fun y H4=>∃ ys m',H4 D=wj (.lst ys)/\ys.length<sizeLine/\m'<m/\W (i+1) m' σ2 (upd H4 D (.lst (ys++[y]))) else ∃ m',m'<m/\W (i+1) m' σ2 H3)
section
variable {X:Cx}{elt iter tg:bt}{ifs:List bt}{scope:j7}{pos:Pos}{N':List Str}{caps:List (Option Nat)}{wi:TI}{g:TG}{tt:TT}{te:TE}
theorem gB (h:(relabel scope env).names.lookup x=wj k):scope.names.lookup x=wj k∨(k=.cell/\scope.names.lookup x=wj .free):=by
 have aux:∀(names:List (Str×g9)),(names.map fun(n,k)=>if(k==gw&&env.scope.kind== .function&&env.kindOf n==wj .cell) then(n,cu) else(n,k)).lookup x=wj k->
   names.lookup x=wj k∨(k=.cell/\names.lookup x=wj .free):=by
  intro names
  induction names with
  |nil=>intro h;cases h
  |cons p r ih=>
   obtain⟨n,kk⟩:=p;intro h;rw[bh] at h
   by_cases hc:(kk==gw&&env.scope.kind== .function&&env.kindOf n==wj .cell)=true
   ·have h':jt x ((n,cu)::(r.map fun(n,k)=>if(k==gw&&env.scope.kind== .function&&env.kindOf n==wj .cell) then(n,cu) else(n,k)))=wj k:=by
     have e:(if(kk==gw&&env.scope.kind== .function&&env.kindOf n==wj .cell)=true then(n,cu) else(n,kk))=(n,cu):=if_pos hc;rw[<- e];exact h
    rw[f7] at h' ⊢;cases hx:x==n with
    |true=>
     rw[hx] at h';cases h';have hk:kk=.free:=by
      rw[bp,bp] at hc;simpa using hc.1.1
     exact .inr ⟨rfl,by rw[hk]⟩
    |false=>
     rw[hx] at h';exact ih h'
   ·have h':jt x ((n,kk)::(r.map fun(n,k)=>if(k==gw&&env.scope.kind== .function&&env.kindOf n==wj .cell) then(n,cu) else(n,k)))=wj k:=by
     have e:(if(kk==gw&&env.scope.kind== .function&&env.kindOf n==wj .cell)=true then(n,cu) else(n,kk))=(n,kk):=if_neg hc;rw[<- e];exact h
    rw[f7] at h' ⊢;cases hx:x==n with
    |true=>
     rw[hx] at h';exact .inl h'
    |false=>
     rw[hx] at h';exact ih h'
 exact aux scope.names h
theorem dL {l:List (Str×g9)} (h:l.lookup x=wj k):(x,k)∈l:=f8 h
theorem xN {Qn:V->Hp->Prop}{RR:af->ae->Result->am->Prop}
  (hc:X.calm=true) (hkind:scope.kind=.function)
  (hfree:∀ y∈scope.names,y.2=.free->X.env.scope.names.lookup y.1=wj .cell∨X.env.scope.names.lookup y.1=wj .free) (huniq:∀ y∈scope.names,y.2=.free->(y.1,cu)∉scope.names)
  (hcap:Bu X scope N' caps)
  (hb:∀ cells C fp pins s₀ H₀,PG (blk X N' scope cells C fp pins s₀ H₀) tg g/\Lh (blk X N' scope cells C fp pins s₀ H₀) ifs tt/\PE (blk X N' scope cells C fp pins s₀ H₀) elt te)
  (I2:Inv X pins σ H2 s2) (T:KY X.prog X.w X.K tg J fp it tn) (st2:tn 0 s2.heap) (f2:∀ b∈fp,Ix X pins H2 b)
  (q:∀ D,H2 D=wk->∃ W:Nat->Nat->St->Hp->Prop,(∃ m,W 0 m (Fb caps σ) (upd H2 D (.lst [])))/\
   ∀ i m σ' H,W i m σ' H->(J.stop i H/\Qn (.ref D) H)∨(J.go i H/\∀ x H',J.yld i H x H'->g x σ' H' fun σ2 H2=>tt σ2 H2 fun b H3=>
    if b=true then te σ2 H3 fun y H4=>∃ ys m',H4 D=wj (.lst ys)/\ys.length<sizeLine/\m'<m/\W (i+1) m' σ2 (upd H4 D (.lst (ys++[y]))) else ∃ m',m'<m/\W (i+1) m' σ2 H3))
  (hfin:∀(C D:ae) (s6:am) (H6:Hp),Inv X pins σ H6 s6->Qn (.ref D) H6->(∃ m,s6.heap.Ns C m)->H6 C=wk->C≠X.env.locals->X.s₀.heap.objs.size<=C->(∀ x c,X.env.cells.lookup x=wj c->c≠C)->(∀ p∈X.pn++pins,p.1≠C)->RR (.ref D) C (.ok .next) s6):
  ay (model X.prog X.w) X.A (newList []) (fun acc s₃=>ay (model X.prog X.w) X.A (sj scope X.env.globals (tE X.env scope.names []) [] X.env.qual wk .none (wj X.env)) (fun cenv s₄=>
   oa (model X.prog X.w) X.A (.compStart (.ListComp elt [⟨tg,iter,ifs,0⟩] scope pos) 0 (.ref it) acc { cenv with scope:=relabel scope X.env }) (RR acc cenv.locals) s₄) E s₃) E s2:=by
 have hcells:∀ y∈scope.names,y.2=.free->∃ c,X.env.cells.lookup y.1=wj c:=fun y hy hf=>I2.ok.has y.1 (hfree y hy hf);have hD:H2 s2.heap.objs.size=wk:=I2.hok.fresh (bf _);obtain⟨W,⟨m0,w0⟩,turn⟩:=q s2.heap.objs.size hD;refine d9 ?_ (im _)
 generalize hs3:({ s2 with heap:=s2.heap.push { cls:=.type "list",dict:=wk,data:=.seq ([]:List af).toArray } }:am)=s3
 have I3:Inv X pins σ (upd H2 s2.heap.objs.size (.lst [])) s3:=by
  subst hs3;exact I2.laid (t':=s2.toks) (fun b u e=>az _ e) (bf _) ⟨im _,[],0,.nil,bw _ rfl⟩
 have sz3:s3.heap.objs.size=s2.heap.objs.size+1:=by rw[<- hs3];exact ii ..
 have k23:∀ b o,s2.heap.get? b=wj o->s3.heap.get? b=wj o:=fun b o e=>by rw[<- hs3];exact az _ e
 generalize hH3:upd H2 s2.heap.objs.size (.lst [])=H3 at I3 w0
 have clLook:∀ x c,(tE X.env scope.names []).lookup x=wj c->X.env.cells.lookup x=wj c:=fun x c e=>by
  rcases nO e with z|⟨z1,z2⟩
  ·cases z
  ·obtain⟨c',hc'⟩:=hcells (x,.free) z1 rfl;rw[hc'] at z2 ⊢;rw[z2];rfl
 have clMem:∀ x c,(x,c)∈tE X.env scope.names []->∃ c',X.env.cells.lookup x=wj c'/\c=c':=by
  have aux:∀(names:List (Str×g9)) (acc:List (Str×ae)),(∀ y∈names,y.2=.free->∃ c,X.env.cells.lookup y.1=wj c)->(∀ x c,(x,c)∈acc->∃ c',X.env.cells.lookup x=wj c'/\c=c')->
    ∀ x c,(x,c)∈tE X.env names acc->∃ c',X.env.cells.lookup x=wj c'/\c=c':=by
   intro names
   induction names with
   |nil=>intro acc _ h x c hm;exact h x c hm
   |cons p r ih=>
    obtain⟨n,k⟩:=p;intro acc hn h x c hm;unfold tE at hm;have hr:∀ y∈r,y.2=.free->∃ c,X.env.cells.lookup y.1=wj c:=fun y hy=>hn y (ag _ hy);split at hm
    ·rename_i hk
     refine ih _ hr (fun x c hm=> ?_) x c hm;rcases ai.mp hm with e|hm
     ·cases e;obtain⟨c',hc'⟩:=hn (n,k) aq (by simpa using hk);exact⟨c',hc',by rw[hc'];rfl⟩
     ·exact h x c hm
    ·exact ih _ hr h x c hm
  exact aux scope.names [] hcells (fun x c hm=>by cases hm)
 have cellLt:∀ x c,X.env.cells.lookup x=wj c->c<s2.heap.objs.size:=fun x c e=>by
  obtain⟨v,z⟩:=I2.cell x c e;exact z.lt
 have hltc:∀ x c,(x,c)∈tE X.env scope.names []->c<s3.heap.objs.size:=fun x c hm=>by
  obtain⟨c',hc',rfl⟩:=clMem x c hm
  have:=cellLt x c hc'
  walk_at "adr"
 refine Gs (fun h4 k34 ns4 nc=> ?_) hltc
 generalize hC:s3.heap.objs.size=C at ns4 nc
 generalize hcs:gu (C+1) scope.names (tE X.env scope.names [])=cells at nc
 -- the block's own invariant
 have cellOld:∀ x c,cells.lookup x=wj c->c<C->X.env.cells.lookup x=wj c:=fun x c e hlt=>by
  rw[<- hcs] at e;rcases fF e with z|⟨_,z⟩
  ·exact clLook x c z
  ·walk_at "adr"
 have cellNew:∀ x c,cells.lookup x=wj c->¬ c<C->h4.IsCell c wk/\C+1<=c:=fun x c e hge=>by
  rcases nc.cell x c (f8 e) with z|z
  ·obtain⟨c',hc',rfl⟩:=clMem x c z
   have:=cellLt x c hc'
   walk_at "adr"
  ·exact z
 have sz4:C<=h4.objs.size:=hX ns4.lt;have okB:(blk X N' scope cells C fp pins s3 H3).Ok:=by
  refine⟨I3.ok.mod,hkind,I3.ok.glob,I3.ok.blt,uj hC,fun x y c h1 h2=> ?_,fun x hx=> ?_,fun x c hf hx=> ?_,I3.ok.hd,I3.ok.frames,.inl rfl,fun b hb=>⟨?_,fun x c hx=> ?_⟩,I3.bs,cf I3.ok.bsz I3.sz,fun b o e hb=> ?_,fun b hb=> ?_,I3.stack,I3.stkFree⟩
  ·by_cases hlt:c<C
   ·exact I3.ok.inj x y c (cellOld x c h1 hlt) (cellOld y c h2 hlt)
   ·exact nc.apart x y c (f8 h1) (f8 h2) (cellNew x c h1 hlt).2
  ·show ∃ c,cells.lookup x=wj c;rw[<- hcs];have hx':(relabel scope X.env).names.lookup x=wj .cell∨(relabel scope X.env).names.lookup x=wj .free:=hx;have fromFree:(x,gw)∈scope.names->∃ c,(gu (C+1) scope.names (tE X.env scope.names [])).lookup x=wj c:=fun hm=>eT (uV hm);rcases hx' with hx'|hx'
   ·rcases gB hx' with z|⟨_,z⟩
    ·exact iZ (dL z)
    ·exact fromFree (dL z)
   ·rcases gB hx' with z|⟨z,_⟩
    ·exact fromFree (dL z)
    ·cases z
  ·have hf':(x,cu)∈scope.names:=dL (by simpa using (show(scope.names.lookup x==wj .cell)=true from hf))
   by_cases hlt:c<C
   ·exfalso
    have e:(gu (C+1) scope.names (tE X.env scope.names [])).lookup x=wj c:=by rw[hcs];exact hx
    rcases fF e with z|⟨_,z⟩
    ·rcases nO z with z|⟨z1,_⟩
     ·cases z
     ·exact huniq (x,.free) z1 rfl hf'
    ·walk_at "adr"
   ·show s3.heap.objs.size<=c
    have:=(cellNew x c hx hlt).2
    walk_at "adr"
  ·have:=(f2 b hb)
   obtain⟨o,e,_⟩:=T.obj 0 _ st2 b hb
   have:=bj e
   show b≠C
   walk_at "adr"
  ·obtain⟨o,e,hcell⟩:=T.obj 0 _ st2 b hb;have hlt':=bj e;intro z
   by_cases hlt:c<C
   ·exact(f2 b hb).2.2.2.2.1 x c (cellOld x c hx hlt) z
   ·have:=(cellNew x c hx hlt).2
    walk_at "adr"
  ·rcases(f2 b hb).2.2.2.1 with z|z
   ·exact I2.ok.noex b o e z
   ·have q1:=bj e;have q2:=I2.ok.bsz;have q3:=I2.sz;exact absurd (b4 q1 (cf q2 z)) (gk _)
  ·intro z;rcases ai.mp (I3.stkSub b z) with z|z
   ·exact(f2 b hb).2.1 z
   ·exact(f2 b hb).2.2.1 z
 have hfpC:∀ b∈fp,b<C:=fun b hb=>by
  obtain⟨o,e,_⟩:=T.obj 0 _ st2 b hb
  have:=bj e
  walk_at "adr"
 have Hnew:∀ b,C<=b->H3 b=wk:=fun b hb=>by
  cases z:H3 b with
  |none=>rfl
  |some o=>
   have:=I3.hok.lt z
   walk_at "adr"
 have IB:Inv (blk X N' scope cells C fp pins s3 H3) [] (Fb caps σ) H3 { s3 with heap:=h4 }:=by
  refine⟨okB,rfl,I3.bare,Un.kept k34,⟨_,ns4,fun i x v e1 e2 e3=> ?_⟩,fun x c hx=> ?_,Hnew C (bf _),fun x c hx=> ?_,fun p hp=> ?_,I3.hok.kept k34,?_⟩
  ·-- a captured name
   have e2':(Fb caps σ)[i]?=wj (wj v):=e2;unfold Fb at e2';rw[ax] at e2';cases hci:caps[i]? with
   |none=>rw[hci] at e2';cases e2'
   |some o=>
    rw[hci] at e2';cases o with
    |none=>cases e2'
    |some j=>
     obtain⟨x',hx1,hx2,hx3,hx4,hx5⟩:=hcap.2 i j hci;have ex:x=x':=by
      have e1':N'[i]?=wj x:=e1;rw[hx1] at e1';exact(ce e1').symm
     subst ex;have hσ:σ[j]?=wj (wj v):=by
      have z:(σ[j]?).join=wj v:=ce e2';cases hj:σ[j]? with
      |none=>rw[hj] at z;cases z
      |some o=>
       rw[hj] at z;cases o with
       |none=>cases z
       |some v'=>cases z;rfl
     obtain⟨m,hn,hl⟩:=I3.loc;obtain⟨u,r,l⟩:=hl j x v hx2 hσ (hx5.elim (fun z=>.inr (.inl z)) fun z=>.inr (.inr z));refine⟨u,r,?_⟩;rcases l with⟨k,_⟩|⟨_,c,hcx,hcell⟩
     ·have k':X.env.scope.names.lookup x=wj .local:=k;rcases hx5 with z|z
      ·rw[k'] at z;cases z
      ·rw[k'] at z;cases z
     ·have hlk:cells.lookup x=wj c:=by
       rw[<- hcs,iA hx4];obtain⟨c',hc'⟩:=uV (env:=X.env) (acc:=[]) (dL hx3);rw[hc',<- clLook x c' hc',hcx]
      have e3':(relabel scope X.env).names.lookup x=wj .local∨(relabel scope X.env).names.lookup x=wj .cell∨(relabel scope X.env).names.lookup x=wj .free:=e3;rcases e3' with z|z|z
      ·exfalso
       rcases gB z with z|⟨z,_⟩
       ·rw[hx3] at z;cases z
       ·cases z
      ·exact .inr ⟨.inl z,c,hlk,hcell.keeps k34⟩
      ·exact .inr ⟨.inr z,c,hlk,hcell.keeps k34⟩
  ·by_cases hlt:c<C
   ·obtain⟨v,z⟩:=I3.cell x c (cellOld x c hx hlt);exact⟨v,z.keeps k34⟩
   ·exact⟨wk,(cellNew x c hx hlt).1⟩
  ·by_cases hlt:c<C
   ·exact I3.freeC x c (cellOld x c hx hlt)
   ·exact Hnew c (by walk_at "adr")
  ·have hp':p∈X.pn++pins:=by
    have hp'':p∈(X.pn++pins)++[]:=hp;rwa [c4] at hp''
   obtain⟨e,n,ne,nf,d⟩:=I3.pin p hp';refine⟨k34 _ _ e,n,?_,fun z=> ?_,d⟩
   ·show p.1≠C
    have:=bj e
    walk_at "adr"
   ·rcases ai.mp (I3.stkSub p.1 z) with z|z
    ·exact ne z
    ·exact nf z
  ·show(Fb caps σ).length=N'.length
   unfold Fb;rw[ao];exact hcap.1
 have tn4:tn 0 h4:=T.keep 0 _ _ st2 fun b hb o e=>k34 b o (k23 b o e);have fr3:∀ b∈fp,H3 b=wk:=fun b hb=>by
  obtain⟨o,e,_⟩:=T.obj 0 _ st2 b hb;rw[<- hH3,aG (cj (bj e))];exact(f2 b hb).1
 have stat:∀ {H':Hp},(∀ b∈fp,H' b=wk)->∀ b∈fp,Ix (blk X N' scope cells C fp pins s3 H3) [] H' b:=fun hn b hb=>
  ⟨hn b hb,cj (hfpC b hb),fun z=>okB.exfs b hb z,.inl hb,fun x c hx=>(okB.exf b hb).2 x c hx,fun p hp=>by
   have hp':p∈X.pn++pins:=by
    have hp'':p∈(X.pn++pins)++[]:=hp;rwa [c4] at hp''
   exact(f2 b hb).2.2.2.2.2 p hp'⟩
 obtain⟨hG,hT,hE⟩:=hb cells C fp pins s3 H3;have loop:oa (model X.prog X.w) X.A (.compLoop (.ListComp elt [⟨tg,iter,ifs,0⟩] scope pos) 0 (.ref it) (.ref s2.heap.objs.size) (compEnvC scope cells C X.env)) (RR (.ref s2.heap.objs.size) C) { s3 with heap:=h4 }:=by
  refine xP (fun n s'=>∃ i σ' H',Inv (blk X N' scope cells C fp pins s3 H3) [] σ' H' s'/\tn i s'.heap/\(∀ b∈fp,H' b=wk)/\W i n σ' H') ?_ m0 ⟨0,_,_,IB,tn4,fr3,w0⟩;rintro n s5 ⟨i,σ5,H5,I5,st5,fr5,w5⟩;rcases turn i n σ5 H5 w5 with⟨stop,qn⟩|⟨go,step⟩
  ·refine thn (T.done (blk X N' scope cells C fp pins s3 H3) rfl rfl rfl hc i [] s5 σ5 H5 _ I5 (stat fr5) st5 stop) fun r s6 ⟨hr,I6⟩=> ?_;subst hr;obtain⟨m6,ns6,_⟩:=I6.loc;have un7:Un (frs X.stack) fp H3 H5 s3.heap s6.heap:=I6.base;have I8:Inv X pins σ H5 s6:=by
    refine I3.call' (ch:=fp) I6.os un7 I6.hok I6.bare fun b hb=>⟨?_,(f2 b hb).2.1,(f2 b hb).2.2.2.2.1,(f2 b hb).2.2.2.2.2⟩;exact(f2 b hb).2.2.2.1
   refine hfin C s2.heap.objs.size s6 H5 I8 qn ⟨m6,ns6⟩ I6.free ?_ (by have:=I3.sz;walk_at "adr") (fun x c e=> ?_) fun p hp=> ?_
   ·have:=I3.lt
    walk_at "adr"
   ·have:=cellLt x c e
    walk_at "adr"
   ·have:=bj (I3.pin p hp).1
    walk_at "adr"
  ·refine thn (T.item (blk X N' scope cells C fp pins s3 H3) rfl rfl rfl hc i [] s5 σ5 H5 _ I5 (stat fr5) st5 go) fun r s6 ⟨u,hr,h6⟩=> ?_;subst hr;refine thn h6 fun _ s7 ⟨x,H7,I7,r7,y7,st7,fr7⟩=> ?_;have I7':=I7.pinned (stat fr7) (T.obj _ _ st7);have keepTn:∀ {σ':St}{H':Hp}{s':am},Inv (blk X N' scope cells C fp pins s3 H3) ([]++wI fp s7.heap) σ' H' s'->tn (i+1) s'.heap/\∀ b∈fp,H' b=wk:=fun {σ' H' s'} I'=>by
    refine⟨T.keep _ _ _ st7 fun b hb o e=>(I'.pin (b,o) (dw _ (dw _ (jJ hb e)))).1,fun b hb=> ?_⟩;obtain⟨o,e,d⟩:=T.obj _ _ st7 b hb;exact(I'.pin (b,o) (dw _ (dw _ (jJ hb e)))).2.1
   refine thn (hG _ s7 σ5 H7 x u _ I7' r7 (step x H7 y7)) fun _ s8 ⟨σ8,H8,I8,q8⟩=> ?_;refine thn (hT _ s8 σ8 H8 _ I8 q8) fun b s9 ⟨H9,I9,q9⟩=> ?_;cases b with
   |false=>
    rw[if_neg cg] at q9 ⊢;obtain⟨m',hm,w9⟩:=q9;exact⟨m',hm,i+1,σ8,H9,I9.unpinned,(keepTn I9).1,(keepTn I9).2,w9⟩
   |true=>
    rw[if_pos rfl] at q9 ⊢;refine thn (hE _ s9 σ8 H9 _ I9 q9) fun y s10 ⟨yv,H10,I10,r10,q10⟩=> ?_;obtain⟨ys,m',hy,hz,hm,w10⟩:=q10;refine thn (wM _ s10 σ8 H10 (.ref s2.heap.objs.size) [yv] (.ref s2.heap.objs.size) [y] (fun _ H'=>H'=upd H10 s2.heap.objs.size (.lst (ys++[yv]))) I10 rfl (.cons r10 .nil) ⟨_,ys,yv,rfl,rfl,hy,hz,rfl⟩) fun _ s11 ⟨_,H11,I11,_,e11⟩=> ?_;subst e11;exact⟨m',hm,i+1,σ8,_,I11.unpinned,(keepTn I11).1,(keepTn I11).2,w10⟩
 exact codeAny_compStart_list loop (T.self X.A 0 _ _ _ tn4 loop)
theorem Jf (hc:X.calm=true) (hkind:scope.kind=.function) (hnames:∀ x∈scope.names,x.2=.local->scope.names.lookup x.1=wj .local)
  (hfree:∀ y∈scope.names,y.2=.free->X.env.scope.names.lookup y.1=wj .cell∨X.env.scope.names.lookup y.1=wj .free) (huniq:∀ y∈scope.names,y.2=.free->(y.1,cu)∉scope.names)
  (hcap:Bu X scope N' caps) (hi:PI X tg iter wi)
  (hb:∀ cells C fp pins s₀ H₀,PG (blk X N' scope cells C fp pins s₀ H₀) tg g/\Lh (blk X N' scope cells C fp pins s₀ H₀) ifs tt/\PE (blk X N' scope cells C fp pins s₀ H₀) elt te)
  (hs:∀ x,ga iter X.env x=pure x:=by intro _;rfl):PE X (.ListComp elt [⟨tg,iter,ifs,0⟩] scope pos) (IE wi caps g tt te):=by
 intro pins s σ H Q I h;have hclos:=sZ (scope:=scope) (env:=X.env) fun y hy hf=>I.ok.has y.1 (hfree y hy hf);rw[eval_ListComp];refine qm (use:=wk) rfl hs hclos hkind hnames (thn (hi pins s σ H _ I h) fun v s1 h1=>thn h1 fun itv s2 h2=> ?_);obtain⟨it,fp,tn,J,H2,e,I2,T,st2,f2,q⟩:=h2;subst e;refine xN (RR:=fun acc C=>compPost (model X.prog X.w) X.A X.xe wk (EP X pins σ Q) acc C) (Qn:=fun v H=>∀ a,v=.ref a->Q (.ref a) H) hc hkind hfree huniq hcap hb I2 T st2 f2 (fun D hD=> ?_) fun C D s6 H6 I6 q6 ⟨m6,ns6⟩ hC h1 h2 h3 h4=> ?_
 ·obtain⟨W,w0,turn⟩:=q D hD;refine⟨W,w0,fun i m σ' H w=> ?_⟩;rcases turn i m σ' H w with⟨a,b⟩|z
  ·exact .inl ⟨a,fun c hc=>by cases hc;exact b⟩
  ·exact .inr z
 ·refine⟨m6,ns6,fun h7 sb=> ?_⟩;have I8:Inv X pins σ H6 { s6 with heap:=h7 }:=I6.turned (t':=s6.toks) (fun b o hb e=>(sb.2 b hb).trans e) hC h1 (.inr h2) h3 h4;exact⟨.ref D,H6,I8,rfl,q6 D rfl⟩
noncomputable def Lr (wi:TI) (caps:List (Option Nat)) (g:TG) (tt:TT) (te:TE) (i:Nat):TS:=fun D σ H=>IE wi caps g tt te σ H fun x H1=>D.nx (σ.set i (wj x)) H1
theorem IV (hN:X.N.Nodup) (hiy:X.N[i]?=wj y) (hy:X.env.scope.names.lookup y=wj .local) (hc:X.calm=true) (hkind:scope.kind=.function) (hnames:∀ x∈scope.names,x.2=.local->scope.names.lookup x.1=wj .local)
  (hfree:∀ y∈scope.names,y.2=.free->X.env.scope.names.lookup y.1=wj .cell∨X.env.scope.names.lookup y.1=wj .free) (huniq:∀ y∈scope.names,y.2=.free->(y.1,cu)∉scope.names)
  (hcap:Bu X scope N' caps) (hi:PI X tg iter wi)
  (hb:∀ cells C fp pins s₀ H₀,PG (blk X N' scope cells C fp pins s₀ H₀) tg g/\Lh (blk X N' scope cells C fp pins s₀ H₀) ifs tt/\PE (blk X N' scope cells C fp pins s₀ H₀) elt te)
  (hsw:jd (.ListComp elt [⟨tg,iter,ifs,0⟩] scope pos) (wj (.Name y py)) spos.line X.env=pure true:=by rfl)
  (hs:∀ x,ga iter X.env x=pure x:=by intro _;rfl):PS X (.Assign [.Name y py] (.ListComp elt [⟨tg,iter,ifs,0⟩] scope pos) spos) (Lr wi caps g tt te i):=by
 intro pins s σ H D I h;have hclos:=sZ (scope:=scope) (env:=X.env) fun y hy hf=>I.ok.has y.1 (hfree y hy hf);rw[exec_Assign_Name_used _ _ _ _ hsw];refine ad (tw (ad ?_));show ay _ X.A (do let _ <- comprehension (.ListComp elt [⟨tg,iter,ifs,0⟩] scope pos) scope X.env _ (newList []) false (eval iter X.env) (wj (assign (.Name y py) X.env))) _ _ s;refine ad (gv (qm (use:=wj (assign (.Name y py) X.env)) (Q:=fun _ s'=>SP X pins D .next s') rfl hs hclos hkind hnames
  (thn (hi pins s σ H _ I h) fun v s1 h1=>thn h1 fun itv s2 h2=> ?_)) (fun _ s' hq=>ak (ak hq)) fun _ _ e=>e)
 obtain⟨it,fp,tn,J,H2,e,I2,T,st2,f2,q⟩:=h2;subst e;refine xN (RR:=fun acc C=>compPost (model X.prog X.w) X.A X.xe (wj (assign (.Name y py) X.env)) (fun _ s'=>SP X pins D .next s') acc C) (Qn:=fun v H=>∀ a,v=.ref a->D.nx (σ.set i (wj (.ref a))) H) hc hkind hfree huniq hcap hb I2 T st2 f2 (fun D' hD=> ?_) fun C D' s6 H6 I6 q6 ⟨m6,ns6⟩ hC h1 h2 h3 h4=> ?_
 ·obtain⟨W,w0,turn⟩:=q D' hD;refine⟨W,w0,fun i m σ' H w=> ?_⟩;rcases turn i m σ' H w with⟨a,b⟩|z
  ·exact .inl ⟨a,fun c hc=>by cases hc;exact b⟩
  ·exact .inr z
 ·show ay _ X.A (assign (.Name y py) X.env (.ref D')) _ _ _;refine wpAny_assign_Name (vV I6 hN hiy (.inl hy) (v:=.ref D') (u:=.ref D') rfl (fun s7 I7 ⟨a,sb,ha⟩=> ?_) (.inr hy));have hCa:C≠a:=by
   rcases ha with rfl|ha
   ·exact h1
   ·exact fun z=>h3 y a ha z.symm
  refine⟨m6,ns6.sameBut sb hCa,fun h8 sb8=> ?_⟩;have I8:Inv X pins (σ.set i (wj (.ref D'))) H6 { s7 with heap:=h8 }:=I7.turned (t':=s7.toks) (fun b o hb e=>(sb8.2 b hb).trans e) hC h1 (.inr h2) h3 h4;exact⟨_,H6,I8,q6 D' rfl⟩
end
set_option compiler.extract_closed false
local macro_rules| `(tactic|walk_at "adr")=> `(tactic|((try unfold ae at*);omega))
noncomputable def Itz (K:aa) (l1 l2:ae):It:=
 ⟨fun i H=>∃ xs ys x y,SqL K H l1 xs/\SqL K H l2 ys/\xs[i]?=wj x/\ys[i]?=wj y,
  fun i H v H'=>∃ T x y,v=.ref T/\H T=wk/\(∀ xs,SqL K H l1 xs->xs[i]?=wj x)/\(∀ ys,SqL K H l2 ys->ys[i]?=wj y)/\H'=upd H T (.tup [x,y]),
  fun i H=>∃ xs ys,SqL K H l1 xs/\SqL K H l2 ys/\(xs.length<=i∨ys.length<=i)⟩
theorem Fz {K:aa}{z TI TO i1 i2 l1 l2:ae} (D:ZipApart z TI TO i1 i2 l1 l2):KY P w K (.Tuple es k pos) (Itz K l1 l2) [z,TI,TO,i1,i2] z
  (fun i h=>IsZip h z TI TO .none/\IsPair h TI (.ref i1) (.ref i2)/\(∃ a b,IsPair h TO a b)/\h.IsListIter i1 l1 i/\h.IsListIter i2 l2 i) where
 mem:=by simp
 obj:=fun i h st b hb=>by
  obtain⟨hz,hTI,⟨a,b',hTO⟩,⟨o1,e1,c1,d1⟩,⟨o2,e2,c2,d2⟩⟩:=st;simp only[ai,ck,or_false] at hb;rcases hb with rfl|rfl|rfl|rfl|rfl
  ·exact⟨_,hz,fun v q=>by cases (show Data.fields _=ui v from q)⟩
  ·exact⟨_,hTI,fun v q=>by cases (show Data.seq _ _=ui v from q)⟩
  ·exact⟨_,hTO,fun v q=>by cases (show Data.seq _ _=ui v from q)⟩
  ·exact⟨o1,e1,fun v q=>by rw[d1] at q;cases q⟩
  ·exact⟨o2,e2,fun v q=>by rw[d2] at q;cases q⟩
 keep:=fun i h h' st kp=>by
  obtain⟨hz,hTI,⟨a,b',hTO⟩,h1,h2⟩:=st;exact⟨kp z (by simp) _ hz,kp TI (by simp) _ hTI,⟨a,b',kp TO (by simp) _ hTO⟩,h1.at fun o e=>kp i1 (by simp) o e,h2.at fun o e=>kp i2 (by simp) o e⟩
 item:=by
  intro X hP hw hK hc i pins s σ H E I hf st hg;subst hP hw hK;obtain⟨hz,hTI,⟨a,b',hTO⟩,h1,h2⟩:=st;obtain⟨xs,ys,x,y,hq1,hq2,hx,hy⟩:=hg;obtain⟨its1,rv1,p1,hz1⟩:=I.list hq1;obtain⟨its2,rv2,p2,hz2⟩:=I.list hq2;obtain⟨u1,hu1,ru1⟩:=rv1.get hx;obtain⟨u2,hu2,ru2⟩:=rv2.get hy;have lt:∀ {c:ae}{o:Obj},s.heap.get? c=wj o->c<s.heap.objs.size:=fun e=>bj e;refine wpAny_pyNext_zip_item D hz hTI hTO h1 h2 p1.isList p2.isList (x:=u1) (y:=u2) (by simpa using hu1) (by simpa using hu2) fun h' a1 a2 a3 a4 a5 a6 hk=> ?_;refine⟨_,rfl,wpAny_letOwnedTupleGo_zip (s:={ s with heap:=h' }) a1 fun h'' z1 sb=> ?_⟩;have hTf:H s.heap.objs.size=wk:=I.hok.fresh (bf _);have hzlt:=lt hz;have up:∀ b o,b≠z->b≠TO->b≠i1->b≠i2->s.heap.get? b=wj o->h''.get? b=wj o:=fun b o n1 n2 n3 n4 e=>(sb.2 b n1).trans (hk b o n1 n2 n3 n4 e);have fpb:∀ b,b=z∨b=TO∨b=i1∨b=i2->b∈[z,TI,TO,i1,i2]:=fun b hb=>by
   rcases hb with rfl|rfl|rfl|rfl <;> simp
  have nT:∀ b,b∈[z,TI,TO,i1,i2]->b≠s.heap.objs.size:=fun b hb=>by
   obtain⟨o1,e1,_⟩:=h1;obtain⟨o2,e2,_⟩:=h2;simp only[ai,ck,or_false] at hb;rcases hb with rfl|rfl|rfl|rfl|rfl
   ·exact cj (lt hz)
   ·exact cj (lt hTI)
   ·exact cj (lt hTO)
   ·exact cj (lt e1)
   ·exact cj (lt e2)
  have trk:∀ b u,H b=wj u->b∉[z,TI,TO,i1,i2]:=fun b u e hb=>by
   rw[(hf b hb).1] at e;cases e
  have upH:∀ b u o,H b=wj u->s.heap.get? b=wj o->h''.get? b=wj o:=fun b u o e q=>
   up b o (fun w=>trk b u e (fpb b (.inl w))) (fun w=>trk b u e (fpb b (.inr (.inl w)))) (fun w=>trk b u e (fpb b (.inr (.inr (.inl w))))) (fun w=>trk b u e (fpb b (.inr (.inr (.inr w))))) q
  have hTup:IsTup h'' s.heap.objs.size #[u1,u2]:=⟨_,(sb.2 _ (Nat.ne_of_gt hzlt)).trans a5,rfl,_,rfl⟩;have hok:HOk X.prog X.w (upd H s.heap.objs.size (.tup [x,y])) h'':=fun b u e=>by
   by_cases hb:b=s.heap.objs.size
   ·subst hb;rw[aQ] at e;cases e;exact⟨by show 2<=sizeLine;decide,[u1,u2],.cons ru1 (.cons ru2 .nil),hTup⟩
   ·rw[aG hb] at e;refine(I.hok b u e).stay (fun c v hcb q=> ?_) (fun c q=>by rw[aG (aN q hTf)];exact q) fun c zs q=>by rw[aG (aN q hTf)];exact q
    rcases hcb with rfl|hcb
    ·exact upH _ _ v e q
    ·exact upH _ _ v hcb q
  have I2:Inv X pins σ (upd H s.heap.objs.size (.tup [x,y])) { s with heap:=h'' }:=by
   refine I.step (g':=s.gens) (d':=s.drawn) (t':=s.toks) (ch:=[z,TO,i1,i2]) (fun b hb=> ?_) (fun b o hL hb hcb e n=> ?_) (fun b o hL hb hcb e n=>⟨o.slots,?_⟩) (fun b o hcb e n=> ?_) (fun b o hcb e=>⟨o,?_⟩)
    (fun b zs e=>by rw[aG (aN e hTf)];exact e) (fun b ob zs e=>by rw[aG (aN e hTf)];exact e) (fun b ps e=>⟨#[],by rw[aG (aN e hTf),e];simp⟩) (fun m hm=> ?_) hok I.bare
   ·have hb':b∈[z,TI,TO,i1,i2]:=by
     simp only[ai,ck,or_false] at hb;exact fpb b hb
    obtain⟨f0,f1,f2,f3,f4,f5⟩:=hf b hb';exact⟨f3,f1,f4,f5⟩
   ·simp only[ai,ck,or_false,not_or] at hcb;exact up b o hcb.1 hcb.2.1 hcb.2.2.1 hcb.2.2.2 e
   ·simp only[ai,ck,or_false,not_or] at hcb;exact up b o hcb.1 hcb.2.1 hcb.2.2.1 hcb.2.2.2 e
   ·rw[aG (cj (lt e))];exact n
   ·simp only[ai,ck,or_false,not_or] at hcb;exact up b o hcb.1 hcb.2.1 hcb.2.2.1 hcb.2.2.2 e
   ·obtain⟨o,es',ep,ho,r⟩:=hm;exact⟨o,es',ep,up _ o (fun q=>(hf z (by simp)).2.1 q.symm) (fun q=>(hf TO (by simp)).2.1 q.symm) (fun q=>(hf i1 (by simp)).2.1 q.symm) (fun q=>(hf i2 (by simp)).2.1 q.symm) ho,r⟩
  refine⟨.ref s.heap.objs.size,_,I2,rfl,⟨s.heap.objs.size,x,y,rfl,hTf,fun zs q=>by rw[I.list_inj q hq1];exact hx,fun zs q=>by rw[I.list_inj q hq2];exact hy,rfl⟩,?_,fun b hb=> ?_⟩
  ·exact⟨z1,(sb.2 _ D.TIz).trans (hk _ _ D.TIz D.TITO D.TIi1 D.TIi2 hTI),⟨_,_,(sb.2 _ D.TOz).trans a2⟩,a3.at fun o e=>(sb.2 _ D.i1z).trans e,a4.at fun o e=>(sb.2 _ D.i2z).trans e⟩
  ·rw[aG (nT b hb)];exact(hf b hb).1
 done:=by
  intro X hP hw hK hc i pins s σ H E I hf st hg;subst hP hw hK;obtain⟨hz,hTI,⟨a,b',hTO⟩,h1,h2⟩:=st;obtain⟨xs,ys,hq1,hq2,hx⟩:=hg;obtain⟨its1,rv1,p1,hz1⟩:=I.list hq1;obtain⟨its2,rv2,p2,hz2⟩:=I.list hq2;have hl1:=rv1.length;have hl2:=rv2.length;refine wpAny_pyNext_zip_end (I.ok.hd hc) D hz hTI hTO h1 h2 p1.isList p2.isList ?_ fun h' hk=>⟨rfl,?_⟩
  ·rcases hx with hx|hx
   ·exact .inl (by simp;omega)
   ·exact .inr (by simp;omega)
  ·have trk:∀ b u,H b=wj u->b∉[z,TI,TO,i1,i2]:=fun b u e hb=>by
    rw[(hf b hb).1] at e;cases e
   have up:∀ b o,b∉[z,TO,i1,i2]->s.heap.get? b=wj o->h'.get? b=wj o:=fun b o hb e=>by
    simp only[ai,ck,or_false,not_or] at hb;exact hk b o hb.1 hb.2.1 hb.2.2.1 hb.2.2.2 e
   have sub:∀ b,b∈[z,TO,i1,i2]->b∈[z,TI,TO,i1,i2]:=fun b hb=>by
    simp only[ai,ck,or_false] at hb ⊢;rcases hb with rfl|rfl|rfl|rfl <;> simp
   refine I.step (g':=s.gens) (d':=s.drawn) (t':=s.toks) (ch:=[z,TO,i1,i2]) (fun b hb=> ?_) (fun b o hL hb hcb e n=>up b o hcb e) (fun b o hL hb hcb e n=>⟨o.slots,up b o hcb e⟩) (fun b o hcb e n=>n) (fun b o hcb e=>⟨o,up b o hcb e⟩)
    (fun b zs e=>e) (fun b ob zs e=>e) (fun b ps e=>⟨#[],by rw[e];simp⟩) (fun m hm=> ?_) (fun b u e=> ?_) I.bare
   ·obtain⟨f0,f1,f2,f3,f4,f5⟩:=hf b (sub b hb);exact⟨f3,f1,f4,f5⟩
   ·obtain⟨o,es',ep,ho,r⟩:=hm;exact⟨o,es',ep,up _ o (fun q=>(hf _ (sub _ q)).2.1 rfl) ho,r⟩
   ·refine(I.hok b u e).stay (fun c v hcb q=>up c v (fun w=> ?_) q) (fun _ q=>q) fun _ _ q=>q;rcases hcb with rfl|hcb
    ·exact trk _ _ e (sub _ w)
    ·exact trk _ _ hcb (sub _ w)
 self:=fun _ _ _ _ _ st h=>wpAny_pyIter_zip st.1 h
noncomputable def Qx (K:aa) (ta:TA):TI:=fun σ H R=>ta σ H fun vs H1=>∃ a b,vs=[.ref a,.ref b]/\(∃ xs,SqL K H1 a xs)/\(∃ ys,SqL K H1 b ys)/\R (Itz K a b) H1
section
variable {X:Cx}
theorem LO (hg:Gl X "zip") (hm:X.mg "zip"=wk) (ha:PA X [a,b] ta) (hs:av [a,b] X.env=[(false,eval a X.env),(false,eval b X.env)]:=by rfl) (hs2:av [b] X.env=[(false,eval b X.env)]:=by rfl):
  PI X (.Tuple es k tp) (.Call (.Name "zip" p) [a,b] [] pos) (Qx X.K ta):=by
 intro pins s σ H R I h;refine Call_ (wO I hg hm PyProof.Rows.boot_zip (kz (thn (ha pos pins s σ H _ I h) fun us s1 ⟨vs,H1,I1,r1,q1⟩=> ?_) (by rw[hs,hs2]) (by rw[hs2];rfl)));obtain⟨a1,b1,e,⟨xs,hx⟩,⟨ys,hy⟩,q⟩:=q1;subst e;obtain⟨u1,u2,rfl,ru1,ru2⟩:=Fy r1;cases ru1;cases ru2;obtain⟨its1,rv1,p1,hz1⟩:=I1.list hx;obtain⟨its2,rv2,p2,hz2⟩:=I1.list hy;have lt1:a1<s1.heap.objs.size:=by obtain⟨o,_,e,_⟩:=p1;exact bj e
 have lt2:b1<s1.heap.objs.size:=by obtain⟨o,_,e,_⟩:=p2;exact bj e
 refine call_zip_2 p1.isList p2.isList fun h' hz hTI hTO hi1 hi2 hsz hk=> ?_;have I2:Inv X pins σ H1 { s1 with heap:=h' }:=I1.kept (t':=s1.toks) hk;refine wpAny_pyIter_zip (s:={ s1 with heap:=h' }) hz ?_;refine⟨_,[_,_,_,_,_],_,_,H1,rfl,I2,Fz (zipApart_new lt1 lt2),⟨hz,hTI,⟨_,_,hTO⟩,hi1,hi2⟩,fun b hb=> ?_,q⟩;have hb':s1.heap.objs.size<=b:=by
  simp only[ai,ck,or_false] at hb;rcases hb with rfl|rfl|rfl|rfl|rfl <;> walk_at "adr"
 exact I1.fpOk hb' (I1.hok.fresh hb')
end
noncomputable def FJ (ok:Okk) (H:Hp):Hp:=fun b=>@ite _ (ok b) (ka _) (H b) wk
theorem FG (h:ok b):FJ ok H b=H b:=by unfold FJ;rw[if_pos h]
theorem FH (h:¬ ok b):FJ ok H b=wk:=by unfold FJ;rw[if_neg h]
theorem kR (h:FJ ok H b=wj o):ok b/\H b=wj o:=by
 by_cases k:ok b
 ·rw[FG k] at h;exact⟨k,h⟩
 ·rw[FH k] at h;cases h
structure ItD (K:aa) (al:Nat->Option ae) (H0:Hp) (J:It) (ds:List D):Prop where
 go:∀ i H,Same H0 H->i<ds.length->J.go i H
 yld:∀ i H x H' d,Same H0 H->J.yld i H x H'->ds[i]?=wj d->Same H H'/\Rep K ⟨fun b=>H0 b≠wk∨H b=wk,al⟩ H' x d
 stop:∀ i H,Same H0 H->ds.length<=i->J.stop i H
theorem _root_.L2.PI.imp (h:PI X tg e t) (f:∀ σ H R,t' σ H R->t σ H R):PI X tg e t':=fun pins s σ H R I q=>h pins s σ H R I (f _ _ _ q)
section
variable {X:Cx}{tg e a b c:bt}{f fa fb fc:DF}{fl:DL}{pos p:Pos}
noncomputable def qX (lo:Int) (n:Nat):List D:=(bq n).map fun k=>D.int (lo+(k:Nat))
theorem fZ (lo:Int) (n:Nat):(qX lo n).length=n:=by simp[qX]
theorem FE {lo:Int} (h:(qX lo n)[i]?=wj d):i<n/\d=.int (lo+(i:Nat)):=by
 unfold qX at h;rw[ax] at h;obtain⟨k,e,rfl⟩:=aJ h;obtain⟨hi,e'⟩:=bg.mp e;rw[g8] at hi;rw[pi] at e';subst e';exact⟨hi,rfl⟩
theorem itD_range {K:aa}{lo:Int}:ItD K al H0 (Itr lo n) (qX lo n):=
 ⟨fun i H _ hi=>by rw[fZ] at hi;exact hi,fun i H x H' d _ y hd=>by
  obtain⟨rfl,rfl⟩:=y;obtain⟨_,rfl⟩:=FE hd;exact⟨Same.refl _,.int _⟩,fun i H _ hi=>by rw[fZ] at hi;exact hi⟩
noncomputable def jR (ds:List D):Option (List D):=match ds with
 |[.int j]=>if -1000000000<=j/\j<=1000000000 then wj (qX 0 j.toNat) else wk
 |_=>wk
noncomputable def yH (xs ys:List D):List D:=br (fun x y=>D.tup [x,y]) xs ys
noncomputable abbrev BR:=D->Rho->Option Rho
noncomputable def gR (K:aa) (bd:BR):TG:=fun v σ H Q=>∃(ok:Okk) (ρ ρ':Rho) (d:D),EnvR K ok H σ ρ/\σ.length=ρ.length/\Rep K ok H v d/\bd d ρ=wj ρ'/\∀ σ',EnvR K ok H σ' ρ'->σ'.length=ρ'.length->Q σ' H
noncomputable def aY (i:Nat):BR:=fun d ρ=>wj (ρ.set i (wj d))
theorem _root_.L2.PG.imp (h:PG X tg t) (f:∀ v σ H Q,t' v σ H Q->t v σ H Q):PG X tg t':=fun pins s σ H v u Q I r q=>h pins s σ H v u Q I r (f _ _ _ _ q)
theorem EnvR.set {K:aa} (h:EnvR K ok H σ ρ) (hl:σ.length=ρ.length) (r:Rep K ok H v d) (i:Nat):EnvR K ok H (σ.set i (wj v)) (ρ.set i (wj d)):=fun j e hj=>by
 by_cases hij:i=j
 ·subst hij
  by_cases hi:i<ρ.length
  ·rw[dq hi] at hj;cases hj;exact⟨v,by rw[dq (by omega)],r⟩
  ·rw[cy (by rw[ci];omega)] at hj;cases hj
 ·rw[fy hij] at hj;obtain⟨w,a,b⟩:=h j e hj;exact⟨w,by rw[fy hij];exact a,b⟩
theorem Kr (hN:X.N.Nodup) (hi:X.N[i]?=wj x) (hx:Loc X.env.scope x) (hf:X.fn x=true∨X.env.scope.names.lookup x=wj .local:=by first|exact .inl rfl|exact .inr rfl|assumption):PG X (.Name x tp) (gR X.K (aY i)):=
 PG.imp (kC hN hi hx hf) fun v σ H Q ⟨ok,ρ,ρ',d,h1,h2,h3,h4,h5⟩=>by
  cases h4;exact h5 _ (h1.set h2 h3 i) (by rw[ci,ci];exact h2)
noncomputable def qH (i j:Nat):BR:=fun d ρ=>match d with
 |.tup [x,y]=>wj ((ρ.set i (wj x)).set j (wj y))
 |_=>wk
theorem Kq (hc:X.calm=true) (hN:X.N.Nodup) (hi:X.N[i]?=wj x) (hj:X.N[j]?=wj y) (hx:Loc X.env.scope x) (hy:Loc X.env.scope y)
  (hf:X.fn x=true∨X.env.scope.names.lookup x=wj .local:=by first|exact .inl rfl|exact .inr rfl|assumption) (hf2:X.fn y=true∨X.env.scope.names.lookup y=wj .local:=by first|exact .inl rfl|exact .inr rfl|assumption):
  PG X (.Tuple [.Name x p1,.Name y p2] k tp) (gR X.K (qH i j)):=
 PG.imp (Ib (n:=2) hc (jG (kC hN hi hx hf) (jG (kC hN hj hy hf2) Ds))) fun v σ H Q ⟨ok,ρ,ρ',d,h1,h2,h3,h4,h5⟩=>by
  unfold qH at h4;split at h4
  ·cases h4;obtain⟨a,xs,rfl,g,r⟩:=h3.tup_inv;obtain⟨v1,v2,rfl,r1,r2⟩:=r.two_inv;refine⟨a,_,rfl,g.sq,rfl,v1,_,rfl,v2,_,rfl,rfl,?_⟩;refine h5 _ ((h1.set h2 r1 i).set (by rw[ci,ci];exact h2) r2 j) ?_;simp only[ci];exact h2
  ·cases h4
noncomputable def Fw (caps:List (Option Nat)) (ρ:Rho):Rho:=caps.map fun o=>o.bind fun j=>(ρ[j]?).join
noncomputable def kM:DB:=fun _=>wj true
theorem EnvR.cap {K:aa} (h:EnvR K ok H σ ρ) (caps:List (Option Nat)):EnvR K ok H (Fb caps σ) (Fw caps ρ):=fun i d e=>by
 unfold Fw at e;rw[ax] at e;obtain⟨o,e1,e2⟩:=aJ e;cases o with
 |none=>cases e2
 |some j=>
  have e3:(ρ[j]?).join=wj d:=e2;have e4:ρ[j]?=wj (wj d):=by
   cases q:ρ[j]? with
   |none=>rw[q] at e3;cases e3
   |some o=>
    rw[q] at e3;cases o with
    |none=>cases e3
    |some d'=>cases e3;rfl
  obtain⟨v,a,b⟩:=h j d e4;refine⟨v,?_,b⟩;unfold Fb;rw[ax,e1];show wj ((σ[j]?).join)=_;rw[a];rfl
theorem KR (caps:List (Option Nat)) (σ:St) (ρ:Rho):(Fb caps σ).length=(Fw caps ρ).length:=by simp[Fb,Fw]
variable {elt iter:bt}{ifs:List bt}{scope:j7}{N':List Str}{caps:List (Option Nat)}{fi:DL}{bd:BR}{t:DB}
structure Fv (X:Cx) (scope:j7) (N':List Str) (caps:List (Option Nat)):Prop where
 calm:X.calm=true
 kind:scope.kind=.function
 names:∀ x∈scope.names,x.2=.local->scope.names.lookup x.1=wj .local
 free:∀ y∈scope.names,y.2=.free->X.env.scope.names.lookup y.1=wj .cell∨X.env.scope.names.lookup y.1=wj .free
 uniq:∀ y∈scope.names,y.2=.free->(y.1,cu)∉scope.names
 cap:Bu X scope N' caps
end
section
variable {K:aa}{ok0:Okk}{H0 H H':Hp}{σ:St}{ρ:Rs}{A:Nat->Option ae}
theorem Db {l:List α} (h:(l.set i a)[j]?=wj b):(j=i/\i<l.length/\b=a)∨(j≠i/\l[j]?=wj b):=by
 by_cases e:i=j
 ·subst e
  by_cases hi:i<l.length
  ·rw[dq hi] at h;exact .inl ⟨rfl,hi,(ce h).symm⟩
  ·rw[cy (by rw[ci];omega)] at h;cases h
 ·rw[fy e] at h;exact .inr ⟨fun z=>e z.symm,h⟩
end
section
variable {X:Cx}{st:cr}{rest body els:List cr}{tg e a b c iter:bt}{es:List bt}{f fa fb:DF}{fl fi:DL}{t:DB}{F G:DS}{bd:BS}{pos p:Pos}{M:List Nat}
end
theorem ER (hr:Room k A) (h:n<=200:=by decide):A.units+n<dr:=by
 have:=hr.un
 omega
end L2.MB
end
section
namespace L2.MB
noncomputable def kQ:List D->Option (List Int)
 |[]=>wj []
 |.int i::ds=>(kQ ds).map fun ns=>i::ns
 |_::_=>wk
theorem lX:∀ {ds:List D}{ns:List Int},kQ ds=wj ns->ds=ns.map D.int
 |[],ns,h=>by cases h;rfl
 |.int i::ds,ns,h=>by
  have h':(kQ ds).map (fun ns=>i::ns)=wj ns:=h;obtain⟨ms,e,rfl⟩:=aJ h';rw[lX e];rfl
 |.non::_,_,h=>nomatch h
 |.bl _::_,_,h=>nomatch h
 |.str _::_,_,h=>nomatch h
 |.lst _::_,_,h=>nomatch h
 |.tup _::_,_,h=>nomatch h
section
variable {X:Cx}{e a b c:bt}{es:List bt}{f fa fb fc:DF}{fl:DL}{pos p:Pos}
theorem zB (h:Vals (ns.map V.int) its):∃ xs:Array (Int×Tok),its.toArray=intItems xs/\xs.toList.map (·.1)=ns:=by
 have hi:=Ck h;obtain⟨xs,e⟩:=(hi.allInts).items;refine⟨xs,e,?_⟩;rw[<- nums_intItems,<- e];exact hi.numsOf
theorem xU (hc:X.calm=true):CallR X (.builtin "sum") (fun xs H Q=>∃(p:ae) (ns:List Int),xs=[.ref p]/\SqL X.K H p (ns.map V.int)/\Q (.int ns.sum) H):=by
 intro pins s σ H xs us Q I r h;obtain⟨p,ns,rfl,hq,q⟩:=h;obtain⟨u,rfl,rx⟩:=lV r;cases rx;obtain⟨its,r',pl,hz⟩:=I.list hq;obtain⟨ys,e1,e2⟩:=zB r';refine sum_intListG (I.ok.hd hc) (by rw[<- e1];exact pl.isList) fun h' tk t' k=> ?_;rw[preSum_eq,r9 (by simp),e2];exact⟨.int ns.sum,H,I.kept k,⟨_,rfl⟩,q⟩
noncomputable def NS (ds:List D):Option D:=match ds with
 |[.lst xs]=>(kQ xs).map fun ns=>.int ns.sum
 |_=>wk
noncomputable def xB (ds:List D):Option D:=match ds with
 |[.int i,.int j]=>wj (.int (if j>i then j else i))
 |_=>wk
noncomputable def GU (ds:List D):Option D:=match ds with
 |[.int i,.int j]=>wj (.int (if j<i then j else i))
 |_=>wk
noncomputable def NU (ds:List D):Option D:=match ds with
 |[.int i]=>wj (.int i)
 |[.bl k]=>wj (.int (if k then 1 else 0))
 |[.str x]=>if x.length<=640 then(pb x).map D.int else wk
 |_=>wk
theorem Qv {K:aa} (r:Reps K ok H vs [.lst xs]):∃ p ys,vs=[.ref p]/\RL K ok H p ys/\Reps K ok H ys xs:=by
 obtain⟨v,rfl,r1⟩:=r.one_inv;obtain⟨p,ys,rfl,g,r2⟩:=r1.lst_inv;exact⟨p,ys,rfl,g,r2⟩
theorem Kx {K:aa}:FitL K (fun xs H Q=>∃(p:ae) (ns:List Int),xs=[.ref p]/\SqL K H p (ns.map V.int)/\Q (.int ns.sum) H) NS:=fun ok H xs as d Q h1 r e k=>by
 unfold NS at e;split at e
 ·obtain⟨ns,e1,rfl⟩:=aJ e;obtain rfl:=lX e1;obtain⟨p,ys,rfl,g,r2⟩:=Qv r;obtain rfl:=r2.of_ints;exact⟨p,ns,rfl,g.sq,k _ H (Same.refl H) (.int _)⟩
 ·cases e
theorem Hj {K:aa}:FitL K (fun xs H Q=>∃ i j,xs=[.int i,.int j]/\Q (.int (if j>i then j else i)) H) xB:=fun ok H xs as d Q h1 r e k=>by
 unfold xB at e;split at e
 ·cases e;obtain⟨v,v',rfl,r1,r2⟩:=r.two_inv;obtain rfl:=r1.int_inv;obtain rfl:=r2.int_inv;exact⟨_,_,rfl,k _ H (Same.refl H) (.int _)⟩
 ·cases e
theorem Hi {K:aa}:FitL K (fun xs H Q=>∃ i j,xs=[.int i,.int j]/\Q (.int (if j<i then j else i)) H) GU:=fun ok H xs as d Q h1 r e k=>by
 unfold GU at e;split at e
 ·cases e;obtain⟨v,v',rfl,r1,r2⟩:=r.two_inv;obtain rfl:=r1.int_inv;obtain rfl:=r2.int_inv;exact⟨_,_,rfl,k _ H (Same.refl H) (.int _)⟩
 ·cases e
theorem Fh:CallR X (.type "int") (fun xs H Q=>∃ x n,xs=[.str x]/\x.length<=640/\pb x=wj n/\Q (.int n) H):=by
 intro pins s σ H xs us Q I r h;obtain⟨x,n,rfl,hz,hn,q⟩:=h;obtain⟨u,rfl,t,rfl⟩:=lV r;exact PySem.W.KIN.call_text hn hz ⟨.int n,H,I.tok _,⟨_,rfl⟩,q⟩
theorem KB {K:aa}:FitL K (fun xs H Q=>((∃ i,xs=[.int i]/\Q (.int i) H)∨∃ k,xs=[.bl k]/\Q (.int (if k then 1 else 0)) H)∨∃ x n,xs=[.str x]/\x.length<=640/\pb x=wj n/\Q (.int n) H) NU:=fun ok H xs as d Q h1 r e k=>by
 unfold NU at e;split at e
 ·cases e;obtain⟨v,rfl,r1⟩:=r.one_inv;obtain rfl:=r1.int_inv;exact .inl (.inl ⟨_,rfl,k _ H (Same.refl H) (.int _)⟩)
 ·cases e;obtain⟨v,rfl,r1⟩:=r.one_inv;obtain rfl:=r1.bl_inv;exact .inl (.inr ⟨_,rfl,k _ H (Same.refl H) (.int _)⟩)
 ·rename_i x
  by_cases hz:x.length<=640
  ·rw[if_pos hz] at e;obtain⟨n,e1,rfl⟩:=aJ e;obtain⟨v,rfl,r1⟩:=r.one_inv;obtain rfl:=r1.str_inv;exact .inr ⟨x,n,rfl,hz,e1,k _ H (Same.refl H) (.int _)⟩
  ·rw[if_neg hz] at e;cases e
 ·cases e
theorem Fi:CallR X (.type "int") (fun xs H Q=>((∃ i,xs=[.int i]/\Q (.int i) H)∨∃ k,xs=[.bl k]/\Q (.int (if k then 1 else 0)) H)∨∃ x n,xs=[.str x]/\x.length<=640/\pb x=wj n/\Q (.int n) H):=call_int1.or Fh
theorem sT (a:Array Nat):∀(k:Nat) (acc:Array Nat),((ar k a).foldl (· ++·) acc).size=acc.size+k*a.size
 |0,acc=>by simp
 |k+1,acc=>by
  rw[fh,vh,sT a k,Array.size_append,Nat.succ_mul];omega
noncomputable def NQ (x:Str) (n:Int):Str:=if n<1 then Str.empty else if(n==1||x.length==0)=true then x else⟨(ar n.toNat x.cps).foldl (· ++·) #[]⟩
noncomputable def Kv (a b:D):Option D:=match a,b with
 |.str x,.int n=>if 0<=n/\n<=100000/\x.length<=100 then wj (.str (NQ x n)) else wk
 |_,_=>wk
theorem Jw:OpR X (jx .Mult) (fun x y H Q=>∃ z n,x=.str z/\y=.int n/\(0<=n/\n<=100000/\z.length<=100)/\Q (.str (NQ z n)) H):=by
 intro pins s σ H x y v u Q I rx ry h;obtain⟨z,n,rfl,rfl,⟨h0,h1,h2⟩,q⟩:=h;obtain⟨t,rfl⟩:=rx;obtain⟨t',rfl⟩:=ry;refine PySem.P.mul_str ?_ (fun hn _=> ?_) (fun hn _=> ?_) ?_
 ·have e1:decide (n< -(2 ^ 63:Int))=false:=decide_eq_false (by omega);have e2:decide (n≥2 ^ 63)=false:=decide_eq_false (by omega);rw[e1,e2,Bool.or_false]
 ·have h3:n<=100000:=h1
  have:(100:Int)<=(2 ^ 63-1) / n:=by
   refine(Int.le_ediv_iff_mul_le (by omega)).mpr ?_;omega
  have h4:(z.length:Int)<=100:=by omega
  omega
 ·have hle:z.length*n.toNat<=100*100000:=Nat.mul_le_mul h2 (by omega);have hs:=bu
  first|exact decide_eq_false (by omega)|(simp[Builtin.Str.tooLong];omega)|(simp[tooLong];omega)
 ·unfold NQ at q;split
  ·rename_i hn
   rw[if_pos hn] at q;exact⟨by show 0<=sizeLine;exact im _,.str _,H,I.tok _,⟨_,rfl⟩,q⟩
  ·rename_i hn
   rw[if_neg hn] at q;split
   ·rename_i hz
    rw[if_pos hz] at q;exact⟨.str _,H,I,⟨_,rfl⟩,q⟩
   ·rename_i hz
    rw[if_neg hz] at q;refine⟨?_,.str _,H,I.tok _,⟨_,rfl⟩,q⟩
    show((ar n.toNat z.cps).foldl (· ++·) #[]).size<=sizeLine
    rw[sT,bu];have hle:n.toNat*z.cps.size<=100000*100:=Nat.mul_le_mul (by omega) h2;simp only[bc,kh];omega
end
section
variable {X:Cx}{tg e a b c:bt}{f fa fb fc:DF}{fl:DL}{pos p:Pos}
end
noncomputable def Aa (scope:j7):Bool:=scope.names.all fun y=> !(y.2== .local)||scope.names.lookup y.1==wj .local
noncomputable def EZ (out scope:j7):Bool:=scope.names.all fun y=> !(y.2== .free)||((out.names.lookup y.1==wj .cell||out.names.lookup y.1==wj .free)&& !(scope.names.contains (y.1,cu)))
noncomputable def xQ (N:List Str) (out scope:j7) (x:Str):Option Nat->Bool
 |none=>true
 |some j=>N[j]?==wj x&&scope.names.lookup x==wj .free&& !(scope.names.contains (x,cu))&&(out.names.lookup x==wj .cell||out.names.lookup x==wj .free)
noncomputable def mQ (N:List Str) (out scope:j7):List Str->List (Option Nat)->Bool
 |[],[]=>true
 |x::xs,c::cs=>xQ N out scope x c&&mQ N out scope xs cs
 |_,_=>false
theorem tF:∀ {xs:List Str}{cs:List (Option Nat)},mQ N out scope xs cs=true->cs.length=xs.length
 |[],[],_=>rfl
 |x::xs,c::cs,h=>by
  have h':(xQ N out scope x c&&mQ N out scope xs cs)=true:=h;rw[bp] at h';simp[tF h'.2]
 |[],_::_,h=>nomatch h
 |_::_,[],h=>nomatch h
theorem tG:∀ {xs:List Str}{cs:List (Option Nat)}{i j:Nat},mQ N out scope xs cs=true->cs[i]?=wj (wj j)->∃ x,xs[i]?=wj x/\xQ N out scope x (wj j)=true
 |[],[],i,j,_,h=>by simp at h
 |x::xs,c::cs,i,j,h,h2=>by
  have h':(xQ N out scope x c&&mQ N out scope xs cs)=true:=h;rw[bp] at h';cases i with
  |zero=>
   simp at h2;subst h2;exact⟨x,rfl,h'.1⟩
  |succ i=>
   simp at h2;obtain⟨y,e,q⟩:=tG (i:=i) h'.2 h2;exact⟨y,by simpa using e,q⟩
 |[],_::_,_,_,h,_=>nomatch h
 |_::_,[],_,_,h,_=>nomatch h
theorem xO (h1:X.calm=true) (h2:scope.kind=.function) (h3:Aa scope=true) (h4:EZ X.env.scope scope=true) (h5:mQ X.N X.env.scope scope N' caps=true):Fv X scope N' caps:=by
 refine⟨h1,h2,fun x hx hl=> ?_,fun y hy hf=> ?_,fun y hy hf hm=> ?_,tF h5,fun i j hij=> ?_⟩
 ·have:=ff.mp h3 x hx
  rw[hl] at this;simpa using this
 ·have:=ff.mp h4 y hy
  rw[hf] at this;simp at this;exact this.1
 ·have:=ff.mp h4 y hy
  rw[hf] at this;simp at this;exact this.2 hm
 ·obtain⟨x,e,q⟩:=tG h5 hij;unfold xQ at q;simp only[bp,ik,beq_iff_eq,u0,List.contains_eq_mem,decide_eq_false_iff_not] at q;exact⟨x,e,q.1.1.1,q.1.1.2,q.1.2,q.2⟩
namespace boot
theorem len:de "len"=wj (.builtin "len"):=by decide+kernel
theorem sum:de "sum"=wj (.builtin "sum"):=by decide+kernel
theorem min:de "min"=wj (.builtin "min"):=by decide+kernel
theorem max:de "max"=wj (.builtin "max"):=by decide+kernel
theorem sorted:de "sorted"=wj (.builtin "sorted"):=by decide+kernel
theorem list:de "list"=wj (.type "list"):=by decide+kernel
theorem tuple:de "tuple"=wj (.type "tuple"):=by decide+kernel
theorem int:de "int"=wj (.type "int"):=by decide+kernel
theorem bool:de "bool"=wj (.type "bool"):=by decide+kernel
theorem str:de "str"=wj (.type "str"):=by decide+kernel
end boot
structure Bn (mg:Str->Option af):Prop where
 len:mg "len"=wk
 range:mg "range"=wk
 zip:mg "zip"=wk
 sum:mg "sum"=wk
 all:mg "all"=wk
 min:mg "min"=wk
 max:mg "max"=wk
 sorted:mg "sorted"=wk
 isinstance:mg "isinstance"=wk
 list:mg "list"=wk
 tuple:mg "tuple"=wk
 int:mg "int"=wk
 bool:mg "bool"=wk
 str:mg "str"=wk
theorem bn_mk {K:aa} (X:K.In h) (G:h.Ns ca mg) (h1:cm K ca "len"=wj wk) (h2:cm K ca "range"=wj wk) (h3:cm K ca "zip"=wj wk)
  (h4:cm K ca "sum"=wj wk) (h5:cm K ca "all"=wj wk) (h6:cm K ca "min"=wj wk) (h7:cm K ca "max"=wj wk) (h8:cm K ca "sorted"=wj wk)
  (h9:cm K ca "isinstance"=wj wk) (h10:cm K ca "list"=wj wk) (h11:cm K ca "tuple"=wj wk) (h12:cm K ca "int"=wj wk) (h13:cm K ca "bool"=wj wk)
  (h14:cm K ca "str"=wj wk):Bn mg:=
 ⟨c5 X G h1,c5 X G h2,c5 X G h3,c5 X G h4,c5 X G h5,c5 X G h6,c5 X G h7,c5 X G h8,c5 X G h9,c5 X G h10,c5 X G h11,c5 X G h12,
  c5 X G h13,c5 X G h14⟩
noncomputable def FnIn (K:aa) (x:Str) (st:cr):Prop:=∃(f:ae) (oc:af) (od an:Option ae) (osl:Array (Option af)) (kV doc pm cdv ct:af),cm K ca x=wj (wj (.ref f))/\
 K.lookup f=wj ⟨oc,od,.func (ip x x (gX st) (fV st) (bG st) .none kV doc pm an cdv ct),osl⟩/\jv K cdv x=true/\gn K (.ref f)=true
theorem fnIn_mk {K:aa}{st:cr}{kV doc pm cdv ct:af} (a:cm K ca x=wj (wj (.ref f)))
  (l:K.lookup f=wj ⟨oc,od,.func (ip x x (gX st) (fV st) (bG st) .none kV doc pm an cdv ct),osl⟩) (c:jv K cdv x=true) (k:gn K (.ref f)=true):FnIn K x st:=
 ⟨f,oc,od,an,osl,kV,doc,pm,cdv,ct,a,l,c,k⟩
structure NW (K:aa) (mg:Str->Option af) (x:Str) (st:cr) (f:ae) (fd:jk):Prop where
 fn:Fun K x x st f fd
 at_:mg x=wj (.ref f)
theorem FnIn.fnAt {K:aa}{st:cr} (I:FnIn K x st) (X:K.In h) (G:h.Ns ca mg):∃ f fd,NW K mg x st f fd:=by
 obtain⟨f,oc,od,an,osl,kV,doc,pm,cdv,ct,a,l,c,k⟩:=I;exact⟨f,_,Iq l c k,m9 X G a⟩
inductive Ob where
 /-- an instance of the c-th class;a list;a dict by tuples;a dict by texts and ints -/
 |ins (c:Nat) (fs:List (Str×D))|ml (ds:List D)|dt (kvs:List (List Key×D))|dk (kvs:List (Key×D))
 /-- a dict by tuples while a loop walks it -/
 |dz (kvs:List (List Key×D))
noncomputable abbrev Om:=List Ob
inductive KvR {κ:Type} (K:aa) (ok:Okk) (H:Hp):List (κ×V)->List (κ×D)->Prop
 |nil:KvR K ok H [] []
 |cons {k:κ}{v:V}{d:D}{vs:List (κ×V)}{ds:List (κ×D)}:Rep K ok H v d->KvR K ok H vs ds->KvR K ok H ((k,v)::vs) ((k,d)::ds)
section
variable {κ:Type}{K:aa}{ok ok':Okk}{H H':Hp}
theorem KvR.mono (f:∀ b o,ok b->H b=wj o->ok' b/\H' b=wj o) (g:∀ n a,ok.al n=wj a->ok'.al n=wj a):∀ {vs:List (κ×V)}{ds:List (κ×D)},KvR K ok H vs ds->KvR K ok' H' vs ds
 |_,_,.nil=>.nil
 |_,_,.cons r rs=>.cons (r.mono f g) (KvR.mono f g rs)
theorem KvR.length:∀ {vs:List (κ×V)}{ds:List (κ×D)},KvR K ok H vs ds->vs.length=ds.length
 |_,_,.nil=>rfl
 |_,_,.cons _ rs=>by rw[bz,bz,KvR.length rs]
theorem KvR.keys:∀ {vs:List (κ×V)}{ds:List (κ×D)},KvR K ok H vs ds->vs.map (·.1)=ds.map (·.1)
 |_,_,.nil=>rfl
 |_,_,.cons _ rs=>by rw[bh,bh,KvR.keys rs]
theorem KvR.vals:∀ {vs:List (κ×V)}{ds:List (κ×D)},KvR K ok H vs ds->Reps K ok H (vs.map (·.2)) (ds.map (·.2))
 |_,_,.nil=>.nil
 |_,_,.cons r rs=>.cons r (KvR.vals rs)
end
section
variable {K:aa}{ok ok':Okk}{H H':Hp}
theorem KvR.look:∀ {vs:List (Str×V)}{ds:List (Str×D)},KvR K ok H vs ds->ds.lookup x=wj d->∃ v,vs.lookup x=wj v/\Rep K ok H v d
 |_,_,.nil,e=>by cases e
 |_,_,@KvR.cons _ _ _ _ k v d' vs ds r rs,e=>by
  rw[f7] at e ⊢;cases q:x==k with
  |true=>
   rw[q] at e;cases e;exact⟨v,rfl,r⟩
  |false=>
   rw[q] at e;exact KvR.look rs e
theorem KvR.look_none:∀ {vs:List (Str×V)}{ds:List (Str×D)},KvR K ok H vs ds->ds.lookup x=wk->vs.lookup x=wk
 |_,_,.nil,e=>rfl
 |_,_,@KvR.cons _ _ _ _ k v d' vs ds r rs,e=>by
  rw[f7] at e ⊢;cases q:x==k with
  |true=>rw[q] at e;cases e
  |false=>rw[q] at e;exact KvR.look_none rs e
end
noncomputable def CellR (cls:Nat->ae) (K:aa) (ok:Okk) (H:Hp) (a:ae):Ob->Prop
 |.ins c fs=>∃ dx vs,H a=wj (.ins (cls c) dx vs)/\KvR K ok H vs fs
 |.ml ds=>∃ xs,H a=wj (.lst xs)/\Reps K ok H xs ds
 |.dt kvs=>∃ vs,H a=wj (.dT vs)/\KvR K ok H vs kvs
 |.dk kvs=>∃ vs,H a=wj (.dK vs)/\KvR K ok H vs kvs
 |.dz kvs=>∃ o vs,H a=wj (.frz o (.dT vs))/\KvR K ok H vs kvs
theorem CellR.mono {K:aa} (f:∀ b o,ok b->H b=wj o->ok' b/\H' b=wj o) (g:∀ n a,ok.al n=wj a->ok'.al n=wj a) (e:∀ o,H a=wj o->H' a=wj o)
  (h:CellR cls K ok H a ob):CellR cls K ok' H' a ob:=by
 cases ob with
 |ins c fs=>obtain⟨dx,vs,h1,h2⟩:=h;exact⟨dx,vs,e _ h1,h2.mono f g⟩
 |ml ds=>obtain⟨xs,h1,h2⟩:=h;exact⟨xs,e _ h1,h2.mono f g⟩
 |dt kvs=>obtain⟨xs,h1,h2⟩:=h;exact⟨xs,e _ h1,h2.mono f g⟩
 |dk kvs=>obtain⟨xs,h1,h2⟩:=h;exact⟨xs,e _ h1,h2.mono f g⟩
 |dz kvs=>obtain⟨o,xs,h1,h2⟩:=h;exact⟨o,xs,e _ h1,h2.mono f g⟩
theorem CellR.there {K:aa} (h:CellR cls K ok H a ob):∃ o,H a=wj o/\True:=by
 cases ob with
 |ins c fs=>obtain⟨dx,vs,h1,h2⟩:=h;exact⟨_,h1,trivial⟩
 |ml ds=>obtain⟨xs,h1,h2⟩:=h;exact⟨_,h1,trivial⟩
 |dt kvs=>obtain⟨xs,h1,h2⟩:=h;exact⟨_,h1,trivial⟩
 |dk kvs=>obtain⟨xs,h1,h2⟩:=h;exact⟨_,h1,trivial⟩
 |dz kvs=>obtain⟨o,xs,h1,h2⟩:=h;exact⟨_,h1,trivial⟩
structure Stt (cls:Nat->ae) (K:aa) (ok:Okk) (H:Hp) (ω:Om):Prop where
 cell:∀ n ob,ω[n]?=wj ob->∃ a,ok.al n=wj a/\CellR cls K ok H a ob
 dom:∀ n a,ok.al n=wj a->n<ω.length
 inj:∀ n m a,ok.al n=wj a->ok.al m=wj a->n=m
 nok:∀ n a,ok.al n=wj a->¬ ok.p a
structure Ex (ok:Okk) (H:Hp) (ok':Okk) (H':Hp):Prop where
 dat:∀ b o,ok b->H b=wj o->ok' b/\H' b=wj o
 ids:∀ n a,ok.al n=wj a->ok'.al n=wj a
 frm:∀ b o,H b=wj o->(∀ n,ok.al n≠wj b)->H' b=wj o
 new:∀ n a,ok'.al n=wj a->ok.al n=wj a∨H a=wk
 keep:∀ b,H' b=wk->H b=wk
 sub:∀ b,ok' b->ok b∨H b=wk
 /-- what a loop walks stands still -/
 frz:∀ b o u,H b=wj (.frz o u)->H' b=wj (.frz o u)
structure Nw (cls:Nat->ae) (K:aa) (ok:Okk) (H:Hp) (ok':Okk) (H':Hp) (ω':Om):Prop where
 ex:Ex ok H ok' H'
 okh:OkH ok' H'
 st:Stt cls K ok' H' ω'
section
variable {cls:Nat->ae}{K:aa}{ok ok' ok2:Okk}{H H' H2:Hp}{ω ω' ω2:Om}{σ:St}{ρ:Rho}{a:ae}{n:Nat}
theorem Stt.at_ (h:Stt cls K ok H ω) (e:ok.al n=wj a):∃ ob,ω[n]?=wj ob/\CellR cls K ok H a ob:=by
 have hn:=h.dom n a e;obtain⟨b,e1,c⟩:=h.cell n ω[n] (by simp[hn]);rw[e] at e1;cases e1;exact⟨_,by simp[hn],c⟩
theorem Ex.same (s:Same H H'):Ex ok H ok H':=⟨fun b o k e=>⟨k,s b o e⟩,fun _ _ e=>e,fun b o e _=>s b o e,fun _ _ e=>.inl e,fun _ e=>s.free e,fun _ e=>.inl e,fun b o u e=>s b _ e⟩
theorem Ex.trans (x:Ex ok H ok' H') (y:Ex ok' H' ok2 H2):Ex ok H ok2 H2 where
 dat:=fun b o k e=>let ⟨k',e'⟩:=x.dat b o k e;y.dat b o k' e'
 ids:=fun n a e=>y.ids n a (x.ids n a e)
 frm:=fun b o e h=>y.frm b o (x.frm b o e h) fun n z=>by
  rcases x.new n b z with z|z
  ·exact h n z
  ·rw[e] at z;cases z
 new:=fun n a e=>by
  rcases y.new n a e with z|z
  ·exact x.new n a z
  ·exact .inr (x.keep a z)
 keep:=fun b e=>x.keep b (y.keep b e)
 sub:=fun b e=>by
  rcases y.sub b e with z|z
  ·exact x.sub b z
  ·exact .inr (x.keep b z)
 frz:=fun b o u e=>y.frz b o u (x.frz b o u e)
theorem Nw.trans (x:Nw cls K ok H ok' H' ω') (y:Nw cls K ok' H' ok2 H2 ω2):Nw cls K ok H ok2 H2 ω2:=⟨x.ex.trans y.ex,y.okh,y.st⟩
theorem Stt.same (h:Stt cls K ok H ω) (s:Same H H'):Stt cls K ok H' ω:=
 ⟨fun n ob e=>let ⟨a,e1,c⟩:=h.cell n ob e;⟨a,e1,c.mono (fun b o k e=>⟨k,s b o e⟩) (fun _ _ e=>e) fun o e=>s a o e⟩,h.dom,h.inj,h.nok⟩
theorem Nw.same (h:OkH ok H) (t:Stt cls K ok H ω) (s:Same H H'):Nw cls K ok H ok H' ω:=⟨.same s,h.same s,t.same s⟩
theorem Nw.refl (h:OkH ok H) (t:Stt cls K ok H ω):Nw cls K ok H ok H ω:=.same h t (Same.refl H)
theorem Rep.ex (x:Ex ok H ok' H') (h:Rep K ok H v d):Rep K ok' H' v d:=h.mono x.dat x.ids
theorem Reps.ex (x:Ex ok H ok' H') (h:Reps K ok H v d):Reps K ok' H' v d:=h.mono x.dat x.ids
theorem EnvR.ex (x:Ex ok H ok' H') (h:EnvR K ok H σ ρ):EnvR K ok' H' σ ρ:=fun i d e=>let ⟨v,a,r⟩:=h i d e;⟨v,a,r.ex x⟩
theorem rW {l:List Ob}{a b:Ob} (h:(l.set i a)[j]?=wj b):(j=i/\b=a)∨(j≠i/\l[j]?=wj b):=by
 rcases Db h with⟨h1,_,h3⟩|h
 ·exact .inl ⟨h1,h3⟩
 ·exact .inr h
theorem Nw.write (h:OkH ok H) (t:Stt cls K ok H ω) (e:ok.al n=wj a) (h0:H a=wj o0) (c:(∀ b u,ok b->H b=wj u->ok b/\upd H a o b=wj u)->CellR cls K ok (upd H a o) a ob) (nt:∀ xs,o≠ .tup xs:=by intro _ z;cases z) (nz:∀ x u,o0≠ .frz x u:=by intro _ _ z;cases z):Nw cls K ok H ok (upd H a o) (ω.set n ob):=by
 have dat:∀ b u,ok b->H b=wj u->ok b/\upd H a o b=wj u:=fun b u k q=>⟨k,by rw[aG (show b≠a from fun z=>t.nok n a e (z ▸ k))];exact q⟩;refine⟨⟨dat,fun _ _ z=>z,fun b u q z=>by rw[aG (show b≠a from fun w=>z n (w ▸ e))];exact q,fun _ _ z=>.inl z,fun b q=> ?_,fun _ z=>.inl z,fun b x u z=>by rw[aG (show b≠a from fun w=>nz x u (ce ((h0.symm.trans (w ▸ z)))))];exact z⟩,⟨fun b q=> ?_,fun b xs q=> ?_⟩,fun m ob' q=> ?_,fun m b q=> ?_,t.inj,t.nok⟩
 ·by_cases hb:b=a
  ·rw[hb,aQ] at q;cases q
  ·rw[aG hb] at q;exact q
 ·by_cases hb:b=a
  ·rw[hb,aQ] at q;cases q
  ·rw[aG hb] at q;exact h b q
 ·by_cases hb:b=a
  ·rw[hb,aQ] at q;exact absurd (ce q) (nt xs)
  ·rw[aG hb] at q;exact h.tp b xs q
 ·rcases rW q with⟨rfl,rfl⟩|⟨hm,q⟩
  ·exact⟨a,e,c dat⟩
  ·obtain⟨b,e1,c1⟩:=t.cell m ob' q;refine⟨b,e1,c1.mono dat (fun _ _ z=>z) fun u z=> ?_⟩;rw[aG (show b≠a from fun w=>hm (t.inj m n a (w ▸ e1) e))];exact z
 ·rw[ci];exact t.dom m b q
noncomputable def okN (ok:Okk) (n:Nat) (p:ae):Okk:=⟨fun b=>ok b/\b≠p,fun m=>if m=n then wj p else ok.al m⟩
theorem tZ (t:Stt cls K ok H ω) (m:Nat) (b:ae) (e:ok.al m=wj b):(okN ok ω.length p).al m=wj b:=by
 have hm:=t.dom m b e
 show(if m=ω.length then wj p else ok.al m)=wj b
 rw[if_neg (cj hm)];exact e
theorem yU (np:H p=wk) (b:ae) (u:HO) (k:ok b) (e:H b=wj u):okN ok n p b/\upd H p o b=wj u:=
 ⟨⟨k,aN e np⟩,by rw[aG (aN e np)];exact e⟩
theorem Nw.make (h:OkH ok H) (t:Stt cls K ok H ω) (np:H p=wk) (c:CellR cls K (okN ok ω.length p) (upd H p o) p ob) (nt:∀ xs,o≠ .tup xs:=by intro _ z;cases z):Nw cls K ok H (okN ok ω.length p) (upd H p o) (ω++[ob]):=by
 have al:∀ m b,(okN ok ω.length p).al m=wj b->(m=ω.length/\b=p)∨(m≠ω.length/\ok.al m=wj b):=fun m b q=>by
  have q':(if m=ω.length then wj p else ok.al m)=wj b:=q
  by_cases hm:m=ω.length
  ·rw[if_pos hm] at q';exact .inl ⟨hm,(ce q').symm⟩
  ·rw[if_neg hm] at q';exact .inr ⟨hm,q'⟩
 have tr:∀ m b,ok.al m=wj b->b≠p:=fun m b q=>by
  obtain⟨_,_,c1⟩:=t.at_ q;obtain⟨_,z,_⟩:=c1.there;exact aN z np
 refine⟨⟨fun b u k e=>yU np b u k e,fun m b q=>tZ t m b q,fun b u q z=>by rw[aG (aN q np)];exact q,fun m b q=> ?_,fun b q=> ?_,fun b k=>.inl k.1,fun b x u z=>by rw[aG (aN z np)];exact z⟩,⟨fun b q=> ?_,fun b xs q=> ?_⟩,fun m ob' q=> ?_,fun m b q=> ?_,fun m m' b q q'=> ?_,fun m b q k=> ?_⟩
 ·rcases al m b q with⟨_,rfl⟩|⟨_,q⟩
  ·exact .inr np
  ·exact .inl q
 ·by_cases hb:b=p
  ·rw[hb];exact np
  ·rw[aG hb] at q;exact q
 ·have hb:b≠p:=fun z=>by rw[z,aQ] at q;cases q
  rw[aG hb] at q;exact⟨h b q,hb⟩
 ·have hb:b≠p:=fun z=>by rw[z,aQ] at q;exact nt xs (ce q)
  rw[aG hb] at q;exact⟨h.tp b xs q,hb⟩
 ·by_cases hm:m<ω.length
  ·rw[aj hm] at q;obtain⟨b,e1,c1⟩:=t.cell m ob' q;exact⟨b,tZ t m b e1,c1.mono (fun b u k e=>yU np b u k e) (fun m b q=>tZ t m b q) fun u z=>by rw[aG (aN z np)];exact z⟩
  ·have hm':m=ω.length:=by
    have:=(bg.mp q).1
    simp at this;omega
   subst hm';rw[dc (bf _)] at q;simp at q;subst q;exact⟨p,by show(if ω.length=ω.length then wj p else _)=_;rw[if_pos rfl],c⟩
 ·rw[b7,kt];rcases al m b q with⟨rfl,_⟩|⟨_,q⟩
  ·omega
  ·have:=t.dom m b q
   omega
 ·rcases al m b q with⟨rfl,rfl⟩|⟨_,q⟩ <;> rcases al m' b q' with⟨rfl,w⟩|⟨_,q'⟩
  ·rfl
  ·exact absurd rfl (tr m' b q')
  ·exact absurd w (tr m b q)
  ·exact t.inj m m' b q q'
 ·rcases al m b q with⟨_,rfl⟩|⟨_,q⟩
  ·exact k.2 rfl
  ·exact t.nok m b q k.1
theorem Rep.new_obj:Rep K (okN ok n p) H (.ref p) (.obj n):=.obj (by show(if n=n then wj p else _)=_;rw[if_pos rfl])
end
inductive Rz (α:Type) where
 |ok (a:α)|ex (c:Nat)
noncomputable abbrev OG (α:Type):=Rho->Om->Option (Rz α×Om)
noncomputable abbrev XE:=Nat->Hp->Prop
structure Pre (cls:Nat->ae) (K:aa) (ok:Okk) (H:Hp) (ω:Om) (σ:St) (ρ:Rho):Prop where
 okh:OkH ok H
 st:Stt cls K ok H ω
 env:EnvR K ok H σ ρ
 len:σ.length=ρ.length
theorem Pre.nw {K:aa} (p:Pre cls K ok H ω σ ρ) (x:Nw cls K ok H ok' H' ω'):Pre cls K ok' H' ω' σ ρ:=⟨x.okh,x.st,p.env.ex x.ex,p.len⟩
noncomputable def exR (cls:Nat->ae) (K:aa) (ok:Okk) (H:Hp) (ω':Om) (E:XE) (c:Nat):Prop:=∀ ok' H',Nw cls K ok H ok' H' ω'->E c H'
noncomputable def tO (cls:Nat->ae) (K:aa) (f:OG D) (E:XE):TE:=fun σ H Q=>∃(ok:Okk) (ρ:Rho) (ω:Om) (r:Rz D) (ω':Om),Pre cls K ok H ω σ ρ/\f ρ ω=wj (r,ω')/\match r with
 |.ok d=>∀ v ok' H',Nw cls K ok H ok' H' ω'->Rep K ok' H' v d->Q v H'
 |.ex c=>exR cls K ok H ω' E c
noncomputable def tOT (cls:Nat->ae) (K:aa) (f:OG Bool) (E:XE):TT:=fun σ H Q=>∃(ok:Okk) (ρ:Rho) (ω:Om) (r:Rz Bool) (ω':Om),Pre cls K ok H ω σ ρ/\f ρ ω=wj (r,ω')/\match r with
 |.ok b=>∀ ok' H',Nw cls K ok H ok' H' ω'->Q b H'
 |.ex c=>exR cls K ok H ω' E c
noncomputable def tOA (cls:Nat->ae) (K:aa) (f:OG (List D)) (E:XE):TA:=fun σ H Q=>∃(ok:Okk) (ρ:Rho) (ω:Om) (r:Rz (List D)) (ω':Om),Pre cls K ok H ω σ ρ/\f ρ ω=wj (r,ω')/\match r with
 |.ok ds=>∀ vs ok' H',Nw cls K ok H ok' H' ω'->Reps K ok' H' vs ds->Q vs H'
 |.ex c=>exR cls K ok H ω' E c
noncomputable abbrev OE (X:Cx) (cls:Nat->ae) (E:XE) (e:bt) (f:OG D):Prop:=PE X e (tO cls X.K f E)
noncomputable abbrev OT (X:Cx) (cls:Nat->ae) (E:XE) (e:bt) (f:OG Bool):Prop:=PT X e (tOT cls X.K f E)
noncomputable abbrev OA (X:Cx) (cls:Nat->ae) (E:XE) (es:List bt) (f:OG (List D)):Prop:=PA X es (tOA cls X.K f E)
noncomputable def oB {α β:Type} (f:OG α) (g:α->OG β):OG β:=fun ρ ω=>match f ρ ω with
 |none=>wk
 |some (.ex c,ω1)=>wj (.ex c,ω1)
 |some (.ok a,ω1)=>g a ρ ω1
theorem jV {g:α->OG β} (h:oB f g ρ ω=wj (r,ω')):(∃ c,f ρ ω=wj (.ex c,ω')/\r=.ex c)∨∃ a ω1,f ρ ω=wj (.ok a,ω1)/\g a ρ ω1=wj (r,ω'):=by
 unfold oB at h;split at h
 ·cases h
 ·cases h;exact .inl ⟨_,‹_›,rfl⟩
 ·exact .inr ⟨_,_,‹_›,h⟩
noncomputable def oR {α:Type} (o:Option (α×Om)):Option (Rz α×Om):=o.map fun p=>(.ok p.1,p.2)
theorem cQ {r:Rz α} (h:oR o=wj (r,ω')):∃ a,o=wj (a,ω')/\r=.ok a:=by
 obtain⟨⟨a,w⟩,e1,e2⟩:=aJ h;cases e2;exact⟨a,e1,rfl⟩
noncomputable def oP (f:DF):OG D:=fun ρ ω=>oR ((f ρ).map fun d=>(d,ω))
noncomputable def oPT (f:DB):OG Bool:=fun ρ ω=>oR ((f ρ).map fun d=>(d,ω))
noncomputable def pu {α:Type} (o:Option α) (ω:Om):Option (α×Om):=o.map fun d=>(d,ω)
theorem cW {a:α} (h:pu o ω=wj (a,ω')):o=wj a/\ω'=ω:=by
 obtain⟨b,e1,e2⟩:=aJ h;cases e2;exact⟨e1,rfl⟩
section
variable {X:Cx}{cls:Nat->ae}{E:XE}{e a b c:bt}{es:List bt}{f:DF}{fa fb:OG D}{fl:OG (List D)}{ft ft':OG Bool}{pos p:Pos}
theorem DG (h:DE X e f):OE X cls E e (oP f):=h.imp fun σ H Q ⟨ok,ρ,ω,r,ω',P,h3,h4⟩=>by
 obtain⟨d,e1,rfl⟩:=cQ h3;obtain⟨e2,rfl⟩:=cW e1;exact⟨ok,ρ,d,P.okh,P.env,e2,fun v H' s r=>h4 v ok H' (.same P.okh P.st s) r⟩
theorem tO.then_ {K:aa}{r:Rz α} (P:Pre cls K ok H ω σ ρ) (e:oB fa g ρ ω=wj (r,ω')) (hx:∀ c,r=.ex c->exR cls K ok H ω' E c)
  (h:∀ d ω1 v ok1 H1,g d ρ ω1=wj (r,ω')->Nw cls K ok H ok1 H1 ω1->Pre cls K ok1 H1 ω1 σ ρ->Rep K ok1 H1 v d->Q v H1):tO cls K fa E σ H Q:=by
 rcases jV e with⟨c,e1,rfl⟩|⟨d,ω1,e1,e2⟩
 ·exact⟨ok,ρ,ω,.ex c,ω',P,e1,hx c rfl⟩
 ·exact⟨ok,ρ,ω,.ok d,ω1,P,e1,fun v ok1 H1 n r1=>h d ω1 v ok1 H1 e2 n (P.nw n) r1⟩
theorem tOA.then_ {K:aa}{r:Rz α} (P:Pre cls K ok H ω σ ρ) (e:oB fl g ρ ω=wj (r,ω')) (hx:∀ c,r=.ex c->exR cls K ok H ω' E c)
  (h:∀ d ω1 v ok1 H1,g d ρ ω1=wj (r,ω')->Nw cls K ok H ok1 H1 ω1->Pre cls K ok1 H1 ω1 σ ρ->Reps K ok1 H1 v d->Q v H1):tOA cls K fl E σ H Q:=by
 rcases jV e with⟨c,e1,rfl⟩|⟨d,ω1,e1,e2⟩
 ·exact⟨ok,ρ,ω,.ex c,ω',P,e1,hx c rfl⟩
 ·exact⟨ok,ρ,ω,.ok d,ω1,P,e1,fun v ok1 H1 n r1=>h d ω1 v ok1 H1 e2 n (P.nw n) r1⟩
theorem tOT.then_ {K:aa}{r:Rz α} (P:Pre cls K ok H ω σ ρ) (e:oB ft g ρ ω=wj (r,ω')) (hx:∀ c,r=.ex c->exR cls K ok H ω' E c)
  (h:∀ d ω1 ok1 H1,g d ρ ω1=wj (r,ω')->Nw cls K ok H ok1 H1 ω1->Pre cls K ok1 H1 ω1 σ ρ->Q d H1):tOT cls K ft E σ H Q:=by
 rcases jV e with⟨c,e1,rfl⟩|⟨d,ω1,e1,e2⟩
 ·exact⟨ok,ρ,ω,.ex c,ω',P,e1,hx c rfl⟩
 ·exact⟨ok,ρ,ω,.ok d,ω1,P,e1,fun ok1 H1 n=>h d ω1 ok1 H1 e2 n (P.nw n)⟩
theorem exR.nw {K:aa}{c:Nat} (h:exR cls K ok H ω' E c) (n:Nw cls K ok H ok' H' ω1):exR cls K ok' H' ω' E c:=fun ok2 H2 m=>h ok2 H2 (n.trans m)
noncomputable def yE (cls:Nat->ae) (K:aa) (r:R2) (g:Om->D->D->Option (D×Om)):Prop:=∀(ok:Okk) (H:Hp) (ω:Om) (x y:V) (a b d:D) (ω':Om) (Q:VK),OkH ok H->Stt cls K ok H ω->Rep K ok H x a->Rep K ok H y b->g ω a b=wj (d,ω')->
 (∀ v ok' H',Nw cls K ok H ok' H' ω'->Rep K ok' H' v d->Q v H')->r x y H Q
noncomputable def qW (cls:Nat->ae) (K:aa) (r:List V->Hp->VK->Prop) (g:Om->List D->Option (D×Om)):Prop:=∀(ok:Okk) (H:Hp) (ω:Om) (xs:List V) (as:List D) (d:D) (ω':Om) (Q:VK),OkH ok H->Stt cls K ok H ω->Reps K ok H xs as->g ω as=wj (d,ω')->
 (∀ v ok' H',Nw cls K ok H ok' H' ω'->Rep K ok' H' v d->Q v H')->r xs H Q
theorem Fit2.lift {K:aa} (F:Fit2 K r g):yE cls K r fun ω a b=>pu (g a b) ω:=fun ok H ω x y a b d ω' Q h1 st ra rb e k=>by
 obtain⟨ue,rfl⟩:=cW e;exact F ok H x y a b d Q h1 ra rb ue fun v H' s r=>k v ok H' (.same h1 st s) r
theorem FitL.lift {K:aa} (F:FitL K r g):qW cls K r fun ω a=>pu (g a) ω:=fun ok H ω x a d ω' Q h1 st ra e k=>by
 obtain⟨ue,rfl⟩:=cW e;exact F ok H x a d Q h1 ra ue fun v H' s r=>k v ok H' (.same h1 st s) r
noncomputable def o2 (g:Om->D->D->Option (D×Om)) (f h:OG D):OG D:=oB f fun a=>oB h fun b _ ω=>oR (g ω a b)
noncomputable def oL (g:Om->List D->Option (D×Om)) (f:OG (List D)):OG D:=oB f fun as _ ω=>oR (g ω as)
theorem tO.op {K:aa} (F:yE cls K r g) (h:tO cls K (o2 g fa fb) E σ H Q):tOp r (tO cls K fa E) (tO cls K fb E) σ H Q:=by
 obtain⟨ok,ρ,ω,rz,ω',P,e,q⟩:=h;refine tO.then_ P e (fun c z=>by subst z;exact q) fun a ω1 v ok1 H1 e1 n1 P1 r1=> ?_;refine tO.then_ P1 e1 (fun c z=>by subst z;exact exR.nw q n1) fun b ω2 u ok2 H2 e2 n2 P2 r2=> ?_;obtain⟨d,e3,rfl⟩:=cQ e2;exact F ok2 H2 ω2 v u a b d ω' Q P2.okh P2.st (r1.ex n2.ex) r2 e3 fun w ok3 H3 n3 r3=>q w ok3 H3 (n1.trans (n2.trans n3)) r3
theorem uA (ho:OpR X (jx op) r) (F:yE cls X.K r g) (ha:OE X cls E a fa) (hb:OE X cls E b fb):OE X cls E (.BinOp a op b pos) (o2 g fa fb):=
 (OB ho ha hb).imp fun _ _ _ h=>tO.op F h
theorem Ij (ho:OpR X (fk op) r) (F:yE cls X.K r g) (ha:OE X cls E a fa) (hb:OE X cls E b fb) (hm:ir op b=false):OE X cls E (.Compare a [op] [b] pos) (o2 g fa fb):=
 (Jh ho ha hb hm).imp fun _ _ _ h=>tO.op F h
noncomputable def cH (f:OG D):OG Bool:=oB f fun d _ ω=>oR (pu (toB d) ω)
theorem kW (ho:OpR X (fk op) r) (F:yE cls X.K r g) (ha:OE X cls E a fa) (hb:OE X cls E b fb) (hm:ir op b=false):OT X cls E (.Compare a [op] [b] pos) (cH (o2 g fa fb)):=
 (IP ho ha hb hm).imp fun σ H Q ⟨ok,ρ,ω,r,ω',P,e,q⟩=>by
  refine tO.op F ?_;refine tO.then_ P e (fun c z=>by subst z;exact q) fun d ω1 v ok1 H1 e1 n1 P1 r1=> ?_;obtain⟨k,e3,rfl⟩:=cQ e1;obtain⟨ue3,rfl⟩:=cW e3;obtain rfl:=nU ue3;exact⟨k,r1.bl_inv,q ok1 H1 n1⟩
noncomputable def jT (f:OG D):OG Bool:=oB f fun d _ ω=>oR (pu (PB d) ω)
theorem Mh (h:OE X cls E e fa) (he:∀ whole,isTrue e X.env whole=(do let v <- whole;mr e.pos;holding [v] (truthy v)):=by intro _;rfl):OT X cls E e (jT fa):=(FS h he).imp fun σ H Q ⟨ok,ρ,ω,r,ω',P,e,q⟩=>by
 refine tO.then_ P e (fun c z=>by subst z;exact q) fun d ω1 v ok1 H1 e1 n1 P1 r1=> ?_;obtain⟨k,e3,rfl⟩:=cQ e1;obtain⟨ue3,rfl⟩:=cW e3;exact⟨k,IC r1 ue3,q ok1 H1 n1⟩
noncomputable def jU (f:OG Bool):OG Bool:=oB f fun k _ ω=>wj (.ok (!k),ω)
theorem Mi (h:OT X cls E a ft):OT X cls E (.UnaryOp .Not a pos) (jU ft):=(LJ h).imp fun σ H Q ⟨ok,ρ,ω,r,ω',P,e,q⟩=>by
 refine tOT.then_ P e (fun c z=>by subst z;exact q) fun d ω1 ok1 H1 e1 n1 P1=> ?_;cases e1;exact q ok1 H1 n1
noncomputable abbrev OW (X:Cx) (cls:Nat->ae) (E:XE) (e:bt) (f:OG Bool):Prop:=PW X e (tOT cls X.K f E)
noncomputable def BV (f g:OG Bool):OG Bool:=oB f fun k ρ ω=>if k=true then g ρ ω else wj (.ok false,ω)
noncomputable def oOr (f g:OG Bool):OG Bool:=oB f fun k ρ ω=>if k=true then wj (.ok true,ω) else g ρ ω
variable {rest:List bt}
theorem Jk (ha:OT X cls E a ft):OW X cls E (.BoolOp .And [a] pos) ft:=IN ha
theorem Mf (ha:OT X cls E a ft):OW X cls E (.BoolOp .Or [a] pos) ft:=LG ha
theorem Mg (ha:OT X cls E a ft) (hb:OW X cls E (.BoolOp .And (b::rest) pos) ft'):OW X cls E (.BoolOp .And (a::b::rest) pos) (BV ft ft'):=PW.imp (LH ha hb) fun σ H Q ⟨ok,ρ,ω,r,ω',P,e,q⟩=>by
 refine tOT.then_ P e (fun c z=>by subst z;exact q) fun d ω1 ok1 H1 e1 n1 P1=> ?_;cases d with
 |true=>
  refine Ld ⟨ok1,ρ,ω1,r,ω',P1,e1,?_⟩;cases r with
  |ok b=>exact fun ok2 H2 n2=>q ok2 H2 (n1.trans n2)
  |ex c=>exact exR.nw q n1
 |false=>
  cases e1;exact Le (q ok1 H1 n1)
theorem OH (ha:OT X cls E a ft) (hb:OW X cls E (.BoolOp .Or (b::rest) pos) ft'):OW X cls E (.BoolOp .Or (a::b::rest) pos) (oOr ft ft'):=PW.imp (Ox ha hb) fun σ H Q ⟨ok,ρ,ω,r,ω',P,e,q⟩=>by
 refine tOT.then_ P e (fun c z=>by subst z;exact q) fun d ω1 ok1 H1 e1 n1 P1=> ?_;cases d with
 |false=>
  refine Le ⟨ok1,ρ,ω1,r,ω',P1,e1,?_⟩;cases r with
  |ok b=>exact fun ok2 H2 n2=>q ok2 H2 (n1.trans n2)
  |ex c=>exact exR.nw q n1
 |true=>
  cases e1;exact Ld (q ok1 H1 n1)
theorem Qu (h:OW X cls E e ft):OT X cls E e ft:=PW.pt h
noncomputable def aP:OG (List D):=fun _ ω=>wj (.ok [],ω)
noncomputable def aC (f:OG D) (g:OG (List D)):OG (List D):=oB f fun d=>oB g fun ds _ ω=>wj (.ok (d::ds),ω)
theorem MT:OA X cls E [] aP:=(PA.imp AN) fun σ H Q ⟨ok,ρ,ω,r,ω',P,e,q⟩=>by
 cases e;exact q [] ok H (.refl P.okh P.st) .nil
theorem JT (ha:OE X cls E e fa) (hr:OA X cls E es fl) (hs:av (e::es) X.env=(false,eval e X.env)::av es X.env:=by rfl):OA X cls E (e::es) (aC fa fl):=
 (oJ ha hr hs).imp fun σ H Q ⟨ok,ρ,ω,r,ω',P,e,q⟩=>by
  refine tO.then_ P e (fun c z=>by subst z;exact q) fun d ω1 v ok1 H1 e1 n1 P1 r1=> ?_;refine tOA.then_ P1 e1 (fun c z=>by subst z;exact exR.nw q n1) fun ds ω2 vs ok2 H2 e2 n2 P2 r2=> ?_;cases e2;exact q (v::vs) ok2 H2 (n1.trans n2) (.cons (r1.ex n2.ex) r2)
theorem MH (h:OA X cls E es fl):OE X cls E (.Tuple es x1 pos) (oL (fun ω ds=>pu (eM ds) ω) fl):=(LS h).imp fun σ H Q ⟨ok,ρ,ω,r,ω',P,e,q⟩=>by
 refine tOA.then_ P e (fun c z=>by subst z;exact q) fun ds ω1 vs ok1 H1 e1 n1 P1 r1=> ?_;obtain⟨d,e3,rfl⟩:=cQ e1;obtain⟨ue3,rfl⟩:=cW e3;obtain⟨hz,rfl⟩:=bL ue3;refine⟨by rw[r1.length];exact hz,fun p n=> ?_⟩;exact q _ ok1 _ (n1.trans (.same P1.okh P1.st (cM n))) (.tup_new (P1.okh p n) n r1)
theorem MO (h:OA X cls E es fl):OE X cls E (.List es pos) (oL (fun ω ds=>pu (fE ds) ω) fl):=(Ic h).imp fun σ H Q ⟨ok,ρ,ω,r,ω',P,e,q⟩=>by
 refine tOA.then_ P e (fun c z=>by subst z;exact q) fun ds ω1 vs ok1 H1 e1 n1 P1 r1=> ?_;obtain⟨d,e3,rfl⟩:=cQ e1;obtain⟨ue3,rfl⟩:=cW e3;obtain⟨hz,rfl⟩:=bL ue3;refine⟨by rw[r1.length];exact hz,fun p n=> ?_⟩;exact q _ ok1 _ (n1.trans (.same P1.okh P1.st (cM n))) (.lst_new (P1.okh p n) n r1)
noncomputable def GT (ω:Om) (ds:List D):Option (D×Om):=if ds.length<=sizeLine then wj (.obj ω.length,ω++[.ml ds]) else wk
theorem Nw.ml {K:aa}{p:ae} (h:OkH ok H) (t:Stt cls K ok H ω) (np:H p=wk) (r:Reps K ok H xs ds):Nw cls K ok H (okN ok ω.length p) (upd H p (.lst xs)) (ω++[.ml ds]):=
 Nw.make h t np ⟨xs,aQ,r.mono (fun b u k e=>yU np b u k e) fun m b q=>tZ t m b q⟩
theorem JI (h:OA X cls E es fl):OE X cls E (.List es pos) (oL GT fl):=(Ic h).imp fun σ H Q ⟨ok,ρ,ω,r,ω',P,e,q⟩=>by
 refine tOA.then_ P e (fun c z=>by subst z;exact q) fun ds ω1 vs ok1 H1 e1 n1 P1 r1=> ?_;obtain⟨d,e3,rfl⟩:=cQ e1;obtain⟨hz,e4⟩:=bL e3;cases e4;refine⟨by rw[r1.length];exact hz,fun p n=> ?_⟩;exact q _ _ _ (n1.trans (.ml P1.okh P1.st n r1)) .new_obj
theorem tO.cb {K:aa} (F:qW cls K r g) (h:tO cls K (oL g fl) E σ H Q):tCB r (tOA cls K fl E) σ H Q:=by
 obtain⟨ok,ρ,ω,rz,ω',P,e,q⟩:=h;refine tOA.then_ P e (fun c z=>by subst z;exact q) fun ds ω1 vs ok1 H1 e1 n1 P1 r1=> ?_;obtain⟨d,e3,rfl⟩:=cQ e1;exact F ok1 H1 ω1 vs ds d ω' Q P1.okh P1.st r1 e3 fun w ok3 H3 n3 r3=>q w ok3 H3 (n1.trans n3) r3
theorem gP {id:String} (hc:CallR X (.builtin id) r) (F:qW cls X.K r g) (hg:Gl X x) (hm:X.mg x=wk) (hv:de x=wj (.builtin id)) (ha:OA X cls E (e::es) fl)
  (hn:x≠"__name__":=by decide) (hdb:(x==("__debug__":Str))=false:=by decide)
  (he:av (e::es) X.env=(false,eval e X.env)::av es X.env:=by rfl) (hpl:(di pos (av es X.env)).any (·.1)=false:=by rfl):OE X cls E (.Call (.Name x p) (e::es) [] pos) (oL g fl):=
 (tX hc hg hm hv ha hn hdb he hpl).imp fun _ _ _ h=>tO.cb F h
theorem kX (hc:CallR X (.type T) r) (F:qW cls X.K r g) (hg:Gl X x) (hm:X.mg x=wk) (hv:de x=wj (.type T)) (ha:OA X cls E (e::es) fl)
  (hn:x≠"__name__":=by decide) (hdb:(x==("__debug__":Str))=false:=by decide)
  (he:av (e::es) X.env=(false,eval e X.env)::av es X.env:=by rfl) (hpl:(di pos (av es X.env)).any (·.1)=false:=by rfl):OE X cls E (.Call (.Name x p) (e::es) [] pos) (oL g fl):=
 (Dt hc hg hm hv ha hn hdb he hpl).imp fun _ _ _ h=>tO.cb F h
end
end L2.MB
end
section
namespace L2.MB
mutual
noncomputable def fI:D->D->Bool
 |.non,.non=>true
 |.bl a,.bl b=>a==b
 |.int a,.int b=>a==b
 |.str a,.str b=>decide (a=b)
 |.lst a,.lst b=>sameDs a b
 |.tup a,.tup b=>sameDs a b
 |.obj a,.obj b=>a==b
 |.scr a,.scr b=>sameDs a b
 |_,_=>false
noncomputable def sameDs:List D->List D->Bool
 |[],[]=>true
 |a::as,b::bs=>fI a b&&sameDs as bs
 |_,_=>false
end
mutual
theorem AG:∀(a b:D),fI a b=true->a=b
 |.non,b,h=>by cases b <;> first|rfl|(simp[fI] at h)
 |.bl a,b,h=>by cases b <;> simp[fI] at h;rw[h]
 |.int a,b,h=>by cases b <;> simp[fI] at h;rw[h]
 |.str a,b,h=>by cases b <;> simp[fI] at h;rw[h]
 |.obj a,b,h=>by cases b <;> simp[fI] at h;rw[h]
 |.lst a,b,h=>by
  cases b with
  |lst b=>rw[sameDs_eq a b (by simpa [fI] using h)]
  |_=>simp[fI] at h
 |.scr a,b,h=>by
  cases b with
  |scr b=>rw[sameDs_eq a b (by simpa [fI] using h)]
  |_=>simp[fI] at h
 |.tup a,b,h=>by
  cases b with
  |tup b=>rw[sameDs_eq a b (by simpa [fI] using h)]
  |_=>simp[fI] at h
theorem sameDs_eq:∀(a b:List D),sameDs a b=true->a=b
 |[],[],_=>rfl
 |[],_::_,h=>by simp[sameDs] at h
 |_::_,[],h=>by simp[sameDs] at h
 |a::as,b::bs,h=>by
  simp only[sameDs,bp] at h;rw[AG a b h.1,sameDs_eq as bs h.2]
end
noncomputable def cellOf (ω:Om):D->Option Ob
 |.obj n=>ω[n]?
 |_=>wk
theorem dO (h:cellOf ω d=wj ob):∃ n,d=.obj n/\ω[n]?=wj ob:=by
 cases d with
 |obj n=>exact⟨n,rfl,h⟩
 |_=>cases h
theorem Stt.ref {K:aa} (t:Stt cls K ok H ω) (r:Rep K ok H v (.obj n)) (e:ω[n]?=wj ob):∃ a,v=.ref a/\ok.al n=wj a/\CellR cls K ok H a ob:=by
 obtain⟨a,rfl,e1⟩:=r.obj_inv;obtain⟨b,e2,c⟩:=t.cell n ob e;rw[e1] at e2;cases e2;exact⟨a,rfl,e1,c⟩
noncomputable def Lf (c:Nat) (x:Str) (ω:Om) (d:D):Option D:=match cellOf ω d with
 |some (.ins c' fs)=>if c'=c then fs.lookup x else wk
 |_=>wk
theorem GW (h:Lf c x ω d=wj y):∃ n fs,d=.obj n/\ω[n]?=wj (.ins c fs)/\fs.lookup x=wj y:=by
 unfold Lf at h;split at h
 ·rename_i c' fs hc
  obtain⟨n,rfl,e⟩:=dO hc
  by_cases hcc:c'=c
  ·subst hcc;rw[if_pos rfl] at h;exact⟨n,fs,rfl,e,h⟩
  ·rw[if_neg hcc] at h;cases h
 ·cases h
noncomputable def fY (c:Nat) (x:Str) (f:OG D):OG D:=oB f fun d _ ω=>oR (pu (Lf c x ω d) ω)
section
variable {X:Cx}{cls:Nat->ae}{E:XE}{e a b c o i value:bt}{es:List bt}{f:DF}{fa fb fo fi fv:OG D}{fl:OG (List D)}{ft ft':OG Bool}{pos p apos pos':Pos}{x m:Str}{cn:Nat}
theorem MP (hc:Cls X.K (cls cn)) (hn:NoAttr X.K (cls cn) x) (he:OE X cls E e fa) (hb:ib e x X.env (eval e X.env)=eval e X.env:=by rfl):OE X cls E (.Attribute e x pos) (fY cn x fa):=(LZ he hb).imp fun σ H Q ⟨ok,ρ,ω,r,ω',P,e,q⟩=>by
 refine tO.then_ P e (fun c z=>by subst z;exact q) fun d ω1 v ok1 H1 e1 n1 P1 r1=> ?_;obtain⟨y,e3,rfl⟩:=cQ e1;obtain⟨ue3,rfl⟩:=cW e3;obtain⟨n,fs,rfl,e4,e5⟩:=GW ue3;obtain⟨a,rfl,e6,dx,vs,e7,kv⟩:=P1.st.ref r1 e4;obtain⟨u,e8,ru⟩:=kv.look e5;exact⟨a,_,dx,vs,u,rfl,e7,hc,hn,e8,q u ok1 H1 n1 ru⟩
noncomputable def bE (ω:Om) (a b:D):Option D:=match cellOf ω a with
 |some (.ml ds)=>(toI b).bind fun i=>atI ds i
 |some _=>wk
 |none=>gIx a b
theorem KA {K:aa}:yE cls K (fun x y H Q=>(∃ p xs i v,x=.ref p/\y=.int i/\SqL K H p xs/\atI xs i=wj v/\Q v H)∨(∃ p xs i v,x=.ref p/\y=.int i/\SqT K H p xs/\atI xs i=wj v/\Q v H)∨
  ∃ z i c,x=.str z/\y=.int i/\z.length<=sizeLine/\atI z.cps.toList i=wj c/\Q (.str ⟨#[c]⟩) H) fun ω a b=>pu (bE ω a b) ω:=fun ok H ω x y a b d ω' Q h1 st ra rb e k=>by
 obtain⟨ue,rfl⟩:=cW e;clear e;unfold bE at ue;cases hc:cellOf ω' a with
 |some ob=>
  rw[hc] at ue;obtain⟨n,rfl,e1⟩:=dO hc;cases ob with
  |ml ds=>
   obtain⟨i,e0,ue⟩:=aR (show(toI b).bind _=wj d from ue);obtain rfl:=yL e0;obtain⟨p,rfl,e2,xs,e3,r⟩:=st.ref ra e1;obtain rfl:=rb.int_inv;obtain⟨v,e4,rv⟩:=r.atI ue;exact .inl ⟨p,xs,i,v,rfl,rfl,SqL.of e3,e4,k v ok H (.refl h1 st) rv⟩
  |_=>cases ue
 |none=>
  rw[hc] at ue;have ue':gIx a b=wj d:=ue;have k':∀ v H',Same H H'->Rep K ok H' v d->Q v H':=fun v H' s r=>k v ok H' (.same h1 st s) r;cases b with
  |int i=>
   obtain rfl:=rb.int_inv;cases a with
   |lst ds=>
    obtain⟨p,xs,rfl,h,r⟩:=ra.lst_inv;obtain⟨v,e1,r1⟩:=r.atI ue';exact .inl ⟨p,xs,i,v,rfl,rfl,h.sq,e1,k' v H (Same.refl H) r1⟩
   |scr ds=>
    obtain⟨p,xs,rfl,h,r⟩:=ra.scr_inv;obtain⟨v,e1,r1⟩:=r.atI ue';exact .inl ⟨p,xs,i,v,rfl,rfl,h.sq,e1,k' v H (Same.refl H) r1⟩
   |tup ds=>
    obtain⟨p,xs,rfl,h,r⟩:=ra.tup_inv;obtain⟨v,e1,r1⟩:=r.atI ue';exact .inr (.inl ⟨p,xs,i,v,rfl,rfl,h.sq,e1,k' v H (Same.refl H) r1⟩)
   |str z=>
    obtain rfl:=ra.str_inv;have e':(if z.length<=sizeLine then(L2.atI z.cps.toList i).map fun c=>D.str ⟨#[c]⟩ else wk)=wj d:=ue'
    by_cases hz:z.length<=sizeLine
    ·rw[if_pos hz] at e';cases q:L2.atI z.cps.toList i with
     |none=>rw[q] at e';cases e'
     |some c=>
      rw[q] at e';cases e';exact .inr (.inr ⟨z,i,c,rfl,rfl,hz,q,k' _ H (Same.refl H) (.str _)⟩)
    ·rw[if_neg hz] at e';cases e'
   |_=>cases ue'
  |_=>cases a <;> cases ue'
theorem OV (ha:OE X cls E a fa) (hb:OE X cls E b fb) (hs:Fk b:=by intro _ _;rfl):OE X cls E (.Subscript a b pos) (o2 (fun ω a b=>pu (bE ω a b) ω) fa fb):=(OC Ng ha hb hs).imp fun _ _ _ h=>tO.op KA h
noncomputable def toK:D->Option Key
 |.int i=>wj (.inl i)
 |.str x=>wj (.inr x)
 |_=>wk
noncomputable def Lm:List D->Option (List Key)
 |[]=>wj []
 |d::ds=>(toK d).bind fun k=>(Lm ds).map fun ks=>k::ks
noncomputable def ofK:Key->D
 |.inl i=>.int i
 |.inr x=>.str x
theorem yK {K:aa} (h:toK d=wj k) (r:Rep K ok H v d):v=kV k:=by
 cases d with
 |int i=>cases h;exact r.int_inv
 |str x=>cases h;exact r.str_inv
 |_=>cases h
theorem AC {K:aa}:∀ {vs:List V}{ds:List D}{ks:List Key},Lm ds=wj ks->Reps K ok H vs ds->vs=ks.map kV
 |_,_,_,h,.nil=>by cases h;rfl
 |_,_,_,h,.cons r rs=>by
  obtain⟨k,e1,h⟩:=aR h;obtain⟨ks,e2,rfl⟩:=aJ h;rw[yK e1 r,AC e2 rs];rfl
noncomputable def CL:D->Option (List Key)
 |.tup ds=>Lm ds
 |_=>wk
theorem toT'_rep {K:aa} (h:CL d=wj ks) (r:Rep K ok H v d):∃ b,v=.ref b/\ok b/\H b=wj (.tup (ks.map kV)):=by
 cases d with
 |tup ds=>
  obtain⟨b,xs,rfl,g,rs⟩:=r.tup_inv;rw[AC h rs] at g;exact⟨b,rfl,g.1,g.2⟩
 |_=>cases h
section
variable {κ:Type} [DecidableEq κ]
noncomputable def iE (kvs:List (κ×D)) (k:κ):Option D:=(kvs.find? fun kv=>decide (kv.1=k)).map (·.2)
noncomputable def putD (kvs:List (κ×D)) (k:κ) (v:D):List (κ×D):=if(kvs.any fun kv=>decide (kv.1=k))=true then kvs.map (fun kv=>if kv.1=k then(kv.1,v) else kv) else kvs++[(k,v)]
noncomputable def eA (kvs:List (κ×D)) (k:κ):List (κ×D):=kvs.filter fun kv=>decide (kv.1≠k)
variable {K:aa}{ok:Okk}{H:Hp}
theorem KvR.val:∀ {vs:List (κ×V)}{ds:List (κ×D)}{d:D},KvR K ok H vs ds->iE ds k=wj d->∃ v,vO vs k=wj v/\Rep K ok H v d
 |_,_,_,.nil,e=>by cases e
 |_,_,d,@KvR.cons _ _ _ _ k' v d' vs ds r rs,e=>by
  by_cases q:k'=k
  ·have e':iE ((k',d')::ds) k=wj d':=by simp[iE,gq,q]
   rw[e'] at e;cases e;exact⟨v,nC (p:=(k',v)) q,r⟩
  ·have e':iE ((k',d')::ds) k=iE ds k:=by simp[iE,gq,q]
   rw[e'] at e;obtain⟨u,e1,ru⟩:=KvR.val rs e;exact⟨u,by rw[kN (p:=(k',v)) q];exact e1,ru⟩
theorem KvR.val_none:∀ {vs:List (κ×V)}{ds:List (κ×D)},KvR K ok H vs ds->iE ds k=wk->vO vs k=wk
 |_,_,.nil,e=>rfl
 |_,_,@KvR.cons _ _ _ _ k' v d' vs ds r rs,e=>by
  by_cases q:k'=k
  ·have e':iE ((k',d')::ds) k=wj d':=by simp[iE,gq,q]
   rw[e'] at e;cases e
  ·have e':iE ((k',d')::ds) k=iE ds k:=by simp[iE,gq,q]
   rw[e'] at e;rw[kN (p:=(k',v)) q];exact KvR.val_none rs e
theorem KvR.any:∀ {vs:List (κ×V)}{ds:List (κ×D)},KvR K ok H vs ds->(vs.any fun kv=>decide (kv.1=k))=ds.any fun kv=>decide (kv.1=k)
 |_,_,.nil=>rfl
 |_,_,.cons _ rs=>by rw[lg,lg,KvR.any rs]
theorem KvR.rep1 (q:Rep K ok H v d):∀ {vs:List (κ×V)}{ds:List (κ×D)},KvR K ok H vs ds->KvR K ok H (vs.map fun kv=>if kv.1=k then(kv.1,v) else kv) (ds.map fun kv=>if kv.1=k then(kv.1,d) else kv)
 |_,_,.nil=>.nil
 |_,_,@KvR.cons _ _ _ _ k' v' d' vs ds r rs=>by
  rw[bh,bh]
  by_cases z:k'=k
  ·rw[if_pos z,if_pos z];exact .cons q (KvR.rep1 q rs)
  ·rw[if_neg z,if_neg z];exact .cons r (KvR.rep1 q rs)
theorem KvR.snoc (q:Rep K ok H v d):∀ {vs:List (κ×V)}{ds:List (κ×D)},KvR K ok H vs ds->KvR K ok H (vs++[(k,v)]) (ds++[(k,d)])
 |_,_,.nil=>.cons q .nil
 |_,_,.cons r rs=>.cons r (KvR.snoc q rs)
theorem KvR.put {ds:List (κ×D)} (h:KvR K ok H vs ds) (q:Rep K ok H v d):KvR K ok H (mI vs k v) (putD ds k d):=by
 unfold mI putD;rw[h.any];split
 ·exact h.rep1 q
 ·exact h.snoc q
theorem KvR.drop:∀ {vs:List (κ×V)}{ds:List (κ×D)},KvR K ok H vs ds->KvR K ok H (xK vs k) (eA ds k)
 |_,_,.nil=>.nil
 |_,_,@KvR.cons _ _ _ _ k' v' d' vs ds r rs=>by
  unfold xK eA
  by_cases z:k'=k
  ·rw[nj,nj];simp only[z,ne_eq,not_true_eq_false,decide_false,du,if_false];exact KvR.drop rs
  ·rw[nj,nj];simp only[z,ne_eq,not_false_eq_true,decide_true,if_true];exact .cons r (KvR.drop rs)
end
noncomputable def CN (ω:Om) (d y:D):Option (Option D):=match cellOf ω d with
 |some (.dt kvs)=>(CL y).map fun k=>iE kvs k
 |some (.dz kvs)=>(CL y).map fun k=>iE kvs k
 |some (.dk kvs)=>(toK y).map fun k=>iE kvs k
 |_=>wk
noncomputable def ResR (K:aa) (ok:Okk) (H:Hp):Option D->Option V->Prop
 |some z,u=>∃ v,u=wj v/\Rep K ok H v z
 |none,u=>u=wk
theorem ResR.isSome {K:aa} (h:ResR K ok H r u):u.isSome=r.isSome:=by
 cases r with
 |none=>rw[show u=wk from h];rfl
 |some z=>obtain⟨v,rfl,_⟩:=h;rfl
theorem KvR.res {κ:Type} [DecidableEq κ] {K:aa}{ok:Okk}{H:Hp}{k:κ}{vs:List (κ×V)}{ds:List (κ×D)} (h:KvR K ok H vs ds):ResR K ok H (iE ds k) (vO vs k):=by
 cases q:iE ds k with
 |none=>exact h.val_none q
 |some z=>exact h.val q
theorem DGet.of {K:aa}{x y:V} (t:Stt cls K ok H ω) (rx:Rep K ok H x d) (ry:Rep K ok H y k) (e:CN ω d k=wj r):∃ a u,x=.ref a/\DGet H a y u/\ResR K ok H r u:=by
 unfold CN at e;cases hc:cellOf ω d with
 |none=>rw[hc] at e;cases e
 |some ob=>
  rw[hc] at e;obtain⟨n,rfl,e1⟩:=dO hc;cases ob with
  |dt kvs=>
   obtain⟨a,rfl,e2,vs,e3,kv⟩:=t.ref rx e1;obtain⟨ks,e4,e5⟩:=aJ (show(CL k).map _=wj r from e);subst e5;obtain⟨b,rfl,_,hb⟩:=toT'_rep e4 ry;exact⟨a,_,rfl,DGet.t e3 hb,kv.res⟩
  |dz kvs=>
   obtain⟨a,rfl,e2,ob,vs,e3,kv⟩:=t.ref rx e1;obtain⟨ks,e4,e5⟩:=aJ (show(CL k).map _=wj r from e);subst e5;obtain⟨b,rfl,_,hb⟩:=toT'_rep e4 ry;exact⟨a,_,rfl,.inr ⟨vs,ks,b,.inr ⟨ob,e3⟩,rfl,hb,rfl⟩,kv.res⟩
  |dk kvs=>
   obtain⟨a,rfl,e2,vs,e3,kv⟩:=t.ref rx e1;obtain⟨ks,e4,e5⟩:=aJ (show(toK k).map _=wj r from e);subst e5;obtain rfl:=yK e4 ry;exact⟨a,_,rfl,DGet.k e3,kv.res⟩
  |_=>cases e
noncomputable def cL (ω:Om) (d y:D):Option D:=(CN ω d y).join
theorem JO (hu:X.A.units+1<dr) (ho:OE X cls E o fo) (hi:OE X cls E i fi) (hs:Pw i:=by intro _ _;rfl):OE X cls E (.Subscript o i pos) (o2 (fun ω a b=>pu (cL ω a b) ω) fo fi):=(Je hu ho hi hs).imp fun σ H Q ⟨ok,ρ,ω,r,ω',P,e,q⟩=>by
 refine tO.then_ P e (fun c z=>by subst z;exact q) fun d ω1 v ok1 H1 e1 n1 P1 r1=> ?_;refine tO.then_ P1 e1 (fun c z=>by subst z;exact exR.nw q n1) fun y ω2 u ok2 H2 e2 n2 P2 r2=> ?_;obtain⟨z,e3,rfl⟩:=cQ e2;obtain⟨ue3,rfl⟩:=cW e3;have e4:CN ω' d y=wj (wj z):=by
  unfold cL at ue3;cases q:CN ω' d y with
  |none=>rw[q] at ue3;cases ue3
  |some w=>rw[q] at ue3;cases w with
   |none=>cases ue3
   |some w=>cases ue3;rfl
 obtain⟨a,w,rfl,g,w2⟩:=DGet.of P2.st (r1.ex n2.ex) r2 e4;obtain⟨v',rfl,rv⟩:=w2;exact⟨a,v',rfl,g,q v' ok2 H2 (n1.trans n2) rv⟩
noncomputable def Lg (ω:Om) (y d:D):Option D:=(CN ω d y).map fun r=>.bl r.isSome
theorem Mm (hu:X.A.units+1<dr) (hi:OE X cls E i fi) (ho:OE X cls E o fo) (hm:ir .In o=false:=by with_unfolding_all rfl):OT X cls E (.Compare i [.In] [o] pos) (cH (o2 (fun ω a b=>pu (Lg ω a b) ω) fi fo)):=
 (LK (Me hu hi ho) hm).imp fun σ H Q ⟨ok,ρ,ω,r,ω',P,e,q⟩=>by
 rcases jV e with⟨c,e1,rfl⟩|⟨dd,ωd,e0,e5⟩
 ·rcases jV e1 with⟨c',e2,e3⟩|⟨y,ω1,e2,e3⟩
  ·cases e3;exact⟨ok,ρ,ω,.ex c,ω',P,e2,q⟩
  ·refine⟨ok,ρ,ω,.ok y,ω1,P,e2,fun v ok1 H1 n1 r1=> ?_⟩;rcases jV e3 with⟨c',e4,e6⟩|⟨z,ω2,e4,e6⟩
   ·cases e6;exact⟨ok1,ρ,ω1,.ex c,ω',P.nw n1,e4,exR.nw q n1⟩
   ·obtain⟨_,_,w⟩:=cQ e6;cases w
 ·rcases jV e0 with⟨c',e2,e3⟩|⟨y,ω1,e2,e3⟩
  ·cases e3
  ·refine⟨ok,ρ,ω,.ok y,ω1,P,e2,fun v ok1 H1 n1 r1=> ?_⟩;rcases jV e3 with⟨c',e4,e6⟩|⟨z,ω2,e4,e6⟩
   ·cases e6
   ·refine⟨ok1,ρ,ω1,.ok z,ω2,P.nw n1,e4,fun u ok2 H2 n2 r2=> ?_⟩;obtain⟨w,e7,w'⟩:=cQ e6;cases w';obtain⟨ue7,rfl⟩:=cW e7;obtain⟨ro,e8,rfl⟩:=aJ ue7;obtain⟨k,e9,rfl⟩:=cQ e5;obtain⟨ue9,rfl⟩:=cW e9;cases ue9;obtain⟨a,w,rfl,g,w2⟩:=DGet.of n2.st r2 (r1.ex n2.ex) e8;exact⟨a,w,rfl,g,ro.isSome,by rw[w2.isSome],q ok2 H2 (n1.trans n2)⟩
noncomputable def uB:OG D:=fun _ ω=>wj (.ok (.obj ω.length),ω++[.dt []])
theorem JG:OE X cls E (.Dict [] [] pos) uB:=(PE.imp FZ) fun σ H Q ⟨ok,ρ,ω,r,ω',P,e,q⟩=>by
 cases e;exact fun p n=>q _ _ _ (Nw.make (o:=.dT []) P.okh P.st n ⟨[],aQ,.nil⟩) .new_obj
end
end L2.MB
end
section
namespace L2.MB
inductive OOut where
 |nx (ρ:Rho)|rt (d:D)|bk (ρ:Rho)|ct (ρ:Rho)|ex (c:Nat)
noncomputable abbrev OS:=Rho->Om->Option (OOut×Om)
noncomputable def nxR (cls:Nat->ae) (K:aa) (ok:Okk) (H:Hp) (ω':Om) (ρ:Rho) (N:St->Hp->Prop):Prop:=∀ ok' H' σ',Nw cls K ok H ok' H' ω'->EnvR K ok' H' σ' ρ->σ'.length=ρ.length->N σ' H'
noncomputable def outO (cls:Nat->ae) (K:aa) (ok:Okk) (H:Hp) (ω':Om) (E:XE) (D:BB):OOut->Prop
 |.nx ρ=>nxR cls K ok H ω' ρ D.nx
 |.bk ρ=>nxR cls K ok H ω' ρ D.bk
 |.ct ρ=>nxR cls K ok H ω' ρ D.ct
 |.rt d=>∀ v ok' H',Nw cls K ok H ok' H' ω'->Rep K ok' H' v d->D.rt v H'
 |.ex c=>exR cls K ok H ω' E c
noncomputable def tOS (cls:Nat->ae) (K:aa) (F:OS) (E:XE):TS:=fun D σ H=>∃(ok:Okk) (ρ:Rho) (ω:Om) (o:OOut) (ω':Om),Pre cls K ok H ω σ ρ/\F ρ ω=wj (o,ω')/\outO cls K ok H ω' E D o
noncomputable abbrev OSt (X:Cx) (cls:Nat->ae) (E:XE) (st:cr) (F:OS):Prop:=PS X st (tOS cls X.K F E)
noncomputable abbrev OSs (X:Cx) (cls:Nat->ae) (E:XE) (st:List cr) (F:OS):Prop:=PSs X st (tOS cls X.K F E)
theorem nxR.nw {K:aa} (h:nxR cls K ok H ω' ρ N) (n:Nw cls K ok H ok' H' ω1):nxR cls K ok' H' ω' ρ N:=fun ok2 H2 σ2 m e l=>h ok2 H2 σ2 (n.trans m) e l
theorem outO.nw {K:aa}{D:BB} (h:outO cls K ok H ω' E D o) (n:Nw cls K ok H ok' H' ω1):outO cls K ok' H' ω' E D o:=by
 cases o with
 |nx ρ=>exact nxR.nw h n
 |bk ρ=>exact nxR.nw h n
 |ct ρ=>exact nxR.nw h n
 |rt d=>exact fun v ok2 H2 m r=>h v ok2 H2 (n.trans m) r
 |ex c=>exact exR.nw h n
noncomputable def oX {α:Type} (f:OG α) (g:α->Rho->Om->Option (OOut×Om)):OS:=fun ρ ω=>match f ρ ω with
 |none=>wk
 |some (.ex c,ω1)=>wj (.ex c,ω1)
 |some (.ok a,ω1)=>g a ρ ω1
theorem DI {g:α->Rho->Om->Option (OOut×Om)} (h:oX f g ρ ω=wj (o,ω')):(∃ c,f ρ ω=wj (.ex c,ω')/\o=.ex c)∨∃ a ω1,f ρ ω=wj (.ok a,ω1)/\g a ρ ω1=wj (o,ω'):=by
 unfold oX at h;split at h
 ·cases h
 ·cases h;exact .inl ⟨_,‹_›,rfl⟩
 ·exact .inr ⟨_,_,‹_›,h⟩
noncomputable def bP:OS:=fun ρ ω=>wj (.nx ρ,ω)
noncomputable def aI (F G:OS):OS:=fun ρ ω=>match F ρ ω with
 |none=>wk
 |some (.nx ρ1,ω1)=>G ρ1 ω1
 |some (o,ω1)=>wj (o,ω1)
theorem Dd (h:aI F G ρ ω=wj (o,ω')):(∃ ρ1 ω1,F ρ ω=wj (.nx ρ1,ω1)/\G ρ1 ω1=wj (o,ω'))∨(F ρ ω=wj (o,ω')/\∀ ρ1,o≠ .nx ρ1):=by
 unfold aI at h;split at h
 ·cases h
 ·exact .inl ⟨_,_,‹_›,h⟩
 ·rename_i o1 ω1 hn q
  cases h;exact .inr ⟨q,fun ρ1 z=>hn ρ1 z⟩
noncomputable def aX (i:Nat) (f:OG D):OS:=oX f fun d ρ ω=>wj (.nx (ρ.set i (wj d)),ω)
noncomputable def bU (f:OG D):OS:=oX f fun _ ρ ω=>wj (.nx ρ,ω)
noncomputable def eB (t:OG Bool) (F G:OS):OS:=oX t fun k ρ ω=>if k=true then F ρ ω else G ρ ω
noncomputable def aZ (f:OG D):OS:=oX f fun d _ ω=>wj (.rt d,ω)
section
variable {X:Cx}{cls:Nat->ae}{E:XE}{st:cr}{rest body els:List cr}{tg e a b c o i iter value:bt}{es:List bt}{f:DF}{fa fb fo fi fv:OG D}{fl:OG (List D)}{ft ft':OG Bool}{F G:OS}{pos p apos pos':Pos}{x m:Str}{cn:Nat}
theorem tO.thenS {K:aa}{o:OOut}{D:BB} (P:Pre cls K ok H ω σ ρ) (e:oX fa g ρ ω=wj (o,ω')) (hx:outO cls K ok H ω' E D o)
  (h:∀ d ω1 v ok1 H1,g d ρ ω1=wj (o,ω')->Nw cls K ok H ok1 H1 ω1->Pre cls K ok1 H1 ω1 σ ρ->Rep K ok1 H1 v d->outO cls K ok1 H1 ω' E D o->Q v H1):tO cls K fa E σ H Q:=by
 rcases DI e with⟨c,e1,rfl⟩|⟨d,ω1,e1,e2⟩
 ·exact⟨ok,ρ,ω,.ex c,ω',P,e1,hx⟩
 ·exact⟨ok,ρ,ω,.ok d,ω1,P,e1,fun v ok1 H1 n r1=>h d ω1 v ok1 H1 e2 n (P.nw n) r1 (hx.nw n)⟩
theorem Mp:OSs X cls E [] bP:=(PSs.imp IR) fun D σ H ⟨ok,ρ,ω,o,ω',P,e,q⟩=>by
 cases e;exact q ok H σ (.refl P.okh P.st) P.env P.len
theorem Js (h1:OSt X cls E st F) (h2:OSs X cls E rest G):OSs X cls E (st::rest) (aI F G):=(FU h1 h2).imp fun D σ H ⟨ok,ρ,ω,o,ω',P,e,q⟩=>by
 rcases Dd e with⟨ρ1,ω1,e1,e2⟩|⟨e1,hn⟩
 ·exact⟨ok,ρ,ω,_,ω1,P,e1,fun ok1 H1 σ1 n1 r1 l1=>⟨ok1,ρ1,ω1,o,ω',⟨n1.okh,n1.st,r1,l1⟩,e2,q.nw n1⟩⟩
 ·refine⟨ok,ρ,ω,o,ω',P,e1,?_⟩;cases o with
  |nx ρ1=>exact absurd rfl (hn ρ1)
  |_=>exact q
theorem Mo (h1:OSt X cls E st F):OSs X cls E [st] F:=IQ h1
theorem Ms {i:Nat} (hN:X.N.Nodup) (hi:X.N[i]?=wj x) (hx:Loc X.env.scope x) (he:OE X cls E e fa) (hs:jd e (wj (.Name x pos')) pos.line X.env=pure false:=by rfl)
  (hf:X.fn x=true∨X.env.scope.names.lookup x=wj .local:=by first|exact .inl rfl|exact .inr rfl|assumption):OSt X cls E (.Assign [.Name x pos'] e pos) (aX i fa):=
 (LL hN hi hx he hs hf).imp fun D σ H ⟨ok,ρ,ω,o,ω',P,e,q⟩=>by
  refine tO.thenS P e q fun d ω1 v ok1 H1 e1 n1 P1 r1 q1=> ?_;cases e1;exact q1 ok1 H1 _ (.refl P1.okh P1.st) (P1.env.set P1.len r1 i) (by rw[ci,ci];exact P1.len)
theorem Jq (he:OE X cls E e fa) (hs:jd e wk pos.line X.env=pure false:=by rfl):OSt X cls E (.Expr e pos) (bU fa):=
 (IT he hs).imp fun D σ H ⟨ok,ρ,ω,o,ω',P,e,q⟩=>by
  refine tO.thenS P e q fun d ω1 v ok1 H1 e1 n1 P1 r1 q1=> ?_;cases e1;exact q1 ok1 H1 σ (.refl P1.okh P1.st) P1.env P1.len
theorem OP (hc:OT X cls E c ft) (ha:OSs X cls E body F) (hb:OSs X cls E els G):OSt X cls E (.If c body els pos) (eB ft F G):=(Oy hc ha hb).imp fun D σ H ⟨ok,ρ,ω,o,ω',P,e,q⟩=>by
 rcases DI e with⟨c,e1,rfl⟩|⟨k,ω1,e1,e2⟩
 ·exact⟨ok,ρ,ω,.ex c,ω',P,e1,q⟩
 ·refine⟨ok,ρ,ω,.ok k,ω1,P,e1,fun ok1 H1 n1=> ?_⟩;cases k with
  |true=>exact Ld ⟨ok1,ρ,ω1,o,ω',P.nw n1,e2,q.nw n1⟩
  |false=>exact Le ⟨ok1,ρ,ω1,o,ω',P.nw n1,e2,q.nw n1⟩
theorem Mn (he:OE X cls E e fa):OSt X cls E (.Return (wj e) pos) (aZ fa):=(LM he).imp fun D σ H ⟨ok,ρ,ω,o,ω',P,e,q⟩=>by
 refine tO.thenS P e q fun d ω1 v ok1 H1 e1 n1 P1 r1 q1=> ?_;cases e1;exact q1 v ok1 H1 (.refl P1.okh P1.st) r1
noncomputable def kS (f:Str) (v:D):List (Str×D)->List (Str×D)
 |[]=>[(f,v)]
 |(g,x)::r=>if g=f then(g,v)::r else(g,x)::kS f v r
theorem KvR.putF {K:aa} (q:Rep K ok H v d):∀ {vs:List (Str×V)}{ds:List (Str×D)},KvR K ok H vs ds->KvR K ok H (L2.putF x v vs) (kS x d ds)
 |_,_,.nil=>.cons q .nil
 |_,_,@KvR.cons _ _ _ _ k v' d' vs ds r rs=>by
  show KvR K ok H (if k=x then(k,v)::vs else(k,v')::L2.putF x v vs) (if k=x then(k,d)::ds else(k,d')::kS x d ds)
  by_cases z:k=x
  ·rw[if_pos z,if_pos z];exact .cons q rs
  ·rw[if_neg z,if_neg z];exact .cons r (KvR.putF q rs)
noncomputable def uM (c:Nat) (x:Str) (ω:Om) (o v:D):Option Om:=match o with
 |.obj n=>match ω[n]? with
  |some (.ins c' fs)=>if c'=c/\fs.length<1000 then wj (ω.set n (.ins c (kS x v fs))) else wk
  |_=>wk
 |_=>wk
theorem EC {c:Nat}{o v:D} (h:uM c x ω o v=wj ω'):∃ n fs,o=.obj n/\ω[n]?=wj (.ins c fs)/\fs.length<1000/\ω'=ω.set n (.ins c (kS x v fs)):=by
 unfold uM at h;split at h
 ·split at h
  ·obtain⟨⟨rfl,hl⟩,rfl⟩:=bL h;exact⟨_,_,rfl,‹_›,hl,rfl⟩
  ·cases h
 ·cases h
noncomputable def mT (c:Nat) (x:Str) (fo fv:OG D):OS:=oX fv fun v=>oX fo fun o ρ ω=>(uM c x ω o v).map fun ω'=>(.nx ρ,ω')
theorem Mr (hc:Cls X.K (cls cn)) (hn:NoAttr X.K (cls cn) x) (ho:OE X cls E o fo) (hv:OE X cls E value fv) (hs:jd value (wj (.Attribute o x pos')) pos.line X.env=pure false:=by rfl):OSt X cls E (.Assign [.Attribute o x pos'] value pos) (mT cn x fo fv):=
 (LN ho hv hs).imp fun D σ H ⟨ok,ρ,ω,oo,ω',P,e,q⟩=>by
  refine tO.thenS P e q fun dv ω1 v ok1 H1 e1 n1 P1 r1 q1=> ?_;refine tO.thenS P1 e1 q1 fun d ω2 u ok2 H2 e2 n2 P2 r2 q2=> ?_;obtain⟨ω3,e3,e4⟩:=aJ e2;cases e4;obtain⟨n,fs,rfl,e5,hl,rfl⟩:=EC e3;obtain⟨a,rfl,e6,dx,vs,e7,kv⟩:=P2.st.ref r2 e5;refine⟨a,_,dx,vs,rfl,e7,hc,hn,by rw[kv.length];exact hl,?_⟩;have nw:=Nw.write (o:=.ins (cls cn) dx (L2.putF x v vs)) (ob:=.ins cn (kS x dv fs)) P2.okh P2.st e6 e7 fun dat=>⟨dx,_,aQ,((kv.mono dat fun _ _ z=>z).putF ((r1.ex n2.ex).mono dat))⟩;exact q2 ok2 _ σ nw (P2.env.ex nw.ex) P2.len
noncomputable def pO (ω:Om) (o i v:D):Option Om:=match o,i with
 |.obj n,.int k=>match ω[n]? with
  |some (.ml ds)=>(ixN ds.length k).map fun j=>ω.set n (.ml (ds.set j v))
  |_=>wk
 |_,_=>wk
theorem EB {o i v:D} (h:pO ω o i v=wj ω'):∃ n k ds j,o=.obj n/\i=.int k/\ω[n]?=wj (.ml ds)/\ixN ds.length k=wj j/\ω'=ω.set n (.ml (ds.set j v)):=by
 unfold pO at h;split at h
 ·split at h
  ·obtain⟨j,e1,rfl⟩:=aJ h;exact⟨_,_,_,j,rfl,rfl,‹_›,e1,rfl⟩
  ·cases h
 ·cases h
noncomputable def iL (g:Om->D->D->D->Option Om) (fo fi fv:OG D):OS:=oX fv fun v=>oX fo fun o=>oX fi fun i ρ ω=>(g ω o i v).map fun ω'=>(.nx ρ,ω')
theorem Jo (ho:OE X cls E o fo) (hi:OE X cls E i fi) (hv:OE X cls E value fv) (hs:tz [.Subscript o i pos'] value pos.line X.env=pure false:=by rfl) (hw:t6 [.Subscript o i pos'] value X.env=pure wk:=by rfl)
  (h1:(k8 [.Subscript o i pos'] X.env).map (·.2)=[assign (.Subscript o i pos') X.env]:=by rfl)
  (ha:∀ v,assign (.Subscript o i pos') X.env v=(do
   let ov <- holding [v] (eval o X.env)
   let iv <- holding [v,ov] (eval i X.env)
   mr pos'
   holding [v,ov,iv] (setItem ov iv v)
   release [v,ov,iv] []):=by intro _;rfl):OSt X cls E (.Assign [.Subscript o i pos'] value pos) (iL pO fo fi fv):=
 (Ia hv (LQ ho hi FA ha) hs hw h1).imp fun D σ H ⟨ok,ρ,ω,oo,ω',P,e,q⟩=>by
  refine tO.thenS P e q fun dv ω1 v ok1 H1 e1 n1 P1 r1 q1=> ?_;refine tO.thenS P1 e1 q1 fun d ω2 u ok2 H2 e2 n2 P2 r2 q2=> ?_;refine tO.thenS P2 e2 q2 fun y ω3 w ok3 H3 e3 n3 P3 r3 q3=> ?_;obtain⟨ω4,e4,e5⟩:=aJ e3;cases e5;obtain⟨n,k,ds,j,rfl,rfl,e5,hj,rfl⟩:=EB e4;obtain⟨a,rfl,e6,xs,e7,rs⟩:=P3.st.ref (r2.ex n3.ex) e5;obtain rfl:=r3.int_inv;refine⟨a,xs,k,j,rfl,rfl,e7,by rw[rs.length];exact hj,?_⟩;have nw:=Nw.write (o:=.lst (xs.set j v)) (ob:=.ml (ds.set j dv)) P3.okh P3.st e6 e7 fun dat=>⟨_,aQ,(rs.mono dat).set ((r1.ex (n2.ex.trans n3.ex)).mono dat) j⟩;exact q3 ok3 _ σ nw (P3.env.ex nw.ex) P3.len
noncomputable def mU (ω:Om) (o i v:D):Option Om:=match o with
 |.obj n=>match ω[n]? with
  |some (.dt kvs)=>(CL i).bind fun k=>if kvs.length<sizeLine then wj (ω.set n (.dt (putD kvs k v))) else wk
  |some (.dk kvs)=>(toK i).bind fun k=>if kvs.length<sizeLine then wj (ω.set n (.dk (putD kvs k v))) else wk
  |_=>wk
 |_=>wk
theorem Jr (hu:X.A.units+1<dr) (ho:OE X cls E o fo) (hi:OE X cls E i fi) (hv:OE X cls E value fv) (hs:jd value (wj (.Subscript o i pos')) pos.line X.env=pure false:=by rfl):
  OSt X cls E (.Assign [.Subscript o i pos'] value pos) (iL mU fo fi fv):=
 (IU hu ho hi hv hs).imp fun D σ H ⟨ok,ρ,ω,oo,ω',P,e,q⟩=>by
  refine tO.thenS P e q fun dv ω1 v ok1 H1 e1 n1 P1 r1 q1=> ?_;refine tO.thenS P1 e1 q1 fun d ω2 u ok2 H2 e2 n2 P2 r2 q2=> ?_;refine tO.thenS P2 e2 q2 fun y ω3 w ok3 H3 e3 n3 P3 r3 q3=> ?_;obtain⟨ω4,e4,e5⟩:=aJ e3;cases e5;have rv:=r1.ex (n2.ex.trans n3.ex);unfold mU at e4;split at e4
  ·split at e4
   ·rename_i n kvs e5
    obtain⟨ks,e8,e9⟩:=aR e4;obtain⟨hl,rfl⟩:=bL e9;obtain⟨a,rfl,e6,vs,e7,kv⟩:=P3.st.ref (r2.ex n3.ex) e5;obtain⟨b,rfl,_,hb⟩:=toT'_rep e8 r3;refine⟨a,_,rfl,DPut.t e7 hb (by rw[kv.length];exact hl),?_⟩;have nw:=Nw.write (o:=.dT (mI vs ks v)) (ob:=.dt (putD kvs ks dv)) P3.okh P3.st e6 e7 fun dat=>⟨_,aQ,(kv.mono dat fun _ _ z=>z).put (rv.mono dat)⟩;exact q3 ok3 _ σ nw (P3.env.ex nw.ex) P3.len
   ·rename_i n kvs e5
    obtain⟨ks,e8,e9⟩:=aR e4;obtain⟨hl,rfl⟩:=bL e9;obtain⟨a,rfl,e6,vs,e7,kv⟩:=P3.st.ref (r2.ex n3.ex) e5;obtain rfl:=yK e8 r3;refine⟨a,_,rfl,DPut.k e7 (by rw[kv.length];exact hl),?_⟩;have nw:=Nw.write (o:=.dK (mI vs ks v)) (ob:=.dk (putD kvs ks dv)) P3.okh P3.st e6 e7 fun dat=>⟨_,aQ,(kv.mono dat fun _ _ z=>z).put (rv.mono dat)⟩;exact q3 ok3 _ σ nw (P3.env.ex nw.ex) P3.len
   ·cases e4
  ·cases e4
structure ItO (cls:Nat->ae) (K:aa) (ok1:Okk) (H1:Hp) (C:Om->Bool) (J:It) (ds:List D):Prop where
 go:∀ i ok H ω,Nw cls K ok1 H1 ok H ω->C ω=true->i<ds.length->J.go i H
 yld:∀ i ok H ω x H' d,Nw cls K ok1 H1 ok H ω->C ω=true->J.yld i H x H'->ds[i]?=wj d->Same H H'/\Rep K ok H' x d
 stop:∀ i ok H ω,Nw cls K ok1 H1 ok H ω->C ω=true->ds.length<=i->J.stop i H
noncomputable abbrev OI':=OG (List D×(Om->Bool))
noncomputable def tOI (cls:Nat->ae) (K:aa) (f:OI') (E:XE):TI:=fun σ H R=>∃(ok:Okk) (ρ:Rho) (ω:Om) (r:Rz (List D×(Om->Bool))) (ω':Om),Pre cls K ok H ω σ ρ/\f ρ ω=wj (r,ω')/\match r with
 |.ok p=>∀ J ok' H',Nw cls K ok H ok' H' ω'->ItO cls K ok' H' p.2 J p.1->R J H'
 |.ex c=>exR cls K ok H ω' E c
noncomputable abbrev OI (X:Cx) (cls:Nat->ae) (E:XE) (tg e:bt) (f:OI'):Prop:=PI X tg e (tOI cls X.K f E)
noncomputable def bW:Om->Bool:=fun _=>true
theorem ItD.toO {K:aa} (h:ItD K ok1.al (FJ ok1 H1) J ds):ItO cls K ok1 H1 bW J ds:=by
 have sm:∀ {ok:Okk}{H:Hp}{ω:Om},Nw cls K ok1 H1 ok H ω->Same (FJ ok1 H1) H:=fun n b u z=>(n.ex.dat b u (kR z).1 (kR z).2).2;refine⟨fun i ok H ω n _ hi=>h.go i H (sm n) hi,fun i ok H ω x H' d n _ y hd=> ?_,fun i ok H ω n _ hi=>h.stop i H (sm n) hi⟩;obtain⟨s,r⟩:=h.yld i H x H' d (sm n) y hd;refine⟨s,Rep.mono (ok:=⟨fun b=>FJ ok1 H1 b≠wk∨H b=wk,ok1.al⟩) (fun b u z w=>⟨?_,w⟩) (fun m a z=>n.ex.ids m a z) r⟩;rcases z with z|z
 ·cases q:FJ ok1 H1 b with
  |none=>exact absurd q z
  |some u'=>exact(n.ex.dat b u' (kR q).1 (kR q).2).1
 ·exact n.okh b z
noncomputable def jQ (n:Nat) (ds:List D) (ω:Om):Bool:=match ω[n]? with
 |some (.ml ds')=>sameDs ds' ds
 |_=>false
theorem GG (h:jQ n ds ω=true):ω[n]?=wj (.ml ds):=by
 unfold jQ at h;split at h
 ·rename_i ds' e
  rw[sameDs_eq ds' ds h] at e;exact e
 ·cases h
noncomputable def mO (ω:Om) (d:D):Option (List D×(Om->Bool)):=match d with
 |.lst ds=>wj (ds,bW)
 |.obj n=>match ω[n]? with
  |some (.ml ds)=>wj (ds,jQ n ds)
  |_=>wk
 |_=>wk
theorem GV (h:mO ω d=wj (ds,chk)):(d=.lst ds/\chk=bW)∨∃ n,d=.obj n/\ω[n]?=wj (.ml ds)/\chk=jQ n ds:=by
 cases d with
 |lst xs=>cases h;exact .inl ⟨rfl,rfl⟩
 |obj n=>
  have h':(match ω[n]? with
   |some (.ml ds)=>wj (ds,jQ n ds)
   |_=>wk)=wj (ds,chk):=h
  split at h'
  ·rename_i xs e
   cases h';exact .inr ⟨n,rfl,e,rfl⟩
  ·cases h'
 |_=>cases h
theorem zK {K:aa} (e:mO ω1 d=wj (ds,chk)) (st:Stt cls K ok1 H1 ω1) (r:Rep K ok1 H1 v d):
  ∃ a,v=.ref a/\(∃ xs,SqL K H1 a xs)/\∀ ok H ω,Nw cls K ok1 H1 ok H ω->chk ω=true->∃ xs,SqL K H a xs/\Reps K ok H xs ds:=by
 rcases GV e with⟨rfl,rfl⟩|⟨n,rfl,e1,rfl⟩
 ·obtain⟨a,xs,rfl,g,rs⟩:=r.lst_inv;refine⟨a,rfl,⟨xs,g.sq⟩,fun ok H ω n _=>⟨xs,(g.mono n.ex.dat).sq,rs.ex n.ex⟩⟩
 ·obtain⟨a,rfl,e2,xs,e3,rs⟩:=st.ref r e1;refine⟨a,rfl,⟨xs,SqL.of e3⟩,fun ok H ω nw hc=> ?_⟩;obtain⟨b,e4,xs',e5,rs'⟩:=nw.st.cell n _ (GG hc)
  have:=nw.ex.ids n a e2
  rw[e4] at this;cases this;exact⟨xs',SqL.of e5,rs'⟩
noncomputable def oIL (f:OG D):OI':=oB f fun d _ ω=>oR (pu (mO ω d) ω)
theorem JA (h:OE X cls E e fa):OI X cls E tg e (oIL fa):=PI.imp (IZ h) fun σ H R ⟨ok,ρ,ω,r,ω',P,e,q⟩=>by
 refine tO.then_ P e (fun c z=>by subst z;exact q) fun d ω1 v ok1 H1 e1 n1 P1 r1=> ?_;obtain⟨⟨ds,chk⟩,e3,rfl⟩:=cQ e1;obtain⟨ue3,rfl⟩:=cW e3;obtain⟨a,rfl,hx,at_⟩:=zK ue3 P1.st r1;refine⟨a,rfl,hx,q _ ok1 H1 n1 ⟨fun i ok H ω n c hi=> ?_,fun i ok H ω x H' d n c y hd=> ?_,fun i ok H ω n c hi=> ?_⟩⟩
 ·obtain⟨xs,s1,rs⟩:=at_ ok H ω n c;have hi':i<xs.length:=by rw[rs.length];exact hi
  exact⟨xs,xs[i],s1,by simp[hi']⟩
 ·obtain⟨xs,s1,rs⟩:=at_ ok H ω n c;obtain⟨rfl,y⟩:=y;obtain⟨w,z1,z2⟩:=rs.get hd;rw[y xs s1] at z1;cases z1;exact⟨Same.refl _,z2⟩
 ·obtain⟨xs,s1,rs⟩:=at_ ok H ω n c;exact⟨xs,s1,by rw[rs.length];exact hi⟩
noncomputable def NT (ω:Om) (ds:List D):Option (List D×(Om->Bool)):=match ds with
 |[a,b]=>(mO ω a).bind fun p=>(mO ω b).map fun q=>(yH p.1 q.1,fun ω=>p.2 ω&&q.2 ω)
 |_=>wk
noncomputable def oIZ (f:OG (List D)):OI':=oB f fun ds _ ω=>oR (pu (NT ω ds) ω)
theorem MF (hg:Gl X "zip") (hm:X.mg "zip"=wk) (ha:OA X cls E [a,b] fl) (hs:av [a,b] X.env=[(false,eval a X.env),(false,eval b X.env)]:=by rfl) (hs2:av [b] X.env=[(false,eval b X.env)]:=by rfl):
  OI X cls E (.Tuple ts k tp) (.Call (.Name "zip" p) [a,b] [] pos) (oIZ fl):=PI.imp (LO hg hm ha hs hs2) fun σ H R ⟨ok,ρ,ω,r,ω',P,e,q⟩=>by
 refine tOA.then_ P e (fun c z=>by subst z;exact q) fun ds ω1 vs ok1 H1 e1 n1 P1 r1=> ?_;obtain⟨⟨dz,chk⟩,e3,rfl⟩:=cQ e1;obtain⟨ue3,rfl⟩:=cW e3;unfold NT at ue3;split at ue3
 ·obtain⟨⟨d1,c1⟩,e4,e5⟩:=aR ue3;obtain⟨⟨d2,c2⟩,e6,e7⟩:=aJ e5;cases e7;obtain⟨v,v',rfl,ra,rb⟩:=r1.two_inv;obtain⟨a1,rfl,hx,at1⟩:=zK e4 P1.st ra;obtain⟨b1,rfl,hy,at2⟩:=zK e6 P1.st rb;have hl:(yH d1 d2).length=min d1.length d2.length:=by simp[yH]
  refine⟨a1,b1,rfl,hx,hy,q _ ok1 H1 n1 ⟨fun i ok H ω n c hi=> ?_,fun i ok H ω x H' d n c y hd=> ?_,fun i ok H ω n c hi=> ?_⟩⟩
  ·obtain⟨xs,s1,rs⟩:=at1 ok H ω n (bp _ _ ▸ c).1;obtain⟨ys,s2,rs2⟩:=at2 ok H ω n (bp _ _ ▸ c).2;rw[hl] at hi;have hi1:i<xs.length:=by rw[rs.length];omega
   have hi2:i<ys.length:=by rw[rs2.length];omega
   exact⟨xs,ys,xs[i],ys[i],s1,s2,by simp[hi1],by simp[hi2]⟩
  ·obtain⟨xs,s1,rs⟩:=at1 ok H ω n (bp _ _ ▸ c).1;obtain⟨ys,s2,rs2⟩:=at2 ok H ω n (bp _ _ ▸ c).2;obtain⟨T,x1,y1,rfl,hT,hx,hy,rfl⟩:=y;have hx':=hx xs s1;have hy':=hy ys s2;unfold yH at hd;rw[ss] at hd;cases q1:d1[i]? with
   |none=>rw[q1] at hd;cases hd
   |some u1=>
    cases q2:d2[i]? with
    |none=>rw[q1,q2] at hd;cases hd
    |some u2=>
     rw[q1,q2] at hd;cases hd;obtain⟨w1,z1,z2⟩:=rs.get q1;rw[hx'] at z1;cases z1;obtain⟨w2,z3,z4⟩:=rs2.get q2;rw[hy'] at z3;cases z3;exact⟨cM hT,.tup_new (n.okh T hT) hT (.cons z2 (.cons z4 .nil))⟩
  ·obtain⟨xs,s1,rs⟩:=at1 ok H ω n (bp _ _ ▸ c).1;obtain⟨ys,s2,rs2⟩:=at2 ok H ω n (bp _ _ ▸ c).2;rw[hl] at hi;refine⟨xs,ys,s1,s2,?_⟩;rw[rs.length,rs2.length];omega
 ·cases ue3
noncomputable abbrev EF:XE:=fun _ _=>False
noncomputable def bR (bd:BR) (chk:Om->Bool) (F:OS):List D->OS
 |[],ρ,ω=>if chk ω=true then wj (.nx ρ,ω) else wk
 |d::ds,ρ,ω=>if chk ω=true then(bd d ρ).bind fun ρ1=>match F ρ1 ω with
  |none=>wk
  |some (.nx ρ2,ω2)=>bR bd chk F ds ρ2 ω2
  |some (.ct ρ2,ω2)=>bR bd chk F ds ρ2 ω2
  |some (.bk ρ2,ω2)=>wj (.nx ρ2,ω2)
  |some (.rt d,ω2)=>wj (.rt d,ω2)
  |some (.ex _,_)=>wk else wk
noncomputable def bN (fi:OI') (bd:BR) (F:OS):OS:=oX fi fun p ρ ω=>bR bd p.2 F p.1 ρ ω
theorem cR {α:Type}{c:Prop} [Decidable c] {a:Option α}{b:α} (h:(if c then a else wk)=wj b):c/\a=wj b:=by
 by_cases hc:c
 ·rw[if_pos hc] at h;exact⟨hc,h⟩
 ·rw[if_neg hc] at h;cases h
noncomputable def QF (g:TG) (tb:TS) (D:BB) (σ:St) (J:It) (H1:Hp):Prop:=∃ W:Nat->Nat->St->Hp->Prop,(∃ m,W 0 m σ H1)/\∀ i m σ H,W i m σ H->
 (J.stop i H/\D.nx σ H)∨(J.go i H/\∃ N:St->Hp->Prop,(∀ σ' H',N σ' H'->∃ m',m'<m/\W (i+1) m' σ' H')/\∀ x H',J.yld i H x H'->g x σ H' fun σ2 H2=>tb { D with nx:=N,ct:=N,bk:=D.nx } σ2 H2)
theorem Bk {K:aa}{D:BB}{o:OOut} (it:ItO cls K ok1 H1 chk J ds) (P1:Pre cls K ok1 H1 ω1 σ ρ) (e2':bR bd chk F ds ρ ω1=wj (o,ω')) (q1:outO cls K ok1 H1 ω' EF D o):
  QF (gR K bd) (tOS cls K F EF) D σ J H1:=by
 refine⟨fun i m σ' H'=>∃ ok' ωc ρ',m=ds.length-i/\i<=ds.length/\Nw cls K ok1 H1 ok' H' ωc/\EnvR K ok' H' σ' ρ'/\σ'.length=ρ'.length/\bR bd chk F (ds.drop i) ρ' ωc=wj (o,ω'),
  ⟨ds.length,ok1,ω1,ρ,by simp,im _,.refl P1.okh P1.st,P1.env,P1.len,by simpa using e2'⟩,?_⟩
 rintro i m σ' H' ⟨ok',ωc,ρ',rfl,hi,n2,env,len,ef⟩
 by_cases hlt:i<ds.length
 ·have hdrop:ds.drop i=ds[i]::ds.drop (i+1):=p8 hlt;rw[hdrop] at ef;have ef':(if chk ωc=true then(bd ds[i] ρ').bind fun ρ1=>(match F ρ1 ωc with
   |none=>wk
   |some (.nx ρ2,ω2)=>bR bd chk F (ds.drop (i+1)) ρ2 ω2
   |some (.ct ρ2,ω2)=>bR bd chk F (ds.drop (i+1)) ρ2 ω2
   |some (.bk ρ2,ω2)=>wj (.nx ρ2,ω2)
   |some (.rt d,ω2)=>wj (.rt d,ω2)
   |some (.ex _,_)=>wk) else wk)=wj (o,ω'):=ef
  obtain⟨hc,ef'⟩:=cR ef';obtain⟨ρ1,e3,e4⟩:=aR ef';refine .inr ⟨it.go i ok' H' ωc n2 hc hlt,fun σ2 H2=>∃ ok2 ω2 ρ2,Nw cls K ok1 H1 ok2 H2 ω2/\EnvR K ok2 H2 σ2 ρ2/\σ2.length=ρ2.length/\bR bd chk F (ds.drop (i+1)) ρ2 ω2=wj (o,ω'),
   fun σ2 H2 ⟨ok2,ω2,ρ2,z1,z2,z3,z4⟩=>⟨ds.length-(i+1),by omega,ok2,ω2,ρ2,rfl,hlt,z1,z2,z3,z4⟩,fun x H'' y=> ?_⟩
  obtain⟨s2,rx⟩:=it.yld i ok' H' ωc x H'' ds[i] n2 hc y (by simp[hlt]);have n3:Nw cls K ok1 H1 ok' H'' ωc:=n2.trans (.same n2.okh n2.st s2);refine⟨ok',ρ',ρ1,ds[i],env.same s2,len,rx,e3,fun σ2 env2 len2=> ?_⟩;cases eF:F ρ1 ωc with
  |none=>rw[eF] at e4;cases e4
  |some p=>
   obtain⟨o1,ω2⟩:=p;rw[eF] at e4;refine⟨ok',ρ1,ωc,o1,ω2,⟨n3.okh,n3.st,env2,len2⟩,eF,?_⟩;cases o1 with
   |nx ρ2=>exact fun ok3 H3 σ3 m3 r3 l3=>⟨ok3,ω2,ρ2,n3.trans m3,r3,l3,e4⟩
   |ct ρ2=>exact fun ok3 H3 σ3 m3 r3 l3=>⟨ok3,ω2,ρ2,n3.trans m3,r3,l3,e4⟩
   |bk ρ2=>
    cases e4;exact fun ok3 H3 σ3 m3 r3 l3=>q1 ok3 H3 σ3 (n3.trans m3) r3 l3
   |rt d=>
    cases e4;exact fun v ok3 H3 m3 r3=>q1 v ok3 H3 (n3.trans m3) r3
   |ex c=>cases e4
 ·have ei:i=ds.length:=by omega
  subst ei;rw[va] at ef;have ef':(if chk ωc=true then wj (OOut.nx ρ',ωc) else wk)=wj (o,ω'):=ef;obtain⟨hc,ef'⟩:=bL ef';cases ef';exact .inl ⟨it.stop _ ok' H' _ n2 hc (bf _),q1 ok' H' σ' n2 env len⟩
theorem tOS.for_ {K:aa}{fi:OI'}{D:BB} (h:tOS cls K (bN fi bd F) EF D σ H):Og (tOI cls K fi EF) (gR K bd) (tOS cls K F EF) D σ H:=by
 obtain⟨ok,ρ,ω,o,ω',P,e,q⟩:=h;rcases DI e with⟨c,e1,rfl⟩|⟨⟨ds,chk⟩,ω1,e1,e2⟩
 ·exact⟨ok,ρ,ω,.ex c,ω',P,e1,q⟩
 ·exact⟨ok,ρ,ω,.ok (ds,chk),ω1,P,e1,fun J ok1 H1 n1 it=>Bk it (P.nw n1) e2 (q.nw n1)⟩
noncomputable def sNx (F:OS):OS:=fun ρ ω=>match F ρ ω with
 |some (.ex _,_)=>wk
 |r=>r
theorem De {o:OOut} (h:sNx F ρ ω=wj (o,ω')):F ρ ω=wj (o,ω')/\∀ c,o≠ .ex c:=by
 unfold sNx at h;split at h
 ·cases h
 ·rename_i hn
  exact⟨h,fun c z=>by subst z;exact hn c ω' h⟩
theorem _root_.L2.PS.nox (h:PS X.nox st t):PS X st t:=fun pins s σ H D I hw=>
 gv (h pins s σ H D (I.wish _) hw) (fun _ _ q=>q.unwish) fun _ _ z=>iw z
theorem Ii (h:OSt X.nox cls EF st F):OSt X cls E st (sNx F):=(PS.nox h).imp fun D σ H ⟨ok,ρ,ω,o,ω',P,e,q⟩=>by
 obtain⟨e,hn⟩:=De e;refine⟨ok,ρ,ω,o,ω',P,e,?_⟩;cases o with
 |ex c=>exact absurd rfl (hn c)
 |_=>exact q
theorem Mq {fi:OI'} (hc:X.calm=true) (hi:OI X.nox cls EF tg iter fi) (hg:PG X.nox tg (gR X.K bd)) (hb:OSs X.nox cls EF body F) (hs:∀ x,ga iter X.env x=pure x:=by intro _;rfl):
  OSt X cls E (.For tg iter body [] pos) (sNx (bN fi bd F)):=Ii ((HZ (X:=X.nox) vn hc hi hg hb hs).imp fun D σ H h=>tOS.for_ h)
end
noncomputable def compLO (bd:BR) (chk:Om->Bool) (t:OG Bool) (f:OG D):List D->Rho->Om->Option (List D×Om)
 |[],_,ω=>if chk ω=true then wj ([],ω) else wk
 |d::ds,ρ,ω=>if chk ω=true then(bd d ρ).bind fun ρ1=>match t ρ1 ω with
  |some (.ok k,ω1)=>if k=true then(match f ρ1 ω1 with
   |some (.ok y,ω2)=>(compLO bd chk t f ds ρ1 ω2).map fun r=>(y::r.1,r.2)
   |_=>wk) else compLO bd chk t f ds ρ1 ω1
  |_=>wk else wk
noncomputable def dJ (fin:Om->List D->Option (D×Om)) (fi:OI') (caps:List (Option Nat)) (bd:BR) (t:OG Bool) (f:OG D):OG D:=oB fi fun p ρ ω=>if p.1.length<=sizeLine then(compLO bd p.2 t f p.1 (Fw caps ρ) ω).bind fun r=>oR (fin r.2 r.1) else wk
noncomputable def xG (ω:Om) (ds:List D):Option (D×Om):=wj (.lst ds,ω)
noncomputable def Hl (ω:Om) (ds:List D):Option (D×Om):=wj (.obj ω.length,ω++[.ml ds])
noncomputable def Fin (fin:Om->List D->Option (D×Om)):Prop:=∀(cls:Nat->ae) (K:aa) (ok1 ok:Okk) (H1 H:Hp) (ω ω':Om) (P:ae) (vs:List V) (ds:List D) (d:D),Nw cls K ok1 H1 ok H ω->H1 P=wk->H P=wj (.lst vs)->¬ ok.p P->(∀ n,ok.al n≠wj P)->Reps K ok H vs ds->fin ω ds=wj (d,ω')->
 ∃ ok',Nw cls K ok1 H1 ok' H ω'/\Rep K ok' H (.ref P) d
theorem Pn:Fin xG:=fun cls K ok1 ok H1 H ω ω' P vs ds d nw h1 hP np na rs e=>by
 cases e;have dat:∀ b o,ok.p b->H b=wj o->(ok.p b∨b=P)/\H b=wj o:=fun b o k e=>⟨.inl k,e⟩;refine⟨⟨fun b=>ok.p b∨b=P,ok.al⟩,⟨⟨fun b o k e=>⟨.inl (nw.ex.dat b o k e).1,(nw.ex.dat b o k e).2⟩,nw.ex.ids,nw.ex.frm,nw.ex.new,nw.ex.keep,fun b k=> ?_,nw.ex.frz⟩,⟨fun b e=>.inl (nw.okh b e),fun b xs e=>.inl (nw.okh.tp b xs e)⟩,fun n ob e=> ?_,nw.st.dom,nw.st.inj,fun n a e k=> ?_⟩,.lst ⟨.inr rfl,hP⟩ (rs.mono dat)⟩
 ·rcases k with k|rfl
  ·exact nw.ex.sub b k
  ·exact .inr h1
 ·obtain⟨a,e1,c⟩:=nw.st.cell n ob e;exact⟨a,e1,c.mono dat (fun _ _ z=>z) fun _ z=>z⟩
 ·rcases k with k|rfl
  ·exact nw.st.nok n a e k
  ·exact na n e
theorem Pk:Fin Hl:=fun cls K ok1 ok H1 H ω ω' P vs ds d nw h1 hP np na rs e=>by
 cases e;have al:∀ m b,(if m=ω.length then wj P else ok.al m)=wj b->(m=ω.length/\b=P)∨(m≠ω.length/\ok.al m=wj b):=fun m b q=>by
  by_cases hm:m=ω.length
  ·rw[if_pos hm] at q;exact .inl ⟨hm,(ce q).symm⟩
  ·rw[if_neg hm] at q;exact .inr ⟨hm,q⟩
 have ids:∀ m b,ok.al m=wj b->(if m=ω.length then wj P else ok.al m)=wj b:=fun m b q=>by
  rw[if_neg (cj (nw.st.dom m b q))];exact q
 have dat:∀ b o,ok.p b->H b=wj o->ok.p b/\H b=wj o:=fun b o k e=>⟨k,e⟩;refine⟨⟨ok.p,fun m=>if m=ω.length then wj P else ok.al m⟩,⟨⟨nw.ex.dat,fun m b q=>ids m b (nw.ex.ids m b q),nw.ex.frm,fun m b q=> ?_,nw.ex.keep,nw.ex.sub,nw.ex.frz⟩,⟨nw.okh.fn,nw.okh.tp⟩,fun m ob q=> ?_,fun m b q=> ?_,fun m m' b q q'=> ?_,fun m b q k=> ?_⟩,.obj (by show(if ω.length=ω.length then wj P else _)=_;rw[if_pos rfl])⟩
 ·rcases al m b q with⟨_,rfl⟩|⟨_,q⟩
  ·exact .inr h1
  ·exact nw.ex.new m b q
 ·by_cases hm:m<ω.length
  ·rw[aj hm] at q;obtain⟨b,e1,c⟩:=nw.st.cell m ob q;exact⟨b,ids m b e1,c.mono dat ids fun _ z=>z⟩
  ·have hm':m=ω.length:=by
    have:=(bg.mp q).1
    simp at this;omega
   subst hm';rw[dc (bf _)] at q;simp at q;subst q;exact⟨P,by show(if ω.length=ω.length then wj P else _)=_;rw[if_pos rfl],vs,hP,Reps.mono (ok':=⟨ok.p,fun m=>if m=ω.length then wj P else ok.al m⟩) dat ids rs⟩
 ·rw[b7,kt];rcases al m b q with⟨rfl,_⟩|⟨_,q⟩
  ·omega
  ·have:=nw.st.dom m b q
   omega
 ·rcases al m b q with⟨rfl,rfl⟩|⟨_,qa⟩ <;> rcases al m' b q' with⟨rfl,w⟩|⟨_,qb⟩
  ·rfl
  ·exact absurd qb (na m')
  ·rw[w] at qa;exact absurd qa (na m)
  ·exact nw.st.inj m m' b qa qb
 ·rcases al m b q with⟨_,rfl⟩|⟨_,q⟩
  ·exact np k
  ·exact nw.st.nok m b q k
theorem zZ (h:compLO bd chk t f (d::ds) ρ ω=wj (ys,ω')):
  chk ω=true/\∃ ρ1 k ω1,bd d ρ=wj ρ1/\t ρ1 ω=wj (.ok k,ω1)/\((k=true/\∃ y zs ω2,f ρ1 ω1=wj (.ok y,ω2)/\compLO bd chk t f ds ρ1 ω2=wj (zs,ω')/\ys=y::zs)∨(k=false/\compLO bd chk t f ds ρ1 ω1=wj (ys,ω'))):=by
 obtain⟨hc,h⟩:=cR (show(if chk ω=true then _ else wk)=_ from h);obtain⟨ρ1,e1,h⟩:=aR h;refine⟨hc,ρ1,?_⟩;split at h
 ·rename_i k ω1 e2
  refine⟨k,ω1,e1,e2,?_⟩;cases k with
  |true=>
   rw[if_pos rfl] at h;split at h
   ·rename_i y ω2 e3
    obtain⟨⟨zs,ω3⟩,e4,e5⟩:=aJ h;cases e5;exact .inl ⟨rfl,y,zs,ω2,e3,e4,rfl⟩
   ·cases h
  |false=>
   rw[if_neg cg] at h;exact .inr ⟨rfl,h⟩
 ·cases h
section
variable {X:Cx}{cls:Nat->ae}{E:XE}{tg iter elt:bt}{ifs:List bt}{scope:j7}{N':List Str}{caps:List (Option Nat)}{fi:OI'}{bd:BR}{t:OG Bool}{f:OG D}{pos:Pos}{fin:Om->List D->Option (D×Om)}
theorem tO.comp {K:aa} (Fn:Fin fin) (h:tO cls K (dJ fin fi caps bd t f) E σ H Q):IE (tOI cls K fi E) caps (gR K bd) (tOT cls K t EF) (tO cls K f EF) σ H Q:=by
 obtain⟨ok,ρ,ω,r,ω',P,e,q⟩:=h;rcases jV e with⟨c,e1,rfl⟩|⟨⟨ds,chk⟩,ω1,e1,e2⟩
 ·exact⟨ok,ρ,ω,.ex c,ω',P,e1,q⟩
 ·refine⟨ok,ρ,ω,.ok (ds,chk),ω1,P,e1,fun J ok1 H1 n1 it A hA=> ?_⟩;have P1:=P.nw n1;obtain⟨hz,e2⟩:=cR (show(if ds.length<=sizeLine then _ else wk)=_ from e2);obtain⟨⟨out,ωf⟩,e3,e4⟩:=aR e2;obtain⟨d,e5,rfl⟩:=cQ e4
  -- ahead of the first turn:the list that is filled stands apart
  have start:Nw cls K ok1 H1 ⟨fun b=>ok1 b/\b≠A,ok1.al⟩ (upd H1 A (.lst [])) ω1:=by
   have dat:∀ b o,ok1.p b->H1 b=wj o->(ok1.p b/\b≠A)/\upd H1 A (.lst []) b=wj o:=fun b o k e=>⟨⟨k,aN e hA⟩,by rw[aG (aN e hA)];exact e⟩;refine⟨⟨dat,fun _ _ z=>z,fun b o z _=>by rw[aG (aN z hA)];exact z,fun _ _ z=>.inl z,fun b z=> ?_,fun b k=>.inl k.1,fun b x u z=>by rw[aG (aN z hA)];exact z⟩,⟨fun b z=> ?_,fun b xs z=> ?_⟩,fun n ob z=> ?_,P1.st.dom,P1.st.inj,fun n a z k=>P1.st.nok n a z k.1⟩
   ·by_cases hb:b=A
    ·rw[hb];exact hA
    ·rw[aG hb] at z;exact z
   ·have hb:b≠A:=fun w=>by rw[w,aQ] at z;cases z
    rw[aG hb] at z;exact⟨P1.okh b z,hb⟩
   ·have hb:b≠A:=fun w=>by rw[w,aQ] at z;cases z
    rw[aG hb] at z;exact⟨P1.okh.tp b xs z,hb⟩
   ·obtain⟨a,z1,c⟩:=P1.st.cell n ob z;exact⟨a,z1,c.mono dat (fun _ _ z=>z) fun o w=>by rw[aG (aN w hA)];exact w⟩
  refine⟨fun i m σ' H'=>∃ ok' ωc ρ' vs acc rest,m=ds.length-i/\i<=ds.length/\Nw cls K ok1 H1 ok' H' ωc/\¬ ok'.p A/\(∀ n,ok'.al n≠wj A)/\H' A=wj (.lst vs)/\Reps K ok' H' vs acc/\EnvR K ok' H' σ' ρ'/\σ'.length=ρ'.length/\
   compLO bd chk t f (ds.drop i) ρ' ωc=wj (rest,ωf)/\acc++rest=out/\acc.length<=i,
   ⟨ds.length,_,ω1,Fw caps ρ,[],[],out,by simp,im _,start,fun k=>k.2 rfl,fun n z=> ?_,aQ,.nil,(P1.env.ex start.ex).cap caps,KR _ _ _,by simpa using e3,by simp,im _⟩,?_⟩
  ·obtain⟨_,_,c⟩:=P1.st.at_ (show ok1.al n=wj A from z);obtain⟨_,w,_⟩:=c.there;rw[hA] at w;cases w
  ·rintro i m σ' H' ⟨ok',ωc,ρ',vs,acc,rest,rfl,hi,nw,np,na,hv,ra,re,rl,ec,ea,hal⟩
   by_cases hlt:i<ds.length
   ·have hdrop:ds.drop i=ds[i]::ds.drop (i+1):=p8 hlt;rw[hdrop] at ec;obtain⟨hc,ρ1,k,ω2,b1,b2,hk⟩:=zZ ec;refine .inr ⟨it.go i ok' H' ωc nw hc hlt,fun x H'' y=> ?_⟩;obtain⟨s2,rx⟩:=it.yld i ok' H' ωc x H'' ds[i] nw hc y (by simp[hlt]);have nw2:Nw cls K ok' H' ok' H'' ωc:=.same nw.okh nw.st s2;refine⟨ok',ρ',ρ1,ds[i],re.same s2,rl,rx,b1,fun σ2 re2 rl2=> ?_⟩;refine⟨ok',ρ1,ωc,.ok k,ω2,⟨nw2.okh,nw2.st,re2,rl2⟩,b2,fun ok3 H3 nw3=> ?_⟩
    -- the list that is filled stays apart
    have apart:∀ {okx:Okk}{Hx:Hp}{ωx:Om},Nw cls K ok' H' okx Hx ωx->¬ okx.p A/\(∀ n,okx.al n≠wj A)/\Hx A=wj (.lst vs):=by
     intro okx Hx ωx nx;refine⟨fun z=> ?_,fun n z=> ?_,nx.ex.frm A _ hv na⟩
     ·rcases nx.ex.sub A z with z|z
      ·exact np z
      ·rw[hv] at z;cases z
     ·rcases nx.ex.new n A z with z|z
      ·exact na n z
      ·rw[hv] at z;cases z
    rcases hk with⟨rfl,yd,zs,ω4,b5,b6,rfl⟩|⟨rfl,b6⟩
    ·refine Ld ⟨ok3,ρ1,ω2,.ok yd,ω4,⟨nw3.okh,nw3.st,re2.ex nw3.ex,rl2⟩,b5,fun yv ok4 H4 nw4 ry=> ?_⟩;have nx:=nw2.trans (nw3.trans nw4);obtain⟨np4,na4,hv4⟩:=apart nx;have hvl:vs.length<sizeLine:=by
      rw[ra.length];omega
     have keep:∀ b o,ok4.p b->H4 b=wj o->ok4.p b/\upd H4 A (.lst (vs++[yv])) b=wj o:=fun b o k e=>⟨k,by rw[aG (show b≠A from fun w=>np4 (w ▸ k))];exact e⟩;have nwf:=nw.trans nx;refine⟨vs,ds.length-(i+1),hv4,hvl,by omega,ok4,ω4,ρ1,vs++[yv],acc++[yd],zs,rfl,hlt,?_,np4,na4,aQ,?_,?_,rl2,b6,by simpa using ea,by simp;omega⟩
     ·have nA:∀ {b:ae}{o:HO},H1 b=wj o->b≠A:=fun z=>aN z hA;refine⟨⟨fun b o k e=>⟨(nwf.ex.dat b o k e).1,by rw[aG (nA e)];exact(nwf.ex.dat b o k e).2⟩,nwf.ex.ids,fun b o e z=>by rw[aG (nA e)];exact nwf.ex.frm b o e z,nwf.ex.new,fun b e=> ?_,nwf.ex.sub,fun b x u z=>by rw[aG (nA z)];exact nwf.ex.frz b x u z⟩,⟨fun b e=> ?_,fun b xs e=> ?_⟩,fun n ob e=> ?_,nwf.st.dom,nwf.st.inj,nwf.st.nok⟩
      ·by_cases hb:b=A
       ·rw[hb];exact hA
       ·rw[aG hb] at e;exact nwf.ex.keep b e
      ·have hb:b≠A:=fun w=>by rw[w,aQ] at e;cases e
       rw[aG hb] at e;exact nwf.okh b e
      ·have hb:b≠A:=fun w=>by rw[w,aQ] at e;cases e
       rw[aG hb] at e;exact nwf.okh.tp b xs e
      ·obtain⟨a,z1,c⟩:=nwf.st.cell n ob e;exact⟨a,z1,c.mono keep (fun _ _ z=>z) fun o w=>by rw[aG (show a≠A from fun w'=>na4 n (w' ▸ z1))];exact w⟩
     ·exact((ra.ex nx.ex).snoc ry).mono keep
     ·intro j dj ej;obtain⟨w,a,r⟩:=(re2.ex (nw3.trans nw4).ex) j dj ej;exact⟨w,a,r.mono keep⟩
    ·have nx:=nw2.trans nw3;obtain⟨np4,na4,hv4⟩:=apart nx;exact Le ⟨ds.length-(i+1),by omega,ok3,ω2,ρ1,vs,acc,rest,rfl,hlt,nw.trans nx,np4,na4,hv4,ra.ex nx.ex,re2.ex nw3.ex,rl2,b6,ea,by omega⟩
   ·have ei:i=ds.length:=by omega
    subst ei;rw[va] at ec;obtain⟨hc,ec⟩:=bL (show(if chk ωc=true then wj ([],ωc) else wk)=_ from ec);cases ec;rw[c4] at ea;subst ea;refine .inl ⟨it.stop _ ok' H' _ nw hc (bf _),?_⟩;obtain⟨ok2,nw2,rr⟩:=Fn cls K ok1 ok' H1 H' _ ω' A vs acc d nw hA hv np na ra e5;exact q _ ok2 H' (n1.trans nw2) rr
noncomputable def Lb (X:Cx) (cls:Nat->ae) (E:XE) (ifs:List bt) (t:OG Bool):Prop:=Lh X ifs (tOT cls X.K t E)
theorem Gh:Lb X cls E [] (oPT kM):=fun pins s σ H Q I ⟨ok,ρ,ω,r,ω',P,e,q⟩=>by
 cases e;exact Kj pins s σ H Q I (q ok H (.refl P.okh P.st))
theorem Gg (h:OT X cls E c t):Lb X cls E [c] t:=Ki h
theorem JP (Fn:Fin fin) (C:Fv X scope N' caps) (hi:OI X cls E tg iter fi)
  (hb:∀ cells C fp pins s₀ H₀,PG (blk X N' scope cells C fp pins s₀ H₀) tg (gR X.K bd)/\Lb (blk X N' scope cells C fp pins s₀ H₀) cls EF ifs t/\OE (blk X N' scope cells C fp pins s₀ H₀) cls EF elt f)
  (hs:∀ x,ga iter X.env x=pure x:=by intro _;rfl):OE X cls E (.ListComp elt [⟨tg,iter,ifs,0⟩] scope pos) (dJ fin fi caps bd t f):=
 (Jf C.calm C.kind C.names C.free C.uniq C.cap hi hb hs).imp fun _ _ _ h=>tO.comp Fn h
theorem Jt (Fn:Fin fin) (hN:X.N.Nodup) (hiy:X.N[i]?=wj y) (hy:X.env.scope.names.lookup y=wj .local) (C:Fv X scope N' caps) (hi:OI X cls E tg iter fi)
  (hb:∀ cells C fp pins s₀ H₀,PG (blk X N' scope cells C fp pins s₀ H₀) tg (gR X.K bd)/\Lb (blk X N' scope cells C fp pins s₀ H₀) cls EF ifs t/\OE (blk X N' scope cells C fp pins s₀ H₀) cls EF elt f)
  (hsw:jd (.ListComp elt [⟨tg,iter,ifs,0⟩] scope pos) (wj (.Name y py)) spos.line X.env=pure true:=by rfl)
  (hs:∀ x,ga iter X.env x=pure x:=by intro _;rfl):OSt X cls E (.Assign [.Name y py] (.ListComp elt [⟨tg,iter,ifs,0⟩] scope pos) spos) (aX i (dJ fin fi caps bd t f)):=
 (IV hN hiy hy C.calm C.kind C.names C.free C.uniq C.cap hi hb hsw hs).imp fun D σ H ⟨ok,ρ,ω,o,ω',P,e,q⟩=>by
  refine tO.comp (fi:=fi) (caps:=caps) (bd:=bd) (t:=t) (f:=f) (E:=E) Fn ?_;refine tO.thenS P e q fun d ω1 v ok1 H1 e1 n1 P1 r1 q1=> ?_;cases e1;exact q1 ok1 H1 _ (.refl P1.okh P1.st) (P1.env.set P1.len r1 i) (by rw[ci,ci];exact P1.len)
end
structure FlyT (exC:Nat->ae) (c:Nat) (ea:ae) (T:ae) (h0:cx) (H:Hp) (h:cx):Prop where
 tr:∃(oe oT:Obj) (vs ts:Array af) (a0:af),h.get? ea=wj oe/\oe.cls=.ref (exC c)/\oe.data=.fields vs/\vs[0]?=wj a0/\vs[1]?=wj (.ref T)/\T≠ea/\h.get? T=wj oT/\oT.data=.fields ts/\ts[3]?=wj .none
 h0e:h0.get? ea=wk
 h0T:h0.get? T=wk
 He:H ea=wk
 HT:H T=wk
structure Raw (exC:Nat->ae) (c:Nat) (ea:ae) (h0:cx) (H:Hp) (h:cx):Prop where
 at_:∃ t,h.get? ea=wj { cls:=.ref (exC c),data:=.fields #[.ref t,.none,.none,.none,.bool false,.none] }
 h0e:h0.get? ea=wk
 He:H ea=wk
noncomputable def CX1 (P:db) (w:df) (exC:Nat->ae):CXT:=fun outer H s E e s'=>∃ c ea T H',e=.ref ea/\s'.os=s.os/\mq s'.gens/\Un (frs outer) [] H H' s.heap s'.heap/\HOk P w H' s'.heap/\FlyT exC c ea T s.heap H' s'.heap/\E (.ref (exC c)) wk H'
noncomputable def exK (exC:Nat->ae) (E:XE):XK:=fun cv _ H'=>∃ c,cv=.ref (exC c)/\E c H'
structure Exc (X:Cx) (exC:Nat->ae) (E:XE):Prop where
 fly:∀ c ea T H' pins σ' s',Inv X pins σ' H' s'->FlyT exC c ea T X.s₀.heap H' s'.heap->(∀ p∈X.pn,p.1≠ea/\p.1≠T)->E c H'->X.xe (.ref ea) s'
 ex:X.ex=[]
structure NX (X:Cx) (exC:Nat->ae) (E:XE):Prop where
 raw:∀ c ea H' pins σ' s',Inv X pins σ' H' s'->Raw exC c ea X.s₀.heap H' s'.heap->E c H'->X.xe (.ref ea) s'
 ex:X.ex=[]
noncomputable abbrev Pas (X:Cx) (exC:Nat->ae) (E:XE):Prop:=qL (CX1 X.prog X.w exC) X (exK exC E)
theorem OF:Pas X exC EF:=fun _ _ _ _ _ _ _ ⟨_,_,_,_,_,_,_,_,_,_,_,_,z⟩=>z.elim
theorem _root_.L2.Inv.pers (I:Inv X pins σ H s) (hx:X.ex=[]) (e:s.heap.get? b=wk):X.s₀.heap.get? b=wk:=by
 cases q:X.s₀.heap.get? b with
 |none=>rfl
 |some o=>
  obtain⟨o',z⟩:=I.base.there b o q (by rw[hx];simp);rw[e] at z;cases z
theorem Exc.pas (h:Exc X exC E):Pas X exC E:=fun pins σ H s e s' I ⟨c,ea,T,H',e1,os,bare,un,hok,fl,c',hc,hE⟩=>by
 subst e1;have I':Inv X pins σ H' s':=I.call' (ch:=[]) os un hok bare (fun b z=>absurd z (by simp));obtain⟨oe,oT,vs,ts,a0,g1,g2,g3⟩:=fl.tr;refine h.fly c' ea T H' pins σ s' I' ⟨⟨oe,oT,vs,ts,a0,g1,by rw[g2,hc],g3⟩,I.pers h.ex fl.h0e,I.pers h.ex fl.h0T,fl.He,fl.HT⟩ (fun p hp=> ?_) hE;obtain⟨w,_⟩:=I.pin p (dn _ hp);exact⟨fun z=>(by rw[z,fl.h0e] at w;cases w),fun z=>(by rw[z,fl.h0T] at w;cases w)⟩
noncomputable abbrev eU:=List D->Om->Option (Rz D×Om)
noncomputable def spO (cls exC:Nat->ae) (K:aa) (φ:eU):Sp:=fun vs H Q E=>∃(ok:Okk) (ω:Om) (ds:List D) (r:Rz D) (ω':Om),OkH ok H/\Stt cls K ok H ω/\Reps K ok H vs ds/\φ ds ω=wj (r,ω')/\match r with
 |.ok d=>∀ v ok' H',Nw cls K ok H ok' H' ω'->Rep K ok' H' v d->Q v H'
 |.ex c=>∀ ok' H',Nw cls K ok H ok' H' ω'->E (.ref (exC c)) wk H'
section
variable {X:Cx}{cls exC:Nat->ae}{E:XE}{e a b c o i value:bt}{es:List bt}{fa fb fo fi fv:OG D}{fl:OG (List D)}{pos p apos pos':Pos}{x m:Str}{cn k:Nat}{fn C:ae}{fd:jk}{ps:List Str}{φ:eU}
theorem spO.at {K:aa} (h1:OkH ok H) (st:Stt cls K ok H ω) (rs:Reps K ok H vs ds) (e:φ ds ω=wj (r,ω'))
  (hq:∀ d,r=.ok d->∀ v ok' H',Nw cls K ok H ok' H' ω'->Rep K ok' H' v d->Q v H') (hx:∀ c,r=.ex c->exR cls K ok H ω' E c):spO cls exC K φ vs H Q (exK exC E):=by
 refine⟨ok,ω,ds,r,ω',h1,st,rs,e,?_⟩;cases r with
 |ok d=>exact hq d rfl
 |ex c=>exact fun ok' H' n=>⟨c,rfl,hx c rfl ok' H' n⟩
noncomputable def bO (φ:eU) (fl:OG (List D)):OG D:=oB fl fun ds _ ω=>φ ds ω
theorem yP {K:aa}{r:Rz D}{Q:VK} (n1:Nw cls K ok H ok1 H1 ω1) (q:match r with
  |.ok d=>∀ v ok' H',Nw cls K ok H ok' H' ω'->Rep K ok' H' v d->Q v H'
  |.ex c=>exR cls K ok H ω' E c):∀ d,r=.ok d->∀ v ok' H',Nw cls K ok1 H1 ok' H' ω'->Rep K ok' H' v d->Q v H':=fun d z v ok' H' n r=>by
 subst z;exact q v ok' H' (n1.trans n) r
theorem yQ {K:aa}{r:Rz D}{Q:VK} (n1:Nw cls K ok H ok1 H1 ω1) (q:match r with
  |.ok d=>∀ v ok' H',Nw cls K ok H ok' H' ω'->Rep K ok' H' v d->Q v H'
  |.ex c=>exR cls K ok H ω' E c):∀ c,r=.ex c->exR cls K ok1 H1 ω' E c:=fun c z=>by
 subst z;exact exR.nw q n1
theorem JR (F:rP X.prog X.w X.K X.mg X.base (CX1 X.prog X.w exC) k fn fd ps (spO cls exC X.K φ)) (hr:Room k X.A) (hg:Gl X x) (hm:X.mg x=wj (.ref fn)) (hk:gn X.K (.ref fn)=true)
  (hb:Binds X.K fd ps []) (hx:Pas X exC E) (ha:OA X cls E (e::es) fl) (hdb:(x==("__debug__":Str))=false:=by decide) (he:av (e::es) X.env=(false,eval e X.env)::av es X.env:=by rfl) (hpl:(di pos (av es X.env)).any (·.1)=false:=by rfl):
  OE X cls E (.Call (.Name x p) (e::es) [] pos) (bO φ fl):=
 (Ji F hr hg hm hk hb .nil hx ha hdb he hpl).imp fun σ H Q ⟨ok,ρ,ω,r,ω',P,e,q⟩=>by
  refine tOA.then_ P e (fun c z=>by subst z;exact q) fun ds ω1 vs ok1 H1 e1 n1 P1 r1=> ?_;rw[c4];exact spO.at P1.okh P1.st r1 e1 (yP n1 q) (yQ (Q:=Q) n1 q)
noncomputable def Cg (c:Nat) (m:Str) (ω:Om) (d:D):Bool:=match cellOf ω d with
 |some (.ins c' fs)=>c'==c&&(fs.lookup m).isNone
 |_=>false
theorem wU {c:Nat} (h:Cg c m ω d=true):∃ n fs,d=.obj n/\ω[n]?=wj (.ins c fs)/\fs.lookup m=wk:=by
 unfold Cg at h;split at h
 ·rename_i c' fs hc
  obtain⟨n,rfl,e⟩:=dO hc;simp only[bp,beq_iff_eq,Option.isNone_iff_eq_none] at h;obtain⟨rfl,h⟩:=h;exact⟨n,fs,rfl,e,h⟩
 ·cases h
noncomputable def bJ (c:Nat) (m:Str) (φ:eU) (fo:OG D) (fl:OG (List D)):OG D:=oB fo fun d ρ ω=>if Cg c m ω d=true then oB fl (fun ds _ ω=>φ (d::ds) ω) ρ ω else wk
theorem JJ (ho:OE X cls E o fo) (hc:Cls X.K (cls cn)) (hm:HW X.K (cls cn) m fn) (F:rP X.prog X.w X.K X.mg X.base (CX1 X.prog X.w exC) k fn fd ps (spO cls exC X.K φ)) (hr:Room k X.A) (hb:Binds X.K fd ps []) (hx:Pas X exC E) (ha:OA X cls E (e::es) fl)
  (hst:av (e::es) X.env=(false,eval e X.env)::av es X.env:=by rfl) (hpl:(di pos (av es X.env)).any (·.1)=false:=by rfl)
  (ht:eval (.Call (.Attribute o m apos) (e::es) [] pos) X.env=(do
   let ov <- eval o X.env
   mr apos.atName
   let (f,first) <- holding [ov] (l8 ov m pl)
   qh pos f first (di pos (av (e::es) X.env)) (jy pos (io [] X.env))):=by rfl):
  OE X cls E (.Call (.Attribute o m apos) (e::es) [] pos) (bJ cn m φ fo fl):=
 (Jb (pl:=pl) ho hc hm F hr hb .nil hx ha hst hpl ht).imp fun σ H Q ⟨ok,ρ,ω,r,ω',P,e,q⟩=>by
  refine tO.then_ P e (fun c z=>by subst z;exact q) fun d ω1 v ok1 H1 e1 n1 P1 r1=> ?_;obtain⟨hi,e1⟩:=cR e1;obtain⟨n,fs,rfl,e2,e3⟩:=wU hi;obtain⟨a,rfl,e4,dx,vs,e5,kv⟩:=P1.st.ref r1 e2;refine⟨a,dx,vs,rfl,e5,kv.look_none e3,?_⟩;refine tOA.then_ P1 e1 (fun c z=>by subst z;exact exR.nw q n1) fun ds ω2 us ok2 H2 e6 n2 P2 r2=> ?_;rw[c4];exact spO.at P2.okh P2.st (.cons (r1.ex n2.ex) r2) e6 (yP (n1.trans n2) q) (yQ (Q:=Q) (n1.trans n2) q)
theorem Gj (ho:OE X cls E o fo) (hc:Cls X.K (cls cn)) (hm:HW X.K (cls cn) m fn) (F:rP X.prog X.w X.K X.mg X.base (CX1 X.prog X.w exC) k fn fd ps (spO cls exC X.K φ)) (hr:Room k X.A) (hb:Binds X.K fd ps []) (hx:Pas X exC E)
  (ht:eval (.Call (.Attribute o m apos) [] [] pos) X.env=(do
   let ov <- eval o X.env
   mr apos.atName
   let (f,first) <- holding [ov] (l8 ov m pl)
   qh pos f first (di pos (av [] X.env)) (jy pos (io [] X.env))):=by rfl):
  OE X cls E (.Call (.Attribute o m apos) [] [] pos) (bJ cn m φ fo aP):=
 (FY (pl:=pl) ho hc hm F hr hb .nil hx ht).imp fun σ H Q ⟨ok,ρ,ω,r,ω',P,e,q⟩=>by
  refine tO.then_ P e (fun c z=>by subst z;exact q) fun d ω1 v ok1 H1 e1 n1 P1 r1=> ?_;obtain⟨hi,e1⟩:=cR e1;obtain⟨n,fs,rfl,e2,e3⟩:=wU hi;obtain⟨a,rfl,e4,dx,vs,e5,kv⟩:=P1.st.ref r1 e2;refine⟨a,dx,vs,rfl,e5,kv.look_none e3,?_⟩;have e6:φ [.obj n] ω1=wj (r,ω'):=e1;exact spO.at P1.okh P1.st (.cons r1 .nil) e6 (yP n1 q) (yQ (Q:=Q) n1 q)
noncomputable def uC (c:Nat) (φ:eU) (fl:OG (List D)):OG D:=oB fl fun ds _ ω=>match φ (.obj ω.length::ds) (ω++[.ins c []]) with
 |some (.ok .non,ω')=>wj (.ok (.obj ω.length),ω')
 |some (.ex c,ω')=>wj (.ex c,ω')
 |_=>wk
theorem JL (M:Mk X.K (cls cn) fn) (F:rP X.prog X.w X.K X.mg X.base (CX1 X.prog X.w exC) k fn fd ps (spO cls exC X.K φ)) (hr:Room (k+1) X.A) (hg:Gl X x) (hm:X.mg x=wj (.ref (cls cn))) (hb:Binds X.K fd ps []) (hx:Pas X exC E)
  (ha:OA X cls E (e::es) fl) (hdb:(x==("__debug__":Str))=false:=by decide) (he:av (e::es) X.env=(false,eval e X.env)::av es X.env:=by rfl) (hpl:(di pos (av es X.env)).any (·.1)=false:=by rfl):
  OE X cls E (.Call (.Name x p) (e::es) [] pos) (uC cn φ fl):=
 (Jc M F hr hg hm hb .nil hx ha hdb he hpl).imp fun σ H Q ⟨ok,ρ,ω,r,ω',P,e,q⟩=>by
  refine tOA.then_ P e (fun c z=>by subst z;exact q) fun ds ω1 vs ok1 H1 e1 n1 P1 r1=> ?_;intro a dx na ndx hne;rw[c4];have n2:Nw cls X.K ok1 H1 ok1 (upd H1 dx (.own a)) ω1:=.same P1.okh P1.st (cM ndx);have n3:Nw cls X.K ok1 (upd H1 dx (.own a)) (okN ok1 ω1.length a) (upd (upd H1 dx (.own a)) a (.ins (cls cn) dx [])) (ω1++[.ins cn []]):=
   Nw.make n2.okh n2.st (by rw[aG (bv hne)];exact na) ⟨dx,[],aQ,.nil⟩
  have n4:=n1.trans (n2.trans n3);have rs:Reps X.K (okN ok1 ω1.length a) (upd (upd H1 dx (.own a)) a (.ins (cls cn) dx [])) (.ref a::vs) (.obj ω1.length::ds):=.cons .new_obj ((r1.ex n2.ex).ex n3.ex);cases eφ:φ (.obj ω1.length::ds) (ω1++[.ins cn []]) with
  |none=>rw[eφ] at e1;cases e1
  |some pr=>
   obtain⟨rz,ω2⟩:=pr;rw[eφ] at e1;refine⟨_,_,_,rz,ω2,n3.okh,n3.st,rs,eφ,?_⟩;cases rz with
   |ex c=>
    cases e1;exact fun ok' H' n=>⟨c,rfl,q ok' H' (n4.trans n)⟩
   |ok d=>
    cases d with
    |non=>
     cases e1;refine fun v ok' H' n rv=>⟨rv.non_inv,q _ ok' H' (n4.trans n) (.obj (n.ex.ids _ _ ?_))⟩
     show(if ω1.length=ω1.length then wj a else _)=_
     rw[if_pos rfl]
    |_=>cases e1
end
theorem _root_.L2.HOk.obj (x:HOk P w H h) (e:H a=wj o):∃ u,h.get? a=wj u:=by
 have z:=x a o e;cases o with
 |lst xs=>obtain⟨_,_,_,_,e⟩:=z;exact⟨_,e⟩
 |tup xs=>obtain⟨_,_,_,o,e,_⟩:=z;exact⟨_,e⟩
 |dK kvs=>obtain⟨_,_,_,_,o,_,_,e,_⟩:=z;exact⟨_,e⟩
 |dT kvs=>obtain⟨_,_,_,_,o,_,_,e,_⟩:=z;exact⟨_,e⟩
 |set S n=>obtain⟨o,_,_,_,e,_⟩:=z;exact⟨_,e⟩
 |ins C dx fs=>obtain⟨_,_,_,e,_⟩:=z;exact⟨_,e⟩
 |own y=>exact z
 |xd fs=>obtain⟨_,⟨_,_,_,e,_⟩,_⟩:=z;exact⟨_,e⟩
 |rng lo hi=>obtain⟨_,_,_,e⟩:=z;exact⟨_,e⟩
 |frz ob u=>obtain⟨e,_⟩:=z;exact⟨_,e⟩
 |tbl ps=>exact⟨_,show h.get? a=wj _ from z⟩
 |met f y=>exact⟨_,show h.get? a=wj _ from z⟩
 |ext φ=>exact z.2.1
structure Pass (fs:List ae) (ea T:ae) (h h':cx):Prop where
 keep:∀ b o,h.get? b=wj o->b∉fs->b≠ea->b≠T->h'.get? b=wj o
 slot:∀ b o,h.get? b=wj o->b∈fs->∃ sl,h'.get? b=wj { o with slots:=sl }
theorem uN {h base base':cx}:∀ {l:List Env},h.FunFrames base l->(∀ b∈frs l,base'.get? b=wk)->h.FunFrames base' l
 |[],_,_=>trivial
 |env::r,⟨hk,⟨L,o,hf,hn,ho,hd⟩,hr⟩,n=>by
  refine⟨hk,⟨L,o,hf,n L ?_,ho,hd⟩,uN hr fun b hb=>n b ?_⟩
  ·unfold frs;rw[j8,hf];exact aq
  ·unfold frs at hb ⊢;rw[j8,hf];exact ag _ hb
section
variable {M:Model}{A:dh}{E:af->am->Prop}{s:am}{env:Env}{outer:List Env}{base h0:cx}{H:Hp}{exC:Nat->ae}{c:Nat}{ea T L:ae}{Q:Unit->am->Prop}{P:db}{w:df}
theorem zM (hok:HOk P w H s.heap) (h0p:∀ b,s.heap.get? b=wk->h0.get? b=wk) (hb:∀ b,base'.get? b=wk->b=ea∨b=T∨b∈frs l∨s.heap.get? b=wk)
  (hl:h'.FunFrames base' l) (tr:h'.TracedW base' ea cls a0) (hc:cls=.ref (exC c)) (n1:h0.get? ea=wk) (n2:H ea=wk) (n3:h0.get? T=wk) (n4:H T=wk):∃ T',FlyT exC c ea T' h0 H h'/\(T'=T∨s.heap.get? T'=wk):=by
 obtain⟨oe,vs,T',oT,ts,e1,⟨e2,e3⟩,e4,e5,e6,e7,e8,e9,e10⟩:=tr;have hT:T'=T∨s.heap.get? T'=wk:=by
  rcases hb T' e6 with z|z|z|z
  ·exact absurd z e7
  ·exact .inl z
  ·obtain⟨_,o,q1,q2⟩:=hl.mem z;rw[e8] at q1;cases q1;exact absurd e9 (q2 ts)
  ·exact .inr z
 refine⟨T',⟨⟨oe,oT,vs,ts,a0,e1,by rw[e2,hc],e4,e3,e5,e7,e8,e9,e10⟩,n1,?_,n2,?_⟩,hT⟩
 ·rcases hT with rfl|z
  ·exact n3
  ·exact h0p _ z
 ·rcases hT with rfl|z
  ·exact n4
  ·cases q:H T' with
   |none=>rfl
   |some o=>
    obtain⟨u,w⟩:=hok.obj q;rw[z] at w;cases w
theorem zD (e:(fu h l).get? b=wk):b∈l∨h.get? b=wk:=by
 by_cases hb:b∈l
 ·exact .inl hb
 ·right;cases q:h.get? b with
  |none=>rfl
  |some o=>
   rw[j6 l q hb] at e;cases e
theorem DZ (hfr:A.frames=wj (env::outer)) (hf:env.frame=wj L) (funs:s.heap.FunFrames base (env::outer)) (hok:HOk P w H s.heap) (h0p:∀ b,s.heap.get? b=wk->h0.get? b=wk) (fl:FlyT exC c ea T h0 H s.heap)
  (hQ:∀ h' T',Pass (frs (env::outer)) ea T s.heap h'->FlyT exC c ea T' h0 H h'->(T'=T∨s.heap.get? T'=wk)->Q () { s with heap:=h' }):ay M A (leaving env (.ref ea)) Q E s:=by
 obtain⟨oe,oT,vs,ts,a0,e1,e2,e3,e4,e5,e6,e7,e8,e9⟩:=fl.tr;have nF:∀ b∈frs (env::outer),(fu s.heap (ea::T::frs (env::outer))).get? b=wk:=fun b hb=>fw _ (ag _ (ag _ hb));have hb0:∀ b,(fu s.heap (ea::T::frs (env::outer))).get? b=wk->b=ea∨b=T∨b∈frs (env::outer)∨s.heap.get? b=wk:=fun b z=>by
  rcases zD z with z|z
  ·rcases ai.mp z with z|z
   ·exact .inl z
   ·rcases ai.mp z with z|z
    ·exact .inr (.inl z)
    ·exact .inr (.inr (.inl z))
  ·exact .inr (.inr (.inr z))
 refine wpAny_leaving_nextW (base:=fu s.heap (ea::T::frs (env::outer))) (cls:=.ref (exC c)) (a0:=a0) hfr (uN funs nF) hf ?_ (fun b o z=>l0 _ z) (fw _ aq) fun h' hL=> ?_
 ·exact⟨oe,vs,T,oT,ts,e1,⟨e2,e4⟩,e3,e5,fw _ (ag _ aq),e6,e7,e8,e9⟩
 ·obtain⟨k1,k2,k3,k4⟩:=hL;obtain⟨T',f1,f2⟩:=zM (T:=T) hok h0p hb0 k2 k3 rfl fl.h0e fl.He fl.h0T fl.HT;refine hQ h' T' ⟨fun b o z n1 n2 n3=>k1 b o (j6 _ z ?_),fun b o z hb=> ?_⟩ f1 f2
  ·intro hm;rcases ai.mp hm with hm|hm
   ·exact n2 hm
   ·rcases ai.mp hm with hm|hm
    ·exact n3 hm
    ·exact n1 hm
  ·obtain⟨_,o',q1,q2⟩:=funs.mem hb;rw[z] at q1;cases q1;exact k4 b o z q2
theorem DY (hfr:A.frames=wj (env::outer)) (hf:env.frame=wj L) (funs:s.heap.FunFrames base (env::outer)) (hok:HOk P w H s.heap) (h0p:∀ b,s.heap.get? b=wk->h0.get? b=wk) (fl:Raw exC c ea h0 H s.heap)
  (hQ:∀ h' T',Pass (frs (env::outer)) ea ea s.heap h'->FlyT exC c ea T' h0 H h'->s.heap.get? T'=wk->Q () { s with heap:=h' }):ay M A (leaving env (.ref ea)) Q E s:=by
 obtain⟨t,e1⟩:=fl.at_;have nF:∀ b∈frs (env::outer),(fu s.heap (ea::frs (env::outer))).get? b=wk:=fun b hb=>fw _ (ag _ hb);have hb0:∀ b,(fu s.heap (ea::frs (env::outer))).get? b=wk->b=ea∨b=ea∨b∈frs (env::outer)∨s.heap.get? b=wk:=fun b z=>by
  rcases zD z with z|z
  ·rcases ai.mp z with z|z
   ·exact .inl z
   ·exact .inr (.inr (.inl z))
  ·exact .inr (.inr (.inr z))
 refine wpAny_leaving_firstW (base:=fu s.heap (ea::frs (env::outer))) (a0:=.ref t) hfr (uN funs nF) hf e1 (fun b o z=>l0 _ z) (fw _ aq) rfl rfl rfl fun h' hL=> ?_;obtain⟨k1,k2,k3,k4⟩:=hL;obtain⟨T',f1,f2⟩:=zM (T:=ea) (c:=c) (exC:=exC) hok h0p hb0 k2 k3 rfl fl.h0e fl.He fl.h0e fl.He;have hTe:T'≠ea:=by obtain⟨_,_,_,_,_,_,_,_,_,_,z,_⟩:=f1.tr;exact z
 refine hQ h' T' ⟨fun b o z n1 n2 n3=>k1 b o (j6 _ z ?_),fun b o z hb=> ?_⟩ f1 (f2.resolve_left hTe)
 ·intro hm;rcases ai.mp hm with hm|hm
  ·exact n2 hm
  ·exact n1 hm
 ·obtain⟨_,o',q1,q2⟩:=funs.mem hb;rw[z] at q1;cases q1;exact k4 b o z q2
end
theorem exc_def {K:aa}:
  Exc (zY (CX1 P w exC) P w K mg base N qual scope f cd A outer s H E) exC (fun c H'=>E (.ref (exC c)) wk H')/\NX (zY (CX1 P w exC) P w K mg base N qual scope f cd A outer s H E) exC (fun c H'=>E (.ref (exC c)) wk H'):=by
 have main:∀ {pins:List (ae×Obj)}{σ':St}{H':Hp}{s':am}{c:Nat}{ea T T':ae}{h'':cx},Inv (zY (CX1 P w exC) P w K mg base N qual scope f cd A outer s H E) pins σ' H' s'->
   s.heap.get? ea=wk->s.heap.get? T=wk->H' ea=wk->H' T=wk->Pass (frs (je qual scope s.heap.objs.size f cd::outer)) ea T s'.heap h''->FlyT exC c ea T' s.heap H' h''->E (.ref (exC c)) wk H'->
   CX1 P w exC outer H s E (.ref ea) { s' with heap:=h'' }:=fun {pins σ' H' s' c ea T T' h''} I n1 n2 n3 n4 ps fl hE=>by
  have nofr:∀ b u,H' b=wj u->b∉frs (je qual scope s.heap.objs.size f cd::outer):=fun b u e z=>by
   have:=I.stkFree b z
   rw[e] at this;cases this
  have kb:∀ b u v,H' b=wj u->s'.heap.get? b=wj v->h''.get? b=wj v:=fun b u v e z=>ps.keep b v z (nofr b u e) (fun q=>by rw[q,n3] at e;cases e) fun q=>by rw[q,n4] at e;cases e
  have old:∀ {b:ae}{o:Obj},s.heap.get? b=wj o->b≠ea/\b≠T:=fun {b o} z=>⟨fun q=>(by rw[q,n1] at z;cases z),fun q=>(by rw[q,n2] at z;cases z)⟩;have fr1:∀ b,b∈frs (je qual scope s.heap.objs.size f cd::outer)->b=s.heap.objs.size∨b∈frs outer:=fun b hb=>by
   have hb':b∈s.heap.objs.size::frs outer:=hb;exact ai.mp hb'
  have nx:∀ b:ae,b∉(zY (CX1 P w exC) P w K mg base N qual scope f cd A outer s H E).ex:=fun b z=>absurd (show b∈([]:List ae) from z) (by simp);refine⟨c,ea,T',H',rfl,I.os,I.bare,⟨fun b o e n hb _=> ?_,fun b o e n hb _=> ?_,fun b o e n _=>I.base.free b o e n (nx b),fun b o e _=> ?_,I.base.tups,I.base.frzs,I.base.tbls⟩,fun b u e=> ?_,fl,hE⟩
  ·have z:=I.base.keep b o e n hb (nx b);refine ps.keep b o z (fun hm=> ?_) (old e).1 (old e).2;rcases fr1 b hm with q|q
   ·exact absurd (bj e) (by rw[q];exact gk _)
   ·exact hb q
  ·obtain⟨sl,z⟩:=I.base.slot b o e n hb (nx b);obtain⟨sl2,z2⟩:=ps.slot b _ z (show b∈s.heap.objs.size::frs outer from ag _ hb);exact⟨sl2,z2⟩
  ·obtain⟨o',z⟩:=I.base.there b o e (nx b)
   by_cases hm:b∈frs (je qual scope s.heap.objs.size f cd::outer)
   ·obtain⟨sl2,z2⟩:=ps.slot b _ z hm;exact⟨_,z2⟩
   ·exact⟨_,ps.keep b o' z hm (old e).1 (old e).2⟩
  ·refine(I.hok b u e).stay (fun c v hc q=> ?_) (fun _ q=>q) fun _ _ q=>q;rcases hc with rfl|hc
   ·exact kb c u v e q
   ·exact kb c _ v hc q
 refine⟨⟨fun c ea T H' pins σ' s' I fl _ hE=> ?_,rfl⟩,⟨fun c ea H' pins σ' s' I fl hE=> ?_,rfl⟩⟩
 ·exact DZ (L:=s.heap.objs.size) I.ok.frames rfl I.stack I.hok (fun b z=>I.pers rfl z) fl fun h'' T' ps fl' _=>main I fl.h0e fl.h0T fl.He fl.HT ps fl' hE
 ·exact DY (L:=s.heap.objs.size) I.ok.frames rfl I.stack I.hok (fun b z=>I.pers rfl z) fl fun h'' T' ps fl' _=>main I fl.h0e fl.h0e fl.He fl.He ps fl' hE
noncomputable def cF (N:List Str) (ds:List D):Rho:=ds.map wj++ar (N.length-ds.length) wk
theorem BH {K:aa} (r:Reps K ok H vs ds):EnvR K ok H (start N vs) (cF N ds)/\(start N vs).length=(cF N ds).length:=by
 refine⟨fun i d e=> ?_,?_⟩
 ·unfold cF at e
  by_cases hi:i<ds.length
  ·rw[aj (by simpa using hi),ax] at e;obtain⟨d',e1,e2⟩:=aJ e;cases e2;obtain⟨v,e3,r'⟩:=r.get e1;have hv:i<vs.length:=(bg.mp e3).1;refine⟨v,?_,r'⟩;unfold start;rw[aj (by simpa using hv),ax,e3];rfl
  ·rw[dc (by simpa using hi),fm] at e;split at e <;> cases e
 ·unfold start cF;rw[b7,b7,ao,ao,ji,ji,r.length]
noncomputable def eC (n:Nat) (N:List Str) (G:OS):eU:=fun ds ω=>if ds.length=n then(match G (cF N ds) ω with
 |some (.rt d,ω')=>wj (.ok d,ω')
 |some (.nx _,ω')=>wj (.ok .non,ω')
 |some (.ex c,ω')=>wj (.ex c,ω')
 |_=>wk) else wk
theorem QG {K:aa}{st:cr} (F:Fun K x qual st f fd) (S:kL N ps (bG st))
  (hbody:∀(cdv:af) (A:dh) (outer:List Env) (s:am) (H:Hp) (E:XK),Room k (A.deeper (je qual (bG st) s.heap.objs.size f cdv))->Exc (zY (CX1 P w exC) P w K mg base N qual (bG st) f cdv A outer s H E) exC (fun c H'=>E (.ref (exC c)) wk H')->NX (zY (CX1 P w exC) P w K mg base N qual (bG st) f cdv A outer s H E) exC (fun c H'=>E (.ref (exC c)) wk H')->
   OSs (zY (CX1 P w exC) P w K mg base N qual (bG st) f cdv A outer s H E) cls (fun c H'=>E (.ref (exC c)) wk H') (fV st) G):rP P w K mg base (CX1 P w exC) (k+1) f fd ps (spO cls exC K (eC ps.length N G)):=by
 obtain⟨oc,od,kV,doc,pm,an,cdv,ct,osl,rfl,lk,hcd⟩:=F.ex;have len:∀ vs H Q E,spO cls exC K (eC ps.length N G) vs H Q E->vs.length=ps.length:=fun vs H Q E ⟨ok,ω,ds,r,ω',h1,h2,h3,h4,h5⟩=>by
  rw[h3.length];exact(cR (show(if ds.length=ps.length then _ else wk)=_ from h4)).1
 refine Pj lk hcd S len fun A outer s H vs Q E hr hsp=> ?_;obtain⟨ok,ω,ds,r,ω',h1,h2,h3,h4,h5⟩:=hsp;refine⟨_,hbody cdv A outer s H E hr exc_def.1 exc_def.2,?_⟩;obtain⟨_,h4⟩:=cR (show(if ds.length=ps.length then _ else wk)=_ from h4);obtain⟨e1,e2⟩:=BH (N:=N) h3;cases q:G (cF N ds) ω with
 |none=>rw[q] at h4;cases h4
 |some pr=>
  obtain⟨o,ω2⟩:=pr;rw[q] at h4;refine⟨ok,cF N ds,ω,o,ω2,⟨h1,h2,e1,e2⟩,q,?_⟩;cases o with
  |rt d=>cases h4;exact fun v ok' H' n rv=>h5 v ok' H' n rv
  |nx ρ=>cases h4;exact fun ok' H' σ' n _ _=>h5 .non ok' H' n .non
  |ex c=>cases h4;exact fun ok' H' n=>h5 ok' H' n
  |bk ρ=>cases h4
  |ct ρ=>cases h4
noncomputable abbrev BC:List af:=[.type "ValueError",.type "Exception",.type "BaseException",.type "object"]
noncomputable def ownIn (K:aa) (C:ae) (tl:List af):Prop:=∃(dd:Option ae) (cd:ClassData) (k0 k1 k2 k3 k5:Option af),K.lookup C=wj ⟨.type "type",dd,.cls cd,#[k0,k1,k2,k3,wj (.builtin "ValueError.__new__"),k5]⟩/\
 cd.mro=.ref C::tl/\cd.hasDel=false/\mt K BC tl=true/\ku K cd.ns=true/\cm K cd.ns "__init__"=wj wk
theorem Dv {K:aa} (X:K.In h) (q:ownIn K C tl):∃(nm qn:Str) (N:ae) (bs:List af) (hdct:Bool) (sn:List Str) (sub:List af) (ab:Bool) (col:Option Bool) (dd:Option ae) (k0 k1 k2 k3 k5:Option af) (mN:Str->Option af),
  h.get? C=wj (excClassObj nm qn C N bs tl hdct sn sub ab col dd k0 k1 k2 k3 k5 "ValueError.__new__")/\h.Ns N mN/\mN "__init__"=wk/\OwnTail h BC tl:=by
 obtain⟨dd,cd,k0,k1,k2,k3,k5,hl,hm,hd,ht,hn,hi⟩:=q;obtain⟨a1,a2,a3,a4,a5,a6,a7,a8,a9,b1,b2⟩:=cd;dsimp only at hm hd hn hi;subst hm hd;exact⟨a1,a5,a4,a2,a6,a7,a8,a9,b1,dd,k0,k1,k2,k3,k5,_,X _ _ hl,.of_isNs (PySem.W.isNs_of_in X hn),PySem.W.nsMap_none_of_in X hn hi,PySem.W.tail_of_in X ht⟩
noncomputable def AH (c:Nat) (f:DF):OS:=fun ρ ω=>(f ρ).map fun _=>(.ex c,ω)
section
variable {X:Cx}{cls exC:Nat->ae}{E:XE}{e:bt}{f:DF}{pos np cpos:Pos}{x:Str}{c:Nat}{tl:List af}
theorem AO (hc:X.calm=true) (hx:NX X exC E) (hg:Gl X x) (hm:X.mg x=wj (.ref (exC c))) (hq:ownIn X.K (exC c) tl) (he:DE X e f) (hdb:(x==("__debug__":Str))=false:=by decide)
  (hst:av [e] X.env=(false,eval e X.env)::av [] X.env:=by rfl) (hpl:(di cpos (av [e] X.env)).any (·.1)=false:=by rfl):
  OSt X cls E (.Raise (wj (.Call (.Name x np) [e] [] cpos)) wk pos) (AH c f):=by
 rintro pins s σ H D I ⟨ok,ρ,ω,o,ω',P,e0,q⟩;obtain⟨d,e1,e2⟩:=aJ e0;cases e2;obtain⟨nm,qn,N,bs,hdct,sn,sub,ab,col,dd,k0,k1,k2,k3,k5,mN,hC,hN,hni,T⟩:=Dv I.mod.kin hq;refine wpAny_Raise_call_subT (C:=exC c) (N:=N) (bm:=tl) (hdct:=hdct) (sn:=sn) (sub:=sub) (ab:=ab) (col:=col) (dd:=dd) (k0:=k0) (k1:=k1) (k2:=k2) (k3:=k3) (k5:=k5) (nm:=nm) (q:=qn) (bs:=bs)
  PySem.F.excBase_ValueError (mN:=mN) (T.hasType rfl) (I.ok.hd hc) hpl hni (uH I hg hm ⟨rfl,?_⟩ hdb)
 have ha:=(KJ he NC hst:DA X [e] (KN f Pr)) cpos pins s σ H (fun vs H'=>vs.length<=sizeLine/\Same H H') I
  ⟨ok,ρ,[d],P.okh,P.env,by unfold KN Pr;rw[e1];rfl,fun vs H' s' r=>⟨by rw[r.length];show 1<=sizeLine;decide,s'⟩⟩
 rw[hst] at ha ⊢;refine tf (thn ha fun us s2 ⟨vs,H2,I2,rv,hl,sm⟩=>⟨rfl,by show us.length<=_;rw[<- rv.length];exact hl,I2.bk _ _ hC,hN.keeps I2.bk,T.keeps I2.bk,fun h' ea hm'=> ?_⟩);have I3:Inv X pins σ H2 { s2 with heap:=h' }:=I2.kept (t':=s2.toks) hm'.keeps;obtain⟨t,z1,z2,z3⟩:=hm'.there;refine hx.raw c ea H2 pins σ _ I3 ⟨⟨t,z1⟩,I2.pers hx.ex hm'.new,?_⟩ (q ok H2 (.same P.okh P.st sm));cases w:H2 ea with
 |none=>rfl
 |some u=>
  obtain⟨u',w'⟩:=HOk.obj I2.hok w;rw[hm'.new] at w';cases w'
theorem _root_.L2.Inv.passed (I:Inv X pins σ H s) (hx:X.ex=[]) (ps:Pass (frs X.stack) ea T s.heap h') (n1:X.s₀.heap.get? ea=wk) (n2:X.s₀.heap.get? T=wk) (n3:H ea=wk) (n4:H T=wk)
  (hp:∀ p∈X.pn++pins,p.1≠ea/\p.1≠T) (hf:∀ b,(b=ea∨b=T)->∃ o vs,s.heap.get? b=wj o/\o.data=.fields vs):Inv X pins σ H { s with heap:=h' }:=by
 have nofr:∀ b u,H b=wj u->b∉frs X.stack:=fun b u e z=>by
  have:=I.stkFree b z
  rw[e] at this;cases this
 have any:∀ b o,s.heap.get? b=wj o->(∀ vs,o.data≠ .fields vs)->∃ sl,h'.get? b=wj { o with slots:=sl }:=fun b o e nf=>by
  by_cases hb:b∈frs X.stack
  ·exact ps.slot b o e hb
  ·refine⟨o.slots,ps.keep b o e hb (fun z=> ?_) fun z=> ?_⟩
   ·obtain⟨o',vs,w1,w2⟩:=hf b (.inl z);rw[e] at w1;cases w1;exact nf vs w2
   ·obtain⟨o',vs,w1,w2⟩:=hf b (.inr z);rw[e] at w1;cases w1;exact nf vs w2
 have kb:∀ b u v,H b=wj u->s.heap.get? b=wj v->h'.get? b=wj v:=fun b u v e z=>ps.keep b v z (nofr b u e) (fun q=>by rw[q,n3] at e;cases e) fun q=>by rw[q,n4] at e;cases e
 have old:∀ {b:ae}{o:Obj},X.s₀.heap.get? b=wj o->b≠ea/\b≠T:=fun {b o} z=>⟨fun q=>(by rw[q,n1] at z;cases z),fun q=>(by rw[q,n2] at z;cases z)⟩;have locf:∀ b,b∈frs X.stack->b=X.env.locals∨b∈X.fs:=fun b hb=>ai.mp (I.stkSub b hb);obtain⟨m,⟨oL,es,ep,hoL,hdL,rL⟩,lk⟩:=id I.loc;obtain⟨slL,hL⟩:=any _ oL hoL fun vs z=>by rw[hdL] at z;cases z
 refine⟨I.ok,I.os,I.bare,⟨fun b o e n hb hxx=> ?_,fun b o e n hb hxx=> ?_,I.base.free,fun b o e hxx=> ?_,I.base.tups,I.base.frzs,I.base.tbls⟩,⟨m,⟨_,es,ep,hL,hdL,rL⟩,fun i x v e1 e2 e3=> ?_⟩,fun x c e=> ?_,I.free,I.freeC,fun p hpp=> ?_,fun b u e=> ?_,I.len⟩
 ·have z:=I.base.keep b o e n hb hxx;refine ps.keep b o z (fun hm=> ?_) (old e).1 (old e).2;rcases locf b hm with q|q
  ·exact absurd (bj e) (by rw[q];exact tj.mpr I.ok.above)
  ·exact hb q
 ·obtain⟨sl,z⟩:=I.base.slot b o e n hb hxx
  by_cases hm:b∈frs X.stack
  ·obtain⟨sl2,z2⟩:=ps.slot b _ z hm;exact⟨sl2,z2⟩
  ·exact⟨sl,ps.keep b _ z hm (old e).1 (old e).2⟩
 ·obtain⟨o',z⟩:=I.base.there b o e hxx
  by_cases hm:b∈frs X.stack
  ·obtain⟨sl2,z2⟩:=ps.slot b _ z hm;exact⟨_,z2⟩
  ·exact⟨_,ps.keep b o' z hm (old e).1 (old e).2⟩
 ·obtain⟨u,ru,z⟩:=lk i x v e1 e2 e3;refine⟨u,ru,?_⟩;rcases z with z|⟨k,c,e,oc,w1,w2⟩
  ·exact .inl z
  ·obtain⟨sl,w3⟩:=any c oc w1 fun vs q=>by rw[w2] at q;cases q
   exact .inr ⟨k,c,e,_,w3,w2⟩
 ·obtain⟨v,oc,w1,w2⟩:=I.cell x c e;obtain⟨sl,w3⟩:=any c oc w1 fun vs q=>by rw[w2] at q;cases q
  exact⟨v,_,w3,w2⟩
 ·obtain⟨e,n,ne,nf,d⟩:=I.pin p hpp;refine⟨ps.keep p.1 p.2 e (fun hm=> ?_) (hp p hpp).1 (hp p hpp).2,n,ne,nf,d⟩;rcases locf p.1 hm with q|q
  ·exact ne q
  ·exact nf q
 ·refine(I.hok b u e).stay (fun c v hc q=> ?_) (fun _ q=>q) fun _ _ q=>q;rcases hc with rfl|hc
  ·exact kb c u v e q
  ·exact kb c _ v hc q
end
theorem rD {K:aa} (X:K.In s.heap) (q:ownIn K C tl) (q':ownIn K C' tl') (he:s.heap.get? ea=wj oe) (hc:oe.cls=.ref C)
  (h:Q ((b9 C::tl).contains (.ref C')) s):ay M A (excMatches (.ref ea) (.ref C')) Q E s:=by
 obtain⟨nm,qn,N,bs,hdct,sn,sub,ab,col,dd,k0,k1,k2,k3,k5,mN,hC,hN,hni,T⟩:=Dv X q;obtain⟨nm',qn',N',bs',hdct',sn',sub',ab',col',dd',k0',k1',k2',k3',k5',mN',hC',hN',hni',T'⟩:=Dv X q';have hB:(b9 C'::tl').contains (.type "BaseException")=true:=by rw[List.contains_cons,T'.hasType (X:="BaseException") (b:=true) rfl,Bool.or_true]
 have f:=tc_notTuple;obtain⟨hp,g,d,tk,os⟩:=s;unfold excMatches
 generalize hb:(b9 C::tl).contains (.ref C')=b at h
 repeat (first|(with_reducible refine p7 he ?_;rw[hc])|with_reducible refine p7 hC' ?_|(with_reducible refine t9 hC' ?_;rw[hB])|(with_reducible refine t9 hC ?_;rw[hb])|wp_step)
 cases b <;> (wp_walk;exact h)
section
variable {M:Model}{A:dh}{E:af->am->Prop}{s:am}{env:Env}{outer:List Env}{base h0:cx}{H:Hp}{exC:Nat->ae}{c:Nat}{ea T L:ae}{Q:Unit->am->Prop}{P:db}{w:df}
theorem Gq (hfr:A.frames=wj (env::outer)) (hf:env.frame=wj L) (funs:s.heap.FunFrames base (env::outer)) (hok:HOk P w H s.heap) (h0p:∀ b,s.heap.get? b=wk->h0.get? b=wk) (fl:FlyT exC c ea T h0 H s.heap)
  (hQ:∀ h' T',Pass (frs (env::outer)) ea T s.heap h'->FlyT exC c ea T' h0 H h'->(T'=T∨s.heap.get? T'=wk)->Q () { s with heap:=h' }):
  ay M A (uq (.ref ea) env) (fun _ s₂=>ay M A (ur (.ref ea) wk) Q E s₂) E s:=by
 obtain⟨oe,oT,vs,ts,a0,e1,e2,e3,e4,e5,e6,e7,e8,e9⟩:=fl.tr;have nF:∀ b∈frs (env::outer),(fu s.heap (ea::T::frs (env::outer))).get? b=wk:=fun b hb=>fw _ (ag _ (ag _ hb));have hb0:∀ b,(fu s.heap (ea::T::frs (env::outer))).get? b=wk->b=ea∨b=T∨b∈frs (env::outer)∨s.heap.get? b=wk:=fun b z=>by
  rcases zD z with z|z
  ·rcases ai.mp z with z|z
   ·exact .inl z
   ·rcases ai.mp z with z|z
    ·exact .inr (.inl z)
    ·exact .inr (.inr (.inl z))
  ·exact .inr (.inr (.inr z))
 refine wpAny_noteFrame_onW (base:=fu s.heap (ea::T::frs (env::outer))) (cls:=.ref (exC c)) (a0:=a0) hfr (uN funs nF) hf ?_ (fun b o z=>l0 _ z) (fw _ aq) fun h' hN=> ?_
 ·exact⟨oe,vs,T,oT,ts,e1,⟨e2,e4⟩,e3,e5,fw _ (ag _ aq),e6,e7,e8,e9⟩
 ·obtain⟨k1,k2,k3,k4⟩:=hN;refine wpAny_setFlight_noneW (base:=fu s.heap (ea::T::frs (env::outer))) (l:=env::outer) k1 k2 k3 fun h'' m1 m2 m3 m4=> ?_;obtain⟨T',f1,f2⟩:=zM (T:=T) (s:=s) hok h0p hb0 m2 m3 rfl fl.h0e fl.He fl.h0T fl.HT;refine hQ h'' T' ⟨fun b o z n1 n2 n3=>m1 b o (j6 _ z ?_),fun b o z hb=> ?_⟩ f1 f2
  ·intro hm;rcases ai.mp hm with hm|hm
   ·exact n2 hm
   ·rcases ai.mp hm with hm|hm
    ·exact n3 hm
    ·exact n1 hm
  ·obtain⟨_,o',q1,q2⟩:=funs.mem hb;rw[z] at q1;cases q1;obtain⟨sl,w1⟩:=k4 b o z q2;exact⟨sl,m4 b _ w1 q2⟩
theorem zN (funs:s.heap.FunFrames base outer) (fl:FlyT exC c ea T h0 H s.heap) (hQ:∀ h',Pass (frs outer) ea T s.heap h'->FlyT exC c ea T h0 H h'->Q () { s with heap:=h' }):ay M A (ur (.ref ea) wk) Q E s:=by
 obtain⟨oe,oT,vs,ts,a0,e1,e2,e3,e4,e5,e6,e7,e8,e9⟩:=fl.tr;have hz:3<ts.size:=(lh.mp e9).1;have oth:∀ b,b≠T->(s.heap.update T (lj (·.setIfInBounds 3 .none))).get? b=s.heap.get? b:=fun b hb=>eu _ _ (bv hb);refine wpAny_setFlight_none e1 e3 e5 e7 e8 hz (hQ _ ⟨fun b o z _ _ n3=>(oth b n3).trans z,fun b o z hb=>⟨o.slots,(oth b fun q=> ?_).trans z⟩⟩ ⟨⟨oe,_,vs,_,a0,(oth ea (bv e6)).trans e1,e2,e3,e4,e5,e6,gp _ e7 (oj (jf e8 _)),jf e8 _,by simp[hz]⟩,fl.h0e,fl.h0T,fl.He,fl.HT⟩);obtain⟨_,o',q1,q2⟩:=funs.mem hb;rw[q,e7] at q1;cases q1;exact q2 ts e8
end
noncomputable abbrev Xm (X:Cx) (ea:ae):Cx:={ X with A:=X.A.mark (wj (.ref ea)),calm:=false,xe:=fun _ _=>False }
noncomputable abbrev Xp (X:Cx) (pn:List (ae×Obj)) (xe:af->am->Prop):Cx:={ X with pn:=pn,xe:=xe }
section
variable {X:Cx}{pins pins':List (ae×Obj)}{σ:St}{H:Hp}{s:am}{xe:af->am->Prop}
theorem _root_.L2.Inv.marked (I:Inv X pins σ H s) (ea:ae):Inv (Xm X ea) pins σ H s:=
 ⟨⟨I.ok.mod,I.ok.kind,I.ok.glob,I.ok.blt,I.ok.above,I.ok.inj,I.ok.has,I.ok.cab,(fun z=>nomatch z),I.ok.frames,I.ok.stk,I.ok.exf,I.ok.bs,I.ok.bsz,I.ok.noex,I.ok.exfs,I.ok.funs,I.ok.frf⟩,I.os,I.bare,I.base,I.loc,I.cell,I.free,I.freeC,I.pin,I.hok,I.len⟩
theorem _root_.L2.Inv.unmarked (k:X.calm=true->X.A.handled=wk) (I:Inv (Xm X ea) pins σ H s):Inv X pins σ H s:=
 ⟨⟨I.ok.mod,I.ok.kind,I.ok.glob,I.ok.blt,I.ok.above,I.ok.inj,I.ok.has,I.ok.cab,k,I.ok.frames,I.ok.stk,I.ok.exf,I.ok.bs,I.ok.bsz,I.ok.noex,I.ok.exfs,I.ok.funs,I.ok.frf⟩,I.os,I.bare,I.base,I.loc,I.cell,I.free,I.freeC,I.pin,I.hok,I.len⟩
theorem _root_.L2.Inv.pned (I:Inv X pins σ H s):Inv (Xp X (X.pn++pins) xe) [] σ H s:=
 ⟨⟨I.ok.mod,I.ok.kind,I.ok.glob,I.ok.blt,I.ok.above,I.ok.inj,I.ok.has,I.ok.cab,I.ok.hd,I.ok.frames,I.ok.stk,I.ok.exf,I.ok.bs,I.ok.bsz,I.ok.noex,I.ok.exfs,I.ok.funs,I.ok.frf⟩,I.os,I.bare,I.base,I.loc,I.cell,I.free,I.freeC,fun p hp=>I.pin p (by simpa using hp),I.hok,I.len⟩
theorem _root_.L2.Inv.unpned (I:Inv (Xp X (X.pn++pins) xe) pins' σ H s):Inv X pins σ H s:=
 ⟨⟨I.ok.mod,I.ok.kind,I.ok.glob,I.ok.blt,I.ok.above,I.ok.inj,I.ok.has,I.ok.cab,I.ok.hd,I.ok.frames,I.ok.stk,I.ok.exf,I.ok.bs,I.ok.bsz,I.ok.noex,I.ok.exfs,I.ok.funs,I.ok.frf⟩,I.os,I.bare,I.base,I.loc,I.cell,I.free,I.freeC,fun p hp=>I.pin p (dn _ hp),I.hok,I.len⟩
theorem SP.unpned {D:BB} (h:SP (Xp X (X.pn++pins) xe) [] D f s):SP X pins D f s:=by
 cases f with
 |next=>obtain⟨σ',H',I,q⟩:=h;exact⟨σ',H',I.unpned,q⟩
 |brk=>obtain⟨σ',H',I,q⟩:=h;exact⟨σ',H',I.unpned,q⟩
 |cont=>obtain⟨σ',H',I,q⟩:=h;exact⟨σ',H',I.unpned,q⟩
 |ret u=>obtain⟨v,σ',H',I,r,q⟩:=h;exact⟨v,σ',H',I.unpned,r,q⟩
theorem SP.unmarked {D:BB} (k:X.calm=true->X.A.handled=wk) (h:SP (Xm X ea) pins D f s):SP X pins D f s:=by
 cases f with
 |next=>obtain⟨σ',H',I,q⟩:=h;exact⟨σ',H',I.unmarked k,q⟩
 |brk=>obtain⟨σ',H',I,q⟩:=h;exact⟨σ',H',I.unmarked k,q⟩
 |cont=>obtain⟨σ',H',I,q⟩:=h;exact⟨σ',H',I.unmarked k,q⟩
 |ret u=>obtain⟨v,σ',H',I,r,q⟩:=h;exact⟨v,σ',H',I.unmarked k,r,q⟩
variable {exC:Nat->ae}{c c':Nat}{ea T:ae}{x:Str}{np pos:Pos}{b₀:cr}{suite:List cr}{rest:List ExceptHandler}{tl tl':List af}{Q:Flow->am->Prop}{E:af->am->Prop}
theorem FlyT.fields (fl:FlyT exC c ea T X.s₀.heap H s.heap):∀ b,(b=ea∨b=T)->∃ o vs,s.heap.get? b=wj o/\o.data=.fields vs:=fun b hb=>by
 obtain⟨oe,oT,vs,ts,a0,e1,e2,e3,e4,e5,e6,e7,e8,e9⟩:=fl.tr;rcases hb with rfl|rfl
 ·exact⟨_,_,e1,e3⟩
 ·exact⟨_,_,e7,e8⟩
theorem kF (I:Inv X pins σ H s) (hex:X.ex=[]) (fl:FlyT exC c ea T X.s₀.heap H s.heap) (hp:∀ p∈X.pn++pins,p.1≠ea/\p.1≠T) (hg:Gl X x) (hm:X.mg x=wj (.ref (exC c'))) (ho:ownIn X.K (exC c) tl) (ho':ownIn X.K (exC c') tl')
  (hit:(b9 (exC c)::tl).contains (.ref (exC c'))=true->∀ s',Inv (Xm X ea) pins σ H s'->ay (model X.prog X.w) (Xm X ea).A (execs (b₀::suite) X.env) Q (fun _ _=>False) s')
  (miss:(b9 (exC c)::tl).contains (.ref (exC c'))=false->ay (model X.prog X.w) X.A (handleBy (.ref ea) X.env rest) Q E s) (hdb:(x==("__debug__":Str))=false:=by decide):
  ay (model X.prog X.w) X.A (handleBy (.ref ea) X.env (.ExceptHandler (wj (.Name x np)) wk (b₀::suite) pos::rest)) Q E s:=by
 obtain⟨oe,oT,vs,ts,a0,e1,e2,_⟩:=fl.tr;refine wpAny_handleBy_cons (codeAny_handlers_test (uH (I.marked ea) hg hm ?_ hdb)) (fun z=>nomatch z);refine rD (K:=X.K) (C:=exC c) (C':=exC c') I.kIn ho ho' e1 e2 ?_;cases hb:(b9 (exC c)::tl).contains (.ref (exC c')) with
 |false=>exact miss hb
 |true=>
  refine codeAny_handlers_suite (zN I.stack fl fun h' ps fl'=> ?_);have I':Inv X pins σ H { s with heap:=h' }:=I.passed hex ps fl.h0e fl.h0T fl.He fl.HT hp fl.fields;exact gv (hit hb _ (I'.marked ea)) (fun _ _ q=>q) fun _ _ z=>z.elim
end
noncomputable def vZ (F:OS) (c1:Nat) (G1:OS) (c2:Nat) (G2:OS):OS:=fun ρ ω=>match F ρ ω with
 |some (.ex c,ω1)=>if c=c1 then sNx G1 (ar ρ.length wk) ω1 else if c=c2 then sNx G2 (ar ρ.length wk) ω1 else wk
 |r=>r
section
variable {X:Cx}{cls exC:Nat->ae}{E:XE}{body:List cr}{F G1 G2:OS}{c1 c2:Nat}{x1 x2:Str}{np1 np2 p1 p2 pos:Pos}{b1 b2:cr}{r1 r2:List cr}{tl1 tl2:List af}
theorem Fx (I:Inv X pins σ H s):Inv X pins (ar σ.length wk) H s:=I.weak (by simp) fun i v e=>by
 rw[fm] at e;split at e <;> cases e
theorem Jn (hex:X.ex=[]) (hc:X.calm=true) (hs:X.stack=X.env::X.outer) (hf:∃ L,X.env.frame=wj L) (hg1:Gl X x1) (hg2:Gl X x2) (hm1:X.mg x1=wj (.ref (exC c1))) (hm2:X.mg x2=wj (.ref (exC c2))) (ho1:ownIn X.K (exC c1) tl1) (ho2:ownIn X.K (exC c2) tl2)
  (hne:(b9 (exC c2)::tl2).contains (.ref (exC c1))=false)
  (hb:∀ pn xe E',Exc (Xp X pn xe) exC E'->OSs (Xp X pn xe) cls E' body F) (h1:∀ ea,OSs (Xm X ea) cls EF (b1::r1) G1) (h2:∀ ea,OSs (Xm X ea) cls EF (b2::r2) G2)
  (hd1:(x1==("__debug__":Str))=false:=by decide) (hd2:(x2==("__debug__":Str))=false:=by decide):
  OSt X cls E (.Try body [.ExceptHandler (wj (.Name x1 np1)) wk (b1::r1) p1,.ExceptHandler (wj (.Name x2 np2)) wk (b2::r2) p2] [] [] pos) (vZ F c1 G1 c2 G2):=by
 rintro pins s σ H D I ⟨ok,ρ,ω,o,ω',P,e,q⟩;obtain⟨L,hL⟩:=hf
 -- what the body wants
 cases eF:F ρ ω with
 |none=>unfold vZ at e;rw[eF] at e;cases e
 |some pr=>
  obtain⟨o1,ω1⟩:=pr;unfold vZ at e;rw[eF] at e;refine wpAny_Try_except ?_
  -- the wish within
  have main:∀(E':XE),(∀ c H',E' c H'->∃ ok',Nw cls X.K ok H ok' H' ω1/\∃ z,o1=.ex z/\c=z)->outO cls X.K ok H ω1 E' D o1->
    ay (model X.prog X.w) X.A (execs body X.env) (fun f s₁=>match f with|.next=>ay (model X.prog X.w) X.A (execs [] X.env) (SP X pins D) X.xe s₁|f=>SP X pins D f s₁)
     (fun e s₁=>ay (model X.prog X.w) X.A (uq e X.env) (fun _ s₂=>ay (model X.prog X.w) X.A (ur e wk) (fun _ s₃=>ay (model X.prog X.w) X.A (handleBy e X.env [.ExceptHandler (wj (.Name x1 np1)) wk (b1::r1) p1,.ExceptHandler (wj (.Name x2 np2)) wk (b2::r2) p2]) (SP X pins D) X.xe s₃) X.xe s₂) X.xe s₁) s:=by
   intro E' hE' hout;have ex:Exc (Xp X (X.pn++pins) fun e s₁=>ay (model X.prog X.w) X.A (uq e X.env) (fun _ s₂=>ay (model X.prog X.w) X.A (ur e wk) (fun _ s₃=>ay (model X.prog X.w) X.A (handleBy e X.env [.ExceptHandler (wj (.Name x1 np1)) wk (b1::r1) p1,.ExceptHandler (wj (.Name x2 np2)) wk (b2::r2) p2]) (SP X pins D) X.xe s₃) X.xe s₂) X.xe s₁) exC E':=by
    refine⟨fun c ea T H' pins' σ' s' I' fl hpn hE=> ?_,hex⟩;have I1:Inv X pins σ' H' s':=I'.unpned;obtain⟨ok',nw,z,ez,rfl⟩:=hE' c H' hE;subst ez;refine Gq (L:=L) (outer:=X.outer) (P:=X.prog) (w:=X.w) (by rw[I1.ok.frames,hs]) hL (by rw[<- hs];exact I1.stack) I1.hok (fun b w=>I1.pers hex w) fl fun h' T' ps fl' hT=> ?_;have hpT:∀ p∈X.pn++pins,p.1≠ea/\p.1≠T':=fun p hp=>⟨(hpn p hp).1,fun w=>by
     rcases hT with rfl|hT
     ·exact(hpn p hp).2 w
     ·have:=(I1.pin p hp).1
      rw[w,hT] at this;cases this⟩
    have I2:Inv X pins σ' H' { s' with heap:=h' }:=I1.passed hex (by rw[hs];exact ps) fl.h0e fl.h0T fl.He fl.HT hpn fl.fields;have I3:=Fx I2;have run:∀ {G:OS}{b:cr}{r:List cr}{s4:am},OSs (Xm X ea) cls EF (b::r) G->sNx G (ar ρ.length wk) ω1=wj (o,ω')->Inv (Xm X ea) pins (ar σ'.length wk) H' s4->ay (model X.prog X.w) (Xm X ea).A (execs (b::r) X.env) (SP X pins D) (fun _ _=>False) s4:=fun {G b r s4} hG eG I4=>by
     obtain⟨eG,hn⟩:=De eG;have hlen:σ'.length=ρ.length:=by rw[I1.len,<- I.len,P.len]
     refine gv (hG pins s4 _ H' D I4 ⟨ok',_,ω1,o,ω',⟨nw.okh,nw.st,fun i d w=> ?_,by simp[hlen]⟩,eG,?_⟩) (fun _ _ z=>SP.unmarked I.ok.hd z) fun _ _ z=>z
     ·rw[fm] at w;split at w <;> cases w
     ·have q':=q.nw nw;cases o with
      |ex c=>exact absurd rfl (hn c)
      |_=>exact q'
    have e0:(if c=c1 then sNx G1 (ar ρ.length wk) ω1 else if c=c2 then sNx G2 (ar ρ.length wk) ω1 else wk)=wj (o,ω'):=e
    by_cases hz1:c=c1
    ·subst hz1;have e':sNx G1 (ar ρ.length wk) ω1=wj (o,ω'):=by
      rw[if_pos rfl] at e0;exact e0
     refine kF I3 hex fl' hpT hg1 hm1 ho1 ho1 (fun _ s4 I4=>run (h1 ea) e' I4) (fun w=> ?_) hd1;exact absurd w (by simp)
    ·have e2:(if c=c2 then sNx G2 (ar ρ.length wk) ω1 else wk)=wj (o,ω'):=by
      rw[if_neg hz1] at e0;exact e0
     obtain⟨hz2,e3⟩:=cR e2;subst hz2;refine kF I3 hex fl' hpT hg1 hm1 ho2 ho1 (fun w=> ?_) (fun _=> ?_) hd1
     ·rw[hne] at w;cases w
     ·refine kF I3 hex fl' hpT hg2 hm2 ho2 ho2 (fun _ s4 I4=>run (h2 ea) e3 I4) (fun w=> ?_) hd2;exact absurd w (by simp)
   refine gv (hb _ _ E' ex [] s σ H D I.pned ⟨ok,ρ,ω,o1,ω1,P,eF,hout⟩) (fun f s₁ z=> ?_) fun _ _ z=>z;have z':=SP.unpned z;cases f with
   |next=>
    obtain⟨σ',H',I',q'⟩:=z';exact om ⟨σ',H',I',q'⟩
   |_=>exact z'
  cases o1 with
  |ex c=>exact main (fun c' H'=>(∃ ok',Nw cls X.K ok H ok' H' ω1)/\c'=c) (fun c' H' ⟨⟨ok',n⟩,ez⟩=>⟨ok',n,c,rfl,ez⟩) fun ok' H' n=>⟨⟨ok',n⟩,rfl⟩
  |nx ρ1=>cases e;exact main (fun _ _=>False) (fun _ _ z=>z.elim) q
  |rt d=>cases e;exact main (fun _ _=>False) (fun _ _ z=>z.elim) q
  |bk ρ1=>cases e;exact main (fun _ _=>False) (fun _ _ z=>z.elim) q
  |ct ρ1=>cases e;exact main (fun _ _=>False) (fun _ _ z=>z.elim) q
end
noncomputable def RawD (h:cx) (d:ae) (es:Array k6) (ep:Nat):Prop:=∃ o,h.get? d=wj o/\o.ExactDict/\o.data=.dict es ep
theorem RawD.at (x:RawD h d es ep) (k:∀ o,h.get? d=wj o->h'.get? d=wj o):RawD h' d es ep:=let ⟨o,e,r⟩:=x;⟨o,k o e,r⟩
theorem RawD.typeIs {s:am} (x:RawD s.heap d es ep):s.TypeIs (.ref d) "dict":=let ⟨o,e,c,_⟩:=x;⟨o,e,c.1⟩
theorem RawD.lt (x:RawD h d es ep):d<h.objs.size:=let ⟨_,e,_⟩:=x;bj e
section
variable {prog:db}{w:df}{A:dh}{E:af->am->Prop}{s:am}{d v it:ae}{es:Array k6}{ep i:Nat}
theorem BM (lo:(d==fg)=false) (r:RawD s.heap d es ep) (q:Q (.ref s.heap.objs.size) { s with heap:=s.heap.push { cls:=.type "dict_values",data:=.fields #[.ref d] } }):
  ay (model prog w) A (call (.builtin "dict.values") [.ref d]) Q E s:=by
 refine ut (prog:=prog) (w:=w) qo r.typeIs PySem.F.entry_dict_values (PySem.F.args_dict_values_1 _) (S:=fun _ R t=>RawD t.heap d es ep/\R (.ok (.ret (.ref t.heap.objs.size))) { t with heap:=t.heap.push { cls:=.type "dict_values",data:=.fields #[.ref d] } }) (.of_wp fun B R t z=> ?_) ⟨r,q⟩;obtain⟨r1,q1⟩:=z;refine ad ?_;unfold Builtin.Dict.noArgs;refine ad (su r1.typeIs ?_);show ay _ _ (pure d) _ _ t;refine ak ?_;show ay _ _ (ky d >>= _) _ _ t;unfold ky;rw[if_neg (show ¬((d==fg)=true) by rw[lo];exact cg)];exact ad (ak (ad (d9 (ak ⟨_,rfl,q1⟩))))
theorem Dk (vw:s.heap.IsValuesView v d) (r:RawD s.heap d es ep)
  (q:Q (.ref s.heap.objs.size) { s with heap:=s.heap.push { cls:=.type "dict_valueiterator",data:=.fields #[.ref d,.int 0 0,.int es.size 0,.int ep 0] } }):ay (model prog w) A (pyIter (.ref v)) Q E s:=by
 obtain⟨ov,v1,v2,v3⟩:=id vw;obtain⟨o,r1,r2,r3⟩:=id r;refine wpAny_pyIter_slot vw.typeIs o5 (hZ o5 vw.typeIs PySem.F.entry_dict_values_iter ?_ (PySem.F.args_dict_values_iter_1 _));unfold Builtin.«dict_values.__iter__»;refine ad (ak (ad ?_));unfold we;refine ad (rm v1 v3 (x:=.ref d) rfl (ak (ad ?_)));unfold vo;refine ad (jm r1 r3 (ad (ko r1 r3 ?_)));have own:ij "dict_valueiterator"=false:=by decide
 simp only[own,du,ite_false];refine d9 (ak ⟨_,rfl,"dict_valueiterator",_,⟨_,bw _ rfl,rfl⟩,f6.lookup,?_⟩);simpa [l7] using q
theorem Dj (vi:s.heap.IsValIter it d i es.size ep) (r:RawD s.heap d es ep) (hx:es[i]?=wj e)
  (q:∀ h',h'.IsValIter it d (i+1) es.size ep->fx it s.heap h'->Q (wj e.val) { s with heap:=h' }):ay (model prog w) A (mz (.ref it)) Q E s:=by
 obtain⟨o,i1,i2,i3⟩:=id vi;obtain⟨od,r1,r2,r3⟩:=id r;have lt:i<es.size:=(lh.mp hx).1;have own:ij "dict_valueiterator"=false:=by decide
 unfold mz;refine ad (pq (i9 (name:=jl "__next__") vi.typeIs f6 (hZ f6 vi.typeIs lz ?_ (lq _))));refine ad (ak (ad (ad ?_)))
 first|refine ad (i7 vi.typeIs (ak ?_))|refine ad (j0 vi.typeIs (ak ?_))
 refine ad (pc i1 i3 ?_);simp only[own,du,ite_false];show ay _ _ (if(b9 d==ic)=true then _ else _) _ _ s;rw[if_neg (show ¬((b9 d==ic)=true) from fun z=>nomatch z)];refine ad (ak (ad (jm r1 r3 ?_)));rw[if_neg (by simp:¬ _)];refine ad (ak (ad (ko r1 r3 ?_)));rw[if_neg (by simp:¬ _)];refine ak ?_;simp only[show ¬((i:Int)<0) by omega,ite_false,c7,hx];refine ad ?_
 first|refine ad (i7 vi.typeIs (ak ?_))|refine ad (j0 vi.typeIs (ak ?_))
 refine ad (ol vi.typeIs ?_);show ay _ _ (setField (.ref it) 1 (l7 ((i:Int)+1)) >>= _) _ _ s;refine ad (pd i1 i3 (by simp) ?_);have vi2:(s.heap.update it (lj (·.setIfInBounds 1 (l7 ((i:Int)+1))))).IsValIter it d (i+1) es.size ep:=⟨_,gp _ i1 (oj (jf i3 _)),(u3 ..).trans i2,by rw[jf i3];simp[l7]⟩;refine ad (iu (ad (ol (s:={ s with heap:=s.heap.update it (lj (·.setIfInBounds 1 (l7 ((i:Int)+1)))) }) vi2.typeIs ?_)));refine ad (ol (s:={ s with heap:=s.heap.update it (lj (·.setIfInBounds 1 (l7 ((i:Int)+1)))) }) vi2.typeIs ?_);exact ak (ak ⟨_,rfl,ak (q _ vi2 (lr ..))⟩)
theorem FN (hh:A.handled=wk) (vi:s.heap.IsValIter it d i es.size ep) (r:RawD s.heap d es ep) (hx:es.size<=i) (q:∀ h',Heap.ExtBut it s.heap h'->Q wk { s with heap:=h' }):ay (model prog w) A (mz (.ref it)) Q E s:=by
 obtain⟨o,i1,i2,i3⟩:=id vi;obtain⟨od,r1,r2,r3⟩:=id r;have own:ij "dict_valueiterator"=false:=by decide
 unfold mz;refine ad (pq (i9 (name:=jl "__next__") vi.typeIs f6 (hZ f6 vi.typeIs lz ?_ (lq _))));refine ad (ak (ad (ad ?_)))
 first|refine ad (i7 vi.typeIs (ak ?_))|refine ad (j0 vi.typeIs (ak ?_))
 refine ad (pc i1 i3 ?_);simp only[own,du,ite_false];show ay _ _ (if(b9 d==ic)=true then _ else _) _ _ s;rw[if_neg (show ¬((b9 d==ic)=true) from fun z=>nomatch z)];refine ad (ak (ad (jm r1 r3 ?_)));rw[if_neg (by simp:¬ _)];refine ad (ak (ad (ko r1 r3 ?_)));rw[if_neg (by simp:¬ _)];refine ak ?_;simp only[show ¬((i:Int)<0) by omega,ite_false,c7,se hx];refine ad ?_
 first|refine ad (i7 vi.typeIs (ak ?_))|refine ad (j0 vi.typeIs (ak ?_))
 show ay _ _ (setField (.ref it) 0 .none >>= _) _ _ s;refine ad (pd i1 i3 (by simp) ?_);show ay _ _ (newExc (.type "StopIteration") [] >>= _) _ _ _;refine ad ?_;simp only[newExc,newTuple];refine ad (d9 (ad (m:=pe _ _) (wpAny_of_eq (a:=ic) (by first|rfl|(simp only[pe];rfl)) ?_)) (by size_fits));refine d9 ?_ (by size_fits);simp only[raiseNew];refine ad (wpAny_handled ?_);rw[show A.in1.handled=wk from hh];refine ad (ak (wpAny_throw ?_));refine ad (wpAny_isInstance (T:="StopIteration") (b:=true) ⟨_,(bw _ rfl),rfl⟩ isSubtype_stop ?_);exact ak (q _ (((lr ..).extBut.push _).push _))
theorem Li (hh:A.handled=wk) (I:ae) (hne:d≠I):Walks prog w A I [I,d] [I] es.size (fun i v=>∃ e,es[i]?=wj e/\v=e.val) (fun i h=>h.IsValIter I d i es.size ep/\RawD h d es ep) where
 sub:=fun b hb=>by simp at hb;simp[hb]
 frame:=fun _ _ _ st hk=>⟨let ⟨o,e,z⟩:=st.1;⟨o,hk I (by simp) o e,z⟩,st.2.at fun o e=>hk d (by simp) o e⟩
 item:=fun i s Q E hi st hQ=>Dj (e:=es[i]) st.1 st.2 (by simp[hi]) fun h' st' sb=>hQ _ h' s.toks ⟨es[i],by simp[hi],rfl⟩ ⟨st',st.2.at fun o e=>(sb.2 d hne).trans e⟩ fun b o hb e=>(sb.2 b fun z=>hb (by simp[z])).trans e
 done:=fun s Q E st hQ=>FN hh st.1 st.2 (bf _) fun h' eb=>hQ h' s.toks fun b o hb e=>eb b o (fun z=>hb (by simp[z])) e
 self:=fun _ _ _ _ st hQ=>wpAny_pyIter_valiter st.1 hQ
theorem rT:pf prog w "dict_values" v d es.size (fun i x=>∃ e,es[i]?=wj e/\x=e.val) (fun h=>h.IsValuesView v d/\RawD h d es ep) where
 type:=fun _ z=>z.1.typeIs
 there:=fun _ z=>⟨let ⟨_,e,_⟩:=z.1;bj e,z.2.lt⟩
 keep:=fun _ _ z hk=>⟨let ⟨o,e,x⟩:=z.1;⟨o,hk v (.inl rfl) o e,x⟩,z.2.at fun o e=>hk d (.inr rfl) o e⟩
 notList:=by decide
 notTuple:=by decide
 hint:=fun _ _ _ _ z hq=>PySem.W.kdl_hint_values z.1.typeIs hq
 iter:=fun _ _ hh z=>⟨_,_,(fun _ _ hq=>Dk z.1 z.2 hq),Li hh _ (cj z.2.lt),⟨⟨_,bw _ rfl,rfl,rfl⟩,z.2.at fun o e=>az _ e⟩⟩
theorem wD (lo:(d==fg)=false) (r:RawD s.heap d es ep)
  (q:Q (.ref s.heap.objs.size) { s with heap:=s.heap.push { cls:=.type "dict_keyiterator",data:=.fields #[.ref d,.int 0 0,.int es.size 0,.int ep 0] } }):ay (model prog w) A (pyIter (.ref d)) Q E s:=by
 obtain⟨o,r1,r2,r3⟩:=id r;refine wpAny_pyIter_slot r.typeIs m8 (hZ m8 r.typeIs PySem.F.entry_dict_iter ?_ (PySem.F.args_dict_iter_1 _));unfold Builtin.«dict.__iter__»;refine ad ?_;unfold Builtin.Dict.dictSlotNone;refine ad (su r.typeIs ?_);show ay _ _ (pure (b9 d)) _ _ s;refine ak ?_;show ay _ _ (ky d >>= _) _ _ s;unfold ky;rw[if_neg (show ¬((d==fg)=true) by rw[lo];exact cg)];refine ad (ak (ad (jm r1 r3 (ad (ko r1 r3 ?_)))));refine ad (d9 (ak ⟨_,rfl,"dict_keyiterator",_,⟨_,bw _ rfl,rfl⟩,gg.lookup,?_⟩));simpa [l7] using q
theorem wC (vi:s.heap.IsKeyIter it d i es.size ep) (r:RawD s.heap d es ep) (hx:es[i]?=wj e)
  (q:∀ h',h'.IsKeyIter it d (i+1) es.size ep->fx it s.heap h'->Q (wj e.key) { s with heap:=h' }):ay (model prog w) A (mz (.ref it)) Q E s:=by
 obtain⟨o,i1,i2,i3⟩:=id vi;obtain⟨od,r1,r2,r3⟩:=id r;have lt:i<es.size:=(lh.mp hx).1;have own:ij "dict_keyiterator"=false:=by decide
 unfold mz;refine ad (pq (i9 (name:=jl "__next__") vi.typeIs gg (hZ gg vi.typeIs mv ?_ (mh _))));refine ad (ak (ad (ad ?_)))
 first|refine ad (i8 vi.typeIs (ak ?_))|refine ad (j3 vi.typeIs (ak ?_))
 refine ad (pc i1 i3 ?_);simp only[own,du,ite_false];show ay _ _ (if(b9 d==ic)=true then _ else _) _ _ s;rw[if_neg (show ¬((b9 d==ic)=true) from fun z=>nomatch z)];refine ad (ak (ad (jm r1 r3 ?_)));rw[if_neg (by simp:¬ _)];refine ad (ak (ad (ko r1 r3 ?_)));rw[if_neg (by simp:¬ _)];refine ak ?_;simp only[show ¬((i:Int)<0) by omega,ite_false,c7,hx];refine ad ?_
 first|refine ad (i8 vi.typeIs (ak ?_))|refine ad (j3 vi.typeIs (ak ?_))
 refine ad (sv vi.typeIs ?_);show ay _ _ (setField (.ref it) 1 (l7 ((i:Int)+1)) >>= _) _ _ s;refine ad (pd i1 i3 (by simp) ?_);have vi2:(s.heap.update it (lj (·.setIfInBounds 1 (l7 ((i:Int)+1))))).IsKeyIter it d (i+1) es.size ep:=⟨_,gp _ i1 (oj (jf i3 _)),(u3 ..).trans i2,by rw[jf i3];simp[l7]⟩;refine ad (iu (ad (sv (s:={ s with heap:=s.heap.update it (lj (·.setIfInBounds 1 (l7 ((i:Int)+1)))) }) vi2.typeIs ?_)));exact ak (ak ⟨_,rfl,ak (q _ vi2 (lr ..))⟩)
theorem AK (hh:A.handled=wk) (vi:s.heap.IsKeyIter it d i es.size ep) (r:RawD s.heap d es ep) (hx:es.size<=i) (q:∀ h',Heap.ExtBut it s.heap h'->Q wk { s with heap:=h' }):ay (model prog w) A (mz (.ref it)) Q E s:=by
 obtain⟨o,i1,i2,i3⟩:=id vi;obtain⟨od,r1,r2,r3⟩:=id r;have own:ij "dict_keyiterator"=false:=by decide
 unfold mz;refine ad (pq (i9 (name:=jl "__next__") vi.typeIs gg (hZ gg vi.typeIs mv ?_ (mh _))));refine ad (ak (ad (ad ?_)))
 first|refine ad (i8 vi.typeIs (ak ?_))|refine ad (j3 vi.typeIs (ak ?_))
 refine ad (pc i1 i3 ?_);simp only[own,du,ite_false];show ay _ _ (if(b9 d==ic)=true then _ else _) _ _ s;rw[if_neg (show ¬((b9 d==ic)=true) from fun z=>nomatch z)];refine ad (ak (ad (jm r1 r3 ?_)));rw[if_neg (by simp:¬ _)];refine ad (ak (ad (ko r1 r3 ?_)));rw[if_neg (by simp:¬ _)];refine ak ?_;simp only[show ¬((i:Int)<0) by omega,ite_false,c7,se hx];refine ad ?_
 first|refine ad (i8 vi.typeIs (ak ?_))|refine ad (j3 vi.typeIs (ak ?_))
 show ay _ _ (setField (.ref it) 0 .none >>= _) _ _ s;refine ad (pd i1 i3 (by simp) ?_);show ay _ _ (newExc (.type "StopIteration") [] >>= _) _ _ _;refine ad ?_;simp only[newExc,newTuple];refine ad (d9 (ad (m:=pe _ _) (wpAny_of_eq (a:=ic) (by first|rfl|(simp only[pe];rfl)) ?_)) (by size_fits));refine d9 ?_ (by size_fits);simp only[raiseNew];refine ad (wpAny_handled ?_);rw[show A.in1.handled=wk from hh];refine ad (ak (wpAny_throw ?_));refine ad (wpAny_isInstance (T:="StopIteration") (b:=true) ⟨_,(bw _ rfl),rfl⟩ isSubtype_stop ?_);exact ak (q _ (((lr ..).extBut.push _).push _))
theorem Lj (hh:A.handled=wk) (I:ae) (hne:d≠I):Walks prog w A I [I,d] [I] es.size (fun i v=>∃ e,es[i]?=wj e/\v=e.key) (fun i h=>h.IsKeyIter I d i es.size ep/\RawD h d es ep) where
 sub:=fun b hb=>by simp at hb;simp[hb]
 frame:=fun _ _ _ st hk=>⟨let ⟨o,e,z⟩:=st.1;⟨o,hk I (by simp) o e,z⟩,st.2.at fun o e=>hk d (by simp) o e⟩
 item:=fun i s Q E hi st hQ=>wC (e:=es[i]) st.1 st.2 (by simp[hi]) fun h' st' sb=>hQ _ h' s.toks ⟨es[i],by simp[hi],rfl⟩ ⟨st',st.2.at fun o e=>(sb.2 d hne).trans e⟩ fun b o hb e=>(sb.2 b fun z=>hb (by simp[z])).trans e
 done:=fun s Q E st hQ=>AK hh st.1 st.2 (bf _) fun h' eb=>hQ h' s.toks fun b o hb e=>eb b o (fun z=>hb (by simp[z])) e
 self:=fun _ _ _ _ st hQ=>tm st.1 hQ
theorem AF (lo:(d==fg)=false):pf prog w "dict" d d es.size (fun i x=>∃ e,es[i]?=wj e/\x=e.key) (fun h=>RawD h d es ep) where
 type:=fun _ z=>z.typeIs
 there:=fun _ z=>⟨z.lt,z.lt⟩
 keep:=fun _ _ z hk=>z.at fun o e=>hk d (.inl rfl) o e
 notList:=by decide
 notTuple:=by decide
 hint:=fun _ _ _ _ z hq=>PySem.W.kdl_hint_dict z.typeIs hq
 iter:=fun _ _ hh z=>⟨_,_,(fun _ _ hq=>wD lo z hq),Lj hh _ (cj z.lt),⟨⟨_,bw _ rfl,rfl,rfl⟩,z.at fun o e=>az _ e⟩⟩
end
theorem _root_.L2.Inv.laidN (I:Inv X pins σ H s) (k:∀ b u,s.heap.get? b=wj u->h'.get? b=wj u) (n:s.heap.get? a=wk) (new:ObjOk X.prog X.w (upd H a o) h' a o):
  H a=wk/\Inv X pins σ (upd H a o) { s with heap:=h',toks:=t' }:=by
 have hn:H a=wk:=by
  cases q:H a with
  |none=>rfl
  |some u=>
   obtain⟨v,w⟩:=HOk.obj I.hok q;rw[n] at w;cases w
 have ne:∀ {b:ae}{u:Obj},s.heap.get? b=wj u->b≠a:=fun e z=>by rw[z,n] at e;cases e
 refine⟨hn,I.un ⟨fun b u e _ _ _=>k b u e,fun b u e _ _ _=>⟨u.slots,k b u e⟩,fun b u e q _=>by rw[aG (ne e)];exact q,fun b u e _=>⟨u,k b u e⟩,fun b xs e=>by rw[aG (aN e hn)];exact e,fun b u v e=>by rw[aG (aN e hn)];exact e,fun b ps e=>⟨#[],by rw[aG (aN e hn),e];simp⟩⟩ fun b u e=> ?_⟩
 by_cases hb:b=a
 ·subst hb;rw[aQ] at e;cases e;exact new
 ·rw[aG hb] at e;exact(I.hok b u e).stay (fun c v _ q=>k c v q) (fun c q=>by rw[aG (aN q hn)];exact q) fun c xs q=>by rw[aG (aN q hn)];exact q
section
variable {prog:db}{w:df}{A:dh}{E:af->am->Prop}{s:am}
theorem Os (ho:s.heap.get? a=wj (gx "list" vs.toArray n)) (h1:vs.length<2)
  (h:P (.done (.ret .none)) { s with heap:=p9 s.heap a vs ((vs.toArray.zip vs.toArray).map (·.2)) }):ay (model prog w) A (Builtin.«list.sort» ⟨[.ref a],[]⟩) P E s:=by
 have la:a<s.heap.objs.size:=bj ho;have z:vs.toArray.size<2:=by rw[bc];exact h1
 obtain⟨e1,o1⟩:∃ e1,(s.heap.update a (ki fun _=> #[])).get? a=wj (gx "list" #[] e1):=⟨_,qy ho (fun _=> #[])⟩;have o2:(((s.heap.update a (ki fun _=> #[])).push (gx "tuple" vs.toArray 0)).push (gx "list" #[] 0)).get? a=wj (gx "list" #[] e1):=az _ (az _ o1);rw[list_sort_plain];refine ad (listItems_at ho rfl (ad (listUpdate_at ho rfl (ad (seqEpoch_at o1 rfl (ad (wpAny_newTuple (ad (t8 (iu ?_))))))))));show ay (model prog w) A _ P E { s with heap:=((s.heap.update a (ki fun _=> #[])).push (gx "tuple" vs.toArray 0)).push (gx "list" #[] 0) };dsimp only;rw[if_pos z,if_pos z];refine ad (ak ?_);rw[StateT.run_pure];refine ad (ak ?_);dsimp only;refine ad (seqEpoch_at o2 rfl (ad (listUpdate_at o2 rfl ?_ (hsz2:=by rw[Array.size_map];show(vs.toArray.zip vs.toArray).size<=_;rw[Array.size_zip,bc,bu];omega))));simp only[bne_self_eq_false,du,ite_false];exact ak h
theorem oE (col:∀ {R:List af->am->Prop},(∀(h':cx) (tk:Nat) (acc:Array af),(∀ b o,s.heap.get? b=wj o->h'.get? b=wj o)->ItemsOf P acc n->R acc.toList { s with heap:=h',toks:=tk })->ay (model prog w) A.in1 (collect (.ref r)) R E s) (hn:n<2)
  (h:∀(h':cx) (tk:Nat) (vs:List af) (a:ae) (c:Nat),(∀ b o,s.heap.get? b=wj o->h'.get? b=wj o)->s.heap.get? a=wk->vs.length=n->(∀(j:Nat) (v:af),vs[j]?=wj v->P j v)->h'.get? a=wj (gx "list" vs.toArray c)->Q (.ref a) { s with heap:=h',toks:=tk }):
  ay (model prog w) A (call (.builtin "sorted") [.ref r]) Q E s:=by
 refine qc kind_sorted plain_sorted entry_sorted (args_sorted1 _) ?_;unfold Builtin.«sorted»;refine ad (m:=checkCount "sorted" 1 1 _) (ak (ad (col fun h1 tk acc kp it=> ?_)));have hl:acc.toList.length=n:=by rw[d7];exact it.1
 refine ad (t8 ?_ (by rw[hl,bu];omega));have o1:(h1.push (gx "list" acc.toList.toArray 0)).get? h1.objs.size=wj (gx "list" acc.toList.toArray 0):=bw _ rfl;refine ad (iu (hZ slot_list_sort ⟨_,o1,rfl⟩ entry_list_sort (Os (s:={ s with heap:=h1.push (gx "list" acc.toList.toArray 0),toks:=tk }) o1 (by rw[hl];exact hn) ⟨_,rfl,?_⟩) (args_list_sort _)));have nw:s.heap.get? h1.objs.size=wk:=by
  cases q:s.heap.get? h1.objs.size with
  |none=>rfl
  |some u=>exact absurd (bj (kp _ _ q)) (gk _)
 have ez:(acc.toList.toArray.zip acc.toList.toArray).map (·.2)=acc.toList.toArray:=by
  apply Array.ext';rw[Array.toList_map,Array.toList_zip];simp[List.map_snd_zip]
 have ne:∀ b,b≠h1.objs.size->∀ o,h1.get? b=wj o->(p9 (h1.push (gx "list" acc.toList.toArray 0)) h1.objs.size acc.toList ((acc.toList.toArray.zip acc.toList.toArray).map (·.2))).get? b=wj o:=fun b hb o e=>by
  unfold p9;rw[eu _ _ (bv hb)];refine az _ (az _ ?_);rw[eu _ _ (bv hb)];exact az _ e
 have o2:=qy o1 (fun _=> #[]);have o3:=qy (az (gx "list" #[] 0) (az (gx "tuple" acc.toList.toArray 0) o2)) (fun _=>(acc.toList.toArray.zip acc.toList.toArray).map (·.2));have o4:∃ c,(p9 (h1.push (gx "list" acc.toList.toArray 0)) h1.objs.size acc.toList ((acc.toList.toArray.zip acc.toList.toArray).map (·.2))).get? h1.objs.size=wj (gx "list" acc.toList.toArray c):=by
  unfold p9;rw[ez] at o3 ⊢;exact⟨_,o3⟩
 obtain⟨c,o4⟩:=o4;exact ak ⟨_,rfl,h _ tk acc.toList h1.objs.size c (fun b o e=>ne b (fun z=>by rw[z,nw] at e;cases e) o (kp b o e)) nw hl (fun j v e=>it.2 j v (by rw[<- hW];exact e)) o4⟩
theorem oA (K:pf prog w T r d n P OK) (hh:A.handled=wk) (hok:OK s.heap) (hn:n<2)
  (h:∀(h':cx) (tk:Nat) (vs:List af) (a:ae) (c:Nat),(∀ b o,s.heap.get? b=wj o->h'.get? b=wj o)->s.heap.get? a=wk->vs.length=n->(∀(j:Nat) (v:af),vs[j]?=wj v->P j v)->h'.get? a=wj (gx "list" vs.toArray c)->Q (.ref a) { s with heap:=h',toks:=tk }):
  ay (model prog w) A (call (.builtin "sorted") [.ref r]) Q E s:=
 oE (fun h=>ua (A:=A.in1) K hh hok (by rw[bu];omega) h) hn h
end
noncomputable abbrev lf (g:D->D->Option D):Om->D->D->Option (D×Om):=fun ω a b=>pu (g a b) ω
noncomputable abbrev lfL (g:List D->Option D):Om->List D->Option (D×Om):=fun ω a=>pu (g a) ω
noncomputable def fW (ω:Om) (d:D):Option (List D):=match d with
 |.lst ds=>wj ds
 |.obj n=>match ω[n]? with
  |some (.ml ds)=>wj ds
  |_=>wk
 |_=>wk
theorem fB (h:fW ω d=wj ds):d=.lst ds∨∃ n,d=.obj n/\ω[n]?=wj (.ml ds):=by
 cases d with
 |lst xs=>cases h;exact .inl rfl
 |obj n=>
  have h':(match ω[n]? with
   |some (.ml ds)=>wj ds
   |_=>wk)=wj ds:=h
  split at h'
  ·cases h';exact .inr ⟨n,rfl,‹_›⟩
  ·cases h'
 |_=>cases h
theorem fH {K:aa} (t:Stt cls K ok H ω) (r:Rep K ok H v d) (e:fW ω d=wj ds):∃ a xs,v=.ref a/\H a=wj (.lst xs)/\Reps K ok H xs ds:=by
 rcases fB e with rfl|⟨n,rfl,e1⟩
 ·obtain⟨a,xs,rfl,g,rs⟩:=r.lst_inv;exact⟨a,xs,rfl,g.2,rs⟩
 ·obtain⟨a,rfl,e2,xs,e3,rs⟩:=t.ref r e1;exact⟨a,xs,rfl,e3,rs⟩
section
variable {X:Cx}{cls exC:Nat->ae}{E:XE}{e a b c o i value:bt}{es rest:List bt}{fa fb fc fo fi fv:OG D}{fl:OG (List D)}{ft ft':OG Bool}{pos p apos pos':Pos}{x m:Str}{st:cr}
theorem MS (ha:OE X cls E a fa) (hb:OE X cls E b fb):OE X cls E (.BinOp a .Add b pos) (o2 (lf xC) fa fb):=uA ME (Fit2.lift (jY fun _ _ _ _=>.int _)) ha hb
theorem MI (ha:OE X cls E a fa) (hb:OE X cls E b fb):OE X cls E (.BinOp a .Sub b pos) (o2 (lf gSub) fa fb):=uA Mt (Fit2.lift (jY fun _ _ _ _=>.int _)) ha hb
theorem ML (ha:OE X cls E a fa) (hb:OE X cls E b fb):OE X cls E (.BinOp a .Mult b pos) (o2 (lf iI) fa fb):=uA Mw (Fit2.lift (Nr (fun i j h=>by unfold CMul;omega) fun _ _ _ _=>.int _)) ha hb
theorem MM (ha:OE X cls E a fa) (hb:OE X cls E b fb):OE X cls E (.BinOp a .Mod b pos) (o2 (lf cU) fa fb):=uA Mx (Fit2.lift (Nr (fun _ _ h=>h) fun _ _ _ _=>.int _)) ha hb
theorem OU (ha:OE X cls E a fa) (hb:OE X cls E b fb):OE X cls E (.Compare a [.LtE] [b] pos) (o2 (lf gLe) fa fb):=Ij Jx (Fit2.lift (jY fun _ _ _ _=>.bl _)) ha hb (lA _)
theorem OX (ha:OE X cls E a fa) (hb:OE X cls E b fb):OE X cls E (.Compare a [.Gt] [b] pos) (o2 (lf gGt) fa fb):=Ij MA (Fit2.lift (jY fun _ _ _ _=>.bl _)) ha hb (lA _)
theorem OJ (ha:OE X cls E a fa) (hb:OE X cls E b fb):OT X cls E (.Compare a [.Lt] [b] pos) (cH (o2 (lf gLt) fa fb)):=kW My (Fit2.lift (jY fun _ _ _ _=>.bl _)) ha hb (lA _)
theorem OL (ha:OE X cls E a fa) (hb:OE X cls E b fb):OT X cls E (.Compare a [.LtE] [b] pos) (cH (o2 (lf gLe) fa fb)):=kW Jx (Fit2.lift (jY fun _ _ _ _=>.bl _)) ha hb (lA _)
theorem ON (ha:OE X cls E a fa) (hb:OE X cls E b fb):OT X cls E (.Compare a [.Gt] [b] pos) (cH (o2 (lf gGt) fa fb)):=kW MA (Fit2.lift (jY fun _ _ _ _=>.bl _)) ha hb (lA _)
theorem OO (ha:OE X cls E a fa) (hb:OE X cls E b fb):OT X cls E (.Compare a [.GtE] [b] pos) (cH (o2 (lf gGe) fa fb)):=kW OQ (Fit2.lift (jY fun _ _ _ _=>.bl _)) ha hb (lA _)
theorem Jl (ha:OE X cls E a fa) (hb:OE X cls E b fb):OT X cls E (.Compare a [.IsNot] [b] pos) (cH (o2 (lf Ku) fa fb)):=kW Jv (Fit2.lift Hh) ha hb (lA _)
theorem OM (hu:Iy X (n+1)) (ha:OE X cls E a fa) (hb:OE X cls E b fb) (hm:ir .In b=false:=by with_unfolding_all rfl):OT X cls E (.Compare a [.In] [b] pos) (cH (o2 (lf (gIn n)) fa fb)):=kW (Mz hu) (Fit2.lift Nq) ha hb hm
theorem Gc (hu:Iy X (n+1)) (ha:OE X cls E a fa) (hb:OE X cls E b fb) (hm:ir .NotIn b=false:=by with_unfolding_all rfl):OT X cls E (.Compare a [.NotIn] [b] pos) (cH (o2 (lf (Bi n)) fa fb)):=kW (Dz hu) (Fit2.lift EH) ha hb hm
noncomputable def sB (g g':D->D->Option D) (fa fb fc:OG D):OG Bool:=oB fa fun x=>oB fb fun y ρ ω=>match (g x y).bind toB with
 |none=>wk
 |some true=>oB fc (fun z _ ω=>oR (pu ((g' y z).bind toB) ω)) ρ ω
 |some false=>wj (.ok false,ω)
theorem Dw (ho:OpR X (fk op) r) (F:Fit2 X.K r g) (ho':OpR X (fk op') r') (F':Fit2 X.K r' g') (ha:OE X cls E a fa) (hb:OE X cls E b fb) (hc:OE X cls E c fc)
  (hm:lastMarks [op,op'] [b,c]=false:=by with_unfolding_all rfl):OT X cls E (.Compare a [op,op'] [b,c] pos) (sB g g' fa fb fc):=(FT ho ho' ha hb hc hm).imp fun σ H Q ⟨ok,ρ,ω,rz,ω',P,e,q⟩=>by
 refine tO.then_ P e (fun c z=>by subst z;exact q) fun x ω1 v ok1 H1 e1 n1 P1 r1=> ?_;refine tO.then_ P1 e1 (fun c z=>by subst z;exact exR.nw q n1) fun y ω2 u ok2 H2 e2 n2 P2 r2=> ?_;cases hg:(g x y).bind toB with
 |none=>rw[hg] at e2;cases e2
 |some k=>
  rw[hg] at e2;obtain⟨dk,g1,g2⟩:=aR hg;obtain rfl:=nU g2;refine F ok2 H2 v u x y _ _ P2.okh (r1.ex n2.ex) r2 g1 fun w H3 s3 r3=>⟨k,r3.bl_inv,?_⟩;have n3:Nw cls X.K ok2 H2 ok2 H3 ω2:=.same P2.okh P2.st s3;cases k with
  |false=>
   cases e2;exact Le ⟨false,rfl,q ok2 H3 (n1.trans (n2.trans n3))⟩
  |true=>
   refine Ld (tO.then_ (P2.nw n3) e2 (fun c z=>by subst z;exact exR.nw q (n1.trans (n2.trans n3))) fun z ω4 w4 ok4 H4 e4 n4 P4 r4=> ?_);obtain⟨k',e5,rfl⟩:=cQ e4;obtain⟨ue5,rfl⟩:=cW e5;obtain⟨dk',g3,g4⟩:=aR ue5;obtain rfl:=nU g4;exact F' ok4 H4 u w4 y z _ _ P4.okh ((r2.ex n3.ex).ex n4.ex) r4 g3 fun w5 H5 s5 r5=>⟨k',r5.bl_inv,q ok4 H5 (n1.trans (n2.trans (n3.trans (n4.trans (.same P4.okh P4.st s5)))))⟩
theorem Np {K:aa}:Fit2 K (rI0 fun i j=>.bl (decide (i<=j))) gLe:=jY fun _ _ _ _=>.bl _
theorem No {K:aa}:Fit2 K (rI0 fun i j=>.bl (decide (i<j))) gLt:=jY fun _ _ _ _=>.bl _
theorem Jm (ha:OE X cls E a fa) (hb:OE X cls E b fb) (hc:OE X cls E c fc) (hm:lastMarks [.LtE,.Lt] [b,c]=false:=by with_unfolding_all rfl):OT X cls E (.Compare a [.LtE,.Lt] [b,c] pos) (sB gLe gLt fa fb fc):=Dw Jx Np My No ha hb hc hm
noncomputable def MW (f g:OG D):OG D:=oB f fun d ρ ω=>match toB d with
 |none=>wk
 |some true=>g ρ ω
 |some false=>wj (.ok (.bl false),ω)
noncomputable def MU (f:OG D):OG D:=oB f fun d _ ω=>oR (pu (QD d) ω)
theorem MJ (h:OE X cls E a fa):OE X cls E (.BoolOp op [a] pos) fa:=LV h
theorem MR (ha:OE X cls E a fa) (hb:OE X cls E (.BoolOp .And (b::rest) pos) fb):OE X cls E (.BoolOp .And (a::b::rest) pos) (MW fa fb):=(Mc ha hb).imp fun σ H Q ⟨ok,ρ,ω,r,ω',P,e,q⟩=>by
 refine tO.then_ P e (fun c z=>by subst z;exact q) fun d ω1 v ok1 H1 e1 n1 P1 r1=> ?_;cases hd:toB d with
 |none=>rw[hd] at e1;cases e1
 |some k=>
  rw[hd] at e1;obtain rfl:=nU hd;refine⟨k,r1.bl_inv,?_⟩;cases k with
  |true=>exact Ld ⟨ok1,ρ,ω1,r,ω',P1,e1,by
   cases r with
   |ok d=>exact fun v ok' H' n r=>q v ok' H' (n1.trans n) r
   |ex c=>exact exR.nw q n1⟩
  |false=>
   cases e1;exact Le (q _ ok1 H1 n1 (.bl false))
theorem MK (ha:OE X cls E a fa):OE X cls E (.UnaryOp .Not a pos) (MU fa):=(LW ha).imp fun σ H Q ⟨ok,ρ,ω,r,ω',P,e,q⟩=>by
 refine tO.then_ P e (fun c z=>by subst z;exact q) fun d ω1 v ok1 H1 e1 n1 P1 r1=> ?_;obtain⟨y,e3,rfl⟩:=cQ e1;obtain⟨ue3,rfl⟩:=cW e3;obtain⟨k,e4,rfl⟩:=aJ (show(toB d).map _=wj y from ue3);obtain rfl:=nU e4;exact⟨k,r1.bl_inv,q _ ok1 H1 n1 (.bl _)⟩
noncomputable def GX (ω:Om) (a b:D):Option (D×Om):=(fW ω a).bind fun xs=>(fW ω b).bind fun ys=>if xs.length+ys.length<=sizeLine then wj (.lst (xs++ys),ω) else wk
theorem MQ (ha:OE X cls E a fa) (hb:OE X cls E b fb):OE X cls E (.BinOp a .Add b pos) (o2 GX fa fb):=uA MD (fun ok H ω x y a b d ω' Q h1 st ra rb e k=>by
 obtain⟨xs,e1,e⟩:=aR e;obtain⟨ys,e2,e⟩:=aR e;obtain⟨hz,e3⟩:=bL e;cases e3;obtain⟨a1,us,rfl,g1,r1⟩:=fH st ra e1;obtain⟨b1,ws,rfl,g2,r2⟩:=fH st rb e2;exact⟨a1,b1,us,ws,rfl,rfl,g1,g2,by rw[r1.length,r2.length];exact hz,fun p n=>k _ ok _ (.same h1 st (cM n)) (.lst_new (h1 p n) n (r1.append r2))⟩) ha hb
theorem Reps.rep {K:aa} (h:Reps K ok H vs ds):∀ k:Nat,Reps K ok H (ar k vs).flatten (ar k ds).flatten
 |0=>.nil
 |k+1=>by
  rw[fh,fh,i5,i5];exact h.append (Reps.rep h k)
noncomputable def zJ (ω:Om) (a b:D):Option (D×Om):=(fW ω a).bind fun xs=>(toI b).bind fun k=>if -1000000<=k/\k<=1000000/\xs.length*k.toNat<=sizeLine then wj (.obj ω.length,ω++[.ml (ar k.toNat xs).flatten]) else wk
theorem JE (ha:OE X cls E a fa) (hb:OE X cls E b fb):OE X cls E (.BinOp a .Mult b pos) (o2 zJ fa fb):=uA Mu (fun ok H ω x y a b d ω' Q h1 st ra rb e k=>by
 obtain⟨xs,e1,e⟩:=aR e;obtain⟨kk,e2,e⟩:=aR e;obtain⟨hz,e3⟩:=bL e;cases e3;obtain rfl:=yL e2;obtain⟨a1,us,rfl,g1,r1⟩:=fH st ra e1;exact⟨a1,kk,us,rfl,rb.int_inv,g1,by omega,by omega,by rw[r1.length];exact hz.2.2,fun p n=>k _ _ _ (.ml h1 st n (r1.rep kk.toNat)) .new_obj⟩) ha hb
noncomputable def iV (ω:Om) (ds:List D):Option (D×Om):=match ds with
 |[d]=>match fW ω d with
  |some xs=>wj (.int xs.length,ω)
  |none=>pu (Ph [d]) ω
 |_=>wk
theorem Hk {K:aa}:qW cls K (fun xs H Q=>∃ x n,xs=[x]/\Pz K x H n/\Q (.int n) H) iV:=fun ok H ω xs as d ω' Q h1 st r e k=>by
 unfold iV at e;split at e
 ·split at e
  ·rename_i d0 ys hs
   cases e;obtain⟨v,rfl,r1⟩:=r.one_inv;obtain⟨a,us,rfl,g,rs⟩:=fH st r1 hs;exact⟨_,_,rfl,.inl ⟨_,SqL.of g,rs.length.symm⟩,k _ ok H (.refl h1 st) (.int _)⟩
  ·exact FitL.lift (cls:=cls) Kz ok H ω xs _ d ω' Q h1 st r e k
 ·cases e
noncomputable def cA (ω:Om) (d:D):Option (List D):=match d with
 |.tup ds=>wj ds
 |d=>fW ω d
theorem sI {K:aa} (t:Stt cls K ok H ω) (r:Rep K ok H v d) (e:cA ω d=wj ds):∃ a xs,v=.ref a/\(SqL K H a xs∨SqT K H a xs)/\Reps K ok H xs ds:=by
 cases d with
 |tup xs=>
  cases e;obtain⟨a,ys,rfl,g,rs⟩:=r.tup_inv;exact⟨a,ys,rfl,.inr g.sq,rs⟩
 |lst xs=>
  obtain⟨a,ys,rfl,g,rs⟩:=fH t r (show fW ω (.lst xs)=wj ds from e);exact⟨a,ys,rfl,.inl (SqL.of g),rs⟩
 |obj n=>
  obtain⟨a,ys,rfl,g,rs⟩:=fH t r (show fW ω (.obj n)=wj ds from e);exact⟨a,ys,rfl,.inl (SqL.of g),rs⟩
 |_=>cases e
noncomputable def iG (ω:Om) (ds:List D):Option (D×Om):=match ds with
 |[d]=>(cA ω d).map fun xs=>(.lst xs,ω)
 |_=>wk
theorem EI {K:aa}:qW cls K (fun xs H Q=>∃ p ys,xs=[.ref p]/\(SqL K H p ys∨SqT K H p ys)/\∀ l,H l=wk->Q (.ref l) (upd H l (.lst ys))) iG:=fun ok H ω xs as d ω' Q h1 st r e k=>by
 unfold iG at e;split at e
 ·obtain⟨ys,e1,e2⟩:=aJ e;cases e2;obtain⟨v,rfl,r1⟩:=r.one_inv;obtain⟨a,us,rfl,g,rs⟩:=sI st r1 e1;exact⟨a,us,rfl,g,fun l n=>k _ ok _ (.same h1 st (cM n)) (.lst_new (h1 l n) n rs)⟩
 ·cases e
noncomputable def sS (ω:Om) (ds:List D):Option (D×Om):=match ds with
 |[d]=>(cA ω d).map fun xs=>(.obj ω.length,ω++[.ml xs])
 |_=>wk
theorem EJ {K:aa}:qW cls K (fun xs H Q=>∃ p ys,xs=[.ref p]/\(SqL K H p ys∨SqT K H p ys)/\∀ l,H l=wk->Q (.ref l) (upd H l (.lst ys))) sS:=fun ok H ω xs as d ω' Q h1 st r e k=>by
 unfold sS at e;split at e
 ·obtain⟨ys,e1,e2⟩:=aJ e;cases e2;obtain⟨v,rfl,r1⟩:=r.one_inv;obtain⟨a,us,rfl,g,rs⟩:=sI st r1 e1;exact⟨a,us,rfl,g,fun l n=>k _ _ _ (.ml h1 st n rs) .new_obj⟩
 ·cases e
noncomputable def Ey (ω:Om) (ds:List D):Option (D×Om):=match ds with
 |[d]=>(fW ω d).map fun xs=>(.tup xs,ω)
 |_=>wk
theorem GZ {K:aa}:qW cls K (fun xs H Q=>∃ p ys,xs=[.ref p]/\((SqL K H p ys/\∀ l,H l=wk->Q (.ref l) (upd H l (.tup ys)))∨(SqT K H p ys/\Q (.ref p) H))) Ey:=fun ok H ω xs as d ω' Q h1 st r e k=>by
 unfold Ey at e;split at e
 ·obtain⟨ys,e1,e2⟩:=aJ e;cases e2;obtain⟨v,rfl,r1⟩:=r.one_inv;obtain⟨a,us,rfl,g,rs⟩:=fH st r1 e1;exact⟨a,us,rfl,.inl ⟨SqL.of g,fun l n=>k _ ok _ (.same h1 st (cM n)) (.tup_new (h1 l n) n rs)⟩⟩
 ·cases e
noncomputable def Nk (ω:Om) (a:D) (lo hi:Option Int):Option D:=match fW ω a with
 |some ds=>wj (.lst (Cy ds lo hi))
 |none=>gSl a lo hi
noncomputable def oSl (f:OG D) (l u:DO):OG D:=oB f fun a ρ ω=>(l ρ).bind fun lo=>(u ρ).bind fun hi=>oR (pu (Nk ω a lo hi) ω)
theorem Gi {lo hi:Option bt} (he:OE X cls E e fa) (hl:DOp X lo l) (hu:DOp X hi u):OE X cls E (.Subscript e (.Slice lo hi wk p2) pos) (oSl fa l u):=(FX (sl_list.or Lu) he hl hu).imp fun σ H Q ⟨ok,ρ,ω,r,ω',P,e,q⟩=>by
 refine tO.then_ P e (fun c z=>by subst z;exact q) fun a ω1 v ok1 H1 e1 n1 P1 r1=> ?_;obtain⟨il,g1,e1⟩:=aR e1;obtain⟨ih,g2,e1⟩:=aR e1;obtain⟨d,e3,rfl⟩:=cQ e1;obtain⟨ue3,rfl⟩:=cW e3;refine⟨ok1,ρ,il,P1.okh,P1.env,g1,fun H2 s2=>⟨ok1,ρ,ih,P1.okh.same s2,P1.env.same s2,g2,fun H3 s3=> ?_⟩⟩;have sx:=s2.trans s3;have ra:=r1.same sx;have st3:=P1.st.same sx;have okh:=P1.okh.same sx;have q':∀ v H',Same H3 H'->Rep X.K ok1 H' v d->Q v H':=fun v H' s r=>q v ok1 H' (n1.trans (.same P1.okh P1.st (sx.trans s))) r;unfold Nk at ue3;cases hs:fW ω' a with
 |some ds=>
  rw[hs] at ue3;cases ue3;obtain⟨p,xs,rfl,g,rs⟩:=fH st3 ra hs;exact .inl ⟨p,xs,rfl,SqL.of g,fun p' n=>q' _ _ (cM n) (.lst_new (okh p' n) n (rs.cut il ih))⟩
 |none=>
  rw[hs] at ue3;have ue4:gSl a il ih=wj d:=ue3;cases a with
  |lst ds=>cases hs
  |scr ds=>
   cases ue4;obtain⟨p,xs,rfl,g,rs⟩:=ra.scr_inv;exact .inl ⟨p,xs,rfl,g.sq,fun p' n=>q' _ _ (cM n) (.lst_new (okh p' n) n (rs.cut il ih))⟩
  |tup ds=>
   have h3':(if HT.sIx ds.length 0 il=0/\HT.sIx ds.length ds.length ih=ds.length then wk else wj (D.tup (Cy ds il ih)))=wj d:=ue4;obtain⟨p,xs,rfl,g,rs⟩:=ra.tup_inv
   by_cases hw:HT.sIx ds.length 0 il=0/\HT.sIx ds.length ds.length ih=ds.length
   ·rw[if_pos hw] at h3';cases h3'
   ·rw[if_neg hw] at h3';cases h3';exact .inr ⟨p,xs,rfl,g.sq,by rw[rs.length];exact hw,fun p' n=>q' _ _ (cM n) (.tup_new (okh p' n) n (rs.cut il ih))⟩
  |_=>cases ue4
end
noncomputable def CM (T:String) (ω:Om) (d:D):Option Bool:=match fW ω d with
 |some ds=>Ce T (.lst ds)
 |none=>Ce T d
theorem Rep.wide {K:aa} (r:Rep K ok H v d):Rep K ⟨fun _=>True,ok.al⟩ H v d:=Rep.mono (ok:=ok) (ok':=⟨fun _=>True,ok.al⟩) (fun _ _ _ e=>⟨trivial,e⟩) (fun _ _ h=>h) r
theorem Reps.wide {K:aa} (r:Reps K ok H v d):Reps K ⟨fun _=>True,ok.al⟩ H v d:=Reps.mono (ok:=ok) (ok':=⟨fun _=>True,ok.al⟩) (fun _ _ _ e=>⟨trivial,e⟩) (fun _ _ h=>h) r
theorem vX {K:aa} (t:Stt cls K ok H ω) (r:Rep K ok H v d) (e:fW ω d=wj ds):Rep K ⟨fun _=>True,ok.al⟩ H v (.lst ds):=by
 obtain⟨a,xs,rfl,g,rs⟩:=fH t r e;exact .lst ⟨trivial,g⟩ rs.wide
section
variable {X:Cx}{cls exC:Nat->ae}{E:XE}{e a b c o i value:bt}{es rest:List bt}{fa fb fc fo fi fv:OG D}{fl:OG (List D)}{ft ft':OG Bool}{pos p apos pos' cpos:Pos}{x m:Str}{st:cr}
noncomputable def oQ (T:String) (f:OG D):OG D:=oB f fun d _ ω=>oR (pu ((CM T ω d).map D.bl) ω)
theorem Ke {K:aa} (t:Stt cls K ok H ω) (r:Rep K ok H v d) (e:CM T ω d=wj k):∃ d',Rep K ⟨fun _=>True,ok.al⟩ H v d'/\Ce T d'=wj k:=by
 unfold CM at e;cases hs:fW ω d with
 |some ds=>rw[hs] at e;exact⟨_,vX t r hs,e⟩
 |none=>rw[hs] at e;exact⟨d,r.wide,e⟩
theorem wJ (he:OE X cls E e fa) (hg:Gl X "isinstance") (hm:X.mg "isinstance"=wk) (hgT:Gl X T) (hmT:X.mg T=wk) (hv:de T=wj (.type Tn)) (hn:T≠"__name__":=by decide) (hdb:(T==("__debug__":Str))=false:=by decide)
  (h1:av [e,.Name T p2] X.env=(false,eval e X.env)::av [.Name T p2] X.env:=by rfl) (h2:av [.Name T p2] X.env=(false,eval (.Name T p2) X.env)::av [] X.env:=by rfl) (hpl:(di pos (av [.Name T p2] X.env)).any (·.1)=false:=by rfl):
  OE X cls E (.Call (.Name "isinstance" p) [e,.Name T p2] [] pos) (oQ Tn fa):=
 (tX HL hg hm (by decide+kernel) (oJ he (oJ (Jj (v:=.ty Tn) hgT hmT hv rfl hn hdb) AN h2) h1) (by decide) (by decide) h1 hpl).imp fun σ H Q ⟨ok,ρ,ω,r,ω',P,e,q⟩=>by
  refine tO.then_ P e (fun c z=>by subst z;exact q) fun d ω1 v ok1 H1 e1 n1 P1 r1=> ?_;obtain⟨y,e3,rfl⟩:=cQ e1;obtain⟨ue3,rfl⟩:=cW e3;obtain⟨k,e4,rfl⟩:=aJ ue3;obtain⟨d',rd,e5⟩:=Ke P1.st r1 e4;exact⟨v,Tn,d',_,k,rfl,rd,e5,q _ ok1 H1 n1 (.bl _)⟩
noncomputable def Cf (ω:Om) (d:D):Bool:=match cellOf ω d with
 |some (.ml _)=>true
 |_=>false
theorem Eg (h:Cf ω d=true):∃ n ds,d=.obj n/\ω[n]?=wj (.ml ds):=by
 unfold Cf at h;split at h
 ·obtain⟨n,rfl,e⟩:=dO ‹_›;exact⟨n,_,rfl,e⟩
 ·cases h
noncomputable def kY (g:Om->D->List D->Option (D×Om)) (fo:OG D) (fl:OG (List D)):OG D:=oB fo fun d ρ ω=>if Cf ω d=true then oB fl (fun ds _ ω=>oR (g ω d ds)) ρ ω else wk
noncomputable def Fu (cls:Nat->ae) (K:aa) (r:V->List V->Hp->VK->Prop) (g:Om->D->List D->Option (D×Om)):Prop:=∀(ok:Okk) (H:Hp) (ω:Om) (x:V) (xs:List V) (a:D) (as:List D) (d:D) (ω':Om) (Q:VK),OkH ok H->Stt cls K ok H ω->Rep K ok H x a->Reps K ok H xs as->g ω a as=wj (d,ω')->
 (∀ v ok' H',Nw cls K ok H ok' H' ω'->Rep K ok' H' v d->Q v H')->r x xs H Q
theorem OR {id:String} (slot:Slot "list" m id) (hty:typeOf (.builtin id)=pure (.type "method_descriptor")) (hm:MtR X id r) (F:Fu cls X.K r g) (ho:OE X cls E o fo) (ha:OA X cls E (e::es) fl)
  (hbase:ib o m X.env (eval o X.env)=eval o X.env:=by rfl)
  (hfew:((di cpos (av (e::es) X.env)).all (fun x=> !x.1)&&(jy cpos (io [] X.env)).all (fun x=>x.1.isSome)
   &&decide ((e::es).length+([]:List kc).length+(if([]:List kc).isEmpty then 0 else 1)<30))=true:=by rfl)
  (hline:(apos.endLine==cpos.line)=true:=by rfl) (hs:av (e::es) X.env=(false,eval e X.env)::av es X.env:=by rfl) (hplain:(di cpos (av es X.env)).any (·.1)=false:=by rfl):
  OE X cls E (.Call (.Attribute o m apos) (e::es) [] cpos) (kY g fo fl):=
 (Mb PySem.F.plainAttrs_list slot hty hm ho ha hbase hfew hline hs hplain).imp fun σ H Q ⟨ok,ρ,ω,r,ω',P,e,q⟩=>by
  refine tO.then_ P e (fun c z=>by subst z;exact q) fun d ω1 v ok1 H1 e1 n1 P1 r1=> ?_;obtain⟨hi,e1⟩:=cR e1;obtain⟨n,ds0,rfl,e2⟩:=Eg hi;obtain⟨a,rfl,e4,xs,e5,rs⟩:=P1.st.ref r1 e2;refine⟨.inl ⟨rfl,xs,SqL.of e5⟩,?_⟩;refine tOA.then_ P1 e1 (fun c z=>by subst z;exact exR.nw q n1) fun ds ω2 us ok2 H2 e6 n2 P2 r2=> ?_;obtain⟨y,e7,rfl⟩:=cQ e6;exact F ok2 H2 ω2 _ us _ ds y ω' Q P2.okh P2.st (r1.ex n2.ex) r2 e7 fun w ok3 H3 n3 r3=>q w ok3 H3 (n1.trans (n2.trans n3)) r3
noncomputable def lL (ω:Om) (d:D) (as:List D):Option (D×Om):=match d,as with
 |.obj n,[v]=>match ω[n]? with
  |some (.ml ds)=>if ds.length<sizeLine then wj (.non,ω.set n (.ml (ds++[v]))) else wk
  |_=>wk
 |_,_=>wk
theorem EG (h:lL ω d as=wj (y,ω')):∃ n v ds,d=.obj n/\as=[v]/\ω[n]?=wj (.ml ds)/\ds.length<sizeLine/\y=.non/\ω'=ω.set n (.ml (ds++[v])):=by
 unfold lL at h;split at h
 ·split at h
  ·obtain⟨hz,e3⟩:=bL h;cases e3;exact⟨_,_,_,rfl,rfl,‹_›,hz,rfl,rfl⟩
  ·cases h
 ·cases h
theorem KD {K:aa}:Fu cls K Dm lL:=fun ok H ω x xs a as d ω' Q h1 st ra rs e k=>by
 obtain⟨n,v,ds,rfl,rfl,hc,hz,rfl,rfl⟩:=EG e;obtain⟨a1,rfl,e4,us,e5,r5⟩:=st.ref ra hc;obtain⟨w,rfl,rw'⟩:=rs.one_inv;refine⟨a1,us,w,rfl,rfl,e5,by rw[r5.length];exact hz,?_⟩;exact k _ ok _ (Nw.write (o:=.lst (us++[w])) (ob:=.ml (ds++[v])) h1 st e4 e5 fun dat=>⟨_,aQ,(r5.snoc rw').mono dat⟩) .non
theorem DH (ho:OE X cls E o fo) (ha:OA X cls E [e] fl) (hbase:ib o "append" X.env (eval o X.env)=eval o X.env:=by rfl)
  (hfew:((di cpos (av [e] X.env)).all (fun x=> !x.1)&&(jy cpos (io [] X.env)).all (fun x=>x.1.isSome)
   &&decide ([e].length+([]:List kc).length+(if([]:List kc).isEmpty then 0 else 1)<30))=true:=by rfl)
  (hline:(apos.endLine==cpos.line)=true:=by rfl) (hs:av [e] X.env=(false,eval e X.env)::av [] X.env:=by rfl) (hplain:(di cpos (av [] X.env)).any (·.1)=false:=by rfl):
  OE X cls E (.Call (.Attribute o "append" apos) [e] [] cpos) (kY lL fo fl):=OR si PySem.F.type_list_append (fun pins s σ H x xs v us Q=>wM pins s σ H x xs v us Q) KD ho ha hbase hfew hline hs hplain
end
theorem jw.get2:∀ {l:List α}{l':List β}{i:Nat}{b:β},jw F l l'->l'[i]?=wj b->∃ a,l[i]?=wj a/\F a b
 |_,_,_,_,.nil,e=>by simp at e
 |_,_,0,_,.cons r _,e=>by simp at e;subst e;exact⟨_,rfl,r⟩
 |_,_,i+1,b,.cons _ t,e=>by
  obtain⟨a,h1,h2⟩:=jw.get2 (i:=i) (b:=b) t (by simpa using e);exact⟨a,by simpa using h1,h2⟩
section
variable {X:Cx}{pins:List (ae×Obj)}{σ:St}{H:Hp}{s:am}{d:ae}{kvs:List (List Key×V)}
theorem qD (I:Inv X pins σ H s) (e:Rd H d (.dT kvs)):(d==fg)=false/\kvs.length<=sizeLine/\∃ es ep,RawD s.heap d es ep/\es.size=kvs.length/\
  ∀(i:Nat) (y:k6),es[i]?=wj y->∃ p,kvs[i]?=wj p/\RelV p.2 y.val/\∃ a,y.key=.ref a/\H a=wj (.tup (p.1.map kV)):=by
 obtain⟨z,lo,xs,pr,o,es,ep,h1,h2,h3,h4,h5⟩:=(show ObjOk X.prog X.w H s.heap d (.dT kvs) from e.ok I.hok);have hl:es.size=kvs.length:=by
  have:=congrArg ll h4
  rw[ao,d7] at this;rw[this,<- i6 pr]
 refine⟨lo,z,es,ep,⟨o,h1,h2,h3⟩,hl,fun i y hy=> ?_⟩;have hy':(xs.map (f9 (bx (aO X.prog X.w))))[i]?=wj y:=by rw[<- h4,hW];exact hy
 rw[ax] at hy';obtain⟨q,q1,q2⟩:=aJ hy';obtain⟨p,p1,p2,p3,p4⟩:=jw.get2 pr q1;subst q2;exact⟨p,p1,p4,q.2.1,rfl,p3⟩
end
noncomputable def Lc (v d:ae):HO:=.ext fun h=>h.IsValuesView v d
section
variable {X:Cx}{cls exC:Nat->ae}{E:XE}{e a b c o i value:bt}{es rest:List bt}{fa fb fc fo fi fv:OG D}{fl:OG (List D)}{ft ft':OG Bool}{pos p apos pos' cpos:Pos}{x m:Str}{st:cr}
theorem DT:MtR X "dict.values" fun x xs H Q=>∃ d kvs,x=.ref d/\xs=[]/\H d=wj (.dT kvs)/\∀ p,H p=wk->Q (.ref p) (upd H p (Lc p d)):=by
 intro pins s σ H x xs v us Q I rx rs h;obtain⟨d,kvs,rfl,rfl,hd,q⟩:=h;cases rx;cases rs;obtain⟨lo,_,es,ep,r,_,_⟩:=qD I (.inl hd);refine BM lo r ?_;have e1:(s.heap.push { cls:=.type "dict_values",data:=.fields #[.ref d] }).get? s.heap.objs.size=wj { cls:=.type "dict_values",data:=.fields #[.ref d] }:=bw _ rfl;refine⟨.ref _,_,I.laid (t':=s.toks) (fun b u q=>az _ q) (bf _) ?_,rfl,q _ (I.hok.fresh (bf _))⟩;exact⟨⟨_,e1,rfl,rfl⟩,⟨_,e1⟩,fun h1 h2 z k=>let ⟨o,y1,y2⟩:=z;⟨o,k o y1,y2⟩⟩
theorem uF {a:ae}{c:Nat} (r:Vals xs vs) (hz:xs.length<=sizeLine) (e:h.get? a=wj (gx "list" vs.toArray c)):ObjOk P w H h a (.lst xs):=⟨hz,vs,c,r,e⟩
theorem yI (hl:vs.length=xs.length) (h:∀(j:Nat) (v:af),vs[j]?=wj v->∃ x,xs[j]?=wj x/\RelV x v):Vals xs vs:=by
 induction vs generalizing xs with
 |nil=>
  cases xs with
  |nil=>exact .nil
  |cons _ _=>cases hl
 |cons v vs ih=>
  cases xs with
  |nil=>cases hl
  |cons x xs=>
   obtain⟨y,e,r⟩:=h 0 v rfl;simp at e;subst e;exact .cons r (ih (by simpa using hl) fun j u hu=>by simpa using h (j+1) u (by simpa using hu))
theorem xV (hc:X.calm=true):CallR X (.builtin "sorted") (fun xs H Q=>∃ v d kvs,xs=[.ref v]/\H v=wj (Lc v d)/\H d=wj (.dT kvs)/\kvs.length<2/\∀ l,H l=wk->Q (.ref l) (upd H l (.lst (kvs.map (·.2))))):=by
 intro pins s σ H xs us Q I r h;obtain⟨v,d,kvs,rfl,hv,hd,hl,q⟩:=h;obtain⟨u,rfl,rx⟩:=lV r;cases rx;obtain⟨lo,hz,es,ep,rd,sz,it⟩:=qD I (.inl hd);have vw:s.heap.IsValuesView v d:=(show ObjOk X.prog X.w H s.heap v (Lc v d) from I.hok v _ hv).1;refine oA (rT (d:=d) (es:=es) (ep:=ep)) (I.ok.hd hc) ⟨vw,rd⟩ (by rw[sz];exact hl) fun h' tk vs a c kp na hlen hP ha=> ?_;have rv:Vals (kvs.map (·.2)) vs:=yI (by rw[hlen,sz,ao]) fun j w hw=>by
  obtain⟨y,y1,y2⟩:=hP j w hw;obtain⟨p,p1,p2,_⟩:=it j y y1;exact⟨p.2,by rw[ax,p1];rfl,by rw[y2];exact p2⟩
 obtain⟨hn,I'⟩:=I.laidN (t':=tk) kp na (uF (H:=upd H a (.lst (kvs.map (·.2)))) rv (by rw[ao];exact hz) ha);exact⟨.ref a,_,I',rfl,q a hn⟩
end
section
variable {X:Cx}{pins:List (ae×Obj)}{σ:St}{H:Hp}{s:am}{d:ae}{kvs:List (List Key×V)}{o:Obj}
theorem Bb (x:HOk P w H h) (hd:H d=wj u) (h1:∀ y,u≠ .own y) (h2:∀ ys,u≠ .tup ys) (new:ObjOk P w (upd H d u') h d u'):HOk P w (upd H d u') h:=fun b v e=>by
 by_cases hb:b=d
 ·subst hb;rw[aQ] at e;cases e;exact new
 ·rw[aG hb] at e;exact(x b v e).stay (fun c q _ z=>z) (fun c q=>by rw[aG (fun z=>by rw[z,hd] at q;exact h1 _ (ce q))];exact q) fun c xs q=>by rw[aG (fun z=>by rw[z,hd] at q;exact h2 _ (ce q))];exact q
theorem AR (x:ObjOk P w H h b v) (hd:H d=wj u) (h1:∀ y,u≠ .own y) (h2:∀ ys,u≠ .tup ys):ObjOk P w (upd H d u') h b v:=
 x.stay (fun c q _ z=>z) (fun c q=>by rw[aG (fun z=>by rw[z,hd] at q;exact h1 _ (ce q))];exact q) fun c xs q=>by rw[aG (fun z=>by rw[z,hd] at q;exact h2 _ (ce q))];exact q
theorem _root_.L2.Inv.frozen (I:Inv X pins σ H s) (hd:H d=wj (.dT kvs)) (ho:s.heap.get? d=wj o):Inv X pins σ (upd H d (.frz o (.dT kvs))) s:=by
 have nn:∀ b,H b=wk->upd H d (.frz o (.dT kvs)) b=wk:=fun b e=>by rw[aG (fun z=>by rw[z,hd] at e;cases e)];exact e
 refine⟨I.ok,I.os,I.bare,⟨I.base.keep,I.base.slot,fun b u e n x=>nn b (I.base.free b u e n x),I.base.there,fun b xs e=> ?_,fun b u v e=> ?_,fun b ps e=> ?_⟩,I.loc,I.cell,nn _ I.free,fun x c e=>nn _ (I.freeC x c e),fun p hp=> ?_,Bb I.hok hd (fun _ z=>nomatch z) (fun _ z=>nomatch z) ⟨ho,AR (I.hok d _ hd) hd (fun _ z=>nomatch z) (fun _ z=>nomatch z)⟩,I.len⟩
 ·have z:=I.base.tups b xs e;rw[aG (fun q=>by rw[q,hd] at z;cases z)];exact z
 ·have z:=I.base.frzs b u v e;rw[aG (fun q=>by rw[q,hd] at z;cases z)];exact z
 ·obtain⟨m,z⟩:=I.base.tbls b ps e;exact⟨m,by rw[aG (fun q=>by rw[q,hd] at z;cases z)];exact z⟩
 ·obtain⟨z1,z2,z3⟩:=I.pin p hp;exact⟨z1,nn _ z2,z3⟩
theorem _root_.L2.Inv.thawed (I:Inv X pins σ H s) (hd:H d=wj (.frz o (.dT kvs))) (hn:∀ o u,X.H₀ d≠wj (.frz o u)):Inv X pins σ (upd H d (.dT kvs)) s:=by
 have nn:∀ b,H b=wk->upd H d (.dT kvs) b=wk:=fun b e=>by rw[aG (fun z=>by rw[z,hd] at e;cases e)];exact e
 refine⟨I.ok,I.os,I.bare,⟨I.base.keep,I.base.slot,fun b u e n x=>nn b (I.base.free b u e n x),I.base.there,fun b xs e=> ?_,fun b u v e=> ?_,fun b ps e=> ?_⟩,I.loc,I.cell,nn _ I.free,fun x c e=>nn _ (I.freeC x c e),fun p hp=> ?_,Bb I.hok hd (fun _ z=>nomatch z) (fun _ z=>nomatch z) (AR (show ObjOk X.prog X.w H s.heap d (.dT kvs) from(I.hok d _ hd).2) hd (fun _ z=>nomatch z) (fun _ z=>nomatch z)),I.len⟩
 ·have z:=I.base.tups b xs e;rw[aG (fun q=>by rw[q,hd] at z;cases z)];exact z
 ·have z:=I.base.frzs b u v e;rw[aG (fun q=>hn u v (by rw[<- q];exact e))];exact z
 ·obtain⟨m,z⟩:=I.base.tbls b ps e;exact⟨m,by rw[aG (fun q=>by rw[q,hd] at z;cases z)];exact z⟩
 ·obtain⟨z1,z2,z3⟩:=I.pin p hp;exact⟨z1,nn _ z2,z3⟩
end
noncomputable def Itk (d:ae) (o:Obj) (kvs:List (List Key×V)):It:=
 ⟨fun i H=>H d=wj (.frz o (.dT kvs))/\i<kvs.length,fun i H x H'=>H'=H/\∃ b p,x=.ref b/\kvs[i]?=wj p/\H b=wj (.tup (p.1.map kV)),fun i H=>H d=wj (.frz o (.dT kvs))/\kvs.length<=i⟩
theorem CT {K:aa} (d it:ae) (o:Obj) (kvs:List (List Key×V)) (es:Array k6) (ep:Nat) (hod:o.data=.dict es ep) (hsz:es.size=kvs.length):KY P w K tg (Itk d o kvs) [it] it (fun i h=>h.IsKeyIter it d i es.size ep) where
 mem:=by simp
 obj:=fun i h st b hb=>by
  have e:b=it:=by simpa using hb
  subst e;obtain⟨o,e,c,d⟩:=st;exact⟨o,e,fun v z=>by rw[d] at z;cases z⟩
 keep:=fun i h h' st k=>let ⟨o,e,z⟩:=st;⟨o,k it (by simp) o e,z⟩
 item:=by
  intro X hP hw hK hc i pins s σ H E I hf st hg;subst hP hw hK;obtain⟨hd,hi⟩:=hg;obtain⟨f0,f1,f2,f3,f4,f5⟩:=hf it (by simp);obtain⟨lo,_,es',ep',⟨o',r1,r2,r3⟩,sz,its⟩:=qD I (.inr ⟨o,hd⟩);have ho:s.heap.get? d=wj o:=(I.hok d _ hd).1;rw[ho] at r1;cases r1;rw[hod] at r3;cases r3;have hi':i<es.size:=by rw[hsz];exact hi
  obtain⟨p,p1,_,a,p2,p3⟩:=its i es[i] (by simp[hi']);refine wC (e:=es[i]) st ⟨o,ho,r2,hod⟩ (by simp[hi']) fun h' st' sb=> ?_;have I1:Inv X pins σ H { s with heap:=h' }:=I.turned (t':=s.toks) (fun b o hb e=>(sb.2 b hb).trans e) f0 f1 f3 f4 f5;obtain⟨oi,e1,c1,d1⟩:=id st';exact⟨_,rfl,GO (s:={ s with heap:=h' }) e1 c1 d1 (by decide) ⟨.ref a,H,I1,p2,⟨rfl,a,p,rfl,p1,p3⟩,st',fun b hb=>(hf b hb).1⟩⟩
 done:=by
  intro X hP hw hK hc i pins s σ H E I hf st hg;subst hP hw hK;obtain⟨hd,hi⟩:=hg;obtain⟨f0,f1,f2,f3,f4,f5⟩:=hf it (by simp);obtain⟨lo,_,es',ep',⟨o',r1,r2,r3⟩,sz,its⟩:=qD I (.inr ⟨o,hd⟩);have ho:s.heap.get? d=wj o:=(I.hok d _ hd).1;rw[ho] at r1;cases r1;exact AK (I.ok.hd hc) st ⟨o,ho,r2,hod⟩ (by rw[hsz];exact hi) fun h' eb=>⟨rfl,I.turned (t':=s.toks) (fun b o hb e=>eb b o hb e) f0 f1 f3 f4 f5⟩
 self:=fun _ _ _ _ _ st h=>tm st h
noncomputable def Ni (H₀:Hp) (to:TE):TI:=fun σ H R=>to σ H fun x H1=>∃ d kvs,x=.ref d/\H1 d=wj (.dT kvs)/\∀ o,(∀ o' u,H₀ d≠wj (.frz o' u))->R (Itk d o kvs) (upd H1 d (.frz o (.dT kvs)))
section
variable {X:Cx}{cls exC:Nat->ae}{E:XE}{e a b c o i value tg iter:bt}{es rest:List bt}{fa fb fc fo fi fv:OG D}{fl:OG (List D)}{ft ft':OG Bool}{pos p apos pos' cpos:Pos}{x m:Str}{st:cr}{body:List cr}{F:OS}
theorem Ja (ho:PE X iter to):PI X tg iter (Ni X.H₀ to):=by
 intro pins s σ H R I h;refine thn (ho pins s σ H _ I h) fun v s1 ⟨x,H1,I1,rx,d,kvs,ex,hd,q⟩=> ?_;subst ex;cases rx;obtain⟨lo,_,es,ep,⟨o,r1,r2,r3⟩,sz,its⟩:=qD I1 (.inl hd);have nf:∀ o' u,X.H₀ d≠wj (.frz o' u):=fun o' u z=>by
  have:=I1.base.frzs d o' u z
  rw[hd] at this;cases this
 have I2:=I1.frozen hd r1;refine wD lo ⟨o,r1,r2,r3⟩ ?_;have nd:d≠s1.heap.objs.size:=cj (bj r1);have hn:upd H1 d (.frz o (.dT kvs)) s1.heap.objs.size=wk:=by rw[aG (bv nd)];exact I1.hok.fresh (bf _)
 refine⟨s1.heap.objs.size,[s1.heap.objs.size],_,Itk d o kvs,_,rfl,I2.kept (t':=s1.toks) (fun b u e=>az _ e),CT d _ o kvs es ep r3 sz,⟨_,bw _ rfl,rfl,rfl⟩,fun b hb=> ?_,q o nf⟩;have e:b=s1.heap.objs.size:=by simpa using hb
 subst e;exact(I1.fpOk (bf _) hn)
noncomputable def KM (H₀:Hp) (D:BB):BB:={ nx:=fun σ H=>∃ d o kvs,H d=wj (.frz o (.dT kvs))/\(∀ o' u,H₀ d≠wj (.frz o' u))/\D.nx σ (upd H d (.dT kvs)),rt:=fun _ _=>False }
theorem IS (hp:PassesOwn (model X.prog X.w) X.A X.env X.xe) (hc:X.calm=true) (ho:PE X iter to) (hg:PG X tg g) (hb:PSs X body tb) (hs:∀ x,ga iter X.env x=pure x:=by intro _;rfl):
  PS X (.For tg iter body [] pos) (fun D σ H=>Og (Ni X.H₀ to) g tb (KM X.H₀ D) σ H):=fun pins s σ H D I h=>by
 refine thn (HZ (pos:=pos) hp hc (Ja ho) hg hb hs pins s σ H (KM X.H₀ D) I h) fun f s' z=> ?_;cases f with
 |next=>
  obtain⟨σ',H',I',d,o,kvs,h1,h2,h3⟩:=z;exact⟨σ',_,I'.thawed h1 h2,h3⟩
 |brk=>obtain⟨_,_,_,q⟩:=z;exact q.elim
 |cont=>obtain⟨_,_,_,q⟩:=z;exact q.elim
 |ret u=>obtain⟨_,_,_,_,_,q⟩:=z;exact q.elim
noncomputable def bK (k:List Key):D:=.tup (k.map ofK)
noncomputable def rX:List (List Key×D)->List (List Key×D)->Bool
 |[],[]=>true
 |a::as,b::bs=>decide (a.1=b.1)&&fI a.2 b.2&&rX as bs
 |_,_=>false
theorem vY:∀ {a b:List (List Key×D)},rX a b=true->a=b
 |[],[],_=>rfl
 |[],_::_,h=>nomatch h
 |_::_,[],h=>nomatch h
 |a::as,b::bs,h=>by
  simp only[rX,bp,decide_eq_true_eq] at h;rw[vY h.2,show a=b from Prod.ext h.1.1 (AG _ _ h.1.2)]
noncomputable def wV (n:Nat) (kvs:List (List Key×D)) (ω:Om):Bool:=match ω[n]? with
 |some (.dz k)=>rX k kvs
 |_=>false
theorem GH (h:wV n kvs ω=true):ω[n]?=wj (.dz kvs):=by
 unfold wV at h;split at h
 ·rename_i k e
  rw[vY h] at e;exact e
 ·cases h
noncomputable def Cs (ω:Om) (d:D):Option (Nat×List (List Key×D)):=match d with
 |.obj n=>match ω[n]? with
  |some (.dt kvs)=>wj (n,kvs)
  |_=>wk
 |_=>wk
theorem EE (h:Cs ω d=wj (n,kvs)):d=.obj n/\ω[n]?=wj (.dt kvs):=by
 unfold Cs at h;split at h
 ·split at h
  ·cases h;exact⟨rfl,‹_›⟩
  ·cases h
 ·cases h
noncomputable def IH (fo:OG D) (bd:BR) (F:OS):OS:=oX fo fun d ρ ω=>(Cs ω d).bind fun p=>match bR bd (wV p.1 p.2) F (p.2.map fun kv=>bK kv.1) ρ (ω.set p.1 (.dz p.2)) with
 |some (.nx ρ',ω')=>if wV p.1 p.2 ω'=true then wj (.nx ρ',ω'.set p.1 (.dt p.2)) else wk
 |_=>wk
theorem Nd {K:aa} (k:Key):Rep K ok H (kV k) (ofK k):=by
 cases k with
 |inl i=>exact .int i
 |inr x=>exact .str x
theorem yY {K:aa}:∀ ks:List Key,Reps K ok H (ks.map kV) (ks.map ofK)
 |[]=>.nil
 |k::ks=>.cons (Nd k) (yY ks)
end
section
variable {X:Cx}{cls exC:Nat->ae}{E:XE}{e a b c o i value tg iter:bt}{es rest:List bt}{fa fb fc fo fi fv:OG D}{fl:OG (List D)}{ft ft':OG Bool}{pos p apos pos' cpos:Pos}{x m:Str}{st:cr}{body:List cr}{F:OS}
noncomputable def HM (i j k l:Nat):BR:=fun d ρ=>match d with
 |.tup [x,y,z,w]=>wj ((((ρ.set i (wj x)).set j (wj y)).set k (wj z)).set l (wj w))
 |_=>wk
theorem Ko {i j k l:Nat} (hc:X.calm=true) (hN:X.N.Nodup) (hi:X.N[i]?=wj x) (hj:X.N[j]?=wj y) (hk:X.N[k]?=wj z) (hl:X.N[l]?=wj w) (hx:Loc X.env.scope x) (hy:Loc X.env.scope y) (hz:Loc X.env.scope z) (hw:Loc X.env.scope w)
  (hf:X.fn x=true∨X.env.scope.names.lookup x=wj .local:=by first|exact .inl rfl|exact .inr rfl|assumption) (hf2:X.fn y=true∨X.env.scope.names.lookup y=wj .local:=by first|exact .inl rfl|exact .inr rfl|assumption)
  (hf3:X.fn z=true∨X.env.scope.names.lookup z=wj .local:=by first|exact .inl rfl|exact .inr rfl|assumption) (hf4:X.fn w=true∨X.env.scope.names.lookup w=wj .local:=by first|exact .inl rfl|exact .inr rfl|assumption):
  PG X (.Tuple [.Name x p1,.Name y p2,.Name z p3,.Name w p4] kk tp) (gR X.K (HM i j k l)):=
 PG.imp (Ib (n:=4) hc (jG (kC hN hi hx hf) (jG (kC hN hj hy hf2) (jG (kC hN hk hz hf3) (jG (kC hN hl hw hf4) Ds))))) fun v σ H Q ⟨ok,ρ,ρ',d,h1,h2,h3,h4,h5⟩=>by
  unfold HM at h4;split at h4
  ·cases h4;obtain⟨a,xs,rfl,g,r⟩:=h3.tup_inv;cases r with
   |cons r1 r=>cases r with
    |cons r2 r=>cases r with
     |cons r3 r=>cases r with
      |cons r4 r=>cases r with
       |nil=>
        refine⟨a,_,rfl,g.sq,rfl,_,_,rfl,_,_,rfl,_,_,rfl,_,_,rfl,rfl,?_⟩;have e1:=h1.set h2 r1 i;have e2:=e1.set (by simpa using h2) r2 j;have e3:=e2.set (by simpa using h2) r3 k;have e4:=e3.set (by simpa using h2) r4 l;exact h5 _ e4 (by simpa using h2)
  ·cases h4
noncomputable def BJ (bd:BR) (f:OG D):OS:=oX f fun d ρ ω=>(bd d ρ).map fun ρ'=>(.nx ρ',ω)
theorem Ju (he:OE X cls E e fa) (hg:PG X tg (gR X.K bd)) (hs:tz [tg] e pos.line X.env=pure false:=by rfl) (hw:t6 [tg] e X.env=pure wk:=by rfl)
  (h1:(k8 [tg] X.env).map (·.2)=[assign tg X.env]:=by rfl):OSt X cls E (.Assign [tg] e pos) (BJ bd fa):=(Ia he hg hs hw h1).imp fun D σ H ⟨ok,ρ,ω,oo,ω',P,e,q⟩=>by
 refine tO.thenS P e q fun d ω1 v ok1 H1 e1 n1 P1 r1 q1=> ?_;obtain⟨ρ',e2,e3⟩:=aJ e1;cases e3;exact⟨ok1,ρ,ρ',d,P1.env,P1.len,r1,e2,fun σ' env len=>q1 ok1 H1 σ' (.refl P1.okh P1.st) env len⟩
noncomputable def oIA (g:List D->Option (List D)) (f:OG (List D)):OI':=oB f fun ds _ ω=>oR (pu ((g ds).map fun xs=>(xs,bW)) ω)
theorem DC (hg:Gl X "range") (hm:X.mg "range"=wk) (ha:OA X cls E [a] fl) (hs:av [a] X.env=[(false,eval a X.env)]:=by rfl):OI X cls E tg (.Call (.Name "range" p) [a] [] pos) (oIA jR fl):=
 PI.imp (Dr hg hm ha hs) fun σ H R ⟨ok,ρ,ω,r,ω',P,e,q⟩=>by
  refine tOA.then_ P e (fun c z=>by subst z;exact q) fun ds ω1 vs ok1 H1 e1 n1 P1 r1=> ?_;obtain⟨⟨dz,chk⟩,e3,rfl⟩:=cQ e1;obtain⟨ue3,rfl⟩:=cW e3;obtain⟨xs,e4,e5⟩:=aJ ue3;cases e5;unfold jR at e4;split at e4
  ·obtain⟨⟨hl,hh⟩,rfl⟩:=bL e4;obtain⟨v,rfl,rv⟩:=r1.one_inv;obtain rfl:=rv.int_inv;exact⟨_,rfl,by omega,by omega,q _ ok1 H1 n1 itD_range.toO⟩
  ·cases e4
end
noncomputable def jA (K:aa) (ns:List Str) (n:Nat):ae:=match cm K ca (ns.getD n "") with
 |some (wj (.ref a))=>a
 |_=>0
theorem nP {K:aa} (hx:ns.getD n ""=x) (h:cm K ca x=wj (wj (.ref a))):jA K ns n=a:=by
 unfold jA;rw[hx,h]
structure nR (P:db) (w:df) (K:aa) (mg:Str->Option af) (base:cx) (cls exC:Nat->ae) (k:Nat) (x:Str) (ps:List Str) (φ:eU):Prop where
 ex:∃ f fd,rP P w K mg base (CX1 P w exC) k f fd ps (spO cls exC K φ)/\mg x=wj (.ref f)/\gn K (.ref f)=true/\Binds K fd ps []
structure qY (P:db) (w:df) (K:aa) (mg:Str->Option af) (base:cx) (cls exC:Nat->ae) (k c:Nat) (m:Str) (ps:List Str) (φ:eU):Prop where
 ex:∃ f fd,rP P w K mg base (CX1 P w exC) k f fd ps (spO cls exC K φ)/\HW K (cls c) m f/\Binds K fd ps []
 cl:Cls K (cls c)
structure NV (P:db) (w:df) (K:aa) (mg:Str->Option af) (base:cx) (cls exC:Nat->ae) (k c:Nat) (x:Str) (ps:List Str) (φ:eU):Prop where
 ex:∃ f fd,rP P w K mg base (CX1 P w exC) k f fd ps (spO cls exC K φ)/\Mk K (cls c) f/\Binds K fd ps []
 at_:mg x=wj (.ref (cls c))
section
variable {X:Cx}{cls exC:Nat->ae}{E:XE}{e a b c o i value:bt}{es:List bt}{fa fb fo fi fv:OG D}{fl:OG (List D)}{pos p apos pos':Pos}{x m:Str}{cn k:Nat}{ps:List Str}{φ:eU}
theorem Gn (F:nR X.prog X.w X.K X.mg X.base cls exC k x ps φ) (hr:Room k X.A) (hg:Gl X x) (hx:Pas X exC E) (ha:OA X cls E (e::es) fl) (hdb:(x==("__debug__":Str))=false:=by decide)
  (he:av (e::es) X.env=(false,eval e X.env)::av es X.env:=by rfl) (hpl:(di pos (av es X.env)).any (·.1)=false:=by rfl):OE X cls E (.Call (.Name x p) (e::es) [] pos) (bO φ fl):=by
 obtain⟨f,fd,h1,h2,h3,h4⟩:=F.ex;exact JR h1 hr hg h2 h3 h4 hx ha hdb he hpl
theorem JK (F:qY X.prog X.w X.K X.mg X.base cls exC k cn m ps φ) (hr:Room k X.A) (hx:Pas X exC E) (ho:OE X cls E o fo) (ha:OA X cls E (e::es) fl)
  (hst:av (e::es) X.env=(false,eval e X.env)::av es X.env:=by rfl) (hpl:(di pos (av es X.env)).any (·.1)=false:=by rfl)
  (ht:eval (.Call (.Attribute o m apos) (e::es) [] pos) X.env=(do
   let ov <- eval o X.env
   mr apos.atName
   let (f,first) <- holding [ov] (l8 ov m pl)
   qh pos f first (di pos (av (e::es) X.env)) (jy pos (io [] X.env))):=by rfl):
  OE X cls E (.Call (.Attribute o m apos) (e::es) [] pos) (bJ cn m φ fo fl):=by
 obtain⟨f,fd,h1,h2,h4⟩:=F.ex;exact JJ (pl:=pl) ho F.cl h2 h1 hr h4 hx ha hst hpl ht
theorem Gk (F:qY X.prog X.w X.K X.mg X.base cls exC k cn m ps φ) (hr:Room k X.A) (hx:Pas X exC E) (ho:OE X cls E o fo)
  (ht:eval (.Call (.Attribute o m apos) [] [] pos) X.env=(do
   let ov <- eval o X.env
   mr apos.atName
   let (f,first) <- holding [ov] (l8 ov m pl)
   qh pos f first (di pos (av [] X.env)) (jy pos (io [] X.env))):=by rfl):
  OE X cls E (.Call (.Attribute o m apos) [] [] pos) (bJ cn m φ fo aP):=by
 obtain⟨f,fd,h1,h2,h4⟩:=F.ex;exact Gj (pl:=pl) ho F.cl h2 h1 hr h4 hx ht
theorem JM (F:NV X.prog X.w X.K X.mg X.base cls exC k cn x ps φ) (hr:Room (k+1) X.A) (hg:Gl X x) (hx:Pas X exC E) (ha:OA X cls E (e::es) fl) (hdb:(x==("__debug__":Str))=false:=by decide)
  (he:av (e::es) X.env=(false,eval e X.env)::av es X.env:=by rfl) (hpl:(di pos (av es X.env)).any (·.1)=false:=by rfl):OE X cls E (.Call (.Name x p) (e::es) [] pos) (uC cn φ fl):=by
 obtain⟨f,fd,h1,h2,h3⟩:=F.ex;exact JL h2 h1 hr hg F.at_ h3 hx ha hdb he hpl
end
theorem Ka {K:aa}{ns:List Int} (h:φ [.scr (ns.map D.int)] []=wj (.ok (.bl true),ω')) (hS:SqL K H a (ns.map V.int)):spO cls exC K φ [.ref a] H (fun v _=>v=.bl true) fun _ _ _=>False:=by
 refine⟨Okk.all,[],[.scr (ns.map D.int)],.ok (.bl true),ω',⟨fun _ _=>trivial,fun _ _ _=>trivial⟩,⟨fun n ob e=>by simp at e,(fun _ _ e=>nomatch e),(fun _ _ _ e=>nomatch e),(fun _ _ e=>nomatch e)⟩,.cons (.scr ?_ (Reps.ints ns)) .nil,h,fun v ok' H' _ r=>r.bl_inv⟩;rcases hS with h|h
 ·exact .inl ⟨trivial,h⟩
 ·exact .inr h
theorem law_walkO {l:vk}{K:Params->aa} (hn:l.most=wj 63) (hdf:d.params.defaults=[]) (hr:Room k o9)
  (hY:∀(w:df) (h:cx),YP w h->(K w.params).In h) (hφ:∀ ns:List Int,ns.length<=63->∃ ω',φ [.scr (ns.map D.int)] []=wj (.ok (.bl true),ω'))
  (F:∀(w:df) (mg:Str->Option af) (fa:ae) (h:cx),(K w.params).In h->h.Ns ca mg->mg d.name=wj (.ref fa)->
   ∃ fd:jk,(∀(s:am) (u:af),sg s fd ⟨[u],[]⟩ [(x,u)])/\∀ base:cx,(K w.params).In base->base.Ns ca mg->rP l.prog w (K w.params) mg base (CX1 l.prog w (jA (K w.params) es)) k fa fd [x] (spO (jA (K w.params) cs) (jA (K w.params) es) (K w.params) φ)):
  wd q loose XP YP l.row.toRowW d [] (fun f vs=>vj f vs):=
 L2.walk_of (n:=63) (k:=k) (x:=x) (CX:=fun w=>CX1 l.prog w (jA (K w.params) es)) (sp:=fun w=>spO (jA (K w.params) cs) (jA (K w.params) es) (K w.params) φ) hn (by decide) hdf hr hY F (fun _ _ a ns hl _ hS=>let ⟨_,h⟩:=hφ ns hl;Ka h hS) fun _ _ _ _ _ ⟨_,_,_,_,_,_,_,_,_,_,z⟩=>z
section
variable {α β:Type}{f h:OG D}{fl:OG (List D)}{ρ:Rho}{ω ω1 ω2 ω3:Om}{a b d:D}{ds:List D}{F G:OS}
theorem bI {f:OG α}{g:α->OG β} (e:f ρ ω=wj (.ok x,ω1)):oB f g ρ ω=g x ρ ω1:=by unfold oB;rw[e]
theorem cD {f:OG α} (e:f ρ ω=wj (.ok x,ω1)):oX f g ρ ω=g x ρ ω1:=by unfold oX;rw[e]
theorem OY {f:DF} (e:f ρ=wj d):oP f ρ ω=wj (.ok d,ω):=by unfold oP;rw[e];rfl
theorem aB (e:ρ[i]?=wj (wj d)):oP (aD i) ρ ω=wj (.ok d,ω):=OY (by unfold aD;rw[e];rfl)
theorem aU:oP (dC d) ρ ω=wj (.ok d,ω):=rfl
theorem eW (e1:f ρ ω=wj (.ok a,ω1)) (e2:h ρ ω1=wj (.ok b,ω2)) (e3:g ω2 a b=wj (d,ω3)):o2 g f h ρ ω=wj (.ok d,ω3):=by
 unfold o2;rw[bI e1,bI e2];show oR (g ω2 a b)=_;rw[e3];rfl
theorem gJ (e1:f ρ ω=wj (.ok a,ω1)) (e2:h ρ ω1=wj (.ok b,ω2)) (e3:g a b=wj d):o2 (lf g) f h ρ ω=wj (.ok d,ω2):=eW e1 e2 (by show pu (g a b) ω2=_;rw[e3];rfl)
theorem aE:aP ρ ω=wj (.ok [],ω):=rfl
theorem aA (e1:f ρ ω=wj (.ok a,ω1)) (e2:fl ρ ω1=wj (.ok ds,ω2)):aC f fl ρ ω=wj (.ok (a::ds),ω2):=by
 unfold aC;rw[bI e1,bI e2]
theorem dD (e1:fl ρ ω=wj (.ok ds,ω1)) (e2:g ω1 ds=wj (d,ω2)):oL g fl ρ ω=wj (.ok d,ω2):=by
 unfold oL;rw[bI e1];show oR (g ω1 ds)=_;rw[e2];rfl
theorem aW (e1:fl ρ ω=wj (.ok ds,ω1)) (e2:φ ds ω1=wj (r,ω2)):bO φ fl ρ ω=wj (r,ω2):=by
 unfold bO;rw[bI e1];exact e2
theorem aM (e:f ρ ω=wj (.ok d,ω1)):aI (aX i f) G ρ ω=G (ρ.set i (wj d)) ω1:=by
 unfold aI aX;rw[cD e]
theorem bA (e:F ρ ω=wj (.nx ρ1,ω1)):aI F G ρ ω=G ρ1 ω1:=by
 unfold aI;rw[e]
theorem cK (e:f ρ ω=wj (.ok (.bl k),ω1)):cH f ρ ω=wj (.ok k,ω1):=by
 unfold cH;rw[bI e];rfl
theorem lZ (e:t ρ ω=wj (.ok true,ω1)):eB t F G ρ ω=F ρ ω1:=by unfold eB;rw[cD e];rfl
theorem mB (e:t ρ ω=wj (.ok false,ω1)):eB t F G ρ ω=G ρ ω1:=by unfold eB;rw[cD e];rfl
theorem bH (e:f ρ ω=wj (.ok d,ω1)):aZ f ρ ω=wj (.rt d,ω1):=by unfold aZ;rw[cD e]
theorem aT (hl:ds.length=n) (e:G (cF N ds) ω=wj (.rt d,ω1)):eC n N G ds ω=wj (.ok d,ω1):=by
 unfold eC;rw[if_pos hl,e]
theorem Nm (h: -1000000000000000000<j/\j<1000000000000000000):iI (.int i) (.int j)=wj (.int (i*j)):=by
 show(if _ then _ else _)=_
 rw[if_pos (.inr h)]
theorem Nn (h:0<j):cU (.int i) (.int j)=wj (.int (i % j)):=by
 show(if _ then _ else _)=_
 rw[if_pos h]
end
section
variable {X:Cx}{cls exC:Nat->ae}{E:XE}{e a b c o i value tg iter:bt}{es rest:List bt}{fa fb fc fo fi fv:OG D}{fl:OG (List D)}{ft ft':OG Bool}{pos p apos pos' cpos:Pos}{x m:Str}{st:cr}{body:List cr}{F:OS}
theorem Nw.freeze {K:aa}{a:ae} (P:OkH ok H) (st:Stt cls K ok H ω) (e:ok.al n=wj a) (h:H a=wj (.dT vs)) (kv:KvR K ok H vs kvs):
  Nw cls K ok H ok (upd H a (.frz oo (.dT vs))) (ω.set n (.dz kvs)):=Nw.write P st e h fun dat=>⟨oo,vs,aQ,kv.mono dat fun _ _ z=>z⟩
theorem Pb {K:aa}{a:ae} (e:ok1.al n=wj a) (h:H1 a=wj (.frz oo (.dT vs))) (kv:KvR K ok1 H1 vs kvs):
  ItO cls K ok1 H1 (wV n kvs) (Itk a oo vs) (kvs.map fun kv=>bK kv.1):=by
 refine⟨fun i ok H ω nw _ hi=>⟨nw.ex.frz _ _ _ h,by rw[kv.length];simpa using hi⟩,fun i ok H ω x H' d nw _ y hd=> ?_,fun i ok H ω nw _ hi=>⟨nw.ex.frz _ _ _ h,by rw[kv.length];simpa using hi⟩⟩;obtain⟨rfl,b,p,rfl,hp,ht⟩:=y;refine⟨Same.refl _,?_⟩;have hk:=kv.keys;have e1:(vs.map (·.1))[i]?=wj p.1:=by rw[ax,hp];rfl
 rw[hk,ax] at e1;obtain⟨q,e2,e3⟩:=aJ e1;rw[ax,e2] at hd;cases hd;show Rep K ok _ _ (bK q.1);rw[e3];exact .tup ⟨nw.okh.tp b _ ht,ht⟩ (yY p.1)
theorem Nw.thaw {K:aa}{a:ae} (st1:Stt cls K ok1 H1 ω1) (e:ok1.al n=wj a) (h:H1 a=wj (.dT vs)) (nw:Nw cls K ok1 (upd H1 a (.frz oo (.dT vs))) ok H ω) (hc:ω[n]?=wj (.dz kvs)):
  ∃ ws,H a=wj (.frz oo (.dT ws))/\ws=vs/\Nw cls K ok1 H1 ok (upd H a (.dT vs)) (ω.set n (.dt kvs)):=by
 have hf:H a=wj (.frz oo (.dT vs)):=nw.ex.frz _ _ _ aQ;have ea:=nw.ex.ids n a e;obtain⟨b,e1,o',vs',e2,kv⟩:=nw.st.cell n _ hc;rw[ea] at e1;cases e1;rw[hf] at e2;cases e2;have na:¬ ok1.p a:=st1.nok n a e;have na':¬ ok.p a:=nw.st.nok n a ea;have dat:∀ b o,ok.p b->H b=wj o->ok.p b/\upd H a (.dT vs) b=wj o:=fun b o k z=>⟨k,by rw[aG (show b≠a from fun w=>na' (w ▸ k))];exact z⟩;refine⟨vs,hf,rfl,⟨⟨fun b o k z=> ?_,nw.ex.ids,fun b o z w=> ?_,fun m b z=> ?_,fun b z=> ?_,fun b k=> ?_,fun b x u z=> ?_⟩,⟨fun b z=> ?_,fun b xs z=> ?_⟩,fun m ob z=> ?_,fun m b z=>by rw[ci];exact nw.st.dom m b z,nw.st.inj,nw.st.nok⟩⟩
 ·have hb:b≠a:=fun w=>na (w ▸ k)
  have:=nw.ex.dat b o k (by rw[aG hb];exact z)
  exact⟨this.1,by rw[aG hb];exact this.2⟩
 ·have hb:b≠a:=fun q=>w n (q ▸ e);rw[aG hb];exact nw.ex.frm b o (by rw[aG hb];exact z) w
 ·rcases nw.ex.new m b z with w|w
  ·exact .inl w
  ·by_cases hb:b=a
   ·rw[hb,aQ] at w;cases w
   ·rw[aG hb] at w;exact .inr w
 ·by_cases hb:b=a
  ·rw[hb,aQ] at z;cases z
  ·rw[aG hb] at z
   have:=nw.ex.keep b z
   rw[aG hb] at this;exact this
 ·rcases nw.ex.sub b k with w|w
  ·exact .inl w
  ·by_cases hb:b=a
   ·rw[hb,aQ] at w;cases w
   ·rw[aG hb] at w;exact .inr w
 ·have hb:b≠a:=fun w=>by rw[w,h] at z;cases z
  rw[aG hb];exact nw.ex.frz b x u (by rw[aG hb];exact z)
 ·by_cases hb:b=a
  ·rw[hb,aQ] at z;cases z
  ·rw[aG hb] at z;exact nw.okh b z
 ·by_cases hb:b=a
  ·rw[hb,aQ] at z;cases z
  ·rw[aG hb] at z;exact nw.okh.tp b xs z
 ·rcases rW z with⟨rfl,rfl⟩|⟨hm,z⟩
  ·exact⟨a,ea,vs,aQ,kv.mono dat fun _ _ z=>z⟩
  ·obtain⟨b,e1,c1⟩:=nw.st.cell m ob z;refine⟨b,e1,c1.mono dat (fun _ _ z=>z) fun u q=> ?_⟩;rw[aG (show b≠a from fun w=>hm (nw.st.inj m n a (w ▸ e1) ea))];exact q
theorem Jp (hc:X.calm=true) (ho:OE X.nox cls EF iter fo) (hg:PG X.nox tg (gR X.K bd)) (hb:OSs X.nox cls EF body F) (hs:∀ x,ga iter X.env x=pure x:=by intro _;rfl):
  OSt X cls E (.For tg iter body [] pos) (sNx (IH fo bd F)):=Ii ((IS (X:=X.nox) vn hc ho hg hb hs).imp fun D σ H ⟨ok,ρ,ω,oo,ω',P,e,q⟩=>by
 refine tO.thenS P e q fun d ω1 v ok1 H1 e1 n1 P1 r1 q1=> ?_;obtain⟨⟨n,kvs⟩,hd,e2⟩:=aR e1;obtain⟨rfl,e3⟩:=EE hd;obtain⟨a,rfl,e4,vs,e5,kv⟩:=P1.st.ref r1 e3;refine⟨a,vs,rfl,e5,fun o nf=> ?_⟩;have nf1:Nw cls X.K ok1 H1 ok1 (upd H1 a (.frz o (.dT vs))) (ω1.set n (.dz kvs)):=.freeze P1.okh P1.st e4 e5 kv;dsimp only at e2;split at e2
 ·rename_i ρ' ω2 hF
  obtain⟨hz,e6⟩:=bL e2;cases e6;refine Bk (D:=KM X.H₀ D) (Pb e4 aQ (kv.mono nf1.ex.dat nf1.ex.ids)) (P1.nw nf1) hF fun ok2 H2 σ2 nw2 env2 len2=> ?_;obtain⟨ws,w1,rfl,nw3⟩:=Nw.thaw P1.st e4 e5 nw2 (GH hz);refine⟨a,o,ws,w1,nf,q1 ok2 _ σ2 nw3 ?_ len2⟩;intro j dj ej;obtain⟨u,z1,z2⟩:=env2 j dj ej;refine⟨u,z1,z2.mono (fun b u' k z=>⟨k,?_⟩) fun _ _ z=>z⟩;rw[aG (show b≠a from fun w=>nw2.st.nok n a (nw2.ex.ids n a e4) (w ▸ k))];exact z
 ·cases e2)
end
end L2.MB
end
section
namespace L2.MB
open PySem PySem.Spec PyProof.Rows PySem.Builtin
theorem nodup_ix {xs:List (α×β)} (h:(xs.map (·.1)).Nodup) {i j:Nat} (h1:xs[i]?=wj (k,p)) (h2:xs[j]?=wj (k,q)):i=j:=by
 have a1:(xs.map (·.1))[i]?=wj k:=by rw[ax,h1];rfl
 have a2:(xs.map (·.1))[j]?=wj k:=by rw[ax,h2];rfl
 exact(List.getElem?_inj (bg.mp a1).1 h).mp (a1.trans a2.symm)
theorem Dp (d b:ae):MeetsIn P w («dict.pop» { pos:=[.ref d,.ref b] }) fun A R s=>
  A.units+1<dr/\∃(xs:List (List Key×ae×af)) (j:Nat) (p:ae×af),iq (bx (aO P w)) s.heap d xs/\xs.length<=sizeLine/\(bx (aO P w)).is s.heap k b/\xs[j]?=wj (k,p)/\
   ∀ h' t,iq (bx (aO P w)) h' d (xs.eraseIdx j)->fx d s.heap h'->R (.ok (.ret p.2)) { s with heap:=h',toks:=t }:=by
 rintro A R s ⟨hu,xs,j,p,dd,hz,hk,hj,hR⟩;obtain⟨o,es,ep,h1,h2,h3,h4,h5,h6⟩:=dd;obtain⟨oc,od,odt,osl⟩:=o;obtain⟨q1,q2,q3⟩:=h2;dsimp only at q1 q2 q3 h3;subst q1 q2 q3 h3;have hne:es.isEmpty=false:=by
  have:es.toList≠[]:=by
   rw[h4];intro z;rw[List.map_eq_nil_iff] at z;rw[z] at hj;simp at hj
  cases q:es.isEmpty with
  |false=>rfl
  |true=>rw[mw] at q;rw[q] at this;exact absurd rfl this
 have hr:(bx (aO P w)).room A.in1:=kj hu;have hes:es[j]?=wj (f9 (bx (aO P w)) (k,p)):=by
  rw[<- hW,h4,ax,hj];rfl
 unfold «dict.pop» Dict.keyAndDefault
 repeat (first|with_reducible refine HeapKind.pyHash (bx (aO P w)) hr hk ?_|(with_reducible refine ub hr hk h1 rfl h4 h5 h6 (fun z=>absurd hj (z j p)) fun i q hi=> ?_)|wp_step)
 obtain rfl:=nodup_ix h6 hj hi;rw[hes]
 repeat (first|(with_reducible refine tq h1 rfl ?_ ?_ ?_)|wp_step)
 ·have sb:fx d s.heap (s.heap.update d (qz fun x=>x.eraseIdxIfInBounds j)):=⟨nq _ _ _,fun b hb=>eu _ _ (bv hb)⟩;refine hR _ _ ⟨_,es.eraseIdxIfInBounds j,ep+1,gp _ h1 ?_,⟨rfl,rfl,rfl⟩,rfl,?_,fun x hx=>(bx (aO P w)).keeps (h5 x (List.mem_of_mem_eraseIdx hx)) h1 rfl sb,?_⟩ sb
  ·rfl
  ·have em:∀(l:List (List Key×ae×af)) (n:Nat),(l.eraseIdx n).map (f9 (bx (aO P w)))=(l.map (f9 (bx (aO P w)))).eraseIdx n:=fun l=>by
    induction l with
    |nil=>intro n;rfl
    |cons x r ih=>intro n;cases n with
     |zero=>rfl
     |succ n=>simp[ih n]
   rw[em,<- h4];unfold Array.eraseIdxIfInBounds;split
   ·simp
   ·rename_i hn
    rw[List.eraseIdx_of_length_le (by simpa using hn)]
  ·exact h6.sublist ((List.eraseIdx_sublist xs j).map _)
 ·have:=congrArg ll h4
  rw[ao,d7] at this;rw[this];exact hz
 ·have:=PySem.size_eraseIdxIfInBounds_le es j
  omega
theorem mP {α β:Type} [DecidableEq α] {k:α}{p:β}:∀ {xs:List (α×β)}{j:Nat},(xs.map (·.1)).Nodup->xs[j]?=wj (k,p)->xs.eraseIdx j=xs.filter fun x=>decide (x.1≠k)
 |[],j,_,h=>by simp at h
 |x::r,0,nd,h=>by
  have h':x=(k,p):=by simpa using h
  subst h';rw[bh,b0] at nd;rw[List.eraseIdx_cons_zero,c9 (by simp)]
  symm
  rw[uc];intro a ha
  have:a.1≠k:=fun z=>nd.1 (aw.mpr ⟨a,ha,z⟩)
  simpa using this
 |x::r,j+1,nd,h=>by
  rw[bh,b0] at nd;have h':r[j]?=wj (k,p):=by simpa using h
  have hm:k∈r.map (·.1):=aw.mpr ⟨_,fz h',rfl⟩;have hx:x.1≠k:=fun z=>nd.1 (z ▸ hm);rw[List.eraseIdx_cons_succ,da (by simpa using hx),mP nd.2 h']
theorem KT.drop (r:KT H kvs xs) (k:List Key):KT H (xK kvs k) (xs.filter fun x=>decide (x.1≠k)):=by
 induction r with
 |nil=>exact .nil
 |@cons p q ps qs h t ih=>
  unfold xK at ih ⊢
  by_cases e:p.1=k
  ·have e':q.1=k:=h.1.symm.trans e;rw[c9 (by simp[e]),c9 (by simp[e'])];exact ih
  ·have e':¬ q.1=k:=fun z=>e (h.1.trans z);rw[da (by simp[e]),da (by simp[e'])];exact .cons h ih
theorem HN {k:List Key} (h:k9 xs k=wj p):∃ j:Nat,xs[j]?=wj (k,p):=by
 unfold k9 at h;obtain⟨q,e1,e2⟩:=aJ h;have m:=qd e1;have e3:=vp e1;obtain⟨j,hj⟩:=jq m;refine⟨j,?_⟩;rw[hj]
 have:q.1=k:=by simpa using e3
 rw[<- this,<- e2]
section
variable {X:Cx}{pins:List (ae×Obj)}{σ:St}{H:Hp}{s:am}{a b:ae}{kvs:List (List Key×V)}{k:List Key}{A:dh}{E:af->am->Prop}
theorem NE (hu:A.units+1<dr) (I:Inv X pins σ H s) (e:H a=wj (.dT kvs)) (eb:H b=wj (.tup (k.map kV))) (l:vO kvs k=wj v)
  (h:∀ w' s',Inv X pins σ (upd H a (.dT (xK kvs k))) s'->RelV v w'->Q w' s'):ay (model X.prog X.w) A (call (.builtin "dict.pop") [.ref a,.ref b]) Q E s:=by
 obtain⟨z,hd,xs,rel,dd⟩:=Hu I.hok e;obtain⟨w',hw,rw'⟩:=RelO.some_of (v:=v) (o:=(k9 xs k).map (·.2)) (by rw[<- l];exact rel.val k);obtain⟨p,hp,hp2⟩:=m7.mp hw;obtain⟨j,hj⟩:=HN hp;have hz:xs.length<=sizeLine:=by rw[<- i6 rel];exact z
 have nd:(xs.map (·.1)).Nodup:=by obtain⟨_,_,_,_,_,_,_,_,q⟩:=dd;exact q
 refine ut sw dd.typeIs PySem.F.entry_dict_pop (PySem.F.args_dict_pop_2 _ _) (Dp (k:=k) a b) ⟨hu,xs,j,p,dd,hz,wQ I.hok eb,hj,fun h' t dd' hs=>h p.2 _ ?_ (hp2 ▸ rw')⟩;rw[mP nd hj] at dd';obtain⟨q,es,ep,hq,h2,h3,h4,_,h5⟩:=dd';refine pX I (by rw[e];exact ig) hs ⟨q,hq⟩ ⟨cf (Hw kvs k) z,hd,_,KT.keeps (KT.drop rel k) fun c ys ec=> ?_,q,es,ep,hq,h2,h3,h4,h5⟩;rw[aG (JV ec e (fun z=>nomatch z))];exact ec
noncomputable def LF:V->List V->Hp->VK->Prop:=fun x xs H Q=>∃ a b kvs k v,x=.ref a/\xs=[.ref b]/\H a=wj (.dT kvs)/\H b=wj (.tup (k.map kV))/\vO kvs k=wj v/\Q v (upd H a (.dT (xK kvs k)))
theorem JX (hu:X.A.units+1<dr):MtR X "dict.pop" LF:=by
 intro pins s σ H x xs v us Q I rx rs h;obtain⟨a,b,kvs,k,y,rfl,rfl,ha,hb,l,q⟩:=h;obtain⟨u,rfl,ru⟩:=lV rs;cases rx;cases ru;exact NE hu I ha hb l fun w' s' I' r=>⟨y,_,I',r,q⟩
end
section
variable {X:Cx}{cls exC:Nat->ae}{E:XE}{e a b c o i value:bt}{es rest:List bt}{fa fb fc fo fi fv:OG D}{fl:OG (List D)}{ft ft':OG Bool}{pos p apos pos' cpos:Pos}{x m:Str}{st:cr}
noncomputable def Ci (ω:Om) (d:D):Bool:=match cellOf ω d with
 |some (.dt _)=>true
 |_=>false
theorem Eh (h:Ci ω d=true):∃ n kvs,d=.obj n/\ω[n]?=wj (.dt kvs):=by
 unfold Ci at h;split at h
 ·obtain⟨n,rfl,e⟩:=dO ‹_›;exact⟨n,_,rfl,e⟩
 ·cases h
noncomputable def oO (g:Om->D->List D->Option (D×Om)) (fo:OG D) (fl:OG (List D)):OG D:=oB fo fun d ρ ω=>if Ci ω d=true then oB fl (fun ds _ ω=>oR (g ω d ds)) ρ ω else wk
theorem MN {id:String} (slot:Slot "dict" m id) (hty:typeOf (.builtin id)=pure (.type "method_descriptor")) (hm:MtR X id r) (F:Fu cls X.K r g) (ho:OE X cls E o fo) (ha:OA X cls E (e::es) fl)
  (hbase:ib o m X.env (eval o X.env)=eval o X.env:=by rfl)
  (hfew:((di cpos (av (e::es) X.env)).all (fun x=> !x.1)&&(jy cpos (io [] X.env)).all (fun x=>x.1.isSome)
   &&decide ((e::es).length+([]:List kc).length+(if([]:List kc).isEmpty then 0 else 1)<30))=true:=by rfl)
  (hline:(apos.endLine==cpos.line)=true:=by rfl) (hs:av (e::es) X.env=(false,eval e X.env)::av es X.env:=by rfl) (hplain:(di cpos (av es X.env)).any (·.1)=false:=by rfl):
  OE X cls E (.Call (.Attribute o m apos) (e::es) [] cpos) (oO g fo fl):=
 (Mb qr slot hty hm ho ha hbase hfew hline hs hplain).imp fun σ H Q ⟨ok,ρ,ω,r,ω',P,e,q⟩=>by
  refine tO.then_ P e (fun c z=>by subst z;exact q) fun d ω1 v ok1 H1 e1 n1 P1 r1=> ?_;obtain⟨hi,e1⟩:=cR e1;obtain⟨n,ds0,rfl,e2⟩:=Eh hi;obtain⟨a,rfl,e4,xs,e5,rs⟩:=P1.st.ref r1 e2;refine⟨.inr (.inr (.inl ⟨rfl,.inr ⟨xs,e5⟩⟩)),?_⟩;refine tOA.then_ P1 e1 (fun c z=>by subst z;exact exR.nw q n1) fun ds ω2 us ok2 H2 e6 n2 P2 r2=> ?_;obtain⟨y,e7,rfl⟩:=cQ e6;exact F ok2 H2 ω2 _ us _ ds y ω' Q P2.okh P2.st (r1.ex n2.ex) r2 e7 fun w ok3 H3 n3 r3=>q w ok3 H3 (n1.trans (n2.trans n3)) r3
noncomputable def ED (ω:Om) (d:D) (as:List D):Option (D×Om):=match d,as with
 |.obj n,[y]=>match ω[n]? with
  |some (.dt kvs)=>(CL y).bind fun k=>(iE kvs k).map fun v=>(v,ω.set n (.dt (eA kvs k)))
  |_=>wk
 |_,_=>wk
theorem Hg {K:aa}:Fu cls K LF ED:=fun ok H ω x xs a as d ω' Q h1 st ra rs e k=>by
 unfold ED at e;split at e
 ·rename_i n y
  split at e
  ·rename_i kvs hc
   obtain⟨ks,e8,e⟩:=aR e;obtain⟨v,e9,e10⟩:=aJ e;cases e10;obtain⟨a1,rfl,e4,vs,e5,kv⟩:=st.ref ra hc;obtain⟨w,rfl,rw'⟩:=rs.one_inv;obtain⟨b,rfl,_,hb⟩:=toT'_rep e8 rw';obtain⟨u,l,ru⟩:=kv.val e9;refine⟨a1,b,vs,ks,u,rfl,rfl,e5,hb,l,?_⟩;have nw:=Nw.write (o:=.dT (xK vs ks)) (ob:=.dt (eA kvs ks)) h1 st e4 e5 fun dat=>⟨_,aQ,(KvR.drop (k:=ks) kv).mono dat fun _ _ z=>z⟩;exact k _ ok _ nw (ru.ex nw.ex)
  ·cases e
 ·cases e
theorem JF (hu:X.A.units+1<dr) (ho:OE X cls E o fo) (ha:OA X cls E [e] fl) (hbase:ib o "pop" X.env (eval o X.env)=eval o X.env:=by rfl)
  (hfew:((di cpos (av [e] X.env)).all (fun x=> !x.1)&&(jy cpos (io [] X.env)).all (fun x=>x.1.isSome)
   &&decide ([e].length+([]:List kc).length+(if([]:List kc).isEmpty then 0 else 1)<30))=true:=by rfl)
  (hline:(apos.endLine==cpos.line)=true:=by rfl) (hs:av [e] X.env=(false,eval e X.env)::av [] X.env:=by rfl) (hplain:(di cpos (av [] X.env)).any (·.1)=false:=by rfl):
  OE X cls E (.Call (.Attribute o "pop" apos) [e] [] cpos) (oO ED fo fl):=MN sw PySem.F.type_dict_pop (JX hu) Hg ho ha hbase hfew hline hs hplain
end
end L2.MB
end
section
namespace L2.MB
open PySem PySem.Spec PyProof.Rows PySem.Builtin
section
variable {P:db}{w:df}{K:Type} [DecidableEq K] {knd:HeapKind P w K}{A:dh}{E:af->am->Prop}{s:am}{d a:ae}{xs ys:List (K×ae×af)}{k:K}{v:af}{Q:Unit->am->Prop}
theorem tI (h:∀(j:Nat) (p:ae×af),xs[j]?≠wj (k,p)):k9 xs k=wk:=by
 unfold k9;rw[Option.map_eq_none_iff,uu];intro x hx;obtain⟨j,hj⟩:=jq hx;intro z;have e:x.1=k:=by simpa using z
 exact h j x.2 (by rw[hj,<- e])
theorem CA {j:Nat} (h:xs[j]?=wj (k,p)):(k9 xs k).isSome=true:=by
 unfold k9;rw[p0,List.find?_isSome];exact⟨(k,p),fz h,by simp⟩
theorem BW (nd:(xs.map (·.1)).Nodup) (h:xs[j]?=wj (k,p)):(xs.map (f9 knd)).modify j (fun e=>{ hash:=e.hash,key:=e.key,val:=v })=(xs.map (qx k v)).map (f9 knd):=by
 apply jn;intro i;rw[List.getElem?_modify,ax,ax,ax];cases q:xs[i]? with
 |none=>rfl
 |some x=>
  show wj _=wj _
  by_cases e:j=i
  ·subst e;rw[h] at q;cases q;simp[qx,f9]
  ·have hx:x.1≠k:=fun z=>e (nodup_ix nd h (show xs[i]?=wj (k,x.2) by rw[q,<- z]));simp[qx,e,hx]
theorem GF:(xs.map (qx k v)).map (·.1)=xs.map (·.1):=by
 rw[ia];apply hV;intro x _;unfold qx
 show(if _ then _ else _:K×ae×af).1=_
 split <;> rfl
theorem FB (hr:knd.room A) (hk:knd.is s.heap k a) (hd:iq knd s.heap d xs) (hz:xs.length<=sizeLine) (h:∀ h',iq knd h' d (jj xs k a v)->fx d s.heap h'->Q () { s with heap:=h' }):
  ay (model P w) A (dictSetHashed d (.ref a) (knd.hash k) v) Q E s:=by
 obtain⟨o,es,ep,h1,h2,h3,h4,h5,h6⟩:=hd;obtain⟨oc,od,odt,osl⟩:=o;obtain⟨q1,q2,q3⟩:=h2;dsimp only at q1 q2 q3 h3;subst q1 q2 q3 h3;have hs:es.size=xs.length:=by
  have:=congrArg ll h4
  rw[ao,d7] at this;exact this
 unfold dictSetHashed
 repeat (first|(with_reducible refine ub hr hk h1 rfl h4 h5 h6 (fun hn=> ?none) fun j p hj=> ?some)|(with_reducible refine tq h1 rfl ?main ?sz ?gr)|wp_step)
 case main=>
   have sb:fx d s.heap (s.heap.update d (qz fun x=>x.push { hash:=knd.hash k,key:=.ref a,val:=v })):=⟨nq _ _ _,fun b hb=>eu _ _ (bv hb)⟩;have e1:jj xs k a v=xs++[(k,a,v)]:=by
    unfold jj;rw[tI hn];rfl
   refine h _ ⟨_,es.push { hash:=knd.hash k,key:=.ref a,val:=v },ep+1,gp _ h1 rfl,⟨rfl,rfl,rfl⟩,rfl,?_,fun x hx=> ?_,?_⟩ sb
   ·rw[e1,Array.toList_push,h4,c6];rfl
   ·rw[e1] at hx;rcases cz.mp hx with hx|hx
    ·exact knd.keeps (h5 x hx) h1 rfl sb
    ·rw[fe] at hx;subst hx;exact knd.keeps hk h1 rfl sb
   ·rw[e1,c6];refine jo.mpr ⟨h6,by simp,fun x hx y hy z=> ?_⟩;have hy':y=k:=by simpa using hy
    rw[z,hy'] at hx;obtain⟨q,q1,q2⟩:=aw.mp hx;obtain⟨j,hj⟩:=jq q1;exact hn j q.2 (by rw[hj,<- q2])
 case sz=>rw[hs];exact hz
 case gr=>simp
 case some=>
  have e1:jj xs k a v=xs.map (qx k v):=by
   unfold jj;rw[if_pos (CA hj)]
  repeat (first|(with_reducible refine wpAny_updateDict h1 rfl ?_ ?_)|wp_step)
  ·have sb:fx d s.heap (s.heap.update d (Obj.mapDict fun x=>x.modify j fun e=>{ hash:=e.hash,key:=e.key,val:=v })):=⟨nq _ _ _,fun b hb=>eu _ _ (bv hb)⟩;refine h _ ⟨_,es.modify j fun e=>{ hash:=e.hash,key:=e.key,val:=v },ep,gp _ h1 rfl,⟨rfl,rfl,rfl⟩,rfl,?_,fun x hx=> ?_,?_⟩ sb
   ·rw[e1,Array.toList_modify,h4];exact BW h6 hj
   ·rw[e1] at hx;obtain⟨q,q1,q2⟩:=aw.mp hx;subst q2
    have:=knd.keeps (h5 q q1) h1 rfl sb
    unfold qx;split
    ·exact this
    ·exact this
   ·rw[e1,GF];exact h6
  ·simp
end
section
variable {P:db}{w:df}{A:dh}{E:af->am->Prop}{s:am}{d o:ae}{xs ys:List (List Key×ae×af)}{k:List Key}{v:af}{Q:Unit->am->Prop}{id:String}
noncomputable def fQ (xs ys:List (List Key×ae×af)):List (List Key×ae×af):=ys.foldl (fun acc y=>jj acc y.1 y.2.1 y.2.2) xs
theorem yN:(jj xs k a v).length<=xs.length+1:=by
 unfold jj;split
 ·rw[ao];omega
 ·rw[b7,kt];omega
theorem oV:fQ xs (ys++[y])=jj (fQ xs ys) y.1 y.2.1 y.2.2:=by
 unfold fQ;rw[List.foldl_append];rfl
theorem wN:∀ {ys xs:List (List Key×ae×af)},((xs++ys).map (·.1)).Nodup->fQ xs ys=xs++ys
 |[],xs,_=>by rw[c4];rfl
 |y::r,xs,nd=>by
  have e1:fQ xs (y::r)=fQ (jj xs y.1 y.2.1 y.2.2) r:=rfl;have e2:jj xs y.1 y.2.1 y.2.2=xs++[y]:=by
   unfold jj;rw[tI (fun j p hj=> ?_)]
   ·rfl
   ·have m1:y.1∈xs.map (·.1):=aw.mpr ⟨_,fz hj,rfl⟩;rw[c6,jo] at nd;exact nd.2.2 _ m1 _ (aw.mpr ⟨y,aq,rfl⟩) rfl
  rw[e1,e2,wN (by rw[g7];exact nd),g7];rfl
theorem DV (nd:(ys.map (·.1)).Nodup):fQ [] ys=ys:=wN (by simpa using nd)
theorem jI (hne:d≠o) (hsys:(o==fg)=false) (hr:(bx (aO P w)).room A) (hd:iq (bx (aO P w)) s.heap d xs) (ho:iq (bx (aO P w)) s.heap o ys) (hz:xs.length+ys.length<=sizeLine)
  (hh:∀(i j:Nat) x y,ys[i]?=wj x->ys[j]?=wj y->(bx (aO P w)).hash x.1=(bx (aO P w)).hash y.1->i=j)
  (h:∀ h',iq (bx (aO P w)) h' d (fQ xs ys)->fx d s.heap h'->Q () { s with heap:=h' }):ay (model P w) A (Dict.mergeDict id d o) Q E s:=by
 have hd0:=hd;obtain⟨o1,es,ep,h1,h2,h3,h4,h5,h6⟩:=hd;obtain⟨oc,od,odt,osl⟩:=o1;obtain⟨q1,q2,q3⟩:=h2;dsimp only at q1 q2 q3 h3;subst q1 q2 q3 h3;obtain⟨o2,fs,fp,g1,g2,g3,g4,g5,g6⟩:=ho;obtain⟨oc,od,odt,osl⟩:=o2;obtain⟨q1,q2,q3⟩:=g2;dsimp only at q1 q2 q3 g3;subst q1 q2 q3 g3;have hn:(d==o)=false:=by simpa using hne
 unfold Dict.mergeDict;simp only[ud];rw[hn];simp only[du,if_false]
 repeat wp_step
 have fl:fs.size=ys.length:=by
  have:=congrArg ll g4
  rw[ao,d7] at this;exact this
 have el:es.size=xs.length:=by
  have:=congrArg ll h4
  rw[ao,d7] at this;exact this
 have few:(decide (fs.size<=8)&&fs.all fun e=>(keyPart e.key).isSome)=decide (ys=[]):=by
  rw[<- vb,g4];cases ys with
  |nil=>simp[fl]
  |cons y r=>simp[f9,keyPart]
 rw[few]
 by_cases hy:ys=[]
 ·rw[decide_eq_true hy];simp only[Bool.not_true,du,if_false];have e0:cw ([:fs.size]:j4).start ([:fs.size]:j4).size ([:fs.size]:j4).step=[]:=by rw[fl,hy];rfl
  subst hy
  repeat (first|(with_reducible refine qi _ (fun rest _ s'=>rest=[]/\s'=s) _ ?step ?fin _ _ ?init)|wp_step)
  case init=>exact⟨e0,rfl⟩
  case step=>rintro i rest b s' ⟨z,_⟩;cases z
  case fin=>
   rintro b s' ⟨_,rfl⟩
   repeat wp_step
   exact h _ hd0 ⟨rfl,fun _ _=>rfl⟩
 ·rw[decide_eq_false hy];simp only[vy,if_true]
  repeat wp_step
  by_cases hx:xs=[]
  ·have e0:es.isEmpty=true:=by
    rw[mw];apply Array.eq_empty_of_size_eq_zero;rw[el,hx];rfl
   rw[e0];simp only[if_true];unfold Dict.entriesForEmpty
   repeat (first|(with_reducible refine wpAny_forIn_array' _ (fun(rest:List k6) _ s'=>(∀ e∈rest,∃ i:Nat,fs[i]?=wj e)/\s'=s) _ ?step ?fin _ _ ?init)|wp_step)
   case init=>exact⟨fun e he=>by obtain⟨i,hi⟩:=jq he;exact⟨i,by rw[<- hW];exact hi⟩,rfl⟩
   case step=>
    rintro e rest b s' ⟨hi,rfl⟩;obtain⟨i,hi0⟩:=hi e aq;have hi1:(ys.map (f9 (bx (aO P w))))[i]?=wj e:=by rw[<- g4,hW];exact hi0
    rw[ax] at hi1;obtain⟨y,hy1,rfl⟩:=aJ hi1;obtain⟨ot,its,nt,t1,t2,t3,_⟩:=(show IsTupleKey (aO P w) s'.heap y.1 y.2.1 from g5 y (fz hy1));show ay _ _ (do let __do_lift <- Dict.quietEq (b9 y.2.1);_) _ _ _;unfold Dict.quietEq;have small:¬(Array.filter (fun x=>x.hash==(f9 (bx (aO P w)) y).hash) fs).size>1:=by
     have:(fs.filter (fun x=>x.hash==(f9 (bx (aO P w)) y).hash)).toList.length<=1:=by
      rw[Array.toList_filter,g4,List.filter_map,ao];have nd:∀(l:List (List Key×ae×af)),(∀(i j:Nat) x y,l[i]?=wj x->l[j]?=wj y->(bx (aO P w)).hash x.1=(bx (aO P w)).hash y.1->i=j)->∀ c:Int,(l.filter ((fun x:k6=>x.hash==c)∘f9 (bx (aO P w)))).length<=1:=by
       intro l
       induction l with
       |nil=>intro _ _;simp
       |cons z r ih=>
        intro hl c;have ih':=ih (fun i j x y h1 h2 e=>by have:=hl (i+1) (j+1) x y (by simpa using h1) (by simpa using h2) e;omega) c
        by_cases hc:(bx (aO P w)).hash z.1=c
        ·rw[da (by simpa [f9] using hc)]
         have:r.filter ((fun x:k6=>x.hash==c)∘f9 (bx (aO P w)))=[]:=by
          rw[List.filter_eq_nil_iff];intro q hq z';obtain⟨j,hj⟩:=jq hq;have e:(bx (aO P w)).hash q.1=c:=by simpa [f9] using z'
          have:=hl 0 (j+1) z q (by simp) (by simpa using hj) (hc.trans e.symm)
          omega
         rw[this];simp
        ·rw[c9 (by simpa [f9] using hc)];exact ih'
      exact nd ys hh _
     rw[d7] at this;omega
    repeat wp_step
    rw[t2,show s0 (k7 "tuple") (jl "__eq__")=pure (wj (.builtin "tuple.__eq__")) from PySem.F.slot_tuple_eq.lookup]
    repeat wp_step
    rw[if_neg small]
    repeat wp_step
    exact⟨fun e he=>hi e (ag _ he),rfl⟩
   case fin=>
    rintro b s' ⟨_,rfl⟩
    repeat wp_step
    have f0:fs.isEmpty=false:=by
     cases q:fs.isEmpty with
     |false=>rfl
     |true=>
      rw[mw] at q;rw[q] at fl;exact absurd (List.eq_nil_of_length_eq_zero fl.symm) hy
    rw[f0];simp only[vy,if_true];have sb:fx d s'.heap (s'.heap.update d (qz fun _=>fs)):=⟨nq _ _ _,fun b hb=>eu _ _ (bv hb)⟩;have mg:fQ xs ys=ys:=by
     rw[hx];exact DV g6
    repeat (first|(with_reducible refine wpAny_updateDictKeysTo h1 rfl ?main ?sz)|wp_step)
    case sz=>show fs.size<=_;rw[fl];omega
    case main=>
     refine h _ ⟨_,fs,ep+1,gp _ h1 rfl,⟨rfl,rfl,rfl⟩,rfl,?_,fun x hx'=> ?_,?_⟩ sb
     ·rw[mg];exact g4
     ·rw[mg] at hx';exact(bx (aO P w)).keeps (g5 x hx') h1 rfl sb
     ·rw[mg];exact g6
  ·have e0:es.isEmpty=false:=by
    cases q:es.isEmpty with
    |false=>rfl
    |true=>
     rw[mw] at q;rw[q] at el;exact absurd (List.eq_nil_of_length_eq_zero el.symm) hx
   rw[e0];simp only[du,if_false];have e1:cw ([:fs.size]:j4).start ([:fs.size]:j4).size ([:fs.size]:j4).step=cw 0 ys.length:=by
    rw[fl];simp[wg]
   have len:∀ n,n<=ys.length->(fQ xs (ys.take n)).length<=xs.length+n:=fun n=>by
    induction n with
    |zero=>intro _;simp[fQ]
    |succ n ih=>
     intro hn;have hn':n<ys.length:=hn;rw[nu hn',oV]
     have:=ih (hX hn')
     exact cf yN (by omega)
   repeat (first|(with_reducible refine qi _ (fun(rest:List Nat) _ s'=>∃(i:Nat) (h':cx),rest=cw i (ys.length-i)/\i<=ys.length/\s'={ s with heap:=h' }/\iq (bx (aO P w)) h' d (fQ xs (ys.take i))/\fx d s.heap h') _ ?step ?fin _ _ ?init)|wp_step)
   case init=>exact⟨0,s.heap,e1,im _,rfl,hd0,⟨rfl,fun _ _=>rfl⟩⟩
   case step=>
    rintro i rest b s' ⟨j,h',e2,hj,rfl,dd,sb⟩;have hlt:j<ys.length:=by
     rcases mj j ys.length with z|z
     ·exact z
     ·rw[Nat.sub_eq_zero_of_le z] at e2;cases e2
    have e3:ys.length-j=(ys.length-(j+1))+1:=by omega
    rw[e3,j5] at e2;cases e2;have go:h'.get? o=wj { cls:=k7 "dict",data:=wb fs fp }:=(sb.2 o (bv hne)).trans g1;have hes:fs[i]?=wj { hash:=(bx (aO P w)).hash ys[i].1,key:=.ref ys[i].2.1,val:=ys[i].2.2 }:=by
     rw[<- hW,g4,ax,bi hlt];rfl
    have hk:(bx (aO P w)).is h' ys[i].1 ys[i].2.1:=(bx (aO P w)).keeps (g5 _ (ja hlt)) h1 rfl sb
    repeat wp_step
    rw[hes]
    repeat (first|(with_reducible refine FB hr hk dd (cf (len i (hX hlt)) (by omega)) fun h2 dd2 sb2=> ?_)|wp_step)
    have go2:h2.get? o=wj { cls:=k7 "dict",data:=wb fs fp }:=(sb2.2 o (bv hne)).trans go
    repeat (first|(with_reducible refine p7 go2 ?_)|wp_step)
    simp only[bne_self_eq_false,du,if_false]
    repeat wp_step
    refine⟨i+1,h2,rfl,hlt,rfl,?_,sb.trans sb2⟩;rw[nu hlt,oV];exact dd2
   case fin=>
    rintro b s' ⟨j,h',e2,hj,rfl,dd,sb⟩
    have:j=ys.length:=by
     have:=congrArg ll e2
     simp at this;omega
    subst this;rw[List.take_length] at dd
    repeat wp_step
    exact h h' dd sb
end
end L2.MB
end
section
namespace L2.MB
open PySem PySem.Spec PyProof.Rows PySem.Builtin
theorem CQ (d b:ae) (hne:d≠b) (hsys:(b==fg)=false):MeetsIn P w («dict.update» { pos:=[.ref d,.ref b] }) fun A R s=>
  A.units+1<dr/\∃ xs ys:List (List Key×ae×af),iq (bx (aO P w)) s.heap d xs/\iq (bx (aO P w)) s.heap b ys/\xs.length+ys.length<=sizeLine/\
   (∀(i j:Nat) x y,ys[i]?=wj x->ys[j]?=wj y->(bx (aO P w)).hash x.1=(bx (aO P w)).hash y.1->i=j)/\
   ∀ h',iq (bx (aO P w)) h' d (fQ xs ys)->fx d s.heap h'->R (.ok (.ret .none)) { s with heap:=h' }:=by
 rintro A R s ⟨hu,xs,ys,hd,ho,hz,hh,hR⟩;have hr:(bx (aO P w)).room A.in1:=kj hu;have hd0:=hd;have ho0:=ho;obtain⟨o1,es,ep,h1,h2,h3,h4,h5,h6⟩:=hd;obtain⟨oc,od,odt,osl⟩:=o1;obtain⟨q1,q2,q3⟩:=h2;dsimp only at q1 q2 q3 h3;subst q1 q2 q3 h3;obtain⟨o2,fs,fp,g1,g2,g3,g4,g5,g6⟩:=ho;obtain⟨oc,od,odt,osl⟩:=o2;obtain⟨q1,q2,q3⟩:=g2;dsimp only at q1 q2 q3 g3;subst q1 q2 q3 g3;unfold «dict.update» Dict.selfAndRest
 repeat (first|(with_reducible refine jI hne hsys hr hd0 ho0 hz hh fun h' dd sb=> ?_)|wp_step)
 simp only[bne_self_eq_false,du,if_false]
 repeat (first|(with_reducible refine jI hne hsys hr hd0 ho0 hz hh fun h' dd sb=> ?_)|wp_step)
 rw[PySem.isSubtype_dict_dict]
 repeat (first|(with_reducible refine jI hne hsys hr hd0 ho0 hz hh fun h' dd sb=> ?_)|wp_step)
 rw[show s0 (k7 "dict") (jl "__iter__")=pure (wj (.builtin "dict.__iter__")) from m8.lookup]
 repeat (first|(with_reducible refine jI hne hsys hr hd0 ho0 hz hh fun h' dd sb=> ?_)|wp_step)
 exact hR h' dd sb
noncomputable def Kg:List Key->Option (List Int)
 |[]=>wj []
 |.inl i::r=>(Kg r).map fun is=>i::is
 |.inr _::_=>wk
noncomputable def eZ (k:List Key):Option Int:=(Kg k).map fun is=>reduceHash (qe (is.map hashInt))
theorem wW:∀ {k:List Key}{is:List Int},Kg k=wj is->k=is.map n9
 |[],_,h=>by cases h;rfl
 |.inl i::r,_,h=>by
  obtain⟨js,e,rfl⟩:=aJ h;rw[wW e];rfl
 |.inr _::_,_,h=>nomatch h
theorem Bd (h:eZ k=wj c):(bx (aO P w)).hash k=c:=by
 obtain⟨is,e,rfl⟩:=aJ h;rw[wW e];show reduceHash (qe ((is.map n9).map (aO P w).hash))=_;rw[ia];rfl
noncomputable def eX:List (List Key)->Bool
 |[]=>true
 |k::r=>(eZ k).isSome&&r.all (fun k'=>match eZ k,eZ k' with
  |some a,wj b=>decide (a≠b)
  |_,_=>false)&&eX r
theorem sL:∀ {ks:List (List Key)},eX ks=true->∀(i j:Nat) x y,ks[i]?=wj x->ks[j]?=wj y->(bx (aO P w)).hash x=(bx (aO P w)).hash y->i=j
 |[],_,i,j,x,y,h1,_,_=>by simp at h1
 |k::r,h,i,j,x,y,h1,h2,e=>by
  have h':((eZ k).isSome&&r.all (fun k'=>match eZ k,eZ k' with
   |some a,wj b=>decide (a≠b)
   |_,_=>false)&&eX r)=true:=h
  rw[bp,bp] at h';obtain⟨⟨_,ha⟩,hr⟩:=h';have main:∀ y,y∈r->(bx (aO P w)).hash k=(bx (aO P w)).hash y->False:=fun y hy e=>by
   have:=ff.mp ha y hy
   split at this
   ·rename_i a b e1 e2
    rw[Bd e1,Bd e2] at e;simp at this;exact this e
   ·cases this
  cases i with
  |zero=>
   cases j with
   |zero=>rfl
   |succ j=>
    simp at h1 h2;subst h1;exact(main y (fz h2) e).elim
  |succ i=>
   cases j with
   |zero=>
    simp at h1 h2;subst h2;exact(main x (fz h1) e.symm).elim
   |succ j=>
    simp at h1 h2;rw[sL hr i j x y h1 h2 e]
noncomputable def mergeK (kvs more:List (List Key×V)):List (List Key×V):=more.foldl (fun acc p=>mI acc p.1 p.2) kvs
noncomputable def oW (kvs more:List (List Key×D)):List (List Key×D):=more.foldl (fun acc p=>putD acc p.1 p.2) kvs
theorem KT.merge:∀ {ms:List (List Key×V)}{ys:List (List Key×ae×af)},KT H ms ys->∀ {kvs:List (List Key×V)}{xs:List (List Key×ae×af)},KT H kvs xs->KT H (mergeK kvs ms) (fQ xs ys)
 |_,_,.nil,_,_,r=>r
 |_,_,.cons (a:=p) (b:=q) h t,kvs,xs,r=>by
  obtain⟨h1,h2,h3⟩:=h;have r':=r.put p.1 h2 h3;rw[h1] at r'
  have:=KT.merge t r'
  rw[<- h1] at this;show KT H (mergeK (mI kvs p.1 p.2) _) (fQ (jj xs q.1 q.2.1 q.2.2) _);rw[<- h1];exact this
theorem KvR.mergeR {K:aa}:∀ {ms:List (List Key×V)}{ns:List (List Key×D)},KvR K ok H ms ns->∀ {vs:List (List Key×V)}{ds:List (List Key×D)},KvR K ok H vs ds->KvR K ok H (mergeK vs ms) (oW ds ns)
 |_,_,.nil,_,_,r=>r
 |_,_,.cons h t,vs,ds,r=>KvR.mergeR t (r.put h)
theorem FP {k:List Key}:(mI kvs k v).length<=kvs.length+1:=gQ kvs k v
theorem sD:∀ {ms kvs:List (List Key×V)},(mergeK kvs ms).length<=kvs.length+ms.length
 |[],_=>bf _
 |p::r,kvs=>by
  have:=sD (ms:=r) (kvs:=mI kvs p.1 p.2)
  have:=FP (kvs:=kvs) (k:=p.1) (v:=p.2)
  show(mergeK (mI kvs p.1 p.2) r).length<=kvs.length+(r.length+1)
  omega
section
variable {X:Cx}{pins:List (ae×Obj)}{σ:St}{H:Hp}{s:am}{a b:ae}{kvs ms:List (List Key×V)}{A:dh}{E:af->am->Prop}
theorem ND (hu:A.units+1<dr) (I:Inv X pins σ H s) (ea:H a=wj (.dT kvs)) (eb:H b=wj (.dT ms)) (hne:a≠b) (hl:kvs.length+ms.length<=sizeLine) (hh:eX (ms.map (·.1))=true)
  (h:∀ s',Inv X pins σ (upd H a (.dT (mergeK kvs ms))) s'->Q .none s'):ay (model X.prog X.w) A (call (.builtin "dict.update") [.ref a,.ref b]) Q E s:=by
 obtain⟨z,hd,xs,rel,dd⟩:=Hu I.hok ea;obtain⟨z2,hd2,ys,rel2,dd2⟩:=Hu I.hok eb;have lx:kvs.length=xs.length:=i6 rel;have ly:ms.length=ys.length:=i6 rel2;have keys:ms.map (·.1)=ys.map (·.1):=by
  clear dd2 ly z2 hl hh eb h
  induction rel2 with
  |nil=>rfl
  |cons h t ih=>rw[bh,bh,ih,h.1]
 rw[keys] at hh;refine ut qp dd.typeIs PySem.F.entry_dict_update (PySem.F.args_dict_update_2 _ _) (CQ a b hne hd2) ⟨hu,xs,ys,dd,dd2,by omega,fun i j x y h1 h2 e=> ?_,fun h' dd' hs=>h _ ?_⟩
 ·exact sL hh i j x.1 y.1 (by rw[ax,h1];rfl) (by rw[ax,h2];rfl) e
 ·obtain⟨q,es,ep,hq,h2,h3,h4,_,h5⟩:=dd';refine pX I (by rw[ea];exact ig) hs ⟨q,hq⟩ ⟨cf sD hl,hd,_,KT.keeps (KT.merge rel2 rel) fun c ws ec=> ?_,q,es,ep,hq,h2,h3,h4,h5⟩;rw[aG (JV ec ea (fun z=>nomatch z))];exact ec
noncomputable def LB:V->List V->Hp->VK->Prop:=fun x xs H Q=>∃ a b kvs ms,x=.ref a/\xs=[.ref b]/\H a=wj (.dT kvs)/\H b=wj (.dT ms)/\a≠b/\kvs.length+ms.length<=sizeLine/\eX (ms.map (·.1))=true/\Q .non (upd H a (.dT (mergeK kvs ms)))
theorem JW (hu:X.A.units+1<dr):MtR X "dict.update" LB:=by
 intro pins s σ H x xs v us Q I rx rs h;obtain⟨a,b,kvs,ms,rfl,rfl,ha,hb,hne,hl,hh,q⟩:=h;obtain⟨u,rfl,ru⟩:=lV rs;cases rx;cases ru;exact ND hu I ha hb hne hl hh fun s' I'=>⟨.non,_,I',rfl,q⟩
end
section
variable {X:Cx}{cls exC:Nat->ae}{E:XE}{e a b c o i value:bt}{es rest:List bt}{fa fb fc fo fi fv:OG D}{fl:OG (List D)}{ft ft':OG Bool}{pos p apos pos' cpos:Pos}{x m:Str}{st:cr}
noncomputable def Ew (ω:Om) (d:D) (as:List D):Option (D×Om):=match d,as with
 |.obj n,[.obj m]=>match ω[n]?,ω[m]? with
  |some (.dt kvs),wj (.dt ms)=>if n≠m/\kvs.length+ms.length<=sizeLine/\eX (ms.map (·.1))=true then wj (.non,ω.set n (.dt (oW kvs ms))) else wk
  |_,_=>wk
 |_,_=>wk
theorem GY {K:aa}:Fu cls K LB Ew:=fun ok H ω x xs a as d ω' Q h1 st ra rs e k=>by
 unfold Ew at e;split at e
 ·rename_i n m
  split at e
  ·rename_i kvs ms hc hc2
   obtain⟨⟨hnm,hl,hh⟩,e3⟩:=bL e;cases e3;obtain⟨a1,rfl,e4,vs,e5,kv⟩:=st.ref ra hc;obtain⟨w,rfl,rw'⟩:=rs.one_inv;obtain⟨b1,rfl,e6,us,e7,kv2⟩:=st.ref rw' hc2;refine⟨a1,b1,vs,us,rfl,rfl,e5,e7,fun z=>hnm (st.inj n m a1 e4 (z ▸ e6)),by rw[kv.length,kv2.length];exact hl,by rw[kv2.keys];exact hh,?_⟩;have nw:=Nw.write (o:=.dT (mergeK vs us)) (ob:=.dt (oW kvs ms)) h1 st e4 e5 fun dat=>⟨_,aQ,(kv2.mergeR kv).mono dat fun _ _ z=>z⟩;exact k _ ok _ nw .non
  ·cases e
 ·cases e
theorem JC (hu:X.A.units+1<dr) (ho:OE X cls E o fo) (ha:OA X cls E [e] fl) (hbase:ib o "update" X.env (eval o X.env)=eval o X.env:=by rfl)
  (hfew:((di cpos (av [e] X.env)).all (fun x=> !x.1)&&(jy cpos (io [] X.env)).all (fun x=>x.1.isSome)
   &&decide ([e].length+([]:List kc).length+(if([]:List kc).isEmpty then 0 else 1)<30))=true:=by rfl)
  (hline:(apos.endLine==cpos.line)=true:=by rfl) (hs:av [e] X.env=(false,eval e X.env)::av [] X.env:=by rfl) (hplain:(di cpos (av [] X.env)).any (·.1)=false:=by rfl):
  OE X cls E (.Call (.Attribute o "update" apos) [e] [] cpos) (oO Ew fo fl):=MN qp PySem.F.type_dict_update (JW hu) GY ho ha hbase hfew hline hs hplain
end
end L2.MB
end
section
namespace L2.MB
theorem _root_.L2.Inv.movedN (I:Inv X pins σ H s) (k:∀ b o,b≠X.env.locals->s.heap.get? b=wj o->h'.get? b=wj o) (ns:∀ m,s.heap.Ns X.env.locals m->h'.Ns X.env.locals m)
  (old:∀ b o,s.heap.get? b=wj o->H' b=H b) (sub:∀ b u,H b=wj u->H' b=wj u) (hok:HOk X.prog X.w H' h'):Inv X pins σ H' { s with heap:=h',toks:=t' }:=by
 obtain⟨m,hn,lk⟩:=I.loc;obtain⟨oL,esL,epL,hoL,hdL,rL⟩:=id hn;have nl:∀ {b:ae}{o:Obj},X.s₀.heap.get? b=wj o->b≠X.env.locals:=fun e z=>absurd (bj e) (by rw[z];exact tj.mpr I.ok.above);have nc:∀ {c:ae}{v:Option af}{o:Obj},s.heap.get? c=wj o->o.data=.cell v->c≠X.env.locals:=fun {c v o} e1 e2 z=>by
  rw[z,hoL] at e1;cases e1;rw[hdL] at e2;cases e2
 have th:∀ b o,s.heap.get? b=wj o->H b=wk->H' b=wk:=fun b o e n=>(old b o e).trans n;refine⟨I.ok,I.os,I.bare,⟨fun b o e n hb hx=>k b o (nl e) (I.base.keep b o e n hb hx),fun b o e n hb hx=> ?_,fun b o e n hx=> ?_,fun b o e hx=> ?_,fun b xs e=>sub _ _ (I.base.tups b xs e),fun b u v e=>sub _ _ (I.base.frzs b u v e),fun b ps e=> ?_⟩,⟨m,ns m hn,fun i x v e1 e2 e3=> ?_⟩,fun x c e=> ?_,th _ _ hoL I.free,fun x c e=> ?_,fun p hp=> ?_,hok,I.len⟩
 ·obtain⟨sl,z⟩:=I.base.slot b o e n hb hx;exact⟨sl,k b _ (nl e) z⟩
 ·obtain⟨o',z⟩:=I.base.there b o e hx;exact th b o' z (I.base.free b o e n hx)
 ·obtain⟨o',z⟩:=I.base.there b o e hx;exact⟨o',k b o' (nl e) z⟩
 ·obtain⟨m,z⟩:=I.base.tbls b ps e;exact⟨m,sub _ _ z⟩
 ·obtain⟨u,ru,z⟩:=lk i x v e1 e2 e3;refine⟨u,ru,?_⟩;rcases z with z|⟨q,c,e,oc,w1,w2⟩
  ·exact .inl z
  ·exact .inr ⟨q,c,e,oc,k c oc (nc w1 w2) w1,w2⟩
 ·obtain⟨v,oc,w1,w2⟩:=I.cell x c e;exact⟨v,oc,k c oc (nc w1 w2) w1,w2⟩
 ·obtain⟨v,oc,w1,w2⟩:=I.cell x c e;exact th c oc w1 (I.freeC x c e)
 ·obtain⟨z1,z2,z3,z4⟩:=I.pin p hp;exact⟨k p.1 p.2 z3 z1,th _ _ z1 z2,z3,z4⟩
theorem _root_.L2.Inv.moved (I:Inv X pins σ H s) (k:∀ b o,b≠X.env.locals->s.heap.get? b=wj o->h'.get? b=wj o) (ns:∀ m,s.heap.Ns X.env.locals m->h'.Ns X.env.locals m):Inv X pins σ H { s with heap:=h',toks:=t' }:=
 I.movedN k ns (fun _ _ _=>rfl) (fun _ _ e=>e) fun b u e=>by
  have nl:∀ {c:ae}{o:HO},H c=wj o->c≠X.env.locals:=fun e z=>by rw[z,I.free] at e;cases e
  refine(I.hok b u e).stay (fun c v hc q=> ?_) (fun _ q=>q) fun _ _ q=>q;rcases hc with rfl|hc
  ·exact k c v (nl e) q
  ·exact k c v (nl hc) q
noncomputable def Pa:List Int->List Int->Bool:=HT.lexLt
noncomputable def GI:List D->Option (List Int)
 |[]=>wj []
 |.int i::r=>(GI r).map fun is=>i::is
 |_::_=>wk
noncomputable def fR (a b:D):Option Bool:=match a,b with
 |.int i,.int j=>wj (decide (i<j))
 |.str x,.str y=>wj (decide (x.cps.toList<y.cps.toList))
 |.tup xs,.tup ys=>(GI xs).bind fun is=>(GI ys).map fun js=>Pa is js
 |_,_=>wk
noncomputable def NR (n:Nat):List D->List D->Bool->Option Bool
 |a::r,b::r',fin=>match eqD n a b with
  |some true=>NR n r r' fin
  |some false=>fR a b
  |none=>wk
 |_,_,fin=>wj fin
noncomputable def II {α:Type} (lt:Nat->Nat->Option Bool):wf α->Option α
 |.ret a=>wj a
 |.ask i j k=>(lt i j).bind fun c=>II lt (k c)
theorem Di (hc:∀ i j c C,lt i j=wj c->C c s->cmp i j C s):∀ {t:wf α}{a:α},II lt t=wj a->Q a s->PySem.W.KasT.kasWp cmp t Q s
 |.ret b,a,h,q=>by
  rw[PySem.W.KasT.kasWp.eq_1];cases h;exact q
 |.ask i j k,a,h,q=>by
  rw[PySem.W.KasT.kasWp.eq_2];obtain⟨c,e1,e2⟩:=aR (show(lt i j).bind _=_ from h);exact hc i j c _ e1 (Di hc e2 q)
noncomputable def dX (n:Nat) (a b:D):Option Bool:=match a,b with
 |.tup xs,.tup ys=>NR n xs ys (decide (xs.length<ys.length))
 |_,_=>wk
noncomputable def kE:D->Option Bool
 |.tup (.int _::_)=>wj true
 |.tup (.str _::_)=>wj false
 |_=>wk
noncomputable def iN (ds:List D):Bool:=ds.all (fun d=>kE d==wj true)||ds.all (fun d=>kE d==wj false)
noncomputable def eD (n:Nat) (ds:List D):Option (List D):=if ds.length<2 then wj ds else if ds.length<64/\iN ds=true then
 (II (fun i j=>dX n (ds.getD i .non) (ds.getD j .non)) (PySem.W.kas_sort ds.length)).bind fun p=>if p.toList.length<=64 then wj (p.toList.map fun i=>ds.getD i .non) else wk else wk
section
variable {X:Cx}{pins:List (ae×Obj)}{σ:St}{H:Hp}{s:am}{ok:Okk}{A:dh}{E:af->am->Prop}
theorem zA {K:aa}:∀ {ds:List D}{is:List Int}{xs:List V}{us:List af},GI ds=wj is->Reps K ok H xs ds->Vals xs us->ke us is
 |[],_,_,_,h,.nil,.nil=>by cases h;exact .nil
 |.int i::r,_,_,_,h,.cons rr rs,.cons v vs=>by
  obtain⟨js,e,rfl⟩:=aJ h;obtain rfl:=rr.int_inv;obtain⟨t,rfl⟩:=v;exact .cons _ _ (zA e rs vs)
theorem Kd (I:Inv X pins σ H s) (f:Bool) (hf:f=true->kE (.tup [a])≠wk/\kE (.tup [b])≠wk) (ra:Rep X.K ok H x a) (rb:Rep X.K ok H y b) (rv:RelV x v) (ru:RelV y u) (e:fR a b=wj k) (hu:A.units<dr) (q:Q k s):
  ay (model X.prog X.w) A (oneLt' f v u) Q E s:=by
 unfold fR at e;split at e
 ·cases e;obtain rfl:=ra.int_inv;obtain rfl:=rb.int_inv;obtain⟨t,rfl⟩:=rv;obtain⟨t',rfl⟩:=ru;cases f with
  |true=>exact PySem.W.kat_lt_int q
  |false=>exact rc _ _ (ve q)
 ·cases e;obtain rfl:=ra.str_inv;obtain rfl:=rb.str_inv;obtain⟨t,rfl⟩:=rv;obtain⟨t',rfl⟩:=ru;cases f with
  |true=>exact PySem.W.kas_lt_str q
  |false=>exact rc _ _ (lt_str q)
 ·obtain⟨is,e1,e⟩:=aR e;obtain⟨js,e2,rfl⟩:=aJ e;cases f with
  |true=>exact absurd rfl (hf rfl).1
  |false=>
   obtain⟨p,xs,rfl,g,rs⟩:=ra.tup_inv;obtain⟨p',xs',rfl,g',rs'⟩:=rb.tup_inv;cases rv;cases ru;obtain⟨its,rr,pl,_⟩:=I.tuple g.sq;obtain⟨its',rr',pl',_⟩:=I.tuple g'.sq;exact rc _ _ (HT.lt_tupInts pl pl' (by simpa using zA e1 rs rr) (by simpa using zA e2 rs' rr') hu q)
 ·cases e
theorem Io (I:Inv X pins σ H s) (hu:A.units+n<dr) (q:Q k s):∀ {as bs:List D}{xs ys:List V}{vs us:List af} (i:Nat),(i=0->kE (.tup as)≠wk/\kE (.tup bs)≠wk)->Reps X.K ok H xs as->Reps X.K ok H ys bs->Vals xs vs->Vals ys us->NR n as bs fin=wj k->
  PySem.W.KatLex X.prog X.w A true fin Q (vs.zip us) i s
 |[],bs,_,_,_,us,i,_,.nil,r2,.nil,v2,e=>by
  have e':wj fin=wj k:=e;cases e';exact vq q
 |a::as,[],_,_,_,_,i,_,.cons r1 rs1,.nil,.cons w1 ws1,.nil,e=>by
  have e':wj fin=wj k:=e;cases e';exact vq q
 |a::as,b::bs,_,_,_,_,i,hk,.cons r1 rs1,.cons r2 rs2,.cons w1 ws1,.cons w2 ws2,e=>by
  refine PySem.W.kat_cons ?_;have e':(match eqD n a b with
   |some true=>NR n as bs fin
   |some false=>fR a b
   |none=>wk)=wj k:=e
  cases hq:eqD n a b with
  |none=>rw[hq] at e';cases e'
  |some c=>
   rw[hq] at e';refine pQ I n r1 r2 w1 w2 hq hu X.prog X.w _ _ ?_;cases c with
   |true=>exact PySem.W.kat_yes (Io I hu q (i+1) (fun z=>absurd z (Nat.succ_ne_zero i)) rs1 rs2 ws1 ws2 e')
   |false=>
    refine PySem.W.kat_no ?_;refine Kd I (true&&i==0) (fun hf=> ?_) r1 r2 w1 w2 e' (by omega) q;have hi:i=0:=by simpa using hf
    obtain⟨h1,h2⟩:=hk hi;constructor
    ·intro z;apply h1;cases a <;> first|rfl|cases z
    ·intro z;apply h2;cases b <;> first|rfl|cases z
theorem NI (I:Inv X pins σ H s) (hu:A.units+n<dr) (h1:kE a≠wk) (h2:kE b≠wk) (ra:Rep X.K ok H x a) (rb:Rep X.K ok H y b) (rv:RelV x v) (ru:RelV y u) (e:dX n a b=wj k) (q:Q k s):
  ay (model X.prog X.w) A (keyLt' (tuples' true) v u) Q E s:=by
 unfold dX at e;split at e
 ·rename_i as bs
  obtain⟨p,xs,rfl,g,rs⟩:=ra.tup_inv;obtain⟨p',xs',rfl,g',rs'⟩:=rb.tup_inv;cases rv;cases ru;obtain⟨its,rr,⟨o,t1,t2,m,t3⟩,_⟩:=I.tuple g.sq;obtain⟨its',rr',⟨o',t1',t2',m',t3'⟩,_⟩:=I.tuple g'.sq;refine PySem.W.kat_lt t1 t3 t1' t3' ?_;have l1:its.toArray.size=as.length:=by rw[bc,<- rr.length,rs.length]
  have l2:its'.toArray.size=bs.length:=by rw[bc,<- rr'.length,rs'.length]
  rw[l1,l2];simpa using Io I hu q 0 (fun _=>⟨h1,h2⟩) rs rs' rr rr' e
 ·cases e
theorem Vals.getD (r:Vals xs vs) (i:Nat):RelV (xs.getD i .non) (vs.getD i .none):=by
 rcases mj i xs.length with h|h
 ·obtain⟨u,e,ru⟩:=r.get (i:=i) (x:=xs[i]) (by simp[h]);rw[au,au,e,bi h];exact ru
 ·rw[au,au,cy h,cy (by rw[<- r.length];exact h)];rfl
theorem Reps.getD {K:aa} (r:Reps K ok H xs ds) (i:Nat):Rep K ok H (xs.getD i .non) (ds.getD i .non):=by
 rcases mj i ds.length with h|h
 ·obtain⟨v,e,rv⟩:=r.get (i:=i) (d:=ds[i]) (by simp[h]);rw[au,au,e,bi h];exact rv
 ·rw[au,au,cy h,cy (by rw[r.length];exact h)];exact .non
theorem Reps.pick {K:aa} (r:Reps K ok H xs ds):∀ is:List Nat,Reps K ok H (is.map fun i=>xs.getD i .non) (is.map fun i=>ds.getD i .non)
 |[]=>.nil
 |i::r'=>.cons (Reps.getD r i) (Reps.pick r r')
theorem Vals.pick (r:Vals xs vs):∀ is:List Nat,Vals (is.map fun i=>xs.getD i .non) (is.map fun i=>vs.getD i .none)
 |[]=>.nil
 |i::r'=>.cons (Vals.getD r i) (Vals.pick r r')
theorem xF (I:Inv X pins σ H s) (c:Bool):∀ {ds:List D}{xs:List V}{vs:List af},ds.all (fun d=>kE d==wj c)=true->Reps X.K ok H xs ds->Vals xs vs->∃ fs,PySem.W.KatTups s.heap vs fs/\fs.length=ds.length/\∀ v∈fs,PySem.W.Looks (model X.prog X.w) s.heap (typeOf v) (.type (if c then "int" else "str"))
 |[],_,_,_,.nil,.nil=>⟨[],by rw[PySem.W.KatTups.eq_1];trivial,rfl,fun v hv=>absurd hv (by simp)⟩
 |d::ds,_,_,h,.cons r rs,.cons w ws=>by
  rw[List.all_cons,bp] at h;obtain⟨fs,h1,h2,h3⟩:=xF I c h.2 rs ws;have hd:kE d=wj c:=by simpa using h.1
  cases d with
  |tup as=>
   cases as with
   |nil=>cases hd
   |cons a as=>
    obtain⟨p,xs,rfl,g,rs'⟩:=r.tup_inv;cases w;cases rs' with
    |cons ra rs'=>
     obtain⟨its,rr,⟨o,t1,t2,m,t3⟩,_⟩:=I.tuple g.sq;cases rr with
     |cons wa rr=>
      rename_i u us
      refine⟨u::fs,?_,by simp[h2],fun v hv=> ?_⟩
      ·rw[PySem.W.KatTups.eq_2];exact⟨⟨p,o,_,m,rfl,t1,t2,t3,by simp⟩,h1⟩
      ·rcases ai.mp hv with rfl|hv
       ·cases a with
        |int i=>
         cases hd;obtain rfl:=ra.int_inv;obtain⟨t,rfl⟩:=wa;intro A Q E s' _ q;exact ak q
        |str i=>
         cases hd;obtain rfl:=ra.str_inv;obtain⟨t,rfl⟩:=wa;intro A Q E s' _ q;exact ak q
        |_=>cases hd
       ·exact h3 v hv
  |_=>cases hd
end
noncomputable def wL (h h0:cx) (L a:ae):List (ae×Obj):=(bq h.objs.size).filterMap fun b=>if b=L∨b=a∨(h0.get? b).isSome=true then wk else(h.get? b).map fun o=>(b,o)
theorem BX (e:h.get? b=wj o) (h1:b≠L) (h2:b≠a) (h3:h0.get? b=wk):(b,o)∈wL h h0 L a:=by
 unfold wL;refine gs.mpr ⟨b,ie.mpr (bj e),?_⟩;rw[if_neg (by simp[h1,h2,h3]),e];rfl
theorem oN (hp:p∈wL h h0 L a):h.get? p.1=wj p.2/\p.1≠L/\p.1≠a/\h0.get? p.1=wk:=by
 obtain⟨b,_,e⟩:=gs.mp hp
 by_cases hc:b=L∨b=a∨(h0.get? b).isSome=true
 ·rw[if_pos hc] at e;cases e
 ·rw[if_neg hc] at e;obtain⟨o,e1,e2⟩:=aJ e;subst e2;refine⟨e1,fun z=>hc (.inl z),fun z=>hc (.inr (.inl z)),?_⟩;cases q:h0.get? b with
  |none=>rfl
  |some u=>exact absurd (.inr (.inr (by rw[q];rfl))) hc
theorem MX {h:cx} (h1:h.Ns a m) (h2:h.Ns a m'):m=m':=by
 obtain⟨o,es,ep,e1,e2,_,e3⟩:=h1;obtain⟨o',es',ep',g1,g2,_,g3⟩:=h2;rw[e1] at g1;cases g1;rw[e2] at g2;cases g2
 funext x
 rw[<- e3,g3]
theorem Du:∀ {us:List af},xs.length=us.length->(∀(j:Nat) x v,xs[j]?=wj x->us[j]?=wj v->RelV x v)->Vals xs us:=by
 induction xs with
 |nil=>
  intro us h _;cases us with
  |nil=>exact .nil
  |cons _ _=>cases h
 |cons x r ih=>
  intro us h g;cases us with
  |nil=>cases h
  |cons u us=>exact .cons (g 0 x u rfl rfl) (ih (by simpa using h) fun j y v e1 e2=>g (j+1) y v (by simpa using e1) (by simpa using e2))
section
variable {X:Cx}{pins:List (ae×Obj)}{σ:St}{H:Hp}{s:am}{ok:Okk}{A:dh}{E:af->am->Prop}
theorem Kc (hk:iN ds=true) (e:dX n (ds.getD i .non) (ds.getD j .non)=wj c):kE (ds.getD i .non)≠wk/\kE (ds.getD j .non)≠wk:=by
 have inr:∀ i,ds.getD i .non≠ .non->kE (ds.getD i .non)≠wk:=fun i hi=>by
  have hlt:i<ds.length:=by
   rcases mj i ds.length with h|h
   ·exact h
   ·rw[au,cy h] at hi;exact absurd rfl hi
  have hm:ds.getD i .non∈ds:=by
   rw[au,bi hlt];exact ja hlt
  unfold iN at hk;rw[ik] at hk;rcases hk with hk|hk
  ·have:=ff.mp hk _ hm
   intro z;rw[z] at this;cases this
  ·have:=ff.mp hk _ hm
   intro z;rw[z] at this;cases this
 refine⟨inr i fun z=> ?_,inr j fun z=> ?_⟩
 ·rw[z] at e;cases e
 ·rw[z] at e;unfold dX at e;split at e
  ·rename_i h2
   cases h2
  ·cases e
theorem oC (I:Inv X pins σ H s) (col:∀ {R:List af->am->Prop},(∀(h':cx) (tk:Nat) (acc:Array af),(∀ b o,s.heap.get? b=wj o->h'.get? b=wj o)->ItemsOf P acc n->R acc.toList { s with heap:=h',toks:=tk })->ay (model X.prog X.w) A.in1 (collect (.ref r)) R E s) (hn2:2<=n) (hn:n<64) (hu:A.units+(m+2)<dr)
  (hx:xs.length=n) (hP:∀(j:Nat) v x,P j v->xs[j]?=wj x->RelV x v) (rs:Reps X.K ok H xs ds) (hs:eD m ds=wj out)
  (h:∀(h':cx) (tk:Nat) (ys:List V) (l:ae),H l=wk->Inv X pins σ (upd H l (.lst ys)) { s with heap:=h',toks:=tk }->Reps X.K ok H ys out->Q (.ref l) { s with heap:=h',toks:=tk }):
  ay (model X.prog X.w) A (call (.builtin "sorted") [.ref r]) Q E s:=by
 have hl':ds.length=n:=by rw[<- rs.length];exact hx
 unfold eD at hs;rw[if_neg (by omega)] at hs;obtain⟨⟨_,hk⟩,hs⟩:=cR hs;obtain⟨p,hrun,hs⟩:=aR hs;obtain⟨hpl,hs⟩:=bL hs;refine qc kind_sorted plain_sorted entry_sorted (args_sorted1 _) ?_;unfold Builtin.«sorted»;refine ad (m:=checkCount "sorted" 1 1 _) (ak (ad (col fun h1 tk acc kp it=> ?_)));have hl:acc.toList.length=n:=by rw[d7];exact it.1
 refine ad (t8 ?_ (by rw[hl,bu];omega));have o1:(h1.push (gx "list" acc.toList.toArray 0)).get? h1.objs.size=wj (gx "list" acc.toList.toArray 0):=bw _ rfl;have nw:s.heap.get? h1.objs.size=wk:=by
  cases q:s.heap.get? h1.objs.size with
  |none=>rfl
  |some u=>exact absurd (bj (kp _ _ q)) (gk _)
 have hH:H h1.objs.size=wk:=by
  cases q:H h1.objs.size with
  |none=>rfl
  |some u=>
   obtain⟨v,w⟩:=HOk.obj I.hok q;rw[nw] at w;cases w
 obtain⟨mL,hnL,_⟩:=I.loc;have kp2:∀ b o,s.heap.get? b=wj o->(h1.push (gx "list" acc.toList.toArray 0)).get? b=wj o:=fun b o e=>az _ (kp b o e);have fr:Fr X.base X.env.locals (h1.push (gx "list" acc.toList.toArray 0)) mL:=⟨hnL.keeps kp2,fun b o e=>kp2 b o (I.bk b o e),cf I.ok.bsz I.ok.above⟩;have aL:h1.objs.size≠X.env.locals:=fun z=>by
  obtain⟨oL,_,_,hoL,_⟩:=id hnL;rw[<- z,nw] at hoL;cases hoL
 have hb0:X.base.get? h1.objs.size=wk:=by
  cases q:X.base.get? h1.objs.size with
  |none=>rfl
  |some u=>
   have:=I.bk _ _ q
   rw[nw] at this;cases this
 have rv:Vals xs acc.toList:=by
  refine Du (by rw[hx,hl]) fun j x v e1 e2=> ?_;exact hP j v x (it.2 j v (by rw[<- hW];exact e2)) e1
 refine ad (iu (hZ slot_list_sort ⟨_,o1,rfl⟩ entry_list_sort (PySem.W.kat_list_sort (s:={ s with heap:=h1.push (gx "list" acc.toList.toArray 0),toks:=tk }) (news:=wL (h1.push (gx "list" acc.toList.toArray 0)) X.base X.env.locals h1.objs.size) fr (fun q hq=>let ⟨z1,z2,z3,z4⟩:=oN hq;⟨z1,z2,z4⟩) o1 aL hb0 (fun q hq=>(oN hq).2.2.1) (by rw[hl];exact hn2) (by rw[hl];exact hn) fun e1 h' fr' nw'=> ?_) (args_list_sort _)))
 -- the state in its midst
 have keep:∀ {h':cx},Fr X.base X.env.locals h' mL->News X.base X.env.locals h' (wL (h1.push (gx "list" acc.toList.toArray 0)) X.base X.env.locals h1.objs.size)->∀ b o,b≠X.env.locals->s.heap.get? b=wj o->h'.get? b=wj o:=fun {h'} fr' nw' b o hb e=>by
  have hne:b≠h1.objs.size:=fun z=>by rw[z,nw] at e;cases e
  cases q:X.base.get? b with
  |some u=>
   have:=I.bk b u q
   rw[e] at this;cases this;exact fr'.keep b _ q
  |none=>exact(nw' _ (BX (kp2 b o e) hb hne q)).1
 have nsk:∀ {h':cx},Fr X.base X.env.locals h' mL->∀ m,s.heap.Ns X.env.locals m->h'.Ns X.env.locals m:=fun {h'} fr' m hm=>by
  rw[MX hm hnL];exact fr'.ns
 have I1:Inv X pins σ H { s with heap:=h',toks:=tk }:=I.moved (keep fr' fun q hq=>nw' q (ag _ hq)) (nsk fr');have hka:∃ c:Bool,ds.all (fun d=>kE d==wj c)=true:=by
  unfold iN at hk;rw[ik] at hk;rcases hk with hk|hk
  ·exact⟨true,hk⟩
  ·exact⟨false,hk⟩
 obtain⟨c,hka⟩:=hka;obtain⟨fs,f1,f2,f3⟩:=xF I1 c hka rs rv;refine PySem.W.kat_kind f1 (by rw[f2];omega) f3 (by cases c <;> rfl) ?_;have hT:((k7 (if c=true then "int" else "str")) !=k7 "tuple")=true:=by cases c <;> rfl
 rw[hT,hl,<- hl'];refine Di (fun i j c C e q=> ?_) hrun ?_
 ·obtain⟨k1,k2⟩:=Kc hk e;exact NI I1 (dI (dI hu)) k1 k2 (Reps.getD rs i) (Reps.getD rs j) (Vals.getD rv i) (Vals.getD rv j) e q
 ·refine⟨_,_,fr',nw',.head (fun q hq=>(oN hq).2.2.1),fun h2 cc fr2 nw2=>⟨_,rfl,?_⟩⟩;have na2:h2.get? h1.objs.size=wj (PySem.W.listOf (List.map (fun i=>acc.toList.getD i ic) p.toList).toArray cc):=(nw2 _ aq).1;have I2:Inv X pins σ (upd H h1.objs.size (.lst (p.toList.map fun i=>xs.getD i .non))) { s with heap:=h2,toks:=tk }:=by
   have kk:=keep fr2 fun q hq=>nw2 q (ag _ hq);refine I.movedN kk (nsk fr2) (fun b o e=> ?_) (fun b u e=> ?_) fun b u e=> ?_
   ·rw[aG (fun z=>by rw[z,nw] at e;cases e)]
   ·rw[aG (aN e hH)];exact e
   ·by_cases hb:b=h1.objs.size
    ·subst hb;rw[aQ] at e;cases e;refine⟨?_,_,cc,Vals.pick rv p.toList,na2⟩;rw[ao,bu];omega
    ·rw[aG hb] at e;have nl:∀ {c:ae}{o:HO},H c=wj o->c≠X.env.locals:=fun e z=>by rw[z,I.free] at e;cases e
     refine(I.hok b u e).stay (fun c v hc q=> ?_) (fun c q=>by rw[aG (aN q hH)];exact q) fun c xs q=>by rw[aG (aN q hH)];exact q
     rcases hc with rfl|hc
     ·exact kk c v (nl e) q
     ·exact kk c v (nl hc) q
  cases hs;exact ak ⟨_,rfl,h h2 tk _ _ hH I2 (Reps.pick rs p.toList)⟩
theorem nZ (I:Inv X pins σ H s) (K:pf X.prog X.w T r d n P OK) (hh:A.handled=wk) (hok:OK s.heap) (hn2:2<=n) (hn:n<64) (hu:A.units+(m+2)<dr)
  (hx:xs.length=n) (hP:∀(j:Nat) v x,P j v->xs[j]?=wj x->RelV x v) (rs:Reps X.K ok H xs ds) (hs:eD m ds=wj out)
  (h:∀(h':cx) (tk:Nat) (ys:List V) (l:ae),H l=wk->Inv X pins σ (upd H l (.lst ys)) { s with heap:=h',toks:=tk }->Reps X.K ok H ys out->Q (.ref l) { s with heap:=h',toks:=tk }):
  ay (model X.prog X.w) A (call (.builtin "sorted") [.ref r]) Q E s:=
 oC I (fun h=>ua (A:=A.in1) K hh hok (by rw[bu];omega) h) hn2 hn hu hx hP rs hs h
end
section
variable {X:Cx}{cls exC:Nat->ae}{E:XE}{e a b c o i value:bt}{es rest:List bt}{fa fb fc fo fi fv:OG D}{fl:OG (List D)}{ft ft':OG Bool}{pos p apos pos' cpos:Pos}{x m:Str}{st:cr}
noncomputable def Ou (K:aa) (n:Nat):List V->Hp->VK->Prop:=fun xs H Q=>∃ v d kvs ds out ok,xs=[.ref v]/\H v=wj (Lc v d)/\H d=wj (.dT kvs)/\Reps K ok H (kvs.map (·.2)) ds/\eD n ds=wj out/\∀ l ys,H l=wk->Reps K ok H ys out->Q (.ref l) (upd H l (.lst ys))
theorem oG (h:eD n ds=wj out) (hl:ds.length<2):out=ds:=by
 unfold eD at h;rw[if_pos hl] at h;cases h;rfl
theorem oF (h:eD n ds=wj out) (hl:¬ ds.length<2):ds.length<64:=by
 unfold eD at h;rw[if_neg hl] at h;exact(cR h).1.1
theorem Fc (hc:X.calm=true) (hu:X.A.units+(n+2)<dr):CallR X (.builtin "sorted") (Ou X.K n):=by
 intro pins s σ H xs us Q I r h;obtain⟨v,d,kvs,ds,out,ok,rfl,hv,hd,rs,hs,q⟩:=h;have hlen:ds.length=kvs.length:=by rw[<- rs.length,ao]
 by_cases hl:ds.length<2
 ·obtain rfl:=oG hs hl;exact xV hc pins s σ H _ us Q I r ⟨v,d,kvs,rfl,hv,hd,by omega,fun l nl=>q l _ nl rs⟩
 ·obtain⟨u,rfl,rx⟩:=lV r;cases rx;obtain⟨lo,hz,es,ep,rd,sz,it⟩:=qD I (.inl hd);have vw:s.heap.IsValuesView v d:=(show ObjOk X.prog X.w H s.heap v (Lc v d) from I.hok v _ hv).1;have h64:=oF hs hl;refine nZ I (rT (d:=d) (es:=es) (ep:=ep)) (I.ok.hd hc) ⟨vw,rd⟩ (by omega) (by omega) hu (by rw[ao,sz]) (fun j v x hp hx=> ?_) rs hs fun h' tk ys l nl I' rs'=>⟨.ref l,_,I',rfl,q l ys nl rs'⟩;obtain⟨y,y1,y2⟩:=hp;obtain⟨p,p1,p2,_⟩:=it j y y1;rw[ax,p1] at hx;cases hx;rw[y2];exact p2
noncomputable def Ez (n:Nat) (ω:Om) (d:D):Option D:=match cellOf ω d with
 |some (.dt kvs)=>(eD n (kvs.map (·.2))).map D.lst
 |_=>wk
noncomputable def Go (n:Nat) (f:OG D):OG D:=oB f fun d _ ω=>oR (pu (Ez n ω d) ω)
theorem JD (hu:X.A.units+(n+2)<dr) (hc:X.calm=true) (hg:Gl X "sorted") (hm:X.mg "sorted"=wk) (ho:OE X cls E o fo) (hbase:ib o "values" X.env (eval o X.env)=eval o X.env:=by rfl) (hline:(ap.endLine==cp.line)=true:=by rfl)
  (he:av [.Call (.Attribute o "values" ap) [] [] cp] X.env=(false,eval (.Call (.Attribute o "values" ap) [] [] cp) X.env)::av [] X.env:=by rfl) (hpl:(di pos (av [] X.env)).any (·.1)=false:=by rfl):
  OE X cls E (.Call (.Name "sorted" p) [.Call (.Attribute o "values" ap) [] [] cp] [] pos) (Go n fo):=
 (tX (Fc hc hu) hg hm boot.sorted (oJ (Ma qr qo PySem.F.type_dict_values DT ho hbase hline) AN he) (by decide) (by decide) he hpl).imp fun σ H Q ⟨ok,ρ,ω,r,ω',P,e,q⟩=>by
  refine tO.then_ P e (fun c z=>by subst z;exact q) fun d ω1 v ok1 H1 e1 n1 P1 r1=> ?_;obtain⟨y,e3,rfl⟩:=cQ e1;obtain⟨ue3,rfl⟩:=cW e3;unfold Ez at ue3;split at ue3
  ·rename_i kvs hcell
   obtain⟨k,rfl,e4⟩:=dO hcell;obtain⟨out,e5,rfl⟩:=aJ ue3;obtain⟨a,rfl,e6,vs,e7,kv⟩:=P1.st.ref r1 e4;refine⟨.inr (.inr (.inl ⟨rfl,.inr ⟨vs,e7⟩⟩)),a,vs,rfl,rfl,e7,fun w nw=> ?_⟩;have hne:a≠w:=aN e7 nw;have s2:=cM (o:=Lc w a) nw;refine⟨w,a,vs,_,out,ok1,rfl,aQ,by rw[aG hne];exact e7,kv.vals.same s2,e5,fun l ys nl rs=> ?_⟩;have s3:=cM (o:=.lst ys) nl;exact q _ ok1 _ (n1.trans (.same P1.okh P1.st (s2.trans s3))) (.lst_new (P1.okh l (s2.free nl)) nl rs)
  ·cases ue3
noncomputable def LD (K:aa) (n:Nat):List V->Hp->VK->Prop:=fun xs H Q=>∃ d kvs out ok,xs=[.ref d]/\H d=wj (.dT kvs)/\OkH ok H/\eD n (kvs.map fun p=>bK p.1)=wj out/\∀ l ys,H l=wk->Reps K ok H ys out->Q (.ref l) (upd H l (.lst ys))
theorem wP {K:aa} (hok:OkH ok H):∀ {kvs:List (List Key×V)}{as:List ae},as.length=kvs.length->(∀(j:Nat) p a,kvs[j]?=wj p->as[j]?=wj a->H a=wj (.tup (p.1.map kV)))->Reps K ok H (as.map V.ref) (kvs.map fun p=>bK p.1)
 |[],[],_,_=>.nil
 |p::kvs,a::as,hl,h=>by
  refine .cons ?_ (wP hok (by simpa using hl) fun j q b e1 e2=>h (j+1) q b (by simpa using e1) (by simpa using e2))
  have:=h 0 p a rfl rfl
  exact .tup ⟨hok.tp a _ this,this⟩ (yY p.1)
 |[],_::_,hl,_=>by cases hl
 |_::_,[],hl,_=>by cases hl
theorem Fe (hc:X.calm=true) (hu:X.A.units+(n+2)<dr):CallR X (.builtin "sorted") (LD X.K n):=by
 intro pins s σ H xs us Q I r h;obtain⟨d,kvs,out,ok,rfl,hd,hok,hs,q⟩:=h;obtain⟨u,rfl,rx⟩:=lV r;cases rx;obtain⟨lo,hz,es,ep,rd,sz,it⟩:=qD I (.inl hd)
 -- the keys' addresses
 have hex:∀ j,j<es.size->∃ a,∃ y p,es[j]?=wj y/\kvs[j]?=wj p/\y.key=.ref a/\H a=wj (.tup (p.1.map kV)):=fun j hj=>by
  obtain⟨p,p1,_,a,p2,p3⟩:=it j es[j] (by simp[hj]);exact⟨a,_,p,by simp[hj],p1,p2,p3⟩
 have hass:∃ as:List ae,as.length=kvs.length/\∀(j:Nat) a,as[j]?=wj a->∃ y p,es[j]?=wj y/\kvs[j]?=wj p/\y.key=.ref a/\H a=wj (.tup (p.1.map kV)):=by
  refine⟨(bq es.size).map fun j=>if hj:j<es.size then(hex j hj).choose else 0,by simp[sz],fun j a ha=> ?_⟩;rw[ax] at ha;obtain⟨j',e1,e2⟩:=aJ ha;have hj0:j<es.size:=by
   rcases mj j es.size with z|z
   ·exact z
   ·rw[cy (by simpa using z)] at e1;cases e1
  have hj:j<es.size/\j'=j:=by
   rw[d8 hj0] at e1;cases e1;exact⟨hj0,rfl⟩
  obtain⟨hj,rfl⟩:=hj;rw[dif_pos hj] at e2;rw[<- e2];exact(hex _ hj).choose_spec
 obtain⟨as,al,ah⟩:=hass;have rs:Reps X.K ok H (as.map V.ref) (kvs.map fun p=>bK p.1):=wP hok al fun j p a e1 e2=>by
  obtain⟨y,p',_,g2,_,g4⟩:=ah j a e2;rw[e1] at g2;cases g2;exact g4
 have hPP:∀(j:Nat) v x,(∃ e,es[j]?=wj e/\v=e.key)->(as.map V.ref)[j]?=wj x->RelV x v:=fun j v x ⟨e,e1,e2⟩ hx=>by
  rw[ax] at hx;obtain⟨a,a1,a2⟩:=aJ hx;subst a2;obtain⟨y,p,g1,_,g3,_⟩:=ah j a a1;rw[e1] at g1;cases g1;rw[e2,g3];rfl
 by_cases hl:kvs.length<2
 ·obtain rfl:=oG hs (by simpa using hl);refine oA (AF (d:=d) (es:=es) (ep:=ep) lo) (I.ok.hd hc) rd (by rw[sz];exact hl) fun h' tk vs a c kp na hlen hP ha=> ?_;have rv:Vals (as.map V.ref) vs:=yI (by rw[hlen,sz,ao,al]) fun j w hw=>by
   have hj:j<as.length:=by
    have:=(bg.mp hw).1
    rw[al,<- sz,<- hlen];exact this
   exact⟨.ref as[j],by rw[ax,bi hj];rfl,hPP j w _ (hP j w hw) (by rw[ax,bi hj];rfl)⟩
  obtain⟨hn,I'⟩:=I.laidN (t':=tk) kp na (uF (H:=upd H a (.lst (as.map V.ref))) rv (by rw[ao,al];exact hz) ha);exact⟨.ref a,_,I',rfl,q a _ hn rs⟩
 ·have h64:=oF hs (by simpa using hl);rw[ao] at h64;exact nZ I (AF (d:=d) (es:=es) (ep:=ep) lo) (I.ok.hd hc) rd (by omega) (by omega) hu (by rw[ao,al,sz]) hPP rs hs fun h' tk ys l nl I' rs'=>⟨.ref l,_,I',rfl,q l ys nl rs'⟩
noncomputable def EA (n:Nat) (ω:Om) (ds:List D):Option (D×Om):=match ds with
 |[d]=>match cellOf ω d with
  |some (.dt kvs)=>(eD n (kvs.map fun p=>bK p.1)).map fun out=>(.lst out,ω)
  |_=>wk
 |_=>wk
theorem Hf {K:aa}:qW cls K (LD K n) (EA n):=fun ok H ω xs as d ω' Q h1 st r e k=>by
 unfold EA at e;split at e
 ·split at e
  ·rename_i kvs hcell
   obtain⟨out,e5,e6⟩:=aJ e;cases e6;obtain⟨n,rfl,e1⟩:=dO hcell;obtain⟨v,rfl,r1⟩:=r.one_inv;obtain⟨a,rfl,e6,vs,e7,kv⟩:=st.ref r1 e1;have hk:(vs.map fun p=>bK p.1)=kvs.map fun p=>bK p.1:=by
    have:=congrArg (List.map bK) kv.keys
    rw[ia,ia] at this;exact this
   refine⟨a,vs,out,ok,rfl,e7,h1,?_,fun l ys nl rs=>k _ ok _ (.same h1 st (cM nl)) (.lst_new (h1 l nl) nl rs)⟩;rw[hk];exact e5
  ·cases e
 ·cases e
end
section
variable {X:Cx}{cls exC:Nat->ae}{E:XE}{e a b c o i o2 i2 value:bt}{es rest:List bt}{fa fb fc fo fi fo2 fi2 fv:OG D}{fl:OG (List D)}{ft ft':OG Bool}{pos p apos pos' pos2 tp cpos:Pos}{x m:Str}{st:cr}
theorem JS (ha:OE X cls E a fa) (hb:OE X cls E b fb):OE X cls E (.BinOp a .Add b pos) (MB.o2 (lf Kw) fa fb):=uA BT (Fit2.lift (fun ok H x y a b d Q h1 ra rb e k=>by
 cases a with
 |str u=>cases b with
  |str v=>
   obtain⟨hz,rfl⟩:=bL (show(if u.length+v.length<=sizeLine then wj (D.str (u++v)) else wk)=wj d from e);exact⟨u,v,ra.str_inv,rb.str_inv,hz,k _ H (Same.refl H) (.str _)⟩
  |_=>cases e
 |_=>cases e)) ha hb
theorem JH (ha:OE X cls E a fa) (hb:OE X cls E b fb):OE X cls E (.BinOp a .Mult b pos) (MB.o2 (lf Kv) fa fb):=uA Jw (Fit2.lift (fun ok H x y a b d Q h1 ra rb e k=>by
 cases a with
 |str u=>cases b with
  |int v=>
   obtain⟨hz,rfl⟩:=bL (show(if 0<=v/\v<=100000/\u.length<=100 then wj (D.str (NQ u v)) else wk)=wj d from e);exact⟨u,v,ra.str_inv,rb.int_inv,hz,k _ H (Same.refl H) (.str _)⟩
  |_=>cases e
 |_=>cases e)) ha hb
noncomputable def iH (ω:Om) (d:D):D:=match fW ω d with
 |some ds=>.lst ds
 |none=>d
theorem jN {K:aa} (t:Stt cls K ok H ω) (r:Rep K ok H v d):Rep K ⟨fun _=>True,ok.al⟩ H v (iH ω d):=by
 unfold iH;cases hs:fW ω d with
 |some ds=>exact vX t r hs
 |none=>exact r.wide
noncomputable def jK (n:Nat) (ω:Om) (a b:D):Option (D×Om):=pu (gEq n (iH ω a) (iH ω b)) ω
noncomputable def Bj (n:Nat) (ω:Om) (a b:D):Option (D×Om):=pu (gNe n (iH ω a) (iH ω b)) ω
theorem KC {K:aa}:yE cls K (PP K n) (jK n):=fun ok H ω x y a b d ω' Q h1 st ra rb e k=>by
 obtain⟨ue,rfl⟩:=cW e;obtain⟨c,e1,rfl⟩:=aJ ue;exact⟨_,_,_,c,jN st ra,jN st rb,e1,k _ ok H (.refl h1 st) (.bl _)⟩
theorem Ky {K:aa}:yE cls K (PJ K n) (Bj n):=fun ok H ω x y a b d ω' Q h1 st ra rb e k=>by
 obtain⟨ue,rfl⟩:=cW e;obtain⟨c,e1,rfl⟩:=aJ ue;exact⟨_,_,_,c,jN st ra,jN st rb,e1,k _ ok H (.refl h1 st) (.bl _)⟩
theorem Ml (hu:Iy X n) (ha:OE X cls E a fa) (hb:OE X cls E b fb):OT X cls E (.Compare a [.Eq] [b] pos) (cH (MB.o2 (jK n) fa fb)):=kW (MC hu) KC ha hb (lA _)
theorem Mj (hu:Iy X n) (ha:OE X cls E a fa) (hb:OE X cls E b fb):OT X cls E (.Compare a [.NotEq] [b] pos) (cH (MB.o2 (Bj n) fa fb)):=kW (Mv hu) Ky ha hb (lA _)
noncomputable def oIT (f:OG D):OI':=oB f fun d _ ω=>oR (pu (match d with|.tup ds=>wj (ds,bW)|_=>wk) ω)
theorem MG (h:OE X cls E e fa):OI X cls E tg e (oIT fa):=PI.imp (LP h) fun σ H R ⟨ok,ρ,ω,r,ω',P,e,q⟩=>by
 refine tO.then_ P e (fun c z=>by subst z;exact q) fun d ω1 v ok1 H1 e1 n1 P1 r1=> ?_;obtain⟨⟨ds,chk⟩,e3,rfl⟩:=cQ e1;obtain⟨ue3,rfl⟩:=cW e3;split at ue3
 ·cases ue3;obtain⟨a,xs,rfl,g,rs⟩:=r1.tup_inv;refine⟨a,rfl,⟨xs,g.sq⟩,q _ ok1 H1 n1 ⟨fun i ok H ω n c hi=> ?_,fun i ok H ω x H' d n c y hd=> ?_,fun i ok H ω n c hi=>⟨xs,(g.mono n.ex.dat).sq,by rw[rs.length];exact hi⟩⟩⟩
  ·have hi':i<xs.length:=by rw[rs.length];exact hi
   exact⟨xs,xs[i],(g.mono n.ex.dat).sq,by simp[hi']⟩
  ·obtain⟨rfl,y⟩:=y;have rs':=rs.ex n.ex;obtain⟨w,z1,z2⟩:=rs'.get hd;rw[y xs (g.mono n.ex.dat).sq] at z1;cases z1;exact⟨Same.refl _,z2⟩
 ·cases ue3
end
end L2.MB
end
section
namespace L2.MB
open PySem PySem.Spec PyProof.Rows PySem.W
noncomputable def Tree {α:Type} (n:Nat) (Q:α->Prop):KasT α->Prop
 |.ret a=>Q a
 |.ask i j k=>i<n/\j<n/\∀ b,Tree n Q (k b)
theorem Tree.bind {f:α->KasT β} (g:∀ a,Q a->Tree n R (f a)):∀ {t:KasT α},Tree n Q t->Tree n R (t.bind f)
 |.ret a,h=>by rw[KasT.bind.eq_1];exact g a h
 |.ask i j k,h=>by
  rw[KasT.bind.eq_2];exact⟨h.1,h.2.1,fun b=>Tree.bind g (h.2.2 b)⟩
theorem Tree.run (hl:∀ i j,i<n->j<n->∃ c,lt i j=wj c):∀ {t:KasT α},Tree n Q t->∃ a,II lt t=wj a/\Q a
 |.ret a,h=>⟨a,rfl,h⟩
 |.ask i j k,h=>by
  obtain⟨c,e⟩:=hl i j h.1 h.2.1;obtain⟨a,e2,q⟩:=Tree.run hl (h.2.2 c);refine⟨a,?_,q⟩
  show(lt i j).bind _=_
  rw[e];exact e2
noncomputable def Pm (n:Nat) (p:Array Nat):Prop:=p.Perm (bq n).toArray
theorem Pm.lt (h:Pm n p) (h0:0<n) (i:Nat):p.getD i 0<n:=by
 rw[cq];cases q:p[i]? with
 |none=>exact h0
 |some x=>
  have hm:x∈p:=Array.mem_of_getElem? q
  have:x∈(bq n).toArray:=(h.mem_iff).mp hm
  simpa using this
theorem Pm.rev (h:Pm n p) (i j:Nat):Pm n (kas_rev p i j):=(mirror_perm p i j _).trans h
theorem Pm.bub (h:Pm n p) (k d:Nat):Pm n (bubble p k d):=(bubble_perm p k d).trans h
section
variable {n:Nat} (h0:0<n)
include h0
theorem tP (hp:Pm n p):∀(f m:Nat),Tree n (fun _=>True) (kas_asc p f m)
 |0,m=>by rw[kas_asc.eq_def];trivial
 |f+1,m=>by
  rw[kas_asc.eq_def];refine⟨hp.lt h0 _,hp.lt h0 _,fun b=> ?_⟩;cases b with
  |true=>(dsimp only;rw[if_pos rfl]);trivial
  |false=>(dsimp only;rw[if_neg cg]);exact tP hp f (m+1)
theorem kP:∀(f:Nat) {p:Array Nat} (m q:Nat),Pm n p->Tree n (fun r:Array Nat×Nat×Nat=>Pm n r.1) (kas_desc f p m q)
 |0,p,m,q,hp=>by rw[kas_desc.eq_def];exact hp
 |f+1,p,m,q,hp=>by
  rw[kas_desc.eq_def];refine⟨hp.lt h0 _,hp.lt h0 _,fun b=> ?_⟩;cases b with
  |true=>
   (dsimp only;rw[if_pos rfl])
   by_cases hq:q>0
   ·rw[if_pos hq];exact kP f _ _ (hp.rev _ _)
   ·rw[if_neg hq];exact kP f _ _ hp
  |false=>
   (dsimp only;rw[if_neg cg])
   refine⟨hp.lt h0 _,hp.lt h0 _,fun b=> ?_⟩;cases b with
   |true=>(dsimp only;rw[if_pos rfl]);exact hp
   |false=>(dsimp only;rw[if_neg cg]);exact kP f _ _ hp
theorem vQ (m r:Nat) (hp:Pm n p):Tree n (fun r:Nat×Array Nat=>Pm n r.2) (kas_tail3 m r p):=by
 unfold kas_tail3;refine Tree.bind (Q:=fun _=>True) (fun a _=> ?_) (tP h0 (hp.rev _ _) _ _);exact hp.rev _ _
theorem kO (m r:Nat) (hp:Pm n p):Tree n (fun r:Nat×Array Nat=>Pm n r.2) (kas_descPart m r p):=by
 unfold kas_descPart;refine(kP h0 _ _ _ hp).bind fun a ha=> ?_;split
 ·exact vQ h0 _ _ (Pm.rev ha _ _)
 ·exact vQ h0 _ _ ha
theorem BF (r:Nat) (hp:Pm n p):Tree n (fun r:Nat×Array Nat=>Pm n r.2) (kas_count r p):=by
 unfold kas_count;refine(tP h0 hp _ _).bind fun a _=> ?_;split
 ·exact hp
 ·split
  ·refine⟨hp.lt h0 _,hp.lt h0 _,fun b=> ?_⟩;cases b with
   |true=>(dsimp only;rw[if_pos rfl]);exact hp
   |false=>(dsimp only;rw[if_neg cg]);exact kO h0 _ _ (hp.rev _ _)
  ·exact kO h0 _ _ hp
theorem lW (hp:Pm n p) (k:Nat):∀(f l r:Nat),Tree n (fun _=>True) (kas_place p k f l r)
 |0,l,r=>by rw[kas_place.eq_def];trivial
 |f+1,l,r=>by
  rw[kas_place.eq_def];show Tree n _ (if l≥r then _ else _);split
  ·trivial
  ·refine⟨hp.lt h0 _,hp.lt h0 _,fun b=> ?_⟩;cases b with
   |true=>(dsimp only;rw[if_pos rfl]);exact lW hp k f _ _
   |false=>(dsimp only;rw[if_neg cg]);exact lW hp k f _ _
theorem AA:∀(f:Nat) {p:Array Nat} (k:Nat),Pm n p->Tree n (fun r:Array Nat=>Pm n r) (kas_bin f p k)
 |0,p,k,hp=>by rw[kas_bin.eq_def];exact hp
 |f+1,p,k,hp=>by
  rw[kas_bin.eq_def];exact(lW h0 hp k _ _ _).bind fun l _=>AA f _ (hp.bub _ _)
theorem vR:Tree n (fun r:Array Nat=>Pm n r) (kas_sort n):=by
 unfold kas_sort;refine(BF h0 _ (vt _)).bind fun r hr=> ?_;split
 ·exact AA h0 _ _ hr
 ·exact hr
end
theorem tR (h64:ds.length<64) (hk:iN ds=true) (hl:∀ a∈ds,∀ b∈ds,∃ c,dX m a b=wj c):∃ out,eD m ds=wj out/\out.Perm ds:=by
 unfold eD
 by_cases h2:ds.length<2
 ·rw[if_pos h2];exact⟨ds,rfl,.refl _⟩
 ·rw[if_neg h2,if_pos ⟨h64,hk⟩];have gm:∀ i,i<ds.length->ds.getD i .non∈ds:=fun i hi=>by
   rw[au,bi hi];exact ja hi
  obtain⟨p,e,hp⟩:=Tree.run (n:=ds.length) (lt:=fun i j=>dX m (ds.getD i .non) (ds.getD j .non)) (fun i j hi hj=>hl _ (gm i hi) _ (gm j hj)) (vR (n:=ds.length) (by omega));rw[e];have pl:p.toList.Perm (bq ds.length):=by
   have:=hp
   unfold Pm at this;rw[pv] at this;simpa using this
  have hl2:p.toList.length<=64:=by rw[pl.length_eq,g8];omega
  refine⟨_,by show(if p.toList.length<=64 then _ else wk)=_;rw[if_pos hl2],?_⟩;refine(pl.map _).trans ?_
  have:(bq ds.length).map (fun i=>ds.getD i .non)=ds:=by
   apply jn;intro i;rw[ax];rcases mj i ds.length with h|h
   ·rw[d8 h,bi h];show wj (ds.getD i .non)=_;rw[au,bi h];rfl
   ·rw[cy h,cy (by simpa using h)];rfl
  rw[this]
noncomputable def TreeL {α:Type} (L:Nat->Nat->Bool) (Q:α->Prop):KasT α->Prop
 |.ret a=>Q a
 |.ask i j k=>TreeL L Q (k (L i j))
theorem TreeL.bind {f:α->KasT β} (g:∀ a,Q a->TreeL L R (f a)):∀ {t:KasT α},TreeL L Q t->TreeL L R (t.bind f)
 |.ret a,h=>by rw[KasT.bind.eq_1];exact g a h
 |.ask i j k,h=>by
  rw[KasT.bind.eq_2];exact TreeL.bind g h
theorem TreeL.run:∀ {t:KasT α}{a:α},TreeL (fun i j=>lt i j==wj true) Q t->II lt t=wj a->Q a
 |.ret a,_,h,e=>by cases e;exact h
 |.ask i j k,a,h,e=>by
  change TreeL _ Q (k (lt i j==wj true)) at h
  change (lt i j).bind (fun c=>II lt (k c))=wj a at e
  cases hq:lt i j with
  |none=>rw[hq] at e;cases e
  |some c=>
   rw[hq] at e h
   have:(wj c==wj true)=c:=by cases c <;> rfl
   rw[this] at h;exact TreeL.run h e
theorem Tree.run':∀ {t:KasT α}{a:α},Tree n Q t->II lt t=wj a->Q a
 |.ret a,_,h,e=>by cases e;exact h
 |.ask i j k,a,h,e=>by
  obtain⟨c,e1,e2⟩:=aR (show(lt i j).bind _=_ from e);exact Tree.run' (h.2.2 c) e2
section
variable {n:Nat}{L:Nat->Nat->Bool} (ht:∀ i j,i<n->j<n->i≠j->L i j=false->L j i=true) (hr:∀ i j k,i<n->j<n->k<n->L i j=true->L j k=true->L i k=true)
noncomputable def Asc (L:Nat->Nat->Bool) (p:Array Nat) (m:Nat):Prop:=∀ i j,i<j->j<m->L (p.getD i 0) (p.getD j 0)=true
noncomputable def Dsc (L:Nat->Nat->Bool) (p:Array Nat) (m:Nat):Prop:=∀ i j,i<j->j<m->L (p.getD j 0) (p.getD i 0)=true
theorem Pm.size (h:Pm n p):p.size=n:=by
 have:=h.size_eq
 simpa using this
theorem Pm.ne (h:Pm n p) (hi:i<n) (hj:j<n) (hne:i≠j):p.getD i 0≠p.getD j 0:=by
 have pl:p.toList.Perm (bq n):=by
  have:=h
  unfold Pm at this;rw[pv] at this;simpa using this
 have nd:p.toList.Nodup:=pl.nodup_iff.mpr List.nodup_range;have hs:=h.size;intro z;have gi:p.getD i 0=p.toList[i]'(by simp[hs,hi]):=by
  rw[cq,jr (by omega)];simp
 have gj:p.getD j 0=p.toList[j]'(by simp[hs,hj]):=by
  rw[cq,jr (by omega)];simp
 rw[gi,gj] at z;have pw:=lw.mp nd;rcases Nat.lt_or_gt_of_ne hne with q|q
 ·exact pw i j _ _ q z
 ·exact pw j i _ _ q z.symm
include ht hr in
theorem HP {p:Array Nat} (h0:0<n) (hp:Pm n p) {m:Nat} (h1:1<=m) (hm:m<n) (a:Asc L p m) (c:L (p.getD m 0) (p.getD (m-1) 0)=false):Asc L p (m+1):=by
 have up:=ht _ _ (hp.lt h0 m) (hp.lt h0 (m-1)) (hp.ne hm (by omega) (by omega)) c;intro i j hij hj
 by_cases e:j=m
 ·subst e
  by_cases e2:i=j-1
  ·rw[e2];exact up
  ·exact hr _ _ _ (hp.lt h0 _) (hp.lt h0 _) (hp.lt h0 _) (a i (j-1) (by omega) (by omega)) up
 ·exact a i j hij (by omega)
include ht hr in
theorem yT {p:Array Nat} (h0:0<n) (hp:Pm n p):∀(f m:Nat),1<=m->m+f<=n->Asc L p m->TreeL L (fun q=>m<=q/\q<=m+f/\Asc L p q/\(q<m+f->L (p.getD q 0) (p.getD (q-1) 0)=true)) (kas_asc p f m)
 |0,m,h1,hm,a=>by
  rw[kas_asc.eq_def];exact⟨bf _,bf _,a,fun z=>by omega⟩
 |f+1,m,h1,hm,a=>by
  rw[kas_asc.eq_def];show TreeL L _ (if L (p.getD m 0) (p.getD (m-1) 0)=true then KasT.ret m else kas_asc p f (m+1));cases c:L (p.getD m 0) (p.getD (m-1) 0) with
  |true=>
   rw[if_pos rfl];exact⟨bf _,by omega,a,fun _=>c⟩
  |false=>
   rw[if_neg cg];have ih:=yT h0 hp f (m+1) (by omega) (by omega) (HP ht hr h0 hp h1 (by omega) a c)
   have:m+1+f=m+(f+1):=by omega
   rw[this] at ih;have mono:∀ {t:KasT Nat},TreeL L (fun q=>m+1<=q/\q<=m+(f+1)/\Asc L p q/\(q<m+(f+1)->L (p.getD q 0) (p.getD (q-1) 0)=true)) t->TreeL L (fun q=>m<=q/\q<=m+(f+1)/\Asc L p q/\(q<m+(f+1)->L (p.getD q 0) (p.getD (q-1) 0)=true)) t:=by
    intro t
    induction t with
    |ret a=>exact fun h=>⟨by have:=h.1;omega,h.2⟩
    |ask i j k ih=>exact fun h=>ih _ h
   exact mono ih
include ht hr in
theorem AQ {p:Array Nat} (h0:0<n) (hp:Pm n p):∀(f m:Nat),1<=m->m+f<=n->Dsc L p m->TreeL L (fun r:Array Nat×Nat×Nat=>r.1=p/\r.2.2=0/\m<=r.2.1/\r.2.1<=m+f/\Dsc L p r.2.1) (kas_desc f p m 0)
 |0,m,h1,hm,a=>by
  rw[kas_desc.eq_def];exact⟨rfl,rfl,bf _,bf _,a⟩
 |f+1,m,h1,hm,a=>by
  rw[kas_desc.eq_def];show TreeL L _ (if L (p.getD m 0) (p.getD (m-1) 0)=true then(if 0>0 then kas_desc f (kas_rev p (m-(0+1)) m) (m+1) 0 else kas_desc f p (m+1) 0) else KasT.ask (p.getD (m-1) 0) (p.getD m 0) fun d=>if d=true then .ret (p,m,0) else kas_desc f p (m+1) (0+1));cases c:L (p.getD m 0) (p.getD (m-1) 0) with
  |true=>
   rw[if_pos rfl,if_neg (gk 0)];have a':Dsc L p (m+1):=by
    intro i j hij hj
    by_cases e:j=m
    ·subst e
     by_cases e2:i=j-1
     ·rw[e2];exact c
     ·exact hr _ _ _ (hp.lt h0 _) (hp.lt h0 _) (hp.lt h0 _) c (a i (j-1) (by omega) (by omega))
    ·exact a i j hij (by omega)
   have ih:=AQ h0 hp f (m+1) (by omega) (by omega) a';have mono:∀ {t:KasT (Array Nat×Nat×Nat)},TreeL L (fun r:Array Nat×Nat×Nat=>r.1=p/\r.2.2=0/\m+1<=r.2.1/\r.2.1<=m+1+f/\Dsc L p r.2.1) t->TreeL L (fun r:Array Nat×Nat×Nat=>r.1=p/\r.2.2=0/\m<=r.2.1/\r.2.1<=m+(f+1)/\Dsc L p r.2.1) t:=by
    intro t
    induction t with
    |ret a=>exact fun h=>⟨h.1,h.2.1,by have:=h.2.2.1;omega,by have:=h.2.2.2.1;omega,h.2.2.2.2⟩
    |ask i j k ih=>exact fun h=>ih _ h
   exact mono ih
  |false=>
   rw[if_neg cg];show TreeL L _ (if L (p.getD (m-1) 0) (p.getD m 0)=true then KasT.ret (p,m,0) else _);rw[if_pos (ht _ _ (hp.lt h0 _) (hp.lt h0 _) (hp.ne (by omega) (by omega) (by omega)) c)];exact⟨rfl,rfl,bf _,by show m<=m+(f+1);omega,a⟩
theorem Bf (hm:m<=p.size) (hk:k<m):(kas_rev p 0 m).getD k 0=p.getD (m-1-k) 0:=by
 unfold kas_rev;rw[cq,cq,getElem?_mirror_all hm,if_pos ⟨im _,hk⟩,Nat.zero_add]
theorem Dsc.rev (hm:m<=p.size) (d:Dsc L p m):Asc L (kas_rev p 0 m) m:=fun i j hij hj=>by
 rw[Bf hm (by omega),Bf hm hj];exact d _ _ (by omega) (by omega)
include ht hr in
theorem Dx {p:Array Nat} (h2:2<=n) (hp:Pm n p):TreeL L (fun r:Nat×Array Nat=>Pm n r.2/\1<=r.1/\r.1<=n/\Asc L r.2 r.1) (kas_count n p):=by
 have h0:0<n:=by omega
 unfold kas_count;refine(yT ht hr h0 hp (n-1) 1 (bf _) (by omega) fun i j hij hj=>by omega).bind fun q hq=> ?_;obtain⟨q1,q2,qa,qs⟩:=hq
 by_cases e:q=n
 ·rw[if_pos (by simpa using e)];exact⟨hp,q1,by omega,qa⟩
 ·rw[if_neg (by simpa using e)]
  by_cases h1:q>1
  ·rw[if_pos h1];show TreeL L _ (if L (p.getD 0 0) (p.getD (q-1) 0)=true then KasT.ret (q,p) else _);rw[if_pos (qa 0 (q-1) (by omega) (by omega))];exact⟨hp,q1,by omega,qa⟩
  ·rw[if_neg h1];have hq1:q=1:=by omega
   subst hq1;have c:=qs (by omega);unfold kas_descPart;refine(AQ ht hr h0 hp (n-(1+1)) (1+1) (by omega) (by omega) fun i j hij hj=> ?_).bind fun r hrr=> ?_
   ·have:i=0/\j=1:=by omega
    rw[this.1,this.2];exact c
   ·obtain⟨r1,r2,r3,r4,r5⟩:=hrr;rw[if_neg (by omega),r1];unfold kas_tail3;have hs:=hp.size;refine(yT ht hr h0 (hp.rev 0 r.2.1) (n-r.2.1) r.2.1 (by omega) (by omega) (r5.rev (by omega))).bind fun m hm=> ?_;exact⟨hp.rev _ _,by have:=hm.1;show 1<=m;omega,by have:=hm.2.1;show m<=n;omega,hm.2.2.1⟩
include ht hr in
theorem oM {p:Array Nat} (h0:0<n) (hp:Pm n p) {k:Nat} (hk:k<n) (a:Asc L p k):∀(f l r:Nat),l<=r->r<=k->r-l<=f->(∀ i,i<l->L (p.getD i 0) (p.getD k 0)=true)->(∀ i,r<=i->i<k->L (p.getD k 0) (p.getD i 0)=true)->TreeL L (fun q=>q<=k/\(∀ i,i<q->L (p.getD i 0) (p.getD k 0)=true)/\(∀ i,q<=i->i<k->L (p.getD k 0) (p.getD i 0)=true)) (kas_place p k f l r)
 |0,l,r,h1,h2,h3,h4,h5=>by
  rw[kas_place.eq_def]
  have:r=l:=by omega
  subst this;exact⟨h2,h4,h5⟩
 |f+1,l,r,h1,h2,h3,h4,h5=>by
  rw[kas_place.eq_def];show TreeL L _ (if l≥r then KasT.ret l else _)
  by_cases e:l≥r
  ·rw[if_pos e]
   have:r=l:=by omega
   subst this;exact⟨h2,h4,h5⟩
  ·rw[if_neg e];show TreeL L _ (if L (p.getD k 0) (p.getD ((l+r) / 2) 0)=true then kas_place p k f l ((l+r) / 2) else kas_place p k f ((l+r) / 2+1) r);cases c:L (p.getD k 0) (p.getD ((l+r) / 2) 0) with
   |true=>
    rw[if_pos rfl];refine oM h0 hp hk a f l ((l+r) / 2) (by omega) (by omega) (by omega) h4 fun i hi hik=> ?_
    by_cases e2:i=(l+r) / 2
    ·rw[e2];exact c
    ·exact hr _ _ _ (hp.lt h0 _) (hp.lt h0 _) (hp.lt h0 _) c (a _ _ (by omega) hik)
   |false=>
    rw[if_neg cg];have up:=ht _ _ (hp.lt h0 _) (hp.lt h0 _) (hp.ne hk (by omega) (by omega)) c;refine oM h0 hp hk a f ((l+r) / 2+1) r (by omega) (by omega) (by omega) (fun i hi=> ?_) h5
    by_cases e2:i=(l+r) / 2
    ·rw[e2];exact up
    ·exact hr _ _ _ (hp.lt h0 _) (hp.lt h0 _) (hp.lt h0 _) (a _ _ (by omega) (by omega)) up
theorem Bg (hk:k<p.size) (hl:l<=k):(bubble p k (k-l)).getD i 0=if i=l then p.getD k 0 else if l<i/\i<=k then p.getD (i-1) 0 else p.getD i 0:=by
 rw[cq,getElem?_bubble hk (k-l) (by omega)]
 have:k-(k-l)=l:=by omega
 rw[this]
 by_cases h1:i=l
 ·rw[if_pos h1,if_pos h1,cq]
 ·rw[if_neg h1,if_neg h1]
  by_cases h2:l<i/\i<=k
  ·rw[if_pos h2,if_pos h2,cq]
  ·rw[if_neg h2,if_neg h2,cq]
theorem Asc.bub (hk:k<p.size) (hl:l<=k) (a:Asc L p k) (h1:∀ i,i<l->L (p.getD i 0) (p.getD k 0)=true) (h2:∀ i,l<=i->i<k->L (p.getD k 0) (p.getD i 0)=true):Asc L (bubble p k (k-l)) (k+1):=by
 intro i j hij hj;rw[Bg hk hl,Bg hk hl]
 by_cases i1:i=l
 ·rw[if_pos i1,if_neg (by omega),if_pos (by omega)];exact h2 _ (by omega) (by omega)
 ·rw[if_neg i1]
  by_cases i2:l<i/\i<=k
  ·rw[if_pos i2,if_neg (by omega),if_pos (by omega)];exact a _ _ (by omega) (by omega)
  ·rw[if_neg i2]
   by_cases j1:j=l
   ·rw[if_pos j1];exact h1 _ (by omega)
   ·rw[if_neg j1]
    by_cases j2:l<j/\j<=k
    ·rw[if_pos j2];exact a _ _ (by omega) (by omega)
    ·rw[if_neg j2];exact a _ _ (by omega) (by omega)
include ht hr in
theorem Dy:∀(f:Nat) {p:Array Nat} (k:Nat),Pm n p->1<=k->k+f=n->Asc L p k->TreeL L (fun r:Array Nat=>Pm n r/\Asc L r n) (kas_bin f p k)
 |0,p,k,hp,_,hk,a=>by
  rw[kas_bin.eq_def]
  have:k=n:=by omega
  subst this;exact⟨hp,a⟩
 |f+1,p,k,hp,h1,hk,a=>by
  rw[kas_bin.eq_def];have hs:=hp.size;refine(oM ht hr (by omega) hp (by omega) a k 0 k (by omega) (bf _) (by omega) (fun i hi=>by omega) fun i hi hik=>by omega).bind fun l hl=> ?_;exact Dy f (k+1) (hp.bub _ _) (by omega) (by omega) (Asc.bub (by omega) hl.1 a hl.2.1 hl.2.2)
include ht hr in
theorem Ge (h2:2<=n):TreeL L (fun r:Array Nat=>Asc L r n) (kas_sort n):=by
 unfold kas_sort;refine(Dx ht hr h2 (vt _)).bind fun r hrr=> ?_;obtain⟨r1,r2,r3,r4⟩:=hrr;have weak:∀ {t:KasT (Array Nat)},TreeL L (fun r:Array Nat=>Pm n r/\Asc L r n) t->TreeL L (fun r:Array Nat=>Asc L r n) t:=by
  intro t
  induction t with
  |ret a=>exact fun h=>h.2
  |ask i j k ih=>exact fun h=>ih _ h
 by_cases e:r.1<n
 ·rw[if_pos e,Nat.max_eq_left r2];exact weak (Dy ht hr (n-r.1) r.1 r1 r2 (by omega) r4)
 ·rw[if_neg e]
  have:r.1=n:=by omega
  rw[this] at r4;exact r4
end
theorem CZ (hs:eD m ds=wj out) (ht:∀ i j,i<ds.length->j<ds.length->i≠j->dX m (ds.getD i .non) (ds.getD j .non)=wj true∨dX m (ds.getD j .non) (ds.getD i .non)=wj true)
  (hr:∀ a∈ds,∀ b∈ds,∀ c∈ds,dX m a b=wj true->dX m b c=wj true->dX m a c=wj true):out.Pairwise fun a b=>dX m a b=wj true:=by
 unfold eD at hs
 by_cases h2:ds.length<2
 ·rw[if_pos h2] at hs;cases hs
  match ds,h2 with
  |[],_=>exact .nil
  |[a],_=>simp
 ·rw[if_neg h2] at hs;obtain⟨h64,hs⟩:=cR hs;obtain⟨p,e1,e2⟩:=aR hs;obtain⟨_,e3⟩:=cR e2;cases e3;have gm:∀ i,i<ds.length->ds.getD i .non∈ds:=fun i hi=>by
   rw[au,bi hi];exact ja hi
  have A:=TreeL.run (Ge (n:=ds.length) (L:=fun i j=>dX m (ds.getD i .non) (ds.getD j .non)==wj true) (fun i j hi hj hne c=>by
   rcases ht i j hi hj hne with z|z
   ·rw[z] at c;cases c
   ·rw[z];rfl) (fun i j k hi hj hk a b=>by
   have a':dX m (ds.getD i .non) (ds.getD j .non)=wj true:=by simpa using a
   have b':dX m (ds.getD j .non) (ds.getD k .non)=wj true:=by simpa using b
   rw[hr _ (gm i hi) _ (gm j hj) _ (gm k hk) a' b'];rfl) (by omega)) e1
  have hp:Pm ds.length p:=by
   exact Tree.run' (vR (n:=ds.length) (by omega)) e1
  have sz:=hp.size;rw[List.pairwise_map,lw];intro i j hi hj hij;have hi':i<p.size:=by simpa using hi
  have hj':j<p.size:=by simpa using hj
  have:=A i j hij (by omega)
  rw[cq,jr hi',cq,jr hj'] at this;simpa using this
noncomputable def sLt (x y:Str):Prop:=x.cps.toList<y.cps.toList
theorem Df (h1:sLt x y) (h2:sLt y z):sLt x z:=List.lt_trans h1 h2
theorem rZ (x:Str):¬ sLt x x:=List.lt_irrefl _
theorem Dg (h:x≠y):sLt x y∨sLt y x:=by
 by_cases q:x.cps.toList<y.cps.toList
 ·exact .inl q
 ·by_cases q2:y.cps.toList<x.cps.toList
  ·exact .inr q2
  ·exfalso
   apply h
   have:x.cps.toList=y.cps.toList:=List.le_antisymm (List.not_lt.mp q2) (List.not_lt.mp q)
   cases x;cases y;simp at this;simp[this]
noncomputable abbrev mLt (a b a' b':Int):Prop:=a<a'∨(a=a'/\b<b')
noncomputable def eLt (x:Str) (a b v:Int) (x':Str) (a' b' v':Int):Prop:=sLt x x'∨(x=x'/\(mLt a b a' b'∨(a=a'/\b=b'/\v<v')))
theorem GC (a b a' b':Int):Pa [a,b] [a',b']=decide (mLt a b a' b'):=by
 show(if a=a' then(if b=b' then false else decide (b<b')) else decide (a<a'))=_
 unfold mLt
 by_cases h:a=a'
 ·rw[if_pos h]
  by_cases h2:b=b'
  ·rw[if_pos h2];simp[h,h2]
  ·rw[if_neg h2];simp[h]
 ·rw[if_neg h];simp[h]
theorem Hn (a b a' b':Int):eqD 4 (.tup [.int a,.int b]) (.tup [.int a',.int b'])=wj (decide (a=a'/\b=b')):=by
 have:eqD 4 (.tup [.int a,.int b]) (.tup [.int a',.int b'])=wj ((a==a'&&(b==b'&&true))&&true):=rfl
 rw[this]
 congr 1
 by_cases h:a=a' <;> by_cases h2:b=b' <;> simp[h,h2]
theorem Nv (n:Nat) (x y:Str):eqD n (.str x) (.str y)=wj (decide (x=y)):=by cases n <;> rfl
theorem AU (x:Str) (a b v:Int) (x':Str) (a' b' v':Int):dX 4 (.tup [.str x,.tup [.int a,.int b],.int v]) (.tup [.str x',.tup [.int a',.int b'],.int v'])=wj true↔eLt x a b v x' a' b' v':=by
 show(match eqD 4 (.str x) (.str x') with
  |some true=>(match eqD 4 (.tup [.int a,.int b]) (.tup [.int a',.int b']) with
   |some true=>(match eqD 4 (.int v) (.int v') with
    |some true=>wj (decide (3<3))
    |some false=>fR (.int v) (.int v')
    |none=>wk)
   |some false=>fR (.tup [.int a,.int b]) (.tup [.int a',.int b'])
   |none=>wk)
  |some false=>fR (.str x) (.str x')
  |none=>wk)=wj true↔_
 rw[Nv,Hn];have e3:eqD 4 (.int v) (.int v')=wj (decide (v=v')):=rfl;rw[e3];unfold eLt
 by_cases hx:x=x'
 ·rw[decide_eq_true hx]
  show(match wj (decide (a=a'/\b=b')) with
   |some true=>(match wj (decide (v=v')) with
    |some true=>wj (decide (3<3))
    |some false=>fR (.int v) (.int v')
    |none=>wk)
   |some false=>fR (.tup [.int a,.int b]) (.tup [.int a',.int b'])
   |none=>wk)=wj true↔_
  have nx:¬ sLt x x':=by rw[hx];exact rZ _
  by_cases hm:a=a'/\b=b'
  ·rw[decide_eq_true hm];have nm:¬ mLt a b a' b':=by unfold mLt;omega
   by_cases hv:v=v'
   ·rw[decide_eq_true hv];show wj (decide (3<3))=wj true↔_;constructor
    ·intro z;simp at z
    ·rintro(z|⟨_,z|z⟩)
     ·exact absurd z nx
     ·exact absurd z nm
     ·omega
   ·rw[decide_eq_false hv];show wj (decide (v<v'))=wj true↔_;constructor
    ·intro z;exact .inr ⟨hx,.inr ⟨hm.1,hm.2,by simpa using z⟩⟩
    ·rintro(z|⟨_,z|z⟩)
     ·exact absurd z nx
     ·exact absurd z nm
     ·simpa using z.2.2
  ·rw[decide_eq_false hm];show wj (Pa [a,b] [a',b'])=wj true↔_;rw[GC];constructor
   ·intro z;exact .inr ⟨hx,.inl (by simpa using z)⟩
   ·rintro(z|⟨_,z|z⟩)
    ·exact absurd z nx
    ·simpa using z
    ·exact absurd ⟨z.1,z.2.1⟩ hm
 ·rw[decide_eq_false hx];show wj (decide (x.cps.toList<x'.cps.toList))=wj true↔_;constructor
  ·intro z;exact .inl (by simpa [sLt] using z)
  ·rintro(z|⟨z,_⟩)
   ·simpa [sLt] using z
   ·exact absurd z hx
theorem EN (h1:eLt x a b v x' a' b' v') (h2:eLt x' a' b' v' x2 a2 b2 v2):eLt x a b v x2 a2 b2 v2:=by
 unfold eLt at*;rcases h1 with h1|⟨rfl,h1⟩
 ·rcases h2 with h2|⟨rfl,h2⟩
  ·exact .inl (Df h1 h2)
  ·exact .inl h1
 ·rcases h2 with h2|⟨rfl,h2⟩
  ·exact .inl h2
  ·refine .inr ⟨rfl,?_⟩;unfold mLt at*;omega
theorem mJ {r:α->α->Prop} (ha:∀ a b,r a b->r b a->False):∀ {l m:List α},l.Perm m->l.Pairwise r->m.Pairwise r->l=m
 |[],m,h,_,_=>(List.nil_perm.mp h).symm
 |a::l,m,h,h1,h2=>by
  cases m with
  |nil=>exact absurd h.length_eq (by simp)
  |cons b m=>
   rw[List.pairwise_cons] at h1 h2;have e:a=b:=by
    have m1:a∈b::m:=h.mem_iff.mp aq;have m2:b∈a::l:=h.mem_iff.mpr aq;rcases ai.mp m1 with z|z
    ·exact z
    ·rcases ai.mp m2 with w|w
     ·exact w.symm
     ·exact(ha a b (h1.1 b w) (h2.1 a z)).elim
   subst e;rw[mJ ha (List.Perm.cons_inv h) h1.2 h2.2]
section
variable {X:Cx}{cls exC:Nat->ae}{E:XE}{e a b c o i value:bt}{es rest:List bt}{fa fb fc fo fi fv:OG D}{fl:OG (List D)}{pos p apos pos' cpos:Pos}{x m:Str}{st:cr}
theorem AW {E:af->am->Prop}{vs:List af} (hl:s.heap.IsList l vs.toArray) (hz:vs.length<=sizeLine)
  (h:∀(h':cx) (tk:Nat) (acc:Array af),(∀ b o,s.heap.get? b=wj o->h'.get? b=wj o)->ItemsOf (fun j v=>vs[j]?=wj v) acc vs.length->R acc.toList { s with heap:=h',toks:=tk }):ay (model prog w) A (collect (.ref l)) R E s:=by
 refine collect_list hl ?_ hz
 have:=h ((s.heap.push (gx "list" #[] 0)).update s.heap.objs.size (ki (· ++vs.toArray))) s.toks vs.toArray (fun b o q=>by
  have hlt:b<s.heap.objs.size:=bj q;rw[Heap.get?_update_ne _ _ _ _ (cj hlt),Heap.get?_push_ne _ _ _ (cj hlt)];exact q) ⟨by simp,fun j v q=>by simpa using q⟩
 simpa using this
noncomputable def LC (K:aa) (n:Nat):List V->Hp->VK->Prop:=fun xs H Q=>∃ a ys ds out ok,xs=[.ref a]/\H a=wj (.lst ys)/\Reps K ok H ys ds/\eD n ds=wj out/\∀ l zs,H l=wk->Reps K ok H zs out->Q (.ref l) (upd H l (.lst zs))
theorem Fd (hu:X.A.units+(n+2)<dr):CallR X (.builtin "sorted") (LC X.K n):=by
 intro pins s σ H xs us Q I r h;obtain⟨a,ys,ds,out,ok,rfl,ha,rs,hs,q⟩:=h;obtain⟨u,rfl,rx⟩:=lV r;cases rx;obtain⟨hz,its,c,rv,hlen,eo⟩:=I.lstM ha;have hli:s.heap.IsList a its.toArray:=⟨_,eo,rfl,c,rfl⟩;have hPP:∀(j:Nat) v x,its[j]?=wj v->ys[j]?=wj x->RelV x v:=fun j v x e1 e2=>by
  obtain⟨v',e3,r3⟩:=rv.get e2;rw[e1] at e3;cases e3;exact r3
 have dl:ds.length=its.length:=by rw[<- rs.length,hlen]
 by_cases hl:ds.length<2
 ·obtain rfl:=oG hs hl;refine oE (fun h=>AW hli (by omega) h) (by omega) fun h' tk vs l c kp na hvl hP ho=> ?_;have rv2:Vals ys vs:=yI (by omega) fun j w hw=>by
   have hj:j<ys.length:=by
    have:=(bg.mp hw).1
    omega
   exact⟨ys[j],bi hj,hPP j w _ (hP j w hw) (bi hj)⟩
  obtain⟨hn,I'⟩:=I.laidN (t':=tk) kp na (uF (H:=upd H l (.lst ys)) rv2 hz ho);exact⟨.ref l,_,I',rfl,q l _ hn rs⟩
 ·have h64:=oF hs hl;exact oC I (fun h=>AW hli (by omega) h) (by omega) (by omega) hu (by omega) hPP rs hs fun h' tk ys l nl I' rs'=>⟨.ref l,_,I',rfl,q l ys nl rs'⟩
noncomputable def GR (n:Nat) (ω:Om) (ds:List D):Option (D×Om):=match ds with
 |[d]=>match fW ω d with
  |some xs=>(eD n xs).map fun out=>(.lst out,ω)
  |none=>wk
 |_=>wk
theorem Hc {K:aa}:qW cls K (LC K n) (GR n):=fun ok H ω xs as d ω' Q h1 st r e k=>by
 unfold GR at e;split at e
 ·split at e
  ·rename_i ys hseq
   obtain⟨out,e5,e6⟩:=aJ e;cases e6;obtain⟨v,rfl,r1⟩:=r.one_inv;obtain⟨a,xs,rfl,g,rs⟩:=fH st r1 hseq;exact⟨a,xs,ys,out,ok,rfl,g,rs,e5,fun l zs nl rz=>k _ ok _ (.same h1 st (cM nl)) (.lst_new (h1 l nl) nl rz)⟩
  ·cases e
 ·cases e
end
section
variable {X:Cx}{cls exC:Nat->ae}{E:XE}{e a b c o i value:bt}{es rest:List bt}{fa fb fc fo fi fv:OG D}{fl:OG (List D)}{pos p apos pos' cpos:Pos}{x m:Str}{st:cr}
noncomputable def zL (ω:Om) (a b:D):Option (D×Om):=match a,b with
 |.tup xs,.tup ys=>if xs≠[]/\ys≠[]/\xs.length+ys.length<=sizeLine then wj (.tup (xs++ys),ω) else wk
 |_,_=>wk
theorem JQ (ha:OE X cls E a fa) (hb:OE X cls E b fb):OE X cls E (.BinOp a .Add b pos) (o2 zL fa fb):=uA Jy (fun ok H ω x y a b d ω' Q h1 st ra rb e k=>by
 unfold zL at e;split at e
 ·rename_i xs ys
  obtain⟨⟨hx,hy,hz⟩,e3⟩:=bL e;cases e3;obtain⟨a1,us,rfl,g1,r1⟩:=ra.tup_inv;obtain⟨b1,ws,rfl,g2,r2⟩:=rb.tup_inv;have nx:us≠[]:=fun z=>hx (by have:=r1.length;rw[z] at this;exact qt.mp this.symm);have ny:ws≠[]:=fun z=>hy (by have:=r2.length;rw[z] at this;exact qt.mp this.symm);exact⟨a1,b1,us,ws,rfl,rfl,g1.sq,g2.sq,nx,by rw[r1.length,r2.length];exact hz,fun z=>absurd z ny,fun _ p n=>k _ ok _ (.same h1 st (cM n)) (.tup_new (h1 p n) n (r1.append r2))⟩
 ·cases e) ha hb
noncomputable def zI (ω:Om) (ds:List D):Option (D×Om):=match ds with
 |[d]=>(fW ω d).bind fun xs=>(kQ xs).map fun ns=>(.int ns.sum,ω)
 |_=>wk
theorem Ha {K:aa}:qW cls K (fun xs H Q=>∃(p:ae) (ns:List Int),xs=[.ref p]/\SqL K H p (ns.map V.int)/\Q (.int ns.sum) H) zI:=fun ok H ω xs as d ω' Q h1 st r e k=>by
 unfold zI at e;split at e
 ·obtain⟨ys,e1,e⟩:=aR e;obtain⟨ns,e2,e3⟩:=aJ e;cases e3;obtain rfl:=lX e2;obtain⟨v,rfl,r1⟩:=r.one_inv;obtain⟨a,xs,rfl,g,rs⟩:=fH st r1 e1;obtain rfl:=rs.of_ints;exact⟨a,ns,rfl,SqL.of g,k _ ok H (.refl h1 st) (.int _)⟩
 ·cases e
noncomputable def oVs:List (OG D)->OG (List D)
 |[]=>aP
 |f::r=>aC f (oVs r)
theorem AM {K:aa}:∀ {xs:List (Str×OG D)}{H:Hp}{Q:List (V×V)->Hp->Prop},tOA cls K (oVs (xs.map (·.2))) E σ H (fun vs H'=>vs.length=xs.length->Q ((xs.map fun p=>V.str p.1).zip vs) H')->AD (xs.map fun p=>(tO cls K (oP (dC (.str p.1))) E,tO cls K p.2 E)) σ H Q
 |[],H,Q,⟨ok,ρ,ω,r,ω',P,e,q⟩=>by
  cases e;exact q [] ok H (.refl P.okh P.st) .nil rfl
 |(x,f)::xs,H,Q,⟨ok,ρ,ω,r,ω',P,e,q⟩=>by
  refine⟨ok,ρ,ω,.ok (.str x),ω,P,rfl,fun v ok1 H1 n1 r1=> ?_⟩;obtain rfl:=r1.str_inv;refine tO.then_ (P.nw n1) e (fun c z=>by subst z;exact exR.nw q n1) fun d ω1 w ok2 H2 e1 n2 P2 r2=> ?_;refine AM ?_;rcases jV e1 with⟨c,e2,rfl⟩|⟨ds,ω2,e2,e3⟩
  ·exact⟨ok2,ρ,ω1,.ex c,ω',P2,e2,exR.nw (exR.nw q n1) n2⟩
  ·cases e3;exact⟨ok2,ρ,ω1,.ok ds,ω',P2,e2,fun vs ok3 H3 n3 r3 hl=>q (w::vs) ok3 H3 (n1.trans (n2.trans n3)) (.cons (r2.ex n3.ex) r3) (by simp[hl])⟩
noncomputable def HB (ks:List Key) (ds:List D):List (Key×D):=(ks.zip ds).foldl (fun acc p=>putD acc p.1 p.2) []
noncomputable def Cj (ω:Om) (n:Nat):Bool:=match ω[n]? with
 |some (.dk [])=>true
 |_=>false
noncomputable def BU (xs:List (Str×OG D)):OG D:=fun ρ ω=>match oVs (xs.map (·.2)) ρ (ω++[.dk []]) with
 |none=>wk
 |some (.ex c,ω2)=>wj (.ex c,ω2)
 |some (.ok ds,ω2)=>if xs.length<=15/\Cj ω2 ω.length=true then wj (.ok (.obj ω.length),ω2.set ω.length (.dk (HB (xs.map fun p=>ju p.1) ds))) else wk
theorem KvR.disp {K:aa}:∀ {ks:List Key}{vs:List V}{ds:List D}{kv:List (Key×V)}{kd:List (Key×D)},Reps K ok H vs ds->KvR K ok H kv kd->KvR K ok H ((ks.zip vs).foldl (fun acc p=>mI acc p.1 p.2) kv) ((ks.zip ds).foldl (fun acc p=>putD acc p.1 p.2) kd)
 |[],_,_,_,_,_,h=>h
 |k::ks,_,_,kv,kd,.nil,h=>h
 |k::ks,_,_,kv,kd,.cons r rs,h=>KvR.disp (ks:=ks) rs (h.put r)
theorem JN (h:PPs X pos keys values (xs.map fun p=>(tO cls X.K (oP (dC (.str p.1))) E,tO cls X.K p.2 E))) (hall:keys.all (·.isSome)=true) (hl:keys.length=values.length) (h0:keys≠[]) (h15:keys.length<=15):OE X cls E (.Dict keys values pos) (BU xs):=
 (Jd h hall hl h0 h15).imp fun σ H Q ⟨ok,ρ,ω,r,ω',P,e,q⟩=>by
  intro p np;have n0:=Nw.make (o:=.dK []) (ob:=.dk []) P.okh P.st np ⟨[],aQ,.nil⟩;have P0:=P.nw n0;refine AM ?_;unfold BU at e;cases hv:oVs (xs.map (·.2)) ρ (ω++[.dk []]) with
  |none=>rw[hv] at e;cases e
  |some rr=>
   obtain⟨r1,ω2⟩:=rr;rw[hv] at e;cases r1 with
   |ex c=>
    cases e;exact⟨_,ρ,_,.ex c,ω',P0,hv,exR.nw q n0⟩
   |ok ds=>
    obtain⟨⟨hx,hd⟩,e3⟩:=bL (show(if xs.length<=15/\Cj ω2 ω.length=true then wj (Rz.ok (D.obj ω.length),ω2.set ω.length (.dk (HB (xs.map fun p=>ju p.1) ds))) else wk)=wj (r,ω') from e);cases e3;refine⟨_,ρ,_,.ok ds,ω2,P0,hv,fun vs ok3 H3 n3 r3 hvl=> ?_⟩;have hc:ω2[ω.length]?=wj (.dk []):=by
     unfold Cj at hd;split at hd
     ·assumption
     ·cases hd
    have al:ok3.al ω.length=wj p:=n3.ex.ids _ _ (by show(if ω.length=ω.length then wj p else _)=_;rw[if_pos rfl]);obtain⟨a,e4,vs0,e5,kv⟩:=n3.st.cell _ _ hc;rw[al] at e4;cases e4;cases kv;have ez:∀(xs:List (Str×OG D)) (vs:List V),(xs.map fun p=>V.str p.1).zip vs=((xs.map fun p=>(ju p.1:Key)).zip vs).map fun kv=>(kV kv.1,kv.2):=by
     intro xs
     induction xs with
     |nil=>intro vs;rfl
     |cons y ys ih=>
      intro vs;cases vs with
      |nil=>rfl
      |cons v vs=>
       rw[bh,bh,md,md,bh,ih vs];rfl
    refine⟨e5,(xs.map fun p=>(ju p.1:Key)).zip vs,ez xs vs,by rw[List.length_zip,ao];omega,?_⟩;have nw:=Nw.write (o:=.dK (_root_.L2.mergeK [] ((xs.map fun p:Str×OG D=>(ju p.1:Key)).zip vs))) (ob:=.dk (HB (xs.map fun p:Str×OG D=>(ju p.1:Key)) ds)) n3.okh n3.st al e5 fun dat=>⟨_,aQ,KvR.disp (ks:=xs.map fun p:Str×OG D=>(ju p.1:Key)) (r3.mono dat) .nil⟩;exact q _ ok3 _ (n0.trans (n3.trans nw)) (.obj (nw.ex.ids _ _ al))
end
section
variable {P:db}{w:df}{K:aa}{mg:Str->Option af}{base:cx}{cls exC:Nat->ae}
noncomputable def Bod (P:db) (w:df) (K:aa) (mg:Str->Option af) (base:cx) (cls exC:Nat->ae) (k:Nat) (N:List Str) (q:Str) (st:cr) (G:OS):Prop:=∀(f:ae) (cdv:af) (A:dh) (outer:List Env) (s:am) (H:Hp) (E:XK),Room k (A.deeper (je q (bG st) s.heap.objs.size f cdv))->(A.deeper (je q (bG st) s.heap.objs.size f cdv)).units+8<dr->(A.deeper (je q (bG st) s.heap.objs.size f cdv)).units+1<dr->(A.deeper (je q (bG st) s.heap.objs.size f cdv)).units+(4+2)<dr->
 Exc (zY (CX1 P w exC) P w K mg base N q (bG st) f cdv A outer s H E) exC (fun c H'=>E (.ref (exC c)) wk H')->NX (zY (CX1 P w exC) P w K mg base N q (bG st) f cdv A outer s H E) exC (fun c H'=>E (.ref (exC c)) wk H')->OSs (zY (CX1 P w exC) P w K mg base N q (bG st) f cdv A outer s H E) cls (fun c H'=>E (.ref (exC c)) wk H') (fV st) G
theorem Bv {x q:Str}{st:cr}{f:ae}{fd:jk}{N ps:List Str}{k:Nat}{G:OS} (F:Fun K x q st f fd) (sc:kL N ps (bG st)) (b:Bod P w K mg base cls exC k N q st G):rP P w K mg base (CX1 P w exC) (k+1) f fd ps (spO cls exC K (eC ps.length N G)):=
 QG F sc fun cdv A outer s H E hr hE hR=>b f cdv A outer s H E hr (ER hr) (Pe hr) (by have h8:(A.deeper (je q (bG st) s.heap.objs.size f cdv)).units+8<dr:=ER hr;omega) hE hR
noncomputable def All:Nat->(List af->Prop)->Prop
 |0,Q=>Q []
 |n+1,Q=>∀ a,All n fun l=>Q (a::l)
theorem All.out:∀ {n:Nat}{Q:List af->Prop},All n Q->∀ us:List af,us.length=n->Q us
 |0,_,h,[],_=>h
 |_+1,_,h,a::_,e=>(h a).out _ (Nat.succ.inj e)
noncomputable def Bnd (x q:Str) (st:cr) (ps:List Str):Prop:=All ps.length fun us=>∀(kV doc pm:af) (an:Option ae) (cdv ct:af),bindArgs (ip x q (gX st) (fV st) (bG st) .none kV doc pm an cdv ct) ⟨us,[]⟩=pure (ps.zip us)
theorem Bnd.out {x q:Str}{st:cr}{ps:List Str}{f:ae}{fd:jk} (h:Bnd x q st ps) (F:Fun K x q st f fd):Binds K fd ps []:=F.binds fun _ _ _ _ _ _ us e=>All.out h us e _ _ _ _ _ _
theorem dfD {x:Str}{st:cr}{N ps:List Str}{k:Nat}{G:OS} (e:∃ f fd,NW K mg x st f fd) (b:Bod P w K mg base cls exC k N x st G) (sc:kL N ps (bG st):=by constructor <;> first|rfl|decide+kernel) (hb:Bnd x x st ps:=by first|exact fun _ _ _ _ _ _ _=>rfl|exact fun _ _ _ _ _ _ _ _=>rfl|exact fun _ _ _ _ _ _ _ _ _=>rfl|exact fun _ _ _ _ _ _ _ _ _ _=>rfl):nR P w K mg base cls exC (k+1) x ps (eC ps.length N G):=
 let ⟨f,fd,F⟩:=e
 ⟨f,fd,Bv F.fn sc b,F.at_,F.fn.kp,hb.out F.fn⟩
theorem dfM {x q:Str}{st:cr}{N ps:List Str}{k c:Nat}{G:OS} (e:∃ f fd,Fun K x q st f fd/\HW K (cls c) x f) (hc:Cls K (cls c)) (b:Bod P w K mg base cls exC k N q st G) (sc:kL N ps (bG st):=by constructor <;> first|rfl|decide+kernel) (hb:Bnd x q st ps:=by first|exact fun _ _ _ _ _ _ _=>rfl|exact fun _ _ _ _ _ _ _ _=>rfl|exact fun _ _ _ _ _ _ _ _ _=>rfl|exact fun _ _ _ _ _ _ _ _ _ _=>rfl):qY P w K mg base cls exC (k+1) c x ps (eC ps.length N G):=
 let ⟨f,fd,F,M⟩:=e
 ⟨⟨f,fd,Bv F sc b,M,hb.out F⟩,hc⟩
theorem dfI {x q:Str}{st:cr}{N ps:List Str}{k c:Nat}{C:Str}{G:OS} (e:∃ f fd,Fun K x q st f fd/\Mk K (cls c) f) (hm:mg C=wj (.ref (cls c))) (b:Bod P w K mg base cls exC k N q st G) (sc:kL N ps (bG st):=by constructor <;> first|rfl|decide+kernel) (hb:Bnd x q st ps:=by first|exact fun _ _ _ _ _ _ _=>rfl|exact fun _ _ _ _ _ _ _ _=>rfl|exact fun _ _ _ _ _ _ _ _ _=>rfl|exact fun _ _ _ _ _ _ _ _ _ _=>rfl):NV P w K mg base cls exC (k+1) c C ps (eC ps.length N G):=
 let ⟨f,fd,F,M⟩:=e
 ⟨⟨f,fd,Bv F sc b,M,hb.out F⟩,hm⟩
end
noncomputable abbrev FF (K:aa) (mg:Str->Option af) (x:Str) (st:cr):Prop:=∃ f fd,NW K mg x st f fd
noncomputable abbrev FM (K:aa) (C:ae) (x q:Str) (st:cr):Prop:=∃ f fd,Fun K x q st f fd/\HW K C x f
noncomputable abbrev FI (K:aa) (C:ae) (x q:Str) (st:cr):Prop:=∃ f fd,Fun K x q st f fd/\Mk K C f
noncomputable def AllP (p:Str->Str->cr->Prop):List (Str×Str×cr)->Prop
 |[]=>True
 |(x,q,s)::r=>p x q s/\AllP p r
theorem AllP.imp {p p':Str->Str->cr->Prop} (f:∀ x q s,p x q s->p' x q s):∀ {l:List (Str×Str×cr)},AllP p l->AllP p' l
 |[],_=>trivial
 |(_,_,_)::_,⟨a,b⟩=>⟨f _ _ _ a,AllP.imp f b⟩
theorem AllP.get {p:Str->Str->cr->Prop}{x q:Str}{s:cr}:∀ {l:List (Str×Str×cr)} (_:AllP p l) (i:Nat) (_:l[i]?=wj (x,q,s)),p x q s
 |(_,_,_)::_,⟨a,_⟩,0,e=>by cases e;exact a
 |(_,_,_)::_,⟨_,b⟩,i+1,e=>b.get i e
noncomputable def PZ (K:aa) (C:ae) (m qual:Str) (st:cr) (f:ae):Prop:=∃(oc:af) (od an:Option ae) (osl:Array (Option af)) (kV doc pm cdv ct:af),gy K (.ref C) m=wj (wj (.ref f))/\ou K (.ref f)=true/\
 K.lookup f=wj ⟨oc,od,.func (ip m qual (gX st) (fV st) (bG st) .none kV doc pm an cdv ct),osl⟩/\jv K cdv qual=true/\gn K (.ref f)=true
theorem mtIn_mk {K:aa}{C:ae}{m qual:Str}{st:cr}{f:ae}{oc:af}{od an:Option ae}{osl:Array (Option af)}{kV doc pm cdv ct:af} (a:gy K (.ref C) m=wj (wj (.ref f)))
  (l:K.lookup f=wj ⟨oc,od,.func (ip m qual (gX st) (fV st) (bG st) .none kV doc pm an cdv ct),osl⟩) (b:ou K (.ref f)=true) (c:jv K cdv qual=true) (k:gn K (.ref f)=true):PZ K C m qual st f:=
 ⟨oc,od,an,osl,kV,doc,pm,cdv,ct,a,b,l,c,k⟩
noncomputable def mtF (K:aa) (C:ae) (m qual:Str) (st:cr):Prop:=∃ f,PZ K C m qual st f
theorem mtF.out {K:aa}{C:ae}{m qual:Str}{st:cr} (h:mtF K C m qual st):∃ f fd,Fun K m qual st f fd/\HW K C m f:=by
 obtain⟨f,oc,od,an,osl,kV,doc,pm,cdv,ct,a,b,l,c,k⟩:=h;exact⟨f,_,Iq l c k,a,b,k⟩
noncomputable def clsIn (K:aa) (x:Str) (C:ae):Prop:=cm K ca x=wj (wj (.ref C))
noncomputable def mkIn (K:aa) (C:ae):Prop:=qv K C=true/\gn K (.ref C)=true
theorem mtF.mk {K:aa}{C:ae}{qual:Str}{st:cr} (h:mtF K C "__init__" qual st) (k:mkIn K C):FI K C "__init__" qual st:=match h.out with|⟨f,fd,F,M⟩=>⟨f,fd,F,⟨k.1,M.at_,M.fn,k.2⟩⟩
theorem own_mk {K:aa}{C:ae}{tl:List af}{dd:Option ae}{cd:ClassData}{k0 k1 k2 k3 k5:Option af} (h1:K.lookup C=wj ⟨.type "type",dd,.cls cd,#[k0,k1,k2,k3,wj (.builtin "ValueError.__new__"),k5]⟩)
  (h2:cd.mro=.ref C::tl) (h3:cd.hasDel=false) (h4:mt K BC tl=true) (h5:ku K cd.ns=true) (h6:cm K cd.ns "__init__"=wj wk):ownIn K C tl:=⟨dd,cd,k0,k1,k2,k3,k5,h1,h2,h3,h4,h5,h6⟩
theorem nsOk_mk {K:aa}{N:ae}{c:af}{d:Option ae}{es:Array k6}{ep:Nat}{sl:Array (Option af)} (l:K.lookup N=wj ⟨c,d,.dict es ep,sl⟩) (h:(es.toList.all fun e=>match e.key with|.str _ _=>true|_=>false)=true):ku K N=true:=by
 unfold ku;rw[l];exact vb.symm.trans h
theorem tail_mk {K:aa}{A:ae}{r:List af}{c:af}{dd:Option ae}{cd:ClassData}{sl:Array (Option af)} (l:K.lookup A=wj ⟨c,dd,.cls cd,sl⟩) (h1:ku K cd.ns=true) (h2:cm K cd.ns "__init__"=wj wk) (h3:mt K BC r=true):mt K BC (.ref A::r)=true:=by
 rw[PySem.W.tailIn.eq_2,l]
 show(_||(ku K cd.ns&&cm K cd.ns _==wj wk&&mt K BC r))=true
 rw[h1,h3,show cm K cd.ns (jl "__init__")=wj wk from h2];simp
noncomputable def nTg:bt->List Str
 |.Name x _=>[x]
 |.Tuple es _ _=>es.filterMap fun|.Name x _=>wj x|_=>wk
 |_=>[]
noncomputable def DR (N:List Str):List (Option Nat)->List Str->List Str
 |[],_=>[]
 |none::r,t::ts=>t::DR N r ts
 |some i::r,ts=>N.getD i ""::DR N r ts
 |none::r,[]=>DR N r []
noncomputable def OZ (sc:j7) (x:Str):Bool:=sc.names.lookup x==wj .local||sc.names.lookup x==wj .cell
noncomputable def slB (N:List Str) (i:Nat) (x:Str):Bool:=decide (N[i]?=wj x)
section
variable {X:Cx}{x y:Str}{i j:Nat}
theorem DN:∀ {a b:Option g9},(a==b)=true->a=b:=by
 intro a b h;cases a with
 |none=>cases b with
  |none=>rfl
  |some _=>cases h
 |some a=>cases b with
  |none=>cases h
  |some b=>cases a <;> cases b <;> first|rfl|cases h
theorem AV (h:OZ sc x=true):Loc sc x:=(Bool.or_eq_true_iff.mp h).imp DN DN
theorem yO {N:List Str} (h:slB N i x=true):N[i]?=wj x:=of_decide_eq_true h
theorem dvk (h:(slB X.N i x&&(OZ X.env.scope x||X.env.scope.names.lookup x==wj .free)&& !(x==("__debug__":Str))&& !(x==("__classdict__":Str)))=true):DE X (.Name x pos) (aD i):=by
 simp only[bp,ik,u0] at h;refine dv i (yO h.1.1.1) ?_ h.1.2 h.2;rcases h.1.1.2 with z|z
 ·rcases AV z with z|z
  ·exact .inl z
  ·exact .inr (.inl z)
 ·exact .inr (.inr (DN z))
noncomputable def nsB (X:Cx) (x:Str) (i:Nat):Bool:=slB X.N i x&&OZ X.env.scope x&&decide X.N.Nodup&&(X.fn x||X.env.scope.names.lookup x==wj .local)
theorem iO (h:nsB X x i=true):X.N.Nodup/\X.N[i]?=wj x/\Loc X.env.scope x/\(X.fn x=true∨X.env.scope.names.lookup x=wj .local):=by
 unfold nsB at h;simp only[bp,ik] at h;exact⟨of_decide_eq_true h.1.2,yO h.1.1.1,AV h.1.1.2,h.2.imp id DN⟩
theorem QB (h:nsB X x i=true):PG X (.Name x tp) (gR X.K (aY i)):=let ⟨a,b,c,d⟩:=iO h;Kr a b c d
theorem QA (hc:X.calm=true) (h:nsB X x i=true) (h':nsB X y j=true):PG X (.Tuple [.Name x p1,.Name y p2] k tp) (gR X.K (qH i j)):=let ⟨a,b,c,d⟩:=iO h;let ⟨_,b',c',d'⟩:=iO h';Kq hc a b b' c c' d d'
theorem Qz {z w:Str}{k l:Nat} (hc:X.calm=true) (h:nsB X x i=true) (h':nsB X y j=true) (h2:nsB X z k=true) (h3:nsB X w l=true):PG X (.Tuple [.Name x p1,.Name y p2,.Name z p3,.Name w p4] kk tp) (gR X.K (HM i j k l)):=
 let ⟨a,b,c,d⟩:=iO h
 let ⟨_,b',c',d'⟩:=iO h'
 let ⟨_,b2,c2,d2⟩:=iO h2
 let ⟨_,b3,c3,d3⟩:=iO h3
 Ko hc a b b' b2 b3 c c' c2 c3 d d' d2 d3
theorem QI {cls:Nat->ae}{E:XE}{e:bt}{fa:OG D}{pos pos':Pos} (h:nsB X x i=true) (he:OE X cls E e fa) (hs:jd e (wj (.Name x pos')) pos.line X.env=pure false:=by rfl):OSt X cls E (.Assign [.Name x pos'] e pos) (aX i fa):=
 let ⟨a,b,c,d⟩:=iO h
 Ms a b c he hs (hf:=d)
theorem Gm {cls:Nat->ae}{E:XE}{tg iter elt:bt}{ifs:List bt}{scope:j7}{caps:List (Option Nat)}{fi:OI'}{bd:BR}{t:OG Bool}{f:OG D}{pos:Pos} (Fn:Fin fin) (h1:X.calm=true) (h2:scope.kind=.function) (h3:(Aa scope&&EZ X.env.scope scope&&mQ X.N X.env.scope scope (DR X.N caps (nTg tg)) caps)=true) (hi:OI X cls E tg iter fi)
  (hb:∀ cells C fp pins s₀ H₀,PG (blk X (DR X.N caps (nTg tg)) scope cells C fp pins s₀ H₀) tg (gR X.K bd)/\Lb (blk X (DR X.N caps (nTg tg)) scope cells C fp pins s₀ H₀) cls EF ifs t/\OE (blk X (DR X.N caps (nTg tg)) scope cells C fp pins s₀ H₀) cls EF elt f)
  (hs:∀ x,ga iter X.env x=pure x:=by intro _;rfl):OE X cls E (.ListComp elt [⟨tg,iter,ifs,0⟩] scope pos) (dJ fin fi caps bd t f):=by
 simp only[bp] at h3;exact JP Fn (xO h1 h2 h3.1.1 h3.1.2 h3.2) hi hb hs
theorem Gd {cls:Nat->ae}{E:XE}{tg iter elt:bt}{ifs:List bt}{scope:j7}{caps:List (Option Nat)}{fi:OI'}{bd:BR}{t:OG Bool}{f:OG D}{pos spos py:Pos} (Fn:Fin fin) (h:(slB X.N i y&&(X.env.scope.names.lookup y==wj .local)&&decide X.N.Nodup)=true) (h1:X.calm=true) (h2:scope.kind=.function) (h3:(Aa scope&&EZ X.env.scope scope&&mQ X.N X.env.scope scope (DR X.N caps (nTg tg)) caps)=true) (hi:OI X cls E tg iter fi)
  (hb:∀ cells C fp pins s₀ H₀,PG (blk X (DR X.N caps (nTg tg)) scope cells C fp pins s₀ H₀) tg (gR X.K bd)/\Lb (blk X (DR X.N caps (nTg tg)) scope cells C fp pins s₀ H₀) cls EF ifs t/\OE (blk X (DR X.N caps (nTg tg)) scope cells C fp pins s₀ H₀) cls EF elt f)
  (hsw:jd (.ListComp elt [⟨tg,iter,ifs,0⟩] scope pos) (wj (.Name y py)) spos.line X.env=pure true:=by rfl)
  (hs:∀ x,ga iter X.env x=pure x:=by intro _;rfl):OSt X cls E (.Assign [.Name y py] (.ListComp elt [⟨tg,iter,ifs,0⟩] scope pos) spos) (aX i (dJ fin fi caps bd t f)):=by
 simp only[bp] at h h3;exact Jt Fn (of_decide_eq_true h.2) (yO h.1.1) (DN h.1.2) (xO h1 h2 h3.1.1 h3.1.2 h3.2) hi hb hsw hs
end
end L2.MB
end
section
namespace L2.MB.Lw
open PySem PySem.Spec PyProof.Rows L2.MB
noncomputable abbrev CI:List Str:=["seen","mark"]
noncomputable abbrev CD:List Str:=["seen","mark"]
noncomputable abbrev Cq:OS:=(aZ (o2 (lf gLe) (o2 (fun ω a b=>pu (bE ω a b) ω) (oP (aD 1)) (oP (dC (.int 1)))) (o2 (fun ω a b=>pu (bE ω a b) ω) (oP (aD 0)) (o2 (fun ω a b=>pu (bE ω a b) ω) (oP (aD 1)) (oP (dC (.int 0)))))))
noncomputable def fG:eU:=eC 2 CI Cq
noncomputable abbrev Bz:List Str:=["one","other"]
noncomputable abbrev HU:List Str:=["one","other"]
noncomputable abbrev GQ:OS:=(aZ (dJ Hl (oIZ (aC (oP (aD 0)) (aC (oP (aD 1)) aP))) [wk,wk] (qH 0 1) (oPT kM) (oL (lfL xB) (aC (oP (aD 0)) (aC (oP (aD 1)) aP)))))
noncomputable def gN:eU:=eC 2 Bz GQ
noncomputable abbrev vH:List Str:=["rows","least","row"]
noncomputable abbrev HV:List Str:=["rows"]
noncomputable abbrev fS:OS:=(aX 1 (dJ xG (oIZ (aC (oP (aD 1)) (aC (oP (aD 2)) aP))) [wk,wk] (qH 0 1) (oPT kM) (oL (lfL GU) (aC (oP (aD 0)) (aC (oP (aD 1)) aP)))))
noncomputable abbrev Bh:OS:=(aI (aX 1 (oL iG (aC (o2 (fun ω a b=>pu (bE ω a b) ω) (oP (aD 0)) (oP (dC (.int 0)))) aP))) (aI (sNx (bN (oIL (oSl (oP (aD 0)) (dSo (dC (.int 1))) dNo)) (aY 2) fS)) (aZ (oP (aD 1)))))
noncomputable def nH:eU:=eC 1 vH Bh
noncomputable abbrev Fp:List Str:=["one","other"]
noncomputable abbrev KZ:List Str:=["one","other"]
noncomputable abbrev Kt:OS:=(aZ (oL (lfL NS) (aC (dJ xG (oIZ (aC (oP (aD 0)) (aC (oP (aD 1)) aP))) [wk,wk] (qH 0 1) (oPT kM) (oL (lfL xB) (aC (o2 (lf gSub) (oP (aD 1)) (oP (aD 0))) (aC (oP (dC (.int 0))) aP)))) aP)))
noncomputable def yR:eU:=eC 2 Fp Kt
noncomputable abbrev Ar:List Str:=["self"]
noncomputable abbrev Ah:List Str:=["self"]
noncomputable abbrev zG:OS:=(aZ (o2 (fun ω a b=>pu (bE ω a b) ω) (fY 0 "knows" (oP (aD 0))) (fY 0 "number" (oP (aD 0)))))
noncomputable def bX:eU:=eC 1 Ar zG
noncomputable abbrev Fq:List Str:=["entries","hand"]
noncomputable abbrev Fl:List Str:=["entries","hand"]
noncomputable abbrev Et:OS:=(aZ (dJ xG (oIL (oP (aD 0))) [wk,wj 1] (aY 0) (oOr (cH (o2 (fun ω a b=>pu (Lg ω a b) ω) (o2 (fun ω a b=>pu (bE ω a b) ω) (oP (aD 0)) (oP (dC (.int 1)))) (fY 0 "table" (oP (aD 1))))) (jU (jT (bO fG (aC (bJ 0 "seen" bX (oP (aD 1)) aP) (aC (o2 (fun ω a b=>pu (bE ω a b) ω) (oP (aD 0)) (oP (dC (.int 1)))) aP)))))) (oP (aD 0))))
noncomputable def kU:eU:=eC 2 Fq Et
noncomputable abbrev vI:List Str:=["self","number","count"]
noncomputable abbrev vA:List Str:=["self","number","count"]
noncomputable abbrev lI:OS:=(aI (mT 0 "number" (oP (aD 0)) (oP (aD 1))) (aI (mT 0 "knows" (oP (aD 0)) (dJ Hl (oIA jR (aC (oP (aD 2)) aP)) [wk,wj 2] (aY 0) (oPT kM) (o2 zJ (oL (fun ω ds=>pu (fE ds) ω) (aC (oP (dC (.int 0))) aP)) (oP (aD 1))))) (aI (mT 0 "table" (oP (aD 0)) uB) (mT 0 "kept" (oP (aD 0)) uB))))
noncomputable def dS:eU:=eC 3 vI lI
noncomputable abbrev rO:List Str:=["self"]
noncomputable abbrev rJ:List Str:=["self"]
noncomputable abbrev rC:OS:=(aZ (Go 4 (fY 0 "table" (oP (aD 0)))))
noncomputable def bV:eU:=eC 1 rO rC
noncomputable abbrev yD:List Str:=["self"]
noncomputable abbrev yC:List Str:=["self"]
noncomputable abbrev xA:OS:=(aZ (dJ xG (oIL (fY 0 "knows" (oP (aD 0)))) [wk] (aY 0) (oPT kM) (oL iG (aC (oP (aD 0)) aP))))
noncomputable def gA:eU:=eC 1 yD xA
noncomputable abbrev rN:List Str:=["self"]
noncomputable abbrev rH:List Str:=["self"]
noncomputable abbrev rB:OS:=(aZ (dJ xG (oIL (oL (EA 4) (aC (fY 0 "kept" (oP (aD 0))) aP))) [wk,wj 0] (aY 0) (oPT kM) (oL (fun ω ds=>pu (eM ds) ω) (aC (oP (aD 0)) (aC (oL iG (aC (o2 (fun ω a b=>pu (cL ω a b) ω) (fY 0 "kept" (oP (aD 1))) (oP (aD 0))) aP)) aP)))))
noncomputable def eP:eU:=eC 1 rN rB
noncomputable abbrev qV:List Str:=["self","seen"]
noncomputable abbrev qP:List Str:=["self"]
noncomputable abbrev iU:OS:=(aI (aX 1 (bJ 0 "seen" bX (oP (aD 0)) aP)) (aI (iL pO (oP (aD 1)) (fY 0 "number" (oP (aD 0))) (o2 (lf xC) (o2 (fun ω a b=>pu (bE ω a b) ω) (oP (aD 1)) (fY 0 "number" (oP (aD 0)))) (oP (dC (.int 1))))) (aZ (oL (fun ω ds=>pu (eM ds) ω) (aC (fY 0 "number" (oP (aD 0))) (aC (o2 (fun ω a b=>pu (bE ω a b) ω) (oP (aD 1)) (fY 0 "number" (oP (aD 0)))) aP))))))
noncomputable def dA:eU:=eC 1 qV iU
noncomputable abbrev CJ:List Str:=["self","name","value","mark"]
noncomputable abbrev CF:List Str:=["self","name","value"]
noncomputable abbrev sR:OS:=(aI (aX 3 (bJ 0 "new_mark" dA (oP (aD 0)) aP)) (aI (iL mU (fY 0 "table" (oP (aD 0))) (oP (aD 3)) (oL (fun ω ds=>pu (eM ds) ω) (aC (oP (aD 1)) (aC (oP (aD 3)) (aC (oP (aD 2)) aP))))) (aZ (oP (aD 3)))))
noncomputable def eK:eU:=eC 3 CJ sR
noncomputable abbrev iD:List Str:=["self","seen_by_all","kept","deed"]
noncomputable abbrev vB:List Str:=["self"]
noncomputable abbrev aS:OS:=(eB (jU (jT (bO fG (aC (oP (aD 1)) (aC (oP (aD 3)) aP))))) (iL mU (oP (aD 2)) (oP (aD 3)) (o2 (fun ω a b=>pu (cL ω a b) ω) (fY 0 "kept" (oP (aD 0))) (oP (aD 3)))) bP)
noncomputable abbrev gU:OS:=(aI (aX 1 (bO nH (aC (fY 0 "knows" (oP (aD 0))) aP))) (aI (aX 2 uB) (aI (sNx (IH (fY 0 "kept" (oP (aD 0))) (aY 3) aS)) (mT 0 "kept" (oP (aD 0)) (oP (aD 2))))))
noncomputable def fC:eU:=eC 1 iD gU
noncomputable abbrev jC:List Str:=["self","deed","marks","mark"]
noncomputable abbrev qO:List Str:=["self","deed","marks"]
noncomputable abbrev cJ:OS:=(bU (oO ED (fY 0 "table" (oP (aD 0))) (aC (oP (aD 3)) aP)))
noncomputable abbrev iT:OS:=(aI (sNx (bN (oIL (oP (aD 2))) (aY 3) cJ)) (aI (eB (jT (oP (aD 2))) (iL mU (fY 0 "kept" (oP (aD 0))) (oP (aD 1)) (oL Ey (aC (oP (aD 2)) aP))) bP) (bU (bJ 0 "forget" fC (oP (aD 0)) aP))))
noncomputable def cZ:eU:=eC 3 jC iT
noncomputable abbrev jD:List Str:=["self","name"]
noncomputable abbrev qQ:List Str:=["self","name"]
noncomputable abbrev pM:OS:=(aZ (dJ xG (oIL (bJ 0 "entries" bV (oP (aD 0)) aP)) [wk,wj 1] (aY 0) (cH (o2 (jK 8) (o2 (fun ω a b=>pu (bE ω a b) ω) (oP (aD 0)) (oP (dC (.int 0)))) (oP (aD 1)))) (o2 (fun ω a b=>pu (bE ω a b) ω) (oP (aD 0)) (oP (dC (.int 1))))))
noncomputable def dB:eU:=eC 2 jD pM
noncomputable abbrev vJ:List Str:=["self","name","value","marks","mark"]
noncomputable abbrev vC:List Str:=["self","name","value"]
noncomputable abbrev lJ:OS:=(aI (aX 3 (bJ 0 "marks_of" dB (oP (aD 0)) (aC (oP (aD 1)) aP))) (aI (aX 4 (bJ 0 "put" eK (oP (aD 0)) (aC (oP (aD 1)) (aC (oP (aD 2)) aP)))) (aI (bU (bJ 0 "take_out" cZ (oP (aD 0)) (aC (oP (aD 4)) (aC (oP (aD 3)) aP)))) (aZ (oP (aD 4))))))
noncomputable def dU:eU:=eC 3 vJ lJ
noncomputable abbrev Aq:List Str:=["self","name","marks"]
noncomputable abbrev Ag:List Str:=["self","name"]
noncomputable abbrev kG:OS:=(aI (aX 2 (bJ 0 "marks_of" dB (oP (aD 0)) (aC (oP (aD 1)) aP))) (aI (eB (jU (jT (oP (aD 2)))) (aZ (oP (dC .non))) bP) (aI (bU (bJ 0 "take_out" cZ (oP (aD 0)) (aC (bJ 0 "new_mark" dA (oP (aD 0)) aP) (aC (oP (aD 2)) aP)))) (aZ (oP (aD 2))))))
noncomputable def fM:eU:=eC 2 Aq kG
noncomputable abbrev As:List Str:=["self","teller","many","seen","table","entry"]
noncomputable abbrev Ai:List Str:=["self","teller"]
noncomputable abbrev eR:OS:=(iL mU (oP (aD 4)) (o2 (fun ω a b=>pu (bE ω a b) ω) (oP (aD 5)) (oP (dC (.int 1)))) (oP (aD 5)))
noncomputable abbrev pN:OS:=(aI (aX 2 (bO yR (aC (bJ 0 "seen" bX (oP (aD 0)) aP) (aC (bJ 0 "seen" bX (oP (aD 1)) aP) aP)))) (aI (aX 3 (bO gN (aC (bJ 0 "seen" bX (oP (aD 0)) aP) (aC (bJ 0 "seen" bX (oP (aD 1)) aP) aP)))) (aI (aX 4 uB) (aI (sNx (bN (oIL (o2 GX (bO kU (aC (bJ 0 "entries" bV (oP (aD 0)) aP) (aC (oP (aD 1)) aP))) (bO kU (aC (bJ 0 "entries" bV (oP (aD 1)) aP) (aC (oP (aD 0)) aP))))) (aY 5) eR)) (aI (mT 0 "table" (oP (aD 0)) (oP (aD 4))) (aI (mT 0 "knows" (oP (aD 0)) (dJ Hl (oIZ (aC (fY 0 "knows" (oP (aD 0))) (aC (fY 0 "knows" (oP (aD 1))) aP))) [wk,wk] (qH 0 1) (oPT kM) (bO gN (aC (oP (aD 0)) (aC (oP (aD 1)) aP))))) (aI (iL pO (fY 0 "knows" (oP (aD 0))) (fY 0 "number" (oP (aD 0))) (oP (aD 3))) (aI (bU (oO Ew (fY 0 "kept" (oP (aD 0))) (aC (fY 0 "kept" (oP (aD 1))) aP))) (aI (bU (bJ 0 "forget" fC (oP (aD 0)) aP)) (aZ (oP (aD 2))))))))))))
noncomputable def cN:eU:=eC 2 As pN
noncomputable abbrev vK:List Str:=["self","count"]
noncomputable abbrev vD:List Str:=["self","count"]
noncomputable abbrev lK:OS:=(mT 1 "hands" (oP (aD 0)) (dJ xG (oIA jR (aC (oP (aD 1)) aP)) [wk,wj 1] (aY 0) (oPT kM) (uC 0 dS (aC (oP (aD 0)) (aC (oP (aD 1)) aP)))))
noncomputable def gO:eU:=eC 2 vK lK
noncomputable abbrev Ax:List Str:=["self","number"]
noncomputable abbrev An:List Str:=["self","number"]
noncomputable abbrev kJ:OS:=(aI (eB (jU (sB gLe gLt (oP (dC (.int 0))) (oP (aD 1)) (oL iV (aC (fY 1 "hands" (oP (aD 0))) aP)))) (AH 0 (dC (.str "there is no hand of that number"))) bP) (aZ (o2 (fun ω a b=>pu (bE ω a b) ω) (fY 1 "hands" (oP (aD 0))) (oP (aD 1)))))
noncomputable def bM:eU:=eC 2 Ax kJ
noncomputable abbrev Av:List Str:=["self","one","other","hands"]
noncomputable abbrev Al:List Str:=["self","one","other"]
noncomputable abbrev fT:OS:=(aI (aX 3 (oL (fun ω ds=>pu (eM ds) ω) (aC (bJ 1 "hand" bM (oP (aD 0)) (aC (oP (aD 1)) aP)) (aC (bJ 1 "hand" bM (oP (aD 0)) (aC (oP (aD 2)) aP)) aP)))) (aI (eB (cH (o2 (jK 8) (oP (aD 1)) (oP (aD 2)))) (AH 1 (dC (.str "a hand can't tell or meet itself"))) bP) (aZ (oP (aD 3)))))
noncomputable def bY:eU:=eC 3 Av fT
noncomputable abbrev CK:List Str:=["self","number","name","value"]
noncomputable abbrev CG:List Str:=["self","number","name","value"]
noncomputable abbrev Cr:OS:=(aZ (bJ 0 "put" eK (bJ 1 "hand" bM (oP (aD 0)) (aC (oP (aD 1)) aP)) (aC (oP (aD 2)) (aC (oP (aD 3)) aP))))
noncomputable def gH:eU:=eC 4 CK Cr
noncomputable abbrev vL:List Str:=["self","number","name","value"]
noncomputable abbrev vE:List Str:=["self","number","name","value"]
noncomputable abbrev uL:OS:=(aZ (bJ 0 "change" dU (bJ 1 "hand" bM (oP (aD 0)) (aC (oP (aD 1)) aP)) (aC (oP (aD 2)) (aC (oP (aD 3)) aP))))
noncomputable def dW:eU:=eC 4 vL uL
noncomputable abbrev Au:List Str:=["self","number","name"]
noncomputable abbrev Ak:List Str:=["self","number","name"]
noncomputable abbrev zH:OS:=(aZ (bJ 0 "take" fM (bJ 1 "hand" bM (oP (aD 0)) (aC (oP (aD 1)) aP)) (aC (oP (aD 2)) aP)))
noncomputable def fO:eU:=eC 3 Au zH
noncomputable abbrev At:List Str:=["self","one","other","hands"]
noncomputable abbrev Aj:List Str:=["self","one","other"]
noncomputable abbrev kH:OS:=(aI (aX 3 (bJ 1 "pair" bY (oP (aD 0)) (aC (oP (aD 1)) (aC (oP (aD 2)) aP)))) (aZ (bJ 0 "hear" cN (o2 (fun ω a b=>pu (bE ω a b) ω) (oP (aD 3)) (oP (dC (.int 1)))) (aC (o2 (fun ω a b=>pu (bE ω a b) ω) (oP (aD 3)) (oP (dC (.int 0)))) aP))))
noncomputable def fN:eU:=eC 3 At kH
noncomputable abbrev Aw:List Str:=["self","one","other","hands","many","gained"]
noncomputable abbrev Am:List Str:=["self","one","other"]
noncomputable abbrev kI:OS:=(aI (aX 3 (bJ 1 "pair" bY (oP (aD 0)) (aC (oP (aD 1)) (aC (oP (aD 2)) aP)))) (aI (aX 4 (bJ 0 "hear" cN (o2 (fun ω a b=>pu (bE ω a b) ω) (oP (aD 3)) (oP (dC (.int 1)))) (aC (o2 (fun ω a b=>pu (bE ω a b) ω) (oP (aD 3)) (oP (dC (.int 0)))) aP))) (aI (aX 5 (oL (fun ω ds=>pu (eM ds) ω) (aC (bJ 0 "hear" cN (o2 (fun ω a b=>pu (bE ω a b) ω) (oP (aD 3)) (oP (dC (.int 0)))) (aC (o2 (fun ω a b=>pu (bE ω a b) ω) (oP (aD 3)) (oP (dC (.int 1)))) aP)) (aC (oP (aD 4)) aP)))) (aI (bU (bJ 0 "hear" cN (o2 (fun ω a b=>pu (bE ω a b) ω) (oP (aD 3)) (oP (dC (.int 1)))) (aC (o2 (fun ω a b=>pu (bE ω a b) ω) (oP (aD 3)) (oP (dC (.int 0)))) aP))) (aZ (oP (aD 5)))))))
noncomputable def fP:eU:=eC 3 Aw kI
noncomputable abbrev NM:List Str:=["hall","deed","kind"]
noncomputable abbrev NL:List Str:=["hall","deed"]
noncomputable abbrev sQ:OS:=(aI (aX 2 (o2 (fun ω a b=>pu (bE ω a b) ω) (oP (aD 1)) (oP (dC (.int 0))))) (aI (eB (cH (o2 (jK 8) (oP (aD 2)) (oP (dC (.str "put"))))) (aZ (bJ 1 "put" gH (oP (aD 0)) (aC (o2 (fun ω a b=>pu (bE ω a b) ω) (oP (aD 1)) (oP (dC (.int 1)))) (aC (o2 (fun ω a b=>pu (bE ω a b) ω) (oP (aD 1)) (oP (dC (.int 2)))) (aC (o2 (fun ω a b=>pu (bE ω a b) ω) (oP (aD 1)) (oP (dC (.int 3)))) aP))))) bP) (aI (eB (cH (o2 (jK 8) (oP (aD 2)) (oP (dC (.str "change"))))) (aZ (bJ 1 "change" dW (oP (aD 0)) (aC (o2 (fun ω a b=>pu (bE ω a b) ω) (oP (aD 1)) (oP (dC (.int 1)))) (aC (o2 (fun ω a b=>pu (bE ω a b) ω) (oP (aD 1)) (oP (dC (.int 2)))) (aC (o2 (fun ω a b=>pu (bE ω a b) ω) (oP (aD 1)) (oP (dC (.int 3)))) aP))))) bP) (aI (eB (cH (o2 (jK 8) (oP (aD 2)) (oP (dC (.str "take"))))) (aZ (bJ 1 "take" fO (oP (aD 0)) (aC (o2 (fun ω a b=>pu (bE ω a b) ω) (oP (aD 1)) (oP (dC (.int 1)))) (aC (o2 (fun ω a b=>pu (bE ω a b) ω) (oP (aD 1)) (oP (dC (.int 2)))) aP)))) bP) (aI (eB (cH (o2 (jK 8) (oP (aD 2)) (oP (dC (.str "tell"))))) (aZ (bJ 1 "tell" fN (oP (aD 0)) (aC (o2 (fun ω a b=>pu (bE ω a b) ω) (oP (aD 1)) (oP (dC (.int 1)))) (aC (o2 (fun ω a b=>pu (bE ω a b) ω) (oP (aD 1)) (oP (dC (.int 2)))) aP)))) bP) (aZ (bJ 1 "meet" fP (oP (aD 0)) (aC (o2 (fun ω a b=>pu (bE ω a b) ω) (oP (aD 1)) (oP (dC (.int 1)))) (aC (o2 (fun ω a b=>pu (bE ω a b) ω) (oP (aD 1)) (oP (dC (.int 2)))) aP)))))))))
noncomputable def jS:eU:=eC 2 NM sQ
noncomputable abbrev Ap:List Str:=["hall","deed"]
noncomputable abbrev Af:List Str:=["hall","deed"]
noncomputable abbrev gT:OS:=(vZ (aZ (bO jS (aC (oP (aD 0)) (aC (oP (aD 1)) aP)))) 0 (aZ (oP (dC (.str "no hand")))) 1 (aZ (oP (dC (.str "same hand")))))
noncomputable def eJ:eU:=eC 2 Ap gT
noncomputable abbrev Ft:List Str:=["count","deeds","hall","deed"]
noncomputable abbrev La:List Str:=["count","deeds"]
noncomputable abbrev eL:OS:=(bU (bO eJ (aC (oP (aD 2)) (aC (oP (aD 3)) aP))))
noncomputable abbrev Ev:OS:=(aI (aX 2 (uC 1 gO (aC (oP (aD 0)) aP))) (aI (sNx (bN (oIL (oP (aD 1))) (aY 3) eL)) (aZ (oL (fun ω ds=>pu (eM ds) ω) (aC (dJ xG (oIL (fY 1 "hands" (oP (aD 2)))) [wk] (aY 0) (oPT kM) (bJ 0 "entries" bV (oP (aD 0)) aP)) (aC (dJ xG (oIL (fY 1 "hands" (oP (aD 2)))) [wk] (aY 0) (oPT kM) (oL iG (aC (bJ 0 "seen" bX (oP (aD 0)) aP) aP))) (aC (dJ xG (oIL (fY 1 "hands" (oP (aD 2)))) [wk] (aY 0) (oPT kM) (bJ 0 "known" gA (oP (aD 0)) aP)) (aC (dJ xG (oIL (fY 1 "hands" (oP (aD 2)))) [wk] (aY 0) (oPT kM) (bJ 0 "in_mind" eP (oP (aD 0)) aP)) aP))))))))
noncomputable def yS:eU:=eC 2 Ft Ev
noncomputable abbrev Ao:List Str:=["_law_found"]
noncomputable abbrev Ac:List Str:=["_law_found"]
noncomputable abbrev zF:OS:=(aZ (MW (oQ "int" (oP (aD 0))) (MU (oQ "bool" (oP (aD 0))))))
noncomputable def fK:eU:=eC 1 Ao zF
noncomputable abbrev nQ:List Str:=["_law_script","_law_k"]
noncomputable abbrev HS:List Str:=["_law_script","_law_k"]
noncomputable abbrev uK:OS:=(aI (eB (cH (o2 (lf gLt) (oP (aD 1)) (oL iV (aC (oP (aD 0)) aP)))) (aZ (o2 (fun ω a b=>pu (bE ω a b) ω) (oP (aD 0)) (oP (aD 1)))) bP) (aZ (oP (dC (.int 0)))))
noncomputable def tY:eU:=eC 2 nQ uK
noncomputable abbrev qU:List Str:=["_law_count","_law_deeds","_law_handed","_law_found"]
noncomputable abbrev qN:List Str:=["_law_count","_law_deeds"]
noncomputable abbrev iS:OS:=(aI (aX 2 (oL iG (aC (oP (aD 1)) aP))) (aI (aX 3 (bO yS (aC (oP (aD 0)) (aC (oP (aD 2)) aP)))) (aI (eB (oOr (cH (o2 (Bj 8) (oP (aD 2)) (oP (aD 1)))) (oOr (jU (jT (oQ "tuple" (oP (aD 3))))) (cH (o2 (Bj 8) (oL iV (aC (oP (aD 3)) aP)) (oP (dC (.int 4))))))) (aZ (oL (fun ω ds=>pu (eM ds) ω) (aC (oP (dC .non)) (aC (oP (dC .non)) (aC (oP (dC .non)) (aC (oP (dC .non)) aP)))))) bP) (aZ (oP (aD 3))))))
noncomputable def fL:eU:=eC 2 qU iS
noncomputable abbrev Fs:List Str:=["_law_count","_law_large"]
noncomputable abbrev Fm:List Str:=["_law_count"]
noncomputable abbrev Eu:OS:=(aI (aX 1 (oP (dC (.int 100000000000000000000)))) (aZ (oL (fun ω ds=>pu (fE ds) ω) (aC (oP (d1 Pg (dC (.int 1)))) (aC (oP (aD 0)) (aC (oP (d1 Pg (dC (.int 2)))) (aC (o2 (lf gSub) (oP (dC (.int 0))) (oP (aD 0))) (aC (oP (aD 1)) (aC (o2 (lf gSub) (oP (dC (.int 0))) (oP (aD 1))) aP)))))))))
noncomputable def eV:eU:=eC 1 Fs Eu
noncomputable abbrev CH:List Str:=["_law_j","_law_count"]
noncomputable abbrev CC:List Str:=["_law_j","_law_count"]
noncomputable abbrev Cp:OS:=(aI (eB (cH (o2 (jK 8) (o2 (lf cU) (oP (aD 1)) (oP (dC (.int 2)))) (oP (dC (.int 0))))) (aZ (o2 (lf Kw) (o2 (lf Kw) (o2 (lf Kv) (oP (dC (.str "o"))) (o2 (lf cU) (oP (aD 1)) (oP (dC (.int 5))))) (o2 (fun ω a b=>pu (bE ω a b) ω) (oP (dC (.str "abcd"))) (oP (aD 0)))) (o2 (lf Kv) (oP (dC (.str "o"))) (o2 (lf gSub) (oP (dC (.int 5))) (o2 (lf cU) (oP (aD 1)) (oP (dC (.int 5)))))))) bP) (aZ (o2 (fun ω a b=>pu (bE ω a b) ω) (oL (fun ω ds=>pu (fE ds) ω) (aC (oP (dC (.str "oats"))) (aC (oP (dC (.str "oat"))) (aC (oP (dC (.str ""))) (aC (oP (dC (.str "oatsack"))) aP))))) (oP (aD 0)))))
noncomputable def jH:eU:=eC 2 CH Cp
noncomputable abbrev lS:List Str:=["_law_cell","_law_k","_law_count","_law_way","_law_one","_law_other","_law_name","_law_values","_law_value"]
noncomputable abbrev uZ:List Str:=["_law_cell","_law_k","_law_count"]
noncomputable abbrev uI:OS:=(aI (aX 3 (o2 (lf cU) (o2 (lf cU) (o2 (lf iI) (oP (aD 0)) (oP (dC (.int 48271)))) (oP (dC (.int 1009)))) (oP (dC (.int 16))))) (aI (aX 4 (o2 (lf cU) (o2 (lf cU) (o2 (lf iI) (o2 (lf xC) (oP (aD 0)) (oP (aD 1))) (oP (dC (.int 48271)))) (oP (dC (.int 1013)))) (oP (aD 2)))) (aI (aX 5 (oP (aD 4))) (aI (eB (BV (cH (o2 (lf gGt) (oP (aD 2)) (oP (dC (.int 1))))) (cH (o2 (lf gGt) (o2 (lf cU) (o2 (lf cU) (o2 (lf iI) (oP (aD 0)) (oP (dC (.int 48271)))) (oP (dC (.int 1019)))) (oP (dC (.int 19)))) (oP (dC (.int 0)))))) (aX 5 (o2 (lf cU) (o2 (lf xC) (o2 (lf xC) (oP (aD 4)) (oP (dC (.int 1)))) (o2 (lf cU) (o2 (lf cU) (o2 (lf iI) (oP (aD 0)) (oP (dC (.int 48271)))) (oP (dC (.int 1021)))) (o2 (lf gSub) (oP (aD 2)) (oP (dC (.int 1)))))) (oP (aD 2)))) bP) (aI (aX 6 (bO jH (aC (o2 (lf cU) (o2 (lf cU) (o2 (lf iI) (oP (aD 0)) (oP (dC (.int 48271)))) (oP (dC (.int 1031)))) (oP (dC (.int 4)))) (aC (oP (aD 2)) aP)))) (aI (aX 7 (oL (fun ω ds=>pu (fE ds) ω) (aC (o2 (lf gSub) (o2 (lf cU) (o2 (lf cU) (o2 (lf iI) (oP (aD 0)) (oP (dC (.int 48271)))) (oP (dC (.int 1033)))) (oP (dC (.int 9)))) (oP (dC (.int 4)))) (aC (o2 (lf gSub) (oP (dC (.int 0))) (oP (aD 1))) (aC (o2 (lf xC) (oP (dC (.int 100000000000000000000))) (oP (aD 1))) aP))))) (aI (aX 8 (o2 (fun ω a b=>pu (bE ω a b) ω) (oP (aD 7)) (o2 (lf cU) (o2 (lf cU) (o2 (lf iI) (oP (aD 0)) (oP (dC (.int 48271)))) (oP (dC (.int 1039)))) (oP (dC (.int 3)))))) (aI (eB (cH (o2 (jK 8) (o2 (lf cU) (o2 (lf cU) (o2 (lf iI) (oP (aD 0)) (oP (dC (.int 48271)))) (oP (dC (.int 1049)))) (oP (dC (.int 31)))) (oP (dC (.int 30))))) (aX 4 (o2 (fun ω a b=>pu (bE ω a b) ω) (bO eV (aC (oP (aD 2)) aP)) (o2 (lf cU) (o2 (lf cU) (o2 (lf iI) (oP (aD 0)) (oP (dC (.int 48271)))) (oP (dC (.int 1051)))) (oP (dC (.int 6)))))) bP) (aI (eB (cH (o2 (jK 8) (o2 (lf cU) (o2 (lf cU) (o2 (lf iI) (oP (aD 0)) (oP (dC (.int 48271)))) (oP (dC (.int 1061)))) (oP (dC (.int 31)))) (oP (dC (.int 30))))) (aX 5 (o2 (fun ω a b=>pu (bE ω a b) ω) (bO eV (aC (oP (aD 2)) aP)) (o2 (lf cU) (o2 (lf cU) (o2 (lf iI) (oP (aD 0)) (oP (dC (.int 48271)))) (oP (dC (.int 1063)))) (oP (dC (.int 6)))))) bP) (aI (eB (cH (o2 (lf gLt) (oP (aD 3)) (oP (dC (.int 5))))) (aZ (oL (fun ω ds=>pu (eM ds) ω) (aC (oP (dC (.str "put"))) (aC (oP (aD 4)) (aC (oP (aD 6)) (aC (oP (aD 8)) aP)))))) bP) (aI (eB (cH (o2 (lf gLt) (oP (aD 3)) (oP (dC (.int 7))))) (aZ (oL (fun ω ds=>pu (eM ds) ω) (aC (oP (dC (.str "take"))) (aC (oP (aD 4)) (aC (oP (aD 6)) aP))))) bP) (aI (eB (cH (o2 (lf gLt) (oP (aD 3)) (oP (dC (.int 9))))) (aZ (oL (fun ω ds=>pu (eM ds) ω) (aC (oP (dC (.str "change"))) (aC (oP (aD 4)) (aC (oP (aD 6)) (aC (oP (aD 8)) aP)))))) bP) (aZ (oL (fun ω ds=>pu (eM ds) ω) (aC (o2 (fun ω a b=>pu (bE ω a b) ω) (oL (fun ω ds=>pu (fE ds) ω) (aC (oP (dC (.str "tell"))) (aC (oP (dC (.str "meet"))) aP))) (oL (lfL NU) (aC (o2 (lf gGt) (oP (aD 3)) (oP (dC (.int 11)))) aP))) (aC (oP (aD 4)) (aC (oP (aD 5)) aP)))))))))))))))))
noncomputable def gM:eU:=eC 3 lS uI
noncomputable abbrev qT:List Str:=["_law_cells","_law_count","_law_deeds","_law_k"]
noncomputable abbrev Ae:List Str:=["_law_cells","_law_count"]
noncomputable abbrev eQ:OS:=(bU (kY lL (oP (aD 2)) (aC (bO gM (aC (o2 (lf xC) (o2 (fun ω a b=>pu (bE ω a b) ω) (oP (aD 0)) (oP (aD 3))) (o2 (lf iI) (oP (dC (.int 7))) (oP (aD 3)))) (aC (oP (aD 3)) (aC (oP (aD 1)) aP)))) aP)))
noncomputable abbrev pL:OS:=(aI (aX 2 (oL GT aP)) (aI (sNx (bN (oIA jR (aC (oL iV (aC (oP (aD 0)) aP)) aP)) (aY 3) eQ)) (aZ (oP (aD 2)))))
noncomputable def kD:eU:=eC 2 qT pL
noncomputable abbrev jB:List Str:=["_law_count","_law_hall"]
noncomputable abbrev Fo:List Str:=["_law_count"]
noncomputable abbrev wZ:OS:=(aI (aX 1 (BU [("count",(oP (aD 0))),("deeds",uB),("order",(oL GT aP))])) (aI (iL mU (oP (aD 1)) (oP (dC (.str "known"))) (dJ Hl (oIA jR (aC (oP (aD 0)) aP)) [wk,wj 0] (aY 0) (oPT kM) (dJ Hl (oIA jR (aC (oP (aD 1)) aP)) [wk,wj 1] (aY 0) (oPT kM) (o2 zJ (oL (fun ω ds=>pu (fE ds) ω) (aC (oP (dC (.int 0))) aP)) (oP (aD 1)))))) (aZ (oP (aD 1)))))
noncomputable def oK:eU:=eC 1 jB wZ
noncomputable abbrev vG:List Str:=["_law_hall","_law_seen","_law_gone","_law_there","_law_mark","_law_put","_law_outs"]
noncomputable abbrev uY:List Str:=["_law_hall","_law_seen"]
noncomputable abbrev bD:OS:=(eB (cH (o2 (lf gLe) (o2 (fun ω a b=>pu (bE ω a b) ω) (oP (aD 4)) (oP (dC (.int 1)))) (o2 (fun ω a b=>pu (bE ω a b) ω) (oP (aD 1)) (o2 (fun ω a b=>pu (bE ω a b) ω) (oP (aD 4)) (oP (dC (.int 0))))))) (aI (BJ (qH 5 6) (o2 (fun ω a b=>pu (cL ω a b) ω) (o2 (fun ω a b=>pu (cL ω a b) ω) (oP (aD 0)) (oP (dC (.str "deeds")))) (oP (aD 4)))) (aI (aX 2 (o2 GX (oP (aD 2)) (oP (aD 6)))) (eB (cH (o2 (lf Ku) (oP (aD 5)) (oP (dC .non)))) (bU (kY lL (oP (aD 3)) (aC (oL (fun ω ds=>pu (eM ds) ω) (aC (o2 (fun ω a b=>pu (bE ω a b) ω) (oP (aD 5)) (oP (dC (.int 0)))) (aC (oP (aD 4)) (aC (o2 (fun ω a b=>pu (bE ω a b) ω) (oP (aD 5)) (oP (dC (.int 1)))) aP)))) aP))) bP))) bP)
noncomputable abbrev lH:OS:=(aI (aX 2 (oL (fun ω ds=>pu (fE ds) ω) aP)) (aI (aX 3 (oL GT aP)) (aI (sNx (bN (oIL (o2 (fun ω a b=>pu (cL ω a b) ω) (oP (aD 0)) (oP (dC (.str "order"))))) (aY 4) bD)) (aZ (oL (GR 4) (aC (dJ xG (oIL (oP (aD 3))) [wk,wj 2] (aY 0) (cH (o2 (lf (Bi 7)) (o2 (fun ω a b=>pu (bE ω a b) ω) (oP (aD 0)) (oP (dC (.int 1)))) (oP (aD 1)))) (oP (aD 0))) aP))))))
noncomputable def dR:eU:=eC 2 vG lH
noncomputable abbrev qR:List Str:=["_law_hall","_law_own","_law_put","_law_outs","_law_seen"]
noncomputable abbrev Ad:List Str:=["_law_hall","_law_own","_law_put","_law_outs"]
noncomputable abbrev pK:OS:=(aI (aX 4 (oL sS (aC (o2 (fun ω a b=>pu (bE ω a b) ω) (o2 (fun ω a b=>pu (bE ω a b) ω) (o2 (fun ω a b=>pu (cL ω a b) ω) (oP (aD 0)) (oP (dC (.str "known")))) (oP (aD 1))) (oP (aD 1))) aP))) (aI (iL pO (oP (aD 4)) (oP (aD 1)) (o2 (lf xC) (o2 (fun ω a b=>pu (bE ω a b) ω) (oP (aD 4)) (oP (aD 1))) (oP (dC (.int 1))))) (aI (iL pO (o2 (fun ω a b=>pu (bE ω a b) ω) (o2 (fun ω a b=>pu (cL ω a b) ω) (oP (aD 0)) (oP (dC (.str "known")))) (oP (aD 1))) (oP (aD 1)) (oP (aD 4))) (aI (iL mU (o2 (fun ω a b=>pu (cL ω a b) ω) (oP (aD 0)) (oP (dC (.str "deeds")))) (oL (fun ω ds=>pu (eM ds) ω) (aC (oP (aD 1)) (aC (o2 (fun ω a b=>pu (bE ω a b) ω) (oP (aD 4)) (oP (aD 1))) aP))) (oL (fun ω ds=>pu (eM ds) ω) (aC (oP (aD 2)) (aC (oP (aD 3)) aP)))) (aI (bU (kY lL (o2 (fun ω a b=>pu (cL ω a b) ω) (oP (aD 0)) (oP (dC (.str "order")))) (aC (oL (fun ω ds=>pu (eM ds) ω) (aC (oP (aD 1)) (aC (o2 (fun ω a b=>pu (bE ω a b) ω) (oP (aD 4)) (oP (aD 1))) aP))) aP))) (aZ (oL (fun ω ds=>pu (eM ds) ω) (aC (oP (aD 1)) (aC (o2 (fun ω a b=>pu (bE ω a b) ω) (oP (aD 4)) (oP (aD 1))) aP)))))))))
noncomputable def cX:eU:=eC 4 qR pK
noncomputable abbrev qS:List Str:=["_law_hall","_law_one","_law_other","_law_left","_law_right","_law_before","_law_made","_law_k","_law_row","_law_j","_law_most"]
noncomputable abbrev qM:List Str:=["_law_hall","_law_one","_law_other"]
noncomputable abbrev cT:OS:=(aI (aX 10 (oL (lfL xB) (aC (o2 (fun ω a b=>pu (bE ω a b) ω) (o2 (fun ω a b=>pu (bE ω a b) ω) (oP (aD 3)) (oP (aD 7))) (oP (aD 9))) (aC (o2 (fun ω a b=>pu (bE ω a b) ω) (o2 (fun ω a b=>pu (bE ω a b) ω) (oP (aD 4)) (oP (aD 7))) (oP (aD 9))) aP)))) (aI (eB (cH (o2 (jK 8) (oP (aD 7)) (oP (aD 2)))) (aX 10 (oL (lfL xB) (aC (oP (aD 10)) (aC (o2 (fun ω a b=>pu (bE ω a b) ω) (o2 (fun ω a b=>pu (bE ω a b) ω) (oP (aD 3)) (oP (aD 1))) (oP (aD 9))) aP)))) bP) (bU (kY lL (oP (aD 8)) (aC (oP (aD 10)) aP)))))
noncomputable abbrev cS:OS:=(aI (aX 8 (oL GT aP)) (aI (sNx (bN (oIA jR (aC (o2 (fun ω a b=>pu (cL ω a b) ω) (oP (aD 0)) (oP (dC (.str "count")))) aP)) (aY 9) cT)) (bU (kY lL (oP (aD 6)) (aC (oP (aD 8)) aP)))))
noncomputable abbrev iR:OS:=(aI (aX 3 (o2 (fun ω a b=>pu (bE ω a b) ω) (o2 (fun ω a b=>pu (cL ω a b) ω) (oP (aD 0)) (oP (dC (.str "known")))) (oP (aD 1)))) (aI (aX 4 (o2 (fun ω a b=>pu (bE ω a b) ω) (o2 (fun ω a b=>pu (cL ω a b) ω) (oP (aD 0)) (oP (dC (.str "known")))) (oP (aD 2)))) (aI (aX 5 (oL zI (aC (o2 (fun ω a b=>pu (bE ω a b) ω) (oP (aD 4)) (oP (aD 2))) aP))) (aI (aX 6 (oL GT aP)) (aI (sNx (bN (oIA jR (aC (o2 (fun ω a b=>pu (cL ω a b) ω) (oP (aD 0)) (oP (dC (.str "count")))) aP)) (aY 7) cS)) (aI (iL pO (o2 (fun ω a b=>pu (cL ω a b) ω) (oP (aD 0)) (oP (dC (.str "known")))) (oP (aD 2)) (oP (aD 6))) (aZ (o2 (lf gSub) (oL zI (aC (o2 (fun ω a b=>pu (bE ω a b) ω) (oP (aD 6)) (oP (aD 2))) aP)) (oP (aD 5))))))))))
noncomputable def cY:eU:=eC 3 qS iR
noncomputable abbrev mZ:List Str:=["_law_hall","_law_deed","_law_count","_law_number","_law_own","_law_rows","_law_marks","_law_many","_law_more"]
noncomputable abbrev mX:List Str:=["_law_hall","_law_deed"]
noncomputable abbrev aF:OS:=(eB (BV (jU (jT (oQ "str" (oP (aD 3))))) (oOr (cH (o2 (lf gLt) (oP (aD 3)) (oP (dC (.int 0))))) (cH (o2 (lf gGe) (oP (aD 3)) (oP (aD 2)))))) (aZ (oP (dC (.str "no hand")))) bP)
noncomputable abbrev bQ:OS:=(aI (aX 2 (o2 (fun ω a b=>pu (cL ω a b) ω) (oP (aD 0)) (oP (dC (.str "count"))))) (aI (sNx (bN (oIT (o2 zL (oSl (oP (aD 1)) (dSo (dC (.int 1))) (dSo (dC (.int 2)))) (oSl (oP (aD 1)) (dSo (dC (.int 2))) (dSo (dC (.int 3)))))) (aY 3) aF)) (aI (aX 4 (o2 (fun ω a b=>pu (bE ω a b) ω) (oP (aD 1)) (oP (dC (.int 1))))) (aI (eB (cH (o2 (lf (gIn 7)) (o2 (fun ω a b=>pu (bE ω a b) ω) (oP (aD 1)) (oP (dC (.int 0)))) (oL (fun ω ds=>pu (fE ds) ω) (aC (oP (dC (.str "put"))) (aC (oP (dC (.str "take"))) (aC (oP (dC (.str "change"))) aP)))))) (aI (aX 5 (bO dR (aC (oP (aD 0)) (aC (o2 (fun ω a b=>pu (bE ω a b) ω) (o2 (fun ω a b=>pu (bE ω a b) ω) (o2 (fun ω a b=>pu (cL ω a b) ω) (oP (aD 0)) (oP (dC (.str "known")))) (oP (aD 4))) (oP (aD 4))) aP)))) (aI (aX 6 (dJ xG (oIL (oP (aD 5))) [wk,wj 1] (aY 0) (cH (o2 (jK 8) (o2 (fun ω a b=>pu (bE ω a b) ω) (oP (aD 0)) (oP (dC (.int 0)))) (o2 (fun ω a b=>pu (bE ω a b) ω) (oP (aD 1)) (oP (dC (.int 2)))))) (o2 (fun ω a b=>pu (bE ω a b) ω) (oP (aD 0)) (oP (dC (.int 1)))))) (aI (eB (cH (o2 (jK 8) (o2 (fun ω a b=>pu (bE ω a b) ω) (oP (aD 1)) (oP (dC (.int 0)))) (oP (dC (.str "put"))))) (aZ (bO cX (aC (oP (aD 0)) (aC (oP (aD 4)) (aC (oSl (oP (aD 1)) (dSo (dC (.int 2))) dNo) (aC (oL (fun ω ds=>pu (fE ds) ω) aP) aP)))))) bP) (aI (eB (cH (o2 (jK 8) (o2 (fun ω a b=>pu (bE ω a b) ω) (oP (aD 1)) (oP (dC (.int 0)))) (oP (dC (.str "change"))))) (aZ (bO cX (aC (oP (aD 0)) (aC (oP (aD 4)) (aC (oSl (oP (aD 1)) (dSo (dC (.int 2))) dNo) (aC (oP (aD 6)) aP)))))) bP) (aI (eB (cH (o2 (jK 8) (oP (aD 6)) (oL (fun ω ds=>pu (fE ds) ω) aP))) (aZ (oP (dC .non))) bP) (aI (bU (bO cX (aC (oP (aD 0)) (aC (oP (aD 4)) (aC (oP (dC .non)) (aC (oP (aD 6)) aP)))))) (aZ (oP (aD 6))))))))) bP) (aI (eB (cH (o2 (jK 8) (oP (aD 4)) (o2 (fun ω a b=>pu (bE ω a b) ω) (oP (aD 1)) (oP (dC (.int 2)))))) (aZ (oP (dC (.str "same hand")))) bP) (aI (eB (cH (o2 (jK 8) (o2 (fun ω a b=>pu (bE ω a b) ω) (oP (aD 1)) (oP (dC (.int 0)))) (oP (dC (.str "tell"))))) (aZ (bO cY (aC (oP (aD 0)) (aC (oP (aD 4)) (aC (o2 (fun ω a b=>pu (bE ω a b) ω) (oP (aD 1)) (oP (dC (.int 2)))) aP))))) bP) (aI (aX 7 (bO cY (aC (oP (aD 0)) (aC (o2 (fun ω a b=>pu (bE ω a b) ω) (oP (aD 1)) (oP (dC (.int 2)))) (aC (oP (aD 4)) aP))))) (aI (aX 8 (bO cY (aC (oP (aD 0)) (aC (oP (aD 4)) (aC (o2 (fun ω a b=>pu (bE ω a b) ω) (oP (aD 1)) (oP (dC (.int 2)))) aP))))) (aI (iL pO (o2 (fun ω a b=>pu (bE ω a b) ω) (o2 (fun ω a b=>pu (cL ω a b) ω) (oP (aD 0)) (oP (dC (.str "known")))) (oP (aD 4))) (o2 (fun ω a b=>pu (bE ω a b) ω) (oP (aD 1)) (oP (dC (.int 2)))) (oL iG (aC (o2 (fun ω a b=>pu (bE ω a b) ω) (o2 (fun ω a b=>pu (bE ω a b) ω) (o2 (fun ω a b=>pu (cL ω a b) ω) (oP (aD 0)) (oP (dC (.str "known")))) (oP (aD 4))) (oP (aD 4))) aP))) (aZ (oL (fun ω ds=>pu (eM ds) ω) (aC (oP (aD 7)) (aC (oP (aD 8)) aP)))))))))))))
noncomputable def cE:eU:=eC 2 mZ bQ
noncomputable abbrev nB:List Str:=["_law_found","_law_count","_law_rows","_law_row"]
noncomputable abbrev mY:List Str:=["_law_found","_law_count"]
noncomputable abbrev dN:OS:=(aI (eB (oOr (jU (jT (oQ "tuple" (oP (aD 3))))) (oOr (cH (o2 (Bj 8) (oL iV (aC (oP (aD 3)) aP)) (oP (dC (.int 3))))) (jU (jT (oQ "str" (o2 (fun ω a b=>pu (bE ω a b) ω) (oP (aD 3)) (oP (dC (.int 0))))))))) (aZ (oP (dC (.bl false)))) bP) (aI (eB (oOr (jU (jT (oQ "tuple" (o2 (fun ω a b=>pu (bE ω a b) ω) (oP (aD 3)) (oP (dC (.int 1))))))) (oOr (cH (o2 (Bj 8) (oL iV (aC (o2 (fun ω a b=>pu (bE ω a b) ω) (oP (aD 3)) (oP (dC (.int 1)))) aP)) (oP (dC (.int 2))))) (jU (jT (bO fK (aC (o2 (fun ω a b=>pu (bE ω a b) ω) (oP (aD 3)) (oP (dC (.int 2)))) aP)))))) (aZ (oP (dC (.bl false)))) bP) (eB (oOr (jU (jT (bO fK (aC (o2 (fun ω a b=>pu (bE ω a b) ω) (o2 (fun ω a b=>pu (bE ω a b) ω) (oP (aD 3)) (oP (dC (.int 1)))) (oP (dC (.int 0)))) aP)))) (jU (jT (bO fK (aC (o2 (fun ω a b=>pu (bE ω a b) ω) (o2 (fun ω a b=>pu (bE ω a b) ω) (oP (aD 3)) (oP (dC (.int 1)))) (oP (dC (.int 1)))) aP))))) (aZ (oP (dC (.bl false)))) bP)))
noncomputable abbrev cP:OS:=(aI (eB (jU (jT (oQ "list" (oP (aD 2))))) (aZ (oP (dC (.bl false)))) bP) (sNx (bN (oIL (oP (aD 2))) (aY 3) dN)))
noncomputable abbrev iF:OS:=(aI (eB (oOr (jU (jT (oQ "list" (oP (aD 0))))) (cH (o2 (Bj 8) (oL iV (aC (oP (aD 0)) aP)) (oP (aD 1))))) (aZ (oP (dC (.bl false)))) bP) (aI (sNx (bN (oIL (oP (aD 0))) (aY 2) cP)) (aZ (oP (dC (.bl true))))))
noncomputable def dM:eU:=eC 2 nB iF
noncomputable abbrev rM:List Str:=["_law_found","_law_count","_law_row","_law_number"]
noncomputable abbrev rG:List Str:=["_law_found","_law_count"]
noncomputable abbrev gK:OS:=(eB (jU (jT (bO fK (aC (oP (aD 3)) aP)))) (aZ (oP (dC (.bl false)))) bP)
noncomputable abbrev dH:OS:=(aI (eB (oOr (jU (jT (oQ "list" (oP (aD 2))))) (cH (o2 (Bj 8) (oL iV (aC (oP (aD 2)) aP)) (oP (aD 1))))) (aZ (oP (dC (.bl false)))) bP) (sNx (bN (oIL (oP (aD 2))) (aY 3) gK)))
noncomputable abbrev jX:OS:=(aI (eB (oOr (jU (jT (oQ "list" (oP (aD 0))))) (cH (o2 (Bj 8) (oL iV (aC (oP (aD 0)) aP)) (oP (aD 1))))) (aZ (oP (dC (.bl false)))) bP) (aI (sNx (bN (oIL (oP (aD 0))) (aY 2) dH)) (aZ (oP (dC (.bl true))))))
noncomputable def eO:eU:=eC 2 rM jX
noncomputable abbrev Px:List Str:=["_law_script","_law_count","_law_deeds","_law_tables","_law_seen","_law_known","_law_kept","_law_hall","_law_deed","_law_k","_law_row"]
noncomputable abbrev Pu:List Str:=["_law_script"]
noncomputable abbrev nK:OS:=(aI (aX 10 (o2 (fun ω a b=>pu (bE ω a b) ω) (o2 (fun ω a b=>pu (bE ω a b) ω) (o2 (fun ω a b=>pu (cL ω a b) ω) (oP (aD 7)) (oP (dC (.str "known")))) (oP (aD 9))) (oP (aD 9)))) (eB (oOr (cH (o2 (Bj 8) (o2 (fun ω a b=>pu (bE ω a b) ω) (oP (aD 4)) (oP (aD 9))) (oP (aD 10)))) (cH (o2 (Bj 8) (o2 (fun ω a b=>pu (bE ω a b) ω) (oP (aD 3)) (oP (aD 9))) (bO dR (aC (oP (aD 7)) (aC (oP (aD 10)) aP)))))) (aZ (oP (dC (.bl false)))) bP))
noncomputable abbrev uJ:OS:=(bU (bO cE (aC (oP (aD 7)) (aC (oP (aD 8)) aP))))
noncomputable abbrev Nj:OS:=(aI (aX 1 (o2 (fun ω a b=>pu (bE ω a b) ω) (oL (fun ω ds=>pu (fE ds) ω) (aC (oP (dC (.int 1))) (aC (oP (dC (.int 2))) (aC (oP (dC (.int 3))) (aC (oP (dC (.int 4))) (aC (oP (dC (.int 2))) (aC (oP (dC (.int 3))) (aC (oP (dC (.int 4))) (aC (oP (dC (.int 8))) aP))))))))) (o2 (lf cU) (o2 (lf cU) (o2 (lf iI) (bO tY (aC (oP (aD 0)) (aC (oP (dC (.int 0))) aP))) (oP (dC (.int 48271)))) (oP (dC (.int 1069)))) (oP (dC (.int 8)))))) (aI (aX 2 (bO kD (aC (oSl (oP (aD 0)) (dSo (dC (.int 1))) (dSo (dC (.int 37)))) (aC (oP (aD 1)) aP)))) (aI (BJ (HM 3 4 5 6) (bO fL (aC (oP (aD 1)) (aC (oP (aD 2)) aP)))) (aI (eB (oOr (jU (jT (bO dM (aC (oP (aD 3)) (aC (oP (aD 1)) aP))))) (jU (jT (bO eO (aC (oP (aD 4)) (aC (oP (aD 1)) aP)))))) (aZ (oP (dC (.bl false)))) bP) (aI (aX 7 (bO oK (aC (oP (aD 1)) aP))) (aI (sNx (bN (oIL (oP (aD 2))) (aY 8) uJ)) (aI (sNx (bN (oIA jR (aC (oP (aD 1)) aP)) (aY 9) nK)) (aZ (oP (dC (.bl true)))))))))))
noncomputable def p_law:eU:=eC 1 Px Nj
theorem eN (J:Rho->Prop) (hc:chk ω=true):∀ {ds:List D}{ρ:Rho},J ρ->(∀ d∈ds,∀ ρ,J ρ->∃ ρ1,bd d ρ=wj ρ1/\J ρ1/\t ρ1 ω=wj (.ok (p d),ω)/\(p d=true->f ρ1 ω=wj (.ok (g d),ω)))->
  compLO bd chk t f ds ρ ω=wj ((ds.filter p).map g,ω)
 |[],ρ,_,_=>by
  show(if chk ω=true then wj ([],ω) else wk)=_
  rw[if_pos hc];rfl
 |d::ds,ρ,hJ,h=>by
  obtain⟨ρ1,h1,h2,h3,h4⟩:=h d aq ρ hJ;have ih:=eN J hc h2 fun d' hd=>h d' (ag _ hd);unfold compLO;rw[if_pos hc,h1]
  show(match t ρ1 ω with
   |some (.ok k,ω1)=>_
   |_=>_)=_
  rw[h3];cases hp:p d with
  |true=>
   rw[da hp]
   show(if true=true then(match f ρ1 ω with
    |some (.ok y,ω2)=>_
    |_=>wk) else _)=_
   rw[if_pos rfl,h4 hp]
   show(compLO bd chk t f ds ρ1 ω).map _=_
   rw[ih];rfl
  |false=>
   rw[c9 (by rw[hp];exact cg)];exact ih
theorem lP (J:Rho->Prop) (hc:chk ω=true) (hJ:J ρ) (h:∀ d∈ds,∀ ρ,J ρ->∃ ρ1,bd d ρ=wj ρ1/\J ρ1/\f ρ1 ω=wj (.ok (g d),ω)):
  compLO bd chk (oPT kM) f ds ρ ω=wj (ds.map g,ω):=by
 have:=eN (t:=oPT kM) (p:=fun _=>true) (g:=g) J hc hJ fun d hd ρ hρ=>let ⟨ρ1,h1,h2,h3⟩:=h d hd ρ hρ;⟨ρ1,h1,h2,rfl,fun _=>h3⟩
 rw[this]
 congr 2
 rw[uc.mpr (fun _ _=>rfl)]
theorem gC (h1:fi ρ ω=wj (.ok (ds,chk),ω1)) (hl:ds.length<=sizeLine) (h2:compLO bd chk t f ds (Fw caps ρ) ω1=wj (out,ω2)):dJ xG fi caps bd t f ρ ω=wj (.ok (.lst out),ω2):=by
 unfold dJ;rw[bI h1]
 show(if ds.length<=sizeLine then _ else wk)=_
 rw[if_pos hl]
 show(compLO bd chk t f ds (Fw caps ρ) ω1).bind _=_
 rw[h2];rfl
theorem oS (h1:fi ρ ω=wj (.ok (ds,chk),ω1)) (hl:ds.length<=sizeLine) (h2:compLO bd chk t f ds (Fw caps ρ) ω1=wj (out,ω2)):dJ Hl fi caps bd t f ρ ω=wj (.ok (.obj ω2.length),ω2++[.ml out]):=by
 unfold dJ;rw[bI h1]
 show(if ds.length<=sizeLine then _ else wk)=_
 rw[if_pos hl]
 show(compLO bd chk t f ds (Fw caps ρ) ω1).bind _=_
 rw[h2];rfl
theorem dZ (hc:chk ω=true) (hb:bd d ρ=wj ρ1) (hF:F ρ1 ω=wj (.nx ρ2,ω2)):bR bd chk F (d::ds) ρ ω=bR bd chk F ds ρ2 ω2:=by
 show(if chk ω=true then(bd d ρ).bind (fun ρ1=>match F ρ1 ω with
  |none=>wk
  |some (.nx ρ2,ω2)=>bR bd chk F ds ρ2 ω2
  |some (.ct ρ2,ω2)=>bR bd chk F ds ρ2 ω2
  |some (.bk ρ2,ω2)=>wj (.nx ρ2,ω2)
  |some (.rt d,ω2)=>wj (.rt d,ω2)
  |some (.ex _,_)=>wk) else wk)=_
 rw[if_pos hc,hb]
 show(match F ρ1 ω with
  |none=>wk
  |some (.nx ρ2,ω2)=>bR bd chk F ds ρ2 ω2
  |some (.ct ρ2,ω2)=>bR bd chk F ds ρ2 ω2
  |some (.bk ρ2,ω2)=>wj (.nx ρ2,ω2)
  |some (.rt d,ω2)=>wj (.rt d,ω2)
  |some (.ex _,_)=>wk)=_
 rw[hF]
theorem qF (hc:chk ω=true) (hb:bd d ρ=wj ρ1) (hf:f ρ1 ω=wj (.ok y,ω2)):compLO bd chk (oPT kM) f (d::ds) ρ ω=(compLO bd chk (oPT kM) f ds ρ1 ω2).map fun r=>(y::r.1,r.2):=by
 rw[compLO.eq_2,if_pos hc,hb]
 show(match f ρ1 ω with
  |some (.ok y,ω2)=>(compLO bd chk (oPT kM) f ds ρ1 ω2).map fun r:List D×Om=>(y::r.1,r.2)
  |_=>wk)=_
 rw[hf]
mutual
theorem rY:∀ a:D,fI a a=true
 |.non=>by simp[fI]
 |.bl a=>by simp[fI]
 |.int a=>by simp[fI]
 |.str a=>by simp[fI]
 |.obj a=>by simp[fI]
 |.lst a=>by simpa [fI] using sameDs_refl a
 |.tup a=>by simpa [fI] using sameDs_refl a
 |.scr a=>by simpa [fI] using sameDs_refl a
theorem sameDs_refl:∀ a:List D,sameDs a a=true
 |[]=>by simp[sameDs]
 |a::as=>by simp[sameDs,rY a,sameDs_refl as]
end
noncomputable def iv (xs:List Int):List D:=xs.map D.int
noncomputable def RowV (ω:Om) (d:D) (xs:List Int):Prop:=fW ω d=wj (iv xs)
theorem RowV.it (h:RowV ω d xs):∃ chk,mO ω d=wj (iv xs,chk)/\chk ω=true:=by
 rcases fB h with rfl|⟨n,rfl,e⟩
 ·exact⟨bW,rfl,rfl⟩
 ·refine⟨jQ n (iv xs),?_,?_⟩
  ·show(match ω[n]? with
    |some (.ml ds)=>wj (ds,jQ n ds)
    |_=>wk)=_
   rw[e]
  ·unfold jQ;rw[e];exact sameDs_refl _
theorem kK (e:ω[n]?=wj (.ml ds)):bE ω (.obj n) (.int a)=atI ds a:=by
 simp only[bE,cellOf,e];rfl
theorem RowV.ix (h:RowV ω d xs) {a:Int} (h0:0<=a) (h1:a<xs.length):bE ω d (.int a)=wj (.int (xs.getD a.toNat 0)):=by
 have key:atI (iv xs) a=wj (.int (xs.getD a.toNat 0)):=by
  unfold atI ixN iv;have hl:a<((xs.map D.int).length:Int):=by simpa using h1
  rw[if_pos h0,if_pos hl]
  show(xs.map D.int)[a.toNat]?=_
  have:a.toNat<xs.length:=by omega
  rw[ax,bi this,au,bi this];rfl
 rcases fB h with rfl|⟨n,rfl,e⟩
 ·exact key
 ·rw[kK e];exact key
theorem aK (e1:f ρ ω=wj (.ok a,ω1)) (e2:h ρ ω1=wj (.ok b,ω2)) (e3:bE ω2 a b=wj d):o2 (fun ω a b=>pu (bE ω a b) ω) f h ρ ω=wj (.ok d,ω2):=eW e1 e2 (by show pu (bE ω2 a b) ω2=_;rw[e3];rfl)
theorem pH (h:RowV ω d xs) {a b:Int} (h0:0<=a) (h1:a<xs.length):fG [d,.tup [.int a,.int b]] ω=wj (.ok (.bl (decide (b<=xs.getD a.toNat 0))),ω):=by
 refine aT rfl (bH (gJ (aK (aB (d:=.tup [.int a,.int b]) rfl) aU rfl) (aK (aB (d:=d) rfl) (aK (aB (d:=.tup [.int a,.int b]) rfl) aU rfl) (h.ix h0 h1)) rfl))
theorem CO (e1:f ρ ω=wj (.ok a,ω)) (e2:h ρ ω=wj (.ok b,ω)) (h1:RowV ω a xs) (h2:RowV ω b ys):∃ chk,oIZ (aC f (aC h aP)) ρ ω=wj (.ok (yH (iv xs) (iv ys),chk),ω)/\chk ω=true:=by
 obtain⟨c1,g1,k1⟩:=h1.it;obtain⟨c2,g2,k2⟩:=h2.it;refine⟨fun ω=>c1 ω&&c2 ω,?_,by simp[k1,k2]⟩;unfold oIZ;rw[bI (aA e1 (aA e2 aE))];show oR (pu (NT ω [a,b]) ω)=_;unfold NT;show oR (pu ((mO ω a).bind _) ω)=_;rw[g1];show oR (pu ((mO ω b).map _) ω)=_;rw[g2];rfl
theorem tL (hG:∀ x y,G (.tup [.int x,.int y])=.int (g x y)):(yH (iv xs) (iv ys)).map G=iv (br g xs ys):=by
 unfold yH iv;rw[vc]
 induction xs generalizing ys with
 |nil=>rfl
 |cons x r ih=>
  cases ys with
  |nil=>rfl
  |cons y r'=>simp only[jc,bh,hG,ih]
theorem yF (h:d∈yH (iv xs) (iv ys)):∃ x y,d=.tup [.int x,.int y]:=by
 unfold yH iv at h;rw[vc] at h
 induction xs generalizing ys with
 |nil=>simp at h
 |cons x r ih=>
  cases ys with
  |nil=>simp at h
  |cons y r'=>
   rw[jc] at h;rcases ai.mp h with h|h
   ·exact⟨x,y,h⟩
   ·exact ih h
theorem yG (h:xs.length<=sizeLine):(yH (iv xs) (iv ys)).length<=sizeLine:=by
 unfold yH iv;rw[fj,ao,ao];omega
noncomputable def D2 (g:Int->Int->Int):D->D
 |.tup [.int x,.int y]=>.int (g x y)
 |d=>d
noncomputable def mx (i j:Int):Int:=if j>i then j else i
noncomputable def mn (i j:Int):Int:=if j<i then j else i
theorem nS:∀ xs:List Int,kQ (iv xs)=wj xs
 |[]=>rfl
 |x::r=>by
  show(kQ (iv r)).map _=_
  rw[nS r];rfl
theorem wR (h1:RowV ω a xs) (h2:RowV ω b ys) (hl:xs.length<=sizeLine):gN [a,b] ω=wj (.ok (.obj ω.length),ω++[.ml (iv (br mx xs ys))]):=by
 obtain⟨chk,z1,z2⟩:=CO (f:=oP (aD 0)) (h:=oP (aD 1)) (ρ:=cF Bz [a,b]) (aB (d:=a) rfl) (aB (d:=b) rfl) h1 h2;refine aT rfl (bH (oS z1 (yG hl) ?_));rw[<- tL (G:=D2 mx) (fun _ _=>rfl)];refine lP (fun ρ=>ρ.length=2) z2 rfl fun d hd ρ hρ=> ?_;obtain⟨x,y,rfl⟩:=yF hd
 match ρ,hρ with
 |[u,v],_=>exact⟨_,rfl,rfl,rfl⟩
theorem Gw (h1:RowV ω a xs) (h2:RowV ω b ys) (hl:xs.length<=sizeLine):yR [a,b] ω=wj (.ok (.int (br (fun x y=>mx (y-x) 0) xs ys).sum),ω):=by
 obtain⟨chk,z1,z2⟩:=CO (f:=oP (aD 0)) (h:=oP (aD 1)) (ρ:=cF Fp [a,b]) (aB (d:=a) rfl) (aB (d:=b) rfl) h1 h2;refine aT rfl (bH (dD (aA (gC (ω2:=ω) (out:=iv (br (fun x y=>mx (y-x) 0) xs ys)) z1 (yG hl) ?_) aE) ?_))
 ·rw[<- tL (G:=D2 fun x y=>mx (y-x) 0) (fun _ _=>rfl)];refine lP (fun ρ=>ρ.length=2) z2 rfl fun d hd ρ hρ=> ?_;obtain⟨x,y,rfl⟩:=yF hd
  match ρ,hρ with
  |[u,v],_=>exact⟨_,rfl,rfl,rfl⟩
 ·show pu ((kQ (iv _)).map _) ω=_;rw[nS];rfl
theorem fJ (h:F ρ ω=wj (.nx ρ',ω')):sNx F ρ ω=wj (.nx ρ',ω'):=by
 unfold sNx;rw[h]
structure Hd where
 knows:List (List Int)
 table:List (List Key×D)
 kept:List (List Key×D)
noncomputable def RowsAt (ω:Om):List Nat->List (List Int)->Prop:=jw fun r xs=>ω[r]?=wj (Ob.ml (iv xs))
structure HandAt (ω:Om) (h:Nat) (i:Int) (hd:Hd) (k t e:Nat) (rs:List Nat):Prop where
 obj:ω[h]?=wj (.ins 0 [("number",.int i),("knows",.obj k),("table",.obj t),("kept",.obj e)])
 kn:ω[k]?=wj (.ml (rs.map D.obj))
 rows:RowsAt ω rs hd.knows
 tb:ω[t]?=wj (.dt hd.table)
 kp:ω[e]?=wj (.dt hd.kept)
 nd:(h::k::t::e::rs).Nodup
theorem RowsAt.get (h:RowsAt ω rs kn) {j:Nat} (e:kn[j]?=wj xs):∃ r,rs[j]?=wj r/\ω[r]?=wj (.ml (iv xs)):=by
 induction h generalizing j with
 |nil=>simp at e
 |cons hr _ ih=>
  cases j with
  |zero=>simp at e;subst e;exact⟨_,rfl,hr⟩
  |succ j=>simp at e;obtain⟨r,e1,e2⟩:=ih e;exact⟨r,by simpa using e1,e2⟩
theorem RowsAt.length (h:RowsAt ω rs kn):rs.length=kn.length:=i6 h
theorem fU (e1:f ρ ω=wj (.ok (.obj n),ω1)) (e2:ω1[n]?=wj (.ins c fs)) (e3:fs.lookup x=wj d):fY c x f ρ ω=wj (.ok d,ω1):=by
 unfold fY;rw[bI e1];show oR (pu (Lf c x ω1 (.obj n)) ω1)=_
 have:Lf c x ω1 (.obj n)=wj d:=by
  simp[Lf,cellOf,e2,e3]
 rw[this];rfl
theorem bZ (e1:fo ρ ω=wj (.ok (.obj n),ω1)) (e2:ω1[n]?=wj (.ins c fs)) (e3:fs.lookup m=wk) (e4:fl ρ ω1=wj (.ok ds,ω2)) (e5:φ (.obj n::ds) ω2=wj (r,ω3)):
  bJ c m φ fo fl ρ ω=wj (r,ω3):=by
 unfold bJ;rw[bI e1]
 have:Cg c m ω1 (.obj n)=true:=by
  simp only[Cg,cellOf,e2,e3];simp
 show(if Cg c m ω1 (.obj n)=true then _ else wk)=_
 rw[if_pos this,bI e4];exact e5
section
variable {ω:Om}{h k t e:Nat}{i:Int}{hd:Hd}{rs:List Nat}{ρ:Rho}{f:OG D}
theorem HandAt.number (H:HandAt ω h i hd k t e rs) (ef:f ρ ω=wj (.ok (.obj h),ω)):fY 0 "number" f ρ ω=wj (.ok (.int i),ω):=fU ef H.obj rfl
theorem HandAt.knows (H:HandAt ω h i hd k t e rs) (ef:f ρ ω=wj (.ok (.obj h),ω)):fY 0 "knows" f ρ ω=wj (.ok (.obj k),ω):=fU ef H.obj rfl
theorem HandAt.table (H:HandAt ω h i hd k t e rs) (ef:f ρ ω=wj (.ok (.obj h),ω)):fY 0 "table" f ρ ω=wj (.ok (.obj t),ω):=fU ef H.obj rfl
theorem HandAt.kept (H:HandAt ω h i hd k t e rs) (ef:f ρ ω=wj (.ok (.obj h),ω)):fY 0 "kept" f ρ ω=wj (.ok (.obj e),ω):=fU ef H.obj rfl
noncomputable def Hd.seen (hd:Hd) (i:Nat):List Int:=hd.knows.getD i []
theorem kB {i:Nat} (H:HandAt ω h i hd k t e rs) (hr:rs[i]?=wj r):bX [.obj h] ω=wj (.ok (.obj r),ω):=by
 refine aT rfl (bH (aK (H.knows (aB rfl)) (H.number (aB rfl)) ?_));rw[kK H.kn];have hl:i<rs.length:=(bg.mp hr).1;unfold atI ixN;rw[if_pos (jg i),if_pos (by simpa using hl)]
 show(rs.map D.obj)[i]?=_
 rw[ax,hr];rfl
theorem HandAt.seenRow {i:Nat} (H:HandAt ω h i hd k t e rs) (hi:i<hd.knows.length):∃ r,rs[i]?=wj r/\ω[r]?=wj (.ml (iv (hd.seen i))):=by
 refine H.rows.get ?_;unfold Hd.seen;rw[au,bi hi];rfl
noncomputable def Hd.entries (hd:Hd):Option (List D):=eD 4 (hd.table.map (·.2))
theorem jL (H:HandAt ω h i hd k t e rs) (hs:hd.entries=wj out):bV [.obj h] ω=wj (.ok (.lst out),ω):=by
 refine aT rfl (bH ?_);unfold Go;rw[bI (H.table (aB rfl))];show oR (pu (Ez 4 ω (.obj t)) ω)=_
 have:Ez 4 ω (.obj t)=wj (.lst out):=by
  simp only[Ez,cellOf,H.tb]
  show(hd.entries).map _=_
  rw[hs];rfl
 rw[this];rfl
theorem cI (e1:fo ρ ω=wj (.ok (.obj n),ω1)) (e2:ω1[n]?=wj (.ins c fs)) (e3:fs.lookup m=wk) (e5:φ [.obj n] ω1=wj (r,ω3)):
  bJ c m φ fo aP ρ ω=wj (r,ω3):=bZ e1 e2 e3 aE e5
noncomputable def marksIn (name:D) (rows:List D):List D:=(rows.filter fun d=>match d with|.tup (a::_)=>(eqD 8 a name)==wj true|_=>false).map fun d=>match d with|.tup (_::m::_)=>m|_=>.non
noncomputable def fA (d:D):Prop:=∃ x a b v,d=.tup [.str x,.tup [.int a,.int b],.int v]
theorem gW (n:Nat) (x y:Str):eqD n (.str x) (.str y)=wj (decide (x=y)):=by cases n <;> rfl
theorem GA (H:HandAt ω h i hd k t e rs) (hs:hd.entries=wj out) (he:∀ d∈out,fA d) (hl:out.length<=sizeLine) (y:Str):dB [.obj h,.str y] ω=wj (.ok (.lst (marksIn (.str y) out)),ω):=by
 have e1:bJ 0 "entries" bV (oP (aD 0)) aP (cF jD [.obj h,.str y]) ω=wj (.ok (.lst out),ω):=cI (aB rfl) H.obj rfl (jL H hs);refine aT rfl (bH (gC (ds:=out) (chk:=bW) (ω1:=ω) ?_ hl ?_))
 ·unfold oIL;rw[bI e1];rfl
 ·unfold marksIn;refine eN (fun ρ=>∃ u,ρ=[u,wj (.str y)]) rfl ⟨_,rfl⟩ fun d hd ρ hρ=> ?_;obtain⟨x,a,b,v,rfl⟩:=he d hd;obtain⟨u,rfl⟩:=hρ;refine⟨_,rfl,⟨_,rfl⟩,?_,fun _=>rfl⟩;refine cK (eW (aK (aB rfl) aU rfl) (aB rfl) ?_);show pu ((eqD 8 (.str x) (.str y)).map D.bl) ω=_;rw[gW];show wj (D.bl (decide (x=y)),ω)=wj (D.bl (eqD 8 (.str x) (.str y)==wj true),ω);rw[gW];cases decide (x=y) <;> rfl
theorem eY {o i v:D} (e1:fv ρ ω=wj (.ok v,ω1)) (e2:fo ρ ω1=wj (.ok o,ω2)) (e3:fi ρ ω2=wj (.ok i,ω3)) (e4:g ω3 o i v=wj ω4):iL g fo fi fv ρ ω=wj (.nx ρ,ω4):=by
 unfold iL;rw[cD e1,cD e2,cD e3]
 show(g ω3 o i v).map _=_
 rw[e4];rfl
theorem lY {j:Nat} (e:ω[n]?=wj (.ml ds)) (hj:j<ds.length):pO ω (.obj n) (.int j) v=wj (ω.set n (.ml (ds.set j v))):=by
 simp only[pO,e];unfold ixN;rw[if_pos (jg j),if_pos (by simpa using hj)];simp
theorem aH (h:m≠n):(ω.set n ob)[m]?=ω[m]?:=fy (bv h)
theorem cC (h:ω[n]?=wj ob'):(ω.set n ob)[n]?=wj ob:=by
 have hl:n<ω.length:=(bg.mp h).1;simp[hl]
theorem RowsAt.mono (h:RowsAt ω rs kn) (k:∀ r∈rs,ω'[r]?=ω[r]?):RowsAt ω' rs kn:=by
 induction h with
 |nil=>exact .nil
 |cons hr _ ih=>exact .cons ((k _ aq).trans hr) (ih fun r hr=>k r (ag _ hr))
theorem HandAt.mono (H:HandAt ω h i hd k t e rs) (g:∀ n∈h::k::t::e::rs,ω'[n]?=ω[n]?):HandAt ω' h i hd k t e rs:=
 ⟨(g h (by simp)).trans H.obj,(g k (by simp)).trans H.kn,H.rows.mono fun r hr=>g r (by simp[hr]),(g t (by simp)).trans H.tb,(g e (by simp)).trans H.kp,H.nd⟩
theorem RowsAt.set (h:RowsAt ω rs kn) (nd:rs.Nodup) (hr:rs[j]?=wj r):RowsAt (ω.set r (.ml (iv xs))) rs (kn.set j xs):=by
 induction h generalizing j with
 |nil=>simp at hr
 |@cons r0 x0 rs' kn' h0 t ih=>
  rw[b0] at nd;cases j with
  |zero=>
   simp at hr;subst hr;rw[uv];refine .cons (cC h0) (RowsAt.mono t fun q hq=>aH fun z=>nd.1 (z ▸ hq))
  |succ j=>
   simp at hr;rw[uw];refine .cons ?_ (ih nd.2 hr)
   show(ω.set r (.ml (iv xs)))[r0]?=_
   rw[aH (show r0≠r from fun z=>nd.1 (by rw[z];exact fz hr))];exact h0
noncomputable def Keep (fp:List Nat) (ω ω':Om):Prop:=ω.length<=ω'.length/\∀ n,n<ω.length->n∉fp->ω'[n]?=ω[n]?
theorem Keep.refl (fp:List Nat) (ω:Om):Keep fp ω ω:=⟨bf _,fun _ _ _=>rfl⟩
theorem Keep.trans (a:Keep fp ω ω1) (b:Keep fp ω1 ω2):Keep fp ω ω2:=⟨cf a.1 b.1,fun n h1 h2=>(b.2 n (b4 h1 a.1) h2).trans (a.2 n h1 h2)⟩
theorem Keep.set (h:n∈fp):Keep fp ω (ω.set n ob):=⟨by simp,fun m _ hm=>aH fun z=>hm (z ▸ h)⟩
noncomputable def Hd.bump (hd:Hd) (i:Nat):Hd:={ hd with knows:=hd.knows.set i ((hd.seen i).set i ((hd.seen i).getD i 0+1)) }
theorem oU {i:Nat} (H:HandAt ω h i hd k t e rs) (hi:i<hd.knows.length) (hs:i<(hd.seen i).length):∃ ω',dA [.obj h] ω=wj (.ok (.tup [.int i,.int ((hd.seen i).getD i 0+1)]),ω')/\HandAt ω' h i (hd.bump i) k t e rs/\Keep rs ω ω'/\ω'.length=ω.length:=by
 obtain⟨r,hr,er⟩:=H.seenRow hi;have hm:r∈rs:=fz hr;have nd:=H.nd;simp only[b0,ai,not_or] at nd;obtain⟨⟨h1,h2,h3,h4⟩,⟨h5,h6,h7⟩,⟨h8,h9⟩,h10,h11⟩:=nd;have ne:∀ {n:Nat},n∉rs->n≠r:=fun hn z=>hn (z ▸ hm);refine⟨ω.set r (.ml (iv ((hd.seen i).set i ((hd.seen i).getD i 0+1)))),?_,⟨?_,?_,H.rows.set h11 hr,?_,?_,H.nd⟩,Keep.set hm,by simp⟩
 ·have ix:bE ω (.obj r) (.int i)=wj (.int ((hd.seen i).getD i 0)):=by
   have:=RowV.ix (ω:=ω) (d:=.obj r) (xs:=hd.seen i) (by unfold RowV fW;simp only[er]) (a:=i) (jg i) (by simpa using hs)
   simpa using this
  refine aT rfl ?_;unfold iU;rw[aM (cI (aB rfl) H.obj rfl (kB H hr))];have e2:(ω.set r (.ml (iv ((hd.seen i).set i ((hd.seen i).getD i 0+1)))))[h]?=ω[h]?:=aH (ne h4);rw[bA (eY (gJ (aK (aB (d:=.obj r) rfl) (H.number (aB rfl)) ix) aU rfl) (aB (d:=.obj r) rfl) (H.number (aB rfl)) (lY er (by unfold iv;simpa using hs)))];have e3:(iv (hd.seen i)).set i (.int ((hd.seen i).getD i 0+1))=iv ((hd.seen i).set i ((hd.seen i).getD i 0+1)):=by
   unfold iv;rw[ux]
  rw[e3];have H2:fY 0 "number" (oP (aD 0)) [wj (.obj h),wj (.obj r)] (ω.set r (.ml (iv ((hd.seen i).set i ((hd.seen i).getD i 0+1)))))=wj (.ok (.int i),ω.set r (.ml (iv ((hd.seen i).set i ((hd.seen i).getD i 0+1))))):=fU (aB rfl) (e2.trans H.obj) rfl;have er2:=cC (ob:=.ml (iv ((hd.seen i).set i ((hd.seen i).getD i 0+1)))) er;refine bH (dD (aA H2 (aA (aK (d:=.int ((hd.seen i).getD i 0+1)) (aB (d:=.obj r) rfl) H2 ?_) aE)) rfl)
  have:=RowV.ix (ω:=ω.set r (.ml (iv ((hd.seen i).set i ((hd.seen i).getD i 0+1))))) (d:=.obj r) (xs:=(hd.seen i).set i ((hd.seen i).getD i 0+1)) (by unfold RowV fW;simp only[er2]) (a:=i) (jg i) (by simpa using hs)
  rw[this];simp[hs]
 ·rw[aH (ne h4)];exact H.obj
 ·rw[aH (ne h7)];exact H.kn
 ·rw[aH (ne h9)];exact H.tb
 ·rw[aH (ne h10)];exact H.kp
end
section
variable {ω:Om}{h k t e:Nat}{i:Nat}{hd:Hd}{rs:List Nat}{ρ:Rho}{f:OG D}
theorem HandAt.ne (H:HandAt ω h i hd k t e rs):(h≠k/\h≠t/\h≠e/\h∉rs)/\(k≠t/\k≠e/\k∉rs)/\(t≠e/\t∉rs)/\e∉rs/\rs.Nodup:=by
 have nd:=H.nd;simp only[b0,ai,not_or] at nd;obtain⟨⟨h1,h2,h3,h4⟩,⟨h5,h6,h7⟩,⟨h8,h9⟩,h10,h11⟩:=nd;exact⟨⟨h1,h2,h3,h4⟩,⟨h5,h6,h7⟩,⟨h8,h9⟩,h10,h11⟩
theorem HandAt.setT (H:HandAt ω h i hd k t e rs) (T:List (List Key×D)):HandAt (ω.set t (.dt T)) h i { hd with table:=T } k t e rs:=by
 obtain⟨⟨h1,h2,h3,h4⟩,⟨h5,h6,h7⟩,⟨h8,h9⟩,h10,h11⟩:=H.ne;refine⟨?_,?_,H.rows.mono fun r hr=>aH fun z=>h9 (z ▸ hr),cC H.tb,?_,H.nd⟩
 ·rw[aH h2];exact H.obj
 ·rw[aH h5];exact H.kn
 ·rw[aH (bv h8)];exact H.kp
theorem HandAt.setE (H:HandAt ω h i hd k t e rs) (T:List (List Key×D)):HandAt (ω.set e (.dt T)) h i { hd with kept:=T } k t e rs:=by
 obtain⟨⟨h1,h2,h3,h4⟩,⟨h5,h6,h7⟩,⟨h8,h9⟩,h10,h11⟩:=H.ne;refine⟨?_,?_,H.rows.mono fun r hr=>aH fun z=>h10 (z ▸ hr),?_,cC H.kp,H.nd⟩
 ·rw[aH h3];exact H.obj
 ·rw[aH h6];exact H.kn
 ·rw[aH h8];exact H.tb
theorem HandAt.lt (H:HandAt ω h i hd k t e rs):∀ n∈h::k::t::e::rs,n<ω.length:=by
 intro n hn;have lt:∀ {m:Nat}{o:Ob},ω[m]?=wj o->m<ω.length:=fun q=>(bg.mp q).1;rcases ai.mp hn with rfl|hn
 ·exact lt H.obj
 rcases ai.mp hn with rfl|hn
 ·exact lt H.kn
 rcases ai.mp hn with rfl|hn
 ·exact lt H.tb
 rcases ai.mp hn with rfl|hn
 ·exact lt H.kp
 ·have:∀ {rs:List Nat}{kn:List (List Int)},RowsAt ω rs kn->∀ n∈rs,n<ω.length:=by
   intro rs kn hR
   induction hR with
   |nil=>intro n hn;simp at hn
   |cons hr _ ih=>
    intro n hn;rcases ai.mp hn with rfl|hn
    ·exact lt hr
    ·exact ih n hn
  exact this H.rows n hn
noncomputable def gD (i:Nat) (b:Int):List Key:=[.inl (i:Int),.inl b]
noncomputable def mkD (i:Nat) (b:Int):D:=.tup [.int i,.int b]
noncomputable def Hd.next (hd:Hd) (i:Nat):Int:=(hd.seen i).getD i 0+1
noncomputable def Hd.put (hd:Hd) (i:Nat) (x:Str) (v:Int):Hd:={ hd.bump i with table:=putD hd.table (gD i (hd.next i)) (.tup [.str x,mkD i (hd.next i),.int v]) }
theorem pT (e:ω[n]?=wj (.dt kvs)) (hk:CL y=wj ks) (hl:kvs.length<sizeLine):mU ω (.obj n) y v=wj (ω.set n (.dt (putD kvs ks v))):=by
 simp only[mU,e,hk]
 show(if kvs.length<sizeLine then _ else wk)=_
 rw[if_pos hl]
theorem LI (H:HandAt ω h i hd k t e rs) (hi:i<hd.knows.length) (hs:i<(hd.seen i).length) (hl:hd.table.length<sizeLine) (x:Str) (v:Int):
  ∃ ω',eK [.obj h,.str x,.int v] ω=wj (.ok (mkD i (hd.next i)),ω')/\HandAt ω' h i (hd.put i x v) k t e rs/\Keep (t::rs) ω ω'/\ω'.length=ω.length:=by
 obtain⟨ω1,e1,H1,K1,L1⟩:=oU H hi hs;have hb:(hd.bump i).table=hd.table:=rfl;refine⟨ω1.set t (.dt (putD hd.table (gD i (hd.next i)) (.tup [.str x,mkD i (hd.next i),.int v]))),?_,?_,⟨by simp[L1],fun n hn hm=> ?_⟩,by simp[L1]⟩
 ·refine aT rfl ?_;unfold sR;rw[aM (cI (aB rfl) H.obj rfl e1)];rw[bA (eY (dD (aA (aB (d:=.str x) rfl) (aA (aB (d:=mkD i (hd.next i)) rfl) (aA (aB (d:=.int v) rfl) aE))) rfl) (H1.table (aB rfl)) (aB (d:=mkD i (hd.next i)) rfl) (pT (ks:=gD i (hd.next i)) H1.tb rfl hl))];exact bH (aB rfl)
 ·exact H1.setT _
 ·rw[aH (fun z=>hm (by rw[z];simp))];exact K1.2 n hn fun z=>hm (ag _ z)
noncomputable def common:List (List Int)->List Int
 |[]=>[]
 |r::rest=>rest.foldl (br mn) r
theorem EX (hk:ω[k]?=wj (.ml (rs.map D.obj))) (hr:RowsAt ω rs kn) (hne:kn≠[]) (hl:∀ xs∈kn,xs.length<=sizeLine):nH [.obj k] ω=wj (.ok (.lst (iv (common kn))),ω):=by
 cases hr with
 |nil=>exact absurd rfl hne
 |@cons r0 x0 rs kn h0 ht=>
  refine aT rfl ?_;unfold Bh;have e0:bE ω (.obj k) (.int 0)=wj (.obj r0):=by
   rw[kK hk];unfold atI ixN;simp
  rw[aM (d:=.lst (iv x0)) (dD (aA (aK (aB (d:=.obj k) rfl) aU e0) aE) (by
   show(cA ω (.obj r0)).map _=_
   have:cA ω (.obj r0)=wj (iv x0):=by simp only[cA,fW,h0]
   rw[this];rfl))]
  have e1:oSl (oP (aD 0)) (dSo (dC (.int 1))) dNo ((cF vH [.obj k]).set 1 (wj (.lst (iv x0)))) ω=wj (.ok (.lst (rs.map D.obj)),ω):=by
   unfold oSl;rw[bI (aB (d:=.obj k) rfl)];show oR (pu (Nk ω (.obj k) (wj 1) wk) ω)=_
   have:Nk ω (.obj k) (wj 1) wk=wj (.lst (Cy ((r0::rs).map D.obj) (wj 1) wk)):=by simp only[Nk,fW,hk]
   rw[this];have c1:Cy ((r0::rs).map D.obj) (wj 1) wk=rs.map D.obj:=by
    simp only[Cy,HT.sIx];simp[r9]
   rw[c1];rfl
  have hloop:∃ ρ' ω',bR (aY 2) bW fS (rs.map D.obj) ((cF vH [.obj k]).set 1 (wj (.lst (iv x0)))) ω=wj (.nx ρ',ω')/\(ω'=ω/\∃ v,ρ'=[wj (.obj k),wj (.lst (iv (kn.foldl (br mn) x0))),v]):=by
   have gen:∀ {rs:List Nat}{kn:List (List Int)},RowsAt ω rs kn->(∀ xs∈kn,xs.length<=sizeLine)->∀(x0:List Int) (v:Option D),x0.length<=sizeLine->∃ ρ' ω',bR (aY 2) bW fS (rs.map D.obj) [wj (.obj k),wj (.lst (iv x0)),v] ω=wj (.nx ρ',ω')/\(ω'=ω/\∃ v,ρ'=[wj (.obj k),wj (.lst (iv (kn.foldl (br mn) x0))),v]):=by
    intro rs kn hR
    induction hR with
    |nil=>intro _ x0 v _;exact⟨_,_,rfl,rfl,_,rfl⟩
    |@cons r1 x1 rs kn h1 _ ih=>
     intro hl x0 v hx;obtain⟨ρ',ω',g1,g2,g3⟩:=ih (fun xs hxs=>hl xs (ag _ hxs)) (br mn x0 x1) (wj (.obj r1)) (by rw[fj];omega);refine⟨ρ',ω',?_,g2,g3⟩;rw[<- g1];have step:fS [wj (.obj k),wj (.lst (iv x0)),wj (.obj r1)] ω=wj (.nx [wj (.obj k),wj (.lst (iv (br mn x0 x1))),wj (.obj r1)],ω):=by
      obtain⟨chk,z1,z2⟩:=CO (f:=oP (aD 1)) (h:=oP (aD 2)) (ρ:=[wj (.obj k),wj (.lst (iv x0)),wj (.obj r1)]) (ω:=ω) (a:=.lst (iv x0)) (b:=.obj r1) (xs:=x0) (ys:=x1) (aB rfl) (aB rfl) rfl (by unfold RowV fW;simp only[h1]);unfold fS aX;rw[cD (gC (ω2:=ω) (out:=iv (br mn x0 x1)) z1 (yG hx) (by
       rw[<- tL (G:=D2 mn) (fun _ _=>rfl)];refine lP (fun ρ=>ρ.length=2) z2 rfl fun d hd ρ hρ=> ?_;obtain⟨x,y,rfl⟩:=yF hd
       match ρ,hρ with
       |[u,v],_=>exact⟨_,rfl,rfl,rfl⟩))]
      rfl
     exact dZ rfl rfl step
   exact gen ht (fun xs hxs=>hl xs (ag _ hxs)) x0 wk (hl x0 aq)
  obtain⟨ρ',ω',g1,rfl,v,rfl⟩:=hloop;rw[bA (fJ (by
   unfold bN oIL;rw[cD (bI e1)];exact g1))]
  exact bH (aB rfl)
end
theorem tV (hl:ds.length=n) (e:G (cF N ds) ω=wj (.nx ρ1,ω1)):eC n N G ds ω=wj (.ok .non,ω1):=by
 unfold eC;rw[if_pos hl,e]
theorem oI:∀ kvs:List (List Key×D),rX kvs kvs=true
 |[]=>rfl
 |a::r=>by simp[rX,rY,oI r]
theorem yZ (h:ω[n]?=wj (.dz kvs)):wV n kvs ω=true:=by
 unfold wV;rw[h];exact oI kvs
noncomputable def Py (c:Nat) (k:List Key):Prop:=∃ a b:Int,k=[.inl a,.inl b]/\0<=a/\a<c
noncomputable def fX (xs:List Int):List Key->Bool
 |[.inl a,.inl b]=>decide (b<=xs.getD a.toNat 0)
 |_=>false
theorem yJ (nd:(kvs.map (·.1)).Nodup) {kv:List Key×D} (h:kv∈kvs):iE kvs kv.1=wj kv.2:=by
 induction kvs with
 |nil=>simp at h
 |cons p r ih=>
  rw[bh,b0] at nd;unfold iE;rcases ai.mp h with rfl|h
  ·simp[gq]
  ·have hne:p.1≠kv.1:=fun z=>nd.1 (z ▸ aw.mpr ⟨kv,h,rfl⟩);rw[List.find?_cons_of_neg (by simpa using hne)];exact ih nd.2 h
theorem tW {k:List Key} (h:k∉kvs.map (·.1)):putD kvs k v=kvs++[(k,v)]:=by
 unfold putD;rw[if_neg];simp only[nv,decide_eq_true_eq,not_exists,not_and];intro x hx z;exact h (aw.mpr ⟨x,hx,z⟩)
section
variable {ω:Om}{h k t e:Nat}{i:Nat}{hd:Hd}{rs:List Nat}{ρ:Rho}{f:OG D}
noncomputable def Hd.forget (hd:Hd):Hd:={ hd with kept:=hd.kept.filter fun kv=> !fX (common hd.knows) kv.1 }
structure Hd.Ok (c:Nat) (hd:Hd):Prop where
 len:hd.knows.length=c
 row:∀ xs∈hd.knows,xs.length=c
 small:c<=8
 pos:0<c
 kk:∀ kv∈hd.kept,Py c kv.1
 kn:(hd.kept.map (·.1)).Nodup
 kl:hd.kept.length<64
 tk:∀ kv∈hd.table,∃ a b:Int,0<=a/\a<c/\kv.1=[.inl a,.inl b]/\∃ x v,kv.2=.tup [.str x,.tup [.int a,.int b],.int v]
 tn:(hd.table.map (·.1)).Nodup
 tl:hd.table.length<64
theorem Cz:∀ {kn:List (List Int)},kn≠[]->(∀ xs∈kn,xs.length=c)->(common kn).length=c
 |[],hne,_=>absurd rfl hne
 |r::rest,_,h=>by
  have gen:∀(rest:List (List Int)) (r:List Int),r.length=c->(∀ xs∈rest,xs.length=c)->(rest.foldl (br mn) r).length=c:=by
   intro rest
   induction rest with
   |nil=>intro r hr _;exact hr
   |cons x rest ih=>
    intro r hr hx;refine ih _ ?_ fun xs hxs=>hx xs (ag _ hxs);rw[fj,hr,hx x aq,i4]
  exact gen rest r (h r aq) fun xs hxs=>h xs (ag _ hxs)
theorem xD (H:HandAt ω h i hd k t e rs) (W:hd.Ok c):∃ ω',fC [.obj h] ω=wj (.ok .non,ω')/\HandAt ω' h i hd.forget k t ω.length rs/\Keep [h] ω ω':=by
 have hne:hd.knows≠[]:=fun z=>by have:=W.len;rw[z] at this;have:=W.pos;simp at*;omega
 have hcl:=Cz hne W.row;obtain⟨⟨h1,h2,h3,h4⟩,⟨h5,h6,h7⟩,⟨h8,h9⟩,h10,h11⟩:=H.ne;have ltn:∀ {n:Nat},n∈h::k::t::e::rs->n≠ω.length:=fun hn z=>absurd (H.lt _ hn) (by rw[z];exact gk _);have e1:bO nH (aC (fY 0 "knows" (oP (aD 0))) aP) (cF iD [.obj h]) ω=wj (.ok (.lst (iv (common hd.knows))),ω):=aW (aA (H.knows (aB rfl)) aE) (EX H.kn H.rows hne fun xs hx=>by rw[W.row xs hx,bu];have:=W.small;omega)
 -- the loop
 have loop:∀(post pre:List (List Key×D)) (v:Option D) (ω1:Om),hd.kept=pre++post->ω1[ω.length]?=wj (.dt (pre.filter fun kv=> !fX (common hd.knows) kv.1))->ω1[e]?=wj (.dz hd.kept)->(∀ n,n<ω.length->n≠e->ω1[n]?=ω[n]?)->ω1.length=ω.length+1->
   ∃ ρ' ω',bR (aY 3) (wV e hd.kept) aS (post.map fun kv=>bK kv.1) [wj (.obj h),wj (.lst (iv (common hd.knows))),wj (.obj ω.length),v] ω1=wj (.nx ρ',ω')/\(∃ v,ρ'=[wj (.obj h),wj (.lst (iv (common hd.knows))),wj (.obj ω.length),v])/\
    ω'[ω.length]?=wj (.dt (hd.kept.filter fun kv=> !fX (common hd.knows) kv.1))/\ω'[e]?=wj (.dz hd.kept)/\(∀ n,n<ω.length->n≠e->ω'[n]?=ω[n]?)/\ω'.length=ω.length+1:=by
  intro post
  induction post with
  |nil=>
   intro pre v ω1 hp g1 g2 g3 g4;rw[c4] at hp;refine⟨_,ω1,by show(if wV e hd.kept ω1=true then _ else wk)=_;rw[if_pos (yZ g2)],⟨v,rfl⟩,by rw[hp];exact g1,g2,g3,g4⟩
  |cons kv post ih=>
   intro pre v ω1 hp g1 g2 g3 g4;have hm:kv∈hd.kept:=by rw[hp];simp
   obtain⟨a,b,hk,ha0,ha1⟩:=W.kk kv hm;have hdk:bK kv.1=.tup [.int a,.int b]:=by rw[hk];rfl
   have hseen:fG [.lst (iv (common hd.knows)),.tup [.int a,.int b]] ω1=wj (.ok (.bl (fX (common hd.knows) kv.1)),ω1):=by
    rw[hk];exact pH (ω:=ω1) (d:=.lst (iv (common hd.knows))) (xs:=common hd.knows) (show fW ω1 (.lst (iv (common hd.knows)))=_ from rfl) ha0 (by rw[hcl];exact ha1)
   have hobj:ω1[h]?=wj (.ins 0 [("number",.int i),("knows",.obj k),("table",.obj t),("kept",.obj e)]):=by rw[g3 h (H.lt h (by simp)) h3];exact H.obj
   have hp':hd.kept=(pre++[kv])++post:=by rw[g7];exact hp
   have first:∀ ω2,aS [wj (.obj h),wj (.lst (iv (common hd.knows))),wj (.obj ω.length),wj (.tup [.int a,.int b])] ω1=wj (.nx [wj (.obj h),wj (.lst (iv (common hd.knows))),wj (.obj ω.length),wj (.tup [.int a,.int b])],ω2)->
     bR (aY 3) (wV e hd.kept) aS ((kv::post).map fun kv=>bK kv.1) [wj (.obj h),wj (.lst (iv (common hd.knows))),wj (.obj ω.length),v] ω1=bR (aY 3) (wV e hd.kept) aS (post.map fun kv=>bK kv.1) [wj (.obj h),wj (.lst (iv (common hd.knows))),wj (.obj ω.length),wj (.tup [.int a,.int b])] ω2:=fun ω2 q=>by
    rw[bh,hdk]
    show(if wV e hd.kept ω1=true then(match aS [wj (.obj h),wj (.lst (iv (common hd.knows))),wj (.obj ω.length),wj (.tup [.int a,.int b])] ω1 with
     |none=>wk
     |some (.nx ρ2,ω2)=>bR (aY 3) (wV e hd.kept) aS (post.map fun kv=>bK kv.1) ρ2 ω2
     |some (.ct ρ2,ω2)=>bR (aY 3) (wV e hd.kept) aS (post.map fun kv=>bK kv.1) ρ2 ω2
     |some (.bk ρ2,ω2)=>wj (.nx ρ2,ω2)
     |some (.rt d,ω2)=>wj (.rt d,ω2)
     |some (.ex _,_)=>wk) else wk)=_
    rw[if_pos (yZ g2),q]
   have tst:jU (jT (bO fG (aC (oP (aD 1)) (aC (oP (aD 3)) aP)))) [wj (.obj h),wj (.lst (iv (common hd.knows))),wj (.obj ω.length),wj (.tup [.int a,.int b])] ω1=wj (.ok (!fX (common hd.knows) kv.1),ω1):=by
    unfold jU jT;rw[bI (bI (aW (aA (aB rfl) (aA (aB rfl) aE)) hseen))]
   cases hs:fX (common hd.knows) kv.1 with
   |true=>
    have b1:aS [wj (.obj h),wj (.lst (iv (common hd.knows))),wj (.obj ω.length),wj (.tup [.int a,.int b])] ω1=wj (.nx [wj (.obj h),wj (.lst (iv (common hd.knows))),wj (.obj ω.length),wj (.tup [.int a,.int b])],ω1):=by
     unfold aS;rw[hs] at tst;rw[mB tst];rfl
    rw[first ω1 b1];refine ih (pre++[kv]) _ ω1 hp' ?_ g2 g3 g4;rw[jh,c9 (by rw[hs];decide),kq,c4];exact g1
   |false=>
    have nin:kv.1∉(pre.filter fun kv=> !fX (common hd.knows) kv.1).map (·.1):=fun z=>by
     obtain⟨q,q1,q2⟩:=aw.mp z;have nd:=W.kn;rw[hp,c6,jo] at nd;exact nd.2.2 _ (aw.mpr ⟨q,(b8.mp q1).1,rfl⟩) _ (aw.mpr ⟨kv,aq,rfl⟩) q2
    have fl:(pre.filter fun kv=> !fX (common hd.knows) kv.1).length<sizeLine:=by
     have h1:=dy (fun kv:List Key×D=> !fX (common hd.knows) kv.1) pre;have h2:=W.kl;rw[hp,b7] at h2;rw[bu];omega
    have dg:cL ω1 (.obj e) (.tup [.int a,.int b])=wj kv.2:=by
     have:iE hd.kept [.inl a,.inl b]=wj kv.2:=by rw[<- hk];exact yJ W.kn hm
     simp only[cL,CN,cellOf,g2]
     show(((wj [.inl a,.inl b]:Option (List Key)).map fun k=>iE hd.kept k)).join=_
     show(wj (iE hd.kept [.inl a,.inl b])).join=_
     rw[this];rfl
    have b1:aS [wj (.obj h),wj (.lst (iv (common hd.knows))),wj (.obj ω.length),wj (.tup [.int a,.int b])] ω1=wj (.nx [wj (.obj h),wj (.lst (iv (common hd.knows))),wj (.obj ω.length),wj (.tup [.int a,.int b])],ω1.set ω.length (.dt ((pre.filter fun kv=> !fX (common hd.knows) kv.1)++[kv]))):=by
     unfold aS;rw[hs] at tst;rw[lZ tst];refine eY (v:=kv.2) (ω1:=ω1) (ω2:=ω1) (ω3:=ω1) (o:=.obj ω.length) (i:=.tup [.int a,.int b]) (eW (fU (aB rfl) hobj rfl) (aB rfl) ?_) (aB rfl) (aB rfl) ?_
     ·show pu (cL ω1 (.obj e) (.tup [.int a,.int b])) ω1=_;rw[dg];rfl
     ·rw[pT (ks:=kv.1) g1 (by rw[hk];rfl) fl,tW nin]
    rw[first _ b1];refine ih (pre++[kv]) _ _ hp' ?_ ?_ (fun n hn hne=> ?_) (by simp[g4])
    ·rw[cC g1,jh,da (by rw[hs];decide),kq]
    ·rw[aH (ltn (by simp))];exact g2
    ·rw[aH (by omega)];exact g3 n hn hne
 have ge:(ω++[Ob.dt []])[e]?=wj (.dt hd.kept):=by rw[aj (H.lt e (by simp))];exact H.kp
 obtain⟨ρ',ω2,l1,⟨v,rfl⟩,l3,l4,l5,l6⟩:=loop hd.kept [] wk ((ω++[Ob.dt []]).set e (.dz hd.kept)) rfl (by rw[aH (bv (ltn (by simp)))];simp) (cC ge) (fun n hn hne=>by rw[aH hne,aj hn]) (by simp);have l3':(ω2.set e (.dt hd.kept))[ω.length]?=wj (.dt (hd.kept.filter fun kv=> !fX (common hd.knows) kv.1)):=by rw[aH (bv (ltn (by simp)))];exact l3
 have ho:(ω2.set e (.dt hd.kept))[h]?=wj (.ins 0 [("number",.int i),("knows",.obj k),("table",.obj t),("kept",.obj e)]):=by rw[aH h3,l5 h (H.lt h (by simp)) h3];exact H.obj
 refine⟨(ω2.set e (.dt hd.kept)).set h (.ins 0 [("number",.int i),("knows",.obj k),("table",.obj t),("kept",.obj ω.length)]),?_,⟨cC ho,?_,?_,?_,?_,?_⟩,⟨by simp[l6],fun n hn hm=> ?_⟩⟩
 ·have body:gU (cF iD [.obj h]) ω=wj (.nx [wj (.obj h),wj (.lst (iv (common hd.knows))),wj (.obj ω.length),v],(ω2.set e (.dt hd.kept)).set h (.ins 0 [("number",.int i),("knows",.obj k),("table",.obj t),("kept",.obj ω.length)])):=by
   unfold gU;rw[aM e1];rw[aM (d:=.obj ω.length) (ω1:=ω++[.dt []]) rfl];have ho1:(ω++[Ob.dt []])[h]?=wj (.ins 0 [("number",.int i),("knows",.obj k),("table",.obj t),("kept",.obj e)]):=by rw[aj (H.lt h (by simp))];exact H.obj
   rw[bA (fJ (by
    unfold IH;rw[cD (fU (aB (d:=.obj h) rfl) ho1 rfl)]
    have:Cs (ω++[Ob.dt []]) (.obj e)=wj (e,hd.kept):=by simp only[Cs,ge]
    show(Cs (ω++[Ob.dt []]) (.obj e)).bind _=_
    rw[this]
    show(match bR (aY 3) (wV e hd.kept) aS (hd.kept.map fun kv=>bK kv.1) [wj (.obj h),wj (.lst (iv (common hd.knows))),wj (.obj ω.length),wk] ((ω++[Ob.dt []]).set e (.dz hd.kept)) with
     |some (.nx ρ',ω')=>if wV e hd.kept ω'=true then wj (OOut.nx ρ',ω'.set e (.dt hd.kept)) else wk
     |_=>wk)=_
    rw[l1]
    show(if wV e hd.kept ω2=true then _ else wk)=_
    rw[if_pos (yZ l4)]))]
   unfold mT;rw[cD (aB (d:=.obj ω.length) rfl),cD (aB (d:=.obj h) rfl)]
   have:uM 0 "kept" (ω2.set e (.dt hd.kept)) (.obj h) (.obj ω.length)=wj ((ω2.set e (.dt hd.kept)).set h (.ins 0 [("number",.int i),("knows",.obj k),("table",.obj t),("kept",.obj ω.length)])):=by
    simp only[uM,ho];rfl
   show(uM 0 "kept" (ω2.set e (.dt hd.kept)) (.obj h) (.obj ω.length)).map _=_
   rw[this];rfl
  exact tV rfl body
 ·rw[aH (bv h1),aH h6,l5 k (H.lt k (by simp)) h6];exact H.kn
 ·refine H.rows.mono fun r hr=> ?_;rw[aH (show r≠h from fun z=>h4 (z ▸ hr)),aH (show r≠e from fun z=>h10 (z ▸ hr)),l5 r (H.lt r (by simp[hr])) (fun z=>h10 (z ▸ hr))]
 ·rw[aH (bv h2),aH h8,l5 t (H.lt t (by simp)) h8];exact H.tb
 ·rw[aH (bv (ltn (by simp)))];exact l3'
 ·have nn:∀ n∈h::k::t::rs,n≠ω.length:=fun n hn=>ltn (by
   simp only[ai] at hn ⊢;rcases hn with z|z|z|z
   ·exact .inl z
   ·exact .inr (.inl z)
   ·exact .inr (.inr (.inl z))
   ·exact .inr (.inr (.inr (.inr z))))
  simp only[b0,ai,not_or];exact⟨⟨h1,h2,nn h (by simp),h4⟩,⟨h5,nn k (by simp),h7⟩,⟨nn t (by simp),h9⟩,fun z=>nn _ (by simp[z]) rfl,h11⟩
 ·rw[aH (fun z=>hm (by rw[z];simp))]
  by_cases he:n=e
  ·subst he;rw[cC l4];exact H.kp.symm
  ·rw[aH he];exact l5 n hn he
end
theorem gL {ω:Om}{n:Nat}{ob:Ob} (h:ω[n]?=wj ob):ω.set n ob=ω:=by
 apply jn;intro m
 by_cases hm:m=n
 ·subst hm;rw[cC h,h]
 ·rw[aH hm]
theorem Ln (k:Key):toK (ofK k)=wj k:=by cases k <;> rfl
theorem CV:∀ ks:List Key,Lm (ks.map ofK)=wj ks
 |[]=>rfl
 |k::r=>by
  show(toK (ofK k)).bind _=_
  rw[Ln]
  show(Lm (r.map ofK)).map _=_
  rw[CV r];rfl
theorem AB (k:List Key):CL (bK k)=wj k:=CV k
theorem Ir (ha:fA a) (hb:fA b):∃ c,dX 4 a b=wj c:=by
 obtain⟨x,p,q,v,rfl⟩:=ha;obtain⟨x',p',q',v',rfl⟩:=hb;show ∃ c,(match eqD 4 (.str x) (.str x') with
  |some true=>(match eqD 4 (.tup [.int p,.int q]) (.tup [.int p',.int q']) with
   |some true=>(match eqD 4 (.int v) (.int v') with
    |some true=>wj _
    |some false=>fR (.int v) (.int v')
    |none=>wk)
   |some false=>fR (.tup [.int p,.int q]) (.tup [.int p',.int q'])
   |none=>wk)
  |some false=>fR (.str x) (.str x')
  |none=>wk)=wj c
 rw[gW];cases decide (x=x') with
 |false=>exact⟨_,rfl⟩
 |true=>
  have e2:∃ c,eqD 4 (.tup [.int p,.int q]) (.tup [.int p',.int q'])=wj c:=⟨_,rfl⟩;obtain⟨c,e2⟩:=e2;rw[e2];cases c with
  |false=>exact⟨_,rfl⟩
  |true=>
   show ∃ c,(match eqD 4 (.int v) (.int v') with
    |some true=>wj _
    |some false=>fR (.int v) (.int v')
    |none=>wk)=wj c
   have e3:eqD 4 (.int v) (.int v')=wj (decide (v=v')):=rfl;rw[e3];cases decide (v=v') with
   |false=>exact⟨_,rfl⟩
   |true=>exact⟨_,rfl⟩
theorem Bo (h:fA d):kE d=wj false:=by
 obtain⟨x,a,b,v,rfl⟩:=h;rfl
section
variable {ω:Om}{h k t e:Nat}{i:Nat}{hd:Hd}{rs:List Nat}{ρ:Rho}{f:OG D}
theorem Hd.Ok.ent (W:hd.Ok c):∀ d∈hd.table.map (·.2),fA d:=fun d hd'=>by
 obtain⟨kv,h1,rfl⟩:=aw.mp hd';obtain⟨a,b,_,_,_,x,v,e⟩:=W.tk kv h1;exact⟨x,a,b,v,e⟩
theorem Hd.Ok.sorts (W:hd.Ok c):∃ out,hd.entries=wj out/\out.Perm (hd.table.map (·.2)):=by
 refine tR (by rw[ao];exact W.tl) ?_ fun a ha b hb=>Ir (W.ent a ha) (W.ent b hb);unfold iN;rw[ik];right;rw[ff];intro d hd';rw[Bo (W.ent d hd')];rfl
noncomputable def Hd.takeOut0 (hd:Hd) (mk:List Key) (ks:List (List Key)):Hd:={ hd with table:=ks.foldl eA hd.table,kept:=if ks=[] then hd.kept else putD hd.kept mk (.tup (ks.map bK)) }
noncomputable def Hd.takeOut (hd:Hd) (mk:List Key) (ks:List (List Key)):Hd:=(hd.takeOut0 mk ks).forget
theorem AT {g:Om->D->List D->Option (D×Om)}{fo:OG D}{fl:OG (List D)}{ρ:Rho}{ω ω1 ω2 ω3:Om}{n:Nat}{kvs:List (List Key×D)}{ds:List D}{r:D} (e1:fo ρ ω=wj (.ok (.obj n),ω1)) (e2:ω1[n]?=wj (.dt kvs)) (e3:fl ρ ω1=wj (.ok ds,ω2)) (e4:g ω2 (.obj n) ds=wj (r,ω3)):oO g fo fl ρ ω=wj (.ok r,ω3):=by
 unfold oO;rw[bI e1]
 have:Ci ω1 (.obj n)=true:=by simp only[Ci,cellOf,e2]
 show(if Ci ω1 (.obj n)=true then _ else wk)=_
 rw[if_pos this,bI e3];show oR (g ω2 (.obj n) ds)=_;rw[e4];rfl
theorem Ct {kvs:List (List Key×D)}{q k:List Key} (h:q∈kvs.map (·.1)) (hn:q≠k):q∈(eA kvs k).map (·.1):=by
 obtain⟨p,h1,rfl⟩:=aw.mp h;exact aw.mpr ⟨p,b8.mpr ⟨h1,by simpa using hn⟩,rfl⟩
theorem CP {kvs:List (List Key×D)}{k:List Key} (h:k∈kvs.map (·.1)):∃ v,iE kvs k=wj v:=by
 obtain⟨p,h1,h2⟩:=aw.mp h;unfold iE;cases q:kvs.find? fun kv=>decide (kv.1=k) with
 |some u=>exact⟨u.2,rfl⟩
 |none=>
  rw[uu] at q;exact absurd (by simpa using h2) (q p h1)
theorem Do:∀ {ks:List (List Key)}{T:List (List Key×D)}{v:Option D}{ω:Om},ω[h]?=wj (.ins 0 [("number",.int i),("knows",.obj k),("table",.obj t),("kept",.obj e)])->ω[t]?=wj (.dt T)->h≠t->ks.Nodup->(∀ q∈ks,q∈T.map (·.1))->
  ∃ ρ',bR (aY 3) bW cJ (ks.map bK) [wj (.obj h),wj mk,wj ms,v] ω=wj (.nx ρ',ω.set t (.dt (ks.foldl eA T)))/\∃ v,ρ'=[wj (.obj h),wj mk,wj ms,v]
 |[],T,v,ω,_,ht,_,_,_=>⟨_,by
   show wj (OOut.nx _,ω)=_
   congr 2
   exact(gL ht).symm,v,rfl⟩
 |q::ks,T,v,ω,ho,ht,hne,hk,hin=>by
  rw[b0] at hk;obtain⟨u,hu⟩:=CP (hin q aq);have b1:cJ [wj (.obj h),wj mk,wj ms,wj (bK q)] ω=wj (.nx [wj (.obj h),wj mk,wj ms,wj (bK q)],ω.set t (.dt (eA T q))):=by
   unfold cJ bU;rw[cD (AT (r:=u) (ω3:=ω.set t (.dt (eA T q))) (fU (aB rfl) ho rfl) ht (aA (aB rfl) aE) (by
    simp only[ED,ht]
    show(CL (bK q)).bind _=_
    rw[AB]
    show(iE T q).map _=_
    rw[hu];rfl))]
  obtain⟨ρ',g1,v',g2⟩:=Do (mk:=mk) (ms:=ms) (ks:=ks) (T:=eA T q) (v:=wj (bK q)) (ω:=ω.set t (.dt (eA T q))) (by rw[aH hne];exact ho) (cC ht) hne hk.2 fun q' hq'=>Ct (hin q' (ag _ hq')) fun z=>hk.1 (z ▸ hq');refine⟨ρ',?_,v',g2⟩;rw[ox] at g1;rw[bh];refine(dZ rfl rfl (b1)).trans ?_;exact g1
theorem yM (H:HandAt ω h i hd k t e rs) (hk:ks.Nodup) (hin:∀ q∈ks,q∈hd.table.map (·.1)) (hl:hd.kept.length<sizeLine) (W:(hd.takeOut0 mk ks).Ok c):
  ∃ ω' e',cZ [.obj h,bK mk,.lst (ks.map bK)] ω=wj (.ok .non,ω')/\HandAt ω' h i (hd.takeOut mk ks) k t e' rs/\Keep [h,t,e] ω ω'/\ω.length<=e':=by
 obtain⟨⟨h1,h2,h3,h4⟩,⟨h5,h6,h7⟩,⟨h8,h9⟩,h10,h11⟩:=H.ne;obtain⟨ρ1,g1,v,rfl⟩:=Do (h:=h) (i:=i) (k:=k) (t:=t) (e:=e) (mk:=bK mk) (ms:=.lst (ks.map bK)) (ks:=ks) (T:=hd.table) (v:=wk) (ω:=ω) H.obj H.tb h2 hk hin;have H1:HandAt (ω.set t (.dt (ks.foldl eA hd.table))) h i { hd with table:=ks.foldl eA hd.table } k t e rs:=H.setT _;have l1:sNx (bN (oIL (oP (aD 2))) (aY 3) cJ) (cF jC [.obj h,bK mk,.lst (ks.map bK)]) ω=wj (.nx [wj (.obj h),wj (bK mk),wj (.lst (ks.map bK)),v],ω.set t (.dt (ks.foldl eA hd.table))):=fJ (by
  unfold bN oIL;rw[cD (bI (aB (d:=.lst (ks.map bK)) rfl))];exact g1)
 have mid:∃ ω2,eB (jT (oP (aD 2))) (iL mU (fY 0 "kept" (oP (aD 0))) (oP (aD 1)) (oL Ey (aC (oP (aD 2)) aP))) bP [wj (.obj h),wj (bK mk),wj (.lst (ks.map bK)),v] (ω.set t (.dt (ks.foldl eA hd.table)))=wj (.nx [wj (.obj h),wj (bK mk),wj (.lst (ks.map bK)),v],ω2)/\HandAt ω2 h i (hd.takeOut0 mk ks) k t e rs/\Keep [t,e] ω ω2/\ω2.length=ω.length:=by
  cases hks:ks with
  |nil=>
   refine⟨ω.set t (.dt (([]:List (List Key)).foldl eA hd.table)),?_,?_,Keep.set (by simp),by simp⟩
   ·rw[mB (ω1:=ω.set t (.dt (([]:List (List Key)).foldl eA hd.table))) (by
     unfold jT;rw[bI (aB (d:=.lst []) rfl)];rfl)]
    rfl
   ·subst hks;exact H1
  |cons q r=>
   have hks':ks≠[]:=by rw[hks];simp
   rw[<- hks];refine⟨(ω.set t (.dt (ks.foldl eA hd.table))).set e (.dt (putD hd.kept mk (.tup (ks.map bK)))),?_,?_,(Keep.set (by simp)).trans (Keep.set (by simp)),by simp⟩
   ·rw[lZ (ω1:=ω.set t (.dt (ks.foldl eA hd.table))) (by
     unfold jT;rw[bI (aB (d:=.lst (ks.map bK)) rfl)];rw[hks];rfl)]
    exact eY (dD (aA (aB (d:=.lst (ks.map bK)) rfl) aE) rfl) (H1.kept (aB rfl)) (aB (d:=bK mk) rfl) (pT (ks:=mk) H1.kp (AB mk) hl)
   ·have:=H1.setE (putD hd.kept mk (.tup (ks.map bK)))
    have e0:hd.takeOut0 mk ks={ hd with table:=ks.foldl eA hd.table,kept:=putD hd.kept mk (.tup (ks.map bK)) }:=by
     unfold Hd.takeOut0;rw[if_neg hks']
    rw[e0];exact this
 obtain⟨ω2,m1,H2,K2,L2⟩:=mid;obtain⟨ω3,f1,H3,K3⟩:=xD H2 W;refine⟨ω3,ω2.length,?_,H3,⟨by rw[<- L2];exact K3.1,fun n hn hm=> ?_⟩,by rw[L2];exact bf _⟩
 ·refine tV (ρ1:=[wj (.obj h),wj (bK mk),wj (.lst (ks.map bK)),v]) rfl ?_;unfold iT;rw[bA l1,bA m1];unfold bU;rw[cD (cI (aB rfl) H2.obj rfl f1)]
 ·simp only[ai,ck,or_false,not_or] at hm;rw[K3.2 n (by rw[L2];exact hn) (by simpa using hm.1)];exact K2.2 n hn (by simp[hm.2.1,hm.2.2])
end
noncomputable def aV:D->List Key
 |.tup [_,.tup [.int a,.int b],_]=>[.inl a,.inl b]
 |_=>[]
noncomputable def Kf (y:Str):D->Bool
 |.tup [.str x,_,_]=>decide (x=y)
 |_=>false
noncomputable def Hd.ents (hd:Hd):List D:=hd.entries.getD []
noncomputable def Hd.marksK (hd:Hd) (y:Str):List (List Key):=(hd.ents.filter (Kf y)).map aV
theorem sF:∀ {out:List D},(∀ d∈out,fA d)->marksIn (.str y) out=((out.filter (Kf y)).map aV).map bK
 |[],_=>rfl
 |d::r,h=>by
  have ih:=sF (y:=y) (out:=r) fun d hd=>h d (ag _ hd);obtain⟨x,a,b,v,rfl⟩:=h d aq;unfold marksIn at ih ⊢;have e0:(eqD 8 (.str x) (.str y)==wj true)=decide (x=y):=by rw[gW];cases decide (x=y) <;> rfl
  by_cases hx:x=y
  ·rw[da (by show(eqD 8 (.str x) (.str y)==wj true)=true;rw[e0];exact decide_eq_true hx),da (by show decide (x=y)=true;exact decide_eq_true hx)];rw[bh,bh,bh,ih];rfl
  ·rw[c9 (by show ¬(eqD 8 (.str x) (.str y)==wj true)=true;rw[e0];simpa using hx),c9 (by show ¬ decide (x=y)=true;simpa using hx)];exact ih
section
variable {ω ω1 ω2:Om}{h k t e:Nat}{i c:Nat}{hd hd1 hd2:Hd}{rs fp:List Nat}
theorem Hd.Ok.ents (W:hd.Ok c):hd.entries=wj hd.ents/\hd.ents.Perm (hd.table.map (·.2)):=by
 obtain⟨out,e1,e2⟩:=W.sorts
 have:hd.ents=out:=by unfold Hd.ents;rw[e1];rfl
 rw[this];exact⟨e1,e2⟩
theorem Hd.Ok.entsEnt (W:hd.Ok c):∀ d∈hd.ents,fA d:=fun d hd'=>W.ent d (W.ents.2.mem_iff.mp hd')
theorem Hd.Ok.keys (W:hd.Ok c):(hd.table.map (·.2)).map aV=hd.table.map (·.1):=by
 rw[ia];apply hV;intro kv hkv;obtain⟨a,b,_,_,e1,x,v,e2⟩:=W.tk kv hkv;show aV kv.2=kv.1;rw[e2,e1];rfl
theorem Hd.Ok.entsKeys (W:hd.Ok c):(hd.ents.map aV).Perm (hd.table.map (·.1)):=by
 rw[<- W.keys];exact W.ents.2.map aV
theorem Hd.Ok.entsNodup (W:hd.Ok c):(hd.ents.map aV).Nodup:=W.entsKeys.nodup_iff.mpr W.tn
theorem Hd.Ok.entsLen (W:hd.Ok c):hd.ents.length<64:=by rw[W.ents.2.length_eq,ao];exact W.tl
theorem Hd.Ok.marksNodup (W:hd.Ok c) (y:Str):(hd.marksK y).Nodup:=W.entsNodup.sublist (j9.map aV)
theorem Hd.Ok.marksIn (W:hd.Ok c) (y:Str):∀ q∈hd.marksK y,q∈hd.table.map (·.1):=fun q hq=>W.entsKeys.mem_iff.mp ((j9.map aV).subset hq)
theorem Hd.Ok.seenMem (W:hd.Ok c) (hi:i<c):hd.seen i∈hd.knows:=by
 unfold Hd.seen
 have:i<hd.knows.length:=by rw[W.len];exact hi
 rw[au,bi this];exact ja this
theorem Hd.Ok.seenLen (W:hd.Ok c) (hi:i<c):(hd.seen i).length=c:=W.row _ (W.seenMem hi)
theorem eE (h:n<64):n<sizeLine:=by rw[bu];omega
noncomputable def HandS (ω:Om) (h i:Nat) (hd:Hd) (fp:List Nat):Prop:=∃ k t e rs,HandAt ω h i hd k t e rs/\fp=h::k::t::e::rs
noncomputable def Did (ω:Om) (h i:Nat) (fp:List Nat) (ω':Om) (hd':Hd):Prop:=∃ fp',HandS ω' h i hd' fp'/\Keep fp ω ω'/\∀ n∈fp',n∈fp∨ω.length<=n
theorem HandS.obj (H:HandS ω h i hd fp):∃ k t e,ω[h]?=wj (.ins 0 [("number",.int i),("knows",.obj k),("table",.obj t),("kept",.obj e)]):=by
 obtain⟨k,t,e,rs,H,_⟩:=H;exact⟨k,t,e,H.obj⟩
theorem HandS.lt (H:HandS ω h i hd fp):∀ n∈fp,n<ω.length:=by
 obtain⟨k,t,e,rs,H,rfl⟩:=H;exact H.lt
theorem HandS.mono (H:HandS ω h i hd fp) (g:∀ n∈fp,ω'[n]?=ω[n]?):HandS ω' h i hd fp:=by
 obtain⟨k,t,e,rs,H,rfl⟩:=H;exact⟨k,t,e,rs,H.mono g,rfl⟩
theorem Did.refl (H:HandS ω h i hd fp):Did ω h i fp ω hd:=⟨fp,H,Keep.refl _ _,fun n hn=>.inl hn⟩
theorem Did.trans (a:Did ω h i fp ω1 hd1) (b:∀ fp1,HandS ω1 h i hd1 fp1->Did ω1 h i fp1 ω2 hd2):Did ω h i fp ω2 hd2:=by
 obtain⟨fp1,H1,K1,F1⟩:=a;obtain⟨fp2,H2,K2,F2⟩:=b fp1 H1;refine⟨fp2,H2,⟨cf K1.1 K2.1,fun n hn hf=> ?_⟩,fun n hn=> ?_⟩
 ·rw[K2.2 n (b4 hn K1.1) fun z=>(F1 n z).elim hf fun q=>absurd hn (tj.mpr q)];exact K1.2 n hn hf
 ·rcases F2 n hn with z|z
  ·exact F1 n z
  ·exact .inr (cf K1.1 z)
theorem Keep.sub (a:Keep fp ω ω') (h:∀ n∈fp,n∈fq):Keep fq ω ω':=⟨a.1,fun n hn hf=>a.2 n hn fun z=>hf (h n z)⟩
theorem PQ (H:HandS ω h i hd fp) (W:hd.Ok c) (hi:i<c) (x:Str) (v:Int):∃ ω',eK [.obj h,.str x,.int v] ω=wj (.ok (mkD i (hd.next i)),ω')/\Did ω h i fp ω' (hd.put i x v):=by
 obtain⟨k,t,e,rs,H,rfl⟩:=H;obtain⟨ω',e1,H',K,L⟩:=LI H (by rw[W.len];exact hi) (by rw[W.seenLen hi];exact hi) (eE W.tl) x v;exact⟨ω',e1,_,⟨k,t,e,rs,H',rfl⟩,K.sub (fun n hn=>by simp only[ai] at hn ⊢;rcases hn with z|z <;> simp[z]),fun n hn=>.inl hn⟩
theorem DP (H:HandS ω h i hd fp) (W:hd.Ok c) (hi:i<c):∃ ω',dA [.obj h] ω=wj (.ok (mkD i (hd.next i)),ω')/\Did ω h i fp ω' (hd.bump i):=by
 obtain⟨k,t,e,rs,H,rfl⟩:=H;obtain⟨ω',e1,H',K,L⟩:=oU H (by rw[W.len];exact hi) (by rw[W.seenLen hi];exact hi);exact⟨ω',e1,_,⟨k,t,e,rs,H',rfl⟩,K.sub (fun n hn=>by simp[hn]),fun n hn=>.inl hn⟩
theorem Im (H:HandS ω h i hd fp) (W:hd.Ok c) (y:Str):dB [.obj h,.str y] ω=wj (.ok (.lst ((hd.marksK y).map bK)),ω):=by
 obtain⟨k,t,e,rs,H,rfl⟩:=H;rw[GA H W.ents.1 W.entsEnt (hX (eE W.entsLen)) y,sF W.entsEnt];rfl
theorem nE {mk:List Key}{ks:List (List Key)} (H:HandS ω h i hd fp) (hk:ks.Nodup) (hin:∀ q∈ks,q∈hd.table.map (·.1)) (hl:hd.kept.length<64) (W:(hd.takeOut0 mk ks).Ok c):∃ ω',cZ [.obj h,bK mk,.lst (ks.map bK)] ω=wj (.ok .non,ω')/\Did ω h i fp ω' (hd.takeOut mk ks):=by
 obtain⟨k,t,e,rs,H,rfl⟩:=H;obtain⟨ω',e',e1,H',K,L⟩:=yM H hk hin (eE hl) W;refine⟨ω',e1,_,⟨k,t,e',rs,H',rfl⟩,K.sub (fun n hn=>by simp only[ai,ck,or_false] at hn ⊢;rcases hn with z|z|z <;> simp[z]),fun n hn=> ?_⟩;simp only[ai] at hn ⊢;rcases hn with z|z|z|z|z
 ·exact .inl (.inl z)
 ·exact .inl (.inr (.inl z))
 ·exact .inl (.inr (.inr (.inl z)))
 ·exact .inr (z ▸ L)
 ·exact .inl (.inr (.inr (.inr (.inr z))))
theorem wF {kvs:List (List Key×D)}{q k:List Key}{v:D} (h:q∈kvs.map (·.1)):q∈(putD kvs k v).map (·.1):=by
 unfold putD;split
 ·obtain⟨p,h1,h2⟩:=aw.mp h;refine aw.mpr ⟨if p.1=k then(p.1,v) else p,aw.mpr ⟨p,h1,rfl⟩,?_⟩;split <;> exact h2
 ·rw[c6];exact dn _ h
noncomputable def Hd.change (hd:Hd) (i:Nat) (x:Str) (v:Int):Hd:=(hd.put i x v).takeOut (gD i (hd.next i)) (hd.marksK x)
theorem KP (H:HandS ω h i hd fp) (W:hd.Ok c) (hi:i<c) (x:Str) (v:Int) (W2:((hd.put i x v).takeOut0 (gD i (hd.next i)) (hd.marksK x)).Ok c):∃ ω',dU [.obj h,.str x,.int v] ω=wj (.ok (mkD i (hd.next i)),ω')/\Did ω h i fp ω' (hd.change i x v):=by
 obtain⟨ω1,e1,D1⟩:=PQ H W hi x v;obtain⟨fp1,H1,K1,F1⟩:=id D1;obtain⟨ω2,e2,D2⟩:=nE (mk:=gD i (hd.next i)) (ks:=hd.marksK x) H1 (W.marksNodup x) (fun q hq=>wF (W.marksIn x q hq)) W.kl W2;refine⟨ω2,?_,D1.trans fun fq Hq=> ?_⟩
 ·obtain⟨k0,t0,e0,ho⟩:=H.obj;obtain⟨k1,t1,e1',ho1⟩:=H1.obj;refine aT rfl ?_;unfold lJ;rw[aM (bZ (aB rfl) ho rfl (aA (aB rfl) aE) (Im H W x))];rw[aM (bZ (aB (d:=.obj h) rfl) ho rfl (aA (aB (d:=.str x) rfl) (aA (aB (d:=.int v) rfl) aE)) e1)];rw[bA (ρ1:=[wj (.obj h),wj (.str x),wj (.int v),wj (.lst ((hd.marksK x).map bK)),wj (mkD i (hd.next i))]) (ω1:=ω2) (by
   unfold bU;rw[cD (bZ (aB (d:=.obj h) rfl) ho1 rfl (aA (aB (d:=bK (gD i (hd.next i))) rfl) (aA (aB (d:=.lst ((hd.marksK x).map bK)) rfl) aE)) e2)];rfl)]
  exact bH (aB rfl)
 ·obtain⟨ωq,eq,Dq⟩:=nE (mk:=gD i (hd.next i)) (ks:=hd.marksK x) Hq (W.marksNodup x) (fun q hq=>wF (W.marksIn x q hq)) W.kl W2;rw[e2] at eq;cases eq;exact Dq
noncomputable def Hd.take (hd:Hd) (i:Nat) (x:Str):Hd:=if hd.marksK x=[] then hd else(hd.bump i).takeOut (gD i (hd.next i)) (hd.marksK x)
noncomputable def Hd.takeA (hd:Hd) (x:Str):D:=if hd.marksK x=[] then .non else .lst ((hd.marksK x).map bK)
theorem NZ (H:HandS ω h i hd fp) (W:hd.Ok c) (hi:i<c) (x:Str) (W2:((hd.bump i).takeOut0 (gD i (hd.next i)) (hd.marksK x)).Ok c):∃ ω',fM [.obj h,.str x] ω=wj (.ok (hd.takeA x),ω')/\Did ω h i fp ω' (hd.take i x):=by
 obtain⟨k0,t0,e0,ho⟩:=H.obj;unfold Hd.take Hd.takeA;have m1:=Im H W x;cases hm:hd.marksK x with
 |nil=>
  rw[if_pos rfl,if_pos rfl];refine⟨ω,?_,Did.refl H⟩;refine aT rfl ?_;unfold kG;rw[hm] at m1;rw[aM (bZ (aB rfl) ho rfl (aA (aB rfl) aE) m1)];rfl
 |cons q r=>
  rw[if_neg (by simp),if_neg (by simp)];rw[hm] at m1 W2;obtain⟨ω1,e1,D1⟩:=DP H W hi;obtain⟨fp1,H1,K1,F1⟩:=id D1;have nd:=W.marksNodup x;have mi:=W.marksIn x;rw[hm] at nd mi;obtain⟨ω2,e2,D2⟩:=nE (mk:=gD i (hd.next i)) (ks:=q::r) H1 nd mi W.kl W2;refine⟨ω2,?_,D1.trans fun fq Hq=> ?_⟩
  ·obtain⟨k1,t1,e1',ho1⟩:=H1.obj;refine aT rfl ?_;unfold kG;rw[aM (bZ (aB rfl) ho rfl (aA (aB rfl) aE) m1)];rw[bA (ρ1:=[wj (.obj h),wj (.str x),wj (.lst ((q::r).map bK))]) (ω1:=ω) rfl];rw[bA (ρ1:=[wj (.obj h),wj (.str x),wj (.lst ((q::r).map bK))]) (ω1:=ω2) (by
    unfold bU;rw[cD (bZ (aB (d:=.obj h) rfl) ho rfl (aA (a:=bK (gD i (hd.next i))) (cI (aB rfl) ho rfl e1) (aA (aB (d:=.lst ((q::r).map bK)) rfl) aE)) e2)])]
   exact bH (aB rfl)
  ·obtain⟨ωq,eq,Dq⟩:=nE (mk:=gD i (hd.next i)) (ks:=q::r) Hq nd mi W.kl W2;rw[e2] at eq;cases eq;exact Dq
end
theorem cG (er:ω[r]?=wj (.ml (iv xs))):RowV ω (.obj r) xs:=by unfold RowV fW;simp only[er]
theorem dY {ω:Om} (h:ω[n]?=wj o):n<ω.length:=(bg.mp h).1
theorem RowsAt.app (h:RowsAt ω rs kn) (obs:List Ob):RowsAt (ω++obs) rs kn:=by
 induction h with
 |nil=>exact .nil
 |cons hr _ ih=>exact .cons ((aj (dY hr)).trans hr) ih
theorem RowsAt.setAt (h:RowsAt ω rs kn) (hr:ω[r]?=wj (.ml (iv xs))):RowsAt ω (rs.set j r) (kn.set j xs):=by
 induction h generalizing j with
 |nil=>exact .nil
 |cons h0 t ih=>
  cases j with
  |zero=>exact .cons hr t
  |succ j=>exact .cons h0 ih
theorem DM {l:List Nat} (h:l.Nodup) (ha:a∉l) (j:Nat):(l.set j a).Nodup:=by
 induction l generalizing j with
 |nil=>exact h
 |cons x r ih=>
  rw[b0] at h;simp only[ai,not_or] at ha;cases j with
  |zero=>rw[uv,b0];exact⟨ha.2,h.2⟩
  |succ j=>
   rw[uw,b0];refine⟨fun z=> ?_,ih h.2 ha.2 j⟩;rcases iy z with z|z
   ·exact h.1 z
   ·exact ha.1 z.symm
noncomputable def Hd.leaves (tl:Hd) (j:Nat) (d:D):Bool:=(iE tl.table (aV d)).isSome|| !fX (tl.seen j) (aV d)
noncomputable def Qa (c:Nat) (d:D):Prop:=∃(x:Str) (a b:Int) (v:Int),d=.tup [.str x,.tup [.int a,.int b],.int v]/\0<=a/\a<c
section
variable {ω:Om}{h k t e h2 k2 t2 e2:Nat}{i j c:Nat}{hd tl:Hd}{rs rs2 fp:List Nat}
theorem sH (G:HandAt ω h2 j tl k2 t2 e2 rs2) (V:tl.Ok c) (hj:j<c) (ho:∀ d∈out,Qa c d) (hl:out.length<=sizeLine):kU [.lst out,.obj h2] ω=wj (.ok (.lst (out.filter (tl.leaves j))),ω):=by
 obtain⟨r,hr,er⟩:=G.seenRow (by rw[V.len];exact hj);refine aT rfl (bH (gC (ds:=out) (chk:=bW) (ω1:=ω) ?_ hl ?_))
 ·unfold oIL;rw[bI (aB (d:=.lst out) rfl)];rfl
 ·have e0:out.filter (tl.leaves j)=(out.filter (tl.leaves j)).map fun d=>d:=by simp
  rw[e0];refine eN (fun ρ=>∃ u,ρ=[u,wj (.obj h2)]) rfl ⟨_,rfl⟩ fun d hd ρ hρ=> ?_;obtain⟨x,a,b,v,rfl,ha0,ha1⟩:=ho d hd;obtain⟨u,rfl⟩:=hρ;refine⟨_,rfl,⟨_,rfl⟩,?_,fun _=>aB rfl⟩;have d1:cH (o2 (fun ω a b=>pu (Lg ω a b) ω) (o2 (fun ω a b=>pu (bE ω a b) ω) (oP (aD 0)) (oP (dC (.int 1)))) (fY 0 "table" (oP (aD 1)))) [wj (.tup [.str x,.tup [.int a,.int b],.int v]),wj (.obj h2)] ω=wj (.ok (iE tl.table [.inl a,.inl b]).isSome,ω):=
   cK (eW (aK (aB (d:=.tup [.str x,.tup [.int a,.int b],.int v]) rfl) aU rfl) (G.table (aB rfl)) (by
    show pu (Lg ω (.tup [.int a,.int b]) (.obj t2)) ω=_
    have:Lg ω (.tup [.int a,.int b]) (.obj t2)=wj (.bl (iE tl.table [.inl a,.inl b]).isSome):=by
     simp only[Lg,CN,cellOf,G.tb];rfl
    rw[this];rfl))
  have lv:tl.leaves j (.tup [.str x,.tup [.int a,.int b],.int v])=((iE tl.table [.inl a,.inl b]).isSome|| !decide (b<=(tl.seen j).getD a.toNat 0)):=rfl;rw[lv];show oOr _ _ _ _=_;unfold oOr;show oB _ _ [wj (.tup [.str x,.tup [.int a,.int b],.int v]),wj (.obj h2)] ω=_;rw[bI d1];cases hv:(iE tl.table [.inl a,.inl b]).isSome with
  |true=>rfl
  |false=>
   have s1:=pH (ω:=ω) (d:=.obj r) (xs:=tl.seen j) (cG er) (a:=a) (b:=b) ha0 (by rw[V.seenLen hj];exact ha1);show jU _ _ _=_;unfold jU;rw[bI (x:=decide (b<=(tl.seen j).getD a.toNat 0)) (ω1:=ω) (by
    unfold jT;rw[bI (aW (aA (cI (aB rfl) G.obj rfl (kB G hr)) (aA (aK (aB (d:=.tup [.str x,.tup [.int a,.int b],.int v]) rfl) aU rfl) aE)) s1)];rfl)]
   rfl
noncomputable def NP (xs ys:List Int):Int:=(br (fun x y=>mx (y-x) 0) xs ys).sum
noncomputable def nY (out:List D) (T:List (List Key×D)):List (List Key×D):=out.foldl (fun T d=>putD T (aV d) d) T
theorem FQ (kvs:List (List Key×D)) (k:List Key) (v:D):(putD kvs k v).length<=kvs.length+1:=by
 unfold putD;split
 ·simp
 ·simp
theorem wX {h h2 n0 n1:Nat}:∀ {out:List D}{T:List (List Key×D)}{v:Option D}{ω:Om},(∀ d∈out,fA d)->ω[n1]?=wj (.dt T)->T.length+out.length<sizeLine->
  ∃ v',bR (aY 5) bW eR out [wj (.obj h),wj (.obj h2),wj m,wj (.obj n0),wj (.obj n1),v] ω=wj (.nx [wj (.obj h),wj (.obj h2),wj m,wj (.obj n0),wj (.obj n1),v'],ω.set n1 (.dt (nY out T)))
 |[],T,v,ω,_,ht,_=>⟨v,by
   show wj (OOut.nx _,ω)=_;rw[show nY [] T=T from rfl,gL ht]⟩
 |d::out,T,v,ω,he,ht,hl=>by
  rw[bz] at hl;have hd:=he d aq;obtain⟨x,a,b,w,rfl⟩:=hd;have b1:eR [wj (.obj h),wj (.obj h2),wj m,wj (.obj n0),wj (.obj n1),wj (.tup [.str x,.tup [.int a,.int b],.int w])] ω=wj (.nx [wj (.obj h),wj (.obj h2),wj m,wj (.obj n0),wj (.obj n1),wj (.tup [.str x,.tup [.int a,.int b],.int w])],ω.set n1 (.dt (putD T [.inl a,.inl b] (.tup [.str x,.tup [.int a,.int b],.int w])))):=by
   unfold eR;exact eY (aB rfl) (aB (d:=.obj n1) rfl) (aK (aB (d:=.tup [.str x,.tup [.int a,.int b],.int w]) rfl) aU rfl) (pT (ks:=[.inl a,.inl b]) ht rfl (by omega))
  have hp:=FQ T [.inl a,.inl b] (.tup [.str x,.tup [.int a,.int b],.int w]);obtain⟨v',g1⟩:=wX (h:=h) (h2:=h2) (n0:=n0) (n1:=n1) (m:=m) (out:=out) (T:=putD T [.inl a,.inl b] (.tup [.str x,.tup [.int a,.int b],.int w])) (v:=wj (.tup [.str x,.tup [.int a,.int b],.int w])) (ω:=ω.set n1 (.dt (putD T [.inl a,.inl b] (.tup [.str x,.tup [.int a,.int b],.int w])))) (fun d hd=>he d (ag _ hd)) (cC ht) (by omega);refine⟨v',?_⟩;rw[ox] at g1;refine(dZ rfl rfl (b1)).trans ?_;exact g1
theorem AZ:∀ {rs1 rs2:List Nat}{kn1 kn2:List (List Int)}{ω:Om}{ρ:Rho},ρ.length=2->RowsAt ω rs1 kn1->RowsAt ω rs2 kn2->(∀ xs∈kn1,xs.length<=sizeLine)->(∀ obs,chk (ω++obs)=true)->
  compLO (qH 0 1) chk (oPT kM) (bO gN (aC (oP (aD 0)) (aC (oP (aD 1)) aP))) (yH (rs1.map D.obj) (rs2.map D.obj)) ρ ω=wj ((cw ω.length (br (br mx) kn1 kn2).length).map D.obj,ω++(br (br mx) kn1 kn2).map fun xs=>Ob.ml (iv xs))
 |_,rs2,_,kn2,ω,ρ,hρ,.nil,_,_,hc=>by
  show(if chk ω=true then wj ([],ω) else wk)=_
  rw[if_pos (by have:=hc [];rwa [c4] at this)];simp
 |_,_,_,_,ω,ρ,hρ,.cons _ _,.nil,_,hc=>by
  show(if chk ω=true then wj ([],ω) else wk)=_
  rw[if_pos (by have:=hc [];rwa [c4] at this)];simp
 |_,_,_,_,ω,ρ,hρ,@Paired.cons _ _ _ r1 x1 rs1 kn1 a1 t1,@Paired.cons _ _ _ r2 x2 rs2 kn2 a2 t2,hl,hc=>by
  match ρ,hρ with
  |[u,v],_=>
   have j1:=wR (ω:=ω) (cG a1) (cG a2) (hl x1 aq);have ih:=AZ (chk:=chk) (ω:=ω++[.ml (iv (br mx x1 x2))]) (ρ:=[wj (.obj r1),wj (.obj r2)]) rfl (RowsAt.app t1 _) (RowsAt.app t2 _) (fun xs hx=>hl xs (ag _ hx)) (fun obs=>by rw[g7];exact hc _)
   show(if chk ω=true then(match bO gN (aC (oP (aD 0)) (aC (oP (aD 1)) aP)) [wj (.obj r1),wj (.obj r2)] ω with
    |some (.ok y,ω2)=>(compLO (qH 0 1) chk (oPT kM) (bO gN (aC (oP (aD 0)) (aC (oP (aD 1)) aP))) (yH (rs1.map D.obj) (rs2.map D.obj)) [wj (.obj r1),wj (.obj r2)] ω2).map fun r=>(y::r.1,r.2)
    |_=>wk) else wk)=_
   rw[if_pos (by have:=hc [];rwa [c4] at this),aW (aA (aB (d:=.obj r1) rfl) (aA (aB (d:=.obj r2) rfl) aE)) j1]
   show(compLO _ _ _ _ _ _ _).map _=_
   rw[ih];rw[jc,bz,j5,bh,bh,b7];show wj (_,_)=_;rw[g7];rfl
theorem mC:∀(kn:List (List Int)) (pre post:Om),RowsAt (pre++(kn.map fun xs=>Ob.ml (iv xs))++post) (cw pre.length kn.length) kn
 |[],_,_=>.nil
 |x::r,pre,post=>by
  rw[bz,j5];refine .cons (by simp) ?_
  have:=mC r (pre++[.ml (iv x)]) post
  unfold RowsAt at this;simpa using this
theorem kA (e1:fv ρ ω=wj (.ok v,ω1)) (e2:fo ρ ω1=wj (.ok (.obj n),ω2)) (e3:ω2[n]?=wj (.ins c fs)) (hl:fs.length<1000):mT c x fo fv ρ ω=wj (.nx ρ,ω2.set n (.ins c (kS x v fs))):=by
 unfold mT;rw[cD e1,cD e2]
 have:uM c x ω2 (.obj n) v=wj (ω2.set n (.ins c (kS x v fs))):=by
  simp only[uM,e3];rw[if_pos ⟨trivial,hl⟩]
 show(uM c x ω2 (.obj n) v).map _=_
 rw[this];rfl
noncomputable def Hd.hearT (hd:Hd) (i:Nat) (tl:Hd) (j:Nat):List D:=hd.ents.filter (tl.leaves j)++tl.ents.filter (hd.leaves i)
noncomputable def Hd.hear0 (hd:Hd) (i:Nat) (tl:Hd) (j:Nat):Hd:=⟨(br (br mx) hd.knows tl.knows).set i (br mx (hd.seen i) (tl.seen j)),nY (hd.hearT i tl j) [],oW hd.kept tl.kept⟩
noncomputable def Hd.hear (hd:Hd) (i:Nat) (tl:Hd) (j:Nat):Hd:=(hd.hear0 i tl j).forget
theorem Hd.Ok.entC (W:hd.Ok c):∀ d∈hd.ents,Qa c d:=fun d hd'=>by
 obtain⟨kv,h1,rfl⟩:=aw.mp (W.ents.2.mem_iff.mp hd');obtain⟨a,b,ha0,ha1,_,x,v,e⟩:=W.tk kv h1;exact⟨x,a,b,v,e,ha0,ha1⟩
theorem Kk (H:HandAt ω h i hd k t e rs) (G:HandAt ω h2 j tl k2 t2 e2 rs2) (hij:∀ n∈h::k::t::e::rs,n∉h2::k2::t2::e2::rs2) (W:hd.Ok c) (V:tl.Ok c) (hi:i<c) (hj:j<c) (hh:eX (tl.kept.map (·.1))=true) (W2:(hd.hear0 i tl j).Ok c):
  ∃ ω' k' t' e' rs',cN [.obj h,.obj h2] ω=wj (.ok (.int (NP (hd.seen i) (tl.seen j))),ω')/\HandAt ω' h i (hd.hear i tl j) k' t' e' rs'/\Keep [h,e] ω ω'/\∀ n∈k'::t'::e'::rs',ω.length<=n:=by
 obtain⟨r,hr,er⟩:=H.seenRow (by rw[W.len];exact hi);obtain⟨r2,hr2,er2⟩:=G.seenRow (by rw[V.len];exact hj);obtain⟨⟨h1,h2',h3,h4⟩,⟨h5,h6,h7⟩,⟨h8,h9⟩,h10,h11⟩:=H.ne;have ltH:=H.lt;have ltG:=G.lt;have c8:∀ {n:Nat},n=c->n<=sizeLine:=fun z=>by rw[z,bu];have:=W.small;omega
 have hs1:(hd.seen i).length<=sizeLine:=c8 (W.seenLen hi);have hh2:h2≠h:=fun z=>hij h (by simp) (by simp[z]);have he2:e2≠e:=fun z=>hij e (by simp) (by simp[z]);have hk2h:k2≠h:=fun z=>hij h (by simp) (by simp[z]);have he2h:e2≠h:=fun z=>hij h (by simp) (by simp[z]);have hrs2h:∀ r∈rs2,r≠h:=fun r hr z=>hij h (by simp) (by rw[<- z];simp[hr])
 -- the stages of the store
 obtain⟨s,hs⟩:∃ s,s=br mx (hd.seen i) (tl.seen j):=⟨_,rfl⟩;obtain⟨ωa,hωa⟩:∃ ωa,ωa=ω++[Ob.ml (iv s)]:=⟨_,rfl⟩;obtain⟨ωb,hωb⟩:∃ ωb,ωb=ωa++[Ob.dt []]:=⟨_,rfl⟩;have la:ωa.length=ω.length+1:=by rw[hωa];simp
 have lb:ωb.length=ω.length+2:=by rw[hωb];simp[la]
 have gb:∀ n,n<ω.length->ωb[n]?=ω[n]?:=fun n hn=>by rw[hωb,aj (by omega),hωa,aj hn]
 have Hb:HandAt ωb h i hd k t e rs:=H.mono fun n hn=>gb n (ltH n hn);have Gb:HandAt ωb h2 j tl k2 t2 e2 rs2:=G.mono fun n hn=>gb n (ltG n hn);have nb:ωb[ωa.length]?=wj (.dt []):=by rw[hωb];simp
 have sb:ωb[ω.length]?=wj (.ml (iv s)):=by rw[hωb,aj (by omega),hωa];simp
 -- the table
 have l1:(hd.ents.filter (tl.leaves j)).length<64:=mf (dy ..) W.entsLen;have l2:(tl.ents.filter (hd.leaves i)).length<64:=mf (dy ..) V.entsLen;have lT:(hd.hearT i tl j).length<128:=by unfold Hd.hearT;rw[b7];omega
 have entT:∀ d∈hd.hearT i tl j,fA d:=fun d hd'=>by
  rcases cz.mp hd' with z|z
  ·exact W.entsEnt d (b8.mp z).1
  ·exact V.entsEnt d (b8.mp z).1
 obtain⟨v',loop⟩:=wX (h:=h) (h2:=h2) (n0:=ω.length) (n1:=ωa.length) (m:=.int (NP (hd.seen i) (tl.seen j))) (out:=hd.hearT i tl j) (T:=[]) (v:=wk) (ω:=ωb) entT nb (by rw[bu];simp;omega);obtain⟨T,hT⟩:∃ T,T=nY (hd.hearT i tl j) []:=⟨_,rfl⟩;rw[<- hT] at loop;obtain⟨ωc,hωc⟩:∃ ωc,ωc=ωb.set ωa.length (.dt T):=⟨_,rfl⟩;rw[<- hωc] at loop;have lc:ωc.length=ω.length+2:=by rw[hωc];simp[lb]
 have gc:∀ n,n<ω.length->ωc[n]?=ω[n]?:=fun n hn=>by rw[hωc,aH (by omega)];exact gb n hn
 have tc:ωc[ωa.length]?=wj (.dt T):=by rw[hωc];exact cC nb
 have sc:ωc[ω.length]?=wj (.ml (iv s)):=by rw[hωc,aH (by omega)];exact sb
 have oc:ωc[h]?=wj (.ins 0 [("number",.int i),("knows",.obj k),("table",.obj t),("kept",.obj e)]):=by rw[gc h (ltH h (by simp))];exact H.obj
 -- table set
 obtain⟨ωd,hωd⟩:∃ ωd,ωd=ωc.set h (.ins 0 [("number",.int i),("knows",.obj k),("table",.obj ωa.length),("kept",.obj e)]):=⟨_,rfl⟩;have ld:ωd.length=ω.length+2:=by rw[hωd];simp[lc]
 have hlt:=ltH h (by simp);have gd:∀ n,n<ω.length->n≠h->ωd[n]?=ω[n]?:=fun n hn hne=>by rw[hωd,aH hne];exact gc n hn
 have od:ωd[h]?=wj (.ins 0 [("number",.int i),("knows",.obj k),("table",.obj ωa.length),("kept",.obj e)]):=by rw[hωd];exact cC oc
 have td:ωd[ωa.length]?=wj (.dt T):=by rw[hωd,aH (by omega)];exact tc
 have sd:ωd[ω.length]?=wj (.ml (iv s)):=by rw[hωd,aH (by omega)];exact sc
 have kd:ωd[k]?=wj (.ml (rs.map D.obj)):=by rw[gd k (ltH k (by simp)) (bv h1)];exact H.kn
 have kd2:ωd[k2]?=wj (.ml (rs2.map D.obj)):=by rw[gd k2 (ltG k2 (by simp)) hk2h];exact G.kn
 have od2:ωd[h2]?=_:=(gd h2 (ltG h2 (by simp)) hh2).trans G.obj;have rd:RowsAt ωd rs hd.knows:=H.rows.mono fun r hr=>gd r (ltH r (by simp[hr])) fun z=>h4 (z ▸ hr);have rd2:RowsAt ωd rs2 tl.knows:=G.rows.mono fun r hr=>gd r (ltG r (by simp[hr])) (hrs2h r hr)
 -- rows joined
 obtain⟨kn,hkn⟩:∃ kn,kn=br (br mx) hd.knows tl.knows:=⟨_,rfl⟩;have lkn:kn.length=c:=by rw[hkn,fj,W.len,V.len,i4]
 have joins:=AZ (chk:=fun ω=>jQ k (rs.map D.obj) ω&&jQ k2 (rs2.map D.obj) ω) (ω:=ωd) (ρ:=[wk,wk]) rfl rd rd2 (fun xs hx=>c8 (W.row xs hx)) (fun obs=>by
  rw[bp];constructor
  ·unfold jQ;rw[aj (dY kd),kd];exact sameDs_refl _
  ·unfold jQ;rw[aj (dY kd2),kd2];exact sameDs_refl _)
 rw[<- hkn] at joins;obtain⟨ωe,hωe⟩:∃ ωe,ωe=ωd++kn.map fun xs=>Ob.ml (iv xs):=⟨_,rfl⟩;rw[<- hωe] at joins;have le:ωe.length=ω.length+2+c:=by rw[hωe];simp[ld,lkn]
 obtain⟨ωf,hωf⟩:∃ ωf,ωf=ωe++[Ob.ml ((cw ωd.length kn.length).map D.obj)]:=⟨_,rfl⟩;have lf:ωf.length=ω.length+3+c:=by rw[hωf];simp[le];omega
 have gf:∀ n,n<ω.length+2->ωf[n]?=ωd[n]?:=fun n hn=>by rw[hωf,aj (by omega),hωe,aj (by omega)]
 have kf:ωf[ωe.length]?=wj (.ml ((cw ωd.length kn.length).map D.obj)):=by rw[hωf];simp
 have rf:RowsAt ωf (cw ωd.length kn.length) kn:=by rw[hωf,hωe];exact mC kn ωd _
 have of:ωf[h]?=wj (.ins 0 [("number",.int i),("knows",.obj k),("table",.obj ωa.length),("kept",.obj e)]):=by rw[gf h (by omega)];exact od
 obtain⟨ωg,hωg⟩:∃ ωg,ωg=ωf.set h (.ins 0 [("number",.int i),("knows",.obj ωe.length),("table",.obj ωa.length),("kept",.obj e)]):=⟨_,rfl⟩;have og:ωg[h]?=wj (.ins 0 [("number",.int i),("knows",.obj ωe.length),("table",.obj ωa.length),("kept",.obj e)]):=by rw[hωg];exact cC of
 have kg:ωg[ωe.length]?=wj (.ml ((cw ωd.length kn.length).map D.obj)):=by rw[hωg,aH (by omega)];exact kf
 obtain⟨rs',hrs'⟩:∃ rs',rs'=(cw ωd.length kn.length).set i ω.length:=⟨_,rfl⟩;have hset:((cw ωd.length kn.length).map D.obj).set i (.obj ω.length)=rs'.map D.obj:=by rw[hrs',ux]
 obtain⟨ωh,hωh⟩:∃ ωh,ωh=ωg.set ωe.length (.ml (rs'.map D.obj)):=⟨_,rfl⟩;have elt:=ltH e (by simp);have oh:ωh[h]?=wj (.ins 0 [("number",.int i),("knows",.obj ωe.length),("table",.obj ωa.length),("kept",.obj e)]):=by rw[hωh,aH (by omega)];exact og
 have gh:∀ n,n<ω.length+2->n≠h->ωh[n]?=ωd[n]?:=fun n hn hne=>by rw[hωh,aH (by omega),hωg,aH hne];exact gf n hn
 have eh:ωh[e]?=wj (.dt hd.kept):=by rw[gh e (by omega) (bv h3),gd e elt (bv h3)];exact H.kp
 have eh2:ωh[e2]?=wj (.dt tl.kept):=by rw[gh e2 (by have:=ltG e2 (by simp);omega) he2h,gd e2 (ltG e2 (by simp)) he2h];exact G.kp
 have oh2:ωh[h2]?=_:=(gh h2 (by have:=ltG h2 (by simp);omega) hh2).trans od2;obtain⟨ωi,hωi⟩:∃ ωi,ωi=ωh.set e (.dt (oW hd.kept tl.kept)):=⟨_,rfl⟩;have li:ωi.length=ω.length+3+c:=by rw[hωi,hωh,hωg];simp[lf]
 have gi:∀ n,n<ω.length+2->n≠h->n≠e->ωi[n]?=ωd[n]?:=fun n hn hne hee=>by rw[hωi,aH hee];exact gh n hn hne
 have rin:∀ q∈cw ωd.length kn.length,ω.length+2<=q/\q<ω.length+2+c:=fun q hq=>by
  rw[my,ld,lkn] at hq;exact hq
 have rsin:∀ q∈rs',ω.length<=q/\q≠ωa.length/\q<ω.length+2+c:=fun q hq=>by
  rw[hrs'] at hq;rcases iy hq with z|z
  ·have:=rin q z;omega
  ·omega
 have HI:HandAt ωi h i (hd.hear0 i tl j) ωe.length ωa.length e rs':=by
  refine⟨?_,?_,?_,?_,?_,?_⟩
  ·rw[hωi,aH h3];exact oh
  ·rw[hωi,aH (by omega),hωh];exact cC kg
  ·show RowsAt ωi rs' ((br (br mx) hd.knows tl.knows).set i (br mx (hd.seen i) (tl.seen j)));rw[<- hkn,<- hs,hrs'];refine RowsAt.setAt (rf.mono fun q hq=> ?_) ?_
   ·have:=rin q hq
    rw[hωi,aH (by omega),hωh,aH (by omega),hωg,aH (by omega)]
   ·rw[gi _ (by omega) (by omega) (by omega)];exact sd
  ·show ωi[ωa.length]?=wj (.dt (nY (hd.hearT i tl j) []));rw[gi _ (by omega) (by omega) (by omega),<- hT];exact td
  ·rw[hωi];exact cC eh
  ·have hnd:rs'.Nodup:=by
    rw[hrs'];exact DM (u4) (fun z=>by have:=rin _ z;omega) i
   simp only[b0,ai,not_or];refine⟨⟨by omega,by omega,h3,fun z=>by have:=rsin _ z;omega⟩,⟨by omega,by omega,fun z=>by have:=rsin _ z;omega⟩,⟨by omega,fun z=>(rsin _ z).2.1 rfl⟩,fun z=>by have:=rsin _ z;omega,hnd⟩
 obtain⟨ω',f1,HF,KF⟩:=xD HI W2;refine⟨ω',ωe.length,ωa.length,ωi.length,rs',?_,HF,⟨?_,fun n hn hm=> ?_⟩,fun n hn=> ?_⟩
 ·refine aT rfl ?_;unfold pN;rw[aM (aW (aA (cI (aB rfl) H.obj rfl (kB H hr)) (aA (cI (aB rfl) G.obj rfl (kB G hr2)) aE)) (Gw (cG er) (cG er2) hs1))];rw[aM (aW (aA (cI (aB rfl) H.obj rfl (kB H hr)) (aA (cI (aB rfl) G.obj rfl (kB G hr2)) aE)) (wR (cG er) (cG er2) hs1))];rw[<- hs,<- hωa];rw[aM (d:=.obj ωa.length) (ω1:=ωb) (by rw[hωb];rfl)];rw[bA (fJ (by
   unfold bN oIL;rw[cD (x:=(hd.hearT i tl j,bW)) (ω1:=ωb) (by
    rw[bI (x:=.lst (hd.hearT i tl j)) (ω1:=ωb) (eW (aW (aA (cI (aB (d:=.obj h) rfl) Hb.obj rfl (jL Hb W.ents.1)) (aA (aB (d:=.obj h2) rfl) aE)) (sH Gb V hj W.entC (hX (eE W.entsLen)))) (aW (aA (cI (aB (d:=.obj h2) rfl) Gb.obj rfl (jL Gb V.ents.1)) (aA (aB (d:=.obj h) rfl) aE)) (sH Hb W hi V.entC (hX (eE V.entsLen)))) (by
     show(if(hd.ents.filter (tl.leaves j)).length+(tl.ents.filter (hd.leaves i)).length<=sizeLine then wj (D.lst (hd.hearT i tl j),ωb) else wk)=_
     rw[if_pos (by rw[bu];omega)]))]
    rfl)]
   exact loop))]
  rw[bA (kA (aB (d:=.obj ωa.length) rfl) (aB (d:=.obj h) rfl) oc (by simp))];rw[show ωc.set h (.ins 0 (kS "table" (.obj ωa.length) [("number",.int i),("knows",.obj k),("table",.obj t),("kept",.obj e)]))=ωd from by rw[hωd];rfl];rw[bA (kA (oS (ω1:=ωd) (ω2:=ωe) (ds:=yH (rs.map D.obj) (rs2.map D.obj)) (chk:=fun ω=>jQ k (rs.map D.obj) ω&&jQ k2 (rs2.map D.obj) ω) (by
    unfold oIZ;rw[bI (aA (fU (aB (d:=.obj h) rfl) od rfl) (aA (fU (aB (d:=.obj h2) rfl) od2 rfl) aE))];have z1:mO ωd (.obj k)=wj (rs.map D.obj,jQ k (rs.map D.obj)):=by simp only[mO,kd]
    have z2:mO ωd (.obj k2)=wj (rs2.map D.obj,jQ k2 (rs2.map D.obj)):=by simp only[mO,kd2]
    show oR (pu ((mO ωd (.obj k)).bind _) ωd)=_;rw[z1];show oR (pu ((mO ωd (.obj k2)).map _) ωd)=_;rw[z2];rfl) (by
     unfold yH;rw[fj,ao,ao,rd.length,rd2.length,W.len,V.len,i4];exact c8 rfl) joins) (by rw[<- hωf];exact aB (d:=.obj h) rfl) of (by simp))]
  rw[show ωf.set h (.ins 0 (kS "knows" (.obj ωe.length) [("number",.int i),("knows",.obj k),("table",.obj ωa.length),("kept",.obj e)]))=ωg from by rw[hωg];rfl];rw[bA (eY (aB (d:=.obj ω.length) rfl) (fU (aB (d:=.obj h) rfl) og rfl) (fU (aB (d:=.obj h) rfl) og rfl) (lY kg (by rw[ao,List.length_range',lkn];exact hi)))];rw[hset,<- hωh];rw[bA (ω1:=ωi) (by
   unfold bU;rw[cD (AT (r:=.non) (ω3:=ωi) (fU (aB (d:=.obj h) rfl) oh rfl) eh (aA (fU (aB (d:=.obj h2) rfl) oh2 rfl) aE) (by
    simp only[Ew,eh,eh2];rw[if_pos ⟨bv he2,by have:=W.kl;have:=V.kl;rw[bu];omega,hh⟩,<- hωi]))])]
  rw[bA (ω1:=ω') (by
   unfold bU;rw[cD (cI (aB (d:=.obj h) rfl) HI.obj rfl f1)])]
  exact bH (aB rfl)
 ·have:=KF.1;omega
 ·simp only[ai,ck,or_false,not_or] at hm;rw[KF.2 n (by omega) (by simpa using hm.1),gi n (by omega) hm.1 hm.2,gd n hn hm.1]
 ·simp only[ai] at hn;rcases hn with z|z|z|z
  ·omega
  ·omega
  ·omega
  ·exact(rsin n z).1
theorem Pf (H:HandS ω h i hd fp) (G:HandS ω h2 j tl fq) (hij:∀ n∈fp,n∉fq) (W:hd.Ok c) (V:tl.Ok c) (hi:i<c) (hj:j<c) (hh:eX (tl.kept.map (·.1))=true) (W2:(hd.hear0 i tl j).Ok c):
  ∃ ω',cN [.obj h,.obj h2] ω=wj (.ok (.int (NP (hd.seen i) (tl.seen j))),ω')/\Did ω h i fp ω' (hd.hear i tl j):=by
 obtain⟨k,t,e,rs,H,rfl⟩:=H;obtain⟨k2,t2,e2,rs2,G,rfl⟩:=G;obtain⟨ω',k',t',e',rs',e1,H',K,F⟩:=Kk H G hij W V hi hj hh W2;refine⟨ω',e1,_,⟨k',t',e',rs',H',rfl⟩,K.sub (fun n hn=>by simp only[ai,ck,or_false] at hn ⊢;rcases hn with z|z <;> simp[z]),fun n hn=> ?_⟩;rcases ai.mp hn with z|z
 ·exact .inl (by simp[z])
 ·exact .inr (F n z)
end
noncomputable def KeyIn (c:Nat) (own:Nat->Nat) (k:List Key):Prop:=∃ a b:Nat,a<c/\1<=b/\b<=own a/\k=gD a b
noncomputable def tot (c:Nat) (own:Nat->Nat):Nat:=((bq c).map own).sum
noncomputable def univ (c:Nat) (own:Nat->Nat):List (List Key):=(bq c).flatMap fun a=>(bq (own a)).map fun b=>gD a ((b+1:Nat):Int)
theorem tM (c:Nat) (own:Nat->Nat):(univ c own).length=tot c own:=by
 unfold univ tot;rw[List.length_flatMap]
 congr 1
 apply hV;intro a _;simp
theorem KeyIn.univ (h:KeyIn c own k):k∈univ c own:=by
 obtain⟨a,b,h1,h2,h3,rfl⟩:=h;unfold Lw.univ;rw[n8];refine⟨a,ie.mpr h1,aw.mpr ⟨b-1,ie.mpr (by omega),?_⟩⟩;rw[Nat.sub_add_cancel h2]
theorem KeyIn.mono (h:KeyIn c own k) (le:∀ a,own a<=own' a):KeyIn c own' k:=by
 obtain⟨a,b,h1,h2,h3,e⟩:=h;exact⟨a,b,h1,h2,cf h3 (le a),e⟩
theorem nI {α:Type} [DecidableEq α]:∀ {l m:List α},l.Nodup->(∀ x∈l,x∈m)->l.length<=m.length
 |[],m,_,_=>im _
 |a::r,m,h,hs=>by
  rw[b0] at h;have ha:=hs a aq;have h1:=nI (l:=r) (m:=m.erase a) h.2 fun x hx=>(List.mem_erase_of_ne (fun z:x=a=>h.1 (z ▸ hx))).mpr (hs x (ag _ hx));rw[List.length_erase_of_mem ha] at h1;have h2:=List.length_pos_of_mem ha;rw[bz];omega
structure Hd.In (c:Nat) (own:Nat->Nat) (hd:Hd):Prop where
 len:hd.knows.length=c
 row:∀ xs∈hd.knows,xs.length=c
 kb:∀ xs∈hd.knows,∀ a,a<c->0<=xs.getD a 0/\xs.getD a 0<=own a
 kk:∀ kv∈hd.kept,KeyIn c own kv.1
 kn:(hd.kept.map (·.1)).Nodup
 kv:∀ kv∈hd.kept,∃ ks:List (List Key),kv.2=.tup (ks.map bK)/\ks.length<64/\∀ q∈ks,KeyIn c own q
 tk:∀ kv∈hd.table,∃ a b:Nat,a<c/\1<=b/\b<=own a/\kv.1=gD a b/\∃(x:Str) (v:Int),kv.2=.tup [.str x,mkD a b,.int v]
 tn:(hd.table.map (·.1)).Nodup
section
variable {c:Nat}{own own':Nat->Nat}{hd tl:Hd}{i j:Nat}
theorem Hd.In.ok (W:hd.In c own) (c0:0<c) (c8:c<=8) (ht:tot c own<64):hd.Ok c where
 len:=W.len
 row:=W.row
 small:=c8
 pos:=c0
 kk:=fun kv h=>by
  obtain⟨a,b,h1,_,_,e⟩:=W.kk kv h;exact⟨a,b,e,by omega,by omega⟩
 kn:=W.kn
 kl:=by
  have:=nI W.kn (m:=univ c own) fun x hx=>by
   obtain⟨kv,h1,rfl⟩:=aw.mp hx;exact(W.kk kv h1).univ
  rw[tM,ao] at this;omega
 tk:=fun kv h=>by
  obtain⟨a,b,h1,_,_,e,x,v,e2⟩:=W.tk kv h;exact⟨a,b,by omega,by omega,e,x,v,e2⟩
 tn:=W.tn
 tl:=by
  have:=nI W.tn (m:=univ c own) fun x hx=>by
   obtain⟨kv,h1,rfl⟩:=aw.mp hx;obtain⟨a,b,h2,h3,h4,e,_⟩:=W.tk kv h1;exact KeyIn.univ ⟨a,b,h2,h3,h4,e⟩
  rw[tM,ao] at this;omega
theorem Hd.In.mono (W:hd.In c own) (le:∀ a,own a<=own' a):hd.In c own' where
 len:=W.len
 row:=W.row
 kb:=fun xs hx a ha=>⟨(W.kb xs hx a ha).1,Int.le_trans (W.kb xs hx a ha).2 (by have:=le a;omega)⟩
 kk:=fun kv h=>(W.kk kv h).mono le
 kn:=W.kn
 kv:=fun kv h=>by
  obtain⟨ks,e,hl,h2⟩:=W.kv kv h;exact⟨ks,e,hl,fun q hq=>(h2 q hq).mono le⟩
 tk:=fun kv h=>by
  obtain⟨a,b,h1,h2,h3,r⟩:=W.tk kv h;exact⟨a,b,h1,h2,cf h3 (le a),r⟩
 tn:=W.tn
theorem kT {p:List Key×D} (h:p∈putD kvs k v):p=(k,v)∨p∈kvs:=by
 unfold putD at h;split at h
 ·obtain⟨q,h1,h2⟩:=aw.mp h
  by_cases hq:q.1=k
  ·rw[if_pos hq] at h2;exact .inl (by rw[<- h2,hq])
  ·rw[if_neg hq] at h2;exact .inr (h2 ▸ h1)
 ·rcases cz.mp h with z|z
  ·exact .inr z
  ·exact .inl (by simpa using z)
theorem jF {k:List Key} (h:(kvs.map (·.1)).Nodup):((putD kvs k v).map (·.1)).Nodup:=by
 unfold putD;split
 ·rw[ia];rw[show kvs.map ((·.1)∘fun kv=>if kv.1=k then(kv.1,v) else kv)=kvs.map (·.1) from hV fun kv _=>by
   show(if kv.1=k then(kv.1,v) else kv).1=kv.1
   split <;> rfl]
  exact h
 ·rename_i hn
  rw[c6,jo];refine⟨h,by simp,fun a ha b hb z=>hn ?_⟩;rw[nv];obtain⟨p,h1,h2⟩:=aw.mp ha;refine⟨p,h1,decide_eq_true ?_⟩;have hb':b=k:=by simpa using hb
  rw[h2,z,hb']
theorem EQ (kvs:List (List Key×D)) (k:List Key):(eA kvs k).Sublist kvs:=j9
theorem pS:∀(ks:List (List Key)) (kvs:List (List Key×D)),(ks.foldl eA kvs).Sublist kvs
 |[],kvs=>List.Sublist.refl _
 |k::ks,kvs=>(pS ks (eA kvs k)).trans (EQ kvs k)
theorem nV:∀ {out:List D}{T:List (List Key×D)},(T.map (·.1)).Nodup->((nY out T).map (·.1)).Nodup
 |[],T,h=>h
 |d::out,T,h=>nV (out:=out) (jF h)
theorem nW:∀ {out:List D}{T:List (List Key×D)}{p:List Key×D},p∈nY out T->p∈T∨∃ d∈out,p=(aV d,d)
 |[],T,p,h=>.inl h
 |d::out,T,p,h=>by
  rcases nW (out:=out) (T:=putD T (aV d) d) h with z|⟨d',h1,h2⟩
  ·rcases kT z with z|z
   ·exact .inr ⟨d,aq,z⟩
   ·exact .inl z
  ·exact .inr ⟨d',ag _ h1,h2⟩
theorem mK:∀ {ms kvs:List (List Key×D)},(kvs.map (·.1)).Nodup->((oW kvs ms).map (·.1)).Nodup
 |[],kvs,h=>h
 |d::ms,kvs,h=>mK (ms:=ms) (kvs:=putD kvs d.1 d.2) (jF h)
theorem mD:∀ {ms kvs:List (List Key×D)}{p:List Key×D},p∈oW kvs ms->p∈kvs∨p∈ms
 |[],kvs,p,h=>.inl h
 |d::ms,kvs,p,h=>by
  rcases mD (ms:=ms) (kvs:=putD kvs d.1 d.2) h with z|z
  ·rcases kT z with z|z
   ·exact .inr (by rw[z];exact aq)
   ·exact .inl z
  ·exact .inr (ag _ z)
theorem fD (xs:List Int) (i a:Nat) (v:Int) (hi:i<xs.length):(xs.set i v).getD a 0=if a=i then v else xs.getD a 0:=by
 rw[au,au,List.getElem?_set]
 by_cases h:a=i
 ·subst h;simp[hi]
 ·rw[if_neg (bv h),if_neg h]
theorem vM {f:Int->Int->Int}{xs ys:List Int}{a:Nat} (h1:a<xs.length) (h2:a<ys.length):(br f xs ys).getD a 0=f (xs.getD a 0) (ys.getD a 0):=by
 simp[au,ss,bi h1,bi h2]
theorem Il {α β γ:Type}{f:α->β->γ}:∀ {xs:List α}{ys:List β}{z:γ},z∈br f xs ys->∃ x∈xs,∃ y∈ys,z=f x y
 |[],_,_,h=>by simp at h
 |_::_,[],_,h=>by simp at h
 |x::xs,y::ys,z,h=>by
  rw[jc] at h;rcases ai.mp h with h|h
  ·exact⟨x,aq,y,aq,h⟩
  ·obtain⟨x',h1,y',h2,e⟩:=Il h;exact⟨x',ag _ h1,y',ag _ h2,e⟩
noncomputable def dG (own:Nat->Nat) (i:Nat):Nat->Nat:=fun a=>if a=i then own a+1 else own a
theorem iB (own:Nat->Nat) (i a:Nat):own a<=dG own i a:=by
 unfold dG;split <;> omega
theorem Hd.In.seenMem (W:hd.In c own) (hi:i<c):hd.seen i∈hd.knows:=by
 unfold Hd.seen
 have:i<hd.knows.length:=by rw[W.len];exact hi
 rw[au,bi this];exact ja this
theorem Hd.In.seenLen (W:hd.In c own) (hi:i<c):(hd.seen i).length=c:=W.row _ (W.seenMem hi)
theorem Hd.In.bump (W:hd.In c own) (hi:i<c) (hs:(hd.seen i).getD i 0=own i):(hd.bump i).In c (dG own i):=by
 have W':=W.mono (iB own i);refine⟨?_,?_,?_,W'.kk,W'.kn,W'.kv,W'.tk,W'.tn⟩
 ·show(hd.knows.set i _).length=c
  rw[ci];exact W.len
 ·intro xs hx;rcases iy hx with z|z
  ·exact W.row xs z
  ·rw[z,ci];exact W.seenLen hi
 ·intro xs hx a ha;rcases iy hx with z|z
  ·exact W'.kb xs z a ha
  ·rw[z,fD _ _ _ _ (by rw[W.seenLen hi];exact hi)]
   by_cases h:a=i
   ·rw[if_pos h,hs,h];unfold dG;rw[if_pos rfl];omega
   ·rw[if_neg h];exact W'.kb _ (W.seenMem hi) a ha
theorem jO (W:hd.In c own) (hi:i<c) (hs:(hd.seen i).getD i 0=own i):((hd.bump i).seen i).getD i 0=dG own i i:=by
 have:(hd.bump i).seen i=(hd.seen i).set i ((hd.seen i).getD i 0+1):=by
  show(hd.knows.set i _).getD i []=_
  rw[au,dq (by rw[W.len];exact hi)];rfl
 rw[this,fD _ _ _ _ (by rw[W.seenLen hi];exact hi),if_pos rfl,hs];unfold dG;rw[if_pos rfl];omega
theorem Gu (hs:(hd.seen i).getD i 0=own i):hd.next i=((dG own i i:Nat):Int):=by
 unfold Hd.next dG;rw[hs,if_pos rfl];omega
theorem lC (hi:i<c) (hs:(hd.seen i).getD i 0=own i):KeyIn c (dG own i) (gD i (hd.next i)):=by
 rw[Gu hs];refine⟨i,dG own i i,hi,?_,bf _,rfl⟩;unfold dG;rw[if_pos rfl];omega
theorem Hd.In.put (W:hd.In c own) (hi:i<c) (hs:(hd.seen i).getD i 0=own i) (x:Str) (v:Int):(hd.put i x v).In c (dG own i):=by
 have B:=W.bump hi hs;refine⟨B.len,B.row,B.kb,B.kk,B.kn,B.kv,?_,jF W.tn⟩;intro kv hkv;rcases kT hkv with z|z
 ·obtain⟨a,b,h1,h2,h3,e⟩:=lC hi hs;have hab:(i:Int)=a/\hd.next i=b:=by
   unfold gD at e;simp at e;omega
  refine⟨a,b,h1,h2,h3,by rw[z];exact e,x,v,?_⟩;rw[z];show D.tup [.str x,mkD i (hd.next i),.int v]=D.tup [.str x,mkD a b,.int v];unfold mkD;rw[hab.1,hab.2]
 ·exact B.tk kv z
theorem Hd.In.takeOut0 (W:hd.In c own) {mk:List Key} (hm:KeyIn c own mk) (hl:ks.length<64) (hk:∀ q∈ks,KeyIn c own q):(hd.takeOut0 mk ks).In c own:=by
 refine⟨W.len,W.row,W.kb,?_,?_,?_,fun kv h=>W.tk kv ((pS ks hd.table).subset h),?_⟩
 ·intro kv h
  change kv∈(if ks=[] then hd.kept else _) at h
  split at h
  ·exact W.kk kv h
  ·rcases kT h with z|z
   ·rw[z];exact hm
   ·exact W.kk kv z
 ·show((if ks=[] then hd.kept else _).map (·.1)).Nodup
  split
  ·exact W.kn
  ·exact jF W.kn
 ·intro kv h
  change kv∈(if ks=[] then hd.kept else _) at h
  split at h
  ·exact W.kv kv h
  ·rcases kT h with z|z
   ·rw[z];exact⟨ks,rfl,hl,hk⟩
   ·exact W.kv kv z
 ·exact W.tn.sublist ((pS ks hd.table).map _)
theorem Hd.In.forget (W:hd.In c own):hd.forget.In c own:=
 ⟨W.len,W.row,W.kb,fun kv h=>W.kk kv (b8.mp h).1,W.kn.sublist (j9.map _),fun kv h=>W.kv kv (b8.mp h).1,W.tk,W.tn⟩
theorem Hd.In.hear0 (W:hd.In c own) (V:tl.In c own) (Wo:hd.Ok c) (Vo:tl.Ok c) (hi:i<c) (hj:j<c):(hd.hear0 i tl j).In c own:=by
 have joinB:∀ xs ys:List Int,xs.length=c->ys.length=c->(∀ a,a<c->0<=xs.getD a 0/\xs.getD a 0<=own a)->(∀ a,a<c->0<=ys.getD a 0/\ys.getD a 0<=own a)->(br mx xs ys).length=c/\∀ a,a<c->0<=(br mx xs ys).getD a 0/\(br mx xs ys).getD a 0<=own a:=by
  intro xs ys h1 h2 h3 h4;refine⟨by rw[fj,h1,h2,i4],fun a ha=> ?_⟩;rw[vM (by omega) (by omega)];unfold mx;split
  ·exact h4 a ha
  ·exact h3 a ha
 have rowsB:∀ zs∈(hd.hear0 i tl j).knows,zs.length=c/\∀ a,a<c->0<=zs.getD a 0/\zs.getD a 0<=own a:=by
  intro zs hz;rcases iy hz with z|z
  ·obtain⟨x,hx,y,hy,rfl⟩:=Il z;exact joinB x y (W.row x hx) (V.row y hy) (W.kb x hx) (V.kb y hy)
  ·rw[z];exact joinB _ _ (W.seenLen hi) (V.seenLen hj) (W.kb _ (W.seenMem hi)) (V.kb _ (V.seenMem hj))
 have entT:∀ {hd:Hd},hd.In c own->hd.Ok c->∀ d∈hd.ents,∃ a b:Nat,a<c/\1<=b/\b<=own a/\aV d=gD a b/\∃(x:Str) (v:Int),d=.tup [.str x,mkD a b,.int v]:=by
  intro hd W Wo d hd';obtain⟨kv,h1,rfl⟩:=aw.mp (Wo.ents.2.mem_iff.mp hd');obtain⟨a,b,h2,h3,h4,e,x,v,e2⟩:=W.tk kv h1;exact⟨a,b,h2,h3,h4,by rw[e2];rfl,x,v,e2⟩
 refine⟨?_,fun xs hx=>(rowsB xs hx).1,fun xs hx=>(rowsB xs hx).2,?_,mK W.kn,?_,?_,nV (by simp)⟩
 ·show((br (br mx) hd.knows tl.knows).set i _).length=c
  rw[ci,fj,W.len,V.len,i4]
 ·intro kv h;rcases mD h with z|z
  ·exact W.kk kv z
  ·exact V.kk kv z
 ·intro kv h;rcases mD h with z|z
  ·exact W.kv kv z
  ·exact V.kv kv z
 ·intro kv h;rcases nW h with z|⟨d,hd',rfl⟩
  ·simp at z
  ·rcases cz.mp hd' with z|z
   ·exact entT W Wo d (b8.mp z).1
   ·exact entT V Vo d (b8.mp z).1
theorem Bc (W:hd.In c own) (V:tl.In c own) (hi:i<c) (hj:j<c) (hs:(hd.seen i).getD i 0=own i):((hd.hear i tl j).seen i).getD i 0=own i:=by
 have:(hd.hear i tl j).seen i=br mx (hd.seen i) (tl.seen j):=by
  show((br (br mx) hd.knows tl.knows).set i _).getD i []=_
  rw[au,dq (by rw[fj,W.len,V.len,i4];exact hi)];rfl
 rw[this,vM (by rw[W.seenLen hi];exact hi) (by rw[V.seenLen hj];exact hi),hs]
 have:=(V.kb _ (V.seenMem hj) i hi).2
 unfold mx;rw[if_neg (by omega)]
theorem Hd.Ok.marksLen (Wo:hd.Ok c) (x:Str):(hd.marksK x).length<64:=by
 unfold Hd.marksK;rw[ao];exact mf (dy ..) Wo.entsLen
theorem Hd.In.marks (W:hd.In c own) (Wo:hd.Ok c) (x:Str):∀ q∈hd.marksK x,KeyIn c own q:=fun q hq=>by
 obtain⟨kv,h1,rfl⟩:=aw.mp (Wo.marksIn x q hq);obtain⟨a,b,h2,h3,h4,e,_⟩:=W.tk kv h1;exact⟨a,b,h2,h3,h4,e⟩
end
theorem pG:∀ {U:List (List Key)},eX U=true->(∀ k∈U,∃ a,eZ k=wj a)/\∀ k∈U,∀ k'∈U,eZ k=eZ k'->k=k'
 |[],_=>⟨fun k h=>by simp at h,fun k h=>by simp at h⟩
 |k::r,h=>by
  have h':((eZ k).isSome&&r.all (fun k'=>match eZ k,eZ k' with
   |some a,wj b=>decide (a≠b)
   |_,_=>false)&&eX r)=true:=h
  rw[bp,bp] at h';obtain⟨⟨h0,ha⟩,hr⟩:=h';obtain⟨i1,i2⟩:=pG hr;have main:∀ y∈r,eZ k=eZ y->False:=fun y hy e=>by
   have:=ff.mp ha y hy
   split at this
   ·rename_i a b e1 e2
    rw[e1,e2] at e;cases e;simp at this
   ·cases this
  refine⟨fun q hq=> ?_,fun q hq q' hq' e=> ?_⟩
  ·rcases ai.mp hq with rfl|hq
   ·exact ma.mp h0
   ·exact i1 q hq
  ·rcases ai.mp hq with z|hq1
   ·rcases ai.mp hq' with z'|hq2
    ·rw[z,z']
    ·rw[z] at e;exact(main q' hq2 e).elim
   ·rcases ai.mp hq' with z'|hq2
    ·rw[z'] at e;exact(main q hq1 e.symm).elim
    ·exact i2 q hq1 q' hq2 e
theorem mM (hU:eX U=true):∀ {ks:List (List Key)},(∀ k∈ks,k∈U)->ks.Nodup->eX ks=true
 |[],_,_=>rfl
 |k::r,hs,nd=>by
  rw[b0] at nd;obtain⟨s1,s2⟩:=pG hU;have hk:=hs k aq;obtain⟨a,ea⟩:=s1 k hk
  show((eZ k).isSome&&r.all (fun k'=>match eZ k,eZ k' with
   |some a,wj b=>decide (a≠b)
   |_,_=>false)&&eX r)=true
  rw[bp,bp];refine⟨⟨by rw[ea];rfl,?_⟩,mM hU (fun q hq=>hs q (ag _ hq)) nd.2⟩;rw[ff];intro k' hk';obtain⟨b,eb⟩:=s1 k' (hs k' (ag _ hk'));rw[ea,eb];show decide (a≠b)=true;refine decide_eq_true fun z=>nd.1 ?_;rw[s2 k hk k' (hs k' (ag _ hk')) (by rw[ea,eb,z])];exact hk'
theorem RowsAt.mem (h:RowsAt ω rs kn):∀ r∈rs,∃ xs,ω[r]?=wj (.ml (iv xs)):=by
 induction h with
 |nil=>intro r hr;simp at hr
 |cons h0 _ ih=>
  intro r hr;rcases ai.mp hr with rfl|hr
  ·exact⟨_,h0⟩
  ·exact ih r hr
theorem BK (h:RowsAt ω rs kn):(rs.map D.obj).map (fun d=>D.lst ((cA ω d).getD []))=kn.map fun xs=>D.lst (iv xs):=by
 induction h with
 |nil=>rfl
 |@cons r x rs kn h0 _ ih=>
  rw[bh,bh,bh,ih]
  have:cA ω (.obj r)=wj (iv x):=by simp only[cA,fW,h0]
  rw[this];rfl
theorem pD (h:ω[n]?=wj (.ml ds)):jQ n ds ω=true:=by
 unfold jQ;rw[h];exact sameDs_refl _
theorem Na (a b a' b':Int):∃ c,dX 4 (.tup [.int a,.int b]) (.tup [.int a',.int b'])=wj c:=by
 show ∃ c,(match eqD 4 (.int a) (.int a') with
  |some true=>(match eqD 4 (.int b) (.int b') with
   |some true=>wj _
   |some false=>fR (.int b) (.int b')
   |none=>wk)
  |some false=>fR (.int a) (.int a')
  |none=>wk)=wj c
 have e1:eqD 4 (.int a) (.int a')=wj (decide (a=a')):=rfl;have e2:eqD 4 (.int b) (.int b')=wj (decide (b=b')):=rfl;rw[e1,e2];cases decide (a=a') with
 |false=>exact⟨_,rfl⟩
 |true=>
  cases decide (b=b') with
  |false=>exact⟨_,rfl⟩
  |true=>exact⟨_,rfl⟩
section
variable {ω:Om}{h k t e:Nat}{i c:Nat}{hd:Hd}{rs fp:List Nat}{own:Nat->Nat}
theorem GE (H:HandAt ω h i hd k t e rs) (hl:rs.length<=sizeLine):gA [.obj h] ω=wj (.ok (.lst (hd.knows.map fun xs=>.lst (iv xs))),ω):=by
 refine aT rfl (bH (gC (ds:=rs.map D.obj) (chk:=jQ k (rs.map D.obj)) (ω1:=ω) ?_ (by simpa using hl) ?_))
 ·unfold oIL;rw[bI (H.knows (aB rfl))]
  have:mO ω (.obj k)=wj (rs.map D.obj,jQ k (rs.map D.obj)):=by simp only[mO,H.kn]
  show oR (pu (mO ω (.obj k)) ω)=_;rw[this];rfl
 ·rw[<- BK H.rows];refine lP (fun ρ=>ρ.length=1) (pD H.kn) rfl fun d hd ρ hρ=> ?_;obtain⟨r,hr,rfl⟩:=aw.mp hd;obtain⟨xs,ex⟩:=H.rows.mem r hr
  match ρ,hρ with
  |[u],_=>
   refine⟨_,rfl,rfl,dD (aA (aB (d:=.obj r) rfl) aE) ?_⟩
   have:cA ω (.obj r)=wj (iv xs):=by simp only[cA,fW,ex]
   show(cA ω (.obj r)).map _=_
   rw[this];rfl
theorem FC (H:HandAt ω h i hd k t e rs) (hi:i<hd.knows.length) (ef:f ρ ω=wj (.ok (.obj h),ω)):oL iG (aC (bJ 0 "seen" bX f aP) aP) ρ ω=wj (.ok (.lst (iv (hd.seen i))),ω):=by
 obtain⟨r,hr,er⟩:=H.seenRow hi;refine dD (aA (cI ef H.obj rfl (kB H hr)) aE) ?_
 have:cA ω (.obj r)=wj (iv (hd.seen i)):=by simp only[cA,fW,er]
 show(cA ω (.obj r)).map _=_
 rw[this];rfl
noncomputable def Hd.mindK (hd:Hd):List D:=(eD 4 (hd.kept.map fun p=>bK p.1)).getD []
noncomputable def Hd.mindV (hd:Hd) (q:D):D:=match CL q with
 |some k=>(match iE hd.kept k with
  |some (.tup ds)=>.lst ds
  |_=>.non)
 |none=>.non
noncomputable def Hd.mind (hd:Hd):List D:=hd.mindK.map fun q=>.tup [q,hd.mindV q]
theorem Hd.Ok.mindK (W:hd.Ok c):eD 4 (hd.kept.map fun p=>bK p.1)=wj hd.mindK/\hd.mindK.Perm (hd.kept.map fun p=>bK p.1):=by
 have key:∀ d∈hd.kept.map fun p=>bK p.1,∃ a b:Int,d=.tup [.int a,.int b]:=fun d hd'=>by
  obtain⟨kv,h1,rfl⟩:=aw.mp hd';obtain⟨a,b,e,_⟩:=W.kk kv h1;exact⟨a,b,by show bK kv.1=_;rw[e];rfl⟩
 obtain⟨out,e1,e2⟩:=tR (m:=4) (ds:=hd.kept.map fun p=>bK p.1) (by rw[ao];exact W.kl) (by
  unfold iN;rw[ik];left;rw[ff];intro d hd';obtain⟨a,b,rfl⟩:=key d hd';rfl) (fun x hx y hy=>by
  obtain⟨a,b,rfl⟩:=key x hx;obtain⟨a',b',rfl⟩:=key y hy;exact Na a b a' b')
 have:hd.mindK=out:=by unfold Hd.mindK;rw[e1];rfl
 rw[this];exact⟨e1,e2⟩
theorem Gx (W:hd.In c own) (hq:q∈hd.kept):∃ ks:List (List Key),iE hd.kept q.1=wj (.tup (ks.map bK))/\hd.mindV (bK q.1)=.lst (ks.map bK)/\ks.length<64/\∀ x∈ks,KeyIn c own x:=by
 obtain⟨ks,e,hl,h2⟩:=W.kv q hq;have e1:=yJ W.kn hq;rw[e] at e1;refine⟨ks,e1,?_,hl,h2⟩;unfold Hd.mindV;rw[AB]
 show(match iE hd.kept q.1 with
  |some (.tup ds)=>D.lst ds
  |_=>.non)=_
 rw[e1]
theorem Cl (H:HandAt ω h i hd k t e rs) (W:hd.Ok c) (I:hd.In c own):eP [.obj h] ω=wj (.ok (.lst hd.mind),ω):=by
 have hl:hd.mindK.length<64:=by rw[W.mindK.2.length_eq,ao];exact W.kl
 refine aT rfl (bH (gC (ds:=hd.mindK) (chk:=bW) (ω1:=ω) ?_ (hX (eE hl)) ?_))
 ·unfold oIL;rw[bI (dD (d:=.lst hd.mindK) (ω2:=ω) (aA (H.kept (aB rfl)) aE) (by
   simp only[EA,cellOf,H.kp];rw[W.mindK.1];rfl))]
  rfl
 ·refine lP (fun ρ=>∃ u,ρ=[u,wj (.obj h)]) rfl ⟨_,rfl⟩ fun d hd' ρ hρ=> ?_;obtain⟨q,hq,rfl⟩:=aw.mp (W.mindK.2.mem_iff.mp hd');obtain⟨ks,e1,e2,_⟩:=Gx I hq;obtain⟨u,rfl⟩:=hρ;refine⟨_,rfl,⟨_,rfl⟩,dD (aA (aB (d:=bK q.1) rfl) (aA (dD (aA (eW (d:=.tup (ks.map bK)) (H.kept (aB rfl)) (aB (d:=bK q.1) rfl) (by
   show pu (cL ω (.obj e) (bK q.1)) ω=_
   have:cL ω (.obj e) (bK q.1)=wj (.tup (ks.map bK)):=by
    simp only[cL,CN,cellOf,H.kp,AB];rw[rg,e1];rfl
   rw[this];rfl)) aE) (d:=.lst (ks.map bK)) rfl) aE)) ?_⟩
  show pu (eM [bK q.1,.lst (ks.map bK)]) ω=wj (D.tup [bK q.1,hd.mindV (bK q.1)],ω);rw[e2];unfold eM;rw[if_pos (by rw[bu];simp)];rfl
end
noncomputable def Hd0 (c:Nat):Hd:=⟨ar c (ar c 0),[],[]⟩
theorem Bl:∀ c:Nat,(ar c [D.int 0]).flatten=iv (ar c 0)
 |0=>rfl
 |c+1=>by
  rw[fh,i5,Bl c];rfl
theorem zO {c:Nat} (c8:c<=8):∀(ds:List D) (u:Option D) (ω:Om),compLO (aY 0) bW (oPT kM) (o2 zJ (oL (fun ω ds=>pu (fE ds) ω) (aC (oP (dC (.int 0))) aP)) (oP (aD 1))) ds [u,wj (.int c)] ω=wj ((cw ω.length ds.length).map D.obj,ω++ar ds.length (.ml (iv (ar c 0))))
 |[],u,ω=>by
  show wj ([],ω)=_;simp
 |d::ds,u,ω=>by
  have ih:=zO c8 ds (wj d) (ω++[.ml (iv (ar c 0))]);have b1:o2 zJ (oL (fun ω ds=>pu (fE ds) ω) (aC (oP (dC (.int 0))) aP)) (oP (aD 1)) [wj d,wj (.int c)] ω=wj (.ok (.obj ω.length),ω++[.ml (iv (ar c 0))]):=by
   refine eW (ω1:=ω) (ω2:=ω) (a:=.lst [.int 0]) (b:=.int c) (dD (aA aU aE) ?_) (aB rfl) ?_
   ·show pu (fE [.int 0]) ω=_;unfold fE;rw[if_pos (by rw[bu];simp)];rfl
   ·show(if -1000000<=(c:Int)/\(c:Int)<=1000000/\1*(c:Int).toNat<=sizeLine then wj (D.obj ω.length,ω++[.ml (ar (c:Int).toNat [D.int 0]).flatten]) else wk)=_
    rw[if_pos ⟨by omega,by omega,by rw[bu];omega⟩,c7,Bl]
  refine(qF rfl rfl (b1)).trans ?_;rw[ih,bz,j5,bh,fh,b7];show wj (_,_)=_;rw[g7];rfl
theorem GS {c:Nat} (c8:c<=1000):jR [.int (c:Int)]=wj (qX 0 c):=by
 show(if -1000000000<=(c:Int)/\(c:Int)<=1000000000 then wj (qX 0 (c:Int).toNat) else wk)=_
 rw[if_pos ⟨by omega,by omega⟩,c7]
theorem mH (e:f ρ ω=wj (.ok (.int c),ω1)) (c8:c<=1000):oIA jR (aC f aP) ρ ω=wj (.ok (qX 0 c,bW),ω1):=by
 unfold oIA;rw[bI (aA e aE)];show oR (pu ((jR [.int (c:Int)]).map _) ω1)=_;rw[GS c8];rfl
theorem Em {i c:Nat} (c8:c<=8):∃ ω' fp,dS [.obj ω.length,.int i,.int c] (ω++[.ins 0 []])=wj (.ok .non,ω')/\HandS ω' ω.length i (Hd0 c) fp/\Keep [] ω ω'/\∀ n∈fp,ω.length<=n:=by
 obtain⟨ω1,hω1⟩:∃ ω1,ω1=(ω++[Ob.ins 0 []]).set ω.length (.ins 0 [("number",.int i)]):=⟨_,rfl⟩;have g0:(ω++[Ob.ins 0 []])[ω.length]?=wj (.ins 0 []):=by simp
 have g1:ω1[ω.length]?=wj (.ins 0 [("number",.int i)]):=by rw[hω1];exact cC g0
 have l1:ω1.length=ω.length+1:=by rw[hω1];simp
 have k1:∀ n,n<ω.length->ω1[n]?=ω[n]?:=fun n hn=>by rw[hω1,aH (by omega),aj hn]
 have fill:=zO c8 (qX 0 c) wk ω1;rw[fZ] at fill;obtain⟨ω2,hω2⟩:∃ ω2,ω2=ω1++ar c (Ob.ml (iv (ar c 0))):=⟨_,rfl⟩;rw[<- hω2] at fill;have l2:ω2.length=ω.length+1+c:=by rw[hω2];simp[l1]
 obtain⟨ω3,hω3⟩:∃ ω3,ω3=ω2++[Ob.ml ((cw ω1.length c).map D.obj)]:=⟨_,rfl⟩;have l3:ω3.length=ω.length+2+c:=by rw[hω3];simp[l2];omega
 have k3:∀ n,n<ω.length+1->ω3[n]?=ω1[n]?:=fun n hn=>by rw[hω3,aj (by omega),hω2,aj (by omega)]
 have g3:ω3[ω.length]?=wj (.ins 0 [("number",.int i)]):=by rw[k3 _ (by omega)];exact g1
 have r3:RowsAt ω3 (cw ω1.length c) (ar c (ar c 0)):=by
  have:=mC (ar c (ar c 0)) ω1 [Ob.ml ((cw ω1.length c).map D.obj)]
  rw[List.map_replicate,ji,<- hω2,<- hω3] at this;exact this
 have kk3:ω3[ω2.length]?=wj (.ml ((cw ω1.length c).map D.obj)):=by rw[hω3];simp
 obtain⟨ω4,hω4⟩:∃ ω4,ω4=ω3.set ω.length (.ins 0 [("number",.int i),("knows",.obj ω2.length)]):=⟨_,rfl⟩;have l4:ω4.length=ω.length+2+c:=by rw[hω4];simp[l3]
 have g4:ω4[ω.length]?=wj (.ins 0 [("number",.int i),("knows",.obj ω2.length)]):=by rw[hω4];exact cC g3
 obtain⟨ω5,hω5⟩:∃ ω5,ω5=(ω4++[Ob.dt []]).set ω.length (.ins 0 [("number",.int i),("knows",.obj ω2.length),("table",.obj ω4.length)]):=⟨_,rfl⟩;have g4':(ω4++[Ob.dt []])[ω.length]?=wj (.ins 0 [("number",.int i),("knows",.obj ω2.length)]):=by rw[aj (by omega)];exact g4
 have l5:ω5.length=ω.length+3+c:=by rw[hω5];simp[l4];omega
 have g5:ω5[ω.length]?=wj (.ins 0 [("number",.int i),("knows",.obj ω2.length),("table",.obj ω4.length)]):=by rw[hω5];exact cC g4'
 have t5:ω5[ω4.length]?=wj (.dt []):=by rw[hω5,aH (by omega)];simp
 obtain⟨ω6,hω6⟩:∃ ω6,ω6=(ω5++[Ob.dt []]).set ω.length (.ins 0 [("number",.int i),("knows",.obj ω2.length),("table",.obj ω4.length),("kept",.obj ω5.length)]):=⟨_,rfl⟩;have g5':(ω5++[Ob.dt []])[ω.length]?=wj (.ins 0 [("number",.int i),("knows",.obj ω2.length),("table",.obj ω4.length)]):=by rw[aj (by omega)];exact g5
 have l6:ω6.length=ω.length+4+c:=by rw[hω6];simp[l5];omega
 have g6:∀ n,n<ω.length+2+c->n≠ω.length->ω6[n]?=ω3[n]?:=fun n hn hne=>by
  rw[hω6,aH hne,aj (by omega),hω5,aH hne,aj (by omega),hω4,aH hne]
 have rin:∀ q∈cw ω1.length c,ω.length+1<=q/\q<ω.length+1+c:=fun q hq=>by
  rw[my,l1] at hq;exact hq
 refine⟨ω6,ω.length::ω2.length::ω4.length::ω5.length::cw ω1.length c,?_,⟨ω2.length,ω4.length,ω5.length,cw ω1.length c,⟨?_,?_,?_,?_,?_,?_⟩,rfl⟩,⟨by omega,fun n hn _=> ?_⟩,fun n hn=> ?_⟩
 ·refine tV (ρ1:=[wj (.obj ω.length),wj (.int i),wj (.int c)]) rfl ?_;unfold lI;rw[bA (kA (aB (d:=.int i) rfl) (aB (d:=.obj ω.length) rfl) g0 (by simp))];rw[show(ω++[Ob.ins 0 []]).set ω.length (.ins 0 (kS "number" (.int i) []))=ω1 from by rw[hω1];rfl];rw[bA (kA (oS (ω2:=ω2) (mH (c:=c) (aB rfl) (by omega)) (by rw[fZ,bu];omega) fill) (by rw[<- hω3];exact aB (d:=.obj ω.length) rfl) g3 (by simp))];rw[show ω3.set ω.length (.ins 0 (kS "knows" (.obj ω2.length) [("number",.int i)]))=ω4 from by rw[hω4];rfl];rw[bA (kA (v:=.obj ω4.length) (ω1:=ω4++[.dt []]) rfl (aB (d:=.obj ω.length) rfl) g4' (by simp))];rw[show(ω4++[Ob.dt []]).set ω.length (.ins 0 (kS "table" (.obj ω4.length) [("number",.int i),("knows",.obj ω2.length)]))=ω5 from by rw[hω5];rfl];rw[kA (v:=.obj ω5.length) (ω1:=ω5++[.dt []]) rfl (aB (d:=.obj ω.length) rfl) g5' (by simp)];rw[show(ω5++[Ob.dt []]).set ω.length (.ins 0 (kS "kept" (.obj ω5.length) [("number",.int i),("knows",.obj ω2.length),("table",.obj ω4.length)]))=ω6 from by rw[hω6];rfl];rfl
 ·rw[hω6];exact cC g5'
 ·rw[g6 _ (by omega) (by omega)];exact kk3
 ·exact r3.mono fun q hq=>by have:=rin q hq;exact g6 q (by omega) (by omega)
 ·rw[hω6,aH (by omega),aj (by omega)];exact t5
 ·rw[hω6,aH (by omega)];simp[Hd0]
 ·simp only[b0,ai,not_or];refine⟨⟨by omega,by omega,by omega,fun z=>by have:=rin _ z;omega⟩,⟨by omega,by omega,fun z=>by have:=rin _ z;omega⟩,⟨by omega,fun z=>by have:=rin _ z;omega⟩,fun z=>by have:=rin _ z;omega,u4⟩
 ·rw[g6 n (by omega) (by omega),k3 n (by omega)];exact k1 n hn
 ·simp only[ai] at hn;rcases hn with z|z|z|z|z
  ·omega
  ·omega
  ·omega
  ·omega
  ·have:=rin n z;omega
theorem DW (e1:fl ρ ω=wj (.ok ds,ω1)) (e2:φ (.obj ω1.length::ds) (ω1++[.ins cl []])=wj (.ok .non,ω2)):uC cl φ fl ρ ω=wj (.ok (.obj ω1.length),ω2):=by
 unfold uC;rw[bI e1]
 show(match φ (.obj ω1.length::ds) (ω1++[.ins cl []]) with
  |some (.ok .non,ω')=>wj (Rz.ok (D.obj ω1.length),ω')
  |some (.ex c,ω')=>wj (.ex c,ω')
  |_=>wk)=_
 rw[e2]
theorem gG (s:Int) (m:Nat):qX s (m+1)=.int s::qX (s+1) m:=by
 unfold qX;rw[rq,bh,ia]
 congr 1
 ·simp
 ·apply hV;intro k _;show D.int (s+((k+1:Nat):Int))=D.int (s+1+(k:Int))
  congr 1
  omega
theorem Be {c:Nat} (c8:c<=8):∀(m s:Nat) (u:Option D) (ω:Om),∃(ω':Om) (hs:Nat->Nat) (fp:Nat->List Nat),compLO (aY 0) bW (oPT kM) (uC 0 dS (aC (oP (aD 0)) (aC (oP (aD 1)) aP))) (qX s m) [u,wj (.int c)] ω=wj ((cw s m).map fun i=>D.obj (hs i),ω')/\
  (∀ i,s<=i->i<s+m->HandS ω' (hs i) i (Hd0 c) (fp i))/\(∀ i,s<=i->i<s+m->∀ n∈fp i,ω.length<=n)/\(∀ i,s<=i->i<s+m->∀ j,s<=j->j<s+m->i≠j->∀ n∈fp i,n∉fp j)/\Keep [] ω ω'
 |0,s,u,ω=>⟨ω,fun _=>0,fun _=>[],rfl,fun i h1 h2=>by omega,fun i h1 h2=>by omega,fun i h1 h2=>by omega,Keep.refl _ _⟩
 |m+1,s,u,ω=>by
  obtain⟨ω1,fp0,e1,H1,K1,F1⟩:=Em (ω:=ω) (i:=s) c8;obtain⟨ω2,hs,fp,e2,H2,F2,A2,K2⟩:=Be c8 m (s+1) (wj (.int s)) ω1;have ltH:=H1.lt;refine⟨ω2,fun i=>if i=s then ω.length else hs i,fun i=>if i=s then fp0 else fp i,?_,fun i h1 h2=> ?_,fun i h1 h2 n hn=> ?_,fun i h1 h2 j h3 h4 hne n hn=> ?_,⟨cf K1.1 K2.1,fun n hn _=> ?_⟩⟩
  ·rw[gG];have mk:uC 0 dS (aC (oP (aD 0)) (aC (oP (aD 1)) aP)) [wj (.int s),wj (.int c)] ω=wj (.ok (.obj ω.length),ω1):=DW (aA (aB rfl) (aA (aB rfl) aE)) e1;refine(qF rfl rfl (mk)).trans ?_
   show(compLO _ _ _ _ (qX ((s+1:Nat):Int) m) _ _).map _=_
   rw[e2,j5,bh];show wj (_::_,_)=_
   congr 3
   ·simp
   ·apply hV;intro i hi;rw[my] at hi;show D.obj (hs i)=D.obj (if i=s then ω.length else hs i);rw[if_neg (by omega)]
  ·by_cases hi:i=s
   ·subst hi;simp only[if_pos];exact H1.mono fun n hn=>K2.2 n (ltH n hn) (by simp)
   ·simp only[if_neg hi];exact H2 i (by omega) (by omega)
  ·by_cases hi:i=s
   ·simp only[if_pos hi] at hn;exact F1 n hn
   ·simp only[if_neg hi] at hn;exact cf K1.1 (F2 i (by omega) (by omega) n hn)
  ·by_cases hi:i=s
   ·by_cases hj:j=s
    ·exact absurd (hi.trans hj.symm) hne
    ·simp only[if_pos hi] at hn;simp only[if_neg hj];intro z
     have:=F2 j (by omega) (by omega) n z
     have:=ltH n hn
     omega
   ·simp only[if_neg hi] at hn
    by_cases hj:j=s
    ·simp only[if_pos hj];intro z
     have:=F2 i (by omega) (by omega) n hn
     have:=ltH n z
     omega
    ·simp only[if_neg hj];exact A2 i (by omega) (by omega) j (by omega) (by omega) hne n hn
  ·rw[K2.2 n (b4 hn K1.1) (by simp)];exact K1.2 n hn (by simp)
structure HallS (B ω:Om) (g c:Nat) (hs:Nat->Nat) (fp:Nat->List Nat) (S:Nat->Hd):Prop where
 obj:ω[g]?=wj (.ins 1 [("hands",.lst ((bq c).map fun i=>.obj (hs i)))])
 hand:∀ i,i<c->HandS ω (hs i) i (S i) (fp i)
 apart:∀ i,i<c->∀ j,j<c->i≠j->∀ n∈fp i,n∉fp j
 out:∀ i,i<c->g∉fp i
 low:∀ i,i<c->∀ n∈fp i,B.length<=n
 bas:B.length<=ω.length/\∀ n,n<B.length->ω[n]?=B[n]?
theorem Es (c8:c<=8) (e:fl ρ ω=wj (.ok [.int c],ω)):∃ ω' hs fp,uC 1 gO fl ρ ω=wj (.ok (.obj ω.length),ω')/\HallS ω ω' ω.length c hs fp (fun _=>Hd0 c):=by
 obtain⟨ω1,hs,fp,e1,H1,F1,A1,K1⟩:=Be c8 c 0 wk (ω++[Ob.ins 1 []]);have g0:(ω++[Ob.ins 1 []])[ω.length]?=wj (.ins 1 []):=by simp
 have g1:ω1[ω.length]?=wj (.ins 1 []):=(K1.2 _ (by simp) (by simp)).trans g0;have l1:=K1.1;rw[b7] at l1;have hl:[Ob.ins 1 []].length=1:=rfl;have f1:∀ i,i<c->∀ n∈fp i,n≠ω.length:=fun i hi n hn z=>by
  have:=F1 i (by omega) (by omega) n hn
  rw[b7] at this;omega
 refine⟨ω1.set ω.length (.ins 1 [("hands",.lst ((bq c).map fun i=>.obj (hs i)))]),hs,fp,DW e ?_,⟨cC g1,fun i hi=> ?_,fun i hi j hj=>A1 i (by omega) (by omega) j (by omega) (by omega),fun i hi z=>f1 i hi _ z rfl,fun i hi n hn=> ?_,⟨by simp;omega,fun n hn=> ?_⟩⟩⟩
 ·refine tV (ρ1:=[wj (.obj ω.length),wj (.int c)]) rfl ?_;unfold lK;rw[kA (gC (ω2:=ω1) (mH (c:=c) (aB rfl) (by omega)) (by rw[fZ,bu];omega) e1) (aB (d:=.obj ω.length) rfl) g1 (by simp)];rw[<- tu];rfl
 ·exact(H1 i (by omega) (by omega)).mono fun n hn=>aH (f1 i hi n hn)
 ·have:=F1 i (by omega) (by omega) n hn
  rw[b7] at this;omega
 ·rw[aH (by omega),K1.2 n (by simp;omega) (by simp),aj hn]
noncomputable def KO:List (List Key)->Nat->Bool
 |[],_=>true
 |k::r,acc=>match eZ k with
  |some h=> !(acc.testBit (h % 4096).toNat)&&KO r (acc|||(1<<<(h % 4096).toNat))
  |none=>false
theorem Iw (acc i j:Nat):(acc|||(1<<<i)).testBit j=(acc.testBit j||decide (j=i)):=by
 rw[Nat.testBit_or,Nat.testBit_shiftLeft]
 congr 1
 by_cases h:j=i
 ·subst h;simp
 ·rw[decide_eq_false h]
  by_cases h2:j≥i
  ·have:j-i≠0:=by omega
   obtain⟨n,hn⟩:∃ n,j-i=n+1:=⟨j-i-1,by omega⟩;rw[hn,Nat.testBit_succ];simp
  ·simp[h2]
theorem xR:∀ {l:List (List Key)}{acc:Nat},KO l acc=true->∀ k∈l,∃ h,eZ k=wj h/\acc.testBit (h % 4096).toNat=false
 |[],_,_,k,hk=>by simp at hk
 |k::r,acc,h,q,hq=>by
  unfold KO at h;cases hh:eZ k with
  |none=>rw[hh] at h;cases h
  |some a=>
   rw[hh] at h;have h':(!(acc.testBit (a % 4096).toNat)&&KO r (acc|||(1<<<(a % 4096).toNat)))=true:=h;rw[bp] at h';rcases ai.mp hq with rfl|hq
   ·exact⟨a,hh,by simpa using h'.1⟩
   ·obtain⟨b,e1,e2⟩:=xR h'.2 q hq;rw[Iw,Bool.or_eq_false_iff] at e2;exact⟨b,e1,e2.1⟩
theorem Fa:∀ {l:List (List Key)}{acc:Nat},KO l acc=true->eX l=true
 |[],_,_=>rfl
 |k::r,acc,h=>by
  unfold KO at h;cases hh:eZ k with
  |none=>rw[hh] at h;cases h
  |some a=>
   rw[hh] at h;have h':(!(acc.testBit (a % 4096).toNat)&&KO r (acc|||(1<<<(a % 4096).toNat)))=true:=h;rw[bp] at h'
   show((eZ k).isSome&&r.all (fun k'=>match eZ k,eZ k' with
    |some a,wj b=>decide (a≠b)
    |_,_=>false)&&eX r)=true
   rw[bp,bp];refine⟨⟨by rw[hh];rfl,?_⟩,Fa h'.2⟩;rw[ff];intro k' hk';obtain⟨b,e1,e2⟩:=xR h'.2 k' hk';rw[hh,e1];refine decide_eq_true fun z=> ?_;rw[Iw,<- z] at e2;simp at e2
theorem Ek:eX (univ 8 fun _=>63)=true:=Fa (acc:=0) (by decide+kernel)
noncomputable def mG (S:Nat->Hd) (i:Nat) (hd:Hd):Nat->Hd:=fun j=>if j=i then hd else S j
theorem iK:mG S i hd i=hd:=if_pos rfl
theorem iJ (h:j≠i):mG S i hd j=S j:=if_neg h
inductive Deed where
 |put (a:Int) (x:Str) (v:Int)
 |change (a:Int) (x:Str) (v:Int)
 |take (a:Int) (x:Str)
 |tell (a b:Int)
 |meet (a b:Int)
noncomputable def Deed.d:Deed->D
 |.put a x v=>.tup [.str "put",.int a,.str x,.int v]
 |.change a x v=>.tup [.str "change",.int a,.str x,.int v]
 |.take a x=>.tup [.str "take",.int a,.str x]
 |.tell a b=>.tup [.str "tell",.int a,.int b]
 |.meet a b=>.tup [.str "meet",.int a,.int b]
noncomputable def jP (S:Nat->Hd) (a b:Nat):Nat->Hd:=mG S b ((S b).hear b (S a) a)
noncomputable def tQ (S:Nat->Hd) (a b:Nat):Int:=NP ((S b).seen b) ((S a).seen a)
noncomputable def Gz (S:Nat->Hd) (a b:Nat):Nat->Hd:=jP (jP (jP S a b) b a) a b
noncomputable def step (c:Nat) (S:Nat->Hd):Deed->D×(Nat->Hd)
 |.put a x v=>if 0<=a/\a<c then(mkD a.toNat ((S a.toNat).next a.toNat),mG S a.toNat ((S a.toNat).put a.toNat x v)) else(.str "no hand",S)
 |.change a x v=>if 0<=a/\a<c then(mkD a.toNat ((S a.toNat).next a.toNat),mG S a.toNat ((S a.toNat).change a.toNat x v)) else(.str "no hand",S)
 |.take a x=>if 0<=a/\a<c then((S a.toNat).takeA x,mG S a.toNat ((S a.toNat).take a.toNat x)) else(.str "no hand",S)
 |.tell a b=>if(0<=a/\a<c)/\(0<=b/\b<c) then(if a=b then(.str "same hand",S) else(.int (tQ S a.toNat b.toNat),jP S a.toNat b.toNat)) else(.str "no hand",S)
 |.meet a b=>if(0<=a/\a<c)/\(0<=b/\b<c) then(if a=b then(.str "same hand",S) else(.tup [.int (tQ (jP S a.toNat b.toNat) b.toNat a.toNat),.int (tQ S a.toNat b.toNat)],Gz S a.toNat b.toNat)) else(.str "no hand",S)
noncomputable def HInv (c:Nat) (own:Nat->Nat) (S:Nat->Hd):Prop:=∀ a,a<c->(S a).In c own/\((S a).seen a).getD a 0=own a
theorem jE (own:Nat->Nat) (i:Nat):∀ c,tot c (dG own i)=tot c own+if i<c then 1 else 0
 |0=>rfl
 |c+1=>by
  have ih:=jE own i c;unfold tot at ih ⊢;rw[oy,c6,c6,oz,oz,ih];simp only[bh,kr,List.sum_cons,List.sum_nil];unfold dG
  by_cases h1:i<c
  ·rw[if_pos h1,if_neg (by omega),if_pos (by omega)];omega
  ·rw[if_neg h1]
   by_cases h2:c=i
   ·rw[if_pos h2,if_pos (by omega)];omega
   ·rw[if_neg h2,if_neg (by omega)];omega
theorem Ih (own:Nat->Nat) (a:Nat):∀ c,a<c->own a<=tot c own
 |0,h=>by omega
 |c+1,h=>by
  have ih:=Ih own a c;unfold tot at ih ⊢;rw[oy,c6,oz];simp only[bh,kr,List.sum_cons,List.sum_nil]
  by_cases h1:a<c
  ·have:=ih h1;omega
  ·have:a=c:=by omega
   subst this;omega
section
variable {B:Om}{c g i j:Nat}{own:Nat->Nat}{S:Nat->Hd}{ω ω':Om}{hs:Nat->Nat}{fp:Nat->List Nat}{hd':Hd}
theorem HInv.upd (I:HInv c own S) (W:hd'.In c own) (e:(hd'.seen i).getD i 0=own i):HInv c own (mG S i hd'):=fun a ha=>by
 by_cases h:a=i
 ·subst h;rw[iK];exact⟨W,e⟩
 ·rw[iJ h];exact I a ha
theorem HInv.updB (I:HInv c own S) (W:hd'.In c (dG own i)) (e:(hd'.seen i).getD i 0=dG own i i):HInv c (dG own i) (mG S i hd'):=fun a ha=>by
 by_cases h:a=i
 ·subst h;rw[iK];exact⟨W,e⟩
 ·rw[iJ h];refine⟨(I a ha).1.mono (iB own i),?_⟩;rw[(I a ha).2];unfold dG;rw[if_neg h]
theorem HallS.did (L:HallS B ω g c hs fp S) (hi:i<c) (D:Did ω (hs i) i (fp i) ω' hd'):∃ fp',HallS B ω' g c hs fp' (mG S i hd'):=by
 obtain⟨fi,H',K,F⟩:=D;refine⟨fun j=>if j=i then fi else fp j,⟨?_,fun j hj=> ?_,fun a ha b hb hne n hn=> ?_,fun j hj=> ?_,fun j hj n hn=> ?_,⟨cf L.bas.1 K.1,fun n hn=> ?_⟩⟩⟩
 ·rw[K.2 g (dY L.obj) (L.out i hi)];exact L.obj
 ·by_cases h:j=i
  ·subst h;rw[iK];simp only[if_pos];exact H'
  ·rw[iJ h];simp only[if_neg h];exact(L.hand j hj).mono fun n hn=>K.2 n ((L.hand j hj).lt n hn) fun z=>L.apart j hj i hi h n hn z
 ·by_cases h1:a=i
  ·simp only[if_pos h1] at hn
   by_cases h2:b=i
   ·exact absurd (h1.trans h2.symm) hne
   ·simp only[if_neg h2];intro z;rcases F n hn with q|q
    ·exact L.apart i hi b hb (fun w=>h2 w.symm) n q z
    ·have:=(L.hand b hb).lt n z
     omega
  ·simp only[if_neg h1] at hn
   by_cases h2:b=i
   ·simp only[if_pos h2];intro z;rcases F n z with q|q
    ·exact L.apart a ha i hi h1 n hn q
    ·have:=(L.hand a ha).lt n hn
     omega
   ·simp only[if_neg h2];exact L.apart a ha b hb hne n hn
 ·by_cases h:j=i
  ·simp only[if_pos h];intro z;rcases F g z with q|q
   ·exact L.out i hi q
   ·have:=dY L.obj
    omega
  ·simp only[if_neg h];exact L.out j hj
 ·by_cases h:j=i
  ·simp only[if_pos h] at hn;rcases F n hn with q|q
   ·exact L.low i hi n q
   ·exact cf L.bas.1 q
  ·simp only[if_neg h] at hn;exact L.low j hj n hn
 ·rw[K.2 n (b4 hn L.bas.1) fun z=>absurd hn (tj.mpr (L.low i hi n z))];exact L.bas.2 n hn
end
section
variable {α β:Type}{f h fo:OG D}{fl:OG (List D)}{ρ:Rho}{ω ω1 ω2 ω3:Om}{a b d:D}{ds:List D}{F G:OS}{x:Nat}{r:Rz D}
theorem Gp {f:OG α}{g:α->OG β} (e:f ρ ω=wj (.ex x,ω1)):oB f g ρ ω=wj (.ex x,ω1):=by unfold oB;rw[e]
theorem yX (e:fo ρ ω=wj (.ex x,ω1)):bJ c m φ fo fl ρ ω=wj (.ex x,ω1):=Gp e
theorem wK (e:f ρ ω=wj (.ex x,ω1)):aC f fl ρ ω=wj (.ex x,ω1):=Gp e
theorem DK (e1:f ρ ω=wj (.ok a,ω1)) (e2:fl ρ ω1=wj (.ex x,ω2)):aC f fl ρ ω=wj (.ex x,ω2):=by
 unfold aC;rw[bI e1,Gp e2]
theorem MV (e:fl ρ ω=wj (.ex x,ω1)):oL g fl ρ ω=wj (.ex x,ω1):=Gp e
theorem DJ {f:OG α} (e:f ρ ω=wj (.ex x,ω1)):oX f g ρ ω=wj (.ex x,ω1):=by unfold oX;rw[e]
noncomputable def IL:Rz D->OOut
 |.ok d=>.rt d
 |.ex c=>.ex c
theorem iM (e:f ρ ω=wj (r,ω1)):aZ f ρ ω=wj (IL r,ω1):=by
 cases r with
 |ok d=>exact bH e
 |ex c=>exact DJ e
theorem tU (e:F ρ ω=wj (IL r,ω1)):aI F G ρ ω=wj (IL r,ω1):=by
 unfold aI;rw[e];cases r <;> rfl
theorem dQ (hl:ds.length=n) (e:G (cF N ds) ω=wj (IL r,ω1)):eC n N G ds ω=wj (r,ω1):=by
 unfold eC;rw[if_pos hl,e];cases r <;> rfl
end
section
variable {B:Om}{c g i j:Nat}{own:Nat->Nat}{S:Nat->Hd}{ω ω':Om}{hs:Nat->Nat}{fp:Nat->List Nat}{hd':Hd}
theorem pI (L:HallS B ω g c hs fp S) (ef:f ρ ω=wj (.ok (.obj g),ω)):fY 1 "hands" f ρ ω=wj (.ok (.lst ((bq c).map fun i=>.obj (hs i))),ω):=fU ef L.obj rfl
theorem lG (L:HallS B ω g c hs fp S) (a:Int):bM [.obj g,.int a] ω=if 0<=a/\a<c then wj (.ok (.obj (hs a.toNat)),ω) else wj (.ex 0,ω):=by
 have len:oL iV (aC (fY 1 "hands" (oP (aD 0))) aP) [wj (.obj g),wj (.int a)] ω=wj (.ok (.int c),ω):=dD (aA (pI L (aB rfl)) aE) (by
  show wj (D.int (((bq c).map fun i=>D.obj (hs i)).length:Nat),ω)=_;rw[ao,g8])
 have ch:sB gLe gLt (oP (dC (.int 0))) (oP (aD 1)) (oL iV (aC (fY 1 "hands" (oP (aD 0))) aP)) [wj (.obj g),wj (.int a)] ω=wj (.ok (decide (0<=a/\a<c)),ω):=by
  unfold sB;rw[bI aU,bI (aB (d:=.int a) rfl)]
  show(match wj (decide (0<=a)) with
   |none=>wk
   |some true=>oB _ (fun z _ ω=>oR (pu ((gLt (.int a) z).bind toB) ω)) [wj (.obj g),wj (.int a)] ω
   |some false=>wj (Rz.ok false,ω))=_
  by_cases h0:0<=a
  ·rw[decide_eq_true h0];show oB _ (fun z _ ω=>oR (pu ((gLt (.int a) z).bind toB) ω)) [wj (.obj g),wj (.int a)] ω=_;rw[bI len];show wj (Rz.ok (decide (a<(c:Int))),ω)=_;simp[h0]
  ·rw[decide_eq_false h0];simp[h0]
 have nt:jU (sB gLe gLt (oP (dC (.int 0))) (oP (aD 1)) (oL iV (aC (fY 1 "hands" (oP (aD 0))) aP))) [wj (.obj g),wj (.int a)] ω=wj (.ok (!decide (0<=a/\a<c)),ω):=by
  unfold jU;rw[bI ch]
 by_cases h:0<=a/\a<c
 ·rw[if_pos h];rw[decide_eq_true h] at nt;refine aT rfl ?_;unfold kJ;rw[bA (ρ1:=[wj (.obj g),wj (.int a)]) (ω1:=ω) (by
   show eB _ _ _ [wj (.obj g),wj (.int a)] ω=_;rw[mB nt];rfl)]
  refine bH (aK (pI L (aB rfl)) (aB (d:=.int a) rfl) ?_);show atI ((bq c).map fun i=>D.obj (hs i)) a=_;unfold atI ixN;rw[if_pos h.1,if_pos (by rw[ao,g8];exact h.2)]
  show((bq c).map fun i=>D.obj (hs i))[a.toNat]?=_
  rw[ax,d8 (by omega)];rfl
 ·rw[if_neg h];rw[decide_eq_false h] at nt;refine dQ (r:=.ex 0) rfl ?_;unfold kJ;refine tU (r:=.ex 0) ?_;show eB _ _ _ [wj (.obj g),wj (.int a)] ω=_;rw[lZ nt];rfl
theorem Kh (h1:ρ[k]?=wj (wj (.int a))) (h2:ρ[l]?=wj (wj (.int b))):cH (o2 (jK 8) (oP (aD k)) (oP (aD l))) ρ ω=wj (.ok (decide (a=b)),ω):=cK (eW (aB h1) (aB h2) rfl)
theorem pJ (L:HallS B ω g c hs fp S) (a b:Int):bY [.obj g,.int a,.int b] ω=if(0<=a/\a<c)/\(0<=b/\b<c) then(if a=b then wj (.ex 1,ω) else wj (.ok (.tup [.obj (hs a.toNat),.obj (hs b.toNat)]),ω)) else wj (.ex 0,ω):=by
 have ha:=lG L a;have hb:=lG L b;have m1:∀ {r:Rz D}{fa:OG D}{n:Int},bM [.obj g,.int n] ω=wj (r,ω)->fa [wj (.obj g),wj (.int a),wj (.int b),wk] ω=wj (.ok (.int n),ω)->bJ 1 "hand" bM (oP (aD 0)) (aC fa aP) [wj (.obj g),wj (.int a),wj (.int b),wk] ω=wj (r,ω):=fun e q=>bZ (aB rfl) L.obj rfl (aA q aE) e
 by_cases h1:0<=a/\a<c
 ·rw[if_pos h1] at ha
  by_cases h2:0<=b/\b<c
  ·rw[if_pos h2] at hb;rw[if_pos ⟨h1,h2⟩];have tup:oL (fun ω ds=>pu (eM ds) ω) (aC (bJ 1 "hand" bM (oP (aD 0)) (aC (oP (aD 1)) aP)) (aC (bJ 1 "hand" bM (oP (aD 0)) (aC (oP (aD 2)) aP)) aP)) [wj (.obj g),wj (.int a),wj (.int b),wk] ω=wj (.ok (.tup [.obj (hs a.toNat),.obj (hs b.toNat)]),ω):=dD (aA (m1 ha (aB rfl)) (aA (m1 hb (aB rfl)) aE)) (by
    show pu (eM _) ω=_;unfold eM;rw[if_pos (by rw[bu];simp)];rfl)
   by_cases h3:a=b
   ·rw[if_pos h3];refine dQ (r:=.ex 1) rfl ?_;unfold fT;refine(aM tup).trans ?_;refine tU (r:=.ex 1) ?_;rw[lZ (ω1:=ω) (by rw[Kh (a:=a) (b:=b) rfl rfl,decide_eq_true h3])];rfl
   ·rw[if_neg h3];refine aT rfl ?_;unfold fT;refine(aM tup).trans ?_;rw[bA (ρ1:=[wj (.obj g),wj (.int a),wj (.int b),wj (.tup [.obj (hs a.toNat),.obj (hs b.toNat)])]) (ω1:=ω) (by
     rw[mB (ω1:=ω) (by rw[Kh (a:=a) (b:=b) rfl rfl,decide_eq_false h3])];rfl)]
    exact bH (aB rfl)
  ·rw[if_neg h2] at hb;rw[if_neg (fun z=>h2 z.2)];refine dQ (r:=.ex 0) rfl ?_;unfold fT;refine tU (r:=.ex 0) (DJ (MV (DK (m1 ha (aB rfl)) (wK (m1 hb (aB rfl))))))
 ·rw[if_neg h1] at ha;rw[if_neg (fun z=>h1 z.1)];refine dQ (r:=.ex 0) rfl ?_;unfold fT;refine tU (r:=.ex 0) (DJ (MV (wK (m1 ha (aB rfl)))))
end
end L2.MB.Lw
end
section
namespace L2.MB.Lw
open PySem PySem.Spec PyProof.Rows L2.MB
section
variable {B:Om}{c g i j:Nat}{own:Nat->Nat}{S:Nat->Hd}{ω ω':Om}{hs:Nat->Nat}{fp:Nat->List Nat}{hd hd':Hd}
theorem Hd.In.hash (W:hd.In c own) (c8:c<=8) (ht:tot c own<64):eX (hd.kept.map (·.1))=true:=mM Ek (fun k hk=>by
 obtain⟨kv,h1,rfl⟩:=aw.mp hk;obtain⟨a,b,h2,h3,h4,e⟩:=W.kk kv h1
 have:=Ih own a c h2
 exact KeyIn.univ (own:=fun _=>63) ⟨a,b,by omega,h3,(by show b<=63;omega),e⟩) W.kn
theorem GL (L:HallS B ω g c hs fp S) (I:HInv c own S) (c0:0<c) (c8:c<=8) (ht:tot c own<64) (hi:i<c) (hj:j<c) (hne:i≠j):∃ ω' fp',cN [.obj (hs i),.obj (hs j)] ω=wj (.ok (.int (tQ S j i)),ω')/\HallS B ω' g c hs fp' (jP S j i)/\HInv c own (jP S j i):=by
 have Wi:=(I i hi).1;have Wj:=(I j hj).1;have Oi:=Wi.ok c0 c8 ht;have Oj:=Wj.ok c0 c8 ht;have H0:=Wi.hear0 Wj Oi Oj hi hj;obtain⟨ω',e,D⟩:=Pf (L.hand i hi) (L.hand j hj) (fun n hn=>L.apart i hi j hj hne n hn) Oi Oj hi hj (Wj.hash c8 ht) (H0.ok c0 c8 ht);obtain⟨fp',L'⟩:=L.did hi D;exact⟨ω',fp',e,L',I.upd H0.forget (Bc Wi Wj hi hj (I i hi).2)⟩
theorem Qt (L:HallS B ω g c hs fp S) (I:HInv c own S) (c0:0<c) (c8:c<=8) (ht:tot c own<63) (hi:i<c) (x:Str) (v:Int):∃ ω' fp',eK [.obj (hs i),.str x,.int v] ω=wj (.ok (mkD i ((S i).next i)),ω')/\HallS B ω' g c hs fp' (mG S i ((S i).put i x v))/\HInv c (dG own i) (mG S i ((S i).put i x v)):=by
 have W:=(I i hi).1;have O:=W.ok c0 c8 (by omega);obtain⟨ω',e,D⟩:=PQ (L.hand i hi) O hi x v;obtain⟨fp',L'⟩:=L.did hi D;exact⟨ω',fp',e,L',I.updB (W.put hi (I i hi).2 x v) (jO W hi (I i hi).2)⟩
theorem vS (hi:i<c) (ht:tot c own<63):tot c (dG own i)<64:=by
 rw[jE,if_pos hi];omega
theorem KQ (L:HallS B ω g c hs fp S) (I:HInv c own S) (c0:0<c) (c8:c<=8) (ht:tot c own<63) (hi:i<c) (x:Str) (v:Int):∃ ω' fp',dU [.obj (hs i),.str x,.int v] ω=wj (.ok (mkD i ((S i).next i)),ω')/\HallS B ω' g c hs fp' (mG S i ((S i).change i x v))/\HInv c (dG own i) (mG S i ((S i).change i x v)):=by
 have W:=(I i hi).1;have O:=W.ok c0 c8 (by omega);have P:=W.put hi (I i hi).2 x v;have T:=P.takeOut0 (mk:=gD i ((S i).next i)) (ks:=(S i).marksK x) (lC hi (I i hi).2) (O.marksLen x) fun q hq=>(W.marks O x q hq).mono (iB own i);obtain⟨ω',e,D⟩:=KP (L.hand i hi) O hi x v (T.ok c0 c8 (vS hi ht));obtain⟨fp',L'⟩:=L.did hi D;exact⟨ω',fp',e,L',I.updB T.forget (jO W hi (I i hi).2)⟩
theorem Oa (L:HallS B ω g c hs fp S) (I:HInv c own S) (c0:0<c) (c8:c<=8) (ht:tot c own<63) (hi:i<c) (x:Str):∃ ω' fp' own',fM [.obj (hs i),.str x] ω=wj (.ok ((S i).takeA x),ω')/\HallS B ω' g c hs fp' (mG S i ((S i).take i x))/\HInv c own' (mG S i ((S i).take i x))/\tot c own'<=tot c own+1:=by
 have W:=(I i hi).1;have O:=W.ok c0 c8 (by omega);have P:=W.bump hi (I i hi).2;have T:=P.takeOut0 (mk:=gD i ((S i).next i)) (ks:=(S i).marksK x) (lC hi (I i hi).2) (O.marksLen x) fun q hq=>(W.marks O x q hq).mono (iB own i);obtain⟨ω',e,D⟩:=NZ (L.hand i hi) O hi x (T.ok c0 c8 (vS hi ht));obtain⟨fp',L'⟩:=L.did hi D
 by_cases hm:(S i).marksK x=[]
 ·refine⟨ω',fp',own,e,L',?_,by omega⟩
  have:(S i).take i x=S i:=by unfold Hd.take;rw[if_pos hm]
  rw[this];exact I.upd W (I i hi).2
 ·refine⟨ω',fp',dG own i,e,L',?_,by rw[jE,if_pos hi];omega⟩
  have:(S i).take i x=((S i).bump i).takeOut (gD i ((S i).next i)) ((S i).marksK x):=by unfold Hd.take;rw[if_neg hm]
  rw[this];exact I.updB T.forget (jO W hi (I i hi).2)
theorem AY (h:ρ[2]?=wj (wj (.str y))):cH (o2 (jK 8) (oP (aD 2)) (oP (dC (.str y)))) ρ ω=wj (.ok true,ω):=cK (eW (aB h) aU (by
 show pu ((eqD 8 (.str y) (.str y)).map D.bl) ω=_;rw[gW,decide_eq_true rfl];rfl))
theorem jW (h:ρ[2]?=wj (wj (.str x))) (hne:x≠y):cH (o2 (jK 8) (oP (aD 2)) (oP (dC (.str y)))) ρ ω=wj (.ok false,ω):=cK (eW (aB h) aU (by
 show pu ((eqD 8 (.str x) (.str y)).map D.bl) ω=_;rw[gW,decide_eq_false hne];rfl))
theorem skip (e:t ρ ω=wj (.ok false,ω)):aI (eB t F bP) G ρ ω=G ρ ω:=bA (by rw[mB e];rfl)
theorem Cm (e:t ρ ω=wj (.ok true,ω)) (e2:f ρ ω=wj (r,ω')):aI (eB t (aZ f) bP) G ρ ω=wj (IL r,ω'):=tU (by rw[lZ e];exact iM e2)
variable {fs:List (Str×D)}{r:Rz D}{a b v:Int}{x:Str}
theorem Bq (ho:ω[g]?=wj (.ins 1 fs)) (hf:fs.lookup ("put":Str)=wk) (e:gH [.obj g,.int a,.str x,.int v] ω=wj (r,ω')):jS [.obj g,(Deed.put a x v).d] ω=wj (r,ω'):=by
 refine dQ rfl ?_;unfold sQ;rw[aM (d:=.str "put") (aK (aB (d:=(Deed.put a x v).d) rfl) aU rfl)];exact Cm (AY rfl) (bZ (aB (d:=.obj g) rfl) ho hf (aA (aK (aB (d:=(Deed.put a x v).d) rfl) aU rfl) (aA (aK (aB (d:=(Deed.put a x v).d) rfl) aU rfl) (aA (aK (aB (d:=(Deed.put a x v).d) rfl) aU rfl) aE))) e)
theorem pW (ho:ω[g]?=wj (.ins 1 fs)) (hf:fs.lookup ("change":Str)=wk) (e:dW [.obj g,.int a,.str x,.int v] ω=wj (r,ω')):jS [.obj g,(Deed.change a x v).d] ω=wj (r,ω'):=by
 refine dQ rfl ?_;unfold sQ;rw[aM (d:=.str "change") (aK (aB (d:=(Deed.change a x v).d) rfl) aU rfl)];rw[skip (jW (x:="change") rfl (by decide))];exact Cm (AY rfl) (bZ (aB (d:=.obj g) rfl) ho hf (aA (aK (aB (d:=(Deed.change a x v).d) rfl) aU rfl) (aA (aK (aB (d:=(Deed.change a x v).d) rfl) aU rfl) (aA (aK (aB (d:=(Deed.change a x v).d) rfl) aU rfl) aE))) e)
theorem xL (ho:ω[g]?=wj (.ins 1 fs)) (hf:fs.lookup ("take":Str)=wk) (e:fO [.obj g,.int a,.str x] ω=wj (r,ω')):jS [.obj g,(Deed.take a x).d] ω=wj (r,ω'):=by
 refine dQ rfl ?_;unfold sQ;rw[aM (d:=.str "take") (aK (aB (d:=(Deed.take a x).d) rfl) aU rfl)];rw[skip (jW (x:="take") rfl (by decide)),skip (jW (x:="take") rfl (by decide))];exact Cm (AY rfl) (bZ (aB (d:=.obj g) rfl) ho hf (aA (aK (aB (d:=(Deed.take a x).d) rfl) aU rfl) (aA (aK (aB (d:=(Deed.take a x).d) rfl) aU rfl) aE)) e)
theorem pU (ho:ω[g]?=wj (.ins 1 fs)) (hf:fs.lookup ("tell":Str)=wk) (e:fN [.obj g,.int a,.int b] ω=wj (r,ω')):jS [.obj g,(Deed.tell a b).d] ω=wj (r,ω'):=by
 refine dQ rfl ?_;unfold sQ;rw[aM (d:=.str "tell") (aK (aB (d:=(Deed.tell a b).d) rfl) aU rfl)];rw[skip (jW (x:="tell") rfl (by decide)),skip (jW (x:="tell") rfl (by decide)),skip (jW (x:="tell") rfl (by decide))];exact Cm (AY rfl) (bZ (aB (d:=.obj g) rfl) ho hf (aA (aK (aB (d:=(Deed.tell a b).d) rfl) aU rfl) (aA (aK (aB (d:=(Deed.tell a b).d) rfl) aU rfl) aE)) e)
theorem pV (ho:ω[g]?=wj (.ins 1 fs)) (hf:fs.lookup ("meet":Str)=wk) (e:fP [.obj g,.int a,.int b] ω=wj (r,ω')):jS [.obj g,(Deed.meet a b).d] ω=wj (r,ω'):=by
 refine dQ rfl ?_;unfold sQ;rw[aM (d:=.str "meet") (aK (aB (d:=(Deed.meet a b).d) rfl) aU rfl)];rw[skip (jW (x:="meet") rfl (by decide)),skip (jW (x:="meet") rfl (by decide)),skip (jW (x:="meet") rfl (by decide)),skip (jW (x:="meet") rfl (by decide))];exact iM (bZ (aB (d:=.obj g) rfl) ho hf (aA (aK (aB (d:=(Deed.meet a b).d) rfl) aU rfl) (aA (aK (aB (d:=(Deed.meet a b).d) rfl) aU rfl) aE)) e)
theorem HallS.handObj (L:HallS B ω g c hs fp S) (hi:i<c):∃ fs,ω[hs i]?=wj (.ins 0 fs)/\fs.lookup ("put":Str)=wk/\fs.lookup ("change":Str)=wk/\fs.lookup ("take":Str)=wk/\fs.lookup ("hear":Str)=wk:=by
 obtain⟨k,t,e,h⟩:=(L.hand i hi).obj;exact⟨_,h,rfl,rfl,rfl,rfl⟩
theorem Km (L:HallS B ω g c hs fp S) (ef:f ρ ω=wj (.ok (.obj g),ω)) (ea:fa ρ ω=wj (.ok (.int a),ω)) (h:0<=a/\a<c):bJ 1 "hand" bM f (aC fa aP) ρ ω=wj (.ok (.obj (hs a.toNat)),ω):=bZ ef L.obj rfl (aA ea aE) (by rw[lG L a,if_pos h])
theorem Kl (L:HallS B ω g c hs fp S) (ef:f ρ ω=wj (.ok (.obj g),ω)) (ea:fa ρ ω=wj (.ok (.int a),ω)) (h:¬(0<=a/\a<c)):bJ 1 "hand" bM f (aC fa aP) ρ ω=wj (.ex 0,ω):=bZ ef L.obj rfl (aA ea aE) (by rw[lG L a,if_neg h])
theorem GM (L:HallS B ω g c hs fp S) (h:0<=a/\a<c) (e:eK [.obj (hs a.toNat),.str x,.int v] ω=wj (r,ω')):gH [.obj g,.int a,.str x,.int v] ω=wj (r,ω'):=by
 obtain⟨fs,ho,h1,_⟩:=L.handObj (i:=a.toNat) (by omega);exact dQ rfl (iM (bZ (Km L (aB rfl) (aB rfl) h) ho h1 (aA (aB rfl) (aA (aB rfl) aE)) e))
theorem Ep (L:HallS B ω g c hs fp S) (h:¬(0<=a/\a<c)):gH [.obj g,.int a,.str x,.int v] ω=wj (.ex 0,ω):=dQ (r:=.ex 0) rfl (iM (yX (Kl (a:=a) L (aB rfl) (aB rfl) h)))
theorem zE (L:HallS B ω g c hs fp S) (h:0<=a/\a<c) (e:dU [.obj (hs a.toNat),.str x,.int v] ω=wj (r,ω')):dW [.obj g,.int a,.str x,.int v] ω=wj (r,ω'):=by
 obtain⟨fs,ho,_,h1,_⟩:=L.handObj (i:=a.toNat) (by omega);exact dQ rfl (iM (bZ (Km L (aB rfl) (aB rfl) h) ho h1 (aA (aB rfl) (aA (aB rfl) aE)) e))
theorem wY (L:HallS B ω g c hs fp S) (h:¬(0<=a/\a<c)):dW [.obj g,.int a,.str x,.int v] ω=wj (.ex 0,ω):=dQ (r:=.ex 0) rfl (iM (yX (Kl (a:=a) L (aB rfl) (aB rfl) h)))
theorem Eo (L:HallS B ω g c hs fp S) (h:0<=a/\a<c) (e:fM [.obj (hs a.toNat),.str x] ω=wj (r,ω')):fO [.obj g,.int a,.str x] ω=wj (r,ω'):=by
 obtain⟨fs,ho,_,_,h1,_⟩:=L.handObj (i:=a.toNat) (by omega);exact dQ rfl (iM (bZ (Km L (aB rfl) (aB rfl) h) ho h1 (aA (aB rfl) aE) e))
theorem Cn (L:HallS B ω g c hs fp S) (h:¬(0<=a/\a<c)):fO [.obj g,.int a,.str x] ω=wj (.ex 0,ω):=dQ (r:=.ex 0) rfl (iM (yX (Kl (a:=a) L (aB rfl) (aB rfl) h)))
theorem Ga {p:Option (Rz D×Om)} (L:HallS B ω g c hs fp S) (ef:f ρ ω=wj (.ok (.obj g),ω)) (ea:fa ρ ω=wj (.ok (.int a),ω)) (eb:fb ρ ω=wj (.ok (.int b),ω)) (e:bY [.obj g,.int a,.int b] ω=wj (r,ω)):bJ 1 "pair" bY f (aC fa (aC fb aP)) ρ ω=wj (r,ω):=bZ ef L.obj rfl (aA ea (aA eb aE)) e
theorem Ie (L:HallS B ω g c hs fp S) (h:(0<=a/\a<c)/\(0<=b/\b<c)) (hne:a≠b):bY [.obj g,.int a,.int b] ω=wj (.ok (.tup [.obj (hs a.toNat),.obj (hs b.toNat)]),ω):=by rw[pJ L,if_pos h,if_neg hne]
theorem Ig (L:HallS B ω g c hs fp S) (h:(0<=a/\a<c)/\(0<=b/\b<c)) (hne:a=b):bY [.obj g,.int a,.int b] ω=wj (.ex 1,ω):=by rw[pJ L,if_pos h,if_pos hne]
theorem Id (L:HallS B ω g c hs fp S) (h:¬((0<=a/\a<c)/\(0<=b/\b<c))):bY [.obj g,.int a,.int b] ω=wj (.ex 0,ω):=by rw[pJ L,if_neg h]
theorem sM (L:HallS B ω g c hs fp S) (e:bY [.obj g,.int a,.int b] ω=wj (.ex n,ω)):fN [.obj g,.int a,.int b] ω=wj (.ex n,ω):=by
 refine dQ (r:=.ex n) rfl ?_;unfold kH;exact tU (r:=.ex n) (DJ (Ga (p:=wk) L (aB rfl) (aB rfl) (aB rfl) e))
theorem sN (L:HallS B ω g c hs fp S) (e:bY [.obj g,.int a,.int b] ω=wj (.ex n,ω)):fP [.obj g,.int a,.int b] ω=wj (.ex n,ω):=by
 refine dQ (r:=.ex n) rfl ?_;unfold kI;exact tU (r:=.ex n) (DJ (Ga (p:=wk) L (aB rfl) (aB rfl) (aB rfl) e))
theorem En (L:HallS B ω g c hs fp S) (h:(0<=a/\a<c)/\(0<=b/\b<c)) (hne:a≠b) (e:cN [.obj (hs b.toNat),.obj (hs a.toNat)] ω=wj (r,ω')):fN [.obj g,.int a,.int b] ω=wj (r,ω'):=by
 obtain⟨fs,ho,_,_,_,h1⟩:=L.handObj (i:=b.toNat) (by omega);refine dQ rfl ?_;unfold kH;rw[aM (Ga (p:=wk) L (aB rfl) (aB rfl) (aB rfl) (Ie L h hne))];exact iM (bZ (aK (aB (d:=.tup [.obj (hs a.toNat),.obj (hs b.toNat)]) rfl) aU rfl) ho h1 (aA (aK (aB (d:=.tup [.obj (hs a.toNat),.obj (hs b.toNat)]) rfl) aU rfl) aE) e)
theorem Er (L:HallS B ω g c hs fp S) (I:HInv c own S) (c0:0<c) (c8:c<=8) (ht:tot c own<64) (h:(0<=a/\a<c)/\(0<=b/\b<c)) (hne:a≠b):∃ ω' fp',fP [.obj g,.int a,.int b] ω=wj (.ok (.tup [.int (tQ (jP S a.toNat b.toNat) b.toNat a.toNat),.int (tQ S a.toNat b.toNat)]),ω')/\HallS B ω' g c hs fp' (Gz S a.toNat b.toNat)/\HInv c own (Gz S a.toNat b.toNat):=by
 have ha:a.toNat<c:=by omega
 have hb:b.toNat<c:=by omega
 have hn:a.toNat≠b.toNat:=by omega
 obtain⟨ω1,fp1,e1,L1,I1⟩:=GL L I c0 c8 ht hb ha (bv hn);obtain⟨ω2,fp2,e2,L2,I2⟩:=GL L1 I1 c0 c8 ht ha hb hn;obtain⟨ω3,fp3,e3,L3,I3⟩:=GL L2 I2 c0 c8 ht hb ha (bv hn);refine⟨ω3,fp3,?_,L3,I3⟩;obtain⟨fs0,ho0,_,_,_,h0⟩:=L.handObj hb;obtain⟨fs1,ho1,_,_,_,h1⟩:=L1.handObj ha;obtain⟨fs2,ho2,_,_,_,h2⟩:=L2.handObj hb;refine aT rfl ?_;unfold kI;rw[aM (Ga (p:=wk) L (aB rfl) (aB rfl) (aB rfl) (Ie L h hne))];rw[aM (bZ (aK (aB (d:=.tup [.obj (hs a.toNat),.obj (hs b.toNat)]) rfl) aU rfl) ho0 h0 (aA (aK (aB (d:=.tup [.obj (hs a.toNat),.obj (hs b.toNat)]) rfl) aU rfl) aE) e1)];rw[aM (d:=.tup [.int (tQ (jP S a.toNat b.toNat) b.toNat a.toNat),.int (tQ S a.toNat b.toNat)]) (ω1:=ω2) (dD (aA (bZ (aK (aB (d:=.tup [.obj (hs a.toNat),.obj (hs b.toNat)]) rfl) aU rfl) ho1 h1 (aA (aK (aB (d:=.tup [.obj (hs a.toNat),.obj (hs b.toNat)]) rfl) aU rfl) aE) e2) (aA (aB (d:=.int (tQ S a.toNat b.toNat)) rfl) aE)) (by
  show pu (eM _) ω2=_;unfold eM;rw[if_pos (by rw[bu];simp)];rfl))]
 rw[bA (ω1:=ω3) (by
  unfold bU;rw[cD (bZ (aK (aB (d:=.tup [.obj (hs a.toNat),.obj (hs b.toNat)]) rfl) aU rfl) ho2 h2 (aA (aK (aB (d:=.tup [.obj (hs a.toNat),.obj (hs b.toNat)]) rfl) aU rfl) aE) e3)])]
 exact bH (aB rfl)
theorem vP (e:jS [.obj g,d] ω=wj (.ok y,ω')):eJ [.obj g,d] ω=wj (.ok y,ω'):=aT rfl (by
 unfold gT vZ;rw[bH (aW (aA (aB rfl) (aA (aB rfl) aE)) e)])
theorem CU (e:jS [.obj g,d] ω=wj (.ex 0,ω')):eJ [.obj g,d] ω=wj (.ok (.str "no hand"),ω'):=aT rfl (by
 unfold gT vZ;rw[iM (r:=.ex 0) (aW (aA (aB rfl) (aA (aB rfl) aE)) e)];rfl)
theorem Ll (e:jS [.obj g,d] ω=wj (.ex 1,ω')):eJ [.obj g,d] ω=wj (.ok (.str "same hand"),ω'):=aT rfl (by
 unfold gT vZ;rw[iM (r:=.ex 1) (aW (aA (aB rfl) (aA (aB rfl) aE)) e)];rfl)
theorem Fj (L:HallS B ω g c hs fp S) (I:HInv c own S) (c0:0<c) (c8:c<=8) (ht:tot c own<63) (d:Deed):∃ ω' fp' own',eJ [.obj g,d.d] ω=wj (.ok (step c S d).1,ω')/\HallS B ω' g c hs fp' (step c S d).2/\HInv c own' (step c S d).2/\tot c own'<=tot c own+1:=by
 cases d with
 |put a x v=>
  show ∃ ω' fp' own',_=wj (Rz.ok (if 0<=a/\a<(c:Int) then(_,_) else(_,_):D×(Nat->Hd)).1,ω')/\HallS B ω' g c hs fp' (if 0<=a/\a<(c:Int) then(_,_) else(_,_):D×(Nat->Hd)).2/\HInv c own' (if 0<=a/\a<(c:Int) then(_,_) else(_,_):D×(Nat->Hd)).2/\_
  by_cases h:0<=a/\a<c
  ·rw[if_pos h];obtain⟨ω',fp',e,L',I'⟩:=Qt L I c0 c8 ht (i:=a.toNat) (by omega) x v;exact⟨ω',fp',_,vP (Bq L.obj rfl (GM L h e)),L',I',by rw[jE,if_pos (by omega)];omega⟩
  ·rw[if_neg h];exact⟨ω,fp,own,CU (Bq L.obj rfl (Ep L h)),L,I,by omega⟩
 |change a x v=>
  show ∃ ω' fp' own',_=wj (Rz.ok (if 0<=a/\a<(c:Int) then(_,_) else(_,_):D×(Nat->Hd)).1,ω')/\HallS B ω' g c hs fp' (if 0<=a/\a<(c:Int) then(_,_) else(_,_):D×(Nat->Hd)).2/\HInv c own' (if 0<=a/\a<(c:Int) then(_,_) else(_,_):D×(Nat->Hd)).2/\_
  by_cases h:0<=a/\a<c
  ·rw[if_pos h];obtain⟨ω',fp',e,L',I'⟩:=KQ L I c0 c8 ht (i:=a.toNat) (by omega) x v;exact⟨ω',fp',_,vP (pW L.obj rfl (zE L h e)),L',I',by rw[jE,if_pos (by omega)];omega⟩
  ·rw[if_neg h];exact⟨ω,fp,own,CU (pW L.obj rfl (wY L h)),L,I,by omega⟩
 |take a x=>
  show ∃ ω' fp' own',_=wj (Rz.ok (if 0<=a/\a<(c:Int) then(_,_) else(_,_):D×(Nat->Hd)).1,ω')/\HallS B ω' g c hs fp' (if 0<=a/\a<(c:Int) then(_,_) else(_,_):D×(Nat->Hd)).2/\HInv c own' (if 0<=a/\a<(c:Int) then(_,_) else(_,_):D×(Nat->Hd)).2/\_
  by_cases h:0<=a/\a<c
  ·rw[if_pos h];obtain⟨ω',fp',own',e,L',I',t'⟩:=Oa L I c0 c8 ht (i:=a.toNat) (by omega) x;exact⟨ω',fp',own',vP (xL L.obj rfl (Eo L h e)),L',I',t'⟩
  ·rw[if_neg h];exact⟨ω,fp,own,CU (xL L.obj rfl (Cn L h)),L,I,by omega⟩
 |tell a b=>
  show ∃ ω' fp' own',_=wj (Rz.ok (if(0<=a/\a<(c:Int))/\(0<=b/\b<(c:Int)) then(if a=b then(_,_) else(_,_)) else(_,_):D×(Nat->Hd)).1,ω')/\HallS B ω' g c hs fp' (if(0<=a/\a<(c:Int))/\(0<=b/\b<(c:Int)) then(if a=b then(_,_) else(_,_)) else(_,_):D×(Nat->Hd)).2/\HInv c own' (if(0<=a/\a<(c:Int))/\(0<=b/\b<(c:Int)) then(if a=b then(_,_) else(_,_)) else(_,_):D×(Nat->Hd)).2/\_
  by_cases h:(0<=a/\a<(c:Int))/\(0<=b/\b<(c:Int))
  ·rw[if_pos h]
   by_cases hab:a=b
   ·rw[if_pos hab];exact⟨ω,fp,own,Ll (pU L.obj rfl (sM L (Ig L h hab))),L,I,by omega⟩
   ·rw[if_neg hab];obtain⟨ω',fp',e,L',I'⟩:=GL L I c0 c8 (by omega) (i:=b.toNat) (j:=a.toNat) (by omega) (by omega) (by omega);exact⟨ω',fp',own,vP (pU L.obj rfl (En L h hab e)),L',I',by omega⟩
  ·rw[if_neg h];exact⟨ω,fp,own,CU (pU L.obj rfl (sM L (Id L h))),L,I,by omega⟩
 |meet a b=>
  show ∃ ω' fp' own',_=wj (Rz.ok (if(0<=a/\a<(c:Int))/\(0<=b/\b<(c:Int)) then(if a=b then(_,_) else(_,_)) else(_,_):D×(Nat->Hd)).1,ω')/\HallS B ω' g c hs fp' (if(0<=a/\a<(c:Int))/\(0<=b/\b<(c:Int)) then(if a=b then(_,_) else(_,_)) else(_,_):D×(Nat->Hd)).2/\HInv c own' (if(0<=a/\a<(c:Int))/\(0<=b/\b<(c:Int)) then(if a=b then(_,_) else(_,_)) else(_,_):D×(Nat->Hd)).2/\_
  by_cases h:(0<=a/\a<(c:Int))/\(0<=b/\b<(c:Int))
  ·rw[if_pos h]
   by_cases hab:a=b
   ·rw[if_pos hab];exact⟨ω,fp,own,Ll (pV L.obj rfl (sN L (Ig L h hab))),L,I,by omega⟩
   ·rw[if_neg hab];obtain⟨ω',fp',e,L',I'⟩:=Er L I c0 c8 (by omega) h hab;exact⟨ω',fp',own,vP (pV L.obj rfl e),L',I',by omega⟩
  ·rw[if_neg h];exact⟨ω,fp,own,CU (pV L.obj rfl (sN L (Id L h))),L,I,by omega⟩
end
noncomputable def Pl:Nat->D->Prop
 |_,.non=>True
 |_,.bl _=>True
 |_,.int _=>True
 |_,.str _=>True
 |n+1,.lst ds=>ds.length<=1000/\∀ d∈ds,Pl n d
 |n+1,.tup ds=>ds.length<=1000/\∀ d∈ds,Pl n d
 |_,_=>False
theorem Pl.int (n:Nat) (i:Int):Pl n (.int i):=by cases n <;> trivial
theorem Pl.str (n:Nat) (x:Str):Pl n (.str x):=by cases n <;> trivial
theorem Pl.tup2 (h1:Pl n a) (h2:Pl n b):Pl (n+1) (.tup [a,b]):=⟨by simp,fun d hd=>by
 simp only[ai,ck,or_false] at hd;rcases hd with rfl|rfl
 ·exact h1
 ·exact h2⟩
noncomputable def IJ (c:Nat):List Deed->(Nat->Hd)->List D×(Nat->Hd)
 |[],S=>([],S)
 |d::r,S=>((step c S d).1::(IJ c r (step c S d).2).1,(IJ c r (step c S d).2).2)
noncomputable def jM (c:Nat) (ds:List Deed):Nat->Hd:=(IJ c ds fun _=>Hd0 c).2
section
variable {B:Om}{c g i j:Nat}{own:Nat->Nat}{S:Nat->Hd}{ω ω':Om}{hs:Nat->Nat}{fp:Nat->List Nat}
theorem NN (c:Nat):HInv c (fun _=>0) (fun _=>Hd0 c):=fun a ha=>by
 have hz:∀ n m:Nat,(ar n (0:Int)).getD m 0=0:=fun n m=>by
  rw[au,fm];split <;> rfl
 refine⟨⟨by simp[Hd0],fun xs hx=> ?_,fun xs hx b hb=> ?_,fun kv h=>by simp[Hd0] at h,by simp[Hd0],fun kv h=>by simp[Hd0] at h,fun kv h=>by simp[Hd0] at h,by simp[Hd0]⟩,?_⟩
 ·rw[(uy.mp hx).2,ji]
 ·rw[(uy.mp hx).2,hz];exact⟨ln _,ln _⟩
 ·show((ar c (ar c (0:Int))).getD a []).getD a 0=0
  have e1:(ar c (ar c (0:Int))).getD a []=ar c 0:=by
   rw[au,fm,if_pos ha];rfl
  rw[e1];exact hz c a
theorem NY:∀ c,tot c (fun _=>0)=0
 |0=>rfl
 |c+1=>by
  have ih:=NY c;unfold tot at ih ⊢;rw[oy,c6,oz,ih];rfl
theorem tK (c0:0<c) (c8:c<=8):∀(ds:List Deed) {u:Option D}{S:Nat->Hd}{ω:Om}{fp:Nat->List Nat}{own:Nat->Nat},HallS B ω g c hs fp S->HInv c own S->tot c own+ds.length<64->∃ v ω' fp' own',bR (aY 3) bW eL (ds.map Deed.d) [wj n,wj l,wj (.obj g),u] ω=wj (.nx [wj n,wj l,wj (.obj g),v],ω')/\HallS B ω' g c hs fp' (IJ c ds S).2/\HInv c own' (IJ c ds S).2/\tot c own'<64
 |[],u,S,ω,fp,own,L,I,ht=>⟨u,ω,fp,own,rfl,L,I,by simpa using ht⟩
 |d::ds,u,S,ω,fp,own,L,I,ht=>by
  rw[bz] at ht;obtain⟨ω1,fp1,own1,e1,L1,I1,t1⟩:=Fj L I c0 c8 (by omega) d;obtain⟨v,ω2,fp2,own2,e2,L2,I2,t2⟩:=tK c0 c8 ds (u:=wj d.d) L1 I1 (by omega);refine⟨v,ω2,fp2,own2,?_,L2,I2,t2⟩;have b1:eL [wj n,wj l,wj (.obj g),wj d.d] ω=wj (.nx [wj n,wj l,wj (.obj g),wj d.d],ω1):=by
   unfold eL bU;rw[cD (aW (aA (aB (d:=.obj g) rfl) (aA (aB (d:=d.d) rfl) aE)) e1)]
  show(match eL [wj n,wj l,wj (.obj g),wj d.d] ω with
   |none=>wk
   |some (.nx ρ2,ω2)=>bR (aY 3) bW eL (ds.map Deed.d) ρ2 ω2
   |some (.ct ρ2,ω2)=>bR (aY 3) bW eL (ds.map Deed.d) ρ2 ω2
   |some (.bk ρ2,ω2)=>wj (.nx ρ2,ω2)
   |some (.rt d,ω2)=>wj (.rt d,ω2)
   |some (.ex _,_)=>wk)=_
  rw[b1];exact e2
theorem sY:∀ {l:List Nat}{u:Option D},(∀ i∈l,F [wj (.obj (hs i))] ω=wj (.ok (R i),ω))->compLO (aY 0) bW (oPT kM) F (l.map fun i=>.obj (hs i)) [u] ω=wj (l.map R,ω)
 |[],u,_=>rfl
 |i::l,u,h=>by
  have ih:=sY (F:=F) (R:=R) (l:=l) (u:=wj (.obj (hs i))) fun j hj=>h j (ag _ hj)
  show(match F [wj (.obj (hs i))] ω with
   |some (.ok y,ω2)=>(compLO (aY 0) bW (oPT kM) F (l.map fun i=>.obj (hs i)) [wj (.obj (hs i))] ω2).map fun r:List D×Om=>(y::r.1,r.2)
   |_=>wk)=_
  rw[h i aq]
  show(compLO _ _ _ _ _ _ _).map _=_
  rw[ih];rfl
theorem lQ (L:HallS B ω g c hs fp S) (c8:c<=8) (ef:f ρ ω=wj (.ok (.obj g),ω)) (h:∀ i,i<c->F [wj (.obj (hs i))] ω=wj (.ok (R i),ω)):dJ xG (oIL (fY 1 "hands" f)) [wk] (aY 0) (oPT kM) F ρ ω=wj (.ok (.lst ((bq c).map R)),ω):=by
 refine gC (ds:=(bq c).map fun i=>.obj (hs i)) (chk:=bW) (ω1:=ω) ?_ (by rw[ao,g8,bu];omega) (sY fun i hi=>h i (ie.mp hi));unfold oIL;rw[bI (pI L ef)];rfl
noncomputable def AI (c:Nat) (S:Nat->Hd):D:=.lst ((bq c).map fun i=>.lst (S i).ents)
noncomputable def AJ (c:Nat) (S:Nat->Hd):D:=.lst ((bq c).map fun i=>.lst (iv ((S i).seen i)))
noncomputable def Ly (c:Nat) (S:Nat->Hd):D:=.lst ((bq c).map fun i=>.lst ((S i).knows.map fun xs=>.lst (iv xs)))
noncomputable def Lx (c:Nat) (S:Nat->Hd):D:=.lst ((bq c).map fun i=>.lst (S i).mind)
theorem HR (c0:0<c) (c8:c<=8) (hl:ds.length<64) (ω:Om):∃ ω',yS [.int c,.lst (ds.map Deed.d)] ω=wj (.ok (.tup [AI c (jM c ds),AJ c (jM c ds),Ly c (jM c ds),Lx c (jM c ds)]),ω')/\Keep [] ω ω'/\∃ own,HInv c own (jM c ds)/\tot c own<64:=by
 obtain⟨ω1,hs,fp,e1,L1⟩:=Es (ω:=ω) c8 (fl:=aC (oP (aD 0)) aP) (ρ:=cF Ft [.int c,.lst (ds.map Deed.d)]) (aA (aB rfl) aE);obtain⟨v,ω2,fp2,own2,e2,L2,I2,t2⟩:=tK c0 c8 (n:=.int c) (l:=.lst (ds.map Deed.d)) ds (u:=wk) L1 (NN c) (by rw[NY];omega);refine⟨ω2,?_,⟨L2.bas.1,fun n hn _=>L2.bas.2 n hn⟩,own2,I2,t2⟩;refine aT rfl ?_;unfold Ev;rw[aM e1];rw[bA (fJ (by
  unfold bN oIL;rw[cD (x:=(ds.map Deed.d,bW)) (ω1:=ω1) (by rw[bI (aB (d:=.lst (ds.map Deed.d)) rfl)];rfl)];exact e2))]
 have K:∀ i,i<c->(jM c ds i).Ok c:=fun i hi=>(I2 i hi).1.ok c0 c8 t2;have a1:=lQ (ρ:=[wj (.int c),wj (.lst (ds.map Deed.d)),wj (.obj ω.length),v]) (F:=bJ 0 "entries" bV (oP (aD 0)) aP) (R:=fun i=>.lst (jM c ds i).ents) (f:=oP (aD 2)) L2 c8 (aB rfl) fun i hi=>by
  obtain⟨k,t,e,rs,H,_⟩:=L2.hand i hi;exact cI (aB rfl) H.obj rfl (jL H (K i hi).ents.1)
 have a2:=lQ (ρ:=[wj (.int c),wj (.lst (ds.map Deed.d)),wj (.obj ω.length),v]) (F:=oL iG (aC (bJ 0 "seen" bX (oP (aD 0)) aP) aP)) (R:=fun i=>.lst (iv ((jM c ds i).seen i))) (f:=oP (aD 2)) L2 c8 (aB rfl) fun i hi=>by
  obtain⟨k,t,e,rs,H,_⟩:=L2.hand i hi;exact FC H (Nat.lt_of_lt_of_eq hi (K i hi).len.symm) (aB rfl)
 have a3:=lQ (ρ:=[wj (.int c),wj (.lst (ds.map Deed.d)),wj (.obj ω.length),v]) (F:=bJ 0 "known" gA (oP (aD 0)) aP) (R:=fun i=>.lst ((jM c ds i).knows.map fun xs=>.lst (iv xs))) (f:=oP (aD 2)) L2 c8 (aB rfl) fun i hi=>by
  obtain⟨k,t,e,rs,H,_⟩:=L2.hand i hi;exact cI (aB rfl) H.obj rfl (GE H (by rw[H.rows.length];have:=(K i hi).len;unfold jM at this;rw[this,bu];omega))
 have a4:=lQ (ρ:=[wj (.int c),wj (.lst (ds.map Deed.d)),wj (.obj ω.length),v]) (F:=bJ 0 "in_mind" eP (oP (aD 0)) aP) (R:=fun i=>.lst (jM c ds i).mind) (f:=oP (aD 2)) L2 c8 (aB rfl) fun i hi=>by
  obtain⟨k,t,e,rs,H,_⟩:=L2.hand i hi;exact cI (aB rfl) H.obj rfl (Cl H (K i hi) (I2 i hi).1)
 refine bH (dD (aA a1 (aA a2 (aA a3 (aA a4 aE)))) ?_);show pu (eM _) ω2=_;unfold eM;rw[if_pos (by rw[bu];simp)];rfl
end
section
variable {c:Nat}{S S':Nat->Hd}{d x y:Deed}{a b n:Nat}
end
theorem qJ:∀ {ds:List D},(∀ d∈ds,f d d=wj true)->jZ f ds ds=wj true
 |[],_=>rfl
 |d::ds,h=>by
  show(f d d).bind _=_
  rw[h d aq]
  show(jZ f ds ds).map _=_
  rw[qJ fun d' hd=>h d' (ag _ hd)];rfl
theorem lM:∀ {n:Nat}{d:D},Pl n d->eqD n d d=wj true
 |n,.non,_=>by cases n <;> rfl
 |n,.bl b,_=>by cases n <;> cases b <;> rfl
 |n,.int i,_=>by
  have:eqD n (.int i) (.int i)=wj (i==i):=by cases n <;> rfl
  rw[this];simp
 |n,.str x,_=>by
  rw[gW];simp
 |n+1,.lst ds,h=>by
  show(if ds.length=ds.length then jZ (eqD n) ds ds else wj false)=_
  rw[if_pos rfl];exact qJ fun d hd=>lM (h.2 d hd)
 |n+1,.tup ds,h=>by
  show(jZ (eqD n) ds ds).map (fun k=>k&&ds.length==ds.length)=_
  rw[qJ fun d hd=>lM (h.2 d hd)];simp
 |0,.lst _,h=>h.elim
 |0,.tup _,h=>h.elim
 |0,.obj _,h=>h.elim
 |n+1,.obj _,h=>h.elim
 |0,.scr _,h=>h.elim
 |n+1,.scr _,h=>h.elim
theorem Pl.mono:∀ {n m:Nat}{d:D},Pl n d->n<=m->Pl m d
 |_,m,.non,_,_=>by cases m <;> trivial
 |_,m,.bl _,_,_=>by cases m <;> trivial
 |_,m,.int _,_,_=>by cases m <;> trivial
 |_,m,.str _,_,_=>by cases m <;> trivial
 |n+1,m+1,.lst ds,h,hm=>⟨h.1,fun d hd=>Pl.mono (h.2 d hd) (by omega)⟩
 |n+1,m+1,.tup ds,h,hm=>⟨h.1,fun d hd=>Pl.mono (h.2 d hd) (by omega)⟩
 |n+1,0,.lst ds,h,hm=>by omega
 |n+1,0,.tup ds,h,hm=>by omega
 |0,_,.lst _,h,_=>h.elim
 |0,_,.tup _,h,_=>h.elim
 |0,_,.obj _,h,_=>h.elim
 |n+1,_,.obj _,h,_=>h.elim
 |0,_,.scr _,h,_=>h.elim
 |n+1,_,.scr _,h,_=>h.elim
section
variable {ω:Om}{ρ:Rho}{f h:OG D}{d:D}
theorem pC (e:f ρ ω=wj (.ok d,ω)) (h:CM T ω d=wj k):oQ T f ρ ω=wj (.ok (.bl k),ω):=by
 unfold oQ;rw[bI e];show oR (pu ((CM T ω d).map D.bl) ω)=_;rw[h];rfl
theorem tru_ok (e:f ρ ω=wj (.ok (.bl k),ω)):jT f ρ ω=wj (.ok k,ω):=by
 unfold jT;rw[bI e];rfl
theorem kZ (e:t ρ ω=wj (.ok k,ω)):jU t ρ ω=wj (.ok (!k),ω):=by
 unfold jU;rw[bI e]
theorem BQ (e1:t ρ ω=wj (.ok false,ω)) (e2:u ρ ω=wj (.ok false,ω)):oOr t u ρ ω=wj (.ok false,ω):=by
 unfold oOr;rw[bI e1];exact e2
theorem AS (e1:f ρ ω=wj (.ok (.int a),ω)) (e2:h ρ ω=wj (.ok (.int b),ω)) (hab:a=b):cH (o2 (Bj 8) f h) ρ ω=wj (.ok false,ω):=cK (eW e1 e2 (by
 subst hab;show wj (D.bl (!(a==a)),ω)=_;simp))
theorem KU {ds:List D} (hk:k<ds.length):atI ds (k:Int)=wj ds[k]:=by
 unfold atI ixN;rw[if_pos (jg k),if_pos (by omega)];show ds[(k:Int).toNat]?=_;rw[c7,bi hk]
theorem tJ {k:Nat} (h:ds[k]?=wj d):atI ds (k:Int)=wj d:=by
 obtain⟨hk,e⟩:=bg.mp h;rw[KU hk,e]
theorem pA (e:f ρ ω=wj (.ok d,ω)) (hd:d=.lst ds∨d=.tup ds):oL iV (aC f aP) ρ ω=wj (.ok (.int ds.length),ω):=by
 refine dD (aA e aE) ?_;rcases hd with rfl|rfl <;> rfl
end
theorem KW:dN [F,N,R,wj (.tup [.str x,.tup [.int a,.int b],.int v])] ω=wj (.nx [F,N,R,wj (.tup [.str x,.tup [.int a,.int b],.int v])],ω):=by
 rfl
theorem By:∀ {ds:List D}{u:Option D},(∀ d∈ds,fA d)->∃ v,bR (aY 3) bW dN ds [F,N,wj R,u] ω=wj (.nx [F,N,wj R,v],ω)
 |[],u,_=>⟨u,rfl⟩
 |d::ds,u,h=>by
  obtain⟨x,a,b,w,rfl⟩:=h d aq;obtain⟨v,e⟩:=By (F:=F) (N:=N) (R:=R) (ω:=ω) (ds:=ds) (u:=wj (.tup [.str x,.tup [.int a,.int b],.int w])) fun d hd=>h d (ag _ hd);refine⟨v,?_⟩;refine(dZ rfl rfl (KW)).trans ?_;exact e
theorem Bx:∀ {ts:List (List D)}{u v:Option D},(∀ t∈ts,∀ d∈t,fA d)->∃ u' v',bR (aY 2) bW cP (ts.map D.lst) [F,N,u,v] ω=wj (.nx [F,N,u',v'],ω)
 |[],u,v,_=>⟨u,v,rfl⟩
 |t::ts,u,v,h=>by
  obtain⟨w,e1⟩:=By (F:=F) (N:=N) (R:=.lst t) (ω:=ω) (ds:=t) (u:=v) (h t aq);obtain⟨u',v',e2⟩:=Bx (F:=F) (N:=N) (ω:=ω) (ts:=ts) (u:=wj (.lst t)) (v:=w) fun t' ht=>h t' (ag _ ht);refine⟨u',v',?_⟩;have b2:cP [F,N,wj (.lst t),v] ω=wj (.nx [F,N,wj (.lst t),w],ω):=by
   unfold cP;rw[skip (kZ (k:=true) (tru_ok (pC (aB (d:=.lst t) rfl) (by simp[CM,fW,Ce,wT]))))];refine fJ ?_;unfold bN oIL;rw[cD (x:=(t,bW)) (ω1:=ω) (by rw[bI (aB (d:=.lst t) rfl)];rfl)];exact e1
  refine(dZ rfl rfl (b2)).trans ?_;exact e2
theorem NJ {ts:List (List D)} (h:∀ t∈ts,∀ d∈t,fA d) (hc:ts.length=c) (ω:Om):dM [.lst (ts.map D.lst),.int c] ω=wj (.ok (.bl true),ω):=by
 obtain⟨u,v,e⟩:=Bx (F:=wj (.lst (ts.map D.lst))) (N:=wj (.int c)) (ω:=ω) (ts:=ts) (u:=wk) (v:=wk) h;refine aT rfl ?_;unfold iF;show aI _ _ [wj (.lst (ts.map D.lst)),wj (.int c),wk,wk] ω=_;rw[skip (BQ (kZ (k:=true) (tru_ok (pC (aB (d:=.lst (ts.map D.lst)) rfl) (by simp[CM,fW,Ce,wT])))) (AS (a:=((ts.map D.lst).length:Nat)) (b:=(c:Int)) (pA (aB (d:=.lst (ts.map D.lst)) rfl) (.inl rfl)) (aB rfl) (by rw[ao,hc])))];rw[bA (fJ (by
  unfold bN oIL;rw[cD (x:=(ts.map D.lst,bW)) (ω1:=ω) (by rw[bI (aB (d:=.lst (ts.map D.lst)) rfl)];rfl)];exact e))]
 rfl
section
variable {ω:Om}{ρ:Rho}{f h:OG D}{a b:Int}
theorem sU (e1:f ρ ω=wj (.ok (.int a),ω)) (e2:h ρ ω=wj (.ok (.int b),ω)):o2 (lf xC) f h ρ ω=wj (.ok (.int (a+b)),ω):=gJ e1 e2 rfl
theorem Bm (e1:f ρ ω=wj (.ok (.int a),ω)) (e2:h ρ ω=wj (.ok (.int b),ω)):o2 (lf gSub) f h ρ ω=wj (.ok (.int (a-b)),ω):=gJ e1 e2 rfl
theorem EK (e1:f ρ ω=wj (.ok (.int a),ω)) (e2:h ρ ω=wj (.ok (.int b),ω)) (hb: -1000000000000000000<b/\b<1000000000000000000):o2 (lf iI) f h ρ ω=wj (.ok (.int (a*b)),ω):=gJ e1 e2 (Nm hb)
theorem xH (e1:f ρ ω=wj (.ok (.int a),ω)) (e2:h ρ ω=wj (.ok (.int b),ω)) (hb:0<b):o2 (lf cU) f h ρ ω=wj (.ok (.int (a % b)),ω):=gJ e1 e2 (Nn hb)
theorem pP {p q:Int} (e1:f ρ ω=wj (.ok (.int a),ω)) (e2:h ρ ω=wj (.ok (.int q),ω)) (hp:0<p) (hq:0<q):o2 (lf cU) (o2 (lf cU) (o2 (lf iI) f (oP (dC (.int 48271)))) (oP (dC (.int p)))) h ρ ω=wj (.ok (.int (a*48271 % p % q)),ω):=xH (xH (EK e1 aU (by decide)) aU hp) e2 hq
theorem DU {x q:Int} (hq:0<q):0<=x % q/\x % q<q:=⟨Int.emod_nonneg x (by omega),Int.emod_lt_of_pos x hq⟩
theorem Nu {z:Int} (e1:f ρ ω=wj (.ok (.int a),ω)):cH (o2 (jK 8) f (oP (dC (.int z)))) ρ ω=wj (.ok (a==z),ω):=cK (eW e1 aU rfl)
theorem mE {z:Int} (e1:f ρ ω=wj (.ok (.int a),ω)):cH (o2 (lf gLt) f (oP (dC (.int z)))) ρ ω=wj (.ok (decide (a<z)),ω):=cK (gJ e1 aU rfl)
theorem KE {z:Int} (e1:f ρ ω=wj (.ok (.int a),ω)):cH (o2 (lf gGt) f (oP (dC (.int z)))) ρ ω=wj (.ok (decide (z<a)),ω):=cK (gJ e1 aU rfl)
theorem Ee {xs:List Int} (e1:f ρ ω=wj (.ok (.lst (iv xs)),ω)) (e2:h ρ ω=wj (.ok (.int a),ω)) (h0:0<=a) (h1:a<xs.length):o2 (fun ω a b=>pu (bE ω a b) ω) f h ρ ω=wj (.ok (.int (xs.getD a.toNat 0)),ω):=aK e1 e2 (RowV.ix (ω:=ω) (d:=.lst (iv xs)) rfl h0 h1)
theorem Bw {i:Nat}{d:D}{ω1:Om} (e:f ρ ω=wj (.ok d,ω1)):aX i f ρ ω=wj (.nx (ρ.set i (wj d)),ω1):=by
 unfold aX;rw[cD e]
theorem ifI {t:OG Bool}{F:OS}{i:Nat}{a0 a1:Int}{k:Bool} (ht:t ρ ω=wj (.ok k,ω)) (hF:F ρ ω=wj (.nx (ρ.set i (wj (.int a1))),ω)) (h0:ρ.set i (wj (.int a0))=ρ):∃ a:Int,eB t F bP ρ ω=wj (.nx (ρ.set i (wj (.int a))),ω):=by
 cases k with
 |true=>exact⟨a1,by rw[lZ ht];exact hF⟩
 |false=>exact⟨a0,by rw[mB ht,h0];rfl⟩
theorem NK {t u:OG Bool}{k l:Bool} (e1:t ρ ω=wj (.ok k,ω)) (e2:u ρ ω=wj (.ok l,ω)):BV t u ρ ω=wj (.ok (k&&l),ω):=by
 unfold BV;rw[bI e1];cases k with
 |true=>exact e2
 |false=>rfl
end
theorem Iz {j:Int}{c:Nat} (h0:0<=j) (h4:j<4) (c1:1<=c) (c8:c<=8) (ω:Om):∃ x,jH [.int j,.int c] ω=wj (.ok (.str x),ω):=by
 have hj:j=0∨j=1∨j=2∨j=3:=by omega
 have hc:c=1∨c=2∨c=3∨c=4∨c=5∨c=6∨c=7∨c=8:=by omega
 rcases hj with rfl|rfl|rfl|rfl <;> rcases hc with rfl|rfl|rfl|rfl|rfl|rfl|rfl|rfl <;> exact⟨_,rfl⟩
theorem Ik (c:Nat) (ω:Om):eV [.int c] ω=wj (.ok (.lst (iv [-1,c,-2,0-c,100000000000000000000,0-100000000000000000000])),ω):=rfl
theorem Cu (cell:Int) (k c:Nat) (c2:1<=c) (c8:c<=8) (ω:Om):∃ d:Deed,gM [.int cell,.int k,.int c] ω=wj (.ok d.d,ω):=by
 have cpos:(0:Int)<c:=by omega
 obtain⟨way,hway⟩:∃ w,w=cell*48271 % 1009 % 16:=⟨_,rfl⟩;obtain⟨one,hone⟩:∃ w,w=(cell+k)*48271 % 1013 % c:=⟨_,rfl⟩;have q1:∃ a:Int,eB (BV (cH (o2 (lf gGt) (oP (aD 2)) (oP (dC (.int 1))))) (cH (o2 (lf gGt) (o2 (lf cU) (o2 (lf cU) (o2 (lf iI) (oP (aD 0)) (oP (dC (.int 48271)))) (oP (dC (.int 1019)))) (oP (dC (.int 19)))) (oP (dC (.int 0)))))) (aX 5 (o2 (lf cU) (o2 (lf xC) (o2 (lf xC) (oP (aD 4)) (oP (dC (.int 1)))) (o2 (lf cU) (o2 (lf cU) (o2 (lf iI) (oP (aD 0)) (oP (dC (.int 48271)))) (oP (dC (.int 1021)))) (o2 (lf gSub) (oP (aD 2)) (oP (dC (.int 1)))))) (oP (aD 2)))) bP [wj (.int cell),wj (.int k),wj (.int c),wj (.int way),wj (.int one),wj (.int one),wk,wk,wk] ω=wj (.nx [wj (.int cell),wj (.int k),wj (.int c),wj (.int way),wj (.int one),wj (.int a),wk,wk,wk],ω):=by
  by_cases c1:c=1
  ·refine⟨one,?_⟩;rw[mB (ω1:=ω) (by
    unfold BV;rw[bI (KE (a:=c) (aB rfl)),decide_eq_false (by omega)];rfl)]
   rfl
  ·have cpos1:(0:Int)<c-1:=by omega
   exact ifI (ω:=ω) (i:=5) (ρ:=[wj (.int cell),wj (.int k),wj (.int c),wj (.int way),wj (.int one),wj (.int one),wk,wk,wk]) (a0:=one)
    (t:=BV (cH (o2 (lf gGt) (oP (aD 2)) (oP (dC (.int 1))))) (cH (o2 (lf gGt) (o2 (lf cU) (o2 (lf cU) (o2 (lf iI) (oP (aD 0)) (oP (dC (.int 48271)))) (oP (dC (.int 1019)))) (oP (dC (.int 19)))) (oP (dC (.int 0))))))
    (F:=aX 5 (o2 (lf cU) (o2 (lf xC) (o2 (lf xC) (oP (aD 4)) (oP (dC (.int 1)))) (o2 (lf cU) (o2 (lf cU) (o2 (lf iI) (oP (aD 0)) (oP (dC (.int 48271)))) (oP (dC (.int 1021)))) (o2 (lf gSub) (oP (aD 2)) (oP (dC (.int 1)))))) (oP (aD 2))))
    (NK (KE (a:=c) (aB rfl)) (KE (pP (a:=cell) (aB rfl) aU (by decide) (by decide))))
    (Bw (xH (b:=c) (sU (sU (a:=one) (aB rfl) aU) (pP (a:=cell) (aB rfl) (Bm (a:=c) (aB rfl) aU) (by decide) cpos1)) (aB rfl) cpos)) rfl
 obtain⟨other,e1⟩:=q1;have r4:=DU (x:=cell*48271 % 1031) (q:=4) (by decide);obtain⟨x,ex⟩:=Iz r4.1 r4.2 (by omega:1<=c) c8 ω;obtain⟨vs,hvs⟩:∃ vs:List Int,vs=[cell*48271 % 1033 % 9-4,0-k,100000000000000000000+k]:=⟨_,rfl⟩;have r3:=DU (x:=cell*48271 % 1039) (q:=3) (by decide);obtain⟨v,hv⟩:∃ v,v=vs.getD (cell*48271 % 1039 % 3).toNat 0:=⟨_,rfl⟩;have r6:=DU (x:=cell*48271 % 1051) (q:=6) (by decide);have r6':=DU (x:=cell*48271 % 1063) (q:=6) (by decide);have q2:=ifI (ω:=ω) (i:=4) (ρ:=[wj (.int cell),wj (.int k),wj (.int c),wj (.int way),wj (.int one),wj (.int other),wj (.str x),wj (.lst (iv vs)),wj (.int v)]) (a0:=one)
  (t:=cH (o2 (jK 8) (o2 (lf cU) (o2 (lf cU) (o2 (lf iI) (oP (aD 0)) (oP (dC (.int 48271)))) (oP (dC (.int 1049)))) (oP (dC (.int 31)))) (oP (dC (.int 30)))))
  (F:=aX 4 (o2 (fun ω a b=>pu (bE ω a b) ω) (bO eV (aC (oP (aD 2)) aP)) (o2 (lf cU) (o2 (lf cU) (o2 (lf iI) (oP (aD 0)) (oP (dC (.int 48271)))) (oP (dC (.int 1051)))) (oP (dC (.int 6))))))
  (Nu (pP (a:=cell) (aB rfl) aU (by decide) (by decide)))
  (Bw (Ee (aW (aA (aB rfl) aE) (Ik c ω)) (pP (a:=cell) (aB rfl) aU (by decide) (by decide)) r6.1 r6.2)) rfl
 obtain⟨one',e2⟩:=q2;have q3:=ifI (ω:=ω) (i:=5) (ρ:=[wj (.int cell),wj (.int k),wj (.int c),wj (.int way),wj (.int one'),wj (.int other),wj (.str x),wj (.lst (iv vs)),wj (.int v)]) (a0:=other)
  (t:=cH (o2 (jK 8) (o2 (lf cU) (o2 (lf cU) (o2 (lf iI) (oP (aD 0)) (oP (dC (.int 48271)))) (oP (dC (.int 1061)))) (oP (dC (.int 31)))) (oP (dC (.int 30)))))
  (F:=aX 5 (o2 (fun ω a b=>pu (bE ω a b) ω) (bO eV (aC (oP (aD 2)) aP)) (o2 (lf cU) (o2 (lf cU) (o2 (lf iI) (oP (aD 0)) (oP (dC (.int 48271)))) (oP (dC (.int 1063)))) (oP (dC (.int 6))))))
  (Nu (pP (a:=cell) (aB rfl) aU (by decide) (by decide)))
  (Bw (Ee (aW (aA (aB rfl) aE) (Ik c ω)) (pP (a:=cell) (aB rfl) aU (by decide) (by decide)) r6'.1 r6'.2)) rfl
 obtain⟨other',e3⟩:=q3;have main:∀ d:Deed,∀ G:OS,G [wj (.int cell),wj (.int k),wj (.int c),wj (.int way),wj (.int one'),wj (.int other'),wj (.str x),wj (.lst (iv vs)),wj (.int v)] ω=wj (.rt d.d,ω)->
   aI (aX 3 (o2 (lf cU) (o2 (lf cU) (o2 (lf iI) (oP (aD 0)) (oP (dC (.int 48271)))) (oP (dC (.int 1009)))) (oP (dC (.int 16))))) (aI (aX 4 (o2 (lf cU) (o2 (lf cU) (o2 (lf iI) (o2 (lf xC) (oP (aD 0)) (oP (aD 1))) (oP (dC (.int 48271)))) (oP (dC (.int 1013)))) (oP (aD 2)))) (aI (aX 5 (oP (aD 4))) (aI (eB (BV (cH (o2 (lf gGt) (oP (aD 2)) (oP (dC (.int 1))))) (cH (o2 (lf gGt) (o2 (lf cU) (o2 (lf cU) (o2 (lf iI) (oP (aD 0)) (oP (dC (.int 48271)))) (oP (dC (.int 1019)))) (oP (dC (.int 19)))) (oP (dC (.int 0)))))) (aX 5 (o2 (lf cU) (o2 (lf xC) (o2 (lf xC) (oP (aD 4)) (oP (dC (.int 1)))) (o2 (lf cU) (o2 (lf cU) (o2 (lf iI) (oP (aD 0)) (oP (dC (.int 48271)))) (oP (dC (.int 1021)))) (o2 (lf gSub) (oP (aD 2)) (oP (dC (.int 1)))))) (oP (aD 2)))) bP) (aI (aX 6 (bO jH (aC (o2 (lf cU) (o2 (lf cU) (o2 (lf iI) (oP (aD 0)) (oP (dC (.int 48271)))) (oP (dC (.int 1031)))) (oP (dC (.int 4)))) (aC (oP (aD 2)) aP)))) (aI (aX 7 (oL (fun ω ds=>pu (fE ds) ω) (aC (o2 (lf gSub) (o2 (lf cU) (o2 (lf cU) (o2 (lf iI) (oP (aD 0)) (oP (dC (.int 48271)))) (oP (dC (.int 1033)))) (oP (dC (.int 9)))) (oP (dC (.int 4)))) (aC (o2 (lf gSub) (oP (dC (.int 0))) (oP (aD 1))) (aC (o2 (lf xC) (oP (dC (.int 100000000000000000000))) (oP (aD 1))) aP))))) (aI (aX 8 (o2 (fun ω a b=>pu (bE ω a b) ω) (oP (aD 7)) (o2 (lf cU) (o2 (lf cU) (o2 (lf iI) (oP (aD 0)) (oP (dC (.int 48271)))) (oP (dC (.int 1039)))) (oP (dC (.int 3)))))) (aI (eB (cH (o2 (jK 8) (o2 (lf cU) (o2 (lf cU) (o2 (lf iI) (oP (aD 0)) (oP (dC (.int 48271)))) (oP (dC (.int 1049)))) (oP (dC (.int 31)))) (oP (dC (.int 30))))) (aX 4 (o2 (fun ω a b=>pu (bE ω a b) ω) (bO eV (aC (oP (aD 2)) aP)) (o2 (lf cU) (o2 (lf cU) (o2 (lf iI) (oP (aD 0)) (oP (dC (.int 48271)))) (oP (dC (.int 1051)))) (oP (dC (.int 6)))))) bP) (aI (eB (cH (o2 (jK 8) (o2 (lf cU) (o2 (lf cU) (o2 (lf iI) (oP (aD 0)) (oP (dC (.int 48271)))) (oP (dC (.int 1061)))) (oP (dC (.int 31)))) (oP (dC (.int 30))))) (aX 5 (o2 (fun ω a b=>pu (bE ω a b) ω) (bO eV (aC (oP (aD 2)) aP)) (o2 (lf cU) (o2 (lf cU) (o2 (lf iI) (oP (aD 0)) (oP (dC (.int 48271)))) (oP (dC (.int 1063)))) (oP (dC (.int 6)))))) bP) G)))))))) (cF lS [.int cell,.int k,.int c]) ω=wj (.rt d.d,ω):=by
  intro d G hG;refine(aM (pP (a:=cell) (aB rfl) aU (by decide) (by decide))).trans ?_;rw[<- hway];refine(aM (xH (b:=c) (xH (EK (sU (a:=cell) (b:=k) (aB rfl) (aB rfl)) aU (by decide)) aU (by decide)) (aB rfl) cpos)).trans ?_;rw[<- hone];refine(aM (d:=.int one) (aB rfl)).trans ?_;refine(bA e1).trans ?_;refine(aM (d:=.str x) (ω1:=ω) (aW (aA (pP (a:=cell) (aB rfl) aU (by decide) (by decide)) (aA (aB (d:=.int c) rfl) aE)) ex)).trans ?_;refine(aM (d:=.lst (iv vs)) (ω1:=ω) (dD (aA (Bm (pP (a:=cell) (aB rfl) aU (by decide) (by decide)) aU) (aA (Bm (b:=k) aU (aB rfl)) (aA (sU (b:=k) aU (aB rfl)) aE))) (by rw[hvs];rfl))).trans ?_;refine(aM (Ee (xs:=vs) (aB rfl) (pP (a:=cell) (aB rfl) aU (by decide) (by decide)) r3.1 (by rw[hvs];exact r3.2))).trans ?_;rw[<- hv];refine(bA e2).trans ?_;refine(bA e3).trans ?_;exact hG
 have vw:∀ ω,oP (aD 3) [wj (.int cell),wj (.int k),wj (.int c),wj (.int way),wj (.int one'),wj (.int other'),wj (.str x),wj (.lst (iv vs)),wj (.int v)] ω=wj (.ok (.int way),ω):=fun ω=>aB rfl
 by_cases h5:way<5
 ·refine⟨.put one' x v,aT rfl (main _ _ ?_)⟩;exact Cm (r:=.ok _) (by rw[mE (vw ω),decide_eq_true h5]) rfl
 by_cases h7:way<7
 ·refine⟨.take one' x,aT rfl (main _ _ ?_)⟩;rw[skip (by rw[mE (vw ω),decide_eq_false h5])];exact Cm (r:=.ok _) (by rw[mE (vw ω),decide_eq_true h7]) rfl
 by_cases h9:way<9
 ·refine⟨.change one' x v,aT rfl (main _ _ ?_)⟩;rw[skip (by rw[mE (vw ω),decide_eq_false h5]),skip (by rw[mE (vw ω),decide_eq_false h7])];exact Cm (r:=.ok _) (by rw[mE (vw ω),decide_eq_true h9]) rfl
 have gt:∀ q:Bool,decide (11<way)=q->o2 (lf gGt) (oP (aD 3)) (oP (dC (.int 11))) [wj (.int cell),wj (.int k),wj (.int c),wj (.int way),wj (.int one'),wj (.int other'),wj (.str x),wj (.lst (iv vs)),wj (.int v)] ω=wj (.ok (.bl q),ω):=fun q hq=>by
  rw[<- hq];exact gJ (vw ω) aU rfl
 by_cases h11:11<way
 ·refine⟨.meet one' other',aT rfl (main _ _ ?_)⟩;rw[skip (by rw[mE (vw ω),decide_eq_false h5]),skip (by rw[mE (vw ω),decide_eq_false h7]),skip (by rw[mE (vw ω),decide_eq_false h9])];refine bH (dD (aA (a:=.str "meet") (aK (a:=.lst [.str "tell",.str "meet"]) (b:=.int 1) rfl (dD (aA (gt true (decide_eq_true h11)) aE) rfl) rfl) (aA (aB rfl) (aA (aB rfl) aE))) rfl)
 ·refine⟨.tell one' other',aT rfl (main _ _ ?_)⟩;rw[skip (by rw[mE (vw ω),decide_eq_false h5]),skip (by rw[mE (vw ω),decide_eq_false h7]),skip (by rw[mE (vw ω),decide_eq_false h9])];refine bH (dD (aA (a:=.str "tell") (aK (a:=.lst [.str "tell",.str "meet"]) (b:=.int 0) rfl (dD (aA (gt false (decide_eq_false h11)) aE) rfl) rfl) (aA (aB rfl) (aA (aB rfl) aE))) rfl)
theorem lD (e1:fo ρ ω=wj (.ok (.obj n),ω1)) (e2:ω1[n]?=wj (.ml xs)) (e3:fl ρ ω1=wj (.ok ds,ω2)) (e4:g ω2 (.obj n) ds=wj (r,ω3)):kY g fo fl ρ ω=wj (.ok r,ω3):=by
 unfold kY;rw[bI e1]
 have:Cf ω1 (.obj n)=true:=by simp only[Cf,cellOf,e2]
 show(if Cf ω1 (.obj n)=true then _ else wk)=_
 rw[if_pos this,bI e3];show oR (g ω2 (.obj n) ds)=_;rw[e4];rfl
theorem sV {c n:Nat} (c2:1<=c) (c8:c<=8) (hx:xs.length<=1000):∀(m s:Nat) (pre:List Deed) (v:Option D) (ω:Om),ω[n]?=wj (.ml (pre.map Deed.d))->s+m=xs.length->pre.length=s->∃ v' post,post.length=m/\bR (aY 3) bW eQ (qX s m) [wj (.lst (iv xs)),wj (.int c),wj (.obj n),v] ω=wj (.nx [wj (.lst (iv xs)),wj (.int c),wj (.obj n),v'],ω.set n (.ml ((pre++post).map Deed.d)))
 |0,s,pre,v,ω,ht,_,_=>⟨v,[],rfl,by
   rw[c4,gL ht];rfl⟩
 |m+1,s,pre,v,ω,ht,hs,hp=>by
  obtain⟨d,ed⟩:=Cu (xs.getD (s:Int).toNat 0+7*s) s c c2 c8 ω;have b1:eQ [wj (.lst (iv xs)),wj (.int c),wj (.obj n),wj (.int s)] ω=wj (.nx [wj (.lst (iv xs)),wj (.int c),wj (.obj n),wj (.int s)],ω.set n (.ml ((pre++[d]).map Deed.d))):=by
   unfold eQ bU;rw[cD (lD (r:=.non) (ω3:=ω.set n (.ml ((pre++[d]).map Deed.d))) (aB (d:=.obj n) rfl) ht (aA (aW (aA (sU (Ee (xs:=xs) (a:=s) (aB rfl) (aB rfl) (by omega) (by omega)) (EK (b:=s) aU (aB rfl) ⟨by omega,by omega⟩)) (aA (aB (d:=.int s) rfl) (aA (aB (d:=.int c) rfl) aE))) ed) aE) (by
    simp only[lL,ht];rw[if_pos (by rw[ao,bu];omega),c6];rfl))]
  obtain⟨v',post,hl,e2⟩:=sV c2 c8 hx m (s+1) (pre++[d]) (wj (.int s)) (ω.set n (.ml ((pre++[d]).map Deed.d))) (cC ht) (by omega) (by simp[hp]);refine⟨v',d::post,by simp[hl],?_⟩;rw[gG];refine(dZ rfl rfl (b1)).trans ?_;rw[ox,g7] at e2;exact e2
theorem Hy {c:Nat} (c2:1<=c) (c8:c<=8) (hx:xs.length<=1000) (ω:Om):∃ ds:List Deed,ds.length=xs.length/\kD [.lst (iv xs),.int c] ω=wj (.ok (.obj ω.length),ω++[.ml (ds.map Deed.d)]):=by
 have h0:(ω++[Ob.ml []])[ω.length]?=wj (.ml (([]:List Deed).map Deed.d)):=by simp
 obtain⟨v',post,hl,e⟩:=sV c2 c8 hx xs.length 0 [] wk (ω++[Ob.ml []]) h0 (by omega) rfl;refine⟨post,hl,aT rfl ?_⟩;unfold pL;rw[aM (d:=.obj ω.length) (ω1:=ω++[.ml []]) rfl];rw[bA (fJ (by
  unfold bN;rw[cD (mH (c:=xs.length) (by
   have:=pA (f:=oP (aD 0)) (ρ:=(cF qT [.lst (iv xs),.int c]).set 2 (wj (.obj ω.length))) (ω:=ω++[.ml []]) (d:=.lst (iv xs)) (ds:=iv xs) (aB rfl) (.inl rfl)
   rw[show(iv xs).length=xs.length from by unfold iv;simp] at this;exact this) hx)]
  exact e))]
 refine(bH (aB (d:=.obj ω.length) rfl)).trans ?_;simp
theorem NH (ns:List Int) (k:Nat) (ω:Om):∃ x:Int,tY [.scr (ns.map D.int),.int k] ω=wj (.ok (.int x),ω):=by
 have v0:∀ ω:Om,oP (aD 0) (cF nQ [.scr (ns.map D.int),.int k]) ω=wj (.ok (.scr (ns.map D.int)),ω):=fun ω=>rfl;have v1:∀ ω:Om,oP (aD 1) (cF nQ [.scr (ns.map D.int),.int k]) ω=wj (.ok (.int k),ω):=fun ω=>rfl;have t:∀ q:Bool,decide ((k:Int)<((ns.map D.int).length:Int))=q->cH (o2 (lf gLt) (oP (aD 1)) (oL iV (aC (oP (aD 0)) aP))) (cF nQ [.scr (ns.map D.int),.int k]) ω=wj (.ok q,ω):=fun q hq=>
  cK (gJ (v1 ω) (dD (aA (v0 ω) aE) (show _=wj (D.int ((ns.map D.int).length),ω) from rfl)) (show wj (D.bl (decide ((k:Int)<((ns.map D.int).length:Int))))=_ by rw[hq]))
 by_cases h:k<ns.length
 ·refine⟨ns[k],aT rfl ?_⟩;have hd:decide ((k:Int)<((ns.map D.int).length:Int))=true:=by simp[h]
  unfold uK aI;rw[lZ (t true hd),bH (eW (v0 ω) (v1 ω) (show pu (atI (ns.map D.int) (k:Int)) ω=wj (.int ns[k],ω) from ?_))];have e1:ixN (ns.map D.int).length (k:Int)=wj k:=by
   unfold ixN;have hk:(k:Int)<((ns.map D.int).length:Int):=by simpa using hd
   rw[if_pos (jg k),if_pos hk];simp
  unfold atI;rw[e1];simp[pu,h]
 ·refine⟨0,aT rfl ?_⟩;have hd:decide ((k:Int)<((ns.map D.int).length:Int))=false:=by simp;omega
  unfold uK aI;rw[mB (t false hd)];rfl
theorem NG (ns:List Int) (lo hi:Option Int):∃ xs:List Int,Cy (ns.map D.int) lo hi=iv xs/\xs.length<=ns.length:=by
 unfold Cy;refine⟨(ns.drop _).take _,by unfold iv;rw[List.map_take,List.map_drop],?_⟩;rw[ni,ql];omega
theorem Da {ns:List Int}{lo hi:Option Int} (e:f ρ ω=wj (.ok (.scr (ns.map D.int)),ω)) (hl:l ρ=wj lo) (hu:u ρ=wj hi):∃ xs:List Int,oSl f l u ρ ω=wj (.ok (.lst (iv xs)),ω)/\xs.length<=ns.length:=by
 obtain⟨xs,e1,hx⟩:=NG ns lo hi;refine⟨xs,?_,hx⟩;unfold oSl;rw[bI e]
 show(l ρ).bind _=_
 rw[hl]
 show(u ρ).bind _=_
 rw[hu];show oR (pu (wj (D.lst (Cy (ns.map D.int) lo hi))) ω)=_;rw[e1];rfl
theorem Pl.lst (hl:ds.length<=1000) (h:∀ d∈ds,Pl n d):Pl (n+1) (.lst ds):=⟨hl,h⟩
theorem Pl.iv (hl:xs.length<=1000):Pl (n+1) (.lst (iv xs)):=Pl.lst (by unfold Lw.iv;rw[ao];exact hl) fun d hd=>by
 unfold Lw.iv at hd;obtain⟨x,_,rfl⟩:=aw.mp hd;exact Pl.int _ _
theorem Pl.ent (h:fA d):Pl (n+2) d:=by
 obtain⟨x,a,b,v,rfl⟩:=h;refine⟨by simp,fun d hd=> ?_⟩;simp only[ai,ck,or_false] at hd;rcases hd with rfl|rfl|rfl
 ·exact Pl.str _ _
 ·exact Pl.tup2 (Pl.int _ _) (Pl.int _ _)
 ·exact Pl.int _ _
theorem Pl.deed (d:Deed):Pl 1 d.d:=by
 have two:∀(x:Str) (l:List D),l.length<=3->(∀ y∈l,Pl 0 y)->Pl 1 (.tup (.str x::l)):=fun x l h1 h2=>⟨by rw[bz];omega,fun y hy=>by
  rcases ai.mp hy with rfl|hy
  ·exact Pl.str _ _
  ·exact h2 y hy⟩
 cases d with
 |put a x v=>
  refine two _ _ (by simp) fun y hy=> ?_;simp only[ai,ck,or_false] at hy;rcases hy with rfl|rfl|rfl <;> trivial
 |change a x v=>
  refine two _ _ (by simp) fun y hy=> ?_;simp only[ai,ck,or_false] at hy;rcases hy with rfl|rfl|rfl <;> trivial
 |take a x=>
  refine two _ _ (by simp) fun y hy=> ?_;simp only[ai,ck,or_false] at hy;rcases hy with rfl|rfl <;> trivial
 |tell a b=>
  refine two _ _ (by simp) fun y hy=> ?_;simp only[ai,ck,or_false] at hy;rcases hy with rfl|rfl <;> trivial
 |meet a b=>
  refine two _ _ (by simp) fun y hy=> ?_;simp only[ai,ck,or_false] at hy;rcases hy with rfl|rfl <;> trivial
theorem Pl.deeds {ds:List Deed} (hl:ds.length<=1000):Pl 2 (.lst (ds.map Deed.d)):=Pl.lst (by rw[ao];exact hl) fun d hd=>by
 obtain⟨x,_,rfl⟩:=aw.mp hd;exact Pl.deed x
noncomputable def DeedsAt (ω:Om) (d:D) (ds:List Deed):Prop:=fW ω d=wj (ds.map Deed.d)
theorem DeedsAt.keep (h:DeedsAt ω d ds) (K:Keep [] ω ω'):DeedsAt ω' d ds:=by
 rcases fB h with rfl|⟨n,rfl,e⟩
 ·rfl
 ·have e':=(K.2 n (dY e) (by simp)).trans e;unfold DeedsAt fW;simp only[e']
theorem DeedsAt.list (h:DeedsAt ω d ds) (e:f ρ ω=wj (.ok d,ω)):oL iG (aC f aP) ρ ω=wj (.ok (.lst (ds.map Deed.d)),ω):=by
 refine dD (aA e aE) ?_
 have:cA ω d=wj (ds.map Deed.d):=by
  rcases fB h with rfl|⟨n,rfl,e2⟩
  ·rfl
  ·simp only[cA,fW,e2]
 show(cA ω d).map _=_
 rw[this];rfl
theorem yB {c:Nat} (c0:0<c) (c8:c<=8) (hl:ds.length<64) (h:DeedsAt ω d ds):∃ ω',fL [.int c,d] ω=wj (.ok (.tup [AI c (jM c ds),AJ c (jM c ds),Ly c (jM c ds),Lx c (jM c ds)]),ω')/\Keep [] ω ω'/\∃ own,HInv c own (jM c ds)/\tot c own<64:=by
 obtain⟨ω',e1,K,I⟩:=HR c0 c8 hl ω;refine⟨ω',?_,K,I⟩;refine aT rfl ?_;unfold iS;rw[aM (h.list (aB rfl))];rw[aM (aW (aA (aB (d:=.int c) rfl) (aA (aB (d:=.lst (ds.map Deed.d)) rfl) aE)) e1)];rw[skip (BQ (cK (eW (aB (d:=.lst (ds.map Deed.d)) rfl) (aB (d:=d) rfl) (by
  have hd:=h.keep K
  have:iH ω' d=.lst (ds.map Deed.d):=by unfold iH;rw[hd]
  show pu ((eqD 8 (.lst (ds.map Deed.d)) (iH ω' d)).map fun k=>D.bl (!k)) ω'=_;rw[this,lM ((Pl.deeds (by omega)).mono (by decide))];rfl))) (BQ (kZ (k:=true) (tru_ok (pC (aB rfl) (by simp[CM,fW,Ce,wT])))) (AS (b:=4) (pA (aB rfl) (.inr rfl)) aU rfl)))]
 exact bH (aB rfl)
structure Rec where
 a:Nat
 b:Nat
 put:Option (Str×Int)
 outs:List (List Key)
noncomputable def Rec.key (r:Rec):List Key:=gD r.a r.b
noncomputable def Rec.mark (r:Rec):D:=mkD r.a r.b
noncomputable def Rec.putD (r:Rec):D:=match r.put with
 |none=>.non
 |some p=>.tup [.str p.1,.int p.2]
noncomputable def Rec.val (r:Rec):D:=.tup [r.putD,.lst (r.outs.map bK)]
noncomputable def Rec.ent (r:Rec):Option D:=r.put.map fun p=>.tup [.str p.1,mkD r.a r.b,.int p.2]
noncomputable def upF {α:Type} (f:Nat->α) (i:Nat) (x:α):Nat->α:=fun j=>if j=i then x else f j
theorem bF {x:α}:upF f i x i=x:=if_pos rfl
theorem bC {x:α} (h:j≠i):upF f i x j=f j:=if_neg h
theorem RowV.app (h:RowV ω d xs) (obs:List Ob):RowV (ω++obs) d xs:=by
 rcases fB h with rfl|⟨n,rfl,e⟩
 ·rfl
 ·exact cG ((aj (dY e)).trans e)
theorem RowV.keep (h:RowV ω d xs) (g:∀ n:Nat,ω[n]?=wj (Ob.ml (iv xs))->ω'[n]?=wj (Ob.ml (iv xs))):RowV ω' d xs:=by
 rcases fB h with rfl|⟨n,rfl,e⟩
 ·rfl
 ·exact cG (g n e)
theorem RowV.noInt (h:RowV ω (.int x) xs):False:=by
 unfold RowV fW at h;cases h
noncomputable def rK (ω:Om) (n:Nat):Prop:=∀ y ys,ω[n]?≠wj (Ob.ml (iv (y::ys)))
theorem RowV.set (h:RowV ω d xs) (hx:xs≠[]) (hn:rK ω n):RowV (ω.set n ob) d xs:=h.keep fun m e=>by
 match xs,hx with
 |y::ys,_=>
  have:m≠n:=fun z=>hn y ys (z ▸ e)
  rw[aH this];exact e
noncomputable def RowsD (ω:Om) (c:Nat) (ds:List D) (kn:Nat->List Int):Prop:=ds.length=c/\∀ j,j<c->∃ d,ds[j]?=wj d/\RowV ω d (kn j)
structure LawAt (B ω:Om) (c h dd oo kk:Nat) (ks:Nat->Nat) (rs:List Rec) (kn:Nat->Nat->List Int):Prop where
 obj:ω[h]?=wj (.dk [(.inr "count",.int c),(.inr "deeds",.obj dd),(.inr "order",.obj oo),(.inr "known",.obj kk)])
 deeds:ω[dd]?=wj (.dt (rs.map fun r=>(r.key,r.val)))
 order:ω[oo]?=wj (.ml (rs.map Rec.mark))
 known:ω[kk]?=wj (.ml ((bq c).map fun i=>.obj (ks i)))
 row:∀ i,i<c->∃ ds,ω[ks i]?=wj (.ml ds)/\RowsD ω c ds (kn i)
 len:∀ i j,i<c->j<c->(kn i j).length=c
 inj:∀ i j,i<c->j<c->i≠j->ks i≠ks j
 out:∀ i,i<c->ks i≠h/\ks i≠dd/\ks i≠oo/\ks i≠kk
 nd:h≠dd/\h≠oo/\h≠kk/\dd≠oo/\dd≠kk/\oo≠kk
 low:B.length<=h/\B.length<=dd/\B.length<=oo/\B.length<=kk/\∀ i,i<c->B.length<=ks i
 bas:B.length<=ω.length/\∀ n,n<B.length->ω[n]?=B[n]?
 keys:(rs.map Rec.key).Nodup
 ra:∀ r∈rs,r.a<c
section
variable {B ω:Om}{c h dd oo kk:Nat}{ks:Nat->Nat}{rs:List Rec}{kn:Nat->Nat->List Int}{ρ:Rho}{f:OG D}
theorem nJ (L:LawAt B ω c h dd oo kk ks rs kn) (ef:f ρ ω=wj (.ok (.obj h),ω)) (e:iE [((.inr "count":Key),D.int c),(.inr "deeds",.obj dd),(.inr "order",.obj oo),(.inr "known",.obj kk)] (.inr x)=wj d):o2 (fun ω a b=>pu (cL ω a b) ω) f (oP (dC (.str x))) ρ ω=wj (.ok d,ω):=eW ef aU (by
 show pu (cL ω (.obj h) (.str x)) ω=_
 have:cL ω (.obj h) (.str x)=wj d:=by
  simp only[cL,CN,cellOf,L.obj,toK];rw[rg,e];rfl
 rw[this];rfl)
theorem LawAt.gCount (L:LawAt B ω c h dd oo kk ks rs kn) (ef:f ρ ω=wj (.ok (.obj h),ω)):o2 (fun ω a b=>pu (cL ω a b) ω) f (oP (dC (.str "count"))) ρ ω=wj (.ok (.int c),ω):=nJ L ef rfl
theorem LawAt.gDeeds (L:LawAt B ω c h dd oo kk ks rs kn) (ef:f ρ ω=wj (.ok (.obj h),ω)):o2 (fun ω a b=>pu (cL ω a b) ω) f (oP (dC (.str "deeds"))) ρ ω=wj (.ok (.obj dd),ω):=nJ L ef rfl
theorem LawAt.gOrder (L:LawAt B ω c h dd oo kk ks rs kn) (ef:f ρ ω=wj (.ok (.obj h),ω)):o2 (fun ω a b=>pu (cL ω a b) ω) f (oP (dC (.str "order"))) ρ ω=wj (.ok (.obj oo),ω):=nJ L ef rfl
theorem LawAt.gKnown (L:LawAt B ω c h dd oo kk ks rs kn) (ef:f ρ ω=wj (.ok (.obj h),ω)):o2 (fun ω a b=>pu (cL ω a b) ω) f (oP (dC (.str "known"))) ρ ω=wj (.ok (.obj kk),ω):=nJ L ef rfl
theorem LawAt.ixKnown (L:LawAt B ω c h dd oo kk ks rs kn) (hi:i<c):bE ω (.obj kk) (.int i)=wj (.obj (ks i)):=by
 rw[kK L.known];exact tJ (by rw[ax,d8 hi];rfl)
theorem RowsD.ix (e:ω[n]?=wj (.ml ds)) (h:RowsD ω c ds q) (hj:j<c):∃ d,bE ω (.obj n) (.int j)=wj d/\RowV ω d (q j):=by
 obtain⟨d,e1,r⟩:=h.2 j hj;exact⟨d,by rw[kK e];exact tJ e1,r⟩
theorem RowsD.noRow (e:ω[n]?=wj (.ml ds)) (h:RowsD ω c ds q) (c0:0<c):rK ω n:=fun y ys z=>by
 rw[e] at z;cases z;obtain⟨d,e1,r⟩:=h.2 0 c0;cases e1;exact r.noInt
theorem LawAt.noOrder (L:LawAt B ω c h dd oo kk ks rs kn):rK ω oo:=fun y ys z=>by
 rw[L.order] at z;cases rs with
 |nil=>cases z
 |cons r rs=>cases z
theorem LawAt.noDeeds (L:LawAt B ω c h dd oo kk ks rs kn):rK ω dd:=fun y ys z=>by
 rw[L.deeds] at z;cases z
theorem LawAt.len0 (L:LawAt B ω c h dd oo kk ks rs kn) (c0:0<c) (hi:i<c) (hj:j<c):kn i j≠[]:=fun z=>by
 have:=L.len i j hi hj
 rw[z] at this;simp at this;omega
theorem RowsD.keep (h:RowsD ω c ds q) (g:∀ d xs,xs≠[]->RowV ω d xs->RowV ω' d xs) (hl:∀ j,j<c->q j≠[]):RowsD ω' c ds q:=⟨h.1,fun j hj=>by
 obtain⟨d,e,r⟩:=h.2 j hj;exact⟨d,e,g d _ (hl j hj) r⟩⟩
theorem LawAt.mono (L:LawAt B ω c h dd oo kk ks rs kn) (c0:0<c) (hl:ω.length<=ω'.length) (g:∀ n:Nat,n<ω.length->ω'[n]?=ω[n]?):LawAt B ω' c h dd oo kk ks rs kn:=by
 have gr:∀ d xs,xs≠[]->RowV ω d xs->RowV ω' d xs:=fun d xs _ r=>r.keep fun n e=>by rw[g n (dY e)];exact e
 refine⟨?_,?_,?_,?_,fun i hi=> ?_,L.len,L.inj,L.out,L.nd,L.low,⟨cf L.bas.1 hl,fun n hn=> ?_⟩,L.keys,L.ra⟩
 ·rw[g _ (dY L.obj)];exact L.obj
 ·rw[g _ (dY L.deeds)];exact L.deeds
 ·rw[g _ (dY L.order)];exact L.order
 ·rw[g _ (dY L.known)];exact L.known
 ·obtain⟨ds,e,r⟩:=L.row i hi;exact⟨ds,by rw[g _ (dY e)];exact e,r.keep gr fun j hj=>L.len0 c0 hi hj⟩
 ·rw[g n (b4 hn L.bas.1)];exact L.bas.2 n hn
theorem LawAt.app (L:LawAt B ω c h dd oo kk ks rs kn) (c0:0<c) (obs:List Ob):LawAt B (ω++obs) c h dd oo kk ks rs kn:=L.mono c0 (by simp) fun n hn=>aj hn
end
noncomputable def cV (row:List Int) (r:Rec):Bool:=decide ((r.b:Int)<=row.getD r.a 0)
noncomputable def dP (rs:List Rec) (row:List Int):List (List Key):=(rs.filter (cV row)).flatMap (·.outs)
noncomputable def bB (rs:List Rec) (row:List Int):List D:=(rs.filter (cV row)).filterMap Rec.ent
noncomputable def Gy (q:List Key) (l:List (List Key)):Bool:=l.any fun k=>decide (k=q)
theorem memK_iff:Gy q l=true↔q∈l:=by
 unfold Gy;rw[nv];constructor
 ·rintro⟨k,hk,e⟩
  rw[<- of_decide_eq_true e];exact hk
 ·exact fun h=>⟨q,h,decide_eq_true rfl⟩
noncomputable def eI (rs:List Rec) (row:List Int):List D:=(bB rs row).filter fun d=> !Gy (aV d) (dP rs row)
structure uX (c:Nat) (own:Nat->Nat) (rs:List Rec):Prop where
 keys:(rs.map Rec.key).Nodup
 inn:∀ r∈rs,r.a<c/\1<=r.b/\r.b<=own r.a
 outs:∀ r∈rs,r.outs.length<64/\∀ q∈r.outs,KeyIn c own q
theorem EL (a b a' b':Int):eqD 7 (.tup [.int a,.int b]) (.tup [.int a',.int b'])=wj (decide (a=a'/\b=b')):=by
 have:eqD 7 (.tup [.int a,.int b]) (.tup [.int a',.int b'])=wj ((a==a'&&(b==b'&&true))&&true):=rfl
 rw[this]
 congr 1
 by_cases h:a=a' <;> by_cases h2:b=b' <;> simp[h,h2]
theorem Ba (a b:Nat):∀(l:List (List Key)),(∀ q∈l,∃ x y:Nat,q=gD x y)->inO (fun d=>eqD 7 d (mkD a b)) (l.map bK)=wj (Gy (gD a b) l)
 |[],_=>rfl
 |q::l,h=>by
  obtain⟨x,y,rfl⟩:=h q aq;have ih:=Ba a b l fun q hq=>h q (ag _ hq)
  show(eqD 7 (mkD x y) (mkD a b)).bind (fun k=>(inO (fun d=>eqD 7 d (mkD a b)) (l.map bK)).map fun c=>k||c)=_
  rw[ih];unfold mkD;rw[EL];show wj (decide ((x:Int)=a/\(y:Int)=b)||Gy (gD a b) l)=wj (decide (gD x y=gD a b)||Gy (gD a b) l)
  have:(gD x y=gD a b)↔((x:Int)=a/\(y:Int)=b):=by
   unfold gD;simp
  rw[decide_eq_decide.mpr this]
theorem KeyIn.mk (h:KeyIn c own q):∃ x y:Nat,q=gD x y:=by
 obtain⟨a,b,_,_,_,e⟩:=h;exact⟨a,b,e⟩
section
variable {B ω:Om}{c h dd oo kk:Nat}{ks:Nat->Nat}{rs:List Rec}{kn:Nat->Nat->List Int}{own:Nat->Nat}
theorem HC (L:LawAt B ω c h dd oo kk ks rs kn) (hr:r∈rs):cL ω (.obj dd) r.mark=wj r.val:=by
 have e1:CL r.mark=wj r.key:=rfl;have e2:iE (rs.map fun r=>(r.key,r.val)) r.key=wj r.val:=by
  have nd:((rs.map fun r=>(r.key,r.val)).map (·.1)).Nodup:=by
   rw[ia];exact L.keys
  exact yJ nd (aw.mpr ⟨r,hr,rfl⟩)
 simp only[cL,CN,cellOf,L.deeds,e1];rw[rg,e2];rfl
theorem wG (hrow:row.length=c):∀(post pre:List Rec) {ω:Om}{n:Nat}{v4 v5 v6:Option D},LawAt B ω c h dd oo kk ks rs kn->0<c->uX c own rs->RowV ω rowD row->rs=pre++post->rs.length<64->ω[n]?=wj (.ml (bB pre row))->rK ω n->n≠h->n≠dd->n≠oo->n≠kk->(∀ i,i<c->n≠ks i)->B.length<=n->
  ∃ v4' v5' v6',bR (aY 4) (jQ oo (rs.map Rec.mark)) bD (post.map Rec.mark) [wj (.obj h),wj rowD,wj (.lst ((dP pre row).map bK)),wj (.obj n),v4,v5,v6] ω=wj (.nx [wj (.obj h),wj rowD,wj (.lst ((dP rs row).map bK)),wj (.obj n),v4',v5',v6'],ω.set n (.ml (bB rs row)))
 |[],pre,ω,n,v4,v5,v6,L,c0,R,hr,hp,hl,hn,nr,n1,n2,n3,n4,n5,nb=>by
  rw[c4] at hp;subst hp;refine⟨v4,v5,v6,?_⟩
  show(if jQ oo (rs.map Rec.mark) ω=true then _ else wk)=_
  rw[if_pos (pD L.order),gL hn]
 |r::post,pre,ω,n,v4,v5,v6,L,c0,R,hr,hp,hl,hn,nr,n1,n2,n3,n4,n5,nb=>by
  have hm:r∈rs:=by rw[hp];simp
  have hp':rs=(pre++[r])++post:=by rw[g7];exact hp
  have rin:=R.inn r hm;have step:∀(ω2:Om) (v5' v6':Option D) (g' t':D),g'=.lst ((dP (pre++[r]) row).map bK)->bD [wj (.obj h),wj rowD,wj (.lst ((dP pre row).map bK)),wj (.obj n),wj r.mark,v5,v6] ω=wj (.nx [wj (.obj h),wj rowD,wj g',wj (.obj n),wj r.mark,v5',v6'],ω2)->ω2=ω.set n (.ml (bB (pre++[r]) row))->
    ∃ v4' v5' v6',bR (aY 4) (jQ oo (rs.map Rec.mark)) bD ((r::post).map Rec.mark) [wj (.obj h),wj rowD,wj (.lst ((dP pre row).map bK)),wj (.obj n),v4,v5,v6] ω=wj (.nx [wj (.obj h),wj rowD,wj (.lst ((dP rs row).map bK)),wj (.obj n),v4',v5',v6'],ω.set n (.ml (bB rs row))):=by
   intro ω2 v5' v6' g' t' hg e1 hω2;subst hg hω2;have hne:∀ m,m≠n->(ω.set n (.ml (bB (pre++[r]) row)))[m]?=ω[m]?:=fun m hm=>aH hm;have L2:LawAt B (ω.set n (.ml (bB (pre++[r]) row))) c h dd oo kk ks rs kn:=by
    refine⟨?_,?_,?_,?_,fun i hi=> ?_,L.len,L.inj,L.out,L.nd,L.low,⟨by simpa using L.bas.1,fun m hm=> ?_⟩,L.keys,L.ra⟩
    ·rw[hne _ (bv n1)];exact L.obj
    ·rw[hne _ (bv n2)];exact L.deeds
    ·rw[hne _ (bv n3)];exact L.order
    ·rw[hne _ (bv n4)];exact L.known
    ·obtain⟨ds,e,rr⟩:=L.row i hi;exact⟨ds,by rw[hne _ (bv (n5 i hi))];exact e,rr.keep (fun d xs hx q=>q.set hx nr) fun j hj=>L.len0 c0 hi hj⟩
    ·rw[hne _ (by omega)];exact L.bas.2 m hm
   have nr2:rK (ω.set n (.ml (bB (pre++[r]) row))) n:=fun y ys z=>by
    rw[cC hn] at z;have z':bB (pre++[r]) row=iv (y::ys):=by
     injection z with z
     injection z
    have:D.int y∈bB (pre++[r]) row:=by rw[z'];exact aq
    obtain⟨q,_,e2⟩:=gs.mp this;unfold Rec.ent at e2;cases hq:q.put with
    |none=>rw[hq] at e2;cases e2
    |some p=>rw[hq] at e2;cases e2
   have row0:row≠[]:=fun z=>by rw[z] at hrow;simp at hrow;omega
   obtain⟨w4,w5,w6,e3⟩:=wG hrow post (pre++[r]) (v4:=wj r.mark) (v5:=v5') (v6:=v6') L2 c0 R (hr.set row0 nr) hp' hl (cC hn) nr2 n1 n2 n3 n4 n5 nb;refine⟨w4,w5,w6,?_⟩;rw[ox] at e3
   show(if jQ oo (rs.map Rec.mark) ω=true then(match bD [wj (.obj h),wj rowD,wj (.lst ((dP pre row).map bK)),wj (.obj n),wj r.mark,v5,v6] ω with
    |none=>wk
    |some (.nx ρ2,ω2)=>bR (aY 4) (jQ oo (rs.map Rec.mark)) bD (post.map Rec.mark) ρ2 ω2
    |some (.ct ρ2,ω2)=>bR (aY 4) (jQ oo (rs.map Rec.mark)) bD (post.map Rec.mark) ρ2 ω2
    |some (.bk ρ2,ω2)=>wj (.nx ρ2,ω2)
    |some (.rt d,ω2)=>wj (.rt d,ω2)
    |some (.ex _,_)=>wk) else wk)=_
   rw[if_pos (pD L.order),e1];exact e3
  have tst:cH (o2 (lf gLe) (o2 (fun ω a b=>pu (bE ω a b) ω) (oP (aD 4)) (oP (dC (.int 1)))) (o2 (fun ω a b=>pu (bE ω a b) ω) (oP (aD 1)) (o2 (fun ω a b=>pu (bE ω a b) ω) (oP (aD 4)) (oP (dC (.int 0)))))) [wj (.obj h),wj rowD,wj (.lst ((dP pre row).map bK)),wj (.obj n),wj r.mark,v5,v6] ω=wj (.ok (cV row r),ω):=
   cK (gJ (aK (aB (d:=r.mark) rfl) aU rfl) (aK (aB (d:=rowD) rfl) (aK (aB (d:=r.mark) rfl) aU rfl) (hr.ix (a:=r.a) (by omega) (by omega))) (by
    show wj (D.bl (decide ((r.b:Int)<=row.getD (r.a:Int).toNat 0)))=_;rw[c7];rfl))
  cases hs:cV row r with
  |false=>
   rw[hs] at tst;refine step ω v5 v6 (.lst ((dP pre row).map bK)) .non ?_ ?_ ?_
   ·unfold dP;rw[jh,c9 (by rw[hs];exact cg),kq,c4]
   ·unfold bD;rw[mB tst];rfl
   ·unfold bB at hn ⊢;rw[jh,c9 (by rw[hs];exact cg),kq,c4,gL hn]
  |true=>
   rw[hs] at tst;have eg:dP (pre++[r]) row=dP pre row++r.outs:=by
    unfold dP;rw[jh,da hs,kq,List.flatMap_append];simp
   have et:bB (pre++[r]) row=bB pre row++r.ent.toList:=by
    unfold bB;rw[jh,da hs,kq,List.filterMap_append]
    congr 1
   have hgl:(dP pre row).length<=64*64:=by
    have gen:∀ l:List Rec,(∀ q∈l,q.outs.length<64)->(l.flatMap (·.outs)).length<=64*l.length:=by
     intro l
     induction l with
     |nil=>intro _;simp
     |cons q l ih=>
      intro hq;rw[List.flatMap_cons,b7,bz]
      have:=hq q aq
      have:=ih fun x hx=>hq x (ag _ hx)
      omega
    have h1:=gen (pre.filter (cV row)) fun q hq=>(R.outs q (by rw[hp];exact dn _ (b8.mp hq).1)).1;have h2:(pre.filter (cV row)).length<=pre.length:=dy ..;have h3:pre.length<64:=by rw[hp,b7] at hl;omega
    unfold dP;omega
   have houts:=(R.outs r hm).1;have b1:∀ G:OS,aI (BJ (qH 5 6) (o2 (fun ω a b=>pu (cL ω a b) ω) (o2 (fun ω a b=>pu (cL ω a b) ω) (oP (aD 0)) (oP (dC (.str "deeds")))) (oP (aD 4)))) (aI (aX 2 (o2 GX (oP (aD 2)) (oP (aD 6)))) G) [wj (.obj h),wj rowD,wj (.lst ((dP pre row).map bK)),wj (.obj n),wj r.mark,v5,v6] ω=G [wj (.obj h),wj rowD,wj (.lst ((dP (pre++[r]) row).map bK)),wj (.obj n),wj r.mark,wj r.putD,wj (.lst (r.outs.map bK))] ω:=by
    intro G;rw[bA (ρ1:=[wj (.obj h),wj rowD,wj (.lst ((dP pre row).map bK)),wj (.obj n),wj r.mark,wj r.putD,wj (.lst (r.outs.map bK))]) (ω1:=ω) (by
     unfold BJ;rw[cD (eW (d:=r.val) (ω3:=ω) (L.gDeeds (aB rfl)) (aB (d:=r.mark) rfl) (by
      show pu (cL ω (.obj dd) r.mark) ω=_;rw[HC L hm];rfl))]
     rfl)]
    rw[aM (d:=.lst ((dP (pre++[r]) row).map bK)) (ω1:=ω) (eW (aB (d:=.lst ((dP pre row).map bK)) rfl) (aB (d:=.lst (r.outs.map bK)) rfl) (by
     show(if((dP pre row).map bK).length+(r.outs.map bK).length<=sizeLine then wj (D.lst ((dP pre row).map bK++r.outs.map bK),ω) else wk)=_
     rw[if_pos (by rw[ao,ao,bu];omega),eg,c6]))]
    rfl
   cases hq:r.put with
   |none=>
    have ep:r.putD=.non:=by unfold Rec.putD;rw[hq]
    have ee:r.ent=wk:=by unfold Rec.ent;rw[hq];rfl
    refine step ω (wj r.putD) (wj (.lst (r.outs.map bK))) _ .non rfl ?_ ?_
    ·unfold bD;rw[lZ tst,b1,ep];rfl
    ·rw[et,ee];simp only[Option.toList_none,c4];rw[gL hn]
   |some p=>
    have ep:r.putD=.tup [.str p.1,.int p.2]:=by unfold Rec.putD;rw[hq]
    have ee:r.ent=wj (.tup [.str p.1,mkD r.a r.b,.int p.2]):=by unfold Rec.ent;rw[hq];rfl
    refine step (ω.set n (.ml (bB (pre++[r]) row))) (wj r.putD) (wj (.lst (r.outs.map bK))) _ .non rfl ?_ rfl;unfold bD;rw[lZ tst,b1,ep];rw[lZ (ω1:=ω) rfl];unfold bU;have tl:(bB pre row).length<=pre.length:=cf (mm ..) (dy ..);have h3:pre.length<64:=by rw[hp,b7] at hl;omega
    rw[cD (lD (r:=.non) (ω3:=ω.set n (.ml (bB (pre++[r]) row))) (aB (d:=.obj n) rfl) hn (aA (dD (d:=.tup [.str p.1,mkD r.a r.b,.int p.2]) (aA (aK (aB (d:=.tup [.str p.1,.int p.2]) rfl) aU rfl) (aA (aB (d:=r.mark) rfl) (aA (aK (aB (d:=.tup [.str p.1,.int p.2]) rfl) aU rfl) aE))) rfl) aE) (by
     simp only[lL,hn];rw[if_pos (by rw[bu];omega),et,ee];rfl))]
end
theorem tT {o o':Ob}:(ω++[o]).set ω.length o'=ω++[o']:=by simp
section
variable {B ω:Om}{c h dd oo kk:Nat}{ks:Nat->Nat}{rs:List Rec}{kn:Nat->Nat->List Int}{own:Nat->Nat}
theorem vT (R:uX c own rs) (hd:d∈bB rs row):∃(a b:Nat) (x:Str) (v:Int),d=.tup [.str x,mkD a b,.int v]/\a<c/\1<=b/\b<=own a:=by
 obtain⟨r,hr,e⟩:=gs.mp hd;have hin:=R.inn r (b8.mp hr).1;unfold Rec.ent at e;cases hq:r.put with
 |none=>rw[hq] at e;cases e
 |some p=>
  rw[hq] at e;cases e;exact⟨r.a,r.b,p.1,p.2,rfl,hin⟩
theorem GN (R:uX c own rs) (hq:q∈dP rs row):KeyIn c own q:=by
 obtain⟨r,hr,e⟩:=n8.mp hq;exact(R.outs r (b8.mp hr).1).2 q e
theorem LawAt.lts (L:LawAt B ω c h dd oo kk ks rs kn):h<ω.length/\dd<ω.length/\oo<ω.length/\kk<ω.length/\∀ i,i<c->ks i<ω.length:=⟨dY L.obj,dY L.deeds,dY L.order,dY L.known,fun i hi=>by
 obtain⟨ds,e,_⟩:=L.row i hi;exact dY e⟩
theorem sA (L:LawAt B ω c h dd oo kk ks rs kn) (c0:0<c) (R:uX c own rs) (hr:RowV ω rowD row) (hrow:row.length=c) (hl:rs.length<64) (hs:eD 4 (eI rs row)=wj out):dR [.obj h,rowD] ω=wj (.ok (.lst out),ω++[.ml (bB rs row)]):=by
 obtain⟨l1,l2,l3,l4,l5⟩:=L.lts;have L1:=L.app c0 [Ob.ml []];have nr:rK (ω++[Ob.ml []]) ω.length:=fun y ys z=>by
  rw[dc (bf _)] at z;simp at z;cases z
 obtain⟨v4,v5,v6,e⟩:=wG hrow rs [] (n:=ω.length) (v4:=wk) (v5:=wk) (v6:=wk) L1 c0 R (hr.app _) rfl hl (by simp[bB]) nr (by omega) (by omega) (by omega) (by omega) (fun i hi=>by have:=l5 i hi;omega) L.bas.1;rw[tT] at e;have hn:(ω++[Ob.ml (bB rs row)])[ω.length]?=wj (.ml (bB rs row)):=by simp
 have cp:dJ xG (oIL (oP (aD 3))) [wk,wj 2] (aY 0) (cH (o2 (lf (Bi 7)) (o2 (fun ω a b=>pu (bE ω a b) ω) (oP (aD 0)) (oP (dC (.int 1)))) (oP (aD 1)))) (oP (aD 0)) [wj (.obj h),wj rowD,wj (.lst ((dP rs row).map bK)),wj (.obj ω.length),v4,v5,v6] (ω++[.ml (bB rs row)])=wj (.ok (.lst (eI rs row)),ω++[.ml (bB rs row)]):=by
  have tl:(bB rs row).length<=rs.length:=cf (mm ..) (dy ..);refine gC (ds:=bB rs row) (chk:=jQ ω.length (bB rs row)) (ω1:=ω++[.ml (bB rs row)]) ?_ (by rw[bu];omega) ?_
  ·unfold oIL;rw[bI (aB (d:=.obj ω.length) rfl)]
   have:mO (ω++[Ob.ml (bB rs row)]) (.obj ω.length)=wj (bB rs row,jQ ω.length (bB rs row)):=by simp only[mO,hn]
   show oR (pu (mO (ω++[Ob.ml (bB rs row)]) (.obj ω.length)) _)=_;rw[this];rfl
  ·refine(eN (p:=fun d=> !Gy (aV d) (dP rs row)) (g:=fun d=>d) (fun ρ=>∃ u,ρ=[u,wj (.lst ((dP rs row).map bK))]) (pD hn) ⟨_,rfl⟩ fun d hd ρ hρ=> ?_).trans (by rw[List.map_id'];rfl);obtain⟨u,rfl⟩:=hρ;obtain⟨a,b,x,v,rfl,_⟩:=vT R hd;refine⟨_,rfl,⟨_,rfl⟩,?_,fun _=>aB rfl⟩;refine cK (gJ (aK (aB (d:=.tup [.str x,mkD a b,.int v]) rfl) aU rfl) (aB (d:=.lst ((dP rs row).map bK)) rfl) ?_)
   show(inO (fun d=>eqD 7 d (mkD a b)) ((dP rs row).map bK)).map (fun k=>D.bl (!k))=_
   rw[Ba a b _ fun q hq=>(GN R hq).mk];rfl
 refine aT rfl ?_;unfold lH;rw[aM (d:=.lst []) (ω1:=ω) rfl];rw[aM (d:=.obj ω.length) (ω1:=ω++[.ml []]) rfl];refine(bA (fJ (by
  unfold bN oIL;rw[cD (x:=(rs.map Rec.mark,jQ oo (rs.map Rec.mark))) (ω1:=ω++[Ob.ml []]) (by
   rw[bI (L1.gOrder (aB (d:=.obj h) rfl))]
   have:mO (ω++[Ob.ml []]) (.obj oo)=wj (rs.map Rec.mark,jQ oo (rs.map Rec.mark)):=by simp only[mO,L1.order]
   show oR (pu (mO (ω++[Ob.ml []]) (.obj oo)) _)=_;rw[this];rfl)]
  exact e))).trans ?_
 refine bH (dD (aA cp aE) ?_)
 show(eD 4 (eI rs row)).map _=_
 rw[hs];rfl
theorem LawAt.setRow (L:LawAt B ω c h dd oo kk ks rs kn) (c0:0<c) (hi:i<c) (hj:j<c) (hd:ω[ks i]?=wj (.ml ds)) (hD:RowsD ω c ds (kn i)) (hr:RowV ω d xs) (hx:xs.length=c):LawAt B (ω.set (ks i) (.ml (ds.set j d))) c h dd oo kk ks rs (upF kn i (upF (kn i) j xs)):=by
 have nr:=hD.noRow hd c0;obtain⟨o1,o2,o3,o4⟩:=L.out i hi;have x0:xs≠[]:=fun z=>by rw[z] at hx;simp at hx;omega
 refine⟨?_,?_,?_,?_,fun k hk=> ?_,fun a b ha hb=> ?_,L.inj,L.out,L.nd,L.low,⟨by simpa using L.bas.1,fun m hm=> ?_⟩,L.keys,L.ra⟩
 ·rw[aH (bv o1)];exact L.obj
 ·rw[aH (bv o2)];exact L.deeds
 ·rw[aH (bv o3)];exact L.order
 ·rw[aH (bv o4)];exact L.known
 ·by_cases hk2:k=i
  ·subst hk2;refine⟨ds.set j d,cC hd,by rw[ci];exact hD.1,fun b hb=> ?_⟩;rw[bF]
   by_cases hb2:b=j
   ·subst hb2;rw[bF];exact⟨d,dq (by rw[hD.1];exact hb),hr.set x0 nr⟩
   ·rw[bC hb2];obtain⟨d',e,r⟩:=hD.2 b hb;exact⟨d',by rw[fy (bv hb2)];exact e,r.set (L.len0 c0 hi hb) nr⟩
  ·rw[bC hk2];obtain⟨ds',e,r⟩:=L.row k hk;exact⟨ds',by rw[aH (L.inj k i hk hi hk2)];exact e,r.keep (fun d xs hx q=>q.set hx nr) fun b hb=>L.len0 c0 hk hb⟩
 ·by_cases hk2:a=i
  ·subst hk2;rw[bF]
   by_cases hb2:b=j
   ·subst hb2;rw[bF];exact hx
   ·rw[bC hb2];exact L.len _ _ ha hb
  ·rw[bC hk2];exact L.len _ _ ha hb
 ·rw[aH (by have:=L.low.2.2.2.2 i hi;omega)];exact L.bas.2 m hm
theorem LawAt.addRec (L:LawAt B ω c h dd oo kk ks rs kn) (c0:0<c) (hr:r.a<c) (hk:r.key∉rs.map Rec.key):LawAt B ((ω.set dd (.dt ((rs++[r]).map fun r=>(r.key,r.val)))).set oo (.ml ((rs++[r]).map Rec.mark))) c h dd oo kk ks (rs++[r]) kn:=by
 obtain⟨d1,d2,d3,d4,d5,d6⟩:=L.nd;have nd:=L.noDeeds;have no:rK (ω.set dd (.dt ((rs++[r]).map fun r=>(r.key,r.val)))) oo:=fun y ys z=>by
  rw[aH (bv d4)] at z;exact L.noOrder y ys z
 refine⟨?_,?_,?_,?_,fun i hi=> ?_,L.len,L.inj,L.out,L.nd,L.low,⟨by simpa using L.bas.1,fun m hm=> ?_⟩,?_,fun q hq=> ?_⟩
 ·rw[aH d2,aH d1];exact L.obj
 ·rw[aH d4];exact cC L.deeds
 ·exact cC (by rw[aH (bv d4)];exact L.order)
 ·rw[aH (bv d6),aH (bv d5)];exact L.known
 ·obtain⟨ds,e,rr⟩:=L.row i hi;obtain⟨o1,o2,o3,o4⟩:=L.out i hi;exact⟨ds,by rw[aH o3,aH o2];exact e,rr.keep (fun d xs hx q=>(q.set hx nd).set hx no) fun j hj=>L.len0 c0 hi hj⟩
 ·obtain⟨m1,m2,m3,m4,m5⟩:=L.low;rw[aH (by omega),aH (by omega)];exact L.bas.2 m hm
 ·rw[c6,jo];refine⟨L.keys,by simp,fun a ha b hb z=>hk ?_⟩
  have:b=r.key:=by simpa using hb
  rw[<- this,<- z];exact ha
 ·rcases cz.mp hq with z|z
  ·exact L.ra q z
  ·rw[fe.mp z];exact hr
theorem uD (L:LawAt B ω c h dd oo kk ks rs kn) (c0:0<c) (hi:own'<c) (ha:r.a=own') (hb:(r.b:Int)=(kn own' own').getD own' 0+1) (hk:r.key∉rs.map Rec.key) (hl:rs.length<64):∃ ω',cX [.obj h,.int own',r.putD,.lst (r.outs.map bK)] ω=wj (.ok r.mark,ω')/\LawAt B ω' c h dd oo kk ks (rs++[r]) (upF kn own' (upF (kn own') own' ((kn own' own').set own' r.b)))/\ω.length<=ω'.length:=by
 obtain⟨ds,e1,D1⟩:=L.row own' hi;obtain⟨d,e2,R1⟩:=D1.ix e1 hi;obtain⟨xs,hxs⟩:∃ xs,xs=kn own' own':=⟨_,rfl⟩;have hlen:xs.length=c:=by rw[hxs];exact L.len _ _ hi hi
 rw[<- hxs] at R1 hb ⊢;obtain⟨ω2,hω2⟩:∃ ω2,ω2=ω++[Ob.ml (iv (xs.set own' r.b))]:=⟨_,rfl⟩;have L2:LawAt B ω2 c h dd oo kk ks rs kn:=by rw[hω2];exact L.app c0 _
 have s2:ω2[ω.length]?=wj (.ml (iv (xs.set own' r.b))):=by rw[hω2];simp
 have e1':ω2[ks own']?=wj (.ml ds):=by rw[hω2,aj (dY e1)];exact e1
 have D2:RowsD ω2 c ds (kn own'):=D1.keep (fun d xs _ q=>by rw[hω2];exact q.app _) fun j hj=>L.len0 c0 hi hj;have xr:(xs.set own' (r.b:Int)).length=c:=by rw[ci];exact hlen
 obtain⟨ω3,hω3⟩:∃ ω3,ω3=ω2.set (ks own') (.ml (ds.set own' (.obj ω.length))):=⟨_,rfl⟩;have L3:LawAt B ω3 c h dd oo kk ks rs (upF kn own' (upF (kn own') own' (xs.set own' r.b))):=by rw[hω3];exact L2.setRow c0 hi hi e1' D2 (cG s2) xr
 have nr2:=D2.noRow e1' c0;have s3:ω3[ω.length]?=wj (.ml (iv (xs.set own' r.b))):=by
  have:=L.lts.2.2.2.2 own' hi
  rw[hω3,aH (by omega)];exact s2
 have L4:=L3.addRec (r:=r) c0 (by omega) hk;have key:r.key=gD own' r.b:=by unfold Rec.key;rw[ha]
 have mk:r.mark=mkD own' r.b:=by unfold Rec.mark;rw[ha]
 have ix3:bE ω3 (.obj ω.length) (.int own')=wj (.int r.b):=by
  have:=(cG s3).ix (a:=own') (by omega) (by rw[xr];omega)
  rw[this,c7,fD _ _ _ _ (by omega),if_pos rfl]
 refine⟨_,?_,L4,by rw[ci,ci,hω3,ci,hω2];simp⟩;refine aT rfl ?_;unfold pK;refine(aM (d:=.obj ω.length) (ω1:=ω++[.ml (iv xs)]) (dD (aA (aK (aK (L.gKnown (aB rfl)) (aB (d:=.int own') rfl) (L.ixKnown hi)) (aB (d:=.int own') rfl) e2) aE) (by
  have:cA ω d=wj (iv xs):=by
   rcases fB R1 with rfl|⟨n,rfl,e⟩
   ·rfl
   ·simp only[cA,fW,e]
  show sS ω [d]=_;simp only[sS,this];rfl))).trans ?_
 have s1:(ω++[Ob.ml (iv xs)])[ω.length]?=wj (.ml (iv xs)):=by simp
 have ix1:bE (ω++[Ob.ml (iv xs)]) (.obj ω.length) (.int own')=wj (.int (xs.getD own' 0)):=by
  have:=(cG s1).ix (a:=own') (by omega) (by rw[hlen];omega)
  rw[this,c7]
 refine(bA (eY (v:=.int r.b) (o:=.obj ω.length) (i:=.int own') (ω4:=ω2) (by
  have:=sU (ω:=ω++[Ob.ml (iv xs)]) (f:=o2 (fun ω a b=>pu (bE ω a b) ω) (oP (aD 4)) (oP (aD 1))) (h:=oP (dC (.int 1))) (ρ:=(cF qR [.obj h,.int own',r.putD,.lst (r.outs.map bK)]).set 4 (wj (.obj ω.length))) (aK (aB (d:=.obj ω.length) rfl) (aB (d:=.int own') rfl) ix1) aU
  rw[hb];exact this) (aB rfl) (aB rfl) (by
  rw[lY s1 (by unfold iv;rw[ao];omega),tT,hω2];unfold iv;rw[ux]))).trans ?_
 refine(bA (eY (v:=.obj ω.length) (o:=.obj (ks own')) (i:=.int own') (ω4:=ω3) (aB rfl) (aK (L2.gKnown (aB (d:=.obj h) rfl)) (aB (d:=.int own') rfl) (L2.ixKnown hi)) (aB rfl) (by rw[lY e1' (by rw[D1.1];exact hi),hω3]))).trans ?_;refine(bA (eY (v:=r.val) (o:=.obj dd) (i:=r.mark) (ω4:=ω3.set dd (.dt ((rs++[r]).map fun r=>(r.key,r.val)))) (dD (aA (aB (d:=r.putD) rfl) (aA (aB (d:=.lst (r.outs.map bK)) rfl) aE)) rfl) (L3.gDeeds (aB (d:=.obj h) rfl)) (dD (aA (aB (d:=.int own') rfl) (aA (aK (aB (d:=.obj ω.length) rfl) (aB (d:=.int own') rfl) ix3) aE)) (by rw[mk];rfl)) (by
  rw[pT (ks:=r.key) L3.deeds rfl (by rw[ao,bu];omega),tW (by rw[ia];exact hk),c6];rfl))).trans ?_
 obtain⟨d1,d2,d3,d4,d5,d6⟩:=L.nd;have o4:(ω3.set dd (.dt ((rs++[r]).map fun r=>(r.key,r.val))))[oo]?=wj (.ml (rs.map Rec.mark)):=by rw[aH (bv d4)];exact L3.order
 have h4:(ω3.set dd (.dt ((rs++[r]).map fun r=>(r.key,r.val))))[h]?=wj (.dk [(.inr "count",.int c),(.inr "deeds",.obj dd),(.inr "order",.obj oo),(.inr "known",.obj kk)]):=by rw[aH d1];exact L3.obj
 have dlt:=L.lts.2.1;have s4:(ω3.set dd (.dt ((rs++[r]).map fun r=>(r.key,r.val))))[ω.length]?=wj (.ml (iv (xs.set own' r.b))):=by rw[aH (by omega)];exact s3
 have ix4:bE (ω3.set dd (.dt ((rs++[r]).map fun r=>(r.key,r.val)))) (.obj ω.length) (.int own')=wj (.int r.b):=by
  have:=(cG s4).ix (a:=own') (by omega) (by rw[xr];omega)
  rw[this,c7,fD _ _ _ _ (by omega),if_pos rfl]
 refine(bA (ρ1:=[wj (.obj h),wj (.int own'),wj r.putD,wj (.lst (r.outs.map bK)),wj (.obj ω.length)]) (ω1:=(ω3.set dd (.dt ((rs++[r]).map fun r=>(r.key,r.val)))).set oo (.ml ((rs++[r]).map Rec.mark))) (by
  unfold bU;rw[cD (lD (r:=.non) (ω3:=(ω3.set dd (.dt ((rs++[r]).map fun r=>(r.key,r.val)))).set oo (.ml ((rs++[r]).map Rec.mark))) (eW (aB (d:=.obj h) rfl) aU (d:=.obj oo) (ω3:=ω3.set dd (.dt ((rs++[r]).map fun r=>(r.key,r.val)))) (by
   show pu (cL _ (.obj h) (.str "order")) _=_
   have:cL (ω3.set dd (.dt ((rs++[r]).map fun r=>(r.key,r.val)))) (.obj h) (.str "order")=wj (.obj oo):=by
    simp only[cL,CN,cellOf,h4,toK];rfl
   rw[this];rfl)) o4 (aA (dD (d:=r.mark) (aA (aB (d:=.int own') rfl) (aA (aK (aB (d:=.obj ω.length) rfl) (aB (d:=.int own') rfl) ix4) aE)) (by rw[mk];rfl)) aE) (by
   simp only[lL,o4];rw[if_pos (by rw[ao,bu];omega),show(rs++[r]).map Rec.mark=rs.map Rec.mark++[r.mark] from by simp]))]
  rfl)).trans ?_
 have olt:=L.lts.2.2.1;have s5:((ω3.set dd (.dt ((rs++[r]).map fun r=>(r.key,r.val)))).set oo (.ml ((rs++[r]).map Rec.mark)))[ω.length]?=wj (.ml (iv (xs.set own' r.b))):=by rw[aH (by omega)];exact s4
 refine bH (dD (aA (aB (d:=.int own') rfl) (aA (aK (d:=.int r.b) (aB (d:=.obj ω.length) rfl) (aB (d:=.int own') rfl) (by
  have:=(cG s5).ix (a:=own') (by omega) (by rw[xr];omega)
  rw[this,c7,fD _ _ _ _ (by omega),if_pos rfl])) aE)) (by rw[mk];rfl))
end
noncomputable def mo (kn:Nat->Nat->List Int) (one other k j:Nat):Int:=if k=other then mx (mx ((kn one k).getD j 0) ((kn other k).getD j 0)) ((kn one one).getD j 0) else mx ((kn one k).getD j 0) ((kn other k).getD j 0)
noncomputable def moR (c:Nat) (kn:Nat->Nat->List Int) (one other k:Nat):List Int:=(bq c).map (mo kn one other k)
section
variable {B ω0:Om}{c h dd oo kk:Nat}{ks:Nat->Nat}{rs:List Rec}{kn:Nat->Nat->List Int}{one other:Nat}
theorem LawAt.ixRow (L:LawAt B ω0 c h dd oo kk ks rs kn) (g:∀ n:Nat,n<ω0.length->ω[n]?=ω0[n]?) (hi:i<c) (hj:j<c):∃ d,bE ω (.obj (ks i)) (.int j)=wj d/\RowV ω d (kn i j):=by
 obtain⟨ds,e,r⟩:=L.row i hi;obtain⟨d,e1,r1⟩:=r.2 j hj;have e':ω[ks i]?=wj (.ml ds):=by rw[g _ (dY e)];exact e
 exact⟨d,by rw[kK e'];exact tJ e1,r1.keep fun n q=>by rw[g n (dY q)];exact q⟩
theorem rR (L:LawAt B ω0 c h dd oo kk ks rs kn) (c8:c<=8) (h1:one<c) (h2:other<c) (hk:k<c) (hq:ω0.length<=q):∀(r s:Nat) {ω:Om}{v9 v10:Option D},(∀ n:Nat,n<ω0.length->ω[n]?=ω0[n]?)->ω[q]?=wj (.ml (iv ((bq s).map (mo kn one other k))))->s+r=c->
  ∃ v9' v10',bR (aY 9) bW cT (qX s r) [v0,wj (.int one),wj (.int other),wj (.obj (ks one)),wj (.obj (ks other)),v5,v6,wj (.int k),wj (.obj q),v9,v10] ω=wj (.nx [v0,wj (.int one),wj (.int other),wj (.obj (ks one)),wj (.obj (ks other)),v5,v6,wj (.int k),wj (.obj q),v9',v10'],ω.set q (.ml (iv (moR c kn one other k))))
 |0,s,ω,v9,v10,g,e,hs=>⟨v9,v10,by
   have:s=c:=by omega
   subst this;show wj (OOut.nx _,ω)=_;rw[show moR s kn one other k=(bq s).map (mo kn one other k) from rfl,gL e]⟩
 |r+1,s,ω,v9,v10,g,e,hs=>by
  have hsc:s<c:=by omega
  obtain⟨d1,i1,r1⟩:=L.ixRow g h1 hk;obtain⟨d2,i2,r2⟩:=L.ixRow g h2 hk;obtain⟨d3,i3,r3⟩:=L.ixRow g h1 h1;have rx:∀ {d:D}{xs:List Int},RowV ω d xs->xs.length=c->bE ω d (.int s)=wj (.int (xs.getD s 0)):=fun {d xs} rr hx=>by
   have:=rr.ix (a:=s) (by omega) (by omega)
   rw[this,c7]
  have b1:∃ v10',cT [v0,wj (.int one),wj (.int other),wj (.obj (ks one)),wj (.obj (ks other)),v5,v6,wj (.int k),wj (.obj q),wj (.int s),v10] ω=wj (.nx [v0,wj (.int one),wj (.int other),wj (.obj (ks one)),wj (.obj (ks other)),v5,v6,wj (.int k),wj (.obj q),wj (.int s),v10'],ω.set q (.ml (iv ((bq (s+1)).map (mo kn one other k))))):=by
   refine⟨wj (.int (mo kn one other k s)),?_⟩;unfold cT;rw[aM (d:=.int (mx ((kn one k).getD s 0) ((kn other k).getD s 0))) (ω1:=ω) (dD (aA (aK (aK (aB (d:=.obj (ks one)) rfl) (aB (d:=.int k) rfl) i1) (aB (d:=.int s) rfl) (rx r1 (L.len _ _ h1 hk))) (aA (aK (aK (aB (d:=.obj (ks other)) rfl) (aB (d:=.int k) rfl) i2) (aB (d:=.int s) rfl) (rx r2 (L.len _ _ h2 hk))) aE)) rfl)];have mid:eB (cH (o2 (jK 8) (oP (aD 7)) (oP (aD 2)))) (aX 10 (oL (lfL xB) (aC (oP (aD 10)) (aC (o2 (fun ω a b=>pu (bE ω a b) ω) (o2 (fun ω a b=>pu (bE ω a b) ω) (oP (aD 3)) (oP (aD 1))) (oP (aD 9))) aP)))) bP [v0,wj (.int one),wj (.int other),wj (.obj (ks one)),wj (.obj (ks other)),v5,v6,wj (.int k),wj (.obj q),wj (.int s),wj (.int (mx ((kn one k).getD s 0) ((kn other k).getD s 0)))] ω=wj (.nx [v0,wj (.int one),wj (.int other),wj (.obj (ks one)),wj (.obj (ks other)),v5,v6,wj (.int k),wj (.obj q),wj (.int s),wj (.int (mo kn one other k s))],ω):=by
    have t:=Kh (ω:=ω) (ρ:=[v0,wj (.int one),wj (.int other),wj (.obj (ks one)),wj (.obj (ks other)),v5,v6,wj (.int k),wj (.obj q),wj (.int s),wj (.int (mx ((kn one k).getD s 0) ((kn other k).getD s 0)))]) (k:=7) (l:=2) (a:=(k:Int)) (b:=(other:Int)) rfl rfl
    by_cases hko:k=other
    ·rw[decide_eq_true (by omega:(k:Int)=other)] at t;rw[lZ t,Bw (d:=.int (mo kn one other k s)) (ω1:=ω) (dD (aA (aB (d:=.int (mx ((kn one k).getD s 0) ((kn other k).getD s 0))) rfl) (aA (aK (aK (aB (d:=.obj (ks one)) rfl) (aB (d:=.int one) rfl) i3) (aB (d:=.int s) rfl) (rx r3 (L.len _ _ h1 h1))) aE)) (by
      unfold mo;rw[if_pos hko];rfl))]
     rfl
    ·rw[decide_eq_false (by omega:¬(k:Int)=other)] at t;rw[mB t];unfold mo;rw[if_neg hko];rfl
   refine(bA mid).trans ?_;unfold bU;rw[cD (lD (r:=.non) (ω3:=ω.set q (.ml (iv ((bq (s+1)).map (mo kn one other k))))) (aB (d:=.obj q) rfl) e (aA (aB (d:=.int (mo kn one other k s)) rfl) aE) (by
    simp only[lL,e];rw[if_pos (by unfold iv;rw[ao,ao,g8,bu];omega),oy];unfold iv;rw[c6,c6];rfl))]
  obtain⟨w10,b1⟩:=b1;obtain⟨u9,u10,e2⟩:=rR L c8 h1 h2 hk hq (v0:=v0) (v5:=v5) (v6:=v6) r (s+1) (ω:=ω.set q (.ml (iv ((bq (s+1)).map (mo kn one other k))))) (v9:=wj (.int s)) (v10:=w10) (fun n hn=>by rw[aH (by omega)];exact g n hn) (cC e) (by omega);refine⟨u9,u10,?_⟩;rw[ox] at e2;rw[gG];refine(dZ rfl rfl (b1)).trans ?_;exact e2
noncomputable def BA (ω:Om) (lo m s:Nat) (ds:List D) (q:Nat->List Int):Prop:=ω[m]?=wj (.ml ds)/\ds.length=s/\∀ j,j<s->∃ n,ds[j]?=wj (.obj n)/\ω[n]?=wj (.ml (iv (q j)))/\n≠m/\lo<=n
theorem rQ (L:LawAt B ω0 c h dd oo kk ks rs kn) (c0:0<c) (c8:c<=8) (h1:one<c) (h2:other<c) (hm:ω0.length<=m):∀(r s:Nat) {ω:Om}{ds:List D}{v7 v8 v9 v10:Option D},(∀ n:Nat,n<ω0.length->ω[n]?=ω0[n]?)->ω0.length<=ω.length->BA ω ω0.length m s ds (moR c kn one other)->s+r=c->
  ∃ ω' ds' v7' v8' v9' v10',bR (aY 7) bW cS (qX s r) [wj (.obj h),wj (.int one),wj (.int other),wj (.obj (ks one)),wj (.obj (ks other)),v5,wj (.obj m),v7,v8,v9,v10] ω=wj (.nx [wj (.obj h),wj (.int one),wj (.int other),wj (.obj (ks one)),wj (.obj (ks other)),v5,wj (.obj m),v7',v8',v9',v10'],ω')/\(∀ n:Nat,n<ω0.length->ω'[n]?=ω0[n]?)/\ω0.length<=ω'.length/\BA ω' ω0.length m c ds' (moR c kn one other)
 |0,s,ω,ds,v7,v8,v9,v10,g,gl,M,hs=>by
  have:s=c:=by omega
  subst this;exact⟨ω,ds,v7,v8,v9,v10,rfl,g,gl,M⟩
 |r+1,s,ω,ds,v7,v8,v9,v10,g,gl,M,hs=>by
  obtain⟨M1,M2,M3⟩:=M;have mlt:=dY M1;have g1:∀ n:Nat,n<ω0.length->(ω++[Ob.ml []])[n]?=ω0[n]?:=fun n hn=>by rw[aj (by omega)];exact g n hn
  obtain⟨u9,u10,e1⟩:=rR L c8 h1 h2 (k:=s) (q:=ω.length) (by omega) gl (v0:=wj (.obj h)) (v5:=v5) (v6:=wj (.obj m)) c 0 (ω:=ω++[Ob.ml []]) (v9:=v9) (v10:=v10) g1 (by simp[iv]) (by omega);rw[tT] at e1;have M1':(ω++[Ob.ml (iv (moR c kn one other s))])[m]?=wj (.ml ds):=by rw[aj mlt];exact M1
  obtain⟨ω2,hω2⟩:∃ ω2,ω2=(ω++[Ob.ml (iv (moR c kn one other s))]).set m (.ml (ds++[.obj ω.length])):=⟨_,rfl⟩;have L1:LawAt B (ω++[Ob.ml []]) c h dd oo kk ks rs kn:=L.mono c0 (by simp;omega) g1;have b2:cS [wj (.obj h),wj (.int one),wj (.int other),wj (.obj (ks one)),wj (.obj (ks other)),v5,wj (.obj m),wj (.int s),v8,v9,v10] ω=wj (.nx [wj (.obj h),wj (.int one),wj (.int other),wj (.obj (ks one)),wj (.obj (ks other)),v5,wj (.obj m),wj (.int s),wj (.obj ω.length),u9,u10],ω2):=by
   unfold cS;rw[aM (d:=.obj ω.length) (ω1:=ω++[.ml []]) rfl];refine(bA (fJ (by
    unfold bN;rw[cD (mH (c:=c) (L1.gCount (aB (d:=.obj h) rfl)) (by omega))];exact e1))).trans ?_
   unfold bU;rw[cD (lD (r:=.non) (ω3:=ω2) (aB (d:=.obj m) rfl) M1' (aA (aB (d:=.obj ω.length) rfl) aE) (by
    simp only[lL,M1'];rw[if_pos (by rw[bu];omega),hω2]))]
  have g2:∀ n:Nat,n<ω0.length->ω2[n]?=ω0[n]?:=fun n hn=>by rw[hω2,aH (by omega),aj (by omega)];exact g n hn
  have l2:ω2.length=ω.length+1:=by rw[hω2];simp
  have Md:BA ω2 ω0.length m (s+1) (ds++[.obj ω.length]) (moR c kn one other):=by
   refine⟨by rw[hω2];exact cC M1',by simp[M2],fun j hj=> ?_⟩
   by_cases hjs:j<s
   ·obtain⟨n,a1,a2,a3,a4⟩:=M3 j hjs;refine⟨n,by rw[aj (by omega)];exact a1,?_,a3,a4⟩;rw[hω2,aH a3,aj (dY a2)];exact a2
   ·have:j=s:=by omega
    subst this;refine⟨ω.length,by rw[dc (by omega),M2];simp,?_,by omega,gl⟩;rw[hω2,aH (by omega)];simp
  obtain⟨ω',ds',w7,w8,w9,w10,e2,g3,l3,M4⟩:=rQ L c0 c8 h1 h2 hm (v5:=v5) r (s+1) (v7:=wj (.int s)) (v8:=wj (.obj ω.length)) (v9:=u9) (v10:=u10) g2 (by omega) Md (by omega);refine⟨ω',ds',w7,w8,w9,w10,?_,g3,l3,M4⟩;rw[gG];refine(dZ rfl rfl (b2)).trans ?_;exact e2
theorem CW (e:f ρ ω=wj (.ok d,ω)) (r:RowV ω d xs):oL zI (aC f aP) ρ ω=wj (.ok (.int xs.sum),ω):=by
 refine dD (aA e aE) ?_;have r':fW ω d=wj (iv xs):=r;simp only[zI,r']
 show(kQ (iv xs)).map _=_
 rw[nS];rfl
theorem iQ (L:LawAt B ω0 c h dd oo kk ks rs kn) (c0:0<c) (c8:c<=8) (h1:one<c) (h2:other<c):∃ ω' ks',cY [.obj h,.int one,.int other] ω0=wj (.ok (.int ((moR c kn one other other).sum-(kn other other).sum)),ω')/\LawAt B ω' c h dd oo kk ks' rs (upF kn other (moR c kn one other))/\ω0.length<=ω'.length:=by
 obtain⟨l1,l2,l3,l4,l5⟩:=L.lts;obtain⟨d0,i0,r0⟩:=L.ixRow (ω:=ω0) (fun _ _=>rfl) h2 h2;have g1:∀ n:Nat,n<ω0.length->(ω0++[Ob.ml []])[n]?=ω0[n]?:=fun n hn=>aj hn;have M0:BA (ω0++[Ob.ml []]) ω0.length ω0.length 0 [] (moR c kn one other):=⟨by simp,rfl,fun j hj=>by omega⟩;obtain⟨ω5,ds,v7,v8,v9,v10,e5,g5,ll5,M1,M2,M3⟩:=rQ L c0 c8 h1 h2 (bf ω0.length) (v5:=wj (.int (kn other other).sum)) c 0 (v7:=wk) (v8:=wk) (v9:=wk) (v10:=wk) g1 (by simp) M0 (by omega);have L5:LawAt B ω5 c h dd oo kk ks rs kn:=L.mono c0 ll5 g5;have L1:LawAt B (ω0++[Ob.ml []]) c h dd oo kk ks rs kn:=L.app c0 _;obtain⟨ω6,hω6⟩:∃ ω6,ω6=ω5.set kk (.ml ((bq c).map fun i=>.obj (upF ks other ω0.length i))):=⟨_,rfl⟩;have kset:((bq c).map fun i=>D.obj (ks i)).set other (.obj ω0.length)=(bq c).map fun i=>.obj (upF ks other ω0.length i):=by
  apply jn;intro i
  by_cases hi:i=other
  ·subst hi;rw[dq (by rw[ao,g8];exact h2),ax,d8 h2];show _=wj (D.obj (upF ks i ω0.length i));rw[bF]
  ·rw[fy (bv hi),ax,ax];cases hq:(bq c)[i]? with
   |none=>rfl
   |some j=>
    have hj:j=i:=by
     obtain⟨hlt,e⟩:=bg.mp hq;rw[pi] at e;exact e.symm
    subst hj;show wj (D.obj (ks j))=wj (D.obj (upF ks other ω0.length j));rw[bC hi]
 have moL:∀ k,(moR c kn one other k).length=c:=fun k=>by unfold moR;simp
 have nk:rK ω5 kk:=fun y ys z=>by
  rw[L5.known] at z;injection z with z
  injection z with z
  have:D.int y∈(bq c).map fun i=>D.obj (ks i):=by rw[z];exact aq
  obtain⟨i,_,e⟩:=aw.mp this;cases e
 obtain⟨d1,d2,d3,d4,d5,d6⟩:=L.nd;have L6:LawAt B ω6 c h dd oo kk (upF ks other ω0.length) rs (upF kn other (moR c kn one other)):=by
  rw[hω6];refine⟨?_,?_,?_,cC L5.known,fun i hi=> ?_,fun i j hi hj=> ?_,fun i j hi hj hne=> ?_,fun i hi=> ?_,L.nd,⟨L.low.1,L.low.2.1,L.low.2.2.1,L.low.2.2.2.1,fun i hi=> ?_⟩,⟨by simpa using L5.bas.1,fun n hn=> ?_⟩,L.keys,L.ra⟩
  ·rw[aH d3];exact L5.obj
  ·rw[aH d5];exact L5.deeds
  ·rw[aH d6];exact L5.order
  ·by_cases hio:i=other
   ·subst hio;rw[bF,bF];refine⟨ds,by rw[aH (by omega)];exact M1,M2,fun j hj=> ?_⟩;obtain⟨n,a1,a2,a3,a4⟩:=M3 j hj;exact⟨.obj n,a1,cG (by rw[aH (by omega)];exact a2)⟩
   ·rw[bC hio,bC hio];obtain⟨ds',e,r⟩:=L5.row i hi;exact⟨ds',by rw[aH (L.out i hi).2.2.2];exact e,r.keep (fun d xs hx q=>q.set hx nk) fun j hj=>L.len0 c0 hi hj⟩
  ·by_cases hio:i=other
   ·subst hio;rw[bF];exact moL j
   ·rw[bC hio];exact L.len i j hi hj
  ·by_cases hio:i=other
   ·subst hio;rw[bF,bC (bv hne)]
    have:=l5 j hj
    omega
   ·rw[bC hio]
    by_cases hjo:j=other
    ·subst hjo;rw[bF]
     have:=l5 i hi
     omega
    ·rw[bC hjo];exact L.inj i j hi hj hne
  ·by_cases hio:i=other
   ·subst hio;rw[bF];omega
   ·rw[bC hio];exact L.out i hi
  ·by_cases hio:i=other
   ·subst hio;rw[bF];exact L.bas.1
   ·rw[bC hio];exact L.low.2.2.2.2 i hi
  ·rw[aH (by have:=L.low.2.2.2.1;omega)];exact L5.bas.2 n hn
 refine⟨ω6,upF ks other ω0.length,?_,L6,by rw[hω6];simpa using ll5⟩;refine aT rfl ?_;unfold iR;refine(aM (aK (L.gKnown (aB (d:=.obj h) rfl)) (aB (d:=.int one) rfl) (L.ixKnown h1))).trans ?_;refine(aM (aK (L.gKnown (aB (d:=.obj h) rfl)) (aB (d:=.int other) rfl) (L.ixKnown h2))).trans ?_;refine(aM (CW (aK (aB (d:=.obj (ks other)) rfl) (aB (d:=.int other) rfl) i0) r0)).trans ?_;refine(aM (d:=.obj ω0.length) (ω1:=ω0++[.ml []]) rfl).trans ?_;refine(bA (fJ (by
  unfold bN;rw[cD (mH (c:=c) (L1.gCount (aB (d:=.obj h) rfl)) (by omega))];exact e5))).trans ?_
 refine(bA (eY (ω4:=ω6) (aB (d:=.obj ω0.length) rfl) (L5.gKnown (aB (d:=.obj h) rfl)) (aB (d:=.int other) rfl) (by rw[lY L5.known (by rw[ao,g8];exact h2),kset,hω6]))).trans ?_;obtain⟨n,a1,a2,a3,a4⟩:=M3 other h2;have m6:ω6[ω0.length]?=wj (.ml ds):=by rw[hω6,aH (by omega)];exact M1
 have n6:ω6[n]?=wj (.ml (iv (moR c kn one other other))):=by rw[hω6,aH (by omega)];exact a2
 exact bH (Bm (CW (aK (aB (d:=.obj ω0.length) rfl) (aB (d:=.int other) rfl) (by rw[kK m6];exact tJ a1)) (cG n6)) (aB rfl))
end
theorem DQ {c:Nat} (c8:c<=8):∀(m s:Nat) (u:Option D) (ω:Om),∃(ω':Om) (ks:Nat->Nat),compLO (aY 0) bW (oPT kM) (dJ Hl (oIA jR (aC (oP (aD 1)) aP)) [wk,wj 1] (aY 0) (oPT kM) (o2 zJ (oL (fun ω ds=>pu (fE ds) ω) (aC (oP (dC (.int 0))) aP)) (oP (aD 1)))) (qX s m) [u,wj (.int c)] ω=wj ((cw s m).map fun i=>D.obj (ks i),ω')/\
  (∀ i,s<=i->i<s+m->∃ ds,ω'[ks i]?=wj (.ml ds)/\RowsD ω' c ds (fun _=>ar c 0))/\(∀ i,s<=i->i<s+m->ω.length<=ks i)/\(∀ i,s<=i->i<s+m->∀ j,s<=j->j<s+m->i≠j->ks i≠ks j)/\Keep [] ω ω'
 |0,s,u,ω=>⟨ω,fun _=>0,rfl,fun i h1 h2=>by omega,fun i h1 h2=>by omega,fun i h1 h2=>by omega,Keep.refl _ _⟩
 |m+1,s,u,ω=>by
  have fill:=zO c8 (qX 0 c) wk ω;rw[fZ] at fill;obtain⟨ω1,hω1⟩:∃ ω1,ω1=ω++ar c (Ob.ml (iv (ar c 0))):=⟨_,rfl⟩;rw[<- hω1] at fill;have l1:ω1.length=ω.length+c:=by rw[hω1];simp
  have one:dJ Hl (oIA jR (aC (oP (aD 1)) aP)) [wk,wj 1] (aY 0) (oPT kM) (o2 zJ (oL (fun ω ds=>pu (fE ds) ω) (aC (oP (dC (.int 0))) aP)) (oP (aD 1))) [wj (.int s),wj (.int c)] ω=wj (.ok (.obj ω1.length),ω1++[.ml ((cw ω.length c).map D.obj)]):=oS (mH (c:=c) (aB rfl) (by omega)) (by rw[fZ,bu];omega) fill;obtain⟨ω2,hω2⟩:∃ ω2,ω2=ω1++[Ob.ml ((cw ω.length c).map D.obj)]:=⟨_,rfl⟩;rw[<- hω2] at one;have l2:ω2.length=ω.length+c+1:=by rw[hω2];simp[l1]
  have k2:∀ n:Nat,n<ω.length->ω2[n]?=ω[n]?:=fun n hn=>by rw[hω2,aj (by omega),hω1,aj hn]
  have d2:ω2[ω1.length]?=wj (.ml ((cw ω.length c).map D.obj)):=by rw[hω2];simp
  have r2:∀ j,j<c->ω2[ω.length+j]?=wj (.ml (iv (ar c 0))):=fun j hj=>by
   rw[hω2,aj (by omega),hω1,dc (by omega),fm,if_pos (by omega)]
  obtain⟨ω3,ks,e3,R3,F3,A3,K3⟩:=DQ c8 m (s+1) (wj (.int s)) ω2;have g3:∀ n:Nat,n<ω2.length->ω3[n]?=ω2[n]?:=fun n hn=>K3.2 n hn (by simp);refine⟨ω3,upF ks s ω1.length,?_,fun i h1 h2=> ?_,fun i h1 h2=> ?_,fun i h1 h2 j h3 h4 hne=> ?_,⟨by have:=K3.1;omega,fun n hn _=> ?_⟩⟩
  ·rw[gG];refine(qF rfl rfl (one)).trans ?_
   show(compLO _ _ _ _ (qX ((s+1:Nat):Int) m) _ _).map _=_
   rw[e3,j5,bh];show wj (_::_,_)=_
   congr 3
   ·rw[bF]
   ·apply hV;intro i hi;rw[my] at hi;rw[bC (by omega)]
  ·by_cases hi:i=s
   ·subst hi;rw[bF];refine⟨_,by rw[g3 _ (by omega)];exact d2,by simp,fun j hj=>⟨.obj (ω.length+j),?_,cG (by rw[g3 _ (by omega)];exact r2 j hj)⟩⟩;rw[ax,List.getElem?_range' hj];simp
   ·rw[bC hi];exact R3 i (by omega) (by omega)
  ·by_cases hi:i=s
   ·subst hi;rw[bF];omega
   ·rw[bC hi]
    have:=F3 i (by omega) (by omega)
    omega
  ·by_cases hi:i=s
   ·subst hi;rw[bF,bC (bv hne)]
    have:=F3 j (by omega) (by omega)
    omega
   ·rw[bC hi]
    by_cases hj:j=s
    ·subst hj;rw[bF]
     have:=F3 i (by omega) (by omega)
     omega
    ·rw[bC hj];exact A3 i (by omega) (by omega) j (by omega) (by omega) hne
  ·rw[g3 n (by omega)];exact k2 n hn
theorem Cc {c:Nat} (c0:0<c) (c8:c<=8) (ω:Om):∃ ω' h dd oo kk ks,oK [.int c] ω=wj (.ok (.obj h),ω')/\LawAt ω ω' c h dd oo kk ks [] (fun _ _=>ar c 0):=by
 obtain⟨ω2,hω2⟩:∃ ω2:Om,ω2=ω++[Ob.dk [(.inr "count",.int c),(.inr "deeds",.obj (ω.length+1)),(.inr "order",.obj (ω.length+2))],.dt [],.ml []]:=⟨_,rfl⟩;have l2:ω2.length=ω.length+3:=by rw[hω2];simp
 have h2:ω2[ω.length]?=wj (.dk [(.inr "count",.int c),(.inr "deeds",.obj (ω.length+1)),(.inr "order",.obj (ω.length+2))]):=by rw[hω2];simp
 have d2:ω2[ω.length+1]?=wj (.dt []):=by rw[hω2,dc (by omega)];simp
 have o2':ω2[ω.length+2]?=wj (.ml []):=by rw[hω2,dc (by omega)];simp
 have k2:∀ n:Nat,n<ω.length->ω2[n]?=ω[n]?:=fun n hn=>by rw[hω2,aj hn]
 have disp:BU [("count",(oP (aD 0))),("deeds",uB),("order",(oL GT aP))] (cF jB [.int c]) ω=wj (.ok (.obj ω.length),ω2):=by
  unfold BU;have e:oVs [oP (aD 0),uB,oL GT aP] (cF jB [.int c]) (ω++[.dk []])=wj (.ok [.int c,.obj (ω.length+1),.obj (ω.length+2)],ω++[Ob.dk [],.dt [],.ml []]):=by
   refine aA (aB (d:=.int c) rfl) (aA (a:=.obj (ω.length+1)) (ω1:=ω++[Ob.dk [],.dt []]) (by
    show wj (Rz.ok (D.obj (ω++[Ob.dk []]).length),(ω++[Ob.dk []])++[Ob.dt []])=_;simp) (aA (a:=.obj (ω.length+2)) (ω1:=ω++[Ob.dk [],.dt [],.ml []]) (by
    show wj (Rz.ok (D.obj (ω++[Ob.dk [],Ob.dt []]).length),(ω++[Ob.dk [],Ob.dt []])++[Ob.ml []])=_;simp) aE))
  show(match oVs [oP (aD 0),uB,oL GT aP] (cF jB [.int c]) (ω++[.dk []]) with
   |none=>wk
   |some (.ex c,ω2)=>wj (Rz.ex c,ω2)
   |some (.ok ds,ω2)=>if 3<=15/\Cj ω2 ω.length=true then wj (Rz.ok (D.obj ω.length),ω2.set ω.length (.dk (HB [(.inr "count":Key),.inr "deeds",.inr "order"] ds))) else wk)=_
  rw[e]
  show(if 3<=15/\Cj (ω++[Ob.dk [],.dt [],.ml []]) ω.length=true then wj (Rz.ok (D.obj ω.length),(ω++[Ob.dk [],.dt [],.ml []]).set ω.length (.dk [((.inr "count":Key),D.int c),(.inr "deeds",.obj (ω.length+1)),(.inr "order",.obj (ω.length+2))])) else wk)=_
  rw[if_pos ⟨by decide,by unfold Cj;simp⟩,hω2];simp
 obtain⟨ω3,ks,e3,R3,F3,A3,K3⟩:=DQ c8 c 0 wk ω2;have g3:∀ n:Nat,n<ω2.length->ω3[n]?=ω2[n]?:=fun n hn=>K3.2 n hn (by simp);have l3:=K3.1;obtain⟨ω4,hω4⟩:∃ ω4,ω4=ω3++[Ob.ml ((bq c).map fun i=>.obj (ks i))]:=⟨_,rfl⟩;have k4:ω4[ω3.length]?=wj (.ml ((bq c).map fun i=>.obj (ks i))):=by rw[hω4];simp
 have g4:∀ n:Nat,n<ω3.length->ω4[n]?=ω3[n]?:=fun n hn=>by rw[hω4,aj hn]
 obtain⟨ω5,hω5⟩:∃ ω5,ω5=ω4.set ω.length (.dk [(.inr "count",.int c),(.inr "deeds",.obj (ω.length+1)),(.inr "order",.obj (ω.length+2)),(.inr "known",.obj ω3.length)]):=⟨_,rfl⟩;have h4:ω4[ω.length]?=wj (.dk [(.inr "count",.int c),(.inr "deeds",.obj (ω.length+1)),(.inr "order",.obj (ω.length+2))]):=by rw[g4 _ (by omega),g3 _ (by omega)];exact h2
 have nrh:rK ω4 ω.length:=fun y ys z=>by rw[h4] at z;cases z
 refine⟨ω5,ω.length,ω.length+1,ω.length+2,ω3.length,ks,?_,?_⟩
 ·refine aT rfl ?_;unfold wZ;refine(aM disp).trans ?_;refine(bA (eY (v:=.obj ω3.length) (ω1:=ω4) (o:=.obj ω.length) (i:=.str "known") (ω4:=ω5) (by
   have:=oS (fi:=oIA jR (aC (oP (aD 0)) aP)) (caps:=[wk,wj 0]) (ρ:=(cF jB [.int c]).set 1 (wj (.obj ω.length))) (ω:=ω2) (mH (c:=c) (aB rfl) (by omega)) (by rw[fZ,bu];omega) e3
   rw[<- tu,<- hω4] at this;exact this) (aB rfl) aU (by
   simp only[mU,h4]
   show(if 3<sizeLine then wj (ω4.set ω.length (.dk [((.inr "count":Key),D.int c),(.inr "deeds",.obj (ω.length+1)),(.inr "order",.obj (ω.length+2)),(.inr "known",.obj ω3.length)])) else wk)=_
   rw[if_pos (by rw[bu];decide),hω5]))).trans ?_
  exact bH (aB rfl)
 ·have lks:∀ i,i<c->ω.length+3<=ks i:=fun i hi=>by have:=F3 i (by omega) (by omega);omega
  have ltk:∀ i,i<c->ks i<ω3.length:=fun i hi=>by
   obtain⟨ds,e,_⟩:=R3 i (by omega) (by omega);exact dY e
  rw[hω5];refine⟨cC h4,?_,?_,?_,fun i hi=> ?_,fun i j hi hj=>by simp,fun i j hi hj hne=>A3 i (by omega) (by omega) j (by omega) (by omega) hne,fun i hi=> ?_,⟨by omega,by omega,by omega,by omega,by omega,by omega⟩,⟨by omega,by omega,by omega,by omega,fun i hi=>by have:=lks i hi;omega⟩,⟨?_,fun n hn=> ?_⟩,by simp,fun r hr=>by simp at hr⟩
  ·rw[aH (by omega),g4 _ (by omega),g3 _ (by omega)];exact d2
  ·rw[aH (by omega),g4 _ (by omega),g3 _ (by omega)];exact o2'
  ·rw[aH (by omega)];exact k4
  ·obtain⟨ds,e,r⟩:=R3 i (by omega) (by omega)
   have:=lks i hi
   refine⟨ds,by rw[aH (by omega),g4 _ (dY e)];exact e,r.keep (fun d xs hx q=>RowV.set (q.keep fun n z=>by rw[g4 n (dY z)];exact z) hx nrh) fun j hj z=> ?_⟩
   have:(ar c (0:Int)).length=0:=by rw[z];rfl
   simp at this;omega
  ·have:=lks i hi
   have:=ltk i hi
   omega
  ·rw[ci,hω4];simp;omega
  ·rw[aH (by omega),g4 _ (by omega),g3 _ (by omega)];exact k2 n hn
theorem sC:∀ {l m:List α},l.Nodup->m.Nodup->(∀ x,x∈l↔x∈m)->l.Perm m
 |[],m,_,_,h=>by
  cases m with
  |nil=>exact .refl _
  |cons y m=>exact absurd ((h y).mpr aq) (by simp)
 |x::l,m,h1,h2,h=>by
  obtain⟨s,t,rfl⟩:=List.append_of_mem ((h x).mp aq);have nd:=h2;rw[b0] at h1;have pm:(s++x::t).Perm (x::(s++t)):=List.perm_middle;have nd2:=pm.nodup_iff.mp nd;rw[b0] at nd2;refine(List.Perm.cons x (sC h1.2 nd2.2 fun y=>⟨fun hy=> ?_,fun hy=> ?_⟩)).trans pm.symm
  ·have:y∈x::(s++t):=pm.mem_iff.mp ((h y).mp (ag _ hy))
   rcases ai.mp this with z|z
   ·exact absurd (z ▸ hy) h1.1
   ·exact z
  ·have:y∈x::l:=(h y).mpr (pm.mem_iff.mpr (ag _ hy))
   rcases ai.mp this with z|z
   ·exact absurd (z ▸ hy) nd2.1
   ·exact z
noncomputable def EntsOk (ds:List D):Prop:=(∀ d∈ds,fA d)/\(ds.map aV).Nodup
theorem EM (ha:fA a) (hb:fA b) (h:aV a≠aV b):dX 4 a b=wj true∨dX 4 b a=wj true:=by
 obtain⟨x,p,q,v,rfl⟩:=ha;obtain⟨x',p',q',v',rfl⟩:=hb;rw[AU,AU];unfold eLt
 by_cases hx:x=x'
 ·have:¬(p=p'/\q=q'):=fun z=>h (by unfold aV;rw[z.1,z.2])
  subst hx
  have:mLt p q p' q'∨mLt p' q' p q:=by unfold mLt;omega
  rcases this with z|z
  ·exact .inl (.inr ⟨rfl,.inl z⟩)
  ·exact .inr (.inr ⟨rfl,.inl z⟩)
 ·rcases Dg hx with z|z
  ·exact .inl (.inl z)
  ·exact .inr (.inl z)
theorem xJ (ha:fA a) (hb:fA b) (hc:fA c) (h1:dX 4 a b=wj true) (h2:dX 4 b c=wj true):dX 4 a c=wj true:=by
 obtain⟨x,p,q,v,rfl⟩:=ha;obtain⟨x',p',q',v',rfl⟩:=hb;obtain⟨x2,p2,q2,v2,rfl⟩:=hc;rw[AU] at*;exact EN h1 h2
theorem EntsOk.sorted (h:EntsOk ds) (hs:eD 4 ds=wj out):out.Pairwise fun a b=>dX 4 a b=wj true:=by
 have gm:∀ i,i<ds.length->ds.getD i .non∈ds/\ds[i]?=wj (ds.getD i .non):=fun i hi=>by
  rw[au,bi hi];exact⟨ja hi,rfl⟩
 refine CZ hs (fun i j hi hj hne=> ?_) fun a ha b hb c hc=>xJ (h.1 a ha) (h.1 b hb) (h.1 c hc);refine EM (h.1 _ (gm i hi).1) (h.1 _ (gm j hj).1) fun z=>hne ?_;have pw:=lw.mp h.2;have hi':i<(ds.map aV).length:=by simpa using hi
 have hj':j<(ds.map aV).length:=by simpa using hj
 have ei:(ds.map aV)[i]=aV (ds.getD i .non):=by
  rw[vd,au,bi hi];rfl
 have ej:(ds.map aV)[j]=aV (ds.getD j .non):=by
  rw[vd,au,bi hj];rfl
 rcases Nat.lt_trichotomy i j with q|q|q
 ·exact absurd (by rw[ei,ej,z]) (pw i j hi' hj' q)
 ·exact q
 ·exact absurd (by rw[ei,ej,z]) (pw j i hj' hi' q)
theorem Hs (ha:fA a) (hb:fA b) (h1:dX 4 a b=wj true) (h2:dX 4 b a=wj true):False:=by
 have:=xJ ha hb ha h1 h2
 obtain⟨x,p,q,v,rfl⟩:=ha;rw[AU] at this;unfold eLt mLt at this;rcases this with z|⟨_,z⟩
 ·exact rZ _ z
 ·omega
theorem CY (h:EntsOk ds) (hp:ds.Perm ds') (hs:eD 4 ds=wj o) (hs':eD 4 ds'=wj o') (p1:o.Perm ds) (p2:o'.Perm ds'):o=o':=by
 have h':EntsOk ds':=⟨fun d hd=>h.1 d (hp.mem_iff.mpr hd),(hp.map aV).nodup_iff.mp h.2⟩;have s1:=h.sorted hs;have s2:=h'.sorted hs';have s1':o.Pairwise fun a b=>fA a/\fA b/\dX 4 a b=wj true:=s1.imp_of_mem fun {a b} ha hb q=>⟨h.1 a (p1.mem_iff.mp ha),h.1 b (p1.mem_iff.mp hb),q⟩;have s2':o'.Pairwise fun a b=>fA a/\fA b/\dX 4 a b=wj true:=s2.imp_of_mem fun {a b} ha hb q=>⟨h'.1 a (p2.mem_iff.mp ha),h'.1 b (p2.mem_iff.mp hb),q⟩;exact mJ (fun a b x y=>Hs x.1 x.2.1 x.2.2 y.2.2) (p1.trans (hp.trans p2.symm)) s1' s2'
section
variable {c:Nat}{own:Nat->Nat}{rs:List Rec}{row:List Int}
theorem rS (row:List Int):∀ {rs:List Rec},(rs.map Rec.key).Nodup->((bB rs row).map aV).Nodup
 |[],_=>by simp[bB]
 |r::rs,h=>by
  rw[bh,b0] at h;have ih:=rS row (rs:=rs) h.2;unfold bB at ih ⊢
  by_cases hs:cV row r=true
  ·rw[da hs];cases he:r.ent with
   |none=>rw[List.filterMap_cons_none he];exact ih
   |some d=>
    rw[List.filterMap_cons_some he,bh,b0];refine⟨fun z=>h.1 ?_,ih⟩;obtain⟨d',hd',e⟩:=aw.mp z;obtain⟨r',hr',e'⟩:=gs.mp hd';have key:∀ {r:Rec}{d:D},r.ent=wj d->aV d=r.key:=fun {r d} q=>by
     unfold Rec.ent at q;cases hp:r.put with
     |none=>rw[hp] at q;cases q
     |some p=>rw[hp] at q;cases q;rfl
    rw[<- key he,<- e,key e'];exact aw.mpr ⟨r',(b8.mp hr').1,rfl⟩
  ·rw[c9 hs];exact ih
theorem wH (R:uX c own rs) (row:List Int):EntsOk (eI rs row):=by
 refine⟨fun d hd=> ?_,(rS row R.keys).sublist (j9.map _)⟩;obtain⟨a,b,x,v,rfl,_⟩:=vT R (b8.mp hd).1;exact⟨x,a,b,v,rfl⟩
theorem nG (R:uX c own rs):rs.length<=tot c own:=by
 have:=nI R.keys (m:=univ c own) fun k hk=>by
  obtain⟨r,hr,rfl⟩:=aw.mp hk
  have:=R.inn r hr
  exact KeyIn.univ ⟨r.a,r.b,this.1,this.2.1,this.2.2,rfl⟩
 rw[tM,ao] at this;exact this
theorem BO (R:uX c own rs) (ht:tot c own<64) (row:List Int):∃ out,eD 4 (eI rs row)=wj out/\out.Perm (eI rs row):=by
 have E:=wH R row;have hl:(eI rs row).length<64:=by
  have h1:(eI rs row).length<=(bB rs row).length:=dy ..;have h2:(bB rs row).length<=rs.length:=cf (mm ..) (dy ..);have h3:=nG R;omega
 refine tR hl ?_ fun a ha b hb=>Ir (E.1 a ha) (E.1 b hb);unfold iN;rw[ik];right;rw[ff];intro d hd;rw[Bo (E.1 d hd)];rfl
theorem Hd.Ok.entsOk {hd:Hd} (W:hd.Ok c):EntsOk (hd.table.map (·.2)):=⟨W.ent,by rw[W.keys];exact W.tn⟩
theorem lB {ds:List D} (h:(ds.map aV).Nodup):ds.Nodup:=by
 induction ds with
 |nil=>exact vv
 |cons d r ih=>
  rw[bh,b0] at h;rw[b0];exact⟨fun z=>h.1 (aw.mpr ⟨d,z,rfl⟩),ih h.2⟩
theorem xI {hd:Hd} (W:hd.Ok c) (R:uX c own rs) (ht:tot c own<64) (h:∀ e,e∈hd.table.map (·.2)↔e∈eI rs row):eD 4 (eI rs row)=wj hd.ents:=by
 obtain⟨out,e1,p1⟩:=BO R ht row;rw[e1];have E:=wH R row;have pm:(hd.table.map (·.2)).Perm (eI rs row):=sC (lB W.entsOk.2) (lB E.2) h;rw[CY W.entsOk pm W.ents.1 e1 W.ents.2 p1]
end
theorem wE (f:Nat->α) (c i:Nat) (x:α):((bq c).map f).set i x=(bq c).map (upF f i x):=by
 apply jn;intro j
 by_cases h:j=i
 ·subst h
  by_cases hj:j<c
  ·rw[dq (by rw[ao,g8];exact hj),ax,d8 hj];show _=wj (upF f j x j);rw[bF]
  ·rw[cy (by simp;omega),cy (by simp;omega)]
 ·rw[fy (bv h),ax,ax];cases hq:(bq c)[j]? with
  |none=>rfl
  |some k=>
   have hk:k=j:=by
    obtain⟨hlt,e⟩:=bg.mp hq;rw[pi] at e;exact e.symm
   subst hk;show wj (f k)=wj (upF f i x k);rw[bC h]
theorem nL {xs ys:List Int} (h1:xs.length=c) (h2:ys.length=c) (h:∀ j,j<c->xs.getD j 0=ys.getD j 0):xs=ys:=by
 apply List.ext_getElem (by omega);intro j hj hj'
 have:=h j (by omega)
 rw[au,au,bi hj,bi hj'] at this;exact this
theorem sP {f:Nat->Int} (h:j<c):((bq c).map f).getD j 0=f j:=by
 rw[au,ax,d8 h];rfl
theorem gE {r:Rec} (q:r.ent=wj d):aV d=r.key:=by
 unfold Rec.ent at q;cases hp:r.put with
 |none=>rw[hp] at q;cases q
 |some p=>rw[hp] at q;cases q;rfl
structure Rel (c:Nat) (own:Nat->Nat) (S:Nat->Hd) (rs:List Rec) (kn:Nat->Nat->List Int):Prop where
 knows:∀ i,i<c->(S i).knows=(bq c).map (kn i)
 recs:uX c own rs
 tab:∀ i,i<c->∀ e,e∈(S i).table.map (·.2)↔e∈eI rs (kn i i)
 clo:∀ i,i<c->∀ r∈rs,cV (kn i i) r=true->∀ q∈r.outs,fX (kn i i) q=true
 le:∀ i j,i<c->j<c->∀ t,t<c->(kn i j).getD t 0<=(kn j j).getD t 0
section
variable {c:Nat}{own:Nat->Nat}{S:Nat->Hd}{rs:List Rec}{kn:Nat->Nat->List Int}{i j a:Nat}
theorem Rel.seen (Q:Rel c own S rs kn) (hi:i<c):(S i).seen i=kn i i:=by
 unfold Hd.seen;rw[Q.knows i hi,au,ax,d8 hi];rfl
theorem Rel.row (Q:Rel c own S rs kn) (I:HInv c own S) (hi:i<c) (hj:j<c):kn i j∈(S i).knows/\(kn i j).length=c:=by
 have hm:kn i j∈(S i).knows:=by
  rw[Q.knows i hi];exact aw.mpr ⟨j,ie.mpr hj,rfl⟩
 exact⟨hm,(I i hi).1.row _ hm⟩
theorem Rel.ownE (Q:Rel c own S rs kn) (I:HInv c own S) (hi:i<c):(kn i i).getD i 0=own i:=by rw[<- Q.seen hi];exact(I i hi).2
theorem mem_pres:e∈eI rs row↔(∃ r∈rs,cV row r=true/\r.ent=wj e)/\∀ r∈rs,cV row r=true->aV e∉r.outs:=by
 unfold eI bB dP;rw[b8];constructor
 ·rintro⟨h1,h2⟩
  obtain⟨r,hr,he⟩:=gs.mp h1;have hr':=b8.mp hr;refine⟨⟨r,hr'.1,hr'.2,he⟩,fun q hq hs z=> ?_⟩
  have:Gy (aV e) ((rs.filter (cV row)).flatMap (·.outs))=true:=memK_iff.mpr (n8.mpr ⟨q,b8.mpr ⟨hq,hs⟩,z⟩)
  rw[this] at h2;cases h2
 ·rintro⟨⟨r,hr,hs,he⟩,h2⟩
  refine⟨gs.mpr ⟨r,b8.mpr ⟨hr,hs⟩,he⟩,?_⟩;cases hm:Gy (aV e) ((rs.filter (cV row)).flatMap (·.outs)) with
  |false=>rfl
  |true=>
   obtain⟨q,hq,z⟩:=n8.mp (memK_iff.mp hm);have hq':=b8.mp hq;exact absurd z (h2 q hq'.1 hq'.2)
theorem Rel.note (Q:Rel c own S rs kn) (I:HInv c own S) (ha:a<c) (r1:r.a=a) (r2:r.b=own a+1) (ro:r.outs.length<64) (rk:∀ q∈r.outs,KeyIn c own q) (rs':∀ q∈r.outs,fX (kn a a) q=true)
  (k1:hd'.knows=(S a).knows.set a ((kn a a).set a r.b)) (t1:∀ e,e∈hd'.table.map (·.2)↔(e∈(S a).table.map (·.2)∨r.ent=wj e)/\aV e∉r.outs):
  Rel c (dG own a) (mG S a hd') (rs++[r]) (upF kn a (upF (kn a) a ((kn a a).set a r.b))):=by
 have len:=(Q.row I ha ha).2;have oe:=Q.ownE I ha;have bo:dG own a a=own a+1:=by unfold dG;rw[if_pos rfl]
 have le':=iB own a
 -- what is seen
 have s1:∀ q∈rs,cV ((kn a a).set a r.b) q=cV (kn a a) q:=fun q hq=>by
  unfold cV;rw[fD _ _ _ _ (by omega)]
  by_cases h:q.a=a
  ·rw[if_pos h,h,oe]
   have:=Q.recs.inn q hq
   rw[h] at this;rw[decide_eq_true (by omega),decide_eq_true (by omega)]
  ·rw[if_neg h]
 have s2:cV ((kn a a).set a r.b) r=true:=by
  unfold cV;rw[fD _ _ _ _ (by omega),if_pos r1];exact decide_eq_true (ln _)
 have s3:∀ i,i<c->i≠a->cV (kn i i) r=false:=fun i hi hne=>by
  unfold cV;refine decide_eq_false fun z=> ?_
  have:=((I i hi).1.kb _ (Q.row I hi hi).1 a ha).2
  rw[r1] at z;omega
 have sk:∀ q,fX (kn a a) q=true->fX ((kn a a).set a r.b) q=true:=fun q hq=>by
  unfold fX at hq ⊢;split at hq
  ·rename_i x y
   have hq':=of_decide_eq_true hq;refine decide_eq_true ?_;rw[fD _ _ _ _ (by omega)]
   by_cases h:x.toNat=a
   ·rw[if_pos h];rw[h,oe] at hq';omega
   ·rw[if_neg h];exact hq'
  ·cases hq
 have nk:r.key∉rs.map Rec.key:=fun z=>by
  obtain⟨q,hq,e⟩:=aw.mp z
  have:=Q.recs.inn q hq
  unfold Rec.key gD at e;simp at e;have e1:q.a=a:=by omega
  rw[e1] at this;omega
 refine⟨fun i hi=> ?_,⟨?_,fun q hq=> ?_,fun q hq=> ?_⟩,fun i hi e=> ?_,fun i hi q hq hs x hx=> ?_,fun i j hi hj t ht=> ?_⟩
 ·by_cases h:i=a
  ·subst h;rw[iK,k1,Q.knows i hi,wE,bF]
  ·rw[iJ h,bC h];exact Q.knows i hi
 ·rw[c6,jo];refine⟨Q.recs.keys,by simp,fun x hx y hy z=>nk ?_⟩
  have:y=r.key:=by simpa using hy
  rw[<- this,<- z];exact hx
 ·rcases cz.mp hq with z|z
  ·have:=Q.recs.inn q z
   exact⟨this.1,this.2.1,cf this.2.2 (le' _)⟩
  ·rw[fe.mp z,r1,r2,bo];omega
 ·rcases cz.mp hq with z|z
  ·exact⟨(Q.recs.outs q z).1,fun x hx=>((Q.recs.outs q z).2 x hx).mono le'⟩
  ·rw[fe.mp z];exact⟨ro,fun x hx=>(rk x hx).mono le'⟩
 ·by_cases h:i=a
  ·subst h;rw[iK,bF,bF,t1,Q.tab i hi,mem_pres,mem_pres];constructor
   ·rintro⟨h1,h2⟩
    refine⟨?_,fun q hq hs=> ?_⟩
    ·rcases h1 with⟨⟨q,hq,hs,he⟩,_⟩|h1
     ·exact⟨q,dn _ hq,by rw[s1 q hq];exact hs,he⟩
     ·exact⟨r,by simp,s2,h1⟩
    ·rcases cz.mp hq with z|z
     ·rcases h1 with⟨_,h3⟩|h1
      ·exact h3 q z (by rw[<- s1 q z];exact hs)
      ·intro w
       have:=((Q.recs.outs q z).2 _ w)
       rw[gE h1] at this;obtain⟨x,y,g1,g2,g3,e⟩:=this;unfold Rec.key gD at e;simp at e
       have:x=i:=by omega
       rw[this] at g3;omega
     ·rw[fe.mp z];exact h2
   ·rintro⟨⟨q,hq,hs,he⟩,h2⟩
    refine⟨?_,h2 r (by simp) s2⟩;rcases cz.mp hq with z|z
    ·exact .inl ⟨⟨q,z,by rw[<- s1 q z];exact hs,he⟩,fun p hp hps=>h2 p (dn _ hp) (by rw[s1 p hp];exact hps)⟩
    ·rw[fe.mp z] at he;exact .inr he
  ·rw[iJ h,bC h,Q.tab i hi,mem_pres,mem_pres];constructor
   ·rintro⟨⟨q,hq,hs,he⟩,h2⟩
    refine⟨⟨q,dn _ hq,hs,he⟩,fun p hp hps=> ?_⟩;rcases cz.mp hp with z|z
    ·exact h2 p z hps
    ·rw[fe.mp z,s3 i hi h] at hps;cases hps
   ·rintro⟨⟨q,hq,hs,he⟩,h2⟩
    refine⟨?_,fun p hp hps=>h2 p (dn _ hp) hps⟩;rcases cz.mp hq with z|z
    ·exact⟨q,z,hs,he⟩
    ·rw[fe.mp z,s3 i hi h] at hs;cases hs
 ·by_cases h:i=a
  ·subst h;rw[bF,bF] at hs ⊢;rcases cz.mp hq with z|z
   ·exact sk _ (Q.clo i hi q z (by rw[<- s1 q z];exact hs) x hx)
   ·rw[fe.mp z] at hx;exact sk _ (rs' x hx)
  ·rw[bC h] at hs ⊢;rcases cz.mp hq with z|z
   ·exact Q.clo i hi q z hs x hx
   ·rw[fe.mp z,s3 i hi h] at hs;cases hs
 ·have grow:∀ t,(kn a a).getD t 0<=((kn a a).set a (r.b:Int)).getD t 0:=fun t=>by
   rw[fD _ _ _ _ (by omega)]
   by_cases h:t=a
   ·rw[if_pos h,h,oe];omega
   ·rw[if_neg h];exact ln _
  by_cases h:i=a
  ·subst h;rw[bF]
   by_cases h2:j=i
   ·subst h2;simp only[bF];exact ln _
   ·rw[bC h2,bC h2];exact Q.le i j hi hj t ht
  ·rw[bC h]
   by_cases h2:j=a
   ·subst h2;rw[bF,bF];exact Int.le_trans (Q.le i j hi hj t ht) (grow t)
   ·rw[bC h2];exact Q.le i j hi hj t ht
end
theorem FR {k:List Key}:(k,v)∈putD T k v:=by
 unfold putD;split
 ·rename_i h
  obtain⟨p,hp,e⟩:=nv.mp h;have e':=of_decide_eq_true e;exact aw.mpr ⟨p,hp,by rw[if_pos e',e']⟩
 ·simp
theorem BN {p:List Key×D} (hp:p∈T) (h:p.1≠k∨p.2=v):p∈putD T k v:=by
 unfold putD;split
 ·refine aw.mpr ⟨p,hp,?_⟩
  by_cases e:p.1=k
  ·rw[if_pos e];rcases h with z|z
   ·exact absurd e z
   ·rw[<- z]
  ·rw[if_neg e]
 ·exact dn _ hp
theorem nX:∀ {out:List D}{T:List (List Key×D)}{d:D},(∀ d'∈out,aV d=aV d'->d=d')->(aV d,d)∈T->(aV d,d)∈nY out T
 |[],_,_,_,h=>h
 |x::out,T,d,hu,h=>by
  refine nX (out:=out) (fun d' hd'=>hu d' (ag _ hd')) (BN h ?_)
  by_cases e:aV d=aV x
  ·exact .inr (hu x aq e)
  ·exact .inl e
theorem vU:∀ {out:List D}{T:List (List Key×D)}{d:D},(∀ d'∈out,aV d=aV d'->d=d')->d∈out->(aV d,d)∈nY out T
 |[],_,_,_,h=>by simp at h
 |x::out,T,d,hu,h=>by
  rcases ai.mp h with rfl|h
  ·exact nX (out:=out) (fun d' hd'=>hu d' (ag _ hd')) FR
  ·exact vU (out:=out) (fun d' hd'=>hu d' (ag _ hd')) h
theorem BG (hu:∀ d∈out,∀ d'∈out,aV d=aV d'->d=d') (e:D):e∈(nY out []).map (·.2)↔e∈out:=by
 constructor
 ·intro h;obtain⟨p,hp,rfl⟩:=aw.mp h;rcases nW hp with z|⟨d,hd,rfl⟩
  ·simp at z
  ·exact hd
 ·exact fun h=>aw.mpr ⟨(aV e,e),vU (hu e h) h,rfl⟩
section
variable {c:Nat}{own:Nat->Nat}{S:Nat->Hd}{rs:List Rec}{kn:Nat->Nat->List Int}{one other:Nat}
theorem Ay {f:List Int->List Int->List Int}:∀ l:List Nat,br f (l.map p) (l.map q)=l.map fun k=>f (p k) (q k)
 |[]=>rfl
 |x::l=>by
  rw[bh,bh,jc,Ay l,bh]
theorem Ea:∀ {rs:List Rec}{r r':Rec},(rs.map Rec.key).Nodup->r∈rs->r'∈rs->r.key=r'.key->r=r'
 |[],_,_,_,hr,_,_=>by simp at hr
 |x::l,r,r',nd,hr,hr',hk=>by
  rw[bh,b0] at nd;rcases ai.mp hr with z|z
  ·rcases ai.mp hr' with w|w
   ·rw[z,w]
   ·exact absurd (aw.mpr ⟨r',w,by rw[<- hk,z]⟩) nd.1
  ·rcases ai.mp hr' with w|w
   ·exact absurd (aw.mpr ⟨r,z,by rw[hk,w]⟩) nd.1
   ·exact Ea nd.2 z w hk
theorem oH (row:List Int) (r:Rec):fX row r.key=cV row r:=by
 show decide ((r.b:Int)<=row.getD (r.a:Int).toNat 0)=_;rw[c7];rfl
theorem Rel.hear (Q:Rel c own S rs kn) (I:HInv c own S) (c0:0<c) (c8:c<=8) (ht:tot c own<64) (h1:one<c) (h2:other<c) (hne:one≠other):Rel c own (jP S one other) rs (upF kn other (moR c kn one other)):=by
 have lenK:∀ i j,i<c->j<c->(kn i j).length=c:=fun i j hi hj=>(Q.row I hi hj).2;have moL:∀ k,(moR c kn one other k).length=c:=fun k=>by unfold moR;simp
 have moG:∀ k t,t<c->(moR c kn one other k).getD t 0=mo kn one other k t:=fun k t ht=>sP ht;have W1:=(I one h1).1;have W2:=(I other h2).1;have O1:=W1.ok c0 c8 ht;have O2:=W2.ok c0 c8 ht
 -- the row of what is seen
 have J:moR c kn one other other=br mx (kn other other) (kn one one):=by
  refine nL (moL other) (by rw[fj,lenK _ _ h2 h2,lenK _ _ h1 h1,i4]) fun t htc=> ?_;rw[moG other t htc,vM (by rw[lenK _ _ h2 h2];exact htc) (by rw[lenK _ _ h1 h1];exact htc)]
  have:=Q.le one other h1 h2 t htc
  unfold mo;rw[if_pos rfl];unfold mx;omega
 have Jg:∀ t,t<c->(moR c kn one other other).getD t 0=mx ((kn other other).getD t 0) ((kn one one).getD t 0):=fun t htc=>by
  rw[J,vM (by rw[lenK _ _ h2 h2];exact htc) (by rw[lenK _ _ h1 h1];exact htc)]
 have sJ:∀ r∈rs,(cV (moR c kn one other other) r=true↔cV (kn other other) r=true∨cV (kn one one) r=true):=fun r hr=>by
  have hra:=(Q.recs.inn r hr).1;unfold cV;rw[Jg r.a hra];simp only[decide_eq_true_eq];unfold mx;omega
 have sKJ:∀ q,KeyIn c own q->(fX (moR c kn one other other) q=true↔fX (kn other other) q=true∨fX (kn one one) q=true):=fun q hq=>by
  obtain⟨x,y,g1,_,_,rfl⟩:=hq;show decide ((y:Int)<=(moR c kn one other other).getD (x:Int).toNat 0)=true↔decide ((y:Int)<=(kn other other).getD (x:Int).toNat 0)=true∨decide ((y:Int)<=(kn one one).getD (x:Int).toNat 0)=true;rw[c7,Jg x g1];simp only[decide_eq_true_eq];unfold mx;omega
 have uniq:∀ {r r':Rec}{e e':D},r∈rs->r'∈rs->r.ent=wj e->r'.ent=wj e'->aV e=aV e'->e=e':=fun {r r' e e'} hr hr' he he' hk=>by
  rw[gE he,gE he'] at hk
  have:r=r':=Ea Q.recs.keys hr hr' hk
  rw[this,he'] at he;cases he;rfl
 have pm1:∀ e,e∈(S one).ents↔e∈eI rs (kn one one):=fun e=>by rw[O1.ents.2.mem_iff];exact Q.tab one h1 e
 have pm2:∀ e,e∈(S other).ents↔e∈eI rs (kn other other):=fun e=>by rw[O2.ents.2.mem_iff];exact Q.tab other h2 e
 have lv:∀ i,i<c->(S i).Ok c->∀ {r:Rec}{e:D},r∈rs->r.ent=wj e->((S i).leaves i e=true↔e∈eI rs (kn i i)∨cV (kn i i) r=false):=by
  intro i hi O r e hr he;unfold Hd.leaves;rw[Q.seen hi,gE he,oH,ik];have h3:(iE (S i).table r.key).isSome=true↔e∈eI rs (kn i i):=by
   constructor
   ·intro z;obtain⟨v,hv⟩:=ma.mp z;unfold iE at hv;obtain⟨p,hp,rfl⟩:=m7.mp hv;have hpm:=qd hp;have hpk:p.1=r.key:=by
     have:=vp hp
     simpa using this
    have hv2:p.2∈eI rs (kn i i):=(Q.tab i hi p.2).mp (aw.mpr ⟨p,hpm,rfl⟩);obtain⟨⟨r',hr',_,he'⟩,_⟩:=mem_pres.mp hv2;have hk2:aV p.2=p.1:=by
     obtain⟨x,y,_,_,_,e1,u,w,e2⟩:=(I i hi).1.tk p hpm;rw[e2,e1];rfl
    have:e=p.2:=uniq hr hr' he he' (by rw[gE he,hk2,hpk])
    rw[this];exact hv2
   ·intro z;obtain⟨p,hp,e2⟩:=aw.mp ((Q.tab i hi e).mpr z);have hk2:aV p.2=p.1:=by
     obtain⟨x,y,_,_,_,e1,u,w,e2⟩:=(I i hi).1.tk p hp;rw[e2,e1];rfl
    have:r.key∈(S i).table.map (·.1):=aw.mpr ⟨p,hp,by rw[<- hk2,e2,gE he]⟩
    obtain⟨v,hv⟩:=CP this;rw[hv];rfl
  rw[h3];cases cV (kn i i) r <;> simp
 refine⟨fun i hi=> ?_,Q.recs,fun i hi e=> ?_,fun i hi q hq hs x hx=> ?_,fun i j hi hj t htc=> ?_⟩
 ·by_cases h:i=other
  ·subst h;unfold jP;rw[iK,bF]
   show(br (br mx) (S i).knows (S one).knows).set i (br mx ((S i).seen i) ((S one).seen one))=_
   rw[Q.knows i hi,Q.knows one h1,Ay,wE,Q.seen hi,Q.seen h1];apply hV;intro k hk;have hkc:=ie.mp hk
   by_cases hki:k=i
   ·subst hki;rw[bF,J]
   ·rw[bC hki];refine nL (by rw[fj,lenK _ _ hi hkc,lenK _ _ h1 hkc,i4]) (moL k) fun t htc=> ?_;rw[moG k t htc,vM (by rw[lenK _ _ hi hkc];exact htc) (by rw[lenK _ _ h1 hkc];exact htc)];unfold mo;rw[if_neg hki];unfold mx;omega
  ·unfold jP;rw[iJ h,bC h];exact Q.knows i hi
 ·by_cases h:i=other
  ·subst h;unfold jP;rw[iK,bF];show e∈(nY ((S i).hearT i (S one) one) []).map (·.2)↔_;have hrec:∀ d∈(S i).hearT i (S one) one,∃ r∈rs,r.ent=wj d:=fun d hd=>by
    rcases cz.mp hd with z|z
    ·obtain⟨⟨r,hr,_,he⟩,_⟩:=mem_pres.mp ((pm2 d).mp (b8.mp z).1);exact⟨r,hr,he⟩
    ·obtain⟨⟨r,hr,_,he⟩,_⟩:=mem_pres.mp ((pm1 d).mp (b8.mp z).1);exact⟨r,hr,he⟩
   rw[BG fun d hd d' hd' hk=>by
    obtain⟨r,hr,he⟩:=hrec d hd;obtain⟨r',hr',he'⟩:=hrec d' hd';exact uniq hr hr' he he' hk]
   unfold Hd.hearT;rw[cz,b8,b8,pm1,pm2];constructor
   ·intro z
    -- e is a deed's entry
    have he:∃ r∈rs,r.ent=wj e:=by
     rcases z with z|z
     ·obtain⟨⟨r,hr,_,he⟩,_⟩:=mem_pres.mp z.1;exact⟨r,hr,he⟩
     ·obtain⟨⟨r,hr,_,he⟩,_⟩:=mem_pres.mp z.1;exact⟨r,hr,he⟩
    obtain⟨r,hr,he⟩:=he;rw[lv one h1 O1 hr he,lv i hi O2 hr he] at z;rw[mem_pres];have sr:∀ {row:List Int},e∈eI rs row->cV row r=true:=fun {row} q=>by
     obtain⟨⟨r',hr',hs',he'⟩,_⟩:=mem_pres.mp q;have hk:r'.key=r.key:=by rw[<- gE he',gE he]
     rw[<- oH,<- hk,oH];exact hs'
    have both:(e∈eI rs (kn i i)/\e∈eI rs (kn one one))∨(e∈eI rs (kn i i)/\cV (kn one one) r=false)∨(e∈eI rs (kn one one)/\cV (kn i i) r=false):=by
     rcases z with⟨z1,z2|z2⟩|⟨z1,z2|z2⟩
     ·exact .inl ⟨z1,z2⟩
     ·exact .inr (.inl ⟨z1,z2⟩)
     ·exact .inl ⟨z2,z1⟩
     ·exact .inr (.inr ⟨z1,z2⟩)
    have clos:∀ k,k<c->cV (kn k k) r=false->∀ p∈rs,cV (kn k k) p=true->aV e∉p.outs:=fun k hk hs p hp hps w=>by
     have:=Q.clo k hk p hp hps _ w
     rw[gE he,oH,hs] at this;cases this
    refine⟨⟨r,hr,(sJ r hr).mpr ?_,he⟩,fun p hp hps=> ?_⟩
    ·rcases both with z|z|z
     ·exact .inl (sr z.1)
     ·exact .inl (sr z.1)
     ·exact .inr (sr z.1)
    ·rcases(sJ p hp).mp hps with w|w
     ·rcases both with z|z|z
      ·exact(mem_pres.mp z.1).2 p hp w
      ·exact(mem_pres.mp z.1).2 p hp w
      ·exact clos i hi z.2 p hp w
     ·rcases both with z|z|z
      ·exact(mem_pres.mp z.2).2 p hp w
      ·exact clos one h1 z.2 p hp w
      ·exact(mem_pres.mp z.1).2 p hp w
   ·intro z;obtain⟨⟨r,hr,hs,he⟩,hn⟩:=mem_pres.mp z;have inP:∀ k,k<c->(∀ p∈rs,cV (kn k k) p=true->cV (moR c kn one i i) p=true)->cV (kn k k) r=true->e∈eI rs (kn k k):=fun k hk hsub hks=>mem_pres.mpr ⟨⟨r,hr,hks,he⟩,fun p hp hps=>hn p hp (hsub p hp hps)⟩;have p2:=inP i hi fun p hp q=>(sJ p hp).mpr (.inl q);have p1:=inP one h1 fun p hp q=>(sJ p hp).mpr (.inr q);rw[lv one h1 O1 hr he,lv i hi O2 hr he]
    rcases(sJ r hr).mp hs with w|w
    ·cases hq:cV (kn one one) r with
     |true=>exact .inl ⟨p2 w,.inl (p1 hq)⟩
     |false=>exact .inl ⟨p2 w,.inr rfl⟩
    ·cases hq:cV (kn i i) r with
     |true=>exact .inr ⟨p1 w,.inl (p2 hq)⟩
     |false=>exact .inr ⟨p1 w,.inr rfl⟩
  ·unfold jP;rw[iJ h,bC h];exact Q.tab i hi e
 ·by_cases h:i=other
  ·subst h;rw[bF] at hs ⊢;have kx:=(Q.recs.outs q hq).2 x hx
   rcases(sJ q hq).mp hs with w|w
   ·exact(sKJ x kx).mpr (.inl (Q.clo i hi q hq w x hx))
   ·exact(sKJ x kx).mpr (.inr (Q.clo one h1 q hq w x hx))
  ·rw[bC h] at hs ⊢;exact Q.clo i hi q hq hs x hx
 ·by_cases h:i=other
  ·subst h;rw[bF]
   by_cases hji:j=i
   ·subst hji;rw[bF];exact ln _
   ·rw[bC hji,moG j t htc];have e1:=Q.le one j h1 hj t htc;have e2:=Q.le i j hi hj t htc;unfold mo;rw[if_neg hji];unfold mx;omega
  ·rw[bC h]
   by_cases hji:j=other
   ·subst hji;rw[bF,Jg t htc];have e1:=Q.le i j hi hj t htc;unfold mx;omega
   ·rw[bC hji];exact Q.le i j hi hj t htc
end
theorem drops_mem:∀ {ks:List (List Key)}{T:List (List Key×D)},p∈ks.foldl eA T↔p∈T/\p.1∉ks
 |[],T=>by simp
 |k::ks,T=>by
  show p∈ks.foldl eA (eA T k)↔_;rw[drops_mem];unfold eA;rw[b8,ai,not_or];constructor
  ·rintro⟨⟨h1,h2⟩,h3⟩
   exact⟨h1,by simpa using h2,h3⟩
  ·rintro⟨h1,h2,h3⟩
   exact⟨⟨h1,by simpa using h2⟩,h3⟩
section
variable {c:Nat}{own:Nat->Nat}{S:Nat->Hd}{rs:List Rec}{kn:Nat->Nat->List Int}{a:Nat}
theorem Hd.In.tkey {hd:Hd} (W:hd.In c own) (hp:p∈hd.table):aV p.2=p.1:=by
 obtain⟨x,y,_,_,_,e1,u,w,e2⟩:=W.tk p hp;rw[e2,e1];rfl
theorem Gv (I:HInv c own S) (ha:a<c):(S a).next a=((own a+1:Nat):Int):=by
 unfold Hd.next;rw[(I a ha).2];omega
theorem JU (I:HInv c own S) (ha:a<c):gD a ((own a+1:Nat):Int)∉(S a).table.map (·.1):=fun z=>by
 obtain⟨p,hp,e⟩:=aw.mp z;obtain⟨x,y,_,_,g3,e1,_⟩:=(I a ha).1.tk p hp;rw[e1] at e;unfold gD at e;simp at e
 have:x=a:=by omega
 rw[this] at g3;omega
theorem mF (Q:Rel c own S rs kn) (I:HInv c own S) (ha:a<c):((S a).bump a).knows=(S a).knows.set a ((kn a a).set a ((own a+1:Nat):Int)):=by
 show(S a).knows.set a (((S a).seen a).set a (((S a).seen a).getD a 0+1))=_
 rw[(I a ha).2,Q.seen ha];rfl
theorem AL (I:HInv c own S) (ha:a<c) (x:Str) (v:Int) (e:D):e∈((S a).put a x v).table.map (·.2)↔e∈(S a).table.map (·.2)∨wj (D.tup [.str x,mkD a ((own a+1:Nat):Int),.int v])=wj e:=by
 show e∈(putD (S a).table (gD a ((S a).next a)) (.tup [.str x,mkD a ((S a).next a),.int v])).map (·.2)↔_;rw[Gv I ha,tW (JU I ha),c6,cz];simp only[bh,kr,fe,Option.some.injEq];constructor
 ·rintro(z|z)
  ·exact .inl z
  ·exact .inr z.symm
 ·rintro(z|z)
  ·exact .inl z
  ·exact .inr z.symm
theorem IM (Q:Rel c own S rs kn) (I:HInv c own S) (ha:a<c) (x:Str) (v:Int):HInv c (dG own a) (mG S a ((S a).put a x v))/\Rel c (dG own a) (mG S a ((S a).put a x v)) (rs++[⟨a,own a+1,wj (x,v),[]⟩]) (upF kn a (upF (kn a) a ((kn a a).set a ((own a+1:Nat):Int)))):=by
 have W:=(I a ha).1;refine⟨I.updB (W.put ha (I a ha).2 x v) (jO W ha (I a ha).2),Q.note I ha (r:=⟨a,own a+1,wj (x,v),[]⟩) rfl rfl (by simp) (fun q hq=>by simp at hq) (fun q hq=>by simp at hq) (mF Q I ha) fun e=> ?_⟩;rw[AL I ha x v e];show _↔(_∨wj _=wj e)/\_;simp
theorem sE (Q:Rel c own S rs kn) (I:HInv c own S) (O:(S a).Ok c) (ha:a<c) (x:Str):∀ q∈(S a).marksK x,fX (kn a a) q=true:=fun q hq=>by
 obtain⟨p,hp,rfl⟩:=aw.mp (O.marksIn x q hq);have h1:p.2∈eI rs (kn a a):=(Q.tab a ha p.2).mp (aw.mpr ⟨p,hp,rfl⟩);obtain⟨⟨r,hr,hs,he⟩,_⟩:=mem_pres.mp h1;rw[<- (I a ha).1.tkey hp,gE he,oH];exact hs
theorem BL (Q:Rel c own S rs kn) (I:HInv c own S) (c0:0<c) (c8:c<=8) (ht:tot c own<63) (ha:a<c) (x:Str) (v:Int):HInv c (dG own a) (mG S a ((S a).change a x v))/\Rel c (dG own a) (mG S a ((S a).change a x v)) (rs++[⟨a,own a+1,wj (x,v),(S a).marksK x⟩]) (upF kn a (upF (kn a) a ((kn a a).set a ((own a+1:Nat):Int)))):=by
 have W:=(I a ha).1;have O:=W.ok c0 c8 (by omega);have P:=W.put ha (I a ha).2 x v;have T:=P.takeOut0 (mk:=gD a ((S a).next a)) (ks:=(S a).marksK x) (lC ha (I a ha).2) (O.marksLen x) fun q hq=>(W.marks O x q hq).mono (iB own a);refine⟨I.updB T.forget (jO W ha (I a ha).2),Q.note I ha (r:=⟨a,own a+1,wj (x,v),(S a).marksK x⟩) rfl rfl (O.marksLen x) (W.marks O x) (sE Q I O ha x) (mF Q I ha) fun e=> ?_⟩;show e∈(((S a).marksK x).foldl eA ((S a).put a x v).table).map (·.2)↔(_∨wj _=wj e)/\_;rw[<- AL I ha x v e];constructor
 ·intro z;obtain⟨p,hp,rfl⟩:=aw.mp z;have hp':=drops_mem.mp hp;exact⟨aw.mpr ⟨p,hp'.1,rfl⟩,by rw[P.tkey hp'.1];exact hp'.2⟩
 ·rintro⟨z,w⟩
  obtain⟨p,hp,rfl⟩:=aw.mp z;rw[P.tkey hp] at w;exact aw.mpr ⟨p,drops_mem.mpr ⟨hp,w⟩,rfl⟩
theorem FK (Q:Rel c own S rs kn) (I:HInv c own S) (c0:0<c) (c8:c<=8) (ht:tot c own<63) (ha:a<c) (x:Str) (hm:(S a).marksK x≠[]):HInv c (dG own a) (mG S a ((S a).take a x))/\Rel c (dG own a) (mG S a ((S a).take a x)) (rs++[⟨a,own a+1,wk,(S a).marksK x⟩]) (upF kn a (upF (kn a) a ((kn a a).set a ((own a+1:Nat):Int)))):=by
 have W:=(I a ha).1;have O:=W.ok c0 c8 (by omega);have P:=W.bump ha (I a ha).2;have T:=P.takeOut0 (mk:=gD a ((S a).next a)) (ks:=(S a).marksK x) (lC ha (I a ha).2) (O.marksLen x) fun q hq=>(W.marks O x q hq).mono (iB own a);have et:(S a).take a x=((S a).bump a).takeOut (gD a ((S a).next a)) ((S a).marksK x):=by unfold Hd.take;rw[if_neg hm]
 rw[et];refine⟨I.updB T.forget (jO W ha (I a ha).2),Q.note I ha (r:=⟨a,own a+1,wk,(S a).marksK x⟩) rfl rfl (O.marksLen x) (W.marks O x) (sE Q I O ha x) (mF Q I ha) fun e=> ?_⟩;show e∈(((S a).marksK x).foldl eA (S a).table).map (·.2)↔(_∨wk=wj e)/\_;constructor
 ·intro z;obtain⟨p,hp,rfl⟩:=aw.mp z;have hp':=drops_mem.mp hp;exact⟨.inl (aw.mpr ⟨p,hp'.1,rfl⟩),by rw[W.tkey hp'.1];exact hp'.2⟩
 ·rintro⟨z|z,w⟩
  ·obtain⟨p,hp,rfl⟩:=aw.mp z;rw[W.tkey hp] at w;exact aw.mpr ⟨p,drops_mem.mpr ⟨hp,w⟩,rfl⟩
  ·cases z
theorem lF (I:HInv c own S) (c0:0<c) (c8:c<=8) (ht:tot c own<64) (hi:i<c) (hj:j<c):HInv c own (jP S j i):=by
 have Wi:=(I i hi).1;have Wj:=(I j hj).1;have H0:=Wi.hear0 Wj (Wi.ok c0 c8 ht) (Wj.ok c0 c8 ht) hi hj;exact I.upd H0.forget (Bc Wi Wj hi hj (I i hi).2)
end
theorem LawAt.congr (L:LawAt B ω c h dd oo kk ks rs kn) (e:∀ i j,i<c->j<c->kn i j=kn' i j):LawAt B ω c h dd oo kk ks rs kn':=
 ⟨L.obj,L.deeds,L.order,L.known,fun i hi=>by
  obtain⟨ds,h1,h2⟩:=L.row i hi;exact⟨ds,h1,h2.1,fun j hj=>by rw[<- e i j hi hj];exact h2.2 j hj⟩,fun i j hi hj=>by rw[<- e i j hi hj];exact L.len i j hi hj,L.inj,L.out,L.nd,L.low,L.bas,L.keys,L.ra⟩
theorem JY (ha:a<c) (hb:b<c) (hne:a≠b) (len:∀ i j,i<c->j<c->(kn i j).length=c) (le:∀ i j,i<c->j<c->∀ t,t<c->(kn i j).getD t 0<=(kn j j).getD t 0) (k1 k2 k3 l1 l2 l3:Nat->Nat->List Int)
  (e1:k1=upF kn b (moR c kn a b)) (e2:k2=upF k1 a (moR c k1 b a)) (e3:k3=upF k2 b (moR c k2 a b))
  (f1:l1=upF kn a (moR c kn b a)) (f2:l2=upF l1 b (moR c l1 a b)) (f3:l3=upF l2 a (upF (l2 a) b (l2 a a))):∀ i j,i<c->j<c->l3 i j=k3 i j:=by
 intro i j hi hj;have moL:∀(q:Nat->Nat->List Int) x y k,(moR c q x y k).length=c:=fun q x y k=>by unfold moR;simp
 have moG:∀(q:Nat->Nat->List Int) x y k t,t<c->(moR c q x y k).getD t 0=mo q x y k t:=fun q x y k t ht=>sP ht
 -- the values
 have K1b:∀ k t,t<c->(k1 b k).getD t 0=mo kn a b k t:=fun k t ht=>by rw[e1,bF];exact moG _ _ _ _ _ ht
 have K1a:∀ k,k1 a k=kn a k:=fun k=>by rw[e1,bC hne]
 have K2a:∀ k t,t<c->(k2 a k).getD t 0=mo k1 b a k t:=fun k t ht=>by rw[e2,bF];exact moG _ _ _ _ _ ht
 have K2b:∀ k,k2 b k=k1 b k:=fun k=>by rw[e2,bC (bv hne)]
 have K3b:∀ k t,t<c->(k3 b k).getD t 0=mo k2 a b k t:=fun k t ht=>by rw[e3,bF];exact moG _ _ _ _ _ ht
 have K3a:∀ k,k3 a k=k2 a k:=fun k=>by rw[e3,bC hne]
 have L1a:∀ k t,t<c->(l1 a k).getD t 0=mo kn b a k t:=fun k t ht=>by rw[f1,bF];exact moG _ _ _ _ _ ht
 have L1b:∀ k,l1 b k=kn b k:=fun k=>by rw[f1,bC (bv hne)]
 have L2b:∀ k t,t<c->(l2 b k).getD t 0=mo l1 a b k t:=fun k t ht=>by rw[f2,bF];exact moG _ _ _ _ _ ht
 have L2a:∀ k,l2 a k=l1 a k:=fun k=>by rw[f2,bC hne]
 have lenK:∀ k,k<c->(k3 a k).length=c/\(k3 b k).length=c:=fun k hk=>⟨by rw[K3a,e2,bF];exact moL _ _ _ _,by rw[e3,bF];exact moL _ _ _ _⟩;have lenL1:∀ k,(l1 a k).length=c:=fun k=>by rw[f1,bF];exact moL _ _ _ _
 by_cases hia:i=a
 ·subst hia;have l3a:l3 i j=if j=b then l1 i i else l1 i j:=by
   rw[f3,bF]
   by_cases h:j=b
   ·rw[if_pos h,h,bF,L2a]
   ·rw[if_neg h,bC h,L2a]
  rw[l3a];refine nL (c:=c) (by split <;> exact lenL1 _) (lenK j hj).1 fun t ht=> ?_;rw[K3a,K2a j t ht];have u1:=le i b hi hb t ht;have u2:=le b i hb hi t ht
  by_cases h:j=b
  ·subst h;rw[if_pos rfl,L1a i t ht];unfold mo;rw[if_pos rfl,if_neg (bv hne),K1b j t ht,K1a];unfold mo;rw[if_pos rfl];unfold mx;omega
  ·rw[if_neg h,L1a j t ht]
   by_cases h2:j=i
   ·subst h2;unfold mo;rw[if_pos rfl,if_pos rfl,K1b j t ht,K1b b t ht,K1a];unfold mo;rw[if_neg h,if_pos rfl];unfold mx;omega
   ·unfold mo;rw[if_neg h2,if_neg h2,K1b j t ht,K1a];unfold mo;rw[if_neg h];unfold mx;omega
 ·by_cases hib:i=b
  ·subst hib;have l3b:l3 i j=l2 i j:=by rw[f3,bC hia]
   rw[l3b];refine nL (c:=c) (by rw[f2,bF];exact moL _ _ _ _) (lenK j hj).2 fun t ht=> ?_;rw[L2b j t ht,K3b j t ht];have u1:=le a i ha hi t ht;have u2:=le i a hi ha t ht
   by_cases h:j=i
   ·subst h;unfold mo;rw[if_pos rfl,if_pos rfl,L1a j t ht,L1a a t ht,L1b,K2a j t ht,K2a a t ht,K2b,K1b j t ht];unfold mo;simp only[if_true,if_neg hne,if_neg (bv hne),K1b _ t ht,K1a];unfold mo;simp only[if_true,if_neg hne,if_neg (bv hne)];unfold mx;omega
   ·by_cases h2:j=a
    ·subst h2;unfold mo;rw[if_neg h,if_neg h,L1a j t ht,L1b,K2a j t ht,K2b,K1b j t ht];unfold mo;simp only[if_true,if_neg h,K1b _ t ht,K1a];unfold mo;simp only[if_true,if_neg h];unfold mx;omega
    ·unfold mo;rw[if_neg h,if_neg h,L1a j t ht,L1b,K2a j t ht,K2b,K1b j t ht];unfold mo;simp only[if_neg h,if_neg h2,K1b _ t ht,K1a];unfold mo;simp only[if_neg h,if_neg h2];unfold mx;omega
  ·rw[f3,bC hia,f2,bC hib,f1,bC hia,e3,bC hib,e2,bC hia,e1,bC hib]
noncomputable def Deed.n1:Deed->Int
 |.put a _ _=>a
 |.change a _ _=>a
 |.take a _=>a
 |.tell a _=>a
 |.meet a _=>a
noncomputable def Deed.n2:Deed->D
 |.put _ x _=>.str x
 |.change _ x _=>.str x
 |.take _ x=>.str x
 |.tell _ b=>.int b
 |.meet _ b=>.int b
noncomputable def okN (c:Nat):D->Bool
 |.int n=>decide (0<=n/\n<c)
 |_=>true
noncomputable abbrev lU (h c:Nat) (d:D) (v3 v4 v5 v6 v7 v8:Option D):Rho:=[wj (.obj h),wj d,wj (.int c),v3,v4,v5,v6,v7,v8]
section
variable {ω:Om}{h c:Nat}{v3 v4 v5 v6 v7 v8:Option D}
theorem EO:aF (lU h c d (wj (.int n)) v4 v5 v6 v7 v8) ω=if 0<=n/\n<c then wj (.nx (lU h c d (wj (.int n)) v4 v5 v6 v7 v8),ω) else wj (.rt (.str "no hand"),ω):=by
 have t:BV (jU (jT (oQ "str" (oP (aD 3))))) (oOr (cH (o2 (lf gLt) (oP (aD 3)) (oP (dC (.int 0))))) (cH (o2 (lf gGe) (oP (aD 3)) (oP (aD 2))))) (lU h c d (wj (.int n)) v4 v5 v6 v7 v8) ω=wj (.ok (!decide (0<=n/\n<c)),ω):=by
  have t1:jU (jT (oQ "str" (oP (aD 3)))) (lU h c d (wj (.int n)) v4 v5 v6 v7 v8) ω=wj (.ok true,ω):=kZ (k:=false) (tru_ok (pC (aB (d:=.int n) rfl) (by simp[CM,fW,Ce,wT])));unfold BV;rw[bI t1];show oOr _ _ _ ω=_;unfold oOr;rw[bI (mE (a:=n) (z:=0) (aB rfl))]
  by_cases h0:n<0
  ·rw[decide_eq_true h0];show wj (Rz.ok true,ω)=_;rw[decide_eq_false (by omega)];rfl
  ·rw[decide_eq_false h0];show cH (o2 (lf gGe) (oP (aD 3)) (oP (aD 2))) _ ω=_;rw[cK (k:=decide ((c:Int)<=n)) (ω1:=ω) (gJ (aB (d:=.int n) rfl) (aB (d:=.int c) rfl) rfl)]
   by_cases h1:(c:Int)<=n
   ·rw[decide_eq_true h1,decide_eq_false (by omega)];rfl
   ·rw[decide_eq_false h1,decide_eq_true (by omega)];rfl
 unfold aF
 by_cases hv:0<=n/\n<c
 ·rw[if_pos hv];rw[decide_eq_true hv] at t;rw[mB t];rfl
 ·rw[if_neg hv];rw[decide_eq_false hv] at t;rw[lZ t];rfl
theorem KG:aF (lU h c d (wj (.str x)) v4 v5 v6 v7 v8) ω=wj (.nx (lU h c d (wj (.str x)) v4 v5 v6 v7 v8),ω):=by
 have t:BV (jU (jT (oQ "str" (oP (aD 3))))) (oOr (cH (o2 (lf gLt) (oP (aD 3)) (oP (dC (.int 0))))) (cH (o2 (lf gGe) (oP (aD 3)) (oP (aD 2))))) (lU h c d (wj (.str x)) v4 v5 v6 v7 v8) ω=wj (.ok false,ω):=by
  have t1:jU (jT (oQ "str" (oP (aD 3)))) (lU h c d (wj (.str x)) v4 v5 v6 v7 v8) ω=wj (.ok false,ω):=kZ (k:=true) (tru_ok (pC (aB (d:=.str x) rfl) (by simp[CM,fW,Ce,wT])));unfold BV;rw[bI t1];rfl
 unfold aF;rw[mB t];rfl
theorem Ny (d:Deed):oIT (o2 zL (oSl (oP (aD 1)) (dSo (dC (.int 1))) (dSo (dC (.int 2)))) (oSl (oP (aD 1)) (dSo (dC (.int 2))) (dSo (dC (.int 3))))) (lU h c d.d wk wk wk wk wk wk) ω=wj (.ok ([.int d.n1,d.n2],bW),ω):=by
 cases d with
 |put a x v=>rfl
 |change a x v=>rfl
 |take a x=>rfl
 |tell a b=>rfl
 |meet a b=>rfl
theorem nM (d:Deed):sNx (bN (oIT (o2 zL (oSl (oP (aD 1)) (dSo (dC (.int 1))) (dSo (dC (.int 2)))) (oSl (oP (aD 1)) (dSo (dC (.int 2))) (dSo (dC (.int 3)))))) (aY 3) aF) (lU h c d.d wk wk wk wk wk wk) ω=if(0<=d.n1/\d.n1<c)/\okN c d.n2=true then wj (.nx (lU h c d.d (wj d.n2) wk wk wk wk wk),ω) else wj (.rt (.str "no hand"),ω):=by
 have run:∀ r,bR (aY 3) bW aF [.int d.n1,d.n2] (lU h c d.d wk wk wk wk wk wk) ω=wj (r,ω)->(∀ x,r≠ .ex x)->sNx (bN (oIT (o2 zL (oSl (oP (aD 1)) (dSo (dC (.int 1))) (dSo (dC (.int 2)))) (oSl (oP (aD 1)) (dSo (dC (.int 2))) (dSo (dC (.int 3)))))) (aY 3) aF) (lU h c d.d wk wk wk wk wk wk) ω=wj (r,ω):=by
  intro r e hr
  have:bN (oIT (o2 zL (oSl (oP (aD 1)) (dSo (dC (.int 1))) (dSo (dC (.int 2)))) (oSl (oP (aD 1)) (dSo (dC (.int 2))) (dSo (dC (.int 3)))))) (aY 3) aF (lU h c d.d wk wk wk wk wk wk) ω=wj (r,ω):=by
   unfold bN;rw[cD (Ny d)];exact e
  unfold sNx;rw[this];cases r with
  |ex x=>exact absurd rfl (hr x)
  |_=>rfl
 have s1:bR (aY 3) bW aF [.int d.n1,d.n2] (lU h c d.d wk wk wk wk wk wk) ω=(match aF (lU h c d.d (wj (.int d.n1)) wk wk wk wk wk) ω with
   |none=>wk
   |some (.nx ρ2,ω2)=>bR (aY 3) bW aF [d.n2] ρ2 ω2
   |some (.ct ρ2,ω2)=>bR (aY 3) bW aF [d.n2] ρ2 ω2
   |some (.bk ρ2,ω2)=>wj (.nx ρ2,ω2)
   |some (.rt d,ω2)=>wj (.rt d,ω2)
   |some (.ex _,_)=>wk):=rfl
 have s2:bR (aY 3) bW aF [d.n2] (lU h c d.d (wj (.int d.n1)) wk wk wk wk wk) ω=(match aF (lU h c d.d (wj d.n2) wk wk wk wk wk) ω with
   |none=>wk
   |some (.nx ρ2,ω2)=>wj (.nx ρ2,ω2)
   |some (.ct ρ2,ω2)=>wj (.nx ρ2,ω2)
   |some (.bk ρ2,ω2)=>wj (.nx ρ2,ω2)
   |some (.rt d,ω2)=>wj (.rt d,ω2)
   |some (.ex _,_)=>wk):=by
  show(match aF (lU h c d.d (wj d.n2) wk wk wk wk wk) ω with
   |none=>wk
   |some (.nx ρ2,ω2)=>bR (aY 3) bW aF [] ρ2 ω2
   |some (.ct ρ2,ω2)=>bR (aY 3) bW aF [] ρ2 ω2
   |some (.bk ρ2,ω2)=>wj (.nx ρ2,ω2)
   |some (.rt d,ω2)=>wj (.rt d,ω2)
   |some (.ex _,_)=>wk)=_
  rfl
 rw[EO] at s1
 by_cases h1:0<=d.n1/\d.n1<c
 ·rw[if_pos h1] at s1;have s1':bR (aY 3) bW aF [.int d.n1,d.n2] (lU h c d.d wk wk wk wk wk wk) ω=bR (aY 3) bW aF [d.n2] (lU h c d.d (wj (.int d.n1)) wk wk wk wk wk) ω:=s1;have shape:(∃ n,d.n2=.int n)∨∃ x,d.n2=.str x:=by
   cases d with
   |put a x v=>exact .inr ⟨x,rfl⟩
   |change a x v=>exact .inr ⟨x,rfl⟩
   |take a x=>exact .inr ⟨x,rfl⟩
   |tell a b=>exact .inl ⟨b,rfl⟩
   |meet a b=>exact .inl ⟨b,rfl⟩
  rcases shape with⟨n,e⟩|⟨x,e⟩
  ·rw[e,EO] at s2
   by_cases h2:0<=n/\n<c
   ·rw[if_pos h2] at s2;rw[if_pos ⟨h1,by rw[e];exact decide_eq_true h2⟩];rw[e] at s1' ⊢;exact run _ (by rw[e];exact s1'.trans s2) (by intro x;exact fun z=>nomatch z)
   ·rw[if_neg h2] at s2;rw[if_neg (fun z=>by rw[e] at z;exact h2 (of_decide_eq_true z.2))];rw[e] at s1';exact run _ (by rw[e];exact s1'.trans s2) (by intro x;exact fun z=>nomatch z)
  ·rw[e,KG] at s2;rw[if_pos ⟨h1,by rw[e];rfl⟩];rw[e] at s1' ⊢;exact run _ (by rw[e];exact s1'.trans s2) (by intro x;exact fun z=>nomatch z)
 ·rw[if_neg h1] at s1;rw[if_neg (fun z=>h1 z.1)];exact run _ s1 (by intro x;exact fun z=>nomatch z)
end
section
variable {B ω:Om}{c h dd oo kk:Nat}{ks:Nat->Nat}{rs:List Rec}{kn:Nat->Nat->List Int}{own:Nat->Nat}{S:Nat->Hd}
noncomputable abbrev Jz:OS:=(aI (eB (cH (o2 (jK 8) (o2 (fun ω a b=>pu (bE ω a b) ω) (oP (aD 1)) (oP (dC (.int 0)))) (oP (dC (.str "put"))))) (aZ (bO cX (aC (oP (aD 0)) (aC (oP (aD 4)) (aC (oSl (oP (aD 1)) (dSo (dC (.int 2))) dNo) (aC (oL (fun ω ds=>pu (fE ds) ω) aP) aP)))))) bP) (aI (eB (cH (o2 (jK 8) (o2 (fun ω a b=>pu (bE ω a b) ω) (oP (aD 1)) (oP (dC (.int 0)))) (oP (dC (.str "change"))))) (aZ (bO cX (aC (oP (aD 0)) (aC (oP (aD 4)) (aC (oSl (oP (aD 1)) (dSo (dC (.int 2))) dNo) (aC (oP (aD 6)) aP)))))) bP) (aI (eB (cH (o2 (jK 8) (oP (aD 6)) (oL (fun ω ds=>pu (fE ds) ω) aP))) (aZ (oP (dC .non))) bP) (aI (bU (bO cX (aC (oP (aD 0)) (aC (oP (aD 4)) (aC (oP (dC .non)) (aC (oP (aD 6)) aP)))))) (aZ (oP (aD 6)))))))
theorem gS (h1:ρ[1]?=wj (wj d)) (h0:bE ω d (.int 0)=wj (.str x)):cH (o2 (jK 8) (o2 (fun ω a b=>pu (bE ω a b) ω) (oP (aD 1)) (oP (dC (.int 0)))) (oP (dC (.str y)))) ρ ω=wj (.ok (decide (x=y)),ω):=cK (eW (aK (aB h1) aU h0) aU (by
 show pu ((eqD 8 (.str x) (.str y)).map D.bl) ω=_;rw[gW];rfl))
theorem Gf:∀ {d:Deed},(∃ x,d.n2=.str x)->cH (o2 (lf (gIn 7)) (o2 (fun ω a b=>pu (bE ω a b) ω) (oP (aD 1)) (oP (dC (.int 0)))) (oL (fun ω ds=>pu (fE ds) ω) (aC (oP (dC (.str "put"))) (aC (oP (dC (.str "take"))) (aC (oP (dC (.str "change"))) aP))))) (lU h c d.d (wj d.n2) (wj (.int d.n1)) wk wk wk wk) ω=wj (.ok true,ω)
 |.put a x v,_=>rfl
 |.change a x v,_=>rfl
 |.take a x,_=>rfl
 |.tell a b,⟨_,e⟩=>by cases e
 |.meet a b,⟨_,e⟩=>by cases e
theorem nD:∀ {d:Deed},(∃ b,d.n2=.int b)->cH (o2 (lf (gIn 7)) (o2 (fun ω a b=>pu (bE ω a b) ω) (oP (aD 1)) (oP (dC (.int 0)))) (oL (fun ω ds=>pu (fE ds) ω) (aC (oP (dC (.str "put"))) (aC (oP (dC (.str "take"))) (aC (oP (dC (.str "change"))) aP))))) (lU h c d.d (wj d.n2) (wj (.int d.n1)) wk wk wk wk) ω=wj (.ok false,ω)
 |.put a x v,⟨_,e⟩=>by cases e
 |.change a x v,⟨_,e⟩=>by cases e
 |.take a x,⟨_,e⟩=>by cases e
 |.tell a b,_=>rfl
 |.meet a b,_=>rfl
theorem HE (d:Deed):bE ω d.d (.int 1)=wj (.int d.n1):=by cases d <;> rfl
theorem HD (d:Deed):bE ω d.d (.int 2)=wj d.n2:=by cases d <;> rfl
theorem pR (L:LawAt B ω c h dd oo kk ks rs kn) {d:Deed} (hb:¬((0<=d.n1/\d.n1<c)/\okN c d.n2=true)):cE [.obj h,d.d] ω=wj (.ok (.str "no hand"),ω):=by
 refine aT rfl ?_;unfold bQ;refine(aM (L.gCount (aB rfl))).trans ?_;refine tU (r:=.ok (.str "no hand")) ?_
 have:=nM (ω:=ω) (h:=h) (c:=c) d
 rw[if_neg hb] at this;exact this
theorem uP {d:Deed} (L:LawAt B ω c h dd oo kk ks rs kn) (I:HInv c own S) (Q:Rel c own S rs kn) (c0:0<c) (c8:c<=8) (ht:tot c own<64) (ha:a<c) (e1:d.n1=a) (e2:d.n2=.str x)
  (e:Jz (lU h c d.d (wj (.str x)) (wj (.int a)) (wj (.lst (S a).ents)) (wj (.lst (((S a).marksK x).map bK))) wk wk) (ω++[.ml (bB rs (kn a a))])=wj (IL r,ω')):cE [.obj h,d.d] ω=wj (r,ω'):=by
 have W:=(I a ha).1;have O:=W.ok c0 c8 ht;obtain⟨rd,i1,r1⟩:=L.ixRow (ω:=ω) (fun _ _=>rfl) ha ha;have rl:=nG Q.recs;have pr:=sA L c0 Q.recs r1 (L.len _ _ ha ha) (by omega) (xI O Q.recs ht (Q.tab a ha));have lp:=nM (ω:=ω) (h:=h) (c:=c) d;rw[if_pos ⟨by rw[e1];omega,by rw[e2];rfl⟩] at lp;refine dQ rfl ?_;unfold bQ;refine(aM (L.gCount (aB rfl))).trans ?_;refine(bA lp).trans ?_;refine(aM (aK (aB (d:=d.d) rfl) aU (HE d))).trans ?_;refine tU ?_;refine(lZ (Gf ⟨x,e2⟩)).trans ?_;show aI _ _ (lU h c d.d (wj d.n2) (wj (.int d.n1)) wk wk wk wk) ω=_;rw[e1,e2];refine(aM (aW (aA (aB (d:=.obj h) rfl) (aA (aK (aK (L.gKnown (aB (d:=.obj h) rfl)) (aB (d:=.int a) rfl) (L.ixKnown ha)) (aB (d:=.int a) rfl) i1) aE)) pr)).trans ?_;refine(aM (d:=.lst (((S a).marksK x).map bK)) (ω1:=ω++[.ml (bB rs (kn a a))]) (gC (ds:=(S a).ents) (chk:=bW) (ω1:=ω++[.ml (bB rs (kn a a))]) (by
  unfold oIL;rw[bI (aB (d:=.lst (S a).ents) rfl)];rfl) (hX (eE O.entsLen)) (by
  have e0:((S a).marksK x).map bK=((S a).ents.filter (Kf x)).map fun q=>bK (aV q):=by
   unfold Hd.marksK;rw[ia];rfl
  rw[e0];refine eN (fun ρ=>∃ u,ρ=[u,wj d.d]) rfl ⟨_,rfl⟩ fun q hq ρ hρ=> ?_;obtain⟨u,rfl⟩:=hρ;obtain⟨y,p1,p2,v,rfl⟩:=O.entsEnt q hq;refine⟨_,rfl,⟨_,rfl⟩,?_,fun _=>aK (aB (d:=.tup [.str y,.tup [.int p1,.int p2],.int v]) rfl) aU rfl⟩;refine cK (eW (aK (aB (d:=.tup [.str y,.tup [.int p1,.int p2],.int v]) rfl) aU rfl) (aK (aB (d:=d.d) rfl) aU (by rw[HD,e2])) ?_);show pu ((eqD 8 (.str y) (.str x)).map D.bl) _=_;rw[gW];rfl))).trans ?_
 exact e
theorem Nx (L:LawAt B ω c h dd oo kk ks rs kn) (I:HInv c own S) (Q:Rel c own S rs kn) (c0:0<c) (c8:c<=8) (ht:tot c own<63) (d:Deed):∃ ω' ks' rs' kn' own' ans,cE [.obj h,d.d] ω=wj (.ok ans,ω')/\LawAt B ω' c h dd oo kk ks' rs' kn'/\HInv c own' (step c S d).2/\Rel c own' (step c S d).2 rs' kn'/\tot c own'<=tot c own+1:=by
 have nk:∀ {a:Nat} (p:Option (Str×Int)) (o:List (List Key)),a<c->(⟨a,own a+1,p,o⟩:Rec).key∉rs.map Rec.key:=fun {a} p o ha z=>by
  obtain⟨q,hq,e⟩:=aw.mp z
  have:=Q.recs.inn q hq
  unfold Rec.key gD at e;simp at e;have e1:q.a=a:=by omega
  rw[e1] at this;omega
 have tb:∀ {a:Nat},a<c->tot c (dG own a)<=tot c own+1:=fun {a} ha=>by rw[jE,if_pos ha];omega
 have rl:=nG Q.recs;have ob:∀ {a:Nat},a<c->(((own a+1:Nat)):Int)=(kn a a).getD a 0+1:=fun {a} ha=>by rw[Q.ownE I ha];omega
 cases d with
 |put a x v=>
  by_cases hv:0<=a/\a<(c:Int)
  ·obtain⟨n,rfl⟩:=Int.eq_ofNat_of_zero_le hv.1;have hn:n<c:=by omega
   have e0:(step c S (.put n x v)).2=mG S n ((S n).put n x v):=by
    show(if 0<=(n:Int)/\(n:Int)<c then(_,_) else(_,_):D×(Nat->Hd)).2=_
    rw[if_pos hv];rfl
   rw[e0];have RP:=IM Q I hn x v;have L1:=L.app c0 [.ml (bB rs (kn n n))];obtain⟨ω',e1,L2,_⟩:=uD (own':=n) L1 c0 hn (r:=⟨n,own n+1,wj (x,v),[]⟩) rfl (ob hn) (nk _ _ hn) (by omega);refine⟨ω',ks,_,_,dG own n,_,uP (d:=.put n x v) L I Q c0 c8 (by omega) hn rfl rfl (r:=.ok (mkD n ((own n+1:Nat):Int))) ?_,L2,RP.1,RP.2,tb hn⟩;exact Cm (r:=.ok _) (by rw[gS (x:="put") rfl rfl];rfl) (aW (aA (aB rfl) (aA (aB rfl) (aA (a:=.tup [.str x,.int v]) rfl (aA (a:=.lst []) rfl aE)))) e1)
  ·have e0:(step c S (.put a x v)).2=S:=by
    show(if 0<=a/\a<(c:Int) then(_,_) else(_,_):D×(Nat->Hd)).2=_
    rw[if_neg hv]
   rw[e0];exact⟨ω,ks,rs,kn,own,_,pR L (d:=.put a x v) fun z=>hv z.1,L,I,Q,by omega⟩
 |change a x v=>
  by_cases hv:0<=a/\a<(c:Int)
  ·obtain⟨n,rfl⟩:=Int.eq_ofNat_of_zero_le hv.1;have hn:n<c:=by omega
   have e0:(step c S (.change n x v)).2=mG S n ((S n).change n x v):=by
    show(if 0<=(n:Int)/\(n:Int)<c then(_,_) else(_,_):D×(Nat->Hd)).2=_
    rw[if_pos hv];rfl
   rw[e0];have RP:=BL Q I c0 c8 ht hn x v;have L1:=L.app c0 [.ml (bB rs (kn n n))];obtain⟨ω',e1,L2,_⟩:=uD (own':=n) L1 c0 hn (r:=⟨n,own n+1,wj (x,v),(S n).marksK x⟩) rfl (ob hn) (nk _ _ hn) (by omega);refine⟨ω',ks,_,_,dG own n,_,uP (d:=.change n x v) L I Q c0 c8 (by omega) hn rfl rfl (r:=.ok (mkD n ((own n+1:Nat):Int))) ?_,L2,RP.1,RP.2,tb hn⟩;refine(skip (by rw[gS (x:="change") rfl rfl];rfl)).trans ?_;exact Cm (r:=.ok _) (by rw[gS (x:="change") rfl rfl];rfl) (aW (aA (aB rfl) (aA (aB rfl) (aA (a:=.tup [.str x,.int v]) rfl (aA (aB (d:=.lst (((S n).marksK x).map bK)) rfl) aE)))) e1)
  ·have e0:(step c S (.change a x v)).2=S:=by
    show(if 0<=a/\a<(c:Int) then(_,_) else(_,_):D×(Nat->Hd)).2=_
    rw[if_neg hv]
   rw[e0];exact⟨ω,ks,rs,kn,own,_,pR L (d:=.change a x v) fun z=>hv z.1,L,I,Q,by omega⟩
 |take a x=>
  by_cases hv:0<=a/\a<(c:Int)
  ·obtain⟨n,rfl⟩:=Int.eq_ofNat_of_zero_le hv.1;have hn:n<c:=by omega
   have e0:(step c S (.take n x)).2=mG S n ((S n).take n x):=by
    show(if 0<=(n:Int)/\(n:Int)<c then(_,_) else(_,_):D×(Nat->Hd)).2=_
    rw[if_pos hv];rfl
   rw[e0];have L1:=L.app c0 [.ml (bB rs (kn n n))];have tst:∀ {ω:Om}{ρ:Rho},ρ[6]?=wj (wj (.lst (((S n).marksK x).map bK)))->cH (o2 (jK 8) (oP (aD 6)) (oL (fun ω ds=>pu (fE ds) ω) aP)) ρ ω=wj (.ok (decide ((S n).marksK x=[])),ω):=fun {ω ρ} h6=>cK (eW (aB h6) (b:=.lst []) (ω2:=ω) rfl (by
    show pu ((eqD 8 (.lst (((S n).marksK x).map bK)) (.lst [])).map D.bl) ω=_;cases hm:(S n).marksK x with
    |nil=>rfl
    |cons q l=>rfl))
   by_cases hm:(S n).marksK x=[]
   ·have et:(S n).take n x=S n:=by unfold Hd.take;rw[if_pos hm]
    have eS:mG S n ((S n).take n x)=S:=by
     rw[et]
     funext j
     by_cases h:j=n
     ·rw[h,iK]
     ·rw[iJ h]
    rw[eS];refine⟨_,ks,rs,kn,own,_,uP (d:=.take n x) L I Q c0 c8 (by omega) hn rfl rfl (r:=.ok .non) ?_,L1,I,Q,by omega⟩;refine(skip (by rw[gS (x:="take") rfl rfl];rfl)).trans ?_;refine(skip (by rw[gS (x:="take") rfl rfl];rfl)).trans ?_;exact Cm (r:=.ok .non) (by rw[tst rfl,decide_eq_true hm]) rfl
   ·have RP:=FK Q I c0 c8 ht hn x hm;obtain⟨ω',e1,L2,_⟩:=uD (own':=n) L1 c0 hn (r:=⟨n,own n+1,wk,(S n).marksK x⟩) rfl (ob hn) (nk _ _ hn) (by omega);refine⟨ω',ks,_,_,dG own n,_,uP (d:=.take n x) L I Q c0 c8 (by omega) hn rfl rfl (r:=.ok (.lst (((S n).marksK x).map bK))) ?_,L2,RP.1,RP.2,tb hn⟩;refine(skip (by rw[gS (x:="take") rfl rfl];rfl)).trans ?_;refine(skip (by rw[gS (x:="take") rfl rfl];rfl)).trans ?_;refine(skip (by rw[tst rfl,decide_eq_false hm])).trans ?_;refine(bA (ω1:=ω') (by
     unfold bU;rw[cD (aW (aA (aB (d:=.obj h) rfl) (aA (aB (d:=.int n) rfl) (aA (a:=.non) rfl (aA (aB (d:=.lst (((S n).marksK x).map bK)) rfl) aE)))) e1)])).trans ?_
    exact bH (aB rfl)
  ·have e0:(step c S (.take a x)).2=S:=by
    show(if 0<=a/\a<(c:Int) then(_,_) else(_,_):D×(Nat->Hd)).2=_
    rw[if_neg hv]
   rw[e0];exact⟨ω,ks,rs,kn,own,_,pR L (d:=.take a x) fun z=>hv z.1,L,I,Q,by omega⟩
 |tell a b=>
  by_cases hv:(0<=a/\a<(c:Int))/\(0<=b/\b<(c:Int))
  ·obtain⟨n,rfl⟩:=Int.eq_ofNat_of_zero_le hv.1.1;obtain⟨m,rfl⟩:=Int.eq_ofNat_of_zero_le hv.2.1;have hn:n<c:=by omega
   have hm:m<c:=by omega
   have lp:=nM (ω:=ω) (h:=h) (c:=c) (.tell n m);rw[if_pos ⟨hv.1,decide_eq_true hv.2⟩] at lp;have head:∀(r:Rz D) (ω':Om) (G:OS),G (lU h c (Deed.tell n m).d (wj (.int m)) (wj (.int n)) wk wk wk wk) ω=wj (IL r,ω')->True:=fun _ _ _ _=>trivial;have eqt:cH (o2 (jK 8) (oP (aD 4)) (o2 (fun ω a b=>pu (bE ω a b) ω) (oP (aD 1)) (oP (dC (.int 2))))) (lU h c (Deed.tell n m).d (wj (.int m)) (wj (.int n)) wk wk wk wk) ω=wj (.ok (decide ((n:Int)=m)),ω):=cK (eW (aB (d:=.int n) rfl) (aK (aB (d:=(Deed.tell n m).d) rfl) aU rfl) rfl)
   by_cases hnm:n=m
   ·subst hnm;have e0:(step c S (.tell n n)).2=S:=by
     show(if(0<=(n:Int)/\(n:Int)<c)/\(0<=(n:Int)/\(n:Int)<c) then(if(n:Int)=n then(_,_) else(_,_)) else(_,_):D×(Nat->Hd)).2=_
     rw[if_pos hv,if_pos rfl]
    rw[e0];refine⟨ω,ks,rs,kn,own,.str "same hand",?_,L,I,Q,by omega⟩;refine aT rfl ?_;unfold bQ;refine(aM (L.gCount (aB rfl))).trans ?_;refine(bA lp).trans ?_;refine(aM (aK (aB (d:=(Deed.tell n n).d) rfl) aU rfl)).trans ?_;refine(skip (nD (d:=.tell n n) ⟨_,rfl⟩)).trans ?_;exact Cm (r:=.ok _) (eqt.trans (by rw[decide_eq_true rfl])) rfl
   ·have e0:(step c S (.tell n m)).2=jP S n m:=by
     show(if(0<=(n:Int)/\(n:Int)<c)/\(0<=(m:Int)/\(m:Int)<c) then(if(n:Int)=m then(_,_) else(_,_)) else(_,_):D×(Nat->Hd)).2=_
     rw[if_pos hv,if_neg (by omega)];rfl
    rw[e0];obtain⟨ω',ks',e1,L2,_⟩:=iQ L c0 c8 hn hm;refine⟨ω',ks',rs,_,own,.int ((moR c kn n m m).sum-(kn m m).sum),?_,L2,lF I c0 c8 (by omega) hm hn,Q.hear I c0 c8 (by omega) hn hm hnm,by omega⟩
    ·refine aT rfl ?_;unfold bQ;refine(aM (L.gCount (aB rfl))).trans ?_;refine(bA lp).trans ?_;refine(aM (aK (aB (d:=(Deed.tell n m).d) rfl) aU rfl)).trans ?_;refine(skip (nD (d:=.tell n m) ⟨_,rfl⟩)).trans ?_;refine(skip (eqt.trans (by rw[decide_eq_false (by omega)]))).trans ?_;exact Cm (r:=.ok _) (by rw[gS (x:="tell") rfl rfl];rfl) (aW (aA (aB rfl) (aA (aB rfl) (aA (aK (aB (d:=(Deed.tell n m).d) rfl) aU rfl) aE))) e1)
  ·have e0:(step c S (.tell a b)).2=S:=by
    show(if(0<=a/\a<(c:Int))/\(0<=b/\b<(c:Int)) then(if a=b then(_,_) else(_,_)) else(_,_):D×(Nat->Hd)).2=_
    rw[if_neg hv]
   rw[e0];exact⟨ω,ks,rs,kn,own,_,pR L (d:=.tell a b) fun z=>hv ⟨z.1,of_decide_eq_true z.2⟩,L,I,Q,by omega⟩
 |meet a b=>
  by_cases hv:(0<=a/\a<(c:Int))/\(0<=b/\b<(c:Int))
  ·obtain⟨n,rfl⟩:=Int.eq_ofNat_of_zero_le hv.1.1;obtain⟨m,rfl⟩:=Int.eq_ofNat_of_zero_le hv.2.1;have hn:n<c:=by omega
   have hm:m<c:=by omega
   have lp:=nM (ω:=ω) (h:=h) (c:=c) (.meet n m);rw[if_pos ⟨hv.1,decide_eq_true hv.2⟩] at lp;have eqt:cH (o2 (jK 8) (oP (aD 4)) (o2 (fun ω a b=>pu (bE ω a b) ω) (oP (aD 1)) (oP (dC (.int 2))))) (lU h c (Deed.meet n m).d (wj (.int m)) (wj (.int n)) wk wk wk wk) ω=wj (.ok (decide ((n:Int)=m)),ω):=cK (eW (aB (d:=.int n) rfl) (aK (aB (d:=(Deed.meet n m).d) rfl) aU rfl) rfl)
   by_cases hnm:n=m
   ·subst hnm;have e0:(step c S (.meet n n)).2=S:=by
     show(if(0<=(n:Int)/\(n:Int)<c)/\(0<=(n:Int)/\(n:Int)<c) then(if(n:Int)=n then(_,_) else(_,_)) else(_,_):D×(Nat->Hd)).2=_
     rw[if_pos hv,if_pos rfl]
    rw[e0];refine⟨ω,ks,rs,kn,own,.str "same hand",?_,L,I,Q,by omega⟩;refine aT rfl ?_;unfold bQ;refine(aM (L.gCount (aB rfl))).trans ?_;refine(bA lp).trans ?_;refine(aM (aK (aB (d:=(Deed.meet n n).d) rfl) aU rfl)).trans ?_;refine(skip (nD (d:=.meet n n) ⟨_,rfl⟩)).trans ?_;exact Cm (r:=.ok _) (eqt.trans (by rw[decide_eq_true rfl])) rfl
   ·have e0:(step c S (.meet n m)).2=Gz S n m:=by
     show(if(0<=(n:Int)/\(n:Int)<c)/\(0<=(m:Int)/\(m:Int)<c) then(if(n:Int)=m then(_,_) else(_,_)) else(_,_):D×(Nat->Hd)).2=_
     rw[if_pos hv,if_neg (by omega)];rfl
    rw[e0];have I1:=lF I c0 c8 (by omega) hm hn;have Q1:=Q.hear I c0 c8 (by omega) hn hm hnm;have I2:=lF I1 c0 c8 (by omega) hn hm;have Q2:=Q1.hear I1 c0 c8 (by omega) hm hn (bv hnm);have I3:=lF I2 c0 c8 (by omega) hm hn;have Q3:=Q2.hear I2 c0 c8 (by omega) hn hm hnm;obtain⟨ω1,ks1,e1,L1,_⟩:=iQ L c0 c8 hm hn;obtain⟨ω2,ks2,e2,L2,_⟩:=iQ L1 c0 c8 hn hm;obtain⟨ds,g1,g2⟩:=L2.row n hn;obtain⟨rd,i1,r1⟩:=g2.ix g1 hn;have L3:=L2.setRow c0 hn hm g1 g2 (d:=.lst (iv (upF (upF kn n (moR c kn m n)) m (moR c (upF kn n (moR c kn m n)) n m) n n))) (xs:=upF (upF kn n (moR c kn m n)) m (moR c (upF kn n (moR c kn m n)) n m) n n) rfl (L2.len _ _ hn hn);have same:=JY (c:=c) (kn:=kn) hn hm hnm L.len Q.le _ _ _ _ _ _ rfl rfl rfl rfl rfl rfl;refine⟨_,ks2,rs,_,own,.tup [.int ((moR c kn m n n).sum-(kn n n).sum),.int ((moR c (upF kn n (moR c kn m n)) n m m).sum-(upF kn n (moR c kn m n) m m).sum)],?_,L3.congr same,I3,Q3,by omega⟩
    ·refine aT rfl ?_;unfold bQ;refine(aM (L.gCount (aB rfl))).trans ?_;refine(bA lp).trans ?_;refine(aM (aK (aB (d:=(Deed.meet n m).d) rfl) aU rfl)).trans ?_;refine(skip (nD (d:=.meet n m) ⟨_,rfl⟩)).trans ?_;refine(skip (eqt.trans (by rw[decide_eq_false (by omega)]))).trans ?_;refine(skip (by rw[gS (x:="meet") rfl rfl];rfl)).trans ?_;refine(aM (aW (aA (aB (d:=.obj h) rfl) (aA (aK (aB (d:=(Deed.meet n m).d) rfl) aU rfl) (aA (aB (d:=.int n) rfl) aE))) e1)).trans ?_;refine(aM (aW (aA (aB (d:=.obj h) rfl) (aA (aB (d:=.int n) rfl) (aA (aK (aB (d:=(Deed.meet n m).d) rfl) aU rfl) aE))) e2)).trans ?_;refine(bA (eY (dD (aA (aK (aK (L2.gKnown (aB (d:=.obj h) rfl)) (aB (d:=.int n) rfl) (L2.ixKnown hn)) (aB (d:=.int n) rfl) i1) aE) (by
      have:cA ω2 rd=wj (iv (upF (upF kn n (moR c kn m n)) m (moR c (upF kn n (moR c kn m n)) n m) n n)):=by
       rcases fB r1 with rfl|⟨q,rfl,e⟩
       ·rfl
       ·simp only[cA,fW,e]
      show(cA ω2 rd).map _=_
      rw[this];rfl)) (aK (L2.gKnown (aB (d:=.obj h) rfl)) (aB (d:=.int n) rfl) (L2.ixKnown hn)) (aK (aB (d:=(Deed.meet n m).d) rfl) aU rfl) (lY g1 (by rw[g2.1];exact hm)))).trans ?_
     exact bH (dD (aA (aB rfl) (aA (aB rfl) aE)) rfl)
  ·have e0:(step c S (.meet a b)).2=S:=by
    show(if(0<=a/\a<(c:Int))/\(0<=b/\b<(c:Int)) then(if a=b then(_,_) else(_,_)) else(_,_):D×(Nat->Hd)).2=_
    rw[if_neg hv]
   rw[e0];exact⟨ω,ks,rs,kn,own,_,pR L (d:=.meet a b) fun z=>hv ⟨z.1,of_decide_eq_true z.2⟩,L,I,Q,by omega⟩
end
theorem wB:∀ {xs:List Int}{u:Option D},∃ v,bR (aY 3) bW gK (iv xs) [F,N,R,u] ω=wj (.nx [F,N,R,v],ω)
 |[],u=>⟨u,rfl⟩
 |x::xs,u=>by
  obtain⟨v,e⟩:=wB (F:=F) (N:=N) (R:=R) (ω:=ω) (xs:=xs) (u:=wj (.int x));exact⟨v,e⟩
theorem wA:∀ {ts:List (List Int)}{u v:Option D},(∀ t∈ts,t.length=c)->∃ u' v',bR (aY 2) bW dH (ts.map fun xs=>D.lst (iv xs)) [F,wj (.int c),u,v] ω=wj (.nx [F,wj (.int c),u',v'],ω)
 |[],u,v,_=>⟨u,v,rfl⟩
 |t::ts,u,v,h=>by
  obtain⟨w,e1⟩:=wB (F:=F) (N:=wj (.int c)) (R:=wj (.lst (iv t))) (ω:=ω) (xs:=t) (u:=v);obtain⟨u',v',e2⟩:=wA (F:=F) (c:=c) (ω:=ω) (ts:=ts) (u:=wj (.lst (iv t))) (v:=w) fun t' ht=>h t' (ag _ ht);refine⟨u',v',?_⟩;have b2:dH [F,wj (.int c),wj (.lst (iv t)),v] ω=wj (.nx [F,wj (.int c),wj (.lst (iv t)),w],ω):=by
   unfold dH;rw[skip (BQ (kZ (k:=true) (tru_ok (pC (aB (d:=.lst (iv t)) rfl) (by simp[CM,fW,Ce,wT])))) (AS (a:=((iv t).length:Nat)) (b:=(c:Int)) (pA (aB (d:=.lst (iv t)) rfl) (.inl rfl)) (aB rfl) (by unfold iv;rw[ao,h t aq])))];refine fJ ?_;unfold bN oIL;rw[cD (x:=(iv t,bW)) (ω1:=ω) (by rw[bI (aB (d:=.lst (iv t)) rfl)];rfl)];exact e1
  refine(dZ rfl rfl (b2)).trans ?_;exact e2
theorem IK {ts:List (List Int)} (h:∀ t∈ts,t.length=c) (hc:ts.length=c) (ω:Om):eO [.lst (ts.map fun xs=>D.lst (iv xs)),.int c] ω=wj (.ok (.bl true),ω):=by
 obtain⟨u,v,e⟩:=wA (F:=wj (.lst (ts.map fun xs=>D.lst (iv xs)))) (c:=c) (ω:=ω) (ts:=ts) (u:=wk) (v:=wk) h;refine aT rfl ?_;unfold jX;refine(skip (BQ (kZ (k:=true) (tru_ok (pC (aB (d:=.lst (ts.map fun xs=>D.lst (iv xs))) rfl) (by simp[CM,fW,Ce,wT])))) (AS (a:=((ts.map fun xs=>D.lst (iv xs)).length:Nat)) (b:=(c:Int)) (pA (aB (d:=.lst (ts.map fun xs=>D.lst (iv xs))) rfl) (.inl rfl)) (aB rfl) (by rw[ao,hc])))).trans ?_;refine(bA (fJ (by
  unfold bN oIL;rw[cD (x:=(ts.map fun xs=>D.lst (iv xs),bW)) (ω1:=ω) (by rw[bI (aB (d:=.lst (ts.map fun xs=>D.lst (iv xs))) rfl)];rfl)];exact e))).trans ?_
 rfl
theorem QL (c:Nat):Rel c (fun _=>0) (fun _=>Hd0 c) [] (fun _ _=>ar c 0) where
 knows:=fun i hi=>by
  show ar c (ar c (0:Int))=_;apply jn;intro j;rw[fm,ax]
  by_cases h:j<c
  ·rw[if_pos h,d8 h];rfl
  ·rw[if_neg h,cy (by simp;omega)];rfl
 recs:=⟨by simp,fun r hr=>by simp at hr,fun r hr=>by simp at hr⟩
 tab:=fun i hi e=>by simp[Hd0,eI,bB]
 clo:=fun i hi r hr=>by simp at hr
 le:=fun i j hi hj t ht=>ln _
theorem Bp (c0:0<c) (c8:c<=8):∀(ds:List Deed) {S:Nat->Hd}{ω:Om}{ks:Nat->Nat}{rs:List Rec}{kn:Nat->Nat->List Int}{own:Nat->Nat},LawAt B ω c h dd oo kk ks rs kn->HInv c own S->Rel c own S rs kn->tot c own+ds.length<64->
  ∃ ω' ks' rs' kn' own',(∀(bd:BR) (chk:Om->Bool) (G:OS) (ρ:Option D->Rho),(∀ ω:Om,B.length<=ω.length->(∀ n:Nat,n<B.length->ω[n]?=B[n]?)->chk ω=true)->(∀(d:Deed) u,bd d.d (ρ u)=wj (ρ (wj d.d)))->(∀(d:Deed) (ω ω':Om) (ans:D),cE [.obj h,d.d] ω=wj (.ok ans,ω')->G (ρ (wj d.d)) ω=wj (.nx (ρ (wj d.d)),ω'))->∀ u,∃ u',bR bd chk G (ds.map Deed.d) (ρ u) ω=wj (.nx (ρ u'),ω'))/\LawAt B ω' c h dd oo kk ks' rs' kn'/\HInv c own' (IJ c ds S).2/\Rel c own' (IJ c ds S).2 rs' kn'/\tot c own'<64
 |[],S,ω,ks,rs,kn,own,L,I,Q,ht=>⟨ω,ks,rs,kn,own,fun bd chk G ρ hc hb hg u=>⟨u,by
   show(if chk ω=true then _ else wk)=_
   rw[if_pos (hc ω L.bas.1 L.bas.2)]⟩,L,I,Q,by simpa using ht⟩
 |d::ds,S,ω,ks,rs,kn,own,L,I,Q,ht=>by
  rw[bz] at ht;obtain⟨ω1,ks1,rs1,kn1,own1,ans,e1,L1,I1,Q1,t1⟩:=Nx L I Q c0 c8 (by omega) d;obtain⟨ω2,ks2,rs2,kn2,own2,e2,L2,I2,Q2,t2⟩:=Bp c0 c8 ds L1 I1 Q1 (by omega);refine⟨ω2,ks2,rs2,kn2,own2,fun bd chk G ρ hc hb hg u=> ?_,L2,I2,Q2,t2⟩;obtain⟨u',e3⟩:=e2 bd chk G ρ hc hb hg (wj d.d);refine⟨u',?_⟩;exact(dZ (hc ω L.bas.1 L.bas.2) (hb d u) (hg d ω ω1 ans e1)).trans e3
noncomputable abbrev IA (sc:D) (c n h:Nat) (T Sn Kn Kp:D) (v8 v9 v10:Option D):Rho:=[wj sc,wj (.int c),wj (.obj n),wj T,wj Sn,wj Kn,wj Kp,wj (.obj h),v8,v9,v10]
theorem AX (I:HInv c own S) (Q:Rel c own S rs kn) (c0:0<c) (c8:c<=8) (ht:tot c own<64):∀(r s:Nat) {ω:Om}{v9 v10:Option D},LawAt B ω c h dd oo kk ks rs kn->s+r=c->
  ∃ ω' v9' v10',bR (aY 9) bW nK (qX s r) (IA sc c n h (AI c S) (AJ c S) Kn Kp v8 v9 v10) ω=wj (.nx (IA sc c n h (AI c S) (AJ c S) Kn Kp v8 v9' v10'),ω')
 |0,s,ω,v9,v10,L,hs=>⟨ω,v9,v10,rfl⟩
 |r+1,s,ω,v9,v10,L,hs=>by
  have hsc:s<c:=by omega
  have O:=(I s hsc).1.ok c0 c8 ht;obtain⟨rd,i1,r1⟩:=L.ixRow (ω:=ω) (fun _ _=>rfl) hsc hsc;have rl:=nG Q.recs;have pr:=sA L c0 Q.recs r1 (L.len _ _ hsc hsc) (by omega) (xI O Q.recs ht (Q.tab s hsc));have L1:=L.app c0 [.ml (bB rs (kn s s))];have xT:∀ ω:Om,bE ω (AI c S) (.int s)=wj (.lst (S s).ents):=fun ω=>by
   show atI _ (s:Int)=_;exact tJ (by rw[ax,d8 hsc];rfl)
  have xS:∀ ω:Om,bE ω (AJ c S) (.int s)=wj (.lst (iv ((S s).seen s))):=fun ω=>by
   show atI _ (s:Int)=_;exact tJ (by rw[ax,d8 hsc];rfl)
  have b1:nK (IA sc c n h (AI c S) (AJ c S) Kn Kp v8 (wj (.int s)) v10) ω=wj (.nx (IA sc c n h (AI c S) (AJ c S) Kn Kp v8 (wj (.int s)) (wj rd)),ω++[.ml (bB rs (kn s s))]):=by
   unfold nK;refine(aM (aK (aK (L.gKnown (aB (d:=.obj h) rfl)) (aB (d:=.int s) rfl) (L.ixKnown hsc)) (aB (d:=.int s) rfl) i1)).trans ?_;have t1:cH (o2 (Bj 8) (o2 (fun ω a b=>pu (bE ω a b) ω) (oP (aD 4)) (oP (aD 9))) (oP (aD 10))) (IA sc c n h (AI c S) (AJ c S) Kn Kp v8 (wj (.int s)) (wj rd)) ω=wj (.ok false,ω):=cK (eW (aK (aB (d:=AJ c S) rfl) (aB (d:=.int s) rfl) (xS ω)) (aB (d:=rd) rfl) (by
    have hd:iH ω rd=.lst (iv (kn s s)):=by
     unfold iH;rw[show fW ω rd=wj (iv (kn s s)) from r1]
    show pu ((eqD 8 (.lst (iv ((S s).seen s))) (iH ω rd)).map fun k=>D.bl (!k)) ω=_;rw[hd,Q.seen hsc,lM ((Pl.iv (n:=0) (by rw[L.len _ _ hsc hsc];omega)).mono (by decide))];rfl))
   have t2:cH (o2 (Bj 8) (o2 (fun ω a b=>pu (bE ω a b) ω) (oP (aD 3)) (oP (aD 9))) (bO dR (aC (oP (aD 7)) (aC (oP (aD 10)) aP)))) (IA sc c n h (AI c S) (AJ c S) Kn Kp v8 (wj (.int s)) (wj rd)) ω=wj (.ok false,ω++[.ml (bB rs (kn s s))]):=cK (eW (aK (aB (d:=AI c S) rfl) (aB (d:=.int s) rfl) (xT ω)) (aW (aA (aB (d:=.obj h) rfl) (aA (aB (d:=rd) rfl) aE)) pr) (by
    show pu ((eqD 8 (.lst (S s).ents) (.lst (S s).ents)).map fun k=>D.bl (!k)) _=_;rw[lM ((Pl.lst (n:=2) (hX (b4 O.entsLen (by decide))) fun d hd=>Pl.ent (O.entsEnt d hd)).mono (by decide))];rfl))
   refine(mB (ω1:=ω++[.ml (bB rs (kn s s))]) (by
    unfold oOr;exact(bI t1).trans t2)).trans ?_
   rfl
  obtain⟨ω',w9,w10,e2⟩:=AX (n:=n) (sc:=sc) (Kn:=Kn) (Kp:=Kp) (v8:=v8) I Q c0 c8 ht r (s+1) (v9:=wj (.int s)) (v10:=wj rd) L1 (by omega);refine⟨ω',w9,w10,?_⟩;rw[gG];refine(dZ rfl rfl (b1)).trans ?_;exact e2
theorem law_true (ns:List Int) (hns:ns.length<=63):∃ ω',p_law [.scr (ns.map D.int)] []=wj (.ok (.bl true),ω'):=by
 obtain⟨x0,e0⟩:=NH ns 0 [];have r8:=DU (x:=x0*48271 % 1069) (q:=8) (by decide);obtain⟨c,hc,c0,c8⟩:∃ c:Nat,([1,2,3,4,2,3,4,8]:List Int).getD (x0*48271 % 1069 % 8).toNat 0=(c:Int)/\0<c/\c<=8:=by
  generalize x0*48271 % 1069 % 8=r at r8
  have hr:r=0∨r=1∨r=2∨r=3∨r=4∨r=5∨r=6∨r=7:=by omega
  rcases hr with rfl|rfl|rfl|rfl|rfl|rfl|rfl|rfl
  ·exact⟨1,rfl,by decide,by decide⟩
  ·exact⟨2,rfl,by decide,by decide⟩
  ·exact⟨3,rfl,by decide,by decide⟩
  ·exact⟨4,rfl,by decide,by decide⟩
  ·exact⟨2,rfl,by decide,by decide⟩
  ·exact⟨3,rfl,by decide,by decide⟩
  ·exact⟨4,rfl,by decide,by decide⟩
  ·exact⟨8,rfl,by decide,by decide⟩
 obtain⟨xs,es,hxs⟩:=Da (f:=oP (aD 0)) (ρ:=[wj (.scr (ns.map D.int)),wj (.int c),wk,wk,wk,wk,wk,wk,wk,wk,wk]) (ω:=[]) (ns:=ns) (lo:=wj 1) (hi:=wj 37) (l:=dSo (dC (.int 1))) (u:=dSo (dC (.int 37))) (aB rfl) rfl rfl;obtain⟨ds,hds,ed⟩:=Hy (xs:=xs) (show 1<=c from c0) c8 (by omega) [];have hl:ds.length<64:=by omega
 obtain⟨ω1,hω1⟩:∃ ω1:Om,ω1=[]++[Ob.ml (ds.map Deed.d)]:=⟨_,rfl⟩;rw[<- hω1] at ed;have g1:ω1[0]?=wj (.ml (ds.map Deed.d)):=by rw[hω1];rfl
 have D1:DeedsAt ω1 (.obj 0) ds:=by unfold DeedsAt fW;simp only[g1]
 obtain⟨ω2,ea,K2,own2,I2,t2⟩:=yB c0 c8 hl D1;have g2:ω2[0]?=wj (.ml (ds.map Deed.d)):=by rw[K2.2 0 (dY g1) (by simp)];exact g1
 obtain⟨ω3,h,dd,oo,kk,ks,en,L3⟩:=Cc c0 c8 ω2;obtain⟨ω4,ks4,rs4,kn4,own4,e4,L4,I4,Q4,t4⟩:=Bp c0 c8 ds L3 (NN c) (QL c) (by rw[NY];omega);have I5:HInv c own4 (jM c ds):=I4;have Q5:Rel c own4 (jM c ds) rs4 kn4:=Q4;obtain⟨u8,e4'⟩:=e4 (aY 8) (jQ 0 (ds.map Deed.d)) uJ (fun u=>IA (.scr (ns.map D.int)) c 0 h (AI c (jM c ds)) (AJ c (jM c ds)) (Ly c (jM c ds)) (Lx c (jM c ds)) u wk wk) (fun ω hb hk=>pD (by rw[hk 0 (dY g2)];exact g2)) (fun d u=>rfl) (fun d ω ω' ans e=>by
  unfold uJ bU;rw[cD (aW (aA (aB (d:=.obj h) rfl) (aA (aB (d:=d.d) rfl) aE)) e)]) wk
 obtain⟨ω5,v9,v10,e5⟩:=AX (B:=ω2) (n:=0) (sc:=.scr (ns.map D.int)) (Kn:=Ly c (jM c ds)) (Kp:=Lx c (jM c ds)) (v8:=u8) I5 Q5 c0 c8 t4 c 0 (v9:=wk) (v10:=wk) L4 (by omega);have tabs:dM [AI c (jM c ds),.int c] ω2=wj (.ok (.bl true),ω2):=by
  have:=NJ (ts:=(bq c).map fun i=>(jM c ds i).ents) (c:=c) (fun t ht d hd=>by
   obtain⟨i,hi,rfl⟩:=aw.mp ht;exact((I2 i (ie.mp hi)).1.ok c0 c8 t2).entsEnt d hd) (by simp) ω2
  rw[ia] at this;exact this
 have rows:eO [AJ c (jM c ds),.int c] ω2=wj (.ok (.bl true),ω2):=by
  have:=IK (ts:=(bq c).map fun i=>(jM c ds i).seen i) (c:=c) (fun t ht=>by
   obtain⟨i,hi,rfl⟩:=aw.mp ht;exact(I2 i (ie.mp hi)).1.seenLen (ie.mp hi)) (by simp) ω2
  rw[ia] at this;exact this
 refine⟨ω5,aT rfl ?_⟩;unfold Nj;refine(aM (d:=.int c) (ω1:=[]) (by
  rw[<- hc];exact Ee (xs:=[1,2,3,4,2,3,4,8]) rfl (pP (a:=x0) (aW (aA (aB (d:=.scr (ns.map D.int)) rfl) (aA aU aE)) e0) aU (by decide) (by decide)) r8.1 r8.2)).trans ?_
 refine(aM (aW (aA es (aA (aB (d:=.int c) rfl) aE)) ed)).trans ?_;refine(bA (ρ1:=[wj (.scr (ns.map D.int)),wj (.int c),wj (.obj 0),wj (AI c (jM c ds)),wj (AJ c (jM c ds)),wj (Ly c (jM c ds)),wj (Lx c (jM c ds)),wk,wk,wk,wk]) (ω1:=ω2) (by
  unfold BJ;rw[cD (aW (aA (aB (d:=.int c) rfl) (aA (aB (d:=.obj 0) rfl) aE)) ea)];rfl)).trans ?_
 refine(skip (BQ (kZ (k:=true) (tru_ok (aW (aA (aB (d:=AI c (jM c ds)) rfl) (aA (aB (d:=.int c) rfl) aE)) tabs))) (kZ (k:=true) (tru_ok (aW (aA (aB (d:=AJ c (jM c ds)) rfl) (aA (aB (d:=.int c) rfl) aE)) rows))))).trans ?_;refine(aM (aW (aA (aB (d:=.int c) rfl) aE) en)).trans ?_;refine(bA (fJ (by
  unfold bN oIL;rw[cD (x:=(ds.map Deed.d,jQ 0 (ds.map Deed.d))) (ω1:=ω3) (by
   rw[bI (aB (d:=.obj 0) rfl)];have g3:ω3[0]?=wj (.ml (ds.map Deed.d)):=by rw[L3.bas.2 0 (dY g2)];exact g2
   have:mO ω3 (.obj 0)=wj (ds.map Deed.d,jQ 0 (ds.map Deed.d)):=by simp only[mO,g3]
   show oR (pu (mO ω3 (.obj 0)) ω3)=_;rw[this];rfl)]
  exact e4'))).trans ?_
 refine(bA (fJ (by
  unfold bN;rw[cD (mH (c:=c) (aB rfl) (by omega))];exact e5))).trans ?_
 rfl
noncomputable def top (i:Nat):cr:=PySem.Challenge.pw_meetbook_k02_whole_tables_by_what_is_see.main.body.getD i (.Pass ⟨0,0,0,0⟩)
noncomputable abbrev lfs:List (Str×Str×cr):=[("has_seen","",top 5),("joined","",top 6),("common","",top 7),("newer","",top 8),("left_by","",top 10),("done","",top 15),("answer_to","",top 16),("after","",top 17),("_law_whole","",top 19),("_law_at","",top 20),("_law_all_after","",top 21),("_law_odd","",top 22),("_law_word","",top 23),("_law_deed_of","",top 24),("_law_drawn","",top 25),("_law_new","",top 26),("_law_present","",top 27),("_law_noted","",top 28),("_law_gets_told","",top 29),("_law_due_answer","",top 30),("_law_are_tables","",top 31),("_law_are_rows","",top 32)]
noncomputable abbrev PV:List (Str×Str×cr):=[("seen","Hand.seen",cB (top 11) 1),("entries","Hand.entries",cB (top 11) 2),("known","Hand.known",cB (top 11) 3),("in_mind","Hand.in_mind",cB (top 11) 4),("new_mark","Hand.new_mark",cB (top 11) 9),("put","Hand.put",cB (top 11) 5),("forget","Hand.forget",cB (top 11) 12),("take_out","Hand.take_out",cB (top 11) 11),("marks_of","Hand.marks_of",cB (top 11) 10),("change","Hand.change",cB (top 11) 6),("take","Hand.take",cB (top 11) 7),("hear","Hand.hear",cB (top 11) 8)]
noncomputable abbrev PU:List (Str×Str×cr):=[("hand","Hall.hand",cB (top 13) 1),("pair","Hall.pair",cB (top 13) 2),("put","Hall.put",cB (top 13) 3),("change","Hall.change",cB (top 13) 4),("take","Hall.take",cB (top 13) 5),("tell","Hall.tell",cB (top 13) 6),("meet","Hall.meet",cB (top 13) 7)]
structure Txt (K:aa) (mg:Str->Option af) (cls exC:Nat->ae):Prop where
 bn:Bn mg
 dict:mg "dict"=wk
 c0:Cls K (cls 0)
 m0:mg "Hand"=wj (.ref (cls 0))
 c1:Cls K (cls 1)
 m1:mg "Hall"=wj (.ref (cls 1))
 a0_kept:NoAttr K (cls 0) "kept"
 a0_knows:NoAttr K (cls 0) "knows"
 a0_number:NoAttr K (cls 0) "number"
 a0_table:NoAttr K (cls 0) "table"
 a1_hands:NoAttr K (cls 1) "hands"
 x0:mg "NoHand"=wj (.ref (exC 0))
 x1:mg "SameHand"=wj (.ref (exC 1))
 exs:∃ tl1 tl2,ownIn K (exC 0) tl1/\ownIn K (exC 1) tl2/\(b9 (exC 1)::tl2).contains (.ref (exC 0))=false
 fn:AllP (fun x _ s=>FF K mg x s) lfs
 mt0:AllP (FM K (cls 0)) PV
 in0:FI K (cls 0) "__init__" "Hand.__init__" (cB (top 11) 0)
 mt1:AllP (FM K (cls 1)) PU
 in1:FI K (cls 1) "__init__" "Hall.__init__" (cB (top 13) 0)
set_option compiler.extract_closed false
local macro_rules
 | `(tactic|apply_rules [$ts,*])=>do
 let [hu,hu1,hu6,hr,hE,hR,T]:=[`hu,`hu1,`hu6,`hr,`hE,`hR,`T].map Lean.mkIdent|pj
 let R <- `(tactic|apply_rules [$ts,*])
 let hm <- `(by first|exact $hr|exact($hr).mono (by decide))
 let hp <- `(by first|exact OF|exact($hE).pas)
 let cs <- ts.getElems.mapM fun u=>let t:Lean.TSyntax `term:=⟨u.raw[0]⟩;`(tactic|first|(refine Gk $t $hm $hp ?_) <;> $R|(refine JK $t $hm $hp ?_ ?_) <;> $R|(refine Gn $t $hm ?_ $hp ?_) <;> $R|(refine JM $t $hm ?_ $hp ?_) <;> $R)
 `(tactic|first
  |(with_reducible apply DG);first|with_reducible exact Bs|with_reducible exact Br|with_reducible exact NB|with_reducible exact Pp|with_reducible exact Iu Bs|exact dvk (by kernel_rfl)
  |with_reducible exact MT
  |with_reducible exact KI
  |with_reducible exact JG
  |with_reducible exact Gh
  |with_reducible exact Mp
  |with_reducible exact Pn
  |with_reducible exact Pk
  |(with_reducible apply JT) <;> $R
  |(with_reducible apply OV) <;> $R
  |(with_reducible apply JO) <;> $R
  |(with_reducible apply MP) <;> $R
  |(with_reducible apply MS) <;> $R
  |(with_reducible apply MI) <;> $R
  |(with_reducible apply ML) <;> $R
  |(with_reducible apply MM) <;> $R
  |(with_reducible apply JS) <;> $R
  |(with_reducible apply JH) <;> $R
  |(with_reducible apply JE) <;> $R
  |(with_reducible apply JQ) <;> $R
  |(with_reducible apply MQ) <;> $R
  |(with_reducible apply OU) <;> $R
  |(with_reducible apply OX) <;> $R
  |(with_reducible apply OJ) <;> $R
  |(with_reducible apply OL) <;> $R
  |(with_reducible apply ON) <;> $R
  |(with_reducible apply OO) <;> $R
  |(with_reducible apply Jl) <;> $R
  |(with_reducible apply Ml) <;> $R
  |(with_reducible apply Mj) <;> $R
  |(with_reducible apply OM) <;> $R
  |(with_reducible apply Gc) <;> $R
  |(with_reducible apply Mm) <;> $R
  |(with_reducible apply Jm) <;> $R
  |(with_reducible apply MK) <;> $R
  |(with_reducible apply MR) <;> $R
  |(with_reducible apply MJ) <;> $R
  |(with_reducible apply Gi) <;> $R
  |(with_reducible apply JI) <;> $R
  |(with_reducible apply MO) <;> $R
  |(with_reducible apply MH) <;> $R
  |(with_reducible apply DH) <;> $R
  |(with_reducible apply JF) <;> $R
  |(with_reducible apply JC) <;> $R
  |(with_reducible apply DC) <;> $R
  |(with_reducible apply MF) <;> $R
  |(with_reducible apply MG) <;> $R
  |(with_reducible apply JA) <;> $R
  |(with_reducible apply Gg) <;> $R
  |(with_reducible apply Mg) <;> $R
  |(with_reducible apply Jk) <;> $R
  |(with_reducible apply OH) <;> $R
  |(with_reducible apply Mf) <;> $R
  |(with_reducible apply Mi) <;> $R
  |(with_reducible apply Mh) <;> $R
  |(with_reducible apply Qu) <;> $R
  |(with_reducible apply Js) <;> $R
  |(with_reducible apply Mo) <;> $R
  |(with_reducible apply Mn) <;> $R
  |(with_reducible apply OP) <;> $R
  |(with_reducible apply Jq) <;> $R
  |(with_reducible apply Mr) <;> $R
  |(with_reducible apply Jr) <;> $R
  |(with_reducible apply Jo) <;> $R
  |(with_reducible apply Mq) <;> $R
  |(with_reducible apply Jp) <;> $R
  |(with_reducible apply Ju) <;> $R
  |(with_reducible apply KH) <;> $R
  |(with_reducible show OE _ _ _ _ (oL (lfL GU) _));(refine gP (Ff rfl) (FitL.lift Hi) ?_ ($T).bn.min boot.min ?_) <;> $R
  |(with_reducible show OE _ _ _ _ (oL (lfL xB) _));(refine gP (Fg rfl) (FitL.lift Hj) ?_ ($T).bn.max boot.max ?_) <;> $R
  |(with_reducible show OE _ _ _ _ (oL zI _));(refine gP (xU rfl) Ha ?_ ($T).bn.sum boot.sum ?_) <;> $R
  |(with_reducible show OE _ _ _ _ (oL (lfL NS) _));(refine gP (xU rfl) (FitL.lift Kx) ?_ ($T).bn.sum boot.sum ?_) <;> $R
  |(with_reducible show OE _ _ _ _ (oL (GR _) _));(refine gP (Fd $hu6) Hc ?_ ($T).bn.sorted boot.sorted ?_) <;> $R
  |(with_reducible show OE _ _ _ _ (oL (EA _) _));(refine gP (Fe rfl $hu6) Hf ?_ ($T).bn.sorted boot.sorted ?_) <;> $R
  |(with_reducible show OE _ _ _ _ (oL iV _));(refine gP HK Hk ?_ ($T).bn.len boot.len ?_) <;> $R
  |(with_reducible show OE _ _ _ _ (oL (lfL NU) _));(refine kX Fi (FitL.lift KB) ?_ ($T).bn.int boot.int ?_) <;> $R
  |(with_reducible show OE _ _ _ _ (oL sS _));(refine kX mR EJ ?_ ($T).bn.list boot.list ?_) <;> $R
  |(with_reducible show OE _ _ _ _ (oL iG _));(refine kX mR EI ?_ ($T).bn.list boot.list ?_) <;> $R
  |(with_reducible show OE _ _ _ _ (oL Ey _));(refine kX uW GZ ?_ ($T).bn.tuple boot.tuple ?_) <;> $R
  |(with_reducible show OE _ _ _ _ (Go _ _));(refine JD $hu6 rfl ?_ ($T).bn.sorted ?_) <;> $R
  |(with_reducible show OE _ _ _ _ (oQ "str" _));(refine wJ ?_ ?_ ($T).bn.isinstance ?_ ($T).bn.str boot.str) <;> $R
  |(with_reducible show OE _ _ _ _ (oQ "int" _));(refine wJ ?_ ?_ ($T).bn.isinstance ?_ ($T).bn.int boot.int) <;> $R
  |(with_reducible show OE _ _ _ _ (oQ "bool" _));(refine wJ ?_ ?_ ($T).bn.isinstance ?_ ($T).bn.bool boot.bool) <;> $R
  |(with_reducible show OE _ _ _ _ (oQ "list" _));(refine wJ ?_ ?_ ($T).bn.isinstance ?_ ($T).bn.list boot.list) <;> $R
  |(with_reducible show OE _ _ _ _ (oQ "tuple" _));(refine wJ ?_ ?_ ($T).bn.isinstance ?_ ($T).bn.tuple boot.tuple) <;> $R
  |(with_reducible show OE _ _ _ _ (dJ _ _ _ _ _ _));(refine Gm ?_ rfl rfl (by kernel_rfl) ?_ (fun _ _ _ _ _ _=>⟨?_,?_,?_⟩)) <;> $R
  |(with_reducible show OE _ _ _ _ (BU _));(refine JN ?_ rfl rfl (by simp) (by decide)) <;> $R
  |(with_reducible show PPs _ _ (_::_) _ _);(refine FV (DG Br) ?_ ?_) <;> $R
  |(with_reducible show PPs _ _ [] _ _);(refine IW) <;> $R
  |(with_reducible show OSt _ _ _ _ (vZ _ _ _ _ _));(obtain⟨_,_,o0,o1,hne⟩:=($T).exs;refine Jn ($hE).ex rfl rfl ⟨_,rfl⟩ ?_ ?_ ($T).x0 ($T).x1 o0 o1 hne (fun _ _ _ $hE=> ?_) (fun _=> ?_) (fun _=> ?_)) <;> $R
  |with_reducible exact Bs
  |with_reducible exact Iu Bs
  |(with_reducible show DE _ (.Name _ _) _);exact dvk (by kernel_rfl)
  |(with_reducible show PG _ (.Name _ _) _);exact QB (by kernel_rfl)
  |(with_reducible show PG _ (.Tuple [_,_] _ _) _);exact QA rfl (by kernel_rfl) (by kernel_rfl)
  |(with_reducible show PG _ (.Tuple [_,_,_,_] _ _) _);exact Qz rfl (by kernel_rfl) (by kernel_rfl) (by kernel_rfl) (by kernel_rfl)
  |(with_reducible show Gl _ _);unfold Gl;kernel_rfl
  |(with_reducible show OSt _ _ _ _ (aX _ _));(refine QI (by kernel_rfl) ?_) <;> $R
  |(with_reducible show OSt _ _ _ _ (aX _ _));(refine Gd ?_ (by kernel_rfl) rfl rfl (by kernel_rfl) ?_ (fun _ _ _ _ _ _=>⟨?_,?_,?_⟩)) <;> $R
  |(with_reducible show OSt _ _ _ _ (AH _ _));obtain⟨_,_,o0,o1,hne⟩:=($T).exs;first|exact AO rfl $hR (by rfl) ($T).x0 o0 Br|exact AO rfl $hR (by rfl) ($T).x1 o1 Br
  |exact rfl
  |(intro _;exact rfl)
  |(intro _ _;exact rfl)
  |exact($T).bn.range
  |exact($T).bn.zip
  |exact($T).c0
  |exact($T).c1
  |exact($T).a0_kept
  |exact($T).a0_knows
  |exact($T).a0_number
  |exact($T).a0_table
  |exact($T).a1_hands
  |exact $hu
  |exact $hu1
  |exact $hu6
  |with_unfolding_all rfl
  |decide
  $[| $cs:tactic]*)
set_option compiler.extract_closed false
local macro_rules
 | `(tactic|solve_by_elim [$ts,*])=>do
 let [hu,hu1,hu6,hr,hE,hR]:=[`hu,`hu1,`hu6,`hr,`hE,`hR].map Lean.mkIdent|pj
 `(tactic|(intro _ _ _ _ _ _ _ $hr $hu $hu1 $hu6 $hE $hR;conv=>(arg 4;whnf));apply_rules [$ts,*])
section
seal PE PT PA PS PSs PI PG PW PO PPs Lb
variable {P:db}{w:df}{K:aa}{mg:Str->Option af}{base:cx}{cls exC:Nat->ae} (T:Txt K mg cls exC)
include T
theorem sW:nR P w K mg base cls exC 1 "has_seen" CD fG:=dfD (T.fn.get 0 rfl) (by solve_by_elim [])
theorem HH:nR P w K mg base cls exC 1 "joined" HU gN:=dfD (T.fn.get 1 rfl) (by solve_by_elim [])
theorem HJ:nR P w K mg base cls exC 1 "common" HV nH:=dfD (T.fn.get 2 rfl) (by solve_by_elim [])
theorem KK:nR P w K mg base cls exC 1 "newer" KZ yR:=dfD (T.fn.get 3 rfl) (by solve_by_elim [])
theorem gY:qY P w K mg base cls exC 1 0 "seen" Ah bX:=dfM (T.mt0.get 0 rfl) T.c0 (by solve_by_elim [])
theorem ET:nR P w K mg base cls exC 2 "left_by" Fl kU:=dfD (T.fn.get 4 rfl) (by solve_by_elim [gY T,sW T])
theorem uR:NV P w K mg base cls exC 1 0 "Hand" vA dS:=dfI T.in0 T.m0 (by solve_by_elim [])
theorem gF:qY P w K mg base cls exC 1 0 "entries" rJ bV:=dfM (T.mt0.get 1 rfl) T.c0 (by solve_by_elim [])
theorem xM:qY P w K mg base cls exC 1 0 "known" yC gA:=dfM (T.mt0.get 2 rfl) T.c0 (by solve_by_elim [])
theorem rF:qY P w K mg base cls exC 1 0 "in_mind" rH eP:=dfM (T.mt0.get 3 rfl) T.c0 (by solve_by_elim [])
theorem iX:qY P w K mg base cls exC 2 0 "new_mark" qP dA:=dfM (T.mt0.get 4 rfl) T.c0 (by solve_by_elim [gY T])
theorem sX:qY P w K mg base cls exC 3 0 "put" CF eK:=dfM (T.mt0.get 5 rfl) T.c0 (by solve_by_elim [iX T])
theorem lO:qY P w K mg base cls exC 2 0 "forget" vB fC:=dfM (T.mt0.get 6 rfl) T.c0 (by solve_by_elim [sW T,HJ T])
theorem iW:qY P w K mg base cls exC 3 0 "take_out" qO cZ:=dfM (T.mt0.get 7 rfl) T.c0 (by solve_by_elim [lO T])
theorem iY:qY P w K mg base cls exC 2 0 "marks_of" qQ dB:=dfM (T.mt0.get 8 rfl) T.c0 (by solve_by_elim [gF T])
theorem uS:qY P w K mg base cls exC 4 0 "change" vC dU:=dfM (T.mt0.get 9 rfl) T.c0 (by solve_by_elim [iW T,sX T,iY T])
theorem zU:qY P w K mg base cls exC 4 0 "take" Ag fM:=dfM (T.mt0.get 10 rfl) T.c0 (by solve_by_elim [iW T,iX T,iY T])
theorem qB:qY P w K mg base cls exC 3 0 "hear" Ai cN:=dfM (T.mt0.get 11 rfl) T.c0 (by solve_by_elim [lO T,HH T,gF T,ET T,gY T,KK T])
theorem uT:NV P w K mg base cls exC 3 1 "Hall" vD gO:=dfI T.in1 T.m1 (by solve_by_elim [uR T])
theorem gZ:qY P w K mg base cls exC 1 1 "hand" An bM:=dfM (T.mt1.get 0 rfl) T.c1 (by solve_by_elim [])
theorem qC:qY P w K mg base cls exC 2 1 "pair" Al bY:=dfM (T.mt1.get 1 rfl) T.c1 (by solve_by_elim [gZ T])
theorem Cw:qY P w K mg base cls exC 4 1 "put" CG gH:=dfM (T.mt1.get 2 rfl) T.c1 (by solve_by_elim [gZ T,sX T])
theorem uU:qY P w K mg base cls exC 5 1 "change" vE dW:=dfM (T.mt1.get 3 rfl) T.c1 (by solve_by_elim [gZ T,uS T])
theorem zW:qY P w K mg base cls exC 5 1 "take" Ak fO:=dfM (T.mt1.get 4 rfl) T.c1 (by solve_by_elim [gZ T,zU T])
theorem zV:qY P w K mg base cls exC 4 1 "tell" Aj fN:=dfM (T.mt1.get 5 rfl) T.c1 (by solve_by_elim [qB T,qC T])
theorem zX:qY P w K mg base cls exC 4 1 "meet" Am fP:=dfM (T.mt1.get 6 rfl) T.c1 (by solve_by_elim [qB T,qC T])
theorem NF:nR P w K mg base cls exC 6 "done" NL jS:=dfD (T.fn.get 5 rfl) (by solve_by_elim [zX T,zV T,zW T,uU T,Cw T])
theorem zT:nR P w K mg base cls exC 7 "answer_to" Af eJ:=dfD (T.fn.get 6 rfl) (by solve_by_elim [NF T])
theorem KL:nR P w K mg base cls exC 8 "after" La yS:=dfD (T.fn.get 7 rfl) (by solve_by_elim [rF T,xM T,gY T,gF T,zT T,uT T])
theorem pY:nR P w K mg base cls exC 1 "_law_whole" Ac fK:=dfD (T.fn.get 8 rfl) (by solve_by_elim [])
theorem HG:nR P w K mg base cls exC 1 "_law_at" HS tY:=dfD (T.fn.get 9 rfl) (by solve_by_elim [])
theorem qA:nR P w K mg base cls exC 9 "_law_all_after" qN fL:=dfD (T.fn.get 10 rfl) (by solve_by_elim [KL T])
theorem EU:nR P w K mg base cls exC 1 "_law_odd" Fm eV:=dfD (T.fn.get 11 rfl) (by solve_by_elim [])
theorem Cv:nR P w K mg base cls exC 1 "_law_word" CC jH:=dfD (T.fn.get 12 rfl) (by solve_by_elim [])
theorem uQ:nR P w K mg base cls exC 2 "_law_deed_of" uZ gM:=dfD (T.fn.get 13 rfl) (by solve_by_elim [EU T,Cv T])
theorem zS:nR P w K mg base cls exC 3 "_law_drawn" Ae kD:=dfD (T.fn.get 14 rfl) (by solve_by_elim [uQ T])
theorem EV:nR P w K mg base cls exC 1 "_law_new" Fo oK:=dfD (T.fn.get 15 rfl) (by solve_by_elim [])
theorem lN:nR P w K mg base cls exC 1 "_law_present" uY dR:=dfD (T.fn.get 16 rfl) (by solve_by_elim [])
theorem zR:nR P w K mg base cls exC 1 "_law_noted" Ad cX:=dfD (T.fn.get 17 rfl) (by solve_by_elim [])
theorem pZ:nR P w K mg base cls exC 1 "_law_gets_told" qM cY:=dfD (T.fn.get 18 rfl) (by solve_by_elim [])
theorem mV:nR P w K mg base cls exC 2 "_law_due_answer" mX cE:=dfD (T.fn.get 19 rfl) (by solve_by_elim [pZ T,zR T,lN T])
theorem mW:nR P w K mg base cls exC 2 "_law_are_tables" mY dM:=dfD (T.fn.get 20 rfl) (by solve_by_elim [pY T])
theorem rE:nR P w K mg base cls exC 2 "_law_are_rows" rG eO:=dfD (T.fn.get 21 rfl) (by solve_by_elim [pY T])
theorem Pq {f:ae}{fd:jk} (F:NW K mg "law" (top 33) f fd):rP P w K mg base (CX1 P w exC) 10 f fd Pu (spO cls exC K p_law):=Bv F.fn (by constructor <;> first|rfl|decide+kernel) (by solve_by_elim [lN T,mV T,EV T,rE T,mW T,qA T,zS T,HG T])
end
noncomputable abbrev cs:List Str:=["Hand","Hall"]
noncomputable abbrev xs:List Str:=["NoHand","SameHand"]
theorem all_mk {P:db}{w:df}{K:aa}{h:cx}{mg:Str->Option af}{fa C0 C1 E0 E1:ae}{tl0 tl1:List af} (X:K.In h) (G:h.Ns ca mg) (hfa:mg "law"=wj (.ref fa))
  (T:Bn mg)
  (hdict:cm K ca "dict"=wj wk)
  (n0:clsIn K "Hand" C0) (c0:Cls K C0) (mk0:mkIn K C0)
  (a0_kept:NoAttr K C0 "kept")
  (a0_knows:NoAttr K C0 "knows")
  (a0_number:NoAttr K C0 "number")
  (a0_table:NoAttr K C0 "table")
  (n1:clsIn K "Hall" C1) (c1:Cls K C1) (mk1:mkIn K C1)
  (a1_hands:NoAttr K C1 "hands")
  (e0:clsIn K "NoHand" E0) (o0:ownIn K E0 tl0)
  (e1:clsIn K "SameHand" E1) (o1:ownIn K E1 tl1)
  (hne:(b9 E1::tl1).contains (.ref E0)=false)
  (If:AllP (fun x _ s=>FnIn K x s) lfs) (I:FnIn K "law" (top 33))
  (M0:AllP (mtF K C0) PV) (i0:mtF K C0 "__init__" "Hand.__init__" (cB (top 11) 0))
  (M1:AllP (mtF K C1) PU) (i1:mtF K C1 "__init__" "Hall.__init__" (cB (top 13) 0))
  :∃ fd:jk,(∀(s:am) (v:af),sg s fd ⟨[v],[]⟩ [("_law_script",v)])/\∀ base:cx,K.In base->base.Ns ca mg->rP P w K mg base (CX1 P w (jA K xs)) 10 fa fd ["_law_script"] (spO (jA K cs) (jA K xs) K p_law):=by
 have q0:jA K cs 0=C0:=nP rfl n0;subst q0;have q1:jA K cs 1=C1:=nP rfl n1;subst q1;have r0:jA K xs 0=E0:=nP rfl e0;subst r0;have r1:jA K xs 1=E1:=nP rfl e1;subst r1;have TT:Txt K mg (jA K cs) (jA K xs):=⟨T,c5 X G hdict,c0,m9 X G n0,c1,m9 X G n1,a0_kept,a0_knows,a0_number,a0_table,a1_hands,m9 X G e0,m9 X G e1,⟨tl0,tl1,o0,o1,hne⟩,If.imp fun _ _ _ h=>h.fnAt X G,M0.imp fun _ _ _ h=>h.out,i0.mk mk0,M1.imp fun _ _ _ h=>h.out,i1.mk mk1⟩;obtain⟨a_law,fd_law,F_law⟩:=I.fnAt X G;obtain rfl:a_law=fa:=by
  have e:=hfa.symm.trans F_law.at_;cases e;rfl
 refine⟨fd_law,fun s v=> ?_,fun base kb nb=>Pq TT F_law⟩;obtain⟨oc,od,kV,doc,pm,an,cdv,ct,osl,rfl,_,_⟩:=F_law.fn.ex;exact .of_eq rfl
end L2.MB.Lw
open PySem PySem.W PyProof.Rows
set_option maxRecDepth 100000 in
set_option maxHeartbeats 0 in
theorem PySem.Challenge.cw_meetbook_k02_whole_tables_by_what_is_see_holds : PySem.Challenge.rw_meetbook_k02_whole_tables_by_what_is_see.Holds := by
 refine Hq0.tpQ ?_
 k_fill
 refine L2.MB.law_walkO (l:=PySem.Challenge.rw_meetbook_k02_whole_tables_by_what_is_see) (k:=10) (x:="_law_script") (φ:=L2.MB.Lw.p_law) (cs:=L2.MB.Lw.cs) (es:=L2.MB.Lw.xs) rfl rfl ⟨rfl,by decide,by decide⟩ (fun w h Y=>PySem.W.kIn_of Y) (fun ns h=>L2.MB.Lw.law_true ns h) ?F
 case F=>
  intro w mg fa h KX G hmg;have T:L2.MB.Bn mg:=by
   refine' L2.MB.bn_mk KX G ?_ ?_ ?_ ?_ ?_ ?_ ?_ ?_ ?_ ?_ ?_ ?_ ?_ ?_ <;> k_is
  refine' L2.MB.Lw.all_mk KX G hmg T ?_ ?_ ?_ ?_ ?_ ?_ ?_ ?_ ?_ ?_ ?_ ?_ ?_ ?_ ?_ ?_ ?_ ?_ ?_ ?_ ?_ ?_ ?_
  any_goals (with_reducible show L2.MB.clsIn _ _ _);unfold L2.MB.clsIn;k_is
  any_goals (with_reducible show L2.Cls _ _);refine' ⟨?_,?_,?_,?_⟩ <;> k_is
  any_goals (with_reducible show L2.MB.mkIn _ _);refine' ⟨?_,?_⟩ <;> k_is
  any_goals (with_reducible show L2.NoAttr _ _ _);unfold L2.NoAttr;k_is
  any_goals (with_reducible show L2.MB.ownIn _ _ _);(refine' L2.MB.own_mk ?p1 ?p2 ?p3 ?p4 ?p5 ?p6;(case p1=>k_is);(case p2=>rfl);(case p3=>rfl);(case p4=>(refine' L2.MB.tail_mk ?q1 ?q2 ?q3 ?q4;(case q1=>k_is);(case q2=>(refine' L2.MB.nsOk_mk ?l ?h;(case l=>k_is);(case h=>rfl)));(case q3=>k_is);(case q4=>rfl)));(case p5=>(refine' L2.MB.nsOk_mk ?l ?h;(case l=>k_is);(case h=>rfl)));(case p6=>k_is))
  any_goals (with_reducible show L2.MB.AllP _ _);dsimp only[L2.MB.AllP];(repeat' with_reducible apply And.intro)
  all_goals first|k_is|exact rfl|exact trivial|(refine' L2.MB.fnIn_mk ?z1 ?z2 ?z3 ?z4;(case z1=>k_is);(case z2=>k_is);(case z3=>k_is);(case z4=>k_is))|(refine' ⟨_,L2.MB.mtIn_mk ?z1 ?z2 ?z3 ?z4 ?z5⟩;(case z1=>k_is);(case z2=>k_is);(case z3=>k_is);(case z4=>k_is);(case z5=>k_is))
end
