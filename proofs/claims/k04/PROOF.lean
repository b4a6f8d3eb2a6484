import PyProof.Rows.All
import Wide.All
import OpenK.AllK
import Wide.FinOn
import Lean
import PyProof.EqAt
import PyProof.EqKinds
import PyProof.TupleCall
import PyProof.NeKinds
import PyProof.StationsW
import PyProof.ExcBaseAll.ValueError
import KE.KSortTup
import PySem.Challenge.RW_meetbook_k04_whole_kept_and_forgotten
set_option compiler.extract_closed false
section
set_option Elab.async false
open PySem PySem.W PyProof.Rows
def Hq0.vwQ : Program := { PySem.Challenge.pw_meetbook_k04_whole_kept_and_forgotten with main := { PySem.Challenge.pw_meetbook_k04_whole_kept_and_forgotten.main with body := [1, 2, 3, 5, 6, 7, 8, 10, 11, 13, 15, 16, 17, 19, 20, 21, 22, 23, 24, 25, 26, 27, 28, 29, 30, 31, 32, 33, 34].filterMap fun i => PySem.Challenge.pw_meetbook_k04_whole_kept_and_forgotten.main.body[i]? } }
local macro_rules
 | `(tactic| o_head $H) => `(tactic| (refine holds_open (q := Hq0.vwQ) (loose := []) (Xt := fun s => xlAt Hq0.vwQ [] s && recOk [] s) (XP := XL Hq0.vwQ []) (Yf := Hook.obs $H) (Ya := Hook.val $H) (YP := Hook.says $H) (N := 5022) ?hl (Hook.of $H) (Hook.keeps $H) (fun s e => xl_of s (Bool.and_eq_true_iff.mp e).1) XL.keeps (by rfl) (by rfl) (by rfl) (fun s e => recFacts_of (Bool.and_eq_true_iff.mp e).2) (by rfl) (by first | assumption | decide +kernel) (by decide +kernel) ⟨rfl, rfl, rfl, rfl, rfl, by decide +kernel⟩ ?hw ?hc; (case hl => (intro w; kernel_rfl))))
set_option maxRecDepth 100000 in
set_option maxHeartbeats 0 in
open_top Hq0.tpQ for PySem.Challenge.rw_meetbook_k04_whole_kept_and_forgotten
end
open PySem.W renaming Frag→aa, nsIn→cx, mg_none_of→dc, hideAll→f6, hideAll_none→f7, keepIn→gx, findIn→hX, emptyDict→hZ, fnOf→iu, instObj→i8, codeIn→j0, hideAll_get→kc, kia_one→ky, nsOkIn→lh, of_hideAll→mh, tailIn→nh, mg_of→n9, plainGet→oa, isFn→o9, plainGet_of→pi, lookIn→pj, KdlSrc→p0, callWith_K→p7, methodObj→qh, hasDictIn→qi, takerIn→rn, makesIn→rp, kat_one→sg, cellsFrom_some→si, methodCall_KW→tm, kdu_collect→uo, plainOver→vh, handedIn→vo, OpenLaw→wg, kat_nil→wm, WalkO→ww, KasT→wy
open PySem renaming wpAny_bind→ae, Addr→af, Value→ag, wpAny_pure→ar, Shared→au, starEach→ay, wpAny→az, sizeLine_eq→bv, Expr→bw, tupleKind→b4, mainGlobals→ce, Stmt→cz, Heap→c9, Program→dm, bootBuiltins→dq, World→dr, backTo→dw, wpAny_truthy_bool→dy, Around→d8, cLine→fe, wpAny_newObj_type→fj, sysModules→fu, compareOp→fx, mem_of_lookup→gn, entryOfKey→gp, foldedSetIterable→gq, cellsFrom→g8, wpAny_mono→g9, NameKind→ia, wpAny_call_entry→ie, attributeBase→ig, keywordEach→ir, behindInMarks→iy, wpAny_holding→iz, wpAny_typeNameOfWhole_valiter→jd, wpAny_typeNameOfWhole_keyiter→je, wpAny_callSpecial?_slot→jf, swapsWith→ji, storedH→jo, FuncData→jp, wpAny_dictEntries→jr, Paired→j3, binaryOp→j4, backToKw→j5, wpAny_typeNameOf_valiter→j7, wpAny_typeNameOf_keyiter→j8, Scope→ke, Keyword→kj, tupleKind_room_in1→ku, wpAny_dictEpoch→kz, DictEntry→ln, assignEach→lr, atKey→ls, sliceBounds→l0, wpAny_passesOwn→l9, rawInt→mj, getMethod→mm, wpAny_Call_Name_kw→mq, standAt→ng, pyNext→nu, codeAny→oz, wpAny_isOneOf_valiter→o6, wpAny_execs_nil→o7, letOwnedTupleGo→o8, getItem→pk, callerA→pp, intText?→pq, wpAny_fieldsOf→pv, wpAny_setField→px, firstArgMember→pz, wpAny_attempt→qf, wpAny_loadPart_at→qk, valueAt→qt, codeAny_mono→qu, callWith→qv, wpAny_forIn_list→qw, IsPart→qy, wpAny_comprehension_free→qz, putAt→r9, wpAny_field→ss, wpAny_isTrue_Compare1→tf, BindsTo→tj, newFunctionEnv→tu, wpAny_notOrdered_dict→tz, wpAny_isOneOf_keyiter→t4, typeLookup→t9, wpAny_pyIter_keyiter→uc, wpAny_updateDictKeys→ud, wpAny_standAt→uh, swapsWithSole→ui, swappedStores→uj, wpAny_newList→ul, wpAny_isSubtype_exc→um, wpAny_dictFind_heap→ur, Within→ux, seqIndex_neg→u4, noteFrame→u6, setFlight→u7, call_meetsIn→va, seqIndex_of→vn, call→wf
open List renaming mem_cons_of_mem→ai, mem_cons→aj, mem_map→ak, length_map→am, getElem?_append_left→ao, mem_cons_self→aq, getD_eq_getElem?_getD→av, replicate→aw, getElem?_map→ax, map_cons→bg, getElem?_eq_getElem→bh, size_toArray→bi, range→bj, zipWith→bq, getElem?_eq_some_iff→bt, mem_filter→bu, length_cons→b7, length_append→b8, nodup_cons→b9, length_set→ca, mem_append→cm, mem_singleton→cq, append_nil→cr, getElem?_eq_none→cu, not_mem_nil→c4, range'→c6, map_append→c7, filter_cons_of_neg→da, filter_cons_of_pos→db, mem_append_left→de, mem_range→df, length_filter_le→dh, getElem?_range→di, getElem?_append_right→dn, all_eq_true→du, getElem?_set_self→d7, mem_append_right→eu, map_congr_left→fg, length_zipWith→fh, map_map→fk, replicate_succ→fw, length_range→fy, getElem?_replicate→fz, getElem?_set_ne→f9, mem_of_getElem?→ga, lookup_cons→gk, append_assoc→gs, find?_cons→gz, mem_filterMap→g7, filter_sublist→io, getElem_mem→i5, filter_append→i6, mem_or_eq_of_mem_set→i7, flatten_cons→i9, ext_getElem?→jb, zipWith_cons_cons→jh, length_replicate→jn, nodup_append→jt, getElem?_of_mem→jv, lookup→jx, range'_succ→ka, filterMap_cons→kh, length_nil→kq, filter_nil→k6, length→k7, pairwise_map→k8, map_nil→k9, length_singleton→lg, any_cons→lu, pairwise_iff_getElem→me, zip_cons_cons→mv, length_filterMap_le→m8, mem_range'_1→nq, length_take→ol, filter_cons→om, take_succ_eq_append_getElem→ou, any_eq_true→ow, mem_flatMap→ox, set_set→pc, range_succ→pd, sum_append→pe, map_eq_cons_iff→pf, getElem_range→p8, all_cons→qe, drop_eq_getElem_cons→ql, mem_of_find?_eq_some→qp, length_eq_zero_iff→rm, of_mem_zip→rq, range_succ_eq_map→sw, take_of_length_le→sy, getElem?_zipWith→tw, range_eq_range'→uf, Nodup→ug, map_eq_nil_iff→uq, filter_eq_self→ut, find?_eq_none→vb, set_cons_zero→vc, set_cons_succ→vd, map_set→ve, mem_replicate→vg, getElem?_inj→vk, nodup_range'→vm, length_drop→vp, drop_length→vt, zipWith_map→vx, getElem_map→vy, foldl→wc, foldl_cons→wd, nil_append→we, find?_some→wl, nodup_nil→wp, forIn_nil→wq
open PySem.Heap renaming get?_push_of_some→bc, lt_size→bp, get?_push_size→b0, get?_update_other→fm, SameBut→f8, get?_update_self→gy, size_push→ik, DictOfH→iw, size_update→oq
open Nat renaming le_refl→bf, lt_of_lt_of_le→cg, le_trans→ci, ne_of_lt→cj, lt_irrefl→gv, le_of_lt→ip, zero_le→iq, min_self→jk, lt_of_le_of_lt→my, lt_or_ge→m7, lt_succ_self→oj, not_lt→ub, le_of_eq→uz
open Bool renaming and_eq_true→br, false_ne_true→bx, false_eq_true→d9, or_eq_true→ib, not_eq_true'→ja, false_and→wo, not_false→wr
open Ne renaming symm→bz
open Option.some renaming inj→cf
open PySem.Value renaming ref→ck, none→ii, type→lq, bool→t8, int→uv, str→uw, isStrOf→wv
open Int renaming toNat_natCast→cw, natCast_nonneg→jm, le_refl→jy, le_trans→vf
open Array renaming getD_eq_getD_getElem?→cy, length_toList→ff, getElem?_toList→ic, getElem?_eq_getElem→jw, getElem?_eq_some_iff→lw, isEmpty_iff→nj, perm_iff_toList_perm→qg, getElem?_eq_none→s0, all_toList→vv
open PySem.NameKind renaming cell→c5, free→hV
open PySem.F renaming slot_dict_valueiterator_next→gg, slot_dict_keyiterator_next→gu, args_dict_valueiterator_next_1→l7, entry_dict_valueiterator_next→mf, args_dict_keyiterator_next_1→mz, entry_dict_keyiterator_next→ni, slot_dict_iter→n8, slot_dict_values_iter→ph, args_tuple_add_2→qx, slot_dict_values→rc, slot_dict_update→rg, entry_tuple_add→rh, plainAttrs_dict→rj, slot_tuple_add→sj, slot_list_append→tq, slot_dict_pop→t7
open PyProof.Rows renaming seqObj→hW, slot_tuple_getitem→jg, envOfC→jj, IntsAre→km, callWith_type1→lm, AllBare→m9, sortedHeap→qm, get?_update_seq→se, subscriptTail_builtinR→su, subscriptTail→uk, lt_int→vz
open True renaming intro→ij
open PySem.Builtin.Dict_items renaming ownsTuple→im, newIterator→wk, dictOf→wx
open False renaming elim→i4
open PySem.Paired renaming length→jc
open PySem.Obj renaming data_mapFields→jl, mapSeq→kt, mapFields→lz, isFreed_of_fields→o5, mapDictKeys→sf, cls_mapFields→vj
open PySem.Str renaming ofString→jq
open PySem.Builtin.Slice renaming slicePlaces→ju, sliceAdjust→ma, sliceApplied→qd
open Sum renaming inr→jz, inl→oy
open PySem.Builtin.Tuple renaming tupleExact→j6, tupleHashOf→qq
open Std.Legacy renaming Range→j9
open Classical renaming propDecidable→ki, byContradiction→qr
open PySem.Builtin.Dict renaming showsAll→lj
open PySem.Heap.SameBut renaming update→l8
open Option renaming isSome_iff_exists→mr, map_eq_some_iff→nv, isSome_map→qj, map_some→sh, isSome_some→u5, getD_none→vq, some→xa, none→xb
open PySem.Builtin.List renaming listTooLong→mw
open ForInStep renaming yield→pb
open Lean.Macro renaming throwUnsupported→p9
open PySem.Calls renaming Name_function_global→qc, call_function_entry→qo, callWith_builtin→sv, evalArgs_plain→ua
open Std.Legacy.Range renaming forIn_eq_forIn_range'→uu, size→wz
open PySem.Data renaming cell→uy, dict→wu
open PySem.Around renaming under→u0
open PySem.Code renaming isFrame→u3
open PySem.SeqAt renaming EqAt→wb
open PySem.PassesOwn renaming never→wj
open Array.Perm renaming refl→wn
open PyProof.Rows.IsTup renaming new→wt
open PySem PySem.Spec PyProof.Rows
set_option Elab.async false
set_option linter.all false
set_option maxRecDepth 100000
set_option maxHeartbeats 4000000
section
namespace L2
abbrev Key:=Sum Int Str
noncomputable def CT:Key->ag->Bool
 |.inl k,v=>Value.isInt k v
 |.inr x,v=>wv x v
noncomputable def RB (w:dr):Key->Int
 |.inl k=>hashInt k
 |.inr x=>hashStr w x
theorem cM:∀ {k:Key}{v:ag},CT k v=true->(∃ i t,k=oy i/\v=uv i t)∨(∃ x t,k=jz x/\v=uw x t)
 |.inl i,v,h=>by
  obtain⟨t,e⟩:=Value.isInt_shape (k:=i) (v:=v) h;exact .inl ⟨i,t,rfl,e⟩
 |.inr x,v,h=>by
  obtain⟨t,e⟩:=Value.isStrOf_shape (x:=x) (v:=v) h;exact .inr ⟨x,t,rfl,e⟩
theorem EV (i:Int) (t:Tok):CT (.inl i) (.int i t)=true:=by simp[CT,Value.isInt]
theorem EU (x:Str) (t:Tok):CT (.inr x) (.str x t)=true:=by simp[CT,wv]
theorem Of (a b:Int):decide ((oy a:Key)=oy b)=(a==b):=by
 by_cases e:a=b
 ·subst e;simp
 ·have h:¬(oy a:Key)=oy b:=fun q=>e (Sum.inl.inj q);rw[decide_eq_false h];exact(beq_eq_false_iff_ne.mpr e).symm
theorem Oc (a b:Str):decide ((jz a:Key)=jz b)=decide (a=b):=by
 by_cases e:a=b
 ·subst e;simp
 ·have h:¬(jz a:Key)=jz b:=fun q=>e (Sum.inr.inj q);rw[decide_eq_false h,decide_eq_false e]
theorem Oe (a:Int) (b:Str):decide ((oy a:Key)=jz b)=false:=decide_eq_false (fun q=>nomatch q)
theorem Od (a:Str) (b:Int):decide ((jz a:Key)=oy b)=false:=decide_eq_false (fun q=>nomatch q)
noncomputable def aN (prog:dm) (w:dr):PySem.KeyKind prog w Key where
 is:=CT
 hash:=RB w
 inj:=fun v a b ha hb=>by
  rcases cM ha with⟨i,t,rfl,rfl⟩|⟨x,t,rfl,rfl⟩
  ·rcases cM hb with⟨j,u,rfl,e⟩|⟨y,u,rfl,e⟩
   ·injection e with e1 _;rw[e1]
   ·exact nomatch e
  ·rcases cM hb with⟨j,u,rfl,e⟩|⟨y,u,rfl,e⟩
   ·exact nomatch e
   ·injection e with e1 _;rw[e1]
 byValue:=fun k v h=>by
  rcases cM h with⟨i,t,rfl,rfl⟩|⟨x,t,rfl,rfl⟩ <;> rfl
 pyHash:=fun hv h=>by
  rcases cM hv with⟨i,t,rfl,rfl⟩|⟨x,t,rfl,rfl⟩
  ·exact wpAny_pyHash_int h
  ·exact wpAny_pyHash_str h
 eqBool:=fun hu hv h=>by
  rcases cM hu with⟨i,t,rfl,rfl⟩|⟨x,t,rfl,rfl⟩
  ·rcases cM hv with⟨j,u,rfl,rfl⟩|⟨y,u,rfl,rfl⟩
   ·rw[Of] at h;exact wpAny_eqBool_int h
   ·rw[Oe] at h;exact SeqAt.EqAt.int_str i t y u _ _ _ _ h
  ·rcases cM hv with⟨j,u,rfl,rfl⟩|⟨y,u,rfl,rfl⟩
   ·rw[Od] at h;exact SeqAt.EqAt.str_int x t j u _ _ _ _ h
   ·rw[Oc] at h;exact wpAny_eqBool_str h
 «strs» :=fun k x t v h=>by
  rcases cM h with⟨i,u,rfl,e⟩|⟨y,u,rfl,e⟩
  ·exact nomatch e
  ·injection e with e1 _
   subst e1;cases v <;> rfl
theorem Ai (prog:dm) (w:dr) (i:Int) (t:Tok):(aN prog w).is (.inl i) (.int i t)=true:=EV i t
theorem Ah (prog:dm) (w:dr) (x:Str) (t:Tok):(aN prog w).is (.inr x) (.str x t)=true:=EU x t
end L2
namespace L2
inductive V where
 |non|bl (b:Bool)|int (i:Int)|str (x:Str)|byt (b:Array UInt8)|flt (b:UInt64)|ref (a:af)|ty (n:String)
 deriving DecidableEq
def RelV:V->ag->Prop
 |.non,u=>u=ii
 |.bl b,u=>u=t8 b
 |.int i,u=>∃ t,u=uv i t
 |.str x,u=>∃ t,u=uw x t
 |.byt b,u=>∃ t,u=Value.bytes b t
 |.flt b,u=>∃ t,u=Value.float b t
 |.ref a,u=>u=ck a
 |.ty n,u=>u=lq n
abbrev Vals:List V->List ag->Prop:=j3 RelV
theorem Vals.length (r:Vals xs us):xs.length=us.length:=jc r
theorem Vals.get:∀ {xs:List V}{us:List ag}{i:Nat}{x:V},Vals xs us->xs[i]?=xa x->∃ u,us[i]?=xa u/\RelV x u
 |_,_,_,_,.nil,e=>by simp at e
 |_,_,0,_,.cons r _,e=>by simp at e;subst e;exact⟨_,rfl,r⟩
 |_,_,i+1,x,.cons _ t,e=>by
  obtain⟨u,h1,h2⟩:=Vals.get (i:=i) (x:=x) t (by simpa using e);exact⟨u,by simpa using h1,h2⟩
theorem Vals.set (r:RelV x u):∀ {xs:List V}{us:List ag} (i:Nat),Vals xs us->Vals (xs.set i x) (us.set i u)
 |_,_,_,.nil=>.nil
 |_,_,0,.cons _ t=>.cons r t
 |_,_,i+1,.cons q t=>.cons q (Vals.set r i t)
theorem Vals.append:∀ {xs ys:List V}{us ws:List ag},Vals xs us->Vals ys ws->Vals (xs++ys) (us++ws)
 |_,_,_,_,.nil,s=>s
 |_,_,_,_,.cons r t,s=>.cons r (Vals.append t s)
theorem Vals.take:∀ {xs:List V}{us:List ag} (n:Nat),Vals xs us->Vals (xs.take n) (us.take n)
 |_,_,0,_=>.nil
 |_,_,_+1,.nil=>.nil
 |_,_,n+1,.cons r t=>.cons r (Vals.take n t)
theorem Vals.drop:∀ {xs:List V}{us:List ag} (n:Nat),Vals xs us->Vals (xs.drop n) (us.drop n)
 |_,_,0,r=>r
 |_,_,_+1,.nil=>.nil
 |_,_,n+1,.cons _ t=>Vals.drop n t
def RelO:Option V->Option ag->Prop
 |some v,xa u=>RelV v u
 |none,xb=>True
 |_,_=>False
def KV {κ:Type}:List (κ×V)->List (κ×ag)->Prop:=j3 fun(p:κ×V) (q:κ×ag)=>p.1=q.1/\RelV p.2 q.2
noncomputable def kV:Key->V
 |.inl i=>.int i
 |.inr x=>.str x
inductive HO where
 /-- a list -/
 |lst (xs:List V)
 /-- a tuple (never changes) -/
 |tup (xs:List V)
 /-- a dict whose keys are ints and texts;one whose keys are tuples of ints and texts (the empty one is both) -/
 |dK (kvs:List (Key×V))|dT (kvs:List (List Key×V))
 /-- a set of ints:its members,its size -/
 |set (S:Int->Bool) (n:Nat)
 /-- an instance of the class at C,its dict at dx,its attributes -/
 |ins (C dx:af) (fs:List (Str×V))
 /-- the dict of the instance at x -/
 |own (x:af)
 /-- the dict of an exception -/
 |xd (fs:List (Str×V))
 /-- a bound method,f of x -/
 |met (f x:af)
 /-- a range object lo,lo+1,.. below hi -/
 |rng (lo hi:Int)
 /-- a thing that is known to the object (the script;a dict while a loop walks it):read,never written while it is so -/
 |frz (o:Obj) (u:HO)
 /-- a code object's table -/
 |tbl (ps:Array ag)
 /-- any other thing,by what is true of its one object (a def of one's own:SetO a S n:=HO.ext fun h=> ..) -/
 |ext (φ:c9->Prop)
abbrev Hp:=af->Option HO
noncomputable def upd (H:Hp) (a:af) (o:HO):Hp:=fun b=>if b=a then xa o else H b
theorem aP:upd H a o a=xa o:=by unfold upd;rw[if_pos rfl]
theorem aF (h:b≠a):upd H a o b=H b:=by unfold upd;rw[if_neg h]
theorem KW {H:Hp} (h:H a=xa o) (h':H b=xa u) (d:o≠u):a≠b:=by
 intro e;subst e;rw[h] at h';exact d (cf h')
theorem aM {H:Hp} (h:H a=xa o) (h':H b=xb):a≠b:=by
 intro e;subst e;rw[h] at h';cases h'
section
variable (P:dm) (w:dr)
def ObjOk (H:Hp) (h:c9) (a:af):HO->Prop
 |.lst xs=>xs.length<=sizeLine/\∃(its:List ag) (n:Nat),Vals xs its/\h.get? a=xa { cls:=.type "list",data:=.seq its.toArray n }
 |.tup xs=>xs.length<=sizeLine/\∃ its:List ag,Vals xs its/\IsTup h a its.toArray
 |.dK kvs=>kvs.length<=sizeLine/\(a==fu)=false/\∃ vs,KV kvs vs/\h.DictOf (aN P w) a vs
 |.dT kvs=>kvs.length<=sizeLine/\(a==fu)=false/\∃ xs:List (List Key×af×ag),
   j3 (fun(p:List Key×V) (q:List Key×af×ag)=>p.1=q.1/\H q.2.1=xa (.tup (p.1.map kV))/\RelV p.2 q.2.2) kvs xs/\
   ∃ o es ep,h.get? a=xa o/\o.ExactDict/\o.data=.dict es ep/\es.toList=xs.map (gp (b4 (aN P w)))/\(xs.map (·.1)).Nodup
 |.set S n=>h.SetOf (intKind P w) a S n
 |.ins C dx fs=>H dx=xa (.own a)/\fs.length<=1000/\dx≠a/\h.get? a=xa (i8 C dx)/\
   ∃ mA,h.Ns1 dx mA/\(∀ f,RelO (fs.lookup f) (mA f))/\ux mA (fs.map (·.1))
 |.own _=>∃ o,h.get? a=xa o
 |.xd fs=>∃ mA,h.Ns1 a mA/\∀ f,RelO (fs.lookup f) (mA f)
 |.rng lo hi=>∃ t u v,h.get? a=xa { cls:=.type "range",data:=.fields #[.int lo t,.int hi u,.int 1 v] }
 |.frz o u=>h.get? a=xa o/\ObjOk H h a u
 |.tbl ps=>h.get? a=xa { cls:=.none,data:=.fields ps }
 |.met f x=>h.get? a=xa (qh (.ref f) (.ref x))
 |.ext φ=>φ h/\(∃ o,h.get? a=xa o)/\∀ h1 h2:c9,φ h1->(∀ o,h1.get? a=xa o->h2.get? a=xa o)->φ h2
def HOk (H:Hp) (h:c9):Prop:=∀ a o,H a=xa o->ObjOk P w H h a o
end
section
variable {P:dm}{w:dr}{H H':Hp}{h h':c9}{a:af}{o:HO}
theorem ObjOk.lt (x:ObjOk P w H h a o):a<h.objs.size:=by
 cases o with
 |lst xs=>obtain⟨_,_,_,_,e⟩:=x;exact bp e
 |tup xs=>obtain⟨_,_,_,p⟩:=x;exact p.lt
 |dK kvs=>obtain⟨_,_,_,_,o,_,_,e,_⟩:=x;exact bp e
 |dT kvs=>obtain⟨_,_,_,_,o,_,_,e,_⟩:=x;exact bp e
 |set S n=>obtain⟨o,_,_,_,e,_⟩:=x;exact bp e
 |ins C dx fs=>obtain⟨_,_,_,e,_⟩:=x;exact bp e
 |own y=>obtain⟨_,e⟩:=x;exact bp e
 |xd fs=>obtain⟨_,⟨_,_,_,e,_⟩,_⟩:=x;exact bp e
 |rng lo hi=>obtain⟨_,_,_,e⟩:=x;exact bp e
 |frz ob u=>obtain⟨e,_⟩:=x;exact bp e
 |tbl ps=>exact bp (show h.get? a=xa _ from x)
 |met f y=>exact bp (show h.get? a=xa _ from x)
 |ext φ=>obtain⟨_,⟨_,e⟩,_⟩:=x;exact bp e
theorem j3.mapP:∀ {l₁:List α}{l₂:List β},j3 F l₁ l₂->(∀ a b,F a b->G a b)->j3 G l₁ l₂
 |_,_,.nil,_=>.nil
 |_,_,.cons r t,f=>.cons (f _ _ r) (j3.mapP t f)
theorem ObjOk.stay (x:ObjOk P w H h a o) (k:∀ b u,(b=a∨H b=xa (.own a))->h.get? b=xa u->h'.get? b=xa u)
  (ho:∀ b,H b=xa (.own a)->H' b=xa (.own a)) (ht:∀ b xs,H b=xa (.tup xs)->H' b=xa (.tup xs)):ObjOk P w H' h' a o:=by
 induction o with
 |lst xs=>obtain⟨z,its,n,r,e⟩:=x;exact⟨z,its,n,r,k _ _ (.inl rfl) e⟩
 |tup xs=>obtain⟨z,its,r,ob,e,c⟩:=x;exact⟨z,its,r,ob,k _ _ (.inl rfl) e,c⟩
 |dK kvs=>obtain⟨z,y,vs,r,ob,es,ep,e,c⟩:=x;exact⟨z,y,vs,r,ob,es,ep,k _ _ (.inl rfl) e,c⟩
 |dT kvs=>
  obtain⟨z,y,xs,r,ob,es,ep,e,c⟩:=x;exact⟨z,y,xs,j3.mapP r fun p q z=>⟨z.1,ht _ _ z.2.1,z.2.2⟩,ob,es,ep,k _ _ (.inl rfl) e,c⟩
 |set S n=>obtain⟨ob,es,ep,t,e,c⟩:=x;exact⟨ob,es,ep,t,k _ _ (.inl rfl) e,c⟩
 |ins C dx fs=>
  obtain⟨d,z,ne,e,mA,⟨od,es,ep,e2,c⟩,r⟩:=x;exact⟨ho _ d,z,ne,k _ _ (.inl rfl) e,mA,⟨od,es,ep,k _ _ (.inr d) e2,c⟩,r⟩
 |own y=>obtain⟨ob,e⟩:=x;exact⟨ob,k _ _ (.inl rfl) e⟩
 |xd fs=>obtain⟨mA,⟨od,es,ep,e,c⟩,r⟩:=x;exact⟨mA,⟨od,es,ep,k _ _ (.inl rfl) e,c⟩,r⟩
 |rng lo hi=>obtain⟨t,u,v,e⟩:=x;exact⟨t,u,v,k _ _ (.inl rfl) e⟩
 |frz ob u ih=>obtain⟨e,q⟩:=x;exact⟨k _ _ (.inl rfl) e,ih q⟩
 |tbl ps=>
  have e:h.get? a=xa { cls:=.none,data:=.fields ps }:=x;show h'.get? a=xa { cls:=.none,data:=.fields ps };exact k a _ (.inl rfl) e
 |met f y=>
  have e:h.get? a=xa (qh (.ref f) (.ref y)):=x;show h'.get? a=xa (qh (.ref f) (.ref y));exact k a _ (.inl rfl) e
 |ext φ=>obtain⟨p,⟨o,e⟩,st⟩:=x;exact⟨st _ _ p fun o q=>k _ _ (.inl rfl) q,⟨o,k _ _ (.inl rfl) e⟩,st⟩
theorem HOk.lt (x:HOk P w H h) (e:H a=xa o):a<h.objs.size:=(x a o e).lt
theorem HOk.fresh (x:HOk P w H h) (e:h.objs.size<=a):H a=xb:=by
 cases q:H a with
 |none=>rfl
 |some u=>exact absurd (cg (x.lt q) e) (gv _)
theorem HOk.kept (x:HOk P w H h) (k:∀ b u,h.get? b=xa u->h'.get? b=xa u):HOk P w H h':=fun a o e=>
 (x a o e).stay (fun b u _ q=>k b u q) (fun _ q=>q) fun _ _ q=>q
theorem HOk.laid (x:HOk P w H h) (k:∀ b u,h.get? b=xa u->h'.get? b=xa u) (hp:h.objs.size<=a) (new:ObjOk P w (upd H a o) h' a o):HOk P w (upd H a o) h':=fun b u e=>by
 have hn:=x.fresh hp
 by_cases hb:b=a
 ·subst hb;rw[aP] at e;cases e;exact new
 ·rw[aF hb] at e;exact(x b u e).stay (fun c v _ q=>k c v q) (fun c q=>by rw[aF (aM q hn)];exact q) fun c xs q=>by rw[aF (aM q hn)];exact q
end
def Rd (H:Hp) (a:af) (u:HO):Prop:=H a=xa u∨∃ o,H a=xa (.frz o u)
theorem Rd.ok (r:Rd H a u) (x:HOk P w H h):ObjOk P w H h a u:=by
 rcases r with r|⟨o,r⟩
 ·exact x a u r
 ·obtain⟨_,q⟩:=x a _ r;exact q
def Mut:Option HO->Prop
 |some (.lst _)=>True
 |some (.dK _)=>True
 |some (.dT _)=>True
 |some (.set _ _)=>True
 |some (.ins _ _ _)=>True
 |some (.ext _)=>True
 |_=>False
section
variable {P:dm}{w:dr}{H:Hp}{h h':c9}{x e:af}{o':HO}
theorem HOk.write (ok:HOk P w H h) (mu:Mut (H x)) (he:e=x∨H e=xa (.own x)) (k:∀ b u,b≠e->h.get? b=xa u->h'.get? b=xa u) (heo:∃ u,h'.get? e=xa u)
  (new:ObjOk P w (upd H x o') h' x o'):HOk P w (upd H x o') h':=fun b u q=>by
 have nown:∀ c y,H c=xa (.own y)->c≠x:=fun c y r z=>by subst z;rw[r] at mu;exact mu
 have ntup:∀ c xs,H c=xa (.tup xs)->c≠x:=fun c xs r z=>by subst z;rw[r] at mu;exact mu
 by_cases hb:b=x
 ·subst hb;rw[aP] at q;cases q;exact new
 ·rw[aF hb] at q
  by_cases hbe:b=e
  ·have q':H b=xa (.own x):=by
    rcases he with z|z
    ·exact absurd (hbe.trans z) hb
    ·rw[hbe];exact z
   rw[q] at q';cases q';obtain⟨v,hv⟩:=heo;exact⟨v,by rw[hbe];exact hv⟩
  ·refine(ok b u q).stay (fun c v hc r=>k c v ?_ r) (fun c r=>by rw[aF (nown c b r)];exact r) fun c xs r=>by rw[aF (ntup c xs r)];exact r
   rcases hc with rfl|hc
   ·exact hbe
   ·rintro rfl;rcases he with z|z
    ·exact nown c b hc z
    ·rw[hc] at z;cases z;exact hb rfl
end
structure Un (fs ex:List af) (H H':Hp) (h h':c9):Prop where
 keep:∀ b o,h.get? b=xa o->H b=xb->b∉fs->b∉ex->h'.get? b=xa o
 slot:∀ b o,h.get? b=xa o->H b=xb->b∈fs->b∉ex->∃ sl,h'.get? b=xa { o with slots:=sl }
 free:∀ b o,h.get? b=xa o->H b=xb->b∉ex->H' b=xb
 there:∀ b o,h.get? b=xa o->b∉ex->∃ o',h'.get? b=xa o'
 tups:∀ b xs,H b=xa (.tup xs)->H' b=xa (.tup xs)
 frzs:∀ b o u,H b=xa (.frz o u)->H' b=xa (.frz o u)
 tbls:∀ b ps,H b=xa (.tbl ps)->∃ more,H' b=xa (.tbl (ps++more))
section
variable {fs fs' ex ex':List af}{H H1 H2:Hp}{h h1 h2 h':c9}{a x e:af}{o:HO}
theorem Un.any (u:Un fs ex H H1 h h1) (q:h.get? b=xa ob) (n:H b=xb) (hx:b∉ex):∃ sl,h1.get? b=xa { ob with slots:=sl }:=by
 by_cases hb:b∈fs
 ·exact u.slot b ob q n hb hx
 ·exact⟨ob.slots,u.keep b ob q n hb hx⟩
theorem Un.kept (k:∀ b u,h.get? b=xa u->h'.get? b=xa u):Un fs ex H H h h':=
 ⟨fun b ob q _ _ _=>k b ob q,fun b ob q _ _ _=>⟨ob.slots,k b ob q⟩,fun _ _ _ n _=>n,fun b ob q _=>⟨ob,k b ob q⟩,fun _ _ q=>q,fun _ _ _ q=>q,fun _ ps q=>⟨#[],by rw[q];simp⟩⟩
theorem Un.refl:Un fs ex H H h h:=Un.kept fun _ _ q=>q
theorem Un.laid (k:∀ b u,h.get? b=xa u->h'.get? b=xa u) (hp:h.objs.size<=a) (hn:H a=xb):Un fs ex H (upd H a o) h h' where
 keep:=fun b u q _ _ _=>k b u q
 slot:=fun b u q _ _ _=>⟨u.slots,k b u q⟩
 free:=fun b u q n _=>by rw[aF (cj (cg (bp q) hp))];exact n
 there:=fun b u q _=>⟨u,k b u q⟩
 tups:=fun b xs q=>by rw[aF (aM q hn)];exact q
 frzs:=fun b u xs q=>by rw[aF (aM q hn)];exact q
 tbls:=fun b ps q=>⟨#[],by rw[aF (aM q hn),q];simp⟩
theorem Un.write (mu:Mut (H x)) (he:e=x∨H e=xa (.own x)) (k:∀ b u,b≠e->h.get? b=xa u->h'.get? b=xa u) (heo:∃ u,h'.get? e=xa u):Un fs ex H (upd H x o) h h':=by
 have hx:∀ b,H b=xb->b≠x:=fun b n z=>by subst z;rw[n] at mu;exact mu
 have hb:∀ b,H b=xb->b≠e:=fun b n z=>by
  subst z;rcases he with r|r
  ·exact hx b n r
  ·rw[n] at r;cases r
 have hm:∀ b u,H b=xa u->¬ Mut (xa u)->b≠x:=fun b u q nm z=>by subst z;rw[q] at mu;exact nm mu
 refine⟨fun b u q n _ _=>k b u (hb b n) q,fun b u q n _ _=>⟨u.slots,k b u (hb b n) q⟩,fun b u q n _=>by rw[aF (hx b n)];exact n,fun b u q _=> ?_,
  fun b xs q=>by rw[aF (hm b _ q fun z=>z)];exact q,fun b u xs q=>by rw[aF (hm b _ q fun z=>z)];exact q,fun b ps q=>⟨#[],by rw[aF (hm b _ q fun z=>z),q];simp⟩⟩
 by_cases hbe:b=e
 ·subst hbe;exact heo
 ·exact⟨u,k b u hbe q⟩
end
noncomputable def trk (h:c9) (H:Hp):List af:=(bj h.objs.size).filter fun a=>(H a).isSome
noncomputable def HR (h:c9) (H:Hp):c9:=f6 h (trk h H)
theorem Fc (h:c9) (H:Hp):(HR h H).objs.size=h.objs.size:=PySem.W.hideAll_size _ _
theorem HQ (e:h.get? b=xa o) (n:H b=xb):(HR h H).get? b=xa o:=
 kc _ e fun hm=>by
  have q:(H b).isSome=true:=(bu.mp hm).2;rw[n] at q;simp at q
theorem Ky (e:(HR h H).get? b=xa o):h.get? b=xa o/\H b=xb:=by
 have e':h.get? b=xa o:=mh (trk h H) e;refine⟨e',?_⟩;cases q:H b with
 |none=>rfl
 |some x=>
  have hm:b∈trk h H:=bu.mpr ⟨df.mpr (bp e'),by simp[q]⟩;have z:(HR h H).get? b=xb:=f7 (trk h H) hm;rw[z] at e;cases e
end L2
namespace L2
structure Mod (K:aa) (mg:Str->Option ag) (base:c9):Prop where
 kin:K.In base
 glob:base.Ns ce mg
 blt:∃ mb,base.Ns builtinsNs mb/\∀ x:Str,x≠"__name__"->mb x=dq x
 nolimit:base.NoLimit
structure Cx where
 prog:dm
 w:dr
 K:aa
 mg:Str->Option ag
 base:c9
 A:d8
 N:List Str
 s₀:au
 H₀:Hp
 env:Env
 outer:List Env
 stack:List Env
 ex:List af
 fn:Str->Bool
 calm:Bool
 pn:List (af×Obj)
 xe:ag->au->Prop
noncomputable def frs (l:List Env):List af:=l.filterMap (·.frame)
noncomputable abbrev Cx.fs (X:Cx):List af:=frs X.outer
def Vis (sc:ke) (x:Str):Prop:=sc.names.lookup x=xa .local∨sc.names.lookup x=xa .cell∨sc.names.lookup x=xa .free
def Loc (sc:ke) (x:Str):Prop:=sc.names.lookup x=xa .local∨sc.names.lookup x=xa .cell
def RW (env:Env) (h:c9) (m:Str->Option ag) (x:Str) (u:ag):Prop:=
 (env.kindOf x=xa .local/\m x=xa u)∨((env.kindOf x=xa .cell∨env.kindOf x=xa .free)/\∃ c,env.cells.lookup x=xa c/\h.IsCell c (xa u))
structure Cx.Ok (X:Cx):Prop where
 mod:Mod X.K X.mg X.base
 kind:X.env.scope.kind=.function
 glob:X.env.globals=ce
 blt:X.env.builtins=builtinsNs
 above:X.s₀.heap.objs.size<=X.env.locals
 inj:∀ x y c,X.env.cells.lookup x=xa c->X.env.cells.lookup y=xa c->x=y
 has:∀ x,(X.env.kindOf x=xa .cell∨X.env.kindOf x=xa .free)->∃ c,X.env.cells.lookup x=xa c
 cab:∀ x c,X.fn x=true->X.env.cells.lookup x=xa c->X.s₀.heap.objs.size<=c
 hd:X.calm=true->X.A.handled=xb
 frames:X.A.frames=xa X.stack
 stk:X.stack=X.outer∨(X.stack=X.env::X.outer/\X.env.frame=xa X.env.locals)
 exf:∀ b∈X.ex,b≠X.env.locals/\∀ x c,X.env.cells.lookup x=xa c->c≠b
 bs:∀ b o,X.base.get? b=xa o->X.s₀.heap.get? b=xa o/\X.H₀ b=xb
 bsz:X.base.objs.size<=X.s₀.heap.objs.size
 noex:∀ b o,X.base.get? b=xa o->b∉X.ex
 exfs:∀ b∈X.ex,b∉X.fs
 funs:X.s₀.heap.FunFrames X.base X.outer
 frf:∀ b∈X.fs,X.H₀ b=xb
structure Inv (X:Cx) (pins:List (af×Obj)) (σ:List (Option V)) (H:Hp) (s:au):Prop where
 ok:X.Ok
 os:s.os=X.s₀.os
 bare:m9 s.gens
 base:Un X.fs X.ex X.H₀ H X.s₀.heap s.heap
 loc:∃ m,s.heap.Ns X.env.locals m/\∀(i:Nat) (x:Str) (v:V),X.N[i]?=xa x->σ[i]?=xa (xa v)->Vis X.env.scope x->∃ u,RelV v u/\RW X.env s.heap m x u
 cell:∀ x c,X.env.cells.lookup x=xa c->∃ v,s.heap.IsCell c v
 free:H X.env.locals=xb
 freeC:∀ x c,X.env.cells.lookup x=xa c->H c=xb
 pin:∀ p∈X.pn++pins,s.heap.get? p.1=xa p.2/\H p.1=xb/\p.1≠X.env.locals/\p.1∉X.fs/\∀ v,p.2.data≠ .cell v
 hok:HOk X.prog X.w H s.heap
 len:σ.length=X.N.length
section
variable {X:Cx}{pins:List (af×Obj)}{σ:List (Option V)}{H H':Hp}{s:au}{h':c9}
theorem Cx.Ok.nofr (ok:X.Ok) (e:X.base.get? b=xa o):b∉X.fs:=fun hb=>by
 have:=(ok.funs.mem hb).1
 rw[e] at this;cases this
theorem Inv.bs (I:Inv X pins σ H s):∀ b o,X.base.get? b=xa o->s.heap.get? b=xa o/\H b=xb:=fun b o e=>
 ⟨I.base.keep b o (I.ok.bs b o e).1 (I.ok.bs b o e).2 (I.ok.nofr e) (I.ok.noex b o e),I.base.free b o (I.ok.bs b o e).1 (I.ok.bs b o e).2 (I.ok.noex b o e)⟩
theorem Inv.bk (I:Inv X pins σ H s):∀ b o,X.base.get? b=xa o->s.heap.get? b=xa o:=fun b o e=>(I.bs b o e).1
theorem Inv.mod (I:Inv X pins σ H s):Mod X.K X.mg X.base:=I.ok.mod
theorem Inv.kIn (I:Inv X pins σ H s):X.K.In s.heap:=I.ok.mod.kin.keeps I.bk
theorem Inv.lt (I:Inv X pins σ H s):X.env.locals<s.heap.objs.size:=let ⟨_,hn,_⟩:=I.loc;hn.lt
theorem Inv.sz (I:Inv X pins σ H s):X.s₀.heap.objs.size<=s.heap.objs.size:=ci I.ok.above (ip I.lt)
theorem Inv.nofs (I:Inv X pins σ H s) (h:s.heap.objs.size<=a):a∉X.fs:=fun hb=>by
 obtain⟨_,o,ho,_⟩:=I.ok.funs.mem hb;exact absurd (cg (bp ho) (ci I.sz h)) (gv _)
theorem Inv.cne (I:Inv X pins σ H s):∀ x c,X.env.cells.lookup x=xa c->c≠X.env.locals:=fun x c e z=>by
 obtain⟨v,o,ho,hd⟩:=I.cell x c e;obtain⟨m,⟨o',es,ep,ho',hd',_⟩,_⟩:=I.loc;rw[z,ho'] at ho;cases ho;rw[hd'] at hd;cases hd
theorem Inv.funs (I:Inv X pins σ H s):s.heap.FunFrames X.base X.outer:=by
 have all:∀(l:List Env),(∀ b∈frs l,b∈X.fs)->X.s₀.heap.FunFrames X.base l->s.heap.FunFrames X.base l:=by
  intro l
  induction l with
  |nil=>intro _ _;trivial
  |cons env r ih=>
   intro hs hl;obtain⟨hk,⟨L,o,hf,hn,ho,hd⟩,hr⟩:=hl;have hL:L∈X.fs:=hs L (by unfold frs;rw[kh,hf];exact aq);obtain⟨sl,e⟩:=I.base.slot L o ho (I.ok.frf L hL) hL fun z=>I.ok.exfs L z hL;exact⟨hk,⟨L,_,hf,hn,e,hd⟩,ih (fun b hb=>hs b (by unfold frs;rw[kh,hf];exact ai _ hb)) hr⟩
 exact all X.outer (fun _ hb=>hb) I.ok.funs
theorem Inv.stack (I:Inv X pins σ H s):s.heap.FunFrames X.base X.stack:=by
 rcases I.ok.stk with e|⟨e,hf⟩
 ·rw[e];exact I.funs
 ·rw[e];obtain⟨m,hn,_⟩:=I.loc;refine .cons (by rw[I.ok.kind];decide) hf hn ?_ I.funs;exact Heap.get?_none_of_le (ci I.ok.bsz I.ok.above)
theorem Inv.stkSub (I:Inv X pins σ H s):∀ b∈frs X.stack,b∈X.env.locals::X.fs:=fun b hb=>by
 rcases I.ok.stk with e|⟨e,hf⟩
 ·rw[e] at hb;exact ai _ hb
 ·rw[e] at hb;unfold frs at hb;rw[kh,hf] at hb;exact hb
theorem Inv.stkFree (I:Inv X pins σ H s):∀ b∈frs X.stack,H b=xb:=fun b hb=>by
 rcases aj.mp (I.stkSub b hb) with e|hb
 ·rw[e];exact I.free
 ·obtain⟨_,o,ho,_⟩:=I.ok.funs.mem hb;exact I.base.free b o ho (I.ok.frf b hb) fun z=>I.ok.exfs b z hb
theorem Inv.step {ch:List af} (I:Inv X pins σ H s)
  (hch:∀ b∈ch,(b∈X.ex∨X.s₀.heap.objs.size<=b)/\b≠X.env.locals/\(∀ x c,X.env.cells.lookup x=xa c->c≠b)/\∀ p∈X.pn++pins,p.1≠b)
  (keep:∀ b o,b≠X.env.locals->b∉X.fs->b∉ch->s.heap.get? b=xa o->H b=xb->h'.get? b=xa o)
  (slot:∀ b o,b≠X.env.locals->b∈X.fs->b∉ch->s.heap.get? b=xa o->H b=xb->∃ sl,h'.get? b=xa { o with slots:=sl }) (free:∀ b o,b∉ch->s.heap.get? b=xa o->H b=xb->H' b=xb)
  (there:∀ b o,b∉ch->s.heap.get? b=xa o->∃ o',h'.get? b=xa o')
  (tups:∀ b xs,H b=xa (.tup xs)->H' b=xa (.tup xs)) (frzs:∀ b o u,H b=xa (.frz o u)->H' b=xa (.frz o u)) (tbls:∀ b ps,H b=xa (.tbl ps)->∃ more,H' b=xa (.tbl (ps++more)))
  (ns:∀ m,s.heap.Ns X.env.locals m->h'.Ns X.env.locals m) (hok:HOk X.prog X.w H' h') (hg:m9 g'):
  Inv X pins σ H' { s with heap:=h',gens:=g',drawn:=d',toks:=t' }:=by
 have neL:∀ b o,X.s₀.heap.get? b=xa o->b≠X.env.locals:=fun b o e=>cj (cg (bp e) I.ok.above);have neC:∀ b o,X.s₀.heap.get? b=xa o->b∉X.ex->b∉ch:=fun b o e hx hb=>by
  rcases(hch b hb).1 with z|z
  ·exact hx z
  ·exact absurd (cg (bp e) z) (gv _)
 have cellK:∀ x c,X.env.cells.lookup x=xa c->∀ v,s.heap.IsCell c v->h'.IsCell c v:=fun x c e v ⟨o,ho,hd⟩=>by
  have nch:c∉ch:=fun z=>(hch c z).2.2.1 x c e rfl
  by_cases hc:c∈X.fs
  ·obtain⟨sl,q⟩:=slot c o (I.cne x c e) hc nch ho (I.freeC x c e);exact⟨_,q,hd⟩
  ·exact⟨o,keep c o (I.cne x c e) hc nch ho (I.freeC x c e),hd⟩
 refine⟨I.ok,I.os,hg,⟨fun b o e n hb hx=> ?_,fun b o e n hb hx=> ?_,fun b o e n hx=> ?_,fun b o e hx=> ?_,fun b xs e=>tups b xs (I.base.tups b xs e),fun b o xs e=>frzs b o xs (I.base.frzs b o xs e),fun b ps e=> ?_⟩,?_,fun x c e=> ?_,?_,fun x c e=> ?_,fun p hp=> ?_,hok,I.len⟩
 ·exact keep b o (neL b o e) hb (neC b o e hx) (I.base.keep b o e n hb hx) (I.base.free b o e n hx)
 ·obtain⟨sl,e1⟩:=I.base.slot b o e n hb hx;obtain⟨sl',e2⟩:=slot b _ (neL b o e) hb (neC b o e hx) e1 (I.base.free b o e n hx);exact⟨sl',e2⟩
 ·obtain⟨o',e1⟩:=I.base.there b o e hx;exact free b o' (neC b o e hx) e1 (I.base.free b o e n hx)
 ·obtain⟨o',e1⟩:=I.base.there b o e hx;exact there b o' (neC b o e hx) e1
 ·obtain⟨m1,e1⟩:=I.base.tbls b ps e;obtain⟨m2,e2⟩:=tbls b _ e1;exact⟨m1++m2,by rw[e2,Array.append_assoc]⟩
 ·obtain⟨m,hn,hl⟩:=I.loc;refine⟨m,ns m hn,fun i x v e1 e2 e3=> ?_⟩;obtain⟨u,r,l⟩:=hl i x v e1 e2 e3;refine⟨u,r,?_⟩;rcases l with l|⟨k,c,e,z⟩
  ·exact .inl l
  ·exact .inr ⟨k,c,e,cellK x c e _ z⟩
 ·obtain⟨v,z⟩:=I.cell x c e;exact⟨v,cellK x c e v z⟩
 ·obtain⟨m,⟨o,_,_,ho,_⟩,_⟩:=I.loc;exact free _ o (fun z=>(hch _ z).2.1 rfl) ho I.free
 ·obtain⟨v,o,ho,hd⟩:=I.cell x c e;exact free c o (fun z=>(hch c z).2.2.1 x c e rfl) ho (I.freeC x c e)
 ·obtain⟨e,n,ne,nf,d⟩:=I.pin p hp;have nch:p.1∉ch:=fun z=>(hch p.1 z).2.2.2 p hp rfl;exact⟨keep p.1 p.2 ne nf nch e n,free p.1 p.2 nch e n,ne,nf,d⟩
theorem Inv.un (I:Inv X pins σ H s) (u:Un X.fs [] H H' s.heap h') (hok:HOk X.prog X.w H' h'):Inv X pins σ H' { s with heap:=h',toks:=t' }:=by
 obtain⟨m,⟨o,es,ep,ho,r⟩,_⟩:=id I.loc;obtain⟨sl,hL⟩:=u.any ho I.free (by simp);exact I.step (g':=s.gens) (d':=s.drawn) (ch:=[]) (fun _ z=>nomatch z) (fun b o _ hb _ e n=>u.keep b o e n hb (by simp)) (fun b o _ hb _ e n=>u.slot b o e n hb (by simp)) (fun b o _ e n=>u.free b o e n (by simp)) (fun b o _ e=>u.there b o e (by simp)) u.tups u.frzs u.tbls (fun m' hm=>by
  obtain⟨o',es',ep',ho',r'⟩:=hm;rw[ho] at ho';cases ho';exact⟨_,es',ep',hL,r'⟩) hok I.bare
theorem Inv.call (I:Inv X pins σ H s) (u:Un (frs X.stack) ch H H' s.heap h') (hok:HOk X.prog X.w H' h') (hg:m9 g')
  (hch:∀ b∈ch,(b∈X.ex∨X.s₀.heap.objs.size<=b)/\b≠X.env.locals/\(∀ x c,X.env.cells.lookup x=xa c->c≠b)/\∀ p∈X.pn++pins,p.1≠b):
  Inv X pins σ H' { s with heap:=h',gens:=g',drawn:=d',toks:=t' }:=by
 obtain⟨m,⟨o,es,ep,ho,r⟩,_⟩:=id I.loc;obtain⟨sl,hL⟩:=u.any ho I.free fun z=>(hch _ z).2.1 rfl;exact I.step (ch:=ch) hch (fun b o hL hb hc e n=>u.keep b o e n (fun z=>(aj.mp (I.stkSub b z)).elim hL hb) hc) (fun b o _ _ hc e n=>u.any e n hc) (fun b o hc e n=>u.free b o e n hc) (fun b o hc e=>u.there b o e hc) u.tups u.frzs u.tbls (fun m' hm=>by
  obtain⟨o',es',ep',ho',r'⟩:=hm;rw[ho] at ho';cases ho';exact⟨_,es',ep',hL,r'⟩) hok hg
theorem Inv.turned (I:Inv X pins σ H s) (k:∀ b o,b≠it->s.heap.get? b=xa o->h'.get? b=xa o) (hn:H it=xb) (hL:it≠X.env.locals)
  (h1:it∈X.ex∨X.s₀.heap.objs.size<=it) (h2:∀ x c,X.env.cells.lookup x=xa c->c≠it) (h3:∀ p∈X.pn++pins,p.1≠it):Inv X pins σ H { s with heap:=h',toks:=t' }:=by
 have nit:∀ b u,H b=xa u->b≠it:=fun b u e z=>by rw[z,hn] at e;cases e
 refine I.step (g':=s.gens) (d':=s.drawn) (ch:=[it]) (fun b hb=> ?_) (fun b o _ _ hc e _=>k b o (fun z=>hc (by simp[z])) e) (fun b o _ _ hc e _=>⟨o.slots,k b o (fun z=>hc (by simp[z])) e⟩) (fun _ _ _ _ n=>n)
  (fun b o hc e=>⟨o,k b o (fun z=>hc (by simp[z])) e⟩) (fun _ _ e=>e) (fun _ _ _ e=>e) (fun b ps e=>⟨#[],by rw[e];simp⟩) (fun m hm=> ?_) (fun b u e=> ?_) I.bare
 ·have e:b=it:=by simpa using hb
  subst e;exact⟨h1,hL,h2,h3⟩
 ·obtain⟨o,es,ep,ho,r⟩:=hm;exact⟨o,es,ep,k _ o (bz hL) ho,r⟩
 ·refine(I.hok b u e).stay (fun c v hc q=>k c v ?_ q) (fun _ q=>q) fun _ _ q=>q;rcases hc with z|z
  ·rw[z];exact nit b u e
  ·exact nit c _ z
theorem Inv.tok (I:Inv X pins σ H s) (t:Nat):Inv X pins σ H { s with toks:=t }:=I.un (h':=s.heap) (t':=t) Un.refl I.hok
theorem Inv.kept (I:Inv X pins σ H s) (k:∀ b u,s.heap.get? b=xa u->h'.get? b=xa u):Inv X pins σ H { s with heap:=h',toks:=t' }:=I.un (Un.kept k) (I.hok.kept k)
theorem Inv.laid (I:Inv X pins σ H s) (k:∀ b u,s.heap.get? b=xa u->h'.get? b=xa u) (hp:s.heap.objs.size<=a) (new:ObjOk X.prog X.w (upd H a o) h' a o):
  Inv X pins σ (upd H a o) { s with heap:=h',toks:=t' }:=I.un (Un.laid k hp (I.hok.fresh hp)) (I.hok.laid k hp new)
theorem Inv.write (I:Inv X pins σ H s) (mu:Mut (H x)) (he:e=x∨H e=xa (.own x)) (k:∀ b u,b≠e->s.heap.get? b=xa u->h'.get? b=xa u) (heo:∃ u,h'.get? e=xa u)
  (new:ObjOk X.prog X.w (upd H x o) h' x o):Inv X pins σ (upd H x o) { s with heap:=h',toks:=t' }:=I.un (Un.write mu he k heo) (I.hok.write mu he k heo new)
theorem Inv.weak (I:Inv X pins σ H s) (hl:σ'.length=σ.length) (w:∀(i:Nat) v,σ'[i]?=xa (xa v)->σ[i]?=xa (xa v)):Inv X pins σ' H s:=
 ⟨I.ok,I.os,I.bare,I.base,let ⟨m,hn,hl'⟩:=I.loc;⟨m,hn,fun i x v e1 e2 e3=>hl' i x v e1 (w i v e2) e3⟩,I.cell,I.free,I.freeC,I.pin,I.hok,hl.trans I.len⟩
theorem Inv.pins_of (I:Inv X pins σ H s) (h:∀ p∈pins',s.heap.get? p.1=xa p.2/\H p.1=xb/\p.1≠X.env.locals/\p.1∉X.fs/\∀ v,p.2.data≠ .cell v):Inv X pins' σ H s:=
 ⟨I.ok,I.os,I.bare,I.base,I.loc,I.cell,I.free,I.freeC,fun p hp=>(cm.mp hp).elim (fun z=>I.pin p (de _ z)) (h p),I.hok,I.len⟩
theorem nodup_ix {N:List Str} (hN:N.Nodup) {i j:Nat} (a:N[i]?=xa x) (b:N[j]?=xa x):i=j:=by
 obtain⟨h1,e1⟩:=bt.mp a;obtain⟨h2,e2⟩:=bt.mp b;exact(List.getElem_inj hN).mp (e1.trans e2.symm)
theorem wT (I:Inv X pins σ H s) (hN:X.N.Nodup) (hi:X.N[i]?=xa x) (hx:Loc X.env.scope x) (r:RelV v u)
  (h:∀ s',Inv X pins (σ.set i (xa v)) H s'->(∃ a,f8 a s.heap s'.heap/\(a=X.env.locals∨X.env.cells.lookup x=xa a))->Q () s') (hf:X.fn x=true∨X.env.scope.names.lookup x=xa .local:=by first|exact .inl rfl|exact .inr rfl|assumption):az M A (storeName X.env x u) Q E s:=by
 obtain⟨m,hn,hl⟩:=id I.loc;have hcls:(X.env.scope.kind== .class||(X.env.scope.kind== .module&&X.env.locals !=X.env.globals))=false:=by rw[I.ok.kind];rfl
 have hiσ:i<σ.length:=by rw[I.len];exact(bt.mp hi).1
 have cne:=I.cne;have tracked:∀ {a:af}{h':c9},(∃ o,s.heap.get? a=xa o/\H a=xb)->f8 a s.heap h'->HOk X.prog X.w H h':=fun {a h'} ha hs b ob e=>by
  obtain⟨_,_,hfree⟩:=ha;refine(I.hok b ob e).stay (fun c w' hc q=>(hs.2 c ?_).trans q) (fun _ q=>q) fun _ _ q=>q;rintro rfl;rcases hc with rfl|hc
  ·rw[hfree] at e;cases e
  ·rw[hfree] at hc;cases hc
 rcases hx with hk|hk
 ·refine wpAny_storeName_local hk hn (fun h' hn' hs=> ?_) hcls;obtain⟨oL,_,_,hoL,_⟩:=id hn;refine h _ ⟨I.ok,I.os,I.bare,⟨fun b o e n hb hx=> ?_,fun b o e n hb hx=> ?_,I.base.free,fun b o e hx=> ?_,I.base.tups,I.base.frzs,I.base.tbls⟩,⟨_,hn',fun j y v' e1 e2 e3=> ?_⟩,fun y c e=> ?_,I.free,I.freeC,fun p hp=> ?_,tracked ⟨oL,hoL,I.free⟩ hs,by simpa using I.len⟩ ⟨_,hs,.inl rfl⟩
  ·exact(hs.2 b (cj (cg (bp e) I.ok.above))).trans (I.base.keep b o e n hb hx)
  ·obtain⟨sl,e1⟩:=I.base.slot b o e n hb hx;exact⟨sl,(hs.2 b (cj (cg (bp e) I.ok.above))).trans e1⟩
  ·obtain⟨o',e1⟩:=I.base.there b o e hx;exact⟨o',(hs.2 b (cj (cg (bp e) I.ok.above))).trans e1⟩
  ·by_cases hj:j=i
   ·subst hj;rw[hi] at e1;cases e1;rw[d7 hiσ] at e2;cases e2;exact⟨u,r,.inl ⟨hk,by simp⟩⟩
   ·rw[f9 (bz hj)] at e2;obtain⟨u',r',q⟩:=hl j y v' e1 e2 e3;refine⟨u',r',?_⟩;rcases q with⟨k,e⟩|⟨k,c,e,z⟩
    ·refine .inl ⟨k,?_⟩
     have:y≠x:=fun e=>hj (nodup_ix hN e1 (e ▸ hi))
     simp[this,e]
    ·exact .inr ⟨k,c,e,z.sameBut hs (cne y c e)⟩
  ·obtain⟨w',z⟩:=I.cell y c e;exact⟨w',z.sameBut hs (cne y c e)⟩
  ·obtain⟨e,n,ne,nf,d⟩:=I.pin p hp;exact⟨(hs.2 p.1 ne).trans e,n,ne,nf,d⟩
 ·have hfn:X.fn x=true:=by
   rcases hf with z|z
   ·exact z
   ·rw[z] at hk;cases hk
  obtain⟨c,hc⟩:=I.ok.has x (.inl hk);obtain⟨w',z⟩:=I.cell x c hc;refine wpAny_storeName_cell I.ok.kind hk hc z (fun h' hc' hs=> ?_);obtain⟨oc,hoc,hocd⟩:=id z;refine h { s with heap:=h' } ⟨I.ok,I.os,I.bare,⟨fun b o e n hb hx=> ?_,fun b o e n hb hx=> ?_,I.base.free,fun b o e hx=> ?_,I.base.tups,I.base.frzs,I.base.tbls⟩,⟨m,hn.sameBut hs (bz (cne x c hc)),fun j y v' e1 e2 e3=> ?_⟩,fun y c' e=> ?_,I.free,I.freeC,fun p hp=> ?_,tracked ⟨oc,hoc,I.freeC x c hc⟩ hs,by simpa using I.len⟩ ⟨c,hs,.inr hc⟩
  ·exact(hs.2 b (cj (cg (bp e) (I.ok.cab x c hfn hc)))).trans (I.base.keep b o e n hb hx)
  ·obtain⟨sl,e1⟩:=I.base.slot b o e n hb hx;exact⟨sl,(hs.2 b (cj (cg (bp e) (I.ok.cab x c hfn hc)))).trans e1⟩
  ·obtain⟨o',e1⟩:=I.base.there b o e hx;exact⟨o',(hs.2 b (cj (cg (bp e) (I.ok.cab x c hfn hc)))).trans e1⟩
  ·by_cases hj:j=i
   ·subst hj;rw[hi] at e1;cases e1;rw[d7 hiσ] at e2;cases e2;exact⟨u,r,.inr ⟨.inl hk,c,hc,hc'⟩⟩
   ·rw[f9 (bz hj)] at e2;obtain⟨u',r',q⟩:=hl j y v' e1 e2 e3;refine⟨u',r',?_⟩;rcases q with q|⟨k,c',e,z'⟩
    ·exact .inl q
    ·refine .inr ⟨k,c',e,z'.sameBut hs ?_⟩;rintro rfl;exact hj (nodup_ix hN e1 (I.ok.inj _ _ _ e hc ▸ hi))
  ·by_cases hcc:c'=c
   ·subst hcc;exact⟨_,hc'⟩
   ·obtain⟨w2,z2⟩:=I.cell y c' e;exact⟨w2,z2.sameBut hs hcc⟩
  ·obtain⟨e,n,ne,nf,d⟩:=I.pin p hp;refine⟨(hs.2 p.1 ?_).trans e,n,ne,nf,d⟩;intro q;rw[q,hoc] at e;have q':oc=p.2:=cf e;exact d w' (by rw[<- q'];exact hocd)
theorem Bs (I:Inv X pins σ H s) (hN:X.N.Nodup) (hi:X.N[i]?=xa x) (hx:Loc X.env.scope x) (r:RelV v u)
  (h:∀ s',Inv X pins (σ.set i (xa v)) H s'->Q () s') (hf:X.fn x=true∨X.env.scope.names.lookup x=xa .local:=by first|exact .inl rfl|exact .inr rfl|assumption):az M A (storeName X.env x u) Q E s:=
 wT I hN hi hx r (fun s' I' _=>h s' I') hf
theorem Inv.call' (I:Inv X pins σ H s) (ho:s'.os=s.os) (u:Un (frs X.stack) ch H H' s.heap s'.heap) (hok:HOk X.prog X.w H' s'.heap) (hg:m9 s'.gens)
  (hch:∀ b∈ch,(b∈X.ex∨X.s₀.heap.objs.size<=b)/\b≠X.env.locals/\(∀ x c,X.env.cells.lookup x=xa c->c≠b)/\∀ p∈X.pn++pins,p.1≠b):Inv X pins σ H' s':=by
 obtain⟨h',g',d',t',o'⟩:=s';have e:o'=s.os:=ho;subst e;exact I.call (g':=g') (t':=t') (d':=d') u hok hg hch
end
abbrev XK:=ag->Option af->Hp->Prop
abbrev St:=List (Option V)
abbrev VK:=V->Hp->Prop
abbrev TE:=St->Hp->VK->Prop
abbrev TT:=St->Hp->(Bool->Hp->Prop)->Prop
abbrev TA:=St->Hp->(List V->Hp->Prop)->Prop
structure Cs where
 nx:St->Hp->Prop
 rt:VK
 bk:St->Hp->Prop:=fun _ _=>False
 ct:St->Hp->Prop:=fun _ _=>False
abbrev TS:=Cs->St->Hp->Prop
def EP (X:Cx) (pins:List (af×Obj)) (σ:St) (Q:VK) (u:ag) (s':au):Prop:=∃ v H',Inv X pins σ H' s'/\RelV v u/\Q v H'
def TP (X:Cx) (pins:List (af×Obj)) (σ:St) (Q:Bool->Hp->Prop) (b:Bool) (s':au):Prop:=∃ H',Inv X pins σ H' s'/\Q b H'
def AP (X:Cx) (pins:List (af×Obj)) (σ:St) (Q:List V->Hp->Prop) (us:List ag) (s':au):Prop:=∃ vs H',Inv X pins σ H' s'/\Vals vs us/\Q vs H'
def SP (X:Cx) (pins:List (af×Obj)) (D:Cs) (f:Flow) (s':au):Prop:=
 match f with
 |.next=>∃ σ' H',Inv X pins σ' H' s'/\D.nx σ' H'
 |.brk=>∃ σ' H',Inv X pins σ' H' s'/\D.bk σ' H'
 |.cont=>∃ σ' H',Inv X pins σ' H' s'/\D.ct σ' H'
 |.ret u=>∃ v σ' H',Inv X pins σ' H' s'/\RelV v u/\D.rt v H'
def PE (X:Cx) (e:bw) (t:TE):Prop:=
 ∀(pins:List (af×Obj)) (s:au) (σ:St) (H:Hp) (Q:VK),Inv X pins σ H s->t σ H Q->az (model X.prog X.w) X.A (eval e X.env) (EP X pins σ Q) X.xe s
def PT (X:Cx) (e:bw) (t:TT):Prop:=
 ∀(pins:List (af×Obj)) (s:au) (σ:St) (H:Hp) (Q:Bool->Hp->Prop),Inv X pins σ H s->t σ H Q->az (model X.prog X.w) X.A (isTrue e X.env (eval e X.env)) (TP X pins σ Q) X.xe s
def PW (X:Cx) (e:bw) (t:TT):Prop:=
 ∀(whole:Sem ag) (pins:List (af×Obj)) (s:au) (σ:St) (H:Hp) (Q:Bool->Hp->Prop),Inv X pins σ H s->t σ H Q->az (model X.prog X.w) X.A (isTrue e X.env whole) (TP X pins σ Q) X.xe s
theorem PW.pt (h:PW X e t):PT X e t:=h _
def PA (X:Cx) (es:List bw) (t:TA):Prop:=
 ∀(pos:Pos) (pins:List (af×Obj)) (s:au) (σ:St) (H:Hp) (Q:List V->Hp->Prop),Inv X pins σ H s->t σ H Q->az (model X.prog X.w) X.A (spliced (dw pos (ay es X.env))) (AP X pins σ Q) X.xe s
def PS (X:Cx) (st:cz) (t:TS):Prop:=
 ∀(pins:List (af×Obj)) (s:au) (σ:St) (H:Hp) (D:Cs),Inv X pins σ H s->t D σ H->az (model X.prog X.w) X.A (exec st X.env) (SP X pins D) X.xe s
def PSs (X:Cx) (st:List cz) (t:TS):Prop:=
 ∀(pins:List (af×Obj)) (s:au) (σ:St) (H:Hp) (D:Cs),Inv X pins σ H s->t D σ H->az (model X.prog X.w) X.A (execs st X.env) (SP X pins D) X.xe s
theorem thn {Q Q':α->au->Prop} (h:az M A t Q E s) (hQ:∀ a s,Q a s->Q' a s):az M A t Q' E s:=g9 h hQ fun _ _ x=>x
end L2
namespace L2
section
variable {X:Cx}
def QO (i:Nat):TE:=fun σ H Q=>∃ v,σ[i]?=xa (xa v)/\Q v H
def tC (v:V):TE:=fun _ H Q=>Q v H
theorem MU (hN:X.N[i]?=xa x) (hv:Vis X.env.scope x) (hd:(x==("__debug__":Str))=false:=by decide) (hcd:(x==("__classdict__":Str))=false:=by decide):PE X (.Name x pos) (QO i):=by
 intro pins s σ H Q I h;obtain⟨v,e,h⟩:=h;obtain⟨m,hn,hl⟩:=I.loc;obtain⟨u,r,l⟩:=hl i x v hN e hv;have fin:EP X pins σ Q u s:=⟨v,H,I,r,h⟩;rcases l with⟨hk,hm⟩|⟨hk,c,hc,hcell⟩
 ·exact wpAny_Name (wpAny_loadName_local I.ok.kind hk hn hm fin) hd
 ·rcases hk with hk|hk
  ·exact wpAny_Name (wpAny_loadName_cell I.ok.kind hk hc hcell fin) hd
  ·exact wpAny_Name (wpAny_loadName_free I.ok.kind hk hc hcell fin hcd) hd
theorem Na:PE X (.Constant (.int i) j pos) (tC (.int i)):=fun _ _ _ H _ I h=>wpAny_Constant_int ⟨.int i,H,I.tok _,⟨_,rfl⟩,h⟩
theorem PX:PE X (.Constant (.bool b) j pos) (tC (.bl b)):=fun _ _ _ H _ I h=>Constant_bool ⟨.bl b,H,I,rfl,h⟩
theorem MZ:PE X (.Constant .none j pos) (tC .non):=fun _ _ _ H _ I h=>Constant_none ⟨.non,H,I,rfl,h⟩
theorem MW:PE X (.Constant (.str x) j pos) (tC (.str x)):=fun _ _ _ H _ I h=>Calls.Constant_str ⟨.str x,H,I.tok _,⟨_,rfl⟩,h⟩
def Gl (X:Cx) (x:Str):Prop:=X.env.kindOf x=xa .globalImplicit
theorem uY (I:Inv X pins σ H s) (hg:Gl X x) (hm:X.mg x=xa u) (h:Q u s)
  (hd:(x==("__debug__":Str))=false:=by decide):az (model X.prog X.w) X.A (eval (.Name x pos) X.env) Q E s:=
 qc I.ok.kind hg (Calls.loadGlobal_global (by rw[I.ok.glob];exact I.mod.glob.keeps I.bk) hm h) hd
theorem xS (I:Inv X pins σ H s) (hg:Gl X x) (hm:X.mg x=xb) (hv:dq x=xa u) (h:Q u s)
  (hn:x≠"__name__":=by decide) (hd:(x==("__debug__":Str))=false:=by decide):az (model X.prog X.w) X.A (eval (.Name x pos) X.env) Q E s:=by
 obtain⟨mb,h1,h2⟩:=I.mod.blt;exact qc I.ok.kind hg (Calls.loadGlobal_builtin (by rw[I.ok.glob];exact I.mod.glob.keeps I.bk) hm (by rw[I.ok.blt];exact h1.keeps I.bk) ((h2 x hn).trans hv) h) hd
theorem Kg (hg:Gl X x) (hm:X.mg x=xb) (hv:dq x=xa u) (r:RelV v u) (hn:x≠"__name__":=by decide) (hd:(x==("__debug__":Str))=false:=by decide):PE X (.Name x pos) (tC v):=
 fun _ _ _ H _ I h=>xS I hg hm hv ⟨v,H,I,r,h⟩ hn hd
variable {a b:bw}{ta tb:TE}{pos:Pos}
def PC (X:Cx) (op:CmpOp) (a b:bw) (t:TE):Prop:=
 ∀(pins:List (af×Obj)) (s:au) (σ:St) (H:Hp) (Q:VK),Inv X pins σ H s->t σ H Q->
  az (model X.prog X.w) X.A (eval a X.env) (fun v s₁=>az (model X.prog X.w) X.A (eval b X.env) (fun u s₂=>az (model X.prog X.w) X.A (fx op v u) (EP X pins σ Q) X.xe s₂) X.xe s₁) X.xe s
def tB (t:TE):TT:=fun σ H Q=>t σ H fun x H1=>∃ c,x=.bl c/\Q c H1
theorem MN (h:PC X op a b t) (h1:iy op b=false:=by first|exact nobehind _ (by decide) (by decide)|rfl):PT X (.Compare a [op] [b] pos) (tB t):=by
 intro pins s σ H Q I hw;refine tf (thn (h pins s σ H _ I hw) fun v s1 h1=>thn h1 fun u s2 h2=>thn h2 fun c s3 ⟨x,H1,I1,r1,q1⟩=> ?_) h1;obtain⟨d,rfl,q⟩:=q1;cases r1;exact dy ⟨H1,I1,q⟩
variable {tA tB':TT}{rest:List bw}
def Rp (t u:TT):TT:=fun σ H Q=>t σ H fun c H1=>if c=true then u σ H1 Q else Q false H1
def tOr (t u:TT):TT:=fun σ H Q=>t σ H fun c H1=>if c=true then Q true H1 else u σ H1 Q
def Rj (t:TT):TT:=fun σ H Q=>t σ H fun c H1=>Q (!c) H1
theorem JM (ha:PT X a tA):PW X (.BoolOp .And [a] pos) tA:=by
 intro wh pins s σ H Q I h;refine isTrue_and (thn (ha pins s σ H Q I h) fun c s1 e=> ?_);cases c with
 |true=>exact isTrue_and_nil e
 |false=>exact e
theorem MJ (ha:PT X a tA):PW X (.BoolOp .Or [a] pos) tA:=by
 intro wh pins s σ H Q I h;refine isTrue_or (thn (ha pins s σ H Q I h) fun c s1 e=> ?_);cases c with
 |false=>exact isTrue_or_nil e
 |true=>exact e
theorem MK (ha:PT X a tA) (hb:PW X (.BoolOp .And (b::rest) pos) tB'):PW X (.BoolOp .And (a::b::rest) pos) (Rp tA tB'):=by
 intro wh pins s σ H Q I h;refine isTrue_and (thn (ha pins s σ H _ I h) fun c s1 ⟨H1,I1,q1⟩=> ?_);cases c with
 |true=>exact hb wh pins s1 σ H1 Q I1 q1
 |false=>exact⟨H1,I1,q1⟩
theorem PP (ha:PT X a tA) (hb:PW X (.BoolOp .Or (b::rest) pos) tB'):PW X (.BoolOp .Or (a::b::rest) pos) (tOr tA tB'):=by
 intro wh pins s σ H Q I h;refine isTrue_or (thn (ha pins s σ H _ I h) fun c s1 ⟨H1,I1,q1⟩=> ?_);cases c with
 |true=>exact⟨H1,I1,q1⟩
 |false=>exact hb wh pins s1 σ H1 Q I1 q1
theorem MM (ha:PT X a tA):PT X (.UnaryOp .Not a pos) (Rj tA):=by
 intro pins s σ H Q I h;exact isTrue_not (ha pins s σ H (fun c H1=>Q (!c) H1) I h)
def PF (ta tb:TE):TE:=fun σ H Q=>ta σ H fun x H1=>∃ c,x=.bl c/\if c=true then tb σ H1 Q else Q (.bl false) H1
def Pt (ta:TE):TE:=fun σ H Q=>ta σ H fun x H1=>∃ c,x=.bl c/\Q (.bl (!c)) H1
theorem MX (h:PE X a t):PE X (.BoolOp op [a] pos) t:=fun pins s σ H Q I hw=>BoolOp_one (h pins s σ H Q I hw)
theorem Nf (ha:PE X a ta) (hb:PE X (.BoolOp .And (b::rest) pos) tb):PE X (.BoolOp .And (a::b::rest) pos) (PF ta tb):=by
 intro pins s σ H Q I h;refine BoolOp_and (thn (ha pins s σ H _ I h) fun v s1 ⟨x,H1,I1,r1,q1⟩=> ?_);obtain⟨c,rfl,q1⟩:=q1;cases r1;refine dy ?_;cases c with
 |true=>exact hb pins s1 σ H1 Q I1 q1
 |false=>exact⟨.bl false,H1,I1,rfl,q1⟩
theorem MY (ha:PE X a ta):PE X (.UnaryOp .Not a pos) (Pt ta):=by
 intro pins s σ H Q I h;refine UnaryOp_ (thn (ha pins s σ H _ I h) fun v s1 ⟨x,H1,I1,r1,q1⟩=> ?_);obtain⟨c,rfl,q1⟩:=q1;cases r1;exact not_of (dy ⟨.bl (!c),H1,I1,rfl,q1⟩)
end
end L2
namespace L2
def SqL (K:aa) (H:Hp) (a:af) (xs:List V):Prop:=
 Rd H a (.lst xs)∨
  ∃(o:Obj) (its:Array ag) (n:Nat),K.lookup a=xa o/\o.cls=.type "list"/\o.dict=xb/\o.data=.seq its n/\its.size<=sizeLine/\Vals xs its.toList
def SqT (K:aa) (H:Hp) (a:af) (xs:List V):Prop:=
 Rd H a (.tup xs)∨
  ∃(o:Obj) (its:Array ag) (n:Nat),K.lookup a=xa o/\o.cls=.type "tuple"/\o.data=.seq its n/\its.size<=sizeLine/\Vals xs its.toList
noncomputable def RS:ag->Option V
 |.none=>xa .non
 |.bool b=>xa (.bl b)
 |.int i _=>xa (.int i)
 |.str x _=>xa (.str x)
 |.bytes b _=>xa (.byt b)
 |.float b _=>xa (.flt b)
 |.ref a=>xa (.ref a)
 |.type n=>xa (.ty n)
 |_=>xb
theorem RelV.abs (r:RelV x u):RS u=xa x:=by
 cases x with
 |non=>cases r;rfl
 |bl _=>cases r;rfl
 |int _=>obtain⟨t,rfl⟩:=r;rfl
 |str _=>obtain⟨t,rfl⟩:=r;rfl
 |byt _=>obtain⟨t,rfl⟩:=r;rfl
 |flt _=>obtain⟨t,rfl⟩:=r;rfl
 |ref _=>cases r;rfl
 |ty _=>cases r;rfl
theorem RelV.inj (r:RelV x u) (q:RelV y u):x=y:=cf (r.abs.symm.trans q.abs)
theorem Vals.inj:∀ {xs ys:List V}{us:List ag},Vals xs us->Vals ys us->xs=ys
 |_,_,_,.nil,.nil=>rfl
 |_,_,_,.cons r t,.cons r' t'=>by rw[r.inj r',Vals.inj t t']
section
variable {X:Cx}{pins:List (af×Obj)}{σ:St}{H:Hp}{s:au}{a:af}{xs ys:List V}
theorem SqL.of {K:aa} (h:H a=xa (.lst xs)):SqL K H a xs:=.inl (.inl h)
theorem Inv.list (I:Inv X pins σ H s) (h:SqL X.K H a xs):∃ its:List ag,Vals xs its/\PlainL s.heap a its.toArray/\xs.length<=sizeLine:=by
 rcases h with h|⟨o,its,n,hk,hc,hd,hs,hz,r⟩
 ·obtain⟨z,its,n,r,e⟩:=h.ok I.hok;exact⟨its,r,⟨_,n,e,rfl,rfl,rfl⟩,z⟩
 ·refine⟨its.toList,r,⟨o,n,I.kIn a o hk,hc,hd,by simpa using hs⟩,?_⟩;have e:=r.length;simp only[ff] at e;omega
theorem Inv.tuple (I:Inv X pins σ H s) (h:SqT X.K H a xs):∃ its:List ag,Vals xs its/\IsTup s.heap a its.toArray/\xs.length<=sizeLine:=by
 rcases h with h|⟨o,its,n,hk,hc,hs,hz,r⟩
 ·obtain⟨z,its,r,p⟩:=h.ok I.hok;exact⟨its,r,p,z⟩
 ·refine⟨its.toList,r,⟨o,I.kIn a o hk,hc,n,by simpa using hs⟩,?_⟩;have e:=r.length;simp only[ff] at e;omega
theorem Inv.list_inj (I:Inv X pins σ H s) (h:SqL X.K H a xs) (h':SqL X.K H a ys):xs=ys:=by
 obtain⟨its,r,⟨o,n,e,_,_,d⟩,_⟩:=I.list h;obtain⟨its',r',⟨o',n',e',_,_,d'⟩,_⟩:=I.list h';rw[e] at e';cases e';rw[d] at d';injection d' with d1 _
 have:its=its':=by simpa using congrArg Array.toList d1
 subst this;exact r.inj r'
theorem Inv.tuple_inj (I:Inv X pins σ H s) (h:SqT X.K H a xs) (h':SqT X.K H a ys):xs=ys:=by
 obtain⟨its,r,⟨o,e,_,n,d⟩,_⟩:=I.tuple h;obtain⟨its',r',⟨o',e',_,n',d'⟩,_⟩:=I.tuple h';rw[e] at e';cases e';rw[d] at d';injection d' with d1 _
 have:its=its':=by simpa using congrArg Array.toList d1
 subst this;exact r.inj r'
end
noncomputable abbrev Cx.wish (X:Cx) (E:ag->au->Prop):Cx:={ X with xe:=E }
noncomputable abbrev Cx.nox (X:Cx):Cx:=X.wish fun _ _=>False
theorem Cx.Ok.wish {X:Cx} (ok:X.Ok) (E:ag->au->Prop):(X.wish E).Ok:=
 ⟨ok.mod,ok.kind,ok.glob,ok.blt,ok.above,ok.inj,ok.has,ok.cab,ok.hd,ok.frames,ok.stk,ok.exf,ok.bs,ok.bsz,ok.noex,ok.exfs,ok.funs,ok.frf⟩
theorem Cx.Ok.unwish {X:Cx} (ok:(X.wish E).Ok):X.Ok:=
 ⟨ok.mod,ok.kind,ok.glob,ok.blt,ok.above,ok.inj,ok.has,ok.cab,ok.hd,ok.frames,ok.stk,ok.exf,ok.bs,ok.bsz,ok.noex,ok.exfs,ok.funs,ok.frf⟩
section
variable {X:Cx}{pins:List (af×Obj)}{σ:St}{H:Hp}{s:au}{E:ag->au->Prop}
theorem Inv.wish (I:Inv X pins σ H s) (E:ag->au->Prop):Inv (X.wish E) pins σ H s:=⟨I.ok.wish E,I.os,I.bare,I.base,I.loc,I.cell,I.free,I.freeC,I.pin,I.hok,I.len⟩
theorem Inv.unwish (I:Inv (X.wish E) pins σ H s):Inv X pins σ H s:=⟨I.ok.unwish,I.os,I.bare,I.base,I.loc,I.cell,I.free,I.freeC,I.pin,I.hok,I.len⟩
theorem SP.unwish (h:SP (X.wish E) pins D f s'):SP X pins D f s':=by
 cases f with
 |next=>obtain⟨σ',H',I,q⟩:=h;exact⟨σ',H',I.unwish,q⟩
 |brk=>obtain⟨σ',H',I,q⟩:=h;exact⟨σ',H',I.unwish,q⟩
 |cont=>obtain⟨σ',H',I,q⟩:=h;exact⟨σ',H',I.unwish,q⟩
 |ret u=>obtain⟨v,σ',H',I,r,q⟩:=h;exact⟨v,σ',H',I.unwish,r,q⟩
end
section
variable {X:Cx}{st:cz}{rest:List cz}{t u:TS}{e:bw}{te:TE}{pos:Pos}
def Pu:TS:=fun D σ H=>D.nx σ H
def Rh (t u:TS):TS:=fun D σ H=>t { D with nx:=u D } σ H
theorem JP:PSs X [] Pu:=fun _ _ σ H _ I h=>o7 ⟨σ,H,I,h⟩
theorem GW (h1:PS X st t) (h2:PSs X rest u):PSs X (st::rest) (Rh t u):=by
 intro pins s σ H D I h;refine wpAny_execs_cons (thn (h1 pins s σ H { D with nx:=u D } I h) fun f s1 q=> ?_);cases f with
 |next=>
  obtain⟨σ',H',I',q⟩:=q;exact h2 pins s1 σ' H' D I' q
 |ret v=>exact q
 |brk=>exact q
 |cont=>exact q
theorem JO (h1:PS X st t):PSs X [st] t:=by
 intro pins s σ H D I h;refine wpAny_execs_cons (thn (h1 pins s σ H D I h) fun f s1 q=> ?_);cases f with
 |next=>exact o7 q
 |ret v=>exact q
 |brk=>exact q
 |cont=>exact q
theorem Inv.quiet (I:Inv X pins σ H s):interactive X.env=false:=by simp[interactive,I.ok.kind]
def Px (te:TE):TS:=fun D σ H=>te σ H fun _ H1=>D.nx σ H1
theorem JR (he:PE X e te) (hs:ji e xb pos.line X.env=pure false:=by rfl):PS X (.Expr e pos) (Px te):=by
 intro pins s σ H D I h;exact wpAny_Expr_any (thn (he pins s σ H _ I h) fun v s1 ⟨x,H1,I1,r1,q1⟩=>⟨σ,H1,I1,q1⟩) I.quiet hs
def Ri (te:TE):TS:=fun D σ H=>te σ H D.rt
theorem MP (he:PE X e te):PS X (.Return (xa e) pos) (Ri te):=by
 intro pins s σ H D I h;exact wpAny_Return_some (thn (he pins s σ H _ I h) fun v s1 ⟨x,H1,I1,r1,q1⟩=>⟨x,σ,H1,I1,r1,q1⟩)
def Rl (c:TT) (t u:TS):TS:=fun D σ H=>c σ H fun b H1=>if b=true then t D σ H1 else u D σ H1
theorem PQ (hc:PT X c tc) (ha:PSs X a t) (hb:PSs X b u):PS X (.If c a b pos) (Rl tc t u):=by
 intro pins s σ H D I h;refine wpAny_If (thn (hc pins s σ H _ I h) fun d s1 ⟨H1,I1,q1⟩=> ?_);cases d with
 |true=>exact ha pins s1 σ H1 D I1 q1
 |false=>exact hb pins s1 σ H1 D I1 q1
end
abbrev TG:=V->St->Hp->(St->Hp->Prop)->Prop
abbrev TGs:=List V->St->Hp->(St->Hp->Prop)->Prop
def PG (X:Cx) (target:bw) (t:TG):Prop:=
 ∀(pins:List (af×Obj)) (s:au) (σ:St) (H:Hp) (v:V) (u:ag) (Q:St->Hp->Prop),Inv X pins σ H s->RelV v u->t v σ H Q->
  az (model X.prog X.w) X.A (assign target X.env u) (fun _ s'=>∃ σ' H',Inv X pins σ' H' s'/\Q σ' H') X.xe s
def PGs (X:Cx) (ts:List bw) (t:TGs):Prop:=
 ∀(pins:List (af×Obj)) (s:au) (σ:St) (H:Hp) (vs:List V) (us:List ag) (Q:St->Hp->Prop),Inv X pins σ H s->Vals vs us->t vs σ H Q->
  az (model X.prog X.w) X.A (assignInOrder ((lr ts X.env).map (·.2)) us) (fun _ s'=>∃ σ' H',Inv X pins σ' H' s'/\Q σ' H') X.xe s
abbrev Ra:=V->V->V->Hp->(Hp->Prop)->Prop
def Rb (X:Cx) (t:Ra):Prop:=
 ∀(pins:List (af×Obj)) (s:au) (σ:St) (H:Hp) (o i v:V) (ov iv u:ag) (Q:Hp->Prop),Inv X pins σ H s->RelV o ov->RelV i iv->RelV v u->t o i v H Q->
  az (model X.prog X.w) X.A (setItem ov iv u) (fun _ s'=>∃ H',Inv X pins σ H' s'/\Q H') X.xe s
section
variable {X:Cx}{pos:Pos}
def Ot (i:Nat):TG:=fun v σ H Q=>Q (σ.set i (xa v)) H
theorem kN (hN:X.N.Nodup) (hi:X.N[i]?=xa x) (hx:Loc X.env.scope x) (hf:X.fn x=true∨X.env.scope.names.lookup x=xa .local:=by first|exact .inl rfl|exact .inr rfl|assumption):PG X (.Name x pos) (Ot i):=by
 intro pins s σ H v u Q I r h;exact wpAny_assign_Name (Bs I hN hi hx r (fun s' I'=>⟨_,H,I',h⟩) hf)
noncomputable def RK:TGs:=fun vs σ H Q=>vs=[]/\Q σ H
noncomputable def Qx (t:TG) (u:TGs):TGs:=fun vs σ H Q=>∃ v r,vs=v::r/\t v σ H fun σ' H'=>u r σ' H' Q
theorem Eo:PGs X [] RK:=by
 intro pins s σ H vs us Q I r h;obtain⟨e,h⟩:=h;subst e;cases r;exact assignInOrder_nil ⟨σ,H,I,h⟩
theorem jO (h1:PG X e t) (h2:PGs X es u)
  (hs:(lr (e::es) X.env).map (·.2)=assign e X.env::(lr es X.env).map (·.2):=by rfl):PGs X (e::es) (Qx t u):=by
 intro pins s σ H vs us Q I r h;obtain⟨v,vr,e1,h⟩:=h;subst e1;cases r with
 |cons r rr=>
  rw[hs];refine assignInOrder_cons (thn (h1 pins s σ H _ _ _ I r h) fun _ s1 ⟨σ1,H1,I1,q1⟩=> ?_);exact h2 pins s1 σ1 H1 _ _ Q I1 rr q1
def RI (K:aa) (n:Nat) (t:TGs):TG:=fun v σ H Q=>∃ a xs,v=.ref a/\SqT K H a xs/\xs.length=n/\t xs σ H Q
theorem Jc (hc:X.calm=true) (h:PGs X es t)
  (hn:(lr es X.env).length=n:=by rfl) (hst:(lr es X.env).findIdx? (·.1)=xb:=by rfl):PG X (.Tuple es k pos) (RI X.K n t):=by
 intro pins s σ H v u Q I r hw;obtain⟨a,xs,e1,hq,hl,hw⟩:=hw;subst e1;cases r;obtain⟨its,rv,ht,hz⟩:=I.tuple hq;refine assign_Tuple_tuple (I.ok.hd hc) ht (by simp[hn,<- hl,rv.length]) hst fun h' hx=> ?_;have I1:Inv X pins σ H { s with heap:=h' }:=I.kept (t':=s.toks) fun b o e=>hx b o (cj (bp e)) e;exact h pins _ σ H xs _ Q I1 (by simpa using rv) hw
def gSub (to ti:TE) (t:Ra):TG:=fun v σ H Q=>to σ H fun o H1=>ti σ H1 fun i H2=>t o i v H2 fun H3=>Q σ H3
theorem MT (ho:PE X o to) (hi:PE X i ti) (hs:Rb X t)
  (ha:∀ v,assign (.Subscript o i pos) X.env v=(do
   let ov <- holding [v] (eval o X.env)
   let iv <- holding [v,ov] (eval i X.env)
   ng pos
   holding [v,ov,iv] (setItem ov iv v)
   release [v,ov,iv] []):=by intro _;rfl):PG X (.Subscript o i pos) (gSub to ti t):=by
 intro pins s σ H v u Q I r h;rw[ha];refine ae (iz (thn (ho pins s σ H _ I h) fun ov s1 ⟨x,H1,I1,r1,q1⟩=> ?_));refine ae (iz (thn (hi pins s1 σ H1 _ I1 q1) fun iv s2 ⟨y,H2,I2,r2,q2⟩=> ?_));refine ae (uh (ae (iz (thn (hs pins s2 σ H2 x y v ov iv u _ I2 r1 r2 r q2) fun _ s3 ⟨H3,I3,q3⟩=> ?_))));exact wpAny_release ⟨σ,H3,I3,q3⟩
def QQ (te:TE) (g:TG):TS:=fun D σ H=>te σ H fun x H1=>g x σ H1 D.nx
theorem Jb (he:PE X e te) (hg:PG X tg g) (hs:ui [tg] e pos.line X.env=pure false:=by rfl) (hw:uj [tg] e X.env=pure xb:=by rfl)
  (h1:(lr [tg] X.env).map (·.2)=[assign tg X.env]:=by rfl):PS X (.Assign [tg] e pos) (QQ te g):=by
 intro pins s σ H D I h;refine wpAny_Assign_stores (thn (he pins s σ H _ I h) fun v s1 ⟨x,H1,I1,r1,q1⟩=> ?_) hs hw;rw[h1];exact thn (hg pins s1 σ H1 x v _ I1 r1 q1) fun _ s2 q=>q
theorem MO (hN:X.N.Nodup) (hi:X.N[i]?=xa x) (hx:Loc X.env.scope x) (he:PE X e te) (hs:ji e (xa (.Name x pos')) pos.line X.env=pure false:=by rfl) (hf:X.fn x=true∨X.env.scope.names.lookup x=xa .local:=by first|exact .inl rfl|exact .inr rfl|assumption):
  PS X (.Assign [.Name x pos'] e pos) (QQ te (Ot i)):=by
 intro pins s σ H D I h;refine wpAny_Assign_Name (thn (he pins s σ H _ I h) fun v s1 ⟨y,H1,I1,r1,q1⟩=> ?_) hs;exact Bs I1 hN hi hx r1 (fun s2 I2=>⟨_,H1,I2,q1⟩) hf
end
section
variable {X:Cx}{pos:Pos}
end
structure It where
 go:Nat->Hp->Prop
 yld:Nat->Hp->V->Hp->Prop
 stop:Nat->Hp->Prop
def JA (X:Cx) (pins:List (af×Obj)) (H:Hp) (b:af):Prop:=
 H b=xb/\b≠X.env.locals/\b∉X.fs/\(b∈X.ex∨X.s₀.heap.objs.size<=b)/\(∀ x c,X.env.cells.lookup x=xa c->c≠b)/\∀ p∈X.pn++pins,p.1≠b
theorem Inv.fpOk (I:Inv X pins σ H s) (hb:s.heap.objs.size<=b) (hn:H' b=xb):JA X pins H' b:=by
 refine⟨hn,Nat.ne_of_gt (cg I.lt hb),I.nofs hb,.inr (ci I.sz hb),fun x c e z=> ?_,fun p hp z=> ?_⟩
 ·obtain⟨v,q⟩:=I.cell x c e;exact absurd (cg q.lt (by rw[z];exact hb)) (gv _)
 ·exact absurd (cg (bp (I.pin p hp).1) (by rw[z];exact hb)) (gv _)
structure Mc (P:dm) (w:dr) (K:aa) (tg:bw) (J:It) (fp:List af) (it:af) (tn:Nat->c9->Prop):Prop where
 mem:it∈fp
 obj:∀ i h,tn i h->∀ b∈fp,∃ o,h.get? b=xa o/\∀ v,o.data≠ .cell v
 keep:∀ i h h',tn i h->(∀ b∈fp,∀ o,h.get? b=xa o->h'.get? b=xa o)->tn i h'
 item:∀(X:Cx),X.prog=P->X.w=w->X.K=K->X.calm=true->∀(i:Nat) (pins:List (af×Obj)) (s:au) (σ:St) (H:Hp) (E:ag->au->Prop),Inv X pins σ H s->(∀ b∈fp,JA X pins H b)->tn i s.heap->J.go i H->
  az (model P w) X.A (nu (.ref it)) (fun r s1=>∃ u,r=xa u/\
   az (model P w) X.A (o8 tg (.ref it) u) (fun _ s2=>∃ x H',Inv X pins σ H' s2/\RelV x u/\J.yld i H x H'/\tn (i+1) s2.heap/\∀ b∈fp,H' b=xb) E s1) E s
 done:∀(X:Cx),X.prog=P->X.w=w->X.K=K->X.calm=true->∀(i:Nat) (pins:List (af×Obj)) (s:au) (σ:St) (H:Hp) (E:ag->au->Prop),Inv X pins σ H s->(∀ b∈fp,JA X pins H b)->tn i s.heap->J.stop i H->
  az (model P w) X.A (nu (.ref it)) (fun r s1=>r=xb/\Inv X pins σ H s1) E s
 self:∀(A:d8) (i:Nat) (s:au) (Q:ag->au->Prop) (E:ag->au->Prop),tn i s.heap->Q (.ref it) s->az (model P w) A (pyIter (.ref it)) Q E s
abbrev TI:=St->Hp->(It->Hp->Prop)->Prop
def PIE (X:Cx) (pins:List (af×Obj)) (σ:St) (tg:bw) (R:It->Hp->Prop) (itv:ag) (s2:au):Prop:=
 ∃(it:af) (fp:List af) (tn:Nat->c9->Prop) (J:It) (H':Hp),itv=.ref it/\Inv X pins σ H' s2/\Mc X.prog X.w X.K tg J fp it tn/\tn 0 s2.heap/\(∀ b∈fp,JA X pins H' b)/\R J H'
def PI (X:Cx) (tg iter:bw) (wi:TI):Prop:=
 ∀(pins:List (af×Obj)) (s:au) (σ:St) (H:Hp) (R:It->Hp->Prop),Inv X pins σ H s->wi σ H R->
  az (model X.prog X.w) X.A (eval iter X.env) (fun v s1=>az (model X.prog X.w) X.A (pyIter v) (PIE X pins σ tg R) X.xe s1) X.xe s
theorem HW (ho:s.heap.get? it=xa o) (hc:o.cls=.type n) (hd:o.data=.fields vs)
  (hn:["enumerate","zip","dict_itemiterator","dict_reverseitemiterator","odict_iterator","itertools.zip_longest","itertools.pairwise"].contains n=false) (hQ:Q () s):az M A (o8 tg (.ref it) u) Q E s:=by
 unfold o8;cases tg <;> first
  |exact ar hQ
  |(cases u <;> first
    |exact ar hQ
    |(refine ae (wpAny_load ho ?_)
      rw[hc,hd];show az M A (if(["enumerate","zip","dict_itemiterator","dict_reverseitemiterator","odict_iterator","itertools.zip_longest","itertools.pairwise"].contains n&&vs[0]?==xa (mj _))=true then _ else _) Q E s;rw[if_neg (by intro h;rw[hn,wo] at h;cases h)];exact ar hQ))
noncomputable def Itl (K:aa) (a:af):It:=
 ⟨fun i H=>∃ xs x,SqL K H a xs/\xs[i]?=xa x,fun i H x H'=>H'=H/\∀ xs,SqL K H a xs->xs[i]?=xa x,fun i H=>∃ xs,SqL K H a xs/\xs.length<=i⟩
noncomputable def Itt (K:aa) (a:af):It:=
 ⟨fun i H=>∃ xs x,SqT K H a xs/\xs[i]?=xa x,fun i H x H'=>H'=H/\∀ xs,SqT K H a xs->xs[i]?=xa x,fun i H=>∃ xs,SqT K H a xs/\xs.length<=i⟩
noncomputable def Itr (lo:Int) (n:Nat):It:=⟨fun i _=>i<n,fun i H x H'=>H'=H/\x=.int (lo+i),fun i _=>n<=i⟩
theorem DK {K:aa} (a it:af):Mc P w K tg (Itl K a) [it] it (fun i h=>h.IsListIter it a i) where
 mem:=by simp
 obj:=fun i h st b hb=>by
  have e:b=it:=by simpa using hb
  subst e;obtain⟨o,e,c,d⟩:=st;exact⟨o,e,fun v z=>by rw[d] at z;cases z⟩
 keep:=fun i h h' st k=>st.at fun o e=>k it (by simp) o e
 item:=by
  intro X hP hw hK hc i pins s σ H E I hf st hg;subst hP hw hK;obtain⟨xs,x,hq,hx⟩:=hg;obtain⟨its,rv,p,hz⟩:=I.list hq;obtain⟨u,hu,ru⟩:=rv.get hx;obtain⟨f0,f1,f2,f3,f4,f5⟩:=hf it (by simp);refine wpAny_pyNext_list_item st p.isList (x:=u) (by simpa using hu) fun h' st' sb=> ?_;have I1:Inv X pins σ H { s with heap:=h' }:=I.turned (t':=s.toks) (fun b o hb e=>(sb.2 b hb).trans e) f0 f1 f3 f4 f5;obtain⟨o,e,c,d⟩:=id st';exact⟨u,rfl,HW (s:={ s with heap:=h' }) e c d (by decide) ⟨x,H,I1,ru,⟨rfl,fun ys hy=>by rw[I.list_inj hy hq];exact hx⟩,st',fun b hb=>(hf b hb).1⟩⟩
 done:=by
  intro X hP hw hK hc i pins s σ H E I hf st hg;subst hP hw hK;obtain⟨xs,hq,hx⟩:=hg;obtain⟨its,rv,p,hz⟩:=I.list hq;obtain⟨f0,f1,f2,f3,f4,f5⟩:=hf it (by simp);have hl:=rv.length;exact wpAny_pyNext_list_end (I.ok.hd hc) st p.isList (by simp;omega) fun h' eb=>⟨rfl,I.turned (t':=s.toks) (fun b o hb e=>eb b o hb e) f0 f1 f3 f4 f5⟩
 self:=fun _ _ _ _ _ st h=>wpAny_pyIter_listiter st h
theorem Cu {K:aa} (a it:af):Mc P w K tg (Itt K a) [it] it (fun i h=>h.IsTupleIter it a i) where
 mem:=by simp
 obj:=fun i h st b hb=>by
  have e:b=it:=by simpa using hb
  subst e;obtain⟨o,e,c,d⟩:=st;exact⟨o,e,fun v z=>by rw[d] at z;cases z⟩
 keep:=fun i h h' st k=>st.at fun o e=>k it (by simp) o e
 item:=by
  intro X hP hw hK hc i pins s σ H E I hf st hg;subst hP hw hK;obtain⟨xs,x,hq,hx⟩:=hg;obtain⟨its,rv,p,hz⟩:=I.tuple hq;obtain⟨u,hu,ru⟩:=rv.get hx;obtain⟨f0,f1,f2,f3,f4,f5⟩:=hf it (by simp);refine wpAny_pyNext_tuple_item st (show s.heap.IsTuple a its.toArray from p) (x:=u) (by simpa using hu) fun h' st' sb=> ?_;have I1:Inv X pins σ H { s with heap:=h' }:=I.turned (t':=s.toks) (fun b o hb e=>(sb.2 b hb).trans e) f0 f1 f3 f4 f5;obtain⟨o,e,c,d⟩:=id st';exact⟨u,rfl,HW (s:={ s with heap:=h' }) e c d (by decide) ⟨x,H,I1,ru,⟨rfl,fun ys hy=>by rw[I.tuple_inj hy hq];exact hx⟩,st',fun b hb=>(hf b hb).1⟩⟩
 done:=by
  intro X hP hw hK hc i pins s σ H E I hf st hg;subst hP hw hK;obtain⟨xs,hq,hx⟩:=hg;obtain⟨its,rv,p,hz⟩:=I.tuple hq;obtain⟨f0,f1,f2,f3,f4,f5⟩:=hf it (by simp);have hl:=rv.length;exact wpAny_pyNext_tuple_end (I.ok.hd hc) st (show s.heap.IsTuple a its.toArray from p) (by simp;omega) fun h' eb=>⟨rfl,I.turned (t':=s.toks) (fun b o hb e=>eb b o hb e) f0 f1 f3 f4 f5⟩
 self:=fun _ _ _ _ _ st h=>wpAny_pyIter_tupleiter st h
theorem Cv {K:aa} (it:af) (lo:Int) (n:Nat):Mc P w K tg (Itr lo n) [it] it (fun i h=>IsRangeIter h it (lo+(i:Nat)*1) ((n:Int)-(i:Nat)) 1) where
 mem:=by simp
 obj:=fun i h st b hb=>by
  have e:b=it:=by simpa using hb
  subst e;exact⟨_,st,fun v z=>by
   have z':Data.fields _=uy v:=z;cases z'⟩
 keep:=fun i h h' st k=>k it (by simp) _ st
 item:=by
  intro X hP hw hK hc i pins s σ H E I hf st hg;subst hP hw hK;obtain⟨f0,f1,f2,f3,f4,f5⟩:=hf it (by simp);have W:=Walks.range (prog:=X.prog) (w:=X.w) (I.ok.hd hc) it lo 1 n;refine W.item i s _ _ hg st fun v h' tk hv st' kk=> ?_;obtain⟨t,rfl⟩:=hv;have I1:Inv X pins σ H { s with heap:=h',toks:=tk }:=I.turned (fun b o hb e=>kk b o (by simpa using hb) e) f0 f1 f3 f4 f5;refine⟨_,rfl,HW (s:={ s with heap:=h',toks:=tk }) (n:="range_iterator") st' rfl rfl (by decide) ⟨.int (lo+i),H,I1,⟨t,?_⟩,⟨rfl,rfl⟩,st',fun b hb=>(hf b hb).1⟩⟩;rw[Int.mul_one]
 done:=by
  intro X hP hw hK hc i pins s σ H E I hf st hg;subst hP hw hK;obtain⟨f0,f1,f2,f3,f4,f5⟩:=hf it (by simp);exact wpAny_pyNext_range_end (I.ok.hd hc) st (by have:n<=i:=hg;omega) fun h' eb=>⟨rfl,I.turned (t':=s.toks) (fun b o hb e=>eb b o hb e) f0 f1 f3 f4 f5⟩
 self:=fun _ _ _ _ _ st h=>wpAny_pyIter_rangeiter st h
end L2
namespace L2
section
variable {X:Cx}{tg:bw}
def Qs (K:aa) (tl:TE):TI:=fun σ H R=>tl σ H fun x H1=>∃ a,x=.ref a/\(∃ xs,SqL K H1 a xs)/\R (Itl K a) H1
def RE (K:aa) (tl:TE):TI:=fun σ H R=>tl σ H fun x H1=>∃ a,x=.ref a/\(∃ xs,SqT K H1 a xs)/\R (Itt K a) H1
theorem JX (hl:PE X l tl):PI X tg l (Qs X.K tl):=by
 intro pins s σ H R I h;refine thn (hl pins s σ H _ I h) fun v s1 ⟨x,H1,I1,r1,q1⟩=> ?_;obtain⟨a,e,⟨xs,hq⟩,q⟩:=q1;subst e;cases r1;obtain⟨its,rv,p,hz⟩:=I1.list hq;refine wpAny_pyIter_list p.isList ?_;refine⟨s1.heap.objs.size,[s1.heap.objs.size],_,_,H1,rfl,I1.kept (t':=s1.toks) fun b o e=>bc _ e,DK a _,⟨_,b0 _ rfl,rfl,rfl⟩,fun b hb=> ?_,q⟩;have e:b=s1.heap.objs.size:=by simpa using hb
 subst e;exact I1.fpOk (bf _) (I1.hok.fresh (bf _))
theorem MS (hl:PE X l tl):PI X tg l (RE X.K tl):=by
 intro pins s σ H R I h;refine thn (hl pins s σ H _ I h) fun v s1 ⟨x,H1,I1,r1,q1⟩=> ?_;obtain⟨a,e,⟨xs,hq⟩,q⟩:=q1;subst e;cases r1;obtain⟨its,rv,p,hz⟩:=I1.tuple hq;refine wpAny_pyIter_tuple (show s1.heap.IsTuple a its.toArray from p) ?_;refine⟨s1.heap.objs.size,[s1.heap.objs.size],_,_,H1,rfl,I1.kept (t':=s1.toks) fun b o e=>bc _ e,Cu a _,⟨_,b0 _ rfl,rfl,rfl⟩,fun b hb=> ?_,q⟩;have e:b=s1.heap.objs.size:=by simpa using hb
 subst e;exact I1.fpOk (bf _) (I1.hok.fresh (bf _))
theorem GQ {lo hi:Int} (I:Inv X pins σ H s) (h1: -(2 ^ 62)<=lo) (h2:lo<2 ^ 62) (h3: -(2 ^ 62)<=hi) (h4:hi<2 ^ 62)
  (q:R (Itr lo (hi-lo).toNat) H):az (model X.prog X.w) X.A (pyIter (.ref s.heap.objs.size)) (PIE X pins σ tg R) E { s with heap:=s.heap.push { cls:=.type "range",data:=.fields #[.int lo t,.int hi u,.int 1 v] },toks:=tk }:=by
 refine wpAny_pyIter_range (IsRange.new ..) (small_one h1 h2 h3 h4) ?_;have I1:Inv X pins σ H { s with heap:=s.heap.push { cls:=.type "range",data:=.fields #[.int lo t,.int hi u,.int 1 v] },toks:=tk }:=I.kept fun b o e=>bc _ e;refine⟨(s.heap.push { cls:=.type "range",data:=.fields #[.int lo t,.int hi u,.int 1 v] }).objs.size,[(s.heap.push { cls:=.type "range",data:=.fields #[.int lo t,.int hi u,.int 1 v] }).objs.size],_,_,H,rfl,
  I1.kept (t':=tk) fun b o e=>bc _ e,Cv _ lo (hi-lo).toNat,?_,fun b hb=> ?_,q⟩
 ·have e1:lo+((0:Nat):Int)*1=lo:=by simp
  have e2:(((hi-lo).toNat:Nat):Int)-((0:Nat):Int)=Builtin.Range.rangeSize lo hi 1:=by rw[rangeSize_one];split <;> omega
  show IsRangeIter _ _ (lo+((0:Nat):Int)*1) ((((hi-lo).toNat:Nat):Int)-((0:Nat):Int)) 1;rw[e1,e2];exact b0 _ rfl
 ·have e:b=(s.heap.push { cls:=.type "range",data:=.fields #[.int lo t,.int hi u,.int 1 v] }).objs.size:=by simpa using hb
  subst e;exact I1.fpOk (bf _) (I1.hok.fresh (bf _))
def Qr (ta:TA):TI:=fun σ H R=>ta σ H fun vs H1=>∃ j:Int,vs=[.int j]/\ -(2 ^ 62)<=j/\j<2 ^ 62/\R (Itr 0 j.toNat) H1
theorem En (hg:Gl X "range") (hm:X.mg "range"=xb) (ha:PA X [a] ta) (hs:ay [a] X.env=[(false,eval a X.env)]:=by rfl):PI X tg (.Call (.Name "range" p) [a] [] pos) (Qr ta):=by
 intro pins s σ H R I h;refine Call_ (xS I hg hm boot_range (lm (thn (ha pos pins s σ H _ I h) fun us s1 ⟨vs,H1,I1,r1,q1⟩=> ?_) hs rfl));obtain⟨j,e,q1,q2,q⟩:=q1;subst e;cases r1 with
 |cons r rr=>
  cases rr;obtain⟨t,rfl⟩:=r;exact call_range_1 (GQ I1 (by omega) (by omega) q1 q2 (by simpa using q))
def Pw (wi:TI) (g:TG) (tb:TS):TS:=fun D σ H=>wi σ H fun J H1=>∃ W:Nat->Nat->St->Hp->Prop,(∃ m,W 0 m σ H1)/\∀ i m σ H,W i m σ H->
 (J.stop i H/\D.nx σ H)∨(J.go i H/\∃ N:St->Hp->Prop,(∀ σ' H',N σ' H'->∃ m',m'<m/\W (i+1) m' σ' H')/\∀ x H',J.yld i H x H'->g x σ H' fun σ2 H2=>tb { D with nx:=N,ct:=N,bk:=D.nx } σ2 H2)
noncomputable def xH (fp:List af) (h:c9):List (af×Obj):=fp.filterMap fun b=>(h.get? b).map fun o=>(b,o)
theorem jS (hb:b∈fp) (e:h.get? b=xa o):(b,o)∈xH fp h:=g7.mpr ⟨b,hb,by rw[e];rfl⟩
theorem EA (hp:p∈xH fp h):p.1∈fp/\h.get? p.1=xa p.2:=by
 obtain⟨b,hb,e⟩:=g7.mp hp;cases q:h.get? b with
 |none=>rw[q] at e;cases e
 |some o=>
  rw[q] at e;have e':(b,o)=p:=cf e;subst e';exact⟨hb,q⟩
theorem Inv.pinned (I:Inv X pins σ H s) (hf:∀ b∈fp,JA X pins H b) (ho:∀ b∈fp,∃ o,s.heap.get? b=xa o/\∀ v,o.data≠ .cell v):Inv X (pins++xH fp s.heap) σ H s:=
 I.pins_of fun p hp=>(cm.mp hp).elim (fun z=>I.pin p (eu _ z)) fun z=>by
  obtain⟨hb,e⟩:=EA z;obtain⟨f0,f1,f2,_⟩:=hf p.1 hb;obtain⟨o,e',d⟩:=ho p.1 hb;rw[e] at e';cases e';exact⟨e,f0,f1,f2,d⟩
theorem Inv.unpinned (I:Inv X (pins++pl) σ H s):Inv X pins σ H s:=I.pins_of fun p hp=>I.pin p (eu _ (de _ hp))
theorem Ja (hp:PassesOwn (model X.prog X.w) X.A X.env X.xe) (hc:X.calm=true) (hi:PI X tg iter wi) (hg:PG X tg g) (hb:PSs X body tb)
  (hs:∀ x,gq iter X.env x=pure x:=by intro _;rfl):PS X (.For tg iter body [] pos) (Pw wi g tb):=by
 intro pins s σ H D I h;refine wpAny_For (thn (hi pins s σ H _ I h) fun v s1 h1=>thn h1 fun itv s2 h2=> ?_) hs;obtain⟨it,fp,tn,J,H2,e,I2,T,st2,f2,W,⟨m0,w0⟩,turn⟩:=h2;subst e
 -- what stays true of the iterator's objects through the loop
 have stat:∀ {H':Hp},(∀ b∈fp,H' b=xb)->∀ b∈fp,JA X pins H' b:=fun hn b hb=>⟨hn b hb,(f2 b hb).2⟩;refine codeAny_forLoop_any (fun n s'=>∃ i σ' H',Inv X pins σ' H' s'/\tn i s'.heap/\(∀ b∈fp,H' b=xb)/\W i n σ' H') ?_ m0 ⟨0,σ,H2,I2,st2,fun b hb=>(f2 b hb).1,w0⟩;rintro n s3 ⟨i,σ3,H3,I3,st3,fr3,w3⟩;rcases turn i n σ3 H3 w3 with⟨stop,qn⟩|⟨go,N,hN,step⟩
 ·refine l9 hp (thn (T.done X rfl rfl rfl hc i pins s3 σ3 H3 X.xe I3 (stat fr3) st3 stop) fun r s4 ⟨hr,I4⟩=> ?_);subst hr;exact o7 ⟨σ3,H3,I4,qn⟩
 ·refine l9 hp (thn (T.item X rfl rfl rfl hc i pins s3 σ3 H3 X.xe I3 (stat fr3) st3 go) fun r s4 ⟨u,hr,h4⟩=> ?_);subst hr;refine l9 hp (thn h4 fun _ s5 ⟨x,H5,I5,r5,y5,st5,fr5⟩=> ?_);have I5':=I5.pinned (stat fr5) (T.obj _ _ st5);refine l9 hp (thn (hg _ s5 σ3 H5 x u _ I5' r5 (step x H5 y5)) fun _ s6 ⟨σ6,H6,I6,q6⟩=> ?_);refine l9 hp (thn (hb _ s6 σ6 H6 _ I6 q6) fun f s7 q7=> ?_);have again:∀ {σ7:St}{H7:Hp},Inv X (pins++xH fp s5.heap) σ7 H7 s7->N σ7 H7->∃ m,m<n/\∃ i σ' H',Inv X pins σ' H' s7/\tn i s7.heap/\(∀ b∈fp,H' b=xb)/\W i m σ' H':=fun {σ7 H7} I7 n7=>by
   obtain⟨m',hm,w7⟩:=hN σ7 H7 n7;refine⟨m',hm,i+1,σ7,H7,I7.unpinned,T.keep _ _ _ st5 fun b hb o e=>(I7.pin (b,o) (eu _ (eu _ (jS hb e)))).1,fun b hb=> ?_,w7⟩;obtain⟨o,e,d⟩:=T.obj _ _ st5 b hb;exact(I7.pin (b,o) (eu _ (eu _ (jS hb e)))).2.1
  cases f with
  |next=>obtain⟨σ7,H7,I7,n7⟩:=q7;exact again I7 n7
  |cont=>obtain⟨σ7,H7,I7,n7⟩:=q7;exact again I7 n7
  |brk=>obtain⟨σ7,H7,I7,q7⟩:=q7;exact⟨σ7,H7,I7.unpinned,q7⟩
  |ret v=>obtain⟨x7,σ7,H7,I7,r7,q7⟩:=q7;exact⟨x7,σ7,H7,I7.unpinned,r7,q7⟩
end
end L2
namespace L2
abbrev R2:=V->V->Hp->VK->Prop
def OpR (X:Cx) (f:ag->ag->Sem ag) (r:R2):Prop:=
 ∀(pins:List (af×Obj)) (s:au) (σ:St) (H:Hp) (x y:V) (v u:ag) (Q:VK),Inv X pins σ H s->RelV x v->RelV y u->r x y H Q->
  az (model X.prog X.w) X.A (f v u) (EP X pins σ Q) X.xe s
def UnR (X:Cx) (f:ag->Sem ag) (r:V->Hp->VK->Prop):Prop:=
 ∀(pins:List (af×Obj)) (s:au) (σ:St) (H:Hp) (x:V) (v:ag) (Q:VK),Inv X pins σ H s->RelV x v->r x H Q->
  az (model X.prog X.w) X.A (f v) (EP X pins σ Q) X.xe s
def CallR (X:Cx) (f:ag) (r:List V->Hp->VK->Prop):Prop:=
 ∀(pins:List (af×Obj)) (s:au) (σ:St) (H:Hp) (xs:List V) (us:List ag) (Q:VK),Inv X pins σ H s->Vals xs us->r xs H Q->
  az (model X.prog X.w) X.A (call f us) (EP X pins σ Q) X.xe s
def RU (X:Cx) (r:V->Hp->(Bool->Hp->Prop)->Prop):Prop:=
 ∀(pins:List (af×Obj)) (s:au) (σ:St) (H:Hp) (x:V) (v:ag) (Q:Bool->Hp->Prop),Inv X pins σ H s->RelV x v->r x H Q->
  az (model X.prog X.w) X.A (truthy v) (TP X pins σ Q) X.xe s
def tOp (r:R2) (ta tb:TE):TE:=fun σ H Q=>ta σ H fun x H1=>tb σ H1 fun y H2=>r x y H2 Q
def tUn (r:V->Hp->VK->Prop) (ta:TE):TE:=fun σ H Q=>ta σ H fun x H1=>r x H1 Q
noncomputable def rI (C:Int->Int->Prop) (g:Int->Int->V):R2:=fun x y H Q=>∃ i j,x=.int i/\y=.int j/\C i j/\Q (g i j) H
noncomputable def rI0 (g:Int->Int->V):R2:=fun x y H Q=>∃ i j,x=.int i/\y=.int j/\Q (g i j) H
def rU (g:Int->V):V->Hp->VK->Prop:=fun x H Q=>∃ i,x=.int i/\Q (g i) H
section
variable {X:Cx}{a b c:bw}{ta tb tc:TE}{pos:Pos}
theorem QF (ha:PE X a ta) (hb:PE X b tb) {R:V->V->Hp->Prop} (I:Inv X pins σ H s)
  (h:ta σ H fun x H1=>tb σ H1 fun y H2=>R x y H2) {f:ag->ag->Sem ag}
  (hf:∀ v u s2 x y H2,Inv X pins σ H2 s2->RelV x v->RelV y u->R x y H2->az (model X.prog X.w) X.A (f v u) Q X.xe s2):
  az (model X.prog X.w) X.A (eval a X.env) (fun v s₁=>az (model X.prog X.w) X.A (eval b X.env) (fun u s₂=>az (model X.prog X.w) X.A (f v u) Q X.xe s₂) X.xe s₁) X.xe s:=by
 refine thn (ha pins s σ H _ I h) fun v s1 ⟨x,H1,I1,r1,q1⟩=> ?_;refine thn (hb pins s1 σ H1 _ I1 q1) fun u s2 ⟨y,H2,I2,r2,q2⟩=> ?_;exact hf v u s2 x y H2 I2 r1 r2 q2
theorem PU (ho:OpR X (j4 op) r) (ha:PE X a ta) (hb:PE X b tb):PE X (.BinOp a op b pos) (tOp r ta tb):=by
 intro pins s σ H Q I h;exact wpAny_BinOp (QF ha hb I h fun v u s2 x y H2 I2 rx ry q=>ho pins s2 σ H2 x y v u Q I2 rx ry q)
theorem PR (ho:UnR X (unaryOp op) r) (ha:PE X a ta):PE X (.UnaryOp op a pos) (tUn r ta):=by
 intro pins s σ H Q I h;exact UnaryOp_ (thn (ha pins s σ H _ I h) fun v s1 ⟨x,H1,I1,r1,q1⟩=>ho pins s1 σ H1 x v Q I1 r1 q1)
theorem opI {g:Int->Int->Int}
  (rule:∀(i j:Int) (t u:Tok) (s:au) (Q:ag->au->Prop) (E:ag->au->Prop),C i j->Q (.int (g i j) s.toks) { s with toks:=s.toks+1 }->az (model X.prog X.w) X.A (f (.int i t) (.int j u)) Q E s):
  OpR X f (rI C fun i j=>.int (g i j)):=by
 intro pins s σ H x y v u Q I rx ry h;obtain⟨i,j,rfl,rfl,hc,q⟩:=h;obtain⟨t,rfl⟩:=rx;obtain⟨t',rfl⟩:=ry;exact rule i j t t' s _ _ hc ⟨.int (g i j),H,I.tok _,⟨_,rfl⟩,q⟩
theorem QX {g:Int->Int->Int}
  (rule:∀(i j:Int) (t u:Tok) (s:au) (Q:ag->au->Prop) (E:ag->au->Prop),Q (.int (g i j) s.toks) { s with toks:=s.toks+1 }->az (model X.prog X.w) X.A (f (.int i t) (.int j u)) Q E s):
  OpR X f (rI0 fun i j=>.int (g i j)):=by
 intro pins s σ H x y v u Q I rx ry h;obtain⟨i,j,rfl,rfl,q⟩:=h;obtain⟨t,rfl⟩:=rx;obtain⟨t',rfl⟩:=ry;exact rule i j t t' s _ _ ⟨.int (g i j),H,I.tok _,⟨_,rfl⟩,q⟩
theorem Pb {g:Int->Int->Bool}
  (rule:∀(i j:Int) (t u:Tok) (s:au) (Q:ag->au->Prop) (E:ag->au->Prop),Q (.bool (g i j)) s->az (model X.prog X.w) X.A (f (.int i t) (.int j u)) Q E s):
  OpR X f (rI0 fun i j=>.bl (g i j)):=by
 intro pins s σ H x y v u Q I rx ry h;obtain⟨i,j,rfl,rfl,q⟩:=h;obtain⟨t,rfl⟩:=rx;obtain⟨t',rfl⟩:=ry;exact rule i j t t' s _ _ ⟨.bl (g i j),H,I,rfl,q⟩
def CMul (i j:Int):Prop:=(-(2 ^ 64)<i/\i<2 ^ 64)∨(-(2 ^ 64)<j/\j<2 ^ 64)
theorem CMul.ok (h:CMul i j):IntMulOk i j:=by
 rcases h with⟨h1,h2⟩|⟨h1,h2⟩
 ·exact .of_left (intBits_le_64 h1 h2)
 ·exact .of_right (intBits_le_64 h1 h2)
theorem NG:OpR X (j4 .Add) (rI0 fun i j=>.int (i+j)):=QX fun _ _ _ _ _ _ _ q=>add_int q
theorem Nx:OpR X (j4 .Sub) (rI0 fun i j=>.int (i-j)):=QX fun _ _ _ _ _ _ _ q=>sub_int q
theorem Nz:OpR X (j4 .Mult) (rI CMul fun i j=>.int (i*j)):=opI fun _ _ _ _ _ _ _ hc q=>mul_int q hc.ok
theorem NA:OpR X (j4 .Mod) (rI (fun _ j=>0<j) fun i j=>.int (i % j)):=opI fun i j _ _ _ _ _ hc q=>by
 have h1:(0:Int)<j:=hc;exact mod_int' (by omega) (by rw[Int.fmod_eq_emod_of_nonneg i (by omega)];exact q)
theorem unI {g:Int->Int}
  (rule:∀(i:Int) (t:Tok) (s:au) (Q:ag->au->Prop) (E:ag->au->Prop),Q (.int (g i) s.toks) { s with toks:=s.toks+1 }->az (model X.prog X.w) X.A (f (.int i t)) Q E s):
  UnR X f (rU fun i=>.int (g i)):=by
 intro pins s σ H x v Q I rx h;obtain⟨i,rfl,q⟩:=h;obtain⟨t,rfl⟩:=rx;exact rule i t s _ _ ⟨.int (g i),H,I.tok _,⟨_,rfl⟩,q⟩
theorem Ms:UnR X (unaryOp .USub) (rU fun i=>.int (-i)):=unI fun _ _ _ _ _ q=>neg_int q
end
section
variable {X:Cx}{a b c:bw}{ta tb tc:TE}{pos:Pos}
theorem OB (I:Inv X pins σ H s) (q:Q (.bl k) H) (e:k=k'):EP X pins σ Q (.bool k') s:=by
 subst e;exact⟨.bl k,H,I,rfl,q⟩
theorem NB:OpR X (fx .Lt) (rI0 fun i j=>.bl (decide (i<j))):=Pb fun _ _ _ _ _ _ _ q=>vz q
theorem Ku:OpR X (fx .LtE) (rI0 fun i j=>.bl (decide (i<=j))):=Pb fun _ _ _ _ _ _ _ q=>le_int q
theorem ND:OpR X (fx .Gt) (rI0 fun i j=>.bl (decide (j<i))):=Pb fun _ _ _ _ _ _ _ q=>gt_int q
theorem Qg:OpR X (fx .GtE) (rI0 fun i j=>.bl (decide (j<=i))):=Pb fun _ _ _ _ _ _ _ q=>ge_int q
theorem Ks:OpR X (fx .IsNot) (fun x y H Q=>y=.non/\Q (.bl (!decide (x=.non))) H):=by
 intro pins s σ H x y v u Q I rx ry h;obtain⟨rfl,q⟩:=h;cases ry;refine isnot_none_gen (OB I q ?_);cases x <;> first
  |(cases rx;rfl)
  |(obtain⟨t,rfl⟩:=rx;rfl)
theorem kF (b:bw) (h:op≠ .In:=by decide) (h2:op≠ .NotIn:=by decide):iy op b=false:=by
 have e1:(op==CmpOp.In)=false:=by cases op <;> first|rfl|exact absurd rfl h
 have e2:(op==CmpOp.NotIn)=false:=by cases op <;> first|rfl|exact absurd rfl h2
 cases b <;> simp[iy,e1,e2]
theorem Ke (ho:OpR X (fx op) r) (ha:PE X a ta) (hb:PE X b tb) (hm:iy op b=false):PE X (.Compare a [op] [b] pos) (tOp r ta tb):=by
 intro pins s σ H Q I h;exact wpAny_Compare1 (QF ha hb I h fun v u s2 x y H2 I2 rx ry q=>ho pins s2 σ H2 x y v u Q I2 rx ry q) hm
def Mw (t:TE):TT:=fun σ H Q=>t σ H fun x H'=>∃ k,x=.bl k/\Q k H'
theorem JN (ho:OpR X (fx op) r) (ha:PE X a ta) (hb:PE X b tb) (hm:iy op b=false):PT X (.Compare a [op] [b] pos) (Mw (tOp r ta tb)):=by
 intro pins s σ H Q I h;refine tf (thn (ha pins s σ H _ I h) fun v s1 ⟨x,H1,I1,r1,q1⟩=>thn (hb pins s1 σ H1 _ I1 q1) fun u s2 ⟨y,H2,I2,r2,q2⟩=>
  thn (ho pins s2 σ H2 x y v u _ I2 r1 r2 q2) fun c s3 ⟨z,H3,I3,r3,k,e,q3⟩=> ?_) hm
 subst e;cases r3;exact dy ⟨H3,I3,q3⟩
def MA (r r':R2) (ta tb tc:TE):TE:=fun σ H Q=>ta σ H fun x H1=>tb σ H1 fun y H2=>r x y H2 fun z H3=>∃ k,z=.bl k/\
 (if k=true then tc σ H3 fun w' H4=>r' y w' H4 Q else Q (.bl false) H3)
theorem GV (ho:OpR X (fx op) r) (ho':OpR X (fx op') r') (ha:PE X a ta) (hb:PE X b tb) (hc:PE X c tc)
  (hm:lastMarks [op,op'] [b,c]=false:=by with_unfolding_all rfl):PT X (.Compare a [op,op'] [b,c] pos) (Mw (MA r r' ta tb tc)):=by
 intro pins s σ H Q I h;refine isTrue_chain (thn (ha pins s σ H _ I h) fun v s1 ⟨x,H1,I1,r1,q1⟩=>test_link (thn (hb pins s1 σ H1 _ I1 q1) fun u s2 ⟨y,H2,I2,r2,q2⟩=>
  thn (ho pins s2 σ H2 x y v u _ I2 r1 r2 q2) fun d s3 ⟨z,H3,I3,r3,k,e,q3⟩=> ?_)) hm
 subst e;cases r3;refine dy ?_;cases k with
 |false=>
  obtain⟨k',e',q'⟩:=q3;cases e';exact ite_ff ⟨H3,I3,q'⟩
 |true=>
  refine ite_tt (test_last (thn (hc pins s3 σ H3 _ I3 q3) fun w' s4 ⟨z',H4,I4,r4,q4⟩=>thn (ho' pins s4 σ H4 y z' u w' _ I4 r2 r4 q4) fun d' s5 ⟨z2,H5,I5,r5,k2,e2,q5⟩=> ?_));subst e2;cases r5;exact dy ⟨H5,I5,q5⟩
def QG (K:aa) (x:V) (H:Hp) (k:Bool):Prop:=
 match x with
 |.non=>k=false
 |.bl b=>k=b
 |.int i=>k=(i !=0)
 |.str y=>y.length<=sizeLine/\k=((y.length:Int) !=0)
 |.byt y=>y.size<=sizeLine/\k=((y.size:Int) !=0)
 |.ref p=>(∃ xs,SqL K H p xs/\k= !xs.isEmpty)∨(∃ xs,SqT K H p xs/\k= !xs.isEmpty)∨∃ kvs,H p=xa (.dK kvs)/\k= !kvs.isEmpty
 |_=>False
theorem CW {vs:List (κ×ag)} (r:KV kvs vs):(!vs.isEmpty)= !kvs.isEmpty:=by
 cases r <;> rfl
theorem tE (r:Vals xs its):(!its.toArray.isEmpty)= !xs.isEmpty:=by
 cases r <;> simp
theorem sW:(sizeLine:Nat)<2 ^ 63:=by rw[bv];decide
theorem tru_ok:RU X (fun x H Q=>∃ k,QG X.K x H k/\Q k H):=by
 intro pins s σ H x v Q I rx h;obtain⟨k,e,q⟩:=h;have hl:=sW;have hs:sizeLine=16777216:=bv;cases x with
 |non=>
  cases rx;have e':k=false:=e;subst e';exact truthy_none ⟨H,I,q⟩
 |bl b=>
  cases rx;have e':k=b:=e;subst e';exact dy ⟨H,I,q⟩
 |int i=>
  obtain⟨t,rfl⟩:=rx;have e':k=(i !=0):=e;subst e';exact PySem.P.truthy_int ⟨H,I,q⟩
 |str y=>
  obtain⟨t,rfl⟩:=rx;obtain⟨hy,e'⟩:y.length<=sizeLine/\k=((y.length:Int) !=0):=e;subst e';exact PySem.P.truthy_str (by omega) ⟨H,I.tok _,q⟩
 |byt y=>
  obtain⟨t,rfl⟩:=rx;obtain⟨hy,e'⟩:y.size<=sizeLine/\k=((y.size:Int) !=0):=e;subst e';exact PySem.W.truthy_bytes (by omega) ⟨H,I.tok _,q⟩
 |ref p=>
  cases rx;have e':(∃ xs,SqL X.K H p xs/\k= !xs.isEmpty)∨(∃ xs,SqT X.K H p xs/\k= !xs.isEmpty)∨∃ kvs,H p=xa (.dK kvs)/\k= !kvs.isEmpty:=e;rcases e' with⟨xs,hx,e'⟩|⟨xs,hx,e'⟩|⟨kvs,hx,e'⟩
  ·subst e';obtain⟨its,r,pl,hz⟩:=I.list hx;have hlen:=r.length;exact wpAny_truthy_list pl.isList (by simp only[bi];omega) ⟨H,I.tok _,by rw[tE r];exact q⟩
  ·subst e';obtain⟨its,r,pl,hz⟩:=I.tuple hx;have hlen:=r.length;exact truthy_tuple pl (by simp only[bi];omega) ⟨H,I.tok _,by rw[tE r];exact q⟩
  ·subst e';obtain⟨hz,hS,vs,r,m⟩:kvs.length<=sizeLine/\(p==fu)=false/\∃ vs,KV kvs vs/\s.heap.DictOf (aN X.prog X.w) p vs:=I.hok p _ hx;have hlen:kvs.length=vs.length:=jc r;exact wpAny_truthy_dict hS m (by omega) ⟨H,I.tok _,by rw[CW r];exact q⟩
 |_=>exact(show False from e).elim
theorem GU (ha:PE X a ta) (he:∀ whole,isTrue a X.env whole=(do let v <- whole;ng a.pos;holding [v] (truthy v))):
  PT X a (fun σ H Q=>ta σ H fun x H'=>∃ k,QG X.K x H' k/\Q k H'):=by
 intro pins s σ H Q I h;exact isTrue_plain (thn (ha pins s σ H _ I h) fun v s1 ⟨x,H1,I1,r1,q1⟩=>tru_ok pins s1 σ H1 x v Q I1 r1 q1) (he _)
theorem CJ:OpR X (j4 .Add) (fun x y H Q=>∃ i j,x=.str i/\y=.str j/\i.length+j.length<=sizeLine/\Q (.str (i++j)) H):=by
 intro pins s σ H x y v u Q I rx ry h;obtain⟨i,j,rfl,rfl,hz,q⟩:=h;obtain⟨t,rfl⟩:=rx;obtain⟨t',rfl⟩:=ry;exact add_str (fun t' tk=>⟨.str (i++j),H,I.tok _,⟨_,rfl⟩,q⟩) hz
theorem mG (r:Vals [x] us):∃ u,us=[u]/\RelV x u:=by
 cases r with
 |cons r1 r2=>cases r2;exact⟨_,rfl,r1⟩
theorem GB (r:Vals [x,y] us):∃ u w',us=[u,w']/\RelV x u/\RelV y w':=by
 cases r with
 |cons r1 r2=>
  cases r2 with
  |cons r3 r4=>cases r4;exact⟨_,_,rfl,r1,r3⟩
theorem Gg (hc:X.calm=true):CallR X (.builtin "max") (fun xs H Q=>∃ i j,xs=[.int i,.int j]/\Q (.int (if j>i then j else i)) H):=by
 intro pins s σ H xs us Q I r h;obtain⟨i,j,rfl,q⟩:=h;obtain⟨u,w',rfl,⟨t,rfl⟩,⟨t',rfl⟩⟩:=GB r;refine max_two_ints (I.ok.hd hc) fun h' tk k=>⟨_,H,I.kept k,?_,q⟩
 by_cases hj:j>i
 ·rw[if_pos hj,if_pos hj];exact⟨_,rfl⟩
 ·rw[if_neg hj,if_neg hj];exact⟨_,rfl⟩
theorem Gf (hc:X.calm=true):CallR X (.builtin "min") (fun xs H Q=>∃ i j,xs=[.int i,.int j]/\Q (.int (if j<i then j else i)) H):=by
 intro pins s σ H xs us Q I r h;obtain⟨i,j,rfl,q⟩:=h;obtain⟨u,w',rfl,⟨t,rfl⟩,⟨t',rfl⟩⟩:=GB r;refine min_two_ints (I.ok.hd hc) fun h' tk k=>⟨_,H,I.kept k,?_,q⟩
 by_cases hj:j<i
 ·rw[if_pos hj,if_pos hj];exact⟨_,rfl⟩
 ·rw[if_neg hj,if_neg hj];exact⟨_,rfl⟩
theorem call_int1:CallR X (.type "int") (fun xs H Q=>(∃ i,xs=[.int i]/\Q (.int i) H)∨∃ k,xs=[.bl k]/\Q (.int (if k then 1 else 0)) H):=by
 intro pins s σ H xs us Q I r h;rcases h with⟨i,rfl,q⟩|⟨k,rfl,q⟩
 ·obtain⟨u,rfl,t,rfl⟩:=mG r;exact call_int_int ⟨.int i,H,I,⟨_,rfl⟩,q⟩
 ·obtain⟨u,rfl,r1⟩:=mG r;cases r1;exact call_int_bool ⟨.int (if k then 1 else 0),H,I.tok _,⟨_,rfl⟩,q⟩
def QM (K:aa) (x:V) (H:Hp) (n:Nat):Prop:=
 match x with
 |.str y=>y.length<=sizeLine/\n=y.length
 |.byt y=>y.size<=sizeLine/\n=y.size
 |.ref p=>(∃ xs,SqL K H p xs/\n=xs.length)∨∃ xs,SqT K H p xs/\n=xs.length
 |_=>False
theorem IM:CallR X (.builtin "len") (fun xs H Q=>∃ x n,xs=[x]/\QM X.K x H n/\Q (.int n) H):=by
 intro pins s σ H xs us Q I r h;obtain⟨x,n,rfl,e,q⟩:=h;obtain⟨u,rfl,rx⟩:=mG r;have hl:=sW;have hs:sizeLine=16777216:=bv;cases x with
 |str y=>
  obtain⟨t,rfl⟩:=rx;obtain⟨hy,e'⟩:y.length<=sizeLine/\n=y.length:=e;subst e';exact len_str (by omega) ⟨.int _,H,I.tok _,⟨_,rfl⟩,q⟩
 |byt y=>
  obtain⟨t,rfl⟩:=rx;obtain⟨hy,e'⟩:y.size<=sizeLine/\n=y.size:=e;subst e';exact PySem.W.len_bytes (by omega) ⟨.int _,H,I.tok _,⟨_,rfl⟩,q⟩
 |ref p=>
  cases rx;have e':(∃ xs,SqL X.K H p xs/\n=xs.length)∨∃ xs,SqT X.K H p xs/\n=xs.length:=e;rcases e' with⟨xs,hx,e'⟩|⟨xs,hx,e'⟩
  ·subst e';obtain⟨its,r',pl,hz⟩:=I.list hx;have hlen:=r'.length;exact Calls.call_len_list pl.isList (by simp only[bi];omega) ⟨.int xs.length,H,I.tok _,⟨_,by simp only[bi];rw[hlen]⟩,q⟩
  ·subst e';obtain⟨its,r',pl,hz⟩:=I.tuple hx;have hlen:=r'.length;exact len_tuple pl (by simp only[bi];omega) ⟨.int xs.length,H,I.tok _,⟨_,by simp only[bi];rw[hlen]⟩,q⟩
 |_=>exact(show False from e).elim
end
end L2
namespace L2
structure ObjM (h:c9) (x dx C:af) (mA:Str->Option ag):Prop where
 obj:h.get? x=xa (i8 C dx)
 ns:h.Ns1 dx mA
 ne:dx≠x
theorem ER {h:c9} (n:h.Ns1 dx mA):∃ od,h.get? dx=xa od/\∀ name,pj name od=xa (mA name):=by
 obtain⟨o,es,ep,ho,hd,hk,_,hm⟩:=n;refine⟨o,ho,fun name=> ?_⟩;have e:=hm name;unfold nsFind findBy at e;rw[<- Array.find?_toList] at e;unfold pj;rw[hd];dsimp only;split
 ·rename_i y q
  rw[q] at e;exact congrArg xa e
 ·rename_i q
  rw[q] at e;have a:es.toList.any (·.refKey)=false:=by
   rw[List.any_eq_false];intro y hy;obtain⟨z,t,hkey⟩:=hk y (Array.mem_toList_iff.mp hy);simp[DictEntry.refKey,hkey]
  have a':¬ es.toList.any (·.refKey)=true:=by rw[a];exact bx
  rw[if_neg a'];exact congrArg xa e
theorem ObjM.look (I:ObjM h x dx C mA):∃ od,PySem.W.InstAt h x (i8 C dx) C (xa od)/\∀ name,pj name od=xa (mA name):=
 let ⟨od,ho,hl⟩:=ER I.ns
 ⟨od,⟨I.obj,rfl,rfl,ho⟩,hl⟩
section
variable {prog:dm}{w:dr}{A:d8}{E:ag->au->Prop}{s:au}{K:aa}{x dx C f:af}{mA:Str->Option ag}{name:Str}{v:ag}
theorem Lx (X:K.In s.heap) (I:ObjM s.heap x dx C mA) (hg:oa K C name=true) (hh:qi K C=true)
  (ha:hX K (.ref C) name=xa xb) (hv:mA name=xa v) (hv':vo v=true) (h:Q v { s with toks:=s.toks+1 }):
  az (model prog w) A (getAttr (.ref x) name expr) Q E s:=by
 obtain⟨od,J,hl⟩:=I.look;exact PySem.W.get_value X J (pi hg).1 (PySem.W.findObj_own hh ha rfl (by rw[hl,hv])) hv' h
theorem HX (X:K.In s.heap) (I:ObjM s.heap x dx C mA) (hg:oa K C name=true)
  (hf:hX K (.ref C) name=xa (xa (.ref f))) (ht:o9 K (.ref f)=true) (hv:mA name=xb) (h:Q (.ref f,[.ref x]) s):
  az (model prog w) A (mm (.ref x) name pl) Q E s:=by
 obtain⟨od,J,hl⟩:=I.look;exact PySem.W.method_fn X J (pi hg).1 (pi hg).2 hf (beq_iff_eq.mp ht) (by show(pj name od).map (·.isSome)=xa false;rw[hl,hv];rfl) h
theorem JG (X:K.In s.heap) (I:ObjM s.heap x dx C mA)
  (hs:hX K (.ref C) "__setattr__"=xa (xa (.builtin "object.__setattr__"))) (hp:vh K C=true) (ht:rn K C name=xa xb) (hh:qi K C=true)
  (hw:ux mA ns) (hsz:ns.length<=sizeLine)
  (h:∀ h',ObjM h' x dx C (fun y=>if y=name then xa v else mA y)->f8 dx s.heap h'->Q () { s with heap:=h',toks:=s.toks+2 }):
  az (model prog w) A (setAttr (.ref x) name v) Q E s:=by
 obtain⟨od,J,hl⟩:=I.look;refine PySem.W.set_plain X J hs (PySem.W.osa_open (s:={ s with toks:=s.toks+1 }) (r:=xb) X J hp ht fun b=> ?_);obtain⟨cd,hc,hd'⟩:=PySem.W.any_some hh;have hx:s.heap.get? x=xa ⟨.ref C,xa dx,.plain,#[]⟩:=I.obj;refine ae (ar (ae (ae (wpAny_loadPart hx (ae (PySem.W.Looks.here (s:={ s with toks:=s.toks+1 }) (PySem.W.looks_clsIn X hc) ?_))))));rw[hd'];refine ar (a:=xa dx) (ae (ar (ae ?_)));refine wpAny_nsSet1 (s:={ s with toks:=s.toks+1 }) I.ns fun h' hn2 hs2=> ?_;obtain⟨oD,esD,epD,hoD,hdD,hcD⟩:=hn2.count (PySem.Within.cons name v hw);refine ae (wpAny_lookBehind hoD (by rw[hdD];exact pastItsLine_dict (ci hcD (by rw[b7];omega))) ?_);exact ar (h _ ⟨(hs2.2 _ (bz I.ne)).trans I.obj,hn2,I.ne⟩ hs2)
theorem HG (X:K.In s.heap) (hm:rp K C=true)
  (hi:hX K (.ref C) "__init__"=xa (xa (.ref f))) (hf:PySem.W.typeIn K (.ref f)=xa (.type "function"))
  (h:oz (model prog w) (A.under (.builtin "type.__call__" ⟨.ref C::vs,kw⟩)) (.call (.ref f) ⟨.ref (s.heap.objs.size+1)::vs,kw⟩) (PySem.W.InitBack (s.heap.objs.size+1) R)
   { s with heap:=(s.heap.push hZ).push (i8 C s.heap.objs.size) }):
  oz (model prog w) A (.call (.ref C) ⟨vs,kw⟩) R s:=by
 obtain⟨hh,g,d,t,os⟩:=s;exact PySem.W.make_core (PySem.W.makes_of X hm) (PySem.W.looks_findIn X hi) (fun self=>PySem.W.bind_fn X self hf) (.inl rfl) h
end
noncomputable def putF (f:Str) (v:V):List (Str×V)->List (Str×V)
 |[]=>[(f,v)]
 |(g,x)::r=>if g=f then(g,v)::r else(g,x)::putF f v r
theorem pJ (f g:Str) (v:V):∀ fs:List (Str×V),(putF f v fs).lookup g=if g=f then xa v else fs.lookup g
 |[]=>by
  show jx g [(f,v)]=_
  by_cases h:g=f
  ·have hb:(g==f)=true:=beq_iff_eq.mpr h;simp only[jx,hb,if_pos h]
  ·have hb:(g==f)=false:=beq_eq_false_iff_ne.mpr h;simp only[jx,hb,if_neg h]
 |(k,x)::r=>by
  have ih:=pJ f g v r;rw[show putF f v ((k,x)::r)=(if k=f then(k,v)::r else(k,x)::putF f v r) from rfl]
  by_cases hk:k=f
  ·rw[if_pos hk]
   by_cases h:g=k
   ·have hb:(g==k)=true:=beq_iff_eq.mpr h;simp only[jx,hb,if_pos (h.trans hk)]
   ·have hb:(g==k)=false:=beq_eq_false_iff_ne.mpr h;simp only[jx,hb,if_neg (fun e:g=f=>h (e.trans hk.symm))]
  ·rw[if_neg hk]
   by_cases h:g=k
   ·have hb:(g==k)=true:=beq_iff_eq.mpr h;simp only[jx,hb,if_neg (fun e:g=f=>hk (h.symm.trans e))]
   ·have hb:(g==k)=false:=beq_eq_false_iff_ne.mpr h;simp only[jx,hb];exact ih
theorem pM (f:Str) (v:V):∀ fs:List (Str×V),f∈(putF f v fs).map (·.1)/\∀ g,g∈fs.map (·.1)->g∈(putF f v fs).map (·.1)
 |[]=>⟨by simp[putF],fun g h=>by simp at h⟩
 |(k,x)::r=>by
  obtain⟨i1,i2⟩:=pM f v r;rw[show putF f v ((k,x)::r)=(if k=f then(k,v)::r else(k,x)::putF f v r) from rfl]
  by_cases hk:k=f
  ·rw[if_pos hk];subst hk;exact⟨by simp,fun g h=>by simpa using h⟩
  ·rw[if_neg hk];refine⟨?_,fun g h=> ?_⟩
   ·rw[bg];exact ai _ i1
   ·rw[bg] at h ⊢;rcases aj.mp h with e|e
    ·exact aj.mpr (.inl e)
    ·exact ai _ (i2 g e)
theorem pK (f:Str) (v:V):∀ fs:List (Str×V),(putF f v fs).length<=fs.length+1
 |[]=>by simp[putF]
 |(k,x)::r=>by
  have ih:=pK f v r;rw[show putF f v ((k,x)::r)=(if k=f then(k,v)::r else(k,x)::putF f v r) from rfl]
  by_cases hk:k=f
  ·rw[if_pos hk,b7,b7];omega
  ·rw[if_neg hk,b7,b7];omega
theorem RelO.some_of (r:RelO (xa v) o):∃ u,o=xa u/\RelV v u:=by
 cases o with
 |none=>exact(show False from r).elim
 |some u=>exact⟨u,rfl,r⟩
theorem RelO.none_of (r:RelO xb o):o=xb:=by
 cases o with
 |none=>rfl
 |some u=>exact(show False from r).elim
theorem Fe (r:RelV v u):vo u=true:=by
 cases v with
 |non=>cases (show u=ii from r);rfl
 |bl b=>cases (show u=t8 b from r);rfl
 |int i=>obtain⟨t,e⟩:=(show ∃ t,u=uv i t from r);cases e;rfl
 |str x=>obtain⟨t,e⟩:=(show ∃ t,u=uw x t from r);cases e;rfl
 |byt b=>obtain⟨t,e⟩:=(show ∃ t,u=Value.bytes b t from r);cases e;rfl
 |flt b=>obtain⟨t,e⟩:=(show ∃ t,u=Value.float b t from r);cases e;rfl
 |ref a=>cases (show u=ck a from r);rfl
 |ty n=>cases (show u=lq n from r);rfl
section
variable {P:dm}{w:dr}{H H':Hp}{h h':c9}{a C dx:af}{fs fs':List (Str×V)}
theorem Ao (hok:HOk P w H h) (e:H a=xa (.ins C dx fs)):∃ mA,ObjM h a dx C mA/\(∀ f,RelO (fs.lookup f) (mA f))/\ux mA (fs.map (·.1))/\fs.length<=1000/\H dx=xa (.own a):=by
 obtain⟨d,z,ne,ob,mA,n,r,q⟩:=(show ObjOk P w H h a (.ins C dx fs) from hok a _ e);exact⟨mA,⟨ob,n,ne⟩,r,q,z,d⟩
end
structure Cls (K:aa) (C:af):Prop where
 pg:oa K C Str.empty=true
 hd:qi K C=true
 po:vh K C=true
 sa:hX K (.ref C) "__setattr__"=xa (xa (.builtin "object.__setattr__"))
theorem Cls.get {K:aa} (c:Cls K C) (f:Str):oa K C f=true:=c.pg
def NoAttr (K:aa) (C:af) (f:Str):Prop:=hX K (.ref C) f=xa xb
theorem NoAttr.taker {K:aa} (n:NoAttr K C f):rn K C f=xa xb:=by
 unfold rn;rw[show hX K (.ref C) f=xa xb from n];rfl
structure IX (K:aa) (C:af) (m:Str) (f:af):Prop where
 at_:hX K (.ref C) m=xa (xa (.ref f))
 fn:o9 K (.ref f)=true
 kp:gx K (.ref f)=true
section
variable {X:Cx}{pins:List (af×Obj)}{σ:St}{H:Hp}{s:au}{a C dx:af}{fs:List (Str×V)}{f:Str}{v:V}{A:d8}{E:ag->au->Prop}
theorem De (I:Inv X pins σ H s) (e:H a=xa (.ins C dx fs)) (c:Cls X.K C) (n:NoAttr X.K C f) (l:fs.lookup f=xa v)
  (h:∀ u s',Inv X pins σ H s'->RelV v u->Q u s'):az (model X.prog X.w) A (getAttr (.ref a) f b) Q E s:=by
 obtain⟨mA,O,r,_,_,_⟩:=Ao I.hok e;obtain⟨u,hu,ru⟩:=RelO.some_of (v:=v) (o:=mA f) (by rw[<- l];exact r f);exact Lx I.kIn O (c.get f) c.hd n hu (Fe ru) (h u _ (I.tok _) ru)
theorem tI (I:Inv X pins σ H s) (e:H a=xa (.ins C dx fs)) (c:Cls X.K C) (k:IX X.K C m g) (l:fs.lookup m=xb)
  (h:Q (.ref g,[.ref a]) s):az (model X.prog X.w) A (mm (.ref a) m pl) Q E s:=by
 obtain⟨mA,O,r,_,_,_⟩:=Ao I.hok e;have hn:mA m=xb:=RelO.none_of (by rw[<- l];exact r m);exact HX I.kIn O (c.get m) k.at_ k.fn hn h
theorem CA (I:Inv X pins σ H s) (e:H a=xa (.ins C dx fs)) (c:Cls X.K C) (n:NoAttr X.K C f) (hl:fs.length<1000) (ry:RelV y u)
  (h:∀ s',Inv X pins σ (upd H a (.ins C dx (putF f y fs))) s'->Q () s'):az (model X.prog X.w) A (setAttr (.ref a) f u) Q E s:=by
 obtain⟨mA,O,r,wi,_,ho⟩:=Ao I.hok e;have hz:(fs.map (·.1)).length<=sizeLine:=by rw[am,bv];omega
 refine JG I.kIn O c.sa c.po n.taker c.hd wi hz fun h' O' sb=>h _ ?_;have hd:∃ o,h'.get? dx=xa o:=let ⟨o,_,_,e',_⟩:=O'.ns;⟨o,e'⟩;refine I.write (x:=a) (e:=dx) (by rw[e];exact ij) (.inr ho) (fun b q hb z=>(sb.2 b hb).trans z) hd ?_;refine⟨by rw[aF O.ne];exact ho,?_,O.ne,O'.obj,_,O'.ns,fun g=> ?_,fun g hg=> ?_⟩
 ·have:=pK f y fs;omega
 ·show RelO ((putF f y fs).lookup g) (if g=f then xa u else mA g);rw[pJ]
  by_cases q:g=f
  ·rw[if_pos q,if_pos q];exact ry
  ·rw[if_neg q,if_neg q];exact r g
 ·by_cases q:g=f
  ·rw[q];exact(pM f y fs).1
  ·refine(pM f y fs).2 g (wi g fun z=>hg ?_)
   show(if g=f then xa u else mA g)=xb
   rw[if_neg q];exact z
theorem Inv.made (I:Inv X pins σ H s):Inv X pins σ (upd (upd H s.heap.objs.size (.own (s.heap.objs.size+1))) (s.heap.objs.size+1) (.ins C s.heap.objs.size []))
  { s with heap:=(s.heap.push hZ).push (i8 C s.heap.objs.size) }:=by
 have e1:(s.heap.push hZ).get? s.heap.objs.size=xa hZ:=b0 s.heap rfl;have e2:((s.heap.push hZ).push (i8 C s.heap.objs.size)).get? (s.heap.objs.size+1)=xa (i8 C s.heap.objs.size):=by
  have:=b0 (s.heap.push hZ) (o:=i8 C s.heap.objs.size) rfl
  rwa [ik] at this
 have e3:(s.heap.push hZ).Ns s.heap.objs.size (fun _=>xb):=⟨hZ,#[],_,e1,rfl,(fun e he=>absurd he (by simp)),fun _=>rfl⟩;have I1:=I.laid (a:=s.heap.objs.size) (o:=.own (s.heap.objs.size+1)) (h':=s.heap.push hZ) (t':=s.toks) (fun b u q=>bc _ q) (bf _) ⟨_,e1⟩;refine I1.laid (a:=s.heap.objs.size+1) (o:=.ins C s.heap.objs.size []) (t':=s.toks) (fun b u q=>bc _ q) (uz (ik _ _)) ?_;have ne:s.heap.objs.size≠s.heap.objs.size+1:=cj (oj _);refine⟨by rw[aF ne,aP],iq _,ne,e2,fun _=>xb,(Heap.Ns1.of_empty e3).at fun o q=>bc _ q,fun _=>ij,fun y hy=>absurd rfl hy⟩
theorem Ma (hb:ig e f env (eval e env)=eval e env)
  (h:az (model prog w) A (eval e env) (fun o s₁=>az (model prog w) A (getAttr o f true) Q E s₁) E s):az (model prog w) A (eval (.Attribute e f pos) env) Q E s:=
 Attribute_any_ h (by rw[arm_eval_Attribute,hb])
end
def Rm (K:aa) (ta:TE) (f:Str):TE:=fun σ H Q=>ta σ H fun x H1=>∃ a C dx fs v,x=.ref a/\H1 a=xa (.ins C dx fs)/\Cls K C/\NoAttr K C f/\fs.lookup f=xa v/\Q v H1
def Rq (K:aa) (ta tv:TE) (f:Str):TS:=fun D σ H=>tv σ H fun y H1=>ta σ H1 fun x H2=>∃ a C dx fs,x=.ref a/\H2 a=xa (.ins C dx fs)/\Cls K C/\NoAttr K C f/\fs.length<1000/\
 D.nx σ (upd H2 a (.ins C dx (putF f y fs)))
section
variable {X:Cx}{o e value:bw}{f:Str}{pos pos' tpos:Pos}{ta tv:TE}
theorem Nb (he:PE X e ta) (hb:ig e f X.env (eval e X.env)=eval e X.env):PE X (.Attribute e f pos) (Rm X.K ta f):=by
 intro pins s σ H Q I h;refine Ma hb (thn (he pins s σ H _ I h) fun u s1 ⟨x,H1,I1,rx,a,C,dx,fs,v,ex,ea,c,n,l,q⟩=> ?_);subst ex;obtain rfl:u=ck a:=rx;exact De I1 ea c n l fun u' s2 I2 ru=>⟨v,H1,I2,ru,q⟩
theorem MQ (ha:PE X o ta) (hv:PE X value tv) (hs:ji value (xa (.Attribute o f pos')) pos.line X.env=pure false):PS X (.Assign [.Attribute o f pos'] value pos) (Rq X.K ta tv f):=by
 intro pins s σ H D I h;refine plainObj_wpAny_Assign_Attribute (thn (hv pins s σ H _ I h) fun u s1 ⟨y,H1,I1,ry,q⟩=>thn (ha pins s1 σ H1 _ I1 q) fun ov s2 ⟨x,H2,I2,rx,a,C,dx,fs,ex,ea,c,n,l,q2⟩=> ?_) hs;subst ex;obtain rfl:ov=ck a:=rx;exact CA I2 ea c n l ry fun s3 I3=>⟨σ,_,I3,q2⟩
end
section
variable {X:Cx}{pins:List (af×Obj)}{σ:St}{H:Hp}{s:au}{A:d8}{E:ag->au->Prop}{Q:ag->au->Prop}{c:ag}{b:Bool}
end
end L2
namespace L2
structure Room (k:Nat) (A:d8):Prop where
 hd:A.handled=xb
 dp:A.depth+3*k+5<recursionLimit
 un:A.units+16*k+200<fe
theorem Room.mono (r:Room k A) (h:j<=k):Room j A:=⟨r.hd,by have:=r.dp;omega,by have:=r.un;omega⟩
theorem Room.deeper (r:Room (k+1) A) (env:Env):Room k (A.deeper env):=
 ⟨r.hd,by have:=r.dp;show A.depth+1+3*k+5<_;omega,by have:=r.un;show A.units+3+16*k+200<_;omega⟩
theorem CP {A:d8}:(A.under (.builtin "type.__call__" ⟨.ref C::us,kw⟩)).depth=A.depth+1:=by
 first|rfl|simp[u0,Code.weight,Code.isCreation,Code.isGuard,Code.isCaller,Code.frames,u3,guardIds]
theorem CO {A:d8}:(A.under (.builtin "type.__call__" ⟨.ref C::us,kw⟩)).units=A.units+1:=by
 first|rfl|simp[u0,Code.cUnits,Code.frames,u3]
theorem Room.make (r:Room (k+1) A) (C:af) (us:List ag) (kw:List (Str×ag)):Room k (A.under (.builtin "type.__call__" ⟨.ref C::us,kw⟩)):=
 ⟨r.hd,by have:=r.dp;rw[CP];omega,by have:=r.un;rw[CO];omega⟩
theorem Room.depth (r:Room k A):A.depth<recursionLimit:=by have:=r.dp;omega
theorem Room.units (r:Room k A):A.units+64<fe:=by have:=r.un;omega
def QP:TA:=fun _ H Q=>Q [] H
def PB (ta:TE) (tr:TA):TA:=fun σ H Q=>ta σ H fun x H1=>tr σ H1 fun xs H2=>Q (x::xs) H2
section
variable {X:Cx}{e:bw}{es:List bw}{te:TE}{t:TA}{pos:Pos}
theorem Bz:PA X [] QP:=fun _ _ _ _ H Q I h=>Calls.spliced_nil ⟨[],H,I,.nil,h⟩
theorem pA (ha:PE X e te) (hr:PA X es t) (hs:ay (e::es) X.env=(false,eval e X.env)::ay es X.env:=by rfl):PA X (e::es) (PB te t):=by
 intro pos pins s σ H Q I h;rw[hs];show az _ _ (spliced ((false,eval e X.env)::dw pos (ay es X.env))) _ _ s;refine Calls.spliced_cons (thn (ha pins s σ H _ I h) fun u s1 ⟨x,H1,I1,r1,q1⟩=> ?_);exact thn (hr pos pins s1 σ H1 _ I1 q1) fun us s2 ⟨xs,H2,I2,r2,q2⟩=>⟨x::xs,H2,I2,.cons r1 r2,q2⟩
def Rg (t:TA):TE:=fun σ H Q=>t σ H fun xs H1=>xs.length<=sizeLine/\∀ p,H1 p=xb->Q (.ref p) (upd H1 p (.tup xs))
def Rk (t:TA):TE:=fun σ H Q=>t σ H fun xs H1=>xs.length<=sizeLine/\∀ p,H1 p=xb->Q (.ref p) (upd H1 p (.lst xs))
theorem MV (h:PA X es t):PE X (.Tuple es x1 pos) (Rg t):=by
 intro pins s σ H Q I hq;refine wpAny_Tuple_spliced (thn (h pos pins s σ H _ I hq) fun us s1 ⟨xs,H1,I1,r,z,q⟩=>⟨by rw[<- r.length];exact z,?_⟩);have hf:H1 s1.heap.objs.size=xb:=I1.hok.fresh (bf _);refine⟨.ref s1.heap.objs.size,upd H1 s1.heap.objs.size (.tup xs),I1.laid (t':=s1.toks) (fun b u e=>bc _ e) (bf _) ?_,rfl,q _ hf⟩;exact⟨z,us,r,⟨_,b0 _ rfl,rfl,_,rfl⟩⟩
theorem Jd (h:PA X es t):PE X (.List es pos) (Rk t):=by
 intro pins s σ H Q I hq;refine wpAny_List_spliced (thn (h pos pins s σ H _ I hq) fun us s1 ⟨xs,H1,I1,r,z,q⟩=>⟨by rw[<- r.length];exact z,?_⟩);have hf:H1 s1.heap.objs.size=xb:=I1.hok.fresh (bf _);refine⟨.ref s1.heap.objs.size,upd H1 s1.heap.objs.size (.lst xs),I1.laid (t':=s1.toks) (fun b u e=>bc _ e) (bf _) ?_,rfl,q _ hf⟩;exact⟨z,us,0,r,b0 _ rfl⟩
end
abbrev Sp:=List V->Hp->VK->XK->Prop
abbrev CXT:=List Env->Hp->au->XK->ag->au->Prop
structure Env0 (P:dm) (w:dr) (K:aa) (mg:Str->Option ag) (base:c9) (A:d8) (outer:List Env) (s:au) (H:Hp):Prop where
 frames:A.frames=xa outer
 mod:Mod K mg base
 bs:∀ b o,base.get? b=xa o->s.heap.get? b=xa o/\H b=xb
 bsz:base.objs.size<=s.heap.objs.size
 funs:s.heap.FunFrames base outer
 frf:∀ b∈frs outer,H b=xb
 hok:HOk P w H s.heap
 bare:m9 s.gens
def CE (outer:List Env) (P:dm) (w:dr) (H:Hp) (s:au) (Q:VK) (u:ag) (s':au):Prop:=
 ∃ v H',s'.os=s.os/\m9 s'.gens/\Un (frs outer) [] H H' s.heap s'.heap/\HOk P w H' s'.heap/\RelV v u/\Q v H'
def CR (CX:CXT) (outer:List Env) (P:dm) (w:dr) (H:Hp) (s:au) (Q:VK) (E:XK) (r:Result) (s':au):Prop:=
 match r with
 |.ok (.ret u)=>CE outer P w H s Q u s'
 |.ok _=>False
 |.error e=>CX outer H s E e s'
structure sE (P:dm) (w:dr) (K:aa) (mg:Str->Option ag) (base:c9) (CX:CXT) (k:Nat) (f:af) (fd:jp) (ps:List Str) (sp:Sp):Prop where
 len:∀ vs H Q E,sp vs H Q E->vs.length=ps.length
 run:∀(A:d8) (outer:List Env) (s:au) (H:Hp) (args:Args) (us:List ag) (vs:List V) (Q:VK) (E:XK),Room k A->Env0 P w K mg base A outer s H->tj s fd args (ps.zip us)->Vals vs us->sp vs H Q E->
  oz (model P w) A (.call (.ref f) args) (CR CX outer P w H s Q E) s
theorem Env0.make {K:aa} (e:Env0 P w K mg base A outer s H) (C:af) (us:List ag) (kw:List (Str×ag)):
  Env0 P w K mg base (A.under (.builtin "type.__call__" ⟨.ref C::us,kw⟩)) outer s H:=⟨by first|exact e.frames|(simpa [u0,Code.envs,u3,pushEnvs] using e.frames),e.mod,e.bs,e.bsz,e.funs,e.frf,e.hok,e.bare⟩
section
variable {X:Cx}{pins:List (af×Obj)}{σ:St}{H:Hp}{s s':au}
theorem Inv.env0 (I:Inv X pins σ H s):Env0 X.prog X.w X.K X.mg X.base X.A X.stack s H:=
 ⟨I.ok.frames,I.ok.mod,I.bs,ci I.ok.bsz I.sz,I.stack,I.stkFree,I.hok,I.bare⟩
theorem Inv.after (I:Inv X pins σ H s) (h:CE X.stack X.prog X.w H s Q u s'):EP X pins σ Q u s':=by
 obtain⟨v,H',os,bare,un,hok,r,q⟩:=h;obtain⟨hh,g,d,t,os'⟩:=s';obtain rfl:os'=s.os:=os;exact⟨v,H',I.call (h':=hh) (g':=g) (d':=d) (t':=t) (ch:=[]) un hok bare (fun b z=>absurd z (by simp)),r,q⟩
end
def PD (sp:Sp) (dvs:List V) (E:XK) (t:TA):TE:=fun σ H Q=>t σ H fun vs H1=>sp (vs++dvs) H1 Q E
def Mx (C:af) (m:Str) (sp:Sp) (dvs:List V) (E:XK) (ta:TE) (t:TA):TE:=fun σ H Q=>ta σ H fun x H1=>∃ a dx fs,x=.ref a/\H1 a=xa (.ins C dx fs)/\fs.lookup m=xb/\
 t σ H1 fun vs H2=>sp (x::(vs++dvs)) H2 Q E
def Pv (C:af) (sp:Sp) (dvs:List V) (E:XK) (t:TA):TE:=fun σ H Q=>t σ H fun vs H1=>∀ x dx,H1 x=xb->H1 dx=xb->dx≠x->
 sp (.ref x::(vs++dvs)) (upd (upd H1 dx (.own x)) x (.ins C dx [])) (fun v H2=>v=.non/\Q (.ref x) H2) E
def Binds (K:aa) (fd:jp) (ps:List Str) (ds:List ag):Prop:=
 ∀(s:au) (us:List ag),K.In s.heap->(us++ds).length=ps.length->tj s fd ⟨us,[]⟩ (ps.zip (us++ds))
theorem Binds.all {K:aa} (h:∀ us:List ag,us.length=ps.length->bindArgs fd ⟨us,[]⟩=pure (ps.zip us)):Binds K fd ps []:=fun s us _ hl=>by
 rw[cr] at hl ⊢;exact .of_eq (h us hl)
def qW (CX:CXT) (X:Cx) (E:XK):Prop:=∀(pins:List (af×Obj)) (σ:St) (H:Hp) (s:au) (e:ag) (s':au),Inv X pins σ H s->CX X.stack H s E e s'->X.xe e s'
section
variable {X:Cx}{CX:CXT}{k:Nat}{f C:af}{fd:jp}{ps:List Str}{sp:Sp}{dvs:List V}{ds:List ag}{E:XK}{x m:Str}{p pos apos:Pos}{e o:bw}{es:List bw}{ta:TE}{t:TA}
theorem Ea (F:sE X.prog X.w X.K X.mg X.base CX k f fd ps sp) (hr:Room k X.A) (hb:Binds X.K fd ps ds) (hd:Vals dvs ds) (hx:qW CX X E)
  (I:Inv X pins σ H s) (r:Vals vs us) (h:sp (vs++dvs) H Q E):az (model X.prog X.w) X.A (call (.ref f) us) (EP X pins σ Q) X.xe s:=by
 have r2:Vals (vs++dvs) (us++ds):=r.append hd;have hl:(us++ds).length=ps.length:=by rw[<- r2.length];exact F.len _ _ _ _ h
 refine wpAny_call (qu (F.run X.A X.stack s H ⟨us,[]⟩ (us++ds) (vs++dvs) Q E hr I.env0 (hb s us I.kIn hl) r2 h) fun r s' hq=> ?_);cases r with
 |error e=>exact hx pins σ H s e s' I hq
 |ok fl=>
  cases fl with
  |ret u=>exact I.after hq
  |next=>exact i4 hq
  |brk=>exact i4 hq
  |cont=>exact i4 hq
theorem Kf (F:sE X.prog X.w X.K X.mg X.base CX k f fd ps sp) (hr:Room k X.A) (hg:Gl X x) (hm:X.mg x=xa (.ref f)) (hk:gx X.K (.ref f)=true) (hb:Binds X.K fd ps ds) (hd:Vals dvs ds) (hx:qW CX X E)
  (ha:PA X (e::es) t) (hdb:(x==("__debug__":Str))=false:=by decide) (he:ay (e::es) X.env=(false,eval e X.env)::ay es X.env:=by rfl) (hpl:(dw pos (ay es X.env)).any (·.1)=false:=by rfl):
  PE X (.Call (.Name x p) (e::es) [] pos) (PD sp dvs E t):=by
 intro pins s σ H Q I h;refine mq (uY I hg hm ?_ hdb);refine p7 (h₀:=X.base) I.ok.mod.kin hk (thn (ha pos pins s σ H _ I h) fun us s1 ⟨vs,H1,I1,r,q⟩=>⟨I1.kIn,?_⟩) he hpl;exact Ea F hr hb hd hx I1 r q
theorem JZ (he:PE X o ta) (c:Cls X.K C) (hm:IX X.K C m f) (F:sE X.prog X.w X.K X.mg X.base CX k f fd ps sp) (hr:Room k X.A) (hb:Binds X.K fd ps ds) (hd:Vals dvs ds) (hx:qW CX X E) (ha:PA X (e::es) t)
  (hst:ay (e::es) X.env=(false,eval e X.env)::ay es X.env:=by rfl) (hpl:(dw pos (ay es X.env)).any (·.1)=false:=by rfl)
  (ht:eval (.Call (.Attribute o m apos) (e::es) [] pos) X.env=(do
   let ov <- eval o X.env
   ng apos.atName
   let (f,first) <- holding [ov] (mm ov m pl)
   qv pos f first (dw pos (ay (e::es) X.env)) (j5 pos (ir [] X.env))):=by rfl):
  PE X (.Call (.Attribute o m apos) (e::es) [] pos) (Mx C m sp dvs E ta t):=by
 intro pins s σ H Q I h;refine tm (pl:=pl) (thn (he pins s σ H _ I h) fun u s1 ⟨x,H1,I1,rx,a,dx,fs,ex,ea,l,q⟩=> ?_) ht;subst ex;obtain rfl:u=ck a:=rx;refine tI I1 ea c hm l ?_;refine p7 (first:=[.ref a]) (h₀:=X.base) I.ok.mod.kin hm.kp (thn (ha pos pins s1 σ H1 _ I1 q) fun us s2 ⟨vs,H2,I2,r,q2⟩=>⟨I2.kIn,?_⟩) hst hpl;exact Ea (us:=.ref a::us) (vs:=.ref a::vs) F hr hb hd hx I2 (.cons rfl r) q2
theorem Ha (he:PE X o ta) (c:Cls X.K C) (hm:IX X.K C m f) (F:sE X.prog X.w X.K X.mg X.base CX k f fd ps sp) (hr:Room k X.A) (hb:Binds X.K fd ps ds) (hd:Vals dvs ds) (hx:qW CX X E)
  (ht:eval (.Call (.Attribute o m apos) [] [] pos) X.env=(do
   let ov <- eval o X.env
   ng apos.atName
   let (f,first) <- holding [ov] (mm ov m pl)
   qv pos f first (dw pos (ay [] X.env)) (j5 pos (ir [] X.env))):=by rfl):
  PE X (.Call (.Attribute o m apos) [] [] pos) (Mx C m sp dvs E ta QP):=by
 intro pins s σ H Q I h;refine tm (pl:=pl) (thn (he pins s σ H _ I h) fun u s1 ⟨x,H1,I1,rx,a,dx,fs,ex,ea,l,q⟩=> ?_) ht;subst ex;obtain rfl:u=ck a:=rx;refine tI I1 ea c hm l ?_;exact PySem.W.callWith_K0 (first:=[.ref a]) I1.kIn hm.kp (Ea (us:=[.ref a]) (vs:=[.ref a]) F hr hb hd hx I1 (.cons rfl .nil) q)
structure Mk (K:aa) (C f:af):Prop where
 makes:rp K C=true
 init:hX K (.ref C) "__init__"=xa (xa (.ref f))
 fn:o9 K (.ref f)=true
 kp:gx K (.ref C)=true
theorem GG (M:Mk X.K C f) (F:sE X.prog X.w X.K X.mg X.base CX k f fd ps sp) (hr:Room (k+1) X.A) (hb:Binds X.K fd ps ds) (hd:Vals dvs ds)
  (hx:qW CX X E) (I:Inv X pins σ H s) (r:Vals vs us)
  (h:∀ x dx,H x=xb->H dx=xb->dx≠x->sp (.ref x::(vs++dvs)) (upd (upd H dx (.own x)) x (.ins C dx [])) (fun v H2=>v=.non/\Q (.ref x) H2) E):
  az (model X.prog X.w) X.A (call (.ref C) us) (EP X pins σ Q) X.xe s:=by
 have hq:=h (s.heap.objs.size+1) s.heap.objs.size (I.hok.fresh (Nat.le_succ _)) (I.hok.fresh (bf _)) (cj (oj _));have I2:=Inv.made (C:=C) I;have r2:Vals (V.ref (s.heap.objs.size+1)::(vs++dvs)) (ck (s.heap.objs.size+1)::(us++ds)):=.cons rfl (r.append hd);have hl:(ck (s.heap.objs.size+1)::us++ds).length=ps.length:=by
  have e:=r2.length;rw[F.len _ _ _ _ hq] at e;exact e.symm
 refine wpAny_call (HG (f:=f) I.kIn M.makes M.init (beq_iff_eq.mp M.fn) (qu (F.run _ X.stack _ _ ⟨ck (s.heap.objs.size+1)::us,[]⟩ (ck (s.heap.objs.size+1)::(us++ds)) _ _ E (hr.make C us [])
  (I2.env0.make C us []) (hb _ (ck (s.heap.objs.size+1)::us) I2.kIn hl) r2 hq) fun r s' hq'=> ?_))
 cases r with
 |error e=>exact hx pins σ _ _ e s' I2 hq'
 |ok fl=>
  cases fl with
  |ret u=>
   obtain⟨v,H',I3,rv,ev,q3⟩:=I2.after hq';subst ev;exact⟨rv,⟨V.ref (s.heap.objs.size+1),H',I3,rfl,q3⟩⟩
  |next=>exact i4 hq'
  |brk=>exact i4 hq'
  |cont=>exact i4 hq'
theorem Ka (M:Mk X.K C f) (F:sE X.prog X.w X.K X.mg X.base CX k f fd ps sp) (hr:Room (k+1) X.A) (hg:Gl X x) (hm:X.mg x=xa (.ref C)) (hb:Binds X.K fd ps ds) (hd:Vals dvs ds) (hx:qW CX X E)
  (ha:PA X (e::es) t) (hdb:(x==("__debug__":Str))=false:=by decide) (he:ay (e::es) X.env=(false,eval e X.env)::ay es X.env:=by rfl) (hpl:(dw pos (ay es X.env)).any (·.1)=false:=by rfl):
  PE X (.Call (.Name x p) (e::es) [] pos) (Pv C sp dvs E t):=by
 intro pins s σ H Q I h;refine mq (uY I hg hm ?_ hdb);refine p7 (h₀:=X.base) I.ok.mod.kin M.kp (thn (ha pos pins s σ H _ I h) fun us s1 ⟨vs,H1,I1,r,q⟩=>⟨I1.kIn,?_⟩) he hpl;exact GG M F hr hb hd hx I1 r q
end
section
variable {X:Cx}{CX:CXT}{k:Nat}{f C:af}{fd:jp}{ps ks:List Str}{sp:Sp}{E:XK}{x m:Str}{p pos apos kpos:Pos}{e o:bw}{es:List bw}{kws:List kj}{te ta:TE}{t tk:TA}{nm:Option Str}
variable {g:List ag->List ag->List ag}{gV:List V->List V->List V}
end
structure kX (N P:List Str) (sc:ke):Prop where
 kind:sc.kind=.function
 co:sc.isCoroutine=false
 gen:sc.isGenerator=false
 nd:N.Nodup
 pre:N.take P.length=P
 par:∀ x∈P,sc.names.lookup x=xa .local∨sc.names.lookup x=xa .cell
 nofree:∀ y∈sc.names,y.2≠ .free
theorem zA {kindOf:Str->Option ia}:∀ {binds:List (Str×ag)}{m:Str->Option ag},(∀ v,(x,v)∉binds)->bindL kindOf binds m x=m x
 |[],_,_=>rfl
 |(n,v)::r,m,h=>by
  unfold bindL;rw[zA fun w hw=>h w (ai _ hw)];split
  ·have:x≠n:=by rintro rfl;exact h v aq
   simp[this]
  ·rfl
theorem zC {kindOf:Str->Option ia}:∀ {binds:List (Str×ag)}{m:Str->Option ag},(∀ v,(x,v)∉binds)->bindC kindOf binds m x=m x
 |[],_,_=>rfl
 |(n,v)::r,m,h=>by
  unfold bindC;rw[zC fun w hw=>h w (ai _ hw)];split
  ·rfl
  ·have:x≠n:=by rintro rfl;exact h v aq
   simp[this]
theorem zB {kindOf:Str->Option ia}:∀ {P:List Str}{vs:List ag}{i:Nat}{m:Str->Option ag},P.Nodup->P[i]?=xa x->vs[i]?=xa v->kindOf x=xa .local->
  bindL kindOf (P.zip vs) m x=xa v
 |[],_,_,_,_,h,_,_=>by simp at h
 |_::_,[],_,_,_,_,h,_=>by simp at h
 |p::P,w::vs,0,m,nd,h1,h2,hk=>by
  simp at h1 h2;subst h1;subst h2;show bindL kindOf ((p,w)::P.zip vs) m p=_;unfold bindL;rw[zA fun v hv=>(b9.mp nd).1 (rq hv).1,if_pos hk];simp
 |p::P,w::vs,i+1,m,nd,h1,h2,hk=>by
  show bindL kindOf ((p,w)::P.zip vs) m x=_;unfold bindL;exact zB (i:=i) (b9.mp nd).2 (by simpa using h1) (by simpa using h2) hk
theorem zE {kindOf:Str->Option ia}:∀ {P:List Str}{vs:List ag}{i:Nat}{m:Str->Option ag},P.Nodup->P[i]?=xa x->vs[i]?=xa v->kindOf x≠xa .local->
  bindC kindOf (P.zip vs) m x=xa v
 |[],_,_,_,_,h,_,_=>by simp at h
 |_::_,[],_,_,_,_,h,_=>by simp at h
 |p::P,w::vs,0,m,nd,h1,h2,hk=>by
  simp at h1 h2;subst h1;subst h2;show bindC kindOf ((p,w)::P.zip vs) m p=_;unfold bindC;rw[zC fun v hv=>(b9.mp nd).1 (rq hv).1,if_neg hk];simp
 |p::P,w::vs,i+1,m,nd,h1,h2,hk=>by
  show bindC kindOf ((p,w)::P.zip vs) m x=_;unfold bindC;exact zE (i:=i) (b9.mp nd).2 (by simpa using h1) (by simpa using h2) hk
noncomputable def start (N:List Str) (vs:List V):St:=vs.map xa++aw (N.length-vs.length) xb
noncomputable def AL (CX:CXT) (P:dm) (w:dr) (K:aa) (mg:Str->Option ag) (base:c9) (N:List Str) (qual:Str) (scope:ke) (f:af) (cd:ag) (A:d8) (outer:List Env) (s:au) (H:Hp) (E:XK):Cx where
 prog:=P
 w:=w
 K:=K
 mg:=mg
 base:=base
 A:=A.deeper (jj qual scope s.heap.objs.size f cd)
 N:=N
 s₀:=s
 H₀:=H
 env:=jj qual scope s.heap.objs.size f cd
 outer:=outer
 stack:=jj qual scope s.heap.objs.size f cd::outer
 ex:=[]
 calm:=true
 fn:=fun _=>true
 pn:=[]
 xe:=fun e s'=>az (model P w) (A.deeper (jj qual scope s.heap.objs.size f cd)) (leaving (jj qual scope s.heap.objs.size f cd) e) (fun _ s''=>CX outer H s E e s'') (fun e' s''=>CX outer H s E e' s'') s'
theorem Cj {sc:ke} (h:sc.names.lookup x=xa .cell):∃ c,(g8 n sc.names []).lookup x=xa c:=by
 have q:=si sc.names n [] (.inl h);exact mr.mp q
theorem Fa {K:aa}
  (S:kX N ps scope) (hd:A.handled=xb) (e0:Env0 P w K mg base A outer s H) (hl:vs.length=ps.length) (r:Vals vs us)
  (x:InCallC s s.heap.objs.size (bindL (jj qual scope s.heap.objs.size f cd).kindOf (ps.zip us) fun _=>xb) (g8 (s.heap.objs.size+1) scope.names []) (bindC (jj qual scope s.heap.objs.size f cd).kindOf (ps.zip us) fun _=>xb) s1):
  Inv (AL CX P w K mg base N qual scope f cd A outer s H E) [] (start N vs) H s1:=by
 have hpl:ps.length<=N.length:=by have:=congrArg k7 S.pre;rw[ol] at this;omega
 obtain⟨h1,tk,rfl,hk⟩:=x.done;have noA:∀ b:af,b∉(AL CX P w K mg base N qual scope f cd A outer s H E).ex:=fun b z=>absurd (show b∈([]:List af) from z) (by simp);refine⟨⟨e0.mod,S.kind,rfl,rfl,bf _,fun y z c h1 h2=> ?_,fun y hy=> ?_,fun y c _ h=> ?_,fun _=>hd,Around.frames_deeper e0.frames,.inr ⟨rfl,rfl⟩,fun b z=>absurd z (noA b),e0.bs,e0.bsz,fun b _ _=>noA b,fun b z=>absurd z (noA b),e0.funs,e0.frf⟩,
  rfl,e0.bare,Un.kept hk,⟨_,x.toInCall.ns,fun i y v h1 h2 h3=> ?_⟩,fun y c h=>⟨_,x.cell y c h⟩,e0.hok.fresh (bf _),fun y c h=> ?_,fun p hp=>absurd (show p∈([]:List (af×Obj)) from hp) (by simp),e0.hok.kept hk,?_⟩
 ·exact name_of_addr x.apart (gn h1) (gn h2)
 ·have hy:scope.names.lookup y=xa .cell∨scope.names.lookup y=xa .free:=hy;rcases hy with hy|hy
  ·exact Cj hy
  ·exact absurd rfl (S.nofree _ (gn hy))
 ·exact ip (x.above y c (gn h))
 ·have hi:i<vs.length:=by
   unfold start at h2
   by_cases hi:i<vs.length
   ·exact hi
   ·rw[dn (by simpa using hi)] at h2;rw[fz] at h2;split at h2 <;> cases h2
  have ha:vs[i]?=xa v:=by
   unfold start at h2;rw[ao (by simpa using hi),ax] at h2;cases e:vs[i]? with
   |none=>rw[e] at h2;cases h2
   |some a=>rw[e] at h2;cases h2;rfl
  obtain⟨u,hu,rv⟩:=r.get ha;have hp:ps[i]?=xa y:=by
   rw[<- S.pre,List.getElem?_take_of_lt (by omega)];exact h1
  have ndP:ps.Nodup:=by rw[<- S.pre];exact S.nd.sublist (List.take_sublist _ _)
  refine⟨u,rv,?_⟩;rcases S.par y (ga hp) with k|k
  ·exact .inl ⟨k,zB ndP hp hu k⟩
  ·obtain⟨c,e⟩:=Cj (n:=s.heap.objs.size+1) k;refine .inr ⟨.inl k,c,e,?_⟩;have q:=x.cell y c e;rw[zE ndP hp hu (by show scope.names.lookup y≠_;rw[k];decide)] at q;exact q
 ·exact e0.hok.fresh (ip (x.above y c (gn h)))
 ·unfold start;show _=N.length;rw[b8,am,jn];omega
theorem Qy {K:aa}{dV kV doc pm cdv ct oc:ag}
    (lk:K.lookup f=xa ⟨oc,od,.func (iu name qual params body scope dV kV doc pm an cdv ct),osl⟩) (hcd:j0 K cdv qual=true) (S:kX N ps scope)
  (len:∀ vs H Q E,sp vs H Q E->vs.length=ps.length)
  (hbody:∀(A:d8) (outer:List Env) (s:au) (H:Hp) (vs:List V) (Q:VK) (E:XK),Room k (A.deeper (jj qual scope s.heap.objs.size f cdv))->sp vs H Q E->
   ∃ t,PSs (AL CX P w K mg base N qual scope f cdv A outer s H E) body t/\t { nx:=fun _ H'=>Q .non H',rt:=Q } (start N vs) H):
  sE P w K mg base CX (k+1) f (iu name qual params body scope dV kV doc pm an cdv ct) ps sp:=by
 refine⟨len,fun A outer s H args us vs Q E hr e0 hb r hsp=> ?_⟩;have hl:=len _ _ _ _ hsp;have KX:K.In s.heap:=e0.mod.kin.keeps fun b o e=>(e0.bs b o e).1;have lim:s.heap.NoLimit:=e0.mod.nolimit.keeps fun b o e=>(e0.bs b o e).1;have hkind:∀ y∈ps.zip us,scope.names.lookup y.1=xa .local∨(scope.names.lookup y.1=xa .cell/\((g8 (s.heap.objs.size+1) scope.names []).lookup y.1).isSome=true):=fun⟨n,v⟩ hy=>by
  rcases S.par n (rq hy).1 with q|q
  ·exact .inl q
  ·exact .inr ⟨q,si _ _ _ (.inl q)⟩
 refine codeAny_call_function hr.depth (KX _ _ lk) rfl S.co S.gen rfl (PySem.W.codeRec_of KX hcd) (hb _ _ _ _ ?_);refine wpAny_newFunctionEnv_cells S.kind hkind fun env he s1 x=> ?_;subst he;refine⟨lim.keeps x.toInCall.keep,codeAny_func ?_⟩;obtain⟨t,ht,hq⟩:=hbody A outer s H vs Q E (hr.deeper _) hsp;have I:Inv (AL CX P w K mg base N qual scope f cdv A outer s H E) [] (start N vs) H s1:=Fa S hr.hd e0 hl r x;refine g9 (ht [] s1 (start N vs) H _ I hq) (fun fl s' hs=> ?_) fun e s' hs=>hs;have fin:∀ {σ':St}{H':Hp}{v:V}{u:ag},Inv (AL CX P w K mg base N qual scope f cdv A outer s H E) [] σ' H' s'->RelV v u->Q v H'->CE outer P w H s Q u s':=
  fun {σ' H' v u} J rv q=>⟨v,H',J.os,J.bare,J.base,J.hok,rv,q⟩
 cases fl with
 |ret u=>
  obtain⟨v,σ',H',J,rv,q⟩:=hs;exact fin J rv q
 |next=>
  obtain⟨σ',H',J,q⟩:=hs;exact fin (v:=V.non) (u:=ii) J rfl q
 |brk=>
  obtain⟨_,_,_,q⟩:=hs;exact i4 q
 |cont=>
  obtain⟨_,_,_,q⟩:=hs;exact i4 q
end L2
namespace L2
section
variable {X:Cx}{x:Str}{p pos:Pos}{e:bw}{es:List bw}{t:TA}{id T:String}{r:List V->Hp->VK->Prop}
def tCB (r:List V->Hp->VK->Prop) (t:TA):TE:=fun σ H Q=>t σ H fun vs H1=>r vs H1 Q
theorem uO (hc:CallR X (.builtin id) r) (hg:Gl X x) (hm:X.mg x=xb) (hv:dq x=xa (.builtin id)) (ha:PA X (e::es) t) (hn:x≠"__name__":=by decide) (hdb:(x==("__debug__":Str))=false:=by decide)
  (he:ay (e::es) X.env=(false,eval e X.env)::ay es X.env:=by rfl) (hpl:(dw pos (ay es X.env)).any (·.1)=false:=by rfl):PE X (.Call (.Name x p) (e::es) [] pos) (tCB r t):=by
 intro pins s σ H Q I h;refine mq (xS I hg hm hv ?_ hn hdb);exact PyProof.Rows.callWith_builtin1 (thn (ha pos pins s σ H _ I h) fun us s1 ⟨vs,H1,I1,r1,q1⟩=>hc pins s1 σ H1 vs us Q I1 r1 q1) he hpl
theorem Er (hc:CallR X (.type T) r) (hg:Gl X x) (hm:X.mg x=xb) (hv:dq x=xa (.type T)) (ha:PA X (e::es) t) (hn:x≠"__name__":=by decide) (hdb:(x==("__debug__":Str))=false:=by decide)
  (he:ay (e::es) X.env=(false,eval e X.env)::ay es X.env:=by rfl) (hpl:(dw pos (ay es X.env)).any (·.1)=false:=by rfl):PE X (.Call (.Name x p) (e::es) [] pos) (tCB r t):=by
 intro pins s σ H Q I h;refine mq (xS I hg hm hv ?_ hn hdb);exact lm (thn (ha pos pins s σ H _ I h) fun us s1 ⟨vs,H1,I1,r1,q1⟩=>hc pins s1 σ H1 vs us Q I1 r1 q1) he hpl
end
end L2
namespace HT
open PySem PyProof.Rows
noncomputable def lexLt:List Int->List Int->Bool
 |[],[]=>false
 |[],_::_=>true
 |_::_,[]=>false
 |x::xs,y::ys=>if x=y then lexLt xs ys else decide (x<y)
theorem CQ (x y:Int) (xs ys:List Int):lexLt (x::xs) (y::ys)=if x=y then lexLt xs ys else decide (x<y):=rfl
theorem uX:lexLt [] []=false:=rfl
theorem rK (y:Int) (ys:List Int):lexLt [] (y::ys)=true:=rfl
theorem rM (x:Int) (xs:List Int):lexLt (x::xs) []=false:=rfl
theorem Iw (A:d8) (s:au) (a:Int) (t:Tok) (c:Int) (u:Tok):∃ e,wb A s (.int a t) (.int c u) e/\(e=true↔a=c):=
 ⟨(a==c),SeqAt.EqAt.int_int a t c u,by simp⟩
theorem GO (A:d8) (s:au) (a:Int) (t:Tok) (c:Int) (u:Tok) (prog:dm) (w:dr) (E:ag->au->Prop) (Q:ag->au->Prop) (h:Q (.bool (decide (a<c))) s):
  az (model prog w) A (richCompare .Lt (.int a t) (.int c u)) Q E s:=
 (vz h:az (model prog w) A (fx .Lt (.int a t) (.int c u)) Q E s)
section
open PySem.SeqAt
open PySem.AutoSeq1 (wpAny_loadPart')
open PySem.MeetsSeq PySem.MeetsSeq2 PySem.MeetsSeq3
theorem uG (l b:af) (items items2:Array ag) (n n2:Nat) (dd dd2:Option af) (sl sl2:Array (Option ag)) (ns ms:List Int) (hi:km items.toList ns) (hj:km items2.toList ms):
  Meets (Builtin.«tuple.__lt__» ⟨[.ref l,.ref b],[]⟩)
   (fun _ R s=>s.heap.get? l=xa { cls:=.type "tuple",dict:=dd,data:=.seq items n,slots:=sl }/\s.heap.get? b=xa { cls:=.type "tuple",dict:=dd2,data:=.seq items2 n2,slots:=sl2 }/\
    R (.ok (.ret (.bool (lexLt ns ms)))) s):=
 .of_wp fun prog w A R s h=>by
  obtain⟨hp,g,d,tk,os⟩:=s;obtain⟨hl,hb,h⟩:=h;have f2:=AutoSeq1.sub_tuple_tuple;have z1:items.size=ns.length:=by rw[<- hi.length];simp
  have z2:items2.size=ms.length:=by rw[<- hj.length];simp
  wp_walk using wpAny_loadPart' hl,wpAny_loadPart' hb,qw _ (fun rest b s'=>b.1=xb/\s'=⟨hp,g,d,tk,os⟩/\∃(vs ws:List ag) (ns' ms':List Int),rest=vs.zip ws/\
   km vs ns'/\km ws ms'/\ns'.length+items2.size=ms'.length+items.size/\R (.ok (.ret (.bool (lexLt ns' ms')))) ⟨hp,g,d,tk,os⟩) _
  case turn=>
   rintro⟨y,x⟩ rest b s' ⟨hb',rfl,vs,ws,ns',ms',hz,hvi,hwi,hlen,hR⟩
   cases hvi with
   |nil=>rw[List.zip_nil_left] at hz;cases hz
   |cons a t hvi'=>
    cases hwi with
    |nil=>rw[List.zip_nil_right] at hz;cases hz
    |cons c u hwi'=>
     rw[mv] at hz;injection hz with hyx hrest
     injection hyx with hy hx
     subst hy hx;rw[CQ] at hR;simp only[b7] at hlen;obtain⟨e,he,hiff⟩:=Iw A.in1 ⟨hp,g,d,tk,os⟩ a t c u;refine ae (he prog w _ _ ?_);cases e with
     |true=>
      rw[if_pos (hiff.mp rfl)] at hR
      wp_walk
      exact⟨rfl,rfl,_,_,_,_,hrest,hvi',hwi',by omega,hR⟩
     |false=>
      rw[if_neg (fun q=>absurd (hiff.mpr q) bx)] at hR;have hri:=GO A.in1 ⟨hp,g,d,tk,os⟩ a t c u prog w
      wp_walk using hri
      exact⟨_,rfl,by simpa using hR⟩
  case fin=>
   rintro⟨b1,b2⟩ s' ⟨hb',rfl,vs,ws,ns',ms',hz,hvi,hwi,hlen,hR⟩
   simp only at hb';subst hb';have hv:lexLt ns' ms'=decide (items.size<items2.size):=by
    cases hvi with
    |nil=>
     cases hwi with
     |nil=>
      simp only[kq] at hlen;rw[uX];exact(decide_eq_false (by omega)).symm
     |cons c u hw=>
      simp only[kq,b7] at hlen;rw[rK];exact(decide_eq_true (by omega)).symm
    |cons a t hv=>
     cases hwi with
     |nil=>
      simp only[kq,b7] at hlen;rw[rM];exact(decide_eq_false (by omega)).symm
     |cons c u hw=>
      rw[mv] at hz;cases hz
   rw[hv] at hR
   wp_walk
   exact⟨_,rfl,by simpa [Builtin.Tuple.tupleCompareSizes] using hR⟩
  case h=>
   exact⟨rfl,rfl,items.toList,items2.toList,ns,ms,rfl,hi,hj,by omega,h⟩
end
section
variable {prog:dm}{w:dr}{A:d8}{E:ag->au->Prop}{s:au}
theorem lt_tupInts (hl:IsTup s.heap l items) (hb:IsTup s.heap b items2) (hi:km items.toList ns) (hj:km items2.toList ms)
  (hu:A.units<fe) (h:Q (.bool (lexLt ns ms)) s):az (model prog w) A (fx .Lt (.ref l) (.ref b)) Q E s:=by
 obtain⟨⟨cls,dd,data,sl⟩,ho,hc,n,hd⟩:=id hl;obtain⟨⟨cls2,dd2,data2,sl2⟩,ho2,hc2,n2,hd2⟩:=id hb;simp only at hc hd hc2 hd2;subst hc hd hc2 hd2;exact richCompare_meets_room (op:=.Lt) ⟨_,ho,rfl⟩ ⟨_,ho2,rfl⟩ PySem.F.slot_tuple_lt PySem.F.entry_tuple_lt (PySem.F.args_tuple_lt_2 _ _) (uG l b items items2 n n2 dd dd2 sl sl2 ns ms hi hj)
  ⟨ho,ho2,show t8 (lexLt ns ms)≠Value.notImplemented/\Q (.bool (lexLt ns ms)) s from⟨(fun x=>nomatch x),h⟩⟩ hu
theorem cat_tup (ht:IsTup s.heap t vs.toArray) (hb:IsTup s.heap b ws.toArray) (hv:vs≠[])
  (h1:ws=[]->Q (.ref t) s) (h2:ws≠[]->Q (.ref s.heap.objs.size) { s with heap:=s.heap.push { cls:=.type "tuple",data:=.seq (vs++ws).toArray } })
  (hsz:vs.length+ws.length<=sizeLine):az (model prog w) A (j4 .Add (.ref t) (.ref b)) Q E s:=by
 obtain⟨⟨cls,dd,data,sl⟩,ho,hc,n,hd⟩:=id ht;obtain⟨⟨cls2,dd2,data2,sl2⟩,ho2,hc2,n2,hd2⟩:=id hb;simp only at hc hd hc2 hd2;subst hc hd hc2 hd2;have e:vs.toArray++ws.toArray=(vs++ws).toArray:=by simp
 by_cases hw:ws=[]
 ·exact concat_meets ⟨_,ho,rfl⟩ ⟨_,ho2,rfl⟩ noFill_tuple_add seq_tuple_add sj rh (qx _ _)
   (tuple_addW1 t b vs.toArray ws.toArray n n2 dd dd2 sl sl2 (by simpa using hv) (by simp[hw])) ⟨ho,ho2,h1 hw⟩
 ·refine concat_meets ⟨_,ho,rfl⟩ ⟨_,ho2,rfl⟩ noFill_tuple_add seq_tuple_add sj rh (qx _ _)
   (tuple_addW2 t b vs.toArray ws.toArray n n2 dd dd2 sl sl2 (by simpa using hv) (by simpa using hw) (by rw[bi,bi];exact hsz)) ⟨ho,ho2,?_⟩
  rw[e];exact h2 hw
noncomputable def sIx (n d:Nat):Option Int->Nat
 |none=>d
 |some v=>if v<0 then(v+(n:Int)).toNat else min v.toNat n
theorem sIx_nat (n d k:Nat):sIx n d (xa (k:Int))=min k n:=by
 show(if(k:Int)<0 then((k:Int)+(n:Int)).toNat else min (k:Int).toNat n)=min k n
 rw[if_neg (by omega),cw]
theorem MD (n d:Nat) (hd:d<=n) (o:Option Int):sIx n d o<=n:=by
 cases o with
 |none=>exact hd
 |some v=>
  show(if v<0 then(v+(n:Int)).toNat else min v.toNat n)<=n
  by_cases hv:v<0
  ·rw[if_pos hv];omega
  ·rw[if_neg hv];exact Nat.min_le_right _ _
theorem FX (v:Int) (n d:Nat):(if v<0 then max (v+(n:Int)) 0 else min v (n:Int))=((sIx n d (xa v):Nat):Int):=by
 show(if v<0 then max (v+(n:Int)) 0 else min v (n:Int))=(((if v<0 then(v+(n:Int)).toNat else min v.toNat n):Nat):Int)
 by_cases hv:v<0
 ·simp only[if_pos hv];omega
 ·simp only[if_neg hv];omega
theorem Ds (lo hi:Option Int) (n:Nat):ma lo hi 1 (n:Int)=(((sIx n 0 lo:Nat):Int),((sIx n n hi:Nat):Int)):=by
 have h1:¬((1:Int)<0):=by omega
 unfold ma;simp only[h1,if_false];refine Prod.ext ?_ ?_
 ·cases lo with
  |none=>rfl
  |some v=>exact FX v n 0
 ·cases hi with
  |none=>rfl
  |some v=>exact FX v n n
theorem CI (i j:Nat):ju (i:Int) (j:Int) 1=j-i:=by
 unfold ju;have h1:(1:Int)>0:=by omega
 simp only[h1,if_true,Int.ediv_one];split <;> omega
theorem sL (p:qy v o) (h:Q o s):az (model prog w) A (Builtin.Slice.slicePartIndex v) Q E s:=by
 cases p with
 |none=>exact slicePart_none h
 |int i t=>exact slicePart_int h
theorem nD {lo hi:Option Int}{Q:Int×Int×Nat->au->Prop} (hs:s.heap.IsSliceOf sl vl vu .none) (pl:qy vl lo) (pu:qy vu hi)
  (h:Q (((sIx n 0 lo:Nat):Int),1,sIx n n hi-sIx n 0 lo) s):az (model prog w) A (qd (.ref sl) (pure (n:Int))) Q E s:=by
 obtain⟨os,hos,hcs,hds⟩:=id hs;unfold qd Builtin.Slice.sliceFields;refine ae (ae (ss hos hds (x:=vl) rfl (ae (ss hos hds (x:=vu) rfl (ae (ss hos hds (x:=.none) rfl (ar ?_)))))));refine ae (slicePart_none ?_);show az _ _ (if((1:Int)==0)=true then _ else _) _ _ s;rw[if_neg (by decide)];refine ae (sL pl (ae (sL pu (ae (ar ?_)))));show az _ _ (match ma lo hi 1 (n:Int) with|(lo,hi)=>pure (lo,(1:Int),ju lo hi 1)) _ _ s;rw[Ds lo hi n];show az _ _ (pure (((sIx n 0 lo:Nat):Int),(1:Int),ju ((sIx n 0 lo:Nat):Int) ((sIx n n hi:Nat):Int) 1)) _ _ s;rw[CI];exact ar h
theorem GY (xs:Array ag) (i k:Nat):((bj k).filterMap fun(m:Nat)=>xs[((i:Int)+(m:Int)*1).toNat]?).toArray=((xs.toList.drop i).take k).toArray:=by
 have e:(fun(m:Nat)=>xs[((i:Int)+(m:Int)*1).toNat]?)=fun m=>xs[i+m]?:=by
  funext m
  have:((i:Int)+(m:Int)*1).toNat=i+m:=by omega
  rw[this]
 rw[e]
 have:=pick_run xs i k
 rw[List.filterMap_map] at this;have e2:((fun x=>xs[x]?)∘fun x=>i+x)=fun m=>xs[i+m]?:=rfl;rw[e2] at this;rw[this]
theorem getItem_tuple_cut {lo hi:Option Int} (ht:IsTup s.heap t items) (hs:s.heap.IsSliceOf sl vl vu .none) (pl:qy vl lo) (pu:qy vu hi)
  (hw:¬(sIx items.size 0 lo=0/\sIx items.size items.size hi=items.size))
  (h:Q (.ref s.heap.objs.size) { s with heap:=s.heap.push { cls:=.type "tuple",data:=.seq ((items.toList.drop (sIx items.size 0 lo)).take (sIx items.size items.size hi-sIx items.size 0 lo)).toArray } })
  (hsz:items.size<=sizeLine):az (model prog w) A (pk (.ref t) (.ref sl)) Q E s:=by
 have htake:sizeOk (.seq ((items.toList.drop (sIx items.size 0 lo)).take (sIx items.size items.size hi-sIx items.size 0 lo)).toArray):=by
  show((items.toList.drop (sIx items.size 0 lo)).take (sIx items.size items.size hi-sIx items.size 0 lo)).toArray.size<=sizeLine
  rw[bi,ol,vp,ff];omega
 have hj:sIx items.size items.size hi<=items.size:=MD _ _ (bf _) hi;obtain⟨os,hos,hcs,hds⟩:=id hs;have hTs:s.TypeIs (.ref sl) "slice":=⟨os,hos,hcs⟩;unfold pk
 try with_reducible refine iz ?_
 first|refine ae (ar ?_)|skip
 refine ae (wpAny_sequenceKey ht.typeIs (by decide) ?_);refine ae (jf (name:=jq "__getitem__") ht.typeIs jg
  (ie jg ht.typeIs entry_tuple_getitem ?_ (args_tuple_getitem _ _)))
 show az _ _ (Builtin.Tuple.tupleItemsOf (.ref t) >>= _) _ _ s;refine ae (tupleItemsOf_ ht ?_);refine ae (wpAny_typeOf hTs ?_);rw[if_pos (by decide)];refine ae (nD hs pl pu ?_);have hno:¬((((sIx items.size 0 lo:Nat):Int)==0&&(1:Int)==1&&(sIx items.size items.size hi-sIx items.size 0 lo)==items.size)=true):=by
  intro q;rw[br,br] at q;have q1:((sIx items.size 0 lo:Nat):Int)=0:=eq_of_beq q.1.1;have q2:sIx items.size items.size hi-sIx items.size 0 lo=items.size:=eq_of_beq q.2;exact hw ⟨by omega,by omega⟩
 show az _ _ (if(((sIx items.size 0 lo:Nat):Int)==0&&(1:Int)==1&&(sIx items.size items.size hi-sIx items.size 0 lo)==items.size)=true then _ else _) _ _ s;rw[if_neg hno,GY]
 first
  |exact ae (m:=j6 _) (fj (ar ⟨_,rfl,ar h⟩) htake)
  |exact ae (m:=j6 _) (fj (ae (ar (ar ⟨_,rfl,ar h⟩))) htake)
  |exact ae (ae (m:=j6 _) (fj (ar (ar ⟨_,rfl,ar h⟩)) htake))
  |exact ae (ae (m:=j6 _) (fj (ar ⟨_,rfl,ar h⟩) htake))
end
end HT
namespace L2
abbrev TO:=St->Hp->(Option Int->Hp->Prop)->Prop
def PO (X:Cx) (e:Option bw) (t:TO):Prop:=
 ∀(pins:List (af×Obj)) (s:au) (σ:St) (H:Hp) (Q:Option Int->Hp->Prop),Inv X pins σ H s->t σ H Q->
  az (model X.prog X.w) X.A (evalPart e X.env) (fun u s'=>∃ o H',Inv X pins σ H' s'/\qy u o/\Q o H') X.xe s
noncomputable def JD:TO:=fun _ H Q=>Q xb H
noncomputable def Ps (t:TE):TO:=fun σ H Q=>t σ H fun x H1=>∃ i,x=.int i/\Q (xa i) H1
theorem Da:∀ {us:List ag},Vals (ns.map V.int) us->km us ns:=by
 induction ns with
 |nil=>intro us r;rw[k9] at r;cases r;exact .nil
 |cons n ns ih=>
  intro us r;rw[bg] at r;cases r with
  |cons r1 r2=>
   obtain⟨t,e⟩:=r1;subst e;exact .cons n t (ih r2)
section
variable {X:Cx}{e:bw}{te:TE}{lo hi:Option bw}{tl th:TO}{pos p2:Pos}
theorem JW:PO X xb JD:=by
 intro pins s σ H Q I h;rw[evalPart_none];exact ar ⟨xb,H,I,.none,h⟩
theorem JV (h:PE X e te):PO X (xa e) (Ps te):=by
 intro pins s σ H Q I hw;rw[evalPart_some];refine thn (h pins s σ H _ I hw) fun u s1 ⟨x,H1,I1,r1,q1⟩=> ?_;obtain⟨i,rfl,q⟩:=q1;obtain⟨t,rfl⟩:=r1;exact⟨xa i,H1,I1,.int i t,q⟩
def SlR (X:Cx) (r:V->Option Int->Option Int->Hp->VK->Prop):Prop:=
 ∀(pins:List (af×Obj)) (s:au) (σ:St) (H:Hp) (x:V) (v vl vu:ag) (lo hi:Option Int) (sl:af) (Q:VK),Inv X pins σ H s->RelV x v->s.heap.IsSliceOf sl vl vu .none->qy vl lo->qy vu hi->r x lo hi H Q->
  ∃ T id,t9 (.type T) "__getitem__"=pure (xa (.builtin id))/\s.TypeIs v T/\az (model X.prog X.w) X.A (pk v (.ref sl)) (EP X pins σ Q) X.xe s
theorem SlR.or (h:SlR X r) (h':SlR X r'):SlR X (fun x lo hi H Q=>r x lo hi H Q∨r' x lo hi H Q):=by
 intro pins s σ H x v vl vu lo hi sl Q I rx hs pl pu q;rcases q with q|q
 ·exact h pins s σ H x v vl vu lo hi sl Q I rx hs pl pu q
 ·exact h' pins s σ H x v vl vu lo hi sl Q I rx hs pl pu q
def tSl (r:V->Option Int->Option Int->Hp->VK->Prop) (te:TE) (tl th:TO):TE:=fun σ H Q=>te σ H fun x H1=>tl σ H1 fun l H2=>th σ H2 fun u H3=>r x l u H3 Q
theorem GZ (hr:SlR X r) (he:PE X e te) (hl:PO X lo tl) (hu:PO X hi th):PE X (.Subscript e (.Slice lo hi xb p2) pos) (tSl r te tl th):=by
 intro pins s σ H Q I h;refine Subscript_ (thn (he pins s σ H _ I h) fun v s1 ⟨x,H1,I1,r1,q1⟩=> ?_);refine wpAny_Slice (thn (hl pins s1 σ H1 _ I1 q1) fun vl s2 ⟨l,H2,I2,pl,q2⟩=>thn (hu pins s2 σ H2 _ I2 q2) fun vu s3 ⟨u,H3,I3,pu,q3⟩=> ?_);rw[evalPart_none];refine ar ?_;have I4:Inv X pins σ H3 { s3 with heap:=s3.heap.push { cls:=.type "slice",data:=.fields #[vl,vu,.none] } }:=I3.kept (t':=s3.toks) fun b ob q=>bc _ q;obtain⟨T,id,hT,ht,hg⟩:=hr pins { s3 with heap:=s3.heap.push { cls:=.type "slice",data:=.fields #[vl,vu,.none] } } σ H3 x v vl vu l u s3.heap.objs.size Q I4 r1 (Heap.IsSliceOf.new ..) pl pu q3;show az (model X.prog X.w) X.A (uk e (.Slice lo hi xb p2) v (.ref s3.heap.objs.size)) (EP X pins σ Q) X.xe { s3 with heap:=s3.heap.push { cls:=.type "slice",data:=.fields #[vl,vu,.none] } };exact tail_any (ops:=[.ref s3.heap.objs.size,v]) ht hT hg (by with_unfolding_all rfl)
noncomputable def Jy (xs:List V) (lo hi:Option Int):List V:=(xs.drop (HT.sIx xs.length 0 lo)).take (HT.sIx xs.length xs.length hi-HT.sIx xs.length 0 lo)
theorem qO (xs:List V) (lo hi:Option Int):(Jy xs lo hi).length<=xs.length:=by
 unfold Jy;rw[ol,vp];omega
def Rr (K:aa):V->Option Int->Option Int->Hp->VK->Prop:=fun x lo hi H Q=>∃ a xs,x=.ref a/\SqT K H a xs/\
 ¬(HT.sIx xs.length 0 lo=0/\HT.sIx xs.length xs.length hi=xs.length)/\∀ p,H p=xb->Q (.ref p) (upd H p (.tup (Jy xs lo hi)))
theorem MC:SlR X (Rr X.K):=by
 intro pins s σ H x v vl vu lo hi sl Q I rx hs pl pu h;obtain⟨a,xs,rfl,hx,hw,q⟩:=h;cases rx;obtain⟨its,r,ht,hz⟩:=I.tuple hx;have hlen:its.toArray.size=xs.length:=by rw[bi];exact r.length.symm
 refine⟨"tuple",_,jg.lookup,ht.typeIs,?_⟩;refine HT.getItem_tuple_cut ht hs pl pu (by rw[hlen];exact hw) ?_ (by rw[hlen];exact hz);rw[hlen];refine⟨.ref s.heap.objs.size,_,I.laid (t':=s.toks) (o:=.tup (Jy xs lo hi)) (fun b ob q=>bc _ q) (bf _) ?_,rfl,q _ (I.hok.fresh (bf _))⟩;exact⟨ci (qO xs lo hi) hz,_,(r.drop (HT.sIx xs.length 0 lo)).take (HT.sIx xs.length xs.length hi-HT.sIx xs.length 0 lo),wt _ _⟩
noncomputable def PN (K:aa):R2:=fun x y H Q=>∃ a b xs ys,x=.ref a/\y=.ref b/\SqT K H a xs/\SqT K H b ys/\xs≠[]/\xs.length+ys.length<=sizeLine/\
 (ys=[]->Q (.ref a) H)/\(ys≠[]->∀ p,H p=xb->Q (.ref p) (upd H p (.tup (xs++ys))))
theorem Vals.nil_iff (r:Vals xs us):us=[]↔xs=[]:=by
 cases r with
 |nil=>simp
 |cons _ _=>simp
theorem Kv:OpR X (j4 .Add) (PN X.K):=by
 intro pins s σ H x y v u Q I rx ry h;obtain⟨a,b,xs,ys,rfl,rfl,ha,hb,hx,hz,q1,q2⟩:=h;cases rx;cases ry;obtain⟨its,r1,p1,_⟩:=I.tuple ha;obtain⟨its2,r2,p2,_⟩:=I.tuple hb;refine HT.cat_tup p1 p2 (fun z=>hx (r1.nil_iff.mp z)) (fun z=>⟨.ref a,H,I,rfl,q1 (r2.nil_iff.mp z)⟩) (fun z=> ?_) (by rw[<- r1.length,<- r2.length];exact hz);refine⟨.ref s.heap.objs.size,_,I.laid (t':=s.toks) (o:=.tup (xs++ys)) (fun b ob q=>bc _ q) (bf _) ?_,rfl,q2 (fun w=>z (r2.nil_iff.mpr w)) _ (I.hok.fresh (bf _))⟩;exact⟨by rw[b8];exact hz,_,r1.append r2,wt _ _⟩
end
end L2
namespace L2
noncomputable def ixN (n:Nat) (i:Int):Option Nat:=if 0<=i then(if i<n then xa i.toNat else xb) else if -(n:Int)<=i then xa (i+n).toNat else xb
noncomputable def atI {α:Type} (xs:List α) (i:Int):Option α:=(ixN xs.length i).bind fun j=>xs[j]?
theorem EX (h:ixN n i=xa j):seqIndex? i n=xa j/\j<n/\ -(n:Int)<=i/\i<n:=by
 unfold ixN at h
 by_cases h0:0<=i
 ·rw[if_pos h0] at h
  by_cases h1:i<n
  ·rw[if_pos h1] at h;have e:i.toNat=j:=cf h;exact⟨by rw[vn h0 h1,e],by omega,by omega,h1⟩
  ·rw[if_neg h1] at h;cases h
 ·rw[if_neg h0] at h
  by_cases h1: -(n:Int)<=i
  ·rw[if_pos h1] at h;have e:(i+n).toNat=j:=cf h;exact⟨by rw[u4 (by omega) h1,e],by omega,h1,by omega⟩
  ·rw[if_neg h1] at h;cases h
theorem AO {v:α} (h:atI xs i=xa v):∃ j,seqIndex? i xs.length=xa j/\xs[j]?=xa v/\j<xs.length/\ -(xs.length:Int)<=i/\i<xs.length:=by
 unfold atI at h;cases e:ixN xs.length i with
 |none=>rw[e] at h;cases h
 |some j=>
  rw[e] at h;obtain⟨h1,h2,h3,h4⟩:=EX e;exact⟨j,h1,h,h2,h3,h4⟩
def Gm (b:bw):Prop:=∀ o i,subscripted b false o i=operate [o,i] (pk o i)
def IxR (X:Cx) (r:R2):Prop:=
 ∀(value slice:bw) (pins:List (af×Obj)) (s:au) (σ:St) (H:Hp) (x y:V) (v u:ag) (Q:VK),Inv X pins σ H s->RelV x v->RelV y u->r x y H Q->
  subscripted slice false v u=operate [v,u] (pk v u)->az (model X.prog X.w) X.A (uk value slice v u) (EP X pins σ Q) X.xe s
def MtR (X:Cx) (id:String) (r:V->List V->Hp->VK->Prop):Prop:=
 ∀(pins:List (af×Obj)) (s:au) (σ:St) (H:Hp) (x:V) (xs:List V) (v:ag) (us:List ag) (Q:VK),Inv X pins σ H s->RelV x v->Vals xs us->r x xs H Q->
  az (model X.prog X.w) X.A (call (.builtin id) (v::us)) (EP X pins σ Q) X.xe s
section
variable {X:Cx}{a b:bw}{ta tb:TE}{pos:Pos}
theorem IxR.or (h:IxR X r) (h':IxR X r'):IxR X (fun x y H Q=>r x y H Q∨r' x y H Q):=by
 intro value slice pins s σ H x y v u Q I rx ry q hs;rcases q with q|q
 ·exact h value slice pins s σ H x y v u Q I rx ry q hs
 ·exact h' value slice pins s σ H x y v u Q I rx ry q hs
theorem PV (hr:IxR X r) (ha:PE X a ta) (hb:PE X b tb) (hs:Gm b):PE X (.Subscript a b pos) (tOp r ta tb):=by
 intro pins s σ H Q I h;exact Subscript_ (QF ha hb I h fun v u s2 x y H2 I2 rx ry q=>hr a b pins s2 σ H2 x y v u Q I2 rx ry q (hs _ _))
noncomputable def QT (K:aa):R2:=fun x y H Q=>∃ p xs i v,x=.ref p/\y=.int i/\SqL K H p xs/\atI xs i=xa v/\Q v H
noncomputable def QR (K:aa):R2:=fun x y H Q=>∃ p xs i v,x=.ref p/\y=.int i/\SqT K H p xs/\atI xs i=xa v/\Q v H
noncomputable def QS:R2:=fun x y H Q=>∃ z i c,x=.str z/\y=.int i/\z.length<=sizeLine/\atI z.cps.toList i=xa c/\Q (.str ⟨#[c]⟩) H
theorem ix_list:IxR X (QT X.K):=by
 intro value slice pins s σ H x y v u Q I rx ry h hs;obtain⟨p,xs,i,z,rfl,rfl,hq,he,q⟩:=h;cases rx;obtain⟨t,rfl⟩:=ry;obtain⟨its,r,pl,hz⟩:=I.list hq;obtain⟨j,h1,h2,h3,h4,h5⟩:=AO he;obtain⟨w,ew,rw'⟩:=r.get h2;have hl:=r.length;have hn:=sW;have fin:EP X pins σ Q w s:=⟨z,H,I,rw',q⟩
 by_cases h0:0<=i
 ·have hj:i.toNat=j:=by
   rw[vn h0 h5] at h1;exact cf h1
  exact item_listR pl.isList h0 (by omega) (by rw[hj];simpa using ew) fin hs
 ·have hj:(i+(its.toArray.size:Int)).toNat=j:=by
   rw[u4 (by omega) h4] at h1;rw[bi,<- hl];exact cf h1
  exact su (x:=w) pl.isList.typeIs slot_list_getitem.lookup
   (wpAny_getItem_list_neg (Q:=fun r s'=>r=w/\EP X pins σ Q r s') pl.isList (by omega) (by rw[bi] <;> omega) (by omega) (by rw[hj];simpa using ew) ⟨rfl,fin⟩) hs
theorem ix_tup:IxR X (QR X.K):=by
 intro value slice pins s σ H x y v u Q I rx ry h hs;obtain⟨p,xs,i,z,rfl,rfl,hq,he,q⟩:=h;cases rx;obtain⟨t,rfl⟩:=ry;obtain⟨its,r,pl,hz⟩:=I.tuple hq;obtain⟨j,h1,h2,h3,h4,h5⟩:=AO he;obtain⟨w,ew,rw'⟩:=r.get h2;have hl:=r.length;have hn:=sW;have fin:EP X pins σ Q w s:=⟨z,H,I,rw',q⟩;exact su (x:=w) pl.typeIs jg.lookup
  (getItem_tuple (j:=j) (Q:=fun r s'=>r=w/\EP X pins σ Q r s') pl (by omega) (by omega) (by rw[bi,<- hl];exact h1) (by simpa using ew) ⟨rfl,fin⟩) hs
theorem Oh:IxR X QS:=by
 intro value slice pins s σ H x y v u Q I rx ry h hs;obtain⟨z,i,c,rfl,rfl,hz,he,q⟩:=h;obtain⟨t,rfl⟩:=rx;obtain⟨t',rfl⟩:=ry;obtain⟨j,h1,h2,h3,h4,h5⟩:=AO he;have hl:z.cps.toList.length=z.length:=by simp[Str.length]
 rw[hl] at h1 h4 h5;have hn:=sW;exact tail_any (typeIs_str s z t) slot_str_getitem.lookup (getItem_str (c:=c) (by
  have e1:decide (i< -(2 ^ 63:Int))=false:=decide_eq_false (by omega);have e2:decide (i≥2 ^ 63)=false:=decide_eq_false (by omega);rw[e1,e2,Bool.or_false]) (by rw[h1];simpa using h2) ⟨.str ⟨#[c]⟩,H,I.tok _,⟨_,rfl⟩,q⟩) hs
noncomputable def rIx (K:aa):R2:=fun x y H Q=>QT K x y H Q∨QR K x y H Q∨QS x y H Q
theorem Ol:IxR X (rIx X.K):=ix_list.or (ix_tup.or Oh)
theorem CN (its:List ag) (n j:Nat) (u:ag):kt (·.setIfInBounds j u) { cls:=.type "list",data:=.seq its.toArray n }={ cls:=.type "list",data:=.seq (its.set j u).toArray n }:=by
 simp[kt]
theorem Inv.lst (I:Inv X pins σ H s) (h:H p=xa (.lst xs)):
  ∃(its:List ag) (n:Nat),Vals xs its/\s.heap.get? p=xa { cls:=.type "list",data:=.seq its.toArray n }/\xs.length<=sizeLine:=by
 obtain⟨z,its,n,r,e⟩:=I.hok p _ h;exact⟨its,n,r,e,z⟩
theorem Inv.lstUpd {its its':List ag} (I:Inv X pins σ H s) (h:H p=xa (.lst xs))
  (ho:s.heap.get? p=xa { cls:=.type "list",data:=.seq its.toArray n }) (hf:f { cls:=.type "list",data:=.seq its.toArray n }={ cls:=.type "list",data:=.seq its'.toArray n' }) (r:Vals ys its') (hz:ys.length<=sizeLine) (t:Nat):
  Inv X pins σ (upd H p (.lst ys)) { s with heap:=s.heap.update p f,toks:=t }:=by
 have e:(s.heap.update p f).get? p=xa { cls:=.type "list",data:=.seq its'.toArray n' }:=by
  rw[gy f ho (by rw[hf] <;> rfl),hf]
 refine I.write (x:=p) (e:=p) (by rw[h];trivial) (.inl rfl) (fun b u hb q=>(fm _ _ (bz hb)).trans q) ⟨_,e⟩ ?_;exact⟨hz,its',n',r,e⟩
def PL:V->V->V->Hp->(Hp->Prop)->Prop:=fun o i v H Q=>∃ p xs k j,o=.ref p/\i=.int k/\H p=xa (.lst xs)/\ixN xs.length k=xa j/\Q (upd H p (.lst (xs.set j v)))
theorem GD:Rb X PL:=by
 intro pins s σ H o i v ov iv u Q I ro ri rv h;obtain⟨p,xs,k,j,rfl,rfl,hp,hj,q⟩:=h;cases ro;obtain⟨t,rfl⟩:=ri;obtain⟨its,n,r,ho,hz⟩:=I.lst hp;obtain⟨h1,h2,h3,h4⟩:=EX hj;have hl:=r.length;have hn:=sW;have I':Inv X pins σ (upd H p (.lst (xs.set j v))) { s with heap:=s.heap.update p (kt (·.setIfInBounds j u)) }:=
  I.lstUpd hp ho (CN its n j u) (r.set rv j) (by rw[ca];exact hz) s.toks
 by_cases h0:0<=k
 ·have hk:k.toNat=j:=by
   rw[vn h0 h4] at h1;exact cf h1
  exact PySem.W.ki_setAt ho h0 (by omega) (by rw[bi,<- hl];exact h4) (by rw[hk];exact⟨_,I',q⟩)
 ·have hk:(k+(its.toArray.size:Int)).toNat=j:=by
   rw[u4 (by omega) h3] at h1;rw[bi,<- hl];exact cf h1
  exact PySem.W.ki_setBack ho (by omega) (by rw[bi,<- hl];exact h3) (by omega) (by rw[hk];exact⟨_,I',q⟩)
theorem wV (lo hi:Option Int) (n:Nat):(l0 lo hi xb n).1=((HT.sIx n 0 lo:Nat):Int)/\(l0 lo hi xb n).2.1=((HT.sIx n n hi:Nat):Int)/\(l0 lo hi xb n).2.2=1:=by
 refine⟨?_,?_,rfl⟩
 ·cases lo with
  |none=>simp[l0,HT.sIx]
  |some i=>
   simp only[l0,HT.sIx,vq,show(1:Int)>0 by decide,if_true]
   by_cases h:i<0
   ·simp only[h,if_true] <;> omega
   ·simp only[h,if_false] <;> omega
 ·cases hi with
  |none=>simp[l0,HT.sIx]
  |some i=>
   simp only[l0,HT.sIx,vq,show(1:Int)>0 by decide,if_true]
   by_cases h:i<0
   ·simp only[h,if_true] <;> omega
   ·simp only[h,if_false] <;> omega
theorem uJ (its:List ag) (lo hi:Option Int):slicePick its.toArray lo hi xb=((its.drop (HT.sIx its.length 0 lo)).take (HT.sIx its.length its.length hi-HT.sIx its.length 0 lo)).toArray:=by
 obtain⟨h1,h2,h3⟩:=wV lo hi its.toArray.size;unfold slicePick;rw[h1,h2,h3];simp only[sliceRange_one,pick_run,bi] <;> rfl
def Rt (K:aa):V->Option Int->Option Int->Hp->VK->Prop:=fun x lo hi H Q=>∃ a xs,x=.ref a/\SqL K H a xs/\∀ p,H p=xb->Q (.ref p) (upd H p (.lst (Jy xs lo hi)))
theorem sl_list:SlR X (Rt X.K):=by
 intro pins s σ H x v vl vu lo hi sl Q I rx hs pl pu h;obtain⟨a,xs,rfl,hx,q⟩:=h;cases rx;obtain⟨its,r,ht,hz⟩:=I.list hx;have hlen:=r.length;refine⟨"list",_,slot_list_getitem.lookup,ht.isList.typeIs,?_⟩;refine wpAny_getItem_list_slice ht.isList hs pl pu .none (by simp) ?_ (by rw[bi] <;> omega);rw[uJ,<- hlen];refine⟨.ref s.heap.objs.size,_,I.laid (t':=s.toks) (o:=.lst (Jy xs lo hi)) (fun b ob q=>bc _ q) (bf _) ?_,rfl,q _ (I.hok.fresh (bf _))⟩;exact⟨ci (qO xs lo hi) hz,_,0,(r.drop (HT.sIx xs.length 0 lo)).take (HT.sIx xs.length xs.length hi-HT.sIx xs.length 0 lo),b0 _ rfl⟩
theorem CallR.or (h:CallR X f r) (h':CallR X f r'):CallR X f (fun xs H Q=>r xs H Q∨r' xs H Q):=by
 intro pins s σ H xs us Q I rs q;rcases q with q|q
 ·exact h pins s σ H xs us Q I rs q
 ·exact h' pins s σ H xs us Q I rs q
theorem nC:CallR X (.type "list") (fun xs H Q=>∃ p ys,xs=[.ref p]/\(SqL X.K H p ys∨SqT X.K H p ys)/\∀ l,H l=xb->Q (.ref l) (upd H l (.lst ys))):=by
 intro pins s σ H xs us Q I r h;obtain⟨p,ys,rfl,hq,q⟩:=h;obtain⟨u,rfl,rx⟩:=mG r;cases rx;have fin:∀(its:List ag),Vals ys its->ys.length<=sizeLine->∀(h':c9) (c':Nat),(∀ b o',s.heap.get? b=xa o'->h'.get? b=xa o')->
   h'.get? s.heap.objs.size=xa { cls:=.type "list",dict:=xb,data:=.seq its.toArray c',slots:= #[] }->EP X pins σ Q (.ref s.heap.objs.size) { s with heap:=h' }:=fun its r' hz h' c' kp e=>
  ⟨.ref s.heap.objs.size,_,I.laid (t':=s.toks) kp (bf _) (show ObjOk X.prog X.w _ h' _ (.lst ys) from⟨hz,its,c',r',e⟩),rfl,q _ (I.hok.fresh (bf _))⟩
 rcases hq with hq|hq
 ·obtain⟨its,r',pl,hz⟩:=I.list hq;have hlen:=r'.length;obtain⟨o,ho,hc,n,hd⟩:=pl.isList;exact call_list_seq p (.inl rfl) ho hc hd (fun h' c' kp e=>fin its r' hz h' c' kp e) (by simp only[bi] <;> omega)
 ·obtain⟨its,r',pl,hz⟩:=I.tuple hq;have hlen:=r'.length;obtain⟨o,ho,hc,n,hd⟩:=pl;exact call_list_seq p (.inr rfl) ho hc hd (fun h' c' kp e=>fin its r' hz h' c' kp e) (by simp only[bi] <;> omega)
theorem vR:CallR X (.type "tuple") (fun xs H Q=>∃ p ys,xs=[.ref p]/\((SqL X.K H p ys/\∀ l,H l=xb->Q (.ref l) (upd H l (.tup ys)))∨(SqT X.K H p ys/\Q (.ref p) H))):=by
 intro pins s σ H xs us Q I r h;obtain⟨p,ys,rfl,h⟩:=h;obtain⟨u,rfl,rx⟩:=mG r;cases rx;rcases h with⟨hq,q⟩|⟨hq,q⟩
 ·obtain⟨its,r',pl,hz⟩:=I.list hq;have hlen:=r'.length;refine call_tuple_list pl.isList (fun h' kp=> ?_) (by simp only[bi] <;> omega);have I1:Inv X pins σ H { s with heap:=h' }:=I.kept (t':=s.toks) kp;have I2:Inv X pins σ (upd H h'.objs.size (.tup ys)) { s with heap:=h'.push { cls:=.type "tuple",data:=.seq its.toArray } }:=
   I1.laid (t':=s.toks) (fun b o e=>bc _ e) (bf _) (show ObjOk X.prog X.w _ _ _ (.tup ys) from⟨hz,its,r',wt _ _⟩)
  exact⟨.ref h'.objs.size,_,I2,rfl,q _ (I1.hok.fresh (bf _))⟩
 ·obtain⟨its,r',pl,hz⟩:=I.tuple hq;exact call_tuple_same pl ⟨.ref p,H,I,rfl,q⟩
def tyV (K:aa) (T:String) (x:V) (H:Hp):Prop:=match x with
 |.str _=>T="str"
 |.int _=>T="int"
 |.ref p=>(T="list"/\∃ xs,SqL K H p xs)∨(T="tuple"/\∃ o,K.lookup p=xa o/\o.cls=.type "tuple"/\o.dict=xb)∨
   (T="dict"/\((∃ kvs,H p=xa (.dK kvs))∨∃ kvs,H p=xa (.dT kvs)))∨(T="set"/\∃ S n,H p=xa (.set S n))
 |_=>False
theorem IZ (I:Inv X pins σ H s) (r:RelV x v) (ty:tyV X.K T x H):
  s.TypeIs v T/\∀ a,v=.ref a->∃ ob,s.heap.get? a=xa ob/\ob.dict=xb:=by
 cases x with
 |str z=>
  obtain⟨t,rfl⟩:=r;cases (show T="str" from ty);exact⟨typeIs_str s z t,fun _ e=>nomatch e⟩
 |int i=>
  obtain⟨t,rfl⟩:=r;cases (show T="int" from ty);exact⟨typeIs_int s i t,fun _ e=>nomatch e⟩
 |ref p=>
  cases r;rcases ty with⟨rfl,xs,hq⟩|⟨rfl,o,hk,hc,hd⟩|⟨rfl,hk⟩|⟨rfl,S,n,hk⟩
  ·obtain⟨its,_,pl,_⟩:=I.list hq;refine⟨pl.isList.typeIs,fun a e=> ?_⟩;cases e;obtain⟨o,n,e,c,hd,_⟩:=pl;exact⟨o,e,hd⟩
  ·refine⟨⟨o,I.kIn p o hk,hc⟩,fun a e=> ?_⟩;cases e;exact⟨o,I.kIn _ o hk,hd⟩
  ·have z:∃ o,s.heap.get? p=xa o/\o.ExactDict:=by
    rcases hk with⟨kvs,hk⟩|⟨kvs,hk⟩
    ·obtain⟨_,_,_,_,o,_,_,e,ex,_⟩:=I.hok p _ hk;exact⟨o,e,ex⟩
    ·obtain⟨_,_,_,_,o,_,_,e,ex,_⟩:=I.hok p _ hk;exact⟨o,e,ex⟩
   obtain⟨o,e,ex⟩:=z;refine⟨⟨o,e,ex.1⟩,fun a e2=> ?_⟩;cases e2;exact⟨o,e,ex.2.1⟩
  ·obtain⟨o,_,_,_,e,ex,_⟩:=I.hok p _ hk;refine⟨⟨o,e,ex.1⟩,fun a e2=> ?_⟩;cases e2;exact⟨o,e,ex.2.1⟩
 |_=>exact i4 ty
def Ro (K:aa) (T:String) (r:V->List V->Hp->VK->Prop) (to:TE):TE:=fun σ H Q=>to σ H fun x H1=>tyV K T x H1/\r x [] H1 Q
def tBM (K:aa) (T:String) (r:V->List V->Hp->VK->Prop) (to:TE) (t:TA):TE:=fun σ H Q=>to σ H fun x H1=>tyV K T x H1/\t σ H1 fun xs H2=>r x xs H2 Q
variable {o e:bw}{es:List bw}{to:TE}{t:TA}{name:Str}{apos cpos:Pos}{T id:String}{r:V->List V->Hp->VK->Prop}
theorem Nc (pa:PlainAttrs T) (slot:Slot T name id) (hty:typeOf (.builtin id)=pure (.type "method_descriptor")) (hm:MtR X id r) (ho:PE X o to)
  (hbase:ig o name X.env (eval o X.env)=eval o X.env:=by rfl) (hline:(apos.endLine==cpos.line)=true:=by rfl):PE X (.Call (.Attribute o name apos) [] [] cpos) (Ro X.K T r to):=by
 intro pins s σ H Q I h;refine wpAny_Call_method0_late hbase hline (thn (ho pins s σ H _ I h) fun v s1 ⟨x,H1,I1,r1,ty,q1⟩=> ?_);obtain⟨h1,h2⟩:=IZ I1 r1 ty;exact⟨T,id,pa,slot,hty,h1,h2,sv rfl (PySem.evalArgs_none (hm pins s1 σ H1 x [] v [] Q I1 r1 .nil q1))⟩
theorem Nd (pa:PlainAttrs T) (slot:Slot T name id) (hty:typeOf (.builtin id)=pure (.type "method_descriptor")) (hm:MtR X id r) (ho:PE X o to) (ha:PA X (e::es) t)
  (hbase:ig o name X.env (eval o X.env)=eval o X.env:=by rfl)
  (hfew:((dw cpos (ay (e::es) X.env)).all (fun x=> !x.1)&&(j5 cpos (ir [] X.env)).all (fun x=>x.1.isSome)
   &&decide ((e::es).length+([]:List kj).length+(if([]:List kj).isEmpty then 0 else 1)<30))=true:=by rfl)
  (hline:(apos.endLine==cpos.line)=true:=by rfl) (hs:ay (e::es) X.env=(false,eval e X.env)::ay es X.env:=by rfl) (hplain:(dw cpos (ay es X.env)).any (·.1)=false:=by rfl):
  PE X (.Call (.Attribute o name apos) (e::es) [] cpos) (tBM X.K T r to t):=by
 intro pins s σ H Q I h;refine wpAny_Call_method_late hbase hfew hline rfl (thn (ho pins s σ H _ I h) fun v s1 ⟨x,H1,I1,r1,ty,q1⟩=> ?_);obtain⟨h1,h2⟩:=IZ I1 r1 ty;refine⟨T,id,pa,slot,hty,h1,h2,?_⟩;have hA:=ha cpos pins s1 σ H1 _ I1 q1;rw[hs] at hA ⊢;refine sv (by show(false||(dw cpos (ay es X.env)).any (·.1))=false;rw[hplain] <;> rfl) (ua ?_);exact thn hA fun us s2 ⟨vs,H2,I2,r2,q2⟩=>hm pins s2 σ H2 x vs v us Q I2 r1 r2 q2
end
end L2
namespace L2
def MtM (X:Cx) (id:String) (r:V->List V->Hp->VK->Prop):Prop:=
 ∀(pins:List (af×Obj)) (s:au) (σ:St) (H:Hp) (x:V) (xs:List V) (v:ag) (us:List ag) (Q:VK),Inv X pins σ H s->RelV x v->Vals xs us->r x xs H Q->
  az (model X.prog X.w) X.A (call (.builtin id) (v::us)) (EP X pins σ Q) X.xe s
theorem Vals.one {x:V}{us:List ag} (h:Vals [x] us):∃ u,us=[u]/\RelV x u:=by
 cases h with|cons r t=>cases t;exact⟨_,rfl,r⟩
theorem Vals.rep (h:Vals xs us):∀ k:Nat,Vals (aw k xs).flatten (aw k us).flatten
 |0=>.nil
 |k+1=>by
  rw[fw,fw,i9,i9];exact Vals.append h (Vals.rep h k)
theorem yJ (its:List ag):∀(k:Nat) (acc:List ag),
  wc (fun x1 x2=>x1++x2) acc.toArray (aw k its.toArray)=(acc++(aw k its).flatten).toArray
 |0,acc=>by simp
 |k+1,acc=>by
  have e:acc.toArray++its.toArray=(acc++its).toArray:=by simp
  have e2:(acc++its)++(aw k its).flatten=acc++(aw (k+1) its).flatten:=by
   rw[fw,i9,gs]
  rw[<- e2,<- yJ its k (acc++its),<- e,fw,wd]
section
variable {X:Cx}{pins:List (af×Obj)}{σ:St}{H:Hp}{s:au}{l b:af}{xs ys zs:List V}
theorem Inv.lset {its its':List ag} (I:Inv X pins σ H s) (hH:H l=xa (.lst xs))
  (e:s.heap.get? l=xa { cls:=.type "list",data:=.seq its.toArray n }) (hf:f its.toArray=its'.toArray) (hv:Vals ys its') (hz:ys.length<=sizeLine):
  Inv X pins σ (upd H l (.lst ys)) { s with heap:=s.heap.update l (kt f),toks:=t' }:=by
 have q:=PySem.IsL.update e f;rw[hf] at q;refine I.write (x:=l) (e:=l) (by rw[hH];exact trivial) (.inl rfl) (fun b' u hb hu=>(fm s.heap (kt f) (bz hb)).trans hu) ⟨_,q⟩ ?_;exact⟨hz,its',_,hv,q⟩
theorem Inv.lnew (I:Inv X pins σ H s) (hv:Vals ys its) (hz:ys.length<=sizeLine):
  Inv X pins σ (upd H s.heap.objs.size (.lst ys)) { s with heap:=s.heap.push { cls:=.type "list",data:=.seq its.toArray },toks:=t' }:=
 I.laid (fun _ _ q=>bc _ q) (bf _) ⟨hz,its,0,hv,b0 _ rfl⟩
theorem Inv.fresh (I:Inv X pins σ H s):H s.heap.objs.size=xb:=I.hok.fresh (bf _)
theorem Inv.lstM (I:Inv X pins σ H s) (hH:H l=xa (.lst xs)):xs.length<=sizeLine/\∃(its:List ag) (n:Nat),Vals xs its/\xs.length=its.length/\s.heap.get? l=xa { cls:=.type "list",data:=.seq its.toArray n }:=by
 obtain⟨z,its,n,r,e⟩:=I.hok l _ hH;exact⟨z,its,n,r,r.length,e⟩
theorem Hw (h:n<=sizeLine):mw n=false:=by
 unfold mw;exact decide_eq_false (by omega)
end
section
variable {X:Cx}
def Ej:V->List V->Hp->VK->Prop:=fun x vs H Q=>∃ l xs y,x=.ref l/\vs=[y]/\H l=xa (.lst xs)/\xs.length<sizeLine/\Q .non (upd H l (.lst (xs++[y])))
theorem xO:MtM X "list.append" Ej:=by
 intro pins s σ H x vs v us Q I rx rv h;obtain⟨l,xs,y,rfl,rfl,hH,hz,q⟩:=h;cases rx;obtain⟨u,rfl,ru⟩:=rv.one;obtain⟨z,its,n,r,hl,e⟩:=I.lstM hH;refine call_meets tq ⟨_,e,rfl⟩ F.entry_list_append (F.args_list_append_2 _ _) (PySem.list_append l its.toArray n u (by rw[bi];omega)) ⟨e,?_⟩;refine⟨.non,_,I.lset (its':=its++[u]) hH e (by simp) (r.append (.cons ru .nil)) ?_,rfl,q⟩;rw[b8,lg];omega
noncomputable def Rw:R2:=fun x y H Q=>∃ l b xs zs,x=.ref l/\y=.ref b/\H l=xa (.lst xs)/\H b=xa (.lst zs)/\xs.length+zs.length<=sizeLine/\∀ p,H p=xb->Q (.ref p) (upd H p (.lst (xs++zs)))
theorem NF:OpR X (j4 .Add) Rw:=by
 intro pins s σ H x y v u Q I rx ry h;obtain⟨l,b,xs,zs,rfl,rfl,hH,hB,hz,q⟩:=h;cases rx;cases ry;obtain⟨z,its,n,r,hl,e⟩:=I.lstM hH;obtain⟨z2,its2,n2,r2,hl2,e2⟩:=I.lstM hB;refine PySem.P.add_list e e2 ?_ (by rw[bi,bi];omega);have ea:its.toArray++its2.toArray=(its++its2).toArray:=by simp
 rw[ea];exact⟨.ref _,_,I.lnew (t':=s.toks) (r.append r2) (by rw[b8];omega),rfl,q _ I.fresh⟩
noncomputable def Ru:R2:=fun x y H Q=>∃ l k xs,x=.ref l/\y=.int k/\H l=xa (.lst xs)/\ -(2 ^ 63)<=k/\k<2 ^ 63/\xs.length*k.toNat<=sizeLine/\
 ∀ p,H p=xb->Q (.ref p) (upd H p (.lst (aw k.toNat xs).flatten))
theorem Lc (xs:List α) (k:Nat):(aw k xs).flatten.length=k*xs.length:=by
 induction k with
 |zero=>simp
 |succ k ih=>rw[fw,i9,b8,ih,Nat.succ_mul,Nat.add_comm]
theorem Ny:OpR X (j4 .Mult) Ru:=by
 intro pins s σ H x y v u Q I rx ry h;obtain⟨l,k,xs,rfl,rfl,hH,h1,h2,hz,q⟩:=h;cases rx;obtain⟨t,rfl⟩:=ry;obtain⟨z,its,n,r,hl,e⟩:=I.lstM hH;have hlen:its.toArray.size*k.toNat<=sizeLine:=by rw[bi,<- hl];exact hz
 have hcap:¬ its.toArray.size*k.toNat>(2 ^ 63-1) / 8:=by
  have:(sizeLine:Nat)<=(2 ^ 63-1) / 8:=by decide
  omega
 have hfit:¬(!Builtin.List.listFitsIndex k)=true:=by
  rw[fitsIndex_both h1 h2];exact bx
 have hlong:¬ mw (its.toArray.size*k.toNat)=true:=by
  rw[Hw hlen];exact bx
 have hnew:wc (fun x1 x2=>x1++x2) #[] (aw (if its.toArray.isEmpty=true then 0 else k.toNat) its.toArray)=(aw k.toNat its).flatten.toArray:=by
  have f0:∀ m:Nat,wc (fun x1 x2=>x1++x2) #[] (aw m its.toArray)=(aw m its).flatten.toArray:=fun m=>by
   have:=yJ its m []
   rw[we] at this;exact this
  rw[f0];cases its with
  |nil=>simp
  |cons a r'=>rw[if_neg (by simp)]
 refine wpAny_binaryOp_repeat_ref (T:="list") (U:="int") (by decide) ⟨_,e,rfl⟩ (fun s'=>typeIs_int s' k t) noFill_list_mul F.fills_int_mul F.slot_int_rmul repeat_list F.slot_int_index.lookup
  (call_meets F.slot_int_rmul (typeIs_int s k t) F.entry_int_rmul (F.args_int_rmul_2 _ _) (int___rmul___int_list k t l its.toArray n)
   ⟨e,rfl,⟨_,e,rfl⟩,call_meets F.slot_list_mul ⟨_,e,rfl⟩ F.entry_list_mul (F.args_list_mul_2 _ _) (AutoListH.list___mul___list_int_3 l its.toArray n k t hfit hcap hlong) ⟨e,?_⟩⟩)
 rw[hnew];exact⟨.ref _,_,I.lnew (t':=s.toks) (r.rep k.toNat) (by rw[Lc,Nat.mul_comm];exact hz),rfl,q _ I.fresh⟩
end
section
variable {prog:dm}{w:dr}{A:d8}{E:ag->au->Prop}{s:au}
set_option maxRecDepth 100000 in
end
section
variable {X:Cx}
end
end L2
namespace Att
open PySem PySem.W PySem.Calls PyProof.Rows
theorem pO:∀(ns:List Int) (vs:List ag),WellAll P h vs (ns.map WData.int)->km vs ns:=by
 intro ns
 induction ns with
 |nil=>
  intro vs w;rw[k9] at w;cases w;exact .nil
 |cons n ns ih=>
  intro vs w;rw[bg] at w;cases w with
  |cons a b=>
   cases a;exact .cons _ _ (ih _ b)
theorem DV {l:OpenLaw} (hn:l.most=xa n)
  (hpre:l.row.toRowW.claim.pre args=true) (hwl:WellAll P h vals args):
  ∃ a vs ns,vals=[ck a]/\args=[WData.list (ns.map WData.int)]/\h.get? a=xa { cls:=.type "list",data:=.seq vs.toArray }/\km vs ns/\ns.length<=n:=by
 have hsh:WShape.hasAll [] args [.list .int]=true:=(pre_splitW hpre).1;have hc:l.pre.holds [] { args:=args }=true:=(pre_splitW hpre).2;obtain⟨d,r,rfl,h1,h2⟩:=hasAllW_cons hsh;obtain rfl:=hasAllW_nil h2;obtain⟨xs,rfl,h3⟩:=hasW_list h1;obtain⟨ns,rfl⟩:=items_int h3;have hlen:ns.length<=n:=by
  unfold OpenLaw.pre at hc;have h4:(WTm.not (.lt (.lit (.int (n:Int))) (.len (.arg 0)))).holds [] { args:=[.list (ns.map .int)] }=true:=by
   have h4:=(holds_andW hc).1;rw[hn] at h4;exact h4
  have h5:=condW_of h4 (w_not (w_lt w_lit (w_len_list (w_arg rfl))));rw[am] at h5;refine Nat.le_of_not_lt fun q=> ?_;have q':(n:Int)<((ns.length:Nat):Int):=by omega
  first
   |(rw[decide_eq_true q'] at h5;exact absurd h5 (by decide))
   |(simp at h5;omega)
 cases hwl with
 |cons w1 w2=>
  cases w2;cases w1 with
  |list ho hall=>exact⟨_,_,ns,rfl,rfl,ho,pO ns _ hall,hlen⟩
theorem Ek (l:OpenLaw) (args:List WData):l.row.toRowW.claim.post args (.bool true) args=true:=
 postW_of (r:=l.row.toRowW) (X:=(true==true))
  (show WShape.has [] (.bool true) .bool=true by first|rfl|decide|simp[WShape.has,WShape.arms,WShape.armsAll])
  (show(WTm.eq .res (.lit (.bool true))).value [] { args:=args,res:=xa (.bool true),after:=args }=xa (.bool (true==true)) from w_eq_bool (w_res rfl) w_lit) rfl
theorem attach_call {l:OpenLaw}
  (hn:l.most=xa n) (hdf:d.params.defaults=[])
  (call:∀(w:dr) (s₀ s₁:au) (mg mb:Str->Option ag) (fa:af) (o:Obj) (pm cd doc:ag) (a:af) (vs:List ag) (ns:List Int),
   Ground q loose [] XP w s₀ mg mb s₁.heap->YP w s₁.heap->
   s₁.heap.get? fa=xa o->o.data=.func (docDef d.name d.params d.body d.scope pm cd doc)->s₁.heap.CodeRec cd d.name->mg d.name=xa (.ref fa)->
   s₁.heap.get? a=xa { cls:=.type "list",data:=.seq vs.toArray }->km vs ns->ns.length<=n->s₁.gens= #[]->
   oz (model l.prog w) pp (.call (.ref fa) ⟨[.ref a],[]⟩) (fun r s'=>r=.ok (.ret (.bool true))/\OldK s₁.heap s'.heap/\s'.os=s₁.os/\m9 s'.gens) s₁):
  WalkO q loose XP YP l.row.toRowW d [] (fun f vs=>wf f vs):=by
 intro w s₀ s₁ mg mb G Y fa o pm cd doc dV kV ho hd hcd hD hmg hg args vals as hpre hlay hrd hwl hlo;obtain rfl:dV=.none:=Dflts.none hD hdf;obtain rfl:kV=.none:=Dflts.noKw hD;obtain⟨a,vs,ns,rfl,rfl,hobj,hints,hlen⟩:=DV hn hpre hwl;refine enter_call (qu (call w s₀ s₁ mg mb fa o pm cd doc a vs ns G Y ho (fd_plain hd) hcd hmg hobj hints hlen hg) fun r s' hq=> ?_);obtain⟨rfl,h2,h3,h4⟩:=hq;exact⟨.inl ⟨.bool true,.bool true,[],rfl,fun _=>rfl,.bool true,Ek l _,fun _=>⟨List.Pairwise.nil,fun _ hm=>(nomatch hm)⟩⟩,h2,h3,h4⟩
section
variable {prog:dm}{w:dr}{A:d8}{E:ag->au->Prop}{s:au}{K:Frag}
end
end Att
namespace L2
theorem wI:∀ {vs:List ag}{ns:List Int},km vs ns->Vals (ns.map V.int) vs
 |_,_,.nil=>.nil
 |_,_,.cons n t h=>.cons ⟨t,rfl⟩ (wI h)
def QI (H:Hp):Prop:=∀ b,H b=xb∨∃ o xs,H b=xa (.frz o (.lst xs))
theorem HJ {K:aa}
  (KX:K.In s₁.heap) (hns:s₁.heap.Ns ce mg) (hb:s₁.heap.Ns builtinsNs mb) (hbb:∀ x:Str,x≠"__name__"->mb x=dq x) (hlim:s₁.heap.NoLimit) (hg:s₁.gens= #[])
  (ha:s₁.heap.get? a=xa { cls:=.type "list",data:=.seq vs.toArray }) (hi:km vs ns) (hl:ns.length<=sizeLine) (hr:Room k pp)
  (F:∀ base:c9,K.In base->base.Ns ce mg->sE P w K mg base CX k fa fd [x] sp) (hbind:∀(s:au) (u:ag),tj s fd ⟨[u],[]⟩ [(x,u)])
  (hsp:∀ H:Hp,QI H->SqL K H a (ns.map V.int)->sp [.ref a] H (fun v _=>v=.bl true) fun _ _ _=>False)
  (hCX:∀ H e s',CX [] H s₁ (fun _ _ _=>False) e s'->False):
  oz (model P w) pp (.call (.ref fa) ⟨[.ref a],[]⟩) (fun r s'=>r=.ok (.ret (.bool true))/\OldK s₁.heap s'.heap/\s'.os=s₁.os/\m9 s'.gens) s₁:=by
 have rv:=wI hi;have lenV:=hi.length
 -- from an abstract heap in which nothing but the script may be tracked
 have core:∀ H:Hp,QI H->SqL K H a (ns.map V.int)->HOk P w H s₁.heap->(∀ b,H b≠xb->b=a)->(H a≠xb->K.lookup a=xb)->
   oz (model P w) pp (.call (.ref fa) ⟨[.ref a],[]⟩) (fun r s'=>r=.ok (.ret (.bool true))/\OldK s₁.heap s'.heap/\s'.os=s₁.os/\m9 s'.gens) s₁:=by
  intro H hO hS hok hA hK;have base_of:∀ {b:af}{o:Obj},s₁.heap.get? b=xa o->H b=xb->(HR s₁.heap H).get? b=xa o:=fun e n=>HQ e n;have noA:∀ {b:af}{o:Obj}{es:Array ln}{ep:Nat},s₁.heap.get? b=xa o->o.data=.dict es ep->H b=xb:=fun {b o es ep} e d=>by
   cases q:H b with
   |none=>rfl
   |some u=>
    have e':b=a:=hA b (by rw[q];simp);subst e';rw[ha] at e;cases e;have d':Data.seq vs.toArray _=wu es ep:=d;cases d'
  have nsK:∀ {b:af}{m:Str->Option ag},s₁.heap.Ns b m->(HR s₁.heap H).Ns b m:=fun {b m} ⟨o,es,ep,e,d,r⟩=>⟨o,es,ep,base_of e (noA e d),d,r⟩;have hKb:K.In (HR s₁.heap H):=fun b o e=>base_of (KX b o e) (by
   cases q:H b with
   |none=>rfl
   |some u=>
    have e':b=a:=hA b (by rw[q];simp);subst e';rw[hK (by rw[q];simp)] at e;cases e)
  have hM:Mod K mg (HR s₁.heap H):=⟨hKb,nsK hns,⟨mb,nsK hb,hbb⟩,let ⟨mc,h1,h2⟩:=hlim;⟨mc,nsK h1,h2⟩⟩;have e0:Env0 P w K mg (HR s₁.heap H) pp [] s₁ H:=⟨rfl,hM,fun b o e=>Ky e,uz (Fc _ _),trivial,fun b hb=>absurd (show b∈([]:List af) from hb) (by simp),hok,.of_eq hg⟩;refine qu ((F _ hKb (nsK hns)).run pp [] s₁ H ⟨[.ref a],[]⟩ [.ref a] [.ref a] _ _ hr e0 (hbind s₁ (.ref a)) (.cons rfl .nil) (hsp H hO hS)) fun r s' h=> ?_;cases r with
  |error e=>exact(hCX H e s' h).elim
  |ok fl=>
   cases fl with
   |next=>exact i4 h
   |brk=>exact i4 h
   |cont=>exact i4 h
   |ret u=>
    obtain⟨v,H',os,bare,un,hok',r',q⟩:=h;have q':v=.bl true:=q;subst q';obtain rfl:u=t8 true:=r';refine⟨rfl,OldK.of_keep fun b o e=> ?_,os,bare⟩;cases q:H b with
    |none=>exact un.keep b o e q (by intro z;exact absurd (show b∈([]:List af) from z) (by simp)) (by simp)
    |some u=>
     rcases hO b with z|⟨ob,xs,z⟩
     ·rw[q] at z;cases z
     ·have z2:=un.frzs b ob _ z;obtain⟨e1,_⟩:=hok b _ z;obtain⟨e2,_⟩:=hok' b _ z2;rw[e] at e1;cases e1;exact e2
 cases hk:K.lookup a with
 |some o=>
  -- the script is one of the module's own objects
  have e:=KX a o hk;rw[ha] at e;cases e;refine core (fun _=>xb) (fun _=>.inl rfl) (.inr ⟨_,vs.toArray,_,hk,rfl,rfl,rfl,by rw[bi,lenV];exact hl,by simpa using rv⟩) (fun b u z=>by have z':(xb:Option HO)=xa u:=z;cases z') (fun b z=>absurd rfl z) fun z=>absurd rfl z
 |none=>
  refine core (fun b=>if b=a then xa (.frz { cls:=.type "list",data:=.seq vs.toArray } (.lst (ns.map V.int))) else xb) (fun b=> ?_) (.inl (.inr ⟨{ cls:=.type "list",data:=.seq vs.toArray },if_pos rfl⟩)) (fun b u z=> ?_) (fun b z=> ?_) fun _=>hk
  ·by_cases hb:b=a
   ·exact .inr ⟨_,_,if_pos hb⟩
   ·exact .inl (if_neg hb)
  ·by_cases hb:b=a
   ·have z':=(if_pos hb).symm.trans z;cases z';subst hb;exact⟨ha,by rw[am];exact hl,vs,_,rv,ha⟩
   ·have z':=(if_neg hb).symm.trans z;cases z'
  ·by_cases hb:b=a
   ·exact hb
   ·exact absurd (if_neg hb) z
end L2
namespace L2
theorem walk_of {l:wg}{K:Params->aa}{CX:dr->CXT}{sp:dr->Sp}
  (hn:l.most=xa n) (hn2:n<=sizeLine) (hdf:d.params.defaults=[]) (hr:Room k pp)
  (hY:∀(w:dr) (h:c9),YP w h->(K w.params).In h)
  (F:∀(w:dr) (mg:Str->Option ag) (fa:af) (h:c9),(K w.params).In h->h.Ns ce mg->mg d.name=xa (.ref fa)->
   ∃ fd:jp,(∀(s:au) (u:ag),tj s fd ⟨[u],[]⟩ [(x,u)])/\
    ∀ base:c9,(K w.params).In base->base.Ns ce mg->sE l.prog w (K w.params) mg base (CX w) k fa fd [x] (sp w))
  (hsp:∀(w:dr) (H:Hp) (a:af) (ns:List Int),ns.length<=n->QI H->SqL (K w.params) H a (ns.map V.int)->sp w [.ref a] H (fun v _=>v=.bl true) fun _ _ _=>False)
  (hCX:∀(w:dr) (H:Hp) (s:au) (e:ag) (s':au),CX w [] H s (fun _ _ _=>False) e s'->False):
  ww q loose XP YP l.row.toRowW d [] (fun f vs=>wf f vs):=by
 refine Att.attach_call hn hdf fun w s₀ s₁ mg mb fa o pm cd doc a vs ns G Y ho hd hcd hmg hobj hints hlen hg=> ?_;have KX:=hY w _ Y;obtain⟨fd,hb,hF⟩:=F w mg fa _ KX G.T.g hmg;exact HJ KX G.T.g G.T.b G.T.builtins G.T.nolimit hg hobj hints (ci hlen hn2) hr hF hb (fun H hO hS=>hsp w H a ns hlen hO hS) fun H e s'=>hCX w H s₁ e s'
end L2
namespace L2
noncomputable def cC (s:cz) (j:Nat):cz:=match s with
 |.ClassDef _ _ _ body _ _ _ _ _ _ _=>body.getD j (.Pass ⟨0,0,0,0⟩)
 |_=>.Pass ⟨0,0,0,0⟩
noncomputable def iF (s:cz):Arguments:=match s with
 |.FunctionDef _ a _ _ _ _ _ _ _ _=>a
 |_=>{ posonlyargs:=[],args:=[],vararg:=xb,kwonlyargs:=[],kw_defaults:=[],kwarg:=xb,defaults:=[] }
noncomputable def fW (s:cz):List cz:=match s with
 |.FunctionDef _ _ b _ _ _ _ _ _ _=>b
 |_=>[]
noncomputable def bH (s:cz):ke:=match s with
 |.FunctionDef _ _ _ _ _ _ sc _ _ _=>sc
 |_=>{ kind:=.function,names:=[],isGenerator:=false,isCoroutine:=false }
structure Fun (K:aa) (x qual:Str) (st:cz) (f:af) (fd:jp):Prop where
 ex:∃(oc:ag) (od:Option af) (kV doc pm:ag) (an:Option af) (cdv ct:ag) (osl:Array (Option ag)),
  fd=iu x qual (iF st) (fW st) (bH st) .none kV doc pm an cdv ct/\K.lookup f=xa ⟨oc,od,.func fd,osl⟩/\j0 K cdv qual=true
 kp:gx K (.ref f)=true
section
variable {P:dm}{w:dr}{K:aa}{mg:Str->Option ag}{base:c9}
theorem Fun.binds {st:cz} (F:Fun K x qual st f fd)
  (h:∀(kV doc pm:ag) (an:Option af) (cdv ct:ag) (us:List ag),us.length=ps.length->bindArgs (iu x qual (iF st) (fW st) (bH st) .none kV doc pm an cdv ct) ⟨us,[]⟩=pure (ps.zip us)):Binds K fd ps []:=by
 obtain⟨oc,od,kV,doc,pm,an,cdv,ct,osl,rfl,lk,hcd⟩:=F.ex;exact .all (h kV doc pm an cdv ct)
theorem Ju {st:cz}{kV doc pm cdv ct:ag} (l:K.lookup f=xa ⟨oc,od,.func (iu x qual (iF st) (fW st) (bH st) .none kV doc pm an cdv ct),osl⟩)
  (c:j0 K cdv qual=true) (k:gx K (.ref f)=true):Fun K x qual st f (iu x qual (iF st) (fW st) (bH st) .none kV doc pm an cdv ct):=⟨⟨oc,od,kV,doc,pm,an,cdv,ct,osl,rfl,l,c⟩,k⟩
end
theorem Qt (hr:Room k A):A.units+1<fe:=my (Nat.add_le_add_left (by decide:1<=64) _) hr.units
section
variable {X:Cx}
end
theorem Ml {A B:Prop} (h:B):if false=true then A else B:=by
 rw[if_neg bx];exact h
theorem Mj {A B:Prop} (h:A):if true=true then A else B:=by
 rw[if_pos rfl];exact h
def Same (H H':Hp):Prop:=∀ b o,H b=xa o->H' b=xa o
theorem Same.refl (H:Hp):Same H H:=fun _ _ h=>h
theorem Same.trans (a:Same H H1) (b:Same H1 H2):Same H H2:=fun c o h=>b c o (a c o h)
theorem Same.free (e:Same H H') (h:H' l=Option.none):H l=Option.none:=by
 cases q:H l with
 |none=>rfl
 |some o=>
  rw[e l o q] at h;cases h
end L2
end
section
namespace L2
section
variable {κ:Type} [DecidableEq κ]
noncomputable def wJ (kvs:List (κ×V)) (k:κ):Option V:=(kvs.find? fun kv=>decide (kv.1=k)).map (·.2)
noncomputable def mS (kvs:List (κ×V)) (k:κ) (v:V):List (κ×V):=
 if(kvs.any fun kv=>decide (kv.1=k))=true then kvs.map (fun kv=>if kv.1=k then(kv.1,v) else kv) else kvs++[(k,v)]
noncomputable def yO (kvs:List (κ×V)) (k:κ):List (κ×V):=kvs.filter fun kv=>decide (kv.1≠k)
theorem nM {k:κ} (e:p.1=k):wJ (p::r) k=xa p.2:=by simp[wJ,gz,e]
theorem lA {k:κ} (e:¬ p.1=k):wJ (p::r) k=wJ r k:=by simp[wJ,gz,e]
theorem Bo (k:κ):∀ kvs:List (κ×V),(kvs.any fun kv=>decide (kv.1=k))=(wJ kvs k).isSome
 |[]=>rfl
 |p::r=>by
  rw[lu]
  by_cases e:p.1=k
  ·simp only[nM e,decide_eq_true e,Bool.true_or,u5]
  ·rw[lA e,decide_eq_false e,Bool.false_or];exact Bo k r
theorem gZ (kvs:List (κ×V)) (k:κ) (v:V):(mS kvs k v).length<=kvs.length+1:=by
 unfold mS;split
 ·rw[am];omega
 ·rw[b8,b7,kq];omega
theorem RelO.isSome_eq (r:RelO o u):o.isSome=u.isSome:=by
 cases o with
 |none=>cases u with
  |none=>rfl
  |some _=>exact(show False from r).elim
 |some _=>cases u with
  |none=>exact(show False from r).elim
  |some _=>rfl
theorem KV.val (r:KV kvs vs) (k:κ):RelO (wJ kvs k) (qt vs k):=by
 unfold KV at r
 induction r with
 |nil=>exact ij
 |@cons p q ps qs h t ih=>
  obtain⟨h1,h2⟩:=h
  by_cases e:p.1=k
  ·have e':q.1=k:=h1.symm.trans e;have b:qt (q::qs) k=xa q.2:=by simp[qt,gz,e']
   rw[nM e,b];exact h2
  ·have e':¬ q.1=k:=fun z=>e (h1.trans z);have b:qt (q::qs) k=qt qs k:=by simp[qt,gz,e']
   rw[lA e,b];exact ih
theorem KV.any (r:KV kvs vs) (k:κ):(kvs.any fun kv=>decide (kv.1=k))=vs.any fun kv=>decide (kv.1=k):=by
 unfold KV at r
 induction r with
 |nil=>rfl
 |cons h t ih=>rw[lu,lu,ih,h.1]
theorem KV.repl (r:KV kvs vs) (k:κ) (ry:RelV y u):
  KV (kvs.map fun kv=>if kv.1=k then(kv.1,y) else kv) (vs.map fun kv=>if kv.1=k then(kv.1,u) else kv):=by
 unfold KV at r ⊢
 induction r with
 |nil=>exact .nil
 |@cons p q ps qs h t ih=>
  rw[bg,bg];refine .cons ?_ ih;obtain⟨h1,h2⟩:=h
  by_cases e:p.1=k
  ·rw[if_pos e,if_pos (h1.symm.trans e)];exact⟨h1,ry⟩
  ·rw[if_neg e,if_neg (fun z=>e (h1.trans z))];exact⟨h1,h2⟩
theorem KV.put (r:KV kvs vs) (k:κ) (ry:RelV y u):KV (mS kvs k y) (stored vs k u):=by
 unfold mS stored;rw[r.any k]
 by_cases e:(vs.any fun kv=>decide (kv.1=k))=true
 ·rw[if_pos e,if_pos e];exact r.repl k ry
 ·rw[if_neg e,if_neg e];exact Paired.snoc r ⟨rfl,ry⟩
theorem KV.length {vs:List (κ×ag)} (r:KV kvs vs):kvs.length=vs.length:=jc r
theorem IC (kvs:List (κ×V)) (k:κ):(yO kvs k).length<=kvs.length:=dh _ _
end
theorem EW (r:RelV (kV k) u):(aN P w).is k u=true:=by
 cases k with
 |inl i=>obtain⟨t,e⟩:=(show ∃ t,u=uv i t from r);subst e;exact Ai P w i t
 |inr x=>obtain⟨t,e⟩:=(show ∃ t,u=uw x t from r);subst e;exact Ah P w x t
theorem xY:∀ {ks:List Key}{us:List ag},Vals (ks.map kV) us->ItemsAre (aN P w) ks us
 |[],_,r=>by rw[k9] at r;cases r;exact .nil
 |k::ks,_,r=>by
  rw[bg] at r;cases r with
  |cons h t=>exact .cons (EW h) (xY t)
abbrev KT (H:Hp):List (List Key×V)->List (List Key×af×ag)->Prop:=j3 fun p q=>p.1=q.1/\H q.2.1=xa (.tup (p.1.map kV))/\RelV p.2 q.2.2
theorem KT.val (r:KT H kvs xs) (k:List Key):RelO (wJ kvs k) ((ls xs k).map (·.2)):=by
 induction r with
 |nil=>exact ij
 |@cons p q ps qs h t ih=>
  obtain⟨h1,_,h2⟩:=h
  by_cases e:p.1=k
  ·have e':q.1=k:=h1.symm.trans e;have b:ls (q::qs) k=xa q.2:=by simp[ls,gz,e']
   rw[nM e,b];exact h2
  ·have e':¬ q.1=k:=fun z=>e (h1.trans z);have b:ls (q::qs) k=ls qs k:=by simp[ls,gz,e']
   rw[lA e,b];exact ih
theorem KT.repl (r:KT H kvs xs) (k:List Key) (ry:RelV y u):
  KT H (kvs.map fun kv=>if kv.1=k then(kv.1,y) else kv) (xs.map (r9 k u)):=by
 induction r with
 |nil=>exact .nil
 |@cons p q ps qs h t ih=>
  rw[bg,bg];refine .cons ?_ ih;obtain⟨h1,h2,h3⟩:=h;unfold r9
  by_cases e:p.1=k
  ·rw[if_pos e,if_pos (h1.symm.trans e)];exact⟨h1,h2,ry⟩
  ·rw[if_neg e,if_neg (fun z=>e (h1.trans z))];exact⟨h1,h2,h3⟩
theorem KT.put (r:KT H kvs xs) (k:List Key) (hb:H b=xa (.tup (k.map kV))) (ry:RelV y u):
  KT H (mS kvs k y) (jo xs k b u):=by
 have e:(kvs.any fun kv=>decide (kv.1=k))=(ls xs k).isSome:=by
  rw[Bo,(r.val k).isSome_eq,qj]
 unfold mS jo;rw[e]
 by_cases q:(ls xs k).isSome=true
 ·rw[if_pos q,if_pos q];exact r.repl k ry
 ·rw[if_neg q,if_neg q];exact Paired.snoc r ⟨rfl,hb,ry⟩
theorem KT.keeps (r:KT H kvs xs) (ht:∀ b ys,H b=xa (.tup ys)->H' b=xa (.tup ys)):KT H' kvs xs:=
 j3.mapP r fun _ _ z=>⟨z.1,ht _ _ z.2.1,z.2.2⟩
section
variable {P:dm}{w:dr}{H:Hp}{h:c9}{a:af}
theorem ME (ok:HOk P w H h) (e:Rd H a u):ObjOk P w H h a u:=e.ok ok
theorem IE (ok:HOk P w H h) (e:Rd H a (.dK kvs)):kvs.length<=sizeLine/\(a==fu)=false/\∃ vs,KV kvs vs/\h.DictOf (aN P w) a vs:=
 show ObjOk P w H h a (.dK kvs) from ME ok e
theorem OL (ok:HOk P w H h) (e:H a=xa (.dK kvs)):kvs.length<=sizeLine/\(a==fu)=false/\∃ vs,KV kvs vs/\h.DictOf (aN P w) a vs:=IE ok (.inl e)
theorem xU (ok:HOk P w H h) (e:H a=xa (.tup (ks.map kV))):(b4 (aN P w)).is h ks a:=by
 obtain⟨_,its,r,o,h1,h2,n,h3⟩:=(show ObjOk P w H h a (.tup (ks.map kV)) from ok a _ e);exact⟨o,its.toArray,n,h1,h2,h3,by simpa using xY r⟩
theorem Iy (ok:HOk P w H h) (e:Rd H a (.dT kvs)):kvs.length<=sizeLine/\(a==fu)=false/\
  ∃ xs,KT H kvs xs/\h.DictOfH (b4 (aN P w)) a xs:=by
 obtain⟨z,y,xs,r,o,es,ep,h1,h2,h3,h4,h5⟩:=(show ObjOk P w H h a (.dT kvs) from ME ok e);refine⟨z,y,xs,r,o,es,ep,h1,h2,h3,h4,fun x hx=> ?_,h5⟩;have all:∀ {l:List (List Key×V)}{m:List (List Key×af×ag)},KT H l m->∀ x∈m,(b4 (aN P w)).is h x.1 x.2.1:=by
  intro l m q
  induction q with
  |nil=>intro x hx;exact nomatch hx
  |@cons p q ps qs hq t ih=>
   intro x hx;rcases aj.mp hx with e|hx
   ·subst e;exact xU ok (by rw[<- hq.1];exact hq.2.1)
   ·exact ih x hx
 exact all r x hx
theorem Iz (ok:HOk P w H h) (e:H a=xa (.dT kvs)):kvs.length<=sizeLine/\(a==fu)=false/\
  ∃ xs,KT H kvs xs/\h.DictOfH (b4 (aN P w)) a xs:=Iy ok (.inl e)
end
def DGet (H:Hp) (a:af) (y:V) (r:Option V):Prop:=
 (∃ kvs k,Rd H a (.dK kvs)/\y=kV k/\r=wJ kvs k)∨∃ kvs k b,Rd H a (.dT kvs)/\y=.ref b/\H b=xa (.tup (k.map kV))/\r=wJ kvs k
def DPut (H:Hp) (a:af) (y v:V) (H':Hp):Prop:=
 (∃ kvs k,H a=xa (.dK kvs)/\y=kV k/\kvs.length<sizeLine/\H'=upd H a (.dK (mS kvs k v)))∨
 ∃ kvs k b,H a=xa (.dT kvs)/\y=.ref b/\H b=xa (.tup (k.map kV))/\kvs.length<sizeLine/\H'=upd H a (.dT (mS kvs k v))
theorem DGet.k {k:Key} (e:H a=xa (.dK kvs)):DGet H a (kV k) (wJ kvs k):=.inl ⟨kvs,k,.inl e,rfl,rfl⟩
theorem DGet.t {k:List Key} (e:H a=xa (.dT kvs)) (eb:H b=xa (.tup (k.map kV))):DGet H a (.ref b) (wJ kvs k):=.inr ⟨kvs,k,b,.inl e,rfl,eb,rfl⟩
theorem DPut.k {k:Key} (e:H a=xa (.dK kvs)) (hl:kvs.length<sizeLine):DPut H a (kV k) v (upd H a (.dK (mS kvs k v))):=.inl ⟨kvs,k,e,rfl,hl,rfl⟩
theorem DPut.t {k:List Key} (e:H a=xa (.dT kvs)) (eb:H b=xa (.tup (k.map kV))) (hl:kvs.length<sizeLine):
  DPut H a (.ref b) v (upd H a (.dT (mS kvs k v))):=.inr ⟨kvs,k,b,e,rfl,eb,hl,rfl⟩
section
variable {X:Cx}{pins:List (af×Obj)}{σ:St}{H:Hp}{s:au}{a:af}{y v:V}{u r:ag}{o:Option V}{A:d8}{E:ag->au->Prop}
theorem Inv.big (I:Inv X pins σ H s):fu<s.heap.objs.size:=by
 have h:ce<s.heap.objs.size:=(I.mod.glob.keeps I.bk).lt;exact Nat.lt_trans (by decide) h
theorem FU (hu:A.units+1<fe) (I:Inv X pins σ H s) (g:DGet H a y (xa v)) (ry:RelV y u) (h:∀ w' s',Inv X pins σ H s'->RelV v w'->Q w' s'):
  az (model X.prog X.w) A (pk (.ref a) u) Q E s:=by
 rcases g with⟨kvs,k,e,ey,l⟩|⟨kvs,k,b,e,ey,eb,l⟩
 ·subst ey;obtain⟨z,hd,vs,rel,dd⟩:=IE I.hok e;obtain⟨w',hw,rw'⟩:=RelO.some_of (v:=v) (o:=qt vs k) (by rw[l];exact rel.val k);exact wpAny_getItem_of (EW ry) dd.mapOf hw (h w' _ (I.tok _) rw')
 ·subst ey;cases (show u=ck b from ry);obtain⟨z,hd,xs,rel,dd⟩:=Iy I.hok e;obtain⟨w',hw,rw'⟩:=RelO.some_of (v:=v) (o:=(ls xs k).map (·.2)) (by rw[l];exact rel.val k);obtain⟨p,hp,hp2⟩:=nv.mp hw;refine wpAny_getItem_heap (ku hu) (xU I.hok eb) dd hp ?_;rw[hp2];exact h w' _ (I.tok _) rw'
theorem RO (hu:A.units+1<fe) (I:Inv X pins σ H s) (g:DGet H a y o) (ry:RelV y u) (h:∀ s',Inv X pins σ H s'->Q (.bool o.isSome) s'):
  az (model X.prog X.w) A (fx .In u (.ref a)) Q E s:=by
 rcases g with⟨kvs,k,e,ey,l⟩|⟨kvs,k,b,e,ey,eb,l⟩
 ·subst ey;obtain⟨z,hd,vs,rel,dd⟩:=IE I.hok e;refine wpAny_in_of (EW ry) hd dd.mapOf ?_;rw[<- (rel.val k).isSome_eq,<- l];exact h _ (I.tok _)
 ·subst ey;cases (show u=ck b from ry);obtain⟨z,hd,xs,rel,dd⟩:=Iy I.hok e;refine wpAny_in_heap (ku hu) (xU I.hok eb) hd dd ?_;have q:=(rel.val k).isSome_eq;rw[qj] at q;rw[<- q,<- l];exact h _ (I.tok _)
theorem qH (I:Inv X pins σ H s) (mu:Mut (H a)) (hs:f8 a s.heap h') (he:∃ q,h'.get? a=xa q) (new:ObjOk X.prog X.w (upd H a ob) h' a ob):
  Inv X pins σ (upd H a ob) { s with heap:=h',toks:=t' }:=
 I.write (x:=a) (e:=a) mu (.inl rfl) (fun b q hb z=>(hs.2 b hb).trans z) he new
theorem Jw (z:kvs.length<=sizeLine) (hd:(a==fu)=false) (rel:KV kvs vs) (dd:h'.DictOf (aN P w) a vs):
  ObjOk P w H' h' a (.dK kvs):=⟨z,hd,vs,rel,dd⟩
theorem FQ (hu:A.units+1<fe) (I:Inv X pins σ H s) (g:DPut H a y v H') (ry:RelV y u) (rv:RelV v r) (h:∀ s',Inv X pins σ H' s'->Q () s'):
  az (model X.prog X.w) A (setItem (.ref a) u r) Q E s:=by
 rcases g with⟨kvs,k,e,ey,l,eH⟩|⟨kvs,k,b,e,ey,eb,l,eH⟩
 ·subst ey eH;obtain⟨z,hd,vs,rel,dd⟩:=OL I.hok e;have hz:vs.length<=sizeLine:=by rw[<- rel.length];exact z
  have hl:(mS kvs k v).length<=sizeLine:=by have:=gZ kvs k v;omega
  refine wpAny_setItem_pairs (hsz:=hz) (EW ry) dd fun h' dd' hs=>h _ ?_;have he:∃ q,h'.get? a=xa q:=let ⟨q,_,_,hq,_⟩:=dd';⟨q,hq⟩;exact qH I (by rw[e];exact ij) hs he (Jw hl hd (rel.put k rv) dd')
 ·subst ey eH;cases (show u=ck b from ry);obtain⟨z,hd,xs,rel,dd⟩:=Iz I.hok e;have hz:xs.length<=sizeLine:=by rw[<- jc rel];exact z
  have hl:(mS kvs k v).length<=sizeLine:=by have:=gZ kvs k v;omega
  refine wpAny_setItem_heap (hsz:=hz) (ku hu) (xU I.hok eb) dd fun h' dd' hs=>h _ ?_;obtain⟨q,es,ep,hq,h2,h3,h4,_,h5⟩:=dd';refine qH I (by rw[e];exact ij) hs ⟨q,hq⟩ ⟨hl,hd,_,(rel.put k eb rv).keeps fun c ys ec=> ?_,q,es,ep,hq,h2,h3,h4,h5⟩;rw[aF (KW ec e (fun z=>nomatch z))];exact ec
end
section
variable {X:Cx}{pins:List (af×Obj)}{σ:St}{H:Hp}{s:au}{a:af}{kvs:List (Key×V)}{k:Key}{u:ag}{A:d8}{E:ag->au->Prop}
end
def QJ (i:bw):Prop:=∀ ov iv,subscripted i false ov iv=operate [ov,iv] (pk ov iv)
theorem JF {T id:String}
  (hl:t9 (.type T) "__getitem__"=pure (xa (.builtin id))) (hs:QJ slice)
  (h:az (model prog w) A (eval value env) (fun o s₁=>az (model prog w) A (eval slice env) (fun i s₂=>s₂.TypeIs o T/\az (model prog w) A (pk o i) Q E s₂) E s₁) E s):
  az (model prog w) A (eval (.Subscript value slice pos) env) Q E s:=by
 refine Subscript_ (g9 h (fun o s₁ h₁=>g9 h₁ (fun i s₂ h₂=> ?_) fun _ _ x=>x) fun _ _ x=>x);obtain⟨hT,h₂⟩:=h₂;unfold uk;refine ae ?_;rw[getitemInPython_of_ne hT.not_modules];refine ae (wpAny_specialOf hT hl ?_);have fin:az (model prog w) A (subscripted slice false o i) (fun r s₃=>az (model prog w) A (letTemporaryGo value o r >>= fun _=>pure r) Q E s₃) E s₂:=by
  rw[hs o i];exact wpAny_operating (g9 h₂ (fun r s₃ h₃=>ae (wpAny_letTemporaryGo (ar h₃))) fun _ _ x=>x)
 first
  |exact ar (ae fin)
  |exact ae (ar (ae fin))
  |exact ae fin
theorem AD (I:Inv X pins σ H s) (g:DGet H a y o):s.TypeIs (.ref a) "dict":=by
 rcases g with⟨kvs,k,e,_,_⟩|⟨kvs,k,b,e,_,_,_⟩
 ·obtain⟨_,_,vs,_,dd⟩:=IE I.hok e;exact dd.typeIs
 ·obtain⟨_,_,xs,_,dd⟩:=Iy I.hok e;exact dd.typeIs
def Pz (td ty:TE):TE:=fun σ H Q=>td σ H fun x H1=>ty σ H1 fun y H2=>∃ a v,x=.ref a/\DGet H2 a y (xa v)/\Q v H2
def Rn (ty td:TE):TE:=fun σ H Q=>ty σ H fun y H1=>td σ H1 fun x H2=>∃ a o,x=.ref a/\DGet H2 a y o/\Q (.bl o.isSome) H2
def PJ (td ty tv:TE):TS:=fun D σ H=>tv σ H fun v H1=>td σ H1 fun x H2=>ty σ H2 fun y H3=>∃ a H4,x=.ref a/\DPut H3 a y v H4/\D.nx σ H4
section
variable {X:Cx}{o i e value:bw}{pos pos' tpos:Pos}{td ty tv:TE}
theorem Kc (hu:X.A.units+1<fe) (ho:PE X o td) (hi:PE X i ty) (hs:QJ i):PE X (.Subscript o i pos) (Pz td ty):=by
 intro pins s σ H Q I h;refine JF PySem.F.slot_dict_getitem.lookup hs (thn (ho pins s σ H _ I h) fun u s1 ⟨x,H1,I1,rx,q1⟩=>thn (hi pins s1 σ H1 _ I1 q1) fun iv s2 ⟨y,H2,I2,ry,a,v,ex,g,q2⟩=> ?_);subst ex;obtain rfl:u=ck a:=rx;exact⟨AD I2 g,FU hu I2 g ry fun w' s3 I3 rw'=>⟨v,H2,I3,rw',q2⟩⟩
theorem Ng (hu:X.A.units+1<fe) (hi:PE X i ty) (ho:PE X o td):PC X .In i o (Rn ty td):=by
 intro pins s σ H Q I h;refine thn (hi pins s σ H _ I h) fun iv s1 ⟨y,H1,I1,ry,q1⟩=>thn (ho pins s1 σ H1 _ I1 q1) fun u s2 ⟨x,H2,I2,rx,a,ov,ex,g,q2⟩=> ?_;subst ex;obtain rfl:u=ck a:=rx;exact RO hu I2 g ry fun s3 I3=>⟨.bl ov.isSome,H2,I3,rfl,q2⟩
theorem JS (hu:X.A.units+1<fe) (ho:PE X o td) (hi:PE X i ty) (hv:PE X value tv) (hs:ji value (xa (.Subscript o i pos')) pos.line X.env=pure false):
  PS X (.Assign [.Subscript o i pos'] value pos) (PJ td ty tv):=by
 intro pins s σ H D I h;refine wpAny_Assign_Subscript (thn (hv pins s σ H _ I h) fun r s1 ⟨v,H1,I1,rv,q1⟩=>thn (ho pins s1 σ H1 _ I1 q1) fun u s2 ⟨x,H2,I2,rx,q2⟩=>thn (hi pins s2 σ H2 _ I2 q2) fun iv s3 ⟨y,H3,I3,ry,a,H4,ex,g,q3⟩=> ?_) hs;subst ex;obtain rfl:u=ck a:=rx;exact FQ hu I3 g ry rv fun s4 I4=>⟨σ,H4,I4,q3⟩
end
theorem IF (h:c9) (hb:fu<h.objs.size):ObjOk P w H (h.push { cls:=.type "dict",data:=.dict #[] }) h.objs.size (.dK []):=
 ⟨iq _,beq_eq_false_iff_ne.mpr (bz (cj hb)),[],.nil,Heap.DictOf.new h⟩
theorem IA (h:c9) (hb:fu<h.objs.size):ObjOk P w H (h.push { cls:=.type "dict",data:=.dict #[] }) h.objs.size (.dT []):=
 ⟨iq _,beq_eq_false_iff_ne.mpr (bz (cj hb)),[],.nil,_,#[],0,b0 _ rfl,⟨rfl,rfl,rfl⟩,rfl,rfl,wp⟩
def My:TE:=fun _ H Q=>∀ p,H p=xb->Q (.ref p) (upd H p (.dT []))
section
variable {X:Cx}{pos:Pos}
theorem Hc:PE X (.Dict [] [] pos) My:=fun pins s σ H Q I h=>
 wpAny_Dict_empty ⟨.ref s.heap.objs.size,_,I.laid (a:=s.heap.objs.size) (o:=.dT []) (t':=s.toks) (fun _ _ q=>bc _ q) (bf _) (IA s.heap I.big),rfl,h _ (I.hok.fresh (bf _))⟩
end
def Br:List (TE×TE)->St->Hp->(List (V×V)->Hp->Prop)->Prop
 |[],_,H,Q=>Q [] H
 |(tk,tv)::r,σ,H,Q=>tk σ H fun x H1=>tv σ H1 fun y H2=>Br r σ H2 fun ps H3=>Q ((x,y)::ps) H3
abbrev VV:List (V×V)->List (ag×ag)->Prop:=j3 fun p q=>RelV p.1 q.1/\RelV p.2 q.2
def PPs (X:Cx) (pos:Pos) (keys:List (Option bw)) (values:List bw) (trs:List (TE×TE)):Prop:=
 ∀(pins:List (af×Obj)) (s:au) (σ:St) (H:Hp) (Q:List (V×V)->Hp->Prop),Inv X pins σ H s->Br trs σ H Q->
  az (model X.prog X.w) X.A (evalPairs (pairTrees keys values X.env pos)) (fun vs s'=>∃ ps H',Inv X pins σ H' s'/\VV ps vs/\Q ps H') X.xe s
theorem JU:PPs X pos [] [] []:=fun pins s σ H Q I h=>pairTrees_nil_walk ⟨[],H,I,.nil,h⟩
theorem GX (hk:PE X k tk) (hv:PE X v tv) (hr:PPs X pos ks vs trs):
  PPs X pos (xa k::ks) (v::vs) ((tk,tv)::trs):=fun pins s σ H Q I h=>
 pairTrees_cons_walk (thn (hk pins s σ H _ I h) fun u s1 ⟨x,H1,I1,rx,q1⟩=>thn (hv pins s1 σ H1 _ I1 q1) fun w2 s2 ⟨y,H2,I2,ry,q2⟩=>
  thn (hr pins s2 σ H2 _ I2 q2) fun ws s3 ⟨ps,H3,I3,rel,q3⟩=>⟨(x,y)::ps,H3,I3,.cons ⟨rx,ry⟩ rel,q3⟩)
noncomputable def mergeK (kvs more:List (Key×V)):List (Key×V):=more.foldl (fun acc kv=>mS acc kv.1 kv.2) kvs
theorem KV.merge:∀ {more:List (Key×V)}{rs:List (Key×ag)}{kvs:List (Key×V)}{vs:List (Key×ag)},KV more rs->KV kvs vs->KV (mergeK kvs more) (merged vs rs):=by
 intro more rs kvs vs r;unfold KV at r
 induction r generalizing kvs vs with
 |nil=>intro q;exact q
 |@cons p q ps qs h t ih=>
  intro r0;have e:KV (mS kvs p.1 p.2) (stored vs q.1 q.2):=by
   have:=r0.put p.1 h.2
   rw[<- h.1];exact this
  exact ih e
theorem lN:∀(more kvs:List (Key×V)),(mergeK kvs more).length<=kvs.length+more.length
 |[],kvs=>by show kvs.length<=kvs.length+0;omega
 |p::r,kvs=>by
  have h1:=lN r (mS kvs p.1 p.2);have h2:=gZ kvs p.1 p.2
  show(mergeK (mS kvs p.1 p.2) r).length<=_
  rw[b7];omega
theorem uA:∀ {kvs:List (Key×V)}{ws:List (ag×ag)},VV (kvs.map fun kv=>(kV kv.1,kv.2)) ws->∃ rs,Carries (aN P w) ws rs/\KV kvs rs
 |[],_,r=>by rw[k9] at r;cases r;exact⟨[],ij,.nil⟩
 |p::kvs,_,r=>by
  rw[bg] at r;cases r with
  |@cons a b as bs h t=>
   obtain⟨rs,c,q⟩:=uA (P:=P) (w:=w) t;obtain⟨b1,b2⟩:=b;exact⟨(p.1,b2)::rs,⟨EW h.1,rfl,c⟩,.cons ⟨rfl,h.2⟩ q⟩
def Py (trs:List (TE×TE)):TE:=fun σ H Q=>∀ p,H p=xb->Br trs σ (upd H p (.dK [])) fun ps H2=>H2 p=xa (.dK [])/\∃ kvs:List (Key×V),ps=kvs.map (fun kv=>(kV kv.1,kv.2))/\kvs.length<=15/\Q (.ref p) (upd H2 p (.dK (mergeK [] kvs)))
theorem Kb (h:PPs X pos keys values trs) (hall:keys.all (·.isSome)=true) (hl:keys.length=values.length) (h0:keys≠[])
  (h15:keys.length<=15):PE X (.Dict keys values pos) (Py trs):=by
 intro pins s σ H Q I q;have hn:=I.hok.fresh (bf s.heap.objs.size);have I1:=I.laid (a:=s.heap.objs.size) (o:=.dK []) (h':=s.heap.push { cls:=.type "dict",data:=.dict #[] }) (t':=s.toks) (fun _ _ q=>bc _ q) (bf _) (IF s.heap I.big);refine wpAny_Dict_walk (knd:=aN X.prog X.w) hall hl h0 h15 (thn (h pins _ σ _ _ I1 (q _ hn)) fun ws s2 ⟨ps,H2,I2,rel,e,kvs,ep,lk,q2⟩=> ?_);subst ep;obtain⟨rs,c,rk⟩:=uA (P:=X.prog) (w:=X.w) rel;obtain⟨z,hd,vs0,r0,dd⟩:=OL I2.hok e;cases r0;refine⟨rs,c,dd,fun h' dd' hs=>⟨.ref s.heap.objs.size,_,?_,rfl,q2⟩⟩;have hz:(mergeK [] kvs).length<=sizeLine:=by
  have h1:=lN kvs [];rw[kq] at h1;rw[bv];omega
 have he:∃ q,h'.get? s.heap.objs.size=xa q:=let ⟨q,_,_,hq,_⟩:=dd';⟨q,hq⟩;exact qH I2 (by rw[e];exact ij) hs he (Jw hz hd (rk.merge .nil) dd')
section
variable {X:Cx}{pins:List (af×Obj)}{σ:St}{H:Hp}{s:au}{a:af}{y d:V}{u r:ag}{o:Option V}{A:d8}{E:ag->au->Prop}
end
section
variable {X:Cx}{o e f:bw}{apos cpos:Pos}{td ty tx:TE}
end
section
variable {X:Cx}{pins:List (af×Obj)}{σ:St}{H:Hp}{s:au}{a:af}{kvs:List (Key×V)}{A:d8}{E:ag->au->Prop}
end
section
variable {X:Cx}{pins:List (af×Obj)}{σ:St}{H:Hp}{s:au}{a:af}{y:V}{u:ag}{A:d8}{E:ag->au->Prop}
end
end L2
namespace L2
section
variable {κ:Type} [DecidableEq κ]
end
end L2
end
section
namespace L2.MB
inductive D where
 |non|bl (b:Bool)|int (i:Int)|str (x:Str)|lst (ds:List D)|tup (ds:List D)
 /-- an object that is told by its number -/
 |obj (n:Nat)
 /-- a list that is handed in and only read -/
 |scr (ds:List D)
 deriving Inhabited
structure Okk where
 p:af->Prop
 al:Nat->Option af
instance:CoeFun Okk (fun _=>af->Prop):=⟨Okk.p⟩
instance:Coe Okk (af->Prop):=⟨Okk.p⟩
noncomputable def Okk.all:Okk:=⟨fun _=>True,fun _=>xb⟩
def RL (K:aa) (ok:Okk) (H:Hp) (a:af) (xs:List V):Prop:=ok a/\H a=xa (.lst xs)
def RC (K:aa) (ok:Okk) (H:Hp) (a:af) (xs:List V):Prop:=
 (ok a/\Rd H a (.lst xs))∨
  ∃(o:Obj) (its:Array ag) (n:Nat),K.lookup a=xa o/\o.cls=.type "list"/\o.dict=xb/\o.data=.seq its n/\its.size<=sizeLine/\Vals xs its.toList
def RT (K:aa) (ok:Okk) (H:Hp) (a:af) (xs:List V):Prop:=ok a/\H a=xa (.tup xs)
section
variable {K:aa}{ok ok':Okk}{H H':Hp}{a:af}{xs:List V}
theorem RL.sq (h:RL K ok H a xs):SqL K H a xs:=.inl (.inl h.2)
theorem RC.sq (h:RC K ok H a xs):SqL K H a xs:=h.elim (fun z=>.inl z.2) .inr
theorem RT.sq (h:RT K ok H a xs):SqT K H a xs:=.inl (.inl h.2)
theorem Rd.mono (f:∀ b o,ok b->H b=xa o->ok' b/\H' b=xa o) (k:ok a) (h:Rd H a u):ok' a/\Rd H' a u:=by
 rcases h with h|⟨o,h⟩
 ·exact⟨(f _ _ k h).1,.inl (f _ _ k h).2⟩
 ·exact⟨(f _ _ k h).1,.inr ⟨o,(f _ _ k h).2⟩⟩
theorem RL.mono (f:∀ b o,ok b->H b=xa o->ok' b/\H' b=xa o) (h:RL K ok H a xs):RL K ok' H' a xs:=f _ _ h.1 h.2
theorem RC.mono (f:∀ b o,ok b->H b=xa o->ok' b/\H' b=xa o) (h:RC K ok H a xs):RC K ok' H' a xs:=
 h.elim (fun z=>.inl (Rd.mono f z.1 z.2)) .inr
theorem RT.mono (f:∀ b o,ok b->H b=xa o->ok' b/\H' b=xa o) (h:RT K ok H a xs):RT K ok' H' a xs:=f _ _ h.1 h.2
end
mutual
inductive Rep (K:aa) (ok:Okk) (H:Hp):V->D->Prop
 |non:Rep K ok H .non .non
 |bl (b:Bool):Rep K ok H (.bl b) (.bl b)
 |int (i:Int):Rep K ok H (.int i) (.int i)
 |str (x:Str):Rep K ok H (.str x) (.str x)
 |lst {a:af}{xs:List V}{ds:List D}:RL K ok H a xs->Reps K ok H xs ds->Rep K ok H (.ref a) (.lst ds)
 |tup {a:af}{xs:List V}{ds:List D}:RT K ok H a xs->Reps K ok H xs ds->Rep K ok H (.ref a) (.tup ds)
 |obj {n:Nat}{a:af}:ok.al n=xa a->Rep K ok H (.ref a) (.obj n)
 |scr {a:af}{xs:List V}{ds:List D}:RC K ok H a xs->Reps K ok H xs ds->Rep K ok H (.ref a) (.scr ds)
inductive Reps (K:aa) (ok:Okk) (H:Hp):List V->List D->Prop
 |nil:Reps K ok H [] []
 |cons {v:V}{d:D}{vs:List V}{ds:List D}:Rep K ok H v d->Reps K ok H vs ds->Reps K ok H (v::vs) (d::ds)
end
section
variable {K:aa}{ok ok':Okk}{H H':Hp}
mutual
theorem Rep.mono (f:∀ b o,ok b->H b=xa o->ok' b/\H' b=xa o) (g:∀ n a,ok.al n=xa a->ok'.al n=xa a:=by exact fun _ _ h=>h):∀ {v:V}{d:D},Rep K ok H v d->Rep K ok' H' v d
 |_,_,.non=>.non
 |_,_,.bl b=>.bl b
 |_,_,.int i=>.int i
 |_,_,.str x=>.str x
 |_,_,.lst h r=>.lst (h.mono f) (Reps.mono f g r)
 |_,_,.tup h r=>.tup (h.mono f) (Reps.mono f g r)
 |_,_,.obj e=>.obj (g _ _ e)
 |_,_,.scr h r=>.scr (h.mono f) (Reps.mono f g r)
theorem Reps.mono (f:∀ b o,ok b->H b=xa o->ok' b/\H' b=xa o) (g:∀ n a,ok.al n=xa a->ok'.al n=xa a:=by exact fun _ _ h=>h):∀ {vs:List V}{ds:List D},Reps K ok H vs ds->Reps K ok' H' vs ds
 |_,_,.nil=>.nil
 |_,_,.cons h r=>.cons (Rep.mono f g h) (Reps.mono f g r)
end
theorem Rep.same {v:V}{d:D} (e:Same H H') (h:Rep K ok H v d):Rep K ok H' v d:=h.mono fun b o k q=>⟨k,e b o q⟩
theorem Reps.same {vs:List V}{ds:List D} (e:Same H H') (h:Reps K ok H vs ds):Reps K ok H' vs ds:=h.mono fun b o k q=>⟨k,e b o q⟩
theorem Rep.non_inv (h:Rep K ok H v .non):v=.non:=by cases h;rfl
theorem Rep.bl_inv (h:Rep K ok H v (.bl b)):v=.bl b:=by cases h;rfl
theorem Rep.int_inv (h:Rep K ok H v (.int i)):v=.int i:=by cases h;rfl
theorem Rep.str_inv (h:Rep K ok H v (.str x)):v=.str x:=by cases h;rfl
theorem Rep.lst_inv (h:Rep K ok H v (.lst ds)):∃ a xs,v=.ref a/\RL K ok H a xs/\Reps K ok H xs ds:=by cases h;exact⟨_,_,rfl,‹_›,‹_›⟩
theorem Rep.tup_inv (h:Rep K ok H v (.tup ds)):∃ a xs,v=.ref a/\RT K ok H a xs/\Reps K ok H xs ds:=by cases h;exact⟨_,_,rfl,‹_›,‹_›⟩
theorem Rep.scr_inv (h:Rep K ok H v (.scr ds)):∃ a xs,v=.ref a/\RC K ok H a xs/\Reps K ok H xs ds:=by cases h;exact⟨_,_,rfl,‹_›,‹_›⟩
theorem Rep.obj_inv (h:Rep K ok H v (.obj n)):∃ a,v=.ref a/\ok.al n=xa a:=by cases h;exact⟨_,rfl,‹_›⟩
theorem Reps.length:∀ {vs:List V}{ds:List D},Reps K ok H vs ds->vs.length=ds.length
 |_,_,.nil=>rfl
 |_,_,.cons _ r=>by rw[b7,b7,Reps.length r]
theorem Reps.get:∀ {vs:List V}{ds:List D}{i:Nat}{d:D},Reps K ok H vs ds->ds[i]?=xa d->∃ v,vs[i]?=xa v/\Rep K ok H v d
 |_,_,_,_,.nil,e=>by simp at e
 |_,_,0,_,.cons h _,e=>by
  simp at e;subst e;exact⟨_,rfl,h⟩
 |_,_,i+1,d,.cons _ r,e=>by
  obtain⟨v,h1,h2⟩:=Reps.get (i:=i) (d:=d) r (by simpa using e);exact⟨v,by simpa using h1,h2⟩
theorem Reps.getV:∀ {vs:List V}{ds:List D}{i:Nat}{v:V},Reps K ok H vs ds->vs[i]?=xa v->∃ d,ds[i]?=xa d/\Rep K ok H v d
 |_,_,_,_,.nil,e=>by simp at e
 |_,_,0,_,.cons h _,e=>by
  simp at e;subst e;exact⟨_,rfl,h⟩
 |_,_,i+1,v,.cons _ r,e=>by
  obtain⟨d,h1,h2⟩:=Reps.getV (i:=i) (v:=v) r (by simpa using e);exact⟨d,by simpa using h1,h2⟩
theorem Reps.append:∀ {vs ws:List V}{ds es:List D},Reps K ok H vs ds->Reps K ok H ws es->Reps K ok H (vs++ws) (ds++es)
 |_,_,_,_,.nil,s=>s
 |_,_,_,_,.cons h r,s=>.cons h (Reps.append r s)
theorem Reps.snoc (h:Reps K ok H vs ds) (q:Rep K ok H v d):Reps K ok H (vs++[v]) (ds++[d]):=h.append (.cons q .nil)
theorem Reps.take:∀ {vs:List V}{ds:List D} (n:Nat),Reps K ok H vs ds->Reps K ok H (vs.take n) (ds.take n)
 |_,_,0,_=>.nil
 |_,_,_+1,.nil=>.nil
 |_,_,n+1,.cons h r=>.cons h (Reps.take n r)
theorem Reps.drop:∀ {vs:List V}{ds:List D} (n:Nat),Reps K ok H vs ds->Reps K ok H (vs.drop n) (ds.drop n)
 |_,_,0,r=>r
 |_,_,_+1,.nil=>.nil
 |_,_,n+1,.cons _ r=>Reps.drop n r
theorem Reps.set (q:Rep K ok H v d):∀ {vs:List V}{ds:List D} (i:Nat),Reps K ok H vs ds->Reps K ok H (vs.set i v) (ds.set i d)
 |_,_,_,.nil=>.nil
 |_,_,0,.cons _ r=>.cons q r
 |_,_,i+1,.cons h r=>.cons h (Reps.set q i r)
theorem Reps.ints:∀(ns:List Int),Reps K ok H (ns.map V.int) (ns.map D.int)
 |[]=>.nil
 |n::ns=>.cons (.int n) (Reps.ints ns)
theorem Reps.of_ints:∀ {ns:List Int}{vs:List V},Reps K ok H vs (ns.map D.int)->vs=ns.map V.int
 |[],_,.nil=>rfl
 |n::ns,_,.cons h r=>by
  cases h;rw[Reps.of_ints r];rfl
theorem Rep.lst_new {p:af}{xs:List V}{ds:List D} (k:ok p) (n:H p=xb) (r:Reps K ok H xs ds):Rep K ok (upd H p (.lst xs)) (.ref p) (.lst ds):=
 .lst ⟨k,aP⟩ (r.mono fun b o q e=>⟨q,by rw[aF (aM e n)];exact e⟩)
theorem Rep.tup_new {p:af}{xs:List V}{ds:List D} (k:ok p) (n:H p=xb) (r:Reps K ok H xs ds):Rep K ok (upd H p (.tup xs)) (.ref p) (.tup ds):=
 .tup ⟨k,aP⟩ (r.mono fun b o q e=>⟨q,by rw[aF (aM e n)];exact e⟩)
end
theorem cK {H:Hp}{p:af}{o:HO} (n:H p=xb):Same H (upd H p o):=fun b u e=>by
 rw[aF (aM e n)];exact e
abbrev Rho:=List (Option D)
abbrev DF:=Rho->Option D
abbrev DB:=Rho->Option Bool
abbrev DL:=Rho->Option (List D)
structure OkH (ok:Okk) (H:Hp):Prop where
 fn:∀ b,H b=xb->ok b
 tp:∀ b xs,H b=xa (.tup xs)->ok b
instance {ok:Okk}{H:Hp}:CoeFun (OkH ok H) (fun _=>∀ b,H b=xb->ok b):=⟨OkH.fn⟩
theorem OkH.same {ok:Okk}{H H':Hp} (h:OkH ok H) (e:Same H H'):OkH ok H':=⟨fun b n=>h b (e.free n),fun b xs q=>by
 cases z:H b with
 |none=>exact h b z
 |some o=>
  rw[e b o z] at q;cases q;exact h.tp b xs z⟩
def EnvR (K:aa) (ok:Okk) (H:Hp) (σ:St) (ρ:Rho):Prop:=∀(i:Nat) (d:D),ρ[i]?=xa (xa d)->∃ v,σ[i]?=xa (xa v)/\Rep K ok H v d
theorem EnvR.same {K:aa}{ok:Okk}{H H':Hp}{σ:St}{ρ:Rho} (h:EnvR K ok H σ ρ) (e:Same H H'):EnvR K ok H' σ ρ:=fun i d q=>
 let ⟨v,a,b⟩:=h i d q
 ⟨v,a,b.same e⟩
def tD (K:aa) (f:DF):TE:=fun σ H Q=>∃(ok:Okk) (ρ:Rho) (d:D),OkH ok H/\EnvR K ok H σ ρ/\f ρ=xa d/\∀ v H',Same H H'->Rep K ok H' v d->Q v H'
def tDA (K:aa) (f:DL):TA:=fun σ H Q=>∃(ok:Okk) (ρ:Rho) (ds:List D),OkH ok H/\EnvR K ok H σ ρ/\f ρ=xa ds/\∀ vs H',Same H H'->Reps K ok H' vs ds->Q vs H'
abbrev DE (X:Cx) (e:bw) (f:DF):Prop:=PE X e (tD X.K f)
abbrev DA (X:Cx) (es:List bw) (f:DL):Prop:=PA X es (tDA X.K f)
theorem _root_.L2.PE.imp {X:Cx}{e:bw}{t t':TE} (h:PE X e t) (f:∀ σ H Q,t' σ H Q->t σ H Q):PE X e t':=fun pins s σ H Q I q=>h pins s σ H Q I (f _ _ _ q)
theorem _root_.L2.PT.imp {X:Cx}{e:bw}{t t':TT} (h:PT X e t) (f:∀ σ H Q,t' σ H Q->t σ H Q):PT X e t':=fun pins s σ H Q I q=>h pins s σ H Q I (f _ _ _ q)
theorem _root_.L2.PA.imp {X:Cx}{e:List bw}{t t':TA} (h:PA X e t) (f:∀ σ H Q,t' σ H Q->t σ H Q):PA X e t':=fun p pins s σ H Q I q=>h p pins s σ H Q I (f _ _ _ q)
theorem _root_.L2.PS.imp {X:Cx}{e:cz}{t t':TS} (h:PS X e t) (f:∀ D σ H,t' D σ H->t D σ H):PS X e t':=fun pins s σ H D I q=>h pins s σ H D I (f _ _ _ q)
theorem _root_.L2.PSs.imp {X:Cx}{e:List cz}{t t':TS} (h:PSs X e t) (f:∀ D σ H,t' D σ H->t D σ H):PSs X e t':=fun pins s σ H D I q=>h pins s σ H D I (f _ _ _ q)
noncomputable def LS (i:Nat):DF:=fun ρ=>ρ[i]?.join
noncomputable def dC (d:D):DF:=fun _=>xa d
noncomputable def d1 (g:D->Option D) (f:DF):DF:=fun ρ=>(f ρ).bind g
noncomputable def QE:DL:=fun _=>xa []
noncomputable def LV (f:DF) (r:DL):DL:=fun ρ=>(f ρ).bind fun d=>(r ρ).map fun ds=>d::ds
theorem aQ {α β:Type}{o:Option α}{f:α->Option β}{b:β} (h:o.bind f=xa b):∃ a,o=xa a/\f a=xa b:=by
 cases o with
 |none=>cases h
 |some a=>exact⟨a,rfl,h⟩
section
variable {X:Cx}{e a b:bw}{es:List bw}{f fa fb:DF}{fl:DL}{pos:Pos}
theorem OM (h:PE X (.Name x pos) (QO i)):DE X (.Name x pos) (LS i):=h.imp fun σ H Q ⟨ok,ρ,d,h1,h2,h3,h4⟩=>by
 have e:ρ[i]?=xa (xa d):=by
  unfold LS at h3;cases q:ρ[i]? with
  |none=>rw[q] at h3;cases h3
  |some o=>rw[q] at h3;cases o with
   |none=>cases h3
   |some d'=>cases h3;rfl
 obtain⟨v,e1,e2⟩:=h2 i d e;exact⟨v,e1,h4 v H (Same.refl H) e2⟩
theorem dv (i:Nat) (hN:X.N[i]?=xa x:=by rfl) (hv:Vis X.env.scope x:=by first|exact Or.inl rfl|exact Or.inr (Or.inl rfl)|exact Or.inr (Or.inr rfl)) (hd:(x==("__debug__":Str))=false:=by decide)
  (hcd:(x==("__classdict__":Str))=false:=by decide):DE X (.Name x pos) (LS i):=OM (MU hN hv hd hcd)
theorem oC (h:PE X e (tC v)) (r:∀ K ok H,Rep K ok H v d):DE X e (dC d):=h.imp fun σ H Q ⟨ok,ρ,d',h1,h2,h3,h4⟩=>by
 cases h3;exact h4 v H (Same.refl H) (r _ _ _)
theorem Ci:DE X (.Constant (.int i) j pos) (dC (.int i)):=oC Na fun _ _ _=>.int i
theorem QC {b j pos}:DE X (.Constant (.bool b) j pos) (dC (.bl b)):=oC PX fun _ _ _=>.bl b
theorem ON:DE X (.Constant .none j pos) (dC .non):=oC MZ fun _ _ _=>.non
theorem Ch:DE X (.Constant (.str x) j pos) (dC (.str x)):=oC MW fun _ _ _=>.str x
def Fit2 (K:aa) (r:R2) (g:D->D->Option D):Prop:=∀(ok:Okk) (H:Hp) (x y:V) (a b d:D) (Q:VK),OkH ok H->Rep K ok H x a->Rep K ok H y b->g a b=xa d->(∀ v H',Same H H'->Rep K ok H' v d->Q v H')->r x y H Q
def RX (K:aa) (r:V->Hp->VK->Prop) (g:D->Option D):Prop:=∀(ok:Okk) (H:Hp) (x:V) (a d:D) (Q:VK),OkH ok H->Rep K ok H x a->g a=xa d->(∀ v H',Same H H'->Rep K ok H' v d->Q v H')->r x H Q
def FitL (K:aa) (r:List V->Hp->VK->Prop) (g:List D->Option D):Prop:=∀(ok:Okk) (H:Hp) (xs:List V) (as:List D) (d:D) (Q:VK),OkH ok H->Reps K ok H xs as->g as=xa d->(∀ v H',Same H H'->Rep K ok H' v d->Q v H')->r xs H Q
noncomputable def toB:D->Option Bool
 |.bl b=>xa b
 |_=>xb
theorem oI (h:toB d=xa k):d=.bl k:=by
 cases d with
 |bl b=>cases h;rfl
 |_=>cases h
theorem QB (ho:UnR X (unaryOp op) r) (F:RX X.K r g) (ha:DE X a fa):DE X (.UnaryOp op a pos) (d1 g fa):=
 (PR ho ha).imp fun σ H Q ⟨ok,ρ,d,h1,h2,h3,h4⟩=>by
  obtain⟨x,e1,h3⟩:=aQ h3;exact⟨ok,ρ,x,h1,h2,e1,fun v H1 s1 r1=>F ok H1 v x d Q (h1.same s1) r1 h3 fun w H3 s3 r3=>h4 w H3 (s1.trans s3) r3⟩
theorem OO:DA X [] QE:=(PA.imp Bz) fun σ H Q ⟨ok,ρ,d,h1,h2,h3,h4⟩=>by
 cases h3;exact h4 [] H (Same.refl H) .nil
theorem LP (ha:DE X e f) (hr:DA X es fl) (hs:ay (e::es) X.env=(false,eval e X.env)::ay es X.env:=by rfl):DA X (e::es) (LV f fl):=
 (pA ha hr hs).imp fun σ H Q ⟨ok,ρ,ds,h1,h2,h3,h4⟩=>by
  obtain⟨x,e1,h3⟩:=aQ h3;cases e2:fl ρ with
  |none=>rw[e2] at h3;cases h3
  |some r=>
   rw[e2] at h3;cases h3;exact⟨ok,ρ,x,h1,h2,e1,fun v H1 s1 r1=>⟨ok,ρ,r,h1.same s1,h2.same s1,e2,fun vs H2 s2 r2=>h4 (v::vs) H2 (s1.trans s2) (.cons (r1.same s2) r2)⟩⟩
noncomputable def rP (ds:List D):Option D:=if ds.length<=sizeLine then xa (.tup ds) else xb
noncomputable def Ib (ds:List D):Option D:=if ds.length<=sizeLine then xa (.lst ds) else xb
theorem bP {α:Type}{c:Prop} [Decidable c] {a b:α} (h:(if c then xa a else xb)=xa b):c/\a=b:=by
 by_cases hc:c
 ·rw[if_pos hc] at h;exact⟨hc,cf h⟩
 ·rw[if_neg hc] at h;cases h
end
end L2.MB
end
section
namespace L2.MB
noncomputable def gI (g:Int->Int->Option D) (a b:D):Option D:=match a,b with
 |.int i,.int j=>g i j
 |_,_=>xb
theorem Jt (h:gI g a b=xa d):∃ i j,a=.int i/\b=.int j/\g i j=xa d:=by
 unfold gI at h;split at h
 ·exact⟨_,_,rfl,rfl,h⟩
 ·cases h
noncomputable abbrev yH:=gI fun i j=>xa (.int (i+j))
noncomputable abbrev gSub:=gI fun i j=>xa (.int (i-j))
noncomputable abbrev iQ:=gI fun i j=>if(-1000000000000000000<i/\i<1000000000000000000)∨(-1000000000000000000<j/\j<1000000000000000000) then xa (.int (i*j)) else xb
noncomputable abbrev cV:=gI fun i j=>if 0<j then xa (.int (i % j)) else xb
noncomputable abbrev gLt:=gI fun i j=>xa (.bl (decide (i<j)))
noncomputable abbrev gLe:=gI fun i j=>xa (.bl (decide (i<=j)))
noncomputable abbrev gGt:=gI fun i j=>xa (.bl (decide (j<i)))
noncomputable abbrev gGe:=gI fun i j=>xa (.bl (decide (j<=i)))
theorem kJ {K:aa}{g':Int->Int->D} (r:∀ i j ok H,Rep K ok H (g i j) (g' i j)):Fit2 K (rI0 g) (gI fun i j=>xa (g' i j)):=fun ok H x y a b d Q h1 ra rb e k=>by
 obtain⟨i,j,rfl,rfl,e⟩:=Jt e;cases e;exact⟨i,j,ra.int_inv,rb.int_inv,k _ H (Same.refl H) (r i j ok H)⟩
theorem Oz {K:aa}{C C':Int->Int->Prop} [∀ i j,Decidable (C' i j)] {g:Int->Int->V}{g':Int->Int->D} (hC:∀ i j,C' i j->C i j) (r:∀ i j ok H,Rep K ok H (g i j) (g' i j)):
  Fit2 K (rI C g) (gI fun i j=>if C' i j then xa (g' i j) else xb):=fun ok H x y a b d Q h1 ra rb e k=>by
 obtain⟨i,j,rfl,rfl,e⟩:=Jt e;obtain⟨hc,rfl⟩:=bP e;exact⟨i,j,ra.int_inv,rb.int_inv,hC i j hc,k _ H (Same.refl H) (r i j ok H)⟩
section
variable {X:Cx}{e a b c:bw}{es:List bw}{f fa fb fc:DF}{fl:DL}{pos:Pos}
noncomputable def Qv (a:D):Option D:=match a with
 |.int i=>xa (.int (-i))
 |_=>xb
theorem Jx (ha:DE X a fa):DE X (.UnaryOp .USub a pos) (d1 Qv fa):=QB Ms (fun ok H x a d Q h1 r e k=>by
 cases a with
 |int i=>cases e;exact⟨i,r.int_inv,k _ H (Same.refl H) (.int _)⟩
 |_=>cases e) ha
noncomputable def QN:D->Option Bool
 |.non=>xa false
 |.bl b=>xa b
 |.int i=>xa (i !=0)
 |.str x=>if x.length<=sizeLine then xa ((x.length:Int) !=0) else xb
 |.lst ds=>xa (!ds.isEmpty)
 |.tup ds=>xa (!ds.isEmpty)
 |.obj _=>xb
 |.scr ds=>xa (!ds.isEmpty)
theorem Reps.isEmpty {K:aa} (h:Reps K ok H vs ds):vs.isEmpty=ds.isEmpty:=by cases h <;> rfl
theorem JC {K:aa} (h:Rep K ok H v d) (e:QN d=xa k):QG K v H k:=by
 cases h with
 |non=>cases e;exact rfl
 |bl b=>cases e;exact rfl
 |int i=>cases e;exact rfl
 |str x=>
  obtain⟨hz,rfl⟩:=bP e;exact⟨hz,rfl⟩
 |lst h r=>
  cases e;exact .inl ⟨_,h.sq,by rw[r.isEmpty]⟩
 |tup h r=>
  cases e;exact .inr (.inl ⟨_,h.sq,by rw[r.isEmpty]⟩)
 |obj _=>cases e
 |scr h r=>
  cases e;exact .inl ⟨_,h.sq,by rw[r.isEmpty]⟩
theorem _root_.L2.PW.imp {X:Cx}{e:bw}{t t':TT} (h:PW X e t) (f:∀ σ H Q,t' σ H Q->t σ H Q):PW X e t':=fun wh pins s σ H Q I q=>h wh pins s σ H Q I (f _ _ _ q)
variable {ba bb:DB}{rest:List bw}
noncomputable def RJ (a:D):Option D:=(toB a).map fun k=>.bl (!k)
noncomputable def LB (a b:D):Option D:=match a,b with
 |.str x,.str y=>if x.length+y.length<=sizeLine then xa (.str (x++y)) else xb
 |_,_=>xb
noncomputable def gIx (a b:D):Option D:=match a,b with
 |.lst ds,.int i=>atI ds i
 |.scr ds,.int i=>atI ds i
 |.tup ds,.int i=>atI ds i
 |.str x,.int i=>if x.length<=sizeLine then(atI x.cps.toList i).map fun c=>.str ⟨#[c]⟩ else xb
 |_,_=>xb
theorem Reps.atI {K:aa} (h:Reps K ok H vs ds) (e:L2.atI ds i=xa d):∃ v,L2.atI vs i=xa v/\Rep K ok H v d:=by
 unfold L2.atI at e ⊢;rw[h.length];cases q:ixN ds.length i with
 |none=>rw[q] at e;cases e
 |some j=>
  rw[q] at e;exact h.get e
noncomputable def Do (ds:List D) (lo hi:Option Int):List D:=(ds.drop (HT.sIx ds.length 0 lo)).take (HT.sIx ds.length ds.length hi-HT.sIx ds.length 0 lo)
theorem Reps.cut {K:aa} (h:Reps K ok H vs ds) (lo hi:Option Int):Reps K ok H (Jy vs lo hi) (Do ds lo hi):=by
 unfold Jy Do;rw[h.length];exact(h.drop _).take _
abbrev DO:=Rho->Option (Option Int)
noncomputable def tDO (K:aa) (f:DO):TO:=fun σ H Q=>∃(ok:Okk) (ρ:Rho) (o:Option Int),OkH ok H/\EnvR K ok H σ ρ/\f ρ=xa o/\∀ H',Same H H'->Q o H'
theorem _root_.L2.PO.imp {X:Cx}{e:Option bw}{t t':TO} (h:PO X e t) (f:∀ σ H Q,t' σ H Q->t σ H Q):PO X e t':=fun pins s σ H Q I q=>h pins s σ H Q I (f _ _ _ q)
abbrev DOp (X:Cx) (e:Option bw) (f:DO):Prop:=PO X e (tDO X.K f)
noncomputable def dNo:DO:=fun _=>xa xb
noncomputable def toI:D->Option Int
 |.int i=>xa i
 |_=>xb
theorem zU (h:toI d=xa i):d=.int i:=by
 cases d with
 |int b=>cases h;rfl
 |_=>cases h
noncomputable def dSo (f:DF):DO:=fun ρ=>(f ρ).bind fun d=>(toI d).map xa
theorem LO:DOp X xb dNo:=PO.imp JW fun σ H Q ⟨ok,ρ,o,h1,h2,h3,h4⟩=>by
 cases h3;exact h4 H (Same.refl H)
theorem LN (h:DE X e f):DOp X (xa e) (dSo f):=PO.imp (JV h) fun σ H Q ⟨ok,ρ,o,h1,h2,h3,h4⟩=>by
 obtain⟨d,e1,e2⟩:=aQ h3;cases e3:toI d with
 |none=>rw[e3] at e2;cases e2
 |some i=>
  rw[e3] at e2;cases e2;obtain rfl:=zU e3;exact⟨ok,ρ,_,h1,h2,e1,fun v H1 s1 r1=>⟨i,r1.int_inv,h4 H1 s1⟩⟩
noncomputable def gSl (a:D) (lo hi:Option Int):Option D:=match a with
 |.lst ds=>xa (.lst (Do ds lo hi))
 |.scr ds=>xa (.lst (Do ds lo hi))
 |.tup ds=>if HT.sIx ds.length 0 lo=0/\HT.sIx ds.length ds.length hi=ds.length then xb else xa (.tup (Do ds lo hi))
 |_=>xb
noncomputable def Qw (ds:List D):Option D:=match ds with
 |[.lst xs]=>xa (.int xs.length)
 |[.scr xs]=>xa (.int xs.length)
 |[.tup xs]=>xa (.int xs.length)
 |[.str x]=>if x.length<=sizeLine then xa (.int x.length) else xb
 |_=>xb
theorem Reps.one_inv {K:aa} (h:Reps K ok H vs [d]):∃ v,vs=[v]/\Rep K ok H v d:=by
 cases h with
 |cons a r=>cases r;exact⟨_,rfl,a⟩
theorem Reps.two_inv {K:aa} (h:Reps K ok H vs [d,d']):∃ v v',vs=[v,v']/\Rep K ok H v d/\Rep K ok H v' d':=by
 cases h with
 |cons a r=>
  obtain⟨v',rfl,b⟩:=r.one_inv;exact⟨_,_,rfl,a,b⟩
theorem LG {K:aa}:FitL K (fun xs H Q=>∃ x n,xs=[x]/\QM K x H n/\Q (.int n) H) Qw:=fun ok H xs as d Q h1 r e k=>by
 unfold Qw at e;split at e
 ·cases e;obtain⟨v,rfl,r1⟩:=r.one_inv;obtain⟨p,ys,rfl,g,r2⟩:=r1.lst_inv;exact⟨_,_,rfl,.inl ⟨_,g.sq,r2.length.symm⟩,k _ H (Same.refl H) (.int _)⟩
 ·cases e;obtain⟨v,rfl,r1⟩:=r.one_inv;obtain⟨p,ys,rfl,g,r2⟩:=r1.scr_inv;exact⟨_,_,rfl,.inl ⟨_,g.sq,r2.length.symm⟩,k _ H (Same.refl H) (.int _)⟩
 ·cases e;obtain⟨v,rfl,r1⟩:=r.one_inv;obtain⟨p,ys,rfl,g,r2⟩:=r1.tup_inv;exact⟨_,_,rfl,.inr ⟨_,g.sq,r2.length.symm⟩,k _ H (Same.refl H) (.int _)⟩
 ·obtain⟨hz,rfl⟩:=bP e;obtain⟨v,rfl,r1⟩:=r.one_inv;obtain rfl:=r1.str_inv;exact⟨_,_,rfl,⟨hz,rfl⟩,k _ H (Same.refl H) (.int _)⟩
 ·cases e
end
noncomputable def mD (f:D->D->Option Bool):List D->List D->Option Bool
 |[],_=>xa true
 |_::_,[]=>xa true
 |x::xs,y::ys=>(f x y).bind fun b=>(mD f xs ys).map fun c=>b&&c
noncomputable def eqS:D->D->Bool
 |.non,.non=>true
 |.bl a,.bl b=>a==b
 |.bl a,.int b=>(if a then 1 else 0)==b
 |.int a,.bl b=>a==(if b then 1 else 0)
 |.int a,.int b=>a==b
 |.str a,.str b=>a==b
 |_,_=>false
noncomputable def eqD:Nat->D->D->Option Bool
 |n+1,.lst xs,.lst ys=>if xs.length=ys.length then mD (eqD n) xs ys else xa false
 |n+1,.tup xs,.tup ys=>(mD (eqD n) xs ys).map fun k=>k&&xs.length==ys.length
 |0,.lst _,.lst _=>xb
 |0,.tup _,.tup _=>xb
 |_,.obj _,_=>xb
 |_,_,.obj _=>xb
 |_,.scr _,_=>xb
 |_,_,.scr _=>xb
 |_,a,b=>xa (eqS a b)
noncomputable def eAt (f:D->D->Option Bool) (xs ys:List D) (j:Nat):Bool:=match xs[j]?,ys[j]? with
 |some x,xa y=>(f x y).getD false
 |_,_=>false
theorem mC:∀ {xs ys:List D}{k:Bool}{j:Nat}{x y:D},mD f xs ys=xa k->xs[j]?=xa x->ys[j]?=xa y->f x y=xa (eAt f xs ys j)
 |[],_,_,_,_,_,_,h,_=>by simp at h
 |_::_,[],_,_,_,_,_,_,h=>by simp at h
 |x'::xs,y'::ys,k,j,x,y,h,h1,h2=>by
  obtain⟨b,e1,e2⟩:=aQ h;cases q:mD f xs ys with
  |none=>rw[q] at e2;cases e2
  |some c=>
   cases j with
   |zero=>
    simp at h1 h2;subst h1 h2;simp[eAt,e1]
   |succ j=>
    simp at h1 h2
    have:=mC q h1 h2
    simpa [eAt] using this
theorem vS:∀ {xs ys:List D}{k:Bool},mD f xs ys=xa k->k=(bj (min xs.length ys.length)).all (eAt f xs ys)
 |[],ys,k,h=>by
  cases h;simp
 |_::_,[],k,h=>by
  cases h;simp
 |x::xs,y::ys,k,h=>by
  obtain⟨b,e1,e2⟩:=aQ h;cases q:mD f xs ys with
  |none=>rw[q] at e2;cases e2
  |some c=>
   rw[q] at e2;cases e2;have ih:=vS q;have em:min (x::xs).length (y::ys).length=min xs.length ys.length+1:=by
    rw[b7,b7];omega
   rw[em,sw,qe,List.all_map];have e0:eAt f (x::xs) (y::ys) 0=b:=by simp[eAt,e1]
   have e3:(eAt f (x::xs) (y::ys)∘Nat.succ)=eAt f xs ys:=by
    funext j
    simp[eAt]
   rw[e0,e3,ih]
theorem dO (n m:Nat) (b:D):eqD n (.obj m) b=xb:=by cases n <;> cases b <;> rfl
theorem dN (n m:Nat) (a:D):eqD n a (.obj m)=xb:=by cases n <;> cases a <;> rfl
theorem dM (n:Nat) (m:List D) (b:D):eqD n (.scr m) b=xb:=by cases n <;> cases b <;> rfl
theorem dL (n:Nat) (m:List D) (a:D):eqD n a (.scr m)=xb:=by cases n <;> cases a <;> rfl
section
variable {X:Cx}{pins:List (af×Obj)}{σ:St}{H:Hp}{s:au}{ok ok':Okk}
theorem eU {A:d8} (h:A.units+(n+1)<fe):A.in1.units+n<fe:=by
 show A.units+1+n<fe;omega
theorem iY (I:Inv X pins σ H s) (h:RL X.K ok H a xs) (g:RT X.K ok' H a ys):False:=by
 obtain⟨_,_,⟨o,n,e,c,_,_⟩,_⟩:=I.list h.sq;obtain⟨_,_,⟨o',e',c',_⟩,_⟩:=I.tuple g.sq;rw[e] at e';cases e';rw[c] at c';exact absurd c' (by decide)
theorem qT (ih:∀ {v:V}{a b:D}{k:Bool},Rep X.K ok H v a->Rep X.K ok' H v b->eqD n a b=xa k->k=true):∀ {vs:List V}{ds es:List D}{k:Bool},Reps X.K ok H vs ds->Reps X.K ok' H vs es->mD (eqD n) ds es=xa k->k=true
 |_,_,_,_,.nil,.nil,h=>by cases h;rfl
 |_,_,_,_,.cons r rs,.cons q qs,h=>by
  obtain⟨b,e1,e2⟩:=aQ h;cases z:mD (eqD n) _ _ with
  |none=>rw[z] at e2;cases e2
  |some c=>
   rw[z] at e2;cases e2;rw[ih r q e1,qT ih rs qs z];rfl
theorem Is (I:Inv X pins σ H s):∀(n:Nat) {v:V}{a b:D}{k:Bool},Rep X.K ok H v a->Rep X.K ok' H v b->eqD n a b=xa k->k=true:=by
 intro n
 induction n with
 |zero=>
  intro v a b k ra rb e;cases ra with
  |lst g r=>cases rb with
   |lst g' r'=>cases e
   |tup g' r'=>exact(iY I g g').elim
   |obj _=>rw[dN] at e;cases e
   |scr _ _=>rw[dL] at e;cases e
  |tup g r=>cases rb with
   |tup g' r'=>cases e
   |lst g' r'=>exact(iY I g' g).elim
   |obj _=>rw[dN] at e;cases e
   |scr _ _=>rw[dL] at e;cases e
  |obj _=>rw[dO] at e;cases e
  |scr _ _=>rw[dM] at e;cases e
  |_=>cases rb;cases e;simp[eqS]
 |succ n ih=>
  intro v a b k ra rb e;cases ra with
  |@lst p xs ds g r=>cases rb with
   |@lst _ xs' ds' g' r'=>
    obtain rfl:=I.list_inj g.sq g'.sq;have e':(if ds.length=ds'.length then mD (eqD n) ds ds' else xa false)=xa k:=e;rw[if_pos (by rw[<- r.length,<- r'.length])] at e';exact qT ih r r' e'
   |tup g' r'=>exact(iY I g g').elim
   |obj _=>rw[dN] at e;cases e
   |scr _ _=>rw[dL] at e;cases e
  |@tup p xs ds g r=>cases rb with
   |@tup _ xs' ds' g' r'=>
    obtain rfl:=I.tuple_inj g.sq g'.sq;have e':((mD (eqD n) ds ds').map fun k=>k&&ds.length==ds'.length)=xa k:=e;have hl:ds.length=ds'.length:=by rw[<- r.length,<- r'.length]
    cases q:mD (eqD n) ds ds' with
    |none=>rw[q] at e';cases e'
    |some c=>
     rw[q] at e';cases e';rw[qT ih r r' q,hl];simp
   |lst g' r'=>exact(iY I g' g).elim
   |obj _=>rw[dN] at e;cases e
   |scr _ _=>rw[dL] at e;cases e
  |obj _=>rw[dO] at e;cases e
  |scr _ _=>rw[dM] at e;cases e
  |_=>cases rb;cases e;simp[eqS]
theorem qV (ih:∀ {v:V}{a b c:D}{k k':Bool},Rep X.K ok H v a->Rep X.K ok' H v b->eqD n a c=xa k->eqD n b c=xa k'->k=k'):∀ {vs:List V}{ds es as:List D}{k k':Bool},Reps X.K ok H vs ds->Reps X.K ok' H vs es->mD (eqD n) ds as=xa k->mD (eqD n) es as=xa k'->k=k'
 |_,_,_,_,_,_,.nil,.nil,h,h'=>by cases h;cases h';rfl
 |_,_,_,[],_,_,.cons r rs,.cons q qs,h,h'=>by cases h;cases h';rfl
 |_,_,_,a::as,_,_,.cons r rs,.cons q qs,h,h'=>by
  obtain⟨b,e1,e2⟩:=aQ h;obtain⟨b',e1',e2'⟩:=aQ h';cases z:mD (eqD n) _ as with
  |none=>rw[z] at e2;cases e2
  |some c=>
   rw[z] at e2;cases e2;cases z':mD (eqD n) _ as with
   |none=>rw[z'] at e2';cases e2'
   |some c'=>
    rw[z'] at e2';cases e2';rw[ih r q e1 e1',qV ih rs qs z z']
theorem Iv (I:Inv X pins σ H s):∀(n:Nat) {v:V}{a b c:D}{k k':Bool},Rep X.K ok H v a->Rep X.K ok' H v b->eqD n a c=xa k->eqD n b c=xa k'->k=k':=by
 intro n
 induction n with
 |zero=>
  intro v a b c k k' ra rb e e';cases ra with
  |lst g r=>cases rb with
   |lst g' r'=>cases c <;> first|(cases e;done)|(cases e;cases e';rfl)
   |tup g' r'=>exact(iY I g g').elim
   |obj _=>rw[dO] at e';cases e'
   |scr _ _=>rw[dM] at e';cases e'
  |tup g r=>cases rb with
   |tup g' r'=>cases c <;> first|(cases e;done)|(cases e;cases e';rfl)
   |lst g' r'=>exact(iY I g' g).elim
   |obj _=>rw[dO] at e';cases e'
   |scr _ _=>rw[dM] at e';cases e'
  |obj _=>rw[dO] at e;cases e
  |scr _ _=>rw[dM] at e;cases e
  |_=>cases rb;rw[e] at e';cases e';rfl
 |succ n ih=>
  intro v a b c k k' ra rb e e';cases ra with
  |@lst p xs ds g r=>cases rb with
   |@lst _ xs' ds' g' r'=>
    obtain rfl:=I.list_inj g.sq g'.sq;have hl:ds.length=ds'.length:=by rw[<- r.length,<- r'.length]
    cases c with
    |lst cs=>
     have e1:(if ds.length=cs.length then mD (eqD n) ds cs else xa false)=xa k:=e;have e2:(if ds'.length=cs.length then mD (eqD n) ds' cs else xa false)=xa k':=e';rw[<- hl] at e2
     by_cases z:ds.length=cs.length
     ·rw[if_pos z] at e1 e2;exact qV ih r r' e1 e2
     ·rw[if_neg z] at e1 e2;cases e1;cases e2;rfl
    |_=>first|(cases e;done)|(cases e;cases e';rfl)
   |tup g' r'=>exact(iY I g g').elim
   |obj _=>rw[dO] at e';cases e'
   |scr _ _=>rw[dM] at e';cases e'
  |@tup p xs ds g r=>cases rb with
   |@tup _ xs' ds' g' r'=>
    obtain rfl:=I.tuple_inj g.sq g'.sq;have hl:ds.length=ds'.length:=by rw[<- r.length,<- r'.length]
    cases c with
    |tup cs=>
     have e1:((mD (eqD n) ds cs).map fun k=>k&&ds.length==cs.length)=xa k:=e;have e2:((mD (eqD n) ds' cs).map fun k=>k&&ds'.length==cs.length)=xa k':=e';rw[<- hl] at e2;cases q:mD (eqD n) ds cs with
     |none=>rw[q] at e1;cases e1
     |some x=>
      cases q':mD (eqD n) ds' cs with
      |none=>rw[q'] at e2;cases e2
      |some x'=>
       rw[q] at e1;rw[q'] at e2;cases e1;cases e2;rw[qV ih r r' q q']
    |_=>first|(cases e;done)|(cases e;cases e';rfl)
   |lst g' r'=>exact(iY I g' g).elim
   |obj _=>rw[dO] at e';cases e'
   |scr _ _=>rw[dM] at e';cases e'
  |obj _=>rw[dO] at e;cases e
  |scr _ _=>rw[dM] at e;cases e
  |_=>cases rb;rw[e] at e';cases e';rfl
theorem AC (I:Inv X pins σ H s) (n:Nat) (ra:Rep X.K ok H x a) (rb:Rep X.K ok' H y b) (rv:RelV x v) (ru:RelV y u) (e:eqD n a b=xa k) (hrc:SeqAt.RcAt A s v u k):wb A s v u k:=by
 by_cases hs:v=u
 ·subst hs;obtain rfl:=rv.inj ru;rw[Is I n ra rb e];exact SeqAt.EqAt.same v
 ·intro prog w E Q hq;unfold eqBool;refine iz ?_;refine wpAny_ite_split (fun hab=>absurd (eq_of_beq hab) hs) (fun _=> ?_);cases ra with
  |non=>cases rv;exact ae (hrc prog w E _ (dy hq))
  |bl b=>cases rv;exact ae (hrc prog w E _ (dy hq))
  |int i=>obtain⟨t,rfl⟩:=rv;exact ae (hrc prog w E _ (dy hq))
  |str z=>obtain⟨t,rfl⟩:=rv;exact ae (hrc prog w E _ (dy hq))
  |lst _ _=>cases rv;exact ae (hrc prog w E _ (dy hq))
  |tup _ _=>cases rv;exact ae (hrc prog w E _ (dy hq))
  |obj _=>rw[dO] at e;cases e
  |scr _ _=>rw[dM] at e;cases e
theorem both {P Q R:Prop} (h:P) (f:P->Q) (g:P->R):Q/\R:=⟨f h,g h⟩
theorem Ef (I:Inv X pins σ H s) (n:Nat):∀ {A:d8}{a b:D}{x y:V}{v u:ag}{k:Bool},Rep X.K ok H x a->Rep X.K ok' H y b->RelV x v->RelV y u->eqD n a b=xa k->A.units+n<fe->SeqAt.RcAt A s v u k/\SeqAt.RcNeAt A s v u (!k):=by
 induction n using Nat.strongRecOn with
 |_ n ih=>
  intro A a b x y v u k ra rb rv ru e hu;have hu0:A.units<fe:=by omega
  cases ra with
  |non=>
   cases rv;cases rb with
   |non=>cases ru;cases n <;> cases e <;> exact⟨.none_none,.none_none⟩
   |obj _=>rw[dN] at e;cases e
   |scr _ _=>rw[dL] at e;cases e
   |bl b=>cases ru;cases n <;> cases e <;> exact⟨.none_bool b,.none_bool b⟩
   |int b=>obtain⟨t,rfl⟩:=ru;cases n <;> cases e <;> exact⟨.none_int b t,.none_int b t⟩
   |str b=>obtain⟨t,rfl⟩:=ru;cases n <;> cases e <;> exact⟨.none_str b t,.none_str b t⟩
   |lst g r=>cases ru;obtain⟨its,_,pl,_⟩:=I.list g.sq;cases n <;> cases e <;> exact⟨.none_list pl.isList hu0,.none_list pl.isList hu0⟩
   |tup g r=>cases ru;obtain⟨its,_,pl,_⟩:=I.tuple g.sq;cases n <;> cases e <;> exact⟨.none_tuple pl hu0,.none_tuple pl hu0⟩
  |bl a=>
   cases rv;cases rb with
   |non=>cases ru;cases n <;> cases e <;> exact⟨.bool_none a,.bool_none a⟩
   |obj _=>rw[dN] at e;cases e
   |scr _ _=>rw[dL] at e;cases e
   |bl b=>cases ru;cases n <;> cases e <;> exact⟨.bool_bool a b,.bool_bool a b⟩
   |int b=>obtain⟨t,rfl⟩:=ru;cases n <;> cases e <;> exact⟨.bool_int a b t,.bool_int a b t⟩
   |str b=>obtain⟨t,rfl⟩:=ru;cases n <;> cases e <;> exact⟨.bool_str a b t,.bool_str a b t⟩
   |lst g r=>cases ru;obtain⟨its,_,pl,_⟩:=I.list g.sq;cases n <;> cases e <;> exact⟨.bool_list a pl.isList hu0,.bool_list a pl.isList hu0⟩
   |tup g r=>cases ru;obtain⟨its,_,pl,_⟩:=I.tuple g.sq;cases n <;> cases e <;> exact⟨.bool_tuple a pl hu0,.bool_tuple a pl hu0⟩
  |int a=>
   obtain⟨t',rfl⟩:=rv;cases rb with
   |non=>cases ru;cases n <;> cases e <;> exact⟨.int_none a t',.int_none a t'⟩
   |obj _=>rw[dN] at e;cases e
   |scr _ _=>rw[dL] at e;cases e
   |bl b=>cases ru;cases n <;> cases e <;> exact⟨.int_bool a t' b,.int_bool a t' b⟩
   |int b=>obtain⟨t,rfl⟩:=ru;cases n <;> cases e <;> exact⟨.int_int a t' b t,.int_int a t' b t⟩
   |str b=>obtain⟨t,rfl⟩:=ru;cases n <;> cases e <;> exact⟨.int_str a t' b t,.int_str a t' b t⟩
   |lst g r=>cases ru;obtain⟨its,_,pl,_⟩:=I.list g.sq;cases n <;> cases e <;> exact⟨.int_list a t' pl.isList hu0,.int_list a t' pl.isList hu0⟩
   |tup g r=>cases ru;obtain⟨its,_,pl,_⟩:=I.tuple g.sq;cases n <;> cases e <;> exact⟨.int_tuple a t' pl hu0,.int_tuple a t' pl hu0⟩
  |str a=>
   obtain⟨t',rfl⟩:=rv;cases rb with
   |non=>cases ru;cases n <;> cases e <;> exact⟨.str_none a t',.str_none a t'⟩
   |obj _=>rw[dN] at e;cases e
   |scr _ _=>rw[dL] at e;cases e
   |bl b=>cases ru;cases n <;> cases e <;> exact⟨.str_bool a t' b,.str_bool a t' b⟩
   |int b=>obtain⟨t,rfl⟩:=ru;cases n <;> cases e <;> exact⟨.str_int a t' b t,.str_int a t' b t⟩
   |str b=>obtain⟨t,rfl⟩:=ru;cases n <;> cases e <;> exact⟨.str_str a t' b t,.str_str a t' b t⟩
   |lst g r=>cases ru;obtain⟨its,_,pl,_⟩:=I.list g.sq;cases n <;> cases e <;> exact⟨.str_list a t' pl.isList hu0,.str_list a t' pl.isList hu0⟩
   |tup g r=>cases ru;obtain⟨its,_,pl,_⟩:=I.tuple g.sq;cases n <;> cases e <;> exact⟨.str_tuple a t' pl hu0,.str_tuple a t' pl hu0⟩
  |obj _=>rw[dO] at e;cases e
  |scr _ _=>rw[dM] at e;cases e
  |@lst p xs ds g r=>
   cases rv;obtain⟨its,rr,pl,_⟩:=I.list g.sq;cases rb with
   |non=>cases ru;cases n <;> cases e <;> exact⟨.list_none pl.isList hu0,.list_none pl.isList hu0⟩
   |obj _=>rw[dN] at e;cases e
   |scr _ _=>rw[dL] at e;cases e
   |bl b=>cases ru;cases n <;> cases e <;> exact⟨.list_bool b pl.isList hu0,.list_bool b pl.isList hu0⟩
   |int b=>obtain⟨t,rfl⟩:=ru;cases n <;> cases e <;> exact⟨.list_int b t pl.isList hu0,.list_int b t pl.isList hu0⟩
   |str b=>obtain⟨t,rfl⟩:=ru;cases n <;> cases e <;> exact⟨.list_str b t pl.isList hu0,.list_str b t pl.isList hu0⟩
   |tup g' r'=>cases ru;obtain⟨its',_,pl',_⟩:=I.tuple g'.sq;cases n <;> cases e <;> exact⟨.list_tuple pl.isList pl' hu0,.list_tuple pl.isList pl' hu0⟩
   |@lst p' xs' ds' g' r'=>
    cases ru;obtain⟨its',rr',pl',_⟩:=I.list g'.sq;have l1:its.toArray.size=ds.length:=by rw[bi,<- rr.length,r.length]
    have l2:its'.toArray.size=ds'.length:=by rw[bi,<- rr'.length,r'.length]
    cases n with
    |zero=>cases e
    |succ n=>
     have e':(if ds.length=ds'.length then mD (eqD n) ds ds' else xa false)=xa k:=e
     by_cases hl:ds.length=ds'.length
     ·rw[if_pos hl] at e';have hk:k=(bj its.toArray.size).all (eAt (eqD n) ds ds'):=by
       rw[vS e',l1,<- hl,jk]
      rw[hk];have z:=l1.trans (hl.trans l2.symm);refine both ?_ (SeqAt.RcAt.lists pl.isList pl'.isList z hu0) (SeqAt.RcNeAt.lists pl.isList pl'.isList z hu0);intro j h1 h2;obtain⟨d,hd,rd⟩:=r.getV (i:=j) (v:=xs[j]'(by rw[r.length,<- l1];exact h1)) (by simp);obtain⟨d',hd',rd'⟩:=r'.getV (i:=j) (v:=xs'[j]'(by rw[r'.length,<- l2];exact h2)) (by simp);obtain⟨w,hw,rw1⟩:=rr.get (i:=j) (x:=xs[j]'(by rw[r.length,<- l1];exact h1)) (by simp);obtain⟨w',hw',rw2⟩:=rr'.get (i:=j) (x:=xs'[j]'(by rw[r'.length,<- l2];exact h2)) (by simp);have ew:its.toArray[j]=w:=by
       obtain⟨_,q⟩:=bt.mp hw;simpa using q
      have ew':its'.toArray[j]=w':=by
       obtain⟨_,q⟩:=bt.mp hw';simpa using q
      rw[ew,ew'];exact AC I n rd rd' rw1 rw2 (mC e' hd hd') ((ih n (oj n) rd rd' rw1 rw2 (mC e' hd hd') (eU hu)).1)
     ·rw[if_neg hl] at e';cases e';have z:(its.toArray.size !=its'.toArray.size)=true:=by rw[l1,l2];simpa using hl
      exact⟨.lists_lengths pl.isList pl'.isList z hu0,.lists_lengths pl.isList pl'.isList z hu0⟩
  |@tup p xs ds g r=>
   cases rv;obtain⟨its,rr,pl,_⟩:=I.tuple g.sq;cases rb with
   |non=>cases ru;cases n <;> cases e <;> exact⟨.tuple_none pl hu0,.tuple_none pl hu0⟩
   |obj _=>rw[dN] at e;cases e
   |scr _ _=>rw[dL] at e;cases e
   |bl b=>cases ru;cases n <;> cases e <;> exact⟨.tuple_bool b pl hu0,.tuple_bool b pl hu0⟩
   |int b=>obtain⟨t,rfl⟩:=ru;cases n <;> cases e <;> exact⟨.tuple_int b t pl hu0,.tuple_int b t pl hu0⟩
   |str b=>obtain⟨t,rfl⟩:=ru;cases n <;> cases e <;> exact⟨.tuple_str b t pl hu0,.tuple_str b t pl hu0⟩
   |lst g' r'=>cases ru;obtain⟨its',_,pl',_⟩:=I.list g'.sq;cases n <;> cases e <;> exact⟨.tuple_list pl pl'.isList hu0,.tuple_list pl pl'.isList hu0⟩
   |@tup p' xs' ds' g' r'=>
    cases ru;obtain⟨its',rr',pl',_⟩:=I.tuple g'.sq;have l1:its.toArray.size=ds.length:=by rw[bi,<- rr.length,r.length]
    have l2:its'.toArray.size=ds'.length:=by rw[bi,<- rr'.length,r'.length]
    cases n with
    |zero=>cases e
    |succ n=>
     have e':((mD (eqD n) ds ds').map fun k=>k&&ds.length==ds'.length)=xa k:=e;cases q:mD (eqD n) ds ds' with
     |none=>rw[q] at e';cases e'
     |some c=>
      rw[q] at e';cases e';have hk:(c&&ds.length==ds'.length)=((bj (min its.toArray.size its'.toArray.size)).all (eAt (eqD n) ds ds')&&its.toArray.size==its'.toArray.size):=by
       rw[vS q,l1,l2]
      dsimp only;rw[hk];refine both ?_ (SeqAt.RcAt.tuples pl pl' hu0) (SeqAt.RcNeAt.tuples pl pl' hu0);intro j h1 h2;obtain⟨d,hd,rd⟩:=r.getV (i:=j) (v:=xs[j]'(by rw[r.length,<- l1];exact h1)) (by simp);obtain⟨d',hd',rd'⟩:=r'.getV (i:=j) (v:=xs'[j]'(by rw[r'.length,<- l2];exact h2)) (by simp);obtain⟨w,hw,rw1⟩:=rr.get (i:=j) (x:=xs[j]'(by rw[r.length,<- l1];exact h1)) (by simp);obtain⟨w',hw',rw2⟩:=rr'.get (i:=j) (x:=xs'[j]'(by rw[r'.length,<- l2];exact h2)) (by simp);have ew:its.toArray[j]=w:=by
       obtain⟨_,q⟩:=bt.mp hw;simpa using q
      have ew':its'.toArray[j]=w':=by
       obtain⟨_,q⟩:=bt.mp hw';simpa using q
      rw[ew,ew'];exact AC I n rd rd' rw1 rw2 (mC q hd hd') ((ih n (oj n) rd rd' rw1 rw2 (mC q hd hd') (eU hu)).1)
theorem yM (I:Inv X pins σ H s) (n:Nat) (ra:Rep X.K ok H x a) (rb:Rep X.K ok' H y b) (rv:RelV x v) (ru:RelV y u) (e:eqD n a b=xa k) (hu:A.units+n<fe):wb A s v u k:=
 AC I n ra rb rv ru e (Ef I n ra rb rv ru e hu).1
end
section
variable {X:Cx}{pins:List (af×Obj)}{σ:St}{H:Hp}{s:au}{ok ok':Okk}
end
noncomputable def QV (K:aa) (n:Nat):R2:=fun x y H Q=>∃ ok a b k,Rep K ok H x a/\Rep K ok H y b/\eqD n a b=xa k/\Q (.bl k) H
noncomputable def PM (K:aa) (n:Nat):R2:=fun x y H Q=>∃ ok a b k,Rep K ok H x a/\Rep K ok H y b/\eqD n a b=xa k/\Q (.bl (!k)) H
noncomputable def gEq (n:Nat) (a b:D):Option D:=(eqD n a b).map D.bl
noncomputable def gNe (n:Nat) (a b:D):Option D:=(eqD n a b).map fun k=>D.bl (!k)
theorem aI {f:α->β} (h:o.map f=xa b):∃ a,o=xa a/\f a=b:=by
 cases o with
 |none=>cases h
 |some a=>exact⟨a,rfl,cf h⟩
abbrev IY (X:Cx) (n:Nat):Prop:=X.A.units+n<fe
section
variable {X:Cx}{e a b c:bw}{es:List bw}{f fa fb fc:DF}{fl:DL}{pos:Pos}
theorem NE (hu:IY X n):OpR X (fx .Eq) (QV X.K n):=by
 intro pins s σ H x y v u Q I rx ry h;obtain⟨ok,a,b,k,ra,rb,e,q⟩:=h;exact(Ef I n ra rb rx ry e hu).1 X.prog X.w X.xe _ ⟨.bl k,H,I,rfl,q⟩
theorem Jk (hu:IY X n):OpR X (fx .NotEq) (PM X.K n):=by
 intro pins s σ H x y v u Q I rx ry h;obtain⟨ok,a,b,k,ra,rb,e,q⟩:=h;exact(Ef I n ra rb rx ry e hu).2 X.prog X.w X.xe _ ⟨.bl (!k),H,I,rfl,q⟩
noncomputable def isN:D->Bool
 |.non=>true
 |_=>false
noncomputable def Lz (a b:D):Option D:=match b with
 |.non=>xa (.bl (!isN a))
 |_=>xb
theorem Oo {K:aa} (h:Rep K ok H v d):decide (v=.non)=isN d:=by
 cases h <;> simp[isN]
theorem Im {K:aa}:Fit2 K (fun x y H Q=>y=.non/\Q (.bl (!decide (x=.non))) H) Lz:=fun ok H x y a b d Q h1 ra rb e k=>by
 cases b with
 |non=>
  cases e;refine⟨rb.non_inv,?_⟩;rw[Oo ra];exact k _ H (Same.refl H) (.bl _)
 |_=>cases e
noncomputable def inO (f:D->Option Bool):List D->Option Bool
 |[]=>xa false
 |x::xs=>(f x).bind fun b=>(inO f xs).map fun c=>b||c
noncomputable def inD (n:Nat) (a b:D):Option Bool:=match b with
 |.lst ds=>inO (fun d=>eqD n d a) ds
 |.tup ds=>inO (fun d=>eqD n d a) ds
 |_=>xb
noncomputable def zF (K:aa) (ok:Okk) (H:Hp) (n:Nat) (a:D) (u:ag):Bool:=
 @decide (∃ x d,RelV x u/\Rep K ok H x d/\eqD n d a=xa true) (ki _)
theorem IS {a d:D} (I:Inv X pins σ H s) (r:RelV x u) (q:Rep X.K ok H x d) (e:eqD n d a=xa k):zF X.K ok H n a u=k:=by
 unfold zF;cases k with
 |true=>exact @decide_eq_true _ (ki _) ⟨x,d,r,q,e⟩
 |false=>
  refine @decide_eq_false _ (ki _) ?_
  rintro⟨x',d',r',q',e'⟩
  obtain rfl:=r.inj r';exact nomatch Iv I n q q' e e'
theorem pP {a:D} (I:Inv X pins σ H s):∀ {xs:List V}{us:List ag}{ds:List D}{k:Bool},Vals xs us->Reps X.K ok H xs ds->inO (fun d=>eqD n d a) ds=xa k->
  us.any (zF X.K ok H n a)=k/\∀ u∈us,∃ x d,RelV x u/\Rep X.K ok H x d/\eqD n d a=xa (zF X.K ok H n a u)
 |_,_,_,_,.nil,.nil,h=>by
  cases h;exact⟨rfl,fun u hu=>by cases hu⟩
 |_,_,_,k,.cons r rs,.cons q qs,h=>by
  obtain⟨b,e1,e2⟩:=aQ h;obtain⟨c,e3,rfl⟩:=aI e2;obtain⟨h1,h2⟩:=pP I rs qs e3;have hb:=IS I r q e1;refine⟨by rw[lu,hb,h1],fun u hu=> ?_⟩;rcases aj.mp hu with rfl|hu
  ·exact⟨_,_,r,q,by rw[hb];exact e1⟩
  ·exact h2 u hu
noncomputable def QU (K:aa) (n:Nat):R2:=fun x y H Q=>∃ ok a b k,Rep K ok H x a/\Rep K ok H y b/\inD n a b=xa k/\Q (.bl k) H
noncomputable def Ei (K:aa) (n:Nat):R2:=fun x y H Q=>∃ ok a b k,Rep K ok H x a/\Rep K ok H y b/\inD n a b=xa k/\Q (.bl (!k)) H
theorem NC (hu:IY X (n+1)):OpR X (fx .In) (QU X.K n):=by
 intro pins s σ H x y v u Q I rx ry h;obtain⟨ok,a,b,k,ra,rb,e,q⟩:=h;cases rb with
 |lst g r=>
  cases ry;obtain⟨its,rr,pl,_⟩:=I.list g.sq;obtain⟨h1,h2⟩:=pP I rr r e;refine SeqAt.in_listAt (zF X.K ok H n a) pl.isList (fun w hw=> ?_) ⟨.bl k,H,I,?_,q⟩
  ·obtain⟨x',d',r',q',e'⟩:=h2 w (by simpa using hw);exact yM I n q' ra r' rx e' (eU hu)
  ·rw[<- h1];simp[RelV]
 |tup g r=>
  cases ry;obtain⟨its,rr,pl,_⟩:=I.tuple g.sq;obtain⟨h1,h2⟩:=pP I rr r e;refine SeqAt.in_tupleAt (zF X.K ok H n a) pl (fun w hw=> ?_) ⟨.bl k,H,I,?_,q⟩
  ·obtain⟨x',d',r',q',e'⟩:=h2 w (by simpa using hw);exact yM I n q' ra r' rx e' (eU hu)
  ·rw[<- h1];simp[RelV]
 |_=>cases e
theorem Ey (hu:IY X (n+1)):OpR X (fx .NotIn) (Ei X.K n):=by
 intro pins s σ H x y v u Q I rx ry h;obtain⟨ok,a,b,k,ra,rb,e,q⟩:=h;cases rb with
 |lst g r=>
  cases ry;obtain⟨its,rr,pl,_⟩:=I.list g.sq;obtain⟨h1,h2⟩:=pP I rr r e;refine SeqAt.notIn_listAt (zF X.K ok H n a) pl.isList (fun w hw=> ?_) ⟨.bl (!k),H,I,?_,q⟩
  ·obtain⟨x',d',r',q',e'⟩:=h2 w (by simpa using hw);exact yM I n q' ra r' rx e' (eU hu)
  ·rw[<- h1];simp[RelV]
 |tup g r=>
  cases ry;obtain⟨its,rr,pl,_⟩:=I.tuple g.sq;obtain⟨h1,h2⟩:=pP I rr r e;refine SeqAt.notIn_tupleAt (zF X.K ok H n a) pl (fun w hw=> ?_) ⟨.bl (!k),H,I,?_,q⟩
  ·obtain⟨x',d',r',q',e'⟩:=h2 w (by simpa using hw);exact yM I n q' ra r' rx e' (eU hu)
  ·rw[<- h1];simp[RelV]
 |_=>cases e
noncomputable def gIn (n:Nat) (a b:D):Option D:=(inD n a b).map D.bl
noncomputable def BZ (n:Nat) (a b:D):Option D:=(inD n a b).map fun k=>D.bl (!k)
theorem Oy {K:aa}:Fit2 K (QU K n) (gIn n):=fun ok H x y a b d Q h1 ra rb e k=>by
 obtain⟨c,e1,rfl⟩:=aI e;exact⟨ok,a,b,c,ra,rb,e1,k _ H (Same.refl H) (.bl _)⟩
theorem FB {K:aa}:Fit2 K (Ei K n) (BZ n):=fun ok H x y a b d Q h1 ra rb e k=>by
 obtain⟨c,e1,rfl⟩:=aI e;exact⟨ok,a,b,c,ra,rb,e1,k _ H (Same.refl H) (.bl _)⟩
noncomputable def tyD:D->String
 |.non=>"NoneType"
 |.bl _=>"bool"
 |.int _=>"int"
 |.str _=>"str"
 |.lst _=>"list"
 |.tup _=>"tuple"
 |.obj _=>"object"
 |.scr _=>"object"
noncomputable def Qq:D->Bool
 |.obj _=>true
 |.scr _=>true
 |_=>false
noncomputable def Mm (T:String) (d:D):Option Bool:=
 if Qq d=true then xb else if T="int" then xa (match d with|.int _=>true|.bl _=>true|_=>false)
 else if T="bool" then xa (match d with|.bl _=>true|_=>false)
 else if T="str" then xa (match d with|.str _=>true|_=>false)
 else if T="list" then xa (match d with|.lst _=>true|_=>false)
 else if T="tuple" then xa (match d with|.tup _=>true|_=>false)
 else if T="dict" then xa false
 else xb
theorem Le {K:aa} (h:Mm T d=xa k):PySem.W.kitOne K (.type (tyD d)) (.type T)=xa k:=by
 unfold Mm at h;split at h
 ·cases h
 rename_i hob
 split at h
 ·subst_vars;cases h;cases d <;> first|rfl|exact absurd rfl hob
 ·split at h
  ·subst_vars;cases h;cases d <;> first|rfl|exact absurd rfl hob
  ·split at h
   ·subst_vars;cases h;cases d <;> first|rfl|exact absurd rfl hob
   ·split at h
    ·subst_vars;cases h;cases d <;> first|rfl|exact absurd rfl hob
    ·split at h
     ·subst_vars;cases h;cases d <;> first|rfl|exact absurd rfl hob
     ·split at h
      ·subst_vars;cases h;cases d <;> first|rfl|exact absurd rfl hob
      ·cases h
def Rv (K:aa):List V->Hp->VK->Prop:=fun xs H Q=>∃ x T d ok k,xs=[x,.ty T]/\Rep K ok H x d/\Mm T d=xa k/\Q (.bl k) H
theorem IN:CallR X (.builtin "isinstance") (Rv X.K):=by
 intro pins s σ H xs us Q I r h;obtain⟨x,T,d,ok,k,rfl,q,e,hq⟩:=h;obtain⟨u,w',rfl,ru,rw'⟩:=GB r;cases rw';have fin:∀ tk,EP X pins σ Q (.bool k) { s with toks:=tk }:=fun tk=>⟨.bl k,H,I.tok _,rfl,hq⟩;have ek:=Le (K:=X.K) e;cases q with
 |non=>cases ru;exact ky PySem.W.kitx_none I.kIn ij ek (fun z=>nomatch z) fin
 |bl b=>cases ru;exact ky PySem.W.kitx_bool I.kIn ij ek (fun z=>nomatch z) fin
 |int i=>obtain⟨t,rfl⟩:=ru;exact ky PySem.W.kitx_int I.kIn ij ek (fun z=>nomatch z) fin
 |str z=>obtain⟨t,rfl⟩:=ru;exact ky PySem.W.kitx_str I.kIn ij ek (fun z=>nomatch z) fin
 |lst g r=>
  cases ru;obtain⟨its,_,⟨o,n,e1,c1,_,_⟩,_⟩:=I.list g.sq;exact ky PySem.W.kitx_list I.kIn ⟨o,e1,c1⟩ ek (fun z=>nomatch z) fin
 |tup g r=>
  cases ru;obtain⟨its,_,⟨o,e1,c1,_⟩,_⟩:=I.tuple g.sq;exact ky PySem.W.kitx_tuple I.kIn ⟨o,e1,c1⟩ ek (fun z=>nomatch z) fin
 |obj _=>exact nomatch e
 |scr _ _=>exact nomatch e
end
local macro_rules| `(tactic|walk_at "adr")=> `(tactic|((try unfold af at*);omega))
noncomputable def tX (env:Env):List (Str×ia)->List (Str×af)->List (Str×af)
 |[],acc=>acc
 |(n,k)::r,acc=>if k== .free then tX env r ((n,(env.cells.lookup n).getD 0)::acc) else tX env r acc
theorem vI (f:Str×ia->List (Str×af)->Sem (ForInStep (List (Str×af))))
  (hf:∀ name kind cs,f (name,kind) cs=if kind== .free then(do let c <- cellOf env name;pure (.yield ((name,c)::cs))) else pure (.yield cs)):
  ∀(names:List (Str×ia)) (acc:List (Str×af)),(∀ y∈names,y.2=.free->∃ c,env.cells.lookup y.1=xa c)->(forIn names acc f:Sem _)=pure (tX env names acc)
 |[],acc,_=>by rw[wq];rfl
 |(n,k)::r,acc,h=>by
  rw[List.forIn_cons,hf];have hr:∀ y∈r,y.2=.free->∃ c,env.cells.lookup y.1=xa c:=fun y hy=>h y (ai _ hy);unfold tX
  by_cases hk:(k==hV)=true
  ·rw[if_pos hk,if_pos hk];obtain⟨c,hc⟩:=h (n,k) aq (by simpa using hk);have e:(cellOf env n:Sem af)=pure c:=by unfold cellOf;rw[hc]
   rw[e,hc];simp only[pure_bind,Option.getD_some];exact vI f hf r _ hr
  ·rw[if_neg hk,if_neg hk];simp only[pure_bind];exact vI f hf r _ hr
theorem tW (h:∀ y∈scope.names,y.2=.free->∃ c,env.cells.lookup y.1=xa c):closureFor scope env=pure (tX env scope.names []):=by
 simp only[closureFor];rw[vI (env:=env) _ (fun name kind cs=>by cases hk:kind==hV <;> simp[hk]) scope.names [] h];rfl
theorem oE:∀ {names:List (Str×ia)}{acc:List (Str×af)}{c:af},(tX env names acc).lookup x=xa c->acc.lookup x=xa c∨((x,hV)∈names/\c=(env.cells.lookup x).getD 0)
 |[],acc,c,h=>.inl h
 |(n,k)::r,acc,c,h=>by
  unfold tX at h
  by_cases hk:(k==hV)=true
  ·rw[if_pos hk] at h;rcases oE h with q|⟨q1,q2⟩
   ·rw[gk] at q;cases hx:x==n with
    |true=>
     rw[hx] at q;obtain rfl:x=n:=by simpa using hx
     have hk':k=.free:=by simpa using hk
     subst hk';exact .inr ⟨aq,by cases q;rfl⟩
    |false=>
     rw[hx] at q;exact .inl q
   ·exact .inr ⟨ai _ q1,q2⟩
  ·rw[if_neg hk] at h;rcases oE h with q|⟨q1,q2⟩
   ·exact .inl q
   ·exact .inr ⟨ai _ q1,q2⟩
theorem qQ:∀ {names:List (Str×ia)}{acc:List (Str×af)},(∃ c,acc.lookup x=xa c)->∃ c,(tX env names acc).lookup x=xa c
 |[],acc,h=>h
 |(n,k)::r,acc,h=>by
  unfold tX;split
  ·refine qQ ?_;rw[gk];cases hx:x==n with
   |true=>exact⟨_,rfl⟩
   |false=>exact h
  ·exact qQ h
theorem vQ:∀ {names:List (Str×ia)}{acc:List (Str×af)},(x,hV)∈names->∃ c,(tX env names acc).lookup x=xa c
 |(n,k)::r,acc,h=>by
  unfold tX;rcases aj.mp h with e|h
  ·cases e;rw[if_pos (by rfl)];exact qQ ⟨_,by rw[gk,beq_self_eq_true]⟩
  ·split
   ·exact vQ h
   ·exact vQ h
theorem fJ:∀ {names:List (Str×ia)}{n:Nat}{acc:List (Str×af)}{c:af},(g8 n names acc).lookup x=xa c->acc.lookup x=xa c∨((x,c5)∈names/\n<=c)
 |[],n,acc,c,h=>.inl h
 |(y,k)::r,n,acc,c,h=>by
  unfold g8 at h
  by_cases hk:(k==c5)=true
  ·rw[if_pos hk] at h;rcases fJ h with q|⟨q1,q2⟩
   ·rw[gk] at q;cases hx:x==y with
    |true=>
     rw[hx] at q;obtain rfl:x=y:=by simpa using hx
     have hk':k=.cell:=by simpa using hk
     subst hk';cases q;exact .inr ⟨aq,bf _⟩
    |false=>
     rw[hx] at q;exact .inl q
   ·exact .inr ⟨ai _ q1,by walk_at "adr"⟩
  ·rw[if_neg hk] at h;rcases fJ h with q|⟨q1,q2⟩
   ·exact .inl q
   ·exact .inr ⟨ai _ q1,q2⟩
theorem iI:∀ {names:List (Str×ia)}{n:Nat}{acc:List (Str×af)},(x,c5)∉names->(g8 n names acc).lookup x=acc.lookup x
 |[],n,acc,_=>rfl
 |(y,k)::r,n,acc,h=>by
  have hr:(x,c5)∉r:=fun z=>h (ai _ z);unfold g8
  by_cases hk:(k==c5)=true
  ·rw[if_pos hk,iI hr,gk];have hk':k=.cell:=by simpa using hk
   subst hk';cases hx:x==y with
   |true=>
    obtain rfl:x=y:=by simpa using hx
    exact absurd aq h
   |false=>rfl
  ·rw[if_neg hk,iI hr]
theorem eT:∀ {names:List (Str×ia)}{n:Nat}{acc:List (Str×af)},(∃ c,acc.lookup x=xa c)->∃ c,(g8 n names acc).lookup x=xa c
 |[],n,acc,h=>h
 |(y,k)::r,n,acc,h=>by
  unfold g8;split
  ·refine eT ?_;rw[gk];cases hx:x==y with
   |true=>exact⟨_,rfl⟩
   |false=>exact h
  ·exact eT h
theorem jH:∀ {names:List (Str×ia)}{n:Nat}{acc:List (Str×af)},(x,c5)∈names->∃ c,(g8 n names acc).lookup x=xa c
 |(y,k)::r,n,acc,h=>by
  unfold g8;rcases aj.mp h with e|h
  ·cases e;rw[if_pos (by rfl)];exact eT ⟨_,by rw[gk,beq_self_eq_true]⟩
  ·split
   ·exact jH h
   ·exact jH h
structure wA (h:c9) (n:Nat) (acc cs:List (Str×af)):Prop where
 cell:∀ x c,(x,c)∈cs->(x,c)∈acc∨(h.IsCell c xb/\n<=c)
 apart:∀ x y c,(x,c)∈cs->(y,c)∈cs->n<=c->x=y
theorem uV:∀(names:List (Str×ia)) (h:c9) (n:Nat) (acc0 acc:List (Str×af)),n<=h.objs.size->wA h n acc0 acc->(∀ x c,(x,c)∈acc->c<h.objs.size)->wA (pushCells h names) n acc0 (g8 h.objs.size names acc)
 |[],h,n,acc0,acc,_,N,_=>N
 |(y,k)::r,h,n,acc0,acc,hn,N,hlt=>by
  unfold pushCells g8;split
  ·have:=uV r (h.push { cls:=.type "cell",data:=.cell xb }) n acc0 ((y,h.objs.size)::acc) (by rw[ik];walk_at "adr")
    ⟨fun x c hm=>by
     rcases aj.mp hm with e|hm
     ·cases e;exact .inr ⟨⟨_,b0 _ rfl,rfl⟩,hn⟩
     ·rcases N.cell x c hm with q|⟨q1,q2⟩
      ·exact .inl q
      ·exact .inr ⟨q1.keeps fun b o e=>bc _ e,q2⟩,
    fun x z c h1 h2 h3=>by
     rcases aj.mp h1 with e1|h1 <;> rcases aj.mp h2 with e2|h2
     ·cases e1;cases e2;rfl
     ·cases e1;exact absurd (hlt z _ h2) (gv _)
     ·cases e2;exact absurd (hlt x _ h1) (gv _)
     ·exact N.apart x z c h1 h2 h3⟩
    (fun x c hm=>by
     rw[ik];rcases aj.mp hm with e|hm
     ·cases e;walk_at "adr"
     ·have:=hlt x c hm;walk_at "adr")
   rw[ik] at this;exact this
  ·exact uV r h n acc0 acc hn N hlt
theorem Hy
  (h:∀ h':c9,(∀ b o,s.heap.get? b=xa o->h'.get? b=xa o)->h'.Ns s.heap.objs.size (fun _=>xb)->wA h' (s.heap.objs.size+1) cl (g8 (s.heap.objs.size+1) scope.names cl)->
   Q { scope:=scope,locals:=s.heap.objs.size,globals:=globals,cells:=g8 (s.heap.objs.size+1) scope.names cl,qual:=qual,func:=xb,code:=env.code,frame:=env.frame,builtins:=env.builtins } { s with heap:=h' })
  (hlt:∀ x c,(x,c)∈cl->c<s.heap.objs.size):az M A (tu scope globals cl [] qual xb .none (xa env)) Q E s:=by
 simp only[tu,u5,if_true];refine ae (wpAny_alloc ?_);refine ae (wpAny_layCells _ (fun name kind cells=>by cases hkc:kind==c5 <;> simp[hkc]) _ _ _ _ ?_);rw[show({ s with heap:=s.heap.push { cls:=.type "dict",data:=.dict #[] } }:au).heap.objs.size=s.heap.objs.size+1 from ik ..];rw[wq];refine ae (ar (ar (h _ (fun b o e=>pushCells_keeps _ _ b o (bc _ e)) ((Heap.Ns.new s.heap (.type "dict")).keeps (pushCells_keeps _ _)) ?_)))
 have:=uV scope.names (s.heap.push { cls:=.type "dict",data:=.dict #[] }) (s.heap.objs.size+1) cl cl (by rw[ik];walk_at "adr")
  ⟨fun x c hm=>.inl hm,fun x y c h1 h2 h3=>absurd (hlt x c h1) (by walk_at "adr")⟩ (fun x c hm=>by rw[ik];have:=hlt x c hm;walk_at "adr")
 rw[ik] at this;exact this
theorem yU (I:Nat->au->Prop)
  (turn:∀ n s,I n s->az (model prog w) A (nu it) (fun r s₁=>match r with
   |none=>R (.ok .next) s₁
   |some v=>az (model prog w) A (o8 target it v) (fun _ s₁'=>az (model prog w) A (assign target env v) (fun _ s₂=>
     az (model prog w) A (forIn ifs true fun c r=>if r=true then do let ok <- isTrue c env (eval c env);pure (pb ok) else pure (pb r)) (fun ok s₃=>
      if ok=true then az (model prog w) A (eval elt env) (fun x s₄=>
       az (model prog w) A (call (.builtin "list.append") [acc,x]) (fun _ s₅=>∃ m,m<n/\I m s₅) (fun _ _=>False) s₄) (fun _ _=>False) s₃
      else ∃ m,m<n/\I m s₃) (fun _ _=>False) s₂) (fun _ _=>False) s₁') (fun _ _=>False) s₁) (fun _ _=>False) s)
  (n:Nat) (h:I n s):oz (model prog w) A (.compLoop (.ListComp elt [⟨target,iter,ifs,0⟩] scope pos) 0 it acc env) R s:=by
 refine codeAny_loop rfl I (fun n s hI=> ?_) n h;show az _ A ((compTurn (.ListComp elt [⟨target,iter,ifs,0⟩] scope pos) 0 it acc env).onRaise (fun x=>do u6 x env;theTreesLotGoes x)) _ _ s;refine wpAny_noted ?_;rw[compTurn_list];refine ae (uh (ae (g9 (turn n s hI) (fun r s₁ h₁=> ?_) fun _ _ h'=>h'.elim)));cases r with
 |none=>exact ar h₁
 |some v=>
  refine ae (g9 h₁ (fun _ s₁' h₁'=> ?_) fun _ _ h'=>h'.elim);refine ae (g9 h₁' (fun _ s₂ h₂=>ae (g9 h₂ (fun ok s₃ h₃=> ?_) fun _ _ h'=>h'.elim)) fun _ _ h'=>h'.elim);cases ok with
  |false=>exact ar ⟨rfl,h₃⟩
  |true=>
   exact ae (ae (g9 h₃ (fun x s₄ h₄=>ae (g9 h₄ (fun _ s₅ h₅=>ar (ar ⟨rfl,h₅⟩)) fun _ _ h'=>h'.elim)) fun _ _ h'=>h'.elim))
noncomputable def blk (X:Cx) (N':List Str) (scope:ke) (cells:List (Str×af)) (C:af) (fp:List af) (pins:List (af×Obj)) (s₀:au) (H₀:Hp):Cx where
 prog:=X.prog
 w:=X.w
 K:=X.K
 mg:=X.mg
 base:=X.base
 A:=X.A
 N:=N'
 s₀:=s₀
 H₀:=H₀
 env:=compEnvC scope cells C X.env
 outer:=X.stack
 stack:=X.stack
 ex:=fp
 fn:=fun x=>scope.names.lookup x==xa .cell
 calm:=X.calm
 pn:=X.pn++pins
 xe:=fun _ _=>False
def Mp (X:Cx) (ifs:List bw) (tt:TT):Prop:=
 ∀(pins:List (af×Obj)) (s:au) (σ:St) (H:Hp) (Q:Bool->Hp->Prop),Inv X pins σ H s->tt σ H Q->
  az (model X.prog X.w) X.A (forIn ifs true fun c r=>if r=true then do let ok <- isTrue c X.env (eval c X.env);pure (pb ok) else pure (pb r)) (TP X pins σ Q) X.xe s
def Rf:TT:=fun _ H Q=>Q true H
theorem Lo:Mp X [] Rf:=fun _ _ _ H _ I h=>wpAny_tests_nil ⟨H,I,h⟩
theorem Ln (h:PT X c tt):Mp X [c] tt:=fun pins s σ H Q I q=>wpAny_tests_one (h pins s σ H Q I q)
noncomputable def Ga (caps:List (Option Nat)) (σ:St):St:=caps.map fun o=>o.bind fun j=>(σ[j]?).join
def Ck (X:Cx) (scope:ke) (N':List Str) (caps:List (Option Nat)):Prop:=
 caps.length=N'.length/\∀(i j:Nat),caps[i]?=xa (xa j)->∃ x,N'[i]?=xa x/\X.N[j]?=xa x/\scope.names.lookup x=xa .free/\(x,c5)∉scope.names/\(X.env.scope.names.lookup x=xa .cell∨X.env.scope.names.lookup x=xa .free)
def JE (wi:TI) (caps:List (Option Nat)) (g:TG) (tt:TT) (te:TE):TE:=fun σ H Q=>wi σ H fun J H1=>∀ D,H1 D=xb->∃ W:Nat->Nat->St->Hp->Prop,(∃ m,W 0 m (Ga caps σ) (upd H1 D (.lst [])))/\
 ∀ i m σ' H,W i m σ' H->(J.stop i H/\Q (.ref D) H)∨(J.go i H/\∀ x H',J.yld i H x H'->g x σ' H' fun σ2 H2=>tt σ2 H2 fun b H3=>
  if b=true then te σ2 H3 fun y H4=>∃ ys m',H4 D=xa (.lst ys)/\ys.length<sizeLine/\m'<m/\W (i+1) m' σ2 (upd H4 D (.lst (ys++[y]))) else ∃ m',m'<m/\W (i+1) m' σ2 H3)
section
variable {X:Cx}{elt iter tg:bw}{ifs:List bw}{scope:ke}{pos:Pos}{N':List Str}{caps:List (Option Nat)}{wi:TI}{g:TG}{tt:TT}{te:TE}
theorem gD (h:(relabel scope env).names.lookup x=xa k):scope.names.lookup x=xa k∨(k=.cell/\scope.names.lookup x=xa .free):=by
 have aux:∀(names:List (Str×ia)),(names.map fun(n,k)=>if(k==hV&&env.scope.kind== .function&&env.kindOf n==xa .cell) then(n,c5) else(n,k)).lookup x=xa k->
   names.lookup x=xa k∨(k=.cell/\names.lookup x=xa .free):=by
  intro names
  induction names with
  |nil=>intro h;cases h
  |cons p r ih=>
   obtain⟨n,kk⟩:=p;intro h;rw[bg] at h
   by_cases hc:(kk==hV&&env.scope.kind== .function&&env.kindOf n==xa .cell)=true
   ·have h':jx x ((n,c5)::(r.map fun(n,k)=>if(k==hV&&env.scope.kind== .function&&env.kindOf n==xa .cell) then(n,c5) else(n,k)))=xa k:=by
     have e:(if(kk==hV&&env.scope.kind== .function&&env.kindOf n==xa .cell)=true then(n,c5) else(n,kk))=(n,c5):=if_pos hc;rw[<- e];exact h
    rw[gk] at h' ⊢;cases hx:x==n with
    |true=>
     rw[hx] at h';cases h';have hk:kk=.free:=by
      rw[br,br] at hc;simpa using hc.1.1
     exact .inr ⟨rfl,by rw[hk]⟩
    |false=>
     rw[hx] at h';exact ih h'
   ·have h':jx x ((n,kk)::(r.map fun(n,k)=>if(k==hV&&env.scope.kind== .function&&env.kindOf n==xa .cell) then(n,c5) else(n,k)))=xa k:=by
     have e:(if(kk==hV&&env.scope.kind== .function&&env.kindOf n==xa .cell)=true then(n,c5) else(n,kk))=(n,kk):=if_neg hc;rw[<- e];exact h
    rw[gk] at h' ⊢;cases hx:x==n with
    |true=>
     rw[hx] at h';exact .inl h'
    |false=>
     rw[hx] at h';exact ih h'
 exact aux scope.names h
theorem dJ {l:List (Str×ia)} (h:l.lookup x=xa k):(x,k)∈l:=gn h
theorem yS {Qn:V->Hp->Prop}{RR:ag->af->Result->au->Prop}
  (hc:X.calm=true) (hkind:scope.kind=.function)
  (hfree:∀ y∈scope.names,y.2=.free->X.env.scope.names.lookup y.1=xa .cell∨X.env.scope.names.lookup y.1=xa .free) (huniq:∀ y∈scope.names,y.2=.free->(y.1,c5)∉scope.names)
  (hcap:Ck X scope N' caps)
  (hb:∀ cells C fp pins s₀ H₀,PG (blk X N' scope cells C fp pins s₀ H₀) tg g/\Mp (blk X N' scope cells C fp pins s₀ H₀) ifs tt/\PE (blk X N' scope cells C fp pins s₀ H₀) elt te)
  (I2:Inv X pins σ H2 s2) (T:Mc X.prog X.w X.K tg J fp it tn) (st2:tn 0 s2.heap) (f2:∀ b∈fp,JA X pins H2 b)
  (q:∀ D,H2 D=xb->∃ W:Nat->Nat->St->Hp->Prop,(∃ m,W 0 m (Ga caps σ) (upd H2 D (.lst [])))/\
   ∀ i m σ' H,W i m σ' H->(J.stop i H/\Qn (.ref D) H)∨(J.go i H/\∀ x H',J.yld i H x H'->g x σ' H' fun σ2 H2=>tt σ2 H2 fun b H3=>
    if b=true then te σ2 H3 fun y H4=>∃ ys m',H4 D=xa (.lst ys)/\ys.length<sizeLine/\m'<m/\W (i+1) m' σ2 (upd H4 D (.lst (ys++[y]))) else ∃ m',m'<m/\W (i+1) m' σ2 H3))
  (hfin:∀(C D:af) (s6:au) (H6:Hp),Inv X pins σ H6 s6->Qn (.ref D) H6->(∃ m,s6.heap.Ns C m)->H6 C=xb->C≠X.env.locals->X.s₀.heap.objs.size<=C->(∀ x c,X.env.cells.lookup x=xa c->c≠C)->(∀ p∈X.pn++pins,p.1≠C)->RR (.ref D) C (.ok .next) s6):
  az (model X.prog X.w) X.A (newList []) (fun acc s₃=>az (model X.prog X.w) X.A (tu scope X.env.globals (tX X.env scope.names []) [] X.env.qual xb .none (xa X.env)) (fun cenv s₄=>
   oz (model X.prog X.w) X.A (.compStart (.ListComp elt [⟨tg,iter,ifs,0⟩] scope pos) 0 (.ref it) acc { cenv with scope:=relabel scope X.env }) (RR acc cenv.locals) s₄) E s₃) E s2:=by
 have hcells:∀ y∈scope.names,y.2=.free->∃ c,X.env.cells.lookup y.1=xa c:=fun y hy hf=>I2.ok.has y.1 (hfree y hy hf);have hD:H2 s2.heap.objs.size=xb:=I2.hok.fresh (bf _);obtain⟨W,⟨m0,w0⟩,turn⟩:=q s2.heap.objs.size hD;refine fj ?_ (iq _)
 generalize hs3:({ s2 with heap:=s2.heap.push { cls:=.type "list",dict:=xb,data:=.seq ([]:List ag).toArray } }:au)=s3
 have I3:Inv X pins σ (upd H2 s2.heap.objs.size (.lst [])) s3:=by
  subst hs3;exact I2.laid (t':=s2.toks) (fun b u e=>bc _ e) (bf _) ⟨iq _,[],0,.nil,b0 _ rfl⟩
 have sz3:s3.heap.objs.size=s2.heap.objs.size+1:=by rw[<- hs3];exact ik ..
 have k23:∀ b o,s2.heap.get? b=xa o->s3.heap.get? b=xa o:=fun b o e=>by rw[<- hs3];exact bc _ e
 generalize hH3:upd H2 s2.heap.objs.size (.lst [])=H3 at I3 w0
 have clLook:∀ x c,(tX X.env scope.names []).lookup x=xa c->X.env.cells.lookup x=xa c:=fun x c e=>by
  rcases oE e with z|⟨z1,z2⟩
  ·cases z
  ·obtain⟨c',hc'⟩:=hcells (x,.free) z1 rfl;rw[hc'] at z2 ⊢;rw[z2];rfl
 have clMem:∀ x c,(x,c)∈tX X.env scope.names []->∃ c',X.env.cells.lookup x=xa c'/\c=c':=by
  have aux:∀(names:List (Str×ia)) (acc:List (Str×af)),(∀ y∈names,y.2=.free->∃ c,X.env.cells.lookup y.1=xa c)->(∀ x c,(x,c)∈acc->∃ c',X.env.cells.lookup x=xa c'/\c=c')->
    ∀ x c,(x,c)∈tX X.env names acc->∃ c',X.env.cells.lookup x=xa c'/\c=c':=by
   intro names
   induction names with
   |nil=>intro acc _ h x c hm;exact h x c hm
   |cons p r ih=>
    obtain⟨n,k⟩:=p;intro acc hn h x c hm;unfold tX at hm;have hr:∀ y∈r,y.2=.free->∃ c,X.env.cells.lookup y.1=xa c:=fun y hy=>hn y (ai _ hy);split at hm
    ·rename_i hk
     refine ih _ hr (fun x c hm=> ?_) x c hm;rcases aj.mp hm with e|hm
     ·cases e;obtain⟨c',hc'⟩:=hn (n,k) aq (by simpa using hk);exact⟨c',hc',by rw[hc'];rfl⟩
     ·exact h x c hm
    ·exact ih _ hr h x c hm
  exact aux scope.names [] hcells (fun x c hm=>by cases hm)
 have cellLt:∀ x c,X.env.cells.lookup x=xa c->c<s2.heap.objs.size:=fun x c e=>by
  obtain⟨v,z⟩:=I2.cell x c e;exact z.lt
 have hltc:∀ x c,(x,c)∈tX X.env scope.names []->c<s3.heap.objs.size:=fun x c hm=>by
  obtain⟨c',hc',rfl⟩:=clMem x c hm
  have:=cellLt x c hc'
  walk_at "adr"
 refine Hy (fun h4 k34 ns4 nc=> ?_) hltc
 generalize hC:s3.heap.objs.size=C at ns4 nc
 generalize hcs:g8 (C+1) scope.names (tX X.env scope.names [])=cells at nc
 -- the block's own invariant
 have cellOld:∀ x c,cells.lookup x=xa c->c<C->X.env.cells.lookup x=xa c:=fun x c e hlt=>by
  rw[<- hcs] at e;rcases fJ e with z|⟨_,z⟩
  ·exact clLook x c z
  ·walk_at "adr"
 have cellNew:∀ x c,cells.lookup x=xa c->¬ c<C->h4.IsCell c xb/\C+1<=c:=fun x c e hge=>by
  rcases nc.cell x c (gn e) with z|z
  ·obtain⟨c',hc',rfl⟩:=clMem x c z
   have:=cellLt x c hc'
   walk_at "adr"
  ·exact z
 have sz4:C<=h4.objs.size:=ip ns4.lt;have okB:(blk X N' scope cells C fp pins s3 H3).Ok:=by
  refine⟨I3.ok.mod,hkind,I3.ok.glob,I3.ok.blt,uz hC,fun x y c h1 h2=> ?_,fun x hx=> ?_,fun x c hf hx=> ?_,I3.ok.hd,I3.ok.frames,.inl rfl,fun b hb=>⟨?_,fun x c hx=> ?_⟩,I3.bs,ci I3.ok.bsz I3.sz,fun b o e hb=> ?_,fun b hb=> ?_,I3.stack,I3.stkFree⟩
  ·by_cases hlt:c<C
   ·exact I3.ok.inj x y c (cellOld x c h1 hlt) (cellOld y c h2 hlt)
   ·exact nc.apart x y c (gn h1) (gn h2) (cellNew x c h1 hlt).2
  ·show ∃ c,cells.lookup x=xa c;rw[<- hcs];have hx':(relabel scope X.env).names.lookup x=xa .cell∨(relabel scope X.env).names.lookup x=xa .free:=hx;have fromFree:(x,hV)∈scope.names->∃ c,(g8 (C+1) scope.names (tX X.env scope.names [])).lookup x=xa c:=fun hm=>eT (vQ hm);rcases hx' with hx'|hx'
   ·rcases gD hx' with z|⟨_,z⟩
    ·exact jH (dJ z)
    ·exact fromFree (dJ z)
   ·rcases gD hx' with z|⟨z,_⟩
    ·exact fromFree (dJ z)
    ·cases z
  ·have hf':(x,c5)∈scope.names:=dJ (by simpa using (show(scope.names.lookup x==xa .cell)=true from hf))
   by_cases hlt:c<C
   ·exfalso
    have e:(g8 (C+1) scope.names (tX X.env scope.names [])).lookup x=xa c:=by rw[hcs];exact hx
    rcases fJ e with z|⟨_,z⟩
    ·rcases oE z with z|⟨z1,_⟩
     ·cases z
     ·exact huniq (x,.free) z1 rfl hf'
    ·walk_at "adr"
   ·show s3.heap.objs.size<=c
    have:=(cellNew x c hx hlt).2
    walk_at "adr"
  ·have:=(f2 b hb)
   obtain⟨o,e,_⟩:=T.obj 0 _ st2 b hb
   have:=bp e
   show b≠C
   walk_at "adr"
  ·obtain⟨o,e,hcell⟩:=T.obj 0 _ st2 b hb;have hlt':=bp e;intro z
   by_cases hlt:c<C
   ·exact(f2 b hb).2.2.2.2.1 x c (cellOld x c hx hlt) z
   ·have:=(cellNew x c hx hlt).2
    walk_at "adr"
  ·rcases(f2 b hb).2.2.2.1 with z|z
   ·exact I2.ok.noex b o e z
   ·have q1:=bp e;have q2:=I2.ok.bsz;have q3:=I2.sz;exact absurd (cg q1 (ci q2 z)) (gv _)
  ·intro z;rcases aj.mp (I3.stkSub b z) with z|z
   ·exact(f2 b hb).2.1 z
   ·exact(f2 b hb).2.2.1 z
 have hfpC:∀ b∈fp,b<C:=fun b hb=>by
  obtain⟨o,e,_⟩:=T.obj 0 _ st2 b hb
  have:=bp e
  walk_at "adr"
 have Hnew:∀ b,C<=b->H3 b=xb:=fun b hb=>by
  cases z:H3 b with
  |none=>rfl
  |some o=>
   have:=I3.hok.lt z
   walk_at "adr"
 have IB:Inv (blk X N' scope cells C fp pins s3 H3) [] (Ga caps σ) H3 { s3 with heap:=h4 }:=by
  refine⟨okB,rfl,I3.bare,Un.kept k34,⟨_,ns4,fun i x v e1 e2 e3=> ?_⟩,fun x c hx=> ?_,Hnew C (bf _),fun x c hx=> ?_,fun p hp=> ?_,I3.hok.kept k34,?_⟩
  ·-- a captured name
   have e2':(Ga caps σ)[i]?=xa (xa v):=e2;unfold Ga at e2';rw[ax] at e2';cases hci:caps[i]? with
   |none=>rw[hci] at e2';cases e2'
   |some o=>
    rw[hci] at e2';cases o with
    |none=>cases e2'
    |some j=>
     obtain⟨x',hx1,hx2,hx3,hx4,hx5⟩:=hcap.2 i j hci;have ex:x=x':=by
      have e1':N'[i]?=xa x:=e1;rw[hx1] at e1';exact(cf e1').symm
     subst ex;have hσ:σ[j]?=xa (xa v):=by
      have z:(σ[j]?).join=xa v:=cf e2';cases hj:σ[j]? with
      |none=>rw[hj] at z;cases z
      |some o=>
       rw[hj] at z;cases o with
       |none=>cases z
       |some v'=>cases z;rfl
     obtain⟨m,hn,hl⟩:=I3.loc;obtain⟨u,r,l⟩:=hl j x v hx2 hσ (hx5.elim (fun z=>.inr (.inl z)) fun z=>.inr (.inr z));refine⟨u,r,?_⟩;rcases l with⟨k,_⟩|⟨_,c,hcx,hcell⟩
     ·have k':X.env.scope.names.lookup x=xa .local:=k;rcases hx5 with z|z
      ·rw[k'] at z;cases z
      ·rw[k'] at z;cases z
     ·have hlk:cells.lookup x=xa c:=by
       rw[<- hcs,iI hx4];obtain⟨c',hc'⟩:=vQ (env:=X.env) (acc:=[]) (dJ hx3);rw[hc',<- clLook x c' hc',hcx]
      have e3':(relabel scope X.env).names.lookup x=xa .local∨(relabel scope X.env).names.lookup x=xa .cell∨(relabel scope X.env).names.lookup x=xa .free:=e3;rcases e3' with z|z|z
      ·exfalso
       rcases gD z with z|⟨z,_⟩
       ·rw[hx3] at z;cases z
       ·cases z
      ·exact .inr ⟨.inl z,c,hlk,hcell.keeps k34⟩
      ·exact .inr ⟨.inr z,c,hlk,hcell.keeps k34⟩
  ·by_cases hlt:c<C
   ·obtain⟨v,z⟩:=I3.cell x c (cellOld x c hx hlt);exact⟨v,z.keeps k34⟩
   ·exact⟨xb,(cellNew x c hx hlt).1⟩
  ·by_cases hlt:c<C
   ·exact I3.freeC x c (cellOld x c hx hlt)
   ·exact Hnew c (by walk_at "adr")
  ·have hp':p∈X.pn++pins:=by
    have hp'':p∈(X.pn++pins)++[]:=hp;rwa [cr] at hp''
   obtain⟨e,n,ne,nf,d⟩:=I3.pin p hp';refine⟨k34 _ _ e,n,?_,fun z=> ?_,d⟩
   ·show p.1≠C
    have:=bp e
    walk_at "adr"
   ·rcases aj.mp (I3.stkSub p.1 z) with z|z
    ·exact ne z
    ·exact nf z
  ·show(Ga caps σ).length=N'.length
   unfold Ga;rw[am];exact hcap.1
 have tn4:tn 0 h4:=T.keep 0 _ _ st2 fun b hb o e=>k34 b o (k23 b o e);have fr3:∀ b∈fp,H3 b=xb:=fun b hb=>by
  obtain⟨o,e,_⟩:=T.obj 0 _ st2 b hb;rw[<- hH3,aF (cj (bp e))];exact(f2 b hb).1
 have stat:∀ {H':Hp},(∀ b∈fp,H' b=xb)->∀ b∈fp,JA (blk X N' scope cells C fp pins s3 H3) [] H' b:=fun hn b hb=>
  ⟨hn b hb,cj (hfpC b hb),fun z=>okB.exfs b hb z,.inl hb,fun x c hx=>(okB.exf b hb).2 x c hx,fun p hp=>by
   have hp':p∈X.pn++pins:=by
    have hp'':p∈(X.pn++pins)++[]:=hp;rwa [cr] at hp''
   exact(f2 b hb).2.2.2.2.2 p hp'⟩
 obtain⟨hG,hT,hE⟩:=hb cells C fp pins s3 H3;have loop:oz (model X.prog X.w) X.A (.compLoop (.ListComp elt [⟨tg,iter,ifs,0⟩] scope pos) 0 (.ref it) (.ref s2.heap.objs.size) (compEnvC scope cells C X.env)) (RR (.ref s2.heap.objs.size) C) { s3 with heap:=h4 }:=by
  refine yU (fun n s'=>∃ i σ' H',Inv (blk X N' scope cells C fp pins s3 H3) [] σ' H' s'/\tn i s'.heap/\(∀ b∈fp,H' b=xb)/\W i n σ' H') ?_ m0 ⟨0,_,_,IB,tn4,fr3,w0⟩;rintro n s5 ⟨i,σ5,H5,I5,st5,fr5,w5⟩;rcases turn i n σ5 H5 w5 with⟨stop,qn⟩|⟨go,step⟩
  ·refine thn (T.done (blk X N' scope cells C fp pins s3 H3) rfl rfl rfl hc i [] s5 σ5 H5 _ I5 (stat fr5) st5 stop) fun r s6 ⟨hr,I6⟩=> ?_;subst hr;obtain⟨m6,ns6,_⟩:=I6.loc;have un7:Un (frs X.stack) fp H3 H5 s3.heap s6.heap:=I6.base;have I8:Inv X pins σ H5 s6:=by
    refine I3.call' (ch:=fp) I6.os un7 I6.hok I6.bare fun b hb=>⟨?_,(f2 b hb).2.1,(f2 b hb).2.2.2.2.1,(f2 b hb).2.2.2.2.2⟩;exact(f2 b hb).2.2.2.1
   refine hfin C s2.heap.objs.size s6 H5 I8 qn ⟨m6,ns6⟩ I6.free ?_ (by have:=I3.sz;walk_at "adr") (fun x c e=> ?_) fun p hp=> ?_
   ·have:=I3.lt
    walk_at "adr"
   ·have:=cellLt x c e
    walk_at "adr"
   ·have:=bp (I3.pin p hp).1
    walk_at "adr"
  ·refine thn (T.item (blk X N' scope cells C fp pins s3 H3) rfl rfl rfl hc i [] s5 σ5 H5 _ I5 (stat fr5) st5 go) fun r s6 ⟨u,hr,h6⟩=> ?_;subst hr;refine thn h6 fun _ s7 ⟨x,H7,I7,r7,y7,st7,fr7⟩=> ?_;have I7':=I7.pinned (stat fr7) (T.obj _ _ st7);have keepTn:∀ {σ':St}{H':Hp}{s':au},Inv (blk X N' scope cells C fp pins s3 H3) ([]++xH fp s7.heap) σ' H' s'->tn (i+1) s'.heap/\∀ b∈fp,H' b=xb:=fun {σ' H' s'} I'=>by
    refine⟨T.keep _ _ _ st7 fun b hb o e=>(I'.pin (b,o) (eu _ (eu _ (jS hb e)))).1,fun b hb=> ?_⟩;obtain⟨o,e,d⟩:=T.obj _ _ st7 b hb;exact(I'.pin (b,o) (eu _ (eu _ (jS hb e)))).2.1
   refine thn (hG _ s7 σ5 H7 x u _ I7' r7 (step x H7 y7)) fun _ s8 ⟨σ8,H8,I8,q8⟩=> ?_;refine thn (hT _ s8 σ8 H8 _ I8 q8) fun b s9 ⟨H9,I9,q9⟩=> ?_;cases b with
   |false=>
    rw[if_neg bx] at q9 ⊢;obtain⟨m',hm,w9⟩:=q9;exact⟨m',hm,i+1,σ8,H9,I9.unpinned,(keepTn I9).1,(keepTn I9).2,w9⟩
   |true=>
    rw[if_pos rfl] at q9 ⊢;refine thn (hE _ s9 σ8 H9 _ I9 q9) fun y s10 ⟨yv,H10,I10,r10,q10⟩=> ?_;obtain⟨ys,m',hy,hz,hm,w10⟩:=q10;refine thn (xO _ s10 σ8 H10 (.ref s2.heap.objs.size) [yv] (.ref s2.heap.objs.size) [y] (fun _ H'=>H'=upd H10 s2.heap.objs.size (.lst (ys++[yv]))) I10 rfl (.cons r10 .nil) ⟨_,ys,yv,rfl,rfl,hy,hz,rfl⟩) fun _ s11 ⟨_,H11,I11,_,e11⟩=> ?_;subst e11;exact⟨m',hm,i+1,σ8,_,I11.unpinned,(keepTn I11).1,(keepTn I11).2,w10⟩
 exact codeAny_compStart_list loop (T.self X.A 0 _ _ _ tn4 loop)
theorem Kd (hc:X.calm=true) (hkind:scope.kind=.function) (hnames:∀ x∈scope.names,x.2=.local->scope.names.lookup x.1=xa .local)
  (hfree:∀ y∈scope.names,y.2=.free->X.env.scope.names.lookup y.1=xa .cell∨X.env.scope.names.lookup y.1=xa .free) (huniq:∀ y∈scope.names,y.2=.free->(y.1,c5)∉scope.names)
  (hcap:Ck X scope N' caps) (hi:PI X tg iter wi)
  (hb:∀ cells C fp pins s₀ H₀,PG (blk X N' scope cells C fp pins s₀ H₀) tg g/\Mp (blk X N' scope cells C fp pins s₀ H₀) ifs tt/\PE (blk X N' scope cells C fp pins s₀ H₀) elt te)
  (hs:∀ x,gq iter X.env x=pure x:=by intro _;rfl):PE X (.ListComp elt [⟨tg,iter,ifs,0⟩] scope pos) (JE wi caps g tt te):=by
 intro pins s σ H Q I h;have hclos:=tW (scope:=scope) (env:=X.env) fun y hy hf=>I.ok.has y.1 (hfree y hy hf);rw[eval_ListComp];refine qz (use:=xb) rfl hs hclos hkind hnames (thn (hi pins s σ H _ I h) fun v s1 h1=>thn h1 fun itv s2 h2=> ?_);obtain⟨it,fp,tn,J,H2,e,I2,T,st2,f2,q⟩:=h2;subst e;refine yS (RR:=fun acc C=>compPost (model X.prog X.w) X.A X.xe xb (EP X pins σ Q) acc C) (Qn:=fun v H=>∀ a,v=.ref a->Q (.ref a) H) hc hkind hfree huniq hcap hb I2 T st2 f2 (fun D hD=> ?_) fun C D s6 H6 I6 q6 ⟨m6,ns6⟩ hC h1 h2 h3 h4=> ?_
 ·obtain⟨W,w0,turn⟩:=q D hD;refine⟨W,w0,fun i m σ' H w=> ?_⟩;rcases turn i m σ' H w with⟨a,b⟩|z
  ·exact .inl ⟨a,fun c hc=>by cases hc;exact b⟩
  ·exact .inr z
 ·refine⟨m6,ns6,fun h7 sb=> ?_⟩;have I8:Inv X pins σ H6 { s6 with heap:=h7 }:=I6.turned (t':=s6.toks) (fun b o hb e=>(sb.2 b hb).trans e) hC h1 (.inr h2) h3 h4;exact⟨.ref D,H6,I8,rfl,q6 D rfl⟩
def Mz (wi:TI) (caps:List (Option Nat)) (g:TG) (tt:TT) (te:TE) (i:Nat):TS:=fun D σ H=>JE wi caps g tt te σ H fun x H1=>D.nx (σ.set i (xa x)) H1
theorem JT (hN:X.N.Nodup) (hiy:X.N[i]?=xa y) (hy:X.env.scope.names.lookup y=xa .local) (hc:X.calm=true) (hkind:scope.kind=.function) (hnames:∀ x∈scope.names,x.2=.local->scope.names.lookup x.1=xa .local)
  (hfree:∀ y∈scope.names,y.2=.free->X.env.scope.names.lookup y.1=xa .cell∨X.env.scope.names.lookup y.1=xa .free) (huniq:∀ y∈scope.names,y.2=.free->(y.1,c5)∉scope.names)
  (hcap:Ck X scope N' caps) (hi:PI X tg iter wi)
  (hb:∀ cells C fp pins s₀ H₀,PG (blk X N' scope cells C fp pins s₀ H₀) tg g/\Mp (blk X N' scope cells C fp pins s₀ H₀) ifs tt/\PE (blk X N' scope cells C fp pins s₀ H₀) elt te)
  (hsw:ji (.ListComp elt [⟨tg,iter,ifs,0⟩] scope pos) (xa (.Name y py)) spos.line X.env=pure true:=by rfl)
  (hs:∀ x,gq iter X.env x=pure x:=by intro _;rfl):PS X (.Assign [.Name y py] (.ListComp elt [⟨tg,iter,ifs,0⟩] scope pos) spos) (Mz wi caps g tt te i):=by
 intro pins s σ H D I h;have hclos:=tW (scope:=scope) (env:=X.env) fun y hy hf=>I.ok.has y.1 (hfree y hy hf);rw[exec_Assign_Name_used _ _ _ _ hsw];refine ae (uh (ae ?_));show az _ X.A (do let _ <- comprehension (.ListComp elt [⟨tg,iter,ifs,0⟩] scope pos) scope X.env _ (newList []) false (eval iter X.env) (xa (assign (.Name y py) X.env))) _ _ s;refine ae (g9 (qz (use:=xa (assign (.Name y py) X.env)) (Q:=fun _ s'=>SP X pins D .next s') rfl hs hclos hkind hnames
  (thn (hi pins s σ H _ I h) fun v s1 h1=>thn h1 fun itv s2 h2=> ?_)) (fun _ s' hq=>ar (ar hq)) fun _ _ e=>e)
 obtain⟨it,fp,tn,J,H2,e,I2,T,st2,f2,q⟩:=h2;subst e;refine yS (RR:=fun acc C=>compPost (model X.prog X.w) X.A X.xe (xa (assign (.Name y py) X.env)) (fun _ s'=>SP X pins D .next s') acc C) (Qn:=fun v H=>∀ a,v=.ref a->D.nx (σ.set i (xa (.ref a))) H) hc hkind hfree huniq hcap hb I2 T st2 f2 (fun D' hD=> ?_) fun C D' s6 H6 I6 q6 ⟨m6,ns6⟩ hC h1 h2 h3 h4=> ?_
 ·obtain⟨W,w0,turn⟩:=q D' hD;refine⟨W,w0,fun i m σ' H w=> ?_⟩;rcases turn i m σ' H w with⟨a,b⟩|z
  ·exact .inl ⟨a,fun c hc=>by cases hc;exact b⟩
  ·exact .inr z
 ·show az _ X.A (assign (.Name y py) X.env (.ref D')) _ _ _;refine wpAny_assign_Name (wT I6 hN hiy (.inl hy) (v:=.ref D') (u:=.ref D') rfl (fun s7 I7 ⟨a,sb,ha⟩=> ?_) (.inr hy));have hCa:C≠a:=by
   rcases ha with rfl|ha
   ·exact h1
   ·exact fun z=>h3 y a ha z.symm
  refine⟨m6,ns6.sameBut sb hCa,fun h8 sb8=> ?_⟩;have I8:Inv X pins (σ.set i (xa (.ref D'))) H6 { s7 with heap:=h8 }:=I7.turned (t':=s7.toks) (fun b o hb e=>(sb8.2 b hb).trans e) hC h1 (.inr h2) h3 h4;exact⟨_,H6,I8,q6 D' rfl⟩
end
local macro_rules| `(tactic|walk_at "adr")=> `(tactic|((try unfold af at*);omega))
noncomputable def Itz (K:aa) (l1 l2:af):It:=
 ⟨fun i H=>∃ xs ys x y,SqL K H l1 xs/\SqL K H l2 ys/\xs[i]?=xa x/\ys[i]?=xa y,
  fun i H v H'=>∃ T x y,v=.ref T/\H T=xb/\(∀ xs,SqL K H l1 xs->xs[i]?=xa x)/\(∀ ys,SqL K H l2 ys->ys[i]?=xa y)/\H'=upd H T (.tup [x,y]),
  fun i H=>∃ xs ys,SqL K H l1 xs/\SqL K H l2 ys/\(xs.length<=i∨ys.length<=i)⟩
theorem GC {K:aa}{z TI TO i1 i2 l1 l2:af} (D:ZipApart z TI TO i1 i2 l1 l2):Mc P w K (.Tuple es k pos) (Itz K l1 l2) [z,TI,TO,i1,i2] z
  (fun i h=>IsZip h z TI TO .none/\IsPair h TI (.ref i1) (.ref i2)/\(∃ a b,IsPair h TO a b)/\h.IsListIter i1 l1 i/\h.IsListIter i2 l2 i) where
 mem:=by simp
 obj:=fun i h st b hb=>by
  obtain⟨hz,hTI,⟨a,b',hTO⟩,⟨o1,e1,c1,d1⟩,⟨o2,e2,c2,d2⟩⟩:=st;simp only[aj,c4,or_false] at hb;rcases hb with rfl|rfl|rfl|rfl|rfl
  ·exact⟨_,hz,fun v q=>by cases (show Data.fields _=uy v from q)⟩
  ·exact⟨_,hTI,fun v q=>by cases (show Data.seq _ _=uy v from q)⟩
  ·exact⟨_,hTO,fun v q=>by cases (show Data.seq _ _=uy v from q)⟩
  ·exact⟨o1,e1,fun v q=>by rw[d1] at q;cases q⟩
  ·exact⟨o2,e2,fun v q=>by rw[d2] at q;cases q⟩
 keep:=fun i h h' st kp=>by
  obtain⟨hz,hTI,⟨a,b',hTO⟩,h1,h2⟩:=st;exact⟨kp z (by simp) _ hz,kp TI (by simp) _ hTI,⟨a,b',kp TO (by simp) _ hTO⟩,h1.at fun o e=>kp i1 (by simp) o e,h2.at fun o e=>kp i2 (by simp) o e⟩
 item:=by
  intro X hP hw hK hc i pins s σ H E I hf st hg;subst hP hw hK;obtain⟨hz,hTI,⟨a,b',hTO⟩,h1,h2⟩:=st;obtain⟨xs,ys,x,y,hq1,hq2,hx,hy⟩:=hg;obtain⟨its1,rv1,p1,hz1⟩:=I.list hq1;obtain⟨its2,rv2,p2,hz2⟩:=I.list hq2;obtain⟨u1,hu1,ru1⟩:=rv1.get hx;obtain⟨u2,hu2,ru2⟩:=rv2.get hy;have lt:∀ {c:af}{o:Obj},s.heap.get? c=xa o->c<s.heap.objs.size:=fun e=>bp e;refine wpAny_pyNext_zip_item D hz hTI hTO h1 h2 p1.isList p2.isList (x:=u1) (y:=u2) (by simpa using hu1) (by simpa using hu2) fun h' a1 a2 a3 a4 a5 a6 hk=> ?_;refine⟨_,rfl,wpAny_letOwnedTupleGo_zip (s:={ s with heap:=h' }) a1 fun h'' z1 sb=> ?_⟩;have hTf:H s.heap.objs.size=xb:=I.hok.fresh (bf _);have hzlt:=lt hz;have up:∀ b o,b≠z->b≠TO->b≠i1->b≠i2->s.heap.get? b=xa o->h''.get? b=xa o:=fun b o n1 n2 n3 n4 e=>(sb.2 b n1).trans (hk b o n1 n2 n3 n4 e);have fpb:∀ b,b=z∨b=TO∨b=i1∨b=i2->b∈[z,TI,TO,i1,i2]:=fun b hb=>by
   rcases hb with rfl|rfl|rfl|rfl <;> simp
  have nT:∀ b,b∈[z,TI,TO,i1,i2]->b≠s.heap.objs.size:=fun b hb=>by
   obtain⟨o1,e1,_⟩:=h1;obtain⟨o2,e2,_⟩:=h2;simp only[aj,c4,or_false] at hb;rcases hb with rfl|rfl|rfl|rfl|rfl
   ·exact cj (lt hz)
   ·exact cj (lt hTI)
   ·exact cj (lt hTO)
   ·exact cj (lt e1)
   ·exact cj (lt e2)
  have trk:∀ b u,H b=xa u->b∉[z,TI,TO,i1,i2]:=fun b u e hb=>by
   rw[(hf b hb).1] at e;cases e
  have upH:∀ b u o,H b=xa u->s.heap.get? b=xa o->h''.get? b=xa o:=fun b u o e q=>
   up b o (fun w=>trk b u e (fpb b (.inl w))) (fun w=>trk b u e (fpb b (.inr (.inl w)))) (fun w=>trk b u e (fpb b (.inr (.inr (.inl w))))) (fun w=>trk b u e (fpb b (.inr (.inr (.inr w))))) q
  have hTup:IsTup h'' s.heap.objs.size #[u1,u2]:=⟨_,(sb.2 _ (Nat.ne_of_gt hzlt)).trans a5,rfl,_,rfl⟩;have hok:HOk X.prog X.w (upd H s.heap.objs.size (.tup [x,y])) h'':=fun b u e=>by
   by_cases hb:b=s.heap.objs.size
   ·subst hb;rw[aP] at e;cases e;exact⟨by show 2<=sizeLine;decide,[u1,u2],.cons ru1 (.cons ru2 .nil),hTup⟩
   ·rw[aF hb] at e;refine(I.hok b u e).stay (fun c v hcb q=> ?_) (fun c q=>by rw[aF (aM q hTf)];exact q) fun c zs q=>by rw[aF (aM q hTf)];exact q
    rcases hcb with rfl|hcb
    ·exact upH _ _ v e q
    ·exact upH _ _ v hcb q
  have I2:Inv X pins σ (upd H s.heap.objs.size (.tup [x,y])) { s with heap:=h'' }:=by
   refine I.step (g':=s.gens) (d':=s.drawn) (t':=s.toks) (ch:=[z,TO,i1,i2]) (fun b hb=> ?_) (fun b o hL hb hcb e n=> ?_) (fun b o hL hb hcb e n=>⟨o.slots,?_⟩) (fun b o hcb e n=> ?_) (fun b o hcb e=>⟨o,?_⟩)
    (fun b zs e=>by rw[aF (aM e hTf)];exact e) (fun b ob zs e=>by rw[aF (aM e hTf)];exact e) (fun b ps e=>⟨#[],by rw[aF (aM e hTf),e];simp⟩) (fun m hm=> ?_) hok I.bare
   ·have hb':b∈[z,TI,TO,i1,i2]:=by
     simp only[aj,c4,or_false] at hb;exact fpb b hb
    obtain⟨f0,f1,f2,f3,f4,f5⟩:=hf b hb';exact⟨f3,f1,f4,f5⟩
   ·simp only[aj,c4,or_false,not_or] at hcb;exact up b o hcb.1 hcb.2.1 hcb.2.2.1 hcb.2.2.2 e
   ·simp only[aj,c4,or_false,not_or] at hcb;exact up b o hcb.1 hcb.2.1 hcb.2.2.1 hcb.2.2.2 e
   ·rw[aF (cj (lt e))];exact n
   ·simp only[aj,c4,or_false,not_or] at hcb;exact up b o hcb.1 hcb.2.1 hcb.2.2.1 hcb.2.2.2 e
   ·obtain⟨o,es',ep,ho,r⟩:=hm;exact⟨o,es',ep,up _ o (fun q=>(hf z (by simp)).2.1 q.symm) (fun q=>(hf TO (by simp)).2.1 q.symm) (fun q=>(hf i1 (by simp)).2.1 q.symm) (fun q=>(hf i2 (by simp)).2.1 q.symm) ho,r⟩
  refine⟨.ref s.heap.objs.size,_,I2,rfl,⟨s.heap.objs.size,x,y,rfl,hTf,fun zs q=>by rw[I.list_inj q hq1];exact hx,fun zs q=>by rw[I.list_inj q hq2];exact hy,rfl⟩,?_,fun b hb=> ?_⟩
  ·exact⟨z1,(sb.2 _ D.TIz).trans (hk _ _ D.TIz D.TITO D.TIi1 D.TIi2 hTI),⟨_,_,(sb.2 _ D.TOz).trans a2⟩,a3.at fun o e=>(sb.2 _ D.i1z).trans e,a4.at fun o e=>(sb.2 _ D.i2z).trans e⟩
  ·rw[aF (nT b hb)];exact(hf b hb).1
 done:=by
  intro X hP hw hK hc i pins s σ H E I hf st hg;subst hP hw hK;obtain⟨hz,hTI,⟨a,b',hTO⟩,h1,h2⟩:=st;obtain⟨xs,ys,hq1,hq2,hx⟩:=hg;obtain⟨its1,rv1,p1,hz1⟩:=I.list hq1;obtain⟨its2,rv2,p2,hz2⟩:=I.list hq2;have hl1:=rv1.length;have hl2:=rv2.length;refine wpAny_pyNext_zip_end (I.ok.hd hc) D hz hTI hTO h1 h2 p1.isList p2.isList ?_ fun h' hk=>⟨rfl,?_⟩
  ·rcases hx with hx|hx
   ·exact .inl (by simp;omega)
   ·exact .inr (by simp;omega)
  ·have trk:∀ b u,H b=xa u->b∉[z,TI,TO,i1,i2]:=fun b u e hb=>by
    rw[(hf b hb).1] at e;cases e
   have up:∀ b o,b∉[z,TO,i1,i2]->s.heap.get? b=xa o->h'.get? b=xa o:=fun b o hb e=>by
    simp only[aj,c4,or_false,not_or] at hb;exact hk b o hb.1 hb.2.1 hb.2.2.1 hb.2.2.2 e
   have sub:∀ b,b∈[z,TO,i1,i2]->b∈[z,TI,TO,i1,i2]:=fun b hb=>by
    simp only[aj,c4,or_false] at hb ⊢;rcases hb with rfl|rfl|rfl|rfl <;> simp
   refine I.step (g':=s.gens) (d':=s.drawn) (t':=s.toks) (ch:=[z,TO,i1,i2]) (fun b hb=> ?_) (fun b o hL hb hcb e n=>up b o hcb e) (fun b o hL hb hcb e n=>⟨o.slots,up b o hcb e⟩) (fun b o hcb e n=>n) (fun b o hcb e=>⟨o,up b o hcb e⟩)
    (fun b zs e=>e) (fun b ob zs e=>e) (fun b ps e=>⟨#[],by rw[e];simp⟩) (fun m hm=> ?_) (fun b u e=> ?_) I.bare
   ·obtain⟨f0,f1,f2,f3,f4,f5⟩:=hf b (sub b hb);exact⟨f3,f1,f4,f5⟩
   ·obtain⟨o,es',ep,ho,r⟩:=hm;exact⟨o,es',ep,up _ o (fun q=>(hf _ (sub _ q)).2.1 rfl) ho,r⟩
   ·refine(I.hok b u e).stay (fun c v hcb q=>up c v (fun w=> ?_) q) (fun _ q=>q) fun _ _ q=>q;rcases hcb with rfl|hcb
    ·exact trk _ _ e (sub _ w)
    ·exact trk _ _ hcb (sub _ w)
 self:=fun _ _ _ _ _ st h=>wpAny_pyIter_zip st.1 h
def RD (K:aa) (ta:TA):TI:=fun σ H R=>ta σ H fun vs H1=>∃ a b,vs=[.ref a,.ref b]/\(∃ xs,SqL K H1 a xs)/\(∃ ys,SqL K H1 b ys)/\R (Itz K a b) H1
section
variable {X:Cx}
theorem MR (hg:Gl X "zip") (hm:X.mg "zip"=xb) (ha:PA X [a,b] ta) (hs:ay [a,b] X.env=[(false,eval a X.env),(false,eval b X.env)]:=by rfl) (hs2:ay [b] X.env=[(false,eval b X.env)]:=by rfl):
  PI X (.Tuple es k tp) (.Call (.Name "zip" p) [a,b] [] pos) (RD X.K ta):=by
 intro pins s σ H R I h;refine Call_ (xS I hg hm PyProof.Rows.boot_zip (lm (thn (ha pos pins s σ H _ I h) fun us s1 ⟨vs,H1,I1,r1,q1⟩=> ?_) (by rw[hs,hs2]) (by rw[hs2];rfl)));obtain⟨a1,b1,e,⟨xs,hx⟩,⟨ys,hy⟩,q⟩:=q1;subst e;obtain⟨u1,u2,rfl,ru1,ru2⟩:=GB r1;cases ru1;cases ru2;obtain⟨its1,rv1,p1,hz1⟩:=I1.list hx;obtain⟨its2,rv2,p2,hz2⟩:=I1.list hy;have lt1:a1<s1.heap.objs.size:=by obtain⟨o,_,e,_⟩:=p1;exact bp e
 have lt2:b1<s1.heap.objs.size:=by obtain⟨o,_,e,_⟩:=p2;exact bp e
 refine call_zip_2 p1.isList p2.isList fun h' hz hTI hTO hi1 hi2 hsz hk=> ?_;have I2:Inv X pins σ H1 { s1 with heap:=h' }:=I1.kept (t':=s1.toks) hk;refine wpAny_pyIter_zip (s:={ s1 with heap:=h' }) hz ?_;refine⟨_,[_,_,_,_,_],_,_,H1,rfl,I2,GC (zipApart_new lt1 lt2),⟨hz,hTI,⟨_,_,hTO⟩,hi1,hi2⟩,fun b hb=> ?_,q⟩;have hb':s1.heap.objs.size<=b:=by
  simp only[aj,c4,or_false] at hb;rcases hb with rfl|rfl|rfl|rfl|rfl <;> walk_at "adr"
 exact I1.fpOk hb' (I1.hok.fresh hb')
end
noncomputable def GL (ok:Okk) (H:Hp):Hp:=fun b=>@ite _ (ok b) (ki _) (H b) xb
theorem GJ (h:ok b):GL ok H b=H b:=by unfold GL;rw[if_pos h]
theorem GK (h:¬ ok b):GL ok H b=xb:=by unfold GL;rw[if_neg h]
theorem lE (h:GL ok H b=xa o):ok b/\H b=xa o:=by
 by_cases k:ok b
 ·rw[GJ k] at h;exact⟨k,h⟩
 ·rw[GK k] at h;cases h
structure ItD (K:aa) (al:Nat->Option af) (H0:Hp) (J:It) (ds:List D):Prop where
 go:∀ i H,Same H0 H->i<ds.length->J.go i H
 yld:∀ i H x H' d,Same H0 H->J.yld i H x H'->ds[i]?=xa d->Same H H'/\Rep K ⟨fun b=>H0 b≠xb∨H b=xb,al⟩ H' x d
 stop:∀ i H,Same H0 H->ds.length<=i->J.stop i H
theorem _root_.L2.PI.imp (h:PI X tg e t) (f:∀ σ H R,t' σ H R->t σ H R):PI X tg e t':=fun pins s σ H R I q=>h pins s σ H R I (f _ _ _ q)
section
variable {X:Cx}{tg e a b c:bw}{f fa fb fc:DF}{fl:DL}{pos p:Pos}
noncomputable def nQ (lo:Int) (n:Nat):List D:=(bj n).map fun k=>D.int (lo+(k:Nat))
theorem fY (lo:Int) (n:Nat):(nQ lo n).length=n:=by simp[nQ]
theorem GI {lo:Int} (h:(nQ lo n)[i]?=xa d):i<n/\d=.int (lo+(i:Nat)):=by
 unfold nQ at h;rw[ax] at h;obtain⟨k,e,rfl⟩:=aI h;obtain⟨hi,e'⟩:=bt.mp e;rw[fy] at hi;rw[p8] at e';subst e';exact⟨hi,rfl⟩
theorem itD_range {K:aa}{lo:Int}:ItD K al H0 (Itr lo n) (nQ lo n):=
 ⟨fun i H _ hi=>by rw[fY] at hi;exact hi,fun i H x H' d _ y hd=>by
  obtain⟨rfl,rfl⟩:=y;obtain⟨_,rfl⟩:=GI hd;exact⟨Same.refl _,.int _⟩,fun i H _ hi=>by rw[fY] at hi;exact hi⟩
noncomputable def iM (ds:List D):Option (List D):=match ds with
 |[.int j]=>if -1000000000<=j/\j<=1000000000 then xa (nQ 0 j.toNat) else xb
 |_=>xb
noncomputable def zP (xs ys:List D):List D:=bq (fun x y=>D.tup [x,y]) xs ys
abbrev BR:=D->Rho->Option Rho
def gR (K:aa) (bd:BR):TG:=fun v σ H Q=>∃(ok:Okk) (ρ ρ':Rho) (d:D),EnvR K ok H σ ρ/\σ.length=ρ.length/\Rep K ok H v d/\bd d ρ=xa ρ'/\∀ σ',EnvR K ok H σ' ρ'->σ'.length=ρ'.length->Q σ' H
noncomputable def aS (i:Nat):BR:=fun d ρ=>xa (ρ.set i (xa d))
theorem _root_.L2.PG.imp (h:PG X tg t) (f:∀ v σ H Q,t' v σ H Q->t v σ H Q):PG X tg t':=fun pins s σ H v u Q I r q=>h pins s σ H v u Q I r (f _ _ _ _ q)
theorem EnvR.set {K:aa} (h:EnvR K ok H σ ρ) (hl:σ.length=ρ.length) (r:Rep K ok H v d) (i:Nat):EnvR K ok H (σ.set i (xa v)) (ρ.set i (xa d)):=fun j e hj=>by
 by_cases hij:i=j
 ·subst hij
  by_cases hi:i<ρ.length
  ·rw[d7 hi] at hj;cases hj;exact⟨v,by rw[d7 (by omega)],r⟩
  ·rw[cu (by rw[ca];omega)] at hj;cases hj
 ·rw[f9 hij] at hj;obtain⟨w,a,b⟩:=h j e hj;exact⟨w,by rw[f9 hij];exact a,b⟩
theorem Lv (hN:X.N.Nodup) (hi:X.N[i]?=xa x) (hx:Loc X.env.scope x) (hf:X.fn x=true∨X.env.scope.names.lookup x=xa .local:=by first|exact .inl rfl|exact .inr rfl|assumption):PG X (.Name x tp) (gR X.K (aS i)):=
 PG.imp (kN hN hi hx hf) fun v σ H Q ⟨ok,ρ,ρ',d,h1,h2,h3,h4,h5⟩=>by
  cases h4;exact h5 _ (h1.set h2 h3 i) (by rw[ca,ca];exact h2)
noncomputable def qR (i j:Nat):BR:=fun d ρ=>match d with
 |.tup [x,y]=>xa ((ρ.set i (xa x)).set j (xa y))
 |_=>xb
theorem Lu (hc:X.calm=true) (hN:X.N.Nodup) (hi:X.N[i]?=xa x) (hj:X.N[j]?=xa y) (hx:Loc X.env.scope x) (hy:Loc X.env.scope y)
  (hf:X.fn x=true∨X.env.scope.names.lookup x=xa .local:=by first|exact .inl rfl|exact .inr rfl|assumption) (hf2:X.fn y=true∨X.env.scope.names.lookup y=xa .local:=by first|exact .inl rfl|exact .inr rfl|assumption):
  PG X (.Tuple [.Name x p1,.Name y p2] k tp) (gR X.K (qR i j)):=
 PG.imp (Jc (n:=2) hc (jO (kN hN hi hx hf) (jO (kN hN hj hy hf2) Eo))) fun v σ H Q ⟨ok,ρ,ρ',d,h1,h2,h3,h4,h5⟩=>by
  unfold qR at h4;split at h4
  ·cases h4;obtain⟨a,xs,rfl,g,r⟩:=h3.tup_inv;obtain⟨v1,v2,rfl,r1,r2⟩:=r.two_inv;refine⟨a,_,rfl,g.sq,rfl,v1,_,rfl,v2,_,rfl,rfl,?_⟩;refine h5 _ ((h1.set h2 r1 i).set (by rw[ca,ca];exact h2) r2 j) ?_;simp only[ca];exact h2
  ·cases h4
noncomputable def Gy (caps:List (Option Nat)) (ρ:Rho):Rho:=caps.map fun o=>o.bind fun j=>(ρ[j]?).join
noncomputable def kZ:DB:=fun _=>xa true
theorem EnvR.cap {K:aa} (h:EnvR K ok H σ ρ) (caps:List (Option Nat)):EnvR K ok H (Ga caps σ) (Gy caps ρ):=fun i d e=>by
 unfold Gy at e;rw[ax] at e;obtain⟨o,e1,e2⟩:=aI e;cases o with
 |none=>cases e2
 |some j=>
  have e3:(ρ[j]?).join=xa d:=e2;have e4:ρ[j]?=xa (xa d):=by
   cases q:ρ[j]? with
   |none=>rw[q] at e3;cases e3
   |some o=>
    rw[q] at e3;cases o with
    |none=>cases e3
    |some d'=>cases e3;rfl
  obtain⟨v,a,b⟩:=h j d e4;refine⟨v,?_,b⟩;unfold Ga;rw[ax,e1];show xa ((σ[j]?).join)=_;rw[a];rfl
theorem LZ (caps:List (Option Nat)) (σ:St) (ρ:Rho):(Ga caps σ).length=(Gy caps ρ).length:=by simp[Ga,Gy]
variable {elt iter:bw}{ifs:List bw}{scope:ke}{N':List Str}{caps:List (Option Nat)}{fi:DL}{bd:BR}{t:DB}
structure Gw (X:Cx) (scope:ke) (N':List Str) (caps:List (Option Nat)):Prop where
 calm:X.calm=true
 kind:scope.kind=.function
 names:∀ x∈scope.names,x.2=.local->scope.names.lookup x.1=xa .local
 free:∀ y∈scope.names,y.2=.free->X.env.scope.names.lookup y.1=xa .cell∨X.env.scope.names.lookup y.1=xa .free
 uniq:∀ y∈scope.names,y.2=.free->(y.1,c5)∉scope.names
 cap:Ck X scope N' caps
end
section
variable {K:aa}{ok0:Okk}{H0 H H':Hp}{σ:St}{ρ:Rs}{A:Nat->Option af}
theorem DU {l:List α} (h:(l.set i a)[j]?=xa b):(j=i/\i<l.length/\b=a)∨(j≠i/\l[j]?=xa b):=by
 by_cases e:i=j
 ·subst e
  by_cases hi:i<l.length
  ·rw[d7 hi] at h;exact .inl ⟨rfl,hi,(cf h).symm⟩
  ·rw[cu (by rw[ca];omega)] at h;cases h
 ·rw[f9 e] at h;exact .inr ⟨fun z=>e z.symm,h⟩
end
section
variable {X:Cx}{st:cz}{rest body els:List cz}{tg e a b c iter:bw}{es:List bw}{f fa fb:DF}{fl fi:DL}{t:DB}{F G:DS}{bd:BS}{pos p:Pos}{M:List Nat}
end
theorem FP (hr:Room k A) (h:n<=200:=by decide):A.units+n<fe:=by
 have:=hr.un
 omega
end L2.MB
end
section
namespace L2.MB
noncomputable def lD:List D->Option (List Int)
 |[]=>xa []
 |.int i::ds=>(lD ds).map fun ns=>i::ns
 |_::_=>xb
theorem mI:∀ {ds:List D}{ns:List Int},lD ds=xa ns->ds=ns.map D.int
 |[],ns,h=>by cases h;rfl
 |.int i::ds,ns,h=>by
  have h':(lD ds).map (fun ns=>i::ns)=xa ns:=h;obtain⟨ms,e,rfl⟩:=aI h';rw[mI e];rfl
 |.non::_,_,h=>nomatch h
 |.bl _::_,_,h=>nomatch h
 |.str _::_,_,h=>nomatch h
 |.lst _::_,_,h=>nomatch h
 |.tup _::_,_,h=>nomatch h
section
variable {X:Cx}{e a b c:bw}{es:List bw}{f fa fb fc:DF}{fl:DL}{pos p:Pos}
theorem An (h:Vals (ns.map V.int) its):∃ xs:Array (Int×Tok),its.toArray=intItems xs/\xs.toList.map (·.1)=ns:=by
 have hi:=Da h;obtain⟨xs,e⟩:=(hi.allInts).items;refine⟨xs,e,?_⟩;rw[<- nums_intItems,<- e];exact hi.numsOf
theorem yX (hc:X.calm=true):CallR X (.builtin "sum") (fun xs H Q=>∃(p:af) (ns:List Int),xs=[.ref p]/\SqL X.K H p (ns.map V.int)/\Q (.int ns.sum) H):=by
 intro pins s σ H xs us Q I r h;obtain⟨p,ns,rfl,hq,q⟩:=h;obtain⟨u,rfl,rx⟩:=mG r;cases rx;obtain⟨its,r',pl,hz⟩:=I.list hq;obtain⟨ys,e1,e2⟩:=An r';refine sum_intListG (I.ok.hd hc) (by rw[<- e1];exact pl.isList) fun h' tk t' k=> ?_;rw[preSum_eq,sy (by simp),e2];exact⟨.int ns.sum,H,I.kept k,⟨_,rfl⟩,q⟩
noncomputable def Pf (ds:List D):Option D:=match ds with
 |[.lst xs]=>(lD xs).map fun ns=>.int ns.sum
 |_=>xb
noncomputable def yG (ds:List D):Option D:=match ds with
 |[.int i,.int j]=>xa (.int (if j>i then j else i))
 |_=>xb
noncomputable def Ia (ds:List D):Option D:=match ds with
 |[.int i,.int j]=>xa (.int (if j<i then j else i))
 |_=>xb
noncomputable def Pi (ds:List D):Option D:=match ds with
 |[.int i]=>xa (.int i)
 |[.bl k]=>xa (.int (if k then 1 else 0))
 |[.str x]=>if x.length<=640 then(pq x).map D.int else xb
 |_=>xb
theorem RA {K:aa} (r:Reps K ok H vs [.lst xs]):∃ p ys,vs=[.ref p]/\RL K ok H p ys/\Reps K ok H ys xs:=by
 obtain⟨v,rfl,r1⟩:=r.one_inv;obtain⟨p,ys,rfl,g,r2⟩:=r1.lst_inv;exact⟨p,ys,rfl,g,r2⟩
theorem LC {K:aa}:FitL K (fun xs H Q=>∃(p:af) (ns:List Int),xs=[.ref p]/\SqL K H p (ns.map V.int)/\Q (.int ns.sum) H) Pf:=fun ok H xs as d Q h1 r e k=>by
 unfold Pf at e;split at e
 ·obtain⟨ns,e1,rfl⟩:=aI e;obtain rfl:=mI e1;obtain⟨p,ys,rfl,g,r2⟩:=RA r;obtain rfl:=r2.of_ints;exact⟨p,ns,rfl,g.sq,k _ H (Same.refl H) (.int _)⟩
 ·cases e
theorem Ip {K:aa}:FitL K (fun xs H Q=>∃ i j,xs=[.int i,.int j]/\Q (.int (if j>i then j else i)) H) yG:=fun ok H xs as d Q h1 r e k=>by
 unfold yG at e;split at e
 ·cases e;obtain⟨v,v',rfl,r1,r2⟩:=r.two_inv;obtain rfl:=r1.int_inv;obtain rfl:=r2.int_inv;exact⟨_,_,rfl,k _ H (Same.refl H) (.int _)⟩
 ·cases e
theorem Io {K:aa}:FitL K (fun xs H Q=>∃ i j,xs=[.int i,.int j]/\Q (.int (if j<i then j else i)) H) Ia:=fun ok H xs as d Q h1 r e k=>by
 unfold Ia at e;split at e
 ·cases e;obtain⟨v,v',rfl,r1,r2⟩:=r.two_inv;obtain rfl:=r1.int_inv;obtain rfl:=r2.int_inv;exact⟨_,_,rfl,k _ H (Same.refl H) (.int _)⟩
 ·cases e
theorem Gh:CallR X (.type "int") (fun xs H Q=>∃ x n,xs=[.str x]/\x.length<=640/\pq x=xa n/\Q (.int n) H):=by
 intro pins s σ H xs us Q I r h;obtain⟨x,n,rfl,hz,hn,q⟩:=h;obtain⟨u,rfl,t,rfl⟩:=mG r;exact PySem.W.KIN.call_text hn hz ⟨.int n,H,I.tok _,⟨_,rfl⟩,q⟩
theorem LI {K:aa}:FitL K (fun xs H Q=>((∃ i,xs=[.int i]/\Q (.int i) H)∨∃ k,xs=[.bl k]/\Q (.int (if k then 1 else 0)) H)∨∃ x n,xs=[.str x]/\x.length<=640/\pq x=xa n/\Q (.int n) H) Pi:=fun ok H xs as d Q h1 r e k=>by
 unfold Pi at e;split at e
 ·cases e;obtain⟨v,rfl,r1⟩:=r.one_inv;obtain rfl:=r1.int_inv;exact .inl (.inl ⟨_,rfl,k _ H (Same.refl H) (.int _)⟩)
 ·cases e;obtain⟨v,rfl,r1⟩:=r.one_inv;obtain rfl:=r1.bl_inv;exact .inl (.inr ⟨_,rfl,k _ H (Same.refl H) (.int _)⟩)
 ·rename_i x
  by_cases hz:x.length<=640
  ·rw[if_pos hz] at e;obtain⟨n,e1,rfl⟩:=aI e;obtain⟨v,rfl,r1⟩:=r.one_inv;obtain rfl:=r1.str_inv;exact .inr ⟨x,n,rfl,hz,e1,k _ H (Same.refl H) (.int _)⟩
  ·rw[if_neg hz] at e;cases e
 ·cases e
theorem Gi:CallR X (.type "int") (fun xs H Q=>((∃ i,xs=[.int i]/\Q (.int i) H)∨∃ k,xs=[.bl k]/\Q (.int (if k then 1 else 0)) H)∨∃ x n,xs=[.str x]/\x.length<=640/\pq x=xa n/\Q (.int n) H):=call_int1.or Gh
theorem tN (a:Array Nat):∀(k:Nat) (acc:Array Nat),((aw k a).foldl (· ++·) acc).size=acc.size+k*a.size
 |0,acc=>by simp
 |k+1,acc=>by
  rw[fw,wd,tN a k,Array.size_append,Nat.succ_mul];omega
noncomputable def Pd (x:Str) (n:Int):Str:=if n<1 then Str.empty else if(n==1||x.length==0)=true then x else⟨(aw n.toNat x.cps).foldl (· ++·) #[]⟩
noncomputable def LA (a b:D):Option D:=match a,b with
 |.str x,.int n=>if 0<=n/\n<=100000/\x.length<=100 then xa (.str (Pd x n)) else xb
 |_,_=>xb
theorem Kt:OpR X (j4 .Mult) (fun x y H Q=>∃ z n,x=.str z/\y=.int n/\(0<=n/\n<=100000/\z.length<=100)/\Q (.str (Pd z n)) H):=by
 intro pins s σ H x y v u Q I rx ry h;obtain⟨z,n,rfl,rfl,⟨h0,h1,h2⟩,q⟩:=h;obtain⟨t,rfl⟩:=rx;obtain⟨t',rfl⟩:=ry;refine PySem.P.mul_str ?_ (fun hn _=> ?_) (fun hn _=> ?_) ?_
 ·have e1:decide (n< -(2 ^ 63:Int))=false:=decide_eq_false (by omega);have e2:decide (n≥2 ^ 63)=false:=decide_eq_false (by omega);rw[e1,e2,Bool.or_false]
 ·have h3:n<=100000:=h1
  have:(100:Int)<=(2 ^ 63-1) / n:=by
   refine(Int.le_ediv_iff_mul_le (by omega)).mpr ?_;omega
  have h4:(z.length:Int)<=100:=by omega
  omega
 ·have hle:z.length*n.toNat<=100*100000:=Nat.mul_le_mul h2 (by omega);have hs:=bv
  first|exact decide_eq_false (by omega)|(simp[Builtin.Str.tooLong];omega)|(simp[tooLong];omega)
 ·unfold Pd at q;split
  ·rename_i hn
   rw[if_pos hn] at q;exact⟨by show 0<=sizeLine;exact iq _,.str _,H,I.tok _,⟨_,rfl⟩,q⟩
  ·rename_i hn
   rw[if_neg hn] at q;split
   ·rename_i hz
    rw[if_pos hz] at q;exact⟨.str _,H,I,⟨_,rfl⟩,q⟩
   ·rename_i hz
    rw[if_neg hz] at q;refine⟨?_,.str _,H,I.tok _,⟨_,rfl⟩,q⟩
    show((aw n.toNat z.cps).foldl (· ++·) #[]).size<=sizeLine
    rw[tN,bv];have hle:n.toNat*z.cps.size<=100000*100:=Nat.mul_le_mul (by omega) h2;simp only[bi,kq];omega
end
section
variable {X:Cx}{tg e a b c:bw}{f fa fb fc:DF}{fl:DL}{pos p:Pos}
end
noncomputable def AN (scope:ke):Bool:=scope.names.all fun y=> !(y.2== .local)||scope.names.lookup y.1==xa .local
noncomputable def FY (out scope:ke):Bool:=scope.names.all fun y=> !(y.2== .free)||((out.names.lookup y.1==xa .cell||out.names.lookup y.1==xa .free)&& !(scope.names.contains (y.1,c5)))
noncomputable def yV (N:List Str) (out scope:ke) (x:Str):Option Nat->Bool
 |none=>true
 |some j=>N[j]?==xa x&&scope.names.lookup x==xa .free&& !(scope.names.contains (x,c5))&&(out.names.lookup x==xa .cell||out.names.lookup x==xa .free)
noncomputable def nB (N:List Str) (out scope:ke):List Str->List (Option Nat)->Bool
 |[],[]=>true
 |x::xs,c::cs=>yV N out scope x c&&nB N out scope xs cs
 |_,_=>false
theorem tY:∀ {xs:List Str}{cs:List (Option Nat)},nB N out scope xs cs=true->cs.length=xs.length
 |[],[],_=>rfl
 |x::xs,c::cs,h=>by
  have h':(yV N out scope x c&&nB N out scope xs cs)=true:=h;rw[br] at h';simp[tY h'.2]
 |[],_::_,h=>nomatch h
 |_::_,[],h=>nomatch h
theorem tZ:∀ {xs:List Str}{cs:List (Option Nat)}{i j:Nat},nB N out scope xs cs=true->cs[i]?=xa (xa j)->∃ x,xs[i]?=xa x/\yV N out scope x (xa j)=true
 |[],[],i,j,_,h=>by simp at h
 |x::xs,c::cs,i,j,h,h2=>by
  have h':(yV N out scope x c&&nB N out scope xs cs)=true:=h;rw[br] at h';cases i with
  |zero=>
   simp at h2;subst h2;exact⟨x,rfl,h'.1⟩
  |succ i=>
   simp at h2;obtain⟨y,e,q⟩:=tZ (i:=i) h'.2 h2;exact⟨y,by simpa using e,q⟩
 |[],_::_,_,_,h,_=>nomatch h
 |_::_,[],_,_,h,_=>nomatch h
theorem yT (h1:X.calm=true) (h2:scope.kind=.function) (h3:AN scope=true) (h4:FY X.env.scope scope=true) (h5:nB X.N X.env.scope scope N' caps=true):Gw X scope N' caps:=by
 refine⟨h1,h2,fun x hx hl=> ?_,fun y hy hf=> ?_,fun y hy hf hm=> ?_,tY h5,fun i j hij=> ?_⟩
 ·have:=du.mp h3 x hx
  rw[hl] at this;simpa using this
 ·have:=du.mp h4 y hy
  rw[hf] at this;simp at this;exact this.1
 ·have:=du.mp h4 y hy
  rw[hf] at this;simp at this;exact this.2 hm
 ·obtain⟨x,e,q⟩:=tZ h5 hij;unfold yV at q;simp only[br,ib,beq_iff_eq,ja,List.contains_eq_mem,decide_eq_false_iff_not] at q;exact⟨x,e,q.1.1.1,q.1.1.2,q.1.2,q.2⟩
namespace boot
theorem len:dq "len"=xa (.builtin "len"):=by decide+kernel
theorem sum:dq "sum"=xa (.builtin "sum"):=by decide+kernel
theorem min:dq "min"=xa (.builtin "min"):=by decide+kernel
theorem max:dq "max"=xa (.builtin "max"):=by decide+kernel
theorem sorted:dq "sorted"=xa (.builtin "sorted"):=by decide+kernel
theorem list:dq "list"=xa (.type "list"):=by decide+kernel
theorem tuple:dq "tuple"=xa (.type "tuple"):=by decide+kernel
theorem int:dq "int"=xa (.type "int"):=by decide+kernel
theorem bool:dq "bool"=xa (.type "bool"):=by decide+kernel
theorem str:dq "str"=xa (.type "str"):=by decide+kernel
end boot
structure Bn (mg:Str->Option ag):Prop where
 len:mg "len"=xb
 range:mg "range"=xb
 zip:mg "zip"=xb
 sum:mg "sum"=xb
 all:mg "all"=xb
 min:mg "min"=xb
 max:mg "max"=xb
 sorted:mg "sorted"=xb
 isinstance:mg "isinstance"=xb
 list:mg "list"=xb
 tuple:mg "tuple"=xb
 int:mg "int"=xb
 bool:mg "bool"=xb
 str:mg "str"=xb
theorem bn_mk {K:aa} (X:K.In h) (G:h.Ns ce mg) (h1:cx K ce "len"=xa xb) (h2:cx K ce "range"=xa xb) (h3:cx K ce "zip"=xa xb)
  (h4:cx K ce "sum"=xa xb) (h5:cx K ce "all"=xa xb) (h6:cx K ce "min"=xa xb) (h7:cx K ce "max"=xa xb) (h8:cx K ce "sorted"=xa xb)
  (h9:cx K ce "isinstance"=xa xb) (h10:cx K ce "list"=xa xb) (h11:cx K ce "tuple"=xa xb) (h12:cx K ce "int"=xa xb) (h13:cx K ce "bool"=xa xb)
  (h14:cx K ce "str"=xa xb):Bn mg:=
 ⟨dc X G h1,dc X G h2,dc X G h3,dc X G h4,dc X G h5,dc X G h6,dc X G h7,dc X G h8,dc X G h9,dc X G h10,dc X G h11,dc X G h12,
  dc X G h13,dc X G h14⟩
def FnIn (K:aa) (x:Str) (st:cz):Prop:=∃(f:af) (oc:ag) (od an:Option af) (osl:Array (Option ag)) (kV doc pm cdv ct:ag),cx K ce x=xa (xa (.ref f))/\
 K.lookup f=xa ⟨oc,od,.func (iu x x (iF st) (fW st) (bH st) .none kV doc pm an cdv ct),osl⟩/\j0 K cdv x=true/\gx K (.ref f)=true
theorem fnIn_mk {K:aa}{st:cz}{kV doc pm cdv ct:ag} (a:cx K ce x=xa (xa (.ref f)))
  (l:K.lookup f=xa ⟨oc,od,.func (iu x x (iF st) (fW st) (bH st) .none kV doc pm an cdv ct),osl⟩) (c:j0 K cdv x=true) (k:gx K (.ref f)=true):FnIn K x st:=
 ⟨f,oc,od,an,osl,kV,doc,pm,cdv,ct,a,l,c,k⟩
structure Pk (K:aa) (mg:Str->Option ag) (x:Str) (st:cz) (f:af) (fd:jp):Prop where
 fn:Fun K x x st f fd
 at_:mg x=xa (.ref f)
theorem FnIn.fnAt {K:aa}{st:cz} (I:FnIn K x st) (X:K.In h) (G:h.Ns ce mg):∃ f fd,Pk K mg x st f fd:=by
 obtain⟨f,oc,od,an,osl,kV,doc,pm,cdv,ct,a,l,c,k⟩:=I;exact⟨f,_,Ju l c k,n9 X G a⟩
inductive Ob where
 /-- an instance of the c-th class;a list;a dict by tuples;a dict by texts and ints -/
 |ins (c:Nat) (fs:List (Str×D))|ml (ds:List D)|dt (kvs:List (List Key×D))|dk (kvs:List (Key×D))
 /-- a dict by tuples while a loop walks it -/
 |dz (kvs:List (List Key×D))
abbrev Om:=List Ob
inductive KvR {κ:Type} (K:aa) (ok:Okk) (H:Hp):List (κ×V)->List (κ×D)->Prop
 |nil:KvR K ok H [] []
 |cons {k:κ}{v:V}{d:D}{vs:List (κ×V)}{ds:List (κ×D)}:Rep K ok H v d->KvR K ok H vs ds->KvR K ok H ((k,v)::vs) ((k,d)::ds)
section
variable {κ:Type}{K:aa}{ok ok':Okk}{H H':Hp}
theorem KvR.mono (f:∀ b o,ok b->H b=xa o->ok' b/\H' b=xa o) (g:∀ n a,ok.al n=xa a->ok'.al n=xa a):∀ {vs:List (κ×V)}{ds:List (κ×D)},KvR K ok H vs ds->KvR K ok' H' vs ds
 |_,_,.nil=>.nil
 |_,_,.cons r rs=>.cons (r.mono f g) (KvR.mono f g rs)
theorem KvR.length:∀ {vs:List (κ×V)}{ds:List (κ×D)},KvR K ok H vs ds->vs.length=ds.length
 |_,_,.nil=>rfl
 |_,_,.cons _ rs=>by rw[b7,b7,KvR.length rs]
theorem KvR.keys:∀ {vs:List (κ×V)}{ds:List (κ×D)},KvR K ok H vs ds->vs.map (·.1)=ds.map (·.1)
 |_,_,.nil=>rfl
 |_,_,.cons _ rs=>by rw[bg,bg,KvR.keys rs]
theorem KvR.vals:∀ {vs:List (κ×V)}{ds:List (κ×D)},KvR K ok H vs ds->Reps K ok H (vs.map (·.2)) (ds.map (·.2))
 |_,_,.nil=>.nil
 |_,_,.cons r rs=>.cons r (KvR.vals rs)
end
section
variable {K:aa}{ok ok':Okk}{H H':Hp}
theorem KvR.look:∀ {vs:List (Str×V)}{ds:List (Str×D)},KvR K ok H vs ds->ds.lookup x=xa d->∃ v,vs.lookup x=xa v/\Rep K ok H v d
 |_,_,.nil,e=>by cases e
 |_,_,@KvR.cons _ _ _ _ k v d' vs ds r rs,e=>by
  rw[gk] at e ⊢;cases q:x==k with
  |true=>
   rw[q] at e;cases e;exact⟨v,rfl,r⟩
  |false=>
   rw[q] at e;exact KvR.look rs e
theorem KvR.look_none:∀ {vs:List (Str×V)}{ds:List (Str×D)},KvR K ok H vs ds->ds.lookup x=xb->vs.lookup x=xb
 |_,_,.nil,e=>rfl
 |_,_,@KvR.cons _ _ _ _ k v d' vs ds r rs,e=>by
  rw[gk] at e ⊢;cases q:x==k with
  |true=>rw[q] at e;cases e
  |false=>rw[q] at e;exact KvR.look_none rs e
end
def CellR (cls:Nat->af) (K:aa) (ok:Okk) (H:Hp) (a:af):Ob->Prop
 |.ins c fs=>∃ dx vs,H a=xa (.ins (cls c) dx vs)/\KvR K ok H vs fs
 |.ml ds=>∃ xs,H a=xa (.lst xs)/\Reps K ok H xs ds
 |.dt kvs=>∃ vs,H a=xa (.dT vs)/\KvR K ok H vs kvs
 |.dk kvs=>∃ vs,H a=xa (.dK vs)/\KvR K ok H vs kvs
 |.dz kvs=>∃ o vs,H a=xa (.frz o (.dT vs))/\KvR K ok H vs kvs
theorem CellR.mono {K:aa} (f:∀ b o,ok b->H b=xa o->ok' b/\H' b=xa o) (g:∀ n a,ok.al n=xa a->ok'.al n=xa a) (e:∀ o,H a=xa o->H' a=xa o)
  (h:CellR cls K ok H a ob):CellR cls K ok' H' a ob:=by
 cases ob with
 |ins c fs=>obtain⟨dx,vs,h1,h2⟩:=h;exact⟨dx,vs,e _ h1,h2.mono f g⟩
 |ml ds=>obtain⟨xs,h1,h2⟩:=h;exact⟨xs,e _ h1,h2.mono f g⟩
 |dt kvs=>obtain⟨xs,h1,h2⟩:=h;exact⟨xs,e _ h1,h2.mono f g⟩
 |dk kvs=>obtain⟨xs,h1,h2⟩:=h;exact⟨xs,e _ h1,h2.mono f g⟩
 |dz kvs=>obtain⟨o,xs,h1,h2⟩:=h;exact⟨o,xs,e _ h1,h2.mono f g⟩
theorem CellR.there {K:aa} (h:CellR cls K ok H a ob):∃ o,H a=xa o/\True:=by
 cases ob with
 |ins c fs=>obtain⟨dx,vs,h1,h2⟩:=h;exact⟨_,h1,trivial⟩
 |ml ds=>obtain⟨xs,h1,h2⟩:=h;exact⟨_,h1,trivial⟩
 |dt kvs=>obtain⟨xs,h1,h2⟩:=h;exact⟨_,h1,trivial⟩
 |dk kvs=>obtain⟨xs,h1,h2⟩:=h;exact⟨_,h1,trivial⟩
 |dz kvs=>obtain⟨o,xs,h1,h2⟩:=h;exact⟨_,h1,trivial⟩
structure Stt (cls:Nat->af) (K:aa) (ok:Okk) (H:Hp) (ω:Om):Prop where
 cell:∀ n ob,ω[n]?=xa ob->∃ a,ok.al n=xa a/\CellR cls K ok H a ob
 dom:∀ n a,ok.al n=xa a->n<ω.length
 inj:∀ n m a,ok.al n=xa a->ok.al m=xa a->n=m
 nok:∀ n a,ok.al n=xa a->¬ ok.p a
structure Ex (ok:Okk) (H:Hp) (ok':Okk) (H':Hp):Prop where
 dat:∀ b o,ok b->H b=xa o->ok' b/\H' b=xa o
 ids:∀ n a,ok.al n=xa a->ok'.al n=xa a
 frm:∀ b o,H b=xa o->(∀ n,ok.al n≠xa b)->H' b=xa o
 new:∀ n a,ok'.al n=xa a->ok.al n=xa a∨H a=xb
 keep:∀ b,H' b=xb->H b=xb
 sub:∀ b,ok' b->ok b∨H b=xb
 /-- what a loop walks stands still -/
 frz:∀ b o u,H b=xa (.frz o u)->H' b=xa (.frz o u)
structure Nw (cls:Nat->af) (K:aa) (ok:Okk) (H:Hp) (ok':Okk) (H':Hp) (ω':Om):Prop where
 ex:Ex ok H ok' H'
 okh:OkH ok' H'
 st:Stt cls K ok' H' ω'
section
variable {cls:Nat->af}{K:aa}{ok ok' ok2:Okk}{H H' H2:Hp}{ω ω' ω2:Om}{σ:St}{ρ:Rho}{a:af}{n:Nat}
theorem Stt.at_ (h:Stt cls K ok H ω) (e:ok.al n=xa a):∃ ob,ω[n]?=xa ob/\CellR cls K ok H a ob:=by
 have hn:=h.dom n a e;obtain⟨b,e1,c⟩:=h.cell n ω[n] (by simp[hn]);rw[e] at e1;cases e1;exact⟨_,by simp[hn],c⟩
theorem Ex.same (s:Same H H'):Ex ok H ok H':=⟨fun b o k e=>⟨k,s b o e⟩,fun _ _ e=>e,fun b o e _=>s b o e,fun _ _ e=>.inl e,fun _ e=>s.free e,fun _ e=>.inl e,fun b o u e=>s b _ e⟩
theorem Ex.trans (x:Ex ok H ok' H') (y:Ex ok' H' ok2 H2):Ex ok H ok2 H2 where
 dat:=fun b o k e=>let ⟨k',e'⟩:=x.dat b o k e;y.dat b o k' e'
 ids:=fun n a e=>y.ids n a (x.ids n a e)
 frm:=fun b o e h=>y.frm b o (x.frm b o e h) fun n z=>by
  rcases x.new n b z with z|z
  ·exact h n z
  ·rw[e] at z;cases z
 new:=fun n a e=>by
  rcases y.new n a e with z|z
  ·exact x.new n a z
  ·exact .inr (x.keep a z)
 keep:=fun b e=>x.keep b (y.keep b e)
 sub:=fun b e=>by
  rcases y.sub b e with z|z
  ·exact x.sub b z
  ·exact .inr (x.keep b z)
 frz:=fun b o u e=>y.frz b o u (x.frz b o u e)
theorem Nw.trans (x:Nw cls K ok H ok' H' ω') (y:Nw cls K ok' H' ok2 H2 ω2):Nw cls K ok H ok2 H2 ω2:=⟨x.ex.trans y.ex,y.okh,y.st⟩
theorem Stt.same (h:Stt cls K ok H ω) (s:Same H H'):Stt cls K ok H' ω:=
 ⟨fun n ob e=>let ⟨a,e1,c⟩:=h.cell n ob e;⟨a,e1,c.mono (fun b o k e=>⟨k,s b o e⟩) (fun _ _ e=>e) fun o e=>s a o e⟩,h.dom,h.inj,h.nok⟩
theorem Nw.same (h:OkH ok H) (t:Stt cls K ok H ω) (s:Same H H'):Nw cls K ok H ok H' ω:=⟨.same s,h.same s,t.same s⟩
theorem Nw.refl (h:OkH ok H) (t:Stt cls K ok H ω):Nw cls K ok H ok H ω:=.same h t (Same.refl H)
theorem Rep.ex (x:Ex ok H ok' H') (h:Rep K ok H v d):Rep K ok' H' v d:=h.mono x.dat x.ids
theorem Reps.ex (x:Ex ok H ok' H') (h:Reps K ok H v d):Reps K ok' H' v d:=h.mono x.dat x.ids
theorem EnvR.ex (x:Ex ok H ok' H') (h:EnvR K ok H σ ρ):EnvR K ok' H' σ ρ:=fun i d e=>let ⟨v,a,r⟩:=h i d e;⟨v,a,r.ex x⟩
theorem sM {l:List Ob}{a b:Ob} (h:(l.set i a)[j]?=xa b):(j=i/\b=a)∨(j≠i/\l[j]?=xa b):=by
 rcases DU h with⟨h1,_,h3⟩|h
 ·exact .inl ⟨h1,h3⟩
 ·exact .inr h
theorem Nw.write (h:OkH ok H) (t:Stt cls K ok H ω) (e:ok.al n=xa a) (h0:H a=xa o0) (c:(∀ b u,ok b->H b=xa u->ok b/\upd H a o b=xa u)->CellR cls K ok (upd H a o) a ob) (nt:∀ xs,o≠ .tup xs:=by intro _ z;cases z) (nz:∀ x u,o0≠ .frz x u:=by intro _ _ z;cases z):Nw cls K ok H ok (upd H a o) (ω.set n ob):=by
 have dat:∀ b u,ok b->H b=xa u->ok b/\upd H a o b=xa u:=fun b u k q=>⟨k,by rw[aF (show b≠a from fun z=>t.nok n a e (z ▸ k))];exact q⟩;refine⟨⟨dat,fun _ _ z=>z,fun b u q z=>by rw[aF (show b≠a from fun w=>z n (w ▸ e))];exact q,fun _ _ z=>.inl z,fun b q=> ?_,fun _ z=>.inl z,fun b x u z=>by rw[aF (show b≠a from fun w=>nz x u (cf ((h0.symm.trans (w ▸ z)))))];exact z⟩,⟨fun b q=> ?_,fun b xs q=> ?_⟩,fun m ob' q=> ?_,fun m b q=> ?_,t.inj,t.nok⟩
 ·by_cases hb:b=a
  ·rw[hb,aP] at q;cases q
  ·rw[aF hb] at q;exact q
 ·by_cases hb:b=a
  ·rw[hb,aP] at q;cases q
  ·rw[aF hb] at q;exact h b q
 ·by_cases hb:b=a
  ·rw[hb,aP] at q;exact absurd (cf q) (nt xs)
  ·rw[aF hb] at q;exact h.tp b xs q
 ·rcases sM q with⟨rfl,rfl⟩|⟨hm,q⟩
  ·exact⟨a,e,c dat⟩
  ·obtain⟨b,e1,c1⟩:=t.cell m ob' q;refine⟨b,e1,c1.mono dat (fun _ _ z=>z) fun u z=> ?_⟩;rw[aF (show b≠a from fun w=>hm (t.inj m n a (w ▸ e1) e))];exact z
 ·rw[ca];exact t.dom m b q
noncomputable def okN (ok:Okk) (n:Nat) (p:af):Okk:=⟨fun b=>ok b/\b≠p,fun m=>if m=n then xa p else ok.al m⟩
theorem uQ (t:Stt cls K ok H ω) (m:Nat) (b:af) (e:ok.al m=xa b):(okN ok ω.length p).al m=xa b:=by
 have hm:=t.dom m b e
 show(if m=ω.length then xa p else ok.al m)=xa b
 rw[if_neg (cj hm)];exact e
theorem Ag (np:H p=xb) (b:af) (u:HO) (k:ok b) (e:H b=xa u):okN ok n p b/\upd H p o b=xa u:=
 ⟨⟨k,aM e np⟩,by rw[aF (aM e np)];exact e⟩
theorem Nw.make (h:OkH ok H) (t:Stt cls K ok H ω) (np:H p=xb) (c:CellR cls K (okN ok ω.length p) (upd H p o) p ob) (nt:∀ xs,o≠ .tup xs:=by intro _ z;cases z):Nw cls K ok H (okN ok ω.length p) (upd H p o) (ω++[ob]):=by
 have al:∀ m b,(okN ok ω.length p).al m=xa b->(m=ω.length/\b=p)∨(m≠ω.length/\ok.al m=xa b):=fun m b q=>by
  have q':(if m=ω.length then xa p else ok.al m)=xa b:=q
  by_cases hm:m=ω.length
  ·rw[if_pos hm] at q';exact .inl ⟨hm,(cf q').symm⟩
  ·rw[if_neg hm] at q';exact .inr ⟨hm,q'⟩
 have tr:∀ m b,ok.al m=xa b->b≠p:=fun m b q=>by
  obtain⟨_,_,c1⟩:=t.at_ q;obtain⟨_,z,_⟩:=c1.there;exact aM z np
 refine⟨⟨fun b u k e=>Ag np b u k e,fun m b q=>uQ t m b q,fun b u q z=>by rw[aF (aM q np)];exact q,fun m b q=> ?_,fun b q=> ?_,fun b k=>.inl k.1,fun b x u z=>by rw[aF (aM z np)];exact z⟩,⟨fun b q=> ?_,fun b xs q=> ?_⟩,fun m ob' q=> ?_,fun m b q=> ?_,fun m m' b q q'=> ?_,fun m b q k=> ?_⟩
 ·rcases al m b q with⟨_,rfl⟩|⟨_,q⟩
  ·exact .inr np
  ·exact .inl q
 ·by_cases hb:b=p
  ·rw[hb];exact np
  ·rw[aF hb] at q;exact q
 ·have hb:b≠p:=fun z=>by rw[z,aP] at q;cases q
  rw[aF hb] at q;exact⟨h b q,hb⟩
 ·have hb:b≠p:=fun z=>by rw[z,aP] at q;exact nt xs (cf q)
  rw[aF hb] at q;exact⟨h.tp b xs q,hb⟩
 ·by_cases hm:m<ω.length
  ·rw[ao hm] at q;obtain⟨b,e1,c1⟩:=t.cell m ob' q;exact⟨b,uQ t m b e1,c1.mono (fun b u k e=>Ag np b u k e) (fun m b q=>uQ t m b q) fun u z=>by rw[aF (aM z np)];exact z⟩
  ·have hm':m=ω.length:=by
    have:=(bt.mp q).1
    simp at this;omega
   subst hm';rw[dn (bf _)] at q;simp at q;subst q;exact⟨p,by show(if ω.length=ω.length then xa p else _)=_;rw[if_pos rfl],c⟩
 ·rw[b8,lg];rcases al m b q with⟨rfl,_⟩|⟨_,q⟩
  ·omega
  ·have:=t.dom m b q
   omega
 ·rcases al m b q with⟨rfl,rfl⟩|⟨_,q⟩ <;> rcases al m' b q' with⟨rfl,w⟩|⟨_,q'⟩
  ·rfl
  ·exact absurd rfl (tr m' b q')
  ·exact absurd w (tr m b q)
  ·exact t.inj m m' b q q'
 ·rcases al m b q with⟨_,rfl⟩|⟨_,q⟩
  ·exact k.2 rfl
  ·exact t.nok m b q k.1
theorem Rep.new_obj:Rep K (okN ok n p) H (.ref p) (.obj n):=.obj (by show(if n=n then xa p else _)=_;rw[if_pos rfl])
end
inductive Rz (α:Type) where
 |ok (a:α)|ex (c:Nat)
abbrev OG (α:Type):=Rho->Om->Option (Rz α×Om)
abbrev XE:=Nat->Hp->Prop
structure Pre (cls:Nat->af) (K:aa) (ok:Okk) (H:Hp) (ω:Om) (σ:St) (ρ:Rho):Prop where
 okh:OkH ok H
 st:Stt cls K ok H ω
 env:EnvR K ok H σ ρ
 len:σ.length=ρ.length
theorem Pre.nw {K:aa} (p:Pre cls K ok H ω σ ρ) (x:Nw cls K ok H ok' H' ω'):Pre cls K ok' H' ω' σ ρ:=⟨x.okh,x.st,p.env.ex x.ex,p.len⟩
def exR (cls:Nat->af) (K:aa) (ok:Okk) (H:Hp) (ω':Om) (E:XE) (c:Nat):Prop:=∀ ok' H',Nw cls K ok H ok' H' ω'->E c H'
def tO (cls:Nat->af) (K:aa) (f:OG D) (E:XE):TE:=fun σ H Q=>∃(ok:Okk) (ρ:Rho) (ω:Om) (r:Rz D) (ω':Om),Pre cls K ok H ω σ ρ/\f ρ ω=xa (r,ω')/\match r with
 |.ok d=>∀ v ok' H',Nw cls K ok H ok' H' ω'->Rep K ok' H' v d->Q v H'
 |.ex c=>exR cls K ok H ω' E c
def tOT (cls:Nat->af) (K:aa) (f:OG Bool) (E:XE):TT:=fun σ H Q=>∃(ok:Okk) (ρ:Rho) (ω:Om) (r:Rz Bool) (ω':Om),Pre cls K ok H ω σ ρ/\f ρ ω=xa (r,ω')/\match r with
 |.ok b=>∀ ok' H',Nw cls K ok H ok' H' ω'->Q b H'
 |.ex c=>exR cls K ok H ω' E c
def tOA (cls:Nat->af) (K:aa) (f:OG (List D)) (E:XE):TA:=fun σ H Q=>∃(ok:Okk) (ρ:Rho) (ω:Om) (r:Rz (List D)) (ω':Om),Pre cls K ok H ω σ ρ/\f ρ ω=xa (r,ω')/\match r with
 |.ok ds=>∀ vs ok' H',Nw cls K ok H ok' H' ω'->Reps K ok' H' vs ds->Q vs H'
 |.ex c=>exR cls K ok H ω' E c
abbrev OE (X:Cx) (cls:Nat->af) (E:XE) (e:bw) (f:OG D):Prop:=PE X e (tO cls X.K f E)
abbrev OT (X:Cx) (cls:Nat->af) (E:XE) (e:bw) (f:OG Bool):Prop:=PT X e (tOT cls X.K f E)
abbrev OA (X:Cx) (cls:Nat->af) (E:XE) (es:List bw) (f:OG (List D)):Prop:=PA X es (tOA cls X.K f E)
noncomputable def oB {α β:Type} (f:OG α) (g:α->OG β):OG β:=fun ρ ω=>match f ρ ω with
 |none=>xb
 |some (.ex c,ω1)=>xa (.ex c,ω1)
 |some (.ok a,ω1)=>g a ρ ω1
theorem kE {g:α->OG β} (h:oB f g ρ ω=xa (r,ω')):(∃ c,f ρ ω=xa (.ex c,ω')/\r=.ex c)∨∃ a ω1,f ρ ω=xa (.ok a,ω1)/\g a ρ ω1=xa (r,ω'):=by
 unfold oB at h;split at h
 ·cases h
 ·cases h;exact .inl ⟨_,‹_›,rfl⟩
 ·exact .inr ⟨_,_,‹_›,h⟩
noncomputable def oR {α:Type} (o:Option (α×Om)):Option (Rz α×Om):=o.map fun p=>(.ok p.1,p.2)
theorem cN {r:Rz α} (h:oR o=xa (r,ω')):∃ a,o=xa (a,ω')/\r=.ok a:=by
 obtain⟨⟨a,w⟩,e1,e2⟩:=aI h;cases e2;exact⟨a,e1,rfl⟩
noncomputable def oP (f:DF):OG D:=fun ρ ω=>oR ((f ρ).map fun d=>(d,ω))
noncomputable def oPT (f:DB):OG Bool:=fun ρ ω=>oR ((f ρ).map fun d=>(d,ω))
noncomputable def pu {α:Type} (o:Option α) (ω:Om):Option (α×Om):=o.map fun d=>(d,ω)
theorem cR {a:α} (h:pu o ω=xa (a,ω')):o=xa a/\ω'=ω:=by
 obtain⟨b,e1,e2⟩:=aI h;cases e2;exact⟨e1,rfl⟩
section
variable {X:Cx}{cls:Nat->af}{E:XE}{e a b c:bw}{es:List bw}{f:DF}{fa fb:OG D}{fl:OG (List D)}{ft ft':OG Bool}{pos p:Pos}
theorem EB (h:DE X e f):OE X cls E e (oP f):=h.imp fun σ H Q ⟨ok,ρ,ω,r,ω',P,h3,h4⟩=>by
 obtain⟨d,e1,rfl⟩:=cN h3;obtain⟨e2,rfl⟩:=cR e1;exact⟨ok,ρ,d,P.okh,P.env,e2,fun v H' s r=>h4 v ok H' (.same P.okh P.st s) r⟩
theorem tO.then_ {K:aa}{r:Rz α} (P:Pre cls K ok H ω σ ρ) (e:oB fa g ρ ω=xa (r,ω')) (hx:∀ c,r=.ex c->exR cls K ok H ω' E c)
  (h:∀ d ω1 v ok1 H1,g d ρ ω1=xa (r,ω')->Nw cls K ok H ok1 H1 ω1->Pre cls K ok1 H1 ω1 σ ρ->Rep K ok1 H1 v d->Q v H1):tO cls K fa E σ H Q:=by
 rcases kE e with⟨c,e1,rfl⟩|⟨d,ω1,e1,e2⟩
 ·exact⟨ok,ρ,ω,.ex c,ω',P,e1,hx c rfl⟩
 ·exact⟨ok,ρ,ω,.ok d,ω1,P,e1,fun v ok1 H1 n r1=>h d ω1 v ok1 H1 e2 n (P.nw n) r1⟩
theorem tOA.then_ {K:aa}{r:Rz α} (P:Pre cls K ok H ω σ ρ) (e:oB fl g ρ ω=xa (r,ω')) (hx:∀ c,r=.ex c->exR cls K ok H ω' E c)
  (h:∀ d ω1 v ok1 H1,g d ρ ω1=xa (r,ω')->Nw cls K ok H ok1 H1 ω1->Pre cls K ok1 H1 ω1 σ ρ->Reps K ok1 H1 v d->Q v H1):tOA cls K fl E σ H Q:=by
 rcases kE e with⟨c,e1,rfl⟩|⟨d,ω1,e1,e2⟩
 ·exact⟨ok,ρ,ω,.ex c,ω',P,e1,hx c rfl⟩
 ·exact⟨ok,ρ,ω,.ok d,ω1,P,e1,fun v ok1 H1 n r1=>h d ω1 v ok1 H1 e2 n (P.nw n) r1⟩
theorem tOT.then_ {K:aa}{r:Rz α} (P:Pre cls K ok H ω σ ρ) (e:oB ft g ρ ω=xa (r,ω')) (hx:∀ c,r=.ex c->exR cls K ok H ω' E c)
  (h:∀ d ω1 ok1 H1,g d ρ ω1=xa (r,ω')->Nw cls K ok H ok1 H1 ω1->Pre cls K ok1 H1 ω1 σ ρ->Q d H1):tOT cls K ft E σ H Q:=by
 rcases kE e with⟨c,e1,rfl⟩|⟨d,ω1,e1,e2⟩
 ·exact⟨ok,ρ,ω,.ex c,ω',P,e1,hx c rfl⟩
 ·exact⟨ok,ρ,ω,.ok d,ω1,P,e1,fun ok1 H1 n=>h d ω1 ok1 H1 e2 n (P.nw n)⟩
theorem exR.nw {K:aa}{c:Nat} (h:exR cls K ok H ω' E c) (n:Nw cls K ok H ok' H' ω1):exR cls K ok' H' ω' E c:=fun ok2 H2 m=>h ok2 H2 (n.trans m)
def wH (cls:Nat->af) (K:aa) (r:R2) (g:Om->D->D->Option (D×Om)):Prop:=∀(ok:Okk) (H:Hp) (ω:Om) (x y:V) (a b d:D) (ω':Om) (Q:VK),OkH ok H->Stt cls K ok H ω->Rep K ok H x a->Rep K ok H y b->g ω a b=xa (d,ω')->
 (∀ v ok' H',Nw cls K ok H ok' H' ω'->Rep K ok' H' v d->Q v H')->r x y H Q
def rH (cls:Nat->af) (K:aa) (r:List V->Hp->VK->Prop) (g:Om->List D->Option (D×Om)):Prop:=∀(ok:Okk) (H:Hp) (ω:Om) (xs:List V) (as:List D) (d:D) (ω':Om) (Q:VK),OkH ok H->Stt cls K ok H ω->Reps K ok H xs as->g ω as=xa (d,ω')->
 (∀ v ok' H',Nw cls K ok H ok' H' ω'->Rep K ok' H' v d->Q v H')->r xs H Q
theorem Fit2.lift {K:aa} (F:Fit2 K r g):wH cls K r fun ω a b=>pu (g a b) ω:=fun ok H ω x y a b d ω' Q h1 st ra rb e k=>by
 obtain⟨ue,rfl⟩:=cR e;exact F ok H x y a b d Q h1 ra rb ue fun v H' s r=>k v ok H' (.same h1 st s) r
theorem FitL.lift {K:aa} (F:FitL K r g):rH cls K r fun ω a=>pu (g a) ω:=fun ok H ω x a d ω' Q h1 st ra e k=>by
 obtain⟨ue,rfl⟩:=cR e;exact F ok H x a d Q h1 ra ue fun v H' s r=>k v ok H' (.same h1 st s) r
noncomputable def o2 (g:Om->D->D->Option (D×Om)) (f h:OG D):OG D:=oB f fun a=>oB h fun b _ ω=>oR (g ω a b)
noncomputable def oL (g:Om->List D->Option (D×Om)) (f:OG (List D)):OG D:=oB f fun as _ ω=>oR (g ω as)
theorem tO.op {K:aa} (F:wH cls K r g) (h:tO cls K (o2 g fa fb) E σ H Q):tOp r (tO cls K fa E) (tO cls K fb E) σ H Q:=by
 obtain⟨ok,ρ,ω,rz,ω',P,e,q⟩:=h;refine tO.then_ P e (fun c z=>by subst z;exact q) fun a ω1 v ok1 H1 e1 n1 P1 r1=> ?_;refine tO.then_ P1 e1 (fun c z=>by subst z;exact exR.nw q n1) fun b ω2 u ok2 H2 e2 n2 P2 r2=> ?_;obtain⟨d,e3,rfl⟩:=cN e2;exact F ok2 H2 ω2 v u a b d ω' Q P2.okh P2.st (r1.ex n2.ex) r2 e3 fun w ok3 H3 n3 r3=>q w ok3 H3 (n1.trans (n2.trans n3)) r3
theorem uR (ho:OpR X (j4 op) r) (F:wH cls X.K r g) (ha:OE X cls E a fa) (hb:OE X cls E b fb):OE X cls E (.BinOp a op b pos) (o2 g fa fb):=
 (PU ho ha hb).imp fun _ _ _ h=>tO.op F h
theorem Jl (ho:OpR X (fx op) r) (F:wH cls X.K r g) (ha:OE X cls E a fa) (hb:OE X cls E b fb) (hm:iy op b=false):OE X cls E (.Compare a [op] [b] pos) (o2 g fa fb):=
 (Ke ho ha hb hm).imp fun _ _ _ h=>tO.op F h
noncomputable def bX (f:OG D):OG Bool:=oB f fun d _ ω=>oR (pu (toB d) ω)
theorem kC (ho:OpR X (fx op) r) (F:wH cls X.K r g) (ha:OE X cls E a fa) (hb:OE X cls E b fb) (hm:iy op b=false):OT X cls E (.Compare a [op] [b] pos) (bX (o2 g fa fb)):=
 (JN ho ha hb hm).imp fun σ H Q ⟨ok,ρ,ω,r,ω',P,e,q⟩=>by
  refine tO.op F ?_;refine tO.then_ P e (fun c z=>by subst z;exact q) fun d ω1 v ok1 H1 e1 n1 P1 r1=> ?_;obtain⟨k,e3,rfl⟩:=cN e1;obtain⟨ue3,rfl⟩:=cR e3;obtain rfl:=oI ue3;exact⟨k,r1.bl_inv,q ok1 H1 n1⟩
noncomputable def iP (f:OG D):OG Bool:=oB f fun d _ ω=>oR (pu (QN d) ω)
theorem Nj (h:OE X cls E e fa) (he:∀ whole,isTrue e X.env whole=(do let v <- whole;ng e.pos;holding [v] (truthy v)):=by intro _;rfl):OT X cls E e (iP fa):=(GU h he).imp fun σ H Q ⟨ok,ρ,ω,r,ω',P,e,q⟩=>by
 refine tO.then_ P e (fun c z=>by subst z;exact q) fun d ω1 v ok1 H1 e1 n1 P1 r1=> ?_;obtain⟨k,e3,rfl⟩:=cN e1;obtain⟨ue3,rfl⟩:=cR e3;exact⟨k,JC r1 ue3,q ok1 H1 n1⟩
noncomputable def iV (f:OG Bool):OG Bool:=oB f fun k _ ω=>xa (.ok (!k),ω)
theorem Nk (h:OT X cls E a ft):OT X cls E (.UnaryOp .Not a pos) (iV ft):=(MM h).imp fun σ H Q ⟨ok,ρ,ω,r,ω',P,e,q⟩=>by
 refine tOT.then_ P e (fun c z=>by subst z;exact q) fun d ω1 ok1 H1 e1 n1 P1=> ?_;cases e1;exact q ok1 H1 n1
abbrev OW (X:Cx) (cls:Nat->af) (E:XE) (e:bw) (f:OG Bool):Prop:=PW X e (tOT cls X.K f E)
noncomputable def BD (f g:OG Bool):OG Bool:=oB f fun k ρ ω=>if k=true then g ρ ω else xa (.ok false,ω)
noncomputable def oOr (f g:OG Bool):OG Bool:=oB f fun k ρ ω=>if k=true then xa (.ok true,ω) else g ρ ω
variable {rest:List bw}
theorem Kh (ha:OT X cls E a ft):OW X cls E (.BoolOp .And [a] pos) ft:=JM ha
theorem Nh (ha:OT X cls E a ft):OW X cls E (.BoolOp .Or [a] pos) ft:=MJ ha
theorem Ni (ha:OT X cls E a ft) (hb:OW X cls E (.BoolOp .And (b::rest) pos) ft'):OW X cls E (.BoolOp .And (a::b::rest) pos) (BD ft ft'):=PW.imp (MK ha hb) fun σ H Q ⟨ok,ρ,ω,r,ω',P,e,q⟩=>by
 refine tOT.then_ P e (fun c z=>by subst z;exact q) fun d ω1 ok1 H1 e1 n1 P1=> ?_;cases d with
 |true=>
  refine Mj ⟨ok1,ρ,ω1,r,ω',P1,e1,?_⟩;cases r with
  |ok b=>exact fun ok2 H2 n2=>q ok2 H2 (n1.trans n2)
  |ex c=>exact exR.nw q n1
 |false=>
  cases e1;exact Ml (q ok1 H1 n1)
theorem PZ (ha:OT X cls E a ft) (hb:OW X cls E (.BoolOp .Or (b::rest) pos) ft'):OW X cls E (.BoolOp .Or (a::b::rest) pos) (oOr ft ft'):=PW.imp (PP ha hb) fun σ H Q ⟨ok,ρ,ω,r,ω',P,e,q⟩=>by
 refine tOT.then_ P e (fun c z=>by subst z;exact q) fun d ω1 ok1 H1 e1 n1 P1=> ?_;cases d with
 |false=>
  refine Ml ⟨ok1,ρ,ω1,r,ω',P1,e1,?_⟩;cases r with
  |ok b=>exact fun ok2 H2 n2=>q ok2 H2 (n1.trans n2)
  |ex c=>exact exR.nw q n1
 |true=>
  cases e1;exact Mj (q ok1 H1 n1)
theorem Ry (h:OW X cls E e ft):OT X cls E e ft:=PW.pt h
noncomputable def aO:OG (List D):=fun _ ω=>xa (.ok [],ω)
noncomputable def aC (f:OG D) (g:OG (List D)):OG (List D):=oB f fun d=>oB g fun ds _ ω=>xa (.ok (d::ds),ω)
theorem NV:OA X cls E [] aO:=(PA.imp Bz) fun σ H Q ⟨ok,ρ,ω,r,ω',P,e,q⟩=>by
 cases e;exact q [] ok H (.refl P.okh P.st) .nil
theorem KS (ha:OE X cls E e fa) (hr:OA X cls E es fl) (hs:ay (e::es) X.env=(false,eval e X.env)::ay es X.env:=by rfl):OA X cls E (e::es) (aC fa fl):=
 (pA ha hr hs).imp fun σ H Q ⟨ok,ρ,ω,r,ω',P,e,q⟩=>by
  refine tO.then_ P e (fun c z=>by subst z;exact q) fun d ω1 v ok1 H1 e1 n1 P1 r1=> ?_;refine tOA.then_ P1 e1 (fun c z=>by subst z;exact exR.nw q n1) fun ds ω2 vs ok2 H2 e2 n2 P2 r2=> ?_;cases e2;exact q (v::vs) ok2 H2 (n1.trans n2) (.cons (r1.ex n2.ex) r2)
theorem NJ (h:OA X cls E es fl):OE X cls E (.Tuple es x1 pos) (oL (fun ω ds=>pu (rP ds) ω) fl):=(MV h).imp fun σ H Q ⟨ok,ρ,ω,r,ω',P,e,q⟩=>by
 refine tOA.then_ P e (fun c z=>by subst z;exact q) fun ds ω1 vs ok1 H1 e1 n1 P1 r1=> ?_;obtain⟨d,e3,rfl⟩:=cN e1;obtain⟨ue3,rfl⟩:=cR e3;obtain⟨hz,rfl⟩:=bP ue3;refine⟨by rw[r1.length];exact hz,fun p n=> ?_⟩;exact q _ ok1 _ (n1.trans (.same P1.okh P1.st (cK n))) (.tup_new (P1.okh p n) n r1)
theorem NQ (h:OA X cls E es fl):OE X cls E (.List es pos) (oL (fun ω ds=>pu (Ib ds) ω) fl):=(Jd h).imp fun σ H Q ⟨ok,ρ,ω,r,ω',P,e,q⟩=>by
 refine tOA.then_ P e (fun c z=>by subst z;exact q) fun ds ω1 vs ok1 H1 e1 n1 P1 r1=> ?_;obtain⟨d,e3,rfl⟩:=cN e1;obtain⟨ue3,rfl⟩:=cR e3;obtain⟨hz,rfl⟩:=bP ue3;refine⟨by rw[r1.length];exact hz,fun p n=> ?_⟩;exact q _ ok1 _ (n1.trans (.same P1.okh P1.st (cK n))) (.lst_new (P1.okh p n) n r1)
noncomputable def Gx (ω:Om) (ds:List D):Option (D×Om):=if ds.length<=sizeLine then xa (.obj ω.length,ω++[.ml ds]) else xb
theorem Nw.ml {K:aa}{p:af} (h:OkH ok H) (t:Stt cls K ok H ω) (np:H p=xb) (r:Reps K ok H xs ds):Nw cls K ok H (okN ok ω.length p) (upd H p (.lst xs)) (ω++[.ml ds]):=
 Nw.make h t np ⟨xs,aP,r.mono (fun b u k e=>Ag np b u k e) fun m b q=>uQ t m b q⟩
theorem KG (h:OA X cls E es fl):OE X cls E (.List es pos) (oL Gx fl):=(Jd h).imp fun σ H Q ⟨ok,ρ,ω,r,ω',P,e,q⟩=>by
 refine tOA.then_ P e (fun c z=>by subst z;exact q) fun ds ω1 vs ok1 H1 e1 n1 P1 r1=> ?_;obtain⟨d,e3,rfl⟩:=cN e1;obtain⟨hz,e4⟩:=bP e3;cases e4;refine⟨by rw[r1.length];exact hz,fun p n=> ?_⟩;exact q _ _ _ (n1.trans (.ml P1.okh P1.st n r1)) .new_obj
theorem tO.cb {K:aa} (F:rH cls K r g) (h:tO cls K (oL g fl) E σ H Q):tCB r (tOA cls K fl E) σ H Q:=by
 obtain⟨ok,ρ,ω,rz,ω',P,e,q⟩:=h;refine tOA.then_ P e (fun c z=>by subst z;exact q) fun ds ω1 vs ok1 H1 e1 n1 P1 r1=> ?_;obtain⟨d,e3,rfl⟩:=cN e1;exact F ok1 H1 ω1 vs ds d ω' Q P1.okh P1.st r1 e3 fun w ok3 H3 n3 r3=>q w ok3 H3 (n1.trans n3) r3
theorem gY {id:String} (hc:CallR X (.builtin id) r) (F:rH cls X.K r g) (hg:Gl X x) (hm:X.mg x=xb) (hv:dq x=xa (.builtin id)) (ha:OA X cls E (e::es) fl)
  (hn:x≠"__name__":=by decide) (hdb:(x==("__debug__":Str))=false:=by decide)
  (he:ay (e::es) X.env=(false,eval e X.env)::ay es X.env:=by rfl) (hpl:(dw pos (ay es X.env)).any (·.1)=false:=by rfl):OE X cls E (.Call (.Name x p) (e::es) [] pos) (oL g fl):=
 (uO hc hg hm hv ha hn hdb he hpl).imp fun _ _ _ h=>tO.cb F h
theorem lK (hc:CallR X (.type T) r) (F:rH cls X.K r g) (hg:Gl X x) (hm:X.mg x=xb) (hv:dq x=xa (.type T)) (ha:OA X cls E (e::es) fl)
  (hn:x≠"__name__":=by decide) (hdb:(x==("__debug__":Str))=false:=by decide)
  (he:ay (e::es) X.env=(false,eval e X.env)::ay es X.env:=by rfl) (hpl:(dw pos (ay es X.env)).any (·.1)=false:=by rfl):OE X cls E (.Call (.Name x p) (e::es) [] pos) (oL g fl):=
 (Er hc hg hm hv ha hn hdb he hpl).imp fun _ _ _ h=>tO.cb F h
end
end L2.MB
end
section
namespace L2.MB
mutual
noncomputable def fM:D->D->Bool
 |.non,.non=>true
 |.bl a,.bl b=>a==b
 |.int a,.int b=>a==b
 |.str a,.str b=>decide (a=b)
 |.lst a,.lst b=>sameDs a b
 |.tup a,.tup b=>sameDs a b
 |.obj a,.obj b=>a==b
 |.scr a,.scr b=>sameDs a b
 |_,_=>false
noncomputable def sameDs:List D->List D->Bool
 |[],[]=>true
 |a::as,b::bs=>fM a b&&sameDs as bs
 |_,_=>false
end
mutual
theorem Bu:∀(a b:D),fM a b=true->a=b
 |.non,b,h=>by cases b <;> first|rfl|(simp[fM] at h)
 |.bl a,b,h=>by cases b <;> simp[fM] at h;rw[h]
 |.int a,b,h=>by cases b <;> simp[fM] at h;rw[h]
 |.str a,b,h=>by cases b <;> simp[fM] at h;rw[h]
 |.obj a,b,h=>by cases b <;> simp[fM] at h;rw[h]
 |.lst a,b,h=>by
  cases b with
  |lst b=>rw[sameDs_eq a b (by simpa [fM] using h)]
  |_=>simp[fM] at h
 |.scr a,b,h=>by
  cases b with
  |scr b=>rw[sameDs_eq a b (by simpa [fM] using h)]
  |_=>simp[fM] at h
 |.tup a,b,h=>by
  cases b with
  |tup b=>rw[sameDs_eq a b (by simpa [fM] using h)]
  |_=>simp[fM] at h
theorem sameDs_eq:∀(a b:List D),sameDs a b=true->a=b
 |[],[],_=>rfl
 |[],_::_,h=>by simp[sameDs] at h
 |_::_,[],h=>by simp[sameDs] at h
 |a::as,b::bs,h=>by
  simp only[sameDs,br] at h;rw[Bu a b h.1,sameDs_eq as bs h.2]
end
noncomputable def cellOf (ω:Om):D->Option Ob
 |.obj n=>ω[n]?
 |_=>xb
theorem dQ (h:cellOf ω d=xa ob):∃ n,d=.obj n/\ω[n]?=xa ob:=by
 cases d with
 |obj n=>exact⟨n,rfl,h⟩
 |_=>cases h
theorem Stt.ref {K:aa} (t:Stt cls K ok H ω) (r:Rep K ok H v (.obj n)) (e:ω[n]?=xa ob):∃ a,v=.ref a/\ok.al n=xa a/\CellR cls K ok H a ob:=by
 obtain⟨a,rfl,e1⟩:=r.obj_inv;obtain⟨b,e2,c⟩:=t.cell n ob e;rw[e1] at e2;cases e2;exact⟨a,rfl,e1,c⟩
noncomputable def Mn (c:Nat) (x:Str) (ω:Om) (d:D):Option D:=match cellOf ω d with
 |some (.ins c' fs)=>if c'=c then fs.lookup x else xb
 |_=>xb
theorem Ie (h:Mn c x ω d=xa y):∃ n fs,d=.obj n/\ω[n]?=xa (.ins c fs)/\fs.lookup x=xa y:=by
 unfold Mn at h;split at h
 ·rename_i c' fs hc
  obtain⟨n,rfl,e⟩:=dQ hc
  by_cases hcc:c'=c
  ·subst hcc;rw[if_pos rfl] at h;exact⟨n,fs,rfl,e,h⟩
  ·rw[if_neg hcc] at h;cases h
 ·cases h
noncomputable def fX (c:Nat) (x:Str) (f:OG D):OG D:=oB f fun d _ ω=>oR (pu (Mn c x ω d) ω)
section
variable {X:Cx}{cls:Nat->af}{E:XE}{e a b c o i value:bw}{es:List bw}{f:DF}{fa fb fo fi fv:OG D}{fl:OG (List D)}{ft ft':OG Bool}{pos p apos pos':Pos}{x m:Str}{cn:Nat}
theorem NR (hc:Cls X.K (cls cn)) (hn:NoAttr X.K (cls cn) x) (he:OE X cls E e fa) (hb:ig e x X.env (eval e X.env)=eval e X.env:=by rfl):OE X cls E (.Attribute e x pos) (fX cn x fa):=(Nb he hb).imp fun σ H Q ⟨ok,ρ,ω,r,ω',P,e,q⟩=>by
 refine tO.then_ P e (fun c z=>by subst z;exact q) fun d ω1 v ok1 H1 e1 n1 P1 r1=> ?_;obtain⟨y,e3,rfl⟩:=cN e1;obtain⟨ue3,rfl⟩:=cR e3;obtain⟨n,fs,rfl,e4,e5⟩:=Ie ue3;obtain⟨a,rfl,e6,dx,vs,e7,kv⟩:=P1.st.ref r1 e4;obtain⟨u,e8,ru⟩:=kv.look e5;exact⟨a,_,dx,vs,u,rfl,e7,hc,hn,e8,q u ok1 H1 n1 ru⟩
noncomputable def pZ (ω:Om) (a b:D):Option D:=match cellOf ω a with
 |some (.ml ds)=>(toI b).bind fun i=>atI ds i
 |some _=>xb
 |none=>gIx a b
theorem LH {K:aa}:wH cls K (fun x y H Q=>(∃ p xs i v,x=.ref p/\y=.int i/\SqL K H p xs/\atI xs i=xa v/\Q v H)∨(∃ p xs i v,x=.ref p/\y=.int i/\SqT K H p xs/\atI xs i=xa v/\Q v H)∨
  ∃ z i c,x=.str z/\y=.int i/\z.length<=sizeLine/\atI z.cps.toList i=xa c/\Q (.str ⟨#[c]⟩) H) fun ω a b=>pu (pZ ω a b) ω:=fun ok H ω x y a b d ω' Q h1 st ra rb e k=>by
 obtain⟨ue,rfl⟩:=cR e;clear e;unfold pZ at ue;cases hc:cellOf ω' a with
 |some ob=>
  rw[hc] at ue;obtain⟨n,rfl,e1⟩:=dQ hc;cases ob with
  |ml ds=>
   obtain⟨i,e0,ue⟩:=aQ (show(toI b).bind _=xa d from ue);obtain rfl:=zU e0;obtain⟨p,rfl,e2,xs,e3,r⟩:=st.ref ra e1;obtain rfl:=rb.int_inv;obtain⟨v,e4,rv⟩:=r.atI ue;exact .inl ⟨p,xs,i,v,rfl,rfl,SqL.of e3,e4,k v ok H (.refl h1 st) rv⟩
  |_=>cases ue
 |none=>
  rw[hc] at ue;have ue':gIx a b=xa d:=ue;have k':∀ v H',Same H H'->Rep K ok H' v d->Q v H':=fun v H' s r=>k v ok H' (.same h1 st s) r;cases b with
  |int i=>
   obtain rfl:=rb.int_inv;cases a with
   |lst ds=>
    obtain⟨p,xs,rfl,h,r⟩:=ra.lst_inv;obtain⟨v,e1,r1⟩:=r.atI ue';exact .inl ⟨p,xs,i,v,rfl,rfl,h.sq,e1,k' v H (Same.refl H) r1⟩
   |scr ds=>
    obtain⟨p,xs,rfl,h,r⟩:=ra.scr_inv;obtain⟨v,e1,r1⟩:=r.atI ue';exact .inl ⟨p,xs,i,v,rfl,rfl,h.sq,e1,k' v H (Same.refl H) r1⟩
   |tup ds=>
    obtain⟨p,xs,rfl,h,r⟩:=ra.tup_inv;obtain⟨v,e1,r1⟩:=r.atI ue';exact .inr (.inl ⟨p,xs,i,v,rfl,rfl,h.sq,e1,k' v H (Same.refl H) r1⟩)
   |str z=>
    obtain rfl:=ra.str_inv;have e':(if z.length<=sizeLine then(L2.atI z.cps.toList i).map fun c=>D.str ⟨#[c]⟩ else xb)=xa d:=ue'
    by_cases hz:z.length<=sizeLine
    ·rw[if_pos hz] at e';cases q:L2.atI z.cps.toList i with
     |none=>rw[q] at e';cases e'
     |some c=>
      rw[q] at e';cases e';exact .inr (.inr ⟨z,i,c,rfl,rfl,hz,q,k' _ H (Same.refl H) (.str _)⟩)
    ·rw[if_neg hz] at e';cases e'
   |_=>cases ue'
  |_=>cases a <;> cases ue'
theorem Qj (ha:OE X cls E a fa) (hb:OE X cls E b fb) (hs:Gm b:=by intro _ _;rfl):OE X cls E (.Subscript a b pos) (o2 (fun ω a b=>pu (pZ ω a b) ω) fa fb):=(PV Ol ha hb hs).imp fun _ _ _ h=>tO.op LH h
noncomputable def toK:D->Option Key
 |.int i=>xa (.inl i)
 |.str x=>xa (.inr x)
 |_=>xb
noncomputable def Mu:List D->Option (List Key)
 |[]=>xa []
 |d::ds=>(toK d).bind fun k=>(Mu ds).map fun ks=>k::ks
noncomputable def ofK:Key->D
 |.inl i=>.int i
 |.inr x=>.str x
theorem zR {K:aa} (h:toK d=xa k) (r:Rep K ok H v d):v=kV k:=by
 cases d with
 |int i=>cases h;exact r.int_inv
 |str x=>cases h;exact r.str_inv
 |_=>cases h
theorem Bq {K:aa}:∀ {vs:List V}{ds:List D}{ks:List Key},Mu ds=xa ks->Reps K ok H vs ds->vs=ks.map kV
 |_,_,_,h,.nil=>by cases h;rfl
 |_,_,_,h,.cons r rs=>by
  obtain⟨k,e1,h⟩:=aQ h;obtain⟨ks,e2,rfl⟩:=aI h;rw[zR e1 r,Bq e2 rs];rfl
noncomputable def DD:D->Option (List Key)
 |.tup ds=>Mu ds
 |_=>xb
theorem toT'_rep {K:aa} (h:DD d=xa ks) (r:Rep K ok H v d):∃ b,v=.ref b/\ok b/\H b=xa (.tup (ks.map kV)):=by
 cases d with
 |tup ds=>
  obtain⟨b,xs,rfl,g,rs⟩:=r.tup_inv;rw[Bq h rs] at g;exact⟨b,rfl,g.1,g.2⟩
 |_=>cases h
section
variable {κ:Type} [DecidableEq κ]
noncomputable def gN (kvs:List (κ×D)) (k:κ):Option D:=(kvs.find? fun kv=>decide (kv.1=k)).map (·.2)
noncomputable def putD (kvs:List (κ×D)) (k:κ) (v:D):List (κ×D):=if(kvs.any fun kv=>decide (kv.1=k))=true then kvs.map (fun kv=>if kv.1=k then(kv.1,v) else kv) else kvs++[(k,v)]
noncomputable def eA (kvs:List (κ×D)) (k:κ):List (κ×D):=kvs.filter fun kv=>decide (kv.1≠k)
variable {K:aa}{ok:Okk}{H:Hp}
theorem KvR.val:∀ {vs:List (κ×V)}{ds:List (κ×D)}{d:D},KvR K ok H vs ds->gN ds k=xa d->∃ v,wJ vs k=xa v/\Rep K ok H v d
 |_,_,_,.nil,e=>by cases e
 |_,_,d,@KvR.cons _ _ _ _ k' v d' vs ds r rs,e=>by
  by_cases q:k'=k
  ·have e':gN ((k',d')::ds) k=xa d':=by simp[gN,gz,q]
   rw[e'] at e;cases e;exact⟨v,nM (p:=(k',v)) q,r⟩
  ·have e':gN ((k',d')::ds) k=gN ds k:=by simp[gN,gz,q]
   rw[e'] at e;obtain⟨u,e1,ru⟩:=KvR.val rs e;exact⟨u,by rw[lA (p:=(k',v)) q];exact e1,ru⟩
theorem KvR.val_none:∀ {vs:List (κ×V)}{ds:List (κ×D)},KvR K ok H vs ds->gN ds k=xb->wJ vs k=xb
 |_,_,.nil,e=>rfl
 |_,_,@KvR.cons _ _ _ _ k' v d' vs ds r rs,e=>by
  by_cases q:k'=k
  ·have e':gN ((k',d')::ds) k=xa d':=by simp[gN,gz,q]
   rw[e'] at e;cases e
  ·have e':gN ((k',d')::ds) k=gN ds k:=by simp[gN,gz,q]
   rw[e'] at e;rw[lA (p:=(k',v)) q];exact KvR.val_none rs e
theorem KvR.any:∀ {vs:List (κ×V)}{ds:List (κ×D)},KvR K ok H vs ds->(vs.any fun kv=>decide (kv.1=k))=ds.any fun kv=>decide (kv.1=k)
 |_,_,.nil=>rfl
 |_,_,.cons _ rs=>by rw[lu,lu,KvR.any rs]
theorem KvR.rep1 (q:Rep K ok H v d):∀ {vs:List (κ×V)}{ds:List (κ×D)},KvR K ok H vs ds->KvR K ok H (vs.map fun kv=>if kv.1=k then(kv.1,v) else kv) (ds.map fun kv=>if kv.1=k then(kv.1,d) else kv)
 |_,_,.nil=>.nil
 |_,_,@KvR.cons _ _ _ _ k' v' d' vs ds r rs=>by
  rw[bg,bg]
  by_cases z:k'=k
  ·rw[if_pos z,if_pos z];exact .cons q (KvR.rep1 q rs)
  ·rw[if_neg z,if_neg z];exact .cons r (KvR.rep1 q rs)
theorem KvR.snoc (q:Rep K ok H v d):∀ {vs:List (κ×V)}{ds:List (κ×D)},KvR K ok H vs ds->KvR K ok H (vs++[(k,v)]) (ds++[(k,d)])
 |_,_,.nil=>.cons q .nil
 |_,_,.cons r rs=>.cons r (KvR.snoc q rs)
theorem KvR.put {ds:List (κ×D)} (h:KvR K ok H vs ds) (q:Rep K ok H v d):KvR K ok H (mS vs k v) (putD ds k d):=by
 unfold mS putD;rw[h.any];split
 ·exact h.rep1 q
 ·exact h.snoc q
theorem KvR.drop:∀ {vs:List (κ×V)}{ds:List (κ×D)},KvR K ok H vs ds->KvR K ok H (yO vs k) (eA ds k)
 |_,_,.nil=>.nil
 |_,_,@KvR.cons _ _ _ _ k' v' d' vs ds r rs=>by
  unfold yO eA
  by_cases z:k'=k
  ·rw[om,om];simp only[z,ne_eq,not_true_eq_false,decide_false,d9,if_false];exact KvR.drop rs
  ·rw[om,om];simp only[z,ne_eq,not_false_eq_true,decide_true,if_true];exact .cons r (KvR.drop rs)
end
noncomputable def DG (ω:Om) (d y:D):Option (Option D):=match cellOf ω d with
 |some (.dt kvs)=>(DD y).map fun k=>gN kvs k
 |some (.dz kvs)=>(DD y).map fun k=>gN kvs k
 |some (.dk kvs)=>(toK y).map fun k=>gN kvs k
 |_=>xb
def ResR (K:aa) (ok:Okk) (H:Hp):Option D->Option V->Prop
 |some z,u=>∃ v,u=xa v/\Rep K ok H v z
 |none,u=>u=xb
theorem ResR.isSome {K:aa} (h:ResR K ok H r u):u.isSome=r.isSome:=by
 cases r with
 |none=>rw[show u=xb from h];rfl
 |some z=>obtain⟨v,rfl,_⟩:=h;rfl
theorem KvR.res {κ:Type} [DecidableEq κ] {K:aa}{ok:Okk}{H:Hp}{k:κ}{vs:List (κ×V)}{ds:List (κ×D)} (h:KvR K ok H vs ds):ResR K ok H (gN ds k) (wJ vs k):=by
 cases q:gN ds k with
 |none=>exact h.val_none q
 |some z=>exact h.val q
theorem DGet.of {K:aa}{x y:V} (t:Stt cls K ok H ω) (rx:Rep K ok H x d) (ry:Rep K ok H y k) (e:DG ω d k=xa r):∃ a u,x=.ref a/\DGet H a y u/\ResR K ok H r u:=by
 unfold DG at e;cases hc:cellOf ω d with
 |none=>rw[hc] at e;cases e
 |some ob=>
  rw[hc] at e;obtain⟨n,rfl,e1⟩:=dQ hc;cases ob with
  |dt kvs=>
   obtain⟨a,rfl,e2,vs,e3,kv⟩:=t.ref rx e1;obtain⟨ks,e4,e5⟩:=aI (show(DD k).map _=xa r from e);subst e5;obtain⟨b,rfl,_,hb⟩:=toT'_rep e4 ry;exact⟨a,_,rfl,DGet.t e3 hb,kv.res⟩
  |dz kvs=>
   obtain⟨a,rfl,e2,ob,vs,e3,kv⟩:=t.ref rx e1;obtain⟨ks,e4,e5⟩:=aI (show(DD k).map _=xa r from e);subst e5;obtain⟨b,rfl,_,hb⟩:=toT'_rep e4 ry;exact⟨a,_,rfl,.inr ⟨vs,ks,b,.inr ⟨ob,e3⟩,rfl,hb,rfl⟩,kv.res⟩
  |dk kvs=>
   obtain⟨a,rfl,e2,vs,e3,kv⟩:=t.ref rx e1;obtain⟨ks,e4,e5⟩:=aI (show(toK k).map _=xa r from e);subst e5;obtain rfl:=zR e4 ry;exact⟨a,_,rfl,DGet.k e3,kv.res⟩
  |_=>cases e
noncomputable def iD (ω:Om) (d y:D):Option D:=(DG ω d y).join
theorem KN (hu:X.A.units+1<fe) (ho:OE X cls E o fo) (hi:OE X cls E i fi) (hs:QJ i:=by intro _ _;rfl):OE X cls E (.Subscript o i pos) (o2 (fun ω a b=>pu (iD ω a b) ω) fo fi):=(Kc hu ho hi hs).imp fun σ H Q ⟨ok,ρ,ω,r,ω',P,e,q⟩=>by
 refine tO.then_ P e (fun c z=>by subst z;exact q) fun d ω1 v ok1 H1 e1 n1 P1 r1=> ?_;refine tO.then_ P1 e1 (fun c z=>by subst z;exact exR.nw q n1) fun y ω2 u ok2 H2 e2 n2 P2 r2=> ?_;obtain⟨z,e3,rfl⟩:=cN e2;obtain⟨ue3,rfl⟩:=cR e3;have e4:DG ω' d y=xa (xa z):=by
  unfold iD at ue3;cases q:DG ω' d y with
  |none=>rw[q] at ue3;cases ue3
  |some w=>rw[q] at ue3;cases w with
   |none=>cases ue3
   |some w=>cases ue3;rfl
 obtain⟨a,w,rfl,g,w2⟩:=DGet.of P2.st (r1.ex n2.ex) r2 e4;obtain⟨v',rfl,rv⟩:=w2;exact⟨a,v',rfl,g,q v' ok2 H2 (n1.trans n2) rv⟩
noncomputable def Mo (ω:Om) (y d:D):Option D:=(DG ω d y).map fun r=>.bl r.isSome
theorem No (hu:X.A.units+1<fe) (hi:OE X cls E i fi) (ho:OE X cls E o fo) (hm:iy .In o=false:=by with_unfolding_all rfl):OT X cls E (.Compare i [.In] [o] pos) (bX (o2 (fun ω a b=>pu (Mo ω a b) ω) fi fo)):=
 (MN (Ng hu hi ho) hm).imp fun σ H Q ⟨ok,ρ,ω,r,ω',P,e,q⟩=>by
 rcases kE e with⟨c,e1,rfl⟩|⟨dd,ωd,e0,e5⟩
 ·rcases kE e1 with⟨c',e2,e3⟩|⟨y,ω1,e2,e3⟩
  ·cases e3;exact⟨ok,ρ,ω,.ex c,ω',P,e2,q⟩
  ·refine⟨ok,ρ,ω,.ok y,ω1,P,e2,fun v ok1 H1 n1 r1=> ?_⟩;rcases kE e3 with⟨c',e4,e6⟩|⟨z,ω2,e4,e6⟩
   ·cases e6;exact⟨ok1,ρ,ω1,.ex c,ω',P.nw n1,e4,exR.nw q n1⟩
   ·obtain⟨_,_,w⟩:=cN e6;cases w
 ·rcases kE e0 with⟨c',e2,e3⟩|⟨y,ω1,e2,e3⟩
  ·cases e3
  ·refine⟨ok,ρ,ω,.ok y,ω1,P,e2,fun v ok1 H1 n1 r1=> ?_⟩;rcases kE e3 with⟨c',e4,e6⟩|⟨z,ω2,e4,e6⟩
   ·cases e6
   ·refine⟨ok1,ρ,ω1,.ok z,ω2,P.nw n1,e4,fun u ok2 H2 n2 r2=> ?_⟩;obtain⟨w,e7,w'⟩:=cN e6;cases w';obtain⟨ue7,rfl⟩:=cR e7;obtain⟨ro,e8,rfl⟩:=aI ue7;obtain⟨k,e9,rfl⟩:=cN e5;obtain⟨ue9,rfl⟩:=cR e9;cases ue9;obtain⟨a,w,rfl,g,w2⟩:=DGet.of n2.st r2 (r1.ex n2.ex) e8;exact⟨a,w,rfl,g,ro.isSome,by rw[w2.isSome],q ok2 H2 (n1.trans n2)⟩
noncomputable def uS:OG D:=fun _ ω=>xa (.ok (.obj ω.length),ω++[.dt []])
theorem KD:OE X cls E (.Dict [] [] pos) uS:=(PE.imp Hc) fun σ H Q ⟨ok,ρ,ω,r,ω',P,e,q⟩=>by
 cases e;exact fun p n=>q _ _ _ (Nw.make (o:=.dT []) P.okh P.st n ⟨[],aP,.nil⟩) .new_obj
end
end L2.MB
end
section
namespace L2.MB
inductive OOut where
 |nx (ρ:Rho)|rt (d:D)|bk (ρ:Rho)|ct (ρ:Rho)|ex (c:Nat)
abbrev OS:=Rho->Om->Option (OOut×Om)
def nxR (cls:Nat->af) (K:aa) (ok:Okk) (H:Hp) (ω':Om) (ρ:Rho) (N:St->Hp->Prop):Prop:=∀ ok' H' σ',Nw cls K ok H ok' H' ω'->EnvR K ok' H' σ' ρ->σ'.length=ρ.length->N σ' H'
def outO (cls:Nat->af) (K:aa) (ok:Okk) (H:Hp) (ω':Om) (E:XE) (D:Cs):OOut->Prop
 |.nx ρ=>nxR cls K ok H ω' ρ D.nx
 |.bk ρ=>nxR cls K ok H ω' ρ D.bk
 |.ct ρ=>nxR cls K ok H ω' ρ D.ct
 |.rt d=>∀ v ok' H',Nw cls K ok H ok' H' ω'->Rep K ok' H' v d->D.rt v H'
 |.ex c=>exR cls K ok H ω' E c
def tOS (cls:Nat->af) (K:aa) (F:OS) (E:XE):TS:=fun D σ H=>∃(ok:Okk) (ρ:Rho) (ω:Om) (o:OOut) (ω':Om),Pre cls K ok H ω σ ρ/\F ρ ω=xa (o,ω')/\outO cls K ok H ω' E D o
abbrev OSt (X:Cx) (cls:Nat->af) (E:XE) (st:cz) (F:OS):Prop:=PS X st (tOS cls X.K F E)
abbrev OSs (X:Cx) (cls:Nat->af) (E:XE) (st:List cz) (F:OS):Prop:=PSs X st (tOS cls X.K F E)
theorem nxR.nw {K:aa} (h:nxR cls K ok H ω' ρ N) (n:Nw cls K ok H ok' H' ω1):nxR cls K ok' H' ω' ρ N:=fun ok2 H2 σ2 m e l=>h ok2 H2 σ2 (n.trans m) e l
theorem outO.nw {K:aa}{D:Cs} (h:outO cls K ok H ω' E D o) (n:Nw cls K ok H ok' H' ω1):outO cls K ok' H' ω' E D o:=by
 cases o with
 |nx ρ=>exact nxR.nw h n
 |bk ρ=>exact nxR.nw h n
 |ct ρ=>exact nxR.nw h n
 |rt d=>exact fun v ok2 H2 m r=>h v ok2 H2 (n.trans m) r
 |ex c=>exact exR.nw h n
noncomputable def oX {α:Type} (f:OG α) (g:α->Rho->Om->Option (OOut×Om)):OS:=fun ρ ω=>match f ρ ω with
 |none=>xb
 |some (.ex c,ω1)=>xa (.ex c,ω1)
 |some (.ok a,ω1)=>g a ρ ω1
theorem ED {g:α->Rho->Om->Option (OOut×Om)} (h:oX f g ρ ω=xa (o,ω')):(∃ c,f ρ ω=xa (.ex c,ω')/\o=.ex c)∨∃ a ω1,f ρ ω=xa (.ok a,ω1)/\g a ρ ω1=xa (o,ω'):=by
 unfold oX at h;split at h
 ·cases h
 ·cases h;exact .inl ⟨_,‹_›,rfl⟩
 ·exact .inr ⟨_,_,‹_›,h⟩
noncomputable def bN:OS:=fun ρ ω=>xa (.nx ρ,ω)
noncomputable def aG (F G:OS):OS:=fun ρ ω=>match F ρ ω with
 |none=>xb
 |some (.nx ρ1,ω1)=>G ρ1 ω1
 |some (o,ω1)=>xa (o,ω1)
theorem DW (h:aG F G ρ ω=xa (o,ω')):(∃ ρ1 ω1,F ρ ω=xa (.nx ρ1,ω1)/\G ρ1 ω1=xa (o,ω'))∨(F ρ ω=xa (o,ω')/\∀ ρ1,o≠ .nx ρ1):=by
 unfold aG at h;split at h
 ·cases h
 ·exact .inl ⟨_,_,‹_›,h⟩
 ·rename_i o1 ω1 hn q
  cases h;exact .inr ⟨q,fun ρ1 z=>hn ρ1 z⟩
noncomputable def aY (i:Nat) (f:OG D):OS:=oX f fun d ρ ω=>xa (.nx (ρ.set i (xa d)),ω)
noncomputable def bT (f:OG D):OS:=oX f fun _ ρ ω=>xa (.nx ρ,ω)
noncomputable def dG (t:OG Bool) (F G:OS):OS:=oX t fun k ρ ω=>if k=true then F ρ ω else G ρ ω
noncomputable def aW (f:OG D):OS:=oX f fun d _ ω=>xa (.rt d,ω)
section
variable {X:Cx}{cls:Nat->af}{E:XE}{st:cz}{rest body els:List cz}{tg e a b c o i iter value:bw}{es:List bw}{f:DF}{fa fb fo fi fv:OG D}{fl:OG (List D)}{ft ft':OG Bool}{F G:OS}{pos p apos pos':Pos}{x m:Str}{cn:Nat}
theorem tO.thenS {K:aa}{o:OOut}{D:Cs} (P:Pre cls K ok H ω σ ρ) (e:oX fa g ρ ω=xa (o,ω')) (hx:outO cls K ok H ω' E D o)
  (h:∀ d ω1 v ok1 H1,g d ρ ω1=xa (o,ω')->Nw cls K ok H ok1 H1 ω1->Pre cls K ok1 H1 ω1 σ ρ->Rep K ok1 H1 v d->outO cls K ok1 H1 ω' E D o->Q v H1):tO cls K fa E σ H Q:=by
 rcases ED e with⟨c,e1,rfl⟩|⟨d,ω1,e1,e2⟩
 ·exact⟨ok,ρ,ω,.ex c,ω',P,e1,hx⟩
 ·exact⟨ok,ρ,ω,.ok d,ω1,P,e1,fun v ok1 H1 n r1=>h d ω1 v ok1 H1 e2 n (P.nw n) r1 (hx.nw n)⟩
theorem Nr:OSs X cls E [] bN:=(PSs.imp JP) fun D σ H ⟨ok,ρ,ω,o,ω',P,e,q⟩=>by
 cases e;exact q ok H σ (.refl P.okh P.st) P.env P.len
theorem Kp (h1:OSt X cls E st F) (h2:OSs X cls E rest G):OSs X cls E (st::rest) (aG F G):=(GW h1 h2).imp fun D σ H ⟨ok,ρ,ω,o,ω',P,e,q⟩=>by
 rcases DW e with⟨ρ1,ω1,e1,e2⟩|⟨e1,hn⟩
 ·exact⟨ok,ρ,ω,_,ω1,P,e1,fun ok1 H1 σ1 n1 r1 l1=>⟨ok1,ρ1,ω1,o,ω',⟨n1.okh,n1.st,r1,l1⟩,e2,q.nw n1⟩⟩
 ·refine⟨ok,ρ,ω,o,ω',P,e1,?_⟩;cases o with
  |nx ρ1=>exact absurd rfl (hn ρ1)
  |_=>exact q
theorem Nq (h1:OSt X cls E st F):OSs X cls E [st] F:=JO h1
theorem Nv {i:Nat} (hN:X.N.Nodup) (hi:X.N[i]?=xa x) (hx:Loc X.env.scope x) (he:OE X cls E e fa) (hs:ji e (xa (.Name x pos')) pos.line X.env=pure false:=by rfl)
  (hf:X.fn x=true∨X.env.scope.names.lookup x=xa .local:=by first|exact .inl rfl|exact .inr rfl|assumption):OSt X cls E (.Assign [.Name x pos'] e pos) (aY i fa):=
 (MO hN hi hx he hs hf).imp fun D σ H ⟨ok,ρ,ω,o,ω',P,e,q⟩=>by
  refine tO.thenS P e q fun d ω1 v ok1 H1 e1 n1 P1 r1 q1=> ?_;cases e1;exact q1 ok1 H1 _ (.refl P1.okh P1.st) (P1.env.set P1.len r1 i) (by rw[ca,ca];exact P1.len)
theorem Kn (he:OE X cls E e fa) (hs:ji e xb pos.line X.env=pure false:=by rfl):OSt X cls E (.Expr e pos) (bT fa):=
 (JR he hs).imp fun D σ H ⟨ok,ρ,ω,o,ω',P,e,q⟩=>by
  refine tO.thenS P e q fun d ω1 v ok1 H1 e1 n1 P1 r1 q1=> ?_;cases e1;exact q1 ok1 H1 σ (.refl P1.okh P1.st) P1.env P1.len
theorem Qf (hc:OT X cls E c ft) (ha:OSs X cls E body F) (hb:OSs X cls E els G):OSt X cls E (.If c body els pos) (dG ft F G):=(PQ hc ha hb).imp fun D σ H ⟨ok,ρ,ω,o,ω',P,e,q⟩=>by
 rcases ED e with⟨c,e1,rfl⟩|⟨k,ω1,e1,e2⟩
 ·exact⟨ok,ρ,ω,.ex c,ω',P,e1,q⟩
 ·refine⟨ok,ρ,ω,.ok k,ω1,P,e1,fun ok1 H1 n1=> ?_⟩;cases k with
  |true=>exact Mj ⟨ok1,ρ,ω1,o,ω',P.nw n1,e2,q.nw n1⟩
  |false=>exact Ml ⟨ok1,ρ,ω1,o,ω',P.nw n1,e2,q.nw n1⟩
theorem Np (he:OE X cls E e fa):OSt X cls E (.Return (xa e) pos) (aW fa):=(MP he).imp fun D σ H ⟨ok,ρ,ω,o,ω',P,e,q⟩=>by
 refine tO.thenS P e q fun d ω1 v ok1 H1 e1 n1 P1 r1 q1=> ?_;cases e1;exact q1 v ok1 H1 (.refl P1.okh P1.st) r1
noncomputable def lH (f:Str) (v:D):List (Str×D)->List (Str×D)
 |[]=>[(f,v)]
 |(g,x)::r=>if g=f then(g,v)::r else(g,x)::lH f v r
theorem KvR.putF {K:aa} (q:Rep K ok H v d):∀ {vs:List (Str×V)}{ds:List (Str×D)},KvR K ok H vs ds->KvR K ok H (L2.putF x v vs) (lH x d ds)
 |_,_,.nil=>.cons q .nil
 |_,_,@KvR.cons _ _ _ _ k v' d' vs ds r rs=>by
  show KvR K ok H (if k=x then(k,v)::vs else(k,v')::L2.putF x v vs) (if k=x then(k,d)::ds else(k,d')::lH x d ds)
  by_cases z:k=x
  ·rw[if_pos z,if_pos z];exact .cons q rs
  ·rw[if_neg z,if_neg z];exact .cons r (KvR.putF q rs)
noncomputable def vG (c:Nat) (x:Str) (ω:Om) (o v:D):Option Om:=match o with
 |.obj n=>match ω[n]? with
  |some (.ins c' fs)=>if c'=c/\fs.length<1000 then xa (ω.set n (.ins c (lH x v fs))) else xb
  |_=>xb
 |_=>xb
theorem Fw {c:Nat}{o v:D} (h:vG c x ω o v=xa ω'):∃ n fs,o=.obj n/\ω[n]?=xa (.ins c fs)/\fs.length<1000/\ω'=ω.set n (.ins c (lH x v fs)):=by
 unfold vG at h;split at h
 ·split at h
  ·obtain⟨⟨rfl,hl⟩,rfl⟩:=bP h;exact⟨_,_,rfl,‹_›,hl,rfl⟩
  ·cases h
 ·cases h
noncomputable def nE (c:Nat) (x:Str) (fo fv:OG D):OS:=oX fv fun v=>oX fo fun o ρ ω=>(vG c x ω o v).map fun ω'=>(.nx ρ,ω')
theorem Nu (hc:Cls X.K (cls cn)) (hn:NoAttr X.K (cls cn) x) (ho:OE X cls E o fo) (hv:OE X cls E value fv) (hs:ji value (xa (.Attribute o x pos')) pos.line X.env=pure false:=by rfl):OSt X cls E (.Assign [.Attribute o x pos'] value pos) (nE cn x fo fv):=
 (MQ ho hv hs).imp fun D σ H ⟨ok,ρ,ω,oo,ω',P,e,q⟩=>by
  refine tO.thenS P e q fun dv ω1 v ok1 H1 e1 n1 P1 r1 q1=> ?_;refine tO.thenS P1 e1 q1 fun d ω2 u ok2 H2 e2 n2 P2 r2 q2=> ?_;obtain⟨ω3,e3,e4⟩:=aI e2;cases e4;obtain⟨n,fs,rfl,e5,hl,rfl⟩:=Fw e3;obtain⟨a,rfl,e6,dx,vs,e7,kv⟩:=P2.st.ref r2 e5;refine⟨a,_,dx,vs,rfl,e7,hc,hn,by rw[kv.length];exact hl,?_⟩;have nw:=Nw.write (o:=.ins (cls cn) dx (L2.putF x v vs)) (ob:=.ins cn (lH x dv fs)) P2.okh P2.st e6 e7 fun dat=>⟨dx,_,aP,((kv.mono dat fun _ _ z=>z).putF ((r1.ex n2.ex).mono dat))⟩;exact q2 ok2 _ σ nw (P2.env.ex nw.ex) P2.len
noncomputable def pY (ω:Om) (o i v:D):Option Om:=match o,i with
 |.obj n,.int k=>match ω[n]? with
  |some (.ml ds)=>(ixN ds.length k).map fun j=>ω.set n (.ml (ds.set j v))
  |_=>xb
 |_,_=>xb
theorem Fv {o i v:D} (h:pY ω o i v=xa ω'):∃ n k ds j,o=.obj n/\i=.int k/\ω[n]?=xa (.ml ds)/\ixN ds.length k=xa j/\ω'=ω.set n (.ml (ds.set j v)):=by
 unfold pY at h;split at h
 ·split at h
  ·obtain⟨j,e1,rfl⟩:=aI h;exact⟨_,_,_,j,rfl,rfl,‹_›,e1,rfl⟩
  ·cases h
 ·cases h
noncomputable def iR (g:Om->D->D->D->Option Om) (fo fi fv:OG D):OS:=oX fv fun v=>oX fo fun o=>oX fi fun i ρ ω=>(g ω o i v).map fun ω'=>(.nx ρ,ω')
theorem Kl (ho:OE X cls E o fo) (hi:OE X cls E i fi) (hv:OE X cls E value fv) (hs:ui [.Subscript o i pos'] value pos.line X.env=pure false:=by rfl) (hw:uj [.Subscript o i pos'] value X.env=pure xb:=by rfl)
  (h1:(lr [.Subscript o i pos'] X.env).map (·.2)=[assign (.Subscript o i pos') X.env]:=by rfl)
  (ha:∀ v,assign (.Subscript o i pos') X.env v=(do
   let ov <- holding [v] (eval o X.env)
   let iv <- holding [v,ov] (eval i X.env)
   ng pos'
   holding [v,ov,iv] (setItem ov iv v)
   release [v,ov,iv] []):=by intro _;rfl):OSt X cls E (.Assign [.Subscript o i pos'] value pos) (iR pY fo fi fv):=
 (Jb hv (MT ho hi GD ha) hs hw h1).imp fun D σ H ⟨ok,ρ,ω,oo,ω',P,e,q⟩=>by
  refine tO.thenS P e q fun dv ω1 v ok1 H1 e1 n1 P1 r1 q1=> ?_;refine tO.thenS P1 e1 q1 fun d ω2 u ok2 H2 e2 n2 P2 r2 q2=> ?_;refine tO.thenS P2 e2 q2 fun y ω3 w ok3 H3 e3 n3 P3 r3 q3=> ?_;obtain⟨ω4,e4,e5⟩:=aI e3;cases e5;obtain⟨n,k,ds,j,rfl,rfl,e5,hj,rfl⟩:=Fv e4;obtain⟨a,rfl,e6,xs,e7,rs⟩:=P3.st.ref (r2.ex n3.ex) e5;obtain rfl:=r3.int_inv;refine⟨a,xs,k,j,rfl,rfl,e7,by rw[rs.length];exact hj,?_⟩;have nw:=Nw.write (o:=.lst (xs.set j v)) (ob:=.ml (ds.set j dv)) P3.okh P3.st e6 e7 fun dat=>⟨_,aP,(rs.mono dat).set ((r1.ex (n2.ex.trans n3.ex)).mono dat) j⟩;exact q3 ok3 _ σ nw (P3.env.ex nw.ex) P3.len
noncomputable def nG (ω:Om) (o i v:D):Option Om:=match o with
 |.obj n=>match ω[n]? with
  |some (.dt kvs)=>(DD i).bind fun k=>if kvs.length<sizeLine then xa (ω.set n (.dt (putD kvs k v))) else xb
  |some (.dk kvs)=>(toK i).bind fun k=>if kvs.length<sizeLine then xa (ω.set n (.dk (putD kvs k v))) else xb
  |_=>xb
 |_=>xb
theorem Ko (hu:X.A.units+1<fe) (ho:OE X cls E o fo) (hi:OE X cls E i fi) (hv:OE X cls E value fv) (hs:ji value (xa (.Subscript o i pos')) pos.line X.env=pure false:=by rfl):
  OSt X cls E (.Assign [.Subscript o i pos'] value pos) (iR nG fo fi fv):=
 (JS hu ho hi hv hs).imp fun D σ H ⟨ok,ρ,ω,oo,ω',P,e,q⟩=>by
  refine tO.thenS P e q fun dv ω1 v ok1 H1 e1 n1 P1 r1 q1=> ?_;refine tO.thenS P1 e1 q1 fun d ω2 u ok2 H2 e2 n2 P2 r2 q2=> ?_;refine tO.thenS P2 e2 q2 fun y ω3 w ok3 H3 e3 n3 P3 r3 q3=> ?_;obtain⟨ω4,e4,e5⟩:=aI e3;cases e5;have rv:=r1.ex (n2.ex.trans n3.ex);unfold nG at e4;split at e4
  ·split at e4
   ·rename_i n kvs e5
    obtain⟨ks,e8,e9⟩:=aQ e4;obtain⟨hl,rfl⟩:=bP e9;obtain⟨a,rfl,e6,vs,e7,kv⟩:=P3.st.ref (r2.ex n3.ex) e5;obtain⟨b,rfl,_,hb⟩:=toT'_rep e8 r3;refine⟨a,_,rfl,DPut.t e7 hb (by rw[kv.length];exact hl),?_⟩;have nw:=Nw.write (o:=.dT (mS vs ks v)) (ob:=.dt (putD kvs ks dv)) P3.okh P3.st e6 e7 fun dat=>⟨_,aP,(kv.mono dat fun _ _ z=>z).put (rv.mono dat)⟩;exact q3 ok3 _ σ nw (P3.env.ex nw.ex) P3.len
   ·rename_i n kvs e5
    obtain⟨ks,e8,e9⟩:=aQ e4;obtain⟨hl,rfl⟩:=bP e9;obtain⟨a,rfl,e6,vs,e7,kv⟩:=P3.st.ref (r2.ex n3.ex) e5;obtain rfl:=zR e8 r3;refine⟨a,_,rfl,DPut.k e7 (by rw[kv.length];exact hl),?_⟩;have nw:=Nw.write (o:=.dK (mS vs ks v)) (ob:=.dk (putD kvs ks dv)) P3.okh P3.st e6 e7 fun dat=>⟨_,aP,(kv.mono dat fun _ _ z=>z).put (rv.mono dat)⟩;exact q3 ok3 _ σ nw (P3.env.ex nw.ex) P3.len
   ·cases e4
  ·cases e4
structure ItO (cls:Nat->af) (K:aa) (ok1:Okk) (H1:Hp) (C:Om->Bool) (J:It) (ds:List D):Prop where
 go:∀ i ok H ω,Nw cls K ok1 H1 ok H ω->C ω=true->i<ds.length->J.go i H
 yld:∀ i ok H ω x H' d,Nw cls K ok1 H1 ok H ω->C ω=true->J.yld i H x H'->ds[i]?=xa d->Same H H'/\Rep K ok H' x d
 stop:∀ i ok H ω,Nw cls K ok1 H1 ok H ω->C ω=true->ds.length<=i->J.stop i H
abbrev OI':=OG (List D×(Om->Bool))
def tOI (cls:Nat->af) (K:aa) (f:OI') (E:XE):TI:=fun σ H R=>∃(ok:Okk) (ρ:Rho) (ω:Om) (r:Rz (List D×(Om->Bool))) (ω':Om),Pre cls K ok H ω σ ρ/\f ρ ω=xa (r,ω')/\match r with
 |.ok p=>∀ J ok' H',Nw cls K ok H ok' H' ω'->ItO cls K ok' H' p.2 J p.1->R J H'
 |.ex c=>exR cls K ok H ω' E c
abbrev OI (X:Cx) (cls:Nat->af) (E:XE) (tg e:bw) (f:OI'):Prop:=PI X tg e (tOI cls X.K f E)
noncomputable def bM:Om->Bool:=fun _=>true
theorem ItD.toO {K:aa} (h:ItD K ok1.al (GL ok1 H1) J ds):ItO cls K ok1 H1 bM J ds:=by
 have sm:∀ {ok:Okk}{H:Hp}{ω:Om},Nw cls K ok1 H1 ok H ω->Same (GL ok1 H1) H:=fun n b u z=>(n.ex.dat b u (lE z).1 (lE z).2).2;refine⟨fun i ok H ω n _ hi=>h.go i H (sm n) hi,fun i ok H ω x H' d n _ y hd=> ?_,fun i ok H ω n _ hi=>h.stop i H (sm n) hi⟩;obtain⟨s,r⟩:=h.yld i H x H' d (sm n) y hd;refine⟨s,Rep.mono (ok:=⟨fun b=>GL ok1 H1 b≠xb∨H b=xb,ok1.al⟩) (fun b u z w=>⟨?_,w⟩) (fun m a z=>n.ex.ids m a z) r⟩;rcases z with z|z
 ·cases q:GL ok1 H1 b with
  |none=>exact absurd q z
  |some u'=>exact(n.ex.dat b u' (lE q).1 (lE q).2).1
 ·exact n.okh b z
noncomputable def jY (n:Nat) (ds:List D) (ω:Om):Bool:=match ω[n]? with
 |some (.ml ds')=>sameDs ds' ds
 |_=>false
theorem HM (h:jY n ds ω=true):ω[n]?=xa (.ml ds):=by
 unfold jY at h;split at h
 ·rename_i ds' e
  rw[sameDs_eq ds' ds h] at e;exact e
 ·cases h
noncomputable def mY (ω:Om) (d:D):Option (List D×(Om->Bool)):=match d with
 |.lst ds=>xa (ds,bM)
 |.obj n=>match ω[n]? with
  |some (.ml ds)=>xa (ds,jY n ds)
  |_=>xb
 |_=>xb
theorem Ic (h:mY ω d=xa (ds,chk)):(d=.lst ds/\chk=bM)∨∃ n,d=.obj n/\ω[n]?=xa (.ml ds)/\chk=jY n ds:=by
 cases d with
 |lst xs=>cases h;exact .inl ⟨rfl,rfl⟩
 |obj n=>
  have h':(match ω[n]? with
   |some (.ml ds)=>xa (ds,jY n ds)
   |_=>xb)=xa (ds,chk):=h
  split at h'
  ·rename_i xs e
   cases h';exact .inr ⟨n,rfl,e,rfl⟩
  ·cases h'
 |_=>cases h
theorem Ax {K:aa} (e:mY ω1 d=xa (ds,chk)) (st:Stt cls K ok1 H1 ω1) (r:Rep K ok1 H1 v d):
  ∃ a,v=.ref a/\(∃ xs,SqL K H1 a xs)/\∀ ok H ω,Nw cls K ok1 H1 ok H ω->chk ω=true->∃ xs,SqL K H a xs/\Reps K ok H xs ds:=by
 rcases Ic e with⟨rfl,rfl⟩|⟨n,rfl,e1,rfl⟩
 ·obtain⟨a,xs,rfl,g,rs⟩:=r.lst_inv;refine⟨a,rfl,⟨xs,g.sq⟩,fun ok H ω n _=>⟨xs,(g.mono n.ex.dat).sq,rs.ex n.ex⟩⟩
 ·obtain⟨a,rfl,e2,xs,e3,rs⟩:=st.ref r e1;refine⟨a,rfl,⟨xs,SqL.of e3⟩,fun ok H ω nw hc=> ?_⟩;obtain⟨b,e4,xs',e5,rs'⟩:=nw.st.cell n _ (HM hc)
  have:=nw.ex.ids n a e2
  rw[e4] at this;cases this;exact⟨xs',SqL.of e5,rs'⟩
noncomputable def oIL (f:OG D):OI':=oB f fun d _ ω=>oR (pu (mY ω d) ω)
theorem Kx (h:OE X cls E e fa):OI X cls E tg e (oIL fa):=PI.imp (JX h) fun σ H R ⟨ok,ρ,ω,r,ω',P,e,q⟩=>by
 refine tO.then_ P e (fun c z=>by subst z;exact q) fun d ω1 v ok1 H1 e1 n1 P1 r1=> ?_;obtain⟨⟨ds,chk⟩,e3,rfl⟩:=cN e1;obtain⟨ue3,rfl⟩:=cR e3;obtain⟨a,rfl,hx,at_⟩:=Ax ue3 P1.st r1;refine⟨a,rfl,hx,q _ ok1 H1 n1 ⟨fun i ok H ω n c hi=> ?_,fun i ok H ω x H' d n c y hd=> ?_,fun i ok H ω n c hi=> ?_⟩⟩
 ·obtain⟨xs,s1,rs⟩:=at_ ok H ω n c;have hi':i<xs.length:=by rw[rs.length];exact hi
  exact⟨xs,xs[i],s1,by simp[hi']⟩
 ·obtain⟨xs,s1,rs⟩:=at_ ok H ω n c;obtain⟨rfl,y⟩:=y;obtain⟨w,z1,z2⟩:=rs.get hd;rw[y xs s1] at z1;cases z1;exact⟨Same.refl _,z2⟩
 ·obtain⟨xs,s1,rs⟩:=at_ ok H ω n c;exact⟨xs,s1,by rw[rs.length];exact hi⟩
noncomputable def Ph (ω:Om) (ds:List D):Option (List D×(Om->Bool)):=match ds with
 |[a,b]=>(mY ω a).bind fun p=>(mY ω b).map fun q=>(zP p.1 q.1,fun ω=>p.2 ω&&q.2 ω)
 |_=>xb
noncomputable def oIZ (f:OG (List D)):OI':=oB f fun ds _ ω=>oR (pu (Ph ω ds) ω)
theorem NH (hg:Gl X "zip") (hm:X.mg "zip"=xb) (ha:OA X cls E [a,b] fl) (hs:ay [a,b] X.env=[(false,eval a X.env),(false,eval b X.env)]:=by rfl) (hs2:ay [b] X.env=[(false,eval b X.env)]:=by rfl):
  OI X cls E (.Tuple ts k tp) (.Call (.Name "zip" p) [a,b] [] pos) (oIZ fl):=PI.imp (MR hg hm ha hs hs2) fun σ H R ⟨ok,ρ,ω,r,ω',P,e,q⟩=>by
 refine tOA.then_ P e (fun c z=>by subst z;exact q) fun ds ω1 vs ok1 H1 e1 n1 P1 r1=> ?_;obtain⟨⟨dz,chk⟩,e3,rfl⟩:=cN e1;obtain⟨ue3,rfl⟩:=cR e3;unfold Ph at ue3;split at ue3
 ·obtain⟨⟨d1,c1⟩,e4,e5⟩:=aQ ue3;obtain⟨⟨d2,c2⟩,e6,e7⟩:=aI e5;cases e7;obtain⟨v,v',rfl,ra,rb⟩:=r1.two_inv;obtain⟨a1,rfl,hx,at1⟩:=Ax e4 P1.st ra;obtain⟨b1,rfl,hy,at2⟩:=Ax e6 P1.st rb;have hl:(zP d1 d2).length=min d1.length d2.length:=by simp[zP]
  refine⟨a1,b1,rfl,hx,hy,q _ ok1 H1 n1 ⟨fun i ok H ω n c hi=> ?_,fun i ok H ω x H' d n c y hd=> ?_,fun i ok H ω n c hi=> ?_⟩⟩
  ·obtain⟨xs,s1,rs⟩:=at1 ok H ω n (br _ _ ▸ c).1;obtain⟨ys,s2,rs2⟩:=at2 ok H ω n (br _ _ ▸ c).2;rw[hl] at hi;have hi1:i<xs.length:=by rw[rs.length];omega
   have hi2:i<ys.length:=by rw[rs2.length];omega
   exact⟨xs,ys,xs[i],ys[i],s1,s2,by simp[hi1],by simp[hi2]⟩
  ·obtain⟨xs,s1,rs⟩:=at1 ok H ω n (br _ _ ▸ c).1;obtain⟨ys,s2,rs2⟩:=at2 ok H ω n (br _ _ ▸ c).2;obtain⟨T,x1,y1,rfl,hT,hx,hy,rfl⟩:=y;have hx':=hx xs s1;have hy':=hy ys s2;unfold zP at hd;rw[tw] at hd;cases q1:d1[i]? with
   |none=>rw[q1] at hd;cases hd
   |some u1=>
    cases q2:d2[i]? with
    |none=>rw[q1,q2] at hd;cases hd
    |some u2=>
     rw[q1,q2] at hd;cases hd;obtain⟨w1,z1,z2⟩:=rs.get q1;rw[hx'] at z1;cases z1;obtain⟨w2,z3,z4⟩:=rs2.get q2;rw[hy'] at z3;cases z3;exact⟨cK hT,.tup_new (n.okh T hT) hT (.cons z2 (.cons z4 .nil))⟩
  ·obtain⟨xs,s1,rs⟩:=at1 ok H ω n (br _ _ ▸ c).1;obtain⟨ys,s2,rs2⟩:=at2 ok H ω n (br _ _ ▸ c).2;rw[hl] at hi;refine⟨xs,ys,s1,s2,?_⟩;rw[rs.length,rs2.length];omega
 ·cases ue3
noncomputable abbrev EF:XE:=fun _ _=>False
noncomputable def bO (bd:BR) (chk:Om->Bool) (F:OS):List D->OS
 |[],ρ,ω=>if chk ω=true then xa (.nx ρ,ω) else xb
 |d::ds,ρ,ω=>if chk ω=true then(bd d ρ).bind fun ρ1=>match F ρ1 ω with
  |none=>xb
  |some (.nx ρ2,ω2)=>bO bd chk F ds ρ2 ω2
  |some (.ct ρ2,ω2)=>bO bd chk F ds ρ2 ω2
  |some (.bk ρ2,ω2)=>xa (.nx ρ2,ω2)
  |some (.rt d,ω2)=>xa (.rt d,ω2)
  |some (.ex _,_)=>xb else xb
noncomputable def bD (fi:OI') (bd:BR) (F:OS):OS:=oX fi fun p ρ ω=>bO bd p.2 F p.1 ρ ω
theorem cS {α:Type}{c:Prop} [Decidable c] {a:Option α}{b:α} (h:(if c then a else xb)=xa b):c/\a=xa b:=by
 by_cases hc:c
 ·rw[if_pos hc] at h;exact⟨hc,h⟩
 ·rw[if_neg hc] at h;cases h
def RM (g:TG) (tb:TS) (D:Cs) (σ:St) (J:It) (H1:Hp):Prop:=∃ W:Nat->Nat->St->Hp->Prop,(∃ m,W 0 m σ H1)/\∀ i m σ H,W i m σ H->
 (J.stop i H/\D.nx σ H)∨(J.go i H/\∃ N:St->Hp->Prop,(∀ σ' H',N σ' H'->∃ m',m'<m/\W (i+1) m' σ' H')/\∀ x H',J.yld i H x H'->g x σ H' fun σ2 H2=>tb { D with nx:=N,ct:=N,bk:=D.nx } σ2 H2)
theorem Ca {K:aa}{D:Cs}{o:OOut} (it:ItO cls K ok1 H1 chk J ds) (P1:Pre cls K ok1 H1 ω1 σ ρ) (e2':bO bd chk F ds ρ ω1=xa (o,ω')) (q1:outO cls K ok1 H1 ω' EF D o):
  RM (gR K bd) (tOS cls K F EF) D σ J H1:=by
 refine⟨fun i m σ' H'=>∃ ok' ωc ρ',m=ds.length-i/\i<=ds.length/\Nw cls K ok1 H1 ok' H' ωc/\EnvR K ok' H' σ' ρ'/\σ'.length=ρ'.length/\bO bd chk F (ds.drop i) ρ' ωc=xa (o,ω'),
  ⟨ds.length,ok1,ω1,ρ,by simp,iq _,.refl P1.okh P1.st,P1.env,P1.len,by simpa using e2'⟩,?_⟩
 rintro i m σ' H' ⟨ok',ωc,ρ',rfl,hi,n2,env,len,ef⟩
 by_cases hlt:i<ds.length
 ·have hdrop:ds.drop i=ds[i]::ds.drop (i+1):=ql hlt;rw[hdrop] at ef;have ef':(if chk ωc=true then(bd ds[i] ρ').bind fun ρ1=>(match F ρ1 ωc with
   |none=>xb
   |some (.nx ρ2,ω2)=>bO bd chk F (ds.drop (i+1)) ρ2 ω2
   |some (.ct ρ2,ω2)=>bO bd chk F (ds.drop (i+1)) ρ2 ω2
   |some (.bk ρ2,ω2)=>xa (.nx ρ2,ω2)
   |some (.rt d,ω2)=>xa (.rt d,ω2)
   |some (.ex _,_)=>xb) else xb)=xa (o,ω'):=ef
  obtain⟨hc,ef'⟩:=cS ef';obtain⟨ρ1,e3,e4⟩:=aQ ef';refine .inr ⟨it.go i ok' H' ωc n2 hc hlt,fun σ2 H2=>∃ ok2 ω2 ρ2,Nw cls K ok1 H1 ok2 H2 ω2/\EnvR K ok2 H2 σ2 ρ2/\σ2.length=ρ2.length/\bO bd chk F (ds.drop (i+1)) ρ2 ω2=xa (o,ω'),
   fun σ2 H2 ⟨ok2,ω2,ρ2,z1,z2,z3,z4⟩=>⟨ds.length-(i+1),by omega,ok2,ω2,ρ2,rfl,hlt,z1,z2,z3,z4⟩,fun x H'' y=> ?_⟩
  obtain⟨s2,rx⟩:=it.yld i ok' H' ωc x H'' ds[i] n2 hc y (by simp[hlt]);have n3:Nw cls K ok1 H1 ok' H'' ωc:=n2.trans (.same n2.okh n2.st s2);refine⟨ok',ρ',ρ1,ds[i],env.same s2,len,rx,e3,fun σ2 env2 len2=> ?_⟩;cases eF:F ρ1 ωc with
  |none=>rw[eF] at e4;cases e4
  |some p=>
   obtain⟨o1,ω2⟩:=p;rw[eF] at e4;refine⟨ok',ρ1,ωc,o1,ω2,⟨n3.okh,n3.st,env2,len2⟩,eF,?_⟩;cases o1 with
   |nx ρ2=>exact fun ok3 H3 σ3 m3 r3 l3=>⟨ok3,ω2,ρ2,n3.trans m3,r3,l3,e4⟩
   |ct ρ2=>exact fun ok3 H3 σ3 m3 r3 l3=>⟨ok3,ω2,ρ2,n3.trans m3,r3,l3,e4⟩
   |bk ρ2=>
    cases e4;exact fun ok3 H3 σ3 m3 r3 l3=>q1 ok3 H3 σ3 (n3.trans m3) r3 l3
   |rt d=>
    cases e4;exact fun v ok3 H3 m3 r3=>q1 v ok3 H3 (n3.trans m3) r3
   |ex c=>cases e4
 ·have ei:i=ds.length:=by omega
  subst ei;rw[vt] at ef;have ef':(if chk ωc=true then xa (OOut.nx ρ',ωc) else xb)=xa (o,ω'):=ef;obtain⟨hc,ef'⟩:=bP ef';cases ef';exact .inl ⟨it.stop _ ok' H' _ n2 hc (bf _),q1 ok' H' σ' n2 env len⟩
theorem tOS.for_ {K:aa}{fi:OI'}{D:Cs} (h:tOS cls K (bD fi bd F) EF D σ H):Pw (tOI cls K fi EF) (gR K bd) (tOS cls K F EF) D σ H:=by
 obtain⟨ok,ρ,ω,o,ω',P,e,q⟩:=h;rcases ED e with⟨c,e1,rfl⟩|⟨⟨ds,chk⟩,ω1,e1,e2⟩
 ·exact⟨ok,ρ,ω,.ex c,ω',P,e1,q⟩
 ·exact⟨ok,ρ,ω,.ok (ds,chk),ω1,P,e1,fun J ok1 H1 n1 it=>Ca it (P.nw n1) e2 (q.nw n1)⟩
noncomputable def sNx (F:OS):OS:=fun ρ ω=>match F ρ ω with
 |some (.ex _,_)=>xb
 |r=>r
theorem DX {o:OOut} (h:sNx F ρ ω=xa (o,ω')):F ρ ω=xa (o,ω')/\∀ c,o≠ .ex c:=by
 unfold sNx at h;split at h
 ·cases h
 ·rename_i hn
  exact⟨h,fun c z=>by subst z;exact hn c ω' h⟩
theorem _root_.L2.PS.nox (h:PS X.nox st t):PS X st t:=fun pins s σ H D I hw=>
 g9 (h pins s σ H D (I.wish _) hw) (fun _ _ q=>q.unwish) fun _ _ z=>i4 z
theorem Jj (h:OSt X.nox cls EF st F):OSt X cls E st (sNx F):=(PS.nox h).imp fun D σ H ⟨ok,ρ,ω,o,ω',P,e,q⟩=>by
 obtain⟨e,hn⟩:=DX e;refine⟨ok,ρ,ω,o,ω',P,e,?_⟩;cases o with
 |ex c=>exact absurd rfl (hn c)
 |_=>exact q
theorem Nt {fi:OI'} (hc:X.calm=true) (hi:OI X.nox cls EF tg iter fi) (hg:PG X.nox tg (gR X.K bd)) (hb:OSs X.nox cls EF body F) (hs:∀ x,gq iter X.env x=pure x:=by intro _;rfl):
  OSt X cls E (.For tg iter body [] pos) (sNx (bD fi bd F)):=Jj ((Ja (X:=X.nox) wj hc hi hg hb hs).imp fun D σ H h=>tOS.for_ h)
end
noncomputable def compLO (bd:BR) (chk:Om->Bool) (t:OG Bool) (f:OG D):List D->Rho->Om->Option (List D×Om)
 |[],_,ω=>if chk ω=true then xa ([],ω) else xb
 |d::ds,ρ,ω=>if chk ω=true then(bd d ρ).bind fun ρ1=>match t ρ1 ω with
  |some (.ok k,ω1)=>if k=true then(match f ρ1 ω1 with
   |some (.ok y,ω2)=>(compLO bd chk t f ds ρ1 ω2).map fun r=>(y::r.1,r.2)
   |_=>xb) else compLO bd chk t f ds ρ1 ω1
  |_=>xb else xb
noncomputable def dI (fin:Om->List D->Option (D×Om)) (fi:OI') (caps:List (Option Nat)) (bd:BR) (t:OG Bool) (f:OG D):OG D:=oB fi fun p ρ ω=>if p.1.length<=sizeLine then(compLO bd p.2 t f p.1 (Gy caps ρ) ω).bind fun r=>oR (fin r.2 r.1) else xb
noncomputable def yK (ω:Om) (ds:List D):Option (D×Om):=xa (.lst ds,ω)
noncomputable def Ir (ω:Om) (ds:List D):Option (D×Om):=xa (.obj ω.length,ω++[.ml ds])
def Fin (fin:Om->List D->Option (D×Om)):Prop:=∀(cls:Nat->af) (K:aa) (ok1 ok:Okk) (H1 H:Hp) (ω ω':Om) (P:af) (vs:List V) (ds:List D) (d:D),Nw cls K ok1 H1 ok H ω->H1 P=xb->H P=xa (.lst vs)->¬ ok.p P->(∀ n,ok.al n≠xa P)->Reps K ok H vs ds->fin ω ds=xa (d,ω')->
 ∃ ok',Nw cls K ok1 H1 ok' H ω'/\Rep K ok' H (.ref P) d
theorem QA:Fin yK:=fun cls K ok1 ok H1 H ω ω' P vs ds d nw h1 hP np na rs e=>by
 cases e;have dat:∀ b o,ok.p b->H b=xa o->(ok.p b∨b=P)/\H b=xa o:=fun b o k e=>⟨.inl k,e⟩;refine⟨⟨fun b=>ok.p b∨b=P,ok.al⟩,⟨⟨fun b o k e=>⟨.inl (nw.ex.dat b o k e).1,(nw.ex.dat b o k e).2⟩,nw.ex.ids,nw.ex.frm,nw.ex.new,nw.ex.keep,fun b k=> ?_,nw.ex.frz⟩,⟨fun b e=>.inl (nw.okh b e),fun b xs e=>.inl (nw.okh.tp b xs e)⟩,fun n ob e=> ?_,nw.st.dom,nw.st.inj,fun n a e k=> ?_⟩,.lst ⟨.inr rfl,hP⟩ (rs.mono dat)⟩
 ·rcases k with k|rfl
  ·exact nw.ex.sub b k
  ·exact .inr h1
 ·obtain⟨a,e1,c⟩:=nw.st.cell n ob e;exact⟨a,e1,c.mono dat (fun _ _ z=>z) fun _ z=>z⟩
 ·rcases k with k|rfl
  ·exact nw.st.nok n a e k
  ·exact na n e
theorem Qz:Fin Ir:=fun cls K ok1 ok H1 H ω ω' P vs ds d nw h1 hP np na rs e=>by
 cases e;have al:∀ m b,(if m=ω.length then xa P else ok.al m)=xa b->(m=ω.length/\b=P)∨(m≠ω.length/\ok.al m=xa b):=fun m b q=>by
  by_cases hm:m=ω.length
  ·rw[if_pos hm] at q;exact .inl ⟨hm,(cf q).symm⟩
  ·rw[if_neg hm] at q;exact .inr ⟨hm,q⟩
 have ids:∀ m b,ok.al m=xa b->(if m=ω.length then xa P else ok.al m)=xa b:=fun m b q=>by
  rw[if_neg (cj (nw.st.dom m b q))];exact q
 have dat:∀ b o,ok.p b->H b=xa o->ok.p b/\H b=xa o:=fun b o k e=>⟨k,e⟩;refine⟨⟨ok.p,fun m=>if m=ω.length then xa P else ok.al m⟩,⟨⟨nw.ex.dat,fun m b q=>ids m b (nw.ex.ids m b q),nw.ex.frm,fun m b q=> ?_,nw.ex.keep,nw.ex.sub,nw.ex.frz⟩,⟨nw.okh.fn,nw.okh.tp⟩,fun m ob q=> ?_,fun m b q=> ?_,fun m m' b q q'=> ?_,fun m b q k=> ?_⟩,.obj (by show(if ω.length=ω.length then xa P else _)=_;rw[if_pos rfl])⟩
 ·rcases al m b q with⟨_,rfl⟩|⟨_,q⟩
  ·exact .inr h1
  ·exact nw.ex.new m b q
 ·by_cases hm:m<ω.length
  ·rw[ao hm] at q;obtain⟨b,e1,c⟩:=nw.st.cell m ob q;exact⟨b,ids m b e1,c.mono dat ids fun _ z=>z⟩
  ·have hm':m=ω.length:=by
    have:=(bt.mp q).1
    simp at this;omega
   subst hm';rw[dn (bf _)] at q;simp at q;subst q;exact⟨P,by show(if ω.length=ω.length then xa P else _)=_;rw[if_pos rfl],vs,hP,Reps.mono (ok':=⟨ok.p,fun m=>if m=ω.length then xa P else ok.al m⟩) dat ids rs⟩
 ·rw[b8,lg];rcases al m b q with⟨rfl,_⟩|⟨_,q⟩
  ·omega
  ·have:=nw.st.dom m b q
   omega
 ·rcases al m b q with⟨rfl,rfl⟩|⟨_,qa⟩ <;> rcases al m' b q' with⟨rfl,w⟩|⟨_,qb⟩
  ·rfl
  ·exact absurd qb (na m')
  ·rw[w] at qa;exact absurd qa (na m)
  ·exact nw.st.inj m m' b qa qb
 ·rcases al m b q with⟨_,rfl⟩|⟨_,q⟩
  ·exact np k
  ·exact nw.st.nok m b q k
theorem AM (h:compLO bd chk t f (d::ds) ρ ω=xa (ys,ω')):
  chk ω=true/\∃ ρ1 k ω1,bd d ρ=xa ρ1/\t ρ1 ω=xa (.ok k,ω1)/\((k=true/\∃ y zs ω2,f ρ1 ω1=xa (.ok y,ω2)/\compLO bd chk t f ds ρ1 ω2=xa (zs,ω')/\ys=y::zs)∨(k=false/\compLO bd chk t f ds ρ1 ω1=xa (ys,ω'))):=by
 obtain⟨hc,h⟩:=cS (show(if chk ω=true then _ else xb)=_ from h);obtain⟨ρ1,e1,h⟩:=aQ h;refine⟨hc,ρ1,?_⟩;split at h
 ·rename_i k ω1 e2
  refine⟨k,ω1,e1,e2,?_⟩;cases k with
  |true=>
   rw[if_pos rfl] at h;split at h
   ·rename_i y ω2 e3
    obtain⟨⟨zs,ω3⟩,e4,e5⟩:=aI h;cases e5;exact .inl ⟨rfl,y,zs,ω2,e3,e4,rfl⟩
   ·cases h
  |false=>
   rw[if_neg bx] at h;exact .inr ⟨rfl,h⟩
 ·cases h
section
variable {X:Cx}{cls:Nat->af}{E:XE}{tg iter elt:bw}{ifs:List bw}{scope:ke}{N':List Str}{caps:List (Option Nat)}{fi:OI'}{bd:BR}{t:OG Bool}{f:OG D}{pos:Pos}{fin:Om->List D->Option (D×Om)}
theorem tO.comp {K:aa} (Fn:Fin fin) (h:tO cls K (dI fin fi caps bd t f) E σ H Q):JE (tOI cls K fi E) caps (gR K bd) (tOT cls K t EF) (tO cls K f EF) σ H Q:=by
 obtain⟨ok,ρ,ω,r,ω',P,e,q⟩:=h;rcases kE e with⟨c,e1,rfl⟩|⟨⟨ds,chk⟩,ω1,e1,e2⟩
 ·exact⟨ok,ρ,ω,.ex c,ω',P,e1,q⟩
 ·refine⟨ok,ρ,ω,.ok (ds,chk),ω1,P,e1,fun J ok1 H1 n1 it A hA=> ?_⟩;have P1:=P.nw n1;obtain⟨hz,e2⟩:=cS (show(if ds.length<=sizeLine then _ else xb)=_ from e2);obtain⟨⟨out,ωf⟩,e3,e4⟩:=aQ e2;obtain⟨d,e5,rfl⟩:=cN e4
  -- ahead of the first turn:the list that is filled stands apart
  have start:Nw cls K ok1 H1 ⟨fun b=>ok1 b/\b≠A,ok1.al⟩ (upd H1 A (.lst [])) ω1:=by
   have dat:∀ b o,ok1.p b->H1 b=xa o->(ok1.p b/\b≠A)/\upd H1 A (.lst []) b=xa o:=fun b o k e=>⟨⟨k,aM e hA⟩,by rw[aF (aM e hA)];exact e⟩;refine⟨⟨dat,fun _ _ z=>z,fun b o z _=>by rw[aF (aM z hA)];exact z,fun _ _ z=>.inl z,fun b z=> ?_,fun b k=>.inl k.1,fun b x u z=>by rw[aF (aM z hA)];exact z⟩,⟨fun b z=> ?_,fun b xs z=> ?_⟩,fun n ob z=> ?_,P1.st.dom,P1.st.inj,fun n a z k=>P1.st.nok n a z k.1⟩
   ·by_cases hb:b=A
    ·rw[hb];exact hA
    ·rw[aF hb] at z;exact z
   ·have hb:b≠A:=fun w=>by rw[w,aP] at z;cases z
    rw[aF hb] at z;exact⟨P1.okh b z,hb⟩
   ·have hb:b≠A:=fun w=>by rw[w,aP] at z;cases z
    rw[aF hb] at z;exact⟨P1.okh.tp b xs z,hb⟩
   ·obtain⟨a,z1,c⟩:=P1.st.cell n ob z;exact⟨a,z1,c.mono dat (fun _ _ z=>z) fun o w=>by rw[aF (aM w hA)];exact w⟩
  refine⟨fun i m σ' H'=>∃ ok' ωc ρ' vs acc rest,m=ds.length-i/\i<=ds.length/\Nw cls K ok1 H1 ok' H' ωc/\¬ ok'.p A/\(∀ n,ok'.al n≠xa A)/\H' A=xa (.lst vs)/\Reps K ok' H' vs acc/\EnvR K ok' H' σ' ρ'/\σ'.length=ρ'.length/\
   compLO bd chk t f (ds.drop i) ρ' ωc=xa (rest,ωf)/\acc++rest=out/\acc.length<=i,
   ⟨ds.length,_,ω1,Gy caps ρ,[],[],out,by simp,iq _,start,fun k=>k.2 rfl,fun n z=> ?_,aP,.nil,(P1.env.ex start.ex).cap caps,LZ _ _ _,by simpa using e3,by simp,iq _⟩,?_⟩
  ·obtain⟨_,_,c⟩:=P1.st.at_ (show ok1.al n=xa A from z);obtain⟨_,w,_⟩:=c.there;rw[hA] at w;cases w
  ·rintro i m σ' H' ⟨ok',ωc,ρ',vs,acc,rest,rfl,hi,nw,np,na,hv,ra,re,rl,ec,ea,hal⟩
   by_cases hlt:i<ds.length
   ·have hdrop:ds.drop i=ds[i]::ds.drop (i+1):=ql hlt;rw[hdrop] at ec;obtain⟨hc,ρ1,k,ω2,b1,b2,hk⟩:=AM ec;refine .inr ⟨it.go i ok' H' ωc nw hc hlt,fun x H'' y=> ?_⟩;obtain⟨s2,rx⟩:=it.yld i ok' H' ωc x H'' ds[i] nw hc y (by simp[hlt]);have nw2:Nw cls K ok' H' ok' H'' ωc:=.same nw.okh nw.st s2;refine⟨ok',ρ',ρ1,ds[i],re.same s2,rl,rx,b1,fun σ2 re2 rl2=> ?_⟩;refine⟨ok',ρ1,ωc,.ok k,ω2,⟨nw2.okh,nw2.st,re2,rl2⟩,b2,fun ok3 H3 nw3=> ?_⟩
    -- the list that is filled stays apart
    have apart:∀ {okx:Okk}{Hx:Hp}{ωx:Om},Nw cls K ok' H' okx Hx ωx->¬ okx.p A/\(∀ n,okx.al n≠xa A)/\Hx A=xa (.lst vs):=by
     intro okx Hx ωx nx;refine⟨fun z=> ?_,fun n z=> ?_,nx.ex.frm A _ hv na⟩
     ·rcases nx.ex.sub A z with z|z
      ·exact np z
      ·rw[hv] at z;cases z
     ·rcases nx.ex.new n A z with z|z
      ·exact na n z
      ·rw[hv] at z;cases z
    rcases hk with⟨rfl,yd,zs,ω4,b5,b6,rfl⟩|⟨rfl,b6⟩
    ·refine Mj ⟨ok3,ρ1,ω2,.ok yd,ω4,⟨nw3.okh,nw3.st,re2.ex nw3.ex,rl2⟩,b5,fun yv ok4 H4 nw4 ry=> ?_⟩;have nx:=nw2.trans (nw3.trans nw4);obtain⟨np4,na4,hv4⟩:=apart nx;have hvl:vs.length<sizeLine:=by
      rw[ra.length];omega
     have keep:∀ b o,ok4.p b->H4 b=xa o->ok4.p b/\upd H4 A (.lst (vs++[yv])) b=xa o:=fun b o k e=>⟨k,by rw[aF (show b≠A from fun w=>np4 (w ▸ k))];exact e⟩;have nwf:=nw.trans nx;refine⟨vs,ds.length-(i+1),hv4,hvl,by omega,ok4,ω4,ρ1,vs++[yv],acc++[yd],zs,rfl,hlt,?_,np4,na4,aP,?_,?_,rl2,b6,by simpa using ea,by simp;omega⟩
     ·have nA:∀ {b:af}{o:HO},H1 b=xa o->b≠A:=fun z=>aM z hA;refine⟨⟨fun b o k e=>⟨(nwf.ex.dat b o k e).1,by rw[aF (nA e)];exact(nwf.ex.dat b o k e).2⟩,nwf.ex.ids,fun b o e z=>by rw[aF (nA e)];exact nwf.ex.frm b o e z,nwf.ex.new,fun b e=> ?_,nwf.ex.sub,fun b x u z=>by rw[aF (nA z)];exact nwf.ex.frz b x u z⟩,⟨fun b e=> ?_,fun b xs e=> ?_⟩,fun n ob e=> ?_,nwf.st.dom,nwf.st.inj,nwf.st.nok⟩
      ·by_cases hb:b=A
       ·rw[hb];exact hA
       ·rw[aF hb] at e;exact nwf.ex.keep b e
      ·have hb:b≠A:=fun w=>by rw[w,aP] at e;cases e
       rw[aF hb] at e;exact nwf.okh b e
      ·have hb:b≠A:=fun w=>by rw[w,aP] at e;cases e
       rw[aF hb] at e;exact nwf.okh.tp b xs e
      ·obtain⟨a,z1,c⟩:=nwf.st.cell n ob e;exact⟨a,z1,c.mono keep (fun _ _ z=>z) fun o w=>by rw[aF (show a≠A from fun w'=>na4 n (w' ▸ z1))];exact w⟩
     ·exact((ra.ex nx.ex).snoc ry).mono keep
     ·intro j dj ej;obtain⟨w,a,r⟩:=(re2.ex (nw3.trans nw4).ex) j dj ej;exact⟨w,a,r.mono keep⟩
    ·have nx:=nw2.trans nw3;obtain⟨np4,na4,hv4⟩:=apart nx;exact Ml ⟨ds.length-(i+1),by omega,ok3,ω2,ρ1,vs,acc,rest,rfl,hlt,nw.trans nx,np4,na4,hv4,ra.ex nx.ex,re2.ex nw3.ex,rl2,b6,ea,by omega⟩
   ·have ei:i=ds.length:=by omega
    subst ei;rw[vt] at ec;obtain⟨hc,ec⟩:=bP (show(if chk ωc=true then xa ([],ωc) else xb)=_ from ec);cases ec;rw[cr] at ea;subst ea;refine .inl ⟨it.stop _ ok' H' _ nw hc (bf _),?_⟩;obtain⟨ok2,nw2,rr⟩:=Fn cls K ok1 ok' H1 H' _ ω' A vs acc d nw hA hv np na ra e5;exact q _ ok2 H' (n1.trans nw2) rr
def Mh (X:Cx) (cls:Nat->af) (E:XE) (ifs:List bw) (t:OG Bool):Prop:=Mp X ifs (tOT cls X.K t E)
theorem Hl:Mh X cls E [] (oPT kZ):=fun pins s σ H Q I ⟨ok,ρ,ω,r,ω',P,e,q⟩=>by
 cases e;exact Lo pins s σ H Q I (q ok H (.refl P.okh P.st))
theorem Hk (h:OT X cls E c t):Mh X cls E [c] t:=Ln h
theorem KO (Fn:Fin fin) (C:Gw X scope N' caps) (hi:OI X cls E tg iter fi)
  (hb:∀ cells C fp pins s₀ H₀,PG (blk X N' scope cells C fp pins s₀ H₀) tg (gR X.K bd)/\Mh (blk X N' scope cells C fp pins s₀ H₀) cls EF ifs t/\OE (blk X N' scope cells C fp pins s₀ H₀) cls EF elt f)
  (hs:∀ x,gq iter X.env x=pure x:=by intro _;rfl):OE X cls E (.ListComp elt [⟨tg,iter,ifs,0⟩] scope pos) (dI fin fi caps bd t f):=
 (Kd C.calm C.kind C.names C.free C.uniq C.cap hi hb hs).imp fun _ _ _ h=>tO.comp Fn h
theorem Kq (Fn:Fin fin) (hN:X.N.Nodup) (hiy:X.N[i]?=xa y) (hy:X.env.scope.names.lookup y=xa .local) (C:Gw X scope N' caps) (hi:OI X cls E tg iter fi)
  (hb:∀ cells C fp pins s₀ H₀,PG (blk X N' scope cells C fp pins s₀ H₀) tg (gR X.K bd)/\Mh (blk X N' scope cells C fp pins s₀ H₀) cls EF ifs t/\OE (blk X N' scope cells C fp pins s₀ H₀) cls EF elt f)
  (hsw:ji (.ListComp elt [⟨tg,iter,ifs,0⟩] scope pos) (xa (.Name y py)) spos.line X.env=pure true:=by rfl)
  (hs:∀ x,gq iter X.env x=pure x:=by intro _;rfl):OSt X cls E (.Assign [.Name y py] (.ListComp elt [⟨tg,iter,ifs,0⟩] scope pos) spos) (aY i (dI fin fi caps bd t f)):=
 (JT hN hiy hy C.calm C.kind C.names C.free C.uniq C.cap hi hb hsw hs).imp fun D σ H ⟨ok,ρ,ω,o,ω',P,e,q⟩=>by
  refine tO.comp (fi:=fi) (caps:=caps) (bd:=bd) (t:=t) (f:=f) (E:=E) Fn ?_;refine tO.thenS P e q fun d ω1 v ok1 H1 e1 n1 P1 r1 q1=> ?_;cases e1;exact q1 ok1 H1 _ (.refl P1.okh P1.st) (P1.env.set P1.len r1 i) (by rw[ca,ca];exact P1.len)
end
structure FlyT (exC:Nat->af) (c:Nat) (ea:af) (T:af) (h0:c9) (H:Hp) (h:c9):Prop where
 tr:∃(oe oT:Obj) (vs ts:Array ag) (a0:ag),h.get? ea=xa oe/\oe.cls=.ref (exC c)/\oe.data=.fields vs/\vs[0]?=xa a0/\vs[1]?=xa (.ref T)/\T≠ea/\h.get? T=xa oT/\oT.data=.fields ts/\ts[3]?=xa .none
 h0e:h0.get? ea=xb
 h0T:h0.get? T=xb
 He:H ea=xb
 HT:H T=xb
structure Raw (exC:Nat->af) (c:Nat) (ea:af) (h0:c9) (H:Hp) (h:c9):Prop where
 at_:∃ t,h.get? ea=xa { cls:=.ref (exC c),data:=.fields #[.ref t,.none,.none,.none,.bool false,.none] }
 h0e:h0.get? ea=xb
 He:H ea=xb
noncomputable def CX1 (P:dm) (w:dr) (exC:Nat->af):CXT:=fun outer H s E e s'=>∃ c ea T H',e=.ref ea/\s'.os=s.os/\m9 s'.gens/\Un (frs outer) [] H H' s.heap s'.heap/\HOk P w H' s'.heap/\FlyT exC c ea T s.heap H' s'.heap/\E (.ref (exC c)) xb H'
noncomputable def exK (exC:Nat->af) (E:XE):XK:=fun cv _ H'=>∃ c,cv=.ref (exC c)/\E c H'
structure Exc (X:Cx) (exC:Nat->af) (E:XE):Prop where
 fly:∀ c ea T H' pins σ' s',Inv X pins σ' H' s'->FlyT exC c ea T X.s₀.heap H' s'.heap->(∀ p∈X.pn,p.1≠ea/\p.1≠T)->E c H'->X.xe (.ref ea) s'
 ex:X.ex=[]
structure Pn (X:Cx) (exC:Nat->af) (E:XE):Prop where
 raw:∀ c ea H' pins σ' s',Inv X pins σ' H' s'->Raw exC c ea X.s₀.heap H' s'.heap->E c H'->X.xe (.ref ea) s'
 ex:X.ex=[]
abbrev Pas (X:Cx) (exC:Nat->af) (E:XE):Prop:=qW (CX1 X.prog X.w exC) X (exK exC E)
theorem PY:Pas X exC EF:=fun _ _ _ _ _ _ _ ⟨_,_,_,_,_,_,_,_,_,_,_,_,z⟩=>z.elim
theorem _root_.L2.Inv.pers (I:Inv X pins σ H s) (hx:X.ex=[]) (e:s.heap.get? b=xb):X.s₀.heap.get? b=xb:=by
 cases q:X.s₀.heap.get? b with
 |none=>rfl
 |some o=>
  obtain⟨o',z⟩:=I.base.there b o q (by rw[hx];simp);rw[e] at z;cases z
theorem Exc.pas (h:Exc X exC E):Pas X exC E:=fun pins σ H s e s' I ⟨c,ea,T,H',e1,os,bare,un,hok,fl,c',hc,hE⟩=>by
 subst e1;have I':Inv X pins σ H' s':=I.call' (ch:=[]) os un hok bare (fun b z=>absurd z (by simp));obtain⟨oe,oT,vs,ts,a0,g1,g2,g3⟩:=fl.tr;refine h.fly c' ea T H' pins σ s' I' ⟨⟨oe,oT,vs,ts,a0,g1,by rw[g2,hc],g3⟩,I.pers h.ex fl.h0e,I.pers h.ex fl.h0T,fl.He,fl.HT⟩ (fun p hp=> ?_) hE;obtain⟨w,_⟩:=I.pin p (de _ hp);exact⟨fun z=>(by rw[z,fl.h0e] at w;cases w),fun z=>(by rw[z,fl.h0T] at w;cases w)⟩
abbrev eN:=List D->Om->Option (Rz D×Om)
noncomputable def spO (cls exC:Nat->af) (K:aa) (φ:eN):Sp:=fun vs H Q E=>∃(ok:Okk) (ω:Om) (ds:List D) (r:Rz D) (ω':Om),OkH ok H/\Stt cls K ok H ω/\Reps K ok H vs ds/\φ ds ω=xa (r,ω')/\match r with
 |.ok d=>∀ v ok' H',Nw cls K ok H ok' H' ω'->Rep K ok' H' v d->Q v H'
 |.ex c=>∀ ok' H',Nw cls K ok H ok' H' ω'->E (.ref (exC c)) xb H'
section
variable {X:Cx}{cls exC:Nat->af}{E:XE}{e a b c o i value:bw}{es:List bw}{fa fb fo fi fv:OG D}{fl:OG (List D)}{pos p apos pos':Pos}{x m:Str}{cn k:Nat}{fn C:af}{fd:jp}{ps:List Str}{φ:eN}
theorem spO.at {K:aa} (h1:OkH ok H) (st:Stt cls K ok H ω) (rs:Reps K ok H vs ds) (e:φ ds ω=xa (r,ω'))
  (hq:∀ d,r=.ok d->∀ v ok' H',Nw cls K ok H ok' H' ω'->Rep K ok' H' v d->Q v H') (hx:∀ c,r=.ex c->exR cls K ok H ω' E c):spO cls exC K φ vs H Q (exK exC E):=by
 refine⟨ok,ω,ds,r,ω',h1,st,rs,e,?_⟩;cases r with
 |ok d=>exact hq d rfl
 |ex c=>exact fun ok' H' n=>⟨c,rfl,hx c rfl ok' H' n⟩
noncomputable def bR (φ:eN) (fl:OG (List D)):OG D:=oB fl fun ds _ ω=>φ ds ω
theorem Aa {K:aa}{r:Rz D}{Q:VK} (n1:Nw cls K ok H ok1 H1 ω1) (q:match r with
  |.ok d=>∀ v ok' H',Nw cls K ok H ok' H' ω'->Rep K ok' H' v d->Q v H'
  |.ex c=>exR cls K ok H ω' E c):∀ d,r=.ok d->∀ v ok' H',Nw cls K ok1 H1 ok' H' ω'->Rep K ok' H' v d->Q v H':=fun d z v ok' H' n r=>by
 subst z;exact q v ok' H' (n1.trans n) r
theorem Ab {K:aa}{r:Rz D}{Q:VK} (n1:Nw cls K ok H ok1 H1 ω1) (q:match r with
  |.ok d=>∀ v ok' H',Nw cls K ok H ok' H' ω'->Rep K ok' H' v d->Q v H'
  |.ex c=>exR cls K ok H ω' E c):∀ c,r=.ex c->exR cls K ok1 H1 ω' E c:=fun c z=>by
 subst z;exact exR.nw q n1
theorem KQ (F:sE X.prog X.w X.K X.mg X.base (CX1 X.prog X.w exC) k fn fd ps (spO cls exC X.K φ)) (hr:Room k X.A) (hg:Gl X x) (hm:X.mg x=xa (.ref fn)) (hk:gx X.K (.ref fn)=true)
  (hb:Binds X.K fd ps []) (hx:Pas X exC E) (ha:OA X cls E (e::es) fl) (hdb:(x==("__debug__":Str))=false:=by decide) (he:ay (e::es) X.env=(false,eval e X.env)::ay es X.env:=by rfl) (hpl:(dw pos (ay es X.env)).any (·.1)=false:=by rfl):
  OE X cls E (.Call (.Name x p) (e::es) [] pos) (bR φ fl):=
 (Kf F hr hg hm hk hb .nil hx ha hdb he hpl).imp fun σ H Q ⟨ok,ρ,ω,r,ω',P,e,q⟩=>by
  refine tOA.then_ P e (fun c z=>by subst z;exact q) fun ds ω1 vs ok1 H1 e1 n1 P1 r1=> ?_;rw[cr];exact spO.at P1.okh P1.st r1 e1 (Aa n1 q) (Ab (Q:=Q) n1 q)
noncomputable def CV (c:Nat) (m:Str) (ω:Om) (d:D):Bool:=match cellOf ω d with
 |some (.ins c' fs)=>c'==c&&(fs.lookup m).isNone
 |_=>false
theorem xZ {c:Nat} (h:CV c m ω d=true):∃ n fs,d=.obj n/\ω[n]?=xa (.ins c fs)/\fs.lookup m=xb:=by
 unfold CV at h;split at h
 ·rename_i c' fs hc
  obtain⟨n,rfl,e⟩:=dQ hc;simp only[br,beq_iff_eq,Option.isNone_iff_eq_none] at h;obtain⟨rfl,h⟩:=h;exact⟨n,fs,rfl,e,h⟩
 ·cases h
noncomputable def bL (c:Nat) (m:Str) (φ:eN) (fo:OG D) (fl:OG (List D)):OG D:=oB fo fun d ρ ω=>if CV c m ω d=true then oB fl (fun ds _ ω=>φ (d::ds) ω) ρ ω else xb
theorem KH (ho:OE X cls E o fo) (hc:Cls X.K (cls cn)) (hm:IX X.K (cls cn) m fn) (F:sE X.prog X.w X.K X.mg X.base (CX1 X.prog X.w exC) k fn fd ps (spO cls exC X.K φ)) (hr:Room k X.A) (hb:Binds X.K fd ps []) (hx:Pas X exC E) (ha:OA X cls E (e::es) fl)
  (hst:ay (e::es) X.env=(false,eval e X.env)::ay es X.env:=by rfl) (hpl:(dw pos (ay es X.env)).any (·.1)=false:=by rfl)
  (ht:eval (.Call (.Attribute o m apos) (e::es) [] pos) X.env=(do
   let ov <- eval o X.env
   ng apos.atName
   let (f,first) <- holding [ov] (mm ov m pl)
   qv pos f first (dw pos (ay (e::es) X.env)) (j5 pos (ir [] X.env))):=by rfl):
  OE X cls E (.Call (.Attribute o m apos) (e::es) [] pos) (bL cn m φ fo fl):=
 (JZ (pl:=pl) ho hc hm F hr hb .nil hx ha hst hpl ht).imp fun σ H Q ⟨ok,ρ,ω,r,ω',P,e,q⟩=>by
  refine tO.then_ P e (fun c z=>by subst z;exact q) fun d ω1 v ok1 H1 e1 n1 P1 r1=> ?_;obtain⟨hi,e1⟩:=cS e1;obtain⟨n,fs,rfl,e2,e3⟩:=xZ hi;obtain⟨a,rfl,e4,dx,vs,e5,kv⟩:=P1.st.ref r1 e2;refine⟨a,dx,vs,rfl,e5,kv.look_none e3,?_⟩;refine tOA.then_ P1 e1 (fun c z=>by subst z;exact exR.nw q n1) fun ds ω2 us ok2 H2 e6 n2 P2 r2=> ?_;rw[cr];exact spO.at P2.okh P2.st (.cons (r1.ex n2.ex) r2) e6 (Aa (n1.trans n2) q) (Ab (Q:=Q) (n1.trans n2) q)
theorem Hn (ho:OE X cls E o fo) (hc:Cls X.K (cls cn)) (hm:IX X.K (cls cn) m fn) (F:sE X.prog X.w X.K X.mg X.base (CX1 X.prog X.w exC) k fn fd ps (spO cls exC X.K φ)) (hr:Room k X.A) (hb:Binds X.K fd ps []) (hx:Pas X exC E)
  (ht:eval (.Call (.Attribute o m apos) [] [] pos) X.env=(do
   let ov <- eval o X.env
   ng apos.atName
   let (f,first) <- holding [ov] (mm ov m pl)
   qv pos f first (dw pos (ay [] X.env)) (j5 pos (ir [] X.env))):=by rfl):
  OE X cls E (.Call (.Attribute o m apos) [] [] pos) (bL cn m φ fo aO):=
 (Ha (pl:=pl) ho hc hm F hr hb .nil hx ht).imp fun σ H Q ⟨ok,ρ,ω,r,ω',P,e,q⟩=>by
  refine tO.then_ P e (fun c z=>by subst z;exact q) fun d ω1 v ok1 H1 e1 n1 P1 r1=> ?_;obtain⟨hi,e1⟩:=cS e1;obtain⟨n,fs,rfl,e2,e3⟩:=xZ hi;obtain⟨a,rfl,e4,dx,vs,e5,kv⟩:=P1.st.ref r1 e2;refine⟨a,dx,vs,rfl,e5,kv.look_none e3,?_⟩;have e6:φ [.obj n] ω1=xa (r,ω'):=e1;exact spO.at P1.okh P1.st (.cons r1 .nil) e6 (Aa n1 q) (Ab (Q:=Q) n1 q)
noncomputable def uT (c:Nat) (φ:eN) (fl:OG (List D)):OG D:=oB fl fun ds _ ω=>match φ (.obj ω.length::ds) (ω++[.ins c []]) with
 |some (.ok .non,ω')=>xa (.ok (.obj ω.length),ω')
 |some (.ex c,ω')=>xa (.ex c,ω')
 |_=>xb
theorem KJ (M:Mk X.K (cls cn) fn) (F:sE X.prog X.w X.K X.mg X.base (CX1 X.prog X.w exC) k fn fd ps (spO cls exC X.K φ)) (hr:Room (k+1) X.A) (hg:Gl X x) (hm:X.mg x=xa (.ref (cls cn))) (hb:Binds X.K fd ps []) (hx:Pas X exC E)
  (ha:OA X cls E (e::es) fl) (hdb:(x==("__debug__":Str))=false:=by decide) (he:ay (e::es) X.env=(false,eval e X.env)::ay es X.env:=by rfl) (hpl:(dw pos (ay es X.env)).any (·.1)=false:=by rfl):
  OE X cls E (.Call (.Name x p) (e::es) [] pos) (uT cn φ fl):=
 (Ka M F hr hg hm hb .nil hx ha hdb he hpl).imp fun σ H Q ⟨ok,ρ,ω,r,ω',P,e,q⟩=>by
  refine tOA.then_ P e (fun c z=>by subst z;exact q) fun ds ω1 vs ok1 H1 e1 n1 P1 r1=> ?_;intro a dx na ndx hne;rw[cr];have n2:Nw cls X.K ok1 H1 ok1 (upd H1 dx (.own a)) ω1:=.same P1.okh P1.st (cK ndx);have n3:Nw cls X.K ok1 (upd H1 dx (.own a)) (okN ok1 ω1.length a) (upd (upd H1 dx (.own a)) a (.ins (cls cn) dx [])) (ω1++[.ins cn []]):=
   Nw.make n2.okh n2.st (by rw[aF (bz hne)];exact na) ⟨dx,[],aP,.nil⟩
  have n4:=n1.trans (n2.trans n3);have rs:Reps X.K (okN ok1 ω1.length a) (upd (upd H1 dx (.own a)) a (.ins (cls cn) dx [])) (.ref a::vs) (.obj ω1.length::ds):=.cons .new_obj ((r1.ex n2.ex).ex n3.ex);cases eφ:φ (.obj ω1.length::ds) (ω1++[.ins cn []]) with
  |none=>rw[eφ] at e1;cases e1
  |some pr=>
   obtain⟨rz,ω2⟩:=pr;rw[eφ] at e1;refine⟨_,_,_,rz,ω2,n3.okh,n3.st,rs,eφ,?_⟩;cases rz with
   |ex c=>
    cases e1;exact fun ok' H' n=>⟨c,rfl,q ok' H' (n4.trans n)⟩
   |ok d=>
    cases d with
    |non=>
     cases e1;refine fun v ok' H' n rv=>⟨rv.non_inv,q _ ok' H' (n4.trans n) (.obj (n.ex.ids _ _ ?_))⟩
     show(if ω1.length=ω1.length then xa a else _)=_
     rw[if_pos rfl]
    |_=>cases e1
end
theorem _root_.L2.HOk.obj (x:HOk P w H h) (e:H a=xa o):∃ u,h.get? a=xa u:=by
 have z:=x a o e;cases o with
 |lst xs=>obtain⟨_,_,_,_,e⟩:=z;exact⟨_,e⟩
 |tup xs=>obtain⟨_,_,_,o,e,_⟩:=z;exact⟨_,e⟩
 |dK kvs=>obtain⟨_,_,_,_,o,_,_,e,_⟩:=z;exact⟨_,e⟩
 |dT kvs=>obtain⟨_,_,_,_,o,_,_,e,_⟩:=z;exact⟨_,e⟩
 |set S n=>obtain⟨o,_,_,_,e,_⟩:=z;exact⟨_,e⟩
 |ins C dx fs=>obtain⟨_,_,_,e,_⟩:=z;exact⟨_,e⟩
 |own y=>exact z
 |xd fs=>obtain⟨_,⟨_,_,_,e,_⟩,_⟩:=z;exact⟨_,e⟩
 |rng lo hi=>obtain⟨_,_,_,e⟩:=z;exact⟨_,e⟩
 |frz ob u=>obtain⟨e,_⟩:=z;exact⟨_,e⟩
 |tbl ps=>exact⟨_,show h.get? a=xa _ from z⟩
 |met f y=>exact⟨_,show h.get? a=xa _ from z⟩
 |ext φ=>exact z.2.1
structure Pass (fs:List af) (ea T:af) (h h':c9):Prop where
 keep:∀ b o,h.get? b=xa o->b∉fs->b≠ea->b≠T->h'.get? b=xa o
 slot:∀ b o,h.get? b=xa o->b∈fs->∃ sl,h'.get? b=xa { o with slots:=sl }
theorem vH {h base base':c9}:∀ {l:List Env},h.FunFrames base l->(∀ b∈frs l,base'.get? b=xb)->h.FunFrames base' l
 |[],_,_=>trivial
 |env::r,⟨hk,⟨L,o,hf,hn,ho,hd⟩,hr⟩,n=>by
  refine⟨hk,⟨L,o,hf,n L ?_,ho,hd⟩,vH hr fun b hb=>n b ?_⟩
  ·unfold frs;rw[kh,hf];exact aq
  ·unfold frs at hb ⊢;rw[kh,hf];exact ai _ hb
section
variable {M:Model}{A:d8}{E:ag->au->Prop}{s:au}{env:Env}{outer:List Env}{base h0:c9}{H:Hp}{exC:Nat->af}{c:Nat}{ea T L:af}{Q:Unit->au->Prop}{P:dm}{w:dr}
theorem Az (hok:HOk P w H s.heap) (h0p:∀ b,s.heap.get? b=xb->h0.get? b=xb) (hb:∀ b,base'.get? b=xb->b=ea∨b=T∨b∈frs l∨s.heap.get? b=xb)
  (hl:h'.FunFrames base' l) (tr:h'.TracedW base' ea cls a0) (hc:cls=.ref (exC c)) (n1:h0.get? ea=xb) (n2:H ea=xb) (n3:h0.get? T=xb) (n4:H T=xb):∃ T',FlyT exC c ea T' h0 H h'/\(T'=T∨s.heap.get? T'=xb):=by
 obtain⟨oe,vs,T',oT,ts,e1,⟨e2,e3⟩,e4,e5,e6,e7,e8,e9,e10⟩:=tr;have hT:T'=T∨s.heap.get? T'=xb:=by
  rcases hb T' e6 with z|z|z|z
  ·exact absurd z e7
  ·exact .inl z
  ·obtain⟨_,o,q1,q2⟩:=hl.mem z;rw[e8] at q1;cases q1;exact absurd e9 (q2 ts)
  ·exact .inr z
 refine⟨T',⟨⟨oe,oT,vs,ts,a0,e1,by rw[e2,hc],e4,e3,e5,e7,e8,e9,e10⟩,n1,?_,n2,?_⟩,hT⟩
 ·rcases hT with rfl|z
  ·exact n3
  ·exact h0p _ z
 ·rcases hT with rfl|z
  ·exact n4
  ·cases q:H T' with
   |none=>rfl
   |some o=>
    obtain⟨u,w⟩:=hok.obj q;rw[z] at w;cases w
theorem Ap (e:(f6 h l).get? b=xb):b∈l∨h.get? b=xb:=by
 by_cases hb:b∈l
 ·exact .inl hb
 ·right;cases q:h.get? b with
  |none=>rfl
  |some o=>
   rw[kc l q hb] at e;cases e
theorem ET (hfr:A.frames=xa (env::outer)) (hf:env.frame=xa L) (funs:s.heap.FunFrames base (env::outer)) (hok:HOk P w H s.heap) (h0p:∀ b,s.heap.get? b=xb->h0.get? b=xb) (fl:FlyT exC c ea T h0 H s.heap)
  (hQ:∀ h' T',Pass (frs (env::outer)) ea T s.heap h'->FlyT exC c ea T' h0 H h'->(T'=T∨s.heap.get? T'=xb)->Q () { s with heap:=h' }):az M A (leaving env (.ref ea)) Q E s:=by
 obtain⟨oe,oT,vs,ts,a0,e1,e2,e3,e4,e5,e6,e7,e8,e9⟩:=fl.tr;have nF:∀ b∈frs (env::outer),(f6 s.heap (ea::T::frs (env::outer))).get? b=xb:=fun b hb=>f7 _ (ai _ (ai _ hb));have hb0:∀ b,(f6 s.heap (ea::T::frs (env::outer))).get? b=xb->b=ea∨b=T∨b∈frs (env::outer)∨s.heap.get? b=xb:=fun b z=>by
  rcases Ap z with z|z
  ·rcases aj.mp z with z|z
   ·exact .inl z
   ·rcases aj.mp z with z|z
    ·exact .inr (.inl z)
    ·exact .inr (.inr (.inl z))
  ·exact .inr (.inr (.inr z))
 refine wpAny_leaving_nextW (base:=f6 s.heap (ea::T::frs (env::outer))) (cls:=.ref (exC c)) (a0:=a0) hfr (vH funs nF) hf ?_ (fun b o z=>mh _ z) (f7 _ aq) fun h' hL=> ?_
 ·exact⟨oe,vs,T,oT,ts,e1,⟨e2,e4⟩,e3,e5,f7 _ (ai _ aq),e6,e7,e8,e9⟩
 ·obtain⟨k1,k2,k3,k4⟩:=hL;obtain⟨T',f1,f2⟩:=Az (T:=T) hok h0p hb0 k2 k3 rfl fl.h0e fl.He fl.h0T fl.HT;refine hQ h' T' ⟨fun b o z n1 n2 n3=>k1 b o (kc _ z ?_),fun b o z hb=> ?_⟩ f1 f2
  ·intro hm;rcases aj.mp hm with hm|hm
   ·exact n2 hm
   ·rcases aj.mp hm with hm|hm
    ·exact n3 hm
    ·exact n1 hm
  ·obtain⟨_,o',q1,q2⟩:=funs.mem hb;rw[z] at q1;cases q1;exact k4 b o z q2
theorem ES (hfr:A.frames=xa (env::outer)) (hf:env.frame=xa L) (funs:s.heap.FunFrames base (env::outer)) (hok:HOk P w H s.heap) (h0p:∀ b,s.heap.get? b=xb->h0.get? b=xb) (fl:Raw exC c ea h0 H s.heap)
  (hQ:∀ h' T',Pass (frs (env::outer)) ea ea s.heap h'->FlyT exC c ea T' h0 H h'->s.heap.get? T'=xb->Q () { s with heap:=h' }):az M A (leaving env (.ref ea)) Q E s:=by
 obtain⟨t,e1⟩:=fl.at_;have nF:∀ b∈frs (env::outer),(f6 s.heap (ea::frs (env::outer))).get? b=xb:=fun b hb=>f7 _ (ai _ hb);have hb0:∀ b,(f6 s.heap (ea::frs (env::outer))).get? b=xb->b=ea∨b=ea∨b∈frs (env::outer)∨s.heap.get? b=xb:=fun b z=>by
  rcases Ap z with z|z
  ·rcases aj.mp z with z|z
   ·exact .inl z
   ·exact .inr (.inr (.inl z))
  ·exact .inr (.inr (.inr z))
 refine wpAny_leaving_firstW (base:=f6 s.heap (ea::frs (env::outer))) (a0:=.ref t) hfr (vH funs nF) hf e1 (fun b o z=>mh _ z) (f7 _ aq) rfl rfl rfl fun h' hL=> ?_;obtain⟨k1,k2,k3,k4⟩:=hL;obtain⟨T',f1,f2⟩:=Az (T:=ea) (c:=c) (exC:=exC) hok h0p hb0 k2 k3 rfl fl.h0e fl.He fl.h0e fl.He;have hTe:T'≠ea:=by obtain⟨_,_,_,_,_,_,_,_,_,_,z,_⟩:=f1.tr;exact z
 refine hQ h' T' ⟨fun b o z n1 n2 n3=>k1 b o (kc _ z ?_),fun b o z hb=> ?_⟩ f1 (f2.resolve_left hTe)
 ·intro hm;rcases aj.mp hm with hm|hm
  ·exact n2 hm
  ·exact n1 hm
 ·obtain⟨_,o',q1,q2⟩:=funs.mem hb;rw[z] at q1;cases q1;exact k4 b o z q2
end
theorem exc_def {K:aa}:
  Exc (AL (CX1 P w exC) P w K mg base N qual scope f cd A outer s H E) exC (fun c H'=>E (.ref (exC c)) xb H')/\Pn (AL (CX1 P w exC) P w K mg base N qual scope f cd A outer s H E) exC (fun c H'=>E (.ref (exC c)) xb H'):=by
 have main:∀ {pins:List (af×Obj)}{σ':St}{H':Hp}{s':au}{c:Nat}{ea T T':af}{h'':c9},Inv (AL (CX1 P w exC) P w K mg base N qual scope f cd A outer s H E) pins σ' H' s'->
   s.heap.get? ea=xb->s.heap.get? T=xb->H' ea=xb->H' T=xb->Pass (frs (jj qual scope s.heap.objs.size f cd::outer)) ea T s'.heap h''->FlyT exC c ea T' s.heap H' h''->E (.ref (exC c)) xb H'->
   CX1 P w exC outer H s E (.ref ea) { s' with heap:=h'' }:=fun {pins σ' H' s' c ea T T' h''} I n1 n2 n3 n4 ps fl hE=>by
  have nofr:∀ b u,H' b=xa u->b∉frs (jj qual scope s.heap.objs.size f cd::outer):=fun b u e z=>by
   have:=I.stkFree b z
   rw[e] at this;cases this
  have kb:∀ b u v,H' b=xa u->s'.heap.get? b=xa v->h''.get? b=xa v:=fun b u v e z=>ps.keep b v z (nofr b u e) (fun q=>by rw[q,n3] at e;cases e) fun q=>by rw[q,n4] at e;cases e
  have old:∀ {b:af}{o:Obj},s.heap.get? b=xa o->b≠ea/\b≠T:=fun {b o} z=>⟨fun q=>(by rw[q,n1] at z;cases z),fun q=>(by rw[q,n2] at z;cases z)⟩;have fr1:∀ b,b∈frs (jj qual scope s.heap.objs.size f cd::outer)->b=s.heap.objs.size∨b∈frs outer:=fun b hb=>by
   have hb':b∈s.heap.objs.size::frs outer:=hb;exact aj.mp hb'
  have nx:∀ b:af,b∉(AL (CX1 P w exC) P w K mg base N qual scope f cd A outer s H E).ex:=fun b z=>absurd (show b∈([]:List af) from z) (by simp);refine⟨c,ea,T',H',rfl,I.os,I.bare,⟨fun b o e n hb _=> ?_,fun b o e n hb _=> ?_,fun b o e n _=>I.base.free b o e n (nx b),fun b o e _=> ?_,I.base.tups,I.base.frzs,I.base.tbls⟩,fun b u e=> ?_,fl,hE⟩
  ·have z:=I.base.keep b o e n hb (nx b);refine ps.keep b o z (fun hm=> ?_) (old e).1 (old e).2;rcases fr1 b hm with q|q
   ·exact absurd (bp e) (by rw[q];exact gv _)
   ·exact hb q
  ·obtain⟨sl,z⟩:=I.base.slot b o e n hb (nx b);obtain⟨sl2,z2⟩:=ps.slot b _ z (show b∈s.heap.objs.size::frs outer from ai _ hb);exact⟨sl2,z2⟩
  ·obtain⟨o',z⟩:=I.base.there b o e (nx b)
   by_cases hm:b∈frs (jj qual scope s.heap.objs.size f cd::outer)
   ·obtain⟨sl2,z2⟩:=ps.slot b _ z hm;exact⟨_,z2⟩
   ·exact⟨_,ps.keep b o' z hm (old e).1 (old e).2⟩
  ·refine(I.hok b u e).stay (fun c v hc q=> ?_) (fun _ q=>q) fun _ _ q=>q;rcases hc with rfl|hc
   ·exact kb c u v e q
   ·exact kb c _ v hc q
 refine⟨⟨fun c ea T H' pins σ' s' I fl _ hE=> ?_,rfl⟩,⟨fun c ea H' pins σ' s' I fl hE=> ?_,rfl⟩⟩
 ·exact ET (L:=s.heap.objs.size) I.ok.frames rfl I.stack I.hok (fun b z=>I.pers rfl z) fl fun h'' T' ps fl' _=>main I fl.h0e fl.h0T fl.He fl.HT ps fl' hE
 ·exact ES (L:=s.heap.objs.size) I.ok.frames rfl I.stack I.hok (fun b z=>I.pers rfl z) fl fun h'' T' ps fl' _=>main I fl.h0e fl.h0e fl.He fl.He ps fl' hE
noncomputable def cF (N:List Str) (ds:List D):Rho:=ds.map xa++aw (N.length-ds.length) xb
theorem Cz {K:aa} (r:Reps K ok H vs ds):EnvR K ok H (start N vs) (cF N ds)/\(start N vs).length=(cF N ds).length:=by
 refine⟨fun i d e=> ?_,?_⟩
 ·unfold cF at e
  by_cases hi:i<ds.length
  ·rw[ao (by simpa using hi),ax] at e;obtain⟨d',e1,e2⟩:=aI e;cases e2;obtain⟨v,e3,r'⟩:=r.get e1;have hv:i<vs.length:=(bt.mp e3).1;refine⟨v,?_,r'⟩;unfold start;rw[ao (by simpa using hv),ax,e3];rfl
  ·rw[dn (by simpa using hi),fz] at e;split at e <;> cases e
 ·unfold start cF;rw[b8,b8,am,am,jn,jn,r.length]
noncomputable def eC (n:Nat) (N:List Str) (G:OS):eN:=fun ds ω=>if ds.length=n then(match G (cF N ds) ω with
 |some (.rt d,ω')=>xa (.ok d,ω')
 |some (.nx _,ω')=>xa (.ok .non,ω')
 |some (.ex c,ω')=>xa (.ex c,ω')
 |_=>xb) else xb
theorem RN {K:aa}{st:cz} (F:Fun K x qual st f fd) (S:kX N ps (bH st))
  (hbody:∀(cdv:ag) (A:d8) (outer:List Env) (s:au) (H:Hp) (E:XK),Room k (A.deeper (jj qual (bH st) s.heap.objs.size f cdv))->Exc (AL (CX1 P w exC) P w K mg base N qual (bH st) f cdv A outer s H E) exC (fun c H'=>E (.ref (exC c)) xb H')->Pn (AL (CX1 P w exC) P w K mg base N qual (bH st) f cdv A outer s H E) exC (fun c H'=>E (.ref (exC c)) xb H')->
   OSs (AL (CX1 P w exC) P w K mg base N qual (bH st) f cdv A outer s H E) cls (fun c H'=>E (.ref (exC c)) xb H') (fW st) G):sE P w K mg base (CX1 P w exC) (k+1) f fd ps (spO cls exC K (eC ps.length N G)):=by
 obtain⟨oc,od,kV,doc,pm,an,cdv,ct,osl,rfl,lk,hcd⟩:=F.ex;have len:∀ vs H Q E,spO cls exC K (eC ps.length N G) vs H Q E->vs.length=ps.length:=fun vs H Q E ⟨ok,ω,ds,r,ω',h1,h2,h3,h4,h5⟩=>by
  rw[h3.length];exact(cS (show(if ds.length=ps.length then _ else xb)=_ from h4)).1
 refine Qy lk hcd S len fun A outer s H vs Q E hr hsp=> ?_;obtain⟨ok,ω,ds,r,ω',h1,h2,h3,h4,h5⟩:=hsp;refine⟨_,hbody cdv A outer s H E hr exc_def.1 exc_def.2,?_⟩;obtain⟨_,h4⟩:=cS (show(if ds.length=ps.length then _ else xb)=_ from h4);obtain⟨e1,e2⟩:=Cz (N:=N) h3;cases q:G (cF N ds) ω with
 |none=>rw[q] at h4;cases h4
 |some pr=>
  obtain⟨o,ω2⟩:=pr;rw[q] at h4;refine⟨ok,cF N ds,ω,o,ω2,⟨h1,h2,e1,e2⟩,q,?_⟩;cases o with
  |rt d=>cases h4;exact fun v ok' H' n rv=>h5 v ok' H' n rv
  |nx ρ=>cases h4;exact fun ok' H' σ' n _ _=>h5 .non ok' H' n .non
  |ex c=>cases h4;exact fun ok' H' n=>h5 ok' H' n
  |bk ρ=>cases h4
  |ct ρ=>cases h4
noncomputable abbrev Ct:List ag:=[.type "ValueError",.type "Exception",.type "BaseException",.type "object"]
def ownIn (K:aa) (C:af) (tl:List ag):Prop:=∃(dd:Option af) (cd:ClassData) (k0 k1 k2 k3 k5:Option ag),K.lookup C=xa ⟨.type "type",dd,.cls cd,#[k0,k1,k2,k3,xa (.builtin "ValueError.__new__"),k5]⟩/\
 cd.mro=.ref C::tl/\cd.hasDel=false/\nh K Ct tl=true/\lh K cd.ns=true/\cx K cd.ns "__init__"=xa xb
theorem Et {K:aa} (X:K.In h) (q:ownIn K C tl):∃(nm qn:Str) (N:af) (bs:List ag) (hdct:Bool) (sn:List Str) (sub:List ag) (ab:Bool) (col:Option Bool) (dd:Option af) (k0 k1 k2 k3 k5:Option ag) (mN:Str->Option ag),
  h.get? C=xa (excClassObj nm qn C N bs tl hdct sn sub ab col dd k0 k1 k2 k3 k5 "ValueError.__new__")/\h.Ns N mN/\mN "__init__"=xb/\OwnTail h Ct tl:=by
 obtain⟨dd,cd,k0,k1,k2,k3,k5,hl,hm,hd,ht,hn,hi⟩:=q;obtain⟨a1,a2,a3,a4,a5,a6,a7,a8,a9,b1,b2⟩:=cd;dsimp only at hm hd hn hi;subst hm hd;exact⟨a1,a5,a4,a2,a6,a7,a8,a9,b1,dd,k0,k1,k2,k3,k5,_,X _ _ hl,.of_isNs (PySem.W.isNs_of_in X hn),PySem.W.nsMap_none_of_in X hn hi,PySem.W.tail_of_in X ht⟩
noncomputable def Bv (c:Nat) (f:DF):OS:=fun ρ ω=>(f ρ).map fun _=>(.ex c,ω)
section
variable {X:Cx}{cls exC:Nat->af}{E:XE}{e:bw}{f:DF}{pos np cpos:Pos}{x:Str}{c:Nat}{tl:List ag}
theorem BA (hc:X.calm=true) (hx:Pn X exC E) (hg:Gl X x) (hm:X.mg x=xa (.ref (exC c))) (hq:ownIn X.K (exC c) tl) (he:DE X e f) (hdb:(x==("__debug__":Str))=false:=by decide)
  (hst:ay [e] X.env=(false,eval e X.env)::ay [] X.env:=by rfl) (hpl:(dw cpos (ay [e] X.env)).any (·.1)=false:=by rfl):
  OSt X cls E (.Raise (xa (.Call (.Name x np) [e] [] cpos)) xb pos) (Bv c f):=by
 rintro pins s σ H D I ⟨ok,ρ,ω,o,ω',P,e0,q⟩;obtain⟨d,e1,e2⟩:=aI e0;cases e2;obtain⟨nm,qn,N,bs,hdct,sn,sub,ab,col,dd,k0,k1,k2,k3,k5,mN,hC,hN,hni,T⟩:=Et I.mod.kin hq;refine wpAny_Raise_call_subT (C:=exC c) (N:=N) (bm:=tl) (hdct:=hdct) (sn:=sn) (sub:=sub) (ab:=ab) (col:=col) (dd:=dd) (k0:=k0) (k1:=k1) (k2:=k2) (k3:=k3) (k5:=k5) (nm:=nm) (q:=qn) (bs:=bs)
  PySem.F.excBase_ValueError (mN:=mN) (T.hasType rfl) (I.ok.hd hc) hpl hni (uY I hg hm ⟨rfl,?_⟩ hdb)
 have ha:=(LP he OO hst:DA X [e] (LV f QE)) cpos pins s σ H (fun vs H'=>vs.length<=sizeLine/\Same H H') I
  ⟨ok,ρ,[d],P.okh,P.env,by unfold LV QE;rw[e1];rfl,fun vs H' s' r=>⟨by rw[r.length];show 1<=sizeLine;decide,s'⟩⟩
 rw[hst] at ha ⊢;refine ua (thn ha fun us s2 ⟨vs,H2,I2,rv,hl,sm⟩=>⟨rfl,by show us.length<=_;rw[<- rv.length];exact hl,I2.bk _ _ hC,hN.keeps I2.bk,T.keeps I2.bk,fun h' ea hm'=> ?_⟩);have I3:Inv X pins σ H2 { s2 with heap:=h' }:=I2.kept (t':=s2.toks) hm'.keeps;obtain⟨t,z1,z2,z3⟩:=hm'.there;refine hx.raw c ea H2 pins σ _ I3 ⟨⟨t,z1⟩,I2.pers hx.ex hm'.new,?_⟩ (q ok H2 (.same P.okh P.st sm));cases w:H2 ea with
 |none=>rfl
 |some u=>
  obtain⟨u',w'⟩:=HOk.obj I2.hok w;rw[hm'.new] at w';cases w'
theorem _root_.L2.Inv.passed (I:Inv X pins σ H s) (hx:X.ex=[]) (ps:Pass (frs X.stack) ea T s.heap h') (n1:X.s₀.heap.get? ea=xb) (n2:X.s₀.heap.get? T=xb) (n3:H ea=xb) (n4:H T=xb)
  (hp:∀ p∈X.pn++pins,p.1≠ea/\p.1≠T) (hf:∀ b,(b=ea∨b=T)->∃ o vs,s.heap.get? b=xa o/\o.data=.fields vs):Inv X pins σ H { s with heap:=h' }:=by
 have nofr:∀ b u,H b=xa u->b∉frs X.stack:=fun b u e z=>by
  have:=I.stkFree b z
  rw[e] at this;cases this
 have any:∀ b o,s.heap.get? b=xa o->(∀ vs,o.data≠ .fields vs)->∃ sl,h'.get? b=xa { o with slots:=sl }:=fun b o e nf=>by
  by_cases hb:b∈frs X.stack
  ·exact ps.slot b o e hb
  ·refine⟨o.slots,ps.keep b o e hb (fun z=> ?_) fun z=> ?_⟩
   ·obtain⟨o',vs,w1,w2⟩:=hf b (.inl z);rw[e] at w1;cases w1;exact nf vs w2
   ·obtain⟨o',vs,w1,w2⟩:=hf b (.inr z);rw[e] at w1;cases w1;exact nf vs w2
 have kb:∀ b u v,H b=xa u->s.heap.get? b=xa v->h'.get? b=xa v:=fun b u v e z=>ps.keep b v z (nofr b u e) (fun q=>by rw[q,n3] at e;cases e) fun q=>by rw[q,n4] at e;cases e
 have old:∀ {b:af}{o:Obj},X.s₀.heap.get? b=xa o->b≠ea/\b≠T:=fun {b o} z=>⟨fun q=>(by rw[q,n1] at z;cases z),fun q=>(by rw[q,n2] at z;cases z)⟩;have locf:∀ b,b∈frs X.stack->b=X.env.locals∨b∈X.fs:=fun b hb=>aj.mp (I.stkSub b hb);obtain⟨m,⟨oL,es,ep,hoL,hdL,rL⟩,lk⟩:=id I.loc;obtain⟨slL,hL⟩:=any _ oL hoL fun vs z=>by rw[hdL] at z;cases z
 refine⟨I.ok,I.os,I.bare,⟨fun b o e n hb hxx=> ?_,fun b o e n hb hxx=> ?_,I.base.free,fun b o e hxx=> ?_,I.base.tups,I.base.frzs,I.base.tbls⟩,⟨m,⟨_,es,ep,hL,hdL,rL⟩,fun i x v e1 e2 e3=> ?_⟩,fun x c e=> ?_,I.free,I.freeC,fun p hpp=> ?_,fun b u e=> ?_,I.len⟩
 ·have z:=I.base.keep b o e n hb hxx;refine ps.keep b o z (fun hm=> ?_) (old e).1 (old e).2;rcases locf b hm with q|q
  ·exact absurd (bp e) (by rw[q];exact ub.mpr I.ok.above)
  ·exact hb q
 ·obtain⟨sl,z⟩:=I.base.slot b o e n hb hxx
  by_cases hm:b∈frs X.stack
  ·obtain⟨sl2,z2⟩:=ps.slot b _ z hm;exact⟨sl2,z2⟩
  ·exact⟨sl,ps.keep b _ z hm (old e).1 (old e).2⟩
 ·obtain⟨o',z⟩:=I.base.there b o e hxx
  by_cases hm:b∈frs X.stack
  ·obtain⟨sl2,z2⟩:=ps.slot b _ z hm;exact⟨_,z2⟩
  ·exact⟨_,ps.keep b o' z hm (old e).1 (old e).2⟩
 ·obtain⟨u,ru,z⟩:=lk i x v e1 e2 e3;refine⟨u,ru,?_⟩;rcases z with z|⟨k,c,e,oc,w1,w2⟩
  ·exact .inl z
  ·obtain⟨sl,w3⟩:=any c oc w1 fun vs q=>by rw[w2] at q;cases q
   exact .inr ⟨k,c,e,_,w3,w2⟩
 ·obtain⟨v,oc,w1,w2⟩:=I.cell x c e;obtain⟨sl,w3⟩:=any c oc w1 fun vs q=>by rw[w2] at q;cases q
  exact⟨v,_,w3,w2⟩
 ·obtain⟨e,n,ne,nf,d⟩:=I.pin p hpp;refine⟨ps.keep p.1 p.2 e (fun hm=> ?_) (hp p hpp).1 (hp p hpp).2,n,ne,nf,d⟩;rcases locf p.1 hm with q|q
  ·exact ne q
  ·exact nf q
 ·refine(I.hok b u e).stay (fun c v hc q=> ?_) (fun _ q=>q) fun _ _ q=>q;rcases hc with rfl|hc
  ·exact kb c u v e q
  ·exact kb c _ v hc q
end
theorem rQ {K:aa} (X:K.In s.heap) (q:ownIn K C tl) (q':ownIn K C' tl') (he:s.heap.get? ea=xa oe) (hc:oe.cls=.ref C)
  (h:Q ((ck C::tl).contains (.ref C')) s):az M A (excMatches (.ref ea) (.ref C')) Q E s:=by
 obtain⟨nm,qn,N,bs,hdct,sn,sub,ab,col,dd,k0,k1,k2,k3,k5,mN,hC,hN,hni,T⟩:=Et X q;obtain⟨nm',qn',N',bs',hdct',sn',sub',ab',col',dd',k0',k1',k2',k3',k5',mN',hC',hN',hni',T'⟩:=Et X q';have hB:(ck C'::tl').contains (.type "BaseException")=true:=by rw[List.contains_cons,T'.hasType (X:="BaseException") (b:=true) rfl,Bool.or_true]
 have f:=tc_notTuple;obtain⟨hp,g,d,tk,os⟩:=s;unfold excMatches
 generalize hb:(ck C::tl).contains (.ref C')=b at h
 repeat (first|(with_reducible refine qk he ?_;rw[hc])|with_reducible refine qk hC' ?_|(with_reducible refine um hC' ?_;rw[hB])|(with_reducible refine um hC ?_;rw[hb])|wp_step)
 cases b <;> (wp_walk;exact h)
section
variable {M:Model}{A:d8}{E:ag->au->Prop}{s:au}{env:Env}{outer:List Env}{base h0:c9}{H:Hp}{exC:Nat->af}{c:Nat}{ea T L:af}{Q:Unit->au->Prop}{P:dm}{w:dr}
theorem Hv (hfr:A.frames=xa (env::outer)) (hf:env.frame=xa L) (funs:s.heap.FunFrames base (env::outer)) (hok:HOk P w H s.heap) (h0p:∀ b,s.heap.get? b=xb->h0.get? b=xb) (fl:FlyT exC c ea T h0 H s.heap)
  (hQ:∀ h' T',Pass (frs (env::outer)) ea T s.heap h'->FlyT exC c ea T' h0 H h'->(T'=T∨s.heap.get? T'=xb)->Q () { s with heap:=h' }):
  az M A (u6 (.ref ea) env) (fun _ s₂=>az M A (u7 (.ref ea) xb) Q E s₂) E s:=by
 obtain⟨oe,oT,vs,ts,a0,e1,e2,e3,e4,e5,e6,e7,e8,e9⟩:=fl.tr;have nF:∀ b∈frs (env::outer),(f6 s.heap (ea::T::frs (env::outer))).get? b=xb:=fun b hb=>f7 _ (ai _ (ai _ hb));have hb0:∀ b,(f6 s.heap (ea::T::frs (env::outer))).get? b=xb->b=ea∨b=T∨b∈frs (env::outer)∨s.heap.get? b=xb:=fun b z=>by
  rcases Ap z with z|z
  ·rcases aj.mp z with z|z
   ·exact .inl z
   ·rcases aj.mp z with z|z
    ·exact .inr (.inl z)
    ·exact .inr (.inr (.inl z))
  ·exact .inr (.inr (.inr z))
 refine wpAny_noteFrame_onW (base:=f6 s.heap (ea::T::frs (env::outer))) (cls:=.ref (exC c)) (a0:=a0) hfr (vH funs nF) hf ?_ (fun b o z=>mh _ z) (f7 _ aq) fun h' hN=> ?_
 ·exact⟨oe,vs,T,oT,ts,e1,⟨e2,e4⟩,e3,e5,f7 _ (ai _ aq),e6,e7,e8,e9⟩
 ·obtain⟨k1,k2,k3,k4⟩:=hN;refine wpAny_setFlight_noneW (base:=f6 s.heap (ea::T::frs (env::outer))) (l:=env::outer) k1 k2 k3 fun h'' m1 m2 m3 m4=> ?_;obtain⟨T',f1,f2⟩:=Az (T:=T) (s:=s) hok h0p hb0 m2 m3 rfl fl.h0e fl.He fl.h0T fl.HT;refine hQ h'' T' ⟨fun b o z n1 n2 n3=>m1 b o (kc _ z ?_),fun b o z hb=> ?_⟩ f1 f2
  ·intro hm;rcases aj.mp hm with hm|hm
   ·exact n2 hm
   ·rcases aj.mp hm with hm|hm
    ·exact n3 hm
    ·exact n1 hm
  ·obtain⟨_,o',q1,q2⟩:=funs.mem hb;rw[z] at q1;cases q1;obtain⟨sl,w1⟩:=k4 b o z q2;exact⟨sl,m4 b _ w1 q2⟩
theorem AA (funs:s.heap.FunFrames base outer) (fl:FlyT exC c ea T h0 H s.heap) (hQ:∀ h',Pass (frs outer) ea T s.heap h'->FlyT exC c ea T h0 H h'->Q () { s with heap:=h' }):az M A (u7 (.ref ea) xb) Q E s:=by
 obtain⟨oe,oT,vs,ts,a0,e1,e2,e3,e4,e5,e6,e7,e8,e9⟩:=fl.tr;have hz:3<ts.size:=(lw.mp e9).1;have oth:∀ b,b≠T->(s.heap.update T (lz (·.setIfInBounds 3 .none))).get? b=s.heap.get? b:=fun b hb=>fm _ _ (bz hb);refine wpAny_setFlight_none e1 e3 e5 e7 e8 hz (hQ _ ⟨fun b o z _ _ n3=>(oth b n3).trans z,fun b o z hb=>⟨o.slots,(oth b fun q=> ?_).trans z⟩⟩ ⟨⟨oe,_,vs,_,a0,(oth ea (bz e6)).trans e1,e2,e3,e4,e5,e6,gy _ e7 (o5 (jl e8 _)),jl e8 _,by simp[hz]⟩,fl.h0e,fl.h0T,fl.He,fl.HT⟩);obtain⟨_,o',q1,q2⟩:=funs.mem hb;rw[q,e7] at q1;cases q1;exact q2 ts e8
end
noncomputable abbrev Xm (X:Cx) (ea:af):Cx:={ X with A:=X.A.mark (xa (.ref ea)),calm:=false,xe:=fun _ _=>False }
noncomputable abbrev Xp (X:Cx) (pn:List (af×Obj)) (xe:ag->au->Prop):Cx:={ X with pn:=pn,xe:=xe }
section
variable {X:Cx}{pins pins':List (af×Obj)}{σ:St}{H:Hp}{s:au}{xe:ag->au->Prop}
theorem _root_.L2.Inv.marked (I:Inv X pins σ H s) (ea:af):Inv (Xm X ea) pins σ H s:=
 ⟨⟨I.ok.mod,I.ok.kind,I.ok.glob,I.ok.blt,I.ok.above,I.ok.inj,I.ok.has,I.ok.cab,(fun z=>nomatch z),I.ok.frames,I.ok.stk,I.ok.exf,I.ok.bs,I.ok.bsz,I.ok.noex,I.ok.exfs,I.ok.funs,I.ok.frf⟩,I.os,I.bare,I.base,I.loc,I.cell,I.free,I.freeC,I.pin,I.hok,I.len⟩
theorem _root_.L2.Inv.unmarked (k:X.calm=true->X.A.handled=xb) (I:Inv (Xm X ea) pins σ H s):Inv X pins σ H s:=
 ⟨⟨I.ok.mod,I.ok.kind,I.ok.glob,I.ok.blt,I.ok.above,I.ok.inj,I.ok.has,I.ok.cab,k,I.ok.frames,I.ok.stk,I.ok.exf,I.ok.bs,I.ok.bsz,I.ok.noex,I.ok.exfs,I.ok.funs,I.ok.frf⟩,I.os,I.bare,I.base,I.loc,I.cell,I.free,I.freeC,I.pin,I.hok,I.len⟩
theorem _root_.L2.Inv.pned (I:Inv X pins σ H s):Inv (Xp X (X.pn++pins) xe) [] σ H s:=
 ⟨⟨I.ok.mod,I.ok.kind,I.ok.glob,I.ok.blt,I.ok.above,I.ok.inj,I.ok.has,I.ok.cab,I.ok.hd,I.ok.frames,I.ok.stk,I.ok.exf,I.ok.bs,I.ok.bsz,I.ok.noex,I.ok.exfs,I.ok.funs,I.ok.frf⟩,I.os,I.bare,I.base,I.loc,I.cell,I.free,I.freeC,fun p hp=>I.pin p (by simpa using hp),I.hok,I.len⟩
theorem _root_.L2.Inv.unpned (I:Inv (Xp X (X.pn++pins) xe) pins' σ H s):Inv X pins σ H s:=
 ⟨⟨I.ok.mod,I.ok.kind,I.ok.glob,I.ok.blt,I.ok.above,I.ok.inj,I.ok.has,I.ok.cab,I.ok.hd,I.ok.frames,I.ok.stk,I.ok.exf,I.ok.bs,I.ok.bsz,I.ok.noex,I.ok.exfs,I.ok.funs,I.ok.frf⟩,I.os,I.bare,I.base,I.loc,I.cell,I.free,I.freeC,fun p hp=>I.pin p (de _ hp),I.hok,I.len⟩
theorem SP.unpned {D:Cs} (h:SP (Xp X (X.pn++pins) xe) [] D f s):SP X pins D f s:=by
 cases f with
 |next=>obtain⟨σ',H',I,q⟩:=h;exact⟨σ',H',I.unpned,q⟩
 |brk=>obtain⟨σ',H',I,q⟩:=h;exact⟨σ',H',I.unpned,q⟩
 |cont=>obtain⟨σ',H',I,q⟩:=h;exact⟨σ',H',I.unpned,q⟩
 |ret u=>obtain⟨v,σ',H',I,r,q⟩:=h;exact⟨v,σ',H',I.unpned,r,q⟩
theorem SP.unmarked {D:Cs} (k:X.calm=true->X.A.handled=xb) (h:SP (Xm X ea) pins D f s):SP X pins D f s:=by
 cases f with
 |next=>obtain⟨σ',H',I,q⟩:=h;exact⟨σ',H',I.unmarked k,q⟩
 |brk=>obtain⟨σ',H',I,q⟩:=h;exact⟨σ',H',I.unmarked k,q⟩
 |cont=>obtain⟨σ',H',I,q⟩:=h;exact⟨σ',H',I.unmarked k,q⟩
 |ret u=>obtain⟨v,σ',H',I,r,q⟩:=h;exact⟨v,σ',H',I.unmarked k,r,q⟩
variable {exC:Nat->af}{c c':Nat}{ea T:af}{x:Str}{np pos:Pos}{b₀:cz}{suite:List cz}{rest:List ExceptHandler}{tl tl':List ag}{Q:Flow->au->Prop}{E:ag->au->Prop}
theorem FlyT.fields (fl:FlyT exC c ea T X.s₀.heap H s.heap):∀ b,(b=ea∨b=T)->∃ o vs,s.heap.get? b=xa o/\o.data=.fields vs:=fun b hb=>by
 obtain⟨oe,oT,vs,ts,a0,e1,e2,e3,e4,e5,e6,e7,e8,e9⟩:=fl.tr;rcases hb with rfl|rfl
 ·exact⟨_,_,e1,e3⟩
 ·exact⟨_,_,e7,e8⟩
theorem kQ (I:Inv X pins σ H s) (hex:X.ex=[]) (fl:FlyT exC c ea T X.s₀.heap H s.heap) (hp:∀ p∈X.pn++pins,p.1≠ea/\p.1≠T) (hg:Gl X x) (hm:X.mg x=xa (.ref (exC c'))) (ho:ownIn X.K (exC c) tl) (ho':ownIn X.K (exC c') tl')
  (hit:(ck (exC c)::tl).contains (.ref (exC c'))=true->∀ s',Inv (Xm X ea) pins σ H s'->az (model X.prog X.w) (Xm X ea).A (execs (b₀::suite) X.env) Q (fun _ _=>False) s')
  (miss:(ck (exC c)::tl).contains (.ref (exC c'))=false->az (model X.prog X.w) X.A (handleBy (.ref ea) X.env rest) Q E s) (hdb:(x==("__debug__":Str))=false:=by decide):
  az (model X.prog X.w) X.A (handleBy (.ref ea) X.env (.ExceptHandler (xa (.Name x np)) xb (b₀::suite) pos::rest)) Q E s:=by
 obtain⟨oe,oT,vs,ts,a0,e1,e2,_⟩:=fl.tr;refine wpAny_handleBy_cons (codeAny_handlers_test (uY (I.marked ea) hg hm ?_ hdb)) (fun z=>nomatch z);refine rQ (K:=X.K) (C:=exC c) (C':=exC c') I.kIn ho ho' e1 e2 ?_;cases hb:(ck (exC c)::tl).contains (.ref (exC c')) with
 |false=>exact miss hb
 |true=>
  refine codeAny_handlers_suite (AA I.stack fl fun h' ps fl'=> ?_);have I':Inv X pins σ H { s with heap:=h' }:=I.passed hex ps fl.h0e fl.h0T fl.He fl.HT hp fl.fields;exact g9 (hit hb _ (I'.marked ea)) (fun _ _ q=>q) fun _ _ z=>z.elim
end
noncomputable def wY (F:OS) (c1:Nat) (G1:OS) (c2:Nat) (G2:OS):OS:=fun ρ ω=>match F ρ ω with
 |some (.ex c,ω1)=>if c=c1 then sNx G1 (aw ρ.length xb) ω1 else if c=c2 then sNx G2 (aw ρ.length xb) ω1 else xb
 |r=>r
section
variable {X:Cx}{cls exC:Nat->af}{E:XE}{body:List cz}{F G1 G2:OS}{c1 c2:Nat}{x1 x2:Str}{np1 np2 p1 p2 pos:Pos}{b1 b2:cz}{r1 r2:List cz}{tl1 tl2:List ag}
theorem GA (I:Inv X pins σ H s):Inv X pins (aw σ.length xb) H s:=I.weak (by simp) fun i v e=>by
 rw[fz] at e;split at e <;> cases e
theorem Kk (hex:X.ex=[]) (hc:X.calm=true) (hs:X.stack=X.env::X.outer) (hf:∃ L,X.env.frame=xa L) (hg1:Gl X x1) (hg2:Gl X x2) (hm1:X.mg x1=xa (.ref (exC c1))) (hm2:X.mg x2=xa (.ref (exC c2))) (ho1:ownIn X.K (exC c1) tl1) (ho2:ownIn X.K (exC c2) tl2)
  (hne:(ck (exC c2)::tl2).contains (.ref (exC c1))=false)
  (hb:∀ pn xe E',Exc (Xp X pn xe) exC E'->OSs (Xp X pn xe) cls E' body F) (h1:∀ ea,OSs (Xm X ea) cls EF (b1::r1) G1) (h2:∀ ea,OSs (Xm X ea) cls EF (b2::r2) G2)
  (hd1:(x1==("__debug__":Str))=false:=by decide) (hd2:(x2==("__debug__":Str))=false:=by decide):
  OSt X cls E (.Try body [.ExceptHandler (xa (.Name x1 np1)) xb (b1::r1) p1,.ExceptHandler (xa (.Name x2 np2)) xb (b2::r2) p2] [] [] pos) (wY F c1 G1 c2 G2):=by
 rintro pins s σ H D I ⟨ok,ρ,ω,o,ω',P,e,q⟩;obtain⟨L,hL⟩:=hf
 -- what the body wants
 cases eF:F ρ ω with
 |none=>unfold wY at e;rw[eF] at e;cases e
 |some pr=>
  obtain⟨o1,ω1⟩:=pr;unfold wY at e;rw[eF] at e;refine wpAny_Try_except ?_
  -- the wish within
  have main:∀(E':XE),(∀ c H',E' c H'->∃ ok',Nw cls X.K ok H ok' H' ω1/\∃ z,o1=.ex z/\c=z)->outO cls X.K ok H ω1 E' D o1->
    az (model X.prog X.w) X.A (execs body X.env) (fun f s₁=>match f with|.next=>az (model X.prog X.w) X.A (execs [] X.env) (SP X pins D) X.xe s₁|f=>SP X pins D f s₁)
     (fun e s₁=>az (model X.prog X.w) X.A (u6 e X.env) (fun _ s₂=>az (model X.prog X.w) X.A (u7 e xb) (fun _ s₃=>az (model X.prog X.w) X.A (handleBy e X.env [.ExceptHandler (xa (.Name x1 np1)) xb (b1::r1) p1,.ExceptHandler (xa (.Name x2 np2)) xb (b2::r2) p2]) (SP X pins D) X.xe s₃) X.xe s₂) X.xe s₁) s:=by
   intro E' hE' hout;have ex:Exc (Xp X (X.pn++pins) fun e s₁=>az (model X.prog X.w) X.A (u6 e X.env) (fun _ s₂=>az (model X.prog X.w) X.A (u7 e xb) (fun _ s₃=>az (model X.prog X.w) X.A (handleBy e X.env [.ExceptHandler (xa (.Name x1 np1)) xb (b1::r1) p1,.ExceptHandler (xa (.Name x2 np2)) xb (b2::r2) p2]) (SP X pins D) X.xe s₃) X.xe s₂) X.xe s₁) exC E':=by
    refine⟨fun c ea T H' pins' σ' s' I' fl hpn hE=> ?_,hex⟩;have I1:Inv X pins σ' H' s':=I'.unpned;obtain⟨ok',nw,z,ez,rfl⟩:=hE' c H' hE;subst ez;refine Hv (L:=L) (outer:=X.outer) (P:=X.prog) (w:=X.w) (by rw[I1.ok.frames,hs]) hL (by rw[<- hs];exact I1.stack) I1.hok (fun b w=>I1.pers hex w) fl fun h' T' ps fl' hT=> ?_;have hpT:∀ p∈X.pn++pins,p.1≠ea/\p.1≠T':=fun p hp=>⟨(hpn p hp).1,fun w=>by
     rcases hT with rfl|hT
     ·exact(hpn p hp).2 w
     ·have:=(I1.pin p hp).1
      rw[w,hT] at this;cases this⟩
    have I2:Inv X pins σ' H' { s' with heap:=h' }:=I1.passed hex (by rw[hs];exact ps) fl.h0e fl.h0T fl.He fl.HT hpn fl.fields;have I3:=GA I2;have run:∀ {G:OS}{b:cz}{r:List cz}{s4:au},OSs (Xm X ea) cls EF (b::r) G->sNx G (aw ρ.length xb) ω1=xa (o,ω')->Inv (Xm X ea) pins (aw σ'.length xb) H' s4->az (model X.prog X.w) (Xm X ea).A (execs (b::r) X.env) (SP X pins D) (fun _ _=>False) s4:=fun {G b r s4} hG eG I4=>by
     obtain⟨eG,hn⟩:=DX eG;have hlen:σ'.length=ρ.length:=by rw[I1.len,<- I.len,P.len]
     refine g9 (hG pins s4 _ H' D I4 ⟨ok',_,ω1,o,ω',⟨nw.okh,nw.st,fun i d w=> ?_,by simp[hlen]⟩,eG,?_⟩) (fun _ _ z=>SP.unmarked I.ok.hd z) fun _ _ z=>z
     ·rw[fz] at w;split at w <;> cases w
     ·have q':=q.nw nw;cases o with
      |ex c=>exact absurd rfl (hn c)
      |_=>exact q'
    have e0:(if c=c1 then sNx G1 (aw ρ.length xb) ω1 else if c=c2 then sNx G2 (aw ρ.length xb) ω1 else xb)=xa (o,ω'):=e
    by_cases hz1:c=c1
    ·subst hz1;have e':sNx G1 (aw ρ.length xb) ω1=xa (o,ω'):=by
      rw[if_pos rfl] at e0;exact e0
     refine kQ I3 hex fl' hpT hg1 hm1 ho1 ho1 (fun _ s4 I4=>run (h1 ea) e' I4) (fun w=> ?_) hd1;exact absurd w (by simp)
    ·have e2:(if c=c2 then sNx G2 (aw ρ.length xb) ω1 else xb)=xa (o,ω'):=by
      rw[if_neg hz1] at e0;exact e0
     obtain⟨hz2,e3⟩:=cS e2;subst hz2;refine kQ I3 hex fl' hpT hg1 hm1 ho2 ho1 (fun w=> ?_) (fun _=> ?_) hd1
     ·rw[hne] at w;cases w
     ·refine kQ I3 hex fl' hpT hg2 hm2 ho2 ho2 (fun _ s4 I4=>run (h2 ea) e3 I4) (fun w=> ?_) hd2;exact absurd w (by simp)
   refine g9 (hb _ _ E' ex [] s σ H D I.pned ⟨ok,ρ,ω,o1,ω1,P,eF,hout⟩) (fun f s₁ z=> ?_) fun _ _ z=>z;have z':=SP.unpned z;cases f with
   |next=>
    obtain⟨σ',H',I',q'⟩:=z';exact o7 ⟨σ',H',I',q'⟩
   |_=>exact z'
  cases o1 with
  |ex c=>exact main (fun c' H'=>(∃ ok',Nw cls X.K ok H ok' H' ω1)/\c'=c) (fun c' H' ⟨⟨ok',n⟩,ez⟩=>⟨ok',n,c,rfl,ez⟩) fun ok' H' n=>⟨⟨ok',n⟩,rfl⟩
  |nx ρ1=>cases e;exact main (fun _ _=>False) (fun _ _ z=>z.elim) q
  |rt d=>cases e;exact main (fun _ _=>False) (fun _ _ z=>z.elim) q
  |bk ρ1=>cases e;exact main (fun _ _=>False) (fun _ _ z=>z.elim) q
  |ct ρ1=>cases e;exact main (fun _ _=>False) (fun _ _ z=>z.elim) q
end
def RawD (h:c9) (d:af) (es:Array ln) (ep:Nat):Prop:=∃ o,h.get? d=xa o/\o.ExactDict/\o.data=.dict es ep
theorem RawD.at (x:RawD h d es ep) (k:∀ o,h.get? d=xa o->h'.get? d=xa o):RawD h' d es ep:=let ⟨o,e,r⟩:=x;⟨o,k o e,r⟩
theorem RawD.typeIs {s:au} (x:RawD s.heap d es ep):s.TypeIs (.ref d) "dict":=let ⟨o,e,c,_⟩:=x;⟨o,e,c.1⟩
theorem RawD.lt (x:RawD h d es ep):d<h.objs.size:=let ⟨_,e,_⟩:=x;bp e
section
variable {prog:dm}{w:dr}{A:d8}{E:ag->au->Prop}{s:au}{d v it:af}{es:Array ln}{ep i:Nat}
theorem CF (lo:(d==fu)=false) (r:RawD s.heap d es ep) (q:Q (.ref s.heap.objs.size) { s with heap:=s.heap.push { cls:=.type "dict_values",data:=.fields #[.ref d] } }):
  az (model prog w) A (call (.builtin "dict.values") [.ref d]) Q E s:=by
 refine va (prog:=prog) (w:=w) rc r.typeIs PySem.F.entry_dict_values (PySem.F.args_dict_values_1 _) (S:=fun _ R t=>RawD t.heap d es ep/\R (.ok (.ret (.ref t.heap.objs.size))) { t with heap:=t.heap.push { cls:=.type "dict_values",data:=.fields #[.ref d] } }) (.of_wp fun B R t z=> ?_) ⟨r,q⟩;obtain⟨r1,q1⟩:=z;refine ae ?_;unfold Builtin.Dict.noArgs;refine ae (tz r1.typeIs ?_);show az _ _ (pure d) _ _ t;refine ar ?_;show az _ _ (lj d >>= _) _ _ t;unfold lj;rw[if_neg (show ¬((d==fu)=true) by rw[lo];exact bx)];exact ae (ar (ae (fj (ar ⟨_,rfl,q1⟩))))
theorem Eh (vw:s.heap.IsValuesView v d) (r:RawD s.heap d es ep)
  (q:Q (.ref s.heap.objs.size) { s with heap:=s.heap.push { cls:=.type "dict_valueiterator",data:=.fields #[.ref d,.int 0 0,.int es.size 0,.int ep 0] } }):az (model prog w) A (pyIter (.ref v)) Q E s:=by
 obtain⟨ov,v1,v2,v3⟩:=id vw;obtain⟨o,r1,r2,r3⟩:=id r;refine wpAny_pyIter_slot vw.typeIs ph (ie ph vw.typeIs PySem.F.entry_dict_values_iter ?_ (PySem.F.args_dict_values_iter_1 _));unfold Builtin.«dict_values.__iter__»;refine ae (ar (ae ?_));unfold wx;refine ae (ss v1 v3 (x:=.ref d) rfl (ar (ae ?_)));unfold wk;refine ae (jr r1 r3 (ae (kz r1 r3 ?_)));have own:im "dict_valueiterator"=false:=by decide
 simp only[own,d9,ite_false];refine fj (ar ⟨_,rfl,"dict_valueiterator",_,⟨_,b0 _ rfl,rfl⟩,gg.lookup,?_⟩);simpa [mj] using q
theorem Eg (vi:s.heap.IsValIter it d i es.size ep) (r:RawD s.heap d es ep) (hx:es[i]?=xa e)
  (q:∀ h',h'.IsValIter it d (i+1) es.size ep->f8 it s.heap h'->Q (xa e.val) { s with heap:=h' }):az (model prog w) A (nu (.ref it)) Q E s:=by
 obtain⟨o,i1,i2,i3⟩:=id vi;obtain⟨od,r1,r2,r3⟩:=id r;have lt:i<es.size:=(lw.mp hx).1;have own:im "dict_valueiterator"=false:=by decide
 unfold nu;refine ae (qf (jf (name:=jq "__next__") vi.typeIs gg (ie gg vi.typeIs mf ?_ (l7 _))));refine ae (ar (ae (ae ?_)))
 first|refine ae (jd vi.typeIs (ar ?_))|refine ae (j7 vi.typeIs (ar ?_))
 refine ae (pv i1 i3 ?_);simp only[own,d9,ite_false];show az _ _ (if(ck d==ii)=true then _ else _) _ _ s;rw[if_neg (show ¬((ck d==ii)=true) from fun z=>nomatch z)];refine ae (ar (ae (jr r1 r3 ?_)));rw[if_neg (by simp:¬ _)];refine ae (ar (ae (kz r1 r3 ?_)));rw[if_neg (by simp:¬ _)];refine ar ?_;simp only[show ¬((i:Int)<0) by omega,ite_false,cw,hx];refine ae ?_
 first|refine ae (jd vi.typeIs (ar ?_))|refine ae (j7 vi.typeIs (ar ?_))
 refine ae (o6 vi.typeIs ?_);show az _ _ (setField (.ref it) 1 (mj ((i:Int)+1)) >>= _) _ _ s;refine ae (px i1 i3 (by simp) ?_);have vi2:(s.heap.update it (lz (·.setIfInBounds 1 (mj ((i:Int)+1))))).IsValIter it d (i+1) es.size ep:=⟨_,gy _ i1 (o5 (jl i3 _)),(vj ..).trans i2,by rw[jl i3];simp[mj]⟩;refine ae (iz (ae (o6 (s:={ s with heap:=s.heap.update it (lz (·.setIfInBounds 1 (mj ((i:Int)+1)))) }) vi2.typeIs ?_)));refine ae (o6 (s:={ s with heap:=s.heap.update it (lz (·.setIfInBounds 1 (mj ((i:Int)+1)))) }) vi2.typeIs ?_);exact ar (ar ⟨_,rfl,ar (q _ vi2 (l8 ..))⟩)
theorem GP (hh:A.handled=xb) (vi:s.heap.IsValIter it d i es.size ep) (r:RawD s.heap d es ep) (hx:es.size<=i) (q:∀ h',Heap.ExtBut it s.heap h'->Q xb { s with heap:=h' }):az (model prog w) A (nu (.ref it)) Q E s:=by
 obtain⟨o,i1,i2,i3⟩:=id vi;obtain⟨od,r1,r2,r3⟩:=id r;have own:im "dict_valueiterator"=false:=by decide
 unfold nu;refine ae (qf (jf (name:=jq "__next__") vi.typeIs gg (ie gg vi.typeIs mf ?_ (l7 _))));refine ae (ar (ae (ae ?_)))
 first|refine ae (jd vi.typeIs (ar ?_))|refine ae (j7 vi.typeIs (ar ?_))
 refine ae (pv i1 i3 ?_);simp only[own,d9,ite_false];show az _ _ (if(ck d==ii)=true then _ else _) _ _ s;rw[if_neg (show ¬((ck d==ii)=true) from fun z=>nomatch z)];refine ae (ar (ae (jr r1 r3 ?_)));rw[if_neg (by simp:¬ _)];refine ae (ar (ae (kz r1 r3 ?_)));rw[if_neg (by simp:¬ _)];refine ar ?_;simp only[show ¬((i:Int)<0) by omega,ite_false,cw,s0 hx];refine ae ?_
 first|refine ae (jd vi.typeIs (ar ?_))|refine ae (j7 vi.typeIs (ar ?_))
 show az _ _ (setField (.ref it) 0 .none >>= _) _ _ s;refine ae (px i1 i3 (by simp) ?_);show az _ _ (newExc (.type "StopIteration") [] >>= _) _ _ _;refine ae ?_;simp only[newExc,newTuple];refine ae (fj (ae (m:=pz _ _) (wpAny_of_eq (a:=ii) (by first|rfl|(simp only[pz];rfl)) ?_)) (by size_fits));refine fj ?_ (by size_fits);simp only[raiseNew];refine ae (wpAny_handled ?_);rw[show A.in1.handled=xb from hh];refine ae (ar (wpAny_throw ?_));refine ae (wpAny_isInstance (T:="StopIteration") (b:=true) ⟨_,(b0 _ rfl),rfl⟩ isSubtype_stop ?_);exact ar (q _ (((l8 ..).extBut.push _).push _))
theorem Mq (hh:A.handled=xb) (I:af) (hne:d≠I):Walks prog w A I [I,d] [I] es.size (fun i v=>∃ e,es[i]?=xa e/\v=e.val) (fun i h=>h.IsValIter I d i es.size ep/\RawD h d es ep) where
 sub:=fun b hb=>by simp at hb;simp[hb]
 frame:=fun _ _ _ st hk=>⟨let ⟨o,e,z⟩:=st.1;⟨o,hk I (by simp) o e,z⟩,st.2.at fun o e=>hk d (by simp) o e⟩
 item:=fun i s Q E hi st hQ=>Eg (e:=es[i]) st.1 st.2 (by simp[hi]) fun h' st' sb=>hQ _ h' s.toks ⟨es[i],by simp[hi],rfl⟩ ⟨st',st.2.at fun o e=>(sb.2 d hne).trans e⟩ fun b o hb e=>(sb.2 b fun z=>hb (by simp[z])).trans e
 done:=fun s Q E st hQ=>GP hh st.1 st.2 (bf _) fun h' eb=>hQ h' s.toks fun b o hb e=>eb b o (fun z=>hb (by simp[z])) e
 self:=fun _ _ _ _ st hQ=>wpAny_pyIter_valiter st.1 hQ
theorem sK:p0 prog w "dict_values" v d es.size (fun i x=>∃ e,es[i]?=xa e/\x=e.val) (fun h=>h.IsValuesView v d/\RawD h d es ep) where
 type:=fun _ z=>z.1.typeIs
 there:=fun _ z=>⟨let ⟨_,e,_⟩:=z.1;bp e,z.2.lt⟩
 keep:=fun _ _ z hk=>⟨let ⟨o,e,x⟩:=z.1;⟨o,hk v (.inl rfl) o e,x⟩,z.2.at fun o e=>hk d (.inr rfl) o e⟩
 notList:=by decide
 notTuple:=by decide
 hint:=fun _ _ _ _ z hq=>PySem.W.kdl_hint_values z.1.typeIs hq
 iter:=fun _ _ hh z=>⟨_,_,(fun _ _ hq=>Eh z.1 z.2 hq),Mq hh _ (cj z.2.lt),⟨⟨_,b0 _ rfl,rfl,rfl⟩,z.2.at fun o e=>bc _ e⟩⟩
theorem xD (lo:(d==fu)=false) (r:RawD s.heap d es ep)
  (q:Q (.ref s.heap.objs.size) { s with heap:=s.heap.push { cls:=.type "dict_keyiterator",data:=.fields #[.ref d,.int 0 0,.int es.size 0,.int ep 0] } }):az (model prog w) A (pyIter (.ref d)) Q E s:=by
 obtain⟨o,r1,r2,r3⟩:=id r;refine wpAny_pyIter_slot r.typeIs n8 (ie n8 r.typeIs PySem.F.entry_dict_iter ?_ (PySem.F.args_dict_iter_1 _));unfold Builtin.«dict.__iter__»;refine ae ?_;unfold Builtin.Dict.dictSlotNone;refine ae (tz r.typeIs ?_);show az _ _ (pure (ck d)) _ _ s;refine ar ?_;show az _ _ (lj d >>= _) _ _ s;unfold lj;rw[if_neg (show ¬((d==fu)=true) by rw[lo];exact bx)];refine ae (ar (ae (jr r1 r3 (ae (kz r1 r3 ?_)))));refine ae (fj (ar ⟨_,rfl,"dict_keyiterator",_,⟨_,b0 _ rfl,rfl⟩,gu.lookup,?_⟩));simpa [mj] using q
theorem xC (vi:s.heap.IsKeyIter it d i es.size ep) (r:RawD s.heap d es ep) (hx:es[i]?=xa e)
  (q:∀ h',h'.IsKeyIter it d (i+1) es.size ep->f8 it s.heap h'->Q (xa e.key) { s with heap:=h' }):az (model prog w) A (nu (.ref it)) Q E s:=by
 obtain⟨o,i1,i2,i3⟩:=id vi;obtain⟨od,r1,r2,r3⟩:=id r;have lt:i<es.size:=(lw.mp hx).1;have own:im "dict_keyiterator"=false:=by decide
 unfold nu;refine ae (qf (jf (name:=jq "__next__") vi.typeIs gu (ie gu vi.typeIs ni ?_ (mz _))));refine ae (ar (ae (ae ?_)))
 first|refine ae (je vi.typeIs (ar ?_))|refine ae (j8 vi.typeIs (ar ?_))
 refine ae (pv i1 i3 ?_);simp only[own,d9,ite_false];show az _ _ (if(ck d==ii)=true then _ else _) _ _ s;rw[if_neg (show ¬((ck d==ii)=true) from fun z=>nomatch z)];refine ae (ar (ae (jr r1 r3 ?_)));rw[if_neg (by simp:¬ _)];refine ae (ar (ae (kz r1 r3 ?_)));rw[if_neg (by simp:¬ _)];refine ar ?_;simp only[show ¬((i:Int)<0) by omega,ite_false,cw,hx];refine ae ?_
 first|refine ae (je vi.typeIs (ar ?_))|refine ae (j8 vi.typeIs (ar ?_))
 refine ae (t4 vi.typeIs ?_);show az _ _ (setField (.ref it) 1 (mj ((i:Int)+1)) >>= _) _ _ s;refine ae (px i1 i3 (by simp) ?_);have vi2:(s.heap.update it (lz (·.setIfInBounds 1 (mj ((i:Int)+1))))).IsKeyIter it d (i+1) es.size ep:=⟨_,gy _ i1 (o5 (jl i3 _)),(vj ..).trans i2,by rw[jl i3];simp[mj]⟩;refine ae (iz (ae (t4 (s:={ s with heap:=s.heap.update it (lz (·.setIfInBounds 1 (mj ((i:Int)+1)))) }) vi2.typeIs ?_)));exact ar (ar ⟨_,rfl,ar (q _ vi2 (l8 ..))⟩)
theorem Bw (hh:A.handled=xb) (vi:s.heap.IsKeyIter it d i es.size ep) (r:RawD s.heap d es ep) (hx:es.size<=i) (q:∀ h',Heap.ExtBut it s.heap h'->Q xb { s with heap:=h' }):az (model prog w) A (nu (.ref it)) Q E s:=by
 obtain⟨o,i1,i2,i3⟩:=id vi;obtain⟨od,r1,r2,r3⟩:=id r;have own:im "dict_keyiterator"=false:=by decide
 unfold nu;refine ae (qf (jf (name:=jq "__next__") vi.typeIs gu (ie gu vi.typeIs ni ?_ (mz _))));refine ae (ar (ae (ae ?_)))
 first|refine ae (je vi.typeIs (ar ?_))|refine ae (j8 vi.typeIs (ar ?_))
 refine ae (pv i1 i3 ?_);simp only[own,d9,ite_false];show az _ _ (if(ck d==ii)=true then _ else _) _ _ s;rw[if_neg (show ¬((ck d==ii)=true) from fun z=>nomatch z)];refine ae (ar (ae (jr r1 r3 ?_)));rw[if_neg (by simp:¬ _)];refine ae (ar (ae (kz r1 r3 ?_)));rw[if_neg (by simp:¬ _)];refine ar ?_;simp only[show ¬((i:Int)<0) by omega,ite_false,cw,s0 hx];refine ae ?_
 first|refine ae (je vi.typeIs (ar ?_))|refine ae (j8 vi.typeIs (ar ?_))
 show az _ _ (setField (.ref it) 0 .none >>= _) _ _ s;refine ae (px i1 i3 (by simp) ?_);show az _ _ (newExc (.type "StopIteration") [] >>= _) _ _ _;refine ae ?_;simp only[newExc,newTuple];refine ae (fj (ae (m:=pz _ _) (wpAny_of_eq (a:=ii) (by first|rfl|(simp only[pz];rfl)) ?_)) (by size_fits));refine fj ?_ (by size_fits);simp only[raiseNew];refine ae (wpAny_handled ?_);rw[show A.in1.handled=xb from hh];refine ae (ar (wpAny_throw ?_));refine ae (wpAny_isInstance (T:="StopIteration") (b:=true) ⟨_,(b0 _ rfl),rfl⟩ isSubtype_stop ?_);exact ar (q _ (((l8 ..).extBut.push _).push _))
theorem Mr (hh:A.handled=xb) (I:af) (hne:d≠I):Walks prog w A I [I,d] [I] es.size (fun i v=>∃ e,es[i]?=xa e/\v=e.key) (fun i h=>h.IsKeyIter I d i es.size ep/\RawD h d es ep) where
 sub:=fun b hb=>by simp at hb;simp[hb]
 frame:=fun _ _ _ st hk=>⟨let ⟨o,e,z⟩:=st.1;⟨o,hk I (by simp) o e,z⟩,st.2.at fun o e=>hk d (by simp) o e⟩
 item:=fun i s Q E hi st hQ=>xC (e:=es[i]) st.1 st.2 (by simp[hi]) fun h' st' sb=>hQ _ h' s.toks ⟨es[i],by simp[hi],rfl⟩ ⟨st',st.2.at fun o e=>(sb.2 d hne).trans e⟩ fun b o hb e=>(sb.2 b fun z=>hb (by simp[z])).trans e
 done:=fun s Q E st hQ=>Bw hh st.1 st.2 (bf _) fun h' eb=>hQ h' s.toks fun b o hb e=>eb b o (fun z=>hb (by simp[z])) e
 self:=fun _ _ _ _ st hQ=>uc st.1 hQ
theorem Bt (lo:(d==fu)=false):p0 prog w "dict" d d es.size (fun i x=>∃ e,es[i]?=xa e/\x=e.key) (fun h=>RawD h d es ep) where
 type:=fun _ z=>z.typeIs
 there:=fun _ z=>⟨z.lt,z.lt⟩
 keep:=fun _ _ z hk=>z.at fun o e=>hk d (.inl rfl) o e
 notList:=by decide
 notTuple:=by decide
 hint:=fun _ _ _ _ z hq=>PySem.W.kdl_hint_dict z.typeIs hq
 iter:=fun _ _ hh z=>⟨_,_,(fun _ _ hq=>xD lo z hq),Mr hh _ (cj z.lt),⟨⟨_,b0 _ rfl,rfl,rfl⟩,z.at fun o e=>bc _ e⟩⟩
end
theorem _root_.L2.Inv.laidN (I:Inv X pins σ H s) (k:∀ b u,s.heap.get? b=xa u->h'.get? b=xa u) (n:s.heap.get? a=xb) (new:ObjOk X.prog X.w (upd H a o) h' a o):
  H a=xb/\Inv X pins σ (upd H a o) { s with heap:=h',toks:=t' }:=by
 have hn:H a=xb:=by
  cases q:H a with
  |none=>rfl
  |some u=>
   obtain⟨v,w⟩:=HOk.obj I.hok q;rw[n] at w;cases w
 have ne:∀ {b:af}{u:Obj},s.heap.get? b=xa u->b≠a:=fun e z=>by rw[z,n] at e;cases e
 refine⟨hn,I.un ⟨fun b u e _ _ _=>k b u e,fun b u e _ _ _=>⟨u.slots,k b u e⟩,fun b u e q _=>by rw[aF (ne e)];exact q,fun b u e _=>⟨u,k b u e⟩,fun b xs e=>by rw[aF (aM e hn)];exact e,fun b u v e=>by rw[aF (aM e hn)];exact e,fun b ps e=>⟨#[],by rw[aF (aM e hn),e];simp⟩⟩ fun b u e=> ?_⟩
 by_cases hb:b=a
 ·subst hb;rw[aP] at e;cases e;exact new
 ·rw[aF hb] at e;exact(I.hok b u e).stay (fun c v _ q=>k c v q) (fun c q=>by rw[aF (aM q hn)];exact q) fun c xs q=>by rw[aF (aM q hn)];exact q
section
variable {prog:dm}{w:dr}{A:d8}{E:ag->au->Prop}{s:au}
theorem PH (ho:s.heap.get? a=xa (hW "list" vs.toArray n)) (h1:vs.length<2)
  (h:P (.done (.ret .none)) { s with heap:=qm s.heap a vs ((vs.toArray.zip vs.toArray).map (·.2)) }):az (model prog w) A (Builtin.«list.sort» ⟨[.ref a],[]⟩) P E s:=by
 have la:a<s.heap.objs.size:=bp ho;have z:vs.toArray.size<2:=by rw[bi];exact h1
 obtain⟨e1,o1⟩:∃ e1,(s.heap.update a (kt fun _=> #[])).get? a=xa (hW "list" #[] e1):=⟨_,se ho (fun _=> #[])⟩;have o2:(((s.heap.update a (kt fun _=> #[])).push (hW "tuple" vs.toArray 0)).push (hW "list" #[] 0)).get? a=xa (hW "list" #[] e1):=bc _ (bc _ o1);rw[list_sort_plain];refine ae (listItems_at ho rfl (ae (listUpdate_at ho rfl (ae (seqEpoch_at o1 rfl (ae (wpAny_newTuple (ae (ul (iz ?_))))))))));show az (model prog w) A _ P E { s with heap:=((s.heap.update a (kt fun _=> #[])).push (hW "tuple" vs.toArray 0)).push (hW "list" #[] 0) };dsimp only;rw[if_pos z,if_pos z];refine ae (ar ?_);rw[StateT.run_pure];refine ae (ar ?_);dsimp only;refine ae (seqEpoch_at o2 rfl (ae (listUpdate_at o2 rfl ?_ (hsz2:=by rw[Array.size_map];show(vs.toArray.zip vs.toArray).size<=_;rw[Array.size_zip,bi,bv];omega))));simp only[bne_self_eq_false,d9,ite_false];exact ar h
theorem oU (col:∀ {R:List ag->au->Prop},(∀(h':c9) (tk:Nat) (acc:Array ag),(∀ b o,s.heap.get? b=xa o->h'.get? b=xa o)->ItemsOf P acc n->R acc.toList { s with heap:=h',toks:=tk })->az (model prog w) A.in1 (collect (.ref r)) R E s) (hn:n<2)
  (h:∀(h':c9) (tk:Nat) (vs:List ag) (a:af) (c:Nat),(∀ b o,s.heap.get? b=xa o->h'.get? b=xa o)->s.heap.get? a=xb->vs.length=n->(∀(j:Nat) (v:ag),vs[j]?=xa v->P j v)->h'.get? a=xa (hW "list" vs.toArray c)->Q (.ref a) { s with heap:=h',toks:=tk }):
  az (model prog w) A (call (.builtin "sorted") [.ref r]) Q E s:=by
 refine qo kind_sorted plain_sorted entry_sorted (args_sorted1 _) ?_;unfold Builtin.«sorted»;refine ae (m:=checkCount "sorted" 1 1 _) (ar (ae (col fun h1 tk acc kp it=> ?_)));have hl:acc.toList.length=n:=by rw[ff];exact it.1
 refine ae (ul ?_ (by rw[hl,bv];omega));have o1:(h1.push (hW "list" acc.toList.toArray 0)).get? h1.objs.size=xa (hW "list" acc.toList.toArray 0):=b0 _ rfl;refine ae (iz (ie slot_list_sort ⟨_,o1,rfl⟩ entry_list_sort (PH (s:={ s with heap:=h1.push (hW "list" acc.toList.toArray 0),toks:=tk }) o1 (by rw[hl];exact hn) ⟨_,rfl,?_⟩) (args_list_sort _)));have nw:s.heap.get? h1.objs.size=xb:=by
  cases q:s.heap.get? h1.objs.size with
  |none=>rfl
  |some u=>exact absurd (bp (kp _ _ q)) (gv _)
 have ez:(acc.toList.toArray.zip acc.toList.toArray).map (·.2)=acc.toList.toArray:=by
  apply Array.ext';rw[Array.toList_map,Array.toList_zip];simp[List.map_snd_zip]
 have ne:∀ b,b≠h1.objs.size->∀ o,h1.get? b=xa o->(qm (h1.push (hW "list" acc.toList.toArray 0)) h1.objs.size acc.toList ((acc.toList.toArray.zip acc.toList.toArray).map (·.2))).get? b=xa o:=fun b hb o e=>by
  unfold qm;rw[fm _ _ (bz hb)];refine bc _ (bc _ ?_);rw[fm _ _ (bz hb)];exact bc _ e
 have o2:=se o1 (fun _=> #[]);have o3:=se (bc (hW "list" #[] 0) (bc (hW "tuple" acc.toList.toArray 0) o2)) (fun _=>(acc.toList.toArray.zip acc.toList.toArray).map (·.2));have o4:∃ c,(qm (h1.push (hW "list" acc.toList.toArray 0)) h1.objs.size acc.toList ((acc.toList.toArray.zip acc.toList.toArray).map (·.2))).get? h1.objs.size=xa (hW "list" acc.toList.toArray c):=by
  unfold qm;rw[ez] at o3 ⊢;exact⟨_,o3⟩
 obtain⟨c,o4⟩:=o4;exact ar ⟨_,rfl,h _ tk acc.toList h1.objs.size c (fun b o e=>ne b (fun z=>by rw[z,nw] at e;cases e) o (kp b o e)) nw hl (fun j v e=>it.2 j v (by rw[<- ic];exact e)) o4⟩
theorem oQ (K:p0 prog w T r d n P OK) (hh:A.handled=xb) (hok:OK s.heap) (hn:n<2)
  (h:∀(h':c9) (tk:Nat) (vs:List ag) (a:af) (c:Nat),(∀ b o,s.heap.get? b=xa o->h'.get? b=xa o)->s.heap.get? a=xb->vs.length=n->(∀(j:Nat) (v:ag),vs[j]?=xa v->P j v)->h'.get? a=xa (hW "list" vs.toArray c)->Q (.ref a) { s with heap:=h',toks:=tk }):
  az (model prog w) A (call (.builtin "sorted") [.ref r]) Q E s:=
 oU (fun h=>uo (A:=A.in1) K hh hok (by rw[bv];omega) h) hn h
end
noncomputable abbrev lf (g:D->D->Option D):Om->D->D->Option (D×Om):=fun ω a b=>pu (g a b) ω
noncomputable abbrev lfL (g:List D->Option D):Om->List D->Option (D×Om):=fun ω a=>pu (g a) ω
noncomputable def fK (ω:Om) (d:D):Option (List D):=match d with
 |.lst ds=>xa ds
 |.obj n=>match ω[n]? with
  |some (.ml ds)=>xa ds
  |_=>xb
 |_=>xb
theorem fF (h:fK ω d=xa ds):d=.lst ds∨∃ n,d=.obj n/\ω[n]?=xa (.ml ds):=by
 cases d with
 |lst xs=>cases h;exact .inl rfl
 |obj n=>
  have h':(match ω[n]? with
   |some (.ml ds)=>xa ds
   |_=>xb)=xa ds:=h
  split at h'
  ·cases h';exact .inr ⟨n,rfl,‹_›⟩
  ·cases h'
 |_=>cases h
theorem fC {K:aa} (t:Stt cls K ok H ω) (r:Rep K ok H v d) (e:fK ω d=xa ds):∃ a xs,v=.ref a/\H a=xa (.lst xs)/\Reps K ok H xs ds:=by
 rcases fF e with rfl|⟨n,rfl,e1⟩
 ·obtain⟨a,xs,rfl,g,rs⟩:=r.lst_inv;exact⟨a,xs,rfl,g.2,rs⟩
 ·obtain⟨a,rfl,e2,xs,e3,rs⟩:=t.ref r e1;exact⟨a,xs,rfl,e3,rs⟩
section
variable {X:Cx}{cls exC:Nat->af}{E:XE}{e a b c o i value:bw}{es rest:List bw}{fa fb fc fo fi fv:OG D}{fl:OG (List D)}{ft ft':OG Bool}{pos p apos pos':Pos}{x m:Str}{st:cz}
theorem NU (ha:OE X cls E a fa) (hb:OE X cls E b fb):OE X cls E (.BinOp a .Add b pos) (o2 (lf yH) fa fb):=uR NG (Fit2.lift (kJ fun _ _ _ _=>.int _)) ha hb
theorem NK (ha:OE X cls E a fa) (hb:OE X cls E b fb):OE X cls E (.BinOp a .Sub b pos) (o2 (lf gSub) fa fb):=uR Nx (Fit2.lift (kJ fun _ _ _ _=>.int _)) ha hb
theorem NN (ha:OE X cls E a fa) (hb:OE X cls E b fb):OE X cls E (.BinOp a .Mult b pos) (o2 (lf iQ) fa fb):=uR Nz (Fit2.lift (Oz (fun i j h=>by unfold CMul;omega) fun _ _ _ _=>.int _)) ha hb
theorem NO (ha:OE X cls E a fa) (hb:OE X cls E b fb):OE X cls E (.BinOp a .Mod b pos) (o2 (lf cV) fa fb):=uR NA (Fit2.lift (Oz (fun _ _ h=>h) fun _ _ _ _=>.int _)) ha hb
theorem Qi (ha:OE X cls E a fa) (hb:OE X cls E b fb):OE X cls E (.Compare a [.LtE] [b] pos) (o2 (lf gLe) fa fb):=Jl Ku (Fit2.lift (kJ fun _ _ _ _=>.bl _)) ha hb (kF _)
theorem Qk (ha:OE X cls E a fa) (hb:OE X cls E b fb):OE X cls E (.Compare a [.Gt] [b] pos) (o2 (lf gGt) fa fb):=Jl ND (Fit2.lift (kJ fun _ _ _ _=>.bl _)) ha hb (kF _)
theorem Qa (ha:OE X cls E a fa) (hb:OE X cls E b fb):OT X cls E (.Compare a [.Lt] [b] pos) (bX (o2 (lf gLt) fa fb)):=kC NB (Fit2.lift (kJ fun _ _ _ _=>.bl _)) ha hb (kF _)
theorem Qb (ha:OE X cls E a fa) (hb:OE X cls E b fb):OT X cls E (.Compare a [.LtE] [b] pos) (bX (o2 (lf gLe) fa fb)):=kC Ku (Fit2.lift (kJ fun _ _ _ _=>.bl _)) ha hb (kF _)
theorem Qd (ha:OE X cls E a fa) (hb:OE X cls E b fb):OT X cls E (.Compare a [.Gt] [b] pos) (bX (o2 (lf gGt) fa fb)):=kC ND (Fit2.lift (kJ fun _ _ _ _=>.bl _)) ha hb (kF _)
theorem Qe (ha:OE X cls E a fa) (hb:OE X cls E b fb):OT X cls E (.Compare a [.GtE] [b] pos) (bX (o2 (lf gGe) fa fb)):=kC Qg (Fit2.lift (kJ fun _ _ _ _=>.bl _)) ha hb (kF _)
theorem Ki (ha:OE X cls E a fa) (hb:OE X cls E b fb):OT X cls E (.Compare a [.IsNot] [b] pos) (bX (o2 (lf Lz) fa fb)):=kC Ks (Fit2.lift Im) ha hb (kF _)
theorem Qc (hu:IY X (n+1)) (ha:OE X cls E a fa) (hb:OE X cls E b fb) (hm:iy .In b=false:=by with_unfolding_all rfl):OT X cls E (.Compare a [.In] [b] pos) (bX (o2 (lf (gIn n)) fa fb)):=kC (NC hu) (Fit2.lift Oy) ha hb hm
theorem Hg (hu:IY X (n+1)) (ha:OE X cls E a fa) (hb:OE X cls E b fb) (hm:iy .NotIn b=false:=by with_unfolding_all rfl):OT X cls E (.Compare a [.NotIn] [b] pos) (bX (o2 (lf (BZ n)) fa fb)):=kC (Ey hu) (Fit2.lift FB) ha hb hm
noncomputable def sR (g g':D->D->Option D) (fa fb fc:OG D):OG Bool:=oB fa fun x=>oB fb fun y ρ ω=>match (g x y).bind toB with
 |none=>xb
 |some true=>oB fc (fun z _ ω=>oR (pu ((g' y z).bind toB) ω)) ρ ω
 |some false=>xa (.ok false,ω)
theorem Eu (ho:OpR X (fx op) r) (F:Fit2 X.K r g) (ho':OpR X (fx op') r') (F':Fit2 X.K r' g') (ha:OE X cls E a fa) (hb:OE X cls E b fb) (hc:OE X cls E c fc)
  (hm:lastMarks [op,op'] [b,c]=false:=by with_unfolding_all rfl):OT X cls E (.Compare a [op,op'] [b,c] pos) (sR g g' fa fb fc):=(GV ho ho' ha hb hc hm).imp fun σ H Q ⟨ok,ρ,ω,rz,ω',P,e,q⟩=>by
 refine tO.then_ P e (fun c z=>by subst z;exact q) fun x ω1 v ok1 H1 e1 n1 P1 r1=> ?_;refine tO.then_ P1 e1 (fun c z=>by subst z;exact exR.nw q n1) fun y ω2 u ok2 H2 e2 n2 P2 r2=> ?_;cases hg:(g x y).bind toB with
 |none=>rw[hg] at e2;cases e2
 |some k=>
  rw[hg] at e2;obtain⟨dk,g1,g2⟩:=aQ hg;obtain rfl:=oI g2;refine F ok2 H2 v u x y _ _ P2.okh (r1.ex n2.ex) r2 g1 fun w H3 s3 r3=>⟨k,r3.bl_inv,?_⟩;have n3:Nw cls X.K ok2 H2 ok2 H3 ω2:=.same P2.okh P2.st s3;cases k with
  |false=>
   cases e2;exact Ml ⟨false,rfl,q ok2 H3 (n1.trans (n2.trans n3))⟩
  |true=>
   refine Mj (tO.then_ (P2.nw n3) e2 (fun c z=>by subst z;exact exR.nw q (n1.trans (n2.trans n3))) fun z ω4 w4 ok4 H4 e4 n4 P4 r4=> ?_);obtain⟨k',e5,rfl⟩:=cN e4;obtain⟨ue5,rfl⟩:=cR e5;obtain⟨dk',g3,g4⟩:=aQ ue5;obtain rfl:=oI g4;exact F' ok4 H4 u w4 y z _ _ P4.okh ((r2.ex n3.ex).ex n4.ex) r4 g3 fun w5 H5 s5 r5=>⟨k',r5.bl_inv,q ok4 H5 (n1.trans (n2.trans (n3.trans (n4.trans (.same P4.okh P4.st s5)))))⟩
theorem Ox {K:aa}:Fit2 K (rI0 fun i j=>.bl (decide (i<=j))) gLe:=kJ fun _ _ _ _=>.bl _
theorem Ow {K:aa}:Fit2 K (rI0 fun i j=>.bl (decide (i<j))) gLt:=kJ fun _ _ _ _=>.bl _
theorem Kj (ha:OE X cls E a fa) (hb:OE X cls E b fb) (hc:OE X cls E c fc) (hm:lastMarks [.LtE,.Lt] [b,c]=false:=by with_unfolding_all rfl):OT X cls E (.Compare a [.LtE,.Lt] [b,c] pos) (sR gLe gLt fa fb fc):=Eu Ku Ox NB Ow ha hb hc hm
noncomputable def NY (f g:OG D):OG D:=oB f fun d ρ ω=>match toB d with
 |none=>xb
 |some true=>g ρ ω
 |some false=>xa (.ok (.bl false),ω)
noncomputable def NW (f:OG D):OG D:=oB f fun d _ ω=>oR (pu (RJ d) ω)
theorem NL (h:OE X cls E a fa):OE X cls E (.BoolOp op [a] pos) fa:=MX h
theorem NT (ha:OE X cls E a fa) (hb:OE X cls E (.BoolOp .And (b::rest) pos) fb):OE X cls E (.BoolOp .And (a::b::rest) pos) (NY fa fb):=(Nf ha hb).imp fun σ H Q ⟨ok,ρ,ω,r,ω',P,e,q⟩=>by
 refine tO.then_ P e (fun c z=>by subst z;exact q) fun d ω1 v ok1 H1 e1 n1 P1 r1=> ?_;cases hd:toB d with
 |none=>rw[hd] at e1;cases e1
 |some k=>
  rw[hd] at e1;obtain rfl:=oI hd;refine⟨k,r1.bl_inv,?_⟩;cases k with
  |true=>exact Mj ⟨ok1,ρ,ω1,r,ω',P1,e1,by
   cases r with
   |ok d=>exact fun v ok' H' n r=>q v ok' H' (n1.trans n) r
   |ex c=>exact exR.nw q n1⟩
  |false=>
   cases e1;exact Ml (q _ ok1 H1 n1 (.bl false))
theorem NM (ha:OE X cls E a fa):OE X cls E (.UnaryOp .Not a pos) (NW fa):=(MY ha).imp fun σ H Q ⟨ok,ρ,ω,r,ω',P,e,q⟩=>by
 refine tO.then_ P e (fun c z=>by subst z;exact q) fun d ω1 v ok1 H1 e1 n1 P1 r1=> ?_;obtain⟨y,e3,rfl⟩:=cN e1;obtain⟨ue3,rfl⟩:=cR e3;obtain⟨k,e4,rfl⟩:=aI (show(toB d).map _=xa y from ue3);obtain rfl:=oI e4;exact⟨k,r1.bl_inv,q _ ok1 H1 n1 (.bl _)⟩
noncomputable def Fz (ω:Om) (a b:D):Option (D×Om):=(fK ω a).bind fun xs=>(fK ω b).bind fun ys=>if xs.length+ys.length<=sizeLine then xa (.lst (xs++ys),ω) else xb
theorem NS (ha:OE X cls E a fa) (hb:OE X cls E b fb):OE X cls E (.BinOp a .Add b pos) (o2 Fz fa fb):=uR NF (fun ok H ω x y a b d ω' Q h1 st ra rb e k=>by
 obtain⟨xs,e1,e⟩:=aQ e;obtain⟨ys,e2,e⟩:=aQ e;obtain⟨hz,e3⟩:=bP e;cases e3;obtain⟨a1,us,rfl,g1,r1⟩:=fC st ra e1;obtain⟨b1,ws,rfl,g2,r2⟩:=fC st rb e2;exact⟨a1,b1,us,ws,rfl,rfl,g1,g2,by rw[r1.length,r2.length];exact hz,fun p n=>k _ ok _ (.same h1 st (cK n)) (.lst_new (h1 p n) n (r1.append r2))⟩) ha hb
theorem Reps.rep {K:aa} (h:Reps K ok H vs ds):∀ k:Nat,Reps K ok H (aw k vs).flatten (aw k ds).flatten
 |0=>.nil
 |k+1=>by
  rw[fw,fw,i9,i9];exact h.append (Reps.rep h k)
noncomputable def Av (ω:Om) (a b:D):Option (D×Om):=(fK ω a).bind fun xs=>(toI b).bind fun k=>if -1000000<=k/\k<=1000000/\xs.length*k.toNat<=sizeLine then xa (.obj ω.length,ω++[.ml (aw k.toNat xs).flatten]) else xb
theorem KB (ha:OE X cls E a fa) (hb:OE X cls E b fb):OE X cls E (.BinOp a .Mult b pos) (o2 Av fa fb):=uR Ny (fun ok H ω x y a b d ω' Q h1 st ra rb e k=>by
 obtain⟨xs,e1,e⟩:=aQ e;obtain⟨kk,e2,e⟩:=aQ e;obtain⟨hz,e3⟩:=bP e;cases e3;obtain rfl:=zU e2;obtain⟨a1,us,rfl,g1,r1⟩:=fC st ra e1;exact⟨a1,kk,us,rfl,rb.int_inv,g1,by omega,by omega,by rw[r1.length];exact hz.2.2,fun p n=>k _ _ _ (.ml h1 st n (r1.rep kk.toNat)) .new_obj⟩) ha hb
noncomputable def iN (ω:Om) (ds:List D):Option (D×Om):=match ds with
 |[d]=>match fK ω d with
  |some xs=>xa (.int xs.length,ω)
  |none=>pu (Qw [d]) ω
 |_=>xb
theorem Iq {K:aa}:rH cls K (fun xs H Q=>∃ x n,xs=[x]/\QM K x H n/\Q (.int n) H) iN:=fun ok H ω xs as d ω' Q h1 st r e k=>by
 unfold iN at e;split at e
 ·split at e
  ·rename_i d0 ys hs
   cases e;obtain⟨v,rfl,r1⟩:=r.one_inv;obtain⟨a,us,rfl,g,rs⟩:=fC st r1 hs;exact⟨_,_,rfl,.inl ⟨_,SqL.of g,rs.length.symm⟩,k _ ok H (.refl h1 st) (.int _)⟩
  ·exact FitL.lift (cls:=cls) LG ok H ω xs _ d ω' Q h1 st r e k
 ·cases e
noncomputable def cB (ω:Om) (d:D):Option (List D):=match d with
 |.tup ds=>xa ds
 |d=>fK ω d
theorem sZ {K:aa} (t:Stt cls K ok H ω) (r:Rep K ok H v d) (e:cB ω d=xa ds):∃ a xs,v=.ref a/\(SqL K H a xs∨SqT K H a xs)/\Reps K ok H xs ds:=by
 cases d with
 |tup xs=>
  cases e;obtain⟨a,ys,rfl,g,rs⟩:=r.tup_inv;exact⟨a,ys,rfl,.inr g.sq,rs⟩
 |lst xs=>
  obtain⟨a,ys,rfl,g,rs⟩:=fC t r (show fK ω (.lst xs)=xa ds from e);exact⟨a,ys,rfl,.inl (SqL.of g),rs⟩
 |obj n=>
  obtain⟨a,ys,rfl,g,rs⟩:=fC t r (show fK ω (.obj n)=xa ds from e);exact⟨a,ys,rfl,.inl (SqL.of g),rs⟩
 |_=>cases e
noncomputable def iL (ω:Om) (ds:List D):Option (D×Om):=match ds with
 |[d]=>(cB ω d).map fun xs=>(.lst xs,ω)
 |_=>xb
theorem FC {K:aa}:rH cls K (fun xs H Q=>∃ p ys,xs=[.ref p]/\(SqL K H p ys∨SqT K H p ys)/\∀ l,H l=xb->Q (.ref l) (upd H l (.lst ys))) iL:=fun ok H ω xs as d ω' Q h1 st r e k=>by
 unfold iL at e;split at e
 ·obtain⟨ys,e1,e2⟩:=aI e;cases e2;obtain⟨v,rfl,r1⟩:=r.one_inv;obtain⟨a,us,rfl,g,rs⟩:=sZ st r1 e1;exact⟨a,us,rfl,g,fun l n=>k _ ok _ (.same h1 st (cK n)) (.lst_new (h1 l n) n rs)⟩
 ·cases e
noncomputable def tM (ω:Om) (ds:List D):Option (D×Om):=match ds with
 |[d]=>(cB ω d).map fun xs=>(.obj ω.length,ω++[.ml xs])
 |_=>xb
theorem FD {K:aa}:rH cls K (fun xs H Q=>∃ p ys,xs=[.ref p]/\(SqL K H p ys∨SqT K H p ys)/\∀ l,H l=xb->Q (.ref l) (upd H l (.lst ys))) tM:=fun ok H ω xs as d ω' Q h1 st r e k=>by
 unfold tM at e;split at e
 ·obtain⟨ys,e1,e2⟩:=aI e;cases e2;obtain⟨v,rfl,r1⟩:=r.one_inv;obtain⟨a,us,rfl,g,rs⟩:=sZ st r1 e1;exact⟨a,us,rfl,g,fun l n=>k _ _ _ (.ml h1 st n rs) .new_obj⟩
 ·cases e
noncomputable def Fq (ω:Om) (ds:List D):Option (D×Om):=match ds with
 |[d]=>(fK ω d).map fun xs=>(.tup xs,ω)
 |_=>xb
theorem Ih {K:aa}:rH cls K (fun xs H Q=>∃ p ys,xs=[.ref p]/\((SqL K H p ys/\∀ l,H l=xb->Q (.ref l) (upd H l (.tup ys)))∨(SqT K H p ys/\Q (.ref p) H))) Fq:=fun ok H ω xs as d ω' Q h1 st r e k=>by
 unfold Fq at e;split at e
 ·obtain⟨ys,e1,e2⟩:=aI e;cases e2;obtain⟨v,rfl,r1⟩:=r.one_inv;obtain⟨a,us,rfl,g,rs⟩:=fC st r1 e1;exact⟨a,us,rfl,.inl ⟨SqL.of g,fun l n=>k _ ok _ (.same h1 st (cK n)) (.tup_new (h1 l n) n rs)⟩⟩
 ·cases e
noncomputable def Os (ω:Om) (a:D) (lo hi:Option Int):Option D:=match fK ω a with
 |some ds=>xa (.lst (Do ds lo hi))
 |none=>gSl a lo hi
noncomputable def oSl (f:OG D) (l u:DO):OG D:=oB f fun a ρ ω=>(l ρ).bind fun lo=>(u ρ).bind fun hi=>oR (pu (Os ω a lo hi) ω)
theorem Hm {lo hi:Option bw} (he:OE X cls E e fa) (hl:DOp X lo l) (hu:DOp X hi u):OE X cls E (.Subscript e (.Slice lo hi xb p2) pos) (oSl fa l u):=(GZ (sl_list.or MC) he hl hu).imp fun σ H Q ⟨ok,ρ,ω,r,ω',P,e,q⟩=>by
 refine tO.then_ P e (fun c z=>by subst z;exact q) fun a ω1 v ok1 H1 e1 n1 P1 r1=> ?_;obtain⟨il,g1,e1⟩:=aQ e1;obtain⟨ih,g2,e1⟩:=aQ e1;obtain⟨d,e3,rfl⟩:=cN e1;obtain⟨ue3,rfl⟩:=cR e3;refine⟨ok1,ρ,il,P1.okh,P1.env,g1,fun H2 s2=>⟨ok1,ρ,ih,P1.okh.same s2,P1.env.same s2,g2,fun H3 s3=> ?_⟩⟩;have sx:=s2.trans s3;have ra:=r1.same sx;have st3:=P1.st.same sx;have okh:=P1.okh.same sx;have q':∀ v H',Same H3 H'->Rep X.K ok1 H' v d->Q v H':=fun v H' s r=>q v ok1 H' (n1.trans (.same P1.okh P1.st (sx.trans s))) r;unfold Os at ue3;cases hs:fK ω' a with
 |some ds=>
  rw[hs] at ue3;cases ue3;obtain⟨p,xs,rfl,g,rs⟩:=fC st3 ra hs;exact .inl ⟨p,xs,rfl,SqL.of g,fun p' n=>q' _ _ (cK n) (.lst_new (okh p' n) n (rs.cut il ih))⟩
 |none=>
  rw[hs] at ue3;have ue4:gSl a il ih=xa d:=ue3;cases a with
  |lst ds=>cases hs
  |scr ds=>
   cases ue4;obtain⟨p,xs,rfl,g,rs⟩:=ra.scr_inv;exact .inl ⟨p,xs,rfl,g.sq,fun p' n=>q' _ _ (cK n) (.lst_new (okh p' n) n (rs.cut il ih))⟩
  |tup ds=>
   have h3':(if HT.sIx ds.length 0 il=0/\HT.sIx ds.length ds.length ih=ds.length then xb else xa (D.tup (Do ds il ih)))=xa d:=ue4;obtain⟨p,xs,rfl,g,rs⟩:=ra.tup_inv
   by_cases hw:HT.sIx ds.length 0 il=0/\HT.sIx ds.length ds.length ih=ds.length
   ·rw[if_pos hw] at h3';cases h3'
   ·rw[if_neg hw] at h3';cases h3';exact .inr ⟨p,xs,rfl,g.sq,by rw[rs.length];exact hw,fun p' n=>q' _ _ (cK n) (.tup_new (okh p' n) n (rs.cut il ih))⟩
  |_=>cases ue4
end
noncomputable def On (T:String) (ω:Om) (d:D):Option Bool:=match fK ω d with
 |some ds=>Mm T (.lst ds)
 |none=>Mm T d
theorem Rep.wide {K:aa} (r:Rep K ok H v d):Rep K ⟨fun _=>True,ok.al⟩ H v d:=Rep.mono (ok:=ok) (ok':=⟨fun _=>True,ok.al⟩) (fun _ _ _ e=>⟨trivial,e⟩) (fun _ _ h=>h) r
theorem Reps.wide {K:aa} (r:Reps K ok H v d):Reps K ⟨fun _=>True,ok.al⟩ H v d:=Reps.mono (ok:=ok) (ok':=⟨fun _=>True,ok.al⟩) (fun _ _ _ e=>⟨trivial,e⟩) (fun _ _ h=>h) r
theorem wW {K:aa} (t:Stt cls K ok H ω) (r:Rep K ok H v d) (e:fK ω d=xa ds):Rep K ⟨fun _=>True,ok.al⟩ H v (.lst ds):=by
 obtain⟨a,xs,rfl,g,rs⟩:=fC t r e;exact .lst ⟨trivial,g⟩ rs.wide
section
variable {X:Cx}{cls exC:Nat->af}{E:XE}{e a b c o i value:bw}{es rest:List bw}{fa fb fc fo fi fv:OG D}{fl:OG (List D)}{ft ft':OG Bool}{pos p apos pos' cpos:Pos}{x m:Str}{st:cz}
noncomputable def nU (T:String) (f:OG D):OG D:=oB f fun d _ ω=>oR (pu ((On T ω d).map D.bl) ω)
theorem Lj {K:aa} (t:Stt cls K ok H ω) (r:Rep K ok H v d) (e:On T ω d=xa k):∃ d',Rep K ⟨fun _=>True,ok.al⟩ H v d'/\Mm T d'=xa k:=by
 unfold On at e;cases hs:fK ω d with
 |some ds=>rw[hs] at e;exact⟨_,wW t r hs,e⟩
 |none=>rw[hs] at e;exact⟨d,r.wide,e⟩
theorem xJ (he:OE X cls E e fa) (hg:Gl X "isinstance") (hm:X.mg "isinstance"=xb) (hgT:Gl X T) (hmT:X.mg T=xb) (hv:dq T=xa (.type Tn)) (hn:T≠"__name__":=by decide) (hdb:(T==("__debug__":Str))=false:=by decide)
  (h1:ay [e,.Name T p2] X.env=(false,eval e X.env)::ay [.Name T p2] X.env:=by rfl) (h2:ay [.Name T p2] X.env=(false,eval (.Name T p2) X.env)::ay [] X.env:=by rfl) (hpl:(dw pos (ay [.Name T p2] X.env)).any (·.1)=false:=by rfl):
  OE X cls E (.Call (.Name "isinstance" p) [e,.Name T p2] [] pos) (nU Tn fa):=
 (uO IN hg hm (by decide+kernel) (pA he (pA (Kg (v:=.ty Tn) hgT hmT hv rfl hn hdb) Bz h2) h1) (by decide) (by decide) h1 hpl).imp fun σ H Q ⟨ok,ρ,ω,r,ω',P,e,q⟩=>by
  refine tO.then_ P e (fun c z=>by subst z;exact q) fun d ω1 v ok1 H1 e1 n1 P1 r1=> ?_;obtain⟨y,e3,rfl⟩:=cN e1;obtain⟨ue3,rfl⟩:=cR e3;obtain⟨k,e4,rfl⟩:=aI ue3;obtain⟨d',rd,e5⟩:=Lj P1.st r1 e4;exact⟨v,Tn,d',_,k,rfl,rd,e5,q _ ok1 H1 n1 (.bl _)⟩
noncomputable def CU (ω:Om) (d:D):Bool:=match cellOf ω d with
 |some (.ml _)=>true
 |_=>false
theorem EY (h:CU ω d=true):∃ n ds,d=.obj n/\ω[n]?=xa (.ml ds):=by
 unfold CU at h;split at h
 ·obtain⟨n,rfl,e⟩:=dQ ‹_›;exact⟨n,_,rfl,e⟩
 ·cases h
noncomputable def kD (g:Om->D->List D->Option (D×Om)) (fo:OG D) (fl:OG (List D)):OG D:=oB fo fun d ρ ω=>if CU ω d=true then oB fl (fun ds _ ω=>oR (g ω d ds)) ρ ω else xb
def Gv (cls:Nat->af) (K:aa) (r:V->List V->Hp->VK->Prop) (g:Om->D->List D->Option (D×Om)):Prop:=∀(ok:Okk) (H:Hp) (ω:Om) (x:V) (xs:List V) (a:D) (as:List D) (d:D) (ω':Om) (Q:VK),OkH ok H->Stt cls K ok H ω->Rep K ok H x a->Reps K ok H xs as->g ω a as=xa (d,ω')->
 (∀ v ok' H',Nw cls K ok H ok' H' ω'->Rep K ok' H' v d->Q v H')->r x xs H Q
theorem Qh {id:String} (slot:Slot "list" m id) (hty:typeOf (.builtin id)=pure (.type "method_descriptor")) (hm:MtR X id r) (F:Gv cls X.K r g) (ho:OE X cls E o fo) (ha:OA X cls E (e::es) fl)
  (hbase:ig o m X.env (eval o X.env)=eval o X.env:=by rfl)
  (hfew:((dw cpos (ay (e::es) X.env)).all (fun x=> !x.1)&&(j5 cpos (ir [] X.env)).all (fun x=>x.1.isSome)
   &&decide ((e::es).length+([]:List kj).length+(if([]:List kj).isEmpty then 0 else 1)<30))=true:=by rfl)
  (hline:(apos.endLine==cpos.line)=true:=by rfl) (hs:ay (e::es) X.env=(false,eval e X.env)::ay es X.env:=by rfl) (hplain:(dw cpos (ay es X.env)).any (·.1)=false:=by rfl):
  OE X cls E (.Call (.Attribute o m apos) (e::es) [] cpos) (kD g fo fl):=
 (Nd PySem.F.plainAttrs_list slot hty hm ho ha hbase hfew hline hs hplain).imp fun σ H Q ⟨ok,ρ,ω,r,ω',P,e,q⟩=>by
  refine tO.then_ P e (fun c z=>by subst z;exact q) fun d ω1 v ok1 H1 e1 n1 P1 r1=> ?_;obtain⟨hi,e1⟩:=cS e1;obtain⟨n,ds0,rfl,e2⟩:=EY hi;obtain⟨a,rfl,e4,xs,e5,rs⟩:=P1.st.ref r1 e2;refine⟨.inl ⟨rfl,xs,SqL.of e5⟩,?_⟩;refine tOA.then_ P1 e1 (fun c z=>by subst z;exact exR.nw q n1) fun ds ω2 us ok2 H2 e6 n2 P2 r2=> ?_;obtain⟨y,e7,rfl⟩:=cN e6;exact F ok2 H2 ω2 _ us _ ds y ω' Q P2.okh P2.st (r1.ex n2.ex) r2 e7 fun w ok3 H3 n3 r3=>q w ok3 H3 (n1.trans (n2.trans n3)) r3
noncomputable def jZ (ω:Om) (d:D) (as:List D):Option (D×Om):=match d,as with
 |.obj n,[v]=>match ω[n]? with
  |some (.ml ds)=>if ds.length<sizeLine then xa (.non,ω.set n (.ml (ds++[v]))) else xb
  |_=>xb
 |_,_=>xb
theorem FA (h:jZ ω d as=xa (y,ω')):∃ n v ds,d=.obj n/\as=[v]/\ω[n]?=xa (.ml ds)/\ds.length<sizeLine/\y=.non/\ω'=ω.set n (.ml (ds++[v])):=by
 unfold jZ at h;split at h
 ·split at h
  ·obtain⟨hz,e3⟩:=bP h;cases e3;exact⟨_,_,_,rfl,rfl,‹_›,hz,rfl,rfl⟩
  ·cases h
 ·cases h
theorem LK {K:aa}:Gv cls K Ej jZ:=fun ok H ω x xs a as d ω' Q h1 st ra rs e k=>by
 obtain⟨n,v,ds,rfl,rfl,hc,hz,rfl,rfl⟩:=FA e;obtain⟨a1,rfl,e4,us,e5,r5⟩:=st.ref ra hc;obtain⟨w,rfl,rw'⟩:=rs.one_inv;refine⟨a1,us,w,rfl,rfl,e5,by rw[r5.length];exact hz,?_⟩;exact k _ ok _ (Nw.write (o:=.lst (us++[w])) (ob:=.ml (ds++[v])) h1 st e4 e5 fun dat=>⟨_,aP,(r5.snoc rw').mono dat⟩) .non
theorem EC (ho:OE X cls E o fo) (ha:OA X cls E [e] fl) (hbase:ig o "append" X.env (eval o X.env)=eval o X.env:=by rfl)
  (hfew:((dw cpos (ay [e] X.env)).all (fun x=> !x.1)&&(j5 cpos (ir [] X.env)).all (fun x=>x.1.isSome)
   &&decide ([e].length+([]:List kj).length+(if([]:List kj).isEmpty then 0 else 1)<30))=true:=by rfl)
  (hline:(apos.endLine==cpos.line)=true:=by rfl) (hs:ay [e] X.env=(false,eval e X.env)::ay [] X.env:=by rfl) (hplain:(dw cpos (ay [] X.env)).any (·.1)=false:=by rfl):
  OE X cls E (.Call (.Attribute o "append" apos) [e] [] cpos) (kD jZ fo fl):=Qh tq PySem.F.type_list_append (fun pins s σ H x xs v us Q=>xO pins s σ H x xs v us Q) LK ho ha hbase hfew hline hs hplain
end
theorem j3.get2:∀ {l:List α}{l':List β}{i:Nat}{b:β},j3 F l l'->l'[i]?=xa b->∃ a,l[i]?=xa a/\F a b
 |_,_,_,_,.nil,e=>by simp at e
 |_,_,0,_,.cons r _,e=>by simp at e;subst e;exact⟨_,rfl,r⟩
 |_,_,i+1,b,.cons _ t,e=>by
  obtain⟨a,h1,h2⟩:=j3.get2 (i:=i) (b:=b) t (by simpa using e);exact⟨a,by simpa using h1,h2⟩
section
variable {X:Cx}{pins:List (af×Obj)}{σ:St}{H:Hp}{s:au}{d:af}{kvs:List (List Key×V)}
theorem qN (I:Inv X pins σ H s) (e:Rd H d (.dT kvs)):(d==fu)=false/\kvs.length<=sizeLine/\∃ es ep,RawD s.heap d es ep/\es.size=kvs.length/\
  ∀(i:Nat) (y:ln),es[i]?=xa y->∃ p,kvs[i]?=xa p/\RelV p.2 y.val/\∃ a,y.key=.ref a/\H a=xa (.tup (p.1.map kV)):=by
 obtain⟨z,lo,xs,pr,o,es,ep,h1,h2,h3,h4,h5⟩:=(show ObjOk X.prog X.w H s.heap d (.dT kvs) from e.ok I.hok);have hl:es.size=kvs.length:=by
  have:=congrArg k7 h4
  rw[am,ff] at this;rw[this,<- jc pr]
 refine⟨lo,z,es,ep,⟨o,h1,h2,h3⟩,hl,fun i y hy=> ?_⟩;have hy':(xs.map (gp (b4 (aN X.prog X.w))))[i]?=xa y:=by rw[<- h4,ic];exact hy
 rw[ax] at hy';obtain⟨q,q1,q2⟩:=aI hy';obtain⟨p,p1,p2,p3,p4⟩:=j3.get2 pr q1;subst q2;exact⟨p,p1,p4,q.2.1,rfl,p3⟩
end
noncomputable def Mi (v d:af):HO:=.ext fun h=>h.IsValuesView v d
section
variable {X:Cx}{cls exC:Nat->af}{E:XE}{e a b c o i value:bw}{es rest:List bw}{fa fb fc fo fi fv:OG D}{fl:OG (List D)}{ft ft':OG Bool}{pos p apos pos' cpos:Pos}{x m:Str}{st:cz}
theorem EM:MtR X "dict.values" fun x xs H Q=>∃ d kvs,x=.ref d/\xs=[]/\H d=xa (.dT kvs)/\∀ p,H p=xb->Q (.ref p) (upd H p (Mi p d)):=by
 intro pins s σ H x xs v us Q I rx rs h;obtain⟨d,kvs,rfl,rfl,hd,q⟩:=h;cases rx;cases rs;obtain⟨lo,_,es,ep,r,_,_⟩:=qN I (.inl hd);refine CF lo r ?_;have e1:(s.heap.push { cls:=.type "dict_values",data:=.fields #[.ref d] }).get? s.heap.objs.size=xa { cls:=.type "dict_values",data:=.fields #[.ref d] }:=b0 _ rfl;refine⟨.ref _,_,I.laid (t':=s.toks) (fun b u q=>bc _ q) (bf _) ?_,rfl,q _ (I.hok.fresh (bf _))⟩;exact⟨⟨_,e1,rfl,rfl⟩,⟨_,e1⟩,fun h1 h2 z k=>let ⟨o,y1,y2⟩:=z;⟨o,k o y1,y2⟩⟩
theorem uW {a:af}{c:Nat} (r:Vals xs vs) (hz:xs.length<=sizeLine) (e:h.get? a=xa (hW "list" vs.toArray c)):ObjOk P w H h a (.lst xs):=⟨hz,vs,c,r,e⟩
theorem zQ (hl:vs.length=xs.length) (h:∀(j:Nat) (v:ag),vs[j]?=xa v->∃ x,xs[j]?=xa x/\RelV x v):Vals xs vs:=by
 induction vs generalizing xs with
 |nil=>
  cases xs with
  |nil=>exact .nil
  |cons _ _=>cases hl
 |cons v vs ih=>
  cases xs with
  |nil=>cases hl
  |cons x xs=>
   obtain⟨y,e,r⟩:=h 0 v rfl;simp at e;subst e;exact .cons r (ih (by simpa using hl) fun j u hu=>by simpa using h (j+1) u (by simpa using hu))
theorem yY (hc:X.calm=true):CallR X (.builtin "sorted") (fun xs H Q=>∃ v d kvs,xs=[.ref v]/\H v=xa (Mi v d)/\H d=xa (.dT kvs)/\kvs.length<2/\∀ l,H l=xb->Q (.ref l) (upd H l (.lst (kvs.map (·.2))))):=by
 intro pins s σ H xs us Q I r h;obtain⟨v,d,kvs,rfl,hv,hd,hl,q⟩:=h;obtain⟨u,rfl,rx⟩:=mG r;cases rx;obtain⟨lo,hz,es,ep,rd,sz,it⟩:=qN I (.inl hd);have vw:s.heap.IsValuesView v d:=(show ObjOk X.prog X.w H s.heap v (Mi v d) from I.hok v _ hv).1;refine oQ (sK (d:=d) (es:=es) (ep:=ep)) (I.ok.hd hc) ⟨vw,rd⟩ (by rw[sz];exact hl) fun h' tk vs a c kp na hlen hP ha=> ?_;have rv:Vals (kvs.map (·.2)) vs:=zQ (by rw[hlen,sz,am]) fun j w hw=>by
  obtain⟨y,y1,y2⟩:=hP j w hw;obtain⟨p,p1,p2,_⟩:=it j y y1;exact⟨p.2,by rw[ax,p1];rfl,by rw[y2];exact p2⟩
 obtain⟨hn,I'⟩:=I.laidN (t':=tk) kp na (uW (H:=upd H a (.lst (kvs.map (·.2)))) rv (by rw[am];exact hz) ha);exact⟨.ref a,_,I',rfl,q a hn⟩
end
section
variable {X:Cx}{pins:List (af×Obj)}{σ:St}{H:Hp}{s:au}{d:af}{kvs:List (List Key×V)}{o:Obj}
theorem BP (x:HOk P w H h) (hd:H d=xa u) (h1:∀ y,u≠ .own y) (h2:∀ ys,u≠ .tup ys) (new:ObjOk P w (upd H d u') h d u'):HOk P w (upd H d u') h:=fun b v e=>by
 by_cases hb:b=d
 ·subst hb;rw[aP] at e;cases e;exact new
 ·rw[aF hb] at e;exact(x b v e).stay (fun c q _ z=>z) (fun c q=>by rw[aF (fun z=>by rw[z,hd] at q;exact h1 _ (cf q))];exact q) fun c xs q=>by rw[aF (fun z=>by rw[z,hd] at q;exact h2 _ (cf q))];exact q
theorem BC (x:ObjOk P w H h b v) (hd:H d=xa u) (h1:∀ y,u≠ .own y) (h2:∀ ys,u≠ .tup ys):ObjOk P w (upd H d u') h b v:=
 x.stay (fun c q _ z=>z) (fun c q=>by rw[aF (fun z=>by rw[z,hd] at q;exact h1 _ (cf q))];exact q) fun c xs q=>by rw[aF (fun z=>by rw[z,hd] at q;exact h2 _ (cf q))];exact q
theorem _root_.L2.Inv.frozen (I:Inv X pins σ H s) (hd:H d=xa (.dT kvs)) (ho:s.heap.get? d=xa o):Inv X pins σ (upd H d (.frz o (.dT kvs))) s:=by
 have nn:∀ b,H b=xb->upd H d (.frz o (.dT kvs)) b=xb:=fun b e=>by rw[aF (fun z=>by rw[z,hd] at e;cases e)];exact e
 refine⟨I.ok,I.os,I.bare,⟨I.base.keep,I.base.slot,fun b u e n x=>nn b (I.base.free b u e n x),I.base.there,fun b xs e=> ?_,fun b u v e=> ?_,fun b ps e=> ?_⟩,I.loc,I.cell,nn _ I.free,fun x c e=>nn _ (I.freeC x c e),fun p hp=> ?_,BP I.hok hd (fun _ z=>nomatch z) (fun _ z=>nomatch z) ⟨ho,BC (I.hok d _ hd) hd (fun _ z=>nomatch z) (fun _ z=>nomatch z)⟩,I.len⟩
 ·have z:=I.base.tups b xs e;rw[aF (fun q=>by rw[q,hd] at z;cases z)];exact z
 ·have z:=I.base.frzs b u v e;rw[aF (fun q=>by rw[q,hd] at z;cases z)];exact z
 ·obtain⟨m,z⟩:=I.base.tbls b ps e;exact⟨m,by rw[aF (fun q=>by rw[q,hd] at z;cases z)];exact z⟩
 ·obtain⟨z1,z2,z3⟩:=I.pin p hp;exact⟨z1,nn _ z2,z3⟩
theorem _root_.L2.Inv.thawed (I:Inv X pins σ H s) (hd:H d=xa (.frz o (.dT kvs))) (hn:∀ o u,X.H₀ d≠xa (.frz o u)):Inv X pins σ (upd H d (.dT kvs)) s:=by
 have nn:∀ b,H b=xb->upd H d (.dT kvs) b=xb:=fun b e=>by rw[aF (fun z=>by rw[z,hd] at e;cases e)];exact e
 refine⟨I.ok,I.os,I.bare,⟨I.base.keep,I.base.slot,fun b u e n x=>nn b (I.base.free b u e n x),I.base.there,fun b xs e=> ?_,fun b u v e=> ?_,fun b ps e=> ?_⟩,I.loc,I.cell,nn _ I.free,fun x c e=>nn _ (I.freeC x c e),fun p hp=> ?_,BP I.hok hd (fun _ z=>nomatch z) (fun _ z=>nomatch z) (BC (show ObjOk X.prog X.w H s.heap d (.dT kvs) from(I.hok d _ hd).2) hd (fun _ z=>nomatch z) (fun _ z=>nomatch z)),I.len⟩
 ·have z:=I.base.tups b xs e;rw[aF (fun q=>by rw[q,hd] at z;cases z)];exact z
 ·have z:=I.base.frzs b u v e;rw[aF (fun q=>hn u v (by rw[<- q];exact e))];exact z
 ·obtain⟨m,z⟩:=I.base.tbls b ps e;exact⟨m,by rw[aF (fun q=>by rw[q,hd] at z;cases z)];exact z⟩
 ·obtain⟨z1,z2,z3⟩:=I.pin p hp;exact⟨z1,nn _ z2,z3⟩
end
noncomputable def Itk (d:af) (o:Obj) (kvs:List (List Key×V)):It:=
 ⟨fun i H=>H d=xa (.frz o (.dT kvs))/\i<kvs.length,fun i H x H'=>H'=H/\∃ b p,x=.ref b/\kvs[i]?=xa p/\H b=xa (.tup (p.1.map kV)),fun i H=>H d=xa (.frz o (.dT kvs))/\kvs.length<=i⟩
theorem DM {K:aa} (d it:af) (o:Obj) (kvs:List (List Key×V)) (es:Array ln) (ep:Nat) (hod:o.data=.dict es ep) (hsz:es.size=kvs.length):Mc P w K tg (Itk d o kvs) [it] it (fun i h=>h.IsKeyIter it d i es.size ep) where
 mem:=by simp
 obj:=fun i h st b hb=>by
  have e:b=it:=by simpa using hb
  subst e;obtain⟨o,e,c,d⟩:=st;exact⟨o,e,fun v z=>by rw[d] at z;cases z⟩
 keep:=fun i h h' st k=>let ⟨o,e,z⟩:=st;⟨o,k it (by simp) o e,z⟩
 item:=by
  intro X hP hw hK hc i pins s σ H E I hf st hg;subst hP hw hK;obtain⟨hd,hi⟩:=hg;obtain⟨f0,f1,f2,f3,f4,f5⟩:=hf it (by simp);obtain⟨lo,_,es',ep',⟨o',r1,r2,r3⟩,sz,its⟩:=qN I (.inr ⟨o,hd⟩);have ho:s.heap.get? d=xa o:=(I.hok d _ hd).1;rw[ho] at r1;cases r1;rw[hod] at r3;cases r3;have hi':i<es.size:=by rw[hsz];exact hi
  obtain⟨p,p1,_,a,p2,p3⟩:=its i es[i] (by simp[hi']);refine xC (e:=es[i]) st ⟨o,ho,r2,hod⟩ (by simp[hi']) fun h' st' sb=> ?_;have I1:Inv X pins σ H { s with heap:=h' }:=I.turned (t':=s.toks) (fun b o hb e=>(sb.2 b hb).trans e) f0 f1 f3 f4 f5;obtain⟨oi,e1,c1,d1⟩:=id st';exact⟨_,rfl,HW (s:={ s with heap:=h' }) e1 c1 d1 (by decide) ⟨.ref a,H,I1,p2,⟨rfl,a,p,rfl,p1,p3⟩,st',fun b hb=>(hf b hb).1⟩⟩
 done:=by
  intro X hP hw hK hc i pins s σ H E I hf st hg;subst hP hw hK;obtain⟨hd,hi⟩:=hg;obtain⟨f0,f1,f2,f3,f4,f5⟩:=hf it (by simp);obtain⟨lo,_,es',ep',⟨o',r1,r2,r3⟩,sz,its⟩:=qN I (.inr ⟨o,hd⟩);have ho:s.heap.get? d=xa o:=(I.hok d _ hd).1;rw[ho] at r1;cases r1;exact Bw (I.ok.hd hc) st ⟨o,ho,r2,hod⟩ (by rw[hsz];exact hi) fun h' eb=>⟨rfl,I.turned (t':=s.toks) (fun b o hb e=>eb b o hb e) f0 f1 f3 f4 f5⟩
 self:=fun _ _ _ _ _ st h=>uc st h
def Op (H₀:Hp) (to:TE):TI:=fun σ H R=>to σ H fun x H1=>∃ d kvs,x=.ref d/\H1 d=xa (.dT kvs)/\∀ o,(∀ o' u,H₀ d≠xa (.frz o' u))->R (Itk d o kvs) (upd H1 d (.frz o (.dT kvs)))
section
variable {X:Cx}{cls exC:Nat->af}{E:XE}{e a b c o i value tg iter:bw}{es rest:List bw}{fa fb fc fo fi fv:OG D}{fl:OG (List D)}{ft ft':OG Bool}{pos p apos pos' cpos:Pos}{x m:Str}{st:cz}{body:List cz}{F:OS}
theorem JY (ho:PE X iter to):PI X tg iter (Op X.H₀ to):=by
 intro pins s σ H R I h;refine thn (ho pins s σ H _ I h) fun v s1 ⟨x,H1,I1,rx,d,kvs,ex,hd,q⟩=> ?_;subst ex;cases rx;obtain⟨lo,_,es,ep,⟨o,r1,r2,r3⟩,sz,its⟩:=qN I1 (.inl hd);have nf:∀ o' u,X.H₀ d≠xa (.frz o' u):=fun o' u z=>by
  have:=I1.base.frzs d o' u z
  rw[hd] at this;cases this
 have I2:=I1.frozen hd r1;refine xD lo ⟨o,r1,r2,r3⟩ ?_;have nd:d≠s1.heap.objs.size:=cj (bp r1);have hn:upd H1 d (.frz o (.dT kvs)) s1.heap.objs.size=xb:=by rw[aF (bz nd)];exact I1.hok.fresh (bf _)
 refine⟨s1.heap.objs.size,[s1.heap.objs.size],_,Itk d o kvs,_,rfl,I2.kept (t':=s1.toks) (fun b u e=>bc _ e),DM d _ o kvs es ep r3 sz,⟨_,b0 _ rfl,rfl,rfl⟩,fun b hb=> ?_,q o nf⟩;have e:b=s1.heap.objs.size:=by simpa using hb
 subst e;exact(I1.fpOk (bf _) hn)
noncomputable def LU (H₀:Hp) (D:Cs):Cs:={ nx:=fun σ H=>∃ d o kvs,H d=xa (.frz o (.dT kvs))/\(∀ o' u,H₀ d≠xa (.frz o' u))/\D.nx σ (upd H d (.dT kvs)),rt:=fun _ _=>False }
theorem JQ (hp:PassesOwn (model X.prog X.w) X.A X.env X.xe) (hc:X.calm=true) (ho:PE X iter to) (hg:PG X tg g) (hb:PSs X body tb) (hs:∀ x,gq iter X.env x=pure x:=by intro _;rfl):
  PS X (.For tg iter body [] pos) (fun D σ H=>Pw (Op X.H₀ to) g tb (LU X.H₀ D) σ H):=fun pins s σ H D I h=>by
 refine thn (Ja (pos:=pos) hp hc (JY ho) hg hb hs pins s σ H (LU X.H₀ D) I h) fun f s' z=> ?_;cases f with
 |next=>
  obtain⟨σ',H',I',d,o,kvs,h1,h2,h3⟩:=z;exact⟨σ',_,I'.thawed h1 h2,h3⟩
 |brk=>obtain⟨_,_,_,q⟩:=z;exact q.elim
 |cont=>obtain⟨_,_,_,q⟩:=z;exact q.elim
 |ret u=>obtain⟨_,_,_,_,_,q⟩:=z;exact q.elim
noncomputable def bC (k:List Key):D:=.tup (k.map ofK)
noncomputable def sN:List (List Key×D)->List (List Key×D)->Bool
 |[],[]=>true
 |a::as,b::bs=>decide (a.1=b.1)&&fM a.2 b.2&&sN as bs
 |_,_=>false
theorem wX:∀ {a b:List (List Key×D)},sN a b=true->a=b
 |[],[],_=>rfl
 |[],_::_,h=>nomatch h
 |_::_,[],h=>nomatch h
 |a::as,b::bs,h=>by
  simp only[sN,br,decide_eq_true_eq] at h;rw[wX h.2,show a=b from Prod.ext h.1.1 (Bu _ _ h.1.2)]
noncomputable def yA (n:Nat) (kvs:List (List Key×D)) (ω:Om):Bool:=match ω[n]? with
 |some (.dz k)=>sN k kvs
 |_=>false
theorem HN (h:yA n kvs ω=true):ω[n]?=xa (.dz kvs):=by
 unfold yA at h;split at h
 ·rename_i k e
  rw[wX h] at e;exact e
 ·cases h
noncomputable def Di (ω:Om) (d:D):Option (Nat×List (List Key×D)):=match d with
 |.obj n=>match ω[n]? with
  |some (.dt kvs)=>xa (n,kvs)
  |_=>xb
 |_=>xb
theorem Fy (h:Di ω d=xa (n,kvs)):d=.obj n/\ω[n]?=xa (.dt kvs):=by
 unfold Di at h;split at h
 ·split at h
  ·cases h;exact⟨rfl,‹_›⟩
  ·cases h
 ·cases h
noncomputable def JH (fo:OG D) (bd:BR) (F:OS):OS:=oX fo fun d ρ ω=>(Di ω d).bind fun p=>match bO bd (yA p.1 p.2) F (p.2.map fun kv=>bC kv.1) ρ (ω.set p.1 (.dz p.2)) with
 |some (.nx ρ',ω')=>if yA p.1 p.2 ω'=true then xa (.nx ρ',ω'.set p.1 (.dt p.2)) else xb
 |_=>xb
theorem Og {K:aa} (k:Key):Rep K ok H (kV k) (ofK k):=by
 cases k with
 |inl i=>exact .int i
 |inr x=>exact .str x
theorem Al {K:aa}:∀ ks:List Key,Reps K ok H (ks.map kV) (ks.map ofK)
 |[]=>.nil
 |k::ks=>.cons (Og k) (Al ks)
end
section
variable {X:Cx}{cls exC:Nat->af}{E:XE}{e a b c o i value tg iter:bw}{es rest:List bw}{fa fb fc fo fi fv:OG D}{fl:OG (List D)}{ft ft':OG Bool}{pos p apos pos' cpos:Pos}{x m:Str}{st:cz}{body:List cz}{F:OS}
noncomputable def IP (i j k l:Nat):BR:=fun d ρ=>match d with
 |.tup [x,y,z,w]=>xa ((((ρ.set i (xa x)).set j (xa y)).set k (xa z)).set l (xa w))
 |_=>xb
theorem Ls {i j k l:Nat} (hc:X.calm=true) (hN:X.N.Nodup) (hi:X.N[i]?=xa x) (hj:X.N[j]?=xa y) (hk:X.N[k]?=xa z) (hl:X.N[l]?=xa w) (hx:Loc X.env.scope x) (hy:Loc X.env.scope y) (hz:Loc X.env.scope z) (hw:Loc X.env.scope w)
  (hf:X.fn x=true∨X.env.scope.names.lookup x=xa .local:=by first|exact .inl rfl|exact .inr rfl|assumption) (hf2:X.fn y=true∨X.env.scope.names.lookup y=xa .local:=by first|exact .inl rfl|exact .inr rfl|assumption)
  (hf3:X.fn z=true∨X.env.scope.names.lookup z=xa .local:=by first|exact .inl rfl|exact .inr rfl|assumption) (hf4:X.fn w=true∨X.env.scope.names.lookup w=xa .local:=by first|exact .inl rfl|exact .inr rfl|assumption):
  PG X (.Tuple [.Name x p1,.Name y p2,.Name z p3,.Name w p4] kk tp) (gR X.K (IP i j k l)):=
 PG.imp (Jc (n:=4) hc (jO (kN hN hi hx hf) (jO (kN hN hj hy hf2) (jO (kN hN hk hz hf3) (jO (kN hN hl hw hf4) Eo))))) fun v σ H Q ⟨ok,ρ,ρ',d,h1,h2,h3,h4,h5⟩=>by
  unfold IP at h4;split at h4
  ·cases h4;obtain⟨a,xs,rfl,g,r⟩:=h3.tup_inv;cases r with
   |cons r1 r=>cases r with
    |cons r2 r=>cases r with
     |cons r3 r=>cases r with
      |cons r4 r=>cases r with
       |nil=>
        refine⟨a,_,rfl,g.sq,rfl,_,_,rfl,_,_,rfl,_,_,rfl,_,_,rfl,rfl,?_⟩;have e1:=h1.set h2 r1 i;have e2:=e1.set (by simpa using h2) r2 j;have e3:=e2.set (by simpa using h2) r3 k;have e4:=e3.set (by simpa using h2) r4 l;exact h5 _ e4 (by simpa using h2)
  ·cases h4
noncomputable def CB (bd:BR) (f:OG D):OS:=oX f fun d ρ ω=>(bd d ρ).map fun ρ'=>(.nx ρ',ω)
theorem Kr (he:OE X cls E e fa) (hg:PG X tg (gR X.K bd)) (hs:ui [tg] e pos.line X.env=pure false:=by rfl) (hw:uj [tg] e X.env=pure xb:=by rfl)
  (h1:(lr [tg] X.env).map (·.2)=[assign tg X.env]:=by rfl):OSt X cls E (.Assign [tg] e pos) (CB bd fa):=(Jb he hg hs hw h1).imp fun D σ H ⟨ok,ρ,ω,oo,ω',P,e,q⟩=>by
 refine tO.thenS P e q fun d ω1 v ok1 H1 e1 n1 P1 r1 q1=> ?_;obtain⟨ρ',e2,e3⟩:=aI e1;cases e3;exact⟨ok1,ρ,ρ',d,P1.env,P1.len,r1,e2,fun σ' env len=>q1 ok1 H1 σ' (.refl P1.okh P1.st) env len⟩
noncomputable def oIA (g:List D->Option (List D)) (f:OG (List D)):OI':=oB f fun ds _ ω=>oR (pu ((g ds).map fun xs=>(xs,bM)) ω)
theorem Ez (hg:Gl X "range") (hm:X.mg "range"=xb) (ha:OA X cls E [a] fl) (hs:ay [a] X.env=[(false,eval a X.env)]:=by rfl):OI X cls E tg (.Call (.Name "range" p) [a] [] pos) (oIA iM fl):=
 PI.imp (En hg hm ha hs) fun σ H R ⟨ok,ρ,ω,r,ω',P,e,q⟩=>by
  refine tOA.then_ P e (fun c z=>by subst z;exact q) fun ds ω1 vs ok1 H1 e1 n1 P1 r1=> ?_;obtain⟨⟨dz,chk⟩,e3,rfl⟩:=cN e1;obtain⟨ue3,rfl⟩:=cR e3;obtain⟨xs,e4,e5⟩:=aI ue3;cases e5;unfold iM at e4;split at e4
  ·obtain⟨⟨hl,hh⟩,rfl⟩:=bP e4;obtain⟨v,rfl,rv⟩:=r1.one_inv;obtain rfl:=rv.int_inv;exact⟨_,rfl,by omega,by omega,q _ ok1 H1 n1 itD_range.toO⟩
  ·cases e4
end
noncomputable def jI (K:aa) (ns:List Str) (n:Nat):af:=match cx K ce (ns.getD n "") with
 |some (xa (.ref a))=>a
 |_=>0
theorem oF {K:aa} (hx:ns.getD n ""=x) (h:cx K ce x=xa (xa (.ref a))):jI K ns n=a:=by
 unfold jI;rw[hx,h]
structure nL (P:dm) (w:dr) (K:aa) (mg:Str->Option ag) (base:c9) (cls exC:Nat->af) (k:Nat) (x:Str) (ps:List Str) (φ:eN):Prop where
 ex:∃ f fd,sE P w K mg base (CX1 P w exC) k f fd ps (spO cls exC K φ)/\mg x=xa (.ref f)/\gx K (.ref f)=true/\Binds K fd ps []
structure rJ (P:dm) (w:dr) (K:aa) (mg:Str->Option ag) (base:c9) (cls exC:Nat->af) (k c:Nat) (m:Str) (ps:List Str) (φ:eN):Prop where
 ex:∃ f fd,sE P w K mg base (CX1 P w exC) k f fd ps (spO cls exC K φ)/\IX K (cls c) m f/\Binds K fd ps []
 cl:Cls K (cls c)
structure Pj (P:dm) (w:dr) (K:aa) (mg:Str->Option ag) (base:c9) (cls exC:Nat->af) (k c:Nat) (x:Str) (ps:List Str) (φ:eN):Prop where
 ex:∃ f fd,sE P w K mg base (CX1 P w exC) k f fd ps (spO cls exC K φ)/\Mk K (cls c) f/\Binds K fd ps []
 at_:mg x=xa (.ref (cls c))
section
variable {X:Cx}{cls exC:Nat->af}{E:XE}{e a b c o i value:bw}{es:List bw}{fa fb fo fi fv:OG D}{fl:OG (List D)}{pos p apos pos':Pos}{x m:Str}{cn k:Nat}{ps:List Str}{φ:eN}
theorem Hs (F:nL X.prog X.w X.K X.mg X.base cls exC k x ps φ) (hr:Room k X.A) (hg:Gl X x) (hx:Pas X exC E) (ha:OA X cls E (e::es) fl) (hdb:(x==("__debug__":Str))=false:=by decide)
  (he:ay (e::es) X.env=(false,eval e X.env)::ay es X.env:=by rfl) (hpl:(dw pos (ay es X.env)).any (·.1)=false:=by rfl):OE X cls E (.Call (.Name x p) (e::es) [] pos) (bR φ fl):=by
 obtain⟨f,fd,h1,h2,h3,h4⟩:=F.ex;exact KQ h1 hr hg h2 h3 h4 hx ha hdb he hpl
theorem KI (F:rJ X.prog X.w X.K X.mg X.base cls exC k cn m ps φ) (hr:Room k X.A) (hx:Pas X exC E) (ho:OE X cls E o fo) (ha:OA X cls E (e::es) fl)
  (hst:ay (e::es) X.env=(false,eval e X.env)::ay es X.env:=by rfl) (hpl:(dw pos (ay es X.env)).any (·.1)=false:=by rfl)
  (ht:eval (.Call (.Attribute o m apos) (e::es) [] pos) X.env=(do
   let ov <- eval o X.env
   ng apos.atName
   let (f,first) <- holding [ov] (mm ov m pl)
   qv pos f first (dw pos (ay (e::es) X.env)) (j5 pos (ir [] X.env))):=by rfl):
  OE X cls E (.Call (.Attribute o m apos) (e::es) [] pos) (bL cn m φ fo fl):=by
 obtain⟨f,fd,h1,h2,h4⟩:=F.ex;exact KH (pl:=pl) ho F.cl h2 h1 hr h4 hx ha hst hpl ht
theorem Ho (F:rJ X.prog X.w X.K X.mg X.base cls exC k cn m ps φ) (hr:Room k X.A) (hx:Pas X exC E) (ho:OE X cls E o fo)
  (ht:eval (.Call (.Attribute o m apos) [] [] pos) X.env=(do
   let ov <- eval o X.env
   ng apos.atName
   let (f,first) <- holding [ov] (mm ov m pl)
   qv pos f first (dw pos (ay [] X.env)) (j5 pos (ir [] X.env))):=by rfl):
  OE X cls E (.Call (.Attribute o m apos) [] [] pos) (bL cn m φ fo aO):=by
 obtain⟨f,fd,h1,h2,h4⟩:=F.ex;exact Hn (pl:=pl) ho F.cl h2 h1 hr h4 hx ht
theorem KL (F:Pj X.prog X.w X.K X.mg X.base cls exC k cn x ps φ) (hr:Room (k+1) X.A) (hg:Gl X x) (hx:Pas X exC E) (ha:OA X cls E (e::es) fl) (hdb:(x==("__debug__":Str))=false:=by decide)
  (he:ay (e::es) X.env=(false,eval e X.env)::ay es X.env:=by rfl) (hpl:(dw pos (ay es X.env)).any (·.1)=false:=by rfl):OE X cls E (.Call (.Name x p) (e::es) [] pos) (uT cn φ fl):=by
 obtain⟨f,fd,h1,h2,h3⟩:=F.ex;exact KJ h2 h1 hr hg F.at_ h3 hx ha hdb he hpl
end
theorem Ld {K:aa}{ns:List Int} (h:φ [.scr (ns.map D.int)] []=xa (.ok (.bl true),ω')) (hS:SqL K H a (ns.map V.int)):spO cls exC K φ [.ref a] H (fun v _=>v=.bl true) fun _ _ _=>False:=by
 refine⟨Okk.all,[],[.scr (ns.map D.int)],.ok (.bl true),ω',⟨fun _ _=>trivial,fun _ _ _=>trivial⟩,⟨fun n ob e=>by simp at e,(fun _ _ e=>nomatch e),(fun _ _ _ e=>nomatch e),(fun _ _ e=>nomatch e)⟩,.cons (.scr ?_ (Reps.ints ns)) .nil,h,fun v ok' H' _ r=>r.bl_inv⟩;rcases hS with h|h
 ·exact .inl ⟨trivial,h⟩
 ·exact .inr h
theorem law_walkO {l:wg}{K:Params->aa} (hn:l.most=xa 63) (hdf:d.params.defaults=[]) (hr:Room k pp)
  (hY:∀(w:dr) (h:c9),YP w h->(K w.params).In h) (hφ:∀ ns:List Int,ns.length<=63->∃ ω',φ [.scr (ns.map D.int)] []=xa (.ok (.bl true),ω'))
  (F:∀(w:dr) (mg:Str->Option ag) (fa:af) (h:c9),(K w.params).In h->h.Ns ce mg->mg d.name=xa (.ref fa)->
   ∃ fd:jp,(∀(s:au) (u:ag),tj s fd ⟨[u],[]⟩ [(x,u)])/\∀ base:c9,(K w.params).In base->base.Ns ce mg->sE l.prog w (K w.params) mg base (CX1 l.prog w (jI (K w.params) es)) k fa fd [x] (spO (jI (K w.params) cs) (jI (K w.params) es) (K w.params) φ)):
  ww q loose XP YP l.row.toRowW d [] (fun f vs=>wf f vs):=
 L2.walk_of (n:=63) (k:=k) (x:=x) (CX:=fun w=>CX1 l.prog w (jI (K w.params) es)) (sp:=fun w=>spO (jI (K w.params) cs) (jI (K w.params) es) (K w.params) φ) hn (by decide) hdf hr hY F (fun _ _ a ns hl _ hS=>let ⟨_,h⟩:=hφ ns hl;Ld h hS) fun _ _ _ _ _ ⟨_,_,_,_,_,_,_,_,_,_,z⟩=>z
section
variable {α β:Type}{f h:OG D}{fl:OG (List D)}{ρ:Rho}{ω ω1 ω2 ω3:Om}{a b d:D}{ds:List D}{F G:OS}
theorem bJ {f:OG α}{g:α->OG β} (e:f ρ ω=xa (.ok x,ω1)):oB f g ρ ω=g x ρ ω1:=by unfold oB;rw[e]
theorem bS {f:OG α} (e:f ρ ω=xa (.ok x,ω1)):oX f g ρ ω=g x ρ ω1:=by unfold oX;rw[e]
theorem Ql {f:DF} (e:f ρ=xa d):oP f ρ ω=xa (.ok d,ω):=by unfold oP;rw[e];rfl
theorem aB (e:ρ[i]?=xa (xa d)):oP (LS i) ρ ω=xa (.ok d,ω):=Ql (by unfold LS;rw[e];rfl)
theorem aR:oP (dC d) ρ ω=xa (.ok d,ω):=rfl
theorem dY (e1:f ρ ω=xa (.ok a,ω1)) (e2:h ρ ω1=xa (.ok b,ω2)) (e3:g ω2 a b=xa (d,ω3)):o2 g f h ρ ω=xa (.ok d,ω3):=by
 unfold o2;rw[bJ e1,bJ e2];show oR (g ω2 a b)=_;rw[e3];rfl
theorem fE (e1:f ρ ω=xa (.ok a,ω1)) (e2:h ρ ω1=xa (.ok b,ω2)) (e3:g a b=xa d):o2 (lf g) f h ρ ω=xa (.ok d,ω2):=dY e1 e2 (by show pu (g a b) ω2=_;rw[e3];rfl)
theorem aD:aO ρ ω=xa (.ok [],ω):=rfl
theorem aA (e1:f ρ ω=xa (.ok a,ω1)) (e2:fl ρ ω1=xa (.ok ds,ω2)):aC f fl ρ ω=xa (.ok (a::ds),ω2):=by
 unfold aC;rw[bJ e1,bJ e2]
theorem cP (e1:fl ρ ω=xa (.ok ds,ω1)) (e2:g ω1 ds=xa (d,ω2)):oL g fl ρ ω=xa (.ok d,ω2):=by
 unfold oL;rw[bJ e1];show oR (g ω1 ds)=_;rw[e2];rfl
theorem aV (e1:fl ρ ω=xa (.ok ds,ω1)) (e2:φ ds ω1=xa (r,ω2)):bR φ fl ρ ω=xa (r,ω2):=by
 unfold bR;rw[bJ e1];exact e2
theorem aK (e:f ρ ω=xa (.ok d,ω1)):aG (aY i f) G ρ ω=G (ρ.set i (xa d)) ω1:=by
 unfold aG aY;rw[bS e]
theorem bB (e:F ρ ω=xa (.nx ρ1,ω1)):aG F G ρ ω=G ρ1 ω1:=by
 unfold aG;rw[e]
theorem bU (e:f ρ ω=xa (.ok (.bl k),ω1)):bX f ρ ω=xa (.ok k,ω1):=by
 unfold bX;rw[bJ e];rfl
theorem jX (e:t ρ ω=xa (.ok true,ω1)):dG t F G ρ ω=F ρ ω1:=by unfold dG;rw[bS e];rfl
theorem iT (e:t ρ ω=xa (.ok false,ω1)):dG t F G ρ ω=G ρ ω1:=by unfold dG;rw[bS e];rfl
theorem bI (e:f ρ ω=xa (.ok d,ω1)):aW f ρ ω=xa (.rt d,ω1):=by unfold aW;rw[bS e]
theorem aT (hl:ds.length=n) (e:G (cF N ds) ω=xa (.rt d,ω1)):eC n N G ds ω=xa (.ok d,ω1):=by
 unfold eC;rw[if_pos hl,e]
theorem Ou (h: -1000000000000000000<j/\j<1000000000000000000):iQ (.int i) (.int j)=xa (.int (i*j)):=by
 show(if _ then _ else _)=_
 rw[if_pos (.inr h)]
theorem Ov (h:0<j):cV (.int i) (.int j)=xa (.int (i % j)):=by
 show(if _ then _ else _)=_
 rw[if_pos h]
end
section
variable {X:Cx}{cls exC:Nat->af}{E:XE}{e a b c o i value tg iter:bw}{es rest:List bw}{fa fb fc fo fi fv:OG D}{fl:OG (List D)}{ft ft':OG Bool}{pos p apos pos' cpos:Pos}{x m:Str}{st:cz}{body:List cz}{F:OS}
theorem Nw.freeze {K:aa}{a:af} (P:OkH ok H) (st:Stt cls K ok H ω) (e:ok.al n=xa a) (h:H a=xa (.dT vs)) (kv:KvR K ok H vs kvs):
  Nw cls K ok H ok (upd H a (.frz oo (.dT vs))) (ω.set n (.dz kvs)):=Nw.write P st e h fun dat=>⟨oo,vs,aP,kv.mono dat fun _ _ z=>z⟩
theorem Qp {K:aa}{a:af} (e:ok1.al n=xa a) (h:H1 a=xa (.frz oo (.dT vs))) (kv:KvR K ok1 H1 vs kvs):
  ItO cls K ok1 H1 (yA n kvs) (Itk a oo vs) (kvs.map fun kv=>bC kv.1):=by
 refine⟨fun i ok H ω nw _ hi=>⟨nw.ex.frz _ _ _ h,by rw[kv.length];simpa using hi⟩,fun i ok H ω x H' d nw _ y hd=> ?_,fun i ok H ω nw _ hi=>⟨nw.ex.frz _ _ _ h,by rw[kv.length];simpa using hi⟩⟩;obtain⟨rfl,b,p,rfl,hp,ht⟩:=y;refine⟨Same.refl _,?_⟩;have hk:=kv.keys;have e1:(vs.map (·.1))[i]?=xa p.1:=by rw[ax,hp];rfl
 rw[hk,ax] at e1;obtain⟨q,e2,e3⟩:=aI e1;rw[ax,e2] at hd;cases hd;show Rep K ok _ _ (bC q.1);rw[e3];exact .tup ⟨nw.okh.tp b _ ht,ht⟩ (Al p.1)
theorem Nw.thaw {K:aa}{a:af} (st1:Stt cls K ok1 H1 ω1) (e:ok1.al n=xa a) (h:H1 a=xa (.dT vs)) (nw:Nw cls K ok1 (upd H1 a (.frz oo (.dT vs))) ok H ω) (hc:ω[n]?=xa (.dz kvs)):
  ∃ ws,H a=xa (.frz oo (.dT ws))/\ws=vs/\Nw cls K ok1 H1 ok (upd H a (.dT vs)) (ω.set n (.dt kvs)):=by
 have hf:H a=xa (.frz oo (.dT vs)):=nw.ex.frz _ _ _ aP;have ea:=nw.ex.ids n a e;obtain⟨b,e1,o',vs',e2,kv⟩:=nw.st.cell n _ hc;rw[ea] at e1;cases e1;rw[hf] at e2;cases e2;have na:¬ ok1.p a:=st1.nok n a e;have na':¬ ok.p a:=nw.st.nok n a ea;have dat:∀ b o,ok.p b->H b=xa o->ok.p b/\upd H a (.dT vs) b=xa o:=fun b o k z=>⟨k,by rw[aF (show b≠a from fun w=>na' (w ▸ k))];exact z⟩;refine⟨vs,hf,rfl,⟨⟨fun b o k z=> ?_,nw.ex.ids,fun b o z w=> ?_,fun m b z=> ?_,fun b z=> ?_,fun b k=> ?_,fun b x u z=> ?_⟩,⟨fun b z=> ?_,fun b xs z=> ?_⟩,fun m ob z=> ?_,fun m b z=>by rw[ca];exact nw.st.dom m b z,nw.st.inj,nw.st.nok⟩⟩
 ·have hb:b≠a:=fun w=>na (w ▸ k)
  have:=nw.ex.dat b o k (by rw[aF hb];exact z)
  exact⟨this.1,by rw[aF hb];exact this.2⟩
 ·have hb:b≠a:=fun q=>w n (q ▸ e);rw[aF hb];exact nw.ex.frm b o (by rw[aF hb];exact z) w
 ·rcases nw.ex.new m b z with w|w
  ·exact .inl w
  ·by_cases hb:b=a
   ·rw[hb,aP] at w;cases w
   ·rw[aF hb] at w;exact .inr w
 ·by_cases hb:b=a
  ·rw[hb,aP] at z;cases z
  ·rw[aF hb] at z
   have:=nw.ex.keep b z
   rw[aF hb] at this;exact this
 ·rcases nw.ex.sub b k with w|w
  ·exact .inl w
  ·by_cases hb:b=a
   ·rw[hb,aP] at w;cases w
   ·rw[aF hb] at w;exact .inr w
 ·have hb:b≠a:=fun w=>by rw[w,h] at z;cases z
  rw[aF hb];exact nw.ex.frz b x u (by rw[aF hb];exact z)
 ·by_cases hb:b=a
  ·rw[hb,aP] at z;cases z
  ·rw[aF hb] at z;exact nw.okh b z
 ·by_cases hb:b=a
  ·rw[hb,aP] at z;cases z
  ·rw[aF hb] at z;exact nw.okh.tp b xs z
 ·rcases sM z with⟨rfl,rfl⟩|⟨hm,z⟩
  ·exact⟨a,ea,vs,aP,kv.mono dat fun _ _ z=>z⟩
  ·obtain⟨b,e1,c1⟩:=nw.st.cell m ob z;refine⟨b,e1,c1.mono dat (fun _ _ z=>z) fun u q=> ?_⟩;rw[aF (show b≠a from fun w=>hm (nw.st.inj m n a (w ▸ e1) ea))];exact q
theorem Km (hc:X.calm=true) (ho:OE X.nox cls EF iter fo) (hg:PG X.nox tg (gR X.K bd)) (hb:OSs X.nox cls EF body F) (hs:∀ x,gq iter X.env x=pure x:=by intro _;rfl):
  OSt X cls E (.For tg iter body [] pos) (sNx (JH fo bd F)):=Jj ((JQ (X:=X.nox) wj hc ho hg hb hs).imp fun D σ H ⟨ok,ρ,ω,oo,ω',P,e,q⟩=>by
 refine tO.thenS P e q fun d ω1 v ok1 H1 e1 n1 P1 r1 q1=> ?_;obtain⟨⟨n,kvs⟩,hd,e2⟩:=aQ e1;obtain⟨rfl,e3⟩:=Fy hd;obtain⟨a,rfl,e4,vs,e5,kv⟩:=P1.st.ref r1 e3;refine⟨a,vs,rfl,e5,fun o nf=> ?_⟩;have nf1:Nw cls X.K ok1 H1 ok1 (upd H1 a (.frz o (.dT vs))) (ω1.set n (.dz kvs)):=.freeze P1.okh P1.st e4 e5 kv;dsimp only at e2;split at e2
 ·rename_i ρ' ω2 hF
  obtain⟨hz,e6⟩:=bP e2;cases e6;refine Ca (D:=LU X.H₀ D) (Qp e4 aP (kv.mono nf1.ex.dat nf1.ex.ids)) (P1.nw nf1) hF fun ok2 H2 σ2 nw2 env2 len2=> ?_;obtain⟨ws,w1,rfl,nw3⟩:=Nw.thaw P1.st e4 e5 nw2 (HN hz);refine⟨a,o,ws,w1,nf,q1 ok2 _ σ2 nw3 ?_ len2⟩;intro j dj ej;obtain⟨u,z1,z2⟩:=env2 j dj ej;refine⟨u,z1,z2.mono (fun b u' k z=>⟨k,?_⟩) fun _ _ z=>z⟩;rw[aF (show b≠a from fun w=>nw2.st.nok n a (nw2.ex.ids n a e4) (w ▸ k))];exact z
 ·cases e2)
end
end L2.MB
end
section
namespace L2.MB
open PySem PySem.Spec PyProof.Rows PySem.Builtin
theorem nodup_ix {xs:List (α×β)} (h:(xs.map (·.1)).Nodup) {i j:Nat} (h1:xs[i]?=xa (k,p)) (h2:xs[j]?=xa (k,q)):i=j:=by
 have a1:(xs.map (·.1))[i]?=xa k:=by rw[ax,h1];rfl
 have a2:(xs.map (·.1))[j]?=xa k:=by rw[ax,h2];rfl
 exact(vk (bt.mp a1).1 h).mp (a1.trans a2.symm)
theorem Em (d b:af):MeetsIn P w («dict.pop» { pos:=[.ref d,.ref b] }) fun A R s=>
  A.units+1<fe/\∃(xs:List (List Key×af×ag)) (j:Nat) (p:af×ag),iw (b4 (aN P w)) s.heap d xs/\xs.length<=sizeLine/\(b4 (aN P w)).is s.heap k b/\xs[j]?=xa (k,p)/\
   ∀ h' t,iw (b4 (aN P w)) h' d (xs.eraseIdx j)->f8 d s.heap h'->R (.ok (.ret p.2)) { s with heap:=h',toks:=t }:=by
 rintro A R s ⟨hu,xs,j,p,dd,hz,hk,hj,hR⟩;obtain⟨o,es,ep,h1,h2,h3,h4,h5,h6⟩:=dd;obtain⟨oc,od,odt,osl⟩:=o;obtain⟨q1,q2,q3⟩:=h2;dsimp only at q1 q2 q3 h3;subst q1 q2 q3 h3;have hne:es.isEmpty=false:=by
  have:es.toList≠[]:=by
   rw[h4];intro z;rw[uq] at z;rw[z] at hj;simp at hj
  cases q:es.isEmpty with
  |false=>rfl
  |true=>rw[nj] at q;rw[q] at this;exact absurd rfl this
 have hr:(b4 (aN P w)).room A.in1:=ku hu;have hes:es[j]?=xa (gp (b4 (aN P w)) (k,p)):=by
  rw[<- ic,h4,ax,hj];rfl
 unfold «dict.pop» Dict.keyAndDefault
 repeat (first|with_reducible refine HeapKind.pyHash (b4 (aN P w)) hr hk ?_|(with_reducible refine ur hr hk h1 rfl h4 h5 h6 (fun z=>absurd hj (z j p)) fun i q hi=> ?_)|wp_step)
 obtain rfl:=nodup_ix h6 hj hi;rw[hes]
 repeat (first|(with_reducible refine ud h1 rfl ?_ ?_ ?_)|wp_step)
 ·have sb:f8 d s.heap (s.heap.update d (sf fun x=>x.eraseIdxIfInBounds j)):=⟨oq _ _ _,fun b hb=>fm _ _ (bz hb)⟩;refine hR _ _ ⟨_,es.eraseIdxIfInBounds j,ep+1,gy _ h1 ?_,⟨rfl,rfl,rfl⟩,rfl,?_,fun x hx=>(b4 (aN P w)).keeps (h5 x (List.mem_of_mem_eraseIdx hx)) h1 rfl sb,?_⟩ sb
  ·rfl
  ·have em:∀(l:List (List Key×af×ag)) (n:Nat),(l.eraseIdx n).map (gp (b4 (aN P w)))=(l.map (gp (b4 (aN P w)))).eraseIdx n:=fun l=>by
    induction l with
    |nil=>intro n;rfl
    |cons x r ih=>intro n;cases n with
     |zero=>rfl
     |succ n=>simp[ih n]
   rw[em,<- h4];unfold Array.eraseIdxIfInBounds;split
   ·simp
   ·rename_i hn
    rw[List.eraseIdx_of_length_le (by simpa using hn)]
  ·exact h6.sublist ((List.eraseIdx_sublist xs j).map _)
 ·have:=congrArg k7 h4
  rw[am,ff] at this;rw[this];exact hz
 ·have:=PySem.size_eraseIdxIfInBounds_le es j
  omega
theorem mZ {α β:Type} [DecidableEq α] {k:α}{p:β}:∀ {xs:List (α×β)}{j:Nat},(xs.map (·.1)).Nodup->xs[j]?=xa (k,p)->xs.eraseIdx j=xs.filter fun x=>decide (x.1≠k)
 |[],j,_,h=>by simp at h
 |x::r,0,nd,h=>by
  have h':x=(k,p):=by simpa using h
  subst h';rw[bg,b9] at nd;rw[List.eraseIdx_cons_zero,da (by simp)]
  symm
  rw[ut];intro a ha
  have:a.1≠k:=fun z=>nd.1 (ak.mpr ⟨a,ha,z⟩)
  simpa using this
 |x::r,j+1,nd,h=>by
  rw[bg,b9] at nd;have h':r[j]?=xa (k,p):=by simpa using h
  have hm:k∈r.map (·.1):=ak.mpr ⟨_,ga h',rfl⟩;have hx:x.1≠k:=fun z=>nd.1 (z ▸ hm);rw[List.eraseIdx_cons_succ,db (by simpa using hx),mZ nd.2 h']
theorem KT.drop (r:KT H kvs xs) (k:List Key):KT H (yO kvs k) (xs.filter fun x=>decide (x.1≠k)):=by
 induction r with
 |nil=>exact .nil
 |@cons p q ps qs h t ih=>
  unfold yO at ih ⊢
  by_cases e:p.1=k
  ·have e':q.1=k:=h.1.symm.trans e;rw[da (by simp[e]),da (by simp[e'])];exact ih
  ·have e':¬ q.1=k:=fun z=>e (h.1.trans z);rw[db (by simp[e]),db (by simp[e'])];exact .cons h ih
theorem IQ {k:List Key} (h:ls xs k=xa p):∃ j:Nat,xs[j]?=xa (k,p):=by
 unfold ls at h;obtain⟨q,e1,e2⟩:=aI h;have m:=qp e1;have e3:=wl e1;obtain⟨j,hj⟩:=jv m;refine⟨j,?_⟩;rw[hj]
 have:q.1=k:=by simpa using e3
 rw[<- this,<- e2]
section
variable {X:Cx}{pins:List (af×Obj)}{σ:St}{H:Hp}{s:au}{a b:af}{kvs:List (List Key×V)}{k:List Key}{A:d8}{E:ag->au->Prop}
theorem OQ (hu:A.units+1<fe) (I:Inv X pins σ H s) (e:H a=xa (.dT kvs)) (eb:H b=xa (.tup (k.map kV))) (l:wJ kvs k=xa v)
  (h:∀ w' s',Inv X pins σ (upd H a (.dT (yO kvs k))) s'->RelV v w'->Q w' s'):az (model X.prog X.w) A (call (.builtin "dict.pop") [.ref a,.ref b]) Q E s:=by
 obtain⟨z,hd,xs,rel,dd⟩:=Iz I.hok e;obtain⟨w',hw,rw'⟩:=RelO.some_of (v:=v) (o:=(ls xs k).map (·.2)) (by rw[<- l];exact rel.val k);obtain⟨p,hp,hp2⟩:=nv.mp hw;obtain⟨j,hj⟩:=IQ hp;have hz:xs.length<=sizeLine:=by rw[<- jc rel];exact z
 have nd:(xs.map (·.1)).Nodup:=by obtain⟨_,_,_,_,_,_,_,_,q⟩:=dd;exact q
 refine va t7 dd.typeIs PySem.F.entry_dict_pop (PySem.F.args_dict_pop_2 _ _) (Em (k:=k) a b) ⟨hu,xs,j,p,dd,hz,xU I.hok eb,hj,fun h' t dd' hs=>h p.2 _ ?_ (hp2 ▸ rw')⟩;rw[mZ nd hj] at dd';obtain⟨q,es,ep,hq,h2,h3,h4,_,h5⟩:=dd';refine qH I (by rw[e];exact ij) hs ⟨q,hq⟩ ⟨ci (IC kvs k) z,hd,_,KT.keeps (KT.drop rel k) fun c ys ec=> ?_,q,es,ep,hq,h2,h3,h4,h5⟩;rw[aF (KW ec e (fun z=>nomatch z))];exact ec
def MI:V->List V->Hp->VK->Prop:=fun x xs H Q=>∃ a b kvs k v,x=.ref a/\xs=[.ref b]/\H a=xa (.dT kvs)/\H b=xa (.tup (k.map kV))/\wJ kvs k=xa v/\Q v (upd H a (.dT (yO kvs k)))
theorem KZ (hu:X.A.units+1<fe):MtR X "dict.pop" MI:=by
 intro pins s σ H x xs v us Q I rx rs h;obtain⟨a,b,kvs,k,y,rfl,rfl,ha,hb,l,q⟩:=h;obtain⟨u,rfl,ru⟩:=mG rs;cases rx;cases ru;exact OQ hu I ha hb l fun w' s' I' r=>⟨y,_,I',r,q⟩
end
section
variable {X:Cx}{cls exC:Nat->af}{E:XE}{e a b c o i value:bw}{es rest:List bw}{fa fb fc fo fi fv:OG D}{fl:OG (List D)}{ft ft':OG Bool}{pos p apos pos' cpos:Pos}{x m:Str}{st:cz}
noncomputable def CY (ω:Om) (d:D):Bool:=match cellOf ω d with
 |some (.dt _)=>true
 |_=>false
theorem EZ (h:CY ω d=true):∃ n kvs,d=.obj n/\ω[n]?=xa (.dt kvs):=by
 unfold CY at h;split at h
 ·obtain⟨n,rfl,e⟩:=dQ ‹_›;exact⟨n,_,rfl,e⟩
 ·cases h
noncomputable def pE (g:Om->D->List D->Option (D×Om)) (fo:OG D) (fl:OG (List D)):OG D:=oB fo fun d ρ ω=>if CY ω d=true then oB fl (fun ds _ ω=>oR (g ω d ds)) ρ ω else xb
theorem NP {id:String} (slot:Slot "dict" m id) (hty:typeOf (.builtin id)=pure (.type "method_descriptor")) (hm:MtR X id r) (F:Gv cls X.K r g) (ho:OE X cls E o fo) (ha:OA X cls E (e::es) fl)
  (hbase:ig o m X.env (eval o X.env)=eval o X.env:=by rfl)
  (hfew:((dw cpos (ay (e::es) X.env)).all (fun x=> !x.1)&&(j5 cpos (ir [] X.env)).all (fun x=>x.1.isSome)
   &&decide ((e::es).length+([]:List kj).length+(if([]:List kj).isEmpty then 0 else 1)<30))=true:=by rfl)
  (hline:(apos.endLine==cpos.line)=true:=by rfl) (hs:ay (e::es) X.env=(false,eval e X.env)::ay es X.env:=by rfl) (hplain:(dw cpos (ay es X.env)).any (·.1)=false:=by rfl):
  OE X cls E (.Call (.Attribute o m apos) (e::es) [] cpos) (pE g fo fl):=
 (Nd rj slot hty hm ho ha hbase hfew hline hs hplain).imp fun σ H Q ⟨ok,ρ,ω,r,ω',P,e,q⟩=>by
  refine tO.then_ P e (fun c z=>by subst z;exact q) fun d ω1 v ok1 H1 e1 n1 P1 r1=> ?_;obtain⟨hi,e1⟩:=cS e1;obtain⟨n,ds0,rfl,e2⟩:=EZ hi;obtain⟨a,rfl,e4,xs,e5,rs⟩:=P1.st.ref r1 e2;refine⟨.inr (.inr (.inl ⟨rfl,.inr ⟨xs,e5⟩⟩)),?_⟩;refine tOA.then_ P1 e1 (fun c z=>by subst z;exact exR.nw q n1) fun ds ω2 us ok2 H2 e6 n2 P2 r2=> ?_;obtain⟨y,e7,rfl⟩:=cN e6;exact F ok2 H2 ω2 _ us _ ds y ω' Q P2.okh P2.st (r1.ex n2.ex) r2 e7 fun w ok3 H3 n3 r3=>q w ok3 H3 (n1.trans (n2.trans n3)) r3
noncomputable def Fx (ω:Om) (d:D) (as:List D):Option (D×Om):=match d,as with
 |.obj n,[y]=>match ω[n]? with
  |some (.dt kvs)=>(DD y).bind fun k=>(gN kvs k).map fun v=>(v,ω.set n (.dt (eA kvs k)))
  |_=>xb
 |_,_=>xb
theorem Il {K:aa}:Gv cls K MI Fx:=fun ok H ω x xs a as d ω' Q h1 st ra rs e k=>by
 unfold Fx at e;split at e
 ·rename_i n y
  split at e
  ·rename_i kvs hc
   obtain⟨ks,e8,e⟩:=aQ e;obtain⟨v,e9,e10⟩:=aI e;cases e10;obtain⟨a1,rfl,e4,vs,e5,kv⟩:=st.ref ra hc;obtain⟨w,rfl,rw'⟩:=rs.one_inv;obtain⟨b,rfl,_,hb⟩:=toT'_rep e8 rw';obtain⟨u,l,ru⟩:=kv.val e9;refine⟨a1,b,vs,ks,u,rfl,rfl,e5,hb,l,?_⟩;have nw:=Nw.write (o:=.dT (yO vs ks)) (ob:=.dt (eA kvs ks)) h1 st e4 e5 fun dat=>⟨_,aP,(KvR.drop (k:=ks) kv).mono dat fun _ _ z=>z⟩;exact k _ ok _ nw (ru.ex nw.ex)
  ·cases e
 ·cases e
theorem KC (hu:X.A.units+1<fe) (ho:OE X cls E o fo) (ha:OA X cls E [e] fl) (hbase:ig o "pop" X.env (eval o X.env)=eval o X.env:=by rfl)
  (hfew:((dw cpos (ay [e] X.env)).all (fun x=> !x.1)&&(j5 cpos (ir [] X.env)).all (fun x=>x.1.isSome)
   &&decide ([e].length+([]:List kj).length+(if([]:List kj).isEmpty then 0 else 1)<30))=true:=by rfl)
  (hline:(apos.endLine==cpos.line)=true:=by rfl) (hs:ay [e] X.env=(false,eval e X.env)::ay [] X.env:=by rfl) (hplain:(dw cpos (ay [] X.env)).any (·.1)=false:=by rfl):
  OE X cls E (.Call (.Attribute o "pop" apos) [e] [] cpos) (pE Fx fo fl):=NP t7 PySem.F.type_dict_pop (KZ hu) Il ho ha hbase hfew hline hs hplain
end
end L2.MB
end
section
namespace L2.MB
open PySem PySem.Spec PyProof.Rows PySem.Builtin
section
variable {P:dm}{w:dr}{K:Type} [DecidableEq K] {knd:HeapKind P w K}{A:d8}{E:ag->au->Prop}{s:au}{d a:af}{xs ys:List (K×af×ag)}{k:K}{v:ag}{Q:Unit->au->Prop}
theorem uB (h:∀(j:Nat) (p:af×ag),xs[j]?≠xa (k,p)):ls xs k=xb:=by
 unfold ls;rw[Option.map_eq_none_iff,vb];intro x hx;obtain⟨j,hj⟩:=jv hx;intro z;have e:x.1=k:=by simpa using z
 exact h j x.2 (by rw[hj,<- e])
theorem Dr {j:Nat} (h:xs[j]?=xa (k,p)):(ls xs k).isSome=true:=by
 unfold ls;rw[qj,List.find?_isSome];exact⟨(k,p),ga h,by simp⟩
theorem CL (nd:(xs.map (·.1)).Nodup) (h:xs[j]?=xa (k,p)):(xs.map (gp knd)).modify j (fun e=>{ hash:=e.hash,key:=e.key,val:=v })=(xs.map (r9 k v)).map (gp knd):=by
 apply jb;intro i;rw[List.getElem?_modify,ax,ax,ax];cases q:xs[i]? with
 |none=>rfl
 |some x=>
  show xa _=xa _
  by_cases e:j=i
  ·subst e;rw[h] at q;cases q;simp[r9,gp]
  ·have hx:x.1≠k:=fun z=>e (nodup_ix nd h (show xs[i]?=xa (k,x.2) by rw[q,<- z]));simp[r9,e,hx]
theorem HL:(xs.map (r9 k v)).map (·.1)=xs.map (·.1):=by
 rw[fk];apply fg;intro x _;unfold r9
 show(if _ then _ else _:K×af×ag).1=_
 split <;> rfl
theorem GE (hr:knd.room A) (hk:knd.is s.heap k a) (hd:iw knd s.heap d xs) (hz:xs.length<=sizeLine) (h:∀ h',iw knd h' d (jo xs k a v)->f8 d s.heap h'->Q () { s with heap:=h' }):
  az (model P w) A (dictSetHashed d (.ref a) (knd.hash k) v) Q E s:=by
 obtain⟨o,es,ep,h1,h2,h3,h4,h5,h6⟩:=hd;obtain⟨oc,od,odt,osl⟩:=o;obtain⟨q1,q2,q3⟩:=h2;dsimp only at q1 q2 q3 h3;subst q1 q2 q3 h3;have hs:es.size=xs.length:=by
  have:=congrArg k7 h4
  rw[am,ff] at this;exact this
 unfold dictSetHashed
 repeat (first|(with_reducible refine ur hr hk h1 rfl h4 h5 h6 (fun hn=> ?none) fun j p hj=> ?some)|(with_reducible refine ud h1 rfl ?main ?sz ?gr)|wp_step)
 case main=>
   have sb:f8 d s.heap (s.heap.update d (sf fun x=>x.push { hash:=knd.hash k,key:=.ref a,val:=v })):=⟨oq _ _ _,fun b hb=>fm _ _ (bz hb)⟩;have e1:jo xs k a v=xs++[(k,a,v)]:=by
    unfold jo;rw[uB hn];rfl
   refine h _ ⟨_,es.push { hash:=knd.hash k,key:=.ref a,val:=v },ep+1,gy _ h1 rfl,⟨rfl,rfl,rfl⟩,rfl,?_,fun x hx=> ?_,?_⟩ sb
   ·rw[e1,Array.toList_push,h4,c7];rfl
   ·rw[e1] at hx;rcases cm.mp hx with hx|hx
    ·exact knd.keeps (h5 x hx) h1 rfl sb
    ·rw[cq] at hx;subst hx;exact knd.keeps hk h1 rfl sb
   ·rw[e1,c7];refine jt.mpr ⟨h6,by simp,fun x hx y hy z=> ?_⟩;have hy':y=k:=by simpa using hy
    rw[z,hy'] at hx;obtain⟨q,q1,q2⟩:=ak.mp hx;obtain⟨j,hj⟩:=jv q1;exact hn j q.2 (by rw[hj,<- q2])
 case sz=>rw[hs];exact hz
 case gr=>simp
 case some=>
  have e1:jo xs k a v=xs.map (r9 k v):=by
   unfold jo;rw[if_pos (Dr hj)]
  repeat (first|(with_reducible refine wpAny_updateDict h1 rfl ?_ ?_)|wp_step)
  ·have sb:f8 d s.heap (s.heap.update d (Obj.mapDict fun x=>x.modify j fun e=>{ hash:=e.hash,key:=e.key,val:=v })):=⟨oq _ _ _,fun b hb=>fm _ _ (bz hb)⟩;refine h _ ⟨_,es.modify j fun e=>{ hash:=e.hash,key:=e.key,val:=v },ep,gy _ h1 rfl,⟨rfl,rfl,rfl⟩,rfl,?_,fun x hx=> ?_,?_⟩ sb
   ·rw[e1,Array.toList_modify,h4];exact CL h6 hj
   ·rw[e1] at hx;obtain⟨q,q1,q2⟩:=ak.mp hx;subst q2
    have:=knd.keeps (h5 q q1) h1 rfl sb
    unfold r9;split
    ·exact this
    ·exact this
   ·rw[e1,HL];exact h6
  ·simp
end
section
variable {P:dm}{w:dr}{A:d8}{E:ag->au->Prop}{s:au}{d o:af}{xs ys:List (List Key×af×ag)}{k:List Key}{v:ag}{Q:Unit->au->Prop}{id:String}
noncomputable def fS (xs ys:List (List Key×af×ag)):List (List Key×af×ag):=ys.foldl (fun acc y=>jo acc y.1 y.2.1 y.2.2) xs
theorem zY:(jo xs k a v).length<=xs.length+1:=by
 unfold jo;split
 ·rw[am];omega
 ·rw[b8,lg];omega
theorem pH:fS xs (ys++[y])=jo (fS xs ys) y.1 y.2.1 y.2.2:=by
 unfold fS;rw[List.foldl_append];rfl
theorem xQ:∀ {ys xs:List (List Key×af×ag)},((xs++ys).map (·.1)).Nodup->fS xs ys=xs++ys
 |[],xs,_=>by rw[cr];rfl
 |y::r,xs,nd=>by
  have e1:fS xs (y::r)=fS (jo xs y.1 y.2.1 y.2.2) r:=rfl;have e2:jo xs y.1 y.2.1 y.2.2=xs++[y]:=by
   unfold jo;rw[uB (fun j p hj=> ?_)]
   ·rfl
   ·have m1:y.1∈xs.map (·.1):=ak.mpr ⟨_,ga hj,rfl⟩;rw[c7,jt] at nd;exact nd.2.2 _ m1 _ (ak.mpr ⟨y,aq,rfl⟩) rfl
  rw[e1,e2,xQ (by rw[gs];exact nd),gs];rfl
theorem EO (nd:(ys.map (·.1)).Nodup):fS [] ys=ys:=xQ (by simpa using nd)
theorem jR (hne:d≠o) (hsys:(o==fu)=false) (hr:(b4 (aN P w)).room A) (hd:iw (b4 (aN P w)) s.heap d xs) (ho:iw (b4 (aN P w)) s.heap o ys) (hz:xs.length+ys.length<=sizeLine)
  (hh:∀(i j:Nat) x y,ys[i]?=xa x->ys[j]?=xa y->(b4 (aN P w)).hash x.1=(b4 (aN P w)).hash y.1->i=j)
  (h:∀ h',iw (b4 (aN P w)) h' d (fS xs ys)->f8 d s.heap h'->Q () { s with heap:=h' }):az (model P w) A (Dict.mergeDict id d o) Q E s:=by
 have hd0:=hd;obtain⟨o1,es,ep,h1,h2,h3,h4,h5,h6⟩:=hd;obtain⟨oc,od,odt,osl⟩:=o1;obtain⟨q1,q2,q3⟩:=h2;dsimp only at q1 q2 q3 h3;subst q1 q2 q3 h3;obtain⟨o2,fs,fp,g1,g2,g3,g4,g5,g6⟩:=ho;obtain⟨oc,od,odt,osl⟩:=o2;obtain⟨q1,q2,q3⟩:=g2;dsimp only at q1 q2 q3 g3;subst q1 q2 q3 g3;have hn:(d==o)=false:=by simpa using hne
 unfold Dict.mergeDict;simp only[uu];rw[hn];simp only[d9,if_false]
 repeat wp_step
 have fl:fs.size=ys.length:=by
  have:=congrArg k7 g4
  rw[am,ff] at this;exact this
 have el:es.size=xs.length:=by
  have:=congrArg k7 h4
  rw[am,ff] at this;exact this
 have few:(decide (fs.size<=8)&&fs.all fun e=>(keyPart e.key).isSome)=decide (ys=[]):=by
  rw[<- vv,g4];cases ys with
  |nil=>simp[fl]
  |cons y r=>simp[gp,keyPart]
 rw[few]
 by_cases hy:ys=[]
 ·rw[decide_eq_true hy];simp only[Bool.not_true,d9,if_false];have e0:c6 ([:fs.size]:j9).start ([:fs.size]:j9).size ([:fs.size]:j9).step=[]:=by rw[fl,hy];rfl
  subst hy
  repeat (first|(with_reducible refine qw _ (fun rest _ s'=>rest=[]/\s'=s) _ ?step ?fin _ _ ?init)|wp_step)
  case init=>exact⟨e0,rfl⟩
  case step=>rintro i rest b s' ⟨z,_⟩;cases z
  case fin=>
   rintro b s' ⟨_,rfl⟩
   repeat wp_step
   exact h _ hd0 ⟨rfl,fun _ _=>rfl⟩
 ·rw[decide_eq_false hy];simp only[wr,if_true]
  repeat wp_step
  by_cases hx:xs=[]
  ·have e0:es.isEmpty=true:=by
    rw[nj];apply Array.eq_empty_of_size_eq_zero;rw[el,hx];rfl
   rw[e0];simp only[if_true];unfold Dict.entriesForEmpty
   repeat (first|(with_reducible refine wpAny_forIn_array' _ (fun(rest:List ln) _ s'=>(∀ e∈rest,∃ i:Nat,fs[i]?=xa e)/\s'=s) _ ?step ?fin _ _ ?init)|wp_step)
   case init=>exact⟨fun e he=>by obtain⟨i,hi⟩:=jv he;exact⟨i,by rw[<- ic];exact hi⟩,rfl⟩
   case step=>
    rintro e rest b s' ⟨hi,rfl⟩;obtain⟨i,hi0⟩:=hi e aq;have hi1:(ys.map (gp (b4 (aN P w))))[i]?=xa e:=by rw[<- g4,ic];exact hi0
    rw[ax] at hi1;obtain⟨y,hy1,rfl⟩:=aI hi1;obtain⟨ot,its,nt,t1,t2,t3,_⟩:=(show IsTupleKey (aN P w) s'.heap y.1 y.2.1 from g5 y (ga hy1));show az _ _ (do let __do_lift <- Dict.quietEq (ck y.2.1);_) _ _ _;unfold Dict.quietEq;have small:¬(Array.filter (fun x=>x.hash==(gp (b4 (aN P w)) y).hash) fs).size>1:=by
     have:(fs.filter (fun x=>x.hash==(gp (b4 (aN P w)) y).hash)).toList.length<=1:=by
      rw[Array.toList_filter,g4,List.filter_map,am];have nd:∀(l:List (List Key×af×ag)),(∀(i j:Nat) x y,l[i]?=xa x->l[j]?=xa y->(b4 (aN P w)).hash x.1=(b4 (aN P w)).hash y.1->i=j)->∀ c:Int,(l.filter ((fun x:ln=>x.hash==c)∘gp (b4 (aN P w)))).length<=1:=by
       intro l
       induction l with
       |nil=>intro _ _;simp
       |cons z r ih=>
        intro hl c;have ih':=ih (fun i j x y h1 h2 e=>by have:=hl (i+1) (j+1) x y (by simpa using h1) (by simpa using h2) e;omega) c
        by_cases hc:(b4 (aN P w)).hash z.1=c
        ·rw[db (by simpa [gp] using hc)]
         have:r.filter ((fun x:ln=>x.hash==c)∘gp (b4 (aN P w)))=[]:=by
          rw[List.filter_eq_nil_iff];intro q hq z';obtain⟨j,hj⟩:=jv hq;have e:(b4 (aN P w)).hash q.1=c:=by simpa [gp] using z'
          have:=hl 0 (j+1) z q (by simp) (by simpa using hj) (hc.trans e.symm)
          omega
         rw[this];simp
        ·rw[da (by simpa [gp] using hc)];exact ih'
      exact nd ys hh _
     rw[ff] at this;omega
    repeat wp_step
    rw[t2,show t9 (lq "tuple") (jq "__eq__")=pure (xa (.builtin "tuple.__eq__")) from PySem.F.slot_tuple_eq.lookup]
    repeat wp_step
    rw[if_neg small]
    repeat wp_step
    exact⟨fun e he=>hi e (ai _ he),rfl⟩
   case fin=>
    rintro b s' ⟨_,rfl⟩
    repeat wp_step
    have f0:fs.isEmpty=false:=by
     cases q:fs.isEmpty with
     |false=>rfl
     |true=>
      rw[nj] at q;rw[q] at fl;exact absurd (List.eq_nil_of_length_eq_zero fl.symm) hy
    rw[f0];simp only[wr,if_true];have sb:f8 d s'.heap (s'.heap.update d (sf fun _=>fs)):=⟨oq _ _ _,fun b hb=>fm _ _ (bz hb)⟩;have mg:fS xs ys=ys:=by
     rw[hx];exact EO g6
    repeat (first|(with_reducible refine wpAny_updateDictKeysTo h1 rfl ?main ?sz)|wp_step)
    case sz=>show fs.size<=_;rw[fl];omega
    case main=>
     refine h _ ⟨_,fs,ep+1,gy _ h1 rfl,⟨rfl,rfl,rfl⟩,rfl,?_,fun x hx'=> ?_,?_⟩ sb
     ·rw[mg];exact g4
     ·rw[mg] at hx';exact(b4 (aN P w)).keeps (g5 x hx') h1 rfl sb
     ·rw[mg];exact g6
  ·have e0:es.isEmpty=false:=by
    cases q:es.isEmpty with
    |false=>rfl
    |true=>
     rw[nj] at q;rw[q] at el;exact absurd (List.eq_nil_of_length_eq_zero el.symm) hx
   rw[e0];simp only[d9,if_false];have e1:c6 ([:fs.size]:j9).start ([:fs.size]:j9).size ([:fs.size]:j9).step=c6 0 ys.length:=by
    rw[fl];simp[wz]
   have len:∀ n,n<=ys.length->(fS xs (ys.take n)).length<=xs.length+n:=fun n=>by
    induction n with
    |zero=>intro _;simp[fS]
    |succ n ih=>
     intro hn;have hn':n<ys.length:=hn;rw[ou hn',pH]
     have:=ih (ip hn')
     exact ci zY (by omega)
   repeat (first|(with_reducible refine qw _ (fun(rest:List Nat) _ s'=>∃(i:Nat) (h':c9),rest=c6 i (ys.length-i)/\i<=ys.length/\s'={ s with heap:=h' }/\iw (b4 (aN P w)) h' d (fS xs (ys.take i))/\f8 d s.heap h') _ ?step ?fin _ _ ?init)|wp_step)
   case init=>exact⟨0,s.heap,e1,iq _,rfl,hd0,⟨rfl,fun _ _=>rfl⟩⟩
   case step=>
    rintro i rest b s' ⟨j,h',e2,hj,rfl,dd,sb⟩;have hlt:j<ys.length:=by
     rcases m7 j ys.length with z|z
     ·exact z
     ·rw[Nat.sub_eq_zero_of_le z] at e2;cases e2
    have e3:ys.length-j=(ys.length-(j+1))+1:=by omega
    rw[e3,ka] at e2;cases e2;have go:h'.get? o=xa { cls:=lq "dict",data:=wu fs fp }:=(sb.2 o (bz hne)).trans g1;have hes:fs[i]?=xa { hash:=(b4 (aN P w)).hash ys[i].1,key:=.ref ys[i].2.1,val:=ys[i].2.2 }:=by
     rw[<- ic,g4,ax,bh hlt];rfl
    have hk:(b4 (aN P w)).is h' ys[i].1 ys[i].2.1:=(b4 (aN P w)).keeps (g5 _ (i5 hlt)) h1 rfl sb
    repeat wp_step
    rw[hes]
    repeat (first|(with_reducible refine GE hr hk dd (ci (len i (ip hlt)) (by omega)) fun h2 dd2 sb2=> ?_)|wp_step)
    have go2:h2.get? o=xa { cls:=lq "dict",data:=wu fs fp }:=(sb2.2 o (bz hne)).trans go
    repeat (first|(with_reducible refine qk go2 ?_)|wp_step)
    simp only[bne_self_eq_false,d9,if_false]
    repeat wp_step
    refine⟨i+1,h2,rfl,hlt,rfl,?_,sb.trans sb2⟩;rw[ou hlt,pH];exact dd2
   case fin=>
    rintro b s' ⟨j,h',e2,hj,rfl,dd,sb⟩
    have:j=ys.length:=by
     have:=congrArg k7 e2
     simp at this;omega
    subst this;rw[List.take_length] at dd
    repeat wp_step
    exact h h' dd sb
end
end L2.MB
end
section
namespace L2.MB
open PySem PySem.Spec PyProof.Rows PySem.Builtin
theorem DJ (d b:af) (hne:d≠b) (hsys:(b==fu)=false):MeetsIn P w («dict.update» { pos:=[.ref d,.ref b] }) fun A R s=>
  A.units+1<fe/\∃ xs ys:List (List Key×af×ag),iw (b4 (aN P w)) s.heap d xs/\iw (b4 (aN P w)) s.heap b ys/\xs.length+ys.length<=sizeLine/\
   (∀(i j:Nat) x y,ys[i]?=xa x->ys[j]?=xa y->(b4 (aN P w)).hash x.1=(b4 (aN P w)).hash y.1->i=j)/\
   ∀ h',iw (b4 (aN P w)) h' d (fS xs ys)->f8 d s.heap h'->R (.ok (.ret .none)) { s with heap:=h' }:=by
 rintro A R s ⟨hu,xs,ys,hd,ho,hz,hh,hR⟩;have hr:(b4 (aN P w)).room A.in1:=ku hu;have hd0:=hd;have ho0:=ho;obtain⟨o1,es,ep,h1,h2,h3,h4,h5,h6⟩:=hd;obtain⟨oc,od,odt,osl⟩:=o1;obtain⟨q1,q2,q3⟩:=h2;dsimp only at q1 q2 q3 h3;subst q1 q2 q3 h3;obtain⟨o2,fs,fp,g1,g2,g3,g4,g5,g6⟩:=ho;obtain⟨oc,od,odt,osl⟩:=o2;obtain⟨q1,q2,q3⟩:=g2;dsimp only at q1 q2 q3 g3;subst q1 q2 q3 g3;unfold «dict.update» Dict.selfAndRest
 repeat (first|(with_reducible refine jR hne hsys hr hd0 ho0 hz hh fun h' dd sb=> ?_)|wp_step)
 simp only[bne_self_eq_false,d9,if_false]
 repeat (first|(with_reducible refine jR hne hsys hr hd0 ho0 hz hh fun h' dd sb=> ?_)|wp_step)
 rw[PySem.isSubtype_dict_dict]
 repeat (first|(with_reducible refine jR hne hsys hr hd0 ho0 hz hh fun h' dd sb=> ?_)|wp_step)
 rw[show t9 (lq "dict") (jq "__iter__")=pure (xa (.builtin "dict.__iter__")) from n8.lookup]
 repeat (first|(with_reducible refine jR hne hsys hr hd0 ho0 hz hh fun h' dd sb=> ?_)|wp_step)
 exact hR h' dd sb
noncomputable def Ll:List Key->Option (List Int)
 |[]=>xa []
 |.inl i::r=>(Ll r).map fun is=>i::is
 |.inr _::_=>xb
noncomputable def fD (k:List Key):Option Int:=(Ll k).map fun is=>reduceHash (qq (is.map hashInt))
theorem yB:∀ {k:List Key}{is:List Int},Ll k=xa is->k=is.map oy
 |[],_,h=>by cases h;rfl
 |.inl i::r,_,h=>by
  obtain⟨js,e,rfl⟩:=aI h;rw[yB e];rfl
 |.inr _::_,_,h=>nomatch h
theorem BU (h:fD k=xa c):(b4 (aN P w)).hash k=c:=by
 obtain⟨is,e,rfl⟩:=aI h;rw[yB e];show reduceHash (qq ((is.map oy).map (aN P w).hash))=_;rw[fk];rfl
noncomputable def fA:List (List Key)->Bool
 |[]=>true
 |k::r=>(fD k).isSome&&r.all (fun k'=>match fD k,fD k' with
  |some a,xa b=>decide (a≠b)
  |_,_=>false)&&fA r
theorem tF:∀ {ks:List (List Key)},fA ks=true->∀(i j:Nat) x y,ks[i]?=xa x->ks[j]?=xa y->(b4 (aN P w)).hash x=(b4 (aN P w)).hash y->i=j
 |[],_,i,j,x,y,h1,_,_=>by simp at h1
 |k::r,h,i,j,x,y,h1,h2,e=>by
  have h':((fD k).isSome&&r.all (fun k'=>match fD k,fD k' with
   |some a,xa b=>decide (a≠b)
   |_,_=>false)&&fA r)=true:=h
  rw[br,br] at h';obtain⟨⟨_,ha⟩,hr⟩:=h';have main:∀ y,y∈r->(b4 (aN P w)).hash k=(b4 (aN P w)).hash y->False:=fun y hy e=>by
   have:=du.mp ha y hy
   split at this
   ·rename_i a b e1 e2
    rw[BU e1,BU e2] at e;simp at this;exact this e
   ·cases this
  cases i with
  |zero=>
   cases j with
   |zero=>rfl
   |succ j=>
    simp at h1 h2;subst h1;exact(main y (ga h2) e).elim
  |succ i=>
   cases j with
   |zero=>
    simp at h1 h2;subst h2;exact(main x (ga h1) e.symm).elim
   |succ j=>
    simp at h1 h2;rw[tF hr i j x y h1 h2 e]
noncomputable def mergeK (kvs more:List (List Key×V)):List (List Key×V):=more.foldl (fun acc p=>mS acc p.1 p.2) kvs
noncomputable def iX (kvs more:List (List Key×D)):List (List Key×D):=more.foldl (fun acc p=>putD acc p.1 p.2) kvs
theorem KT.merge:∀ {ms:List (List Key×V)}{ys:List (List Key×af×ag)},KT H ms ys->∀ {kvs:List (List Key×V)}{xs:List (List Key×af×ag)},KT H kvs xs->KT H (mergeK kvs ms) (fS xs ys)
 |_,_,.nil,_,_,r=>r
 |_,_,.cons (a:=p) (b:=q) h t,kvs,xs,r=>by
  obtain⟨h1,h2,h3⟩:=h;have r':=r.put p.1 h2 h3;rw[h1] at r'
  have:=KT.merge t r'
  rw[<- h1] at this;show KT H (mergeK (mS kvs p.1 p.2) _) (fS (jo xs q.1 q.2.1 q.2.2) _);rw[<- h1];exact this
theorem KvR.mergeR {K:aa}:∀ {ms:List (List Key×V)}{ns:List (List Key×D)},KvR K ok H ms ns->∀ {vs:List (List Key×V)}{ds:List (List Key×D)},KvR K ok H vs ds->KvR K ok H (mergeK vs ms) (iX ds ns)
 |_,_,.nil,_,_,r=>r
 |_,_,.cons h t,vs,ds,r=>KvR.mergeR t (r.put h)
theorem GR {k:List Key}:(mS kvs k v).length<=kvs.length+1:=gZ kvs k v
theorem sT:∀ {ms kvs:List (List Key×V)},(mergeK kvs ms).length<=kvs.length+ms.length
 |[],_=>bf _
 |p::r,kvs=>by
  have:=sT (ms:=r) (kvs:=mS kvs p.1 p.2)
  have:=GR (kvs:=kvs) (k:=p.1) (v:=p.2)
  show(mergeK (mS kvs p.1 p.2) r).length<=kvs.length+(r.length+1)
  omega
section
variable {X:Cx}{pins:List (af×Obj)}{σ:St}{H:Hp}{s:au}{a b:af}{kvs ms:List (List Key×V)}{A:d8}{E:ag->au->Prop}
theorem OP (hu:A.units+1<fe) (I:Inv X pins σ H s) (ea:H a=xa (.dT kvs)) (eb:H b=xa (.dT ms)) (hne:a≠b) (hl:kvs.length+ms.length<=sizeLine) (hh:fA (ms.map (·.1))=true)
  (h:∀ s',Inv X pins σ (upd H a (.dT (mergeK kvs ms))) s'->Q .none s'):az (model X.prog X.w) A (call (.builtin "dict.update") [.ref a,.ref b]) Q E s:=by
 obtain⟨z,hd,xs,rel,dd⟩:=Iz I.hok ea;obtain⟨z2,hd2,ys,rel2,dd2⟩:=Iz I.hok eb;have lx:kvs.length=xs.length:=jc rel;have ly:ms.length=ys.length:=jc rel2;have keys:ms.map (·.1)=ys.map (·.1):=by
  clear dd2 ly z2 hl hh eb h
  induction rel2 with
  |nil=>rfl
  |cons h t ih=>rw[bg,bg,ih,h.1]
 rw[keys] at hh;refine va rg dd.typeIs PySem.F.entry_dict_update (PySem.F.args_dict_update_2 _ _) (DJ a b hne hd2) ⟨hu,xs,ys,dd,dd2,by omega,fun i j x y h1 h2 e=> ?_,fun h' dd' hs=>h _ ?_⟩
 ·exact tF hh i j x.1 y.1 (by rw[ax,h1];rfl) (by rw[ax,h2];rfl) e
 ·obtain⟨q,es,ep,hq,h2,h3,h4,_,h5⟩:=dd';refine qH I (by rw[ea];exact ij) hs ⟨q,hq⟩ ⟨ci sT hl,hd,_,KT.keeps (KT.merge rel2 rel) fun c ws ec=> ?_,q,es,ep,hq,h2,h3,h4,h5⟩;rw[aF (KW ec ea (fun z=>nomatch z))];exact ec
def MF:V->List V->Hp->VK->Prop:=fun x xs H Q=>∃ a b kvs ms,x=.ref a/\xs=[.ref b]/\H a=xa (.dT kvs)/\H b=xa (.dT ms)/\a≠b/\kvs.length+ms.length<=sizeLine/\fA (ms.map (·.1))=true/\Q .non (upd H a (.dT (mergeK kvs ms)))
theorem KY (hu:X.A.units+1<fe):MtR X "dict.update" MF:=by
 intro pins s σ H x xs v us Q I rx rs h;obtain⟨a,b,kvs,ms,rfl,rfl,ha,hb,hne,hl,hh,q⟩:=h;obtain⟨u,rfl,ru⟩:=mG rs;cases rx;cases ru;exact OP hu I ha hb hne hl hh fun s' I'=>⟨.non,_,I',rfl,q⟩
end
section
variable {X:Cx}{cls exC:Nat->af}{E:XE}{e a b c o i value:bw}{es rest:List bw}{fa fb fc fo fi fv:OG D}{fl:OG (List D)}{ft ft':OG Bool}{pos p apos pos' cpos:Pos}{x m:Str}{st:cz}
noncomputable def Fp (ω:Om) (d:D) (as:List D):Option (D×Om):=match d,as with
 |.obj n,[.obj m]=>match ω[n]?,ω[m]? with
  |some (.dt kvs),xa (.dt ms)=>if n≠m/\kvs.length+ms.length<=sizeLine/\fA (ms.map (·.1))=true then xa (.non,ω.set n (.dt (iX kvs ms))) else xb
  |_,_=>xb
 |_,_=>xb
theorem Ig {K:aa}:Gv cls K MF Fp:=fun ok H ω x xs a as d ω' Q h1 st ra rs e k=>by
 unfold Fp at e;split at e
 ·rename_i n m
  split at e
  ·rename_i kvs ms hc hc2
   obtain⟨⟨hnm,hl,hh⟩,e3⟩:=bP e;cases e3;obtain⟨a1,rfl,e4,vs,e5,kv⟩:=st.ref ra hc;obtain⟨w,rfl,rw'⟩:=rs.one_inv;obtain⟨b1,rfl,e6,us,e7,kv2⟩:=st.ref rw' hc2;refine⟨a1,b1,vs,us,rfl,rfl,e5,e7,fun z=>hnm (st.inj n m a1 e4 (z ▸ e6)),by rw[kv.length,kv2.length];exact hl,by rw[kv2.keys];exact hh,?_⟩;have nw:=Nw.write (o:=.dT (mergeK vs us)) (ob:=.dt (iX kvs ms)) h1 st e4 e5 fun dat=>⟨_,aP,(kv2.mergeR kv).mono dat fun _ _ z=>z⟩;exact k _ ok _ nw .non
  ·cases e
 ·cases e
theorem Kz (hu:X.A.units+1<fe) (ho:OE X cls E o fo) (ha:OA X cls E [e] fl) (hbase:ig o "update" X.env (eval o X.env)=eval o X.env:=by rfl)
  (hfew:((dw cpos (ay [e] X.env)).all (fun x=> !x.1)&&(j5 cpos (ir [] X.env)).all (fun x=>x.1.isSome)
   &&decide ([e].length+([]:List kj).length+(if([]:List kj).isEmpty then 0 else 1)<30))=true:=by rfl)
  (hline:(apos.endLine==cpos.line)=true:=by rfl) (hs:ay [e] X.env=(false,eval e X.env)::ay [] X.env:=by rfl) (hplain:(dw cpos (ay [] X.env)).any (·.1)=false:=by rfl):
  OE X cls E (.Call (.Attribute o "update" apos) [e] [] cpos) (pE Fp fo fl):=NP rg PySem.F.type_dict_update (KY hu) Ig ho ha hbase hfew hline hs hplain
end
end L2.MB
end
section
namespace L2.MB
theorem _root_.L2.Inv.movedN (I:Inv X pins σ H s) (k:∀ b o,b≠X.env.locals->s.heap.get? b=xa o->h'.get? b=xa o) (ns:∀ m,s.heap.Ns X.env.locals m->h'.Ns X.env.locals m)
  (old:∀ b o,s.heap.get? b=xa o->H' b=H b) (sub:∀ b u,H b=xa u->H' b=xa u) (hok:HOk X.prog X.w H' h'):Inv X pins σ H' { s with heap:=h',toks:=t' }:=by
 obtain⟨m,hn,lk⟩:=I.loc;obtain⟨oL,esL,epL,hoL,hdL,rL⟩:=id hn;have nl:∀ {b:af}{o:Obj},X.s₀.heap.get? b=xa o->b≠X.env.locals:=fun e z=>absurd (bp e) (by rw[z];exact ub.mpr I.ok.above);have nc:∀ {c:af}{v:Option ag}{o:Obj},s.heap.get? c=xa o->o.data=.cell v->c≠X.env.locals:=fun {c v o} e1 e2 z=>by
  rw[z,hoL] at e1;cases e1;rw[hdL] at e2;cases e2
 have th:∀ b o,s.heap.get? b=xa o->H b=xb->H' b=xb:=fun b o e n=>(old b o e).trans n;refine⟨I.ok,I.os,I.bare,⟨fun b o e n hb hx=>k b o (nl e) (I.base.keep b o e n hb hx),fun b o e n hb hx=> ?_,fun b o e n hx=> ?_,fun b o e hx=> ?_,fun b xs e=>sub _ _ (I.base.tups b xs e),fun b u v e=>sub _ _ (I.base.frzs b u v e),fun b ps e=> ?_⟩,⟨m,ns m hn,fun i x v e1 e2 e3=> ?_⟩,fun x c e=> ?_,th _ _ hoL I.free,fun x c e=> ?_,fun p hp=> ?_,hok,I.len⟩
 ·obtain⟨sl,z⟩:=I.base.slot b o e n hb hx;exact⟨sl,k b _ (nl e) z⟩
 ·obtain⟨o',z⟩:=I.base.there b o e hx;exact th b o' z (I.base.free b o e n hx)
 ·obtain⟨o',z⟩:=I.base.there b o e hx;exact⟨o',k b o' (nl e) z⟩
 ·obtain⟨m,z⟩:=I.base.tbls b ps e;exact⟨m,sub _ _ z⟩
 ·obtain⟨u,ru,z⟩:=lk i x v e1 e2 e3;refine⟨u,ru,?_⟩;rcases z with z|⟨q,c,e,oc,w1,w2⟩
  ·exact .inl z
  ·exact .inr ⟨q,c,e,oc,k c oc (nc w1 w2) w1,w2⟩
 ·obtain⟨v,oc,w1,w2⟩:=I.cell x c e;exact⟨v,oc,k c oc (nc w1 w2) w1,w2⟩
 ·obtain⟨v,oc,w1,w2⟩:=I.cell x c e;exact th c oc w1 (I.freeC x c e)
 ·obtain⟨z1,z2,z3,z4⟩:=I.pin p hp;exact⟨k p.1 p.2 z3 z1,th _ _ z1 z2,z3,z4⟩
theorem _root_.L2.Inv.moved (I:Inv X pins σ H s) (k:∀ b o,b≠X.env.locals->s.heap.get? b=xa o->h'.get? b=xa o) (ns:∀ m,s.heap.Ns X.env.locals m->h'.Ns X.env.locals m):Inv X pins σ H { s with heap:=h',toks:=t' }:=
 I.movedN k ns (fun _ _ _=>rfl) (fun _ _ e=>e) fun b u e=>by
  have nl:∀ {c:af}{o:HO},H c=xa o->c≠X.env.locals:=fun e z=>by rw[z,I.free] at e;cases e
  refine(I.hok b u e).stay (fun c v hc q=> ?_) (fun _ q=>q) fun _ _ q=>q;rcases hc with rfl|hc
  ·exact k c v (nl e) q
  ·exact k c v (nl hc) q
noncomputable def Qo:List Int->List Int->Bool:=HT.lexLt
noncomputable def HP:List D->Option (List Int)
 |[]=>xa []
 |.int i::r=>(HP r).map fun is=>i::is
 |_::_=>xb
noncomputable def eZ (a b:D):Option Bool:=match a,b with
 |.int i,.int j=>xa (decide (i<j))
 |.str x,.str y=>xa (decide (x.cps.toList<y.cps.toList))
 |.tup xs,.tup ys=>(HP xs).bind fun is=>(HP ys).map fun js=>Qo is js
 |_,_=>xb
noncomputable def Pe (n:Nat):List D->List D->Bool->Option Bool
 |a::r,b::r',fin=>match eqD n a b with
  |some true=>Pe n r r' fin
  |some false=>eZ a b
  |none=>xb
 |_,_,fin=>xa fin
noncomputable def JI {α:Type} (lt:Nat->Nat->Option Bool):wy α->Option α
 |.ret a=>xa a
 |.ask i j k=>(lt i j).bind fun c=>JI lt (k c)
theorem Eb (hc:∀ i j c C,lt i j=xa c->C c s->cmp i j C s):∀ {t:wy α}{a:α},JI lt t=xa a->Q a s->PySem.W.KasT.kasWp cmp t Q s
 |.ret b,a,h,q=>by
  rw[PySem.W.KasT.kasWp.eq_1];cases h;exact q
 |.ask i j k,a,h,q=>by
  rw[PySem.W.KasT.kasWp.eq_2];obtain⟨c,e1,e2⟩:=aQ (show(lt i j).bind _=_ from h);exact hc i j c _ e1 (Eb hc e2 q)
noncomputable def cO (n:Nat) (a b:D):Option Bool:=match a,b with
 |.tup xs,.tup ys=>Pe n xs ys (decide (xs.length<ys.length))
 |_,_=>xb
noncomputable def kP:D->Option Bool
 |.tup (.int _::_)=>xa true
 |.tup (.str _::_)=>xa false
 |_=>xb
noncomputable def gX (ds:List D):Bool:=ds.all (fun d=>kP d==xa true)||ds.all (fun d=>kP d==xa false)
noncomputable def dF (n:Nat) (ds:List D):Option (List D):=if ds.length<2 then xa ds else if ds.length<64/\gX ds=true then
 (JI (fun i j=>cO n (ds.getD i .non) (ds.getD j .non)) (PySem.W.kas_sort ds.length)).bind fun p=>if p.toList.length<=64 then xa (p.toList.map fun i=>ds.getD i .non) else xb else xb
section
variable {X:Cx}{pins:List (af×Obj)}{σ:St}{H:Hp}{s:au}{ok:Okk}{A:d8}{E:ag->au->Prop}
theorem Fb {K:aa}:∀ {ds:List D}{is:List Int}{xs:List V}{us:List ag},HP ds=xa is->Reps K ok H xs ds->Vals xs us->km us is:=by
 intro ds
 induction ds with
 |nil=>intro is xs us h r v;cases h;cases r;cases v;exact .nil
 |cons d ds ih=>
  intro is xs us h r v;cases r with|cons rr rs=>
  cases v with|cons v vs=>
  cases d with
  |int i=>
   obtain⟨js,e,rfl⟩:=aI h;obtain rfl:=rr.int_inv;obtain⟨t,rfl⟩:=v;exact .cons _ _ (ih e rs vs)
  |_=>cases h
theorem Li (I:Inv X pins σ H s) (f:Bool) (hf:f=true->kP (.tup [a])≠xb/\kP (.tup [b])≠xb) (ra:Rep X.K ok H x a) (rb:Rep X.K ok H y b) (rv:RelV x v) (ru:RelV y u) (e:eZ a b=xa k) (hu:A.units<fe) (q:Q k s):
  az (model X.prog X.w) A (oneLt' f v u) Q E s:=by
 unfold eZ at e;split at e
 ·cases e;obtain rfl:=ra.int_inv;obtain rfl:=rb.int_inv;obtain⟨t,rfl⟩:=rv;obtain⟨t',rfl⟩:=ru;cases f with
  |true=>exact PySem.W.kat_lt_int q
  |false=>exact sg _ _ (vz q)
 ·cases e;obtain rfl:=ra.str_inv;obtain rfl:=rb.str_inv;obtain⟨t,rfl⟩:=rv;obtain⟨t',rfl⟩:=ru;cases f with
  |true=>exact PySem.W.kas_lt_str q
  |false=>exact sg _ _ (lt_str q)
 ·obtain⟨is,e1,e⟩:=aQ e;obtain⟨js,e2,rfl⟩:=aI e;cases f with
  |true=>exact absurd rfl (hf rfl).1
  |false=>
   obtain⟨p,xs,rfl,g,rs⟩:=ra.tup_inv;obtain⟨p',xs',rfl,g',rs'⟩:=rb.tup_inv;cases rv;cases ru;obtain⟨its,rr,pl,_⟩:=I.tuple g.sq;obtain⟨its',rr',pl',_⟩:=I.tuple g'.sq;exact sg _ _ (HT.lt_tupInts pl pl' (by simpa using Fb e1 rs rr) (by simpa using Fb e2 rs' rr') hu q)
 ·cases e
theorem Oa (I:Inv X pins σ H s) (hu:A.units+n<fe) (q:Q k s):∀ {as bs:List D}{xs ys:List V}{vs us:List ag} (i:Nat),(i=0->kP (.tup as)≠xb/\kP (.tup bs)≠xb)->Reps X.K ok H xs as->Reps X.K ok H ys bs->Vals xs vs->Vals ys us->Pe n as bs fin=xa k->
  PySem.W.KatLex X.prog X.w A true fin Q (vs.zip us) i s:=by
 intro as
 induction as with
 |nil=>
  intro bs xs ys vs us i _ r1 r2 v1 v2 e;cases r1;cases v1;cases (show xa fin=xa k from e);exact wm q
 |cons a as ih=>
  intro bs xs ys vs us i hk r1 r2 v1 v2 e;cases r1 with|cons r1 rs1=>
  cases v1 with|cons w1 ws1=>
  cases r2 with
  |nil=>
  cases v2;cases (show xa fin=xa k from e);exact wm q
  |@cons _ b _ bs r2 rs2=>
  cases v2 with|cons w2 ws2=>
  refine PySem.W.kat_cons ?_;have e':(match eqD n a b with
   |some true=>Pe n as bs fin
   |some false=>eZ a b
   |none=>xb)=xa k:=e
  cases hq:eqD n a b with
  |none=>rw[hq] at e';cases e'
  |some c=>
   rw[hq] at e';refine yM I n r1 r2 w1 w2 hq hu X.prog X.w _ _ ?_;cases c with
   |true=>exact PySem.W.kat_yes (ih (i+1) (fun z=>absurd z (Nat.succ_ne_zero i)) rs1 rs2 ws1 ws2 e')
   |false=>
    refine PySem.W.kat_no ?_;refine Li I (true&&i==0) (fun hf=> ?_) r1 r2 w1 w2 e' (by omega) q;have hi:i=0:=by simpa using hf
    obtain⟨h1,h2⟩:=hk hi;constructor
    ·intro z;apply h1;cases a <;> first|rfl|cases z
    ·intro z;apply h2;cases b <;> first|rfl|cases z
theorem OV (I:Inv X pins σ H s) (hu:A.units+n<fe) (h1:kP a≠xb) (h2:kP b≠xb) (ra:Rep X.K ok H x a) (rb:Rep X.K ok H y b) (rv:RelV x v) (ru:RelV y u) (e:cO n a b=xa k) (q:Q k s):
  az (model X.prog X.w) A (keyLt' (tuples' true) v u) Q E s:=by
 unfold cO at e;split at e
 ·rename_i as bs
  obtain⟨p,xs,rfl,g,rs⟩:=ra.tup_inv;obtain⟨p',xs',rfl,g',rs'⟩:=rb.tup_inv;cases rv;cases ru;obtain⟨its,rr,⟨o,t1,t2,m,t3⟩,_⟩:=I.tuple g.sq;obtain⟨its',rr',⟨o',t1',t2',m',t3'⟩,_⟩:=I.tuple g'.sq;refine PySem.W.kat_lt t1 t3 t1' t3' ?_;have l1:its.toArray.size=as.length:=by rw[bi,<- rr.length,rs.length]
  have l2:its'.toArray.size=bs.length:=by rw[bi,<- rr'.length,rs'.length]
  rw[l1,l2];simpa using Oa I hu q 0 (fun _=>⟨h1,h2⟩) rs rs' rr rr' e
 ·cases e
theorem Vals.getD (r:Vals xs vs) (i:Nat):RelV (xs.getD i .non) (vs.getD i .none):=by
 rcases m7 i xs.length with h|h
 ·obtain⟨u,e,ru⟩:=r.get (i:=i) (x:=xs[i]) (by simp[h]);rw[av,av,e,bh h];exact ru
 ·rw[av,av,cu h,cu (by rw[<- r.length];exact h)];rfl
theorem Reps.getD {K:aa} (r:Reps K ok H xs ds) (i:Nat):Rep K ok H (xs.getD i .non) (ds.getD i .non):=by
 rcases m7 i ds.length with h|h
 ·obtain⟨v,e,rv⟩:=r.get (i:=i) (d:=ds[i]) (by simp[h]);rw[av,av,e,bh h];exact rv
 ·rw[av,av,cu h,cu (by rw[r.length];exact h)];exact .non
theorem Reps.pick {K:aa} (r:Reps K ok H xs ds):∀ is:List Nat,Reps K ok H (is.map fun i=>xs.getD i .non) (is.map fun i=>ds.getD i .non)
 |[]=>.nil
 |i::r'=>.cons (Reps.getD r i) (Reps.pick r r')
theorem Vals.pick (r:Vals xs vs):∀ is:List Nat,Vals (is.map fun i=>xs.getD i .non) (is.map fun i=>vs.getD i .none)
 |[]=>.nil
 |i::r'=>.cons (Vals.getD r i) (Vals.pick r r')
theorem FE (I:Inv X pins σ H s) (c:Bool):∀ {ds:List D}{xs:List V}{vs:List ag},ds.all (fun d=>kP d==xa c)=true->Reps X.K ok H xs ds->Vals xs vs->∃ fs,PySem.W.KatTups s.heap vs fs/\fs.length=ds.length/\∀ v∈fs,PySem.W.Looks (model X.prog X.w) s.heap (typeOf v) (.type (if c then "int" else "str")):=by
 intro ds
 induction ds with
 |nil=>intro xs vs _ r w;cases r;cases w;exact⟨[],by rw[PySem.W.KatTups.eq_1];trivial,rfl,fun v hv=>absurd hv (by simp)⟩
 |cons d ds ih=>
  intro xs vs h r w;cases r with|cons r rs=>
  cases w with|cons w ws=>
  rw[qe,br] at h;obtain⟨fs,h1,h2,h3⟩:=ih h.2 rs ws;have hd:kP d=xa c:=by simpa using h.1
  cases d with
  |tup as=>
   cases as with
   |nil=>cases hd
   |cons a as=>
    obtain⟨p,xs,rfl,g,rs'⟩:=r.tup_inv;cases w;cases rs' with
    |cons ra rs'=>
     obtain⟨its,rr,⟨o,t1,t2,m,t3⟩,_⟩:=I.tuple g.sq;cases rr with
     |cons wa rr=>
      rename_i u us
      refine⟨u::fs,?_,by simp[h2],fun v hv=> ?_⟩
      ·rw[PySem.W.KatTups.eq_2];exact⟨⟨p,o,_,m,rfl,t1,t2,t3,by simp⟩,h1⟩
      ·rcases aj.mp hv with rfl|hv
       ·cases a with
        |int i=>
         cases hd;obtain rfl:=ra.int_inv;obtain⟨t,rfl⟩:=wa;intro A Q E s' _ q;exact ar q
        |str i=>
         cases hd;obtain rfl:=ra.str_inv;obtain⟨t,rfl⟩:=wa;intro A Q E s' _ q;exact ar q
        |_=>cases hd
       ·exact h3 v hv
  |_=>cases hd
end
noncomputable def xM (h h0:c9) (L a:af):List (af×Obj):=(bj h.objs.size).filterMap fun b=>if b=L∨b=a∨(h0.get? b).isSome=true then xb else(h.get? b).map fun o=>(b,o)
theorem CM (e:h.get? b=xa o) (h1:b≠L) (h2:b≠a) (h3:h0.get? b=xb):(b,o)∈xM h h0 L a:=by
 unfold xM;refine g7.mpr ⟨b,df.mpr (bp e),?_⟩;rw[if_neg (by simp[h1,h2,h3]),e];rfl
theorem pD (hp:p∈xM h h0 L a):h.get? p.1=xa p.2/\p.1≠L/\p.1≠a/\h0.get? p.1=xb:=by
 obtain⟨b,_,e⟩:=g7.mp hp
 by_cases hc:b=L∨b=a∨(h0.get? b).isSome=true
 ·rw[if_pos hc] at e;cases e
 ·rw[if_neg hc] at e;obtain⟨o,e1,e2⟩:=aI e;subst e2;refine⟨e1,fun z=>hc (.inl z),fun z=>hc (.inr (.inl z)),?_⟩;cases q:h0.get? b with
  |none=>rfl
  |some u=>exact absurd (.inr (.inr (by rw[q];rfl))) hc
theorem NZ {h:c9} (h1:h.Ns a m) (h2:h.Ns a m'):m=m':=by
 obtain⟨o,es,ep,e1,e2,_,e3⟩:=h1;obtain⟨o',es',ep',g1,g2,_,g3⟩:=h2;rw[e1] at g1;cases g1;rw[e2] at g2;cases g2
 funext x
 rw[<- e3,g3]
theorem Es:∀ {us:List ag},xs.length=us.length->(∀(j:Nat) x v,xs[j]?=xa x->us[j]?=xa v->RelV x v)->Vals xs us:=by
 induction xs with
 |nil=>
  intro us h _;cases us with
  |nil=>exact .nil
  |cons _ _=>cases h
 |cons x r ih=>
  intro us h g;cases us with
  |nil=>cases h
  |cons u us=>exact .cons (g 0 x u rfl rfl) (ih (by simpa using h) fun j y v e1 e2=>g (j+1) y v (by simpa using e1) (by simpa using e2))
section
variable {X:Cx}{pins:List (af×Obj)}{σ:St}{H:Hp}{s:au}{ok:Okk}{A:d8}{E:ag->au->Prop}
theorem Lf (hk:gX ds=true) (e:cO n (ds.getD i .non) (ds.getD j .non)=xa c):kP (ds.getD i .non)≠xb/\kP (ds.getD j .non)≠xb:=by
 have inr:∀ i,ds.getD i .non≠ .non->kP (ds.getD i .non)≠xb:=fun i hi=>by
  have hlt:i<ds.length:=by
   rcases m7 i ds.length with h|h
   ·exact h
   ·rw[av,cu h] at hi;exact absurd rfl hi
  have hm:ds.getD i .non∈ds:=by
   rw[av,bh hlt];exact i5 hlt
  unfold gX at hk;rw[ib] at hk;rcases hk with hk|hk
  ·have:=du.mp hk _ hm
   intro z;rw[z] at this;cases this
  ·have:=du.mp hk _ hm
   intro z;rw[z] at this;cases this
 refine⟨inr i fun z=> ?_,inr j fun z=> ?_⟩
 ·rw[z] at e;cases e
 ·rw[z] at e;unfold cO at e;split at e
  ·rename_i h2
   cases h2
  ·cases e
theorem oS (I:Inv X pins σ H s) (col:∀ {R:List ag->au->Prop},(∀(h':c9) (tk:Nat) (acc:Array ag),(∀ b o,s.heap.get? b=xa o->h'.get? b=xa o)->ItemsOf P acc n->R acc.toList { s with heap:=h',toks:=tk })->az (model X.prog X.w) A.in1 (collect (.ref r)) R E s) (hn2:2<=n) (hn:n<64) (hu:A.units+(m+2)<fe)
  (hx:xs.length=n) (hP:∀(j:Nat) v x,P j v->xs[j]?=xa x->RelV x v) (rs:Reps X.K ok H xs ds) (hs:dF m ds=xa out)
  (h:∀(h':c9) (tk:Nat) (ys:List V) (l:af),H l=xb->Inv X pins σ (upd H l (.lst ys)) { s with heap:=h',toks:=tk }->Reps X.K ok H ys out->Q (.ref l) { s with heap:=h',toks:=tk }):
  az (model X.prog X.w) A (call (.builtin "sorted") [.ref r]) Q E s:=by
 have hl':ds.length=n:=by rw[<- rs.length];exact hx
 unfold dF at hs;rw[if_neg (by omega)] at hs;obtain⟨⟨_,hk⟩,hs⟩:=cS hs;obtain⟨p,hrun,hs⟩:=aQ hs;obtain⟨hpl,hs⟩:=bP hs;refine qo kind_sorted plain_sorted entry_sorted (args_sorted1 _) ?_;unfold Builtin.«sorted»;refine ae (m:=checkCount "sorted" 1 1 _) (ar (ae (col fun h1 tk acc kp it=> ?_)));have hl:acc.toList.length=n:=by rw[ff];exact it.1
 refine ae (ul ?_ (by rw[hl,bv];omega));have o1:(h1.push (hW "list" acc.toList.toArray 0)).get? h1.objs.size=xa (hW "list" acc.toList.toArray 0):=b0 _ rfl;have nw:s.heap.get? h1.objs.size=xb:=by
  cases q:s.heap.get? h1.objs.size with
  |none=>rfl
  |some u=>exact absurd (bp (kp _ _ q)) (gv _)
 have hH:H h1.objs.size=xb:=by
  cases q:H h1.objs.size with
  |none=>rfl
  |some u=>
   obtain⟨v,w⟩:=HOk.obj I.hok q;rw[nw] at w;cases w
 obtain⟨mL,hnL,_⟩:=I.loc;have kp2:∀ b o,s.heap.get? b=xa o->(h1.push (hW "list" acc.toList.toArray 0)).get? b=xa o:=fun b o e=>bc _ (kp b o e);have fr:Fr X.base X.env.locals (h1.push (hW "list" acc.toList.toArray 0)) mL:=⟨hnL.keeps kp2,fun b o e=>kp2 b o (I.bk b o e),ci I.ok.bsz I.ok.above⟩;have aL:h1.objs.size≠X.env.locals:=fun z=>by
  obtain⟨oL,_,_,hoL,_⟩:=id hnL;rw[<- z,nw] at hoL;cases hoL
 have hb0:X.base.get? h1.objs.size=xb:=by
  cases q:X.base.get? h1.objs.size with
  |none=>rfl
  |some u=>
   have:=I.bk _ _ q
   rw[nw] at this;cases this
 have rv:Vals xs acc.toList:=by
  refine Es (by rw[hx,hl]) fun j x v e1 e2=> ?_;exact hP j v x (it.2 j v (by rw[<- ic];exact e2)) e1
 refine ae (iz (ie slot_list_sort ⟨_,o1,rfl⟩ entry_list_sort (PySem.W.kat_list_sort (s:={ s with heap:=h1.push (hW "list" acc.toList.toArray 0),toks:=tk }) (news:=xM (h1.push (hW "list" acc.toList.toArray 0)) X.base X.env.locals h1.objs.size) fr (fun q hq=>let ⟨z1,z2,z3,z4⟩:=pD hq;⟨z1,z2,z4⟩) o1 aL hb0 (fun q hq=>(pD hq).2.2.1) (by rw[hl];exact hn2) (by rw[hl];exact hn) fun e1 h' fr' nw'=> ?_) (args_list_sort _)))
 -- the state in its midst
 have keep:∀ {h':c9},Fr X.base X.env.locals h' mL->News X.base X.env.locals h' (xM (h1.push (hW "list" acc.toList.toArray 0)) X.base X.env.locals h1.objs.size)->∀ b o,b≠X.env.locals->s.heap.get? b=xa o->h'.get? b=xa o:=fun {h'} fr' nw' b o hb e=>by
  have hne:b≠h1.objs.size:=fun z=>by rw[z,nw] at e;cases e
  cases q:X.base.get? b with
  |some u=>
   have:=I.bk b u q
   rw[e] at this;cases this;exact fr'.keep b _ q
  |none=>exact(nw' _ (CM (kp2 b o e) hb hne q)).1
 have nsk:∀ {h':c9},Fr X.base X.env.locals h' mL->∀ m,s.heap.Ns X.env.locals m->h'.Ns X.env.locals m:=fun {h'} fr' m hm=>by
  rw[NZ hm hnL];exact fr'.ns
 have I1:Inv X pins σ H { s with heap:=h',toks:=tk }:=I.moved (keep fr' fun q hq=>nw' q (ai _ hq)) (nsk fr');have hka:∃ c:Bool,ds.all (fun d=>kP d==xa c)=true:=by
  unfold gX at hk;rw[ib] at hk;rcases hk with hk|hk
  ·exact⟨true,hk⟩
  ·exact⟨false,hk⟩
 obtain⟨c,hka⟩:=hka;obtain⟨fs,f1,f2,f3⟩:=FE I1 c hka rs rv;refine PySem.W.kat_kind f1 (by rw[f2];omega) f3 (by cases c <;> rfl) ?_;have hT:((lq (if c=true then "int" else "str")) !=lq "tuple")=true:=by cases c <;> rfl
 rw[hT,hl,<- hl'];refine Eb (fun i j c C e q=> ?_) hrun ?_
 ·obtain⟨k1,k2⟩:=Lf hk e;exact OV I1 (eU (eU hu)) k1 k2 (Reps.getD rs i) (Reps.getD rs j) (Vals.getD rv i) (Vals.getD rv j) e q
 ·refine⟨_,_,fr',nw',.head (fun q hq=>(pD hq).2.2.1),fun h2 cc fr2 nw2=>⟨_,rfl,?_⟩⟩;have na2:h2.get? h1.objs.size=xa (PySem.W.listOf (List.map (fun i=>acc.toList.getD i ii) p.toList).toArray cc):=(nw2 _ aq).1;have I2:Inv X pins σ (upd H h1.objs.size (.lst (p.toList.map fun i=>xs.getD i .non))) { s with heap:=h2,toks:=tk }:=by
   have kk:=keep fr2 fun q hq=>nw2 q (ai _ hq);refine I.movedN kk (nsk fr2) (fun b o e=> ?_) (fun b u e=> ?_) fun b u e=> ?_
   ·rw[aF (fun z=>by rw[z,nw] at e;cases e)]
   ·rw[aF (aM e hH)];exact e
   ·by_cases hb:b=h1.objs.size
    ·subst hb;rw[aP] at e;cases e;refine⟨?_,_,cc,Vals.pick rv p.toList,na2⟩;rw[am,bv];omega
    ·rw[aF hb] at e;have nl:∀ {c:af}{o:HO},H c=xa o->c≠X.env.locals:=fun e z=>by rw[z,I.free] at e;cases e
     refine(I.hok b u e).stay (fun c v hc q=> ?_) (fun c q=>by rw[aF (aM q hH)];exact q) fun c xs q=>by rw[aF (aM q hH)];exact q
     rcases hc with rfl|hc
     ·exact kk c v (nl e) q
     ·exact kk c v (nl hc) q
  cases hs;exact ar ⟨_,rfl,h h2 tk _ _ hH I2 (Reps.pick rs p.toList)⟩
theorem oO (I:Inv X pins σ H s) (K:p0 X.prog X.w T r d n P OK) (hh:A.handled=xb) (hok:OK s.heap) (hn2:2<=n) (hn:n<64) (hu:A.units+(m+2)<fe)
  (hx:xs.length=n) (hP:∀(j:Nat) v x,P j v->xs[j]?=xa x->RelV x v) (rs:Reps X.K ok H xs ds) (hs:dF m ds=xa out)
  (h:∀(h':c9) (tk:Nat) (ys:List V) (l:af),H l=xb->Inv X pins σ (upd H l (.lst ys)) { s with heap:=h',toks:=tk }->Reps X.K ok H ys out->Q (.ref l) { s with heap:=h',toks:=tk }):
  az (model X.prog X.w) A (call (.builtin "sorted") [.ref r]) Q E s:=
 oS I (fun h=>uo (A:=A.in1) K hh hok (by rw[bv];omega) h) hn2 hn hu hx hP rs hs h
end
section
variable {X:Cx}{cls exC:Nat->af}{E:XE}{e a b c o i value:bw}{es rest:List bw}{fa fb fc fo fi fv:OG D}{fl:OG (List D)}{ft ft':OG Bool}{pos p apos pos' cpos:Pos}{x m:Str}{st:cz}
def PK (K:aa) (n:Nat):List V->Hp->VK->Prop:=fun xs H Q=>∃ v d kvs ds out ok,xs=[.ref v]/\H v=xa (Mi v d)/\H d=xa (.dT kvs)/\Reps K ok H (kvs.map (·.2)) ds/\dF n ds=xa out/\∀ l ys,H l=xb->Reps K ok H ys out->Q (.ref l) (upd H l (.lst ys))
theorem oW (h:dF n ds=xa out) (hl:ds.length<2):out=ds:=by
 unfold dF at h;rw[if_pos hl] at h;cases h;rfl
theorem oV (h:dF n ds=xa out) (hl:¬ ds.length<2):ds.length<64:=by
 unfold dF at h;rw[if_neg hl] at h;exact(cS h).1.1
theorem Gc (hc:X.calm=true) (hu:X.A.units+(n+2)<fe):CallR X (.builtin "sorted") (PK X.K n):=by
 intro pins s σ H xs us Q I r h;obtain⟨v,d,kvs,ds,out,ok,rfl,hv,hd,rs,hs,q⟩:=h;have hlen:ds.length=kvs.length:=by rw[<- rs.length,am]
 by_cases hl:ds.length<2
 ·obtain rfl:=oW hs hl;exact yY hc pins s σ H _ us Q I r ⟨v,d,kvs,rfl,hv,hd,by omega,fun l nl=>q l _ nl rs⟩
 ·obtain⟨u,rfl,rx⟩:=mG r;cases rx;obtain⟨lo,hz,es,ep,rd,sz,it⟩:=qN I (.inl hd);have vw:s.heap.IsValuesView v d:=(show ObjOk X.prog X.w H s.heap v (Mi v d) from I.hok v _ hv).1;have h64:=oV hs hl;refine oO I (sK (d:=d) (es:=es) (ep:=ep)) (I.ok.hd hc) ⟨vw,rd⟩ (by omega) (by omega) hu (by rw[am,sz]) (fun j v x hp hx=> ?_) rs hs fun h' tk ys l nl I' rs'=>⟨.ref l,_,I',rfl,q l ys nl rs'⟩;obtain⟨y,y1,y2⟩:=hp;obtain⟨p,p1,p2,_⟩:=it j y y1;rw[ax,p1] at hx;cases hx;rw[y2];exact p2
noncomputable def Fs (n:Nat) (ω:Om) (d:D):Option D:=match cellOf ω d with
 |some (.dt kvs)=>(dF n (kvs.map (·.2))).map D.lst
 |_=>xb
noncomputable def Ht (n:Nat) (f:OG D):OG D:=oB f fun d _ ω=>oR (pu (Fs n ω d) ω)
theorem KA (hu:X.A.units+(n+2)<fe) (hc:X.calm=true) (hg:Gl X "sorted") (hm:X.mg "sorted"=xb) (ho:OE X cls E o fo) (hbase:ig o "values" X.env (eval o X.env)=eval o X.env:=by rfl) (hline:(ap.endLine==cp.line)=true:=by rfl)
  (he:ay [.Call (.Attribute o "values" ap) [] [] cp] X.env=(false,eval (.Call (.Attribute o "values" ap) [] [] cp) X.env)::ay [] X.env:=by rfl) (hpl:(dw pos (ay [] X.env)).any (·.1)=false:=by rfl):
  OE X cls E (.Call (.Name "sorted" p) [.Call (.Attribute o "values" ap) [] [] cp] [] pos) (Ht n fo):=
 (uO (Gc hc hu) hg hm boot.sorted (pA (Nc rj rc PySem.F.type_dict_values EM ho hbase hline) Bz he) (by decide) (by decide) he hpl).imp fun σ H Q ⟨ok,ρ,ω,r,ω',P,e,q⟩=>by
  refine tO.then_ P e (fun c z=>by subst z;exact q) fun d ω1 v ok1 H1 e1 n1 P1 r1=> ?_;obtain⟨y,e3,rfl⟩:=cN e1;obtain⟨ue3,rfl⟩:=cR e3;unfold Fs at ue3;split at ue3
  ·rename_i kvs hcell
   obtain⟨k,rfl,e4⟩:=dQ hcell;obtain⟨out,e5,rfl⟩:=aI ue3;obtain⟨a,rfl,e6,vs,e7,kv⟩:=P1.st.ref r1 e4;refine⟨.inr (.inr (.inl ⟨rfl,.inr ⟨vs,e7⟩⟩)),a,vs,rfl,rfl,e7,fun w nw=> ?_⟩;have hne:a≠w:=aM e7 nw;have s2:=cK (o:=Mi w a) nw;refine⟨w,a,vs,_,out,ok1,rfl,aP,by rw[aF hne];exact e7,kv.vals.same s2,e5,fun l ys nl rs=> ?_⟩;have s3:=cK (o:=.lst ys) nl;exact q _ ok1 _ (n1.trans (.same P1.okh P1.st (s2.trans s3))) (.lst_new (P1.okh l (s2.free nl)) nl rs)
  ·cases ue3
def MH (K:aa) (n:Nat):List V->Hp->VK->Prop:=fun xs H Q=>∃ d kvs out ok,xs=[.ref d]/\H d=xa (.dT kvs)/\OkH ok H/\dF n (kvs.map fun p=>bC p.1)=xa out/\∀ l ys,H l=xb->Reps K ok H ys out->Q (.ref l) (upd H l (.lst ys))
theorem xT {K:aa} (hok:OkH ok H):∀ {kvs:List (List Key×V)}{as:List af},as.length=kvs.length->(∀(j:Nat) p a,kvs[j]?=xa p->as[j]?=xa a->H a=xa (.tup (p.1.map kV)))->Reps K ok H (as.map V.ref) (kvs.map fun p=>bC p.1)
 |[],[],_,_=>.nil
 |p::kvs,a::as,hl,h=>by
  refine .cons ?_ (xT hok (by simpa using hl) fun j q b e1 e2=>h (j+1) q b (by simpa using e1) (by simpa using e2))
  have:=h 0 p a rfl rfl
  exact .tup ⟨hok.tp a _ this,this⟩ (Al p.1)
 |[],_::_,hl,_=>by cases hl
 |_::_,[],hl,_=>by cases hl
theorem Ge (hc:X.calm=true) (hu:X.A.units+(n+2)<fe):CallR X (.builtin "sorted") (MH X.K n):=by
 intro pins s σ H xs us Q I r h;obtain⟨d,kvs,out,ok,rfl,hd,hok,hs,q⟩:=h;obtain⟨u,rfl,rx⟩:=mG r;cases rx;obtain⟨lo,hz,es,ep,rd,sz,it⟩:=qN I (.inl hd)
 -- the keys' addresses
 have hex:∀ j,j<es.size->∃ a,∃ y p,es[j]?=xa y/\kvs[j]?=xa p/\y.key=.ref a/\H a=xa (.tup (p.1.map kV)):=fun j hj=>by
  obtain⟨p,p1,_,a,p2,p3⟩:=it j es[j] (by simp[hj]);exact⟨a,_,p,by simp[hj],p1,p2,p3⟩
 have hass:∃ as:List af,as.length=kvs.length/\∀(j:Nat) a,as[j]?=xa a->∃ y p,es[j]?=xa y/\kvs[j]?=xa p/\y.key=.ref a/\H a=xa (.tup (p.1.map kV)):=by
  refine⟨(bj es.size).map fun j=>if hj:j<es.size then(hex j hj).choose else 0,by simp[sz],fun j a ha=> ?_⟩;rw[ax] at ha;obtain⟨j',e1,e2⟩:=aI ha;have hj0:j<es.size:=by
   rcases m7 j es.size with z|z
   ·exact z
   ·rw[cu (by simpa using z)] at e1;cases e1
  have hj:j<es.size/\j'=j:=by
   rw[di hj0] at e1;cases e1;exact⟨hj0,rfl⟩
  obtain⟨hj,rfl⟩:=hj;rw[dif_pos hj] at e2;rw[<- e2];exact(hex _ hj).choose_spec
 obtain⟨as,al,ah⟩:=hass;have rs:Reps X.K ok H (as.map V.ref) (kvs.map fun p=>bC p.1):=xT hok al fun j p a e1 e2=>by
  obtain⟨y,p',_,g2,_,g4⟩:=ah j a e2;rw[e1] at g2;cases g2;exact g4
 have hPP:∀(j:Nat) v x,(∃ e,es[j]?=xa e/\v=e.key)->(as.map V.ref)[j]?=xa x->RelV x v:=fun j v x ⟨e,e1,e2⟩ hx=>by
  rw[ax] at hx;obtain⟨a,a1,a2⟩:=aI hx;subst a2;obtain⟨y,p,g1,_,g3,_⟩:=ah j a a1;rw[e1] at g1;cases g1;rw[e2,g3];rfl
 by_cases hl:kvs.length<2
 ·obtain rfl:=oW hs (by simpa using hl);refine oQ (Bt (d:=d) (es:=es) (ep:=ep) lo) (I.ok.hd hc) rd (by rw[sz];exact hl) fun h' tk vs a c kp na hlen hP ha=> ?_;have rv:Vals (as.map V.ref) vs:=zQ (by rw[hlen,sz,am,al]) fun j w hw=>by
   have hj:j<as.length:=by
    have:=(bt.mp hw).1
    rw[al,<- sz,<- hlen];exact this
   exact⟨.ref as[j],by rw[ax,bh hj];rfl,hPP j w _ (hP j w hw) (by rw[ax,bh hj];rfl)⟩
  obtain⟨hn,I'⟩:=I.laidN (t':=tk) kp na (uW (H:=upd H a (.lst (as.map V.ref))) rv (by rw[am,al];exact hz) ha);exact⟨.ref a,_,I',rfl,q a _ hn rs⟩
 ·have h64:=oV hs (by simpa using hl);rw[am] at h64;exact oO I (Bt (d:=d) (es:=es) (ep:=ep) lo) (I.ok.hd hc) rd (by omega) (by omega) hu (by rw[am,al,sz]) hPP rs hs fun h' tk ys l nl I' rs'=>⟨.ref l,_,I',rfl,q l ys nl rs'⟩
noncomputable def Fu (n:Nat) (ω:Om) (ds:List D):Option (D×Om):=match ds with
 |[d]=>match cellOf ω d with
  |some (.dt kvs)=>(dF n (kvs.map fun p=>bC p.1)).map fun out=>(.lst out,ω)
  |_=>xb
 |_=>xb
theorem Ik {K:aa}:rH cls K (MH K n) (Fu n):=fun ok H ω xs as d ω' Q h1 st r e k=>by
 unfold Fu at e;split at e
 ·split at e
  ·rename_i kvs hcell
   obtain⟨out,e5,e6⟩:=aI e;cases e6;obtain⟨n,rfl,e1⟩:=dQ hcell;obtain⟨v,rfl,r1⟩:=r.one_inv;obtain⟨a,rfl,e6,vs,e7,kv⟩:=st.ref r1 e1;have hk:(vs.map fun p=>bC p.1)=kvs.map fun p=>bC p.1:=by
    have:=congrArg (List.map bC) kv.keys
    rw[fk,fk] at this;exact this
   refine⟨a,vs,out,ok,rfl,e7,h1,?_,fun l ys nl rs=>k _ ok _ (.same h1 st (cK nl)) (.lst_new (h1 l nl) nl rs)⟩;rw[hk];exact e5
  ·cases e
 ·cases e
end
section
variable {X:Cx}{cls exC:Nat->af}{E:XE}{e a b c o i o2 i2 value:bw}{es rest:List bw}{fa fb fc fo fi fo2 fi2 fv:OG D}{fl:OG (List D)}{ft ft':OG Bool}{pos p apos pos' pos2 tp cpos:Pos}{x m:Str}{st:cz}
theorem KR (ha:OE X cls E a fa) (hb:OE X cls E b fb):OE X cls E (.BinOp a .Add b pos) (MB.o2 (lf LB) fa fb):=uR CJ (Fit2.lift (fun ok H x y a b d Q h1 ra rb e k=>by
 cases a with
 |str u=>cases b with
  |str v=>
   obtain⟨hz,rfl⟩:=bP (show(if u.length+v.length<=sizeLine then xa (D.str (u++v)) else xb)=xa d from e);exact⟨u,v,ra.str_inv,rb.str_inv,hz,k _ H (Same.refl H) (.str _)⟩
  |_=>cases e
 |_=>cases e)) ha hb
theorem KE (ha:OE X cls E a fa) (hb:OE X cls E b fb):OE X cls E (.BinOp a .Mult b pos) (MB.o2 (lf LA) fa fb):=uR Kt (Fit2.lift (fun ok H x y a b d Q h1 ra rb e k=>by
 cases a with
 |str u=>cases b with
  |int v=>
   obtain⟨hz,rfl⟩:=bP (show(if 0<=v/\v<=100000/\u.length<=100 then xa (D.str (Pd u v)) else xb)=xa d from e);exact⟨u,v,ra.str_inv,rb.int_inv,hz,k _ H (Same.refl H) (.str _)⟩
  |_=>cases e
 |_=>cases e)) ha hb
noncomputable def eB (ω:Om) (d:D):D:=match fK ω d with
 |some ds=>.lst ds
 |none=>d
theorem gM {K:aa} (t:Stt cls K ok H ω) (r:Rep K ok H v d):Rep K ⟨fun _=>True,ok.al⟩ H v (eB ω d):=by
 unfold eB;cases hs:fK ω d with
 |some ds=>exact wW t r hs
 |none=>exact r.wide
noncomputable def jT (n:Nat) (ω:Om) (a b:D):Option (D×Om):=pu (gEq n (eB ω a) (eB ω b)) ω
noncomputable def Aw (n:Nat) (ω:Om) (a b:D):Option (D×Om):=pu (gNe n (eB ω a) (eB ω b)) ω
theorem LJ {K:aa}:wH cls K (QV K n) (jT n):=fun ok H ω x y a b d ω' Q h1 st ra rb e k=>by
 obtain⟨ue,rfl⟩:=cR e;obtain⟨c,e1,rfl⟩:=aI ue;exact⟨_,_,_,c,gM st ra,gM st rb,e1,k _ ok H (.refl h1 st) (.bl _)⟩
theorem LF {K:aa}:wH cls K (PM K n) (Aw n):=fun ok H ω x y a b d ω' Q h1 st ra rb e k=>by
 obtain⟨ue,rfl⟩:=cR e;obtain⟨c,e1,rfl⟩:=aI ue;exact⟨_,_,_,c,gM st ra,gM st rb,e1,k _ ok H (.refl h1 st) (.bl _)⟩
theorem Nn (hu:IY X n) (ha:OE X cls E a fa) (hb:OE X cls E b fb):OT X cls E (.Compare a [.Eq] [b] pos) (bX (MB.o2 (jT n) fa fb)):=kC (NE hu) LJ ha hb (kF _)
theorem Nm (hu:IY X n) (ha:OE X cls E a fa) (hb:OE X cls E b fb):OT X cls E (.Compare a [.NotEq] [b] pos) (bX (MB.o2 (Aw n) fa fb)):=kC (Jk hu) LF ha hb (kF _)
noncomputable def oIT (f:OG D):OI':=oB f fun d _ ω=>oR (pu (match d with|.tup ds=>xa (ds,bM)|_=>xb) ω)
theorem NI (h:OE X cls E e fa):OI X cls E tg e (oIT fa):=PI.imp (MS h) fun σ H R ⟨ok,ρ,ω,r,ω',P,e,q⟩=>by
 refine tO.then_ P e (fun c z=>by subst z;exact q) fun d ω1 v ok1 H1 e1 n1 P1 r1=> ?_;obtain⟨⟨ds,chk⟩,e3,rfl⟩:=cN e1;obtain⟨ue3,rfl⟩:=cR e3;split at ue3
 ·cases ue3;obtain⟨a,xs,rfl,g,rs⟩:=r1.tup_inv;refine⟨a,rfl,⟨xs,g.sq⟩,q _ ok1 H1 n1 ⟨fun i ok H ω n c hi=> ?_,fun i ok H ω x H' d n c y hd=> ?_,fun i ok H ω n c hi=>⟨xs,(g.mono n.ex.dat).sq,by rw[rs.length];exact hi⟩⟩⟩
  ·have hi':i<xs.length:=by rw[rs.length];exact hi
   exact⟨xs,xs[i],(g.mono n.ex.dat).sq,by simp[hi']⟩
  ·obtain⟨rfl,y⟩:=y;have rs':=rs.ex n.ex;obtain⟨w,z1,z2⟩:=rs'.get hd;rw[y xs (g.mono n.ex.dat).sq] at z1;cases z1;exact⟨Same.refl _,z2⟩
 ·cases ue3
end
end L2.MB
end
section
namespace L2.MB
open PySem PySem.Spec PyProof.Rows PySem.W
def Tree {α:Type} (n:Nat) (Q:α->Prop):KasT α->Prop
 |.ret a=>Q a
 |.ask i j k=>i<n/\j<n/\∀ b,Tree n Q (k b)
theorem Tree.bind {f:α->KasT β} (g:∀ a,Q a->Tree n R (f a)):∀ {t:KasT α},Tree n Q t->Tree n R (t.bind f)
 |.ret a,h=>by rw[KasT.bind.eq_1];exact g a h
 |.ask i j k,h=>by
  rw[KasT.bind.eq_2];exact⟨h.1,h.2.1,fun b=>Tree.bind g (h.2.2 b)⟩
theorem Tree.run (hl:∀ i j,i<n->j<n->∃ c,lt i j=xa c):∀ {t:KasT α},Tree n Q t->∃ a,JI lt t=xa a/\Q a
 |.ret a,h=>⟨a,rfl,h⟩
 |.ask i j k,h=>by
  obtain⟨c,e⟩:=hl i j h.1 h.2.1;obtain⟨a,e2,q⟩:=Tree.run hl (h.2.2 c);refine⟨a,?_,q⟩
  show(lt i j).bind _=_
  rw[e];exact e2
def Pm (n:Nat) (p:Array Nat):Prop:=p.Perm (bj n).toArray
theorem Pm.lt (h:Pm n p) (h0:0<n) (i:Nat):p.getD i 0<n:=by
 rw[cy];cases q:p[i]? with
 |none=>exact h0
 |some x=>
  have hm:x∈p:=Array.mem_of_getElem? q
  have:x∈(bj n).toArray:=(h.mem_iff).mp hm
  simpa using this
theorem Pm.rev (h:Pm n p) (i j:Nat):Pm n (kas_rev p i j):=(mirror_perm p i j _).trans h
theorem Pm.bub (h:Pm n p) (k d:Nat):Pm n (bubble p k d):=(bubble_perm p k d).trans h
section
variable {n:Nat} (h0:0<n)
include h0
theorem uH (hp:Pm n p):∀(f m:Nat),Tree n (fun _=>True) (kas_asc p f m)
 |0,m=>by rw[kas_asc.eq_def];trivial
 |f+1,m=>by
  rw[kas_asc.eq_def];refine⟨hp.lt h0 _,hp.lt h0 _,fun b=> ?_⟩;cases b with
  |true=>(dsimp only;rw[if_pos rfl]);trivial
  |false=>(dsimp only;rw[if_neg bx]);exact uH hp f (m+1)
theorem lC:∀(f:Nat) {p:Array Nat} (m q:Nat),Pm n p->Tree n (fun r:Array Nat×Nat×Nat=>Pm n r.1) (kas_desc f p m q)
 |0,p,m,q,hp=>by rw[kas_desc.eq_def];exact hp
 |f+1,p,m,q,hp=>by
  rw[kas_desc.eq_def];refine⟨hp.lt h0 _,hp.lt h0 _,fun b=> ?_⟩;cases b with
  |true=>
   (dsimp only;rw[if_pos rfl])
   by_cases hq:q>0
   ·rw[if_pos hq];exact lC f _ _ (hp.rev _ _)
   ·rw[if_neg hq];exact lC f _ _ hp
  |false=>
   (dsimp only;rw[if_neg bx])
   refine⟨hp.lt h0 _,hp.lt h0 _,fun b=> ?_⟩;cases b with
   |true=>(dsimp only;rw[if_pos rfl]);exact hp
   |false=>(dsimp only;rw[if_neg bx]);exact lC f _ _ hp
theorem wL (m r:Nat) (hp:Pm n p):Tree n (fun r:Nat×Array Nat=>Pm n r.2) (kas_tail3 m r p):=by
 unfold kas_tail3;refine Tree.bind (Q:=fun _=>True) (fun a _=> ?_) (uH h0 (hp.rev _ _) _ _);exact hp.rev _ _
theorem lB (m r:Nat) (hp:Pm n p):Tree n (fun r:Nat×Array Nat=>Pm n r.2) (kas_descPart m r p):=by
 unfold kas_descPart;refine(lC h0 _ _ _ hp).bind fun a ha=> ?_;split
 ·exact wL h0 _ _ (Pm.rev ha _ _)
 ·exact wL h0 _ _ ha
theorem Cw (r:Nat) (hp:Pm n p):Tree n (fun r:Nat×Array Nat=>Pm n r.2) (kas_count r p):=by
 unfold kas_count;refine(uH h0 hp _ _).bind fun a _=> ?_;split
 ·exact hp
 ·split
  ·refine⟨hp.lt h0 _,hp.lt h0 _,fun b=> ?_⟩;cases b with
   |true=>(dsimp only;rw[if_pos rfl]);exact hp
   |false=>(dsimp only;rw[if_neg bx]);exact lB h0 _ _ (hp.rev _ _)
  ·exact lB h0 _ _ hp
theorem mH (hp:Pm n p) (k:Nat):∀(f l r:Nat),Tree n (fun _=>True) (kas_place p k f l r)
 |0,l,r=>by rw[kas_place.eq_def];trivial
 |f+1,l,r=>by
  rw[kas_place.eq_def];show Tree n _ (if l≥r then _ else _);split
  ·trivial
  ·refine⟨hp.lt h0 _,hp.lt h0 _,fun b=> ?_⟩;cases b with
   |true=>(dsimp only;rw[if_pos rfl]);exact mH hp k f _ _
   |false=>(dsimp only;rw[if_neg bx]);exact mH hp k f _ _
theorem Bp:∀(f:Nat) {p:Array Nat} (k:Nat),Pm n p->Tree n (fun r:Array Nat=>Pm n r) (kas_bin f p k)
 |0,p,k,hp=>by rw[kas_bin.eq_def];exact hp
 |f+1,p,k,hp=>by
  rw[kas_bin.eq_def];exact(mH h0 hp k _ _ _).bind fun l _=>Bp f _ (hp.bub _ _)
theorem wM:Tree n (fun r:Array Nat=>Pm n r) (kas_sort n):=by
 unfold kas_sort;refine(Cw h0 _ (wn _)).bind fun r hr=> ?_;split
 ·exact Bp h0 _ _ hr
 ·exact hr
end
theorem nP (h64:ds.length<64) (hk:gX ds=true) (hl:∀ a∈ds,∀ b∈ds,∃ c,cO m a b=xa c):∃ out,dF m ds=xa out/\out.Perm ds:=by
 unfold dF
 by_cases h2:ds.length<2
 ·rw[if_pos h2];exact⟨ds,rfl,.refl _⟩
 ·rw[if_neg h2,if_pos ⟨h64,hk⟩];have gm:∀ i,i<ds.length->ds.getD i .non∈ds:=fun i hi=>by
   rw[av,bh hi];exact i5 hi
  obtain⟨p,e,hp⟩:=Tree.run (n:=ds.length) (lt:=fun i j=>cO m (ds.getD i .non) (ds.getD j .non)) (fun i j hi hj=>hl _ (gm i hi) _ (gm j hj)) (wM (n:=ds.length) (by omega));rw[e];have pl:p.toList.Perm (bj ds.length):=by
   have:=hp
   unfold Pm at this;rw[qg] at this;simpa using this
  have hl2:p.toList.length<=64:=by rw[pl.length_eq,fy];omega
  refine⟨_,by show(if p.toList.length<=64 then _ else xb)=_;rw[if_pos hl2],?_⟩;refine(pl.map _).trans ?_
  have:(bj ds.length).map (fun i=>ds.getD i .non)=ds:=by
   apply jb;intro i;rw[ax];rcases m7 i ds.length with h|h
   ·rw[di h,bh h];show xa (ds.getD i .non)=_;rw[av,bh h];rfl
   ·rw[cu h,cu (by simpa using h)];rfl
  rw[this]
def TreeL {α:Type} (L:Nat->Nat->Bool) (Q:α->Prop):KasT α->Prop
 |.ret a=>Q a
 |.ask i j k=>TreeL L Q (k (L i j))
theorem TreeL.bind {f:α->KasT β} (g:∀ a,Q a->TreeL L R (f a)):∀ {t:KasT α},TreeL L Q t->TreeL L R (t.bind f)
 |.ret a,h=>by rw[KasT.bind.eq_1];exact g a h
 |.ask i j k,h=>by
  rw[KasT.bind.eq_2];exact TreeL.bind g h
theorem TreeL.run:∀ {t:KasT α}{a:α},TreeL (fun i j=>lt i j==xa true) Q t->JI lt t=xa a->Q a
 |.ret a,_,h,e=>by cases e;exact h
 |.ask i j k,a,h,e=>by
  change TreeL _ Q (k (lt i j==xa true)) at h
  change (lt i j).bind (fun c=>JI lt (k c))=xa a at e
  cases hq:lt i j with
  |none=>rw[hq] at e;cases e
  |some c=>
   rw[hq] at e h
   have:(xa c==xa true)=c:=by cases c <;> rfl
   rw[this] at h;exact TreeL.run h e
theorem Tree.run':∀ {t:KasT α}{a:α},Tree n Q t->JI lt t=xa a->Q a
 |.ret a,_,h,e=>by cases e;exact h
 |.ask i j k,a,h,e=>by
  obtain⟨c,e1,e2⟩:=aQ (show(lt i j).bind _=_ from e);exact Tree.run' (h.2.2 c) e2
section
variable {n:Nat}{L:Nat->Nat->Bool} (ht:∀ i j,i<n->j<n->i≠j->L i j=false->L j i=true) (hr:∀ i j k,i<n->j<n->k<n->L i j=true->L j k=true->L i k=true)
def Asc (L:Nat->Nat->Bool) (p:Array Nat) (m:Nat):Prop:=∀ i j,i<j->j<m->L (p.getD i 0) (p.getD j 0)=true
def Dsc (L:Nat->Nat->Bool) (p:Array Nat) (m:Nat):Prop:=∀ i j,i<j->j<m->L (p.getD j 0) (p.getD i 0)=true
theorem Pm.size (h:Pm n p):p.size=n:=by
 have:=h.size_eq
 simpa using this
theorem Pm.ne (h:Pm n p) (hi:i<n) (hj:j<n) (hne:i≠j):p.getD i 0≠p.getD j 0:=by
 have pl:p.toList.Perm (bj n):=by
  have:=h
  unfold Pm at this;rw[qg] at this;simpa using this
 have nd:p.toList.Nodup:=pl.nodup_iff.mpr List.nodup_range;have hs:=h.size;intro z;have gi:p.getD i 0=p.toList[i]'(by simp[hs,hi]):=by
  rw[cy,jw (by omega)];simp
 have gj:p.getD j 0=p.toList[j]'(by simp[hs,hj]):=by
  rw[cy,jw (by omega)];simp
 rw[gi,gj] at z;have pw:=me.mp nd;rcases Nat.lt_or_gt_of_ne hne with q|q
 ·exact pw i j _ _ q z
 ·exact pw j i _ _ q z.symm
include ht hr in
theorem IR {p:Array Nat} (h0:0<n) (hp:Pm n p) {m:Nat} (h1:1<=m) (hm:m<n) (a:Asc L p m) (c:L (p.getD m 0) (p.getD (m-1) 0)=false):Asc L p (m+1):=by
 have up:=ht _ _ (hp.lt h0 m) (hp.lt h0 (m-1)) (hp.ne hm (by omega) (by omega)) c;intro i j hij hj
 by_cases e:j=m
 ·subst e
  by_cases e2:i=j-1
  ·rw[e2];exact up
  ·exact hr _ _ _ (hp.lt h0 _) (hp.lt h0 _) (hp.lt h0 _) (a i (j-1) (by omega) (by omega)) up
 ·exact a i j hij (by omega)
include ht hr in
theorem Af {p:Array Nat} (h0:0<n) (hp:Pm n p):∀(f m:Nat),1<=m->m+f<=n->Asc L p m->TreeL L (fun q=>m<=q/\q<=m+f/\Asc L p q/\(q<m+f->L (p.getD q 0) (p.getD (q-1) 0)=true)) (kas_asc p f m)
 |0,m,h1,hm,a=>by
  rw[kas_asc.eq_def];exact⟨bf _,bf _,a,fun z=>by omega⟩
 |f+1,m,h1,hm,a=>by
  rw[kas_asc.eq_def];show TreeL L _ (if L (p.getD m 0) (p.getD (m-1) 0)=true then KasT.ret m else kas_asc p f (m+1));cases c:L (p.getD m 0) (p.getD (m-1) 0) with
  |true=>
   rw[if_pos rfl];exact⟨bf _,by omega,a,fun _=>c⟩
  |false=>
   rw[if_neg bx];have ih:=Af h0 hp f (m+1) (by omega) (by omega) (IR ht hr h0 hp h1 (by omega) a c)
   have:m+1+f=m+(f+1):=by omega
   rw[this] at ih;have mono:∀ {t:KasT Nat},TreeL L (fun q=>m+1<=q/\q<=m+(f+1)/\Asc L p q/\(q<m+(f+1)->L (p.getD q 0) (p.getD (q-1) 0)=true)) t->TreeL L (fun q=>m<=q/\q<=m+(f+1)/\Asc L p q/\(q<m+(f+1)->L (p.getD q 0) (p.getD (q-1) 0)=true)) t:=by
    intro t
    induction t with
    |ret a=>exact fun h=>⟨by have:=h.1;omega,h.2⟩
    |ask i j k ih=>exact fun h=>ih _ h
   exact mono ih
include ht hr in
theorem BB {p:Array Nat} (h0:0<n) (hp:Pm n p):∀(f m:Nat),1<=m->m+f<=n->Dsc L p m->TreeL L (fun r:Array Nat×Nat×Nat=>r.1=p/\r.2.2=0/\m<=r.2.1/\r.2.1<=m+f/\Dsc L p r.2.1) (kas_desc f p m 0)
 |0,m,h1,hm,a=>by
  rw[kas_desc.eq_def];exact⟨rfl,rfl,bf _,bf _,a⟩
 |f+1,m,h1,hm,a=>by
  rw[kas_desc.eq_def];show TreeL L _ (if L (p.getD m 0) (p.getD (m-1) 0)=true then(if 0>0 then kas_desc f (kas_rev p (m-(0+1)) m) (m+1) 0 else kas_desc f p (m+1) 0) else KasT.ask (p.getD (m-1) 0) (p.getD m 0) fun d=>if d=true then .ret (p,m,0) else kas_desc f p (m+1) (0+1));cases c:L (p.getD m 0) (p.getD (m-1) 0) with
  |true=>
   rw[if_pos rfl,if_neg (gv 0)];have a':Dsc L p (m+1):=by
    intro i j hij hj
    by_cases e:j=m
    ·subst e
     by_cases e2:i=j-1
     ·rw[e2];exact c
     ·exact hr _ _ _ (hp.lt h0 _) (hp.lt h0 _) (hp.lt h0 _) c (a i (j-1) (by omega) (by omega))
    ·exact a i j hij (by omega)
   have ih:=BB h0 hp f (m+1) (by omega) (by omega) a';have mono:∀ {t:KasT (Array Nat×Nat×Nat)},TreeL L (fun r:Array Nat×Nat×Nat=>r.1=p/\r.2.2=0/\m+1<=r.2.1/\r.2.1<=m+1+f/\Dsc L p r.2.1) t->TreeL L (fun r:Array Nat×Nat×Nat=>r.1=p/\r.2.2=0/\m<=r.2.1/\r.2.1<=m+(f+1)/\Dsc L p r.2.1) t:=by
    intro t
    induction t with
    |ret a=>exact fun h=>⟨h.1,h.2.1,by have:=h.2.2.1;omega,by have:=h.2.2.2.1;omega,h.2.2.2.2⟩
    |ask i j k ih=>exact fun h=>ih _ h
   exact mono ih
  |false=>
   rw[if_neg bx];show TreeL L _ (if L (p.getD (m-1) 0) (p.getD m 0)=true then KasT.ret (p,m,0) else _);rw[if_pos (ht _ _ (hp.lt h0 _) (hp.lt h0 _) (hp.ne (by omega) (by omega) (by omega)) c)];exact⟨rfl,rfl,bf _,by show m<=m+(f+1);omega,a⟩
theorem BW (hm:m<=p.size) (hk:k<m):(kas_rev p 0 m).getD k 0=p.getD (m-1-k) 0:=by
 unfold kas_rev;rw[cy,cy,getElem?_mirror_all hm,if_pos ⟨iq _,hk⟩,Nat.zero_add]
theorem Dsc.rev (hm:m<=p.size) (d:Dsc L p m):Asc L (kas_rev p 0 m) m:=fun i j hij hj=>by
 rw[BW hm (by omega),BW hm hj];exact d _ _ (by omega) (by omega)
include ht hr in
theorem Ev {p:Array Nat} (h2:2<=n) (hp:Pm n p):TreeL L (fun r:Nat×Array Nat=>Pm n r.2/\1<=r.1/\r.1<=n/\Asc L r.2 r.1) (kas_count n p):=by
 have h0:0<n:=by omega
 unfold kas_count;refine(Af ht hr h0 hp (n-1) 1 (bf _) (by omega) fun i j hij hj=>by omega).bind fun q hq=> ?_;obtain⟨q1,q2,qa,qs⟩:=hq
 by_cases e:q=n
 ·rw[if_pos (by simpa using e)];exact⟨hp,q1,by omega,qa⟩
 ·rw[if_neg (by simpa using e)]
  by_cases h1:q>1
  ·rw[if_pos h1];show TreeL L _ (if L (p.getD 0 0) (p.getD (q-1) 0)=true then KasT.ret (q,p) else _);rw[if_pos (qa 0 (q-1) (by omega) (by omega))];exact⟨hp,q1,by omega,qa⟩
  ·rw[if_neg h1];have hq1:q=1:=by omega
   subst hq1;have c:=qs (by omega);unfold kas_descPart;refine(BB ht hr h0 hp (n-(1+1)) (1+1) (by omega) (by omega) fun i j hij hj=> ?_).bind fun r hrr=> ?_
   ·have:i=0/\j=1:=by omega
    rw[this.1,this.2];exact c
   ·obtain⟨r1,r2,r3,r4,r5⟩:=hrr;rw[if_neg (by omega),r1];unfold kas_tail3;have hs:=hp.size;refine(Af ht hr h0 (hp.rev 0 r.2.1) (n-r.2.1) r.2.1 (by omega) (by omega) (r5.rev (by omega))).bind fun m hm=> ?_;exact⟨hp.rev _ _,by have:=hm.1;show 1<=m;omega,by have:=hm.2.1;show m<=n;omega,hm.2.2.1⟩
include ht hr in
theorem pC {p:Array Nat} (h0:0<n) (hp:Pm n p) {k:Nat} (hk:k<n) (a:Asc L p k):∀(f l r:Nat),l<=r->r<=k->r-l<=f->(∀ i,i<l->L (p.getD i 0) (p.getD k 0)=true)->(∀ i,r<=i->i<k->L (p.getD k 0) (p.getD i 0)=true)->TreeL L (fun q=>q<=k/\(∀ i,i<q->L (p.getD i 0) (p.getD k 0)=true)/\(∀ i,q<=i->i<k->L (p.getD k 0) (p.getD i 0)=true)) (kas_place p k f l r)
 |0,l,r,h1,h2,h3,h4,h5=>by
  rw[kas_place.eq_def]
  have:r=l:=by omega
  subst this;exact⟨h2,h4,h5⟩
 |f+1,l,r,h1,h2,h3,h4,h5=>by
  rw[kas_place.eq_def];show TreeL L _ (if l≥r then KasT.ret l else _)
  by_cases e:l≥r
  ·rw[if_pos e]
   have:r=l:=by omega
   subst this;exact⟨h2,h4,h5⟩
  ·rw[if_neg e];show TreeL L _ (if L (p.getD k 0) (p.getD ((l+r) / 2) 0)=true then kas_place p k f l ((l+r) / 2) else kas_place p k f ((l+r) / 2+1) r);cases c:L (p.getD k 0) (p.getD ((l+r) / 2) 0) with
   |true=>
    rw[if_pos rfl];refine pC h0 hp hk a f l ((l+r) / 2) (by omega) (by omega) (by omega) h4 fun i hi hik=> ?_
    by_cases e2:i=(l+r) / 2
    ·rw[e2];exact c
    ·exact hr _ _ _ (hp.lt h0 _) (hp.lt h0 _) (hp.lt h0 _) c (a _ _ (by omega) hik)
   |false=>
    rw[if_neg bx];have up:=ht _ _ (hp.lt h0 _) (hp.lt h0 _) (hp.ne hk (by omega) (by omega)) c;refine pC h0 hp hk a f ((l+r) / 2+1) r (by omega) (by omega) (by omega) (fun i hi=> ?_) h5
    by_cases e2:i=(l+r) / 2
    ·rw[e2];exact up
    ·exact hr _ _ _ (hp.lt h0 _) (hp.lt h0 _) (hp.lt h0 _) (a _ _ (by omega) (by omega)) up
theorem BX (hk:k<p.size) (hl:l<=k):(bubble p k (k-l)).getD i 0=if i=l then p.getD k 0 else if l<i/\i<=k then p.getD (i-1) 0 else p.getD i 0:=by
 rw[cy,getElem?_bubble hk (k-l) (by omega)]
 have:k-(k-l)=l:=by omega
 rw[this]
 by_cases h1:i=l
 ·rw[if_pos h1,if_pos h1,cy]
 ·rw[if_neg h1,if_neg h1]
  by_cases h2:l<i/\i<=k
  ·rw[if_pos h2,if_pos h2,cy]
  ·rw[if_neg h2,if_neg h2,cy]
theorem Asc.bub (hk:k<p.size) (hl:l<=k) (a:Asc L p k) (h1:∀ i,i<l->L (p.getD i 0) (p.getD k 0)=true) (h2:∀ i,l<=i->i<k->L (p.getD k 0) (p.getD i 0)=true):Asc L (bubble p k (k-l)) (k+1):=by
 intro i j hij hj;rw[BX hk hl,BX hk hl]
 by_cases i1:i=l
 ·rw[if_pos i1,if_neg (by omega),if_pos (by omega)];exact h2 _ (by omega) (by omega)
 ·rw[if_neg i1]
  by_cases i2:l<i/\i<=k
  ·rw[if_pos i2,if_neg (by omega),if_pos (by omega)];exact a _ _ (by omega) (by omega)
  ·rw[if_neg i2]
   by_cases j1:j=l
   ·rw[if_pos j1];exact h1 _ (by omega)
   ·rw[if_neg j1]
    by_cases j2:l<j/\j<=k
    ·rw[if_pos j2];exact a _ _ (by omega) (by omega)
    ·rw[if_neg j2];exact a _ _ (by omega) (by omega)
include ht hr in
theorem Ew:∀(f:Nat) {p:Array Nat} (k:Nat),Pm n p->1<=k->k+f=n->Asc L p k->TreeL L (fun r:Array Nat=>Pm n r/\Asc L r n) (kas_bin f p k)
 |0,p,k,hp,_,hk,a=>by
  rw[kas_bin.eq_def]
  have:k=n:=by omega
  subst this;exact⟨hp,a⟩
 |f+1,p,k,hp,h1,hk,a=>by
  rw[kas_bin.eq_def];have hs:=hp.size;refine(pC ht hr (by omega) hp (by omega) a k 0 k (by omega) (bf _) (by omega) (fun i hi=>by omega) fun i hi hik=>by omega).bind fun l hl=> ?_;exact Ew f (k+1) (hp.bub _ _) (by omega) (by omega) (Asc.bub (by omega) hl.1 a hl.2.1 hl.2.2)
include ht hr in
theorem Hi (h2:2<=n):TreeL L (fun r:Array Nat=>Asc L r n) (kas_sort n):=by
 unfold kas_sort;refine(Ev ht hr h2 (wn _)).bind fun r hrr=> ?_;obtain⟨r1,r2,r3,r4⟩:=hrr;have weak:∀ {t:KasT (Array Nat)},TreeL L (fun r:Array Nat=>Pm n r/\Asc L r n) t->TreeL L (fun r:Array Nat=>Asc L r n) t:=by
  intro t
  induction t with
  |ret a=>exact fun h=>h.2
  |ask i j k ih=>exact fun h=>ih _ h
 by_cases e:r.1<n
 ·rw[if_pos e,Nat.max_eq_left r2];exact weak (Ew ht hr (n-r.1) r.1 r1 r2 (by omega) r4)
 ·rw[if_neg e]
  have:r.1=n:=by omega
  rw[this] at r4;exact r4
end
theorem wU (hs:dF m ds=xa out) (ht:∀ i j,i<ds.length->j<ds.length->i≠j->cO m (ds.getD i .non) (ds.getD j .non)=xa true∨cO m (ds.getD j .non) (ds.getD i .non)=xa true)
  (hr:∀ a∈ds,∀ b∈ds,∀ c∈ds,cO m a b=xa true->cO m b c=xa true->cO m a c=xa true):out.Pairwise fun a b=>cO m a b=xa true:=by
 unfold dF at hs
 by_cases h2:ds.length<2
 ·rw[if_pos h2] at hs;cases hs
  match ds,h2 with
  |[],_=>exact .nil
  |[a],_=>simp
 ·rw[if_neg h2] at hs;obtain⟨h64,hs⟩:=cS hs;obtain⟨p,e1,e2⟩:=aQ hs;obtain⟨_,e3⟩:=cS e2;cases e3;have gm:∀ i,i<ds.length->ds.getD i .non∈ds:=fun i hi=>by
   rw[av,bh hi];exact i5 hi
  have A:=TreeL.run (Hi (n:=ds.length) (L:=fun i j=>cO m (ds.getD i .non) (ds.getD j .non)==xa true) (fun i j hi hj hne c=>by
   rcases ht i j hi hj hne with z|z
   ·rw[z] at c;cases c
   ·rw[z];rfl) (fun i j k hi hj hk a b=>by
   have a':cO m (ds.getD i .non) (ds.getD j .non)=xa true:=by simpa using a
   have b':cO m (ds.getD j .non) (ds.getD k .non)=xa true:=by simpa using b
   rw[hr _ (gm i hi) _ (gm j hj) _ (gm k hk) a' b'];rfl) (by omega)) e1
  have hp:Pm ds.length p:=by
   exact Tree.run' (wM (n:=ds.length) (by omega)) e1
  have sz:=hp.size;rw[k8,me];intro i j hi hj hij;have hi':i<p.size:=by simpa using hi
  have hj':j<p.size:=by simpa using hj
  have:=A i j hij (by omega)
  rw[cy,jw hi',cy,jw hj'] at this;simpa using this
def sLt (x y:Str):Prop:=x.cps.toList<y.cps.toList
theorem DY (h1:sLt x y) (h2:sLt y z):sLt x z:=List.lt_trans h1 h2
theorem sP (x:Str):¬ sLt x x:=List.lt_irrefl _
theorem DZ (h:x≠y):sLt x y∨sLt y x:=by
 by_cases q:x.cps.toList<y.cps.toList
 ·exact .inl q
 ·by_cases q2:y.cps.toList<x.cps.toList
  ·exact .inr q2
  ·exfalso
   apply h
   have:x.cps.toList=y.cps.toList:=List.le_antisymm (List.not_lt.mp q2) (List.not_lt.mp q)
   cases x;cases y;simp at this;simp[this]
abbrev mLt (a b a' b':Int):Prop:=a<a'∨(a=a'/\b<b')
def eLt (x:Str) (a b v:Int) (x':Str) (a' b' v':Int):Prop:=sLt x x'∨(x=x'/\(mLt a b a' b'∨(a=a'/\b=b'/\v<v')))
theorem HH (a b a' b':Int):Qo [a,b] [a',b']=decide (mLt a b a' b'):=by
 show(if a=a' then(if b=b' then false else decide (b<b')) else decide (a<a'))=_
 unfold mLt
 by_cases h:a=a'
 ·rw[if_pos h]
  by_cases h2:b=b'
  ·rw[if_pos h2];simp[h,h2]
  ·rw[if_neg h2];simp[h]
 ·rw[if_neg h];simp[h]
theorem Iu (a b a' b':Int):eqD 4 (.tup [.int a,.int b]) (.tup [.int a',.int b'])=xa (decide (a=a'/\b=b')):=by
 have:eqD 4 (.tup [.int a,.int b]) (.tup [.int a',.int b'])=xa ((a==a'&&(b==b'&&true))&&true):=rfl
 rw[this]
 congr 1
 by_cases h:a=a' <;> by_cases h2:b=b' <;> simp[h,h2]
theorem OD (n:Nat) (x y:Str):eqD n (.str x) (.str y)=xa (decide (x=y)):=by cases n <;> rfl
theorem BI (x:Str) (a b v:Int) (x':Str) (a' b' v':Int):cO 4 (.tup [.str x,.tup [.int a,.int b],.int v]) (.tup [.str x',.tup [.int a',.int b'],.int v'])=xa true↔eLt x a b v x' a' b' v':=by
 show(match eqD 4 (.str x) (.str x') with
  |some true=>(match eqD 4 (.tup [.int a,.int b]) (.tup [.int a',.int b']) with
   |some true=>(match eqD 4 (.int v) (.int v') with
    |some true=>xa (decide (3<3))
    |some false=>eZ (.int v) (.int v')
    |none=>xb)
   |some false=>eZ (.tup [.int a,.int b]) (.tup [.int a',.int b'])
   |none=>xb)
  |some false=>eZ (.str x) (.str x')
  |none=>xb)=xa true↔_
 rw[OD,Iu];have e3:eqD 4 (.int v) (.int v')=xa (decide (v=v')):=rfl;rw[e3];unfold eLt
 by_cases hx:x=x'
 ·rw[decide_eq_true hx]
  show(match xa (decide (a=a'/\b=b')) with
   |some true=>(match xa (decide (v=v')) with
    |some true=>xa (decide (3<3))
    |some false=>eZ (.int v) (.int v')
    |none=>xb)
   |some false=>eZ (.tup [.int a,.int b]) (.tup [.int a',.int b'])
   |none=>xb)=xa true↔_
  have nx:¬ sLt x x':=by rw[hx];exact sP _
  by_cases hm:a=a'/\b=b'
  ·rw[decide_eq_true hm];have nm:¬ mLt a b a' b':=by unfold mLt;omega
   by_cases hv:v=v'
   ·rw[decide_eq_true hv];show xa (decide (3<3))=xa true↔_;constructor
    ·intro z;simp at z
    ·rintro(z|⟨_,z|z⟩)
     ·exact absurd z nx
     ·exact absurd z nm
     ·omega
   ·rw[decide_eq_false hv];show xa (decide (v<v'))=xa true↔_;constructor
    ·intro z;exact .inr ⟨hx,.inr ⟨hm.1,hm.2,by simpa using z⟩⟩
    ·rintro(z|⟨_,z|z⟩)
     ·exact absurd z nx
     ·exact absurd z nm
     ·simpa using z.2.2
  ·rw[decide_eq_false hm];show xa (Qo [a,b] [a',b'])=xa true↔_;rw[HH];constructor
   ·intro z;exact .inr ⟨hx,.inl (by simpa using z)⟩
   ·rintro(z|⟨_,z|z⟩)
    ·exact absurd z nx
    ·simpa using z
    ·exact absurd ⟨z.1,z.2.1⟩ hm
 ·rw[decide_eq_false hx];show xa (decide (x.cps.toList<x'.cps.toList))=xa true↔_;constructor
  ·intro z;exact .inl (by simpa [sLt] using z)
  ·rintro(z|⟨z,_⟩)
   ·simpa [sLt] using z
   ·exact absurd z hx
theorem BH (a b a' b':Int):cO 4 (.tup [.int a,.int b]) (.tup [.int a',.int b'])=xa true↔mLt a b a' b':=by
 show(match eqD 4 (.int a) (.int a') with
  |some true=>(match eqD 4 (.int b) (.int b') with
   |some true=>xa (decide (2<2))
   |some false=>eZ (.int b) (.int b')
   |none=>xb)
  |some false=>eZ (.int a) (.int a')
  |none=>xb)=xa true↔_
 have e1:eqD 4 (.int a) (.int a')=xa (decide (a=a')):=rfl;have e2:eqD 4 (.int b) (.int b')=xa (decide (b=b')):=rfl;rw[e1,e2];unfold mLt
 by_cases h:a=a'
 ·rw[decide_eq_true h]
  by_cases h2:b=b'
  ·rw[decide_eq_true h2];show xa (decide (2<2))=xa true↔_;constructor
   ·intro z;simp at z
   ·omega
  ·rw[decide_eq_false h2];show xa (decide (b<b'))=xa true↔_;constructor
   ·intro z;exact .inr ⟨h,by simpa using z⟩
   ·intro z;simp;omega
 ·rw[decide_eq_false h];show xa (decide (a<a'))=xa true↔_;constructor
  ·intro z;exact .inl (by simpa using z)
  ·intro z;simp;omega
theorem xR (h1:mLt a b a' b') (h2:mLt a' b' a2 b2):mLt a b a2 b2:=by unfold mLt at*;omega
theorem FL (h1:eLt x a b v x' a' b' v') (h2:eLt x' a' b' v' x2 a2 b2 v2):eLt x a b v x2 a2 b2 v2:=by
 unfold eLt at*;rcases h1 with h1|⟨rfl,h1⟩
 ·rcases h2 with h2|⟨rfl,h2⟩
  ·exact .inl (DY h1 h2)
  ·exact .inl h1
 ·rcases h2 with h2|⟨rfl,h2⟩
  ·exact .inl h2
  ·refine .inr ⟨rfl,?_⟩;rcases h1 with h1|⟨rfl,rfl,h1⟩
   ·rcases h2 with h2|⟨rfl,rfl,h2⟩
    ·exact .inl (xR h1 h2)
    ·exact .inl h1
   ·rcases h2 with h2|⟨rfl,rfl,h2⟩
    ·exact .inl h2
    ·exact .inr ⟨rfl,rfl,by omega⟩
theorem iU {r:α->α->Prop} (ha:∀ a b,r a b->r b a->False):∀ {l m:List α},l.Perm m->l.Pairwise r->m.Pairwise r->l=m
 |[],m,h,_,_=>(List.nil_perm.mp h).symm
 |a::l,m,h,h1,h2=>by
  cases m with
  |nil=>exact absurd h.length_eq (by simp)
  |cons b m=>
   rw[List.pairwise_cons] at h1 h2;have e:a=b:=by
    have m1:a∈b::m:=h.mem_iff.mp aq;have m2:b∈a::l:=h.mem_iff.mpr aq;rcases aj.mp m1 with z|z
    ·exact z
    ·rcases aj.mp m2 with w|w
     ·exact w.symm
     ·exact(ha a b (h1.1 b w) (h2.1 a z)).elim
   subst e;rw[iU ha (List.Perm.cons_inv h) h1.2 h2.2]
section
variable {X:Cx}{cls exC:Nat->af}{E:XE}{e a b c o i value:bw}{es rest:List bw}{fa fb fc fo fi fv:OG D}{fl:OG (List D)}{pos p apos pos' cpos:Pos}{x m:Str}{st:cz}
theorem BK {E:ag->au->Prop}{vs:List ag} (hl:s.heap.IsList l vs.toArray) (hz:vs.length<=sizeLine)
  (h:∀(h':c9) (tk:Nat) (acc:Array ag),(∀ b o,s.heap.get? b=xa o->h'.get? b=xa o)->ItemsOf (fun j v=>vs[j]?=xa v) acc vs.length->R acc.toList { s with heap:=h',toks:=tk }):az (model prog w) A (collect (.ref l)) R E s:=by
 refine collect_list hl ?_ hz
 have:=h ((s.heap.push (hW "list" #[] 0)).update s.heap.objs.size (kt (· ++vs.toArray))) s.toks vs.toArray (fun b o q=>by
  have hlt:b<s.heap.objs.size:=bp q;rw[Heap.get?_update_ne _ _ _ _ (cj hlt),Heap.get?_push_ne _ _ _ (cj hlt)];exact q) ⟨by simp,fun j v q=>by simpa using q⟩
 simpa using this
def MG (K:aa) (n:Nat):List V->Hp->VK->Prop:=fun xs H Q=>∃ a ys ds out ok,xs=[.ref a]/\H a=xa (.lst ys)/\Reps K ok H ys ds/\dF n ds=xa out/\∀ l zs,H l=xb->Reps K ok H zs out->Q (.ref l) (upd H l (.lst zs))
theorem Gd (hu:X.A.units+(n+2)<fe):CallR X (.builtin "sorted") (MG X.K n):=by
 intro pins s σ H xs us Q I r h;obtain⟨a,ys,ds,out,ok,rfl,ha,rs,hs,q⟩:=h;obtain⟨u,rfl,rx⟩:=mG r;cases rx;obtain⟨hz,its,c,rv,hlen,eo⟩:=I.lstM ha;have hli:s.heap.IsList a its.toArray:=⟨_,eo,rfl,c,rfl⟩;have hPP:∀(j:Nat) v x,its[j]?=xa v->ys[j]?=xa x->RelV x v:=fun j v x e1 e2=>by
  obtain⟨v',e3,r3⟩:=rv.get e2;rw[e1] at e3;cases e3;exact r3
 have dl:ds.length=its.length:=by rw[<- rs.length,hlen]
 by_cases hl:ds.length<2
 ·obtain rfl:=oW hs hl;refine oU (fun h=>BK hli (by omega) h) (by omega) fun h' tk vs l c kp na hvl hP ho=> ?_;have rv2:Vals ys vs:=zQ (by omega) fun j w hw=>by
   have hj:j<ys.length:=by
    have:=(bt.mp hw).1
    omega
   exact⟨ys[j],bh hj,hPP j w _ (hP j w hw) (bh hj)⟩
  obtain⟨hn,I'⟩:=I.laidN (t':=tk) kp na (uW (H:=upd H l (.lst ys)) rv2 hz ho);exact⟨.ref l,_,I',rfl,q l _ hn rs⟩
 ·have h64:=oV hs hl;exact oS I (fun h=>BK hli (by omega) h) (by omega) (by omega) hu (by omega) hPP rs hs fun h' tk ys l nl I' rs'=>⟨.ref l,_,I',rfl,q l ys nl rs'⟩
noncomputable def Ft (n:Nat) (ω:Om) (ds:List D):Option (D×Om):=match ds with
 |[d]=>match fK ω d with
  |some xs=>(dF n xs).map fun out=>(.lst out,ω)
  |none=>xb
 |_=>xb
theorem Ij {K:aa}:rH cls K (MG K n) (Ft n):=fun ok H ω xs as d ω' Q h1 st r e k=>by
 unfold Ft at e;split at e
 ·split at e
  ·rename_i ys hseq
   obtain⟨out,e5,e6⟩:=aI e;cases e6;obtain⟨v,rfl,r1⟩:=r.one_inv;obtain⟨a,xs,rfl,g,rs⟩:=fC st r1 hseq;exact⟨a,xs,ys,out,ok,rfl,g,rs,e5,fun l zs nl rz=>k _ ok _ (.same h1 st (cK nl)) (.lst_new (h1 l nl) nl rz)⟩
  ·cases e
 ·cases e
end
section
variable {X:Cx}{cls exC:Nat->af}{E:XE}{e a b c o i value:bw}{es rest:List bw}{fa fb fc fo fi fv:OG D}{fl:OG (List D)}{pos p apos pos' cpos:Pos}{x m:Str}{st:cz}
noncomputable def Ay (ω:Om) (a b:D):Option (D×Om):=match a,b with
 |.tup xs,.tup ys=>if xs≠[]/\ys≠[]/\xs.length+ys.length<=sizeLine then xa (.tup (xs++ys),ω) else xb
 |_,_=>xb
theorem KP (ha:OE X cls E a fa) (hb:OE X cls E b fb):OE X cls E (.BinOp a .Add b pos) (o2 Ay fa fb):=uR Kv (fun ok H ω x y a b d ω' Q h1 st ra rb e k=>by
 unfold Ay at e;split at e
 ·rename_i xs ys
  obtain⟨⟨hx,hy,hz⟩,e3⟩:=bP e;cases e3;obtain⟨a1,us,rfl,g1,r1⟩:=ra.tup_inv;obtain⟨b1,ws,rfl,g2,r2⟩:=rb.tup_inv;have nx:us≠[]:=fun z=>hx (by have:=r1.length;rw[z] at this;exact rm.mp this.symm);have ny:ws≠[]:=fun z=>hy (by have:=r2.length;rw[z] at this;exact rm.mp this.symm);exact⟨a1,b1,us,ws,rfl,rfl,g1.sq,g2.sq,nx,by rw[r1.length,r2.length];exact hz,fun z=>absurd z ny,fun _ p n=>k _ ok _ (.same h1 st (cK n)) (.tup_new (h1 p n) n (r1.append r2))⟩
 ·cases e) ha hb
noncomputable def Au (ω:Om) (ds:List D):Option (D×Om):=match ds with
 |[d]=>(fK ω d).bind fun xs=>(lD xs).map fun ns=>(.int ns.sum,ω)
 |_=>xb
theorem Ii {K:aa}:rH cls K (fun xs H Q=>∃(p:af) (ns:List Int),xs=[.ref p]/\SqL K H p (ns.map V.int)/\Q (.int ns.sum) H) Au:=fun ok H ω xs as d ω' Q h1 st r e k=>by
 unfold Au at e;split at e
 ·obtain⟨ys,e1,e⟩:=aQ e;obtain⟨ns,e2,e3⟩:=aI e;cases e3;obtain rfl:=mI e2;obtain⟨v,rfl,r1⟩:=r.one_inv;obtain⟨a,xs,rfl,g,rs⟩:=fC st r1 e1;obtain rfl:=rs.of_ints;exact⟨a,ns,rfl,SqL.of g,k _ ok H (.refl h1 st) (.int _)⟩
 ·cases e
noncomputable def oVs:List (OG D)->OG (List D)
 |[]=>aO
 |f::r=>aC f (oVs r)
theorem By {K:aa}:∀ {xs:List (Str×OG D)}{H:Hp}{Q:List (V×V)->Hp->Prop},tOA cls K (oVs (xs.map (·.2))) E σ H (fun vs H'=>vs.length=xs.length->Q ((xs.map fun p=>V.str p.1).zip vs) H')->Br (xs.map fun p=>(tO cls K (oP (dC (.str p.1))) E,tO cls K p.2 E)) σ H Q
 |[],H,Q,⟨ok,ρ,ω,r,ω',P,e,q⟩=>by
  cases e;exact q [] ok H (.refl P.okh P.st) .nil rfl
 |(x,f)::xs,H,Q,⟨ok,ρ,ω,r,ω',P,e,q⟩=>by
  refine⟨ok,ρ,ω,.ok (.str x),ω,P,rfl,fun v ok1 H1 n1 r1=> ?_⟩;obtain rfl:=r1.str_inv;refine tO.then_ (P.nw n1) e (fun c z=>by subst z;exact exR.nw q n1) fun d ω1 w ok2 H2 e1 n2 P2 r2=> ?_;refine By ?_;rcases kE e1 with⟨c,e2,rfl⟩|⟨ds,ω2,e2,e3⟩
  ·exact⟨ok2,ρ,ω1,.ex c,ω',P2,e2,exR.nw (exR.nw q n1) n2⟩
  ·cases e3;exact⟨ok2,ρ,ω1,.ok ds,ω',P2,e2,fun vs ok3 H3 n3 r3 hl=>q (w::vs) ok3 H3 (n1.trans (n2.trans n3)) (.cons (r2.ex n3.ex) r3) (by simp[hl])⟩
noncomputable def IG (ks:List Key) (ds:List D):List (Key×D):=(ks.zip ds).foldl (fun acc p=>putD acc p.1 p.2) []
noncomputable def CZ (ω:Om) (n:Nat):Bool:=match ω[n]? with
 |some (.dk [])=>true
 |_=>false
noncomputable def CK (xs:List (Str×OG D)):OG D:=fun ρ ω=>match oVs (xs.map (·.2)) ρ (ω++[.dk []]) with
 |none=>xb
 |some (.ex c,ω2)=>xa (.ex c,ω2)
 |some (.ok ds,ω2)=>if xs.length<=15/\CZ ω2 ω.length=true then xa (.ok (.obj ω.length),ω2.set ω.length (.dk (IG (xs.map fun p=>jz p.1) ds))) else xb
theorem KvR.disp {K:aa}:∀ {ks:List Key}{vs:List V}{ds:List D}{kv:List (Key×V)}{kd:List (Key×D)},Reps K ok H vs ds->KvR K ok H kv kd->KvR K ok H ((ks.zip vs).foldl (fun acc p=>mS acc p.1 p.2) kv) ((ks.zip ds).foldl (fun acc p=>putD acc p.1 p.2) kd)
 |[],_,_,_,_,_,h=>h
 |k::ks,_,_,kv,kd,.nil,h=>h
 |k::ks,_,_,kv,kd,.cons r rs,h=>KvR.disp (ks:=ks) rs (h.put r)
theorem KM (h:PPs X pos keys values (xs.map fun p=>(tO cls X.K (oP (dC (.str p.1))) E,tO cls X.K p.2 E))) (hall:keys.all (·.isSome)=true) (hl:keys.length=values.length) (h0:keys≠[]) (h15:keys.length<=15):OE X cls E (.Dict keys values pos) (CK xs):=
 (Kb h hall hl h0 h15).imp fun σ H Q ⟨ok,ρ,ω,r,ω',P,e,q⟩=>by
  intro p np;have n0:=Nw.make (o:=.dK []) (ob:=.dk []) P.okh P.st np ⟨[],aP,.nil⟩;have P0:=P.nw n0;refine By ?_;unfold CK at e;cases hv:oVs (xs.map (·.2)) ρ (ω++[.dk []]) with
  |none=>rw[hv] at e;cases e
  |some rr=>
   obtain⟨r1,ω2⟩:=rr;rw[hv] at e;cases r1 with
   |ex c=>
    cases e;exact⟨_,ρ,_,.ex c,ω',P0,hv,exR.nw q n0⟩
   |ok ds=>
    obtain⟨⟨hx,hd⟩,e3⟩:=bP (show(if xs.length<=15/\CZ ω2 ω.length=true then xa (Rz.ok (D.obj ω.length),ω2.set ω.length (.dk (IG (xs.map fun p=>jz p.1) ds))) else xb)=xa (r,ω') from e);cases e3;refine⟨_,ρ,_,.ok ds,ω2,P0,hv,fun vs ok3 H3 n3 r3 hvl=> ?_⟩;have hc:ω2[ω.length]?=xa (.dk []):=by
     unfold CZ at hd;split at hd
     ·assumption
     ·cases hd
    have al:ok3.al ω.length=xa p:=n3.ex.ids _ _ (by show(if ω.length=ω.length then xa p else _)=_;rw[if_pos rfl]);obtain⟨a,e4,vs0,e5,kv⟩:=n3.st.cell _ _ hc;rw[al] at e4;cases e4;cases kv;have ez:∀(xs:List (Str×OG D)) (vs:List V),(xs.map fun p=>V.str p.1).zip vs=((xs.map fun p=>(jz p.1:Key)).zip vs).map fun kv=>(kV kv.1,kv.2):=by
     intro xs
     induction xs with
     |nil=>intro vs;rfl
     |cons y ys ih=>
      intro vs;cases vs with
      |nil=>rfl
      |cons v vs=>
       rw[bg,bg,mv,mv,bg,ih vs];rfl
    refine⟨e5,(xs.map fun p=>(jz p.1:Key)).zip vs,ez xs vs,by rw[List.length_zip,am];omega,?_⟩;have nw:=Nw.write (o:=.dK (_root_.L2.mergeK [] ((xs.map fun p:Str×OG D=>(jz p.1:Key)).zip vs))) (ob:=.dk (IG (xs.map fun p:Str×OG D=>(jz p.1:Key)) ds)) n3.okh n3.st al e5 fun dat=>⟨_,aP,KvR.disp (ks:=xs.map fun p:Str×OG D=>(jz p.1:Key)) (r3.mono dat) .nil⟩;exact q _ ok3 _ (n0.trans (n3.trans nw)) (.obj (nw.ex.ids _ _ al))
end
section
variable {P:dm}{w:dr}{K:aa}{mg:Str->Option ag}{base:c9}{cls exC:Nat->af}
def Bod (P:dm) (w:dr) (K:aa) (mg:Str->Option ag) (base:c9) (cls exC:Nat->af) (k:Nat) (N:List Str) (q:Str) (st:cz) (G:OS):Prop:=∀(f:af) (cdv:ag) (A:d8) (outer:List Env) (s:au) (H:Hp) (E:XK),Room k (A.deeper (jj q (bH st) s.heap.objs.size f cdv))->(A.deeper (jj q (bH st) s.heap.objs.size f cdv)).units+8<fe->(A.deeper (jj q (bH st) s.heap.objs.size f cdv)).units+1<fe->(A.deeper (jj q (bH st) s.heap.objs.size f cdv)).units+(4+2)<fe->
 Exc (AL (CX1 P w exC) P w K mg base N q (bH st) f cdv A outer s H E) exC (fun c H'=>E (.ref (exC c)) xb H')->Pn (AL (CX1 P w exC) P w K mg base N q (bH st) f cdv A outer s H E) exC (fun c H'=>E (.ref (exC c)) xb H')->OSs (AL (CX1 P w exC) P w K mg base N q (bH st) f cdv A outer s H E) cls (fun c H'=>E (.ref (exC c)) xb H') (fW st) G
theorem Cm {x q:Str}{st:cz}{f:af}{fd:jp}{N ps:List Str}{k:Nat}{G:OS} (F:Fun K x q st f fd) (sc:kX N ps (bH st)) (b:Bod P w K mg base cls exC k N q st G):sE P w K mg base (CX1 P w exC) (k+1) f fd ps (spO cls exC K (eC ps.length N G)):=
 RN F sc fun cdv A outer s H E hr hE hR=>b f cdv A outer s H E hr (FP hr) (Qt hr) (by have h8:(A.deeper (jj q (bH st) s.heap.objs.size f cdv)).units+8<fe:=FP hr;omega) hE hR
def All:Nat->(List ag->Prop)->Prop
 |0,Q=>Q []
 |n+1,Q=>∀ a,All n fun l=>Q (a::l)
theorem All.out:∀ {n:Nat}{Q:List ag->Prop},All n Q->∀ us:List ag,us.length=n->Q us
 |0,_,h,[],_=>h
 |_+1,_,h,a::_,e=>(h a).out _ (Nat.succ.inj e)
def Bnd (x q:Str) (st:cz) (ps:List Str):Prop:=All ps.length fun us=>∀(kV doc pm:ag) (an:Option af) (cdv ct:ag),bindArgs (iu x q (iF st) (fW st) (bH st) .none kV doc pm an cdv ct) ⟨us,[]⟩=pure (ps.zip us)
theorem Bnd.out {x q:Str}{st:cz}{ps:List Str}{f:af}{fd:jp} (h:Bnd x q st ps) (F:Fun K x q st f fd):Binds K fd ps []:=F.binds fun _ _ _ _ _ _ us e=>All.out h us e _ _ _ _ _ _
theorem dfD {x:Str}{st:cz}{N ps:List Str}{k:Nat}{G:OS} (e:∃ f fd,Pk K mg x st f fd) (b:Bod P w K mg base cls exC k N x st G) (sc:kX N ps (bH st):=by constructor <;> first|rfl|decide+kernel) (hb:Bnd x x st ps:=by first|exact fun _ _ _ _ _ _ _=>rfl|exact fun _ _ _ _ _ _ _ _=>rfl|exact fun _ _ _ _ _ _ _ _ _=>rfl|exact fun _ _ _ _ _ _ _ _ _ _=>rfl):nL P w K mg base cls exC (k+1) x ps (eC ps.length N G):=
 let ⟨f,fd,F⟩:=e
 ⟨f,fd,Cm F.fn sc b,F.at_,F.fn.kp,hb.out F.fn⟩
theorem dfM {x q:Str}{st:cz}{N ps:List Str}{k c:Nat}{G:OS} (e:∃ f fd,Fun K x q st f fd/\IX K (cls c) x f) (hc:Cls K (cls c)) (b:Bod P w K mg base cls exC k N q st G) (sc:kX N ps (bH st):=by constructor <;> first|rfl|decide+kernel) (hb:Bnd x q st ps:=by first|exact fun _ _ _ _ _ _ _=>rfl|exact fun _ _ _ _ _ _ _ _=>rfl|exact fun _ _ _ _ _ _ _ _ _=>rfl|exact fun _ _ _ _ _ _ _ _ _ _=>rfl):rJ P w K mg base cls exC (k+1) c x ps (eC ps.length N G):=
 let ⟨f,fd,F,M⟩:=e
 ⟨⟨f,fd,Cm F sc b,M,hb.out F⟩,hc⟩
theorem dfI {x q:Str}{st:cz}{N ps:List Str}{k c:Nat}{C:Str}{G:OS} (e:∃ f fd,Fun K x q st f fd/\Mk K (cls c) f) (hm:mg C=xa (.ref (cls c))) (b:Bod P w K mg base cls exC k N q st G) (sc:kX N ps (bH st):=by constructor <;> first|rfl|decide+kernel) (hb:Bnd x q st ps:=by first|exact fun _ _ _ _ _ _ _=>rfl|exact fun _ _ _ _ _ _ _ _=>rfl|exact fun _ _ _ _ _ _ _ _ _=>rfl|exact fun _ _ _ _ _ _ _ _ _ _=>rfl):Pj P w K mg base cls exC (k+1) c C ps (eC ps.length N G):=
 let ⟨f,fd,F,M⟩:=e
 ⟨⟨f,fd,Cm F sc b,M,hb.out F⟩,hm⟩
end
abbrev FF (K:aa) (mg:Str->Option ag) (x:Str) (st:cz):Prop:=∃ f fd,Pk K mg x st f fd
abbrev FM (K:aa) (C:af) (x q:Str) (st:cz):Prop:=∃ f fd,Fun K x q st f fd/\IX K C x f
abbrev FI (K:aa) (C:af) (x q:Str) (st:cz):Prop:=∃ f fd,Fun K x q st f fd/\Mk K C f
def AllP (p:Str->Str->cz->Prop):List (Str×Str×cz)->Prop
 |[]=>True
 |(x,q,s)::r=>p x q s/\AllP p r
theorem AllP.imp {p p':Str->Str->cz->Prop} (f:∀ x q s,p x q s->p' x q s):∀ {l:List (Str×Str×cz)},AllP p l->AllP p' l
 |[],_=>trivial
 |(_,_,_)::_,⟨a,b⟩=>⟨f _ _ _ a,AllP.imp f b⟩
theorem AllP.get {p:Str->Str->cz->Prop}{x q:Str}{s:cz}:∀ {l:List (Str×Str×cz)} (_:AllP p l) (i:Nat) (_:l[i]?=xa (x,q,s)),p x q s
 |(_,_,_)::_,⟨a,_⟩,0,e=>by cases e;exact a
 |(_,_,_)::_,⟨_,b⟩,i+1,e=>b.get i e
def Rc (K:aa) (C:af) (m qual:Str) (st:cz) (f:af):Prop:=∃(oc:ag) (od an:Option af) (osl:Array (Option ag)) (kV doc pm cdv ct:ag),hX K (.ref C) m=xa (xa (.ref f))/\o9 K (.ref f)=true/\
 K.lookup f=xa ⟨oc,od,.func (iu m qual (iF st) (fW st) (bH st) .none kV doc pm an cdv ct),osl⟩/\j0 K cdv qual=true/\gx K (.ref f)=true
theorem mtIn_mk {K:aa}{C:af}{m qual:Str}{st:cz}{f:af}{oc:ag}{od an:Option af}{osl:Array (Option ag)}{kV doc pm cdv ct:ag} (a:hX K (.ref C) m=xa (xa (.ref f)))
  (l:K.lookup f=xa ⟨oc,od,.func (iu m qual (iF st) (fW st) (bH st) .none kV doc pm an cdv ct),osl⟩) (b:o9 K (.ref f)=true) (c:j0 K cdv qual=true) (k:gx K (.ref f)=true):Rc K C m qual st f:=
 ⟨oc,od,an,osl,kV,doc,pm,cdv,ct,a,b,l,c,k⟩
def mtF (K:aa) (C:af) (m qual:Str) (st:cz):Prop:=∃ f,Rc K C m qual st f
theorem mtF.out {K:aa}{C:af}{m qual:Str}{st:cz} (h:mtF K C m qual st):∃ f fd,Fun K m qual st f fd/\IX K C m f:=by
 obtain⟨f,oc,od,an,osl,kV,doc,pm,cdv,ct,a,b,l,c,k⟩:=h;exact⟨f,_,Ju l c k,a,b,k⟩
def clsIn (K:aa) (x:Str) (C:af):Prop:=cx K ce x=xa (xa (.ref C))
def mkIn (K:aa) (C:af):Prop:=rp K C=true/\gx K (.ref C)=true
theorem mtF.mk {K:aa}{C:af}{qual:Str}{st:cz} (h:mtF K C "__init__" qual st) (k:mkIn K C):FI K C "__init__" qual st:=match h.out with|⟨f,fd,F,M⟩=>⟨f,fd,F,⟨k.1,M.at_,M.fn,k.2⟩⟩
theorem own_mk {K:aa}{C:af}{tl:List ag}{dd:Option af}{cd:ClassData}{k0 k1 k2 k3 k5:Option ag} (h1:K.lookup C=xa ⟨.type "type",dd,.cls cd,#[k0,k1,k2,k3,xa (.builtin "ValueError.__new__"),k5]⟩)
  (h2:cd.mro=.ref C::tl) (h3:cd.hasDel=false) (h4:nh K Ct tl=true) (h5:lh K cd.ns=true) (h6:cx K cd.ns "__init__"=xa xb):ownIn K C tl:=⟨dd,cd,k0,k1,k2,k3,k5,h1,h2,h3,h4,h5,h6⟩
theorem nsOk_mk {K:aa}{N:af}{c:ag}{d:Option af}{es:Array ln}{ep:Nat}{sl:Array (Option ag)} (l:K.lookup N=xa ⟨c,d,.dict es ep,sl⟩) (h:(es.toList.all fun e=>match e.key with|.str _ _=>true|_=>false)=true):lh K N=true:=by
 unfold lh;rw[l];exact vv.symm.trans h
theorem tail_mk {K:aa}{A:af}{r:List ag}{c:ag}{dd:Option af}{cd:ClassData}{sl:Array (Option ag)} (l:K.lookup A=xa ⟨c,dd,.cls cd,sl⟩) (h1:lh K cd.ns=true) (h2:cx K cd.ns "__init__"=xa xb) (h3:nh K Ct r=true):nh K Ct (.ref A::r)=true:=by
 rw[PySem.W.tailIn.eq_2,l]
 show(_||(lh K cd.ns&&cx K cd.ns _==xa xb&&nh K Ct r))=true
 rw[h1,h3,show cx K cd.ns (jq "__init__")=xa xb from h2];simp
noncomputable def nTg:bw->List Str
 |.Name x _=>[x]
 |.Tuple es _ _=>es.filterMap fun|.Name x _=>xa x|_=>xb
 |_=>[]
noncomputable def EL (N:List Str):List (Option Nat)->List Str->List Str
 |[],_=>[]
 |none::r,t::ts=>t::EL N r ts
 |some i::r,ts=>N.getD i ""::EL N r ts
 |none::r,[]=>EL N r []
noncomputable def Qm (sc:ke) (x:Str):Bool:=sc.names.lookup x==xa .local||sc.names.lookup x==xa .cell
noncomputable def slB (N:List Str) (i:Nat) (x:Str):Bool:=decide (N[i]?=xa x)
section
variable {X:Cx}{x y:Str}{i j:Nat}
theorem EI:∀ {a b:Option ia},(a==b)=true->a=b:=by
 intro a b h;cases a with
 |none=>cases b with
  |none=>rfl
  |some _=>cases h
 |some a=>cases b with
  |none=>cases h
  |some b=>cases a <;> cases b <;> first|rfl|cases h
theorem BJ (h:Qm sc x=true):Loc sc x:=(Bool.or_eq_true_iff.mp h).imp EI EI
theorem zZ {N:List Str} (h:slB N i x=true):N[i]?=xa x:=of_decide_eq_true h
theorem dvk (h:(slB X.N i x&&(Qm X.env.scope x||X.env.scope.names.lookup x==xa .free)&& !(x==("__debug__":Str))&& !(x==("__classdict__":Str)))=true):DE X (.Name x pos) (LS i):=by
 simp only[br,ib,ja] at h;refine dv i (zZ h.1.1.1) ?_ h.1.2 h.2;rcases h.1.1.2 with z|z
 ·rcases BJ z with z|z
  ·exact .inl z
  ·exact .inr (.inl z)
 ·exact .inr (.inr (EI z))
noncomputable def nsB (X:Cx) (x:Str) (i:Nat):Bool:=slB X.N i x&&Qm X.env.scope x&&decide X.N.Nodup&&(X.fn x||X.env.scope.names.lookup x==xa .local)
theorem iW (h:nsB X x i=true):X.N.Nodup/\X.N[i]?=xa x/\Loc X.env.scope x/\(X.fn x=true∨X.env.scope.names.lookup x=xa .local):=by
 unfold nsB at h;simp only[br,ib] at h;exact⟨of_decide_eq_true h.1.2,zZ h.1.1.1,BJ h.1.1.2,h.2.imp id EI⟩
theorem RH (h:nsB X x i=true):PG X (.Name x tp) (gR X.K (aS i)):=let ⟨a,b,c,d⟩:=iW h;Lv a b c d
theorem RG (hc:X.calm=true) (h:nsB X x i=true) (h':nsB X y j=true):PG X (.Tuple [.Name x p1,.Name y p2] k tp) (gR X.K (qR i j)):=let ⟨a,b,c,d⟩:=iW h;let ⟨_,b',c',d'⟩:=iW h';Lu hc a b b' c c' d d'
theorem RF {z w:Str}{k l:Nat} (hc:X.calm=true) (h:nsB X x i=true) (h':nsB X y j=true) (h2:nsB X z k=true) (h3:nsB X w l=true):PG X (.Tuple [.Name x p1,.Name y p2,.Name z p3,.Name w p4] kk tp) (gR X.K (IP i j k l)):=
 let ⟨a,b,c,d⟩:=iW h
 let ⟨_,b',c',d'⟩:=iW h'
 let ⟨_,b2,c2,d2⟩:=iW h2
 let ⟨_,b3,c3,d3⟩:=iW h3
 Ls hc a b b' b2 b3 c c' c2 c3 d d' d2 d3
theorem RQ {cls:Nat->af}{E:XE}{e:bw}{fa:OG D}{pos pos':Pos} (h:nsB X x i=true) (he:OE X cls E e fa) (hs:ji e (xa (.Name x pos')) pos.line X.env=pure false:=by rfl):OSt X cls E (.Assign [.Name x pos'] e pos) (aY i fa):=
 let ⟨a,b,c,d⟩:=iW h
 Nv a b c he hs (hf:=d)
theorem Hr {cls:Nat->af}{E:XE}{tg iter elt:bw}{ifs:List bw}{scope:ke}{caps:List (Option Nat)}{fi:OI'}{bd:BR}{t:OG Bool}{f:OG D}{pos:Pos} (Fn:Fin fin) (h1:X.calm=true) (h2:scope.kind=.function) (h3:(AN scope&&FY X.env.scope scope&&nB X.N X.env.scope scope (EL X.N caps (nTg tg)) caps)=true) (hi:OI X cls E tg iter fi)
  (hb:∀ cells C fp pins s₀ H₀,PG (blk X (EL X.N caps (nTg tg)) scope cells C fp pins s₀ H₀) tg (gR X.K bd)/\Mh (blk X (EL X.N caps (nTg tg)) scope cells C fp pins s₀ H₀) cls EF ifs t/\OE (blk X (EL X.N caps (nTg tg)) scope cells C fp pins s₀ H₀) cls EF elt f)
  (hs:∀ x,gq iter X.env x=pure x:=by intro _;rfl):OE X cls E (.ListComp elt [⟨tg,iter,ifs,0⟩] scope pos) (dI fin fi caps bd t f):=by
 simp only[br] at h3;exact KO Fn (yT h1 h2 h3.1.1 h3.1.2 h3.2) hi hb hs
theorem Hh {cls:Nat->af}{E:XE}{tg iter elt:bw}{ifs:List bw}{scope:ke}{caps:List (Option Nat)}{fi:OI'}{bd:BR}{t:OG Bool}{f:OG D}{pos spos py:Pos} (Fn:Fin fin) (h:(slB X.N i y&&(X.env.scope.names.lookup y==xa .local)&&decide X.N.Nodup)=true) (h1:X.calm=true) (h2:scope.kind=.function) (h3:(AN scope&&FY X.env.scope scope&&nB X.N X.env.scope scope (EL X.N caps (nTg tg)) caps)=true) (hi:OI X cls E tg iter fi)
  (hb:∀ cells C fp pins s₀ H₀,PG (blk X (EL X.N caps (nTg tg)) scope cells C fp pins s₀ H₀) tg (gR X.K bd)/\Mh (blk X (EL X.N caps (nTg tg)) scope cells C fp pins s₀ H₀) cls EF ifs t/\OE (blk X (EL X.N caps (nTg tg)) scope cells C fp pins s₀ H₀) cls EF elt f)
  (hsw:ji (.ListComp elt [⟨tg,iter,ifs,0⟩] scope pos) (xa (.Name y py)) spos.line X.env=pure true:=by rfl)
  (hs:∀ x,gq iter X.env x=pure x:=by intro _;rfl):OSt X cls E (.Assign [.Name y py] (.ListComp elt [⟨tg,iter,ifs,0⟩] scope pos) spos) (aY i (dI fin fi caps bd t f)):=by
 simp only[br] at h h3;exact Kq Fn (of_decide_eq_true h.2) (zZ h.1.1) (EI h.1.2) (yT h1 h2 h3.1.1 h3.1.2 h3.2) hi hb hsw hs
end
noncomputable abbrev zV (i:Nat):OG D:=oP (LS i)
noncomputable abbrev zI (i:Int):OG D:=oP (dC (.int i))
noncomputable abbrev zS (x:Str):OG D:=oP (dC (.str x))
noncomputable abbrev zX (f g:OG D):OG D:=o2 (fun ω a b=>pu (pZ ω a b) ω) f g
noncomputable abbrev zD (f g:OG D):OG D:=o2 (fun ω a b=>pu (iD ω a b) ω) f g
noncomputable abbrev zT (f:OG (List D)):OG D:=oL (fun ω ds=>pu (rP ds) ω) f
noncomputable abbrev zL (f:OG (List D)):OG D:=oL (fun ω ds=>pu (Ib ds) ω) f
noncomputable def lW (ω:Om) (d:D):D:=match fK ω d with
 |some ds=>.lst (ds.map (eB ω))
 |none=>d
theorem tR {K:aa} (t:Stt cls K ok H ω):∀ {vs:List V}{ds:List D},Reps K ok H vs ds->Reps K ⟨fun _=>True,ok.al⟩ H vs (ds.map (eB ω))
 |_,_,.nil=>.nil
 |_,_,.cons q r=>.cons (gM t q) (tR t r)
theorem tS {K:aa} (t:Stt cls K ok H ω) (r:Rep K ok H v d):Rep K ⟨fun _=>True,ok.al⟩ H v (lW ω d):=by
 unfold lW;cases e:fK ω d with
 |none=>exact r.wide
 |some ds=>
  obtain⟨a,xs,rfl,g,rs⟩:=fC t r e;exact Rep.lst ⟨trivial,g⟩ (tR t rs)
noncomputable def Pg (n:Nat) (ω:Om) (a b:D):Option (D×Om):=pu (gNe n (lW ω a) (lW ω b)) ω
theorem LD {K:aa}:wH cls K (PM K n) (Pg n):=fun ok H ω x y a b d ω' Q h1 st ra rb e k=>by
 obtain⟨ue,rfl⟩:=cR e;obtain⟨c,e1,rfl⟩:=aI ue;exact⟨_,_,_,c,tS st ra,tS st rb,e1,k _ ok H (.refl h1 st) (.bl _)⟩
section
variable {X:Cx}{cls:Nat->af}{E:XE}
theorem Nl (hu:IY X n) (ha:OE X cls E a fa) (hb:OE X cls E b fb):OT X cls E (.Compare a [.NotEq] [b] pos) (bX (MB.o2 (Pg n) fa fb)):=kC (Jk hu) LD ha hb (kF _)
end
end L2.MB
end
section
namespace L2.MB.Lw
open PySem PySem.Spec PyProof.Rows L2.MB
abbrev Dy:List Str:=["seen","mark"]
abbrev Du:List Str:=["seen","mark"]
noncomputable abbrev Dg:OS:=(aW (o2 (lf gLe) (zX (zV 1) (zI 1)) (zX (zV 0) (zX (zV 1) (zI 0)))))
noncomputable def fL:eN:=eC 2 Dy Dg
abbrev Cq:List Str:=["one","other"]
abbrev IV:List Str:=["one","other"]
noncomputable abbrev HY:OS:=(aW (dI Ir (oIZ (aC (zV 0) (aC (zV 1) aO))) [xb,xb] (qR 0 1) (oPT kZ) (oL (lfL yG) (aC (zV 0) (aC (zV 1) aO)))))
noncomputable def gU:eN:=eC 2 Cq HY
abbrev wC:List Str:=["rows","least","row"]
abbrev IW:List Str:=["rows"]
noncomputable abbrev fT:OS:=(aY 1 (dI yK (oIZ (aC (zV 1) (aC (zV 2) aO))) [xb,xb] (qR 0 1) (oPT kZ) (oL (lfL Ia) (aC (zV 0) (aC (zV 1) aO)))))
noncomputable abbrev BY:OS:=(aG (aY 1 (oL iL (aC (zX (zV 0) (zI 0)) aO))) (aG (sNx (bD (oIL (oSl (zV 0) (dSo (dC (.int 1))) dNo)) (aS 2) fT)) (aW (zV 1))))
noncomputable def nS:eN:=eC 1 wC BY
abbrev Gq:List Str:=["one","other"]
abbrev Me:List Str:=["one","other"]
noncomputable abbrev Ly:OS:=(aW (oL (lfL Pf) (aC (dI yK (oIZ (aC (zV 0) (aC (zV 1) aO))) [xb,xb] (qR 0 1) (oPT kZ) (oL (lfL yG) (aC (o2 (lf gSub) (zV 1) (zV 0)) (aC (zI 0) aO)))) aO)))
noncomputable def Ac:eN:=eC 2 Gq Ly
abbrev Bf:List Str:=["self"]
abbrev AV:List Str:=["self"]
noncomputable abbrev As:OS:=(aW (zX (fX 0 "knows" (zV 0)) (fX 0 "number" (zV 0))))
noncomputable def bY:eN:=eC 1 Bf As
abbrev Gr:List Str:=["entries","hand"]
abbrev Gn:List Str:=["entries","hand"]
noncomputable abbrev Fl:OS:=(aW (dI yK (oIL (zV 0)) [xb,xa 1] (aS 0) (oOr (bX (o2 (fun ω a b=>pu (Mo ω a b) ω) (zX (zV 0) (zI 1)) (fX 0 "table" (zV 1)))) (iV (iP (bR fL (aC (bL 0 "seen" bY (zV 1) aO) (aC (zX (zV 0) (zI 1)) aO)))))) (zV 0)))
noncomputable def lJ:eN:=eC 2 Gr Fl
abbrev wD:List Str:=["self","number","count"]
abbrev vV:List Str:=["self","number","count"]
noncomputable abbrev lR:OS:=(aG (nE 0 "number" (zV 0) (zV 1)) (aG (nE 0 "knows" (zV 0) (dI Ir (oIA iM (aC (zV 2) aO)) [xb,xa 2] (aS 0) (oPT kZ) (o2 Av (zL (aC (zI 0) aO)) (zV 1)))) (aG (nE 0 "table" (zV 0) uS) (nE 0 "kept" (zV 0) uS))))
noncomputable def dU:eN:=eC 3 wD lR
abbrev sD:List Str:=["self"]
abbrev rY:List Str:=["self"]
noncomputable abbrev rO:OS:=(aW (Ht 4 (fX 0 "table" (zV 0))))
noncomputable def bW:eN:=eC 1 sD rO
abbrev zM:List Str:=["self"]
abbrev zJ:List Str:=["self"]
noncomputable abbrev yF:OS:=(aW (dI yK (oIL (fX 0 "knows" (zV 0))) [xb] (aS 0) (oPT kZ) (oL iL (aC (zV 0) aO))))
noncomputable def fZ:eN:=eC 1 zM yF
abbrev sC:List Str:=["self"]
abbrev rX:List Str:=["self"]
noncomputable abbrev rN:OS:=(aW (dI yK (oIL (oL (Fu 4) (aC (fX 0 "kept" (zV 0)) aO))) [xb,xa 0] (aS 0) (oPT kZ) (zT (aC (zV 0) (aC (oL iL (aC (zD (fX 0 "kept" (zV 1)) (zV 0)) aO)) aO)))))
noncomputable def eP:eN:=eC 1 sC rN
abbrev rG:List Str:=["self","seen"]
abbrev rA:List Str:=["self"]
noncomputable abbrev jD:OS:=(aG (aY 1 (bL 0 "seen" bY (zV 0) aO)) (aG (iR pY (zV 1) (fX 0 "number" (zV 0)) (o2 (lf yH) (zX (zV 1) (fX 0 "number" (zV 0))) (zI 1))) (aW (zT (aC (fX 0 "number" (zV 0)) (aC (zX (zV 1) (fX 0 "number" (zV 0))) aO))))))
noncomputable def cZ:eN:=eC 1 rG jD
abbrev Dz:List Str:=["self","name","value","mark"]
abbrev Dv:List Str:=["self","name","value"]
noncomputable abbrev tL:OS:=(aG (aY 3 (bL 0 "new_mark" cZ (zV 0) aO)) (aG (iR nG (fX 0 "table" (zV 0)) (zV 3) (zT (aC (zV 1) (aC (zV 3) (aC (zV 2) aO))))) (aW (zV 3))))
noncomputable def eK:eN:=eC 3 Dz tL
abbrev iK:List Str:=["self","seen_by_all","kept","deed"]
abbrev vW:List Str:=["self"]
noncomputable abbrev aU:OS:=(dG (iV (iP (bR fL (aC (zV 1) (aC (zV 3) aO))))) (iR nG (zV 2) (zV 3) (zD (fX 0 "kept" (zV 0)) (zV 3))) bN)
noncomputable abbrev iC:OS:=(aG (aY 1 (bR nS (aC (fX 0 "knows" (zV 0)) aO))) (aG (aY 2 uS) (aG (sNx (JH (fX 0 "kept" (zV 0)) (aS 3) aU)) (nE 0 "kept" (zV 0) (zV 2)))))
noncomputable def fG:eN:=eC 1 iK iC
abbrev jK:List Str:=["self","deed","marks","mark"]
abbrev qZ:List Str:=["self","deed","marks"]
noncomputable abbrev cI:OS:=(bT (pE Fx (fX 0 "table" (zV 0)) (aC (zV 3) aO)))
noncomputable abbrev jC:OS:=(aG (sNx (bD (oIL (zV 2)) (aS 3) cI)) (aG (dG (iP (zV 2)) (iR nG (fX 0 "kept" (zV 0)) (zV 1) (oL Fq (aC (zV 2) aO))) bN) (bT (bL 0 "forget" fG (zV 0) aO))))
noncomputable def cY:eN:=eC 3 jK jC
abbrev jL:List Str:=["self","name"]
abbrev rB:List Str:=["self","name"]
noncomputable abbrev pW:OS:=(aW (dI yK (oIL (bL 0 "entries" bW (zV 0) aO)) [xb,xa 1] (aS 0) (bX (o2 (jT 8) (zX (zV 0) (zI 0)) (zV 1))) (zX (zV 0) (zI 1))))
noncomputable def dA:eN:=eC 2 jL pW
abbrev wE:List Str:=["self","name","value","marks","mark"]
abbrev vX:List Str:=["self","name","value"]
noncomputable abbrev lS:OS:=(aG (aY 3 (bL 0 "marks_of" dA (zV 0) (aC (zV 1) aO))) (aG (aY 4 (bL 0 "put" eK (zV 0) (aC (zV 1) (aC (zV 2) aO)))) (aG (bT (bL 0 "take_out" cY (zV 0) (aC (zV 4) (aC (zV 3) aO)))) (aW (zV 4)))))
noncomputable def dW:eN:=eC 3 wE lS
abbrev Be:List Str:=["self","name","marks"]
abbrev AU:List Str:=["self","name"]
noncomputable abbrev kR:OS:=(aG (aY 2 (bL 0 "marks_of" dA (zV 0) (aC (zV 1) aO))) (aG (dG (iV (iP (zV 2))) (aW (oP (dC .non))) bN) (aG (bT (bL 0 "take_out" cY (zV 0) (aC (bL 0 "new_mark" cZ (zV 0) aO) (aC (zV 2) aO)))) (aW (zV 2)))))
noncomputable def fO:eN:=eC 2 Be kR
abbrev Bg:List Str:=["self","teller","many","seen","table","entry"]
abbrev AW:List Str:=["self","teller"]
noncomputable abbrev eR:OS:=(iR nG (zV 4) (zX (zV 5) (zI 1)) (zV 5))
noncomputable abbrev pX:OS:=(aG (aY 2 (bR Ac (aC (bL 0 "seen" bY (zV 0) aO) (aC (bL 0 "seen" bY (zV 1) aO) aO)))) (aG (aY 3 (bR gU (aC (bL 0 "seen" bY (zV 0) aO) (aC (bL 0 "seen" bY (zV 1) aO) aO)))) (aG (aY 4 uS) (aG (sNx (bD (oIL (o2 Fz (bR lJ (aC (bL 0 "entries" bW (zV 0) aO) (aC (zV 1) aO))) (bR lJ (aC (bL 0 "entries" bW (zV 1) aO) (aC (zV 0) aO))))) (aS 5) eR)) (aG (nE 0 "table" (zV 0) (zV 4)) (aG (nE 0 "knows" (zV 0) (dI Ir (oIZ (aC (fX 0 "knows" (zV 0)) (aC (fX 0 "knows" (zV 1)) aO))) [xb,xb] (qR 0 1) (oPT kZ) (bR gU (aC (zV 0) (aC (zV 1) aO))))) (aG (iR pY (fX 0 "knows" (zV 0)) (fX 0 "number" (zV 0)) (zV 3)) (aG (bT (pE Fp (fX 0 "kept" (zV 0)) (aC (fX 0 "kept" (zV 1)) aO))) (aG (bT (bL 0 "forget" fG (zV 0) aO)) (aW (zV 2)))))))))))
noncomputable def cL:eN:=eC 2 Bg pX
abbrev wF:List Str:=["self","count"]
abbrev vY:List Str:=["self","count"]
noncomputable abbrev lU:OS:=(nE 1 "hands" (zV 0) (dI yK (oIA iM (aC (zV 1) aO)) [xb,xa 1] (aS 0) (oPT kZ) (uT 0 dU (aC (zV 0) (aC (zV 1) aO)))))
noncomputable def gW:eN:=eC 2 wF lU
abbrev Bl:List Str:=["self","number"]
abbrev Bb:List Str:=["self","number"]
noncomputable abbrev kU:OS:=(aG (dG (iV (sR gLe gLt (zI 0) (zV 1) (oL iN (aC (fX 1 "hands" (zV 0)) aO)))) (Bv 0 (dC (.str "there is no hand of that number"))) bN) (aW (zX (fX 1 "hands" (zV 0)) (zV 1))))
noncomputable def bQ:eN:=eC 2 Bl kU
abbrev Bj:List Str:=["self","one","other","hands"]
abbrev AZ:List Str:=["self","one","other"]
noncomputable abbrev fU:OS:=(aG (aY 3 (zT (aC (bL 1 "hand" bQ (zV 0) (aC (zV 1) aO)) (aC (bL 1 "hand" bQ (zV 0) (aC (zV 2) aO)) aO)))) (aG (dG (bX (o2 (jT 8) (zV 1) (zV 2))) (Bv 1 (dC (.str "a hand can't tell or meet itself"))) bN) (aW (zV 3))))
noncomputable def bZ:eN:=eC 3 Bj fU
abbrev DC:List Str:=["self","number","name","value"]
abbrev Dw:List Str:=["self","number","name","value"]
noncomputable abbrev Dh:OS:=(aW (bL 0 "put" eK (bL 1 "hand" bQ (zV 0) (aC (zV 1) aO)) (aC (zV 2) (aC (zV 3) aO))))
noncomputable def gJ:eN:=eC 4 DC Dh
abbrev wG:List Str:=["self","number","name","value"]
abbrev vZ:List Str:=["self","number","name","value"]
noncomputable abbrev vF:OS:=(aW (bL 0 "change" dW (bL 1 "hand" bQ (zV 0) (aC (zV 1) aO)) (aC (zV 2) (aC (zV 3) aO))))
noncomputable def dX:eN:=eC 4 wG vF
abbrev Bi:List Str:=["self","number","name"]
abbrev AY:List Str:=["self","number","name"]
noncomputable abbrev At:OS:=(aW (bL 0 "take" fO (bL 1 "hand" bQ (zV 0) (aC (zV 1) aO)) (aC (zV 2) aO)))
noncomputable def fQ:eN:=eC 3 Bi At
abbrev Bh:List Str:=["self","one","other","hands"]
abbrev AX:List Str:=["self","one","other"]
noncomputable abbrev kS:OS:=(aG (aY 3 (bL 1 "pair" bZ (zV 0) (aC (zV 1) (aC (zV 2) aO)))) (aW (bL 0 "hear" cL (zX (zV 3) (zI 1)) (aC (zX (zV 3) (zI 0)) aO))))
noncomputable def fP:eN:=eC 3 Bh kS
abbrev Bk:List Str:=["self","one","other","hands","many","gained"]
abbrev Ba:List Str:=["self","one","other"]
noncomputable abbrev kT:OS:=(aG (aY 3 (bL 1 "pair" bZ (zV 0) (aC (zV 1) (aC (zV 2) aO)))) (aG (aY 4 (bL 0 "hear" cL (zX (zV 3) (zI 1)) (aC (zX (zV 3) (zI 0)) aO))) (aG (aY 5 (zT (aC (bL 0 "hear" cL (zX (zV 3) (zI 0)) (aC (zX (zV 3) (zI 1)) aO)) (aC (zV 4) aO)))) (aG (bT (bL 0 "hear" cL (zX (zV 3) (zI 1)) (aC (zX (zV 3) (zI 0)) aO))) (aW (zV 5))))))
noncomputable def fR:eN:=eC 3 Bk kT
abbrev OY:List Str:=["hall","deed","kind"]
abbrev OX:List Str:=["hall","deed"]
noncomputable abbrev tK:OS:=(aG (aY 2 (zX (zV 1) (zI 0))) (aG (dG (bX (o2 (jT 8) (zV 2) (zS "put"))) (aW (bL 1 "put" gJ (zV 0) (aC (zX (zV 1) (zI 1)) (aC (zX (zV 1) (zI 2)) (aC (zX (zV 1) (zI 3)) aO))))) bN) (aG (dG (bX (o2 (jT 8) (zV 2) (zS "change"))) (aW (bL 1 "change" dX (zV 0) (aC (zX (zV 1) (zI 1)) (aC (zX (zV 1) (zI 2)) (aC (zX (zV 1) (zI 3)) aO))))) bN) (aG (dG (bX (o2 (jT 8) (zV 2) (zS "take"))) (aW (bL 1 "take" fQ (zV 0) (aC (zX (zV 1) (zI 1)) (aC (zX (zV 1) (zI 2)) aO)))) bN) (aG (dG (bX (o2 (jT 8) (zV 2) (zS "tell"))) (aW (bL 1 "tell" fP (zV 0) (aC (zX (zV 1) (zI 1)) (aC (zX (zV 1) (zI 2)) aO)))) bN) (aW (bL 1 "meet" fR (zV 0) (aC (zX (zV 1) (zI 1)) (aC (zX (zV 1) (zI 2)) aO)))))))))
noncomputable def kB:eN:=eC 2 OY tK
abbrev Bd:List Str:=["hall","deed"]
abbrev AT:List Str:=["hall","deed"]
noncomputable abbrev iB:OS:=(wY (aW (bR kB (aC (zV 0) (aC (zV 1) aO)))) 0 (aW (zS "no hand")) 1 (aW (zS "same hand")))
noncomputable def eJ:eN:=eC 2 Bd iB
abbrev Gu:List Str:=["count","deeds","hall","deed"]
abbrev Mf:List Str:=["count","deeds"]
noncomputable abbrev eL:OS:=(bT (bR eJ (aC (zV 2) (aC (zV 3) aO))))
noncomputable abbrev Fo:OS:=(aG (aY 2 (uT 1 gW (aC (zV 0) aO))) (aG (sNx (bD (oIL (zV 1)) (aS 3) eL)) (aW (zT (aC (dI yK (oIL (fX 1 "hands" (zV 2))) [xb] (aS 0) (oPT kZ) (bL 0 "entries" bW (zV 0) aO)) (aC (dI yK (oIL (fX 1 "hands" (zV 2))) [xb] (aS 0) (oPT kZ) (oL iL (aC (bL 0 "seen" bY (zV 0) aO) aO))) (aC (dI yK (oIL (fX 1 "hands" (zV 2))) [xb] (aS 0) (oPT kZ) (bL 0 "known" fZ (zV 0) aO)) (aC (dI yK (oIL (fX 1 "hands" (zV 2))) [xb] (aS 0) (oPT kZ) (bL 0 "in_mind" eP (zV 0) aO)) aO))))))))
noncomputable def Ad:eN:=eC 2 Gu Fo
abbrev Bc:List Str:=["_law_found"]
abbrev AQ:List Str:=["_law_found"]
noncomputable abbrev Ar:OS:=(aW (NY (nU "int" (zV 0)) (NW (nU "bool" (zV 0)))))
noncomputable def gQ:eN:=eC 1 Bc Ar
abbrev oG:List Str:=["_law_script","_law_k"]
abbrev IU:List Str:=["_law_script","_law_k"]
noncomputable abbrev vE:OS:=(aG (dG (bX (o2 (lf gLt) (zV 1) (oL iN (aC (zV 0) aO)))) (aW (zX (zV 0) (zV 1))) bN) (aW (zI 0)))
noncomputable def uP:eN:=eC 2 oG vE
abbrev rF:List Str:=["_law_count","_law_deeds","_law_handed","_law_found"]
abbrev qY:List Str:=["_law_count","_law_deeds"]
noncomputable abbrev jB:OS:=(aG (aY 2 (oL iL (aC (zV 1) aO))) (aG (aY 3 (bR Ad (aC (zV 0) (aC (zV 2) aO)))) (aG (dG (oOr (bX (o2 (Aw 8) (zV 2) (zV 1))) (oOr (iV (iP (nU "tuple" (zV 3)))) (bX (o2 (Aw 8) (oL iN (aC (zV 3) aO)) (zI 4))))) (aW (zT (aC (oP (dC .non)) (aC (oP (dC .non)) (aC (oP (dC .non)) (aC (oP (dC .non)) aO)))))) bN) (aW (zV 3)))))
noncomputable def fN:eN:=eC 2 rF jB
abbrev Gs:List Str:=["_law_count","_law_large"]
abbrev Go:List Str:=["_law_count"]
noncomputable abbrev Fm:OS:=(aG (aY 1 (zI 100000000000000000000)) (aW (zL (aC (oP (d1 Qv (dC (.int 1)))) (aC (zV 0) (aC (oP (d1 Qv (dC (.int 2)))) (aC (o2 (lf gSub) (zI 0) (zV 0)) (aC (zV 1) (aC (o2 (lf gSub) (zI 0) (zV 1)) aO)))))))))
noncomputable def eX:eN:=eC 1 Gs Fm
abbrev Dx:List Str:=["_law_j","_law_count"]
abbrev Dt:List Str:=["_law_j","_law_count"]
noncomputable abbrev Df:OS:=(aG (dG (bX (o2 (jT 8) (o2 (lf cV) (zV 1) (zI 2)) (zI 0))) (aW (o2 (lf LB) (o2 (lf LB) (o2 (lf LA) (zS "o") (o2 (lf cV) (zV 1) (zI 5))) (zX (zS "abcd") (zV 0))) (o2 (lf LA) (zS "o") (o2 (lf gSub) (zI 5) (o2 (lf cV) (zV 1) (zI 5)))))) bN) (aW (zX (zL (aC (zS "oats") (aC (zS "oat") (aC (zS "") (aC (zS "oatsack") aO))))) (zV 0))))
noncomputable def jP:eN:=eC 2 Dx Df
abbrev mE:List Str:=["_law_cell","_law_k","_law_count","_law_way","_law_one","_law_other","_law_name","_law_values","_law_value"]
abbrev vU:List Str:=["_law_cell","_law_k","_law_count"]
noncomputable abbrev vA:OS:=(aG (aY 3 (o2 (lf cV) (o2 (lf cV) (o2 (lf iQ) (zV 0) (zI 48271)) (zI 1009)) (zI 16))) (aG (aY 4 (o2 (lf cV) (o2 (lf cV) (o2 (lf iQ) (o2 (lf yH) (zV 0) (zV 1)) (zI 48271)) (zI 1013)) (zV 2))) (aG (aY 5 (zV 4)) (aG (dG (BD (bX (o2 (lf gGt) (zV 2) (zI 1))) (bX (o2 (lf gGt) (o2 (lf cV) (o2 (lf cV) (o2 (lf iQ) (zV 0) (zI 48271)) (zI 1019)) (zI 19)) (zI 0)))) (aY 5 (o2 (lf cV) (o2 (lf yH) (o2 (lf yH) (zV 4) (zI 1)) (o2 (lf cV) (o2 (lf cV) (o2 (lf iQ) (zV 0) (zI 48271)) (zI 1021)) (o2 (lf gSub) (zV 2) (zI 1)))) (zV 2))) bN) (aG (aY 6 (bR jP (aC (o2 (lf cV) (o2 (lf cV) (o2 (lf iQ) (zV 0) (zI 48271)) (zI 1031)) (zI 4)) (aC (zV 2) aO)))) (aG (aY 7 (zL (aC (o2 (lf gSub) (o2 (lf cV) (o2 (lf cV) (o2 (lf iQ) (zV 0) (zI 48271)) (zI 1033)) (zI 9)) (zI 4)) (aC (o2 (lf gSub) (zI 0) (zV 1)) (aC (o2 (lf yH) (zI 100000000000000000000) (zV 1)) aO))))) (aG (aY 8 (zX (zV 7) (o2 (lf cV) (o2 (lf cV) (o2 (lf iQ) (zV 0) (zI 48271)) (zI 1039)) (zI 3)))) (aG (dG (bX (o2 (jT 8) (o2 (lf cV) (o2 (lf cV) (o2 (lf iQ) (zV 0) (zI 48271)) (zI 1049)) (zI 31)) (zI 30))) (aY 4 (zX (bR eX (aC (zV 2) aO)) (o2 (lf cV) (o2 (lf cV) (o2 (lf iQ) (zV 0) (zI 48271)) (zI 1051)) (zI 6)))) bN) (aG (dG (bX (o2 (jT 8) (o2 (lf cV) (o2 (lf cV) (o2 (lf iQ) (zV 0) (zI 48271)) (zI 1061)) (zI 31)) (zI 30))) (aY 5 (zX (bR eX (aC (zV 2) aO)) (o2 (lf cV) (o2 (lf cV) (o2 (lf iQ) (zV 0) (zI 48271)) (zI 1063)) (zI 6)))) bN) (aG (dG (bX (o2 (lf gLt) (zV 3) (zI 5))) (aW (zT (aC (zS "put") (aC (zV 4) (aC (zV 6) (aC (zV 8) aO)))))) bN) (aG (dG (bX (o2 (lf gLt) (zV 3) (zI 7))) (aW (zT (aC (zS "take") (aC (zV 4) (aC (zV 6) aO))))) bN) (aG (dG (bX (o2 (lf gLt) (zV 3) (zI 9))) (aW (zT (aC (zS "change") (aC (zV 4) (aC (zV 6) (aC (zV 8) aO)))))) bN) (aW (zT (aC (zX (zL (aC (zS "tell") (aC (zS "meet") aO))) (oL (lfL Pi) (aC (o2 (lf gGt) (zV 3) (zI 11)) aO))) (aC (zV 4) (aC (zV 5) aO)))))))))))))))))
noncomputable def gT:eN:=eC 3 mE vA
abbrev rE:List Str:=["_law_cells","_law_count","_law_deeds","_law_k"]
abbrev AS:List Str:=["_law_cells","_law_count"]
noncomputable abbrev eQ:OS:=(bT (kD jZ (zV 2) (aC (bR gT (aC (o2 (lf yH) (zX (zV 0) (zV 3)) (o2 (lf iQ) (zI 7) (zV 3))) (aC (zV 3) (aC (zV 1) aO)))) aO)))
noncomputable abbrev pV:OS:=(aG (aY 2 (oL Gx aO)) (aG (sNx (bD (oIA iM (aC (oL iN (aC (zV 0) aO)) aO)) (aS 3) eQ)) (aW (zV 2))))
noncomputable def kO:eN:=eC 2 rE pV
abbrev jJ:List Str:=["_law_count","_law_hall"]
abbrev Gp:List Str:=["_law_count"]
noncomputable abbrev yE:OS:=(aG (aY 1 (CK [("count",(zV 0)),("deeds",uS),("order",(oL Gx aO))])) (aG (iR nG (zV 1) (zS "known") (dI Ir (oIA iM (aC (zV 0) aO)) [xb,xa 0] (aS 0) (oPT kZ) (dI Ir (oIA iM (aC (zV 1) aO)) [xb,xa 1] (aS 0) (oPT kZ) (o2 Av (zL (aC (zI 0) aO)) (zV 1))))) (aW (zV 1))))
noncomputable def pB:eN:=eC 1 jJ yE
abbrev wB:List Str:=["_law_hall","_law_seen","_law_gone","_law_there","_law_mark","_law_put","_law_outs"]
abbrev vT:List Str:=["_law_hall","_law_seen"]
noncomputable abbrev bF:OS:=(dG (bX (o2 (lf gLe) (zX (zV 4) (zI 1)) (zX (zV 1) (zX (zV 4) (zI 0))))) (aG (CB (qR 5 6) (zD (zD (zV 0) (zS "deeds")) (zV 4))) (aG (aY 2 (o2 Fz (zV 2) (zV 6))) (dG (bX (o2 (lf Lz) (zV 5) (oP (dC .non)))) (bT (kD jZ (zV 3) (aC (zT (aC (zX (zV 5) (zI 0)) (aC (zV 4) (aC (zX (zV 5) (zI 1)) aO)))) aO))) bN))) bN)
noncomputable abbrev lQ:OS:=(aG (aY 2 (zL aO)) (aG (aY 3 (oL Gx aO)) (aG (sNx (bD (oIL (zD (zV 0) (zS "order"))) (aS 4) bF)) (aW (oL (Ft 4) (aC (dI yK (oIL (zV 3)) [xb,xa 2] (aS 0) (bX (o2 (lf (BZ 7)) (zX (zV 0) (zI 1)) (zV 1))) (zV 0)) aO))))))
noncomputable def gS:eN:=eC 2 wB lQ
abbrev rC:List Str:=["_law_hall","_law_own","_law_put","_law_outs","_law_seen"]
abbrev AR:List Str:=["_law_hall","_law_own","_law_put","_law_outs"]
noncomputable abbrev pU:OS:=(aG (aY 4 (oL tM (aC (zX (zX (zD (zV 0) (zS "known")) (zV 1)) (zV 1)) aO))) (aG (iR pY (zV 4) (zV 1) (o2 (lf yH) (zX (zV 4) (zV 1)) (zI 1))) (aG (iR pY (zX (zD (zV 0) (zS "known")) (zV 1)) (zV 1) (zV 4)) (aG (iR nG (zD (zV 0) (zS "deeds")) (zT (aC (zV 1) (aC (zX (zV 4) (zV 1)) aO))) (zT (aC (zV 2) (aC (zV 3) aO)))) (aG (bT (kD jZ (zD (zV 0) (zS "order")) (aC (zT (aC (zV 1) (aC (zX (zV 4) (zV 1)) aO))) aO))) (aW (zT (aC (zV 1) (aC (zX (zV 4) (zV 1)) aO)))))))))
noncomputable def cW:eN:=eC 4 rC pU
abbrev rD:List Str:=["_law_hall","_law_one","_law_other","_law_left","_law_right","_law_before","_law_made","_law_k","_law_row","_law_j","_law_most"]
abbrev qX:List Str:=["_law_hall","_law_one","_law_other"]
noncomputable abbrev cU:OS:=(aG (aY 10 (oL (lfL yG) (aC (zX (zX (zV 3) (zV 7)) (zV 9)) (aC (zX (zX (zV 4) (zV 7)) (zV 9)) aO)))) (aG (dG (bX (o2 (jT 8) (zV 7) (zV 2))) (aY 10 (oL (lfL yG) (aC (zV 10) (aC (zX (zX (zV 3) (zV 1)) (zV 9)) aO)))) bN) (bT (kD jZ (zV 8) (aC (zV 10) aO)))))
noncomputable abbrev cT:OS:=(aG (aY 8 (oL Gx aO)) (aG (sNx (bD (oIA iM (aC (zD (zV 0) (zS "count")) aO)) (aS 9) cU)) (bT (kD jZ (zV 6) (aC (zV 8) aO)))))
noncomputable abbrev jA:OS:=(aG (aY 3 (zX (zD (zV 0) (zS "known")) (zV 1))) (aG (aY 4 (zX (zD (zV 0) (zS "known")) (zV 2))) (aG (aY 5 (oL Au (aC (zX (zV 4) (zV 2)) aO))) (aG (aY 6 (oL Gx aO)) (aG (sNx (bD (oIA iM (aC (zD (zV 0) (zS "count")) aO)) (aS 7) cT)) (aG (iR pY (zD (zV 0) (zS "known")) (zV 2) (zV 6)) (aW (o2 (lf gSub) (oL Au (aC (zX (zV 6) (zV 2)) aO)) (zV 5)))))))))
noncomputable def cX:eN:=eC 3 rD jA
abbrev nK:List Str:=["_law_hall","_law_deed","_law_count","_law_number","_law_own","_law_rows","_law_marks","_law_many","_law_more"]
abbrev nJ:List Str:=["_law_hall","_law_deed"]
noncomputable abbrev aE:OS:=(dG (BD (iV (iP (nU "str" (zV 3)))) (oOr (bX (o2 (lf gLt) (zV 3) (zI 0))) (bX (o2 (lf gGe) (zV 3) (zV 2))))) (aW (zS "no hand")) bN)
noncomputable abbrev bV:OS:=(aG (aY 2 (zD (zV 0) (zS "count"))) (aG (sNx (bD (oIT (o2 Ay (oSl (zV 1) (dSo (dC (.int 1))) (dSo (dC (.int 2)))) (oSl (zV 1) (dSo (dC (.int 2))) (dSo (dC (.int 3)))))) (aS 3) aE)) (aG (aY 4 (zX (zV 1) (zI 1))) (aG (dG (bX (o2 (lf (gIn 7)) (zX (zV 1) (zI 0)) (zL (aC (zS "put") (aC (zS "take") (aC (zS "change") aO)))))) (aG (aY 5 (bR gS (aC (zV 0) (aC (zX (zX (zD (zV 0) (zS "known")) (zV 4)) (zV 4)) aO)))) (aG (aY 6 (dI yK (oIL (zV 5)) [xb,xa 1] (aS 0) (bX (o2 (jT 8) (zX (zV 0) (zI 0)) (zX (zV 1) (zI 2)))) (zX (zV 0) (zI 1)))) (aG (dG (bX (o2 (jT 8) (zX (zV 1) (zI 0)) (zS "put"))) (aW (bR cW (aC (zV 0) (aC (zV 4) (aC (oSl (zV 1) (dSo (dC (.int 2))) dNo) (aC (zL aO) aO)))))) bN) (aG (dG (bX (o2 (jT 8) (zX (zV 1) (zI 0)) (zS "change"))) (aW (bR cW (aC (zV 0) (aC (zV 4) (aC (oSl (zV 1) (dSo (dC (.int 2))) dNo) (aC (zV 6) aO)))))) bN) (aG (dG (bX (o2 (jT 8) (zV 6) (zL aO))) (aW (oP (dC .non))) bN) (aG (bT (bR cW (aC (zV 0) (aC (zV 4) (aC (oP (dC .non)) (aC (zV 6) aO)))))) (aW (zV 6)))))))) bN) (aG (dG (bX (o2 (jT 8) (zV 4) (zX (zV 1) (zI 2)))) (aW (zS "same hand")) bN) (aG (dG (bX (o2 (jT 8) (zX (zV 1) (zI 0)) (zS "tell"))) (aW (bR cX (aC (zV 0) (aC (zV 4) (aC (zX (zV 1) (zI 2)) aO))))) bN) (aG (aY 7 (bR cX (aC (zV 0) (aC (zX (zV 1) (zI 2)) (aC (zV 4) aO))))) (aG (aY 8 (bR cX (aC (zV 0) (aC (zV 4) (aC (zX (zV 1) (zI 2)) aO))))) (aG (iR pY (zX (zD (zV 0) (zS "known")) (zV 4)) (zX (zV 1) (zI 2)) (oL iL (aC (zX (zX (zD (zV 0) (zS "known")) (zV 4)) (zV 4)) aO))) (aW (zT (aC (zV 7) (aC (zV 8) aO)))))))))))))
noncomputable def cE:eN:=eC 2 nK bV
abbrev sA:List Str:=["_law_found","_law_count","_law_row","_law_number"]
abbrev rV:List Str:=["_law_found","_law_count"]
noncomputable abbrev gK:OS:=(dG (iV (iP (bR gQ (aC (zV 3) aO)))) (aW (oP (dC (.bl false)))) bN)
noncomputable abbrev dB:OS:=(aG (dG (oOr (iV (iP (nU "list" (zV 2)))) (bX (o2 (Aw 8) (oL iN (aC (zV 2) aO)) (zV 1)))) (aW (oP (dC (.bl false)))) bN) (sNx (bD (oIL (zV 2)) (aS 3) gK)))
noncomputable abbrev kH:OS:=(aG (dG (oOr (iV (iP (nU "list" (zV 0)))) (bX (o2 (Aw 8) (oL iN (aC (zV 0) aO)) (zV 1)))) (aW (oP (dC (.bl false)))) bN) (aG (sNx (bD (oIL (zV 0)) (aS 2) dB)) (aW (oP (dC (.bl true))))))
noncomputable def dH:eN:=eC 2 sA kH
abbrev sB:List Str:=["_law_found","_law_count","_law_rows","_law_row","_law_mark"]
abbrev rW:List Str:=["_law_found","_law_count"]
noncomputable abbrev gL:OS:=(aG (dG (oOr (iV (iP (nU "tuple" (zV 4)))) (bX (o2 (Aw 8) (oL iN (aC (zV 4) aO)) (zI 2)))) (aW (oP (dC (.bl false)))) bN) (dG (oOr (iV (iP (bR gQ (aC (zX (zV 4) (zI 0)) aO)))) (iV (iP (bR gQ (aC (zX (zV 4) (zI 1)) aO))))) (aW (oP (dC (.bl false)))) bN))
noncomputable abbrev dE:OS:=(aG (dG (oOr (iV (iP (nU "tuple" (zV 3)))) (oOr (bX (o2 (Aw 8) (oL iN (aC (zV 3) aO)) (zI 2))) (iV (iP (nU "list" (zX (zV 3) (zI 1))))))) (aW (oP (dC (.bl false)))) bN) (sNx (bD (oIL (o2 Fz (zL (aC (zX (zV 3) (zI 0)) aO)) (zX (zV 3) (zI 1)))) (aS 4) gL)))
noncomputable abbrev dD:OS:=(aG (dG (iV (iP (nU "list" (zV 2)))) (aW (oP (dC (.bl false)))) bN) (sNx (bD (oIL (zV 2)) (aS 3) dE)))
noncomputable abbrev kI:OS:=(aG (dG (oOr (iV (iP (nU "list" (zV 0)))) (bX (o2 (Aw 8) (oL iN (aC (zV 0) aO)) (zV 1)))) (aW (oP (dC (.bl false)))) bN) (aG (sNx (bD (oIL (zV 0)) (aS 2) dD)) (aW (oP (dC (.bl true))))))
noncomputable def eO:eN:=eC 2 sB kI
abbrev zK:List Str:=["_law_rows","_law_mark","_law_row"]
abbrev zH:List Str:=["_law_rows","_law_mark"]
noncomputable abbrev bE:OS:=(dG (bX (o2 (lf gLt) (zX (zV 2) (zX (zV 1) (zI 0))) (zX (zV 1) (zI 1)))) (aW (oP (dC (.bl false)))) bN)
noncomputable abbrev mX:OS:=(aG (sNx (bD (oIL (zV 0)) (aS 2) bE)) (aW (oP (dC (.bl true)))))
noncomputable def eY:eN:=eC 2 zK mX
abbrev QK:List Str:=["_law_script","_law_count","_law_deeds","_law_tables","_law_seen","_law_known","_law_kept","_law_hall","_law_deed","_law_k","_law_due","_law_mark","_law_outs","_law_j","_law_other"]
abbrev QH:List Str:=["_law_script"]
noncomputable abbrev nY:OS:=(dG (bX (o2 (lf gGt) (zX (zX (zX (zV 5) (zV 9)) (zV 13)) (zV 14)) (zX (zX (zV 4) (zV 13)) (zV 14)))) (aW (oP (dC (.bl false)))) bN)
noncomputable abbrev nX:OS:=(sNx (bD (oIA iM (aC (zV 1) aO)) (aS 14) nY))
noncomputable abbrev vD:OS:=(aG (aY 12 (zX (zD (zD (zV 7) (zS "deeds")) (zV 11)) (zI 1))) (dG (BD (bX (o2 (Aw 8) (zV 12) (zL aO))) (bX (o2 (lf gLe) (zX (zV 11) (zI 1)) (zX (zX (zV 4) (zV 9)) (zX (zV 11) (zI 0)))))) (dG (iV (iP (bR eY (aC (zX (zV 5) (zV 9)) (aC (zV 11) aO))))) (bT (kD jZ (zV 10) (aC (zT (aC (zV 11) (aC (zV 12) aO))) aO))) (dG (iV (iP (bR eY (aC (zV 4) (aC (zV 11) aO))))) (aW (oP (dC (.bl false)))) bN)) bN))
noncomputable abbrev vC:OS:=(aG (dG (oOr (iV (iP (bR dH (aC (zX (zV 5) (zV 9)) (aC (zV 1) aO))))) (bX (o2 (Pg 8) (zX (zV 5) (zV 9)) (zX (zD (zV 7) (zS "known")) (zV 9))))) (aW (oP (dC (.bl false)))) bN) (aG (aY 10 (oL Gx aO)) (aG (sNx (bD (oIL (oL (Ft 4) (aC (zD (zV 7) (zS "order")) aO))) (aS 11) vD)) (aG (dG (bX (o2 (Aw 8) (zX (zV 6) (zV 9)) (zV 10))) (aW (oP (dC (.bl false)))) bN) (sNx (bD (oIA iM (aC (zV 1) aO)) (aS 13) nX))))))
noncomputable abbrev vB:OS:=(bT (bR cE (aC (zV 7) (aC (zV 8) aO))))
noncomputable abbrev Oq:OS:=(aG (aY 1 (zX (zL (aC (zI 1) (aC (zI 2) (aC (zI 3) (aC (zI 4) (aC (zI 2) (aC (zI 3) (aC (zI 4) (aC (zI 8) aO))))))))) (o2 (lf cV) (o2 (lf cV) (o2 (lf iQ) (bR uP (aC (zV 0) (aC (zI 0) aO))) (zI 48271)) (zI 1069)) (zI 8)))) (aG (aY 2 (bR kO (aC (oSl (zV 0) (dSo (dC (.int 1))) (dSo (dC (.int 37)))) (aC (zV 1) aO)))) (aG (CB (IP 3 4 5 6) (bR fN (aC (zV 1) (aC (zV 2) aO)))) (aG (dG (oOr (iV (iP (bR eO (aC (zV 6) (aC (zV 1) aO))))) (iV (iP (bR dH (aC (zV 4) (aC (zV 1) aO)))))) (aW (oP (dC (.bl false)))) bN) (aG (dG (oOr (iV (iP (nU "list" (zV 5)))) (bX (o2 (Aw 8) (oL iN (aC (zV 5) aO)) (zV 1)))) (aW (oP (dC (.bl false)))) bN) (aG (aY 7 (bR pB (aC (zV 1) aO))) (aG (sNx (bD (oIL (zV 2)) (aS 8) vB)) (aG (sNx (bD (oIA iM (aC (zV 1) aO)) (aS 9) vC)) (aW (oP (dC (.bl true))))))))))))
noncomputable def p_law:eN:=eC 1 QK Oq
theorem eM (J:Rho->Prop) (hc:chk ω=true):∀ {ds:List D}{ρ:Rho},J ρ->(∀ d∈ds,∀ ρ,J ρ->∃ ρ1,bd d ρ=xa ρ1/\J ρ1/\t ρ1 ω=xa (.ok (p d),ω)/\(p d=true->f ρ1 ω=xa (.ok (g d),ω)))->
  compLO bd chk t f ds ρ ω=xa ((ds.filter p).map g,ω)
 |[],ρ,_,_=>by
  show(if chk ω=true then xa ([],ω) else xb)=_
  rw[if_pos hc];rfl
 |d::ds,ρ,hJ,h=>by
  obtain⟨ρ1,h1,h2,h3,h4⟩:=h d aq ρ hJ;have ih:=eM J hc h2 fun d' hd=>h d' (ai _ hd);unfold compLO;rw[if_pos hc,h1]
  show(match t ρ1 ω with
   |some (.ok k,ω1)=>_
   |_=>_)=_
  rw[h3];cases hp:p d with
  |true=>
   rw[db hp]
   show(if true=true then(match f ρ1 ω with
    |some (.ok y,ω2)=>_
    |_=>xb) else _)=_
   rw[if_pos rfl,h4 hp]
   show(compLO bd chk t f ds ρ1 ω).map _=_
   rw[ih];rfl
  |false=>
   rw[da (by rw[hp];exact bx)];exact ih
theorem lY (J:Rho->Prop) (hc:chk ω=true) (hJ:J ρ) (h:∀ d∈ds,∀ ρ,J ρ->∃ ρ1,bd d ρ=xa ρ1/\J ρ1/\f ρ1 ω=xa (.ok (g d),ω)):
  compLO bd chk (oPT kZ) f ds ρ ω=xa (ds.map g,ω):=by
 have:=eM (t:=oPT kZ) (p:=fun _=>true) (g:=g) J hc hJ fun d hd ρ hρ=>let ⟨ρ1,h1,h2,h3⟩:=h d hd ρ hρ;⟨ρ1,h1,h2,rfl,fun _=>h3⟩
 rw[this]
 congr 2
 rw[ut.mpr (fun _ _=>rfl)]
theorem gE (h1:fi ρ ω=xa (.ok (ds,chk),ω1)) (hl:ds.length<=sizeLine) (h2:compLO bd chk t f ds (Gy caps ρ) ω1=xa (out,ω2)):dI yK fi caps bd t f ρ ω=xa (.ok (.lst out),ω2):=by
 unfold dI;rw[bJ h1]
 show(if ds.length<=sizeLine then _ else xb)=_
 rw[if_pos hl]
 show(compLO bd chk t f ds (Gy caps ρ) ω1).bind _=_
 rw[h2];rfl
theorem pF (h1:fi ρ ω=xa (.ok (ds,chk),ω1)) (hl:ds.length<=sizeLine) (h2:compLO bd chk t f ds (Gy caps ρ) ω1=xa (out,ω2)):dI Ir fi caps bd t f ρ ω=xa (.ok (.obj ω2.length),ω2++[.ml out]):=by
 unfold dI;rw[bJ h1]
 show(if ds.length<=sizeLine then _ else xb)=_
 rw[if_pos hl]
 show(compLO bd chk t f ds (Gy caps ρ) ω1).bind _=_
 rw[h2];rfl
theorem cJ (hc:chk ω=true) (hb:bd d ρ=xa ρ1) (hF:F ρ1 ω=xa (.nx ρ2,ω2)):bO bd chk F (d::ds) ρ ω=bO bd chk F ds ρ2 ω2:=by
 show(if chk ω=true then(bd d ρ).bind (fun ρ1=>match F ρ1 ω with
  |none=>xb
  |some (.nx ρ2,ω2)=>bO bd chk F ds ρ2 ω2
  |some (.ct ρ2,ω2)=>bO bd chk F ds ρ2 ω2
  |some (.bk ρ2,ω2)=>xa (.nx ρ2,ω2)
  |some (.rt d,ω2)=>xa (.rt d,ω2)
  |some (.ex _,_)=>xb) else xb)=_
 rw[if_pos hc,hb]
 show(match F ρ1 ω with
  |none=>xb
  |some (.nx ρ2,ω2)=>bO bd chk F ds ρ2 ω2
  |some (.ct ρ2,ω2)=>bO bd chk F ds ρ2 ω2
  |some (.bk ρ2,ω2)=>xa (.nx ρ2,ω2)
  |some (.rt d,ω2)=>xa (.rt d,ω2)
  |some (.ex _,_)=>xb)=_
 rw[hF]
theorem qP (hc:chk ω=true) (hb:bd d ρ=xa ρ1) (hf:f ρ1 ω=xa (.ok y,ω2)):compLO bd chk (oPT kZ) f (d::ds) ρ ω=(compLO bd chk (oPT kZ) f ds ρ1 ω2).map fun r=>(y::r.1,r.2):=by
 rw[compLO.eq_2,if_pos hc,hb]
 show(match f ρ1 ω with
  |some (.ok y,ω2)=>(compLO bd chk (oPT kZ) f ds ρ1 ω2).map fun r:List D×Om=>(y::r.1,r.2)
  |_=>xb)=_
 rw[hf]
mutual
theorem sO:∀ a:D,fM a a=true
 |.non=>by simp[fM]
 |.bl a=>by simp[fM]
 |.int a=>by simp[fM]
 |.str a=>by simp[fM]
 |.obj a=>by simp[fM]
 |.lst a=>by simpa [fM] using sameDs_refl a
 |.tup a=>by simpa [fM] using sameDs_refl a
 |.scr a=>by simpa [fM] using sameDs_refl a
theorem sameDs_refl:∀ a:List D,sameDs a a=true
 |[]=>by simp[sameDs]
 |a::as=>by simp[sameDs,sO a,sameDs_refl as]
end
noncomputable def iv (xs:List Int):List D:=xs.map D.int
def RowV (ω:Om) (d:D) (xs:List Int):Prop:=fK ω d=xa (iv xs)
theorem RowV.it (h:RowV ω d xs):∃ chk,mY ω d=xa (iv xs,chk)/\chk ω=true:=by
 rcases fF h with rfl|⟨n,rfl,e⟩
 ·exact⟨bM,rfl,rfl⟩
 ·refine⟨jY n (iv xs),?_,?_⟩
  ·show(match ω[n]? with
    |some (.ml ds)=>xa (ds,jY n ds)
    |_=>xb)=_
   rw[e]
  ·unfold jY;rw[e];exact sameDs_refl _
theorem kW (e:ω[n]?=xa (.ml ds)):pZ ω (.obj n) (.int a)=atI ds a:=by
 simp only[pZ,cellOf,e];rfl
theorem RowV.ix (h:RowV ω d xs) {a:Int} (h0:0<=a) (h1:a<xs.length):pZ ω d (.int a)=xa (.int (xs.getD a.toNat 0)):=by
 have key:atI (iv xs) a=xa (.int (xs.getD a.toNat 0)):=by
  unfold atI ixN iv;have hl:a<((xs.map D.int).length:Int):=by simpa using h1
  rw[if_pos h0,if_pos hl]
  show(xs.map D.int)[a.toNat]?=_
  have:a.toNat<xs.length:=by omega
  rw[ax,bh this,av,bh this];rfl
 rcases fF h with rfl|⟨n,rfl,e⟩
 ·exact key
 ·rw[kW e];exact key
theorem aJ (e1:f ρ ω=xa (.ok a,ω1)) (e2:h ρ ω1=xa (.ok b,ω2)) (e3:pZ ω2 a b=xa d):zX f h ρ ω=xa (.ok d,ω2):=dY e1 e2 (by show pu (pZ ω2 a b) ω2=_;rw[e3];rfl)
theorem pR (h:RowV ω d xs) {a b:Int} (h0:0<=a) (h1:a<xs.length):fL [d,.tup [.int a,.int b]] ω=xa (.ok (.bl (decide (b<=xs.getD a.toNat 0))),ω):=by
 refine aT rfl (bI (fE (aJ (aB (d:=.tup [.int a,.int b]) rfl) aR rfl) (aJ (aB (d:=d) rfl) (aJ (aB (d:=.tup [.int a,.int b]) rfl) aR rfl) (h.ix h0 h1)) rfl))
theorem DH (e1:f ρ ω=xa (.ok a,ω)) (e2:h ρ ω=xa (.ok b,ω)) (h1:RowV ω a xs) (h2:RowV ω b ys):∃ chk,oIZ (aC f (aC h aO)) ρ ω=xa (.ok (zP (iv xs) (iv ys),chk),ω)/\chk ω=true:=by
 obtain⟨c1,g1,k1⟩:=h1.it;obtain⟨c2,g2,k2⟩:=h2.it;refine⟨fun ω=>c1 ω&&c2 ω,?_,by simp[k1,k2]⟩;unfold oIZ;rw[bJ (aA e1 (aA e2 aD))];show oR (pu (Ph ω [a,b]) ω)=_;unfold Ph;show oR (pu ((mY ω a).bind _) ω)=_;rw[g1];show oR (pu ((mY ω b).map _) ω)=_;rw[g2];rfl
theorem uD (hG:∀ x y,G (.tup [.int x,.int y])=.int (g x y)):(zP (iv xs) (iv ys)).map G=iv (bq g xs ys):=by
 unfold zP iv;rw[vx]
 induction xs generalizing ys with
 |nil=>rfl
 |cons x r ih=>
  cases ys with
  |nil=>rfl
  |cons y r'=>simp only[jh,bg,hG,ih]
theorem zN (h:d∈zP (iv xs) (iv ys)):∃ x y,d=.tup [.int x,.int y]:=by
 unfold zP iv at h;rw[vx] at h
 induction xs generalizing ys with
 |nil=>simp at h
 |cons x r ih=>
  cases ys with
  |nil=>simp at h
  |cons y r'=>
   rw[jh] at h;rcases aj.mp h with h|h
   ·exact⟨x,y,h⟩
   ·exact ih h
theorem zO (h:xs.length<=sizeLine):(zP (iv xs) (iv ys)).length<=sizeLine:=by
 unfold zP iv;rw[fh,am,am];omega
noncomputable def D2 (g:Int->Int->Int):D->D
 |.tup [.int x,.int y]=>.int (g x y)
 |d=>d
noncomputable def mx (i j:Int):Int:=if j>i then j else i
noncomputable def mn (i j:Int):Int:=if j<i then j else i
theorem oH:∀ xs:List Int,lD (iv xs)=xa xs
 |[]=>rfl
 |x::r=>by
  show(lD (iv r)).map _=_
  rw[oH r];rfl
theorem xX (h1:RowV ω a xs) (h2:RowV ω b ys) (hl:xs.length<=sizeLine):gU [a,b] ω=xa (.ok (.obj ω.length),ω++[.ml (iv (bq mx xs ys))]):=by
 obtain⟨chk,z1,z2⟩:=DH (f:=zV 0) (h:=zV 1) (ρ:=cF Cq [a,b]) (aB (d:=a) rfl) (aB (d:=b) rfl) h1 h2;refine aT rfl (bI (pF z1 (zO hl) ?_));rw[<- uD (G:=D2 mx) (fun _ _=>rfl)];refine lY (fun ρ=>ρ.length=2) z2 rfl fun d hd ρ hρ=> ?_;obtain⟨x,y,rfl⟩:=zN hd
 match ρ,hρ with
 |[u,v],_=>exact⟨_,rfl,rfl,rfl⟩
theorem HA (h1:RowV ω a xs) (h2:RowV ω b ys) (hl:xs.length<=sizeLine):Ac [a,b] ω=xa (.ok (.int (bq (fun x y=>mx (y-x) 0) xs ys).sum),ω):=by
 obtain⟨chk,z1,z2⟩:=DH (f:=zV 0) (h:=zV 1) (ρ:=cF Gq [a,b]) (aB (d:=a) rfl) (aB (d:=b) rfl) h1 h2;refine aT rfl (bI (cP (aA (gE (ω2:=ω) (out:=iv (bq (fun x y=>mx (y-x) 0) xs ys)) z1 (zO hl) ?_) aD) ?_))
 ·rw[<- uD (G:=D2 fun x y=>mx (y-x) 0) (fun _ _=>rfl)];refine lY (fun ρ=>ρ.length=2) z2 rfl fun d hd ρ hρ=> ?_;obtain⟨x,y,rfl⟩:=zN hd
  match ρ,hρ with
  |[u,v],_=>exact⟨_,rfl,rfl,rfl⟩
 ·show pu ((lD (iv _)).map _) ω=_;rw[oH];rfl
theorem dP (h:F ρ ω=xa (.nx ρ',ω')):sNx F ρ ω=xa (.nx ρ',ω'):=by
 unfold sNx;rw[h]
structure Hd where
 knows:List (List Int)
 table:List (List Key×D)
 kept:List (List Key×D)
def RowsAt (ω:Om):List Nat->List (List Int)->Prop:=j3 fun r xs=>ω[r]?=xa (Ob.ml (iv xs))
structure HandAt (ω:Om) (h:Nat) (i:Int) (hd:Hd) (k t e:Nat) (rs:List Nat):Prop where
 obj:ω[h]?=xa (.ins 0 [("number",.int i),("knows",.obj k),("table",.obj t),("kept",.obj e)])
 kn:ω[k]?=xa (.ml (rs.map D.obj))
 rows:RowsAt ω rs hd.knows
 tb:ω[t]?=xa (.dt hd.table)
 kp:ω[e]?=xa (.dt hd.kept)
 nd:(h::k::t::e::rs).Nodup
theorem RowsAt.get (h:RowsAt ω rs kn) {j:Nat} (e:kn[j]?=xa xs):∃ r,rs[j]?=xa r/\ω[r]?=xa (.ml (iv xs)):=by
 induction h generalizing j with
 |nil=>simp at e
 |cons hr _ ih=>
  cases j with
  |zero=>simp at e;subst e;exact⟨_,rfl,hr⟩
  |succ j=>simp at e;obtain⟨r,e1,e2⟩:=ih e;exact⟨r,by simpa using e1,e2⟩
theorem RowsAt.length (h:RowsAt ω rs kn):rs.length=kn.length:=jc h
theorem fV (e1:f ρ ω=xa (.ok (.obj n),ω1)) (e2:ω1[n]?=xa (.ins c fs)) (e3:fs.lookup x=xa d):fX c x f ρ ω=xa (.ok d,ω1):=by
 unfold fX;rw[bJ e1];show oR (pu (Mn c x ω1 (.obj n)) ω1)=_
 have:Mn c x ω1 (.obj n)=xa d:=by
  simp[Mn,cellOf,e2,e3]
 rw[this];rfl
theorem cA (e1:fo ρ ω=xa (.ok (.obj n),ω1)) (e2:ω1[n]?=xa (.ins c fs)) (e3:fs.lookup m=xb) (e4:fl ρ ω1=xa (.ok ds,ω2)) (e5:φ (.obj n::ds) ω2=xa (r,ω3)):
  bL c m φ fo fl ρ ω=xa (r,ω3):=by
 unfold bL;rw[bJ e1]
 have:CV c m ω1 (.obj n)=true:=by
  simp only[CV,cellOf,e2,e3];simp
 show(if CV c m ω1 (.obj n)=true then _ else xb)=_
 rw[if_pos this,bJ e4];exact e5
section
variable {ω:Om}{h k t e:Nat}{i:Int}{hd:Hd}{rs:List Nat}{ρ:Rho}{f:OG D}
theorem HandAt.number (H:HandAt ω h i hd k t e rs) (ef:f ρ ω=xa (.ok (.obj h),ω)):fX 0 "number" f ρ ω=xa (.ok (.int i),ω):=fV ef H.obj rfl
theorem HandAt.knows (H:HandAt ω h i hd k t e rs) (ef:f ρ ω=xa (.ok (.obj h),ω)):fX 0 "knows" f ρ ω=xa (.ok (.obj k),ω):=fV ef H.obj rfl
theorem HandAt.table (H:HandAt ω h i hd k t e rs) (ef:f ρ ω=xa (.ok (.obj h),ω)):fX 0 "table" f ρ ω=xa (.ok (.obj t),ω):=fV ef H.obj rfl
theorem HandAt.kept (H:HandAt ω h i hd k t e rs) (ef:f ρ ω=xa (.ok (.obj h),ω)):fX 0 "kept" f ρ ω=xa (.ok (.obj e),ω):=fV ef H.obj rfl
noncomputable def Hd.seen (hd:Hd) (i:Nat):List Int:=hd.knows.getD i []
theorem kL {i:Nat} (H:HandAt ω h i hd k t e rs) (hr:rs[i]?=xa r):bY [.obj h] ω=xa (.ok (.obj r),ω):=by
 refine aT rfl (bI (aJ (H.knows (aB rfl)) (H.number (aB rfl)) ?_));rw[kW H.kn];have hl:i<rs.length:=(bt.mp hr).1;unfold atI ixN;rw[if_pos (jm i),if_pos (by simpa using hl)]
 show(rs.map D.obj)[i]?=_
 rw[ax,hr];rfl
theorem HandAt.seenRow {i:Nat} (H:HandAt ω h i hd k t e rs) (hi:i<hd.knows.length):∃ r,rs[i]?=xa r/\ω[r]?=xa (.ml (iv (hd.seen i))):=by
 refine H.rows.get ?_;unfold Hd.seen;rw[av,bh hi];rfl
noncomputable def Hd.entries (hd:Hd):Option (List D):=dF 4 (hd.table.map (·.2))
theorem jU (H:HandAt ω h i hd k t e rs) (hs:hd.entries=xa out):bW [.obj h] ω=xa (.ok (.lst out),ω):=by
 refine aT rfl (bI ?_);unfold Ht;rw[bJ (H.table (aB rfl))];show oR (pu (Fs 4 ω (.obj t)) ω)=_
 have:Fs 4 ω (.obj t)=xa (.lst out):=by
  simp only[Fs,cellOf,H.tb]
  show(hd.entries).map _=_
  rw[hs];rfl
 rw[this];rfl
theorem cH (e1:fo ρ ω=xa (.ok (.obj n),ω1)) (e2:ω1[n]?=xa (.ins c fs)) (e3:fs.lookup m=xb) (e5:φ [.obj n] ω1=xa (r,ω3)):
  bL c m φ fo aO ρ ω=xa (r,ω3):=cA e1 e2 e3 aD e5
noncomputable def marksIn (name:D) (rows:List D):List D:=(rows.filter fun d=>match d with|.tup (a::_)=>(eqD 8 a name)==xa true|_=>false).map fun d=>match d with|.tup (_::m::_)=>m|_=>.non
def gH (d:D):Prop:=∃ x a b v,d=.tup [.str x,.tup [.int a,.int b],.int v]
theorem iE (n:Nat) (x y:Str):eqD n (.str x) (.str y)=xa (decide (x=y)):=by cases n <;> rfl
theorem HE (H:HandAt ω h i hd k t e rs) (hs:hd.entries=xa out) (he:∀ d∈out,gH d) (hl:out.length<=sizeLine) (y:Str):dA [.obj h,.str y] ω=xa (.ok (.lst (marksIn (.str y) out)),ω):=by
 have e1:bL 0 "entries" bW (zV 0) aO (cF jL [.obj h,.str y]) ω=xa (.ok (.lst out),ω):=cH (aB rfl) H.obj rfl (jU H hs);refine aT rfl (bI (gE (ds:=out) (chk:=bM) (ω1:=ω) ?_ hl ?_))
 ·unfold oIL;rw[bJ e1];rfl
 ·unfold marksIn;refine eM (fun ρ=>∃ u,ρ=[u,xa (.str y)]) rfl ⟨_,rfl⟩ fun d hd ρ hρ=> ?_;obtain⟨x,a,b,v,rfl⟩:=he d hd;obtain⟨u,rfl⟩:=hρ;refine⟨_,rfl,⟨_,rfl⟩,?_,fun _=>rfl⟩;refine bU (dY (aJ (aB rfl) aR rfl) (aB rfl) ?_);show pu ((eqD 8 (.str x) (.str y)).map D.bl) ω=_;rw[iE];show xa (D.bl (decide (x=y)),ω)=xa (D.bl (eqD 8 (.str x) (.str y)==xa true),ω);rw[iE];cases decide (x=y) <;> rfl
theorem fB {o i v:D} (e1:fv ρ ω=xa (.ok v,ω1)) (e2:fo ρ ω1=xa (.ok o,ω2)) (e3:fi ρ ω2=xa (.ok i,ω3)) (e4:g ω3 o i v=xa ω4):iR g fo fi fv ρ ω=xa (.nx ρ,ω4):=by
 unfold iR;rw[bS e1,bS e2,bS e3]
 show(g ω3 o i v).map _=_
 rw[e4];rfl
theorem mJ {j:Nat} (e:ω[n]?=xa (.ml ds)) (hj:j<ds.length):pY ω (.obj n) (.int j) v=xa (ω.set n (.ml (ds.set j v))):=by
 simp only[pY,e];unfold ixN;rw[if_pos (jm j),if_pos (by simpa using hj)];simp
theorem aH (h:m≠n):(ω.set n ob)[m]?=ω[m]?:=f9 (bz h)
theorem cD (h:ω[n]?=xa ob'):(ω.set n ob)[n]?=xa ob:=by
 have hl:n<ω.length:=(bt.mp h).1;simp[hl]
theorem RowsAt.mono (h:RowsAt ω rs kn) (k:∀ r∈rs,ω'[r]?=ω[r]?):RowsAt ω' rs kn:=by
 induction h with
 |nil=>exact .nil
 |cons hr _ ih=>exact .cons ((k _ aq).trans hr) (ih fun r hr=>k r (ai _ hr))
theorem HandAt.mono (H:HandAt ω h i hd k t e rs) (g:∀ n∈h::k::t::e::rs,ω'[n]?=ω[n]?):HandAt ω' h i hd k t e rs:=
 ⟨(g h (by simp)).trans H.obj,(g k (by simp)).trans H.kn,H.rows.mono fun r hr=>g r (by simp[hr]),(g t (by simp)).trans H.tb,(g e (by simp)).trans H.kp,H.nd⟩
theorem RowsAt.set (h:RowsAt ω rs kn) (nd:rs.Nodup) (hr:rs[j]?=xa r):RowsAt (ω.set r (.ml (iv xs))) rs (kn.set j xs):=by
 induction h generalizing j with
 |nil=>simp at hr
 |@cons r0 x0 rs' kn' h0 t ih=>
  rw[b9] at nd;cases j with
  |zero=>
   simp at hr;subst hr;rw[vc];refine .cons (cD h0) (RowsAt.mono t fun q hq=>aH fun z=>nd.1 (z ▸ hq))
  |succ j=>
   simp at hr;rw[vd];refine .cons ?_ (ih nd.2 hr)
   show(ω.set r (.ml (iv xs)))[r0]?=_
   rw[aH (show r0≠r from fun z=>nd.1 (by rw[z];exact ga hr))];exact h0
def Keep (fp:List Nat) (ω ω':Om):Prop:=ω.length<=ω'.length/\∀ n,n<ω.length->n∉fp->ω'[n]?=ω[n]?
theorem Keep.refl (fp:List Nat) (ω:Om):Keep fp ω ω:=⟨bf _,fun _ _ _=>rfl⟩
theorem Keep.trans (a:Keep fp ω ω1) (b:Keep fp ω1 ω2):Keep fp ω ω2:=⟨ci a.1 b.1,fun n h1 h2=>(b.2 n (cg h1 a.1) h2).trans (a.2 n h1 h2)⟩
theorem Keep.set (h:n∈fp):Keep fp ω (ω.set n ob):=⟨by simp,fun m _ hm=>aH fun z=>hm (z ▸ h)⟩
noncomputable def Hd.bump (hd:Hd) (i:Nat):Hd:={ hd with knows:=hd.knows.set i ((hd.seen i).set i ((hd.seen i).getD i 0+1)) }
theorem pG {i:Nat} (H:HandAt ω h i hd k t e rs) (hi:i<hd.knows.length) (hs:i<(hd.seen i).length):∃ ω',cZ [.obj h] ω=xa (.ok (.tup [.int i,.int ((hd.seen i).getD i 0+1)]),ω')/\HandAt ω' h i (hd.bump i) k t e rs/\Keep rs ω ω'/\ω'.length=ω.length:=by
 obtain⟨r,hr,er⟩:=H.seenRow hi;have hm:r∈rs:=ga hr;have nd:=H.nd;simp only[b9,aj,not_or] at nd;obtain⟨⟨h1,h2,h3,h4⟩,⟨h5,h6,h7⟩,⟨h8,h9⟩,h10,h11⟩:=nd;have ne:∀ {n:Nat},n∉rs->n≠r:=fun hn z=>hn (z ▸ hm);refine⟨ω.set r (.ml (iv ((hd.seen i).set i ((hd.seen i).getD i 0+1)))),?_,⟨?_,?_,H.rows.set h11 hr,?_,?_,H.nd⟩,Keep.set hm,by simp⟩
 ·have ix:pZ ω (.obj r) (.int i)=xa (.int ((hd.seen i).getD i 0)):=by
   have:=RowV.ix (ω:=ω) (d:=.obj r) (xs:=hd.seen i) (by unfold RowV fK;simp only[er]) (a:=i) (jm i) (by simpa using hs)
   simpa using this
  refine aT rfl ?_;unfold jD;rw[aK (cH (aB rfl) H.obj rfl (kL H hr))];have e2:(ω.set r (.ml (iv ((hd.seen i).set i ((hd.seen i).getD i 0+1)))))[h]?=ω[h]?:=aH (ne h4);rw[bB (fB (fE (aJ (aB (d:=.obj r) rfl) (H.number (aB rfl)) ix) aR rfl) (aB (d:=.obj r) rfl) (H.number (aB rfl)) (mJ er (by unfold iv;simpa using hs)))];have e3:(iv (hd.seen i)).set i (.int ((hd.seen i).getD i 0+1))=iv ((hd.seen i).set i ((hd.seen i).getD i 0+1)):=by
   unfold iv;rw[ve]
  rw[e3];have H2:fX 0 "number" (zV 0) [xa (.obj h),xa (.obj r)] (ω.set r (.ml (iv ((hd.seen i).set i ((hd.seen i).getD i 0+1)))))=xa (.ok (.int i),ω.set r (.ml (iv ((hd.seen i).set i ((hd.seen i).getD i 0+1))))):=fV (aB rfl) (e2.trans H.obj) rfl;have er2:=cD (ob:=.ml (iv ((hd.seen i).set i ((hd.seen i).getD i 0+1)))) er;refine bI (cP (aA H2 (aA (aJ (d:=.int ((hd.seen i).getD i 0+1)) (aB (d:=.obj r) rfl) H2 ?_) aD)) rfl)
  have:=RowV.ix (ω:=ω.set r (.ml (iv ((hd.seen i).set i ((hd.seen i).getD i 0+1))))) (d:=.obj r) (xs:=(hd.seen i).set i ((hd.seen i).getD i 0+1)) (by unfold RowV fK;simp only[er2]) (a:=i) (jm i) (by simpa using hs)
  rw[this];simp[hs]
 ·rw[aH (ne h4)];exact H.obj
 ·rw[aH (ne h7)];exact H.kn
 ·rw[aH (ne h9)];exact H.tb
 ·rw[aH (ne h10)];exact H.kp
end
section
variable {ω:Om}{h k t e:Nat}{i:Nat}{hd:Hd}{rs:List Nat}{ρ:Rho}{f:OG D}
theorem HandAt.ne (H:HandAt ω h i hd k t e rs):(h≠k/\h≠t/\h≠e/\h∉rs)/\(k≠t/\k≠e/\k∉rs)/\(t≠e/\t∉rs)/\e∉rs/\rs.Nodup:=by
 have nd:=H.nd;simp only[b9,aj,not_or] at nd;obtain⟨⟨h1,h2,h3,h4⟩,⟨h5,h6,h7⟩,⟨h8,h9⟩,h10,h11⟩:=nd;exact⟨⟨h1,h2,h3,h4⟩,⟨h5,h6,h7⟩,⟨h8,h9⟩,h10,h11⟩
theorem HandAt.setT (H:HandAt ω h i hd k t e rs) (T:List (List Key×D)):HandAt (ω.set t (.dt T)) h i { hd with table:=T } k t e rs:=by
 obtain⟨⟨h1,h2,h3,h4⟩,⟨h5,h6,h7⟩,⟨h8,h9⟩,h10,h11⟩:=H.ne;refine⟨?_,?_,H.rows.mono fun r hr=>aH fun z=>h9 (z ▸ hr),cD H.tb,?_,H.nd⟩
 ·rw[aH h2];exact H.obj
 ·rw[aH h5];exact H.kn
 ·rw[aH (bz h8)];exact H.kp
theorem HandAt.setE (H:HandAt ω h i hd k t e rs) (T:List (List Key×D)):HandAt (ω.set e (.dt T)) h i { hd with kept:=T } k t e rs:=by
 obtain⟨⟨h1,h2,h3,h4⟩,⟨h5,h6,h7⟩,⟨h8,h9⟩,h10,h11⟩:=H.ne;refine⟨?_,?_,H.rows.mono fun r hr=>aH fun z=>h10 (z ▸ hr),?_,cD H.kp,H.nd⟩
 ·rw[aH h3];exact H.obj
 ·rw[aH h6];exact H.kn
 ·rw[aH h8];exact H.tb
theorem HandAt.lt (H:HandAt ω h i hd k t e rs):∀ n∈h::k::t::e::rs,n<ω.length:=by
 intro n hn;have lt:∀ {m:Nat}{o:Ob},ω[m]?=xa o->m<ω.length:=fun q=>(bt.mp q).1;rcases aj.mp hn with rfl|hn
 ·exact lt H.obj
 rcases aj.mp hn with rfl|hn
 ·exact lt H.kn
 rcases aj.mp hn with rfl|hn
 ·exact lt H.tb
 rcases aj.mp hn with rfl|hn
 ·exact lt H.kp
 ·have:∀ {rs:List Nat}{kn:List (List Int)},RowsAt ω rs kn->∀ n∈rs,n<ω.length:=by
   intro rs kn hR
   induction hR with
   |nil=>intro n hn;simp at hn
   |cons hr _ ih=>
    intro n hn;rcases aj.mp hn with rfl|hn
    ·exact lt hr
    ·exact ih n hn
  exact this H.rows n hn
noncomputable def fH (i:Nat) (b:Int):List Key:=[.inl (i:Int),.inl b]
noncomputable def mkD (i:Nat) (b:Int):D:=.tup [.int i,.int b]
noncomputable def Hd.next (hd:Hd) (i:Nat):Int:=(hd.seen i).getD i 0+1
noncomputable def Hd.put (hd:Hd) (i:Nat) (x:Str) (v:Int):Hd:={ hd.bump i with table:=putD hd.table (fH i (hd.next i)) (.tup [.str x,mkD i (hd.next i),.int v]) }
theorem qD (e:ω[n]?=xa (.dt kvs)) (hk:DD y=xa ks) (hl:kvs.length<sizeLine):nG ω (.obj n) y v=xa (ω.set n (.dt (putD kvs ks v))):=by
 simp only[nG,e,hk]
 show(if kvs.length<sizeLine then _ else xb)=_
 rw[if_pos hl]
theorem ML (H:HandAt ω h i hd k t e rs) (hi:i<hd.knows.length) (hs:i<(hd.seen i).length) (hl:hd.table.length<sizeLine) (x:Str) (v:Int):
  ∃ ω',eK [.obj h,.str x,.int v] ω=xa (.ok (mkD i (hd.next i)),ω')/\HandAt ω' h i (hd.put i x v) k t e rs/\Keep (t::rs) ω ω'/\ω'.length=ω.length:=by
 obtain⟨ω1,e1,H1,K1,L1⟩:=pG H hi hs;have hb:(hd.bump i).table=hd.table:=rfl;refine⟨ω1.set t (.dt (putD hd.table (fH i (hd.next i)) (.tup [.str x,mkD i (hd.next i),.int v]))),?_,?_,⟨by simp[L1],fun n hn hm=> ?_⟩,by simp[L1]⟩
 ·refine aT rfl ?_;unfold tL;rw[aK (cH (aB rfl) H.obj rfl e1)];rw[bB (fB (cP (aA (aB (d:=.str x) rfl) (aA (aB (d:=mkD i (hd.next i)) rfl) (aA (aB (d:=.int v) rfl) aD))) rfl) (H1.table (aB rfl)) (aB (d:=mkD i (hd.next i)) rfl) (qD (ks:=fH i (hd.next i)) H1.tb rfl hl))];exact bI (aB rfl)
 ·exact H1.setT _
 ·rw[aH (fun z=>hm (by rw[z];simp))];exact K1.2 n hn fun z=>hm (ai _ z)
noncomputable def common:List (List Int)->List Int
 |[]=>[]
 |r::rest=>rest.foldl (bq mn) r
theorem FV (hk:ω[k]?=xa (.ml (rs.map D.obj))) (hr:RowsAt ω rs kn) (hne:kn≠[]) (hl:∀ xs∈kn,xs.length<=sizeLine):nS [.obj k] ω=xa (.ok (.lst (iv (common kn))),ω):=by
 cases hr with
 |nil=>exact absurd rfl hne
 |@cons r0 x0 rs kn h0 ht=>
  refine aT rfl ?_;unfold BY;have e0:pZ ω (.obj k) (.int 0)=xa (.obj r0):=by
   rw[kW hk];unfold atI ixN;simp
  rw[aK (d:=.lst (iv x0)) (cP (aA (aJ (aB (d:=.obj k) rfl) aR e0) aD) (by
   show(cB ω (.obj r0)).map _=_
   have:cB ω (.obj r0)=xa (iv x0):=by simp only[cB,fK,h0]
   rw[this];rfl))]
  have e1:oSl (zV 0) (dSo (dC (.int 1))) dNo ((cF wC [.obj k]).set 1 (xa (.lst (iv x0)))) ω=xa (.ok (.lst (rs.map D.obj)),ω):=by
   unfold oSl;rw[bJ (aB (d:=.obj k) rfl)];show oR (pu (Os ω (.obj k) (xa 1) xb) ω)=_
   have:Os ω (.obj k) (xa 1) xb=xa (.lst (Do ((r0::rs).map D.obj) (xa 1) xb)):=by simp only[Os,fK,hk]
   rw[this];have c1:Do ((r0::rs).map D.obj) (xa 1) xb=rs.map D.obj:=by
    simp only[Do,HT.sIx];simp[sy]
   rw[c1];rfl
  have hloop:∃ ρ' ω',bO (aS 2) bM fT (rs.map D.obj) ((cF wC [.obj k]).set 1 (xa (.lst (iv x0)))) ω=xa (.nx ρ',ω')/\(ω'=ω/\∃ v,ρ'=[xa (.obj k),xa (.lst (iv (kn.foldl (bq mn) x0))),v]):=by
   have gen:∀ {rs:List Nat}{kn:List (List Int)},RowsAt ω rs kn->(∀ xs∈kn,xs.length<=sizeLine)->∀(x0:List Int) (v:Option D),x0.length<=sizeLine->∃ ρ' ω',bO (aS 2) bM fT (rs.map D.obj) [xa (.obj k),xa (.lst (iv x0)),v] ω=xa (.nx ρ',ω')/\(ω'=ω/\∃ v,ρ'=[xa (.obj k),xa (.lst (iv (kn.foldl (bq mn) x0))),v]):=by
    intro rs kn hR
    induction hR with
    |nil=>intro _ x0 v _;exact⟨_,_,rfl,rfl,_,rfl⟩
    |@cons r1 x1 rs kn h1 _ ih=>
     intro hl x0 v hx;obtain⟨ρ',ω',g1,g2,g3⟩:=ih (fun xs hxs=>hl xs (ai _ hxs)) (bq mn x0 x1) (xa (.obj r1)) (by rw[fh];omega);refine⟨ρ',ω',?_,g2,g3⟩;rw[<- g1];have step:fT [xa (.obj k),xa (.lst (iv x0)),xa (.obj r1)] ω=xa (.nx [xa (.obj k),xa (.lst (iv (bq mn x0 x1))),xa (.obj r1)],ω):=by
      obtain⟨chk,z1,z2⟩:=DH (f:=zV 1) (h:=zV 2) (ρ:=[xa (.obj k),xa (.lst (iv x0)),xa (.obj r1)]) (ω:=ω) (a:=.lst (iv x0)) (b:=.obj r1) (xs:=x0) (ys:=x1) (aB rfl) (aB rfl) rfl (by unfold RowV fK;simp only[h1]);unfold fT aY;rw[bS (gE (ω2:=ω) (out:=iv (bq mn x0 x1)) z1 (zO hx) (by
       rw[<- uD (G:=D2 mn) (fun _ _=>rfl)];refine lY (fun ρ=>ρ.length=2) z2 rfl fun d hd ρ hρ=> ?_;obtain⟨x,y,rfl⟩:=zN hd
       match ρ,hρ with
       |[u,v],_=>exact⟨_,rfl,rfl,rfl⟩))]
      rfl
     exact cJ rfl rfl step
   exact gen ht (fun xs hxs=>hl xs (ai _ hxs)) x0 xb (hl x0 aq)
  obtain⟨ρ',ω',g1,rfl,v,rfl⟩:=hloop;rw[bB (dP (by
   unfold bD oIL;rw[bS (bJ e1)];exact g1))]
  exact bI (aB rfl)
end
theorem uM (hl:ds.length=n) (e:G (cF N ds) ω=xa (.nx ρ1,ω1)):eC n N G ds ω=xa (.ok .non,ω1):=by
 unfold eC;rw[if_pos hl,e]
theorem oY:∀ kvs:List (List Key×D),sN kvs kvs=true
 |[]=>rfl
 |a::r=>by simp[sN,sO,oY r]
theorem Am (h:ω[n]?=xa (.dz kvs)):yA n kvs ω=true:=by
 unfold yA;rw[h];exact oY kvs
def QL (c:Nat) (k:List Key):Prop:=∃ a b:Int,k=[.inl a,.inl b]/\0<=a/\a<c
noncomputable def eV (xs:List Int):List Key->Bool
 |[.inl a,.inl b]=>decide (b<=xs.getD a.toNat 0)
 |_=>false
theorem uE (nd:(kvs.map (·.1)).Nodup) {kv:List Key×D} (h:kv∈kvs):gN kvs kv.1=xa kv.2:=by
 induction kvs with
 |nil=>simp at h
 |cons p r ih=>
  rw[bg,b9] at nd;unfold gN;rcases aj.mp h with rfl|h
  ·simp[gz]
  ·have hne:p.1≠kv.1:=fun z=>nd.1 (z ▸ ak.mpr ⟨kv,h,rfl⟩);rw[List.find?_cons_of_neg (by simpa using hne)];exact ih nd.2 h
theorem nR {k:List Key} (h:k∉kvs.map (·.1)):putD kvs k v=kvs++[(k,v)]:=by
 unfold putD;rw[if_neg];simp only[ow,decide_eq_true_eq,not_exists,not_and];intro x hx z;exact h (ak.mpr ⟨x,hx,z⟩)
section
variable {ω:Om}{h k t e:Nat}{i:Nat}{hd:Hd}{rs:List Nat}{ρ:Rho}{f:OG D}
noncomputable def Hd.forget (hd:Hd):Hd:={ hd with kept:=hd.kept.filter fun kv=> !eV (common hd.knows) kv.1 }
structure Hd.Ok (c:Nat) (hd:Hd):Prop where
 len:hd.knows.length=c
 row:∀ xs∈hd.knows,xs.length=c
 small:c<=8
 pos:0<c
 kk:∀ kv∈hd.kept,QL c kv.1
 kn:(hd.kept.map (·.1)).Nodup
 kl:hd.kept.length<64
 tk:∀ kv∈hd.table,∃ a b:Int,0<=a/\a<c/\kv.1=[.inl a,.inl b]/\∃ x v,kv.2=.tup [.str x,.tup [.int a,.int b],.int v]
 tn:(hd.table.map (·.1)).Nodup
 tl:hd.table.length<64
theorem Dp:∀ {kn:List (List Int)},kn≠[]->(∀ xs∈kn,xs.length=c)->(common kn).length=c
 |[],hne,_=>absurd rfl hne
 |r::rest,_,h=>by
  have gen:∀(rest:List (List Int)) (r:List Int),r.length=c->(∀ xs∈rest,xs.length=c)->(rest.foldl (bq mn) r).length=c:=by
   intro rest
   induction rest with
   |nil=>intro r hr _;exact hr
   |cons x rest ih=>
    intro r hr hx;refine ih _ ?_ fun xs hxs=>hx xs (ai _ hxs);rw[fh,hr,hx x aq,jk]
  exact gen rest r (h r aq) fun xs hxs=>h xs (ai _ hxs)
theorem yI (H:HandAt ω h i hd k t e rs) (W:hd.Ok c):∃ ω',fG [.obj h] ω=xa (.ok .non,ω')/\HandAt ω' h i hd.forget k t ω.length rs/\Keep [h] ω ω':=by
 have hne:hd.knows≠[]:=fun z=>by have:=W.len;rw[z] at this;have:=W.pos;simp at*;omega
 have hcl:=Dp hne W.row;obtain⟨⟨h1,h2,h3,h4⟩,⟨h5,h6,h7⟩,⟨h8,h9⟩,h10,h11⟩:=H.ne;have ltn:∀ {n:Nat},n∈h::k::t::e::rs->n≠ω.length:=fun hn z=>absurd (H.lt _ hn) (by rw[z];exact gv _);have e1:bR nS (aC (fX 0 "knows" (zV 0)) aO) (cF iK [.obj h]) ω=xa (.ok (.lst (iv (common hd.knows))),ω):=aV (aA (H.knows (aB rfl)) aD) (FV H.kn H.rows hne fun xs hx=>by rw[W.row xs hx,bv];have:=W.small;omega)
 -- the loop
 have loop:∀(post pre:List (List Key×D)) (v:Option D) (ω1:Om),hd.kept=pre++post->ω1[ω.length]?=xa (.dt (pre.filter fun kv=> !eV (common hd.knows) kv.1))->ω1[e]?=xa (.dz hd.kept)->(∀ n,n<ω.length->n≠e->ω1[n]?=ω[n]?)->ω1.length=ω.length+1->
   ∃ ρ' ω',bO (aS 3) (yA e hd.kept) aU (post.map fun kv=>bC kv.1) [xa (.obj h),xa (.lst (iv (common hd.knows))),xa (.obj ω.length),v] ω1=xa (.nx ρ',ω')/\(∃ v,ρ'=[xa (.obj h),xa (.lst (iv (common hd.knows))),xa (.obj ω.length),v])/\
    ω'[ω.length]?=xa (.dt (hd.kept.filter fun kv=> !eV (common hd.knows) kv.1))/\ω'[e]?=xa (.dz hd.kept)/\(∀ n,n<ω.length->n≠e->ω'[n]?=ω[n]?)/\ω'.length=ω.length+1:=by
  intro post
  induction post with
  |nil=>
   intro pre v ω1 hp g1 g2 g3 g4;rw[cr] at hp;refine⟨_,ω1,by show(if yA e hd.kept ω1=true then _ else xb)=_;rw[if_pos (Am g2)],⟨v,rfl⟩,by rw[hp];exact g1,g2,g3,g4⟩
  |cons kv post ih=>
   intro pre v ω1 hp g1 g2 g3 g4;have hm:kv∈hd.kept:=by rw[hp];simp
   obtain⟨a,b,hk,ha0,ha1⟩:=W.kk kv hm;have hdk:bC kv.1=.tup [.int a,.int b]:=by rw[hk];rfl
   have hseen:fL [.lst (iv (common hd.knows)),.tup [.int a,.int b]] ω1=xa (.ok (.bl (eV (common hd.knows) kv.1)),ω1):=by
    rw[hk];exact pR (ω:=ω1) (d:=.lst (iv (common hd.knows))) (xs:=common hd.knows) (show fK ω1 (.lst (iv (common hd.knows)))=_ from rfl) ha0 (by rw[hcl];exact ha1)
   have hobj:ω1[h]?=xa (.ins 0 [("number",.int i),("knows",.obj k),("table",.obj t),("kept",.obj e)]):=by rw[g3 h (H.lt h (by simp)) h3];exact H.obj
   have hp':hd.kept=(pre++[kv])++post:=by rw[gs];exact hp
   have first:∀ ω2,aU [xa (.obj h),xa (.lst (iv (common hd.knows))),xa (.obj ω.length),xa (.tup [.int a,.int b])] ω1=xa (.nx [xa (.obj h),xa (.lst (iv (common hd.knows))),xa (.obj ω.length),xa (.tup [.int a,.int b])],ω2)->
     bO (aS 3) (yA e hd.kept) aU ((kv::post).map fun kv=>bC kv.1) [xa (.obj h),xa (.lst (iv (common hd.knows))),xa (.obj ω.length),v] ω1=bO (aS 3) (yA e hd.kept) aU (post.map fun kv=>bC kv.1) [xa (.obj h),xa (.lst (iv (common hd.knows))),xa (.obj ω.length),xa (.tup [.int a,.int b])] ω2:=fun ω2 q=>by
    rw[bg,hdk]
    show(if yA e hd.kept ω1=true then(match aU [xa (.obj h),xa (.lst (iv (common hd.knows))),xa (.obj ω.length),xa (.tup [.int a,.int b])] ω1 with
     |none=>xb
     |some (.nx ρ2,ω2)=>bO (aS 3) (yA e hd.kept) aU (post.map fun kv=>bC kv.1) ρ2 ω2
     |some (.ct ρ2,ω2)=>bO (aS 3) (yA e hd.kept) aU (post.map fun kv=>bC kv.1) ρ2 ω2
     |some (.bk ρ2,ω2)=>xa (.nx ρ2,ω2)
     |some (.rt d,ω2)=>xa (.rt d,ω2)
     |some (.ex _,_)=>xb) else xb)=_
    rw[if_pos (Am g2),q]
   have tst:iV (iP (bR fL (aC (zV 1) (aC (zV 3) aO)))) [xa (.obj h),xa (.lst (iv (common hd.knows))),xa (.obj ω.length),xa (.tup [.int a,.int b])] ω1=xa (.ok (!eV (common hd.knows) kv.1),ω1):=by
    unfold iV iP;rw[bJ (bJ (aV (aA (aB rfl) (aA (aB rfl) aD)) hseen))]
   cases hs:eV (common hd.knows) kv.1 with
   |true=>
    have b1:aU [xa (.obj h),xa (.lst (iv (common hd.knows))),xa (.obj ω.length),xa (.tup [.int a,.int b])] ω1=xa (.nx [xa (.obj h),xa (.lst (iv (common hd.knows))),xa (.obj ω.length),xa (.tup [.int a,.int b])],ω1):=by
     unfold aU;rw[hs] at tst;rw[iT tst];rfl
    rw[first ω1 b1];refine ih (pre++[kv]) _ ω1 hp' ?_ g2 g3 g4;rw[i6,da (by rw[hs];decide),k6,cr];exact g1
   |false=>
    have nin:kv.1∉(pre.filter fun kv=> !eV (common hd.knows) kv.1).map (·.1):=fun z=>by
     obtain⟨q,q1,q2⟩:=ak.mp z;have nd:=W.kn;rw[hp,c7,jt] at nd;exact nd.2.2 _ (ak.mpr ⟨q,(bu.mp q1).1,rfl⟩) _ (ak.mpr ⟨kv,aq,rfl⟩) q2
    have fl:(pre.filter fun kv=> !eV (common hd.knows) kv.1).length<sizeLine:=by
     have h1:=dh (fun kv:List Key×D=> !eV (common hd.knows) kv.1) pre;have h2:=W.kl;rw[hp,b8] at h2;rw[bv];omega
    have dg:iD ω1 (.obj e) (.tup [.int a,.int b])=xa kv.2:=by
     have:gN hd.kept [.inl a,.inl b]=xa kv.2:=by rw[<- hk];exact uE W.kn hm
     simp only[iD,DG,cellOf,g2]
     show(((xa [.inl a,.inl b]:Option (List Key)).map fun k=>gN hd.kept k)).join=_
     show(xa (gN hd.kept [.inl a,.inl b])).join=_
     rw[this];rfl
    have b1:aU [xa (.obj h),xa (.lst (iv (common hd.knows))),xa (.obj ω.length),xa (.tup [.int a,.int b])] ω1=xa (.nx [xa (.obj h),xa (.lst (iv (common hd.knows))),xa (.obj ω.length),xa (.tup [.int a,.int b])],ω1.set ω.length (.dt ((pre.filter fun kv=> !eV (common hd.knows) kv.1)++[kv]))):=by
     unfold aU;rw[hs] at tst;rw[jX tst];refine fB (v:=kv.2) (ω1:=ω1) (ω2:=ω1) (ω3:=ω1) (o:=.obj ω.length) (i:=.tup [.int a,.int b]) (dY (fV (aB rfl) hobj rfl) (aB rfl) ?_) (aB rfl) (aB rfl) ?_
     ·show pu (iD ω1 (.obj e) (.tup [.int a,.int b])) ω1=_;rw[dg];rfl
     ·rw[qD (ks:=kv.1) g1 (by rw[hk];rfl) fl,nR nin]
    rw[first _ b1];refine ih (pre++[kv]) _ _ hp' ?_ ?_ (fun n hn hne=> ?_) (by simp[g4])
    ·rw[cD g1,i6,db (by rw[hs];decide),k6]
    ·rw[aH (ltn (by simp))];exact g2
    ·rw[aH (by omega)];exact g3 n hn hne
 have ge:(ω++[Ob.dt []])[e]?=xa (.dt hd.kept):=by rw[ao (H.lt e (by simp))];exact H.kp
 obtain⟨ρ',ω2,l1,⟨v,rfl⟩,l3,l4,l5,l6⟩:=loop hd.kept [] xb ((ω++[Ob.dt []]).set e (.dz hd.kept)) rfl (by rw[aH (bz (ltn (by simp)))];simp) (cD ge) (fun n hn hne=>by rw[aH hne,ao hn]) (by simp);have l3':(ω2.set e (.dt hd.kept))[ω.length]?=xa (.dt (hd.kept.filter fun kv=> !eV (common hd.knows) kv.1)):=by rw[aH (bz (ltn (by simp)))];exact l3
 have ho:(ω2.set e (.dt hd.kept))[h]?=xa (.ins 0 [("number",.int i),("knows",.obj k),("table",.obj t),("kept",.obj e)]):=by rw[aH h3,l5 h (H.lt h (by simp)) h3];exact H.obj
 refine⟨(ω2.set e (.dt hd.kept)).set h (.ins 0 [("number",.int i),("knows",.obj k),("table",.obj t),("kept",.obj ω.length)]),?_,⟨cD ho,?_,?_,?_,?_,?_⟩,⟨by simp[l6],fun n hn hm=> ?_⟩⟩
 ·have body:iC (cF iK [.obj h]) ω=xa (.nx [xa (.obj h),xa (.lst (iv (common hd.knows))),xa (.obj ω.length),v],(ω2.set e (.dt hd.kept)).set h (.ins 0 [("number",.int i),("knows",.obj k),("table",.obj t),("kept",.obj ω.length)])):=by
   unfold iC;rw[aK e1];rw[aK (d:=.obj ω.length) (ω1:=ω++[.dt []]) rfl];have ho1:(ω++[Ob.dt []])[h]?=xa (.ins 0 [("number",.int i),("knows",.obj k),("table",.obj t),("kept",.obj e)]):=by rw[ao (H.lt h (by simp))];exact H.obj
   rw[bB (dP (by
    unfold JH;rw[bS (fV (aB (d:=.obj h) rfl) ho1 rfl)]
    have:Di (ω++[Ob.dt []]) (.obj e)=xa (e,hd.kept):=by simp only[Di,ge]
    show(Di (ω++[Ob.dt []]) (.obj e)).bind _=_
    rw[this]
    show(match bO (aS 3) (yA e hd.kept) aU (hd.kept.map fun kv=>bC kv.1) [xa (.obj h),xa (.lst (iv (common hd.knows))),xa (.obj ω.length),xb] ((ω++[Ob.dt []]).set e (.dz hd.kept)) with
     |some (.nx ρ',ω')=>if yA e hd.kept ω'=true then xa (OOut.nx ρ',ω'.set e (.dt hd.kept)) else xb
     |_=>xb)=_
    rw[l1]
    show(if yA e hd.kept ω2=true then _ else xb)=_
    rw[if_pos (Am l4)]))]
   unfold nE;rw[bS (aB (d:=.obj ω.length) rfl),bS (aB (d:=.obj h) rfl)]
   have:vG 0 "kept" (ω2.set e (.dt hd.kept)) (.obj h) (.obj ω.length)=xa ((ω2.set e (.dt hd.kept)).set h (.ins 0 [("number",.int i),("knows",.obj k),("table",.obj t),("kept",.obj ω.length)])):=by
    simp only[vG,ho];rfl
   show(vG 0 "kept" (ω2.set e (.dt hd.kept)) (.obj h) (.obj ω.length)).map _=_
   rw[this];rfl
  exact uM rfl body
 ·rw[aH (bz h1),aH h6,l5 k (H.lt k (by simp)) h6];exact H.kn
 ·refine H.rows.mono fun r hr=> ?_;rw[aH (show r≠h from fun z=>h4 (z ▸ hr)),aH (show r≠e from fun z=>h10 (z ▸ hr)),l5 r (H.lt r (by simp[hr])) (fun z=>h10 (z ▸ hr))]
 ·rw[aH (bz h2),aH h8,l5 t (H.lt t (by simp)) h8];exact H.tb
 ·rw[aH (bz (ltn (by simp)))];exact l3'
 ·have nn:∀ n∈h::k::t::rs,n≠ω.length:=fun n hn=>ltn (by
   simp only[aj] at hn ⊢;rcases hn with z|z|z|z
   ·exact .inl z
   ·exact .inr (.inl z)
   ·exact .inr (.inr (.inl z))
   ·exact .inr (.inr (.inr (.inr z))))
  simp only[b9,aj,not_or];exact⟨⟨h1,h2,nn h (by simp),h4⟩,⟨h5,nn k (by simp),h7⟩,⟨nn t (by simp),h9⟩,fun z=>nn _ (by simp[z]) rfl,h11⟩
 ·rw[aH (fun z=>hm (by rw[z];simp))]
  by_cases he:n=e
  ·subst he;rw[cD l4];exact H.kp.symm
  ·rw[aH he];exact l5 n hn he
end
theorem gP {ω:Om}{n:Nat}{ob:Ob} (h:ω[n]?=xa ob):ω.set n ob=ω:=by
 apply jb;intro m
 by_cases hm:m=n
 ·subst hm;rw[cD h,h]
 ·rw[aH hm]
theorem Mv (k:Key):toK (ofK k)=xa k:=by cases k <;> rfl
theorem DP:∀ ks:List Key,Mu (ks.map ofK)=xa ks
 |[]=>rfl
 |k::r=>by
  show(toK (ofK k)).bind _=_
  rw[Mv]
  show(Mu (r.map ofK)).map _=_
  rw[DP r];rfl
theorem wO (k:List Key):DD (bC k)=xa k:=DP k
theorem Jv (ha:gH a) (hb:gH b):∃ c,cO 4 a b=xa c:=by
 obtain⟨x,p,q,v,rfl⟩:=ha;obtain⟨x',p',q',v',rfl⟩:=hb;show ∃ c,(match eqD 4 (.str x) (.str x') with
  |some true=>(match eqD 4 (.tup [.int p,.int q]) (.tup [.int p',.int q']) with
   |some true=>(match eqD 4 (.int v) (.int v') with
    |some true=>xa _
    |some false=>eZ (.int v) (.int v')
    |none=>xb)
   |some false=>eZ (.tup [.int p,.int q]) (.tup [.int p',.int q'])
   |none=>xb)
  |some false=>eZ (.str x) (.str x')
  |none=>xb)=xa c
 rw[iE];cases decide (x=x') with
 |false=>exact⟨_,rfl⟩
 |true=>
  have e2:∃ c,eqD 4 (.tup [.int p,.int q]) (.tup [.int p',.int q'])=xa c:=⟨_,rfl⟩;obtain⟨c,e2⟩:=e2;rw[e2];cases c with
  |false=>exact⟨_,rfl⟩
  |true=>
   show ∃ c,(match eqD 4 (.int v) (.int v') with
    |some true=>xa _
    |some false=>eZ (.int v) (.int v')
    |none=>xb)=xa c
   have e3:eqD 4 (.int v) (.int v')=xa (decide (v=v')):=rfl;rw[e3];cases decide (v=v') with
   |false=>exact⟨_,rfl⟩
   |true=>exact⟨_,rfl⟩
theorem Cd (h:gH d):kP d=xa false:=by
 obtain⟨x,a,b,v,rfl⟩:=h;rfl
section
variable {ω:Om}{h k t e:Nat}{i:Nat}{hd:Hd}{rs:List Nat}{ρ:Rho}{f:OG D}
theorem Hd.Ok.ent (W:hd.Ok c):∀ d∈hd.table.map (·.2),gH d:=fun d hd'=>by
 obtain⟨kv,h1,rfl⟩:=ak.mp hd';obtain⟨a,b,_,_,_,x,v,e⟩:=W.tk kv h1;exact⟨x,a,b,v,e⟩
theorem Hd.Ok.sorts (W:hd.Ok c):∃ out,hd.entries=xa out/\out.Perm (hd.table.map (·.2)):=by
 refine nP (by rw[am];exact W.tl) ?_ fun a ha b hb=>Jv (W.ent a ha) (W.ent b hb);unfold gX;rw[ib];right;rw[du];intro d hd';rw[Cd (W.ent d hd')];rfl
noncomputable def Hd.takeOut0 (hd:Hd) (mk:List Key) (ks:List (List Key)):Hd:={ hd with table:=ks.foldl eA hd.table,kept:=if ks=[] then hd.kept else putD hd.kept mk (.tup (ks.map bC)) }
noncomputable def Hd.takeOut (hd:Hd) (mk:List Key) (ks:List (List Key)):Hd:=(hd.takeOut0 mk ks).forget
theorem BG {g:Om->D->List D->Option (D×Om)}{fo:OG D}{fl:OG (List D)}{ρ:Rho}{ω ω1 ω2 ω3:Om}{n:Nat}{kvs:List (List Key×D)}{ds:List D}{r:D} (e1:fo ρ ω=xa (.ok (.obj n),ω1)) (e2:ω1[n]?=xa (.dt kvs)) (e3:fl ρ ω1=xa (.ok ds,ω2)) (e4:g ω2 (.obj n) ds=xa (r,ω3)):pE g fo fl ρ ω=xa (.ok r,ω3):=by
 unfold pE;rw[bJ e1]
 have:CY ω1 (.obj n)=true:=by simp only[CY,cellOf,e2]
 show(if CY ω1 (.obj n)=true then _ else xb)=_
 rw[if_pos this,bJ e3];show oR (g ω2 (.obj n) ds)=_;rw[e4];rfl
theorem Dk {kvs:List (List Key×D)}{q k:List Key} (h:q∈kvs.map (·.1)) (hn:q≠k):q∈(eA kvs k).map (·.1):=by
 obtain⟨p,h1,rfl⟩:=ak.mp h;exact ak.mpr ⟨p,bu.mpr ⟨h1,by simpa using hn⟩,rfl⟩
theorem DI {kvs:List (List Key×D)}{k:List Key} (h:k∈kvs.map (·.1)):∃ v,gN kvs k=xa v:=by
 obtain⟨p,h1,h2⟩:=ak.mp h;unfold gN;cases q:kvs.find? fun kv=>decide (kv.1=k) with
 |some u=>exact⟨u.2,rfl⟩
 |none=>
  rw[vb] at q;exact absurd (by simpa using h2) (q p h1)
theorem El:∀ {ks:List (List Key)}{T:List (List Key×D)}{v:Option D}{ω:Om},ω[h]?=xa (.ins 0 [("number",.int i),("knows",.obj k),("table",.obj t),("kept",.obj e)])->ω[t]?=xa (.dt T)->h≠t->ks.Nodup->(∀ q∈ks,q∈T.map (·.1))->
  ∃ ρ',bO (aS 3) bM cI (ks.map bC) [xa (.obj h),xa mk,xa ms,v] ω=xa (.nx ρ',ω.set t (.dt (ks.foldl eA T)))/\∃ v,ρ'=[xa (.obj h),xa mk,xa ms,v]
 |[],T,v,ω,_,ht,_,_,_=>⟨_,by
   show xa (OOut.nx _,ω)=_
   congr 2
   exact(gP ht).symm,v,rfl⟩
 |q::ks,T,v,ω,ho,ht,hne,hk,hin=>by
  rw[b9] at hk;obtain⟨u,hu⟩:=DI (hin q aq);have b1:cI [xa (.obj h),xa mk,xa ms,xa (bC q)] ω=xa (.nx [xa (.obj h),xa mk,xa ms,xa (bC q)],ω.set t (.dt (eA T q))):=by
   unfold cI bT;rw[bS (BG (r:=u) (ω3:=ω.set t (.dt (eA T q))) (fV (aB rfl) ho rfl) ht (aA (aB rfl) aD) (by
    simp only[Fx,ht]
    show(DD (bC q)).bind _=_
    rw[wO]
    show(gN T q).map _=_
    rw[hu];rfl))]
  obtain⟨ρ',g1,v',g2⟩:=El (mk:=mk) (ms:=ms) (ks:=ks) (T:=eA T q) (v:=xa (bC q)) (ω:=ω.set t (.dt (eA T q))) (by rw[aH hne];exact ho) (cD ht) hne hk.2 fun q' hq'=>Dk (hin q' (ai _ hq')) fun z=>hk.1 (z ▸ hq');refine⟨ρ',?_,v',g2⟩;rw[pc] at g1;rw[bg];refine(cJ rfl rfl (b1)).trans ?_;exact g1
theorem zW (H:HandAt ω h i hd k t e rs) (hk:ks.Nodup) (hin:∀ q∈ks,q∈hd.table.map (·.1)) (hl:hd.kept.length<sizeLine) (W:(hd.takeOut0 mk ks).Ok c):
  ∃ ω' e',cY [.obj h,bC mk,.lst (ks.map bC)] ω=xa (.ok .non,ω')/\HandAt ω' h i (hd.takeOut mk ks) k t e' rs/\Keep [h,t,e] ω ω'/\ω.length<=e':=by
 obtain⟨⟨h1,h2,h3,h4⟩,⟨h5,h6,h7⟩,⟨h8,h9⟩,h10,h11⟩:=H.ne;obtain⟨ρ1,g1,v,rfl⟩:=El (h:=h) (i:=i) (k:=k) (t:=t) (e:=e) (mk:=bC mk) (ms:=.lst (ks.map bC)) (ks:=ks) (T:=hd.table) (v:=xb) (ω:=ω) H.obj H.tb h2 hk hin;have H1:HandAt (ω.set t (.dt (ks.foldl eA hd.table))) h i { hd with table:=ks.foldl eA hd.table } k t e rs:=H.setT _;have l1:sNx (bD (oIL (zV 2)) (aS 3) cI) (cF jK [.obj h,bC mk,.lst (ks.map bC)]) ω=xa (.nx [xa (.obj h),xa (bC mk),xa (.lst (ks.map bC)),v],ω.set t (.dt (ks.foldl eA hd.table))):=dP (by
  unfold bD oIL;rw[bS (bJ (aB (d:=.lst (ks.map bC)) rfl))];exact g1)
 have mid:∃ ω2,dG (iP (zV 2)) (iR nG (fX 0 "kept" (zV 0)) (zV 1) (oL Fq (aC (zV 2) aO))) bN [xa (.obj h),xa (bC mk),xa (.lst (ks.map bC)),v] (ω.set t (.dt (ks.foldl eA hd.table)))=xa (.nx [xa (.obj h),xa (bC mk),xa (.lst (ks.map bC)),v],ω2)/\HandAt ω2 h i (hd.takeOut0 mk ks) k t e rs/\Keep [t,e] ω ω2/\ω2.length=ω.length:=by
  cases hks:ks with
  |nil=>
   refine⟨ω.set t (.dt (([]:List (List Key)).foldl eA hd.table)),?_,?_,Keep.set (by simp),by simp⟩
   ·rw[iT (ω1:=ω.set t (.dt (([]:List (List Key)).foldl eA hd.table))) (by
     unfold iP;rw[bJ (aB (d:=.lst []) rfl)];rfl)]
    rfl
   ·subst hks;exact H1
  |cons q r=>
   have hks':ks≠[]:=by rw[hks];simp
   rw[<- hks];refine⟨(ω.set t (.dt (ks.foldl eA hd.table))).set e (.dt (putD hd.kept mk (.tup (ks.map bC)))),?_,?_,(Keep.set (by simp)).trans (Keep.set (by simp)),by simp⟩
   ·rw[jX (ω1:=ω.set t (.dt (ks.foldl eA hd.table))) (by
     unfold iP;rw[bJ (aB (d:=.lst (ks.map bC)) rfl)];rw[hks];rfl)]
    exact fB (cP (aA (aB (d:=.lst (ks.map bC)) rfl) aD) rfl) (H1.kept (aB rfl)) (aB (d:=bC mk) rfl) (qD (ks:=mk) H1.kp (wO mk) hl)
   ·have:=H1.setE (putD hd.kept mk (.tup (ks.map bC)))
    have e0:hd.takeOut0 mk ks={ hd with table:=ks.foldl eA hd.table,kept:=putD hd.kept mk (.tup (ks.map bC)) }:=by
     unfold Hd.takeOut0;rw[if_neg hks']
    rw[e0];exact this
 obtain⟨ω2,m1,H2,K2,L2⟩:=mid;obtain⟨ω3,f1,H3,K3⟩:=yI H2 W;refine⟨ω3,ω2.length,?_,H3,⟨by rw[<- L2];exact K3.1,fun n hn hm=> ?_⟩,by rw[L2];exact bf _⟩
 ·refine uM (ρ1:=[xa (.obj h),xa (bC mk),xa (.lst (ks.map bC)),v]) rfl ?_;unfold jC;rw[bB l1,bB m1];unfold bT;rw[bS (cH (aB rfl) H2.obj rfl f1)]
 ·simp only[aj,c4,or_false,not_or] at hm;rw[K3.2 n (by rw[L2];exact hn) (by simpa using hm.1)];exact K2.2 n hn (by simp[hm.2.1,hm.2.2])
end
noncomputable def aX:D->List Key
 |.tup [_,.tup [.int a,.int b],_]=>[.inl a,.inl b]
 |_=>[]
noncomputable def Lk (y:Str):D->Bool
 |.tup [.str x,_,_]=>decide (x=y)
 |_=>false
noncomputable def Hd.ents (hd:Hd):List D:=hd.entries.getD []
noncomputable def Hd.marksK (hd:Hd) (y:Str):List (List Key):=(hd.ents.filter (Lk y)).map aX
theorem sV:∀ {out:List D},(∀ d∈out,gH d)->marksIn (.str y) out=((out.filter (Lk y)).map aX).map bC
 |[],_=>rfl
 |d::r,h=>by
  have ih:=sV (y:=y) (out:=r) fun d hd=>h d (ai _ hd);obtain⟨x,a,b,v,rfl⟩:=h d aq;unfold marksIn at ih ⊢;have e0:(eqD 8 (.str x) (.str y)==xa true)=decide (x=y):=by rw[iE];cases decide (x=y) <;> rfl
  by_cases hx:x=y
  ·rw[db (by show(eqD 8 (.str x) (.str y)==xa true)=true;rw[e0];exact decide_eq_true hx),db (by show decide (x=y)=true;exact decide_eq_true hx)];rw[bg,bg,bg,ih];rfl
  ·rw[da (by show ¬(eqD 8 (.str x) (.str y)==xa true)=true;rw[e0];simpa using hx),da (by show ¬ decide (x=y)=true;simpa using hx)];exact ih
section
variable {ω ω1 ω2:Om}{h k t e:Nat}{i c:Nat}{hd hd1 hd2:Hd}{rs fp:List Nat}
theorem Hd.Ok.ents (W:hd.Ok c):hd.entries=xa hd.ents/\hd.ents.Perm (hd.table.map (·.2)):=by
 obtain⟨out,e1,e2⟩:=W.sorts
 have:hd.ents=out:=by unfold Hd.ents;rw[e1];rfl
 rw[this];exact⟨e1,e2⟩
theorem Hd.Ok.entsEnt (W:hd.Ok c):∀ d∈hd.ents,gH d:=fun d hd'=>W.ent d (W.ents.2.mem_iff.mp hd')
theorem Hd.Ok.keys (W:hd.Ok c):(hd.table.map (·.2)).map aX=hd.table.map (·.1):=by
 rw[fk];apply fg;intro kv hkv;obtain⟨a,b,_,_,e1,x,v,e2⟩:=W.tk kv hkv;show aX kv.2=kv.1;rw[e2,e1];rfl
theorem Hd.Ok.entsKeys (W:hd.Ok c):(hd.ents.map aX).Perm (hd.table.map (·.1)):=by
 rw[<- W.keys];exact W.ents.2.map aX
theorem Hd.Ok.entsNodup (W:hd.Ok c):(hd.ents.map aX).Nodup:=W.entsKeys.nodup_iff.mpr W.tn
theorem Hd.Ok.entsLen (W:hd.Ok c):hd.ents.length<64:=by rw[W.ents.2.length_eq,am];exact W.tl
theorem Hd.Ok.marksNodup (W:hd.Ok c) (y:Str):(hd.marksK y).Nodup:=W.entsNodup.sublist (io.map aX)
theorem Hd.Ok.marksIn (W:hd.Ok c) (y:Str):∀ q∈hd.marksK y,q∈hd.table.map (·.1):=fun q hq=>W.entsKeys.mem_iff.mp ((io.map aX).subset hq)
theorem Hd.Ok.seenMem (W:hd.Ok c) (hi:i<c):hd.seen i∈hd.knows:=by
 unfold Hd.seen
 have:i<hd.knows.length:=by rw[W.len];exact hi
 rw[av,bh this];exact i5 this
theorem Hd.Ok.seenLen (W:hd.Ok c) (hi:i<c):(hd.seen i).length=c:=W.row _ (W.seenMem hi)
theorem eE (h:n<64):n<sizeLine:=by rw[bv];omega
def HandS (ω:Om) (h i:Nat) (hd:Hd) (fp:List Nat):Prop:=∃ k t e rs,HandAt ω h i hd k t e rs/\fp=h::k::t::e::rs
def Did (ω:Om) (h i:Nat) (fp:List Nat) (ω':Om) (hd':Hd):Prop:=∃ fp',HandS ω' h i hd' fp'/\Keep fp ω ω'/\∀ n∈fp',n∈fp∨ω.length<=n
theorem HandS.obj (H:HandS ω h i hd fp):∃ k t e,ω[h]?=xa (.ins 0 [("number",.int i),("knows",.obj k),("table",.obj t),("kept",.obj e)]):=by
 obtain⟨k,t,e,rs,H,_⟩:=H;exact⟨k,t,e,H.obj⟩
theorem HandS.lt (H:HandS ω h i hd fp):∀ n∈fp,n<ω.length:=by
 obtain⟨k,t,e,rs,H,rfl⟩:=H;exact H.lt
theorem HandS.mono (H:HandS ω h i hd fp) (g:∀ n∈fp,ω'[n]?=ω[n]?):HandS ω' h i hd fp:=by
 obtain⟨k,t,e,rs,H,rfl⟩:=H;exact⟨k,t,e,rs,H.mono g,rfl⟩
theorem Did.refl (H:HandS ω h i hd fp):Did ω h i fp ω hd:=⟨fp,H,Keep.refl _ _,fun n hn=>.inl hn⟩
theorem Did.trans (a:Did ω h i fp ω1 hd1) (b:∀ fp1,HandS ω1 h i hd1 fp1->Did ω1 h i fp1 ω2 hd2):Did ω h i fp ω2 hd2:=by
 obtain⟨fp1,H1,K1,F1⟩:=a;obtain⟨fp2,H2,K2,F2⟩:=b fp1 H1;refine⟨fp2,H2,⟨ci K1.1 K2.1,fun n hn hf=> ?_⟩,fun n hn=> ?_⟩
 ·rw[K2.2 n (cg hn K1.1) fun z=>(F1 n z).elim hf fun q=>absurd hn (ub.mpr q)];exact K1.2 n hn hf
 ·rcases F2 n hn with z|z
  ·exact F1 n z
  ·exact .inr (ci K1.1 z)
theorem Keep.sub (a:Keep fp ω ω') (h:∀ n∈fp,n∈fq):Keep fq ω ω':=⟨a.1,fun n hn hf=>a.2 n hn fun z=>hf (h n z)⟩
theorem QW (H:HandS ω h i hd fp) (W:hd.Ok c) (hi:i<c) (x:Str) (v:Int):∃ ω',eK [.obj h,.str x,.int v] ω=xa (.ok (mkD i (hd.next i)),ω')/\Did ω h i fp ω' (hd.put i x v):=by
 obtain⟨k,t,e,rs,H,rfl⟩:=H;obtain⟨ω',e1,H',K,L⟩:=ML H (by rw[W.len];exact hi) (by rw[W.seenLen hi];exact hi) (eE W.tl) x v;exact⟨ω',e1,_,⟨k,t,e,rs,H',rfl⟩,K.sub (fun n hn=>by simp only[aj] at hn ⊢;rcases hn with z|z <;> simp[z]),fun n hn=>.inl hn⟩
theorem EJ (H:HandS ω h i hd fp) (W:hd.Ok c) (hi:i<c):∃ ω',cZ [.obj h] ω=xa (.ok (mkD i (hd.next i)),ω')/\Did ω h i fp ω' (hd.bump i):=by
 obtain⟨k,t,e,rs,H,rfl⟩:=H;obtain⟨ω',e1,H',K,L⟩:=pG H (by rw[W.len];exact hi) (by rw[W.seenLen hi];exact hi);exact⟨ω',e1,_,⟨k,t,e,rs,H',rfl⟩,K.sub (fun n hn=>by simp[hn]),fun n hn=>.inl hn⟩
theorem Jo (H:HandS ω h i hd fp) (W:hd.Ok c) (y:Str):dA [.obj h,.str y] ω=xa (.ok (.lst ((hd.marksK y).map bC)),ω):=by
 obtain⟨k,t,e,rs,H,rfl⟩:=H;rw[HE H W.ents.1 W.entsEnt (ip (eE W.entsLen)) y,sV W.entsEnt];rfl
theorem nO {mk:List Key}{ks:List (List Key)} (H:HandS ω h i hd fp) (hk:ks.Nodup) (hin:∀ q∈ks,q∈hd.table.map (·.1)) (hl:hd.kept.length<64) (W:(hd.takeOut0 mk ks).Ok c):∃ ω',cY [.obj h,bC mk,.lst (ks.map bC)] ω=xa (.ok .non,ω')/\Did ω h i fp ω' (hd.takeOut mk ks):=by
 obtain⟨k,t,e,rs,H,rfl⟩:=H;obtain⟨ω',e',e1,H',K,L⟩:=zW H hk hin (eE hl) W;refine⟨ω',e1,_,⟨k,t,e',rs,H',rfl⟩,K.sub (fun n hn=>by simp only[aj,c4,or_false] at hn ⊢;rcases hn with z|z|z <;> simp[z]),fun n hn=> ?_⟩;simp only[aj] at hn ⊢;rcases hn with z|z|z|z|z
 ·exact .inl (.inl z)
 ·exact .inl (.inr (.inl z))
 ·exact .inl (.inr (.inr (.inl z)))
 ·exact .inr (z ▸ L)
 ·exact .inl (.inr (.inr (.inr (.inr z))))
theorem xE {kvs:List (List Key×D)}{q k:List Key}{v:D} (h:q∈kvs.map (·.1)):q∈(putD kvs k v).map (·.1):=by
 unfold putD;split
 ·obtain⟨p,h1,h2⟩:=ak.mp h;refine ak.mpr ⟨if p.1=k then(p.1,v) else p,ak.mpr ⟨p,h1,rfl⟩,?_⟩;split <;> exact h2
 ·rw[c7];exact de _ h
noncomputable def Hd.change (hd:Hd) (i:Nat) (x:Str) (v:Int):Hd:=(hd.put i x v).takeOut (fH i (hd.next i)) (hd.marksK x)
theorem LX (H:HandS ω h i hd fp) (W:hd.Ok c) (hi:i<c) (x:Str) (v:Int) (W2:((hd.put i x v).takeOut0 (fH i (hd.next i)) (hd.marksK x)).Ok c):∃ ω',dW [.obj h,.str x,.int v] ω=xa (.ok (mkD i (hd.next i)),ω')/\Did ω h i fp ω' (hd.change i x v):=by
 obtain⟨ω1,e1,D1⟩:=QW H W hi x v;obtain⟨fp1,H1,K1,F1⟩:=id D1;obtain⟨ω2,e2,D2⟩:=nO (mk:=fH i (hd.next i)) (ks:=hd.marksK x) H1 (W.marksNodup x) (fun q hq=>xE (W.marksIn x q hq)) W.kl W2;refine⟨ω2,?_,D1.trans fun fq Hq=> ?_⟩
 ·obtain⟨k0,t0,e0,ho⟩:=H.obj;obtain⟨k1,t1,e1',ho1⟩:=H1.obj;refine aT rfl ?_;unfold lS;rw[aK (cA (aB rfl) ho rfl (aA (aB rfl) aD) (Jo H W x))];rw[aK (cA (aB (d:=.obj h) rfl) ho rfl (aA (aB (d:=.str x) rfl) (aA (aB (d:=.int v) rfl) aD)) e1)];rw[bB (ρ1:=[xa (.obj h),xa (.str x),xa (.int v),xa (.lst ((hd.marksK x).map bC)),xa (mkD i (hd.next i))]) (ω1:=ω2) (by
   unfold bT;rw[bS (cA (aB (d:=.obj h) rfl) ho1 rfl (aA (aB (d:=bC (fH i (hd.next i))) rfl) (aA (aB (d:=.lst ((hd.marksK x).map bC)) rfl) aD)) e2)];rfl)]
  exact bI (aB rfl)
 ·obtain⟨ωq,eq,Dq⟩:=nO (mk:=fH i (hd.next i)) (ks:=hd.marksK x) Hq (W.marksNodup x) (fun q hq=>xE (W.marksIn x q hq)) W.kl W2;rw[e2] at eq;cases eq;exact Dq
noncomputable def Hd.take (hd:Hd) (i:Nat) (x:Str):Hd:=if hd.marksK x=[] then hd else(hd.bump i).takeOut (fH i (hd.next i)) (hd.marksK x)
noncomputable def Hd.takeA (hd:Hd) (x:Str):D:=if hd.marksK x=[] then .non else .lst ((hd.marksK x).map bC)
theorem Pq (H:HandS ω h i hd fp) (W:hd.Ok c) (hi:i<c) (x:Str) (W2:((hd.bump i).takeOut0 (fH i (hd.next i)) (hd.marksK x)).Ok c):∃ ω',fO [.obj h,.str x] ω=xa (.ok (hd.takeA x),ω')/\Did ω h i fp ω' (hd.take i x):=by
 obtain⟨k0,t0,e0,ho⟩:=H.obj;unfold Hd.take Hd.takeA;have m1:=Jo H W x;cases hm:hd.marksK x with
 |nil=>
  rw[if_pos rfl,if_pos rfl];refine⟨ω,?_,Did.refl H⟩;refine aT rfl ?_;unfold kR;rw[hm] at m1;rw[aK (cA (aB rfl) ho rfl (aA (aB rfl) aD) m1)];rfl
 |cons q r=>
  rw[if_neg (by simp),if_neg (by simp)];rw[hm] at m1 W2;obtain⟨ω1,e1,D1⟩:=EJ H W hi;obtain⟨fp1,H1,K1,F1⟩:=id D1;have nd:=W.marksNodup x;have mi:=W.marksIn x;rw[hm] at nd mi;obtain⟨ω2,e2,D2⟩:=nO (mk:=fH i (hd.next i)) (ks:=q::r) H1 nd mi W.kl W2;refine⟨ω2,?_,D1.trans fun fq Hq=> ?_⟩
  ·obtain⟨k1,t1,e1',ho1⟩:=H1.obj;refine aT rfl ?_;unfold kR;rw[aK (cA (aB rfl) ho rfl (aA (aB rfl) aD) m1)];rw[bB (ρ1:=[xa (.obj h),xa (.str x),xa (.lst ((q::r).map bC))]) (ω1:=ω) rfl];rw[bB (ρ1:=[xa (.obj h),xa (.str x),xa (.lst ((q::r).map bC))]) (ω1:=ω2) (by
    unfold bT;rw[bS (cA (aB (d:=.obj h) rfl) ho rfl (aA (a:=bC (fH i (hd.next i))) (cH (aB rfl) ho rfl e1) (aA (aB (d:=.lst ((q::r).map bC)) rfl) aD)) e2)])]
   exact bI (aB rfl)
  ·obtain⟨ωq,eq,Dq⟩:=nO (mk:=fH i (hd.next i)) (ks:=q::r) Hq nd mi W.kl W2;rw[e2] at eq;cases eq;exact Dq
end
theorem cG (er:ω[r]?=xa (.ml (iv xs))):RowV ω (.obj r) xs:=by unfold RowV fK;simp only[er]
theorem dZ {ω:Om} (h:ω[n]?=xa o):n<ω.length:=(bt.mp h).1
theorem RowsAt.app (h:RowsAt ω rs kn) (obs:List Ob):RowsAt (ω++obs) rs kn:=by
 induction h with
 |nil=>exact .nil
 |cons hr _ ih=>exact .cons ((ao (dZ hr)).trans hr) ih
theorem RowsAt.setAt (h:RowsAt ω rs kn) (hr:ω[r]?=xa (.ml (iv xs))):RowsAt ω (rs.set j r) (kn.set j xs):=by
 induction h generalizing j with
 |nil=>exact .nil
 |cons h0 t ih=>
  cases j with
  |zero=>exact .cons hr t
  |succ j=>exact .cons h0 ih
theorem EH {l:List Nat} (h:l.Nodup) (ha:a∉l) (j:Nat):(l.set j a).Nodup:=by
 induction l generalizing j with
 |nil=>exact h
 |cons x r ih=>
  rw[b9] at h;simp only[aj,not_or] at ha;cases j with
  |zero=>rw[vc,b9];exact⟨ha.2,h.2⟩
  |succ j=>
   rw[vd,b9];refine⟨fun z=> ?_,ih h.2 ha.2 j⟩;rcases i7 z with z|z
   ·exact h.1 z
   ·exact ha.1 z.symm
noncomputable def Hd.leaves (tl:Hd) (j:Nat) (d:D):Bool:=(gN tl.table (aX d)).isSome|| !eV (tl.seen j) (aX d)
def Re (c:Nat) (d:D):Prop:=∃(x:Str) (a b:Int) (v:Int),d=.tup [.str x,.tup [.int a,.int b],.int v]/\0<=a/\a<c
section
variable {ω:Om}{h k t e h2 k2 t2 e2:Nat}{i j c:Nat}{hd tl:Hd}{rs rs2 fp:List Nat}
theorem sX (G:HandAt ω h2 j tl k2 t2 e2 rs2) (V:tl.Ok c) (hj:j<c) (ho:∀ d∈out,Re c d) (hl:out.length<=sizeLine):lJ [.lst out,.obj h2] ω=xa (.ok (.lst (out.filter (tl.leaves j))),ω):=by
 obtain⟨r,hr,er⟩:=G.seenRow (by rw[V.len];exact hj);refine aT rfl (bI (gE (ds:=out) (chk:=bM) (ω1:=ω) ?_ hl ?_))
 ·unfold oIL;rw[bJ (aB (d:=.lst out) rfl)];rfl
 ·have e0:out.filter (tl.leaves j)=(out.filter (tl.leaves j)).map fun d=>d:=by simp
  rw[e0];refine eM (fun ρ=>∃ u,ρ=[u,xa (.obj h2)]) rfl ⟨_,rfl⟩ fun d hd ρ hρ=> ?_;obtain⟨x,a,b,v,rfl,ha0,ha1⟩:=ho d hd;obtain⟨u,rfl⟩:=hρ;refine⟨_,rfl,⟨_,rfl⟩,?_,fun _=>aB rfl⟩;have d1:bX (o2 (fun ω a b=>pu (Mo ω a b) ω) (zX (zV 0) (zI 1)) (fX 0 "table" (zV 1))) [xa (.tup [.str x,.tup [.int a,.int b],.int v]),xa (.obj h2)] ω=xa (.ok (gN tl.table [.inl a,.inl b]).isSome,ω):=
   bU (dY (aJ (aB (d:=.tup [.str x,.tup [.int a,.int b],.int v]) rfl) aR rfl) (G.table (aB rfl)) (by
    show pu (Mo ω (.tup [.int a,.int b]) (.obj t2)) ω=_
    have:Mo ω (.tup [.int a,.int b]) (.obj t2)=xa (.bl (gN tl.table [.inl a,.inl b]).isSome):=by
     simp only[Mo,DG,cellOf,G.tb];rfl
    rw[this];rfl))
  have lv:tl.leaves j (.tup [.str x,.tup [.int a,.int b],.int v])=((gN tl.table [.inl a,.inl b]).isSome|| !decide (b<=(tl.seen j).getD a.toNat 0)):=rfl;rw[lv];show oOr _ _ _ _=_;unfold oOr;show oB _ _ [xa (.tup [.str x,.tup [.int a,.int b],.int v]),xa (.obj h2)] ω=_;rw[bJ d1];cases hv:(gN tl.table [.inl a,.inl b]).isSome with
  |true=>rfl
  |false=>
   have s1:=pR (ω:=ω) (d:=.obj r) (xs:=tl.seen j) (cG er) (a:=a) (b:=b) ha0 (by rw[V.seenLen hj];exact ha1);show iV _ _ _=_;unfold iV;rw[bJ (x:=decide (b<=(tl.seen j).getD a.toNat 0)) (ω1:=ω) (by
    unfold iP;rw[bJ (aV (aA (cH (aB rfl) G.obj rfl (kL G hr)) (aA (aJ (aB (d:=.tup [.str x,.tup [.int a,.int b],.int v]) rfl) aR rfl) aD)) s1)];rfl)]
   rfl
noncomputable def Pc (xs ys:List Int):Int:=(bq (fun x y=>mx (y-x) 0) xs ys).sum
noncomputable def oN (out:List D) (T:List (List Key×D)):List (List Key×D):=out.foldl (fun T d=>putD T (aX d) d) T
theorem GS (kvs:List (List Key×D)) (k:List Key) (v:D):(putD kvs k v).length<=kvs.length+1:=by
 unfold putD;split
 ·simp
 ·simp
theorem yC {h h2 n0 n1:Nat}:∀ {out:List D}{T:List (List Key×D)}{v:Option D}{ω:Om},(∀ d∈out,gH d)->ω[n1]?=xa (.dt T)->T.length+out.length<sizeLine->
  ∃ v',bO (aS 5) bM eR out [xa (.obj h),xa (.obj h2),xa m,xa (.obj n0),xa (.obj n1),v] ω=xa (.nx [xa (.obj h),xa (.obj h2),xa m,xa (.obj n0),xa (.obj n1),v'],ω.set n1 (.dt (oN out T)))
 |[],T,v,ω,_,ht,_=>⟨v,by
   show xa (OOut.nx _,ω)=_;rw[show oN [] T=T from rfl,gP ht]⟩
 |d::out,T,v,ω,he,ht,hl=>by
  rw[b7] at hl;have hd:=he d aq;obtain⟨x,a,b,w,rfl⟩:=hd;have b1:eR [xa (.obj h),xa (.obj h2),xa m,xa (.obj n0),xa (.obj n1),xa (.tup [.str x,.tup [.int a,.int b],.int w])] ω=xa (.nx [xa (.obj h),xa (.obj h2),xa m,xa (.obj n0),xa (.obj n1),xa (.tup [.str x,.tup [.int a,.int b],.int w])],ω.set n1 (.dt (putD T [.inl a,.inl b] (.tup [.str x,.tup [.int a,.int b],.int w])))):=by
   unfold eR;exact fB (aB rfl) (aB (d:=.obj n1) rfl) (aJ (aB (d:=.tup [.str x,.tup [.int a,.int b],.int w]) rfl) aR rfl) (qD (ks:=[.inl a,.inl b]) ht rfl (by omega))
  have hp:=GS T [.inl a,.inl b] (.tup [.str x,.tup [.int a,.int b],.int w]);obtain⟨v',g1⟩:=yC (h:=h) (h2:=h2) (n0:=n0) (n1:=n1) (m:=m) (out:=out) (T:=putD T [.inl a,.inl b] (.tup [.str x,.tup [.int a,.int b],.int w])) (v:=xa (.tup [.str x,.tup [.int a,.int b],.int w])) (ω:=ω.set n1 (.dt (putD T [.inl a,.inl b] (.tup [.str x,.tup [.int a,.int b],.int w])))) (fun d hd=>he d (ai _ hd)) (cD ht) (by omega);refine⟨v',?_⟩;rw[pc] at g1;refine(cJ rfl rfl (b1)).trans ?_;exact g1
theorem BN:∀ {rs1 rs2:List Nat}{kn1 kn2:List (List Int)}{ω:Om}{ρ:Rho},ρ.length=2->RowsAt ω rs1 kn1->RowsAt ω rs2 kn2->(∀ xs∈kn1,xs.length<=sizeLine)->(∀ obs,chk (ω++obs)=true)->
  compLO (qR 0 1) chk (oPT kZ) (bR gU (aC (zV 0) (aC (zV 1) aO))) (zP (rs1.map D.obj) (rs2.map D.obj)) ρ ω=xa ((c6 ω.length (bq (bq mx) kn1 kn2).length).map D.obj,ω++(bq (bq mx) kn1 kn2).map fun xs=>Ob.ml (iv xs))
 |_,rs2,_,kn2,ω,ρ,hρ,.nil,_,_,hc=>by
  show(if chk ω=true then xa ([],ω) else xb)=_
  rw[if_pos (by have:=hc [];rwa [cr] at this)];simp
 |_,_,_,_,ω,ρ,hρ,.cons _ _,.nil,_,hc=>by
  show(if chk ω=true then xa ([],ω) else xb)=_
  rw[if_pos (by have:=hc [];rwa [cr] at this)];simp
 |_,_,_,_,ω,ρ,hρ,@Paired.cons _ _ _ r1 x1 rs1 kn1 a1 t1,@Paired.cons _ _ _ r2 x2 rs2 kn2 a2 t2,hl,hc=>by
  match ρ,hρ with
  |[u,v],_=>
   have j1:=xX (ω:=ω) (cG a1) (cG a2) (hl x1 aq);have ih:=BN (chk:=chk) (ω:=ω++[.ml (iv (bq mx x1 x2))]) (ρ:=[xa (.obj r1),xa (.obj r2)]) rfl (RowsAt.app t1 _) (RowsAt.app t2 _) (fun xs hx=>hl xs (ai _ hx)) (fun obs=>by rw[gs];exact hc _)
   show(if chk ω=true then(match bR gU (aC (zV 0) (aC (zV 1) aO)) [xa (.obj r1),xa (.obj r2)] ω with
    |some (.ok y,ω2)=>(compLO (qR 0 1) chk (oPT kZ) (bR gU (aC (zV 0) (aC (zV 1) aO))) (zP (rs1.map D.obj) (rs2.map D.obj)) [xa (.obj r1),xa (.obj r2)] ω2).map fun r=>(y::r.1,r.2)
    |_=>xb) else xb)=_
   rw[if_pos (by have:=hc [];rwa [cr] at this),aV (aA (aB (d:=.obj r1) rfl) (aA (aB (d:=.obj r2) rfl) aD)) j1]
   show(compLO _ _ _ _ _ _ _).map _=_
   rw[ih];rw[jh,b7,ka,bg,bg,b8];show xa (_,_)=_;rw[gs];rfl
theorem mM:∀(kn:List (List Int)) (pre post:Om),RowsAt (pre++(kn.map fun xs=>Ob.ml (iv xs))++post) (c6 pre.length kn.length) kn
 |[],_,_=>.nil
 |x::r,pre,post=>by
  rw[b7,ka];refine .cons (by simp) ?_
  have:=mM r (pre++[.ml (iv x)]) post
  unfold RowsAt at this;simpa using this
theorem kK (e1:fv ρ ω=xa (.ok v,ω1)) (e2:fo ρ ω1=xa (.ok (.obj n),ω2)) (e3:ω2[n]?=xa (.ins c fs)) (hl:fs.length<1000):nE c x fo fv ρ ω=xa (.nx ρ,ω2.set n (.ins c (lH x v fs))):=by
 unfold nE;rw[bS e1,bS e2]
 have:vG c x ω2 (.obj n) v=xa (ω2.set n (.ins c (lH x v fs))):=by
  simp only[vG,e3];rw[if_pos ⟨trivial,hl⟩]
 show(vG c x ω2 (.obj n) v).map _=_
 rw[this];rfl
noncomputable def Hd.hearT (hd:Hd) (i:Nat) (tl:Hd) (j:Nat):List D:=hd.ents.filter (tl.leaves j)++tl.ents.filter (hd.leaves i)
noncomputable def Hd.hear0 (hd:Hd) (i:Nat) (tl:Hd) (j:Nat):Hd:=⟨(bq (bq mx) hd.knows tl.knows).set i (bq mx (hd.seen i) (tl.seen j)),oN (hd.hearT i tl j) [],iX hd.kept tl.kept⟩
noncomputable def Hd.hear (hd:Hd) (i:Nat) (tl:Hd) (j:Nat):Hd:=(hd.hear0 i tl j).forget
theorem Hd.Ok.entC (W:hd.Ok c):∀ d∈hd.ents,Re c d:=fun d hd'=>by
 obtain⟨kv,h1,rfl⟩:=ak.mp (W.ents.2.mem_iff.mp hd');obtain⟨a,b,ha0,ha1,_,x,v,e⟩:=W.tk kv h1;exact⟨x,a,b,v,e,ha0,ha1⟩
theorem Lp (H:HandAt ω h i hd k t e rs) (G:HandAt ω h2 j tl k2 t2 e2 rs2) (hij:∀ n∈h::k::t::e::rs,n∉h2::k2::t2::e2::rs2) (W:hd.Ok c) (V:tl.Ok c) (hi:i<c) (hj:j<c) (hh:fA (tl.kept.map (·.1))=true) (W2:(hd.hear0 i tl j).Ok c):
  ∃ ω' k' t' e' rs',cL [.obj h,.obj h2] ω=xa (.ok (.int (Pc (hd.seen i) (tl.seen j))),ω')/\HandAt ω' h i (hd.hear i tl j) k' t' e' rs'/\Keep [h,e] ω ω'/\∀ n∈k'::t'::e'::rs',ω.length<=n:=by
 obtain⟨r,hr,er⟩:=H.seenRow (by rw[W.len];exact hi);obtain⟨r2,hr2,er2⟩:=G.seenRow (by rw[V.len];exact hj);obtain⟨⟨h1,h2',h3,h4⟩,⟨h5,h6,h7⟩,⟨h8,h9⟩,h10,h11⟩:=H.ne;have ltH:=H.lt;have ltG:=G.lt;have c8:∀ {n:Nat},n=c->n<=sizeLine:=fun z=>by rw[z,bv];have:=W.small;omega
 have hs1:(hd.seen i).length<=sizeLine:=c8 (W.seenLen hi);have hh2:h2≠h:=fun z=>hij h (by simp) (by simp[z]);have he2:e2≠e:=fun z=>hij e (by simp) (by simp[z]);have hk2h:k2≠h:=fun z=>hij h (by simp) (by simp[z]);have he2h:e2≠h:=fun z=>hij h (by simp) (by simp[z]);have hrs2h:∀ r∈rs2,r≠h:=fun r hr z=>hij h (by simp) (by rw[<- z];simp[hr])
 -- the stages of the store
 obtain⟨s,hs⟩:∃ s,s=bq mx (hd.seen i) (tl.seen j):=⟨_,rfl⟩;obtain⟨ωa,hωa⟩:∃ ωa,ωa=ω++[Ob.ml (iv s)]:=⟨_,rfl⟩;obtain⟨ωb,hωb⟩:∃ ωb,ωb=ωa++[Ob.dt []]:=⟨_,rfl⟩;have la:ωa.length=ω.length+1:=by rw[hωa];simp
 have lb:ωb.length=ω.length+2:=by rw[hωb];simp[la]
 have gb:∀ n,n<ω.length->ωb[n]?=ω[n]?:=fun n hn=>by rw[hωb,ao (by omega),hωa,ao hn]
 have Hb:HandAt ωb h i hd k t e rs:=H.mono fun n hn=>gb n (ltH n hn);have Gb:HandAt ωb h2 j tl k2 t2 e2 rs2:=G.mono fun n hn=>gb n (ltG n hn);have nb:ωb[ωa.length]?=xa (.dt []):=by rw[hωb];simp
 have sb:ωb[ω.length]?=xa (.ml (iv s)):=by rw[hωb,ao (by omega),hωa];simp
 -- the table
 have l1:(hd.ents.filter (tl.leaves j)).length<64:=my (dh ..) W.entsLen;have l2:(tl.ents.filter (hd.leaves i)).length<64:=my (dh ..) V.entsLen;have lT:(hd.hearT i tl j).length<128:=by unfold Hd.hearT;rw[b8];omega
 have entT:∀ d∈hd.hearT i tl j,gH d:=fun d hd'=>by
  rcases cm.mp hd' with z|z
  ·exact W.entsEnt d (bu.mp z).1
  ·exact V.entsEnt d (bu.mp z).1
 obtain⟨v',loop⟩:=yC (h:=h) (h2:=h2) (n0:=ω.length) (n1:=ωa.length) (m:=.int (Pc (hd.seen i) (tl.seen j))) (out:=hd.hearT i tl j) (T:=[]) (v:=xb) (ω:=ωb) entT nb (by rw[bv];simp;omega);obtain⟨T,hT⟩:∃ T,T=oN (hd.hearT i tl j) []:=⟨_,rfl⟩;rw[<- hT] at loop;obtain⟨ωc,hωc⟩:∃ ωc,ωc=ωb.set ωa.length (.dt T):=⟨_,rfl⟩;rw[<- hωc] at loop;have lc:ωc.length=ω.length+2:=by rw[hωc];simp[lb]
 have gc:∀ n,n<ω.length->ωc[n]?=ω[n]?:=fun n hn=>by rw[hωc,aH (by omega)];exact gb n hn
 have tc:ωc[ωa.length]?=xa (.dt T):=by rw[hωc];exact cD nb
 have sc:ωc[ω.length]?=xa (.ml (iv s)):=by rw[hωc,aH (by omega)];exact sb
 have oc:ωc[h]?=xa (.ins 0 [("number",.int i),("knows",.obj k),("table",.obj t),("kept",.obj e)]):=by rw[gc h (ltH h (by simp))];exact H.obj
 -- table set
 obtain⟨ωd,hωd⟩:∃ ωd,ωd=ωc.set h (.ins 0 [("number",.int i),("knows",.obj k),("table",.obj ωa.length),("kept",.obj e)]):=⟨_,rfl⟩;have ld:ωd.length=ω.length+2:=by rw[hωd];simp[lc]
 have hlt:=ltH h (by simp);have gd:∀ n,n<ω.length->n≠h->ωd[n]?=ω[n]?:=fun n hn hne=>by rw[hωd,aH hne];exact gc n hn
 have od:ωd[h]?=xa (.ins 0 [("number",.int i),("knows",.obj k),("table",.obj ωa.length),("kept",.obj e)]):=by rw[hωd];exact cD oc
 have td:ωd[ωa.length]?=xa (.dt T):=by rw[hωd,aH (by omega)];exact tc
 have sd:ωd[ω.length]?=xa (.ml (iv s)):=by rw[hωd,aH (by omega)];exact sc
 have kd:ωd[k]?=xa (.ml (rs.map D.obj)):=by rw[gd k (ltH k (by simp)) (bz h1)];exact H.kn
 have kd2:ωd[k2]?=xa (.ml (rs2.map D.obj)):=by rw[gd k2 (ltG k2 (by simp)) hk2h];exact G.kn
 have od2:ωd[h2]?=_:=(gd h2 (ltG h2 (by simp)) hh2).trans G.obj;have rd:RowsAt ωd rs hd.knows:=H.rows.mono fun r hr=>gd r (ltH r (by simp[hr])) fun z=>h4 (z ▸ hr);have rd2:RowsAt ωd rs2 tl.knows:=G.rows.mono fun r hr=>gd r (ltG r (by simp[hr])) (hrs2h r hr)
 -- rows joined
 obtain⟨kn,hkn⟩:∃ kn,kn=bq (bq mx) hd.knows tl.knows:=⟨_,rfl⟩;have lkn:kn.length=c:=by rw[hkn,fh,W.len,V.len,jk]
 have joins:=BN (chk:=fun ω=>jY k (rs.map D.obj) ω&&jY k2 (rs2.map D.obj) ω) (ω:=ωd) (ρ:=[xb,xb]) rfl rd rd2 (fun xs hx=>c8 (W.row xs hx)) (fun obs=>by
  rw[br];constructor
  ·unfold jY;rw[ao (dZ kd),kd];exact sameDs_refl _
  ·unfold jY;rw[ao (dZ kd2),kd2];exact sameDs_refl _)
 rw[<- hkn] at joins;obtain⟨ωe,hωe⟩:∃ ωe,ωe=ωd++kn.map fun xs=>Ob.ml (iv xs):=⟨_,rfl⟩;rw[<- hωe] at joins;have le:ωe.length=ω.length+2+c:=by rw[hωe];simp[ld,lkn]
 obtain⟨ωf,hωf⟩:∃ ωf,ωf=ωe++[Ob.ml ((c6 ωd.length kn.length).map D.obj)]:=⟨_,rfl⟩;have lf:ωf.length=ω.length+3+c:=by rw[hωf];simp[le];omega
 have gf:∀ n,n<ω.length+2->ωf[n]?=ωd[n]?:=fun n hn=>by rw[hωf,ao (by omega),hωe,ao (by omega)]
 have kf:ωf[ωe.length]?=xa (.ml ((c6 ωd.length kn.length).map D.obj)):=by rw[hωf];simp
 have rf:RowsAt ωf (c6 ωd.length kn.length) kn:=by rw[hωf,hωe];exact mM kn ωd _
 have of:ωf[h]?=xa (.ins 0 [("number",.int i),("knows",.obj k),("table",.obj ωa.length),("kept",.obj e)]):=by rw[gf h (by omega)];exact od
 obtain⟨ωg,hωg⟩:∃ ωg,ωg=ωf.set h (.ins 0 [("number",.int i),("knows",.obj ωe.length),("table",.obj ωa.length),("kept",.obj e)]):=⟨_,rfl⟩;have og:ωg[h]?=xa (.ins 0 [("number",.int i),("knows",.obj ωe.length),("table",.obj ωa.length),("kept",.obj e)]):=by rw[hωg];exact cD of
 have kg:ωg[ωe.length]?=xa (.ml ((c6 ωd.length kn.length).map D.obj)):=by rw[hωg,aH (by omega)];exact kf
 obtain⟨rs',hrs'⟩:∃ rs',rs'=(c6 ωd.length kn.length).set i ω.length:=⟨_,rfl⟩;have hset:((c6 ωd.length kn.length).map D.obj).set i (.obj ω.length)=rs'.map D.obj:=by rw[hrs',ve]
 obtain⟨ωh,hωh⟩:∃ ωh,ωh=ωg.set ωe.length (.ml (rs'.map D.obj)):=⟨_,rfl⟩;have elt:=ltH e (by simp);have oh:ωh[h]?=xa (.ins 0 [("number",.int i),("knows",.obj ωe.length),("table",.obj ωa.length),("kept",.obj e)]):=by rw[hωh,aH (by omega)];exact og
 have gh:∀ n,n<ω.length+2->n≠h->ωh[n]?=ωd[n]?:=fun n hn hne=>by rw[hωh,aH (by omega),hωg,aH hne];exact gf n hn
 have eh:ωh[e]?=xa (.dt hd.kept):=by rw[gh e (by omega) (bz h3),gd e elt (bz h3)];exact H.kp
 have eh2:ωh[e2]?=xa (.dt tl.kept):=by rw[gh e2 (by have:=ltG e2 (by simp);omega) he2h,gd e2 (ltG e2 (by simp)) he2h];exact G.kp
 have oh2:ωh[h2]?=_:=(gh h2 (by have:=ltG h2 (by simp);omega) hh2).trans od2;obtain⟨ωi,hωi⟩:∃ ωi,ωi=ωh.set e (.dt (iX hd.kept tl.kept)):=⟨_,rfl⟩;have li:ωi.length=ω.length+3+c:=by rw[hωi,hωh,hωg];simp[lf]
 have gi:∀ n,n<ω.length+2->n≠h->n≠e->ωi[n]?=ωd[n]?:=fun n hn hne hee=>by rw[hωi,aH hee];exact gh n hn hne
 have rin:∀ q∈c6 ωd.length kn.length,ω.length+2<=q/\q<ω.length+2+c:=fun q hq=>by
  rw[nq,ld,lkn] at hq;exact hq
 have rsin:∀ q∈rs',ω.length<=q/\q≠ωa.length/\q<ω.length+2+c:=fun q hq=>by
  rw[hrs'] at hq;rcases i7 hq with z|z
  ·have:=rin q z;omega
  ·omega
 have HI:HandAt ωi h i (hd.hear0 i tl j) ωe.length ωa.length e rs':=by
  refine⟨?_,?_,?_,?_,?_,?_⟩
  ·rw[hωi,aH h3];exact oh
  ·rw[hωi,aH (by omega),hωh];exact cD kg
  ·show RowsAt ωi rs' ((bq (bq mx) hd.knows tl.knows).set i (bq mx (hd.seen i) (tl.seen j)));rw[<- hkn,<- hs,hrs'];refine RowsAt.setAt (rf.mono fun q hq=> ?_) ?_
   ·have:=rin q hq
    rw[hωi,aH (by omega),hωh,aH (by omega),hωg,aH (by omega)]
   ·rw[gi _ (by omega) (by omega) (by omega)];exact sd
  ·show ωi[ωa.length]?=xa (.dt (oN (hd.hearT i tl j) []));rw[gi _ (by omega) (by omega) (by omega),<- hT];exact td
  ·rw[hωi];exact cD eh
  ·have hnd:rs'.Nodup:=by
    rw[hrs'];exact EH (vm) (fun z=>by have:=rin _ z;omega) i
   simp only[b9,aj,not_or];refine⟨⟨by omega,by omega,h3,fun z=>by have:=rsin _ z;omega⟩,⟨by omega,by omega,fun z=>by have:=rsin _ z;omega⟩,⟨by omega,fun z=>(rsin _ z).2.1 rfl⟩,fun z=>by have:=rsin _ z;omega,hnd⟩
 obtain⟨ω',f1,HF,KF⟩:=yI HI W2;refine⟨ω',ωe.length,ωa.length,ωi.length,rs',?_,HF,⟨?_,fun n hn hm=> ?_⟩,fun n hn=> ?_⟩
 ·refine aT rfl ?_;unfold pX;rw[aK (aV (aA (cH (aB rfl) H.obj rfl (kL H hr)) (aA (cH (aB rfl) G.obj rfl (kL G hr2)) aD)) (HA (cG er) (cG er2) hs1))];rw[aK (aV (aA (cH (aB rfl) H.obj rfl (kL H hr)) (aA (cH (aB rfl) G.obj rfl (kL G hr2)) aD)) (xX (cG er) (cG er2) hs1))];rw[<- hs,<- hωa];rw[aK (d:=.obj ωa.length) (ω1:=ωb) (by rw[hωb];rfl)];rw[bB (dP (by
   unfold bD oIL;rw[bS (x:=(hd.hearT i tl j,bM)) (ω1:=ωb) (by
    rw[bJ (x:=.lst (hd.hearT i tl j)) (ω1:=ωb) (dY (aV (aA (cH (aB (d:=.obj h) rfl) Hb.obj rfl (jU Hb W.ents.1)) (aA (aB (d:=.obj h2) rfl) aD)) (sX Gb V hj W.entC (ip (eE W.entsLen)))) (aV (aA (cH (aB (d:=.obj h2) rfl) Gb.obj rfl (jU Gb V.ents.1)) (aA (aB (d:=.obj h) rfl) aD)) (sX Hb W hi V.entC (ip (eE V.entsLen)))) (by
     show(if(hd.ents.filter (tl.leaves j)).length+(tl.ents.filter (hd.leaves i)).length<=sizeLine then xa (D.lst (hd.hearT i tl j),ωb) else xb)=_
     rw[if_pos (by rw[bv];omega)]))]
    rfl)]
   exact loop))]
  rw[bB (kK (aB (d:=.obj ωa.length) rfl) (aB (d:=.obj h) rfl) oc (by simp))];rw[show ωc.set h (.ins 0 (lH "table" (.obj ωa.length) [("number",.int i),("knows",.obj k),("table",.obj t),("kept",.obj e)]))=ωd from by rw[hωd];rfl];rw[bB (kK (pF (ω1:=ωd) (ω2:=ωe) (ds:=zP (rs.map D.obj) (rs2.map D.obj)) (chk:=fun ω=>jY k (rs.map D.obj) ω&&jY k2 (rs2.map D.obj) ω) (by
    unfold oIZ;rw[bJ (aA (fV (aB (d:=.obj h) rfl) od rfl) (aA (fV (aB (d:=.obj h2) rfl) od2 rfl) aD))];have z1:mY ωd (.obj k)=xa (rs.map D.obj,jY k (rs.map D.obj)):=by simp only[mY,kd]
    have z2:mY ωd (.obj k2)=xa (rs2.map D.obj,jY k2 (rs2.map D.obj)):=by simp only[mY,kd2]
    show oR (pu ((mY ωd (.obj k)).bind _) ωd)=_;rw[z1];show oR (pu ((mY ωd (.obj k2)).map _) ωd)=_;rw[z2];rfl) (by
     unfold zP;rw[fh,am,am,rd.length,rd2.length,W.len,V.len,jk];exact c8 rfl) joins) (by rw[<- hωf];exact aB (d:=.obj h) rfl) of (by simp))]
  rw[show ωf.set h (.ins 0 (lH "knows" (.obj ωe.length) [("number",.int i),("knows",.obj k),("table",.obj ωa.length),("kept",.obj e)]))=ωg from by rw[hωg];rfl];rw[bB (fB (aB (d:=.obj ω.length) rfl) (fV (aB (d:=.obj h) rfl) og rfl) (fV (aB (d:=.obj h) rfl) og rfl) (mJ kg (by rw[am,List.length_range',lkn];exact hi)))];rw[hset,<- hωh];rw[bB (ω1:=ωi) (by
   unfold bT;rw[bS (BG (r:=.non) (ω3:=ωi) (fV (aB (d:=.obj h) rfl) oh rfl) eh (aA (fV (aB (d:=.obj h2) rfl) oh2 rfl) aD) (by
    simp only[Fp,eh,eh2];rw[if_pos ⟨bz he2,by have:=W.kl;have:=V.kl;rw[bv];omega,hh⟩,<- hωi]))])]
  rw[bB (ω1:=ω') (by
   unfold bT;rw[bS (cH (aB (d:=.obj h) rfl) HI.obj rfl f1)])]
  exact bI (aB rfl)
 ·have:=KF.1;omega
 ·simp only[aj,c4,or_false,not_or] at hm;rw[KF.2 n (by omega) (by simpa using hm.1),gi n (by omega) hm.1 hm.2,gd n hn hm.1]
 ·simp only[aj] at hn;rcases hn with z|z|z|z
  ·omega
  ·omega
  ·omega
  ·exact(rsin n z).1
theorem Qu (H:HandS ω h i hd fp) (G:HandS ω h2 j tl fq) (hij:∀ n∈fp,n∉fq) (W:hd.Ok c) (V:tl.Ok c) (hi:i<c) (hj:j<c) (hh:fA (tl.kept.map (·.1))=true) (W2:(hd.hear0 i tl j).Ok c):
  ∃ ω',cL [.obj h,.obj h2] ω=xa (.ok (.int (Pc (hd.seen i) (tl.seen j))),ω')/\Did ω h i fp ω' (hd.hear i tl j):=by
 obtain⟨k,t,e,rs,H,rfl⟩:=H;obtain⟨k2,t2,e2,rs2,G,rfl⟩:=G;obtain⟨ω',k',t',e',rs',e1,H',K,F⟩:=Lp H G hij W V hi hj hh W2;refine⟨ω',e1,_,⟨k',t',e',rs',H',rfl⟩,K.sub (fun n hn=>by simp only[aj,c4,or_false] at hn ⊢;rcases hn with z|z <;> simp[z]),fun n hn=> ?_⟩;rcases aj.mp hn with z|z
 ·exact .inl (by simp[z])
 ·exact .inr (F n z)
end
def KeyIn (c:Nat) (own:Nat->Nat) (k:List Key):Prop:=∃ a b:Nat,a<c/\1<=b/\b<=own a/\k=fH a b
noncomputable def tot (c:Nat) (own:Nat->Nat):Nat:=((bj c).map own).sum
noncomputable def univ (c:Nat) (own:Nat->Nat):List (List Key):=(bj c).flatMap fun a=>(bj (own a)).map fun b=>fH a ((b+1:Nat):Int)
theorem uF (c:Nat) (own:Nat->Nat):(univ c own).length=tot c own:=by
 unfold univ tot;rw[List.length_flatMap]
 congr 1
 apply fg;intro a _;simp
theorem KeyIn.univ (h:KeyIn c own k):k∈univ c own:=by
 obtain⟨a,b,h1,h2,h3,rfl⟩:=h;unfold Lw.univ;rw[ox];refine⟨a,df.mpr h1,ak.mpr ⟨b-1,df.mpr (by omega),?_⟩⟩;rw[Nat.sub_add_cancel h2]
theorem KeyIn.mono (h:KeyIn c own k) (le:∀ a,own a<=own' a):KeyIn c own' k:=by
 obtain⟨a,b,h1,h2,h3,e⟩:=h;exact⟨a,b,h1,h2,ci h3 (le a),e⟩
theorem nV {α:Type} [DecidableEq α]:∀ {l m:List α},l.Nodup->(∀ x∈l,x∈m)->l.length<=m.length
 |[],m,_,_=>iq _
 |a::r,m,h,hs=>by
  rw[b9] at h;have ha:=hs a aq;have h1:=nV (l:=r) (m:=m.erase a) h.2 fun x hx=>(List.mem_erase_of_ne (fun z:x=a=>h.1 (z ▸ hx))).mpr (hs x (ai _ hx));rw[List.length_erase_of_mem ha] at h1;have h2:=List.length_pos_of_mem ha;rw[b7];omega
structure Hd.In (c:Nat) (own:Nat->Nat) (hd:Hd):Prop where
 len:hd.knows.length=c
 row:∀ xs∈hd.knows,xs.length=c
 kb:∀ xs∈hd.knows,∀ a,a<c->0<=xs.getD a 0/\xs.getD a 0<=own a
 kk:∀ kv∈hd.kept,KeyIn c own kv.1
 kn:(hd.kept.map (·.1)).Nodup
 kv:∀ kv∈hd.kept,∃ ks:List (List Key),kv.2=.tup (ks.map bC)/\ks.length<64/\∀ q∈ks,KeyIn c own q
 tk:∀ kv∈hd.table,∃ a b:Nat,a<c/\1<=b/\b<=own a/\kv.1=fH a b/\∃(x:Str) (v:Int),kv.2=.tup [.str x,mkD a b,.int v]
 tn:(hd.table.map (·.1)).Nodup
section
variable {c:Nat}{own own':Nat->Nat}{hd tl:Hd}{i j:Nat}
theorem Hd.In.ok (W:hd.In c own) (c0:0<c) (c8:c<=8) (ht:tot c own<64):hd.Ok c where
 len:=W.len
 row:=W.row
 small:=c8
 pos:=c0
 kk:=fun kv h=>by
  obtain⟨a,b,h1,_,_,e⟩:=W.kk kv h;exact⟨a,b,e,by omega,by omega⟩
 kn:=W.kn
 kl:=by
  have:=nV W.kn (m:=univ c own) fun x hx=>by
   obtain⟨kv,h1,rfl⟩:=ak.mp hx;exact(W.kk kv h1).univ
  rw[uF,am] at this;omega
 tk:=fun kv h=>by
  obtain⟨a,b,h1,_,_,e,x,v,e2⟩:=W.tk kv h;exact⟨a,b,by omega,by omega,e,x,v,e2⟩
 tn:=W.tn
 tl:=by
  have:=nV W.tn (m:=univ c own) fun x hx=>by
   obtain⟨kv,h1,rfl⟩:=ak.mp hx;obtain⟨a,b,h2,h3,h4,e,_⟩:=W.tk kv h1;exact KeyIn.univ ⟨a,b,h2,h3,h4,e⟩
  rw[uF,am] at this;omega
theorem Hd.In.mono (W:hd.In c own) (le:∀ a,own a<=own' a):hd.In c own' where
 len:=W.len
 row:=W.row
 kb:=fun xs hx a ha=>⟨(W.kb xs hx a ha).1,vf (W.kb xs hx a ha).2 (by have:=le a;omega)⟩
 kk:=fun kv h=>(W.kk kv h).mono le
 kn:=W.kn
 kv:=fun kv h=>by
  obtain⟨ks,e,hl,h2⟩:=W.kv kv h;exact⟨ks,e,hl,fun q hq=>(h2 q hq).mono le⟩
 tk:=fun kv h=>by
  obtain⟨a,b,h1,h2,h3,r⟩:=W.tk kv h;exact⟨a,b,h1,h2,ci h3 (le a),r⟩
 tn:=W.tn
theorem lI {p:List Key×D} (h:p∈putD kvs k v):p=(k,v)∨p∈kvs:=by
 unfold putD at h;split at h
 ·obtain⟨q,h1,h2⟩:=ak.mp h
  by_cases hq:q.1=k
  ·rw[if_pos hq] at h2;exact .inl (by rw[<- h2,hq])
  ·rw[if_neg hq] at h2;exact .inr (h2 ▸ h1)
 ·rcases cm.mp h with z|z
  ·exact .inr z
  ·exact .inl (by simpa using z)
theorem jN {k:List Key} (h:(kvs.map (·.1)).Nodup):((putD kvs k v).map (·.1)).Nodup:=by
 unfold putD;split
 ·rw[fk];rw[show kvs.map ((·.1)∘fun kv=>if kv.1=k then(kv.1,v) else kv)=kvs.map (·.1) from fg fun kv _=>by
   show(if kv.1=k then(kv.1,v) else kv).1=kv.1
   split <;> rfl]
  exact h
 ·rename_i hn
  rw[c7,jt];refine⟨h,by simp,fun a ha b hb z=>hn ?_⟩;rw[ow];obtain⟨p,h1,h2⟩:=ak.mp ha;refine⟨p,h1,decide_eq_true ?_⟩;have hb':b=k:=by simpa using hb
  rw[h2,z,hb']
theorem FO (kvs:List (List Key×D)) (k:List Key):(eA kvs k).Sublist kvs:=io
theorem qC:∀(ks:List (List Key)) (kvs:List (List Key×D)),(ks.foldl eA kvs).Sublist kvs
 |[],kvs=>List.Sublist.refl _
 |k::ks,kvs=>(qC ks (eA kvs k)).trans (FO kvs k)
theorem oJ:∀ {out:List D}{T:List (List Key×D)},(T.map (·.1)).Nodup->((oN out T).map (·.1)).Nodup
 |[],T,h=>h
 |d::out,T,h=>oJ (out:=out) (jN h)
theorem oK:∀ {out:List D}{T:List (List Key×D)}{p:List Key×D},p∈oN out T->p∈T∨∃ d∈out,p=(aX d,d)
 |[],T,p,h=>.inl h
 |d::out,T,p,h=>by
  rcases oK (out:=out) (T:=putD T (aX d) d) h with z|⟨d',h1,h2⟩
  ·rcases lI z with z|z
   ·exact .inr ⟨d,aq,z⟩
   ·exact .inl z
  ·exact .inr ⟨d',ai _ h1,h2⟩
theorem mT:∀ {ms kvs:List (List Key×D)},(kvs.map (·.1)).Nodup->((iX kvs ms).map (·.1)).Nodup
 |[],kvs,h=>h
 |d::ms,kvs,h=>mT (ms:=ms) (kvs:=putD kvs d.1 d.2) (jN h)
theorem mP:∀ {ms kvs:List (List Key×D)}{p:List Key×D},p∈iX kvs ms->p∈kvs∨p∈ms
 |[],kvs,p,h=>.inl h
 |d::ms,kvs,p,h=>by
  rcases mP (ms:=ms) (kvs:=putD kvs d.1 d.2) h with z|z
  ·rcases lI z with z|z
   ·exact .inr (by rw[z];exact aq)
   ·exact .inl z
  ·exact .inr (ai _ z)
theorem fI (xs:List Int) (i a:Nat) (v:Int) (hi:i<xs.length):(xs.set i v).getD a 0=if a=i then v else xs.getD a 0:=by
 rw[av,av,List.getElem?_set]
 by_cases h:a=i
 ·subst h;simp[hi]
 ·rw[if_neg (bz h),if_neg h]
theorem sF {f:Int->Int->Int}{xs ys:List Int}{a:Nat} (h1:a<xs.length) (h2:a<ys.length):(bq f xs ys).getD a 0=f (xs.getD a 0) (ys.getD a 0):=by
 simp[av,tw,bh h1,bh h2]
theorem Jn {α β γ:Type}{f:α->β->γ}:∀ {xs:List α}{ys:List β}{z:γ},z∈bq f xs ys->∃ x∈xs,∃ y∈ys,z=f x y
 |[],_,_,h=>by simp at h
 |_::_,[],_,h=>by simp at h
 |x::xs,y::ys,z,h=>by
  rw[jh] at h;rcases aj.mp h with h|h
  ·exact⟨x,aq,y,aq,h⟩
  ·obtain⟨x',h1,y',h2,e⟩:=Jn h;exact⟨x',ai _ h1,y',ai _ h2,e⟩
noncomputable def cQ (own:Nat->Nat) (i:Nat):Nat->Nat:=fun a=>if a=i then own a+1 else own a
theorem iJ (own:Nat->Nat) (i a:Nat):own a<=cQ own i a:=by
 unfold cQ;split <;> omega
theorem Hd.In.seenMem (W:hd.In c own) (hi:i<c):hd.seen i∈hd.knows:=by
 unfold Hd.seen
 have:i<hd.knows.length:=by rw[W.len];exact hi
 rw[av,bh this];exact i5 this
theorem Hd.In.seenLen (W:hd.In c own) (hi:i<c):(hd.seen i).length=c:=W.row _ (W.seenMem hi)
theorem Hd.In.bump (W:hd.In c own) (hi:i<c) (hs:(hd.seen i).getD i 0=own i):(hd.bump i).In c (cQ own i):=by
 have W':=W.mono (iJ own i);refine⟨?_,?_,?_,W'.kk,W'.kn,W'.kv,W'.tk,W'.tn⟩
 ·show(hd.knows.set i _).length=c
  rw[ca];exact W.len
 ·intro xs hx;rcases i7 hx with z|z
  ·exact W.row xs z
  ·rw[z,ca];exact W.seenLen hi
 ·intro xs hx a ha;rcases i7 hx with z|z
  ·exact W'.kb xs z a ha
  ·rw[z,fI _ _ _ _ (by rw[W.seenLen hi];exact hi)]
   by_cases h:a=i
   ·rw[if_pos h,hs,h];unfold cQ;rw[if_pos rfl];omega
   ·rw[if_neg h];exact W'.kb _ (W.seenMem hi) a ha
theorem jV (W:hd.In c own) (hi:i<c) (hs:(hd.seen i).getD i 0=own i):((hd.bump i).seen i).getD i 0=cQ own i i:=by
 have:(hd.bump i).seen i=(hd.seen i).set i ((hd.seen i).getD i 0+1):=by
  show(hd.knows.set i _).getD i []=_
  rw[av,d7 (by rw[W.len];exact hi)];rfl
 rw[this,fI _ _ _ _ (by rw[W.seenLen hi];exact hi),if_pos rfl,hs];unfold cQ;rw[if_pos rfl];omega
theorem Hz (hs:(hd.seen i).getD i 0=own i):hd.next i=((cQ own i i:Nat):Int):=by
 unfold Hd.next cQ;rw[hs,if_pos rfl];omega
theorem lM (hi:i<c) (hs:(hd.seen i).getD i 0=own i):KeyIn c (cQ own i) (fH i (hd.next i)):=by
 rw[Hz hs];refine⟨i,cQ own i i,hi,?_,bf _,rfl⟩;unfold cQ;rw[if_pos rfl];omega
theorem Hd.In.put (W:hd.In c own) (hi:i<c) (hs:(hd.seen i).getD i 0=own i) (x:Str) (v:Int):(hd.put i x v).In c (cQ own i):=by
 have B:=W.bump hi hs;refine⟨B.len,B.row,B.kb,B.kk,B.kn,B.kv,?_,jN W.tn⟩;intro kv hkv;rcases lI hkv with z|z
 ·obtain⟨a,b,h1,h2,h3,e⟩:=lM hi hs;have hab:(i:Int)=a/\hd.next i=b:=by
   unfold fH at e;simp at e;omega
  refine⟨a,b,h1,h2,h3,by rw[z];exact e,x,v,?_⟩;rw[z];show D.tup [.str x,mkD i (hd.next i),.int v]=D.tup [.str x,mkD a b,.int v];unfold mkD;rw[hab.1,hab.2]
 ·exact B.tk kv z
theorem Hd.In.takeOut0 (W:hd.In c own) {mk:List Key} (hm:KeyIn c own mk) (hl:ks.length<64) (hk:∀ q∈ks,KeyIn c own q):(hd.takeOut0 mk ks).In c own:=by
 refine⟨W.len,W.row,W.kb,?_,?_,?_,fun kv h=>W.tk kv ((qC ks hd.table).subset h),?_⟩
 ·intro kv h
  change kv∈(if ks=[] then hd.kept else _) at h
  split at h
  ·exact W.kk kv h
  ·rcases lI h with z|z
   ·rw[z];exact hm
   ·exact W.kk kv z
 ·show((if ks=[] then hd.kept else _).map (·.1)).Nodup
  split
  ·exact W.kn
  ·exact jN W.kn
 ·intro kv h
  change kv∈(if ks=[] then hd.kept else _) at h
  split at h
  ·exact W.kv kv h
  ·rcases lI h with z|z
   ·rw[z];exact⟨ks,rfl,hl,hk⟩
   ·exact W.kv kv z
 ·exact W.tn.sublist ((qC ks hd.table).map _)
theorem Hd.In.forget (W:hd.In c own):hd.forget.In c own:=
 ⟨W.len,W.row,W.kb,fun kv h=>W.kk kv (bu.mp h).1,W.kn.sublist (io.map _),fun kv h=>W.kv kv (bu.mp h).1,W.tk,W.tn⟩
theorem Hd.In.hear0 (W:hd.In c own) (V:tl.In c own) (Wo:hd.Ok c) (Vo:tl.Ok c) (hi:i<c) (hj:j<c):(hd.hear0 i tl j).In c own:=by
 have joinB:∀ xs ys:List Int,xs.length=c->ys.length=c->(∀ a,a<c->0<=xs.getD a 0/\xs.getD a 0<=own a)->(∀ a,a<c->0<=ys.getD a 0/\ys.getD a 0<=own a)->(bq mx xs ys).length=c/\∀ a,a<c->0<=(bq mx xs ys).getD a 0/\(bq mx xs ys).getD a 0<=own a:=by
  intro xs ys h1 h2 h3 h4;refine⟨by rw[fh,h1,h2,jk],fun a ha=> ?_⟩;rw[sF (by omega) (by omega)];unfold mx;split
  ·exact h4 a ha
  ·exact h3 a ha
 have rowsB:∀ zs∈(hd.hear0 i tl j).knows,zs.length=c/\∀ a,a<c->0<=zs.getD a 0/\zs.getD a 0<=own a:=by
  intro zs hz;rcases i7 hz with z|z
  ·obtain⟨x,hx,y,hy,rfl⟩:=Jn z;exact joinB x y (W.row x hx) (V.row y hy) (W.kb x hx) (V.kb y hy)
  ·rw[z];exact joinB _ _ (W.seenLen hi) (V.seenLen hj) (W.kb _ (W.seenMem hi)) (V.kb _ (V.seenMem hj))
 have entT:∀ {hd:Hd},hd.In c own->hd.Ok c->∀ d∈hd.ents,∃ a b:Nat,a<c/\1<=b/\b<=own a/\aX d=fH a b/\∃(x:Str) (v:Int),d=.tup [.str x,mkD a b,.int v]:=by
  intro hd W Wo d hd';obtain⟨kv,h1,rfl⟩:=ak.mp (Wo.ents.2.mem_iff.mp hd');obtain⟨a,b,h2,h3,h4,e,x,v,e2⟩:=W.tk kv h1;exact⟨a,b,h2,h3,h4,by rw[e2];rfl,x,v,e2⟩
 refine⟨?_,fun xs hx=>(rowsB xs hx).1,fun xs hx=>(rowsB xs hx).2,?_,mT W.kn,?_,?_,oJ (by simp)⟩
 ·show((bq (bq mx) hd.knows tl.knows).set i _).length=c
  rw[ca,fh,W.len,V.len,jk]
 ·intro kv h;rcases mP h with z|z
  ·exact W.kk kv z
  ·exact V.kk kv z
 ·intro kv h;rcases mP h with z|z
  ·exact W.kv kv z
  ·exact V.kv kv z
 ·intro kv h;rcases oK h with z|⟨d,hd',rfl⟩
  ·simp at z
  ·rcases cm.mp hd' with z|z
   ·exact entT W Wo d (bu.mp z).1
   ·exact entT V Vo d (bu.mp z).1
theorem BQ (W:hd.In c own) (V:tl.In c own) (hi:i<c) (hj:j<c) (hs:(hd.seen i).getD i 0=own i):((hd.hear i tl j).seen i).getD i 0=own i:=by
 have:(hd.hear i tl j).seen i=bq mx (hd.seen i) (tl.seen j):=by
  show((bq (bq mx) hd.knows tl.knows).set i _).getD i []=_
  rw[av,d7 (by rw[fh,W.len,V.len,jk];exact hi)];rfl
 rw[this,sF (by rw[W.seenLen hi];exact hi) (by rw[V.seenLen hj];exact hi),hs]
 have:=(V.kb _ (V.seenMem hj) i hi).2
 unfold mx;rw[if_neg (by omega)]
theorem Hd.Ok.marksLen (Wo:hd.Ok c) (x:Str):(hd.marksK x).length<64:=by
 unfold Hd.marksK;rw[am];exact my (dh ..) Wo.entsLen
theorem Hd.In.marks (W:hd.In c own) (Wo:hd.Ok c) (x:Str):∀ q∈hd.marksK x,KeyIn c own q:=fun q hq=>by
 obtain⟨kv,h1,rfl⟩:=ak.mp (Wo.marksIn x q hq);obtain⟨a,b,h2,h3,h4,e,_⟩:=W.tk kv h1;exact⟨a,b,h2,h3,h4,e⟩
end
theorem pQ:∀ {U:List (List Key)},fA U=true->(∀ k∈U,∃ a,fD k=xa a)/\∀ k∈U,∀ k'∈U,fD k=fD k'->k=k'
 |[],_=>⟨fun k h=>by simp at h,fun k h=>by simp at h⟩
 |k::r,h=>by
  have h':((fD k).isSome&&r.all (fun k'=>match fD k,fD k' with
   |some a,xa b=>decide (a≠b)
   |_,_=>false)&&fA r)=true:=h
  rw[br,br] at h';obtain⟨⟨h0,ha⟩,hr⟩:=h';obtain⟨i1,i2⟩:=pQ hr;have main:∀ y∈r,fD k=fD y->False:=fun y hy e=>by
   have:=du.mp ha y hy
   split at this
   ·rename_i a b e1 e2
    rw[e1,e2] at e;cases e;simp at this
   ·cases this
  refine⟨fun q hq=> ?_,fun q hq q' hq' e=> ?_⟩
  ·rcases aj.mp hq with rfl|hq
   ·exact mr.mp h0
   ·exact i1 q hq
  ·rcases aj.mp hq with z|hq1
   ·rcases aj.mp hq' with z'|hq2
    ·rw[z,z']
    ·rw[z] at e;exact(main q' hq2 e).elim
   ·rcases aj.mp hq' with z'|hq2
    ·rw[z'] at e;exact(main q hq1 e.symm).elim
    ·exact i2 q hq1 q' hq2 e
theorem mW (hU:fA U=true):∀ {ks:List (List Key)},(∀ k∈ks,k∈U)->ks.Nodup->fA ks=true
 |[],_,_=>rfl
 |k::r,hs,nd=>by
  rw[b9] at nd;obtain⟨s1,s2⟩:=pQ hU;have hk:=hs k aq;obtain⟨a,ea⟩:=s1 k hk
  show((fD k).isSome&&r.all (fun k'=>match fD k,fD k' with
   |some a,xa b=>decide (a≠b)
   |_,_=>false)&&fA r)=true
  rw[br,br];refine⟨⟨by rw[ea];rfl,?_⟩,mW hU (fun q hq=>hs q (ai _ hq)) nd.2⟩;rw[du];intro k' hk';obtain⟨b,eb⟩:=s1 k' (hs k' (ai _ hk'));rw[ea,eb];show decide (a≠b)=true;refine decide_eq_true fun z=>nd.1 ?_;rw[s2 k hk k' (hs k' (ai _ hk')) (by rw[ea,eb,z])];exact hk'
theorem RowsAt.mem (h:RowsAt ω rs kn):∀ r∈rs,∃ xs,ω[r]?=xa (.ml (iv xs)):=by
 induction h with
 |nil=>intro r hr;simp at hr
 |cons h0 _ ih=>
  intro r hr;rcases aj.mp hr with rfl|hr
  ·exact⟨_,h0⟩
  ·exact ih r hr
theorem CC (h:RowsAt ω rs kn):(rs.map D.obj).map (fun d=>D.lst ((cB ω d).getD []))=kn.map fun xs=>D.lst (iv xs):=by
 induction h with
 |nil=>rfl
 |@cons r x rs kn h0 _ ih=>
  rw[bg,bg,bg,ih]
  have:cB ω (.obj r)=xa (iv x):=by simp only[cB,fK,h0]
  rw[this];rfl
theorem pN (h:ω[n]?=xa (.ml ds)):jY n ds ω=true:=by
 unfold jY;rw[h];exact sameDs_refl _
theorem Js (a b a' b':Int):∃ c,cO 4 (.tup [.int a,.int b]) (.tup [.int a',.int b'])=xa c:=by
 show ∃ c,(match eqD 4 (.int a) (.int a') with
  |some true=>(match eqD 4 (.int b) (.int b') with
   |some true=>xa _
   |some false=>eZ (.int b) (.int b')
   |none=>xb)
  |some false=>eZ (.int a) (.int a')
  |none=>xb)=xa c
 have e1:eqD 4 (.int a) (.int a')=xa (decide (a=a')):=rfl;have e2:eqD 4 (.int b) (.int b')=xa (decide (b=b')):=rfl;rw[e1,e2];cases decide (a=a') with
 |false=>exact⟨_,rfl⟩
 |true=>
  cases decide (b=b') with
  |false=>exact⟨_,rfl⟩
  |true=>exact⟨_,rfl⟩
section
variable {ω:Om}{h k t e:Nat}{i c:Nat}{hd:Hd}{rs fp:List Nat}{own:Nat->Nat}
theorem HK (H:HandAt ω h i hd k t e rs) (hl:rs.length<=sizeLine):fZ [.obj h] ω=xa (.ok (.lst (hd.knows.map fun xs=>.lst (iv xs))),ω):=by
 refine aT rfl (bI (gE (ds:=rs.map D.obj) (chk:=jY k (rs.map D.obj)) (ω1:=ω) ?_ (by simpa using hl) ?_))
 ·unfold oIL;rw[bJ (H.knows (aB rfl))]
  have:mY ω (.obj k)=xa (rs.map D.obj,jY k (rs.map D.obj)):=by simp only[mY,H.kn]
  show oR (pu (mY ω (.obj k)) ω)=_;rw[this];rfl
 ·rw[<- CC H.rows];refine lY (fun ρ=>ρ.length=1) (pN H.kn) rfl fun d hd ρ hρ=> ?_;obtain⟨r,hr,rfl⟩:=ak.mp hd;obtain⟨xs,ex⟩:=H.rows.mem r hr
  match ρ,hρ with
  |[u],_=>
   refine⟨_,rfl,rfl,cP (aA (aB (d:=.obj r) rfl) aD) ?_⟩
   have:cB ω (.obj r)=xa (iv xs):=by simp only[cB,fK,ex]
   show(cB ω (.obj r)).map _=_
   rw[this];rfl
theorem GF (H:HandAt ω h i hd k t e rs) (hi:i<hd.knows.length) (ef:f ρ ω=xa (.ok (.obj h),ω)):oL iL (aC (bL 0 "seen" bY f aO) aO) ρ ω=xa (.ok (.lst (iv (hd.seen i))),ω):=by
 obtain⟨r,hr,er⟩:=H.seenRow hi;refine cP (aA (cH ef H.obj rfl (kL H hr)) aD) ?_
 have:cB ω (.obj r)=xa (iv (hd.seen i)):=by simp only[cB,fK,er]
 show(cB ω (.obj r)).map _=_
 rw[this];rfl
noncomputable def Hd.mindK (hd:Hd):List D:=(dF 4 (hd.kept.map fun p=>bC p.1)).getD []
noncomputable def Hd.mindV (hd:Hd) (q:D):D:=match DD q with
 |some k=>(match gN hd.kept k with
  |some (.tup ds)=>.lst ds
  |_=>.non)
 |none=>.non
noncomputable def Hd.mind (hd:Hd):List D:=hd.mindK.map fun q=>.tup [q,hd.mindV q]
theorem Hd.Ok.mindK (W:hd.Ok c):dF 4 (hd.kept.map fun p=>bC p.1)=xa hd.mindK/\hd.mindK.Perm (hd.kept.map fun p=>bC p.1):=by
 have key:∀ d∈hd.kept.map fun p=>bC p.1,∃ a b:Int,d=.tup [.int a,.int b]:=fun d hd'=>by
  obtain⟨kv,h1,rfl⟩:=ak.mp hd';obtain⟨a,b,e,_⟩:=W.kk kv h1;exact⟨a,b,by show bC kv.1=_;rw[e];rfl⟩
 obtain⟨out,e1,e2⟩:=nP (m:=4) (ds:=hd.kept.map fun p=>bC p.1) (by rw[am];exact W.kl) (by
  unfold gX;rw[ib];left;rw[du];intro d hd';obtain⟨a,b,rfl⟩:=key d hd';rfl) (fun x hx y hy=>by
  obtain⟨a,b,rfl⟩:=key x hx;obtain⟨a',b',rfl⟩:=key y hy;exact Js a b a' b')
 have:hd.mindK=out:=by unfold Hd.mindK;rw[e1];rfl
 rw[this];exact⟨e1,e2⟩
theorem HB (W:hd.In c own) (hq:q∈hd.kept):∃ ks:List (List Key),gN hd.kept q.1=xa (.tup (ks.map bC))/\hd.mindV (bC q.1)=.lst (ks.map bC)/\ks.length<64/\∀ x∈ks,KeyIn c own x:=by
 obtain⟨ks,e,hl,h2⟩:=W.kv q hq;have e1:=uE W.kn hq;rw[e] at e1;refine⟨ks,e1,?_,hl,h2⟩;unfold Hd.mindV;rw[wO]
 show(match gN hd.kept q.1 with
  |some (.tup ds)=>D.lst ds
  |_=>.non)=_
 rw[e1]
theorem Db (H:HandAt ω h i hd k t e rs) (W:hd.Ok c) (I:hd.In c own):eP [.obj h] ω=xa (.ok (.lst hd.mind),ω):=by
 have hl:hd.mindK.length<64:=by rw[W.mindK.2.length_eq,am];exact W.kl
 refine aT rfl (bI (gE (ds:=hd.mindK) (chk:=bM) (ω1:=ω) ?_ (ip (eE hl)) ?_))
 ·unfold oIL;rw[bJ (cP (d:=.lst hd.mindK) (ω2:=ω) (aA (H.kept (aB rfl)) aD) (by
   simp only[Fu,cellOf,H.kp];rw[W.mindK.1];rfl))]
  rfl
 ·refine lY (fun ρ=>∃ u,ρ=[u,xa (.obj h)]) rfl ⟨_,rfl⟩ fun d hd' ρ hρ=> ?_;obtain⟨q,hq,rfl⟩:=ak.mp (W.mindK.2.mem_iff.mp hd');obtain⟨ks,e1,e2,_⟩:=HB I hq;obtain⟨u,rfl⟩:=hρ;refine⟨_,rfl,⟨_,rfl⟩,cP (aA (aB (d:=bC q.1) rfl) (aA (cP (aA (dY (d:=.tup (ks.map bC)) (H.kept (aB rfl)) (aB (d:=bC q.1) rfl) (by
   show pu (iD ω (.obj e) (bC q.1)) ω=_
   have:iD ω (.obj e) (bC q.1)=xa (.tup (ks.map bC)):=by
    simp only[iD,DG,cellOf,H.kp,wO];rw[sh,e1];rfl
   rw[this];rfl)) aD) (d:=.lst (ks.map bC)) rfl) aD)) ?_⟩
  show pu (rP [bC q.1,.lst (ks.map bC)]) ω=xa (D.tup [bC q.1,hd.mindV (bC q.1)],ω);rw[e2];unfold rP;rw[if_pos (by rw[bv];simp)];rfl
end
noncomputable def Hd0 (c:Nat):Hd:=⟨aw c (aw c 0),[],[]⟩
theorem Cb:∀ c:Nat,(aw c [D.int 0]).flatten=iv (aw c 0)
 |0=>rfl
 |c+1=>by
  rw[fw,i9,Cb c];rfl
theorem AB {c:Nat} (c8:c<=8):∀(ds:List D) (u:Option D) (ω:Om),compLO (aS 0) bM (oPT kZ) (o2 Av (zL (aC (zI 0) aO)) (zV 1)) ds [u,xa (.int c)] ω=xa ((c6 ω.length ds.length).map D.obj,ω++aw ds.length (.ml (iv (aw c 0))))
 |[],u,ω=>by
  show xa ([],ω)=_;simp
 |d::ds,u,ω=>by
  have ih:=AB c8 ds (xa d) (ω++[.ml (iv (aw c 0))]);have b1:o2 Av (zL (aC (zI 0) aO)) (zV 1) [xa d,xa (.int c)] ω=xa (.ok (.obj ω.length),ω++[.ml (iv (aw c 0))]):=by
   refine dY (ω1:=ω) (ω2:=ω) (a:=.lst [.int 0]) (b:=.int c) (cP (aA aR aD) ?_) (aB rfl) ?_
   ·show pu (Ib [.int 0]) ω=_;unfold Ib;rw[if_pos (by rw[bv];simp)];rfl
   ·show(if -1000000<=(c:Int)/\(c:Int)<=1000000/\1*(c:Int).toNat<=sizeLine then xa (D.obj ω.length,ω++[.ml (aw (c:Int).toNat [D.int 0]).flatten]) else xb)=_
    rw[if_pos ⟨by omega,by omega,by rw[bv];omega⟩,cw,Cb]
  refine(qP rfl rfl (b1)).trans ?_;rw[ih,b7,ka,bg,fw,b8];show xa (_,_)=_;rw[gs];rfl
theorem HZ {c:Nat} (c8:c<=1000):iM [.int (c:Int)]=xa (nQ 0 c):=by
 show(if -1000000000<=(c:Int)/\(c:Int)<=1000000000 then xa (nQ 0 (c:Int).toNat) else xb)=_
 rw[if_pos ⟨by omega,by omega⟩,cw]
theorem kA (e:f ρ ω=xa (.ok (.int c),ω1)) (c8:c<=1000):oIA iM (aC f aO) ρ ω=xa (.ok (nQ 0 c,bM),ω1):=by
 unfold oIA;rw[bJ (aA e aD)];show oR (pu ((iM [.int (c:Int)]).map _) ω1)=_;rw[HZ c8];rfl
theorem Ff {i c:Nat} (c8:c<=8):∃ ω' fp,dU [.obj ω.length,.int i,.int c] (ω++[.ins 0 []])=xa (.ok .non,ω')/\HandS ω' ω.length i (Hd0 c) fp/\Keep [] ω ω'/\∀ n∈fp,ω.length<=n:=by
 obtain⟨ω1,hω1⟩:∃ ω1,ω1=(ω++[Ob.ins 0 []]).set ω.length (.ins 0 [("number",.int i)]):=⟨_,rfl⟩;have g0:(ω++[Ob.ins 0 []])[ω.length]?=xa (.ins 0 []):=by simp
 have g1:ω1[ω.length]?=xa (.ins 0 [("number",.int i)]):=by rw[hω1];exact cD g0
 have l1:ω1.length=ω.length+1:=by rw[hω1];simp
 have k1:∀ n,n<ω.length->ω1[n]?=ω[n]?:=fun n hn=>by rw[hω1,aH (by omega),ao hn]
 have fill:=AB c8 (nQ 0 c) xb ω1;rw[fY] at fill;obtain⟨ω2,hω2⟩:∃ ω2,ω2=ω1++aw c (Ob.ml (iv (aw c 0))):=⟨_,rfl⟩;rw[<- hω2] at fill;have l2:ω2.length=ω.length+1+c:=by rw[hω2];simp[l1]
 obtain⟨ω3,hω3⟩:∃ ω3,ω3=ω2++[Ob.ml ((c6 ω1.length c).map D.obj)]:=⟨_,rfl⟩;have l3:ω3.length=ω.length+2+c:=by rw[hω3];simp[l2];omega
 have k3:∀ n,n<ω.length+1->ω3[n]?=ω1[n]?:=fun n hn=>by rw[hω3,ao (by omega),hω2,ao (by omega)]
 have g3:ω3[ω.length]?=xa (.ins 0 [("number",.int i)]):=by rw[k3 _ (by omega)];exact g1
 have r3:RowsAt ω3 (c6 ω1.length c) (aw c (aw c 0)):=by
  have:=mM (aw c (aw c 0)) ω1 [Ob.ml ((c6 ω1.length c).map D.obj)]
  rw[List.map_replicate,jn,<- hω2,<- hω3] at this;exact this
 have kk3:ω3[ω2.length]?=xa (.ml ((c6 ω1.length c).map D.obj)):=by rw[hω3];simp
 obtain⟨ω4,hω4⟩:∃ ω4,ω4=ω3.set ω.length (.ins 0 [("number",.int i),("knows",.obj ω2.length)]):=⟨_,rfl⟩;have l4:ω4.length=ω.length+2+c:=by rw[hω4];simp[l3]
 have g4:ω4[ω.length]?=xa (.ins 0 [("number",.int i),("knows",.obj ω2.length)]):=by rw[hω4];exact cD g3
 obtain⟨ω5,hω5⟩:∃ ω5,ω5=(ω4++[Ob.dt []]).set ω.length (.ins 0 [("number",.int i),("knows",.obj ω2.length),("table",.obj ω4.length)]):=⟨_,rfl⟩;have g4':(ω4++[Ob.dt []])[ω.length]?=xa (.ins 0 [("number",.int i),("knows",.obj ω2.length)]):=by rw[ao (by omega)];exact g4
 have l5:ω5.length=ω.length+3+c:=by rw[hω5];simp[l4];omega
 have g5:ω5[ω.length]?=xa (.ins 0 [("number",.int i),("knows",.obj ω2.length),("table",.obj ω4.length)]):=by rw[hω5];exact cD g4'
 have t5:ω5[ω4.length]?=xa (.dt []):=by rw[hω5,aH (by omega)];simp
 obtain⟨ω6,hω6⟩:∃ ω6,ω6=(ω5++[Ob.dt []]).set ω.length (.ins 0 [("number",.int i),("knows",.obj ω2.length),("table",.obj ω4.length),("kept",.obj ω5.length)]):=⟨_,rfl⟩;have g5':(ω5++[Ob.dt []])[ω.length]?=xa (.ins 0 [("number",.int i),("knows",.obj ω2.length),("table",.obj ω4.length)]):=by rw[ao (by omega)];exact g5
 have l6:ω6.length=ω.length+4+c:=by rw[hω6];simp[l5];omega
 have g6:∀ n,n<ω.length+2+c->n≠ω.length->ω6[n]?=ω3[n]?:=fun n hn hne=>by
  rw[hω6,aH hne,ao (by omega),hω5,aH hne,ao (by omega),hω4,aH hne]
 have rin:∀ q∈c6 ω1.length c,ω.length+1<=q/\q<ω.length+1+c:=fun q hq=>by
  rw[nq,l1] at hq;exact hq
 refine⟨ω6,ω.length::ω2.length::ω4.length::ω5.length::c6 ω1.length c,?_,⟨ω2.length,ω4.length,ω5.length,c6 ω1.length c,⟨?_,?_,?_,?_,?_,?_⟩,rfl⟩,⟨by omega,fun n hn _=> ?_⟩,fun n hn=> ?_⟩
 ·refine uM (ρ1:=[xa (.obj ω.length),xa (.int i),xa (.int c)]) rfl ?_;unfold lR;rw[bB (kK (aB (d:=.int i) rfl) (aB (d:=.obj ω.length) rfl) g0 (by simp))];rw[show(ω++[Ob.ins 0 []]).set ω.length (.ins 0 (lH "number" (.int i) []))=ω1 from by rw[hω1];rfl];rw[bB (kK (pF (ω2:=ω2) (kA (c:=c) (aB rfl) (by omega)) (by rw[fY,bv];omega) fill) (by rw[<- hω3];exact aB (d:=.obj ω.length) rfl) g3 (by simp))];rw[show ω3.set ω.length (.ins 0 (lH "knows" (.obj ω2.length) [("number",.int i)]))=ω4 from by rw[hω4];rfl];rw[bB (kK (v:=.obj ω4.length) (ω1:=ω4++[.dt []]) rfl (aB (d:=.obj ω.length) rfl) g4' (by simp))];rw[show(ω4++[Ob.dt []]).set ω.length (.ins 0 (lH "table" (.obj ω4.length) [("number",.int i),("knows",.obj ω2.length)]))=ω5 from by rw[hω5];rfl];rw[kK (v:=.obj ω5.length) (ω1:=ω5++[.dt []]) rfl (aB (d:=.obj ω.length) rfl) g5' (by simp)];rw[show(ω5++[Ob.dt []]).set ω.length (.ins 0 (lH "kept" (.obj ω5.length) [("number",.int i),("knows",.obj ω2.length),("table",.obj ω4.length)]))=ω6 from by rw[hω6];rfl];rfl
 ·rw[hω6];exact cD g5'
 ·rw[g6 _ (by omega) (by omega)];exact kk3
 ·exact r3.mono fun q hq=>by have:=rin q hq;exact g6 q (by omega) (by omega)
 ·rw[hω6,aH (by omega),ao (by omega)];exact t5
 ·rw[hω6,aH (by omega)];simp[Hd0]
 ·simp only[b9,aj,not_or];refine⟨⟨by omega,by omega,by omega,fun z=>by have:=rin _ z;omega⟩,⟨by omega,by omega,fun z=>by have:=rin _ z;omega⟩,⟨by omega,fun z=>by have:=rin _ z;omega⟩,fun z=>by have:=rin _ z;omega,vm⟩
 ·rw[g6 n (by omega) (by omega),k3 n (by omega)];exact k1 n hn
 ·simp only[aj] at hn;rcases hn with z|z|z|z|z
  ·omega
  ·omega
  ·omega
  ·omega
  ·have:=rin n z;omega
theorem EQ (e1:fl ρ ω=xa (.ok ds,ω1)) (e2:φ (.obj ω1.length::ds) (ω1++[.ins cl []])=xa (.ok .non,ω2)):uT cl φ fl ρ ω=xa (.ok (.obj ω1.length),ω2):=by
 unfold uT;rw[bJ e1]
 show(match φ (.obj ω1.length::ds) (ω1++[.ins cl []]) with
  |some (.ok .non,ω')=>xa (Rz.ok (D.obj ω1.length),ω')
  |some (.ex c,ω')=>xa (.ex c,ω')
  |_=>xb)=_
 rw[e2]
theorem eW (s:Int) (m:Nat):nQ s (m+1)=.int s::nQ (s+1) m:=by
 unfold nQ;rw[sw,bg,fk]
 congr 1
 ·simp
 ·apply fg;intro k _;show D.int (s+((k+1:Nat):Int))=D.int (s+1+(k:Int))
  congr 1
  omega
theorem BV {c:Nat} (c8:c<=8):∀(m s:Nat) (u:Option D) (ω:Om),∃(ω':Om) (hs:Nat->Nat) (fp:Nat->List Nat),compLO (aS 0) bM (oPT kZ) (uT 0 dU (aC (zV 0) (aC (zV 1) aO))) (nQ s m) [u,xa (.int c)] ω=xa ((c6 s m).map fun i=>D.obj (hs i),ω')/\
  (∀ i,s<=i->i<s+m->HandS ω' (hs i) i (Hd0 c) (fp i))/\(∀ i,s<=i->i<s+m->∀ n∈fp i,ω.length<=n)/\(∀ i,s<=i->i<s+m->∀ j,s<=j->j<s+m->i≠j->∀ n∈fp i,n∉fp j)/\Keep [] ω ω'
 |0,s,u,ω=>⟨ω,fun _=>0,fun _=>[],rfl,fun i h1 h2=>by omega,fun i h1 h2=>by omega,fun i h1 h2=>by omega,Keep.refl _ _⟩
 |m+1,s,u,ω=>by
  obtain⟨ω1,fp0,e1,H1,K1,F1⟩:=Ff (ω:=ω) (i:=s) c8;obtain⟨ω2,hs,fp,e2,H2,F2,A2,K2⟩:=BV c8 m (s+1) (xa (.int s)) ω1;have ltH:=H1.lt;refine⟨ω2,fun i=>if i=s then ω.length else hs i,fun i=>if i=s then fp0 else fp i,?_,fun i h1 h2=> ?_,fun i h1 h2 n hn=> ?_,fun i h1 h2 j h3 h4 hne n hn=> ?_,⟨ci K1.1 K2.1,fun n hn _=> ?_⟩⟩
  ·rw[eW];have mk:uT 0 dU (aC (zV 0) (aC (zV 1) aO)) [xa (.int s),xa (.int c)] ω=xa (.ok (.obj ω.length),ω1):=EQ (aA (aB rfl) (aA (aB rfl) aD)) e1;refine(qP rfl rfl (mk)).trans ?_
   show(compLO _ _ _ _ (nQ ((s+1:Nat):Int) m) _ _).map _=_
   rw[e2,ka,bg];show xa (_::_,_)=_
   congr 3
   ·simp
   ·apply fg;intro i hi;rw[nq] at hi;show D.obj (hs i)=D.obj (if i=s then ω.length else hs i);rw[if_neg (by omega)]
  ·by_cases hi:i=s
   ·subst hi;simp only[if_pos];exact H1.mono fun n hn=>K2.2 n (ltH n hn) (by simp)
   ·simp only[if_neg hi];exact H2 i (by omega) (by omega)
  ·by_cases hi:i=s
   ·simp only[if_pos hi] at hn;exact F1 n hn
   ·simp only[if_neg hi] at hn;exact ci K1.1 (F2 i (by omega) (by omega) n hn)
  ·by_cases hi:i=s
   ·by_cases hj:j=s
    ·exact absurd (hi.trans hj.symm) hne
    ·simp only[if_pos hi] at hn;simp only[if_neg hj];intro z
     have:=F2 j (by omega) (by omega) n z
     have:=ltH n hn
     omega
   ·simp only[if_neg hi] at hn
    by_cases hj:j=s
    ·simp only[if_pos hj];intro z
     have:=F2 i (by omega) (by omega) n hn
     have:=ltH n z
     omega
    ·simp only[if_neg hj];exact A2 i (by omega) (by omega) j (by omega) (by omega) hne n hn
  ·rw[K2.2 n (cg hn K1.1) (by simp)];exact K1.2 n hn (by simp)
structure HallS (B ω:Om) (g c:Nat) (hs:Nat->Nat) (fp:Nat->List Nat) (S:Nat->Hd):Prop where
 obj:ω[g]?=xa (.ins 1 [("hands",.lst ((bj c).map fun i=>.obj (hs i)))])
 hand:∀ i,i<c->HandS ω (hs i) i (S i) (fp i)
 apart:∀ i,i<c->∀ j,j<c->i≠j->∀ n∈fp i,n∉fp j
 out:∀ i,i<c->g∉fp i
 low:∀ i,i<c->∀ n∈fp i,B.length<=n
 bas:B.length<=ω.length/\∀ n,n<B.length->ω[n]?=B[n]?
theorem Fk (c8:c<=8) (e:fl ρ ω=xa (.ok [.int c],ω)):∃ ω' hs fp,uT 1 gW fl ρ ω=xa (.ok (.obj ω.length),ω')/\HallS ω ω' ω.length c hs fp (fun _=>Hd0 c):=by
 obtain⟨ω1,hs,fp,e1,H1,F1,A1,K1⟩:=BV c8 c 0 xb (ω++[Ob.ins 1 []]);have g0:(ω++[Ob.ins 1 []])[ω.length]?=xa (.ins 1 []):=by simp
 have g1:ω1[ω.length]?=xa (.ins 1 []):=(K1.2 _ (by simp) (by simp)).trans g0;have l1:=K1.1;rw[b8] at l1;have hl:[Ob.ins 1 []].length=1:=rfl;have f1:∀ i,i<c->∀ n∈fp i,n≠ω.length:=fun i hi n hn z=>by
  have:=F1 i (by omega) (by omega) n hn
  rw[b8] at this;omega
 refine⟨ω1.set ω.length (.ins 1 [("hands",.lst ((bj c).map fun i=>.obj (hs i)))]),hs,fp,EQ e ?_,⟨cD g1,fun i hi=> ?_,fun i hi j hj=>A1 i (by omega) (by omega) j (by omega) (by omega),fun i hi z=>f1 i hi _ z rfl,fun i hi n hn=> ?_,⟨by simp;omega,fun n hn=> ?_⟩⟩⟩
 ·refine uM (ρ1:=[xa (.obj ω.length),xa (.int c)]) rfl ?_;unfold lU;rw[kK (gE (ω2:=ω1) (kA (c:=c) (aB rfl) (by omega)) (by rw[fY,bv];omega) e1) (aB (d:=.obj ω.length) rfl) g1 (by simp)];rw[<- uf];rfl
 ·exact(H1 i (by omega) (by omega)).mono fun n hn=>aH (f1 i hi n hn)
 ·have:=F1 i (by omega) (by omega) n hn
  rw[b8] at this;omega
 ·rw[aH (by omega),K1.2 n (by simp;omega) (by simp),ao hn]
noncomputable def LW:List (List Key)->Nat->Bool
 |[],_=>true
 |k::r,acc=>match fD k with
  |some h=> !(acc.testBit (h % 4096).toNat)&&LW r (acc|||(1<<<(h % 4096).toNat))
  |none=>false
theorem Jz (acc i j:Nat):(acc|||(1<<<i)).testBit j=(acc.testBit j||decide (j=i)):=by
 rw[Nat.testBit_or,Nat.testBit_shiftLeft]
 congr 1
 by_cases h:j=i
 ·subst h;simp
 ·rw[decide_eq_false h]
  by_cases h2:j≥i
  ·have:j-i≠0:=by omega
   obtain⟨n,hn⟩:∃ n,j-i=n+1:=⟨j-i-1,by omega⟩;rw[hn,Nat.testBit_succ];simp
  ·simp[h2]
theorem yW:∀ {l:List (List Key)}{acc:Nat},LW l acc=true->∀ k∈l,∃ h,fD k=xa h/\acc.testBit (h % 4096).toNat=false
 |[],_,_,k,hk=>by simp at hk
 |k::r,acc,h,q,hq=>by
  unfold LW at h;cases hh:fD k with
  |none=>rw[hh] at h;cases h
  |some a=>
   rw[hh] at h;have h':(!(acc.testBit (a % 4096).toNat)&&LW r (acc|||(1<<<(a % 4096).toNat)))=true:=h;rw[br] at h';rcases aj.mp hq with rfl|hq
   ·exact⟨a,hh,by simpa using h'.1⟩
   ·obtain⟨b,e1,e2⟩:=yW h'.2 q hq;rw[Jz,Bool.or_eq_false_iff] at e2;exact⟨b,e1,e2.1⟩
theorem FZ:∀ {l:List (List Key)}{acc:Nat},LW l acc=true->fA l=true
 |[],_,_=>rfl
 |k::r,acc,h=>by
  unfold LW at h;cases hh:fD k with
  |none=>rw[hh] at h;cases h
  |some a=>
   rw[hh] at h;have h':(!(acc.testBit (a % 4096).toNat)&&LW r (acc|||(1<<<(a % 4096).toNat)))=true:=h;rw[br] at h'
   show((fD k).isSome&&r.all (fun k'=>match fD k,fD k' with
    |some a,xa b=>decide (a≠b)
    |_,_=>false)&&fA r)=true
   rw[br,br];refine⟨⟨by rw[hh];rfl,?_⟩,FZ h'.2⟩;rw[du];intro k' hk';obtain⟨b,e1,e2⟩:=yW h'.2 k' hk';rw[hh,e1];refine decide_eq_true fun z=> ?_;rw[Jz,<- z] at e2;simp at e2
theorem Fd:fA (univ 8 fun _=>63)=true:=FZ (acc:=0) (by decide+kernel)
noncomputable def mR (S:Nat->Hd) (i:Nat) (hd:Hd):Nat->Hd:=fun j=>if j=i then hd else S j
theorem gC:mR S i hd i=hd:=if_pos rfl
theorem gB (h:j≠i):mR S i hd j=S j:=if_neg h
inductive Deed where
 |put (a:Int) (x:Str) (v:Int)
 |change (a:Int) (x:Str) (v:Int)
 |take (a:Int) (x:Str)
 |tell (a b:Int)
 |meet (a b:Int)
noncomputable def Deed.d:Deed->D
 |.put a x v=>.tup [.str "put",.int a,.str x,.int v]
 |.change a x v=>.tup [.str "change",.int a,.str x,.int v]
 |.take a x=>.tup [.str "take",.int a,.str x]
 |.tell a b=>.tup [.str "tell",.int a,.int b]
 |.meet a b=>.tup [.str "meet",.int a,.int b]
noncomputable def gO (S:Nat->Hd) (a b:Nat):Nat->Hd:=mR S b ((S b).hear b (S a) a)
noncomputable def uI (S:Nat->Hd) (a b:Nat):Int:=Pc ((S b).seen b) ((S a).seen a)
noncomputable def HD (S:Nat->Hd) (a b:Nat):Nat->Hd:=gO (gO (gO S a b) b a) a b
noncomputable def step (c:Nat) (S:Nat->Hd):Deed->D×(Nat->Hd)
 |.put a x v=>if 0<=a/\a<c then(mkD a.toNat ((S a.toNat).next a.toNat),mR S a.toNat ((S a.toNat).put a.toNat x v)) else(.str "no hand",S)
 |.change a x v=>if 0<=a/\a<c then(mkD a.toNat ((S a.toNat).next a.toNat),mR S a.toNat ((S a.toNat).change a.toNat x v)) else(.str "no hand",S)
 |.take a x=>if 0<=a/\a<c then((S a.toNat).takeA x,mR S a.toNat ((S a.toNat).take a.toNat x)) else(.str "no hand",S)
 |.tell a b=>if(0<=a/\a<c)/\(0<=b/\b<c) then(if a=b then(.str "same hand",S) else(.int (uI S a.toNat b.toNat),gO S a.toNat b.toNat)) else(.str "no hand",S)
 |.meet a b=>if(0<=a/\a<c)/\(0<=b/\b<c) then(if a=b then(.str "same hand",S) else(.tup [.int (uI (gO S a.toNat b.toNat) b.toNat a.toNat),.int (uI S a.toNat b.toNat)],HD S a.toNat b.toNat)) else(.str "no hand",S)
def HInv (c:Nat) (own:Nat->Nat) (S:Nat->Hd):Prop:=∀ a,a<c->(S a).In c own/\((S a).seen a).getD a 0=own a
theorem jM (own:Nat->Nat) (i:Nat):∀ c,tot c (cQ own i)=tot c own+if i<c then 1 else 0
 |0=>rfl
 |c+1=>by
  have ih:=jM own i c;unfold tot at ih ⊢;rw[pd,c7,c7,pe,pe,ih];simp only[bg,k9,List.sum_cons,List.sum_nil];unfold cQ
  by_cases h1:i<c
  ·rw[if_pos h1,if_neg (by omega),if_pos (by omega)];omega
  ·rw[if_neg h1]
   by_cases h2:c=i
   ·rw[if_pos h2,if_pos (by omega)];omega
   ·rw[if_neg h2,if_neg (by omega)];omega
theorem Ji (own:Nat->Nat) (a:Nat):∀ c,a<c->own a<=tot c own
 |0,h=>by omega
 |c+1,h=>by
  have ih:=Ji own a c;unfold tot at ih ⊢;rw[pd,c7,pe];simp only[bg,k9,List.sum_cons,List.sum_nil]
  by_cases h1:a<c
  ·have:=ih h1;omega
  ·have:a=c:=by omega
   subst this;omega
section
variable {B:Om}{c g i j:Nat}{own:Nat->Nat}{S:Nat->Hd}{ω ω':Om}{hs:Nat->Nat}{fp:Nat->List Nat}{hd':Hd}
theorem HInv.upd (I:HInv c own S) (W:hd'.In c own) (e:(hd'.seen i).getD i 0=own i):HInv c own (mR S i hd'):=fun a ha=>by
 by_cases h:a=i
 ·subst h;rw[gC];exact⟨W,e⟩
 ·rw[gB h];exact I a ha
theorem HInv.updB (I:HInv c own S) (W:hd'.In c (cQ own i)) (e:(hd'.seen i).getD i 0=cQ own i i):HInv c (cQ own i) (mR S i hd'):=fun a ha=>by
 by_cases h:a=i
 ·subst h;rw[gC];exact⟨W,e⟩
 ·rw[gB h];refine⟨(I a ha).1.mono (iJ own i),?_⟩;rw[(I a ha).2];unfold cQ;rw[if_neg h]
theorem HallS.did (L:HallS B ω g c hs fp S) (hi:i<c) (D:Did ω (hs i) i (fp i) ω' hd'):∃ fp',HallS B ω' g c hs fp' (mR S i hd'):=by
 obtain⟨fi,H',K,F⟩:=D;refine⟨fun j=>if j=i then fi else fp j,⟨?_,fun j hj=> ?_,fun a ha b hb hne n hn=> ?_,fun j hj=> ?_,fun j hj n hn=> ?_,⟨ci L.bas.1 K.1,fun n hn=> ?_⟩⟩⟩
 ·rw[K.2 g (dZ L.obj) (L.out i hi)];exact L.obj
 ·by_cases h:j=i
  ·subst h;rw[gC];simp only[if_pos];exact H'
  ·rw[gB h];simp only[if_neg h];exact(L.hand j hj).mono fun n hn=>K.2 n ((L.hand j hj).lt n hn) fun z=>L.apart j hj i hi h n hn z
 ·by_cases h1:a=i
  ·simp only[if_pos h1] at hn
   by_cases h2:b=i
   ·exact absurd (h1.trans h2.symm) hne
   ·simp only[if_neg h2];intro z;rcases F n hn with q|q
    ·exact L.apart i hi b hb (fun w=>h2 w.symm) n q z
    ·have:=(L.hand b hb).lt n z
     omega
  ·simp only[if_neg h1] at hn
   by_cases h2:b=i
   ·simp only[if_pos h2];intro z;rcases F n z with q|q
    ·exact L.apart a ha i hi h1 n hn q
    ·have:=(L.hand a ha).lt n hn
     omega
   ·simp only[if_neg h2];exact L.apart a ha b hb hne n hn
 ·by_cases h:j=i
  ·simp only[if_pos h];intro z;rcases F g z with q|q
   ·exact L.out i hi q
   ·have:=dZ L.obj
    omega
  ·simp only[if_neg h];exact L.out j hj
 ·by_cases h:j=i
  ·simp only[if_pos h] at hn;rcases F n hn with q|q
   ·exact L.low i hi n q
   ·exact ci L.bas.1 q
  ·simp only[if_neg h] at hn;exact L.low j hj n hn
 ·rw[K.2 n (cg hn L.bas.1) fun z=>absurd hn (ub.mpr (L.low i hi n z))];exact L.bas.2 n hn
end
section
variable {α β:Type}{f h fo:OG D}{fl:OG (List D)}{ρ:Rho}{ω ω1 ω2 ω3:Om}{a b d:D}{ds:List D}{F G:OS}{x:Nat}{r:Rz D}
theorem Hu {f:OG α}{g:α->OG β} (e:f ρ ω=xa (.ex x,ω1)):oB f g ρ ω=xa (.ex x,ω1):=by unfold oB;rw[e]
theorem Aj (e:fo ρ ω=xa (.ex x,ω1)):bL c m φ fo fl ρ ω=xa (.ex x,ω1):=Hu e
theorem xL (e:f ρ ω=xa (.ex x,ω1)):aC f fl ρ ω=xa (.ex x,ω1):=Hu e
theorem EG (e1:f ρ ω=xa (.ok a,ω1)) (e2:fl ρ ω1=xa (.ex x,ω2)):aC f fl ρ ω=xa (.ex x,ω2):=by
 unfold aC;rw[bJ e1,Hu e2]
theorem NX (e:fl ρ ω=xa (.ex x,ω1)):oL g fl ρ ω=xa (.ex x,ω1):=Hu e
theorem EE {f:OG α} (e:f ρ ω=xa (.ex x,ω1)):oX f g ρ ω=xa (.ex x,ω1):=by unfold oX;rw[e]
noncomputable def JK:Rz D->OOut
 |.ok d=>.rt d
 |.ex c=>.ex c
theorem iS (e:f ρ ω=xa (r,ω1)):aW f ρ ω=xa (JK r,ω1):=by
 cases r with
 |ok d=>exact bI e
 |ex c=>exact EE e
theorem uL (e:F ρ ω=xa (JK r,ω1)):aG F G ρ ω=xa (JK r,ω1):=by
 unfold aG;rw[e];cases r <;> rfl
theorem dS (hl:ds.length=n) (e:G (cF N ds) ω=xa (JK r,ω1)):eC n N G ds ω=xa (r,ω1):=by
 unfold eC;rw[if_pos hl,e];cases r <;> rfl
end
section
variable {B:Om}{c g i j:Nat}{own:Nat->Nat}{S:Nat->Hd}{ω ω':Om}{hs:Nat->Nat}{fp:Nat->List Nat}{hd':Hd}
theorem pS (L:HallS B ω g c hs fp S) (ef:f ρ ω=xa (.ok (.obj g),ω)):fX 1 "hands" f ρ ω=xa (.ok (.lst ((bj c).map fun i=>.obj (hs i))),ω):=fV ef L.obj rfl
theorem lP (L:HallS B ω g c hs fp S) (a:Int):bQ [.obj g,.int a] ω=if 0<=a/\a<c then xa (.ok (.obj (hs a.toNat)),ω) else xa (.ex 0,ω):=by
 have len:oL iN (aC (fX 1 "hands" (zV 0)) aO) [xa (.obj g),xa (.int a)] ω=xa (.ok (.int c),ω):=cP (aA (pS L (aB rfl)) aD) (by
  show xa (D.int (((bj c).map fun i=>D.obj (hs i)).length:Nat),ω)=_;rw[am,fy])
 have ch:sR gLe gLt (zI 0) (zV 1) (oL iN (aC (fX 1 "hands" (zV 0)) aO)) [xa (.obj g),xa (.int a)] ω=xa (.ok (decide (0<=a/\a<c)),ω):=by
  unfold sR;rw[bJ aR,bJ (aB (d:=.int a) rfl)]
  show(match xa (decide (0<=a)) with
   |none=>xb
   |some true=>oB _ (fun z _ ω=>oR (pu ((gLt (.int a) z).bind toB) ω)) [xa (.obj g),xa (.int a)] ω
   |some false=>xa (Rz.ok false,ω))=_
  by_cases h0:0<=a
  ·rw[decide_eq_true h0];show oB _ (fun z _ ω=>oR (pu ((gLt (.int a) z).bind toB) ω)) [xa (.obj g),xa (.int a)] ω=_;rw[bJ len];show xa (Rz.ok (decide (a<(c:Int))),ω)=_;simp[h0]
  ·rw[decide_eq_false h0];simp[h0]
 have nt:iV (sR gLe gLt (zI 0) (zV 1) (oL iN (aC (fX 1 "hands" (zV 0)) aO))) [xa (.obj g),xa (.int a)] ω=xa (.ok (!decide (0<=a/\a<c)),ω):=by
  unfold iV;rw[bJ ch]
 by_cases h:0<=a/\a<c
 ·rw[if_pos h];rw[decide_eq_true h] at nt;refine aT rfl ?_;unfold kU;rw[bB (ρ1:=[xa (.obj g),xa (.int a)]) (ω1:=ω) (by
   show dG _ _ _ [xa (.obj g),xa (.int a)] ω=_;rw[iT nt];rfl)]
  refine bI (aJ (pS L (aB rfl)) (aB (d:=.int a) rfl) ?_);show atI ((bj c).map fun i=>D.obj (hs i)) a=_;unfold atI ixN;rw[if_pos h.1,if_pos (by rw[am,fy];exact h.2)]
  show((bj c).map fun i=>D.obj (hs i))[a.toNat]?=_
  rw[ax,di (by omega)];rfl
 ·rw[if_neg h];rw[decide_eq_false h] at nt;refine dS (r:=.ex 0) rfl ?_;unfold kU;refine uL (r:=.ex 0) ?_;show dG _ _ _ [xa (.obj g),xa (.int a)] ω=_;rw[jX nt];rfl
theorem Lm (h1:ρ[k]?=xa (xa (.int a))) (h2:ρ[l]?=xa (xa (.int b))):bX (o2 (jT 8) (zV k) (zV l)) ρ ω=xa (.ok (decide (a=b)),ω):=bU (dY (aB h1) (aB h2) rfl)
theorem pT (L:HallS B ω g c hs fp S) (a b:Int):bZ [.obj g,.int a,.int b] ω=if(0<=a/\a<c)/\(0<=b/\b<c) then(if a=b then xa (.ex 1,ω) else xa (.ok (.tup [.obj (hs a.toNat),.obj (hs b.toNat)]),ω)) else xa (.ex 0,ω):=by
 have ha:=lP L a;have hb:=lP L b;have m1:∀ {r:Rz D}{fa:OG D}{n:Int},bQ [.obj g,.int n] ω=xa (r,ω)->fa [xa (.obj g),xa (.int a),xa (.int b),xb] ω=xa (.ok (.int n),ω)->bL 1 "hand" bQ (zV 0) (aC fa aO) [xa (.obj g),xa (.int a),xa (.int b),xb] ω=xa (r,ω):=fun e q=>cA (aB rfl) L.obj rfl (aA q aD) e
 by_cases h1:0<=a/\a<c
 ·rw[if_pos h1] at ha
  by_cases h2:0<=b/\b<c
  ·rw[if_pos h2] at hb;rw[if_pos ⟨h1,h2⟩];have tup:zT (aC (bL 1 "hand" bQ (zV 0) (aC (zV 1) aO)) (aC (bL 1 "hand" bQ (zV 0) (aC (zV 2) aO)) aO)) [xa (.obj g),xa (.int a),xa (.int b),xb] ω=xa (.ok (.tup [.obj (hs a.toNat),.obj (hs b.toNat)]),ω):=cP (aA (m1 ha (aB rfl)) (aA (m1 hb (aB rfl)) aD)) (by
    show pu (rP _) ω=_;unfold rP;rw[if_pos (by rw[bv];simp)];rfl)
   by_cases h3:a=b
   ·rw[if_pos h3];refine dS (r:=.ex 1) rfl ?_;unfold fU;refine(aK tup).trans ?_;refine uL (r:=.ex 1) ?_;rw[jX (ω1:=ω) (by rw[Lm (a:=a) (b:=b) rfl rfl,decide_eq_true h3])];rfl
   ·rw[if_neg h3];refine aT rfl ?_;unfold fU;refine(aK tup).trans ?_;rw[bB (ρ1:=[xa (.obj g),xa (.int a),xa (.int b),xa (.tup [.obj (hs a.toNat),.obj (hs b.toNat)])]) (ω1:=ω) (by
     rw[iT (ω1:=ω) (by rw[Lm (a:=a) (b:=b) rfl rfl,decide_eq_false h3])];rfl)]
    exact bI (aB rfl)
  ·rw[if_neg h2] at hb;rw[if_neg (fun z=>h2 z.2)];refine dS (r:=.ex 0) rfl ?_;unfold fU;refine uL (r:=.ex 0) (EE (NX (EG (m1 ha (aB rfl)) (xL (m1 hb (aB rfl))))))
 ·rw[if_neg h1] at ha;rw[if_neg (fun z=>h1 z.1)];refine dS (r:=.ex 0) rfl ?_;unfold fU;refine uL (r:=.ex 0) (EE (NX (xL (m1 ha (aB rfl)))))
end
end L2.MB.Lw
end
section
namespace L2.MB.Lw
open PySem PySem.Spec PyProof.Rows L2.MB
section
variable {B:Om}{c g i j:Nat}{own:Nat->Nat}{S:Nat->Hd}{ω ω':Om}{hs:Nat->Nat}{fp:Nat->List Nat}{hd hd':Hd}
theorem Hd.In.hash (W:hd.In c own) (c8:c<=8) (ht:tot c own<64):fA (hd.kept.map (·.1))=true:=mW Fd (fun k hk=>by
 obtain⟨kv,h1,rfl⟩:=ak.mp hk;obtain⟨a,b,h2,h3,h4,e⟩:=W.kk kv h1
 have:=Ji own a c h2
 exact KeyIn.univ (own:=fun _=>63) ⟨a,b,by omega,h3,(by show b<=63;omega),e⟩) W.kn
theorem HS (L:HallS B ω g c hs fp S) (I:HInv c own S) (c0:0<c) (c8:c<=8) (ht:tot c own<64) (hi:i<c) (hj:j<c) (hne:i≠j):∃ ω' fp',cL [.obj (hs i),.obj (hs j)] ω=xa (.ok (.int (uI S j i)),ω')/\HallS B ω' g c hs fp' (gO S j i)/\HInv c own (gO S j i):=by
 have Wi:=(I i hi).1;have Wj:=(I j hj).1;have Oi:=Wi.ok c0 c8 ht;have Oj:=Wj.ok c0 c8 ht;have H0:=Wi.hear0 Wj Oi Oj hi hj;obtain⟨ω',e,D⟩:=Qu (L.hand i hi) (L.hand j hj) (fun n hn=>L.apart i hi j hj hne n hn) Oi Oj hi hj (Wj.hash c8 ht) (H0.ok c0 c8 ht);obtain⟨fp',L'⟩:=L.did hi D;exact⟨ω',fp',e,L',I.upd H0.forget (BQ Wi Wj hi hj (I i hi).2)⟩
theorem Rx (L:HallS B ω g c hs fp S) (I:HInv c own S) (c0:0<c) (c8:c<=8) (ht:tot c own<63) (hi:i<c) (x:Str) (v:Int):∃ ω' fp',eK [.obj (hs i),.str x,.int v] ω=xa (.ok (mkD i ((S i).next i)),ω')/\HallS B ω' g c hs fp' (mR S i ((S i).put i x v))/\HInv c (cQ own i) (mR S i ((S i).put i x v)):=by
 have W:=(I i hi).1;have O:=W.ok c0 c8 (by omega);obtain⟨ω',e,D⟩:=QW (L.hand i hi) O hi x v;obtain⟨fp',L'⟩:=L.did hi D;exact⟨ω',fp',e,L',I.updB (W.put hi (I i hi).2 x v) (jV W hi (I i hi).2)⟩
theorem wN (hi:i<c) (ht:tot c own<63):tot c (cQ own i)<64:=by
 rw[jM,if_pos hi];omega
theorem LY (L:HallS B ω g c hs fp S) (I:HInv c own S) (c0:0<c) (c8:c<=8) (ht:tot c own<63) (hi:i<c) (x:Str) (v:Int):∃ ω' fp',dW [.obj (hs i),.str x,.int v] ω=xa (.ok (mkD i ((S i).next i)),ω')/\HallS B ω' g c hs fp' (mR S i ((S i).change i x v))/\HInv c (cQ own i) (mR S i ((S i).change i x v)):=by
 have W:=(I i hi).1;have O:=W.ok c0 c8 (by omega);have P:=W.put hi (I i hi).2 x v;have T:=P.takeOut0 (mk:=fH i ((S i).next i)) (ks:=(S i).marksK x) (lM hi (I i hi).2) (O.marksLen x) fun q hq=>(W.marks O x q hq).mono (iJ own i);obtain⟨ω',e,D⟩:=LX (L.hand i hi) O hi x v (T.ok c0 c8 (wN hi ht));obtain⟨fp',L'⟩:=L.did hi D;exact⟨ω',fp',e,L',I.updB T.forget (jV W hi (I i hi).2)⟩
theorem Pr (L:HallS B ω g c hs fp S) (I:HInv c own S) (c0:0<c) (c8:c<=8) (ht:tot c own<63) (hi:i<c) (x:Str):∃ ω' fp' own',fO [.obj (hs i),.str x] ω=xa (.ok ((S i).takeA x),ω')/\HallS B ω' g c hs fp' (mR S i ((S i).take i x))/\HInv c own' (mR S i ((S i).take i x))/\tot c own'<=tot c own+1:=by
 have W:=(I i hi).1;have O:=W.ok c0 c8 (by omega);have P:=W.bump hi (I i hi).2;have T:=P.takeOut0 (mk:=fH i ((S i).next i)) (ks:=(S i).marksK x) (lM hi (I i hi).2) (O.marksLen x) fun q hq=>(W.marks O x q hq).mono (iJ own i);obtain⟨ω',e,D⟩:=Pq (L.hand i hi) O hi x (T.ok c0 c8 (wN hi ht));obtain⟨fp',L'⟩:=L.did hi D
 by_cases hm:(S i).marksK x=[]
 ·refine⟨ω',fp',own,e,L',?_,by omega⟩
  have:(S i).take i x=S i:=by unfold Hd.take;rw[if_pos hm]
  rw[this];exact I.upd W (I i hi).2
 ·refine⟨ω',fp',cQ own i,e,L',?_,by rw[jM,if_pos hi];omega⟩
  have:(S i).take i x=((S i).bump i).takeOut (fH i ((S i).next i)) ((S i).marksK x):=by unfold Hd.take;rw[if_neg hm]
  rw[this];exact I.updB T.forget (jV W hi (I i hi).2)
theorem BL (h:ρ[2]?=xa (xa (.str y))):bX (o2 (jT 8) (zV 2) (zS y)) ρ ω=xa (.ok true,ω):=bU (dY (aB h) aR (by
 show pu ((eqD 8 (.str y) (.str y)).map D.bl) ω=_;rw[iE,decide_eq_true rfl];rfl))
theorem kG (h:ρ[2]?=xa (xa (.str x))) (hne:x≠y):bX (o2 (jT 8) (zV 2) (zS y)) ρ ω=xa (.ok false,ω):=bU (dY (aB h) aR (by
 show pu ((eqD 8 (.str x) (.str y)).map D.bl) ω=_;rw[iE,decide_eq_false hne];rfl))
theorem skip (e:t ρ ω=xa (.ok false,ω)):aG (dG t F bN) G ρ ω=G ρ ω:=bB (by rw[iT e];rfl)
theorem Dc (e:t ρ ω=xa (.ok true,ω)) (e2:f ρ ω=xa (r,ω')):aG (dG t (aW f) bN) G ρ ω=xa (JK r,ω'):=uL (by rw[jX e];exact iS e2)
variable {fs:List (Str×D)}{r:Rz D}{a b v:Int}{x:Str}
theorem Cf (ho:ω[g]?=xa (.ins 1 fs)) (hf:fs.lookup ("put":Str)=xb) (e:gJ [.obj g,.int a,.str x,.int v] ω=xa (r,ω')):kB [.obj g,(Deed.put a x v).d] ω=xa (r,ω'):=by
 refine dS rfl ?_;unfold tK;rw[aK (d:=.str "put") (aJ (aB (d:=(Deed.put a x v).d) rfl) aR rfl)];exact Dc (BL rfl) (cA (aB (d:=.obj g) rfl) ho hf (aA (aJ (aB (d:=(Deed.put a x v).d) rfl) aR rfl) (aA (aJ (aB (d:=(Deed.put a x v).d) rfl) aR rfl) (aA (aJ (aB (d:=(Deed.put a x v).d) rfl) aR rfl) aD))) e)
theorem qG (ho:ω[g]?=xa (.ins 1 fs)) (hf:fs.lookup ("change":Str)=xb) (e:dX [.obj g,.int a,.str x,.int v] ω=xa (r,ω')):kB [.obj g,(Deed.change a x v).d] ω=xa (r,ω'):=by
 refine dS rfl ?_;unfold tK;rw[aK (d:=.str "change") (aJ (aB (d:=(Deed.change a x v).d) rfl) aR rfl)];rw[skip (kG (x:="change") rfl (by decide))];exact Dc (BL rfl) (cA (aB (d:=.obj g) rfl) ho hf (aA (aJ (aB (d:=(Deed.change a x v).d) rfl) aR rfl) (aA (aJ (aB (d:=(Deed.change a x v).d) rfl) aR rfl) (aA (aJ (aB (d:=(Deed.change a x v).d) rfl) aR rfl) aD))) e)
theorem yP (ho:ω[g]?=xa (.ins 1 fs)) (hf:fs.lookup ("take":Str)=xb) (e:fQ [.obj g,.int a,.str x] ω=xa (r,ω')):kB [.obj g,(Deed.take a x).d] ω=xa (r,ω'):=by
 refine dS rfl ?_;unfold tK;rw[aK (d:=.str "take") (aJ (aB (d:=(Deed.take a x).d) rfl) aR rfl)];rw[skip (kG (x:="take") rfl (by decide)),skip (kG (x:="take") rfl (by decide))];exact Dc (BL rfl) (cA (aB (d:=.obj g) rfl) ho hf (aA (aJ (aB (d:=(Deed.take a x).d) rfl) aR rfl) (aA (aJ (aB (d:=(Deed.take a x).d) rfl) aR rfl) aD)) e)
theorem qE (ho:ω[g]?=xa (.ins 1 fs)) (hf:fs.lookup ("tell":Str)=xb) (e:fP [.obj g,.int a,.int b] ω=xa (r,ω')):kB [.obj g,(Deed.tell a b).d] ω=xa (r,ω'):=by
 refine dS rfl ?_;unfold tK;rw[aK (d:=.str "tell") (aJ (aB (d:=(Deed.tell a b).d) rfl) aR rfl)];rw[skip (kG (x:="tell") rfl (by decide)),skip (kG (x:="tell") rfl (by decide)),skip (kG (x:="tell") rfl (by decide))];exact Dc (BL rfl) (cA (aB (d:=.obj g) rfl) ho hf (aA (aJ (aB (d:=(Deed.tell a b).d) rfl) aR rfl) (aA (aJ (aB (d:=(Deed.tell a b).d) rfl) aR rfl) aD)) e)
theorem qF (ho:ω[g]?=xa (.ins 1 fs)) (hf:fs.lookup ("meet":Str)=xb) (e:fR [.obj g,.int a,.int b] ω=xa (r,ω')):kB [.obj g,(Deed.meet a b).d] ω=xa (r,ω'):=by
 refine dS rfl ?_;unfold tK;rw[aK (d:=.str "meet") (aJ (aB (d:=(Deed.meet a b).d) rfl) aR rfl)];rw[skip (kG (x:="meet") rfl (by decide)),skip (kG (x:="meet") rfl (by decide)),skip (kG (x:="meet") rfl (by decide)),skip (kG (x:="meet") rfl (by decide))];exact iS (cA (aB (d:=.obj g) rfl) ho hf (aA (aJ (aB (d:=(Deed.meet a b).d) rfl) aR rfl) (aA (aJ (aB (d:=(Deed.meet a b).d) rfl) aR rfl) aD)) e)
theorem HallS.handObj (L:HallS B ω g c hs fp S) (hi:i<c):∃ fs,ω[hs i]?=xa (.ins 0 fs)/\fs.lookup ("put":Str)=xb/\fs.lookup ("change":Str)=xb/\fs.lookup ("take":Str)=xb/\fs.lookup ("hear":Str)=xb:=by
 obtain⟨k,t,e,h⟩:=(L.hand i hi).obj;exact⟨_,h,rfl,rfl,rfl,rfl⟩
theorem Lr (L:HallS B ω g c hs fp S) (ef:f ρ ω=xa (.ok (.obj g),ω)) (ea:fa ρ ω=xa (.ok (.int a),ω)) (h:0<=a/\a<c):bL 1 "hand" bQ f (aC fa aO) ρ ω=xa (.ok (.obj (hs a.toNat)),ω):=cA ef L.obj rfl (aA ea aD) (by rw[lP L a,if_pos h])
theorem Lq (L:HallS B ω g c hs fp S) (ef:f ρ ω=xa (.ok (.obj g),ω)) (ea:fa ρ ω=xa (.ok (.int a),ω)) (h:¬(0<=a/\a<c)):bL 1 "hand" bQ f (aC fa aO) ρ ω=xa (.ex 0,ω):=cA ef L.obj rfl (aA ea aD) (by rw[lP L a,if_neg h])
theorem HU (L:HallS B ω g c hs fp S) (h:0<=a/\a<c) (e:eK [.obj (hs a.toNat),.str x,.int v] ω=xa (r,ω')):gJ [.obj g,.int a,.str x,.int v] ω=xa (r,ω'):=by
 obtain⟨fs,ho,h1,_⟩:=L.handObj (i:=a.toNat) (by omega);exact dS rfl (iS (cA (Lr L (aB rfl) (aB rfl) h) ho h1 (aA (aB rfl) (aA (aB rfl) aD)) e))
theorem Fi (L:HallS B ω g c hs fp S) (h:¬(0<=a/\a<c)):gJ [.obj g,.int a,.str x,.int v] ω=xa (.ex 0,ω):=dS (r:=.ex 0) rfl (iS (Aj (Lq (a:=a) L (aB rfl) (aB rfl) h)))
theorem Aq (L:HallS B ω g c hs fp S) (h:0<=a/\a<c) (e:dW [.obj (hs a.toNat),.str x,.int v] ω=xa (r,ω')):dX [.obj g,.int a,.str x,.int v] ω=xa (r,ω'):=by
 obtain⟨fs,ho,_,h1,_⟩:=L.handObj (i:=a.toNat) (by omega);exact dS rfl (iS (cA (Lr L (aB rfl) (aB rfl) h) ho h1 (aA (aB rfl) (aA (aB rfl) aD)) e))
theorem yD (L:HallS B ω g c hs fp S) (h:¬(0<=a/\a<c)):dX [.obj g,.int a,.str x,.int v] ω=xa (.ex 0,ω):=dS (r:=.ex 0) rfl (iS (Aj (Lq (a:=a) L (aB rfl) (aB rfl) h)))
theorem Fh (L:HallS B ω g c hs fp S) (h:0<=a/\a<c) (e:fO [.obj (hs a.toNat),.str x] ω=xa (r,ω')):fQ [.obj g,.int a,.str x] ω=xa (r,ω'):=by
 obtain⟨fs,ho,_,_,h1,_⟩:=L.handObj (i:=a.toNat) (by omega);exact dS rfl (iS (cA (Lr L (aB rfl) (aB rfl) h) ho h1 (aA (aB rfl) aD) e))
theorem Dd (L:HallS B ω g c hs fp S) (h:¬(0<=a/\a<c)):fQ [.obj g,.int a,.str x] ω=xa (.ex 0,ω):=dS (r:=.ex 0) rfl (iS (Aj (Lq (a:=a) L (aB rfl) (aB rfl) h)))
theorem Hf {p:Option (Rz D×Om)} (L:HallS B ω g c hs fp S) (ef:f ρ ω=xa (.ok (.obj g),ω)) (ea:fa ρ ω=xa (.ok (.int a),ω)) (eb:fb ρ ω=xa (.ok (.int b),ω)) (e:bZ [.obj g,.int a,.int b] ω=xa (r,ω)):bL 1 "pair" bZ f (aC fa (aC fb aO)) ρ ω=xa (r,ω):=cA ef L.obj rfl (aA ea (aA eb aD)) e
theorem Jf (L:HallS B ω g c hs fp S) (h:(0<=a/\a<c)/\(0<=b/\b<c)) (hne:a≠b):bZ [.obj g,.int a,.int b] ω=xa (.ok (.tup [.obj (hs a.toNat),.obj (hs b.toNat)]),ω):=by rw[pT L,if_pos h,if_neg hne]
theorem Jh (L:HallS B ω g c hs fp S) (h:(0<=a/\a<c)/\(0<=b/\b<c)) (hne:a=b):bZ [.obj g,.int a,.int b] ω=xa (.ex 1,ω):=by rw[pT L,if_pos h,if_pos hne]
theorem Je (L:HallS B ω g c hs fp S) (h:¬((0<=a/\a<c)/\(0<=b/\b<c))):bZ [.obj g,.int a,.int b] ω=xa (.ex 0,ω):=by rw[pT L,if_neg h]
theorem tG (L:HallS B ω g c hs fp S) (e:bZ [.obj g,.int a,.int b] ω=xa (.ex n,ω)):fP [.obj g,.int a,.int b] ω=xa (.ex n,ω):=by
 refine dS (r:=.ex n) rfl ?_;unfold kS;exact uL (r:=.ex n) (EE (Hf (p:=xb) L (aB rfl) (aB rfl) (aB rfl) e))
theorem tH (L:HallS B ω g c hs fp S) (e:bZ [.obj g,.int a,.int b] ω=xa (.ex n,ω)):fR [.obj g,.int a,.int b] ω=xa (.ex n,ω):=by
 refine dS (r:=.ex n) rfl ?_;unfold kT;exact uL (r:=.ex n) (EE (Hf (p:=xb) L (aB rfl) (aB rfl) (aB rfl) e))
theorem Fg (L:HallS B ω g c hs fp S) (h:(0<=a/\a<c)/\(0<=b/\b<c)) (hne:a≠b) (e:cL [.obj (hs b.toNat),.obj (hs a.toNat)] ω=xa (r,ω')):fP [.obj g,.int a,.int b] ω=xa (r,ω'):=by
 obtain⟨fs,ho,_,_,_,h1⟩:=L.handObj (i:=b.toNat) (by omega);refine dS rfl ?_;unfold kS;rw[aK (Hf (p:=xb) L (aB rfl) (aB rfl) (aB rfl) (Jf L h hne))];exact iS (cA (aJ (aB (d:=.tup [.obj (hs a.toNat),.obj (hs b.toNat)]) rfl) aR rfl) ho h1 (aA (aJ (aB (d:=.tup [.obj (hs a.toNat),.obj (hs b.toNat)]) rfl) aR rfl) aD) e)
theorem Fj (L:HallS B ω g c hs fp S) (I:HInv c own S) (c0:0<c) (c8:c<=8) (ht:tot c own<64) (h:(0<=a/\a<c)/\(0<=b/\b<c)) (hne:a≠b):∃ ω' fp',fR [.obj g,.int a,.int b] ω=xa (.ok (.tup [.int (uI (gO S a.toNat b.toNat) b.toNat a.toNat),.int (uI S a.toNat b.toNat)]),ω')/\HallS B ω' g c hs fp' (HD S a.toNat b.toNat)/\HInv c own (HD S a.toNat b.toNat):=by
 have ha:a.toNat<c:=by omega
 have hb:b.toNat<c:=by omega
 have hn:a.toNat≠b.toNat:=by omega
 obtain⟨ω1,fp1,e1,L1,I1⟩:=HS L I c0 c8 ht hb ha (bz hn);obtain⟨ω2,fp2,e2,L2,I2⟩:=HS L1 I1 c0 c8 ht ha hb hn;obtain⟨ω3,fp3,e3,L3,I3⟩:=HS L2 I2 c0 c8 ht hb ha (bz hn);refine⟨ω3,fp3,?_,L3,I3⟩;obtain⟨fs0,ho0,_,_,_,h0⟩:=L.handObj hb;obtain⟨fs1,ho1,_,_,_,h1⟩:=L1.handObj ha;obtain⟨fs2,ho2,_,_,_,h2⟩:=L2.handObj hb;refine aT rfl ?_;unfold kT;rw[aK (Hf (p:=xb) L (aB rfl) (aB rfl) (aB rfl) (Jf L h hne))];rw[aK (cA (aJ (aB (d:=.tup [.obj (hs a.toNat),.obj (hs b.toNat)]) rfl) aR rfl) ho0 h0 (aA (aJ (aB (d:=.tup [.obj (hs a.toNat),.obj (hs b.toNat)]) rfl) aR rfl) aD) e1)];rw[aK (d:=.tup [.int (uI (gO S a.toNat b.toNat) b.toNat a.toNat),.int (uI S a.toNat b.toNat)]) (ω1:=ω2) (cP (aA (cA (aJ (aB (d:=.tup [.obj (hs a.toNat),.obj (hs b.toNat)]) rfl) aR rfl) ho1 h1 (aA (aJ (aB (d:=.tup [.obj (hs a.toNat),.obj (hs b.toNat)]) rfl) aR rfl) aD) e2) (aA (aB (d:=.int (uI S a.toNat b.toNat)) rfl) aD)) (by
  show pu (rP _) ω2=_;unfold rP;rw[if_pos (by rw[bv];simp)];rfl))]
 rw[bB (ω1:=ω3) (by
  unfold bT;rw[bS (cA (aJ (aB (d:=.tup [.obj (hs a.toNat),.obj (hs b.toNat)]) rfl) aR rfl) ho2 h2 (aA (aJ (aB (d:=.tup [.obj (hs a.toNat),.obj (hs b.toNat)]) rfl) aR rfl) aD) e3)])]
 exact bI (aB rfl)
theorem wK (e:kB [.obj g,d] ω=xa (.ok y,ω')):eJ [.obj g,d] ω=xa (.ok y,ω'):=aT rfl (by
 unfold iB wY;rw[bI (aV (aA (aB rfl) (aA (aB rfl) aD)) e)])
theorem DN (e:kB [.obj g,d] ω=xa (.ex 0,ω')):eJ [.obj g,d] ω=xa (.ok (.str "no hand"),ω'):=aT rfl (by
 unfold iB wY;rw[iS (r:=.ex 0) (aV (aA (aB rfl) (aA (aB rfl) aD)) e)];rfl)
theorem Mt (e:kB [.obj g,d] ω=xa (.ex 1,ω')):eJ [.obj g,d] ω=xa (.ok (.str "same hand"),ω'):=aT rfl (by
 unfold iB wY;rw[iS (r:=.ex 1) (aV (aA (aB rfl) (aA (aB rfl) aD)) e)];rfl)
theorem Gj (L:HallS B ω g c hs fp S) (I:HInv c own S) (c0:0<c) (c8:c<=8) (ht:tot c own<63) (d:Deed):∃ ω' fp' own',eJ [.obj g,d.d] ω=xa (.ok (step c S d).1,ω')/\HallS B ω' g c hs fp' (step c S d).2/\HInv c own' (step c S d).2/\tot c own'<=tot c own+1:=by
 cases d with
 |put a x v=>
  show ∃ ω' fp' own',_=xa (Rz.ok (if 0<=a/\a<(c:Int) then(_,_) else(_,_):D×(Nat->Hd)).1,ω')/\HallS B ω' g c hs fp' (if 0<=a/\a<(c:Int) then(_,_) else(_,_):D×(Nat->Hd)).2/\HInv c own' (if 0<=a/\a<(c:Int) then(_,_) else(_,_):D×(Nat->Hd)).2/\_
  by_cases h:0<=a/\a<c
  ·rw[if_pos h];obtain⟨ω',fp',e,L',I'⟩:=Rx L I c0 c8 ht (i:=a.toNat) (by omega) x v;exact⟨ω',fp',_,wK (Cf L.obj rfl (HU L h e)),L',I',by rw[jM,if_pos (by omega)];omega⟩
  ·rw[if_neg h];exact⟨ω,fp,own,DN (Cf L.obj rfl (Fi L h)),L,I,by omega⟩
 |change a x v=>
  show ∃ ω' fp' own',_=xa (Rz.ok (if 0<=a/\a<(c:Int) then(_,_) else(_,_):D×(Nat->Hd)).1,ω')/\HallS B ω' g c hs fp' (if 0<=a/\a<(c:Int) then(_,_) else(_,_):D×(Nat->Hd)).2/\HInv c own' (if 0<=a/\a<(c:Int) then(_,_) else(_,_):D×(Nat->Hd)).2/\_
  by_cases h:0<=a/\a<c
  ·rw[if_pos h];obtain⟨ω',fp',e,L',I'⟩:=LY L I c0 c8 ht (i:=a.toNat) (by omega) x v;exact⟨ω',fp',_,wK (qG L.obj rfl (Aq L h e)),L',I',by rw[jM,if_pos (by omega)];omega⟩
  ·rw[if_neg h];exact⟨ω,fp,own,DN (qG L.obj rfl (yD L h)),L,I,by omega⟩
 |take a x=>
  show ∃ ω' fp' own',_=xa (Rz.ok (if 0<=a/\a<(c:Int) then(_,_) else(_,_):D×(Nat->Hd)).1,ω')/\HallS B ω' g c hs fp' (if 0<=a/\a<(c:Int) then(_,_) else(_,_):D×(Nat->Hd)).2/\HInv c own' (if 0<=a/\a<(c:Int) then(_,_) else(_,_):D×(Nat->Hd)).2/\_
  by_cases h:0<=a/\a<c
  ·rw[if_pos h];obtain⟨ω',fp',own',e,L',I',t'⟩:=Pr L I c0 c8 ht (i:=a.toNat) (by omega) x;exact⟨ω',fp',own',wK (yP L.obj rfl (Fh L h e)),L',I',t'⟩
  ·rw[if_neg h];exact⟨ω,fp,own,DN (yP L.obj rfl (Dd L h)),L,I,by omega⟩
 |tell a b=>
  show ∃ ω' fp' own',_=xa (Rz.ok (if(0<=a/\a<(c:Int))/\(0<=b/\b<(c:Int)) then(if a=b then(_,_) else(_,_)) else(_,_):D×(Nat->Hd)).1,ω')/\HallS B ω' g c hs fp' (if(0<=a/\a<(c:Int))/\(0<=b/\b<(c:Int)) then(if a=b then(_,_) else(_,_)) else(_,_):D×(Nat->Hd)).2/\HInv c own' (if(0<=a/\a<(c:Int))/\(0<=b/\b<(c:Int)) then(if a=b then(_,_) else(_,_)) else(_,_):D×(Nat->Hd)).2/\_
  by_cases h:(0<=a/\a<(c:Int))/\(0<=b/\b<(c:Int))
  ·rw[if_pos h]
   by_cases hab:a=b
   ·rw[if_pos hab];exact⟨ω,fp,own,Mt (qE L.obj rfl (tG L (Jh L h hab))),L,I,by omega⟩
   ·rw[if_neg hab];obtain⟨ω',fp',e,L',I'⟩:=HS L I c0 c8 (by omega) (i:=b.toNat) (j:=a.toNat) (by omega) (by omega) (by omega);exact⟨ω',fp',own,wK (qE L.obj rfl (Fg L h hab e)),L',I',by omega⟩
  ·rw[if_neg h];exact⟨ω,fp,own,DN (qE L.obj rfl (tG L (Je L h))),L,I,by omega⟩
 |meet a b=>
  show ∃ ω' fp' own',_=xa (Rz.ok (if(0<=a/\a<(c:Int))/\(0<=b/\b<(c:Int)) then(if a=b then(_,_) else(_,_)) else(_,_):D×(Nat->Hd)).1,ω')/\HallS B ω' g c hs fp' (if(0<=a/\a<(c:Int))/\(0<=b/\b<(c:Int)) then(if a=b then(_,_) else(_,_)) else(_,_):D×(Nat->Hd)).2/\HInv c own' (if(0<=a/\a<(c:Int))/\(0<=b/\b<(c:Int)) then(if a=b then(_,_) else(_,_)) else(_,_):D×(Nat->Hd)).2/\_
  by_cases h:(0<=a/\a<(c:Int))/\(0<=b/\b<(c:Int))
  ·rw[if_pos h]
   by_cases hab:a=b
   ·rw[if_pos hab];exact⟨ω,fp,own,Mt (qF L.obj rfl (tH L (Jh L h hab))),L,I,by omega⟩
   ·rw[if_neg hab];obtain⟨ω',fp',e,L',I'⟩:=Fj L I c0 c8 (by omega) h hab;exact⟨ω',fp',own,wK (qF L.obj rfl e),L',I',by omega⟩
  ·rw[if_neg h];exact⟨ω,fp,own,DN (qF L.obj rfl (tH L (Je L h))),L,I,by omega⟩
end
def Pl:Nat->D->Prop
 |_,.non=>True
 |_,.bl _=>True
 |_,.int _=>True
 |_,.str _=>True
 |n+1,.lst ds=>ds.length<=1000/\∀ d∈ds,Pl n d
 |n+1,.tup ds=>ds.length<=1000/\∀ d∈ds,Pl n d
 |_,_=>False
theorem Pl.str (n:Nat) (x:Str):Pl n (.str x):=by cases n <;> trivial
noncomputable def JJ (c:Nat):List Deed->(Nat->Hd)->List D×(Nat->Hd)
 |[],S=>([],S)
 |d::r,S=>((step c S d).1::(JJ c r (step c S d).2).1,(JJ c r (step c S d).2).2)
noncomputable def kY (c:Nat) (ds:List Deed):Nat->Hd:=(JJ c ds fun _=>Hd0 c).2
section
variable {B:Om}{c g i j:Nat}{own:Nat->Nat}{S:Nat->Hd}{ω ω':Om}{hs:Nat->Nat}{fp:Nat->List Nat}
theorem OZ (c:Nat):HInv c (fun _=>0) (fun _=>Hd0 c):=fun a ha=>by
 have hz:∀ n m:Nat,(aw n (0:Int)).getD m 0=0:=fun n m=>by
  rw[av,fz];split <;> rfl
 refine⟨⟨by simp[Hd0],fun xs hx=> ?_,fun xs hx b hb=> ?_,fun kv h=>by simp[Hd0] at h,by simp[Hd0],fun kv h=>by simp[Hd0] at h,fun kv h=>by simp[Hd0] at h,by simp[Hd0]⟩,?_⟩
 ·rw[(vg.mp hx).2,jn]
 ·rw[(vg.mp hx).2,hz];exact⟨jy _,jy _⟩
 ·show((aw c (aw c (0:Int))).getD a []).getD a 0=0
  have e1:(aw c (aw c (0:Int))).getD a []=aw c 0:=by
   rw[av,fz,if_pos ha];rfl
  rw[e1];exact hz c a
theorem Pp:∀ c,tot c (fun _=>0)=0
 |0=>rfl
 |c+1=>by
  have ih:=Pp c;unfold tot at ih ⊢;rw[pd,c7,pe,ih];rfl
theorem uC (c0:0<c) (c8:c<=8):∀(ds:List Deed) {u:Option D}{S:Nat->Hd}{ω:Om}{fp:Nat->List Nat}{own:Nat->Nat},HallS B ω g c hs fp S->HInv c own S->tot c own+ds.length<64->∃ v ω' fp' own',bO (aS 3) bM eL (ds.map Deed.d) [xa n,xa l,xa (.obj g),u] ω=xa (.nx [xa n,xa l,xa (.obj g),v],ω')/\HallS B ω' g c hs fp' (JJ c ds S).2/\HInv c own' (JJ c ds S).2/\tot c own'<64
 |[],u,S,ω,fp,own,L,I,ht=>⟨u,ω,fp,own,rfl,L,I,by simpa using ht⟩
 |d::ds,u,S,ω,fp,own,L,I,ht=>by
  rw[b7] at ht;obtain⟨ω1,fp1,own1,e1,L1,I1,t1⟩:=Gj L I c0 c8 (by omega) d;obtain⟨v,ω2,fp2,own2,e2,L2,I2,t2⟩:=uC c0 c8 ds (u:=xa d.d) L1 I1 (by omega);refine⟨v,ω2,fp2,own2,?_,L2,I2,t2⟩;have b1:eL [xa n,xa l,xa (.obj g),xa d.d] ω=xa (.nx [xa n,xa l,xa (.obj g),xa d.d],ω1):=by
   unfold eL bT;rw[bS (aV (aA (aB (d:=.obj g) rfl) (aA (aB (d:=d.d) rfl) aD)) e1)]
  show(match eL [xa n,xa l,xa (.obj g),xa d.d] ω with
   |none=>xb
   |some (.nx ρ2,ω2)=>bO (aS 3) bM eL (ds.map Deed.d) ρ2 ω2
   |some (.ct ρ2,ω2)=>bO (aS 3) bM eL (ds.map Deed.d) ρ2 ω2
   |some (.bk ρ2,ω2)=>xa (.nx ρ2,ω2)
   |some (.rt d,ω2)=>xa (.rt d,ω2)
   |some (.ex _,_)=>xb)=_
  rw[b1];exact e2
theorem tV:∀ {l:List Nat}{u:Option D},(∀ i∈l,F [xa (.obj (hs i))] ω=xa (.ok (R i),ω))->compLO (aS 0) bM (oPT kZ) F (l.map fun i=>.obj (hs i)) [u] ω=xa (l.map R,ω)
 |[],u,_=>rfl
 |i::l,u,h=>by
  have ih:=tV (F:=F) (R:=R) (l:=l) (u:=xa (.obj (hs i))) fun j hj=>h j (ai _ hj)
  show(match F [xa (.obj (hs i))] ω with
   |some (.ok y,ω2)=>(compLO (aS 0) bM (oPT kZ) F (l.map fun i=>.obj (hs i)) [xa (.obj (hs i))] ω2).map fun r:List D×Om=>(y::r.1,r.2)
   |_=>xb)=_
  rw[h i aq]
  show(compLO _ _ _ _ _ _ _).map _=_
  rw[ih];rfl
theorem lZ (L:HallS B ω g c hs fp S) (c8:c<=8) (ef:f ρ ω=xa (.ok (.obj g),ω)) (h:∀ i,i<c->F [xa (.obj (hs i))] ω=xa (.ok (R i),ω)):dI yK (oIL (fX 1 "hands" f)) [xb] (aS 0) (oPT kZ) F ρ ω=xa (.ok (.lst ((bj c).map R)),ω):=by
 refine gE (ds:=(bj c).map fun i=>.obj (hs i)) (chk:=bM) (ω1:=ω) ?_ (by rw[am,fy,bv];omega) (tV fun i hi=>h i (df.mp hi));unfold oIL;rw[bJ (pS L ef)];rfl
noncomputable def Pa (c:Nat) (S:Nat->Hd):D:=.lst ((bj c).map fun i=>.lst (S i).ents)
noncomputable def Ed (c:Nat) (S:Nat->Hd):D:=.lst ((bj c).map fun i=>.lst (iv ((S i).seen i)))
noncomputable def Ee (c:Nat) (S:Nat->Hd):D:=.lst ((bj c).map fun i=>.lst ((S i).knows.map fun xs=>.lst (iv xs)))
noncomputable def GM (c:Nat) (S:Nat->Hd):D:=.lst ((bj c).map fun i=>.lst (S i).mind)
theorem IT (c0:0<c) (c8:c<=8) (hl:ds.length<64) (ω:Om):∃ ω',Ad [.int c,.lst (ds.map Deed.d)] ω=xa (.ok (.tup [Pa c (kY c ds),Ed c (kY c ds),Ee c (kY c ds),GM c (kY c ds)]),ω')/\Keep [] ω ω'/\∃ own,HInv c own (kY c ds)/\tot c own<64:=by
 obtain⟨ω1,hs,fp,e1,L1⟩:=Fk (ω:=ω) c8 (fl:=aC (zV 0) aO) (ρ:=cF Gu [.int c,.lst (ds.map Deed.d)]) (aA (aB rfl) aD);obtain⟨v,ω2,fp2,own2,e2,L2,I2,t2⟩:=uC c0 c8 (n:=.int c) (l:=.lst (ds.map Deed.d)) ds (u:=xb) L1 (OZ c) (by rw[Pp];omega);refine⟨ω2,?_,⟨L2.bas.1,fun n hn _=>L2.bas.2 n hn⟩,own2,I2,t2⟩;refine aT rfl ?_;unfold Fo;rw[aK e1];rw[bB (dP (by
  unfold bD oIL;rw[bS (x:=(ds.map Deed.d,bM)) (ω1:=ω1) (by rw[bJ (aB (d:=.lst (ds.map Deed.d)) rfl)];rfl)];exact e2))]
 have K:∀ i,i<c->(kY c ds i).Ok c:=fun i hi=>(I2 i hi).1.ok c0 c8 t2;have a1:=lZ (ρ:=[xa (.int c),xa (.lst (ds.map Deed.d)),xa (.obj ω.length),v]) (F:=bL 0 "entries" bW (zV 0) aO) (R:=fun i=>.lst (kY c ds i).ents) (f:=zV 2) L2 c8 (aB rfl) fun i hi=>by
  obtain⟨k,t,e,rs,H,_⟩:=L2.hand i hi;exact cH (aB rfl) H.obj rfl (jU H (K i hi).ents.1)
 have a2:=lZ (ρ:=[xa (.int c),xa (.lst (ds.map Deed.d)),xa (.obj ω.length),v]) (F:=oL iL (aC (bL 0 "seen" bY (zV 0) aO) aO)) (R:=fun i=>.lst (iv ((kY c ds i).seen i))) (f:=zV 2) L2 c8 (aB rfl) fun i hi=>by
  obtain⟨k,t,e,rs,H,_⟩:=L2.hand i hi;exact GF H (Nat.lt_of_lt_of_eq hi (K i hi).len.symm) (aB rfl)
 have a3:=lZ (ρ:=[xa (.int c),xa (.lst (ds.map Deed.d)),xa (.obj ω.length),v]) (F:=bL 0 "known" fZ (zV 0) aO) (R:=fun i=>.lst ((kY c ds i).knows.map fun xs=>.lst (iv xs))) (f:=zV 2) L2 c8 (aB rfl) fun i hi=>by
  obtain⟨k,t,e,rs,H,_⟩:=L2.hand i hi;exact cH (aB rfl) H.obj rfl (HK H (by rw[H.rows.length];have:=(K i hi).len;unfold kY at this;rw[this,bv];omega))
 have a4:=lZ (ρ:=[xa (.int c),xa (.lst (ds.map Deed.d)),xa (.obj ω.length),v]) (F:=bL 0 "in_mind" eP (zV 0) aO) (R:=fun i=>.lst (kY c ds i).mind) (f:=zV 2) L2 c8 (aB rfl) fun i hi=>by
  obtain⟨k,t,e,rs,H,_⟩:=L2.hand i hi;exact cH (aB rfl) H.obj rfl (Db H (K i hi) (I2 i hi).1)
 refine bI (cP (aA a1 (aA a2 (aA a3 (aA a4 aD)))) ?_);show pu (rP _) ω2=_;unfold rP;rw[if_pos (by rw[bv];simp)];rfl
end
section
variable {c:Nat}{S S':Nat->Hd}{d x y:Deed}{a b n:Nat}
end
theorem qU:∀ {ds:List D},(∀ d∈ds,f d d=xa true)->mD f ds ds=xa true
 |[],_=>rfl
 |d::ds,h=>by
  show(f d d).bind _=_
  rw[h d aq]
  show(mD f ds ds).map _=_
  rw[qU fun d' hd=>h d' (ai _ hd)];rfl
theorem lV:∀ {n:Nat}{d:D},Pl n d->eqD n d d=xa true
 |n,.non,_=>by cases n <;> rfl
 |n,.bl b,_=>by cases n <;> cases b <;> rfl
 |n,.int i,_=>by
  have:eqD n (.int i) (.int i)=xa (i==i):=by cases n <;> rfl
  rw[this];simp
 |n,.str x,_=>by
  rw[iE];simp
 |n+1,.lst ds,h=>by
  show(if ds.length=ds.length then mD (eqD n) ds ds else xa false)=_
  rw[if_pos rfl];exact qU fun d hd=>lV (h.2 d hd)
 |n+1,.tup ds,h=>by
  show(mD (eqD n) ds ds).map (fun k=>k&&ds.length==ds.length)=_
  rw[qU fun d hd=>lV (h.2 d hd)];simp
 |0,.lst _,h=>h.elim
 |0,.tup _,h=>h.elim
 |0,.obj _,h=>h.elim
 |n+1,.obj _,h=>h.elim
 |0,.scr _,h=>h.elim
 |n+1,.scr _,h=>h.elim
theorem Pl.mono:∀ {n m:Nat}{d:D},Pl n d->n<=m->Pl m d
 |_,m,.non,_,_=>by cases m <;> trivial
 |_,m,.bl _,_,_=>by cases m <;> trivial
 |_,m,.int _,_,_=>by cases m <;> trivial
 |_,m,.str _,_,_=>by cases m <;> trivial
 |n+1,m+1,.lst ds,h,hm=>⟨h.1,fun d hd=>Pl.mono (h.2 d hd) (by omega)⟩
 |n+1,m+1,.tup ds,h,hm=>⟨h.1,fun d hd=>Pl.mono (h.2 d hd) (by omega)⟩
 |n+1,0,.lst ds,h,hm=>by omega
 |n+1,0,.tup ds,h,hm=>by omega
 |0,_,.lst _,h,_=>h.elim
 |0,_,.tup _,h,_=>h.elim
 |0,_,.obj _,h,_=>h.elim
 |n+1,_,.obj _,h,_=>h.elim
 |0,_,.scr _,h,_=>h.elim
 |n+1,_,.scr _,h,_=>h.elim
section
variable {ω:Om}{ρ:Rho}{f h:OG D}{d:D}
theorem mV (e:f ρ ω=xa (.ok d,ω)) (h:On T ω d=xa k):nU T f ρ ω=xa (.ok (.bl k),ω):=by
 unfold nU;rw[bJ e];show oR (pu ((On T ω d).map D.bl) ω)=_;rw[h];rfl
theorem tru_ok (e:f ρ ω=xa (.ok (.bl k),ω)):iP f ρ ω=xa (.ok k,ω):=by
 unfold iP;rw[bJ e];rfl
theorem gA (e:t ρ ω=xa (.ok k,ω)):iV t ρ ω=xa (.ok (!k),ω):=by
 unfold iV;rw[bJ e]
theorem xI (e1:t ρ ω=xa (.ok false,ω)) (e2:u ρ ω=xa (.ok false,ω)):oOr t u ρ ω=xa (.ok false,ω):=by
 unfold oOr;rw[bJ e1];exact e2
theorem xN (e1:f ρ ω=xa (.ok (.int a),ω)) (e2:h ρ ω=xa (.ok (.int b),ω)) (hab:a=b):bX (o2 (Aw 8) f h) ρ ω=xa (.ok false,ω):=bU (dY e1 e2 (by
 subst hab;show xa (D.bl (!(a==a)),ω)=_;simp))
theorem Mb {ds:List D} (hk:k<ds.length):atI ds (k:Int)=xa ds[k]:=by
 unfold atI ixN;rw[if_pos (jm k),if_pos (by omega)];show ds[(k:Int).toNat]?=_;rw[cw,bh hk]
theorem qS {k:Nat} (h:ds[k]?=xa d):atI ds (k:Int)=xa d:=by
 obtain⟨hk,e⟩:=bt.mp h;rw[Mb hk,e]
theorem pL (e:f ρ ω=xa (.ok d,ω)) (hd:d=.lst ds∨d=.tup ds):oL iN (aC f aO) ρ ω=xa (.ok (.int ds.length),ω):=by
 refine cP (aA e aD) ?_;rcases hd with rfl|rfl <;> rfl
end
section
variable {ω:Om}{ρ:Rho}{f h:OG D}{a b:Int}
theorem tP (e1:f ρ ω=xa (.ok (.int a),ω)) (e2:h ρ ω=xa (.ok (.int b),ω)):o2 (lf yH) f h ρ ω=xa (.ok (.int (a+b)),ω):=fE e1 e2 rfl
theorem Cc (e1:f ρ ω=xa (.ok (.int a),ω)) (e2:h ρ ω=xa (.ok (.int b),ω)):o2 (lf gSub) f h ρ ω=xa (.ok (.int (a-b)),ω):=fE e1 e2 rfl
theorem FG (e1:f ρ ω=xa (.ok (.int a),ω)) (e2:h ρ ω=xa (.ok (.int b),ω)) (hb: -1000000000000000000<b/\b<1000000000000000000):o2 (lf iQ) f h ρ ω=xa (.ok (.int (a*b)),ω):=fE e1 e2 (Ou hb)
theorem yL (e1:f ρ ω=xa (.ok (.int a),ω)) (e2:h ρ ω=xa (.ok (.int b),ω)) (hb:0<b):o2 (lf cV) f h ρ ω=xa (.ok (.int (a % b)),ω):=fE e1 e2 (Ov hb)
theorem qA {p q:Int} (e1:f ρ ω=xa (.ok (.int a),ω)) (e2:h ρ ω=xa (.ok (.int q),ω)) (hp:0<p) (hq:0<q):o2 (lf cV) (o2 (lf cV) (o2 (lf iQ) f (zI 48271)) (zI p)) h ρ ω=xa (.ok (.int (a*48271 % p % q)),ω):=yL (yL (FG e1 aR (by decide)) aR hp) e2 hq
theorem EN {x q:Int} (hq:0<q):0<=x % q/\x % q<q:=⟨Int.emod_nonneg x (by omega),Int.emod_lt_of_pos x hq⟩
theorem OC {z:Int} (e1:f ρ ω=xa (.ok (.int a),ω)):bX (o2 (jT 8) f (zI z)) ρ ω=xa (.ok (a==z),ω):=bU (dY e1 aR rfl)
theorem mQ {z:Int} (e1:f ρ ω=xa (.ok (.int a),ω)):bX (o2 (lf gLt) f (zI z)) ρ ω=xa (.ok (decide (a<z)),ω):=bU (fE e1 aR rfl)
theorem LL {z:Int} (e1:f ρ ω=xa (.ok (.int a),ω)):bX (o2 (lf gGt) f (zI z)) ρ ω=xa (.ok (decide (z<a)),ω):=bU (fE e1 aR rfl)
theorem uZ {xs:List Int} (e1:f ρ ω=xa (.ok (.lst (iv xs)),ω)) (e2:h ρ ω=xa (.ok (.int a),ω)) (h0:0<=a) (h1:a<xs.length):zX f h ρ ω=xa (.ok (.int (xs.getD a.toNat 0)),ω):=aJ e1 e2 (RowV.ix (ω:=ω) (d:=.lst (iv xs)) rfl h0 h1)
theorem Co {i:Nat}{d:D}{ω1:Om} (e:f ρ ω=xa (.ok d,ω1)):aY i f ρ ω=xa (.nx (ρ.set i (xa d)),ω1):=by
 unfold aY;rw[bS e]
theorem ifI {t:OG Bool}{F:OS}{i:Nat}{a0 a1:Int}{k:Bool} (ht:t ρ ω=xa (.ok k,ω)) (hF:F ρ ω=xa (.nx (ρ.set i (xa (.int a1))),ω)) (h0:ρ.set i (xa (.int a0))=ρ):∃ a:Int,dG t F bN ρ ω=xa (.nx (ρ.set i (xa (.int a))),ω):=by
 cases k with
 |true=>exact⟨a1,by rw[jX ht];exact hF⟩
 |false=>exact⟨a0,by rw[iT ht,h0];rfl⟩
theorem Gk {t u:OG Bool}{k l:Bool} (e1:t ρ ω=xa (.ok k,ω)) (e2:u ρ ω=xa (.ok l,ω)):BD t u ρ ω=xa (.ok (k&&l),ω):=by
 unfold BD;rw[bJ e1];cases k with
 |true=>exact e2
 |false=>rfl
end
theorem JB {j:Int}{c:Nat} (h0:0<=j) (h4:j<4) (c1:1<=c) (c8:c<=8) (ω:Om):∃ x,jP [.int j,.int c] ω=xa (.ok (.str x),ω):=by
 have hj:j=0∨j=1∨j=2∨j=3:=by omega
 have hc:c=1∨c=2∨c=3∨c=4∨c=5∨c=6∨c=7∨c=8:=by omega
 rcases hj with rfl|rfl|rfl|rfl <;> rcases hc with rfl|rfl|rfl|rfl|rfl|rfl|rfl|rfl <;> exact⟨_,rfl⟩
theorem Jm (c:Nat) (ω:Om):eX [.int c] ω=xa (.ok (.lst (iv [-1,c,-2,0-c,100000000000000000000,0-100000000000000000000])),ω):=rfl
theorem Dl (cell:Int) (k c:Nat) (c2:1<=c) (c8:c<=8) (ω:Om):∃ d:Deed,gT [.int cell,.int k,.int c] ω=xa (.ok d.d,ω):=by
 have cpos:(0:Int)<c:=by omega
 obtain⟨way,hway⟩:∃ w,w=cell*48271 % 1009 % 16:=⟨_,rfl⟩;obtain⟨one,hone⟩:∃ w,w=(cell+k)*48271 % 1013 % c:=⟨_,rfl⟩;have q1:∃ a:Int,dG (BD (bX (o2 (lf gGt) (zV 2) (zI 1))) (bX (o2 (lf gGt) (o2 (lf cV) (o2 (lf cV) (o2 (lf iQ) (zV 0) (zI 48271)) (zI 1019)) (zI 19)) (zI 0)))) (aY 5 (o2 (lf cV) (o2 (lf yH) (o2 (lf yH) (zV 4) (zI 1)) (o2 (lf cV) (o2 (lf cV) (o2 (lf iQ) (zV 0) (zI 48271)) (zI 1021)) (o2 (lf gSub) (zV 2) (zI 1)))) (zV 2))) bN [xa (.int cell),xa (.int k),xa (.int c),xa (.int way),xa (.int one),xa (.int one),xb,xb,xb] ω=xa (.nx [xa (.int cell),xa (.int k),xa (.int c),xa (.int way),xa (.int one),xa (.int a),xb,xb,xb],ω):=by
  by_cases c1:c=1
  ·refine⟨one,?_⟩;rw[iT (ω1:=ω) (by
    unfold BD;rw[bJ (LL (a:=c) (aB rfl)),decide_eq_false (by omega)];rfl)]
   rfl
  ·have cpos1:(0:Int)<c-1:=by omega
   exact ifI (ω:=ω) (i:=5) (ρ:=[xa (.int cell),xa (.int k),xa (.int c),xa (.int way),xa (.int one),xa (.int one),xb,xb,xb]) (a0:=one)
    (t:=BD (bX (o2 (lf gGt) (zV 2) (zI 1))) (bX (o2 (lf gGt) (o2 (lf cV) (o2 (lf cV) (o2 (lf iQ) (zV 0) (zI 48271)) (zI 1019)) (zI 19)) (zI 0))))
    (F:=aY 5 (o2 (lf cV) (o2 (lf yH) (o2 (lf yH) (zV 4) (zI 1)) (o2 (lf cV) (o2 (lf cV) (o2 (lf iQ) (zV 0) (zI 48271)) (zI 1021)) (o2 (lf gSub) (zV 2) (zI 1)))) (zV 2)))
    (Gk (LL (a:=c) (aB rfl)) (LL (qA (a:=cell) (aB rfl) aR (by decide) (by decide))))
    (Co (yL (b:=c) (tP (tP (a:=one) (aB rfl) aR) (qA (a:=cell) (aB rfl) (Cc (a:=c) (aB rfl) aR) (by decide) cpos1)) (aB rfl) cpos)) rfl
 obtain⟨other,e1⟩:=q1;have r4:=EN (x:=cell*48271 % 1031) (q:=4) (by decide);obtain⟨x,ex⟩:=JB r4.1 r4.2 (by omega:1<=c) c8 ω;obtain⟨vs,hvs⟩:∃ vs:List Int,vs=[cell*48271 % 1033 % 9-4,0-k,100000000000000000000+k]:=⟨_,rfl⟩;have r3:=EN (x:=cell*48271 % 1039) (q:=3) (by decide);obtain⟨v,hv⟩:∃ v,v=vs.getD (cell*48271 % 1039 % 3).toNat 0:=⟨_,rfl⟩;have r6:=EN (x:=cell*48271 % 1051) (q:=6) (by decide);have r6':=EN (x:=cell*48271 % 1063) (q:=6) (by decide);have q2:=ifI (ω:=ω) (i:=4) (ρ:=[xa (.int cell),xa (.int k),xa (.int c),xa (.int way),xa (.int one),xa (.int other),xa (.str x),xa (.lst (iv vs)),xa (.int v)]) (a0:=one)
  (t:=bX (o2 (jT 8) (o2 (lf cV) (o2 (lf cV) (o2 (lf iQ) (zV 0) (zI 48271)) (zI 1049)) (zI 31)) (zI 30)))
  (F:=aY 4 (zX (bR eX (aC (zV 2) aO)) (o2 (lf cV) (o2 (lf cV) (o2 (lf iQ) (zV 0) (zI 48271)) (zI 1051)) (zI 6))))
  (OC (qA (a:=cell) (aB rfl) aR (by decide) (by decide)))
  (Co (uZ (aV (aA (aB rfl) aD) (Jm c ω)) (qA (a:=cell) (aB rfl) aR (by decide) (by decide)) r6.1 r6.2)) rfl
 obtain⟨one',e2⟩:=q2;have q3:=ifI (ω:=ω) (i:=5) (ρ:=[xa (.int cell),xa (.int k),xa (.int c),xa (.int way),xa (.int one'),xa (.int other),xa (.str x),xa (.lst (iv vs)),xa (.int v)]) (a0:=other)
  (t:=bX (o2 (jT 8) (o2 (lf cV) (o2 (lf cV) (o2 (lf iQ) (zV 0) (zI 48271)) (zI 1061)) (zI 31)) (zI 30)))
  (F:=aY 5 (zX (bR eX (aC (zV 2) aO)) (o2 (lf cV) (o2 (lf cV) (o2 (lf iQ) (zV 0) (zI 48271)) (zI 1063)) (zI 6))))
  (OC (qA (a:=cell) (aB rfl) aR (by decide) (by decide)))
  (Co (uZ (aV (aA (aB rfl) aD) (Jm c ω)) (qA (a:=cell) (aB rfl) aR (by decide) (by decide)) r6'.1 r6'.2)) rfl
 obtain⟨other',e3⟩:=q3;have main:∀ d:Deed,∀ G:OS,G [xa (.int cell),xa (.int k),xa (.int c),xa (.int way),xa (.int one'),xa (.int other'),xa (.str x),xa (.lst (iv vs)),xa (.int v)] ω=xa (.rt d.d,ω)->
   aG (aY 3 (o2 (lf cV) (o2 (lf cV) (o2 (lf iQ) (zV 0) (zI 48271)) (zI 1009)) (zI 16))) (aG (aY 4 (o2 (lf cV) (o2 (lf cV) (o2 (lf iQ) (o2 (lf yH) (zV 0) (zV 1)) (zI 48271)) (zI 1013)) (zV 2))) (aG (aY 5 (zV 4)) (aG (dG (BD (bX (o2 (lf gGt) (zV 2) (zI 1))) (bX (o2 (lf gGt) (o2 (lf cV) (o2 (lf cV) (o2 (lf iQ) (zV 0) (zI 48271)) (zI 1019)) (zI 19)) (zI 0)))) (aY 5 (o2 (lf cV) (o2 (lf yH) (o2 (lf yH) (zV 4) (zI 1)) (o2 (lf cV) (o2 (lf cV) (o2 (lf iQ) (zV 0) (zI 48271)) (zI 1021)) (o2 (lf gSub) (zV 2) (zI 1)))) (zV 2))) bN) (aG (aY 6 (bR jP (aC (o2 (lf cV) (o2 (lf cV) (o2 (lf iQ) (zV 0) (zI 48271)) (zI 1031)) (zI 4)) (aC (zV 2) aO)))) (aG (aY 7 (zL (aC (o2 (lf gSub) (o2 (lf cV) (o2 (lf cV) (o2 (lf iQ) (zV 0) (zI 48271)) (zI 1033)) (zI 9)) (zI 4)) (aC (o2 (lf gSub) (zI 0) (zV 1)) (aC (o2 (lf yH) (zI 100000000000000000000) (zV 1)) aO))))) (aG (aY 8 (zX (zV 7) (o2 (lf cV) (o2 (lf cV) (o2 (lf iQ) (zV 0) (zI 48271)) (zI 1039)) (zI 3)))) (aG (dG (bX (o2 (jT 8) (o2 (lf cV) (o2 (lf cV) (o2 (lf iQ) (zV 0) (zI 48271)) (zI 1049)) (zI 31)) (zI 30))) (aY 4 (zX (bR eX (aC (zV 2) aO)) (o2 (lf cV) (o2 (lf cV) (o2 (lf iQ) (zV 0) (zI 48271)) (zI 1051)) (zI 6)))) bN) (aG (dG (bX (o2 (jT 8) (o2 (lf cV) (o2 (lf cV) (o2 (lf iQ) (zV 0) (zI 48271)) (zI 1061)) (zI 31)) (zI 30))) (aY 5 (zX (bR eX (aC (zV 2) aO)) (o2 (lf cV) (o2 (lf cV) (o2 (lf iQ) (zV 0) (zI 48271)) (zI 1063)) (zI 6)))) bN) G)))))))) (cF mE [.int cell,.int k,.int c]) ω=xa (.rt d.d,ω):=by
  intro d G hG;refine(aK (qA (a:=cell) (aB rfl) aR (by decide) (by decide))).trans ?_;rw[<- hway];refine(aK (yL (b:=c) (yL (FG (tP (a:=cell) (b:=k) (aB rfl) (aB rfl)) aR (by decide)) aR (by decide)) (aB rfl) cpos)).trans ?_;rw[<- hone];refine(aK (d:=.int one) (aB rfl)).trans ?_;refine(bB e1).trans ?_;refine(aK (d:=.str x) (ω1:=ω) (aV (aA (qA (a:=cell) (aB rfl) aR (by decide) (by decide)) (aA (aB (d:=.int c) rfl) aD)) ex)).trans ?_;refine(aK (d:=.lst (iv vs)) (ω1:=ω) (cP (aA (Cc (qA (a:=cell) (aB rfl) aR (by decide) (by decide)) aR) (aA (Cc (b:=k) aR (aB rfl)) (aA (tP (b:=k) aR (aB rfl)) aD))) (by rw[hvs];rfl))).trans ?_;refine(aK (uZ (xs:=vs) (aB rfl) (qA (a:=cell) (aB rfl) aR (by decide) (by decide)) r3.1 (by rw[hvs];exact r3.2))).trans ?_;rw[<- hv];refine(bB e2).trans ?_;refine(bB e3).trans ?_;exact hG
 have vw:∀ ω,zV 3 [xa (.int cell),xa (.int k),xa (.int c),xa (.int way),xa (.int one'),xa (.int other'),xa (.str x),xa (.lst (iv vs)),xa (.int v)] ω=xa (.ok (.int way),ω):=fun ω=>aB rfl
 by_cases h5:way<5
 ·refine⟨.put one' x v,aT rfl (main _ _ ?_)⟩;exact Dc (r:=.ok _) (by rw[mQ (vw ω),decide_eq_true h5]) rfl
 by_cases h7:way<7
 ·refine⟨.take one' x,aT rfl (main _ _ ?_)⟩;rw[skip (by rw[mQ (vw ω),decide_eq_false h5])];exact Dc (r:=.ok _) (by rw[mQ (vw ω),decide_eq_true h7]) rfl
 by_cases h9:way<9
 ·refine⟨.change one' x v,aT rfl (main _ _ ?_)⟩;rw[skip (by rw[mQ (vw ω),decide_eq_false h5]),skip (by rw[mQ (vw ω),decide_eq_false h7])];exact Dc (r:=.ok _) (by rw[mQ (vw ω),decide_eq_true h9]) rfl
 have gt:∀ q:Bool,decide (11<way)=q->o2 (lf gGt) (zV 3) (zI 11) [xa (.int cell),xa (.int k),xa (.int c),xa (.int way),xa (.int one'),xa (.int other'),xa (.str x),xa (.lst (iv vs)),xa (.int v)] ω=xa (.ok (.bl q),ω):=fun q hq=>by
  rw[<- hq];exact fE (vw ω) aR rfl
 by_cases h11:11<way
 ·refine⟨.meet one' other',aT rfl (main _ _ ?_)⟩;rw[skip (by rw[mQ (vw ω),decide_eq_false h5]),skip (by rw[mQ (vw ω),decide_eq_false h7]),skip (by rw[mQ (vw ω),decide_eq_false h9])];refine bI (cP (aA (a:=.str "meet") (aJ (a:=.lst [.str "tell",.str "meet"]) (b:=.int 1) rfl (cP (aA (gt true (decide_eq_true h11)) aD) rfl) rfl) (aA (aB rfl) (aA (aB rfl) aD))) rfl)
 ·refine⟨.tell one' other',aT rfl (main _ _ ?_)⟩;rw[skip (by rw[mQ (vw ω),decide_eq_false h5]),skip (by rw[mQ (vw ω),decide_eq_false h7]),skip (by rw[mQ (vw ω),decide_eq_false h9])];refine bI (cP (aA (a:=.str "tell") (aJ (a:=.lst [.str "tell",.str "meet"]) (b:=.int 0) rfl (cP (aA (gt false (decide_eq_false h11)) aD) rfl) rfl) (aA (aB rfl) (aA (aB rfl) aD))) rfl)
theorem jQ (e1:fo ρ ω=xa (.ok (.obj n),ω1)) (e2:ω1[n]?=xa (.ml xs)) (e3:fl ρ ω1=xa (.ok ds,ω2)) (e4:g ω2 (.obj n) ds=xa (r,ω3)):kD g fo fl ρ ω=xa (.ok r,ω3):=by
 unfold kD;rw[bJ e1]
 have:CU ω1 (.obj n)=true:=by simp only[CU,cellOf,e2]
 show(if CU ω1 (.obj n)=true then _ else xb)=_
 rw[if_pos this,bJ e3];show oR (g ω2 (.obj n) ds)=_;rw[e4];rfl
theorem tQ {c n:Nat} (c2:1<=c) (c8:c<=8) (hx:xs.length<=1000):∀(m s:Nat) (pre:List Deed) (v:Option D) (ω:Om),ω[n]?=xa (.ml (pre.map Deed.d))->s+m=xs.length->pre.length=s->∃ v' post,post.length=m/\bO (aS 3) bM eQ (nQ s m) [xa (.lst (iv xs)),xa (.int c),xa (.obj n),v] ω=xa (.nx [xa (.lst (iv xs)),xa (.int c),xa (.obj n),v'],ω.set n (.ml ((pre++post).map Deed.d)))
 |0,s,pre,v,ω,ht,_,_=>⟨v,[],rfl,by
   rw[cr,gP ht];rfl⟩
 |m+1,s,pre,v,ω,ht,hs,hp=>by
  obtain⟨d,ed⟩:=Dl (xs.getD (s:Int).toNat 0+7*s) s c c2 c8 ω;have b1:eQ [xa (.lst (iv xs)),xa (.int c),xa (.obj n),xa (.int s)] ω=xa (.nx [xa (.lst (iv xs)),xa (.int c),xa (.obj n),xa (.int s)],ω.set n (.ml ((pre++[d]).map Deed.d))):=by
   unfold eQ bT;rw[bS (jQ (r:=.non) (ω3:=ω.set n (.ml ((pre++[d]).map Deed.d))) (aB (d:=.obj n) rfl) ht (aA (aV (aA (tP (uZ (xs:=xs) (a:=s) (aB rfl) (aB rfl) (by omega) (by omega)) (FG (b:=s) aR (aB rfl) ⟨by omega,by omega⟩)) (aA (aB (d:=.int s) rfl) (aA (aB (d:=.int c) rfl) aD))) ed) aD) (by
    simp only[jZ,ht];rw[if_pos (by rw[am,bv];omega),c7];rfl))]
  obtain⟨v',post,hl,e2⟩:=tQ c2 c8 hx m (s+1) (pre++[d]) (xa (.int s)) (ω.set n (.ml ((pre++[d]).map Deed.d))) (cD ht) (by omega) (by simp[hp]);refine⟨v',d::post,by simp[hl],?_⟩;rw[eW];refine(cJ rfl rfl (b1)).trans ?_;rw[pc,gs] at e2;exact e2
theorem ID {c:Nat} (c2:1<=c) (c8:c<=8) (hx:xs.length<=1000) (ω:Om):∃ ds:List Deed,ds.length=xs.length/\kO [.lst (iv xs),.int c] ω=xa (.ok (.obj ω.length),ω++[.ml (ds.map Deed.d)]):=by
 have h0:(ω++[Ob.ml []])[ω.length]?=xa (.ml (([]:List Deed).map Deed.d)):=by simp
 obtain⟨v',post,hl,e⟩:=tQ c2 c8 hx xs.length 0 [] xb (ω++[Ob.ml []]) h0 (by omega) rfl;refine⟨post,hl,aT rfl ?_⟩;unfold pV;rw[aK (d:=.obj ω.length) (ω1:=ω++[.ml []]) rfl];rw[bB (dP (by
  unfold bD;rw[bS (kA (c:=xs.length) (by
   have:=pL (f:=zV 0) (ρ:=(cF rE [.lst (iv xs),.int c]).set 2 (xa (.obj ω.length))) (ω:=ω++[.ml []]) (d:=.lst (iv xs)) (ds:=iv xs) (aB rfl) (.inl rfl)
   rw[show(iv xs).length=xs.length from by unfold iv;simp] at this;exact this) hx)]
  exact e))]
 refine(bI (aB (d:=.obj ω.length) rfl)).trans ?_;simp
theorem OU (ns:List Int) (k:Nat) (ω:Om):∃ x:Int,uP [.scr (ns.map D.int),.int k] ω=xa (.ok (.int x),ω):=by
 have v0:∀ ω:Om,zV 0 (cF oG [.scr (ns.map D.int),.int k]) ω=xa (.ok (.scr (ns.map D.int)),ω):=fun ω=>rfl;have v1:∀ ω:Om,zV 1 (cF oG [.scr (ns.map D.int),.int k]) ω=xa (.ok (.int k),ω):=fun ω=>rfl;have t:∀ q:Bool,decide ((k:Int)<((ns.map D.int).length:Int))=q->bX (o2 (lf gLt) (zV 1) (oL iN (aC (zV 0) aO))) (cF oG [.scr (ns.map D.int),.int k]) ω=xa (.ok q,ω):=fun q hq=>
  bU (fE (v1 ω) (cP (aA (v0 ω) aD) (show _=xa (D.int ((ns.map D.int).length),ω) from rfl)) (show xa (D.bl (decide ((k:Int)<((ns.map D.int).length:Int))))=_ by rw[hq]))
 by_cases h:k<ns.length
 ·refine⟨ns[k],aT rfl ?_⟩;have hd:decide ((k:Int)<((ns.map D.int).length:Int))=true:=by simp[h]
  unfold vE aG;rw[jX (t true hd),bI (dY (v0 ω) (v1 ω) (show pu (atI (ns.map D.int) (k:Int)) ω=xa (.int ns[k],ω) from ?_))];have e1:ixN (ns.map D.int).length (k:Int)=xa k:=by
   unfold ixN;have hk:(k:Int)<((ns.map D.int).length:Int):=by simpa using hd
   rw[if_pos (jm k),if_pos hk];simp
  unfold atI;rw[e1];simp[pu,h]
 ·refine⟨0,aT rfl ?_⟩;have hd:decide ((k:Int)<((ns.map D.int).length:Int))=false:=by simp;omega
  unfold vE aG;rw[iT (t false hd)];rfl
theorem Pl.lst (hl:ds.length<=1000) (h:∀ d∈ds,Pl n d):Pl (n+1) (.lst ds):=⟨hl,h⟩
theorem Pl.deed (d:Deed):Pl 1 d.d:=by
 have two:∀(x:Str) (l:List D),l.length<=3->(∀ y∈l,Pl 0 y)->Pl 1 (.tup (.str x::l)):=fun x l h1 h2=>⟨by rw[b7];omega,fun y hy=>by
  rcases aj.mp hy with rfl|hy
  ·exact Pl.str _ _
  ·exact h2 y hy⟩
 cases d with
 |put a x v=>
  refine two _ _ (by simp) fun y hy=> ?_;simp only[aj,c4,or_false] at hy;rcases hy with rfl|rfl|rfl <;> trivial
 |change a x v=>
  refine two _ _ (by simp) fun y hy=> ?_;simp only[aj,c4,or_false] at hy;rcases hy with rfl|rfl|rfl <;> trivial
 |take a x=>
  refine two _ _ (by simp) fun y hy=> ?_;simp only[aj,c4,or_false] at hy;rcases hy with rfl|rfl <;> trivial
 |tell a b=>
  refine two _ _ (by simp) fun y hy=> ?_;simp only[aj,c4,or_false] at hy;rcases hy with rfl|rfl <;> trivial
 |meet a b=>
  refine two _ _ (by simp) fun y hy=> ?_;simp only[aj,c4,or_false] at hy;rcases hy with rfl|rfl <;> trivial
theorem Pl.deeds {ds:List Deed} (hl:ds.length<=1000):Pl 2 (.lst (ds.map Deed.d)):=Pl.lst (by rw[am];exact hl) fun d hd=>by
 obtain⟨x,_,rfl⟩:=ak.mp hd;exact Pl.deed x
def DeedsAt (ω:Om) (d:D) (ds:List Deed):Prop:=fK ω d=xa (ds.map Deed.d)
theorem DeedsAt.keep (h:DeedsAt ω d ds) (K:Keep [] ω ω'):DeedsAt ω' d ds:=by
 rcases fF h with rfl|⟨n,rfl,e⟩
 ·rfl
 ·have e':=(K.2 n (dZ e) (by simp)).trans e;unfold DeedsAt fK;simp only[e']
theorem DeedsAt.list (h:DeedsAt ω d ds) (e:f ρ ω=xa (.ok d,ω)):oL iL (aC f aO) ρ ω=xa (.ok (.lst (ds.map Deed.d)),ω):=by
 refine cP (aA e aD) ?_
 have:cB ω d=xa (ds.map Deed.d):=by
  rcases fF h with rfl|⟨n,rfl,e2⟩
  ·rfl
  ·simp only[cB,fK,e2]
 show(cB ω d).map _=_
 rw[this];rfl
theorem zG {c:Nat} (c0:0<c) (c8:c<=8) (hl:ds.length<64) (h:DeedsAt ω d ds):∃ ω',fN [.int c,d] ω=xa (.ok (.tup [Pa c (kY c ds),Ed c (kY c ds),Ee c (kY c ds),GM c (kY c ds)]),ω')/\Keep [] ω ω'/\∃ own,HInv c own (kY c ds)/\tot c own<64:=by
 obtain⟨ω',e1,K,I⟩:=IT c0 c8 hl ω;refine⟨ω',?_,K,I⟩;refine aT rfl ?_;unfold jB;rw[aK (h.list (aB rfl))];rw[aK (aV (aA (aB (d:=.int c) rfl) (aA (aB (d:=.lst (ds.map Deed.d)) rfl) aD)) e1)];rw[skip (xI (bU (dY (aB (d:=.lst (ds.map Deed.d)) rfl) (aB (d:=d) rfl) (by
  have hd:=h.keep K
  have:eB ω' d=.lst (ds.map Deed.d):=by unfold eB;rw[hd]
  show pu ((eqD 8 (.lst (ds.map Deed.d)) (eB ω' d)).map fun k=>D.bl (!k)) ω'=_;rw[this,lV ((Pl.deeds (by omega)).mono (by decide))];rfl))) (xI (gA (k:=true) (tru_ok (mV (aB rfl) rfl))) (xN (b:=4) (pL (aB rfl) (.inr rfl)) aR rfl)))]
 exact bI (aB rfl)
structure Rec where
 a:Nat
 b:Nat
 put:Option (Str×Int)
 outs:List (List Key)
noncomputable def Rec.key (r:Rec):List Key:=fH r.a r.b
noncomputable def Rec.mark (r:Rec):D:=mkD r.a r.b
noncomputable def Rec.putD (r:Rec):D:=match r.put with
 |none=>.non
 |some p=>.tup [.str p.1,.int p.2]
noncomputable def Rec.val (r:Rec):D:=.tup [r.putD,.lst (r.outs.map bC)]
noncomputable def Rec.ent (r:Rec):Option D:=r.put.map fun p=>.tup [.str p.1,mkD r.a r.b,.int p.2]
noncomputable def upF {α:Type} (f:Nat->α) (i:Nat) (x:α):Nat->α:=fun j=>if j=i then x else f j
theorem bA {x:α}:upF f i x i=x:=if_pos rfl
theorem aZ {x:α} (h:j≠i):upF f i x j=f j:=if_neg h
theorem RowV.app (h:RowV ω d xs) (obs:List Ob):RowV (ω++obs) d xs:=by
 rcases fF h with rfl|⟨n,rfl,e⟩
 ·rfl
 ·exact cG ((ao (dZ e)).trans e)
theorem RowV.keep (h:RowV ω d xs) (g:∀ n:Nat,ω[n]?=xa (Ob.ml (iv xs))->ω'[n]?=xa (Ob.ml (iv xs))):RowV ω' d xs:=by
 rcases fF h with rfl|⟨n,rfl,e⟩
 ·rfl
 ·exact cG (g n e)
theorem RowV.noInt (h:RowV ω (.int x) xs):False:=by
 unfold RowV fK at h;cases h
def rZ (ω:Om) (n:Nat):Prop:=∀ y ys,ω[n]?≠xa (Ob.ml (iv (y::ys)))
theorem RowV.set (h:RowV ω d xs) (hx:xs≠[]) (hn:rZ ω n):RowV (ω.set n ob) d xs:=h.keep fun m e=>by
 match xs,hx with
 |y::ys,_=>
  have:m≠n:=fun z=>hn y ys (z ▸ e)
  rw[aH this];exact e
def RowsD (ω:Om) (c:Nat) (ds:List D) (kn:Nat->List Int):Prop:=ds.length=c/\∀ j,j<c->∃ d,ds[j]?=xa d/\RowV ω d (kn j)
structure LawAt (B ω:Om) (c h dd oo kk:Nat) (ks:Nat->Nat) (rs:List Rec) (kn:Nat->Nat->List Int):Prop where
 obj:ω[h]?=xa (.dk [(.inr "count",.int c),(.inr "deeds",.obj dd),(.inr "order",.obj oo),(.inr "known",.obj kk)])
 deeds:ω[dd]?=xa (.dt (rs.map fun r=>(r.key,r.val)))
 order:ω[oo]?=xa (.ml (rs.map Rec.mark))
 known:ω[kk]?=xa (.ml ((bj c).map fun i=>.obj (ks i)))
 row:∀ i,i<c->∃ ds,ω[ks i]?=xa (.ml ds)/\RowsD ω c ds (kn i)
 len:∀ i j,i<c->j<c->(kn i j).length=c
 inj:∀ i j,i<c->j<c->i≠j->ks i≠ks j
 out:∀ i,i<c->ks i≠h/\ks i≠dd/\ks i≠oo/\ks i≠kk
 nd:h≠dd/\h≠oo/\h≠kk/\dd≠oo/\dd≠kk/\oo≠kk
 low:B.length<=h/\B.length<=dd/\B.length<=oo/\B.length<=kk/\∀ i,i<c->B.length<=ks i
 bas:B.length<=ω.length/\∀ n,n<B.length->ω[n]?=B[n]?
 keys:(rs.map Rec.key).Nodup
 ra:∀ r∈rs,r.a<c
section
variable {B ω:Om}{c h dd oo kk:Nat}{ks:Nat->Nat}{rs:List Rec}{kn:Nat->Nat->List Int}{ρ:Rho}{f:OG D}
theorem nW (L:LawAt B ω c h dd oo kk ks rs kn) (ef:f ρ ω=xa (.ok (.obj h),ω)) (e:gN [((.inr "count":Key),D.int c),(.inr "deeds",.obj dd),(.inr "order",.obj oo),(.inr "known",.obj kk)] (.inr x)=xa d):zD f (zS x) ρ ω=xa (.ok d,ω):=dY ef aR (by
 show pu (iD ω (.obj h) (.str x)) ω=_
 have:iD ω (.obj h) (.str x)=xa d:=by
  simp only[iD,DG,cellOf,L.obj,toK];rw[sh,e];rfl
 rw[this];rfl)
theorem LawAt.gCount (L:LawAt B ω c h dd oo kk ks rs kn) (ef:f ρ ω=xa (.ok (.obj h),ω)):zD f (zS "count") ρ ω=xa (.ok (.int c),ω):=nW L ef rfl
theorem LawAt.gDeeds (L:LawAt B ω c h dd oo kk ks rs kn) (ef:f ρ ω=xa (.ok (.obj h),ω)):zD f (zS "deeds") ρ ω=xa (.ok (.obj dd),ω):=nW L ef rfl
theorem LawAt.gOrder (L:LawAt B ω c h dd oo kk ks rs kn) (ef:f ρ ω=xa (.ok (.obj h),ω)):zD f (zS "order") ρ ω=xa (.ok (.obj oo),ω):=nW L ef rfl
theorem LawAt.gKnown (L:LawAt B ω c h dd oo kk ks rs kn) (ef:f ρ ω=xa (.ok (.obj h),ω)):zD f (zS "known") ρ ω=xa (.ok (.obj kk),ω):=nW L ef rfl
theorem LawAt.ixKnown (L:LawAt B ω c h dd oo kk ks rs kn) (hi:i<c):pZ ω (.obj kk) (.int i)=xa (.obj (ks i)):=by
 rw[kW L.known];exact qS (by rw[ax,di hi];rfl)
theorem RowsD.ix (e:ω[n]?=xa (.ml ds)) (h:RowsD ω c ds q) (hj:j<c):∃ d,pZ ω (.obj n) (.int j)=xa d/\RowV ω d (q j):=by
 obtain⟨d,e1,r⟩:=h.2 j hj;exact⟨d,by rw[kW e];exact qS e1,r⟩
theorem RowsD.noRow (e:ω[n]?=xa (.ml ds)) (h:RowsD ω c ds q) (c0:0<c):rZ ω n:=fun y ys z=>by
 rw[e] at z;cases z;obtain⟨d,e1,r⟩:=h.2 0 c0;cases e1;exact r.noInt
theorem LawAt.noOrder (L:LawAt B ω c h dd oo kk ks rs kn):rZ ω oo:=fun y ys z=>by
 rw[L.order] at z;cases rs with
 |nil=>cases z
 |cons r rs=>cases z
theorem LawAt.noDeeds (L:LawAt B ω c h dd oo kk ks rs kn):rZ ω dd:=fun y ys z=>by
 rw[L.deeds] at z;cases z
theorem LawAt.len0 (L:LawAt B ω c h dd oo kk ks rs kn) (c0:0<c) (hi:i<c) (hj:j<c):kn i j≠[]:=fun z=>by
 have:=L.len i j hi hj
 rw[z] at this;simp at this;omega
theorem RowsD.keep (h:RowsD ω c ds q) (g:∀ d xs,xs≠[]->RowV ω d xs->RowV ω' d xs) (hl:∀ j,j<c->q j≠[]):RowsD ω' c ds q:=⟨h.1,fun j hj=>by
 obtain⟨d,e,r⟩:=h.2 j hj;exact⟨d,e,g d _ (hl j hj) r⟩⟩
theorem LawAt.mono (L:LawAt B ω c h dd oo kk ks rs kn) (c0:0<c) (hl:ω.length<=ω'.length) (g:∀ n:Nat,n<ω.length->ω'[n]?=ω[n]?):LawAt B ω' c h dd oo kk ks rs kn:=by
 have gr:∀ d xs,xs≠[]->RowV ω d xs->RowV ω' d xs:=fun d xs _ r=>r.keep fun n e=>by rw[g n (dZ e)];exact e
 refine⟨?_,?_,?_,?_,fun i hi=> ?_,L.len,L.inj,L.out,L.nd,L.low,⟨ci L.bas.1 hl,fun n hn=> ?_⟩,L.keys,L.ra⟩
 ·rw[g _ (dZ L.obj)];exact L.obj
 ·rw[g _ (dZ L.deeds)];exact L.deeds
 ·rw[g _ (dZ L.order)];exact L.order
 ·rw[g _ (dZ L.known)];exact L.known
 ·obtain⟨ds,e,r⟩:=L.row i hi;exact⟨ds,by rw[g _ (dZ e)];exact e,r.keep gr fun j hj=>L.len0 c0 hi hj⟩
 ·rw[g n (cg hn L.bas.1)];exact L.bas.2 n hn
theorem LawAt.app (L:LawAt B ω c h dd oo kk ks rs kn) (c0:0<c) (obs:List Ob):LawAt B (ω++obs) c h dd oo kk ks rs kn:=L.mono c0 (by simp) fun n hn=>ao hn
end
noncomputable def bK (row:List Int) (r:Rec):Bool:=decide ((r.b:Int)<=row.getD r.a 0)
noncomputable def dR (rs:List Rec) (row:List Int):List (List Key):=(rs.filter (bK row)).flatMap (·.outs)
noncomputable def bG (rs:List Rec) (row:List Int):List D:=(rs.filter (bK row)).filterMap Rec.ent
noncomputable def HC (q:List Key) (l:List (List Key)):Bool:=l.any fun k=>decide (k=q)
theorem memK_iff:HC q l=true↔q∈l:=by
 unfold HC;rw[ow];constructor
 ·rintro⟨k,hk,e⟩
  rw[<- of_decide_eq_true e];exact hk
 ·exact fun h=>⟨q,h,decide_eq_true rfl⟩
noncomputable def eI (rs:List Rec) (row:List Int):List D:=(bG rs row).filter fun d=> !HC (aX d) (dR rs row)
structure nI (c:Nat) (own:Nat->Nat) (rs:List Rec):Prop where
 keys:(rs.map Rec.key).Nodup
 inn:∀ r∈rs,r.a<c/\1<=r.b/\r.b<=own r.a
 outs:∀ r∈rs,r.outs.length<64/\∀ q∈r.outs,KeyIn c own q
theorem FH (a b a' b':Int):eqD 7 (.tup [.int a,.int b]) (.tup [.int a',.int b'])=xa (decide (a=a'/\b=b')):=by
 have:eqD 7 (.tup [.int a,.int b]) (.tup [.int a',.int b'])=xa ((a==a'&&(b==b'&&true))&&true):=rfl
 rw[this]
 congr 1
 by_cases h:a=a' <;> by_cases h2:b=b' <;> simp[h,h2]
theorem BO (a b:Nat):∀(l:List (List Key)),(∀ q∈l,∃ x y:Nat,q=fH x y)->inO (fun d=>eqD 7 d (mkD a b)) (l.map bC)=xa (HC (fH a b) l)
 |[],_=>rfl
 |q::l,h=>by
  obtain⟨x,y,rfl⟩:=h q aq;have ih:=BO a b l fun q hq=>h q (ai _ hq)
  show(eqD 7 (mkD x y) (mkD a b)).bind (fun k=>(inO (fun d=>eqD 7 d (mkD a b)) (l.map bC)).map fun c=>k||c)=_
  rw[ih];unfold mkD;rw[FH];show xa (decide ((x:Int)=a/\(y:Int)=b)||HC (fH a b) l)=xa (decide (fH x y=fH a b)||HC (fH a b) l)
  have:(fH x y=fH a b)↔((x:Int)=a/\(y:Int)=b):=by
   unfold fH;simp
  rw[decide_eq_decide.mpr this]
theorem KeyIn.mk (h:KeyIn c own q):∃ x y:Nat,q=fH x y:=by
 obtain⟨a,b,_,_,_,e⟩:=h;exact⟨a,b,e⟩
section
variable {B ω:Om}{c h dd oo kk:Nat}{ks:Nat->Nat}{rs:List Rec}{kn:Nat->Nat->List Int}{own:Nat->Nat}
theorem Cg (L:LawAt B ω c h dd oo kk ks rs kn) (hr:r∈rs):iD ω (.obj dd) r.mark=xa r.val:=by
 have e1:DD r.mark=xa r.key:=rfl;have e2:gN (rs.map fun r=>(r.key,r.val)) r.key=xa r.val:=by
  have nd:((rs.map fun r=>(r.key,r.val)).map (·.1)).Nodup:=by
   rw[fk];exact L.keys
  exact uE nd (ak.mpr ⟨r,hr,rfl⟩)
 simp only[iD,DG,cellOf,L.deeds,e1];rw[sh,e2];rfl
theorem xF (hrow:row.length=c):∀(post pre:List Rec) {ω:Om}{n:Nat}{v4 v5 v6:Option D},LawAt B ω c h dd oo kk ks rs kn->0<c->nI c own rs->RowV ω rowD row->rs=pre++post->rs.length<64->ω[n]?=xa (.ml (bG pre row))->rZ ω n->n≠h->n≠dd->n≠oo->n≠kk->(∀ i,i<c->n≠ks i)->B.length<=n->
  ∃ v4' v5' v6',bO (aS 4) (jY oo (rs.map Rec.mark)) bF (post.map Rec.mark) [xa (.obj h),xa rowD,xa (.lst ((dR pre row).map bC)),xa (.obj n),v4,v5,v6] ω=xa (.nx [xa (.obj h),xa rowD,xa (.lst ((dR rs row).map bC)),xa (.obj n),v4',v5',v6'],ω.set n (.ml (bG rs row)))
 |[],pre,ω,n,v4,v5,v6,L,c0,R,hr,hp,hl,hn,nr,n1,n2,n3,n4,n5,nb=>by
  rw[cr] at hp;subst hp;refine⟨v4,v5,v6,?_⟩
  show(if jY oo (rs.map Rec.mark) ω=true then _ else xb)=_
  rw[if_pos (pN L.order),gP hn]
 |r::post,pre,ω,n,v4,v5,v6,L,c0,R,hr,hp,hl,hn,nr,n1,n2,n3,n4,n5,nb=>by
  have hm:r∈rs:=by rw[hp];simp
  have hp':rs=(pre++[r])++post:=by rw[gs];exact hp
  have rin:=R.inn r hm;have step:∀(ω2:Om) (v5' v6':Option D) (g' t':D),g'=.lst ((dR (pre++[r]) row).map bC)->bF [xa (.obj h),xa rowD,xa (.lst ((dR pre row).map bC)),xa (.obj n),xa r.mark,v5,v6] ω=xa (.nx [xa (.obj h),xa rowD,xa g',xa (.obj n),xa r.mark,v5',v6'],ω2)->ω2=ω.set n (.ml (bG (pre++[r]) row))->
    ∃ v4' v5' v6',bO (aS 4) (jY oo (rs.map Rec.mark)) bF ((r::post).map Rec.mark) [xa (.obj h),xa rowD,xa (.lst ((dR pre row).map bC)),xa (.obj n),v4,v5,v6] ω=xa (.nx [xa (.obj h),xa rowD,xa (.lst ((dR rs row).map bC)),xa (.obj n),v4',v5',v6'],ω.set n (.ml (bG rs row))):=by
   intro ω2 v5' v6' g' t' hg e1 hω2;subst hg hω2;have hne:∀ m,m≠n->(ω.set n (.ml (bG (pre++[r]) row)))[m]?=ω[m]?:=fun m hm=>aH hm;have L2:LawAt B (ω.set n (.ml (bG (pre++[r]) row))) c h dd oo kk ks rs kn:=by
    refine⟨?_,?_,?_,?_,fun i hi=> ?_,L.len,L.inj,L.out,L.nd,L.low,⟨by simpa using L.bas.1,fun m hm=> ?_⟩,L.keys,L.ra⟩
    ·rw[hne _ (bz n1)];exact L.obj
    ·rw[hne _ (bz n2)];exact L.deeds
    ·rw[hne _ (bz n3)];exact L.order
    ·rw[hne _ (bz n4)];exact L.known
    ·obtain⟨ds,e,rr⟩:=L.row i hi;exact⟨ds,by rw[hne _ (bz (n5 i hi))];exact e,rr.keep (fun d xs hx q=>q.set hx nr) fun j hj=>L.len0 c0 hi hj⟩
    ·rw[hne _ (by omega)];exact L.bas.2 m hm
   have nr2:rZ (ω.set n (.ml (bG (pre++[r]) row))) n:=fun y ys z=>by
    rw[cD hn] at z;have z':bG (pre++[r]) row=iv (y::ys):=by
     injection z with z
     injection z
    have:D.int y∈bG (pre++[r]) row:=by rw[z'];exact aq
    obtain⟨q,_,e2⟩:=g7.mp this;unfold Rec.ent at e2;cases hq:q.put with
    |none=>rw[hq] at e2;cases e2
    |some p=>rw[hq] at e2;cases e2
   have row0:row≠[]:=fun z=>by rw[z] at hrow;simp at hrow;omega
   obtain⟨w4,w5,w6,e3⟩:=xF hrow post (pre++[r]) (v4:=xa r.mark) (v5:=v5') (v6:=v6') L2 c0 R (hr.set row0 nr) hp' hl (cD hn) nr2 n1 n2 n3 n4 n5 nb;refine⟨w4,w5,w6,?_⟩;rw[pc] at e3
   show(if jY oo (rs.map Rec.mark) ω=true then(match bF [xa (.obj h),xa rowD,xa (.lst ((dR pre row).map bC)),xa (.obj n),xa r.mark,v5,v6] ω with
    |none=>xb
    |some (.nx ρ2,ω2)=>bO (aS 4) (jY oo (rs.map Rec.mark)) bF (post.map Rec.mark) ρ2 ω2
    |some (.ct ρ2,ω2)=>bO (aS 4) (jY oo (rs.map Rec.mark)) bF (post.map Rec.mark) ρ2 ω2
    |some (.bk ρ2,ω2)=>xa (.nx ρ2,ω2)
    |some (.rt d,ω2)=>xa (.rt d,ω2)
    |some (.ex _,_)=>xb) else xb)=_
   rw[if_pos (pN L.order),e1];exact e3
  have tst:bX (o2 (lf gLe) (zX (zV 4) (zI 1)) (zX (zV 1) (zX (zV 4) (zI 0)))) [xa (.obj h),xa rowD,xa (.lst ((dR pre row).map bC)),xa (.obj n),xa r.mark,v5,v6] ω=xa (.ok (bK row r),ω):=
   bU (fE (aJ (aB (d:=r.mark) rfl) aR rfl) (aJ (aB (d:=rowD) rfl) (aJ (aB (d:=r.mark) rfl) aR rfl) (hr.ix (a:=r.a) (by omega) (by omega))) (by
    show xa (D.bl (decide ((r.b:Int)<=row.getD (r.a:Int).toNat 0)))=_;rw[cw];rfl))
  cases hs:bK row r with
  |false=>
   rw[hs] at tst;refine step ω v5 v6 (.lst ((dR pre row).map bC)) .non ?_ ?_ ?_
   ·unfold dR;rw[i6,da (by rw[hs];exact bx),k6,cr]
   ·unfold bF;rw[iT tst];rfl
   ·unfold bG at hn ⊢;rw[i6,da (by rw[hs];exact bx),k6,cr,gP hn]
  |true=>
   rw[hs] at tst;have eg:dR (pre++[r]) row=dR pre row++r.outs:=by
    unfold dR;rw[i6,db hs,k6,List.flatMap_append];simp
   have et:bG (pre++[r]) row=bG pre row++r.ent.toList:=by
    unfold bG;rw[i6,db hs,k6,List.filterMap_append]
    congr 1
   have hgl:(dR pre row).length<=64*64:=by
    have gen:∀ l:List Rec,(∀ q∈l,q.outs.length<64)->(l.flatMap (·.outs)).length<=64*l.length:=by
     intro l
     induction l with
     |nil=>intro _;simp
     |cons q l ih=>
      intro hq;rw[List.flatMap_cons,b8,b7]
      have:=hq q aq
      have:=ih fun x hx=>hq x (ai _ hx)
      omega
    have h1:=gen (pre.filter (bK row)) fun q hq=>(R.outs q (by rw[hp];exact de _ (bu.mp hq).1)).1;have h2:(pre.filter (bK row)).length<=pre.length:=dh ..;have h3:pre.length<64:=by rw[hp,b8] at hl;omega
    unfold dR;omega
   have houts:=(R.outs r hm).1;have b1:∀ G:OS,aG (CB (qR 5 6) (zD (zD (zV 0) (zS "deeds")) (zV 4))) (aG (aY 2 (o2 Fz (zV 2) (zV 6))) G) [xa (.obj h),xa rowD,xa (.lst ((dR pre row).map bC)),xa (.obj n),xa r.mark,v5,v6] ω=G [xa (.obj h),xa rowD,xa (.lst ((dR (pre++[r]) row).map bC)),xa (.obj n),xa r.mark,xa r.putD,xa (.lst (r.outs.map bC))] ω:=by
    intro G;rw[bB (ρ1:=[xa (.obj h),xa rowD,xa (.lst ((dR pre row).map bC)),xa (.obj n),xa r.mark,xa r.putD,xa (.lst (r.outs.map bC))]) (ω1:=ω) (by
     unfold CB;rw[bS (dY (d:=r.val) (ω3:=ω) (L.gDeeds (aB rfl)) (aB (d:=r.mark) rfl) (by
      show pu (iD ω (.obj dd) r.mark) ω=_;rw[Cg L hm];rfl))]
     rfl)]
    rw[aK (d:=.lst ((dR (pre++[r]) row).map bC)) (ω1:=ω) (dY (aB (d:=.lst ((dR pre row).map bC)) rfl) (aB (d:=.lst (r.outs.map bC)) rfl) (by
     show(if((dR pre row).map bC).length+(r.outs.map bC).length<=sizeLine then xa (D.lst ((dR pre row).map bC++r.outs.map bC),ω) else xb)=_
     rw[if_pos (by rw[am,am,bv];omega),eg,c7]))]
    rfl
   cases hq:r.put with
   |none=>
    have ep:r.putD=.non:=by unfold Rec.putD;rw[hq]
    have ee:r.ent=xb:=by unfold Rec.ent;rw[hq];rfl
    refine step ω (xa r.putD) (xa (.lst (r.outs.map bC))) _ .non rfl ?_ ?_
    ·unfold bF;rw[jX tst,b1,ep];rfl
    ·rw[et,ee];simp only[Option.toList_none,cr];rw[gP hn]
   |some p=>
    have ep:r.putD=.tup [.str p.1,.int p.2]:=by unfold Rec.putD;rw[hq]
    have ee:r.ent=xa (.tup [.str p.1,mkD r.a r.b,.int p.2]):=by unfold Rec.ent;rw[hq];rfl
    refine step (ω.set n (.ml (bG (pre++[r]) row))) (xa r.putD) (xa (.lst (r.outs.map bC))) _ .non rfl ?_ rfl;unfold bF;rw[jX tst,b1,ep];rw[jX (ω1:=ω) rfl];unfold bT;have tl:(bG pre row).length<=pre.length:=ci (m8 ..) (dh ..);have h3:pre.length<64:=by rw[hp,b8] at hl;omega
    rw[bS (jQ (r:=.non) (ω3:=ω.set n (.ml (bG (pre++[r]) row))) (aB (d:=.obj n) rfl) hn (aA (cP (d:=.tup [.str p.1,mkD r.a r.b,.int p.2]) (aA (aJ (aB (d:=.tup [.str p.1,.int p.2]) rfl) aR rfl) (aA (aB (d:=r.mark) rfl) (aA (aJ (aB (d:=.tup [.str p.1,.int p.2]) rfl) aR rfl) aD))) rfl) aD) (by
     simp only[jZ,hn];rw[if_pos (by rw[bv];omega),et,ee];rfl))]
end
theorem uK {o o':Ob}:(ω++[o]).set ω.length o'=ω++[o']:=by simp
section
variable {B ω:Om}{c h dd oo kk:Nat}{ks:Nat->Nat}{rs:List Rec}{kn:Nat->Nat->List Int}{own:Nat->Nat}
theorem wP (R:nI c own rs) (hd:d∈bG rs row):∃(a b:Nat) (x:Str) (v:Int),d=.tup [.str x,mkD a b,.int v]/\a<c/\1<=b/\b<=own a:=by
 obtain⟨r,hr,e⟩:=g7.mp hd;have hin:=R.inn r (bu.mp hr).1;unfold Rec.ent at e;cases hq:r.put with
 |none=>rw[hq] at e;cases e
 |some p=>
  rw[hq] at e;cases e;exact⟨r.a,r.b,p.1,p.2,rfl,hin⟩
theorem HV (R:nI c own rs) (hq:q∈dR rs row):KeyIn c own q:=by
 obtain⟨r,hr,e⟩:=ox.mp hq;exact(R.outs r (bu.mp hr).1).2 q e
theorem LawAt.lts (L:LawAt B ω c h dd oo kk ks rs kn):h<ω.length/\dd<ω.length/\oo<ω.length/\kk<ω.length/\∀ i,i<c->ks i<ω.length:=⟨dZ L.obj,dZ L.deeds,dZ L.order,dZ L.known,fun i hi=>by
 obtain⟨ds,e,_⟩:=L.row i hi;exact dZ e⟩
theorem CG (L:LawAt B ω c h dd oo kk ks rs kn) (c0:0<c) (R:nI c own rs) (hr:RowV ω rowD row) (hrow:row.length=c) (hl:rs.length<64) (hs:dF 4 (eI rs row)=xa out):gS [.obj h,rowD] ω=xa (.ok (.lst out),ω++[.ml (bG rs row)]):=by
 obtain⟨l1,l2,l3,l4,l5⟩:=L.lts;have L1:=L.app c0 [Ob.ml []];have nr:rZ (ω++[Ob.ml []]) ω.length:=fun y ys z=>by
  rw[dn (bf _)] at z;simp at z;cases z
 obtain⟨v4,v5,v6,e⟩:=xF hrow rs [] (n:=ω.length) (v4:=xb) (v5:=xb) (v6:=xb) L1 c0 R (hr.app _) rfl hl (by simp[bG]) nr (by omega) (by omega) (by omega) (by omega) (fun i hi=>by have:=l5 i hi;omega) L.bas.1;rw[uK] at e;have hn:(ω++[Ob.ml (bG rs row)])[ω.length]?=xa (.ml (bG rs row)):=by simp
 have cp:dI yK (oIL (zV 3)) [xb,xa 2] (aS 0) (bX (o2 (lf (BZ 7)) (zX (zV 0) (zI 1)) (zV 1))) (zV 0) [xa (.obj h),xa rowD,xa (.lst ((dR rs row).map bC)),xa (.obj ω.length),v4,v5,v6] (ω++[.ml (bG rs row)])=xa (.ok (.lst (eI rs row)),ω++[.ml (bG rs row)]):=by
  have tl:(bG rs row).length<=rs.length:=ci (m8 ..) (dh ..);refine gE (ds:=bG rs row) (chk:=jY ω.length (bG rs row)) (ω1:=ω++[.ml (bG rs row)]) ?_ (by rw[bv];omega) ?_
  ·unfold oIL;rw[bJ (aB (d:=.obj ω.length) rfl)]
   have:mY (ω++[Ob.ml (bG rs row)]) (.obj ω.length)=xa (bG rs row,jY ω.length (bG rs row)):=by simp only[mY,hn]
   show oR (pu (mY (ω++[Ob.ml (bG rs row)]) (.obj ω.length)) _)=_;rw[this];rfl
  ·refine(eM (p:=fun d=> !HC (aX d) (dR rs row)) (g:=fun d=>d) (fun ρ=>∃ u,ρ=[u,xa (.lst ((dR rs row).map bC))]) (pN hn) ⟨_,rfl⟩ fun d hd ρ hρ=> ?_).trans (by rw[List.map_id'];rfl);obtain⟨u,rfl⟩:=hρ;obtain⟨a,b,x,v,rfl,_⟩:=wP R hd;refine⟨_,rfl,⟨_,rfl⟩,?_,fun _=>aB rfl⟩;refine bU (fE (aJ (aB (d:=.tup [.str x,mkD a b,.int v]) rfl) aR rfl) (aB (d:=.lst ((dR rs row).map bC)) rfl) ?_)
   show(inO (fun d=>eqD 7 d (mkD a b)) ((dR rs row).map bC)).map (fun k=>D.bl (!k))=_
   rw[BO a b _ fun q hq=>(HV R hq).mk];rfl
 refine aT rfl ?_;unfold lQ;rw[aK (d:=.lst []) (ω1:=ω) rfl];rw[aK (d:=.obj ω.length) (ω1:=ω++[.ml []]) rfl];refine(bB (dP (by
  unfold bD oIL;rw[bS (x:=(rs.map Rec.mark,jY oo (rs.map Rec.mark))) (ω1:=ω++[Ob.ml []]) (by
   rw[bJ (L1.gOrder (aB (d:=.obj h) rfl))]
   have:mY (ω++[Ob.ml []]) (.obj oo)=xa (rs.map Rec.mark,jY oo (rs.map Rec.mark)):=by simp only[mY,L1.order]
   show oR (pu (mY (ω++[Ob.ml []]) (.obj oo)) _)=_;rw[this];rfl)]
  exact e))).trans ?_
 refine bI (cP (aA cp aD) ?_)
 show(dF 4 (eI rs row)).map _=_
 rw[hs];rfl
theorem LawAt.setRow (L:LawAt B ω c h dd oo kk ks rs kn) (c0:0<c) (hi:i<c) (hj:j<c) (hd:ω[ks i]?=xa (.ml ds)) (hD:RowsD ω c ds (kn i)) (hr:RowV ω d xs) (hx:xs.length=c):LawAt B (ω.set (ks i) (.ml (ds.set j d))) c h dd oo kk ks rs (upF kn i (upF (kn i) j xs)):=by
 have nr:=hD.noRow hd c0;obtain⟨o1,o2,o3,o4⟩:=L.out i hi;have x0:xs≠[]:=fun z=>by rw[z] at hx;simp at hx;omega
 refine⟨?_,?_,?_,?_,fun k hk=> ?_,fun a b ha hb=> ?_,L.inj,L.out,L.nd,L.low,⟨by simpa using L.bas.1,fun m hm=> ?_⟩,L.keys,L.ra⟩
 ·rw[aH (bz o1)];exact L.obj
 ·rw[aH (bz o2)];exact L.deeds
 ·rw[aH (bz o3)];exact L.order
 ·rw[aH (bz o4)];exact L.known
 ·by_cases hk2:k=i
  ·subst hk2;refine⟨ds.set j d,cD hd,by rw[ca];exact hD.1,fun b hb=> ?_⟩;rw[bA]
   by_cases hb2:b=j
   ·subst hb2;rw[bA];exact⟨d,d7 (by rw[hD.1];exact hb),hr.set x0 nr⟩
   ·rw[aZ hb2];obtain⟨d',e,r⟩:=hD.2 b hb;exact⟨d',by rw[f9 (bz hb2)];exact e,r.set (L.len0 c0 hi hb) nr⟩
  ·rw[aZ hk2];obtain⟨ds',e,r⟩:=L.row k hk;exact⟨ds',by rw[aH (L.inj k i hk hi hk2)];exact e,r.keep (fun d xs hx q=>q.set hx nr) fun b hb=>L.len0 c0 hk hb⟩
 ·by_cases hk2:a=i
  ·subst hk2;rw[bA]
   by_cases hb2:b=j
   ·subst hb2;rw[bA];exact hx
   ·rw[aZ hb2];exact L.len _ _ ha hb
  ·rw[aZ hk2];exact L.len _ _ ha hb
 ·rw[aH (by have:=L.low.2.2.2.2 i hi;omega)];exact L.bas.2 m hm
theorem LawAt.addRec (L:LawAt B ω c h dd oo kk ks rs kn) (c0:0<c) (hr:r.a<c) (hk:r.key∉rs.map Rec.key):LawAt B ((ω.set dd (.dt ((rs++[r]).map fun r=>(r.key,r.val)))).set oo (.ml ((rs++[r]).map Rec.mark))) c h dd oo kk ks (rs++[r]) kn:=by
 obtain⟨d1,d2,d3,d4,d5,d6⟩:=L.nd;have nd:=L.noDeeds;have no:rZ (ω.set dd (.dt ((rs++[r]).map fun r=>(r.key,r.val)))) oo:=fun y ys z=>by
  rw[aH (bz d4)] at z;exact L.noOrder y ys z
 refine⟨?_,?_,?_,?_,fun i hi=> ?_,L.len,L.inj,L.out,L.nd,L.low,⟨by simpa using L.bas.1,fun m hm=> ?_⟩,?_,fun q hq=> ?_⟩
 ·rw[aH d2,aH d1];exact L.obj
 ·rw[aH d4];exact cD L.deeds
 ·exact cD (by rw[aH (bz d4)];exact L.order)
 ·rw[aH (bz d6),aH (bz d5)];exact L.known
 ·obtain⟨ds,e,rr⟩:=L.row i hi;obtain⟨o1,o2,o3,o4⟩:=L.out i hi;exact⟨ds,by rw[aH o3,aH o2];exact e,rr.keep (fun d xs hx q=>(q.set hx nd).set hx no) fun j hj=>L.len0 c0 hi hj⟩
 ·obtain⟨m1,m2,m3,m4,m5⟩:=L.low;rw[aH (by omega),aH (by omega)];exact L.bas.2 m hm
 ·rw[c7,jt];refine⟨L.keys,by simp,fun a ha b hb z=>hk ?_⟩
  have:b=r.key:=by simpa using hb
  rw[<- this,<- z];exact ha
 ·rcases cm.mp hq with z|z
  ·exact L.ra q z
  ·rw[cq.mp z];exact hr
theorem uU (L:LawAt B ω c h dd oo kk ks rs kn) (c0:0<c) (hi:own'<c) (ha:r.a=own') (hb:(r.b:Int)=(kn own' own').getD own' 0+1) (hk:r.key∉rs.map Rec.key) (hl:rs.length<64):∃ ω',cW [.obj h,.int own',r.putD,.lst (r.outs.map bC)] ω=xa (.ok r.mark,ω')/\LawAt B ω' c h dd oo kk ks (rs++[r]) (upF kn own' (upF (kn own') own' ((kn own' own').set own' r.b)))/\ω.length<=ω'.length:=by
 obtain⟨ds,e1,D1⟩:=L.row own' hi;obtain⟨d,e2,R1⟩:=D1.ix e1 hi;obtain⟨xs,hxs⟩:∃ xs,xs=kn own' own':=⟨_,rfl⟩;have hlen:xs.length=c:=by rw[hxs];exact L.len _ _ hi hi
 rw[<- hxs] at R1 hb ⊢;obtain⟨ω2,hω2⟩:∃ ω2,ω2=ω++[Ob.ml (iv (xs.set own' r.b))]:=⟨_,rfl⟩;have L2:LawAt B ω2 c h dd oo kk ks rs kn:=by rw[hω2];exact L.app c0 _
 have s2:ω2[ω.length]?=xa (.ml (iv (xs.set own' r.b))):=by rw[hω2];simp
 have e1':ω2[ks own']?=xa (.ml ds):=by rw[hω2,ao (dZ e1)];exact e1
 have D2:RowsD ω2 c ds (kn own'):=D1.keep (fun d xs _ q=>by rw[hω2];exact q.app _) fun j hj=>L.len0 c0 hi hj;have xr:(xs.set own' (r.b:Int)).length=c:=by rw[ca];exact hlen
 obtain⟨ω3,hω3⟩:∃ ω3,ω3=ω2.set (ks own') (.ml (ds.set own' (.obj ω.length))):=⟨_,rfl⟩;have L3:LawAt B ω3 c h dd oo kk ks rs (upF kn own' (upF (kn own') own' (xs.set own' r.b))):=by rw[hω3];exact L2.setRow c0 hi hi e1' D2 (cG s2) xr
 have nr2:=D2.noRow e1' c0;have s3:ω3[ω.length]?=xa (.ml (iv (xs.set own' r.b))):=by
  have:=L.lts.2.2.2.2 own' hi
  rw[hω3,aH (by omega)];exact s2
 have L4:=L3.addRec (r:=r) c0 (by omega) hk;have key:r.key=fH own' r.b:=by unfold Rec.key;rw[ha]
 have mk:r.mark=mkD own' r.b:=by unfold Rec.mark;rw[ha]
 have ix3:pZ ω3 (.obj ω.length) (.int own')=xa (.int r.b):=by
  have:=(cG s3).ix (a:=own') (by omega) (by rw[xr];omega)
  rw[this,cw,fI _ _ _ _ (by omega),if_pos rfl]
 refine⟨_,?_,L4,by rw[ca,ca,hω3,ca,hω2];simp⟩;refine aT rfl ?_;unfold pU;refine(aK (d:=.obj ω.length) (ω1:=ω++[.ml (iv xs)]) (cP (aA (aJ (aJ (L.gKnown (aB rfl)) (aB (d:=.int own') rfl) (L.ixKnown hi)) (aB (d:=.int own') rfl) e2) aD) (by
  have:cB ω d=xa (iv xs):=by
   rcases fF R1 with rfl|⟨n,rfl,e⟩
   ·rfl
   ·simp only[cB,fK,e]
  show tM ω [d]=_;simp only[tM,this];rfl))).trans ?_
 have s1:(ω++[Ob.ml (iv xs)])[ω.length]?=xa (.ml (iv xs)):=by simp
 have ix1:pZ (ω++[Ob.ml (iv xs)]) (.obj ω.length) (.int own')=xa (.int (xs.getD own' 0)):=by
  have:=(cG s1).ix (a:=own') (by omega) (by rw[hlen];omega)
  rw[this,cw]
 refine(bB (fB (v:=.int r.b) (o:=.obj ω.length) (i:=.int own') (ω4:=ω2) (by
  have:=tP (ω:=ω++[Ob.ml (iv xs)]) (f:=zX (zV 4) (zV 1)) (h:=zI 1) (ρ:=(cF rC [.obj h,.int own',r.putD,.lst (r.outs.map bC)]).set 4 (xa (.obj ω.length))) (aJ (aB (d:=.obj ω.length) rfl) (aB (d:=.int own') rfl) ix1) aR
  rw[hb];exact this) (aB rfl) (aB rfl) (by
  rw[mJ s1 (by unfold iv;rw[am];omega),uK,hω2];unfold iv;rw[ve]))).trans ?_
 refine(bB (fB (v:=.obj ω.length) (o:=.obj (ks own')) (i:=.int own') (ω4:=ω3) (aB rfl) (aJ (L2.gKnown (aB (d:=.obj h) rfl)) (aB (d:=.int own') rfl) (L2.ixKnown hi)) (aB rfl) (by rw[mJ e1' (by rw[D1.1];exact hi),hω3]))).trans ?_;refine(bB (fB (v:=r.val) (o:=.obj dd) (i:=r.mark) (ω4:=ω3.set dd (.dt ((rs++[r]).map fun r=>(r.key,r.val)))) (cP (aA (aB (d:=r.putD) rfl) (aA (aB (d:=.lst (r.outs.map bC)) rfl) aD)) rfl) (L3.gDeeds (aB (d:=.obj h) rfl)) (cP (aA (aB (d:=.int own') rfl) (aA (aJ (aB (d:=.obj ω.length) rfl) (aB (d:=.int own') rfl) ix3) aD)) (by rw[mk];rfl)) (by
  rw[qD (ks:=r.key) L3.deeds rfl (by rw[am,bv];omega),nR (by rw[fk];exact hk),c7];rfl))).trans ?_
 obtain⟨d1,d2,d3,d4,d5,d6⟩:=L.nd;have o4:(ω3.set dd (.dt ((rs++[r]).map fun r=>(r.key,r.val))))[oo]?=xa (.ml (rs.map Rec.mark)):=by rw[aH (bz d4)];exact L3.order
 have h4:(ω3.set dd (.dt ((rs++[r]).map fun r=>(r.key,r.val))))[h]?=xa (.dk [(.inr "count",.int c),(.inr "deeds",.obj dd),(.inr "order",.obj oo),(.inr "known",.obj kk)]):=by rw[aH d1];exact L3.obj
 have dlt:=L.lts.2.1;have s4:(ω3.set dd (.dt ((rs++[r]).map fun r=>(r.key,r.val))))[ω.length]?=xa (.ml (iv (xs.set own' r.b))):=by rw[aH (by omega)];exact s3
 have ix4:pZ (ω3.set dd (.dt ((rs++[r]).map fun r=>(r.key,r.val)))) (.obj ω.length) (.int own')=xa (.int r.b):=by
  have:=(cG s4).ix (a:=own') (by omega) (by rw[xr];omega)
  rw[this,cw,fI _ _ _ _ (by omega),if_pos rfl]
 refine(bB (ρ1:=[xa (.obj h),xa (.int own'),xa r.putD,xa (.lst (r.outs.map bC)),xa (.obj ω.length)]) (ω1:=(ω3.set dd (.dt ((rs++[r]).map fun r=>(r.key,r.val)))).set oo (.ml ((rs++[r]).map Rec.mark))) (by
  unfold bT;rw[bS (jQ (r:=.non) (ω3:=(ω3.set dd (.dt ((rs++[r]).map fun r=>(r.key,r.val)))).set oo (.ml ((rs++[r]).map Rec.mark))) (dY (aB (d:=.obj h) rfl) aR (d:=.obj oo) (ω3:=ω3.set dd (.dt ((rs++[r]).map fun r=>(r.key,r.val)))) (by
   show pu (iD _ (.obj h) (.str "order")) _=_
   have:iD (ω3.set dd (.dt ((rs++[r]).map fun r=>(r.key,r.val)))) (.obj h) (.str "order")=xa (.obj oo):=by
    simp only[iD,DG,cellOf,h4,toK];rfl
   rw[this];rfl)) o4 (aA (cP (d:=r.mark) (aA (aB (d:=.int own') rfl) (aA (aJ (aB (d:=.obj ω.length) rfl) (aB (d:=.int own') rfl) ix4) aD)) (by rw[mk];rfl)) aD) (by
   simp only[jZ,o4];rw[if_pos (by rw[am,bv];omega),show(rs++[r]).map Rec.mark=rs.map Rec.mark++[r.mark] from by simp]))]
  rfl)).trans ?_
 have olt:=L.lts.2.2.1;have s5:((ω3.set dd (.dt ((rs++[r]).map fun r=>(r.key,r.val)))).set oo (.ml ((rs++[r]).map Rec.mark)))[ω.length]?=xa (.ml (iv (xs.set own' r.b))):=by rw[aH (by omega)];exact s4
 refine bI (cP (aA (aB (d:=.int own') rfl) (aA (aJ (d:=.int r.b) (aB (d:=.obj ω.length) rfl) (aB (d:=.int own') rfl) (by
  have:=(cG s5).ix (a:=own') (by omega) (by rw[xr];omega)
  rw[this,cw,fI _ _ _ _ (by omega),if_pos rfl])) aD)) (by rw[mk];rfl))
end
noncomputable def mo (kn:Nat->Nat->List Int) (one other k j:Nat):Int:=if k=other then mx (mx ((kn one k).getD j 0) ((kn other k).getD j 0)) ((kn one one).getD j 0) else mx ((kn one k).getD j 0) ((kn other k).getD j 0)
noncomputable def moR (c:Nat) (kn:Nat->Nat->List Int) (one other k:Nat):List Int:=(bj c).map (mo kn one other k)
section
variable {B ω0:Om}{c h dd oo kk:Nat}{ks:Nat->Nat}{rs:List Rec}{kn:Nat->Nat->List Int}{one other:Nat}
theorem LawAt.ixRow (L:LawAt B ω0 c h dd oo kk ks rs kn) (g:∀ n:Nat,n<ω0.length->ω[n]?=ω0[n]?) (hi:i<c) (hj:j<c):∃ d,pZ ω (.obj (ks i)) (.int j)=xa d/\RowV ω d (kn i j):=by
 obtain⟨ds,e,r⟩:=L.row i hi;obtain⟨d,e1,r1⟩:=r.2 j hj;have e':ω[ks i]?=xa (.ml ds):=by rw[g _ (dZ e)];exact e
 exact⟨d,by rw[kW e'];exact qS e1,r1.keep fun n q=>by rw[g n (dZ q)];exact q⟩
theorem sH (L:LawAt B ω0 c h dd oo kk ks rs kn) (c8:c<=8) (h1:one<c) (h2:other<c) (hk:k<c) (hq:ω0.length<=q):∀(r s:Nat) {ω:Om}{v9 v10:Option D},(∀ n:Nat,n<ω0.length->ω[n]?=ω0[n]?)->ω[q]?=xa (.ml (iv ((bj s).map (mo kn one other k))))->s+r=c->
  ∃ v9' v10',bO (aS 9) bM cU (nQ s r) [v0,xa (.int one),xa (.int other),xa (.obj (ks one)),xa (.obj (ks other)),v5,v6,xa (.int k),xa (.obj q),v9,v10] ω=xa (.nx [v0,xa (.int one),xa (.int other),xa (.obj (ks one)),xa (.obj (ks other)),v5,v6,xa (.int k),xa (.obj q),v9',v10'],ω.set q (.ml (iv (moR c kn one other k))))
 |0,s,ω,v9,v10,g,e,hs=>⟨v9,v10,by
   have:s=c:=by omega
   subst this;show xa (OOut.nx _,ω)=_;rw[show moR s kn one other k=(bj s).map (mo kn one other k) from rfl,gP e]⟩
 |r+1,s,ω,v9,v10,g,e,hs=>by
  have hsc:s<c:=by omega
  obtain⟨d1,i1,r1⟩:=L.ixRow g h1 hk;obtain⟨d2,i2,r2⟩:=L.ixRow g h2 hk;obtain⟨d3,i3,r3⟩:=L.ixRow g h1 h1;have rx:∀ {d:D}{xs:List Int},RowV ω d xs->xs.length=c->pZ ω d (.int s)=xa (.int (xs.getD s 0)):=fun {d xs} rr hx=>by
   have:=rr.ix (a:=s) (by omega) (by omega)
   rw[this,cw]
  have b1:∃ v10',cU [v0,xa (.int one),xa (.int other),xa (.obj (ks one)),xa (.obj (ks other)),v5,v6,xa (.int k),xa (.obj q),xa (.int s),v10] ω=xa (.nx [v0,xa (.int one),xa (.int other),xa (.obj (ks one)),xa (.obj (ks other)),v5,v6,xa (.int k),xa (.obj q),xa (.int s),v10'],ω.set q (.ml (iv ((bj (s+1)).map (mo kn one other k))))):=by
   refine⟨xa (.int (mo kn one other k s)),?_⟩;unfold cU;rw[aK (d:=.int (mx ((kn one k).getD s 0) ((kn other k).getD s 0))) (ω1:=ω) (cP (aA (aJ (aJ (aB (d:=.obj (ks one)) rfl) (aB (d:=.int k) rfl) i1) (aB (d:=.int s) rfl) (rx r1 (L.len _ _ h1 hk))) (aA (aJ (aJ (aB (d:=.obj (ks other)) rfl) (aB (d:=.int k) rfl) i2) (aB (d:=.int s) rfl) (rx r2 (L.len _ _ h2 hk))) aD)) rfl)];have mid:dG (bX (o2 (jT 8) (zV 7) (zV 2))) (aY 10 (oL (lfL yG) (aC (zV 10) (aC (zX (zX (zV 3) (zV 1)) (zV 9)) aO)))) bN [v0,xa (.int one),xa (.int other),xa (.obj (ks one)),xa (.obj (ks other)),v5,v6,xa (.int k),xa (.obj q),xa (.int s),xa (.int (mx ((kn one k).getD s 0) ((kn other k).getD s 0)))] ω=xa (.nx [v0,xa (.int one),xa (.int other),xa (.obj (ks one)),xa (.obj (ks other)),v5,v6,xa (.int k),xa (.obj q),xa (.int s),xa (.int (mo kn one other k s))],ω):=by
    have t:=Lm (ω:=ω) (ρ:=[v0,xa (.int one),xa (.int other),xa (.obj (ks one)),xa (.obj (ks other)),v5,v6,xa (.int k),xa (.obj q),xa (.int s),xa (.int (mx ((kn one k).getD s 0) ((kn other k).getD s 0)))]) (k:=7) (l:=2) (a:=(k:Int)) (b:=(other:Int)) rfl rfl
    by_cases hko:k=other
    ·rw[decide_eq_true (by omega:(k:Int)=other)] at t;rw[jX t,Co (d:=.int (mo kn one other k s)) (ω1:=ω) (cP (aA (aB (d:=.int (mx ((kn one k).getD s 0) ((kn other k).getD s 0))) rfl) (aA (aJ (aJ (aB (d:=.obj (ks one)) rfl) (aB (d:=.int one) rfl) i3) (aB (d:=.int s) rfl) (rx r3 (L.len _ _ h1 h1))) aD)) (by
      unfold mo;rw[if_pos hko];rfl))]
     rfl
    ·rw[decide_eq_false (by omega:¬(k:Int)=other)] at t;rw[iT t];unfold mo;rw[if_neg hko];rfl
   refine(bB mid).trans ?_;unfold bT;rw[bS (jQ (r:=.non) (ω3:=ω.set q (.ml (iv ((bj (s+1)).map (mo kn one other k))))) (aB (d:=.obj q) rfl) e (aA (aB (d:=.int (mo kn one other k s)) rfl) aD) (by
    simp only[jZ,e];rw[if_pos (by unfold iv;rw[am,am,fy,bv];omega),pd];unfold iv;rw[c7,c7];rfl))]
  obtain⟨w10,b1⟩:=b1;obtain⟨u9,u10,e2⟩:=sH L c8 h1 h2 hk hq (v0:=v0) (v5:=v5) (v6:=v6) r (s+1) (ω:=ω.set q (.ml (iv ((bj (s+1)).map (mo kn one other k))))) (v9:=xa (.int s)) (v10:=w10) (fun n hn=>by rw[aH (by omega)];exact g n hn) (cD e) (by omega);refine⟨u9,u10,?_⟩;rw[pc] at e2;rw[eW];refine(cJ rfl rfl (b1)).trans ?_;exact e2
def Cr (ω:Om) (lo m s:Nat) (ds:List D) (q:Nat->List Int):Prop:=ω[m]?=xa (.ml ds)/\ds.length=s/\∀ j,j<s->∃ n,ds[j]?=xa (.obj n)/\ω[n]?=xa (.ml (iv (q j)))/\n≠m/\lo<=n
theorem sG (L:LawAt B ω0 c h dd oo kk ks rs kn) (c0:0<c) (c8:c<=8) (h1:one<c) (h2:other<c) (hm:ω0.length<=m):∀(r s:Nat) {ω:Om}{ds:List D}{v7 v8 v9 v10:Option D},(∀ n:Nat,n<ω0.length->ω[n]?=ω0[n]?)->ω0.length<=ω.length->Cr ω ω0.length m s ds (moR c kn one other)->s+r=c->
  ∃ ω' ds' v7' v8' v9' v10',bO (aS 7) bM cT (nQ s r) [xa (.obj h),xa (.int one),xa (.int other),xa (.obj (ks one)),xa (.obj (ks other)),v5,xa (.obj m),v7,v8,v9,v10] ω=xa (.nx [xa (.obj h),xa (.int one),xa (.int other),xa (.obj (ks one)),xa (.obj (ks other)),v5,xa (.obj m),v7',v8',v9',v10'],ω')/\(∀ n:Nat,n<ω0.length->ω'[n]?=ω0[n]?)/\ω0.length<=ω'.length/\Cr ω' ω0.length m c ds' (moR c kn one other)
 |0,s,ω,ds,v7,v8,v9,v10,g,gl,M,hs=>by
  have:s=c:=by omega
  subst this;exact⟨ω,ds,v7,v8,v9,v10,rfl,g,gl,M⟩
 |r+1,s,ω,ds,v7,v8,v9,v10,g,gl,M,hs=>by
  obtain⟨M1,M2,M3⟩:=M;have mlt:=dZ M1;have g1:∀ n:Nat,n<ω0.length->(ω++[Ob.ml []])[n]?=ω0[n]?:=fun n hn=>by rw[ao (by omega)];exact g n hn
  obtain⟨u9,u10,e1⟩:=sH L c8 h1 h2 (k:=s) (q:=ω.length) (by omega) gl (v0:=xa (.obj h)) (v5:=v5) (v6:=xa (.obj m)) c 0 (ω:=ω++[Ob.ml []]) (v9:=v9) (v10:=v10) g1 (by simp[iv]) (by omega);rw[uK] at e1;have M1':(ω++[Ob.ml (iv (moR c kn one other s))])[m]?=xa (.ml ds):=by rw[ao mlt];exact M1
  obtain⟨ω2,hω2⟩:∃ ω2,ω2=(ω++[Ob.ml (iv (moR c kn one other s))]).set m (.ml (ds++[.obj ω.length])):=⟨_,rfl⟩;have L1:LawAt B (ω++[Ob.ml []]) c h dd oo kk ks rs kn:=L.mono c0 (by simp;omega) g1;have b2:cT [xa (.obj h),xa (.int one),xa (.int other),xa (.obj (ks one)),xa (.obj (ks other)),v5,xa (.obj m),xa (.int s),v8,v9,v10] ω=xa (.nx [xa (.obj h),xa (.int one),xa (.int other),xa (.obj (ks one)),xa (.obj (ks other)),v5,xa (.obj m),xa (.int s),xa (.obj ω.length),u9,u10],ω2):=by
   unfold cT;rw[aK (d:=.obj ω.length) (ω1:=ω++[.ml []]) rfl];refine(bB (dP (by
    unfold bD;rw[bS (kA (c:=c) (L1.gCount (aB (d:=.obj h) rfl)) (by omega))];exact e1))).trans ?_
   unfold bT;rw[bS (jQ (r:=.non) (ω3:=ω2) (aB (d:=.obj m) rfl) M1' (aA (aB (d:=.obj ω.length) rfl) aD) (by
    simp only[jZ,M1'];rw[if_pos (by rw[bv];omega),hω2]))]
  have g2:∀ n:Nat,n<ω0.length->ω2[n]?=ω0[n]?:=fun n hn=>by rw[hω2,aH (by omega),ao (by omega)];exact g n hn
  have l2:ω2.length=ω.length+1:=by rw[hω2];simp
  have Md:Cr ω2 ω0.length m (s+1) (ds++[.obj ω.length]) (moR c kn one other):=by
   refine⟨by rw[hω2];exact cD M1',by simp[M2],fun j hj=> ?_⟩
   by_cases hjs:j<s
   ·obtain⟨n,a1,a2,a3,a4⟩:=M3 j hjs;refine⟨n,by rw[ao (by omega)];exact a1,?_,a3,a4⟩;rw[hω2,aH a3,ao (dZ a2)];exact a2
   ·have:j=s:=by omega
    subst this;refine⟨ω.length,by rw[dn (by omega),M2];simp,?_,by omega,gl⟩;rw[hω2,aH (by omega)];simp
  obtain⟨ω',ds',w7,w8,w9,w10,e2,g3,l3,M4⟩:=sG L c0 c8 h1 h2 hm (v5:=v5) r (s+1) (v7:=xa (.int s)) (v8:=xa (.obj ω.length)) (v9:=u9) (v10:=u10) g2 (by omega) Md (by omega);refine⟨ω',ds',w7,w8,w9,w10,?_,g3,l3,M4⟩;rw[eW];refine(cJ rfl rfl (b2)).trans ?_;exact e2
theorem DQ (e:f ρ ω=xa (.ok d,ω)) (r:RowV ω d xs):oL Au (aC f aO) ρ ω=xa (.ok (.int xs.sum),ω):=by
 refine cP (aA e aD) ?_;have r':fK ω d=xa (iv xs):=r;simp only[Au,r']
 show(lD (iv xs)).map _=_
 rw[oH];rfl
theorem iZ (L:LawAt B ω0 c h dd oo kk ks rs kn) (c0:0<c) (c8:c<=8) (h1:one<c) (h2:other<c):∃ ω' ks',cX [.obj h,.int one,.int other] ω0=xa (.ok (.int ((moR c kn one other other).sum-(kn other other).sum)),ω')/\LawAt B ω' c h dd oo kk ks' rs (upF kn other (moR c kn one other))/\ω0.length<=ω'.length:=by
 obtain⟨l1,l2,l3,l4,l5⟩:=L.lts;obtain⟨d0,i0,r0⟩:=L.ixRow (ω:=ω0) (fun _ _=>rfl) h2 h2;have g1:∀ n:Nat,n<ω0.length->(ω0++[Ob.ml []])[n]?=ω0[n]?:=fun n hn=>ao hn;have M0:Cr (ω0++[Ob.ml []]) ω0.length ω0.length 0 [] (moR c kn one other):=⟨by simp,rfl,fun j hj=>by omega⟩;obtain⟨ω5,ds,v7,v8,v9,v10,e5,g5,ll5,M1,M2,M3⟩:=sG L c0 c8 h1 h2 (bf ω0.length) (v5:=xa (.int (kn other other).sum)) c 0 (v7:=xb) (v8:=xb) (v9:=xb) (v10:=xb) g1 (by simp) M0 (by omega);have L5:LawAt B ω5 c h dd oo kk ks rs kn:=L.mono c0 ll5 g5;have L1:LawAt B (ω0++[Ob.ml []]) c h dd oo kk ks rs kn:=L.app c0 _;obtain⟨ω6,hω6⟩:∃ ω6,ω6=ω5.set kk (.ml ((bj c).map fun i=>.obj (upF ks other ω0.length i))):=⟨_,rfl⟩;have kset:((bj c).map fun i=>D.obj (ks i)).set other (.obj ω0.length)=(bj c).map fun i=>.obj (upF ks other ω0.length i):=by
  apply jb;intro i
  by_cases hi:i=other
  ·subst hi;rw[d7 (by rw[am,fy];exact h2),ax,di h2];show _=xa (D.obj (upF ks i ω0.length i));rw[bA]
  ·rw[f9 (bz hi),ax,ax];cases hq:(bj c)[i]? with
   |none=>rfl
   |some j=>
    have hj:j=i:=by
     obtain⟨hlt,e⟩:=bt.mp hq;rw[p8] at e;exact e.symm
    subst hj;show xa (D.obj (ks j))=xa (D.obj (upF ks other ω0.length j));rw[aZ hi]
 have moL:∀ k,(moR c kn one other k).length=c:=fun k=>by unfold moR;simp
 have nk:rZ ω5 kk:=fun y ys z=>by
  rw[L5.known] at z;injection z with z
  injection z with z
  have:D.int y∈(bj c).map fun i=>D.obj (ks i):=by rw[z];exact aq
  obtain⟨i,_,e⟩:=ak.mp this;cases e
 obtain⟨d1,d2,d3,d4,d5,d6⟩:=L.nd;have L6:LawAt B ω6 c h dd oo kk (upF ks other ω0.length) rs (upF kn other (moR c kn one other)):=by
  rw[hω6];refine⟨?_,?_,?_,cD L5.known,fun i hi=> ?_,fun i j hi hj=> ?_,fun i j hi hj hne=> ?_,fun i hi=> ?_,L.nd,⟨L.low.1,L.low.2.1,L.low.2.2.1,L.low.2.2.2.1,fun i hi=> ?_⟩,⟨by simpa using L5.bas.1,fun n hn=> ?_⟩,L.keys,L.ra⟩
  ·rw[aH d3];exact L5.obj
  ·rw[aH d5];exact L5.deeds
  ·rw[aH d6];exact L5.order
  ·by_cases hio:i=other
   ·subst hio;rw[bA,bA];refine⟨ds,by rw[aH (by omega)];exact M1,M2,fun j hj=> ?_⟩;obtain⟨n,a1,a2,a3,a4⟩:=M3 j hj;exact⟨.obj n,a1,cG (by rw[aH (by omega)];exact a2)⟩
   ·rw[aZ hio,aZ hio];obtain⟨ds',e,r⟩:=L5.row i hi;exact⟨ds',by rw[aH (L.out i hi).2.2.2];exact e,r.keep (fun d xs hx q=>q.set hx nk) fun j hj=>L.len0 c0 hi hj⟩
  ·by_cases hio:i=other
   ·subst hio;rw[bA];exact moL j
   ·rw[aZ hio];exact L.len i j hi hj
  ·by_cases hio:i=other
   ·subst hio;rw[bA,aZ (bz hne)]
    have:=l5 j hj
    omega
   ·rw[aZ hio]
    by_cases hjo:j=other
    ·subst hjo;rw[bA]
     have:=l5 i hi
     omega
    ·rw[aZ hjo];exact L.inj i j hi hj hne
  ·by_cases hio:i=other
   ·subst hio;rw[bA];omega
   ·rw[aZ hio];exact L.out i hi
  ·by_cases hio:i=other
   ·subst hio;rw[bA];exact L.bas.1
   ·rw[aZ hio];exact L.low.2.2.2.2 i hi
  ·rw[aH (by have:=L.low.2.2.2.1;omega)];exact L5.bas.2 n hn
 refine⟨ω6,upF ks other ω0.length,?_,L6,by rw[hω6];simpa using ll5⟩;refine aT rfl ?_;unfold jA;refine(aK (aJ (L.gKnown (aB (d:=.obj h) rfl)) (aB (d:=.int one) rfl) (L.ixKnown h1))).trans ?_;refine(aK (aJ (L.gKnown (aB (d:=.obj h) rfl)) (aB (d:=.int other) rfl) (L.ixKnown h2))).trans ?_;refine(aK (DQ (aJ (aB (d:=.obj (ks other)) rfl) (aB (d:=.int other) rfl) i0) r0)).trans ?_;refine(aK (d:=.obj ω0.length) (ω1:=ω0++[.ml []]) rfl).trans ?_;refine(bB (dP (by
  unfold bD;rw[bS (kA (c:=c) (L1.gCount (aB (d:=.obj h) rfl)) (by omega))];exact e5))).trans ?_
 refine(bB (fB (ω4:=ω6) (aB (d:=.obj ω0.length) rfl) (L5.gKnown (aB (d:=.obj h) rfl)) (aB (d:=.int other) rfl) (by rw[mJ L5.known (by rw[am,fy];exact h2),kset,hω6]))).trans ?_;obtain⟨n,a1,a2,a3,a4⟩:=M3 other h2;have m6:ω6[ω0.length]?=xa (.ml ds):=by rw[hω6,aH (by omega)];exact M1
 have n6:ω6[n]?=xa (.ml (iv (moR c kn one other other))):=by rw[hω6,aH (by omega)];exact a2
 exact bI (Cc (DQ (aJ (aB (d:=.obj ω0.length) rfl) (aB (d:=.int other) rfl) (by rw[kW m6];exact qS a1)) (cG n6)) (aB rfl))
end
theorem EK {c:Nat} (c8:c<=8):∀(m s:Nat) (u:Option D) (ω:Om),∃(ω':Om) (ks:Nat->Nat),compLO (aS 0) bM (oPT kZ) (dI Ir (oIA iM (aC (zV 1) aO)) [xb,xa 1] (aS 0) (oPT kZ) (o2 Av (zL (aC (zI 0) aO)) (zV 1))) (nQ s m) [u,xa (.int c)] ω=xa ((c6 s m).map fun i=>D.obj (ks i),ω')/\
  (∀ i,s<=i->i<s+m->∃ ds,ω'[ks i]?=xa (.ml ds)/\RowsD ω' c ds (fun _=>aw c 0))/\(∀ i,s<=i->i<s+m->ω.length<=ks i)/\(∀ i,s<=i->i<s+m->∀ j,s<=j->j<s+m->i≠j->ks i≠ks j)/\Keep [] ω ω'
 |0,s,u,ω=>⟨ω,fun _=>0,rfl,fun i h1 h2=>by omega,fun i h1 h2=>by omega,fun i h1 h2=>by omega,Keep.refl _ _⟩
 |m+1,s,u,ω=>by
  have fill:=AB c8 (nQ 0 c) xb ω;rw[fY] at fill;obtain⟨ω1,hω1⟩:∃ ω1,ω1=ω++aw c (Ob.ml (iv (aw c 0))):=⟨_,rfl⟩;rw[<- hω1] at fill;have l1:ω1.length=ω.length+c:=by rw[hω1];simp
  have one:dI Ir (oIA iM (aC (zV 1) aO)) [xb,xa 1] (aS 0) (oPT kZ) (o2 Av (zL (aC (zI 0) aO)) (zV 1)) [xa (.int s),xa (.int c)] ω=xa (.ok (.obj ω1.length),ω1++[.ml ((c6 ω.length c).map D.obj)]):=pF (kA (c:=c) (aB rfl) (by omega)) (by rw[fY,bv];omega) fill;obtain⟨ω2,hω2⟩:∃ ω2,ω2=ω1++[Ob.ml ((c6 ω.length c).map D.obj)]:=⟨_,rfl⟩;rw[<- hω2] at one;have l2:ω2.length=ω.length+c+1:=by rw[hω2];simp[l1]
  have k2:∀ n:Nat,n<ω.length->ω2[n]?=ω[n]?:=fun n hn=>by rw[hω2,ao (by omega),hω1,ao hn]
  have d2:ω2[ω1.length]?=xa (.ml ((c6 ω.length c).map D.obj)):=by rw[hω2];simp
  have r2:∀ j,j<c->ω2[ω.length+j]?=xa (.ml (iv (aw c 0))):=fun j hj=>by
   rw[hω2,ao (by omega),hω1,dn (by omega),fz,if_pos (by omega)]
  obtain⟨ω3,ks,e3,R3,F3,A3,K3⟩:=EK c8 m (s+1) (xa (.int s)) ω2;have g3:∀ n:Nat,n<ω2.length->ω3[n]?=ω2[n]?:=fun n hn=>K3.2 n hn (by simp);refine⟨ω3,upF ks s ω1.length,?_,fun i h1 h2=> ?_,fun i h1 h2=> ?_,fun i h1 h2 j h3 h4 hne=> ?_,⟨by have:=K3.1;omega,fun n hn _=> ?_⟩⟩
  ·rw[eW];refine(qP rfl rfl (one)).trans ?_
   show(compLO _ _ _ _ (nQ ((s+1:Nat):Int) m) _ _).map _=_
   rw[e3,ka,bg];show xa (_::_,_)=_
   congr 3
   ·rw[bA]
   ·apply fg;intro i hi;rw[nq] at hi;rw[aZ (by omega)]
  ·by_cases hi:i=s
   ·subst hi;rw[bA];refine⟨_,by rw[g3 _ (by omega)];exact d2,by simp,fun j hj=>⟨.obj (ω.length+j),?_,cG (by rw[g3 _ (by omega)];exact r2 j hj)⟩⟩;rw[ax,List.getElem?_range' hj];simp
   ·rw[aZ hi];exact R3 i (by omega) (by omega)
  ·by_cases hi:i=s
   ·subst hi;rw[bA];omega
   ·rw[aZ hi]
    have:=F3 i (by omega) (by omega)
    omega
  ·by_cases hi:i=s
   ·subst hi;rw[bA,aZ (bz hne)]
    have:=F3 j (by omega) (by omega)
    omega
   ·rw[aZ hi]
    by_cases hj:j=s
    ·subst hj;rw[bA]
     have:=F3 i (by omega) (by omega)
     omega
    ·rw[aZ hj];exact A3 i (by omega) (by omega) j (by omega) (by omega) hne
  ·rw[g3 n (by omega)];exact k2 n hn
theorem CS {c:Nat} (c0:0<c) (c8:c<=8) (ω:Om):∃ ω' h dd oo kk ks,pB [.int c] ω=xa (.ok (.obj h),ω')/\LawAt ω ω' c h dd oo kk ks [] (fun _ _=>aw c 0):=by
 obtain⟨ω2,hω2⟩:∃ ω2:Om,ω2=ω++[Ob.dk [(.inr "count",.int c),(.inr "deeds",.obj (ω.length+1)),(.inr "order",.obj (ω.length+2))],.dt [],.ml []]:=⟨_,rfl⟩;have l2:ω2.length=ω.length+3:=by rw[hω2];simp
 have h2:ω2[ω.length]?=xa (.dk [(.inr "count",.int c),(.inr "deeds",.obj (ω.length+1)),(.inr "order",.obj (ω.length+2))]):=by rw[hω2];simp
 have d2:ω2[ω.length+1]?=xa (.dt []):=by rw[hω2,dn (by omega)];simp
 have o2':ω2[ω.length+2]?=xa (.ml []):=by rw[hω2,dn (by omega)];simp
 have k2:∀ n:Nat,n<ω.length->ω2[n]?=ω[n]?:=fun n hn=>by rw[hω2,ao hn]
 have disp:CK [("count",(zV 0)),("deeds",uS),("order",(oL Gx aO))] (cF jJ [.int c]) ω=xa (.ok (.obj ω.length),ω2):=by
  unfold CK;have e:oVs [zV 0,uS,oL Gx aO] (cF jJ [.int c]) (ω++[.dk []])=xa (.ok [.int c,.obj (ω.length+1),.obj (ω.length+2)],ω++[Ob.dk [],.dt [],.ml []]):=by
   refine aA (aB (d:=.int c) rfl) (aA (a:=.obj (ω.length+1)) (ω1:=ω++[Ob.dk [],.dt []]) (by
    show xa (Rz.ok (D.obj (ω++[Ob.dk []]).length),(ω++[Ob.dk []])++[Ob.dt []])=_;simp) (aA (a:=.obj (ω.length+2)) (ω1:=ω++[Ob.dk [],.dt [],.ml []]) (by
    show xa (Rz.ok (D.obj (ω++[Ob.dk [],Ob.dt []]).length),(ω++[Ob.dk [],Ob.dt []])++[Ob.ml []])=_;simp) aD))
  show(match oVs [zV 0,uS,oL Gx aO] (cF jJ [.int c]) (ω++[.dk []]) with
   |none=>xb
   |some (.ex c,ω2)=>xa (Rz.ex c,ω2)
   |some (.ok ds,ω2)=>if 3<=15/\CZ ω2 ω.length=true then xa (Rz.ok (D.obj ω.length),ω2.set ω.length (.dk (IG [(.inr "count":Key),.inr "deeds",.inr "order"] ds))) else xb)=_
  rw[e]
  show(if 3<=15/\CZ (ω++[Ob.dk [],.dt [],.ml []]) ω.length=true then xa (Rz.ok (D.obj ω.length),(ω++[Ob.dk [],.dt [],.ml []]).set ω.length (.dk [((.inr "count":Key),D.int c),(.inr "deeds",.obj (ω.length+1)),(.inr "order",.obj (ω.length+2))])) else xb)=_
  rw[if_pos ⟨by decide,by unfold CZ;simp⟩,hω2];simp
 obtain⟨ω3,ks,e3,R3,F3,A3,K3⟩:=EK c8 c 0 xb ω2;have g3:∀ n:Nat,n<ω2.length->ω3[n]?=ω2[n]?:=fun n hn=>K3.2 n hn (by simp);have l3:=K3.1;obtain⟨ω4,hω4⟩:∃ ω4,ω4=ω3++[Ob.ml ((bj c).map fun i=>.obj (ks i))]:=⟨_,rfl⟩;have k4:ω4[ω3.length]?=xa (.ml ((bj c).map fun i=>.obj (ks i))):=by rw[hω4];simp
 have g4:∀ n:Nat,n<ω3.length->ω4[n]?=ω3[n]?:=fun n hn=>by rw[hω4,ao hn]
 obtain⟨ω5,hω5⟩:∃ ω5,ω5=ω4.set ω.length (.dk [(.inr "count",.int c),(.inr "deeds",.obj (ω.length+1)),(.inr "order",.obj (ω.length+2)),(.inr "known",.obj ω3.length)]):=⟨_,rfl⟩;have h4:ω4[ω.length]?=xa (.dk [(.inr "count",.int c),(.inr "deeds",.obj (ω.length+1)),(.inr "order",.obj (ω.length+2))]):=by rw[g4 _ (by omega),g3 _ (by omega)];exact h2
 have nrh:rZ ω4 ω.length:=fun y ys z=>by rw[h4] at z;cases z
 refine⟨ω5,ω.length,ω.length+1,ω.length+2,ω3.length,ks,?_,?_⟩
 ·refine aT rfl ?_;unfold yE;refine(aK disp).trans ?_;refine(bB (fB (v:=.obj ω3.length) (ω1:=ω4) (o:=.obj ω.length) (i:=.str "known") (ω4:=ω5) (by
   have:=pF (fi:=oIA iM (aC (zV 0) aO)) (caps:=[xb,xa 0]) (ρ:=(cF jJ [.int c]).set 1 (xa (.obj ω.length))) (ω:=ω2) (kA (c:=c) (aB rfl) (by omega)) (by rw[fY,bv];omega) e3
   rw[<- uf,<- hω4] at this;exact this) (aB rfl) aR (by
   simp only[nG,h4]
   show(if 3<sizeLine then xa (ω4.set ω.length (.dk [((.inr "count":Key),D.int c),(.inr "deeds",.obj (ω.length+1)),(.inr "order",.obj (ω.length+2)),(.inr "known",.obj ω3.length)])) else xb)=_
   rw[if_pos (by rw[bv];decide),hω5]))).trans ?_
  exact bI (aB rfl)
 ·have lks:∀ i,i<c->ω.length+3<=ks i:=fun i hi=>by have:=F3 i (by omega) (by omega);omega
  have ltk:∀ i,i<c->ks i<ω3.length:=fun i hi=>by
   obtain⟨ds,e,_⟩:=R3 i (by omega) (by omega);exact dZ e
  rw[hω5];refine⟨cD h4,?_,?_,?_,fun i hi=> ?_,fun i j hi hj=>by simp,fun i j hi hj hne=>A3 i (by omega) (by omega) j (by omega) (by omega) hne,fun i hi=> ?_,⟨by omega,by omega,by omega,by omega,by omega,by omega⟩,⟨by omega,by omega,by omega,by omega,fun i hi=>by have:=lks i hi;omega⟩,⟨?_,fun n hn=> ?_⟩,by simp,fun r hr=>by simp at hr⟩
  ·rw[aH (by omega),g4 _ (by omega),g3 _ (by omega)];exact d2
  ·rw[aH (by omega),g4 _ (by omega),g3 _ (by omega)];exact o2'
  ·rw[aH (by omega)];exact k4
  ·obtain⟨ds,e,r⟩:=R3 i (by omega) (by omega)
   have:=lks i hi
   refine⟨ds,by rw[aH (by omega),g4 _ (dZ e)];exact e,r.keep (fun d xs hx q=>RowV.set (q.keep fun n z=>by rw[g4 n (dZ z)];exact z) hx nrh) fun j hj z=> ?_⟩
   have:(aw c (0:Int)).length=0:=by rw[z];rfl
   simp at this;omega
  ·have:=lks i hi
   have:=ltk i hi
   omega
  ·rw[ca,hω4];simp;omega
  ·rw[aH (by omega),g4 _ (by omega),g3 _ (by omega)];exact k2 n hn
theorem mO:∀ {l m:List α},l.Nodup->m.Nodup->(∀ x,x∈l↔x∈m)->l.Perm m
 |[],m,_,_,h=>by
  cases m with
  |nil=>exact .refl _
  |cons y m=>exact absurd ((h y).mpr aq) (by simp)
 |x::l,m,h1,h2,h=>by
  obtain⟨s,t,rfl⟩:=List.append_of_mem ((h x).mp aq);have nd:=h2;rw[b9] at h1;have pm:(s++x::t).Perm (x::(s++t)):=List.perm_middle;have nd2:=pm.nodup_iff.mp nd;rw[b9] at nd2;refine(List.Perm.cons x (mO h1.2 nd2.2 fun y=>⟨fun hy=> ?_,fun hy=> ?_⟩)).trans pm.symm
  ·have:y∈x::(s++t):=pm.mem_iff.mp ((h y).mp (ai _ hy))
   rcases aj.mp this with z|z
   ·exact absurd (z ▸ hy) h1.1
   ·exact z
  ·have:y∈x::l:=(h y).mpr (pm.mem_iff.mpr (ai _ hy))
   rcases aj.mp this with z|z
   ·exact absurd (z ▸ hy) nd2.1
   ·exact z
def EntsOk (ds:List D):Prop:=(∀ d∈ds,gH d)/\(ds.map aX).Nodup
theorem FK (ha:gH a) (hb:gH b) (h:aX a≠aX b):cO 4 a b=xa true∨cO 4 b a=xa true:=by
 obtain⟨x,p,q,v,rfl⟩:=ha;obtain⟨x',p',q',v',rfl⟩:=hb;rw[BI,BI];unfold eLt
 by_cases hx:x=x'
 ·have:¬(p=p'/\q=q'):=fun z=>h (by unfold aX;rw[z.1,z.2])
  subst hx
  have:mLt p q p' q'∨mLt p' q' p q:=by unfold mLt;omega
  rcases this with z|z
  ·exact .inl (.inr ⟨rfl,.inl z⟩)
  ·exact .inr (.inr ⟨rfl,.inl z⟩)
 ·rcases DZ hx with z|z
  ·exact .inl (.inl z)
  ·exact .inr (.inl z)
theorem yN (ha:gH a) (hb:gH b) (hc:gH c) (h1:cO 4 a b=xa true) (h2:cO 4 b c=xa true):cO 4 a c=xa true:=by
 obtain⟨x,p,q,v,rfl⟩:=ha;obtain⟨x',p',q',v',rfl⟩:=hb;obtain⟨x2,p2,q2,v2,rfl⟩:=hc;rw[BI] at*;exact FL h1 h2
theorem EntsOk.sorted (h:EntsOk ds) (hs:dF 4 ds=xa out):out.Pairwise fun a b=>cO 4 a b=xa true:=by
 have gm:∀ i,i<ds.length->ds.getD i .non∈ds/\ds[i]?=xa (ds.getD i .non):=fun i hi=>by
  rw[av,bh hi];exact⟨i5 hi,rfl⟩
 refine wU hs (fun i j hi hj hne=> ?_) fun a ha b hb c hc=>yN (h.1 a ha) (h.1 b hb) (h.1 c hc);refine FK (h.1 _ (gm i hi).1) (h.1 _ (gm j hj).1) fun z=>hne ?_;have pw:=me.mp h.2;have hi':i<(ds.map aX).length:=by simpa using hi
 have hj':j<(ds.map aX).length:=by simpa using hj
 have ei:(ds.map aX)[i]=aX (ds.getD i .non):=by
  rw[vy,av,bh hi];rfl
 have ej:(ds.map aX)[j]=aX (ds.getD j .non):=by
  rw[vy,av,bh hj];rfl
 rcases Nat.lt_trichotomy i j with q|q|q
 ·exact absurd (by rw[ei,ej,z]) (pw i j hi' hj' q)
 ·exact q
 ·exact absurd (by rw[ei,ej,z]) (pw j i hj' hi' q)
theorem Ix (ha:gH a) (hb:gH b) (h1:cO 4 a b=xa true) (h2:cO 4 b a=xa true):False:=by
 have:=yN ha hb ha h1 h2
 obtain⟨x,p,q,v,rfl⟩:=ha;rw[BI] at this;unfold eLt mLt at this;rcases this with z|⟨_,z⟩
 ·exact sP _ z
 ·omega
theorem DR (h:EntsOk ds) (hp:ds.Perm ds') (hs:dF 4 ds=xa o) (hs':dF 4 ds'=xa o') (p1:o.Perm ds) (p2:o'.Perm ds'):o=o':=by
 have h':EntsOk ds':=⟨fun d hd=>h.1 d (hp.mem_iff.mpr hd),(hp.map aX).nodup_iff.mp h.2⟩;have s1:=h.sorted hs;have s2:=h'.sorted hs';have s1':o.Pairwise fun a b=>gH a/\gH b/\cO 4 a b=xa true:=s1.imp_of_mem fun {a b} ha hb q=>⟨h.1 a (p1.mem_iff.mp ha),h.1 b (p1.mem_iff.mp hb),q⟩;have s2':o'.Pairwise fun a b=>gH a/\gH b/\cO 4 a b=xa true:=s2.imp_of_mem fun {a b} ha hb q=>⟨h'.1 a (p2.mem_iff.mp ha),h'.1 b (p2.mem_iff.mp hb),q⟩;exact iU (fun a b x y=>Ix x.1 x.2.1 x.2.2 y.2.2) (p1.trans (hp.trans p2.symm)) s1' s2'
section
variable {c:Nat}{own:Nat->Nat}{rs:List Rec}{row:List Int}
theorem sI (row:List Int):∀ {rs:List Rec},(rs.map Rec.key).Nodup->((bG rs row).map aX).Nodup
 |[],_=>by simp[bG]
 |r::rs,h=>by
  rw[bg,b9] at h;have ih:=sI row (rs:=rs) h.2;unfold bG at ih ⊢
  by_cases hs:bK row r=true
  ·rw[db hs];cases he:r.ent with
   |none=>rw[List.filterMap_cons_none he];exact ih
   |some d=>
    rw[List.filterMap_cons_some he,bg,b9];refine⟨fun z=>h.1 ?_,ih⟩;obtain⟨d',hd',e⟩:=ak.mp z;obtain⟨r',hr',e'⟩:=g7.mp hd';have key:∀ {r:Rec}{d:D},r.ent=xa d->aX d=r.key:=fun {r d} q=>by
     unfold Rec.ent at q;cases hp:r.put with
     |none=>rw[hp] at q;cases q
     |some p=>rw[hp] at q;cases q;rfl
    rw[<- key he,<- e,key e'];exact ak.mpr ⟨r',(bu.mp hr').1,rfl⟩
  ·rw[da hs];exact ih
theorem xG (R:nI c own rs) (row:List Int):EntsOk (eI rs row):=by
 refine⟨fun d hd=> ?_,(sI row R.keys).sublist (io.map _)⟩;obtain⟨a,b,x,v,rfl,_⟩:=wP R (bu.mp hd).1;exact⟨x,a,b,v,rfl⟩
theorem lF (R:nI c own rs):rs.length<=tot c own:=by
 have:=nV R.keys (m:=univ c own) fun k hk=>by
  obtain⟨r,hr,rfl⟩:=ak.mp hk
  have:=R.inn r hr
  exact KeyIn.univ ⟨r.a,r.b,this.1,this.2.1,this.2.2,rfl⟩
 rw[uF,am] at this;exact this
theorem CH (R:nI c own rs) (ht:tot c own<64) (row:List Int):∃ out,dF 4 (eI rs row)=xa out/\out.Perm (eI rs row):=by
 have E:=xG R row;have hl:(eI rs row).length<64:=by
  have h1:(eI rs row).length<=(bG rs row).length:=dh ..;have h2:(bG rs row).length<=rs.length:=ci (m8 ..) (dh ..);have h3:=lF R;omega
 refine nP hl ?_ fun a ha b hb=>Jv (E.1 a ha) (E.1 b hb);unfold gX;rw[ib];right;rw[du];intro d hd;rw[Cd (E.1 d hd)];rfl
theorem Hd.Ok.entsOk {hd:Hd} (W:hd.Ok c):EntsOk (hd.table.map (·.2)):=⟨W.ent,by rw[W.keys];exact W.tn⟩
theorem lL {ds:List D} (h:(ds.map aX).Nodup):ds.Nodup:=by
 induction ds with
 |nil=>exact wp
 |cons d r ih=>
  rw[bg,b9] at h;rw[b9];exact⟨fun z=>h.1 (ak.mpr ⟨d,z,rfl⟩),ih h.2⟩
theorem FJ {hd:Hd} (W:hd.Ok c) (R:nI c own rs) (ht:tot c own<64) (h:∀ e,e∈hd.table.map (·.2)↔e∈eI rs row):dF 4 (eI rs row)=xa hd.ents:=by
 obtain⟨out,e1,p1⟩:=CH R ht row;rw[e1];have E:=xG R row;have pm:(hd.table.map (·.2)).Perm (eI rs row):=mO (lL W.entsOk.2) (lL E.2) h;rw[DR W.entsOk pm W.ents.1 e1 W.ents.2 p1]
end
theorem lG (f:Nat->α) (c i:Nat) (x:α):((bj c).map f).set i x=(bj c).map (upF f i x):=by
 apply jb;intro j
 by_cases h:j=i
 ·subst h
  by_cases hj:j<c
  ·rw[d7 (by rw[am,fy];exact hj),ax,di hj];show _=xa (upF f j x j);rw[bA]
  ·rw[cu (by simp;omega),cu (by simp;omega)]
 ·rw[f9 (bz h),ax,ax];cases hq:(bj c)[j]? with
  |none=>rfl
  |some k=>
   have hk:k=j:=by
    obtain⟨hlt,e⟩:=bt.mp hq;rw[p8] at e;exact e.symm
   subst hk;show xa (f k)=xa (upF f i x k);rw[aZ h]
theorem nZ {xs ys:List Int} (h1:xs.length=c) (h2:ys.length=c) (h:∀ j,j<c->xs.getD j 0=ys.getD j 0):xs=ys:=by
 apply List.ext_getElem (by omega);intro j hj hj'
 have:=h j (by omega)
 rw[av,av,bh hj,bh hj'] at this;exact this
theorem tJ {f:Nat->Int} (h:j<c):((bj c).map f).getD j 0=f j:=by
 rw[av,ax,di h];rfl
theorem gF {r:Rec} (q:r.ent=xa d):aX d=r.key:=by
 unfold Rec.ent at q;cases hp:r.put with
 |none=>rw[hp] at q;cases q
 |some p=>rw[hp] at q;cases q;rfl
theorem mK (row:List Int) (r:Rec):eV row r.key=bK row r:=by
 show decide ((r.b:Int)<=row.getD (r.a:Int).toNat 0)=_;rw[cw];rfl
theorem FW (ha:a<c) (b:Int):∀ {kn:List (List Int)}{r:List Int},r.length=c->(∀ xs∈kn,xs.length=c)->(b<=(kn.foldl (bq mn) r).getD a 0↔b<=r.getD a 0/\∀ xs∈kn,b<=xs.getD a 0)
 |[],r,_,_=>by simp
 |x::kn,r,h1,h2=>by
  have hx:=h2 x aq;show b<=(kn.foldl (bq mn) (bq mn r x)).getD a 0↔_;rw[FW ha b (by rw[fh];omega) fun y hy=>h2 y (ai _ hy),sF (by omega) (by omega)]
  have:b<=mn (r.getD a 0) (x.getD a 0)↔b<=r.getD a 0/\b<=x.getD a 0:=by unfold mn;split <;> omega
  rw[this];simp[and_assoc]
theorem mB {f:Nat->List Int}{r:Rec} (ha:r.a<c) (hl:∀ j,j<c->(f j).length=c):eV (common ((bj c).map f)) r.key=false↔∃ j,j<c/\bK (f j) r=false:=by
 rw[mK];cases hr:(bj c).map f with
 |nil=>
  have:=congrArg k7 hr
  simp at this;omega
 |cons x xs=>
  have hm:∀ y,y∈x::xs↔∃ j,j<c/\f j=y:=fun y=>by rw[<- hr];simp
  have hlen:∀ y∈x::xs,y.length=c:=fun y hy=>by
   obtain⟨j,hj,rfl⟩:=(hm y).mp hy;exact hl j hj
  have g:=FW ha r.b (hlen x aq) fun y hy=>hlen y (ai _ hy);unfold bK;rw[decide_eq_false_iff_not];show ¬(r.b:Int)<=(xs.foldl (bq mn) x).getD r.a 0↔_;rw[g];constructor
  ·intro h;apply qr;intro z;have al:∀ y∈x::xs,(r.b:Int)<=y.getD r.a 0:=fun y hy=>by
    obtain⟨j,hj,rfl⟩:=(hm y).mp hy;exact qr fun w=>z ⟨j,hj,decide_eq_false w⟩
   exact h ⟨al x aq,fun y hy=>al y (ai _ hy)⟩
  ·rintro⟨j,hj,w⟩ h
   have w:=of_decide_eq_false w;rcases aj.mp ((hm (f j)).mpr ⟨j,hj,rfl⟩) with z|z
   ·exact w (by rw[z];exact h.1)
   ·exact w (h.2 _ z)
def KpR (c:Nat) (k:Nat->List Int) (i:Nat) (rs:List Rec) (kv:List Key×D):Prop:=∃ r∈rs,r.outs≠[]/\bK (k i) r=true/\(∃ j,j<c/\bK (k j) r=false)/\kv=(r.key,.tup (r.outs.map bC))
structure Rel (c:Nat) (own:Nat->Nat) (S:Nat->Hd) (rs:List Rec) (kn:Nat->Nat->List Int):Prop where
 knows:∀ i,i<c->(S i).knows=(bj c).map (kn i)
 recs:nI c own rs
 tab:∀ i,i<c->∀ e,e∈(S i).table.map (·.2)↔e∈eI rs (kn i i)
 clo:∀ i,i<c->∀ r∈rs,bK (kn i i) r=true->∀ q∈r.outs,eV (kn i i) q=true
 le:∀ i j,i<c->j<c->∀ t,t<c->(kn i j).getD t 0<=(kn j j).getD t 0
 kpt:∀ i,i<c->∀ kv,kv∈(S i).kept↔KpR c (kn i) i rs kv
section
variable {c:Nat}{own:Nat->Nat}{S:Nat->Hd}{rs:List Rec}{kn:Nat->Nat->List Int}{i j a:Nat}
theorem Rel.seen (Q:Rel c own S rs kn) (hi:i<c):(S i).seen i=kn i i:=by
 unfold Hd.seen;rw[Q.knows i hi,av,ax,di hi];rfl
theorem Rel.row (Q:Rel c own S rs kn) (I:HInv c own S) (hi:i<c) (hj:j<c):kn i j∈(S i).knows/\(kn i j).length=c:=by
 have hm:kn i j∈(S i).knows:=by
  rw[Q.knows i hi];exact ak.mpr ⟨j,df.mpr hj,rfl⟩
 exact⟨hm,(I i hi).1.row _ hm⟩
theorem Rel.ownE (Q:Rel c own S rs kn) (I:HInv c own S) (hi:i<c):(kn i i).getD i 0=own i:=by rw[<- Q.seen hi];exact(I i hi).2
theorem mem_pres:e∈eI rs row↔(∃ r∈rs,bK row r=true/\r.ent=xa e)/\∀ r∈rs,bK row r=true->aX e∉r.outs:=by
 unfold eI bG dR;rw[bu];constructor
 ·rintro⟨h1,h2⟩
  obtain⟨r,hr,he⟩:=g7.mp h1;have hr':=bu.mp hr;refine⟨⟨r,hr'.1,hr'.2,he⟩,fun q hq hs z=> ?_⟩
  have:HC (aX e) ((rs.filter (bK row)).flatMap (·.outs))=true:=memK_iff.mpr (ox.mpr ⟨q,bu.mpr ⟨hq,hs⟩,z⟩)
  rw[this] at h2;cases h2
 ·rintro⟨⟨r,hr,hs,he⟩,h2⟩
  refine⟨g7.mpr ⟨r,bu.mpr ⟨hr,hs⟩,he⟩,?_⟩;cases hm:HC (aX e) ((rs.filter (bK row)).flatMap (·.outs)) with
  |false=>rfl
  |true=>
   obtain⟨q,hq,z⟩:=ox.mp (memK_iff.mp hm);have hq':=bu.mp hq;exact absurd z (h2 q hq'.1 hq'.2)
theorem Rel.note (Q:Rel c own S rs kn) (I:HInv c own S) (ha:a<c) (r1:r.a=a) (r2:r.b=own a+1) (ro:r.outs.length<64) (rk:∀ q∈r.outs,KeyIn c own q) (rs':∀ q∈r.outs,eV (kn a a) q=true)
  (k1:hd'.knows=(S a).knows.set a ((kn a a).set a r.b)) (t1:∀ e,e∈hd'.table.map (·.2)↔(e∈(S a).table.map (·.2)∨r.ent=xa e)/\aX e∉r.outs)
  (q1:∀ kv,kv∈hd'.kept↔(kv∈(S a).kept∨r.outs≠[]/\kv=(r.key,D.tup (r.outs.map bC)))/\eV (common hd'.knows) kv.1=false):
  Rel c (cQ own a) (mR S a hd') (rs++[r]) (upF kn a (upF (kn a) a ((kn a a).set a r.b))):=by
 have len:=(Q.row I ha ha).2;have oe:=Q.ownE I ha;have bo:cQ own a a=own a+1:=by unfold cQ;rw[if_pos rfl]
 have le':=iJ own a
 -- what is seen
 have s1:∀ q∈rs,bK ((kn a a).set a r.b) q=bK (kn a a) q:=fun q hq=>by
  unfold bK;rw[fI _ _ _ _ (by omega)]
  by_cases h:q.a=a
  ·rw[if_pos h,h,oe]
   have:=Q.recs.inn q hq
   rw[h] at this;rw[decide_eq_true (by omega),decide_eq_true (by omega)]
  ·rw[if_neg h]
 have s2:bK ((kn a a).set a r.b) r=true:=by
  unfold bK;rw[fI _ _ _ _ (by omega),if_pos r1];exact decide_eq_true (jy _)
 have s3:∀ i,i<c->i≠a->bK (kn i i) r=false:=fun i hi hne=>by
  unfold bK;refine decide_eq_false fun z=> ?_
  have:=((I i hi).1.kb _ (Q.row I hi hi).1 a ha).2
  rw[r1] at z;omega
 have sk:∀ q,eV (kn a a) q=true->eV ((kn a a).set a r.b) q=true:=fun q hq=>by
  unfold eV at hq ⊢;split at hq
  ·rename_i x y
   have hq':=of_decide_eq_true hq;refine decide_eq_true ?_;rw[fI _ _ _ _ (by omega)]
   by_cases h:x.toNat=a
   ·rw[if_pos h];rw[h,oe] at hq';omega
   ·rw[if_neg h];exact hq'
  ·cases hq
 have nk:r.key∉rs.map Rec.key:=fun z=>by
  obtain⟨q,hq,e⟩:=ak.mp z
  have:=Q.recs.inn q hq
  unfold Rec.key fH at e;simp at e;have e1:q.a=a:=by omega
  rw[e1] at this;omega
 refine⟨fun i hi=> ?_,⟨?_,fun q hq=> ?_,fun q hq=> ?_⟩,fun i hi e=> ?_,fun i hi q hq hs x hx=> ?_,fun i j hi hj t ht=> ?_,fun i hi kv=> ?_⟩
 ·by_cases h:i=a
  ·subst h;rw[gC,k1,Q.knows i hi,lG,bA]
  ·rw[gB h,aZ h];exact Q.knows i hi
 ·rw[c7,jt];refine⟨Q.recs.keys,by simp,fun x hx y hy z=>nk ?_⟩
  have:y=r.key:=by simpa using hy
  rw[<- this,<- z];exact hx
 ·rcases cm.mp hq with z|z
  ·have:=Q.recs.inn q z
   exact⟨this.1,this.2.1,ci this.2.2 (le' _)⟩
  ·rw[cq.mp z,r1,r2,bo];omega
 ·rcases cm.mp hq with z|z
  ·exact⟨(Q.recs.outs q z).1,fun x hx=>((Q.recs.outs q z).2 x hx).mono le'⟩
  ·rw[cq.mp z];exact⟨ro,fun x hx=>(rk x hx).mono le'⟩
 ·by_cases h:i=a
  ·subst h;rw[gC,bA,bA,t1,Q.tab i hi,mem_pres,mem_pres];constructor
   ·rintro⟨h1,h2⟩
    refine⟨?_,fun q hq hs=> ?_⟩
    ·rcases h1 with⟨⟨q,hq,hs,he⟩,_⟩|h1
     ·exact⟨q,de _ hq,by rw[s1 q hq];exact hs,he⟩
     ·exact⟨r,by simp,s2,h1⟩
    ·rcases cm.mp hq with z|z
     ·rcases h1 with⟨_,h3⟩|h1
      ·exact h3 q z (by rw[<- s1 q z];exact hs)
      ·intro w
       have:=((Q.recs.outs q z).2 _ w)
       rw[gF h1] at this;obtain⟨x,y,g1,g2,g3,e⟩:=this;unfold Rec.key fH at e;simp at e
       have:x=i:=by omega
       rw[this] at g3;omega
     ·rw[cq.mp z];exact h2
   ·rintro⟨⟨q,hq,hs,he⟩,h2⟩
    refine⟨?_,h2 r (by simp) s2⟩;rcases cm.mp hq with z|z
    ·exact .inl ⟨⟨q,z,by rw[<- s1 q z];exact hs,he⟩,fun p hp hps=>h2 p (de _ hp) (by rw[s1 p hp];exact hps)⟩
    ·rw[cq.mp z] at he;exact .inr he
  ·rw[gB h,aZ h,Q.tab i hi,mem_pres,mem_pres];constructor
   ·rintro⟨⟨q,hq,hs,he⟩,h2⟩
    refine⟨⟨q,de _ hq,hs,he⟩,fun p hp hps=> ?_⟩;rcases cm.mp hp with z|z
    ·exact h2 p z hps
    ·rw[cq.mp z,s3 i hi h] at hps;cases hps
   ·rintro⟨⟨q,hq,hs,he⟩,h2⟩
    refine⟨?_,fun p hp hps=>h2 p (de _ hp) hps⟩;rcases cm.mp hq with z|z
    ·exact⟨q,z,hs,he⟩
    ·rw[cq.mp z,s3 i hi h] at hs;cases hs
 ·by_cases h:i=a
  ·subst h;rw[bA,bA] at hs ⊢;rcases cm.mp hq with z|z
   ·exact sk _ (Q.clo i hi q z (by rw[<- s1 q z];exact hs) x hx)
   ·rw[cq.mp z] at hx;exact sk _ (rs' x hx)
  ·rw[aZ h] at hs ⊢;rcases cm.mp hq with z|z
   ·exact Q.clo i hi q z hs x hx
   ·rw[cq.mp z,s3 i hi h] at hs;cases hs
 ·have grow:∀ t,(kn a a).getD t 0<=((kn a a).set a (r.b:Int)).getD t 0:=fun t=>by
   rw[fI _ _ _ _ (by omega)]
   by_cases h:t=a
   ·rw[if_pos h,h,oe];omega
   ·rw[if_neg h];exact jy _
  by_cases h:i=a
  ·subst h;rw[bA]
   by_cases h2:j=i
   ·subst h2;simp only[bA];exact jy _
   ·rw[aZ h2,aZ h2];exact Q.le i j hi hj t ht
  ·rw[aZ h]
   by_cases h2:j=a
   ·subst h2;rw[bA,bA];exact vf (Q.le i j hi hj t ht) (grow t)
   ·rw[aZ h2];exact Q.le i j hi hj t ht
 ·by_cases h:i=a
  ·subst h;have hk:hd'.knows=(bj c).map (upF (kn i) i ((kn i i).set i r.b)):=by rw[k1,Q.knows i hi,lG]
   have hl:∀ j,j<c->(upF (kn i) i ((kn i i).set i (r.b:Int)) j).length=c:=fun j hj=>by
    by_cases h2:j=i
    ·subst h2;rw[bA,ca];exact len
    ·rw[aZ h2];exact(Q.row I hi hj).2
   have ra:∀ q∈rs++[r],q.a<c:=fun q hq=>by
    rcases cm.mp hq with z|z
    ·exact(Q.recs.inn q z).1
    ·rw[cq.mp z,r1];exact hi
   rw[gC,bA,q1,Q.kpt i hi,hk];constructor
   ·rintro⟨⟨q,hq,h1,h2,_,rfl⟩|⟨h1,rfl⟩,h3⟩
    ·have hq':=de [r] hq;exact⟨q,hq',h1,by rw[bA,s1 q hq];exact h2,(mB (ra q hq') hl).mp h3,rfl⟩
    ·have hr:r∈rs++[r]:=by simp
     exact⟨r,hr,h1,by rw[bA];exact s2,(mB (ra r hr) hl).mp h3,rfl⟩
   ·rintro⟨q,hq,h1,h2,h3,rfl⟩
    refine⟨?_,(mB (ra q hq) hl).mpr h3⟩;rcases cm.mp hq with z|z
    ·refine .inl ⟨q,z,h1,by rw[bA,s1 q z] at h2;exact h2,?_,rfl⟩;obtain⟨j,hj,w⟩:=h3
     by_cases hji:j=i
     ·subst hji;rw[h2] at w;cases w
     ·rw[aZ hji] at w;exact⟨j,hj,w⟩
    ·rw[cq.mp z] at h1 ⊢;exact .inr ⟨h1,rfl⟩
  ·rw[gB h,aZ h,Q.kpt i hi];constructor
   ·rintro⟨q,hq,h1⟩
    exact⟨q,de _ hq,h1⟩
   ·rintro⟨q,hq,h1,h2,h3⟩
    rcases cm.mp hq with z|z
    ·exact⟨q,z,h1,h2,h3⟩
    ·rw[cq.mp z,s3 i hi h] at h2;cases h2
theorem Lg (Q:Rel c own S rs kn) (I:HInv c own S) (ha:a<c) (b:Int) {kv:List Key×D} (hv:kv∈(S a).kept):eV (common ((S a).knows.set a ((kn a a).set a b))) kv.1=false:=by
 obtain⟨q,hq,_,h2,⟨j,hj,w⟩,rfl⟩:=(Q.kpt a ha kv).mp hv;rw[Q.knows a ha,lG];refine(mB (Q.recs.inn q hq).1 fun k hk=> ?_).mpr ⟨j,hj,?_⟩
 ·by_cases h:k=a
  ·subst h;rw[bA,ca];exact(Q.row I hk hk).2
  ·rw[aZ h];exact(Q.row I ha hk).2
 ·by_cases h:j=a
  ·subst h;rw[h2] at w;cases w
  ·rw[aZ h];exact w
end
theorem uN {k:List Key}:(k,v)∈putD T k v:=by
 unfold putD;split
 ·rename_i h
  obtain⟨p,hp,e⟩:=ow.mp h;have e':=of_decide_eq_true e;exact ak.mpr ⟨p,hp,by rw[if_pos e',e']⟩
 ·simp
theorem sQ {p:List Key×D} (hp:p∈T) (h:p.1≠k∨p.2=v):p∈putD T k v:=by
 unfold putD;split
 ·refine ak.mpr ⟨p,hp,?_⟩
  by_cases e:p.1=k
  ·rw[if_pos e];rcases h with z|z
   ·exact absurd e z
   ·rw[<- z]
  ·rw[if_neg e]
 ·exact de _ hp
theorem oM:∀ {out:List D}{T:List (List Key×D)}{d:D},(∀ d'∈out,aX d=aX d'->d=d')->(aX d,d)∈T->(aX d,d)∈oN out T
 |[],_,_,_,h=>h
 |x::out,T,d,hu,h=>by
  refine oM (out:=out) (fun d' hd'=>hu d' (ai _ hd')) (sQ h ?_)
  by_cases e:aX d=aX x
  ·exact .inr (hu x aq e)
  ·exact .inl e
theorem wS:∀ {out:List D}{T:List (List Key×D)}{d:D},(∀ d'∈out,aX d=aX d'->d=d')->d∈out->(aX d,d)∈oN out T
 |[],_,_,_,h=>by simp at h
 |x::out,T,d,hu,h=>by
  rcases aj.mp h with rfl|h
  ·exact oM (out:=out) (fun d' hd'=>hu d' (ai _ hd')) uN
  ·exact wS (out:=out) (fun d' hd'=>hu d' (ai _ hd')) h
theorem Cy (hu:∀ d∈out,∀ d'∈out,aX d=aX d'->d=d') (e:D):e∈(oN out []).map (·.2)↔e∈out:=by
 constructor
 ·intro h;obtain⟨p,hp,rfl⟩:=ak.mp h;rcases oK hp with z|⟨d,hd,rfl⟩
  ·simp at z
  ·exact hd
 ·exact fun h=>ak.mpr ⟨(aX e,e),wS (hu e h) h,rfl⟩
theorem GT {k:List Key} (h:∀ q∈T,q.1=k->q=(k,v)):p∈putD T k v↔p∈T∨p=(k,v):=by
 constructor
 ·intro z;unfold putD at z;split at z
  ·obtain⟨q,hq,rfl⟩:=ak.mp z
   by_cases e:q.1=k
   ·rw[if_pos e,e];exact .inr rfl
   ·rw[if_neg e];exact .inl hq
  ·simpa using z
 ·rintro(z|rfl)
  ·by_cases e:p.1=k
   ·rw[h p z e];exact uN
   ·exact sQ z (.inl e)
  ·exact uN
theorem xP {P:List Key×D->Prop} (hP:∀ p q,P p->P q->p.1=q.1->p=q):∀ {B A:List (List Key×D)},(∀ q∈A,P q)->(∀ q∈B,P q)->(p∈iX A B↔p∈A∨p∈B)
 |[],A,_,_=>by simp[iX]
 |b::B,A,hA,hB=>by
  have hb:=hB b aq;have hi:∀ q,q∈putD A b.1 b.2↔q∈A∨q=b:=fun q=>GT fun q hq e=>hP q b (hA q hq) hb e;show p∈iX (putD A b.1 b.2) B↔_;rw[xP hP (fun q hq=>by
   rcases(hi q).mp hq with z|rfl
   ·exact hA q z
   ·exact hb) fun q hq=>hB q (ai _ hq),hi,aj,or_assoc]
section
variable {c:Nat}{own:Nat->Nat}{S:Nat->Hd}{rs:List Rec}{kn:Nat->Nat->List Int}{one other:Nat}
theorem Bm {f:List Int->List Int->List Int}:∀ l:List Nat,bq f (l.map p) (l.map q)=l.map fun k=>f (p k) (q k)
 |[]=>rfl
 |x::l=>by
  rw[bg,bg,jh,Bm l,bg]
theorem Ak:∀ {rs:List Rec}{r r':Rec},(rs.map Rec.key).Nodup->r∈rs->r'∈rs->r.key=r'.key->r=r'
 |[],_,_,_,hr,_,_=>by simp at hr
 |x::l,r,r',nd,hr,hr',hk=>by
  rw[bg,b9] at nd;rcases aj.mp hr with z|z
  ·rcases aj.mp hr' with w|w
   ·rw[z,w]
   ·exact absurd (ak.mpr ⟨r',w,by rw[<- hk,z]⟩) nd.1
  ·rcases aj.mp hr' with w|w
   ·exact absurd (ak.mpr ⟨r,z,by rw[hk,w]⟩) nd.1
   ·exact Ak nd.2 z w hk
theorem Rel.hear (Q:Rel c own S rs kn) (I:HInv c own S) (c0:0<c) (c8:c<=8) (ht:tot c own<64) (h1:one<c) (h2:other<c) (hne:one≠other):Rel c own (gO S one other) rs (upF kn other (moR c kn one other)):=by
 have lenK:∀ i j,i<c->j<c->(kn i j).length=c:=fun i j hi hj=>(Q.row I hi hj).2;have moL:∀ k,(moR c kn one other k).length=c:=fun k=>by unfold moR;simp
 have moG:∀ k t,t<c->(moR c kn one other k).getD t 0=mo kn one other k t:=fun k t ht=>tJ ht;have W1:=(I one h1).1;have W2:=(I other h2).1;have O1:=W1.ok c0 c8 ht;have O2:=W2.ok c0 c8 ht
 -- the row of what is seen
 have J:moR c kn one other other=bq mx (kn other other) (kn one one):=by
  refine nZ (moL other) (by rw[fh,lenK _ _ h2 h2,lenK _ _ h1 h1,jk]) fun t htc=> ?_;rw[moG other t htc,sF (by rw[lenK _ _ h2 h2];exact htc) (by rw[lenK _ _ h1 h1];exact htc)]
  have:=Q.le one other h1 h2 t htc
  unfold mo;rw[if_pos rfl];unfold mx;omega
 have Jg:∀ t,t<c->(moR c kn one other other).getD t 0=mx ((kn other other).getD t 0) ((kn one one).getD t 0):=fun t htc=>by
  rw[J,sF (by rw[lenK _ _ h2 h2];exact htc) (by rw[lenK _ _ h1 h1];exact htc)]
 have sJ:∀ r∈rs,(bK (moR c kn one other other) r=true↔bK (kn other other) r=true∨bK (kn one one) r=true):=fun r hr=>by
  have hra:=(Q.recs.inn r hr).1;unfold bK;rw[Jg r.a hra];simp only[decide_eq_true_eq];unfold mx;omega
 have sKJ:∀ q,KeyIn c own q->(eV (moR c kn one other other) q=true↔eV (kn other other) q=true∨eV (kn one one) q=true):=fun q hq=>by
  obtain⟨x,y,g1,_,_,rfl⟩:=hq;show decide ((y:Int)<=(moR c kn one other other).getD (x:Int).toNat 0)=true↔decide ((y:Int)<=(kn other other).getD (x:Int).toNat 0)=true∨decide ((y:Int)<=(kn one one).getD (x:Int).toNat 0)=true;rw[cw,Jg x g1];simp only[decide_eq_true_eq];unfold mx;omega
 have uniq:∀ {r r':Rec}{e e':D},r∈rs->r'∈rs->r.ent=xa e->r'.ent=xa e'->aX e=aX e'->e=e':=fun {r r' e e'} hr hr' he he' hk=>by
  rw[gF he,gF he'] at hk
  have:r=r':=Ak Q.recs.keys hr hr' hk
  rw[this,he'] at he;cases he;rfl
 have pm1:∀ e,e∈(S one).ents↔e∈eI rs (kn one one):=fun e=>by rw[O1.ents.2.mem_iff];exact Q.tab one h1 e
 have pm2:∀ e,e∈(S other).ents↔e∈eI rs (kn other other):=fun e=>by rw[O2.ents.2.mem_iff];exact Q.tab other h2 e
 have lv:∀ i,i<c->(S i).Ok c->∀ {r:Rec}{e:D},r∈rs->r.ent=xa e->((S i).leaves i e=true↔e∈eI rs (kn i i)∨bK (kn i i) r=false):=by
  intro i hi O r e hr he;unfold Hd.leaves;rw[Q.seen hi,gF he,mK,ib];have h3:(gN (S i).table r.key).isSome=true↔e∈eI rs (kn i i):=by
   constructor
   ·intro z;obtain⟨v,hv⟩:=mr.mp z;unfold gN at hv;obtain⟨p,hp,rfl⟩:=nv.mp hv;have hpm:=qp hp;have hpk:p.1=r.key:=by
     have:=wl hp
     simpa using this
    have hv2:p.2∈eI rs (kn i i):=(Q.tab i hi p.2).mp (ak.mpr ⟨p,hpm,rfl⟩);obtain⟨⟨r',hr',_,he'⟩,_⟩:=mem_pres.mp hv2;have hk2:aX p.2=p.1:=by
     obtain⟨x,y,_,_,_,e1,u,w,e2⟩:=(I i hi).1.tk p hpm;rw[e2,e1];rfl
    have:e=p.2:=uniq hr hr' he he' (by rw[gF he,hk2,hpk])
    rw[this];exact hv2
   ·intro z;obtain⟨p,hp,e2⟩:=ak.mp ((Q.tab i hi e).mpr z);have hk2:aX p.2=p.1:=by
     obtain⟨x,y,_,_,_,e1,u,w,e2⟩:=(I i hi).1.tk p hp;rw[e2,e1];rfl
    have:r.key∈(S i).table.map (·.1):=ak.mpr ⟨p,hp,by rw[<- hk2,e2,gF he]⟩
    obtain⟨v,hv⟩:=DI this;rw[hv];rfl
  rw[h3];cases bK (kn i i) r <;> simp
 have kno:∀ i,i<c->(gO S one other i).knows=(bj c).map (upF kn other (moR c kn one other) i):=fun i hi=>by
  by_cases h:i=other
  ·subst h;unfold gO;rw[gC,bA]
   show(bq (bq mx) (S i).knows (S one).knows).set i (bq mx ((S i).seen i) ((S one).seen one))=_
   rw[Q.knows i hi,Q.knows one h1,Bm,lG,Q.seen hi,Q.seen h1];apply fg;intro k hk;have hkc:=df.mp hk
   by_cases hki:k=i
   ·subst hki;rw[bA,J]
   ·rw[aZ hki];refine nZ (by rw[fh,lenK _ _ hi hkc,lenK _ _ h1 hkc,jk]) (moL k) fun t htc=> ?_;rw[moG k t htc,sF (by rw[lenK _ _ hi hkc];exact htc) (by rw[lenK _ _ h1 hkc];exact htc)];unfold mo;rw[if_neg hki];unfold mx;omega
  ·unfold gO;rw[gB h,aZ h];exact Q.knows i hi
 refine⟨kno,Q.recs,fun i hi e=> ?_,fun i hi q hq hs x hx=> ?_,fun i j hi hj t htc=> ?_,fun i hi kv=> ?_⟩
 ·by_cases h:i=other
  ·subst h;unfold gO;rw[gC,bA];show e∈(oN ((S i).hearT i (S one) one) []).map (·.2)↔_;have hrec:∀ d∈(S i).hearT i (S one) one,∃ r∈rs,r.ent=xa d:=fun d hd=>by
    rcases cm.mp hd with z|z
    ·obtain⟨⟨r,hr,_,he⟩,_⟩:=mem_pres.mp ((pm2 d).mp (bu.mp z).1);exact⟨r,hr,he⟩
    ·obtain⟨⟨r,hr,_,he⟩,_⟩:=mem_pres.mp ((pm1 d).mp (bu.mp z).1);exact⟨r,hr,he⟩
   rw[Cy fun d hd d' hd' hk=>by
    obtain⟨r,hr,he⟩:=hrec d hd;obtain⟨r',hr',he'⟩:=hrec d' hd';exact uniq hr hr' he he' hk]
   unfold Hd.hearT;rw[cm,bu,bu,pm1,pm2];constructor
   ·intro z
    -- e is a deed's entry
    have he:∃ r∈rs,r.ent=xa e:=by
     rcases z with z|z
     ·obtain⟨⟨r,hr,_,he⟩,_⟩:=mem_pres.mp z.1;exact⟨r,hr,he⟩
     ·obtain⟨⟨r,hr,_,he⟩,_⟩:=mem_pres.mp z.1;exact⟨r,hr,he⟩
    obtain⟨r,hr,he⟩:=he;rw[lv one h1 O1 hr he,lv i hi O2 hr he] at z;rw[mem_pres];have sr:∀ {row:List Int},e∈eI rs row->bK row r=true:=fun {row} q=>by
     obtain⟨⟨r',hr',hs',he'⟩,_⟩:=mem_pres.mp q;have hk:r'.key=r.key:=by rw[<- gF he',gF he]
     rw[<- mK,<- hk,mK];exact hs'
    have both:(e∈eI rs (kn i i)/\e∈eI rs (kn one one))∨(e∈eI rs (kn i i)/\bK (kn one one) r=false)∨(e∈eI rs (kn one one)/\bK (kn i i) r=false):=by
     rcases z with⟨z1,z2|z2⟩|⟨z1,z2|z2⟩
     ·exact .inl ⟨z1,z2⟩
     ·exact .inr (.inl ⟨z1,z2⟩)
     ·exact .inl ⟨z2,z1⟩
     ·exact .inr (.inr ⟨z1,z2⟩)
    have clos:∀ k,k<c->bK (kn k k) r=false->∀ p∈rs,bK (kn k k) p=true->aX e∉p.outs:=fun k hk hs p hp hps w=>by
     have:=Q.clo k hk p hp hps _ w
     rw[gF he,mK,hs] at this;cases this
    refine⟨⟨r,hr,(sJ r hr).mpr ?_,he⟩,fun p hp hps=> ?_⟩
    ·rcases both with z|z|z
     ·exact .inl (sr z.1)
     ·exact .inl (sr z.1)
     ·exact .inr (sr z.1)
    ·rcases(sJ p hp).mp hps with w|w
     ·rcases both with z|z|z
      ·exact(mem_pres.mp z.1).2 p hp w
      ·exact(mem_pres.mp z.1).2 p hp w
      ·exact clos i hi z.2 p hp w
     ·rcases both with z|z|z
      ·exact(mem_pres.mp z.2).2 p hp w
      ·exact clos one h1 z.2 p hp w
      ·exact(mem_pres.mp z.1).2 p hp w
   ·intro z;obtain⟨⟨r,hr,hs,he⟩,hn⟩:=mem_pres.mp z;have inP:∀ k,k<c->(∀ p∈rs,bK (kn k k) p=true->bK (moR c kn one i i) p=true)->bK (kn k k) r=true->e∈eI rs (kn k k):=fun k hk hsub hks=>mem_pres.mpr ⟨⟨r,hr,hks,he⟩,fun p hp hps=>hn p hp (hsub p hp hps)⟩;have p2:=inP i hi fun p hp q=>(sJ p hp).mpr (.inl q);have p1:=inP one h1 fun p hp q=>(sJ p hp).mpr (.inr q);rw[lv one h1 O1 hr he,lv i hi O2 hr he]
    rcases(sJ r hr).mp hs with w|w
    ·cases hq:bK (kn one one) r with
     |true=>exact .inl ⟨p2 w,.inl (p1 hq)⟩
     |false=>exact .inl ⟨p2 w,.inr rfl⟩
    ·cases hq:bK (kn i i) r with
     |true=>exact .inr ⟨p1 w,.inl (p2 hq)⟩
     |false=>exact .inr ⟨p1 w,.inr rfl⟩
  ·unfold gO;rw[gB h,aZ h];exact Q.tab i hi e
 ·by_cases h:i=other
  ·subst h;rw[bA] at hs ⊢;have kx:=(Q.recs.outs q hq).2 x hx
   rcases(sJ q hq).mp hs with w|w
   ·exact(sKJ x kx).mpr (.inl (Q.clo i hi q hq w x hx))
   ·exact(sKJ x kx).mpr (.inr (Q.clo one h1 q hq w x hx))
  ·rw[aZ h] at hs ⊢;exact Q.clo i hi q hq hs x hx
 ·by_cases h:i=other
  ·subst h;rw[bA]
   by_cases hji:j=i
   ·subst hji;rw[bA];exact jy _
   ·rw[aZ hji,moG j t htc];have e1:=Q.le one j h1 hj t htc;have e2:=Q.le i j hi hj t htc;unfold mo;rw[if_neg hji];unfold mx;omega
  ·rw[aZ h]
   by_cases hji:j=other
   ·subst hji;rw[bA,Jg t htc];have e1:=Q.le i j hi hj t htc;unfold mx;omega
   ·rw[aZ hji];exact Q.le i j hi hj t htc
 ·by_cases h:i=other
  ·subst h;have kn':=kno i hi;unfold gO at kn' ⊢;rw[gC] at kn' ⊢;rw[bA] at kn' ⊢;have gr:∀ r∈rs,∀ j,j<c->bK (moR c kn one i j) r=false->bK (kn i j) r=false/\bK (kn one j) r=false:=fun r hr j hj z=>by
    have hra:=(Q.recs.inn r hr).1;unfold bK at z ⊢;rw[moG j r.a hra] at z;have z:=of_decide_eq_false z;unfold mo mx at z;exact⟨decide_eq_false (by split at z <;> omega),decide_eq_false (by split at z <;> omega)⟩
   show kv∈(iX (S i).kept (S one).kept).filter (fun kv=> !eV (common ((S i).hear0 i (S one) one).knows) kv.1)↔_;rw[bu,xP (P:=fun kv=>∃ r∈rs,kv=(r.key,.tup (r.outs.map bC))) (fun p q hp hq e=>by
    obtain⟨r,hr,rfl⟩:=hp;obtain⟨r',hr',rfl⟩:=hq;rw[Ak Q.recs.keys hr hr' e]) (fun q hq=>by
    obtain⟨r,hr,_,_,_,e⟩:=(Q.kpt i hi q).mp hq;exact⟨r,hr,e⟩) (fun q hq=>by
    obtain⟨r,hr,_,_,_,e⟩:=(Q.kpt one h1 q).mp hq;exact⟨r,hr,e⟩),Q.kpt i hi,Q.kpt one h1,ja,show((S i).hear0 i (S one) one).knows=_ from kn']
   have cs:∀ r∈rs,_:=fun r hr=>mB (f:=moR c kn one i) (Q.recs.inn r hr).1 fun j _=>moL j;constructor
   ·rintro⟨⟨r,hr,g1,g2,_,rfl⟩|⟨r,hr,g1,g2,_,rfl⟩,g3⟩
    ·exact⟨r,hr,g1,(sJ r hr).mpr (.inl g2),(cs r hr).mp g3,rfl⟩
    ·exact⟨r,hr,g1,(sJ r hr).mpr (.inr g2),(cs r hr).mp g3,rfl⟩
   ·rintro⟨r,hr,g1,g2,g3,rfl⟩
    refine⟨?_,(cs r hr).mpr g3⟩;obtain⟨j,hj,w⟩:=g3;have gw:=gr r hr j hj w
    rcases(sJ r hr).mp g2 with z|z
    ·exact .inl ⟨r,hr,g1,z,⟨j,hj,gw.1⟩,rfl⟩
    ·exact .inr ⟨r,hr,g1,z,⟨j,hj,gw.2⟩,rfl⟩
  ·unfold gO;rw[gB h,aZ h];exact Q.kpt i hi kv
end
theorem drops_mem:∀ {ks:List (List Key)}{T:List (List Key×D)},p∈ks.foldl eA T↔p∈T/\p.1∉ks
 |[],T=>by simp
 |k::ks,T=>by
  show p∈ks.foldl eA (eA T k)↔_;rw[drops_mem];unfold eA;rw[bu,aj,not_or];constructor
  ·rintro⟨⟨h1,h2⟩,h3⟩
   exact⟨h1,by simpa using h2,h3⟩
  ·rintro⟨h1,h2,h3⟩
   exact⟨⟨h1,by simpa using h2⟩,h3⟩
section
variable {c:Nat}{own:Nat->Nat}{S:Nat->Hd}{rs:List Rec}{kn:Nat->Nat->List Int}{a:Nat}
theorem Hd.In.tkey {hd:Hd} (W:hd.In c own) (hp:p∈hd.table):aX p.2=p.1:=by
 obtain⟨x,y,_,_,_,e1,u,w,e2⟩:=W.tk p hp;rw[e2,e1];rfl
theorem BE (I:HInv c own S) (ha:a<c):(S a).next a=((own a+1:Nat):Int):=by
 unfold Hd.next;rw[(I a ha).2];omega
theorem KU (I:HInv c own S) (ha:a<c):fH a ((own a+1:Nat):Int)∉(S a).table.map (·.1):=fun z=>by
 obtain⟨p,hp,e⟩:=ak.mp z;obtain⟨x,y,_,_,g3,e1,_⟩:=(I a ha).1.tk p hp;rw[e1] at e;unfold fH at e;simp at e
 have:x=a:=by omega
 rw[this] at g3;omega
theorem jW (Q:Rel c own S rs kn) (I:HInv c own S) (ha:a<c):((S a).bump a).knows=(S a).knows.set a ((kn a a).set a ((own a+1:Nat):Int)):=by
 show(S a).knows.set a (((S a).seen a).set a (((S a).seen a).getD a 0+1))=_
 rw[(I a ha).2,Q.seen ha];rfl
theorem Bx (I:HInv c own S) (ha:a<c) (x:Str) (v:Int) (e:D):e∈((S a).put a x v).table.map (·.2)↔e∈(S a).table.map (·.2)∨xa (D.tup [.str x,mkD a ((own a+1:Nat):Int),.int v])=xa e:=by
 show e∈(putD (S a).table (fH a ((S a).next a)) (.tup [.str x,mkD a ((S a).next a),.int v])).map (·.2)↔_;rw[BE I ha,nR (KU I ha),c7,cm];simp only[bg,k9,cq,Option.some.injEq];constructor
 ·rintro(z|z)
  ·exact .inl z
  ·exact .inr z.symm
 ·rintro(z|z)
  ·exact .inl z
  ·exact .inr z.symm
theorem JL (Q:Rel c own S rs kn) (I:HInv c own S) (ha:a<c) (x:Str) (v:Int):HInv c (cQ own a) (mR S a ((S a).put a x v))/\Rel c (cQ own a) (mR S a ((S a).put a x v)) (rs++[⟨a,own a+1,xa (x,v),[]⟩]) (upF kn a (upF (kn a) a ((kn a a).set a ((own a+1:Nat):Int)))):=by
 have W:=(I a ha).1;refine⟨I.updB (W.put ha (I a ha).2 x v) (jV W ha (I a ha).2),Q.note I ha (r:=⟨a,own a+1,xa (x,v),[]⟩) rfl rfl (by simp) (fun q hq=>by simp at hq) (fun q hq=>by simp at hq) (jW Q I ha) (fun e=> ?_) fun kv=>⟨fun h=>⟨.inl h,by rw[show((S a).put a x v).knows=_ from jW Q I ha];exact Lg Q I ha _ h⟩,?_⟩⟩
 ·rw[Bx I ha x v e];show _↔(_∨xa _=xa e)/\_;simp
 ·rintro⟨h|⟨h,_⟩,_⟩
  ·exact h
  ·exact absurd rfl h
theorem wQ (I:HInv c own S) (ha:a<c) (ks:List (List Key)):kv∈(if ks=[] then(S a).kept else putD (S a).kept (fH a ((S a).next a)) (.tup (ks.map bC)))↔kv∈(S a).kept∨ks≠[]/\kv=(fH a ((own a+1:Nat):Int),D.tup (ks.map bC)):=by
 by_cases h:ks=[]
 ·rw[if_pos h];simp[h]
 ·rw[if_neg h,BE I ha,nR fun z=>by
   obtain⟨p,hp,e⟩:=ak.mp z;obtain⟨x,y,_,_,g3,e1⟩:=(I a ha).1.kk p hp;rw[e1] at e;unfold fH at e;simp at e
   have:x=a:=by omega
   rw[this] at g3;omega]
  simp[h]
theorem sU (Q:Rel c own S rs kn) (I:HInv c own S) (O:(S a).Ok c) (ha:a<c) (x:Str):∀ q∈(S a).marksK x,eV (kn a a) q=true:=fun q hq=>by
 obtain⟨p,hp,rfl⟩:=ak.mp (O.marksIn x q hq);have h1:p.2∈eI rs (kn a a):=(Q.tab a ha p.2).mp (ak.mpr ⟨p,hp,rfl⟩);obtain⟨⟨r,hr,hs,he⟩,_⟩:=mem_pres.mp h1;rw[<- (I a ha).1.tkey hp,gF he,mK];exact hs
theorem CD (Q:Rel c own S rs kn) (I:HInv c own S) (c0:0<c) (c8:c<=8) (ht:tot c own<63) (ha:a<c) (x:Str) (v:Int):HInv c (cQ own a) (mR S a ((S a).change a x v))/\Rel c (cQ own a) (mR S a ((S a).change a x v)) (rs++[⟨a,own a+1,xa (x,v),(S a).marksK x⟩]) (upF kn a (upF (kn a) a ((kn a a).set a ((own a+1:Nat):Int)))):=by
 have W:=(I a ha).1;have O:=W.ok c0 c8 (by omega);have P:=W.put ha (I a ha).2 x v;have T:=P.takeOut0 (mk:=fH a ((S a).next a)) (ks:=(S a).marksK x) (lM ha (I a ha).2) (O.marksLen x) fun q hq=>(W.marks O x q hq).mono (iJ own a);refine⟨I.updB T.forget (jV W ha (I a ha).2),Q.note I ha (r:=⟨a,own a+1,xa (x,v),(S a).marksK x⟩) rfl rfl (O.marksLen x) (W.marks O x) (sU Q I O ha x) (jW Q I ha) (fun e=> ?_) fun kv=>by
  show kv∈List.filter _ _↔_;rw[bu,ja];exact and_congr (wQ I ha _) Iff.rfl⟩
 show e∈(((S a).marksK x).foldl eA ((S a).put a x v).table).map (·.2)↔(_∨xa _=xa e)/\_;rw[<- Bx I ha x v e];constructor
 ·intro z;obtain⟨p,hp,rfl⟩:=ak.mp z;have hp':=drops_mem.mp hp;exact⟨ak.mpr ⟨p,hp'.1,rfl⟩,by rw[P.tkey hp'.1];exact hp'.2⟩
 ·rintro⟨z,w⟩
  obtain⟨p,hp,rfl⟩:=ak.mp z;rw[P.tkey hp] at w;exact ak.mpr ⟨p,drops_mem.mpr ⟨hp,w⟩,rfl⟩
theorem GN (Q:Rel c own S rs kn) (I:HInv c own S) (c0:0<c) (c8:c<=8) (ht:tot c own<63) (ha:a<c) (x:Str) (hm:(S a).marksK x≠[]):HInv c (cQ own a) (mR S a ((S a).take a x))/\Rel c (cQ own a) (mR S a ((S a).take a x)) (rs++[⟨a,own a+1,xb,(S a).marksK x⟩]) (upF kn a (upF (kn a) a ((kn a a).set a ((own a+1:Nat):Int)))):=by
 have W:=(I a ha).1;have O:=W.ok c0 c8 (by omega);have P:=W.bump ha (I a ha).2;have T:=P.takeOut0 (mk:=fH a ((S a).next a)) (ks:=(S a).marksK x) (lM ha (I a ha).2) (O.marksLen x) fun q hq=>(W.marks O x q hq).mono (iJ own a);have et:(S a).take a x=((S a).bump a).takeOut (fH a ((S a).next a)) ((S a).marksK x):=by unfold Hd.take;rw[if_neg hm]
 rw[et];refine⟨I.updB T.forget (jV W ha (I a ha).2),Q.note I ha (r:=⟨a,own a+1,xb,(S a).marksK x⟩) rfl rfl (O.marksLen x) (W.marks O x) (sU Q I O ha x) (jW Q I ha) (fun e=> ?_) fun kv=>by
  show kv∈List.filter _ _↔_;rw[bu,ja];exact and_congr (wQ I ha _) Iff.rfl⟩
 show e∈(((S a).marksK x).foldl eA (S a).table).map (·.2)↔(_∨xb=xa e)/\_;constructor
 ·intro z;obtain⟨p,hp,rfl⟩:=ak.mp z;have hp':=drops_mem.mp hp;exact⟨.inl (ak.mpr ⟨p,hp'.1,rfl⟩),by rw[W.tkey hp'.1];exact hp'.2⟩
 ·rintro⟨z|z,w⟩
  ·obtain⟨p,hp,rfl⟩:=ak.mp z;rw[W.tkey hp] at w;exact ak.mpr ⟨p,drops_mem.mpr ⟨hp,w⟩,rfl⟩
  ·cases z
theorem lO (I:HInv c own S) (c0:0<c) (c8:c<=8) (ht:tot c own<64) (hi:i<c) (hj:j<c):HInv c own (gO S j i):=by
 have Wi:=(I i hi).1;have Wj:=(I j hj).1;have H0:=Wi.hear0 Wj (Wi.ok c0 c8 ht) (Wj.ok c0 c8 ht) hi hj;exact I.upd H0.forget (BQ Wi Wj hi hj (I i hi).2)
end
theorem LawAt.congr (L:LawAt B ω c h dd oo kk ks rs kn) (e:∀ i j,i<c->j<c->kn i j=kn' i j):LawAt B ω c h dd oo kk ks rs kn':=
 ⟨L.obj,L.deeds,L.order,L.known,fun i hi=>by
  obtain⟨ds,h1,h2⟩:=L.row i hi;exact⟨ds,h1,h2.1,fun j hj=>by rw[<- e i j hi hj];exact h2.2 j hj⟩,fun i j hi hj=>by rw[<- e i j hi hj];exact L.len i j hi hj,L.inj,L.out,L.nd,L.low,L.bas,L.keys,L.ra⟩
theorem sS {a b z:Int}:mx a b<=z↔a<=z/\b<=z:=by unfold mx;split <;> omega
theorem Dj {a b:Int} (h:∀ z,a<=z↔b<=z):a=b:=Int.le_antisymm ((h b).mpr (jy b)) ((h a).mp (jy a))
theorem Lb (ha:a<c) (hb:b<c) (hne:a≠b) (len:∀ i j,i<c->j<c->(kn i j).length=c) (le:∀ i j,i<c->j<c->∀ t,t<c->(kn i j).getD t 0<=(kn j j).getD t 0) (k1 k2 k3 l1 l2 l3:Nat->Nat->List Int)
  (e1:k1=upF kn b (moR c kn a b)) (e2:k2=upF k1 a (moR c k1 b a)) (e3:k3=upF k2 b (moR c k2 a b))
  (f1:l1=upF kn a (moR c kn b a)) (f2:l2=upF l1 b (moR c l1 a b)) (f3:l3=upF l2 a (upF (l2 a) b (l2 a a))):∀ i j,i<c->j<c->l3 i j=k3 i j:=by
 intro i j hi hj;have moL:∀(q:Nat->Nat->List Int) x y k,(moR c q x y k).length=c:=fun q x y k=>by unfold moR;simp
 have moG:∀(q:Nat->Nat->List Int) x y k t,t<c->(moR c q x y k).getD t 0=mo q x y k t:=fun q x y k t ht=>tJ ht
 -- the values
 have K1b:∀ k t,t<c->(k1 b k).getD t 0=mo kn a b k t:=fun k t ht=>by rw[e1,bA];exact moG _ _ _ _ _ ht
 have K1a:∀ k,k1 a k=kn a k:=fun k=>by rw[e1,aZ hne]
 have K2a:∀ k t,t<c->(k2 a k).getD t 0=mo k1 b a k t:=fun k t ht=>by rw[e2,bA];exact moG _ _ _ _ _ ht
 have K2b:∀ k,k2 b k=k1 b k:=fun k=>by rw[e2,aZ (bz hne)]
 have K3b:∀ k t,t<c->(k3 b k).getD t 0=mo k2 a b k t:=fun k t ht=>by rw[e3,bA];exact moG _ _ _ _ _ ht
 have K3a:∀ k,k3 a k=k2 a k:=fun k=>by rw[e3,aZ hne]
 have L1a:∀ k t,t<c->(l1 a k).getD t 0=mo kn b a k t:=fun k t ht=>by rw[f1,bA];exact moG _ _ _ _ _ ht
 have L1b:∀ k,l1 b k=kn b k:=fun k=>by rw[f1,aZ (bz hne)]
 have L2b:∀ k t,t<c->(l2 b k).getD t 0=mo l1 a b k t:=fun k t ht=>by rw[f2,bA];exact moG _ _ _ _ _ ht
 have L2a:∀ k,l2 a k=l1 a k:=fun k=>by rw[f2,aZ hne]
 have lenK:∀ k,k<c->(k3 a k).length=c/\(k3 b k).length=c:=fun k hk=>⟨by rw[K3a,e2,bA];exact moL _ _ _ _,by rw[e3,bA];exact moL _ _ _ _⟩;have lenL1:∀ k,(l1 a k).length=c:=fun k=>by rw[f1,bA];exact moL _ _ _ _
 by_cases hia:i=a
 ·subst hia;have l3a:l3 i j=if j=b then l1 i i else l1 i j:=by
   rw[f3,bA]
   by_cases h:j=b
   ·rw[if_pos h,h,bA,L2a]
   ·rw[if_neg h,aZ h,L2a]
  rw[l3a];refine nZ (c:=c) (by split <;> exact lenL1 _) (lenK j hj).1 fun t ht=> ?_;rw[K3a,K2a j t ht];have u1:=le i b hi hb t ht;have u2:=le b i hb hi t ht
  by_cases h:j=b
  ·subst h;rw[if_pos rfl,L1a i t ht];unfold mo;rw[if_pos rfl,if_neg (bz hne),K1b j t ht,K1a];unfold mo;rw[if_pos rfl];exact Dj fun z=>by simp only[sS];omega
  ·rw[if_neg h,L1a j t ht]
   by_cases h2:j=i
   ·subst h2;unfold mo;rw[if_pos rfl,if_pos rfl,K1b j t ht,K1b b t ht,K1a];unfold mo;rw[if_neg h,if_pos rfl];exact Dj fun z=>by simp only[sS];omega
   ·unfold mo;rw[if_neg h2,if_neg h2,K1b j t ht,K1a];unfold mo;rw[if_neg h];exact Dj fun z=>by simp only[sS];omega
 ·by_cases hib:i=b
  ·subst hib;have l3b:l3 i j=l2 i j:=by rw[f3,aZ hia]
   rw[l3b];refine nZ (c:=c) (by rw[f2,bA];exact moL _ _ _ _) (lenK j hj).2 fun t ht=> ?_;rw[L2b j t ht,K3b j t ht];have u1:=le a i ha hi t ht;have u2:=le i a hi ha t ht
   by_cases h:j=i
   ·subst h;unfold mo;rw[if_pos rfl,if_pos rfl,L1a j t ht,L1a a t ht,L1b,K2a j t ht,K2a a t ht,K2b,K1b j t ht];unfold mo;simp only[if_true,if_neg hne,if_neg (bz hne),K1b _ t ht,K1a];unfold mo;simp only[if_true,if_neg hne,if_neg (bz hne)];exact Dj fun z=>by simp only[sS];omega
   ·by_cases h2:j=a
    ·subst h2;unfold mo;rw[if_neg h,if_neg h,L1a j t ht,L1b,K2a j t ht,K2b,K1b j t ht];unfold mo;simp only[if_true,if_neg h,K1b _ t ht,K1a];unfold mo;simp only[if_true,if_neg h];exact Dj fun z=>by simp only[sS];omega
    ·unfold mo;rw[if_neg h,if_neg h,L1a j t ht,L1b,K2a j t ht,K2b,K1b j t ht];unfold mo;simp only[if_neg h,if_neg h2,K1b _ t ht,K1a];unfold mo;simp only[if_neg h,if_neg h2];exact Dj fun z=>by simp only[sS];omega
  ·rw[f3,aZ hia,f2,aZ hib,f1,aZ hia,e3,aZ hib,e2,aZ hia,e1,aZ hib]
section
variable {c:Nat}{own:Nat->Nat}{S:Nat->Hd}{rs:List Rec}{kn:Nat->Nat->List Int}{a b i t:Nat}
theorem RV (c:Nat):Rel c (fun _=>0) (fun _=>Hd0 c) [] (fun _ _=>aw c 0) where
 knows:=fun i hi=>by
  show aw c (aw c (0:Int))=_;apply jb;intro j;rw[fz,ax]
  by_cases h:j<c
  ·rw[if_pos h,di h];rfl
  ·rw[if_neg h,cu (by simp;omega)];rfl
 recs:=⟨by simp,fun r hr=>by simp at hr,fun r hr=>by simp at hr⟩
 tab:=fun i hi e=>by simp[Hd0,eI,bG]
 clo:=fun i hi r hr=>by simp at hr
 le:=fun i j hi hj t ht=>jy _
 kpt:=fun i hi kv=>by simp[Hd0,KpR]
end
noncomputable def Deed.n1:Deed->Int
 |.put a _ _=>a
 |.change a _ _=>a
 |.take a _=>a
 |.tell a _=>a
 |.meet a _=>a
noncomputable def Deed.n2:Deed->D
 |.put _ x _=>.str x
 |.change _ x _=>.str x
 |.take _ x=>.str x
 |.tell _ b=>.int b
 |.meet _ b=>.int b
noncomputable def okN (c:Nat):D->Bool
 |.int n=>decide (0<=n/\n<c)
 |_=>true
noncomputable abbrev mF (h c:Nat) (d:D) (v3 v4 v5 v6 v7 v8:Option D):Rho:=[xa (.obj h),xa d,xa (.int c),v3,v4,v5,v6,v7,v8]
section
variable {ω:Om}{h c:Nat}{v3 v4 v5 v6 v7 v8:Option D}
theorem FN:aE (mF h c d (xa (.int n)) v4 v5 v6 v7 v8) ω=if 0<=n/\n<c then xa (.nx (mF h c d (xa (.int n)) v4 v5 v6 v7 v8),ω) else xa (.rt (.str "no hand"),ω):=by
 have t:BD (iV (iP (nU "str" (zV 3)))) (oOr (bX (o2 (lf gLt) (zV 3) (zI 0))) (bX (o2 (lf gGe) (zV 3) (zV 2)))) (mF h c d (xa (.int n)) v4 v5 v6 v7 v8) ω=xa (.ok (!decide (0<=n/\n<c)),ω):=by
  have t1:iV (iP (nU "str" (zV 3))) (mF h c d (xa (.int n)) v4 v5 v6 v7 v8) ω=xa (.ok true,ω):=gA (k:=false) (tru_ok (mV (aB (d:=.int n) rfl) rfl));unfold BD;rw[bJ t1];show oOr _ _ _ ω=_;unfold oOr;rw[bJ (mQ (a:=n) (z:=0) (aB rfl))]
  by_cases h0:n<0
  ·rw[decide_eq_true h0];show xa (Rz.ok true,ω)=_;rw[decide_eq_false (by omega)];rfl
  ·rw[decide_eq_false h0];show bX (o2 (lf gGe) (zV 3) (zV 2)) _ ω=_;rw[bU (k:=decide ((c:Int)<=n)) (ω1:=ω) (fE (aB (d:=.int n) rfl) (aB (d:=.int c) rfl) rfl)]
   by_cases h1:(c:Int)<=n
   ·rw[decide_eq_true h1,decide_eq_false (by omega)];rfl
   ·rw[decide_eq_false h1,decide_eq_true (by omega)];rfl
 unfold aE
 by_cases hv:0<=n/\n<c
 ·rw[if_pos hv];rw[decide_eq_true hv] at t;rw[iT t];rfl
 ·rw[if_neg hv];rw[decide_eq_false hv] at t;rw[jX t];rfl
theorem LM:aE (mF h c d (xa (.str x)) v4 v5 v6 v7 v8) ω=xa (.nx (mF h c d (xa (.str x)) v4 v5 v6 v7 v8),ω):=by
 have t:BD (iV (iP (nU "str" (zV 3)))) (oOr (bX (o2 (lf gLt) (zV 3) (zI 0))) (bX (o2 (lf gGe) (zV 3) (zV 2)))) (mF h c d (xa (.str x)) v4 v5 v6 v7 v8) ω=xa (.ok false,ω):=by
  have t1:iV (iP (nU "str" (zV 3))) (mF h c d (xa (.str x)) v4 v5 v6 v7 v8) ω=xa (.ok false,ω):=gA (k:=true) (tru_ok (mV (aB (d:=.str x) rfl) rfl));unfold BD;rw[bJ t1];rfl
 unfold aE;rw[iT t];rfl
theorem OJ (d:Deed):oIT (o2 Ay (oSl (zV 1) (dSo (dC (.int 1))) (dSo (dC (.int 2)))) (oSl (zV 1) (dSo (dC (.int 2))) (dSo (dC (.int 3))))) (mF h c d.d xb xb xb xb xb xb) ω=xa (.ok ([.int d.n1,d.n2],bM),ω):=by
 cases d with
 |put a x v=>rfl
 |change a x v=>rfl
 |take a x=>rfl
 |tell a b=>rfl
 |meet a b=>rfl
theorem oA (d:Deed):sNx (bD (oIT (o2 Ay (oSl (zV 1) (dSo (dC (.int 1))) (dSo (dC (.int 2)))) (oSl (zV 1) (dSo (dC (.int 2))) (dSo (dC (.int 3)))))) (aS 3) aE) (mF h c d.d xb xb xb xb xb xb) ω=if(0<=d.n1/\d.n1<c)/\okN c d.n2=true then xa (.nx (mF h c d.d (xa d.n2) xb xb xb xb xb),ω) else xa (.rt (.str "no hand"),ω):=by
 have run:∀ r,bO (aS 3) bM aE [.int d.n1,d.n2] (mF h c d.d xb xb xb xb xb xb) ω=xa (r,ω)->(∀ x,r≠ .ex x)->sNx (bD (oIT (o2 Ay (oSl (zV 1) (dSo (dC (.int 1))) (dSo (dC (.int 2)))) (oSl (zV 1) (dSo (dC (.int 2))) (dSo (dC (.int 3)))))) (aS 3) aE) (mF h c d.d xb xb xb xb xb xb) ω=xa (r,ω):=by
  intro r e hr
  have:bD (oIT (o2 Ay (oSl (zV 1) (dSo (dC (.int 1))) (dSo (dC (.int 2)))) (oSl (zV 1) (dSo (dC (.int 2))) (dSo (dC (.int 3)))))) (aS 3) aE (mF h c d.d xb xb xb xb xb xb) ω=xa (r,ω):=by
   unfold bD;rw[bS (OJ d)];exact e
  unfold sNx;rw[this];cases r with
  |ex x=>exact absurd rfl (hr x)
  |_=>rfl
 have s1:bO (aS 3) bM aE [.int d.n1,d.n2] (mF h c d.d xb xb xb xb xb xb) ω=(match aE (mF h c d.d (xa (.int d.n1)) xb xb xb xb xb) ω with
   |none=>xb
   |some (.nx ρ2,ω2)=>bO (aS 3) bM aE [d.n2] ρ2 ω2
   |some (.ct ρ2,ω2)=>bO (aS 3) bM aE [d.n2] ρ2 ω2
   |some (.bk ρ2,ω2)=>xa (.nx ρ2,ω2)
   |some (.rt d,ω2)=>xa (.rt d,ω2)
   |some (.ex _,_)=>xb):=rfl
 have s2:bO (aS 3) bM aE [d.n2] (mF h c d.d (xa (.int d.n1)) xb xb xb xb xb) ω=(match aE (mF h c d.d (xa d.n2) xb xb xb xb xb) ω with
   |none=>xb
   |some (.nx ρ2,ω2)=>xa (.nx ρ2,ω2)
   |some (.ct ρ2,ω2)=>xa (.nx ρ2,ω2)
   |some (.bk ρ2,ω2)=>xa (.nx ρ2,ω2)
   |some (.rt d,ω2)=>xa (.rt d,ω2)
   |some (.ex _,_)=>xb):=by
  show(match aE (mF h c d.d (xa d.n2) xb xb xb xb xb) ω with
   |none=>xb
   |some (.nx ρ2,ω2)=>bO (aS 3) bM aE [] ρ2 ω2
   |some (.ct ρ2,ω2)=>bO (aS 3) bM aE [] ρ2 ω2
   |some (.bk ρ2,ω2)=>xa (.nx ρ2,ω2)
   |some (.rt d,ω2)=>xa (.rt d,ω2)
   |some (.ex _,_)=>xb)=_
  rfl
 rw[FN] at s1
 by_cases h1:0<=d.n1/\d.n1<c
 ·rw[if_pos h1] at s1;have s1':bO (aS 3) bM aE [.int d.n1,d.n2] (mF h c d.d xb xb xb xb xb xb) ω=bO (aS 3) bM aE [d.n2] (mF h c d.d (xa (.int d.n1)) xb xb xb xb xb) ω:=s1;have shape:(∃ n,d.n2=.int n)∨∃ x,d.n2=.str x:=by
   cases d with
   |put a x v=>exact .inr ⟨x,rfl⟩
   |change a x v=>exact .inr ⟨x,rfl⟩
   |take a x=>exact .inr ⟨x,rfl⟩
   |tell a b=>exact .inl ⟨b,rfl⟩
   |meet a b=>exact .inl ⟨b,rfl⟩
  rcases shape with⟨n,e⟩|⟨x,e⟩
  ·rw[e,FN] at s2
   by_cases h2:0<=n/\n<c
   ·rw[if_pos h2] at s2;rw[if_pos ⟨h1,by rw[e];exact decide_eq_true h2⟩];rw[e] at s1' ⊢;exact run _ (by rw[e];exact s1'.trans s2) (by intro x;exact fun z=>nomatch z)
   ·rw[if_neg h2] at s2;rw[if_neg (fun z=>by rw[e] at z;exact h2 (of_decide_eq_true z.2))];rw[e] at s1';exact run _ (by rw[e];exact s1'.trans s2) (by intro x;exact fun z=>nomatch z)
  ·rw[e,LM] at s2;rw[if_pos ⟨h1,by rw[e];rfl⟩];rw[e] at s1' ⊢;exact run _ (by rw[e];exact s1'.trans s2) (by intro x;exact fun z=>nomatch z)
 ·rw[if_neg h1] at s1;rw[if_neg (fun z=>h1 z.1)];exact run _ s1 (by intro x;exact fun z=>nomatch z)
end
section
variable {B ω:Om}{c h dd oo kk:Nat}{ks:Nat->Nat}{rs:List Rec}{kn:Nat->Nat->List Int}{own:Nat->Nat}{S:Nat->Hd}
noncomputable abbrev Kw:OS:=(aG (dG (bX (o2 (jT 8) (zX (zV 1) (zI 0)) (zS "put"))) (aW (bR cW (aC (zV 0) (aC (zV 4) (aC (oSl (zV 1) (dSo (dC (.int 2))) dNo) (aC (zL aO) aO)))))) bN) (aG (dG (bX (o2 (jT 8) (zX (zV 1) (zI 0)) (zS "change"))) (aW (bR cW (aC (zV 0) (aC (zV 4) (aC (oSl (zV 1) (dSo (dC (.int 2))) dNo) (aC (zV 6) aO)))))) bN) (aG (dG (bX (o2 (jT 8) (zV 6) (zL aO))) (aW (oP (dC .non))) bN) (aG (bT (bR cW (aC (zV 0) (aC (zV 4) (aC (oP (dC .non)) (aC (zV 6) aO)))))) (aW (zV 6))))))
theorem iA (h1:ρ[1]?=xa (xa d)) (h0:pZ ω d (.int 0)=xa (.str x)):bX (o2 (jT 8) (zX (zV 1) (zI 0)) (zS y)) ρ ω=xa (.ok (decide (x=y)),ω):=bU (dY (aJ (aB h1) aR h0) aR (by
 show pu ((eqD 8 (.str x) (.str y)).map D.bl) ω=_;rw[iE];rfl))
theorem Hj:∀ {d:Deed},(∃ x,d.n2=.str x)->bX (o2 (lf (gIn 7)) (zX (zV 1) (zI 0)) (zL (aC (zS "put") (aC (zS "take") (aC (zS "change") aO))))) (mF h c d.d (xa d.n2) (xa (.int d.n1)) xb xb xb xb) ω=xa (.ok true,ω)
 |.put a x v,_=>rfl
 |.change a x v,_=>rfl
 |.take a x,_=>rfl
 |.tell a b,⟨_,e⟩=>by cases e
 |.meet a b,⟨_,e⟩=>by cases e
theorem nN:∀ {d:Deed},(∃ b,d.n2=.int b)->bX (o2 (lf (gIn 7)) (zX (zV 1) (zI 0)) (zL (aC (zS "put") (aC (zS "take") (aC (zS "change") aO))))) (mF h c d.d (xa d.n2) (xa (.int d.n1)) xb xb xb xb) ω=xa (.ok false,ω)
 |.put a x v,⟨_,e⟩=>by cases e
 |.change a x v,⟨_,e⟩=>by cases e
 |.take a x,⟨_,e⟩=>by cases e
 |.tell a b,_=>rfl
 |.meet a b,_=>rfl
theorem II (d:Deed):pZ ω d.d (.int 1)=xa (.int d.n1):=by cases d <;> rfl
theorem IH (d:Deed):pZ ω d.d (.int 2)=xa d.n2:=by cases d <;> rfl
theorem qB (L:LawAt B ω c h dd oo kk ks rs kn) {d:Deed} (hb:¬((0<=d.n1/\d.n1<c)/\okN c d.n2=true)):cE [.obj h,d.d] ω=xa (.ok (.str "no hand"),ω):=by
 refine aT rfl ?_;unfold bV;refine(aK (L.gCount (aB rfl))).trans ?_;refine uL (r:=.ok (.str "no hand")) ?_
 have:=oA (ω:=ω) (h:=h) (c:=c) d
 rw[if_neg hb] at this;exact this
theorem vJ {d:Deed} (L:LawAt B ω c h dd oo kk ks rs kn) (I:HInv c own S) (Q:Rel c own S rs kn) (c0:0<c) (c8:c<=8) (ht:tot c own<64) (ha:a<c) (e1:d.n1=a) (e2:d.n2=.str x)
  (e:Kw (mF h c d.d (xa (.str x)) (xa (.int a)) (xa (.lst (S a).ents)) (xa (.lst (((S a).marksK x).map bC))) xb xb) (ω++[.ml (bG rs (kn a a))])=xa (JK r,ω')):cE [.obj h,d.d] ω=xa (r,ω'):=by
 have W:=(I a ha).1;have O:=W.ok c0 c8 ht;obtain⟨rd,i1,r1⟩:=L.ixRow (ω:=ω) (fun _ _=>rfl) ha ha;have rl:=lF Q.recs;have pr:=CG L c0 Q.recs r1 (L.len _ _ ha ha) (by omega) (FJ O Q.recs ht (Q.tab a ha));have lp:=oA (ω:=ω) (h:=h) (c:=c) d;rw[if_pos ⟨by rw[e1];omega,by rw[e2];rfl⟩] at lp;refine dS rfl ?_;unfold bV;refine(aK (L.gCount (aB rfl))).trans ?_;refine(bB lp).trans ?_;refine(aK (aJ (aB (d:=d.d) rfl) aR (II d))).trans ?_;refine uL ?_;refine(jX (Hj ⟨x,e2⟩)).trans ?_;show aG _ _ (mF h c d.d (xa d.n2) (xa (.int d.n1)) xb xb xb xb) ω=_;rw[e1,e2];refine(aK (aV (aA (aB (d:=.obj h) rfl) (aA (aJ (aJ (L.gKnown (aB (d:=.obj h) rfl)) (aB (d:=.int a) rfl) (L.ixKnown ha)) (aB (d:=.int a) rfl) i1) aD)) pr)).trans ?_;refine(aK (d:=.lst (((S a).marksK x).map bC)) (ω1:=ω++[.ml (bG rs (kn a a))]) (gE (ds:=(S a).ents) (chk:=bM) (ω1:=ω++[.ml (bG rs (kn a a))]) (by
  unfold oIL;rw[bJ (aB (d:=.lst (S a).ents) rfl)];rfl) (ip (eE O.entsLen)) (by
  have e0:((S a).marksK x).map bC=((S a).ents.filter (Lk x)).map fun q=>bC (aX q):=by
   unfold Hd.marksK;rw[fk];rfl
  rw[e0];refine eM (fun ρ=>∃ u,ρ=[u,xa d.d]) rfl ⟨_,rfl⟩ fun q hq ρ hρ=> ?_;obtain⟨u,rfl⟩:=hρ;obtain⟨y,p1,p2,v,rfl⟩:=O.entsEnt q hq;refine⟨_,rfl,⟨_,rfl⟩,?_,fun _=>aJ (aB (d:=.tup [.str y,.tup [.int p1,.int p2],.int v]) rfl) aR rfl⟩;refine bU (dY (aJ (aB (d:=.tup [.str y,.tup [.int p1,.int p2],.int v]) rfl) aR rfl) (aJ (aB (d:=d.d) rfl) aR (by rw[IH,e2])) ?_);show pu ((eqD 8 (.str y) (.str x)).map D.bl) _=_;rw[iE];rfl))).trans ?_
 exact e
def Cn (own:Nat->Nat) (rs:List Rec):Prop:=∀ t,rs.countP (fun r=>r.a==t)=own t
theorem Cn.snoc {own:Nat->Nat}{rs:List Rec}{r:Rec} (N:Cn own rs) (h:r.a=a):Cn (cQ own a) (rs++[r]):=fun t=>by
 rw[List.countP_append,N t,List.countP_singleton,h];unfold cQ
 by_cases e:t=a
 ·rw[if_pos e,if_pos (by simp[e])]
 ·rw[if_neg e,if_neg (by simp;exact fun z=>e z.symm)];omega
theorem OH (L:LawAt B ω c h dd oo kk ks rs kn) (I:HInv c own S) (Q:Rel c own S rs kn) (c0:0<c) (c8:c<=8) (ht:tot c own<63) (N:Cn own rs) (d:Deed):∃ ω' ks' rs' kn' own' ans,cE [.obj h,d.d] ω=xa (.ok ans,ω')/\LawAt B ω' c h dd oo kk ks' rs' kn'/\HInv c own' (step c S d).2/\Rel c own' (step c S d).2 rs' kn'/\tot c own'<=tot c own+1/\Cn own' rs':=by
 have nk:∀ {a:Nat} (p:Option (Str×Int)) (o:List (List Key)),a<c->(⟨a,own a+1,p,o⟩:Rec).key∉rs.map Rec.key:=fun {a} p o ha z=>by
  obtain⟨q,hq,e⟩:=ak.mp z
  have:=Q.recs.inn q hq
  unfold Rec.key fH at e;simp at e;have e1:q.a=a:=by omega
  rw[e1] at this;omega
 have tb:∀ {a:Nat},a<c->tot c (cQ own a)<=tot c own+1:=fun {a} ha=>by rw[jM,if_pos ha];omega
 have rl:=lF Q.recs;have ob:∀ {a:Nat},a<c->(((own a+1:Nat)):Int)=(kn a a).getD a 0+1:=fun {a} ha=>by rw[Q.ownE I ha];omega
 cases d with
 |put a x v=>
  by_cases hv:0<=a/\a<(c:Int)
  ·obtain⟨n,rfl⟩:=Int.eq_ofNat_of_zero_le hv.1;have hn:n<c:=by omega
   have e0:(step c S (.put n x v)).2=mR S n ((S n).put n x v):=by
    show(if 0<=(n:Int)/\(n:Int)<c then(_,_) else(_,_):D×(Nat->Hd)).2=_
    rw[if_pos hv];rfl
   rw[e0];have RP:=JL Q I hn x v;have L1:=L.app c0 [.ml (bG rs (kn n n))];obtain⟨ω',e1,L2,_⟩:=uU (own':=n) L1 c0 hn (r:=⟨n,own n+1,xa (x,v),[]⟩) rfl (ob hn) (nk _ _ hn) (by omega);refine⟨ω',ks,_,_,cQ own n,_,vJ (d:=.put n x v) L I Q c0 c8 (by omega) hn rfl rfl (r:=.ok (mkD n ((own n+1:Nat):Int))) ?_,L2,RP.1,RP.2,tb hn,N.snoc rfl⟩;exact Dc (r:=.ok _) (by rw[iA (x:="put") rfl rfl];rfl) (aV (aA (aB rfl) (aA (aB rfl) (aA (a:=.tup [.str x,.int v]) rfl (aA (a:=.lst []) rfl aD)))) e1)
  ·have e0:(step c S (.put a x v)).2=S:=by
    show(if 0<=a/\a<(c:Int) then(_,_) else(_,_):D×(Nat->Hd)).2=_
    rw[if_neg hv]
   rw[e0];exact⟨ω,ks,rs,kn,own,_,qB L (d:=.put a x v) fun z=>hv z.1,L,I,Q,by omega,N⟩
 |change a x v=>
  by_cases hv:0<=a/\a<(c:Int)
  ·obtain⟨n,rfl⟩:=Int.eq_ofNat_of_zero_le hv.1;have hn:n<c:=by omega
   have e0:(step c S (.change n x v)).2=mR S n ((S n).change n x v):=by
    show(if 0<=(n:Int)/\(n:Int)<c then(_,_) else(_,_):D×(Nat->Hd)).2=_
    rw[if_pos hv];rfl
   rw[e0];have RP:=CD Q I c0 c8 ht hn x v;have L1:=L.app c0 [.ml (bG rs (kn n n))];obtain⟨ω',e1,L2,_⟩:=uU (own':=n) L1 c0 hn (r:=⟨n,own n+1,xa (x,v),(S n).marksK x⟩) rfl (ob hn) (nk _ _ hn) (by omega);refine⟨ω',ks,_,_,cQ own n,_,vJ (d:=.change n x v) L I Q c0 c8 (by omega) hn rfl rfl (r:=.ok (mkD n ((own n+1:Nat):Int))) ?_,L2,RP.1,RP.2,tb hn,N.snoc rfl⟩;refine(skip (by rw[iA (x:="change") rfl rfl];rfl)).trans ?_;exact Dc (r:=.ok _) (by rw[iA (x:="change") rfl rfl];rfl) (aV (aA (aB rfl) (aA (aB rfl) (aA (a:=.tup [.str x,.int v]) rfl (aA (aB (d:=.lst (((S n).marksK x).map bC)) rfl) aD)))) e1)
  ·have e0:(step c S (.change a x v)).2=S:=by
    show(if 0<=a/\a<(c:Int) then(_,_) else(_,_):D×(Nat->Hd)).2=_
    rw[if_neg hv]
   rw[e0];exact⟨ω,ks,rs,kn,own,_,qB L (d:=.change a x v) fun z=>hv z.1,L,I,Q,by omega,N⟩
 |take a x=>
  by_cases hv:0<=a/\a<(c:Int)
  ·obtain⟨n,rfl⟩:=Int.eq_ofNat_of_zero_le hv.1;have hn:n<c:=by omega
   have e0:(step c S (.take n x)).2=mR S n ((S n).take n x):=by
    show(if 0<=(n:Int)/\(n:Int)<c then(_,_) else(_,_):D×(Nat->Hd)).2=_
    rw[if_pos hv];rfl
   rw[e0];have L1:=L.app c0 [.ml (bG rs (kn n n))];have tst:∀ {ω:Om}{ρ:Rho},ρ[6]?=xa (xa (.lst (((S n).marksK x).map bC)))->bX (o2 (jT 8) (zV 6) (zL aO)) ρ ω=xa (.ok (decide ((S n).marksK x=[])),ω):=fun {ω ρ} h6=>bU (dY (aB h6) (b:=.lst []) (ω2:=ω) rfl (by
    show pu ((eqD 8 (.lst (((S n).marksK x).map bC)) (.lst [])).map D.bl) ω=_;cases hm:(S n).marksK x with
    |nil=>rfl
    |cons q l=>rfl))
   by_cases hm:(S n).marksK x=[]
   ·have et:(S n).take n x=S n:=by unfold Hd.take;rw[if_pos hm]
    have eS:mR S n ((S n).take n x)=S:=by
     rw[et]
     funext j
     by_cases h:j=n
     ·rw[h,gC]
     ·rw[gB h]
    rw[eS];refine⟨_,ks,rs,kn,own,_,vJ (d:=.take n x) L I Q c0 c8 (by omega) hn rfl rfl (r:=.ok .non) ?_,L1,I,Q,by omega,N⟩;refine(skip (by rw[iA (x:="take") rfl rfl];rfl)).trans ?_;refine(skip (by rw[iA (x:="take") rfl rfl];rfl)).trans ?_;exact Dc (r:=.ok .non) (by rw[tst rfl,decide_eq_true hm]) rfl
   ·have RP:=GN Q I c0 c8 ht hn x hm;obtain⟨ω',e1,L2,_⟩:=uU (own':=n) L1 c0 hn (r:=⟨n,own n+1,xb,(S n).marksK x⟩) rfl (ob hn) (nk _ _ hn) (by omega);refine⟨ω',ks,_,_,cQ own n,_,vJ (d:=.take n x) L I Q c0 c8 (by omega) hn rfl rfl (r:=.ok (.lst (((S n).marksK x).map bC))) ?_,L2,RP.1,RP.2,tb hn,N.snoc rfl⟩;refine(skip (by rw[iA (x:="take") rfl rfl];rfl)).trans ?_;refine(skip (by rw[iA (x:="take") rfl rfl];rfl)).trans ?_;refine(skip (by rw[tst rfl,decide_eq_false hm])).trans ?_;refine(bB (ω1:=ω') (by
     unfold bT;rw[bS (aV (aA (aB (d:=.obj h) rfl) (aA (aB (d:=.int n) rfl) (aA (a:=.non) rfl (aA (aB (d:=.lst (((S n).marksK x).map bC)) rfl) aD)))) e1)])).trans ?_
    exact bI (aB rfl)
  ·have e0:(step c S (.take a x)).2=S:=by
    show(if 0<=a/\a<(c:Int) then(_,_) else(_,_):D×(Nat->Hd)).2=_
    rw[if_neg hv]
   rw[e0];exact⟨ω,ks,rs,kn,own,_,qB L (d:=.take a x) fun z=>hv z.1,L,I,Q,by omega,N⟩
 |tell a b=>
  by_cases hv:(0<=a/\a<(c:Int))/\(0<=b/\b<(c:Int))
  ·obtain⟨n,rfl⟩:=Int.eq_ofNat_of_zero_le hv.1.1;obtain⟨m,rfl⟩:=Int.eq_ofNat_of_zero_le hv.2.1;have hn:n<c:=by omega
   have hm:m<c:=by omega
   have lp:=oA (ω:=ω) (h:=h) (c:=c) (.tell n m);rw[if_pos ⟨hv.1,decide_eq_true hv.2⟩] at lp;have head:∀(r:Rz D) (ω':Om) (G:OS),G (mF h c (Deed.tell n m).d (xa (.int m)) (xa (.int n)) xb xb xb xb) ω=xa (JK r,ω')->True:=fun _ _ _ _=>trivial;have eqt:bX (o2 (jT 8) (zV 4) (zX (zV 1) (zI 2))) (mF h c (Deed.tell n m).d (xa (.int m)) (xa (.int n)) xb xb xb xb) ω=xa (.ok (decide ((n:Int)=m)),ω):=bU (dY (aB (d:=.int n) rfl) (aJ (aB (d:=(Deed.tell n m).d) rfl) aR rfl) rfl)
   by_cases hnm:n=m
   ·subst hnm;have e0:(step c S (.tell n n)).2=S:=by
     show(if(0<=(n:Int)/\(n:Int)<c)/\(0<=(n:Int)/\(n:Int)<c) then(if(n:Int)=n then(_,_) else(_,_)) else(_,_):D×(Nat->Hd)).2=_
     rw[if_pos hv,if_pos rfl]
    rw[e0];refine⟨ω,ks,rs,kn,own,.str "same hand",?_,L,I,Q,by omega,N⟩;refine aT rfl ?_;unfold bV;refine(aK (L.gCount (aB rfl))).trans ?_;refine(bB lp).trans ?_;refine(aK (aJ (aB (d:=(Deed.tell n n).d) rfl) aR rfl)).trans ?_;refine(skip (nN (d:=.tell n n) ⟨_,rfl⟩)).trans ?_;exact Dc (r:=.ok _) (eqt.trans (by rw[decide_eq_true rfl])) rfl
   ·have e0:(step c S (.tell n m)).2=gO S n m:=by
     show(if(0<=(n:Int)/\(n:Int)<c)/\(0<=(m:Int)/\(m:Int)<c) then(if(n:Int)=m then(_,_) else(_,_)) else(_,_):D×(Nat->Hd)).2=_
     rw[if_pos hv,if_neg (by omega)];rfl
    rw[e0];obtain⟨ω',ks',e1,L2,_⟩:=iZ L c0 c8 hn hm;refine⟨ω',ks',rs,_,own,.int ((moR c kn n m m).sum-(kn m m).sum),?_,L2,lO I c0 c8 (by omega) hm hn,Q.hear I c0 c8 (by omega) hn hm hnm,by omega,N⟩
    ·refine aT rfl ?_;unfold bV;refine(aK (L.gCount (aB rfl))).trans ?_;refine(bB lp).trans ?_;refine(aK (aJ (aB (d:=(Deed.tell n m).d) rfl) aR rfl)).trans ?_;refine(skip (nN (d:=.tell n m) ⟨_,rfl⟩)).trans ?_;refine(skip (eqt.trans (by rw[decide_eq_false (by omega)]))).trans ?_;exact Dc (r:=.ok _) (by rw[iA (x:="tell") rfl rfl];rfl) (aV (aA (aB rfl) (aA (aB rfl) (aA (aJ (aB (d:=(Deed.tell n m).d) rfl) aR rfl) aD))) e1)
  ·have e0:(step c S (.tell a b)).2=S:=by
    show(if(0<=a/\a<(c:Int))/\(0<=b/\b<(c:Int)) then(if a=b then(_,_) else(_,_)) else(_,_):D×(Nat->Hd)).2=_
    rw[if_neg hv]
   rw[e0];exact⟨ω,ks,rs,kn,own,_,qB L (d:=.tell a b) fun z=>hv ⟨z.1,of_decide_eq_true z.2⟩,L,I,Q,by omega,N⟩
 |meet a b=>
  by_cases hv:(0<=a/\a<(c:Int))/\(0<=b/\b<(c:Int))
  ·obtain⟨n,rfl⟩:=Int.eq_ofNat_of_zero_le hv.1.1;obtain⟨m,rfl⟩:=Int.eq_ofNat_of_zero_le hv.2.1;have hn:n<c:=by omega
   have hm:m<c:=by omega
   have lp:=oA (ω:=ω) (h:=h) (c:=c) (.meet n m);rw[if_pos ⟨hv.1,decide_eq_true hv.2⟩] at lp;have eqt:bX (o2 (jT 8) (zV 4) (zX (zV 1) (zI 2))) (mF h c (Deed.meet n m).d (xa (.int m)) (xa (.int n)) xb xb xb xb) ω=xa (.ok (decide ((n:Int)=m)),ω):=bU (dY (aB (d:=.int n) rfl) (aJ (aB (d:=(Deed.meet n m).d) rfl) aR rfl) rfl)
   by_cases hnm:n=m
   ·subst hnm;have e0:(step c S (.meet n n)).2=S:=by
     show(if(0<=(n:Int)/\(n:Int)<c)/\(0<=(n:Int)/\(n:Int)<c) then(if(n:Int)=n then(_,_) else(_,_)) else(_,_):D×(Nat->Hd)).2=_
     rw[if_pos hv,if_pos rfl]
    rw[e0];refine⟨ω,ks,rs,kn,own,.str "same hand",?_,L,I,Q,by omega,N⟩;refine aT rfl ?_;unfold bV;refine(aK (L.gCount (aB rfl))).trans ?_;refine(bB lp).trans ?_;refine(aK (aJ (aB (d:=(Deed.meet n n).d) rfl) aR rfl)).trans ?_;refine(skip (nN (d:=.meet n n) ⟨_,rfl⟩)).trans ?_;exact Dc (r:=.ok _) (eqt.trans (by rw[decide_eq_true rfl])) rfl
   ·have e0:(step c S (.meet n m)).2=HD S n m:=by
     show(if(0<=(n:Int)/\(n:Int)<c)/\(0<=(m:Int)/\(m:Int)<c) then(if(n:Int)=m then(_,_) else(_,_)) else(_,_):D×(Nat->Hd)).2=_
     rw[if_pos hv,if_neg (by omega)];rfl
    rw[e0];have I1:=lO I c0 c8 (by omega) hm hn;have Q1:=Q.hear I c0 c8 (by omega) hn hm hnm;have I2:=lO I1 c0 c8 (by omega) hn hm;have Q2:=Q1.hear I1 c0 c8 (by omega) hm hn (bz hnm);have I3:=lO I2 c0 c8 (by omega) hm hn;have Q3:=Q2.hear I2 c0 c8 (by omega) hn hm hnm;obtain⟨ω1,ks1,e1,L1,_⟩:=iZ L c0 c8 hm hn;obtain⟨ω2,ks2,e2,L2,_⟩:=iZ L1 c0 c8 hn hm;obtain⟨ds,g1,g2⟩:=L2.row n hn;obtain⟨rd,i1,r1⟩:=g2.ix g1 hn;have L3:=L2.setRow c0 hn hm g1 g2 (d:=.lst (iv (upF (upF kn n (moR c kn m n)) m (moR c (upF kn n (moR c kn m n)) n m) n n))) (xs:=upF (upF kn n (moR c kn m n)) m (moR c (upF kn n (moR c kn m n)) n m) n n) rfl (L2.len _ _ hn hn);have same:=Lb (c:=c) (kn:=kn) hn hm hnm L.len Q.le _ _ _ _ _ _ rfl rfl rfl rfl rfl rfl;refine⟨_,ks2,rs,_,own,.tup [.int ((moR c kn m n n).sum-(kn n n).sum),.int ((moR c (upF kn n (moR c kn m n)) n m m).sum-(upF kn n (moR c kn m n) m m).sum)],?_,L3.congr same,I3,Q3,by omega,N⟩
    ·refine aT rfl ?_;unfold bV;refine(aK (L.gCount (aB rfl))).trans ?_;refine(bB lp).trans ?_;refine(aK (aJ (aB (d:=(Deed.meet n m).d) rfl) aR rfl)).trans ?_;refine(skip (nN (d:=.meet n m) ⟨_,rfl⟩)).trans ?_;refine(skip (eqt.trans (by rw[decide_eq_false (by omega)]))).trans ?_;refine(skip (by rw[iA (x:="meet") rfl rfl];rfl)).trans ?_;refine(aK (aV (aA (aB (d:=.obj h) rfl) (aA (aJ (aB (d:=(Deed.meet n m).d) rfl) aR rfl) (aA (aB (d:=.int n) rfl) aD))) e1)).trans ?_;refine(aK (aV (aA (aB (d:=.obj h) rfl) (aA (aB (d:=.int n) rfl) (aA (aJ (aB (d:=(Deed.meet n m).d) rfl) aR rfl) aD))) e2)).trans ?_;refine(bB (fB (cP (aA (aJ (aJ (L2.gKnown (aB (d:=.obj h) rfl)) (aB (d:=.int n) rfl) (L2.ixKnown hn)) (aB (d:=.int n) rfl) i1) aD) (by
      have:cB ω2 rd=xa (iv (upF (upF kn n (moR c kn m n)) m (moR c (upF kn n (moR c kn m n)) n m) n n)):=by
       rcases fF r1 with rfl|⟨q,rfl,e⟩
       ·rfl
       ·simp only[cB,fK,e]
      show(cB ω2 rd).map _=_
      rw[this];rfl)) (aJ (L2.gKnown (aB (d:=.obj h) rfl)) (aB (d:=.int n) rfl) (L2.ixKnown hn)) (aJ (aB (d:=(Deed.meet n m).d) rfl) aR rfl) (mJ g1 (by rw[g2.1];exact hm)))).trans ?_
     exact bI (cP (aA (aB rfl) (aA (aB rfl) aD)) rfl)
  ·have e0:(step c S (.meet a b)).2=S:=by
    show(if(0<=a/\a<(c:Int))/\(0<=b/\b<(c:Int)) then(if a=b then(_,_) else(_,_)) else(_,_):D×(Nat->Hd)).2=_
    rw[if_neg hv]
   rw[e0];exact⟨ω,ks,rs,kn,own,_,qB L (d:=.meet a b) fun z=>hv ⟨z.1,of_decide_eq_true z.2⟩,L,I,Q,by omega,N⟩
end
theorem xA:∀ {xs:List Int}{u:Option D},∃ v,bO (aS 3) bM gK (iv xs) [F,N,R,u] ω=xa (.nx [F,N,R,v],ω)
 |[],u=>⟨u,rfl⟩
 |x::xs,u=>by
  obtain⟨v,e⟩:=xA (F:=F) (N:=N) (R:=R) (ω:=ω) (xs:=xs) (u:=xa (.int x));exact⟨v,e⟩
theorem wZ:∀ {ts:List (List Int)}{u v:Option D},(∀ t∈ts,t.length=c)->∃ u' v',bO (aS 2) bM dB (ts.map fun xs=>D.lst (iv xs)) [F,xa (.int c),u,v] ω=xa (.nx [F,xa (.int c),u',v'],ω)
 |[],u,v,_=>⟨u,v,rfl⟩
 |t::ts,u,v,h=>by
  obtain⟨w,e1⟩:=xA (F:=F) (N:=xa (.int c)) (R:=xa (.lst (iv t))) (ω:=ω) (xs:=t) (u:=v);obtain⟨u',v',e2⟩:=wZ (F:=F) (c:=c) (ω:=ω) (ts:=ts) (u:=xa (.lst (iv t))) (v:=w) fun t' ht=>h t' (ai _ ht);refine⟨u',v',?_⟩;have b2:dB [F,xa (.int c),xa (.lst (iv t)),v] ω=xa (.nx [F,xa (.int c),xa (.lst (iv t)),w],ω):=by
   unfold dB;rw[skip (xI (gA (k:=true) (tru_ok (mV (aB (d:=.lst (iv t)) rfl) rfl))) (xN (a:=((iv t).length:Nat)) (b:=(c:Int)) (pL (aB (d:=.lst (iv t)) rfl) (.inl rfl)) (aB rfl) (by unfold iv;rw[am,h t aq])))];refine dP ?_;unfold bD oIL;rw[bS (x:=(iv t,bM)) (ω1:=ω) (by rw[bJ (aB (d:=.lst (iv t)) rfl)];rfl)];exact e1
  refine(cJ rfl rfl (b2)).trans ?_;exact e2
theorem Ec {ts:List (List Int)} (h:∀ t∈ts,t.length=c) (hc:ts.length=c) (ω:Om):dH [.lst (ts.map fun xs=>D.lst (iv xs)),.int c] ω=xa (.ok (.bl true),ω):=by
 obtain⟨u,v,e⟩:=wZ (F:=xa (.lst (ts.map fun xs=>D.lst (iv xs)))) (c:=c) (ω:=ω) (ts:=ts) (u:=xb) (v:=xb) h;refine aT rfl ?_;unfold kH;refine(skip (xI (gA (k:=true) (tru_ok (mV (aB (d:=.lst (ts.map fun xs=>D.lst (iv xs))) rfl) rfl))) (xN (a:=((ts.map fun xs=>D.lst (iv xs)).length:Nat)) (b:=(c:Int)) (pL (aB (d:=.lst (ts.map fun xs=>D.lst (iv xs))) rfl) (.inl rfl)) (aB rfl) (by rw[am,hc])))).trans ?_;refine(bB (dP (by
  unfold bD oIL;rw[bS (x:=(ts.map fun xs=>D.lst (iv xs),bM)) (ω1:=ω) (by rw[bJ (aB (d:=.lst (ts.map fun xs=>D.lst (iv xs))) rfl)];rfl)];exact e))).trans ?_
 rfl
theorem Ce (c0:0<c) (c8:c<=8):∀(ds:List Deed) {S:Nat->Hd}{ω:Om}{ks:Nat->Nat}{rs:List Rec}{kn:Nat->Nat->List Int}{own:Nat->Nat},LawAt B ω c h dd oo kk ks rs kn->HInv c own S->Rel c own S rs kn->tot c own+ds.length<64->Cn own rs->
  ∃ ω' ks' rs' kn' own',(∀(bd:BR) (chk:Om->Bool) (G:OS) (ρ:Option D->Rho),(∀ ω:Om,B.length<=ω.length->(∀ n:Nat,n<B.length->ω[n]?=B[n]?)->chk ω=true)->(∀(d:Deed) u,bd d.d (ρ u)=xa (ρ (xa d.d)))->(∀(d:Deed) (ω ω':Om) (ans:D),cE [.obj h,d.d] ω=xa (.ok ans,ω')->G (ρ (xa d.d)) ω=xa (.nx (ρ (xa d.d)),ω'))->∀ u,∃ u',bO bd chk G (ds.map Deed.d) (ρ u) ω=xa (.nx (ρ u'),ω'))/\LawAt B ω' c h dd oo kk ks' rs' kn'/\HInv c own' (JJ c ds S).2/\Rel c own' (JJ c ds S).2 rs' kn'/\tot c own'<64/\Cn own' rs'
 |[],S,ω,ks,rs,kn,own,L,I,Q,ht,N=>⟨ω,ks,rs,kn,own,fun bd chk G ρ hc hb hg u=>⟨u,by
   show(if chk ω=true then _ else xb)=_
   rw[if_pos (hc ω L.bas.1 L.bas.2)]⟩,L,I,Q,by simpa using ht,N⟩
 |d::ds,S,ω,ks,rs,kn,own,L,I,Q,ht,N=>by
  rw[b7] at ht;obtain⟨ω1,ks1,rs1,kn1,own1,ans,e1,L1,I1,Q1,t1,N1⟩:=OH L I Q c0 c8 (by omega) N d;obtain⟨ω2,ks2,rs2,kn2,own2,e2,L2,I2,Q2,t2⟩:=Ce c0 c8 ds L1 I1 Q1 (by omega) N1;refine⟨ω2,ks2,rs2,kn2,own2,fun bd chk G ρ hc hb hg u=> ?_,L2,I2,Q2,t2⟩;obtain⟨u',e3⟩:=e2 bd chk G ρ hc hb hg (xa d.d);refine⟨u',?_⟩;exact(cJ (hc ω L.bas.1 L.bas.2) (hb d u) (hg d ω ω1 ans e1)).trans e3
theorem Ep {α β:Type}{f:α->β}{l l':List β} (h:l.Perm l'):∀ {m:List α},m.map f=l'->∃ m':List α,m'.Perm m/\m'.map f=l:=by
 induction h with
 |nil=>intro m e;exact⟨[],by rw[uq.mp e],rfl⟩
 |cons x _ ih=>
  intro m e;obtain⟨a,m1,rfl,rfl,e2⟩:=pf.mp e;obtain⟨m',p,q⟩:=ih e2;exact⟨a::m',p.cons a,by rw[bg,q]⟩
 |swap x y l=>
  intro m e;obtain⟨a,m1,rfl,rfl,e2⟩:=pf.mp e;obtain⟨b,m2,rfl,rfl,rfl⟩:=pf.mp e2;exact⟨b::a::m2,.swap ..,rfl⟩
 |trans _ _ ih1 ih2=>
  intro m e;obtain⟨m1,p1,q1⟩:=ih2 e;obtain⟨m2,p2,q2⟩:=ih1 q1;exact⟨m2,p2.trans p1,q2⟩
def Gz (d:D):Prop:=∃ a b:Int,d=.tup [.int a,.int b]
theorem mU {ds out:List D} (hm:∀ d∈ds,Gz d) (nd:ds.Nodup) (hs:dF 4 ds=xa out):out.Pairwise fun a b=>cO 4 a b=xa true:=by
 have gm:∀ i,i<ds.length->ds.getD i .non∈ds/\ds[i]?=xa (ds.getD i .non):=fun i hi=>by
  rw[av,bh hi];exact⟨i5 hi,rfl⟩
 refine wU hs (fun i j hi hj hne=> ?_) fun a ha b hb c hc h1 h2=> ?_
 ·have ne:ds.getD i .non≠ds.getD j .non:=fun z=>hne (by
   have:=(vk hi nd).mp ((gm i hi).2.trans ((congrArg xa z).trans (gm j hj).2.symm))
   exact this)
  obtain⟨a,b,e1⟩:=hm _ (gm i hi).1;obtain⟨a',b',e2⟩:=hm _ (gm j hj).1;rw[e1,e2] at ne ⊢;rw[BH,BH]
  have:¬(a=a'/\b=b'):=fun z=>ne (by rw[z.1,z.2])
  unfold mLt;omega
 ·obtain⟨x,y,rfl⟩:=hm a ha;obtain⟨x',y',rfl⟩:=hm b hb;obtain⟨x2,y2,rfl⟩:=hm c hc;rw[BH] at*;exact xR h1 h2
theorem La {a b:D} (ha:Gz a) (hb:Gz b) (h1:cO 4 a b=xa true) (h2:cO 4 b a=xa true):False:=by
 obtain⟨x,y,rfl⟩:=ha;obtain⟨x',y',rfl⟩:=hb;rw[BH] at*;unfold mLt at*;omega
theorem xB (r:Rec):Gz r.mark:=⟨r.a,r.b,rfl⟩
noncomputable def eD (c:Nat) (k:Nat->List Int) (i:Nat) (r:Rec):Bool:=(!r.outs.isEmpty&&bK (k i) r)&& !((bj c).map k).all fun xs=>bK xs r
theorem keepP_iff {c:Nat}{k:Nat->List Int}{i:Nat}{r:Rec}:eD c k i r=true↔r.outs≠[]/\bK (k i) r=true/\∃ j,j<c/\bK (k j) r=false:=by
 unfold eD;rw[br,br,and_assoc,ja,ja,List.all_eq_false];refine and_congr (by simp) (and_congr Iff.rfl ⟨?_,?_⟩)
 ·rintro⟨x,hx,hs⟩
  obtain⟨j,hj,rfl⟩:=ak.mp hx;exact⟨j,df.mp hj,by simpa using hs⟩
 ·rintro⟨j,hj,hs⟩
  exact⟨k j,ak.mpr ⟨j,df.mpr hj,rfl⟩,by rw[hs];decide⟩
noncomputable def iO (r:Rec):D:=.tup [r.mark,.lst (r.outs.map bC)]
section
variable {c:Nat}{own:Nat->Nat}{S:Nat->Hd}{rs sm:List Rec}{kn:Nat->Nat->List Int}{i:Nat}
theorem pI (R:nI c own rs):(rs.map Rec.mark).Nodup:=by
 rw[ug,k8]
 have:=R.keys
 rw[ug,k8] at this;refine this.imp fun {a b} h z=>h ?_;unfold Rec.mark mkD at z;unfold Rec.key fH;simp at z;simp[z.1,z.2]
theorem Ae (R:nI c own rs) (ht:tot c own<64):∃ sm:List Rec,dF 4 (rs.map Rec.mark)=xa (sm.map Rec.mark)/\sm.Perm rs/\(sm.map Rec.mark).Pairwise fun a b=>cO 4 a b=xa true:=by
 have hl:=lF R;have mk:∀ d∈rs.map Rec.mark,Gz d:=fun d hd=>by
  obtain⟨r,_,rfl⟩:=ak.mp hd;exact xB r
 obtain⟨out,e1,p1⟩:=nP (m:=4) (ds:=rs.map Rec.mark) (by rw[am];omega) (by
  unfold gX;rw[ib];left;rw[du];intro d hd;obtain⟨a,b,rfl⟩:=mk d hd;rfl) fun x hx y hy=>by
  obtain⟨a,b,rfl⟩:=mk x hx;obtain⟨a',b',rfl⟩:=mk y hy;exact Js a b a' b'
 obtain⟨sm,p2,rfl⟩:=Ep p1 rfl;exact⟨sm,e1,p2,mU mk (pI R) e1⟩
theorem BF (Q:Rel c own S rs kn) (I:HInv c own S) (c0:0<c) (c8:c<=8) (ht:tot c own<64) (hi:i<c) (hp:sm.Perm rs) (ho:(sm.map Rec.mark).Pairwise fun a b=>cO 4 a b=xa true):(S i).mind=(sm.filter (eD c (kn i) i)).map iO:=by
 have W:=(I i hi).1;have O:=W.ok c0 c8 ht;have mem:∀ q,q∈(S i).kept.map (fun p=>bC p.1)↔q∈(sm.filter (eD c (kn i) i)).map Rec.mark:=fun q=>by
  constructor
  ·intro z;obtain⟨p,hp',rfl⟩:=ak.mp z;obtain⟨r,hr,h1,h2,h3,rfl⟩:=(Q.kpt i hi p).mp hp';exact ak.mpr ⟨r,bu.mpr ⟨hp.mem_iff.mpr hr,keepP_iff.mpr ⟨h1,h2,h3⟩⟩,rfl⟩
  ·intro z;obtain⟨r,hr,rfl⟩:=ak.mp z;have hr':=bu.mp hr;obtain⟨h1,h2,h3⟩:=keepP_iff.mp hr'.2;exact ak.mpr ⟨_,(Q.kpt i hi _).mpr ⟨r,hp.mem_iff.mp hr'.1,h1,h2,h3,rfl⟩,rfl⟩
 have ndr:=pI Q.recs;have ndk:((S i).kept.map fun p=>bC p.1).Nodup:=by
  rw[ug,k8]
  have:=W.kn
  rw[ug,k8] at this;refine this.imp_of_mem fun {a b} ha hb h z=>h ?_;obtain⟨x,y,_,_,_,e1⟩:=W.kk a ha;obtain⟨x',y',_,_,_,e2⟩:=W.kk b hb;rw[e1,e2] at z ⊢;unfold fH at*;simp[bC,ofK] at z;rw[z.1,z.2]
 have nds:((sm.filter (eD c (kn i) i)).map Rec.mark).Nodup:=((hp.map Rec.mark).nodup_iff.mpr ndr).sublist (io.map _);have mkK:∀ d∈(S i).mindK,Gz d:=fun d hd=>by
  obtain⟨p,hp',rfl⟩:=ak.mp (O.mindK.2.mem_iff.mp hd);obtain⟨r,_,_,_,_,rfl⟩:=(Q.kpt i hi p).mp hp';exact xB r
 have s1:=mU (fun d hd=>mkK d (O.mindK.2.mem_iff.mpr hd)) ndk O.mindK.1;have s2:((sm.filter (eD c (kn i) i)).map Rec.mark).Pairwise fun a b=>cO 4 a b=xa true:=ho.sublist (io.map _);have e:(S i).mindK=(sm.filter (eD c (kn i) i)).map Rec.mark:=iU (r:=fun a b=>Gz a/\Gz b/\cO 4 a b=xa true) (fun a b x y=>La x.1 x.2.1 x.2.2 y.2.2) (O.mindK.2.trans (mO ndk nds mem)) (s1.imp_of_mem fun {a b} ha hb q=>⟨mkK a ha,mkK b hb,q⟩) (s2.imp_of_mem fun {a b} ha hb q=>by
  obtain⟨x,_,rfl⟩:=ak.mp ha;obtain⟨y,_,rfl⟩:=ak.mp hb;exact⟨xB x,xB y,q⟩)
 unfold Hd.mind;rw[e,fk];refine fg fun r hr=> ?_;have hr':=bu.mp hr;obtain⟨h1,h2,h3⟩:=keepP_iff.mp hr'.2;have hv:=uE W.kn ((Q.kpt i hi _).mpr ⟨r,hp.mem_iff.mp hr'.1,h1,h2,h3,rfl⟩);show D.tup [r.mark,(S i).mindV (bC r.key)]=_;unfold Hd.mindV;rw[wO];show D.tup [r.mark,match gN (S i).kept r.key with
  |some (.tup ds)=>D.lst ds
  |_=>.non]=_
 rw[hv];rfl
end
theorem sY:∀ {ds:List D}{u:Option D},(∀ d∈ds,Gz d)->∃ v,bO (aS 4) bM gL ds [F,N,R,T,u] ω=xa (.nx [F,N,R,T,v],ω)
 |[],u,_=>⟨u,rfl⟩
 |d::ds,u,h=>by
  obtain⟨a,b,rfl⟩:=h d aq;obtain⟨v,e⟩:=sY (F:=F) (N:=N) (R:=R) (T:=T) (ω:=ω) (ds:=ds) (u:=xa (.tup [.int a,.int b])) fun d hd=>h d (ai _ hd);exact⟨v,(cJ rfl rfl rfl).trans e⟩
def Mg (r:Rec):Prop:=r.outs.length<=900/\∀ q∈r.outs,Gz (bC q)
theorem BM:∀ {rs:List Rec}{u v:Option D},(∀ r∈rs,Mg r)->∃ u' v',bO (aS 3) bM dE (rs.map iO) [F,N,R,u,v] ω=xa (.nx [F,N,R,u',v'],ω)
 |[],u,v,_=>⟨u,v,rfl⟩
 |r::rs,u,v,h=>by
  have hr:=h r aq;obtain⟨w,e1⟩:=sY (F:=F) (N:=N) (R:=R) (T:=xa (iO r)) (ω:=ω) (ds:=[r.mark]++r.outs.map bC) (u:=v) fun d hd=>by
   rcases cm.mp hd with z|z
   ·rw[cq.mp z];exact xB r
   ·obtain⟨q,hq,rfl⟩:=ak.mp z;exact hr.2 q hq
  obtain⟨u',v',e2⟩:=BM (F:=F) (N:=N) (R:=R) (ω:=ω) (rs:=rs) (u:=xa (iO r)) (v:=w) fun r' h'=>h r' (ai _ h');refine⟨u',v',?_⟩;have b2:dE [F,N,R,xa (iO r),v] ω=xa (.nx [F,N,R,xa (iO r),w],ω):=by
   unfold dE;refine(skip (by rfl)).trans ?_;refine dP ?_;unfold bD oIL;rw[bS (x:=([r.mark]++r.outs.map bC,bM)) (ω1:=ω) (by
    rw[bJ (dY (d:=.lst ([r.mark]++r.outs.map bC)) (a:=.lst [r.mark]) (b:=.lst (r.outs.map bC)) (ω1:=ω) (ω2:=ω) (ω3:=ω) rfl (aJ (aB (d:=iO r) rfl) aR rfl) (by
     show(if 1+(r.outs.map bC).length<=sizeLine then xa (D.lst ([r.mark]++r.outs.map bC),ω) else xb)=_
     rw[if_pos (by rw[am,bv];have:=hr.1;omega)]))]
    rfl)]
   exact e1
  exact(cJ rfl rfl b2).trans e2
theorem xV:∀ {ts:List (List Rec)}{u v w:Option D},(∀ t∈ts,∀ r∈t,Mg r)->∃ u' v' w',bO (aS 2) bM dD (ts.map fun t=>.lst (t.map iO)) [F,N,u,v,w] ω=xa (.nx [F,N,u',v',w'],ω)
 |[],u,v,w,_=>⟨u,v,w,rfl⟩
 |t::ts,u,v,w,h=>by
  obtain⟨x,y,e1⟩:=BM (F:=F) (N:=N) (R:=xa (.lst (t.map iO))) (ω:=ω) (rs:=t) (u:=v) (v:=w) (h t aq);obtain⟨u',v',w',e2⟩:=xV (F:=F) (N:=N) (ω:=ω) (ts:=ts) (u:=xa (.lst (t.map iO))) (v:=x) (w:=y) fun t' ht=>h t' (ai _ ht);refine⟨u',v',w',?_⟩;have b3:dD [F,N,xa (.lst (t.map iO)),v,w] ω=xa (.nx [F,N,xa (.lst (t.map iO)),x,y],ω):=by
   unfold dD;refine(skip (gA (k:=true) (tru_ok (mV (aB (d:=.lst (t.map iO)) rfl) rfl)))).trans ?_;refine dP ?_;unfold bD oIL;rw[bS (x:=(t.map iO,bM)) (ω1:=ω) (by rw[bJ (aB (d:=.lst (t.map iO)) rfl)];rfl)];exact e1
  exact(cJ rfl rfl b3).trans e2
theorem Lh {ts:List (List Rec)} (h:∀ t∈ts,∀ r∈t,Mg r) (hc:ts.length=c) (ω:Om):eO [.lst (ts.map fun t=>.lst (t.map iO)),.int c] ω=xa (.ok (.bl true),ω):=by
 obtain⟨u,v,w,e⟩:=xV (F:=xa (.lst (ts.map fun t=>.lst (t.map iO)))) (N:=xa (.int c)) (ω:=ω) (ts:=ts) (u:=xb) (v:=xb) (w:=xb) h;refine aT rfl ?_;unfold kI;refine(skip (xI (gA (k:=true) (tru_ok (mV (aB (d:=.lst (ts.map fun t=>.lst (t.map iO))) rfl) rfl))) (xN (a:=((ts.map fun t=>D.lst (t.map iO)).length:Nat)) (b:=(c:Int)) (pL (aB (d:=.lst (ts.map fun t=>.lst (t.map iO))) rfl) (.inl rfl)) (aB rfl) (by rw[am,hc])))).trans ?_;refine(bB (dP (by
  unfold bD oIL;rw[bS (x:=(ts.map fun t=>.lst (t.map iO),bM)) (ω1:=ω) (by rw[bJ (aB (d:=.lst (ts.map fun t=>.lst (t.map iO))) rfl)];rfl)];exact e))).trans ?_
 rfl
theorem Cp {r:Rec} (ha:r.a<c):∀ {rows:List (List Int)}{u:Option D},(∀ xs∈rows,xs.length=c)->∃ v,bO (aS 2) bM bE (rows.map fun xs=>.lst (iv xs)) [F,xa r.mark,u] ω=xa (if(rows.all fun xs=>bK xs r)=true then .nx [F,xa r.mark,v] else .rt (.bl false),ω)
 |[],u,_=>⟨u,rfl⟩
 |xs::rows,u,h=>by
  have hx:=h xs aq;have tst:bX (o2 (lf gLt) (zX (zV 2) (zX (zV 1) (zI 0))) (zX (zV 1) (zI 1))) [F,xa r.mark,xa (.lst (iv xs))] ω=xa (.ok (!bK xs r),ω):=bU (fE (uZ (xs:=xs) (a:=r.a) (aB rfl) (aJ (aB (d:=r.mark) rfl) aR rfl) (by omega) (by omega)) (aJ (aB (d:=r.mark) rfl) aR rfl) (by
   show xa (D.bl (decide (xs.getD (r.a:Int).toNat 0<(r.b:Int))))=_;rw[cw];unfold bK
   congr 2
   rw[Bool.eq_iff_iff];simp))
  obtain⟨v,e⟩:=Cp (F:=F) (ω:=ω) (r:=r) ha (rows:=rows) (u:=xa (.lst (iv xs))) fun y hy=>h y (ai _ hy);cases hs:bK xs r with
  |true=>
   refine⟨v,?_⟩;rw[qe,hs,Bool.true_and,<- e];have b:bE [F,xa r.mark,xa (.lst (iv xs))] ω=xa (.nx [F,xa r.mark,xa (.lst (iv xs))],ω):=by
    unfold bE;rw[iT (ω1:=ω) (by rw[tst,hs];rfl)];rfl
   exact cJ rfl rfl b
  |false=>
   refine⟨v,?_⟩;rw[qe,hs,wo,if_neg bx];have b:bE [F,xa r.mark,xa (.lst (iv xs))] ω=xa (.rt (.bl false),ω):=by
    unfold bE;rw[jX (ω1:=ω) (by rw[tst,hs];rfl)];rfl
   show(match bE [F,xa r.mark,xa (.lst (iv xs))] ω with
    |none=>xb
    |some (.nx ρ2,ω2)=>bO (aS 2) bM bE (rows.map fun xs=>.lst (iv xs)) ρ2 ω2
    |some (.ct ρ2,ω2)=>bO (aS 2) bM bE (rows.map fun xs=>.lst (iv xs)) ρ2 ω2
    |some (.bk ρ2,ω2)=>xa (.nx ρ2,ω2)
    |some (.rt d,ω2)=>xa (.rt d,ω2)
    |some (.ex _,_)=>xb)=_
   rw[b]
theorem yZ {r:Rec}{rows:List (List Int)} (ha:r.a<c) (h:∀ xs∈rows,xs.length=c) (ω:Om):eY [.lst (rows.map fun xs=>.lst (iv xs)),r.mark] ω=xa (.ok (.bl (rows.all fun xs=>bK xs r)),ω):=by
 obtain⟨v,e⟩:=Cp (F:=xa (.lst (rows.map fun xs=>.lst (iv xs)))) (ω:=ω) (r:=r) ha (u:=xb) h;have lp:bD (oIL (zV 0)) (aS 2) bE [xa (.lst (rows.map fun xs=>.lst (iv xs))),xa r.mark,xb] ω=xa (if(rows.all fun xs=>bK xs r)=true then .nx [xa (.lst (rows.map fun xs=>.lst (iv xs))),xa r.mark,v] else .rt (.bl false),ω):=by
  unfold bD oIL;rw[bS (x:=(rows.map fun xs=>.lst (iv xs),bM)) (ω1:=ω) (by rw[bJ (aB (d:=.lst (rows.map fun xs=>.lst (iv xs))) rfl)];rfl)];exact e
 refine aT rfl ?_;unfold mX;cases ha:rows.all fun xs=>bK xs r with
 |true=>
  rw[ha,if_pos rfl] at lp;refine(bB (dP lp)).trans ?_;rfl
 |false=>
  rw[ha,if_neg bx] at lp
  have:sNx (bD (oIL (zV 0)) (aS 2) bE) [xa (.lst (rows.map fun xs=>.lst (iv xs))),xa r.mark,xb] ω=xa (.rt (.bl false),ω):=by
   unfold sNx;rw[lp]
  show aG _ _ [xa (.lst (rows.map fun xs=>.lst (iv xs))),xa r.mark,xb] ω=_;unfold aG;rw[this]
noncomputable abbrev wR (sc:D) (c:Nat) (S:Nat->Hd) (h:Nat) (v8 v9 v10 v11 v12 v13 v14:Option D):Rho:=[xa sc,xa (.int c),xa (.obj 0),xa (Pa c S),xa (Ed c S),xa (Ee c S),xa (GM c S),xa (.obj h),v8,v9,v10,v11,v12,v13,v14]
section
variable {c:Nat}{own:Nat->Nat}{S:Nat->Hd}{rs:List Rec}{kn:Nat->Nat->List Int}{k:Nat}{sc:D}{h:Nat}
noncomputable abbrev kM (c:Nat) (k:Nat->List Int):List (List Int):=(bj c).map k
theorem xK (Q:Rel c own S rs kn) (hk:k<c) (ω:Om):pZ ω (Ee c S) (.int k)=xa (.lst ((kM c (kn k)).map fun xs=>.lst (iv xs))):=by
 show atI _ (k:Int)=_;exact qS (by rw[ax,di hk];show xa (D.lst ((S k).knows.map fun xs=>.lst (iv xs)))=_;rw[Q.knows k hk])
theorem Po {f:Nat->List Int}{j:Nat} (hj:j<c) (ω:Om):pZ ω (.lst ((kM c f).map fun xs=>.lst (iv xs))) (.int j)=xa (.lst (iv (f j))):=by
 show atI _ (j:Int)=_;exact qS (by rw[fk,ax,di hj];rfl)
theorem oZ (Q:Rel c own S rs kn):Ed c S=.lst ((kM c fun i=>kn i i).map fun xs=>.lst (iv xs)):=by
 unfold Ed;rw[fk]
 congr 1
 refine fg fun i hi=> ?_;rw[Q.seen (df.mp hi)];rfl
theorem Jp (Q:Rel c own S rs kn) (I:HInv c own S) (hk:k<c) {j:Nat} (hj:j<c):∀(r s:Nat) {v14:Option D},s+r=c->∃ w,bO (aS 14) bM nY (nQ s r) (wR sc c S h v8 (xa (.int k)) v10 v11 v12 (xa (.int j)) v14) ω=xa (.nx (wR sc c S h v8 (xa (.int k)) v10 v11 v12 (xa (.int j)) w),ω)
 |0,s,v14,_=>⟨v14,rfl⟩
 |r+1,s,v14,hs=>by
  obtain⟨w,e⟩:=Jp Q I hk hj r (s+1) (v14:=xa (.int s)) (by omega);refine⟨w,?_⟩;have l1:=(Q.row I hk hj).2;have l2:=(Q.row I hj hj).2;have hle:=Q.le k j hk hj s (by omega);have b:nY (wR sc c S h v8 (xa (.int k)) v10 v11 v12 (xa (.int j)) (xa (.int s))) ω=xa (.nx (wR sc c S h v8 (xa (.int k)) v10 v11 v12 (xa (.int j)) (xa (.int s))),ω):=by
   unfold nY;rw[iT (ω1:=ω) (bU (fE (a:=.int ((kn k j).getD s 0)) (b:=.int ((kn j j).getD s 0)) (d:=.bl false) (uZ (xs:=kn k j) (a:=s) (aJ (aJ (aB (d:=Ee c S) rfl) (aB (d:=.int k) rfl) (xK Q hk ω)) (aB (d:=.int j) rfl) (Po hj ω)) (aB rfl) (by omega) (by omega)) (uZ (xs:=kn j j) (a:=s) (aJ (aB (d:=Ed c S) rfl) (aB (d:=.int j) rfl) (by rw[oZ Q];exact Po (f:=fun i=>kn i i) hj ω)) (aB rfl) (by omega) (by omega)) (by
    show xa (D.bl (decide ((kn j j).getD s 0<(kn k j).getD s 0)))=_;rw[decide_eq_false (by omega)])))]
   rfl
  rw[eW];exact(cJ rfl rfl b).trans e
theorem Jr (Q:Rel c own S rs kn) (I:HInv c own S) (c8:c<=8) (hk:k<c):∀(r s:Nat) {v13 v14:Option D},s+r=c->∃ w13 w14,bO (aS 13) bM nX (nQ s r) (wR sc c S h v8 (xa (.int k)) v10 v11 v12 v13 v14) ω=xa (.nx (wR sc c S h v8 (xa (.int k)) v10 v11 v12 w13 w14),ω)
 |0,s,v13,v14,_=>⟨v13,v14,rfl⟩
 |r+1,s,v13,v14,hs=>by
  obtain⟨w,e1⟩:=Jp (sc:=sc) (h:=h) (v8:=v8) (v10:=v10) (v11:=v11) (v12:=v12) (ω:=ω) Q I hk (j:=s) (by omega) c 0 (v14:=v14) (by omega);obtain⟨w13,w14,e⟩:=Jr Q I c8 hk r (s+1) (v13:=xa (.int s)) (v14:=w) (by omega);refine⟨w13,w14,?_⟩;have b:nX (wR sc c S h v8 (xa (.int k)) v10 v11 v12 (xa (.int s)) v14) ω=xa (.nx (wR sc c S h v8 (xa (.int k)) v10 v11 v12 (xa (.int s)) w),ω):=by
   unfold nX;refine dP ?_;unfold bD;rw[bS (kA (c:=c) (aB rfl) (by omega))];exact e1
  rw[eW];exact(cJ rfl rfl b).trans e
theorem xW (Q:Rel c own S rs kn) (I:HInv c own S) (hk:k<c) (L:LawAt B ω c h dd oo kk ks rs kn) (c0:0<c):∀(post pre:List Rec) {v11 v12:Option D},(∀ r∈post,r∈rs)->(pre++post).length<=900->∃ w11 w12,bO (aS 11) bM vD (post.map Rec.mark) (wR sc c S h v8 (xa (.int k)) (xa (.obj ω.length)) v11 v12 v13 v14) (ω++[.ml ((pre.filter (eD c (kn k) k)).map iO)])=xa (.nx (wR sc c S h v8 (xa (.int k)) (xa (.obj ω.length)) w11 w12 v13 v14),ω++[.ml (((pre++post).filter (eD c (kn k) k)).map iO)])
 |[],pre,v11,v12,_,_=>⟨v11,v12,by rw[cr];rfl⟩
 |r::post,pre,v11,v12,hr,hl=>by
  have hm:=hr r aq;have ha:=(Q.recs.inn r hm).1;obtain⟨w11,w12,e2⟩:=xW Q I hk L c0 post (pre++[r]) (v11:=xa r.mark) (v12:=xa (.lst (r.outs.map bC))) (fun r' h'=>hr r' (ai _ h')) (by simpa using hl);refine⟨w11,w12,?_⟩;rw[gs] at e2;refine(cJ rfl rfl ?_).trans e2;obtain⟨ω',hω'⟩:∃ ω',ω'=ω++[Ob.ml ((pre.filter (eD c (kn k) k)).map iO)]:=⟨_,rfl⟩;have L':LawAt B ω' c h dd oo kk ks rs kn:=by rw[hω'];exact L.app c0 _
  have g:ω'[ω.length]?=xa (.ml ((pre.filter (eD c (kn k) k)).map iO)):=by rw[hω'];simp
  rw[<- hω'];have lenR:∀ f:Nat->List Int,(∀ j,j<c->(f j).length=c)->∀ xs∈kM c f,xs.length=c:=fun f hf xs hx=>by
   obtain⟨j,hj,rfl⟩:=ak.mp hx;exact hf j (df.mp hj)
  have t1:bX (o2 (Aw 8) (zV 12) (zL aO)) (wR sc c S h v8 (xa (.int k)) (xa (.obj ω.length)) (xa r.mark) (xa (.lst (r.outs.map bC))) v13 v14) ω'=xa (.ok (!r.outs.isEmpty),ω'):=bU (dY (d:=.bl (!r.outs.isEmpty)) (aB (d:=.lst (r.outs.map bC)) rfl) (b:=.lst []) (ω2:=ω') rfl (by
   show pu ((eqD 8 (.lst (r.outs.map bC)) (.lst [])).map fun k=>D.bl (!k)) ω'=_;cases r.outs <;> rfl))
  have lk:=(Q.row I hk hk).2;have t2:bX (o2 (lf gLe) (zX (zV 11) (zI 1)) (zX (zX (zV 4) (zV 9)) (zX (zV 11) (zI 0)))) (wR sc c S h v8 (xa (.int k)) (xa (.obj ω.length)) (xa r.mark) (xa (.lst (r.outs.map bC))) v13 v14) ω'=xa (.ok (bK (kn k k) r),ω'):=bU (fE (aJ (aB (d:=r.mark) rfl) aR rfl) (uZ (xs:=kn k k) (a:=r.a) (aJ (aB (d:=Ed c S) rfl) (aB (d:=.int k) rfl) (by rw[oZ Q];exact Po (f:=fun i=>kn i i) hk ω')) (aJ (aB (d:=r.mark) rfl) aR rfl) (by omega) (by omega)) (by
   show xa (D.bl (decide ((r.b:Int)<=(kn k k).getD (r.a:Int).toNat 0)))=_;rw[cw];rfl))
  have t3:iP (bR eY (aC (zX (zV 5) (zV 9)) (aC (zV 11) aO))) (wR sc c S h v8 (xa (.int k)) (xa (.obj ω.length)) (xa r.mark) (xa (.lst (r.outs.map bC))) v13 v14) ω'=xa (.ok ((kM c (kn k)).all fun xs=>bK xs r),ω'):=tru_ok (aV (aA (aJ (aB (d:=Ee c S) rfl) (aB (d:=.int k) rfl) (xK Q hk ω')) (aA (aB (d:=r.mark) rfl) aD)) (yZ ha (lenR _ fun j hj=>(Q.row I hk hj).2) ω'));unfold vD;refine(aK (d:=.lst (r.outs.map bC)) (ω1:=ω') (aJ (dY (d:=r.val) (L'.gDeeds (aB rfl)) (aB (d:=r.mark) rfl) (by
   show pu (iD ω' (.obj dd) r.mark) ω'=_;rw[Cg L' hm];rfl)) aR rfl)).trans ?_
  show dG _ _ _ (wR sc c S h v8 (xa (.int k)) (xa (.obj ω.length)) (xa r.mark) (xa (.lst (r.outs.map bC))) v13 v14) ω'=_;have hf:((pre++[r]).filter (eD c (kn k) k)).map iO=(pre.filter (eD c (kn k) k)).map iO++(if eD c (kn k) k r=true then [iO r] else []):=by
   rw[i6,c7]
   congr 1
   by_cases hp:eD c (kn k) k r=true
   ·rw[if_pos hp,db hp];rfl
   ·rw[if_neg hp,da hp];rfl
  cases hc:(!r.outs.isEmpty&&bK (kn k k) r) with
  |false=>
   have hp:eD c (kn k) k r=false:=by unfold eD;rw[hc];rfl
   rw[hf,hp,if_neg bx,cr,<- hω'];rw[iT (by rw[Gk t1 t2,hc])];rfl
  |true=>
   rw[jX (by rw[Gk t1 t2,hc])];cases ha':(kM c (kn k)).all fun xs=>bK xs r with
   |false=>
    have hp:eD c (kn k) k r=true:=by unfold eD;rw[hc,ha'];rfl
    rw[hf,hp,if_pos rfl];rw[ha'] at t3;rw[jX (gA t3)];unfold bT;have ll:((pre.filter (eD c (kn k) k)).map iO).length<=900:=by
     rw[am]
     have:=dh (eD c (kn k) k) pre
     rw[b8] at hl;omega
    rw[bS (jQ (r:=.non) (ω3:=ω'.set ω.length (.ml ((pre.filter (eD c (kn k) k)).map iO++[iO r]))) (aB (d:=.obj ω.length) rfl) g (aA (a:=iO r) (ω1:=ω') rfl aD) (by
     simp only[jZ,g];rw[if_pos (by rw[bv];omega)]))]
    rw[hω'];simp
   |true=>
    have hp:eD c (kn k) k r=false:=by unfold eD;rw[hc,ha'];rfl
    rw[hf,hp,if_neg bx,cr,<- hω'];rw[ha'] at t3;rw[iT (gA t3)];have al:((kM c fun i=>kn i i).all fun xs=>bK xs r)=true:=by
     rw[du] at ha' ⊢;intro xs hx;obtain⟨j,hj,rfl⟩:=ak.mp hx;have hj:=df.mp hj;have h1:=ha' _ (ak.mpr ⟨j,df.mpr hj,rfl⟩);have h2:=Q.le k j hk hj r.a ha;unfold bK at h1 ⊢;exact decide_eq_true (vf (of_decide_eq_true h1) h2)
    rw[iT (gA (k:=true) (tru_ok (aV (aA (aB (d:=Ed c S) rfl) (aA (aB (d:=r.mark) rfl) aD)) (by
     rw[oZ Q,yZ ha (lenR _ fun j hj=>(Q.row I hj hj).2) ω',al]))))]
    rfl
theorem OF (R:nI c own rs) {l:List Rec} (hl:l.length<=900) (h:∀ r∈l,r∈rs):Pl 8 (.lst (l.map iO)):=(Pl.lst (n:=3) (by rw[am];omega) fun d hd=>by
 obtain⟨r,hr,rfl⟩:=ak.mp hd;have ro:=R.outs r (h r hr);exact(show Pl 3 (.tup [r.mark,.lst (r.outs.map bC)]) from⟨by simp,fun d hd=>by
  rcases aj.mp hd with rfl|hd
  ·exact⟨by simp,fun d hd=>by
    rcases aj.mp hd with rfl|hd
    ·trivial
    ·rw[cq.mp hd];trivial⟩
  ·rw[cq.mp hd];exact Pl.lst (n:=1) (by rw[am];omega) fun d hd=>by
    obtain⟨q,hq,rfl⟩:=ak.mp hd;obtain⟨a,b,_,_,_,rfl⟩:=ro.2 q hq;exact⟨by simp[fH],fun d hd=>by
     rcases aj.mp hd with rfl|hd
     ·trivial
     ·rw[cq.mp hd];trivial⟩⟩)).mono (by decide)
theorem Jq {sm:List Rec} (Q:Rel c own S rs kn) (I:HInv c own S) (c0:0<c) (c8:c<=8) (ht:tot c own<64) (es:dF 4 (rs.map Rec.mark)=xa (sm.map Rec.mark)) (hp:sm.Perm rs) (ho:(sm.map Rec.mark).Pairwise fun a b=>cO 4 a b=xa true):∀(r s:Nat) {ω:Om}{v9 v10 v11 v12 v13 v14:Option D},LawAt B ω c h dd oo kk ks rs kn->s+r=c->∃ ω' w9 w10 w11 w12 w13 w14,bO (aS 9) bM vC (nQ s r) (wR sc c S h v8 v9 v10 v11 v12 v13 v14) ω=xa (.nx (wR sc c S h v8 w9 w10 w11 w12 w13 w14),ω')
 |0,s,ω,v9,v10,v11,v12,v13,v14,_,_=>⟨ω,v9,v10,v11,v12,v13,v14,rfl⟩
 |r+1,s,ω,v9,v10,v11,v12,v13,v14,L,hs=>by
  have hk:s<c:=by omega
  have rl:=lF Q.recs;have sl:=hp.length_eq;obtain⟨x11,x12,e3⟩:=xW (sc:=sc) (v8:=v8) (v13:=v13) (v14:=v14) Q I hk L c0 sm [] (v11:=v11) (v12:=v12) (fun r hr=>hp.mem_iff.mp hr) (by simp;omega);obtain⟨ω2,hω2⟩:∃ ω2,ω2=ω++[Ob.ml ((sm.filter (eD c (kn s) s)).map iO)]:=⟨_,rfl⟩;rw[we,<- hω2] at e3;have L2:LawAt B ω2 c h dd oo kk ks rs kn:=by rw[hω2];exact L.app c0 _
  have g2:ω2[ω.length]?=xa (.ml ((sm.filter (eD c (kn s) s)).map iO)):=by rw[hω2];simp
  obtain⟨x13,x14,e4⟩:=Jr (sc:=sc) (h:=h) (v8:=v8) (v10:=xa (.obj ω.length)) (v11:=x11) (v12:=x12) (ω:=ω2) Q I c8 hk c 0 (v13:=v13) (v14:=v14) (by omega);obtain⟨ω',w9,w10,w11,w12,w13,w14,e5⟩:=Jq Q I c0 c8 ht es hp ho r (s+1) (ω:=ω2) (v9:=xa (.int s)) (v10:=xa (.obj ω.length)) (v11:=x11) (v12:=x12) (v13:=x13) (v14:=x14) L2 (by omega);refine⟨ω',w9,w10,w11,w12,w13,w14,?_⟩;rw[eW];refine(cJ rfl rfl ?_).trans e5;have pl:Pl 8 (.lst ((kM c (kn s)).map fun xs=>.lst (iv xs))):=(Pl.lst (n:=1) (by rw[am,am,fy];omega) fun d hd=>by
   obtain⟨xs,hx,rfl⟩:=ak.mp hd;obtain⟨j,hj,rfl⟩:=ak.mp hx;exact Pl.lst (n:=0) (by unfold iv;rw[am,(Q.row I hk (df.mp hj)).2];omega) fun d hd=>by
    obtain⟨x,_,rfl⟩:=ak.mp hd;trivial).mono (by decide)
  have t1:bX (o2 (Pg 8) (zX (zV 5) (zV 9)) (zX (zD (zV 7) (zS "known")) (zV 9))) (wR sc c S h v8 (xa (.int s)) v10 v11 v12 v13 v14) ω=xa (.ok false,ω):=by
   obtain⟨ds,hd1,hd2,hd3⟩:=L.row s hk;refine bU (dY (d:=.bl false) (aJ (aB (d:=Ee c S) rfl) (aB (d:=.int s) rfl) (xK Q hk ω)) (aJ (L.gKnown (aB rfl)) (aB (d:=.int s) rfl) (L.ixKnown hk)) ?_);have d1:lW ω (.lst ((kM c (kn s)).map fun xs=>.lst (iv xs)))=.lst ((kM c (kn s)).map fun xs=>.lst (iv xs)):=by
    show D.lst (((kM c (kn s)).map fun xs=>D.lst (iv xs)).map (eB ω))=_;rw[fk];rfl
   have d2:lW ω (.obj (ks s))=.lst ((kM c (kn s)).map fun xs=>.lst (iv xs)):=by
    have:fK ω (.obj (ks s))=xa ds:=by unfold fK;simp only[hd1]
    unfold lW;rw[this];show D.lst (ds.map (eB ω))=_
    congr 1
    apply jb;intro j;rw[ax,fk,ax]
    by_cases hj:j<c
    ·obtain⟨d,e1,e2⟩:=hd3 j hj;rw[e1,di hj];show xa (eB ω d)=xa (D.lst (iv (kn s j)));unfold eB;rw[show fK ω d=xa (iv (kn s j)) from e2]
    ·rw[cu (by omega),cu (by simp;omega)];rfl
   show pu (gNe 8 (lW ω (.lst ((kM c (kn s)).map fun xs=>.lst (iv xs)))) (lW ω (.obj (ks s)))) ω=_;rw[d1,d2];show pu ((eqD 8 (.lst ((kM c (kn s)).map fun xs=>.lst (iv xs))) (.lst ((kM c (kn s)).map fun xs=>.lst (iv xs)))).map fun k=>D.bl (!k)) ω=_;rw[lV pl];rfl
  have md:=BF Q I c0 c8 ht hk hp ho;have t2:bX (o2 (Aw 8) (zX (zV 6) (zV 9)) (zV 10)) (wR sc c S h v8 (xa (.int s)) (xa (.obj ω.length)) x11 x12 v13 v14) ω2=xa (.ok false,ω2):=bU (dY (d:=.bl false) (aJ (a:=GM c S) (d:=.lst (S s).mind) (aB rfl) (aB (d:=.int s) rfl) (by
   show atI _ (s:Int)=_;exact qS (by rw[ax,di hk];rfl))) (aB (d:=.obj ω.length) rfl) (by
   have d1:eB ω2 (.obj ω.length)=.lst (S s).mind:=by
    have:fK ω2 (.obj ω.length)=xa (S s).mind:=by unfold fK;simp only[g2];rw[md]
    unfold eB;rw[this]
   show pu (gNe 8 (eB ω2 (.lst (S s).mind)) (eB ω2 (.obj ω.length))) ω2=_;rw[d1];show pu ((eqD 8 (.lst (S s).mind) (.lst (S s).mind)).map fun k=>D.bl (!k)) ω2=_;rw[md,lV (OF Q.recs (by have:=dh (eD c (kn s) s) sm;omega) fun r hr=>hp.mem_iff.mp (bu.mp hr).1)];rfl))
  unfold vC;refine(skip (xI (gA (k:=true) (tru_ok (aV (aA (aJ (aB (d:=Ee c S) rfl) (aB (d:=.int s) rfl) (xK Q hk ω)) (aA (aB (d:=.int c) rfl) aD)) (Ec (fun t ht=>by
   obtain⟨j,hj,rfl⟩:=ak.mp ht;exact(Q.row I hk (df.mp hj)).2) (by simp) ω)))) t1)).trans ?_
  refine(aK (d:=.obj ω.length) (ω1:=ω++[Ob.ml []]) rfl).trans ?_;have L1:=L.app c0 [.ml []];refine(bB (dP (by
   unfold bD oIL;rw[bS (x:=(sm.map Rec.mark,bM)) (ω1:=ω++[Ob.ml []]) (by
    rw[bJ (cP (d:=.lst (sm.map Rec.mark)) (ω2:=ω++[Ob.ml []]) (aA (L1.gOrder (aB (d:=.obj h) rfl)) aD) (by
     have:fK (ω++[Ob.ml []]) (.obj oo)=xa (rs.map Rec.mark):=by unfold fK;simp only[L1.order]
     show(match fK (ω++[Ob.ml []]) (.obj oo) with
      |some xs=>(dF 4 xs).map fun out=>(D.lst out,ω++[Ob.ml []])
      |none=>xb)=_
     rw[this]
     show(dF 4 (rs.map Rec.mark)).map _=_
     rw[es];rfl))]
    rfl)]
   exact e3))).trans ?_
  refine(skip t2).trans ?_;refine dP ?_;unfold bD;rw[bS (kA (c:=c) (aB rfl) (by omega))];exact e4
end
theorem GH {S:Nat->Hd} (I:HInv c own S) (ω:Om):dH [Ed c S,.int c] ω=xa (.ok (.bl true),ω):=by
 have:=Ec (ts:=(bj c).map fun i=>(S i).seen i) (c:=c) (fun t ht=>by
  obtain⟨i,hi,rfl⟩:=ak.mp ht;exact(I i (df.mp hi)).1.seenLen (df.mp hi)) (by simp) ω
 rw[fk] at this;exact this
theorem DT {ns:List Int}{i j:Nat}{f:OG D}{l u:DO}{ρ:Rho}{ω:Om} (e:f ρ ω=xa (.ok (.scr (ns.map D.int)),ω)) (hl:l ρ=xa (xa (i:Int))) (hu:u ρ=xa (xa (j:Int))):∃ xs:List Int,oSl f l u ρ ω=xa (.ok (.lst (iv xs)),ω)/\xs.length<=j-i:=by
 have h1:Do (ns.map D.int) (xa (i:Int)) (xa (j:Int))=iv ((ns.drop (min i ns.length)).take (min j ns.length-min i ns.length)):=by
  unfold Do;rw[HT.sIx_nat,HT.sIx_nat,am];unfold iv;rw[List.map_take,List.map_drop]
 refine⟨(ns.drop (min i ns.length)).take (min j ns.length-min i ns.length),?_,?_⟩
 ·unfold oSl;rw[bJ e]
  show(l ρ).bind _=_
  rw[hl]
  show(u ρ).bind _=_
  rw[hu];show oR (pu (xa (D.lst (Do (ns.map D.int) (xa (i:Int)) (xa (j:Int))))) ω)=_;rw[h1];rfl
 ·rw[ol];omega
theorem law_true (ns:List Int) (hns:ns.length<=63):∃ ω',p_law [.scr (ns.map D.int)] []=xa (.ok (.bl true),ω'):=by
 obtain⟨x0,e0⟩:=OU ns 0 [];have r8:=EN (x:=x0*48271 % 1069) (q:=8) (by decide);obtain⟨c,hc,c0,c8⟩:∃ c:Nat,([1,2,3,4,2,3,4,8]:List Int).getD (x0*48271 % 1069 % 8).toNat 0=(c:Int)/\0<c/\c<=8:=by
  generalize x0*48271 % 1069 % 8=r at r8
  have hr:r=0∨r=1∨r=2∨r=3∨r=4∨r=5∨r=6∨r=7:=by omega
  rcases hr with rfl|rfl|rfl|rfl|rfl|rfl|rfl|rfl
  ·exact⟨1,rfl,by decide,by decide⟩
  ·exact⟨2,rfl,by decide,by decide⟩
  ·exact⟨3,rfl,by decide,by decide⟩
  ·exact⟨4,rfl,by decide,by decide⟩
  ·exact⟨2,rfl,by decide,by decide⟩
  ·exact⟨3,rfl,by decide,by decide⟩
  ·exact⟨4,rfl,by decide,by decide⟩
  ·exact⟨8,rfl,by decide,by decide⟩
 obtain⟨xs,es,hxs⟩:=DT (f:=zV 0) (ρ:=[xa (.scr (ns.map D.int)),xa (.int c),xb,xb,xb,xb,xb,xb,xb,xb,xb,xb,xb,xb,xb]) (ω:=[]) (ns:=ns) (i:=1) (j:=37) (l:=dSo (dC (.int 1))) (u:=dSo (dC (.int 37))) (aB rfl) rfl rfl;obtain⟨ds,hds,ed⟩:=ID (xs:=xs) c0 c8 (by omega) [];obtain⟨ω1,hω1⟩:∃ ω1:Om,ω1=[]++[Ob.ml (ds.map Deed.d)]:=⟨_,rfl⟩;rw[<- hω1] at ed;have g1:ω1[0]?=xa (.ml (ds.map Deed.d)):=by rw[hω1];rfl
 obtain⟨ω2,ea,K2,_⟩:=zG c0 c8 (ds:=ds) (by omega) (ω:=ω1) (d:=.obj 0) (by unfold DeedsAt fK;simp only[g1]);have g2:ω2[0]?=xa (.ml (ds.map Deed.d)):=by rw[K2.2 0 (dZ g1) (by simp)];exact g1
 obtain⟨ω5,h,dd,oo,kk,ks,en,L5⟩:=CS c0 c8 ω2;obtain⟨ω6,ks6,rs,kn,own,e6,L6,I6,Q6,t6,N6⟩:=Ce c0 c8 ds L5 (OZ c) (RV c) (by rw[Pp];omega) fun t=>rfl;have I0:HInv c own (kY c ds):=I6;have Q0:Rel c own (kY c ds) rs kn:=Q6;obtain⟨sm,hs,hp,ho⟩:=Ae Q0.recs t6;have kr:GM c (kY c ds)=.lst (((bj c).map fun i=>sm.filter (eD c (kn i) i)).map fun t=>.lst (t.map iO)):=by
  unfold GM;rw[fk]
  congr 1
  refine fg fun i hi=> ?_;rw[BF Q0 I0 c0 c8 t6 (df.mp hi) hp ho];rfl
 have ko:∀ ω,eO [GM c (kY c ds),.int c] ω=xa (.ok (.bl true),ω):=fun ω=>by
  rw[kr];refine Lh (fun t ht r hr=> ?_) (by simp) ω;obtain⟨i,_,rfl⟩:=ak.mp ht;have ro:=Q0.recs.outs r (hp.mem_iff.mp (bu.mp hr).1);exact⟨by omega,fun q hq=>by
   obtain⟨a,b,_,_,_,rfl⟩:=ro.2 q hq;exact⟨a,b,rfl⟩⟩
 obtain⟨u8,e6'⟩:=e6 (aS 8) (jY 0 (ds.map Deed.d)) vB (fun u=>wR (.scr (ns.map D.int)) c (kY c ds) h u xb xb xb xb xb xb) (fun ω hb hk=>pN (by rw[hk 0 (dZ g2)];exact g2)) (fun d u=>rfl) (fun d ω ω' ans e=>by
  unfold vB bT;rw[bS (aV (aA (aB (d:=.obj h) rfl) (aA (aB (d:=d.d) rfl) aD)) e)]) xb
 obtain⟨ω7,w9,w10,w11,w12,w13,w14,e7⟩:=Jq (sc:=.scr (ns.map D.int)) (v8:=u8) Q0 I0 c0 c8 t6 hs hp ho c 0 (ω:=ω6) (v9:=xb) (v10:=xb) (v11:=xb) (v12:=xb) (v13:=xb) (v14:=xb) L6 (by omega);refine⟨ω7,aT rfl ?_⟩;unfold Oq;refine(aK (d:=.int c) (ω1:=[]) (by
  rw[<- hc];exact uZ (xs:=[1,2,3,4,2,3,4,8]) rfl (qA (a:=x0) (aV (aA (aB (d:=.scr (ns.map D.int)) rfl) (aA aR aD)) e0) aR (by decide) (by decide)) r8.1 r8.2)).trans ?_
 refine(aK (aV (aA es (aA (aB (d:=.int c) rfl) aD)) ed)).trans ?_;refine(bB (ρ1:=[xa (.scr (ns.map D.int)),xa (.int c),xa (.obj 0),xa (Pa c (kY c ds)),xa (Ed c (kY c ds)),xa (Ee c (kY c ds)),xa (GM c (kY c ds)),xb,xb,xb,xb,xb,xb,xb,xb]) (ω1:=ω2) (by
  unfold CB;rw[bS (aV (aA (aB (d:=.int c) rfl) (aA (aB (d:=.obj 0) rfl) aD)) ea)];rfl)).trans ?_
 refine(skip (xI (gA (k:=true) (tru_ok (aV (aA (aB (d:=GM c (kY c ds)) rfl) (aA (aB (d:=.int c) rfl) aD)) (ko ω2)))) (gA (k:=true) (tru_ok (aV (aA (aB (d:=Ed c (kY c ds)) rfl) (aA (aB (d:=.int c) rfl) aD)) (GH I0 ω2)))))).trans ?_;refine(skip (xI (gA (k:=true) (tru_ok (mV (aB (d:=Ee c (kY c ds)) rfl) rfl))) (xN (a:=(c:Int)) (b:=(c:Int)) (cP (aA (aB (d:=Ee c (kY c ds)) rfl) aD) (by
  show xa (D.int (((bj c).map fun i=>D.lst ((kY c ds i).knows.map fun xs=>.lst (iv xs))).length:Nat),ω2)=_;rw[am,fy])) (aB rfl) rfl))).trans ?_
 refine(aK (aV (aA (aB (d:=.int c) rfl) aD) en)).trans ?_;refine(bB (dP (by
  unfold bD oIL;rw[bS (x:=(ds.map Deed.d,jY 0 (ds.map Deed.d))) (ω1:=ω5) (by
   rw[bJ (aB (d:=.obj 0) rfl)];have g5:ω5[0]?=xa (.ml (ds.map Deed.d)):=by rw[L5.bas.2 0 (dZ g2)];exact g2
   have:mY ω5 (.obj 0)=xa (ds.map Deed.d,jY 0 (ds.map Deed.d)):=by simp only[mY,g5]
   show oR (pu (mY ω5 (.obj 0)) ω5)=_;rw[this];rfl)]
  exact e6'))).trans ?_
 refine(bB (dP (by
  unfold bD;rw[bS (kA (c:=c) (aB rfl) (by omega))];exact e7))).trans ?_
 rfl
noncomputable def top (i:Nat):cz:=PySem.Challenge.pw_meetbook_k04_whole_kept_and_forgotten.main.body.getD i (.Pass ⟨0,0,0,0⟩)
noncomputable abbrev lfs:List (Str×Str×cz):=[("has_seen","",top 5),("joined","",top 6),("common","",top 7),("newer","",top 8),("left_by","",top 10),("done","",top 15),("answer_to","",top 16),("after","",top 17),("_law_whole","",top 19),("_law_at","",top 20),("_law_all_after","",top 21),("_law_odd","",top 22),("_law_word","",top 23),("_law_deed_of","",top 24),("_law_drawn","",top 25),("_law_new","",top 26),("_law_present","",top 27),("_law_noted","",top 28),("_law_gets_told","",top 29),("_law_due_answer","",top 30),("_law_are_rows","",top 31),("_law_are_kept","",top 32),("_law_by_all","",top 33)]
noncomputable abbrev QZ:List (Str×Str×cz):=[("seen","Hand.seen",cC (top 11) 1),("entries","Hand.entries",cC (top 11) 2),("known","Hand.known",cC (top 11) 3),("in_mind","Hand.in_mind",cC (top 11) 4),("new_mark","Hand.new_mark",cC (top 11) 9),("put","Hand.put",cC (top 11) 5),("forget","Hand.forget",cC (top 11) 12),("take_out","Hand.take_out",cC (top 11) 11),("marks_of","Hand.marks_of",cC (top 11) 10),("change","Hand.change",cC (top 11) 6),("take","Hand.take",cC (top 11) 7),("hear","Hand.hear",cC (top 11) 8)]
noncomputable abbrev QY:List (Str×Str×cz):=[("hand","Hall.hand",cC (top 13) 1),("pair","Hall.pair",cC (top 13) 2),("put","Hall.put",cC (top 13) 3),("change","Hall.change",cC (top 13) 4),("take","Hall.take",cC (top 13) 5),("tell","Hall.tell",cC (top 13) 6),("meet","Hall.meet",cC (top 13) 7)]
structure Txt (K:aa) (mg:Str->Option ag) (cls exC:Nat->af):Prop where
 bn:Bn mg
 dict:mg "dict"=xb
 c0:Cls K (cls 0)
 m0:mg "Hand"=xa (.ref (cls 0))
 c1:Cls K (cls 1)
 m1:mg "Hall"=xa (.ref (cls 1))
 a0_kept:NoAttr K (cls 0) "kept"
 a0_knows:NoAttr K (cls 0) "knows"
 a0_number:NoAttr K (cls 0) "number"
 a0_table:NoAttr K (cls 0) "table"
 a1_hands:NoAttr K (cls 1) "hands"
 x0:mg "NoHand"=xa (.ref (exC 0))
 x1:mg "SameHand"=xa (.ref (exC 1))
 exs:∃ tl1 tl2,ownIn K (exC 0) tl1/\ownIn K (exC 1) tl2/\(ck (exC 1)::tl2).contains (.ref (exC 0))=false
 fn:AllP (fun x _ s=>FF K mg x s) lfs
 mt0:AllP (FM K (cls 0)) QZ
 in0:FI K (cls 0) "__init__" "Hand.__init__" (cC (top 11) 0)
 mt1:AllP (FM K (cls 1)) QY
 in1:FI K (cls 1) "__init__" "Hall.__init__" (cC (top 13) 0)
local macro_rules
 | `(tactic|apply_rules [$ts,*])=>do
 let [hu,hu1,hu6,hr,hE,hR,T]:=[`hu,`hu1,`hu6,`hr,`hE,`hR,`T].map Lean.mkIdent|p9
 let R <- `(tactic|apply_rules [$ts,*])
 let hm <- `(by first|exact $hr|exact($hr).mono (by decide))
 let hp <- `(by first|exact PY|exact($hE).pas)
 let cs <- ts.getElems.mapM fun u=>let t:Lean.TSyntax `term:=⟨u.raw[0]⟩;`(tactic|first|(refine Ho $t $hm $hp ?_) <;> $R|(refine KI $t $hm $hp ?_ ?_) <;> $R|(refine Hs $t $hm ?_ $hp ?_) <;> $R|(refine KL $t $hm ?_ $hp ?_) <;> $R)
 `(tactic|first
  |(with_reducible apply EB);first|with_reducible exact Ci|with_reducible exact Ch|with_reducible exact ON|with_reducible exact QC|with_reducible exact Jx Ci|exact dvk (by kernel_rfl)
  |with_reducible exact NV
  |with_reducible exact LO
  |with_reducible exact KD
  |with_reducible exact Hl
  |with_reducible exact Nr
  |with_reducible exact QA
  |with_reducible exact Qz
  |(with_reducible apply KS) <;> $R
  |(with_reducible apply Qj) <;> $R
  |(with_reducible apply KN) <;> $R
  |(with_reducible apply NR) <;> $R
  |(with_reducible apply NU) <;> $R
  |(with_reducible apply NK) <;> $R
  |(with_reducible apply NN) <;> $R
  |(with_reducible apply NO) <;> $R
  |(with_reducible apply KR) <;> $R
  |(with_reducible apply KE) <;> $R
  |(with_reducible apply KB) <;> $R
  |(with_reducible apply KP) <;> $R
  |(with_reducible apply NS) <;> $R
  |(with_reducible apply Qi) <;> $R
  |(with_reducible apply Qk) <;> $R
  |(with_reducible apply Qa) <;> $R
  |(with_reducible apply Qb) <;> $R
  |(with_reducible apply Qd) <;> $R
  |(with_reducible apply Qe) <;> $R
  |(with_reducible apply Ki) <;> $R
  |(with_reducible apply Nn) <;> $R
  |(with_reducible apply Nm) <;> $R
  |(with_reducible apply Nl) <;> $R
  |(with_reducible apply Qc) <;> $R
  |(with_reducible apply Hg) <;> $R
  |(with_reducible apply No) <;> $R
  |(with_reducible apply Kj) <;> $R
  |(with_reducible apply NM) <;> $R
  |(with_reducible apply NT) <;> $R
  |(with_reducible apply NL) <;> $R
  |(with_reducible apply Hm) <;> $R
  |(with_reducible apply KG) <;> $R
  |(with_reducible apply NQ) <;> $R
  |(with_reducible apply NJ) <;> $R
  |(with_reducible apply EC) <;> $R
  |(with_reducible apply KC) <;> $R
  |(with_reducible apply Kz) <;> $R
  |(with_reducible apply Ez) <;> $R
  |(with_reducible apply NH) <;> $R
  |(with_reducible apply NI) <;> $R
  |(with_reducible apply Kx) <;> $R
  |(with_reducible apply Hk) <;> $R
  |(with_reducible apply Ni) <;> $R
  |(with_reducible apply Kh) <;> $R
  |(with_reducible apply PZ) <;> $R
  |(with_reducible apply Nh) <;> $R
  |(with_reducible apply Nk) <;> $R
  |(with_reducible apply Nj) <;> $R
  |(with_reducible apply Ry) <;> $R
  |(with_reducible apply Kp) <;> $R
  |(with_reducible apply Nq) <;> $R
  |(with_reducible apply Np) <;> $R
  |(with_reducible apply Qf) <;> $R
  |(with_reducible apply Kn) <;> $R
  |(with_reducible apply Nu) <;> $R
  |(with_reducible apply Ko) <;> $R
  |(with_reducible apply Kl) <;> $R
  |(with_reducible apply Nt) <;> $R
  |(with_reducible apply Km) <;> $R
  |(with_reducible apply Kr) <;> $R
  |(with_reducible apply LN) <;> $R
  |(with_reducible show OE _ _ _ _ (oL (lfL Ia) _));(refine gY (Gf rfl) (FitL.lift Io) ?_ ($T).bn.min boot.min ?_) <;> $R
  |(with_reducible show OE _ _ _ _ (oL (lfL yG) _));(refine gY (Gg rfl) (FitL.lift Ip) ?_ ($T).bn.max boot.max ?_) <;> $R
  |(with_reducible show OE _ _ _ _ (oL Au _));(refine gY (yX rfl) Ii ?_ ($T).bn.sum boot.sum ?_) <;> $R
  |(with_reducible show OE _ _ _ _ (oL (lfL Pf) _));(refine gY (yX rfl) (FitL.lift LC) ?_ ($T).bn.sum boot.sum ?_) <;> $R
  |(with_reducible show OE _ _ _ _ (oL (Ft _) _));(refine gY (Gd $hu6) Ij ?_ ($T).bn.sorted boot.sorted ?_) <;> $R
  |(with_reducible show OE _ _ _ _ (oL (Fu _) _));(refine gY (Ge rfl $hu6) Ik ?_ ($T).bn.sorted boot.sorted ?_) <;> $R
  |(with_reducible show OE _ _ _ _ (oL iN _));(refine gY IM Iq ?_ ($T).bn.len boot.len ?_) <;> $R
  |(with_reducible show OE _ _ _ _ (oL (lfL Pi) _));(refine lK Gi (FitL.lift LI) ?_ ($T).bn.int boot.int ?_) <;> $R
  |(with_reducible show OE _ _ _ _ (oL tM _));(refine lK nC FD ?_ ($T).bn.list boot.list ?_) <;> $R
  |(with_reducible show OE _ _ _ _ (oL iL _));(refine lK nC FC ?_ ($T).bn.list boot.list ?_) <;> $R
  |(with_reducible show OE _ _ _ _ (oL Fq _));(refine lK vR Ih ?_ ($T).bn.tuple boot.tuple ?_) <;> $R
  |(with_reducible show OE _ _ _ _ (Ht _ _));(refine KA $hu6 rfl ?_ ($T).bn.sorted ?_) <;> $R
  |(with_reducible show OE _ _ _ _ (nU "str" _));(refine xJ ?_ ?_ ($T).bn.isinstance ?_ ($T).bn.str boot.str) <;> $R
  |(with_reducible show OE _ _ _ _ (nU "int" _));(refine xJ ?_ ?_ ($T).bn.isinstance ?_ ($T).bn.int boot.int) <;> $R
  |(with_reducible show OE _ _ _ _ (nU "bool" _));(refine xJ ?_ ?_ ($T).bn.isinstance ?_ ($T).bn.bool boot.bool) <;> $R
  |(with_reducible show OE _ _ _ _ (nU "list" _));(refine xJ ?_ ?_ ($T).bn.isinstance ?_ ($T).bn.list boot.list) <;> $R
  |(with_reducible show OE _ _ _ _ (nU "tuple" _));(refine xJ ?_ ?_ ($T).bn.isinstance ?_ ($T).bn.tuple boot.tuple) <;> $R
  |(with_reducible show OE _ _ _ _ (dI _ _ _ _ _ _));(refine Hr ?_ rfl rfl (by kernel_rfl) ?_ (fun _ _ _ _ _ _=>⟨?_,?_,?_⟩)) <;> $R
  |(with_reducible show OE _ _ _ _ (CK _));(refine KM ?_ rfl rfl (by simp) (by decide)) <;> $R
  |(with_reducible show PPs _ _ (_::_) _ _);(refine GX (EB Ch) ?_ ?_) <;> $R
  |(with_reducible show PPs _ _ [] _ _);(refine JU) <;> $R
  |(with_reducible show OSt _ _ _ _ (wY _ _ _ _ _));(obtain⟨_,_,o0,o1,hne⟩:=($T).exs;refine Kk ($hE).ex rfl rfl ⟨_,rfl⟩ ?_ ?_ ($T).x0 ($T).x1 o0 o1 hne (fun _ _ _ $hE=> ?_) (fun _=> ?_) (fun _=> ?_)) <;> $R
  |with_reducible exact Ci
  |with_reducible exact Jx Ci
  |(with_reducible show DE _ (.Name _ _) _);exact dvk (by kernel_rfl)
  |(with_reducible show PG _ (.Name _ _) _);exact RH (by kernel_rfl)
  |(with_reducible show PG _ (.Tuple [_,_] _ _) _);exact RG rfl (by kernel_rfl) (by kernel_rfl)
  |(with_reducible show PG _ (.Tuple [_,_,_,_] _ _) _);exact RF rfl (by kernel_rfl) (by kernel_rfl) (by kernel_rfl) (by kernel_rfl)
  |(with_reducible show Gl _ _);unfold Gl;kernel_rfl
  |(with_reducible show OSt _ _ _ _ (aY _ _));(refine RQ (by kernel_rfl) ?_) <;> $R
  |(with_reducible show OSt _ _ _ _ (aY _ _));(refine Hh ?_ (by kernel_rfl) rfl rfl (by kernel_rfl) ?_ (fun _ _ _ _ _ _=>⟨?_,?_,?_⟩)) <;> $R
  |(with_reducible show OSt _ _ _ _ (Bv _ _));obtain⟨_,_,o0,o1,hne⟩:=($T).exs;first|exact BA rfl $hR (by rfl) ($T).x0 o0 Ch|exact BA rfl $hR (by rfl) ($T).x1 o1 Ch
  |exact rfl
  |(intro _;exact rfl)
  |(intro _ _;exact rfl)
  |exact($T).bn.range
  |exact($T).bn.zip
  |exact($T).c0
  |exact($T).c1
  |exact($T).a0_kept
  |exact($T).a0_knows
  |exact($T).a0_number
  |exact($T).a0_table
  |exact($T).a1_hands
  |exact $hu
  |exact $hu1
  |exact $hu6
  |with_unfolding_all rfl
  |decide
  $[| $cs:tactic]*)
local macro_rules
 | `(tactic|solve_by_elim [$ts,*])=>do
 let [hu,hu1,hu6,hr,hE,hR]:=[`hu,`hu1,`hu6,`hr,`hE,`hR].map Lean.mkIdent|p9
 `(tactic|(intro _ _ _ _ _ _ _ $hr $hu $hu1 $hu6 $hE $hR;conv=>(arg 4;whnf));apply_rules [$ts,*])
section
seal PE PT PA PS PSs PI PG PW Mh PO PPs
variable {P:dm}{w:dr}{K:aa}{mg:Str->Option ag}{base:c9}{cls exC:Nat->af} (T:Txt K mg cls exC)
include T
theorem tT:nL P w K mg base cls exC 1 "has_seen" Du fL:=dfD (T.fn.get 0 rfl) (by solve_by_elim [])
theorem IK:nL P w K mg base cls exC 1 "joined" IV gU:=dfD (T.fn.get 1 rfl) (by solve_by_elim [])
theorem IL:nL P w K mg base cls exC 1 "common" IW nS:=dfD (T.fn.get 2 rfl) (by solve_by_elim [])
theorem LQ:nL P w K mg base cls exC 1 "newer" Me Ac:=dfD (T.fn.get 3 rfl) (by solve_by_elim [])
theorem iG:rJ P w K mg base cls exC 1 0 "seen" AV bY:=dfM (T.mt0.get 0 rfl) T.c0 (by solve_by_elim [])
theorem FR:nL P w K mg base cls exC 2 "left_by" Gn lJ:=dfD (T.fn.get 4 rfl) (by solve_by_elim [iG T,tT T])
theorem vM:Pj P w K mg base cls exC 1 0 "Hand" vV dU:=dfI T.in0 T.m0 (by solve_by_elim [])
theorem gG:rJ P w K mg base cls exC 1 0 "entries" rY bW:=dfM (T.mt0.get 1 rfl) T.c0 (by solve_by_elim [])
theorem yR:rJ P w K mg base cls exC 1 0 "known" zJ fZ:=dfM (T.mt0.get 2 rfl) T.c0 (by solve_by_elim [])
theorem rT:rJ P w K mg base cls exC 1 0 "in_mind" rX eP:=dfM (T.mt0.get 3 rfl) T.c0 (by solve_by_elim [])
theorem jF:rJ P w K mg base cls exC 2 0 "new_mark" rA cZ:=dfM (T.mt0.get 4 rfl) T.c0 (by solve_by_elim [iG T])
theorem tU:rJ P w K mg base cls exC 3 0 "put" Dv eK:=dfM (T.mt0.get 5 rfl) T.c0 (by solve_by_elim [jF T])
theorem lX:rJ P w K mg base cls exC 2 0 "forget" vW fG:=dfM (T.mt0.get 6 rfl) T.c0 (by solve_by_elim [tT T,IL T])
theorem jE:rJ P w K mg base cls exC 3 0 "take_out" qZ cY:=dfM (T.mt0.get 7 rfl) T.c0 (by solve_by_elim [lX T])
theorem jG:rJ P w K mg base cls exC 2 0 "marks_of" rB dA:=dfM (T.mt0.get 8 rfl) T.c0 (by solve_by_elim [gG T])
theorem vN:rJ P w K mg base cls exC 4 0 "change" vX dW:=dfM (T.mt0.get 9 rfl) T.c0 (by solve_by_elim [jE T,tU T,jG T])
theorem AH:rJ P w K mg base cls exC 4 0 "take" AU fO:=dfM (T.mt0.get 10 rfl) T.c0 (by solve_by_elim [jE T,jF T,jG T])
theorem qL:rJ P w K mg base cls exC 3 0 "hear" AW cL:=dfM (T.mt0.get 11 rfl) T.c0 (by solve_by_elim [lX T,IK T,gG T,FR T,iG T,LQ T])
theorem vO:Pj P w K mg base cls exC 3 1 "Hall" vY gW:=dfI T.in1 T.m1 (by solve_by_elim [vM T])
theorem iH:rJ P w K mg base cls exC 1 1 "hand" Bb bQ:=dfM (T.mt1.get 0 rfl) T.c1 (by solve_by_elim [])
theorem qM:rJ P w K mg base cls exC 2 1 "pair" AZ bZ:=dfM (T.mt1.get 1 rfl) T.c1 (by solve_by_elim [iH T])
theorem Dn:rJ P w K mg base cls exC 4 1 "put" Dw gJ:=dfM (T.mt1.get 2 rfl) T.c1 (by solve_by_elim [iH T,tU T])
theorem vP:rJ P w K mg base cls exC 5 1 "change" vZ dX:=dfM (T.mt1.get 3 rfl) T.c1 (by solve_by_elim [iH T,vN T])
theorem AJ:rJ P w K mg base cls exC 5 1 "take" AY fQ:=dfM (T.mt1.get 4 rfl) T.c1 (by solve_by_elim [iH T,AH T])
theorem AI:rJ P w K mg base cls exC 4 1 "tell" AX fP:=dfM (T.mt1.get 5 rfl) T.c1 (by solve_by_elim [qL T,qM T])
theorem AK:rJ P w K mg base cls exC 4 1 "meet" Ba fR:=dfM (T.mt1.get 6 rfl) T.c1 (by solve_by_elim [qL T,qM T])
theorem OR:nL P w K mg base cls exC 6 "done" OX kB:=dfD (T.fn.get 5 rfl) (by solve_by_elim [AK T,AI T,AJ T,vP T,Dn T])
theorem AG:nL P w K mg base cls exC 7 "answer_to" AT eJ:=dfD (T.fn.get 6 rfl) (by solve_by_elim [OR T])
theorem LR:nL P w K mg base cls exC 8 "after" Mf Ad:=dfD (T.fn.get 7 rfl) (by solve_by_elim [rT T,yR T,iG T,gG T,AG T,vO T])
theorem qI:nL P w K mg base cls exC 1 "_law_whole" AQ gQ:=dfD (T.fn.get 8 rfl) (by solve_by_elim [])
theorem IJ:nL P w K mg base cls exC 1 "_law_at" IU uP:=dfD (T.fn.get 9 rfl) (by solve_by_elim [])
theorem qK:nL P w K mg base cls exC 9 "_law_all_after" qY fN:=dfD (T.fn.get 10 rfl) (by solve_by_elim [LR T])
theorem FS:nL P w K mg base cls exC 1 "_law_odd" Go eX:=dfD (T.fn.get 11 rfl) (by solve_by_elim [])
theorem Dm:nL P w K mg base cls exC 1 "_law_word" Dt jP:=dfD (T.fn.get 12 rfl) (by solve_by_elim [])
theorem vL:nL P w K mg base cls exC 2 "_law_deed_of" vU gT:=dfD (T.fn.get 13 rfl) (by solve_by_elim [FS T,Dm T])
theorem AF:nL P w K mg base cls exC 3 "_law_drawn" AS kO:=dfD (T.fn.get 14 rfl) (by solve_by_elim [vL T])
theorem FT:nL P w K mg base cls exC 1 "_law_new" Gp pB:=dfD (T.fn.get 15 rfl) (by solve_by_elim [])
theorem vK:nL P w K mg base cls exC 1 "_law_present" vT gS:=dfD (T.fn.get 16 rfl) (by solve_by_elim [])
theorem AE:nL P w K mg base cls exC 1 "_law_noted" AR cW:=dfD (T.fn.get 17 rfl) (by solve_by_elim [])
theorem qJ:nL P w K mg base cls exC 1 "_law_gets_told" qX cX:=dfD (T.fn.get 18 rfl) (by solve_by_elim [])
theorem nH:nL P w K mg base cls exC 2 "_law_due_answer" nJ cE:=dfD (T.fn.get 19 rfl) (by solve_by_elim [qJ T,AE T,vK T])
theorem rR:nL P w K mg base cls exC 2 "_law_are_rows" rV dH:=dfD (T.fn.get 20 rfl) (by solve_by_elim [qI T])
theorem rS:nL P w K mg base cls exC 2 "_law_are_kept" rW eO:=dfD (T.fn.get 21 rfl) (by solve_by_elim [qI T])
theorem yQ:nL P w K mg base cls exC 1 "_law_by_all" zH eY:=dfD (T.fn.get 22 rfl) (by solve_by_elim [])
theorem QD {f:af}{fd:jp} (F:Pk K mg "law" (top 34) f fd):sE P w K mg base (CX1 P w exC) 10 f fd QH (spO cls exC K p_law):=Cm F.fn (by constructor <;> first|rfl|decide+kernel) (by solve_by_elim [yQ T,rR T,nH T,FT T,rS T,qK T,AF T,IJ T])
end
abbrev cs:List Str:=["Hand","Hall"]
abbrev xs:List Str:=["NoHand","SameHand"]
theorem all_mk {P:dm}{w:dr}{K:aa}{h:c9}{mg:Str->Option ag}{fa C0 C1 E0 E1:af}{tl0 tl1:List ag} (X:K.In h) (G:h.Ns ce mg) (hfa:mg "law"=xa (.ref fa))
  (T:Bn mg)
  (hdict:cx K ce "dict"=xa xb)
  (n0:clsIn K "Hand" C0) (c0:Cls K C0) (mk0:mkIn K C0)
  (a0_kept:NoAttr K C0 "kept")
  (a0_knows:NoAttr K C0 "knows")
  (a0_number:NoAttr K C0 "number")
  (a0_table:NoAttr K C0 "table")
  (n1:clsIn K "Hall" C1) (c1:Cls K C1) (mk1:mkIn K C1)
  (a1_hands:NoAttr K C1 "hands")
  (e0:clsIn K "NoHand" E0) (o0:ownIn K E0 tl0)
  (e1:clsIn K "SameHand" E1) (o1:ownIn K E1 tl1)
  (hne:(ck E1::tl1).contains (.ref E0)=false)
  (If:AllP (fun x _ s=>FnIn K x s) lfs) (I:FnIn K "law" (top 34))
  (M0:AllP (mtF K C0) QZ) (i0:mtF K C0 "__init__" "Hand.__init__" (cC (top 11) 0))
  (M1:AllP (mtF K C1) QY) (i1:mtF K C1 "__init__" "Hall.__init__" (cC (top 13) 0))
  :∃ fd:jp,(∀(s:au) (v:ag),tj s fd ⟨[v],[]⟩ [("_law_script",v)])/\∀ base:c9,K.In base->base.Ns ce mg->sE P w K mg base (CX1 P w (jI K xs)) 10 fa fd ["_law_script"] (spO (jI K cs) (jI K xs) K p_law):=by
 have q0:jI K cs 0=C0:=oF rfl n0;subst q0;have q1:jI K cs 1=C1:=oF rfl n1;subst q1;have r0:jI K xs 0=E0:=oF rfl e0;subst r0;have r1:jI K xs 1=E1:=oF rfl e1;subst r1;have TT:Txt K mg (jI K cs) (jI K xs):=⟨T,dc X G hdict,c0,n9 X G n0,c1,n9 X G n1,a0_kept,a0_knows,a0_number,a0_table,a1_hands,n9 X G e0,n9 X G e1,⟨tl0,tl1,o0,o1,hne⟩,If.imp fun _ _ _ h=>h.fnAt X G,M0.imp fun _ _ _ h=>h.out,i0.mk mk0,M1.imp fun _ _ _ h=>h.out,i1.mk mk1⟩;obtain⟨a_law,fd_law,F_law⟩:=I.fnAt X G;obtain rfl:a_law=fa:=by
  have e:=hfa.symm.trans F_law.at_;cases e;rfl
 refine⟨fd_law,fun s v=> ?_,fun base kb nb=>QD TT F_law⟩;obtain⟨oc,od,kV,doc,pm,an,cdv,ct,osl,rfl,_,_⟩:=F_law.fn.ex;exact .of_eq rfl
end L2.MB.Lw
open PySem PySem.W PyProof.Rows
set_option maxRecDepth 100000 in
set_option maxHeartbeats 0 in
theorem PySem.Challenge.cw_meetbook_k04_whole_kept_and_forgotten_holds : PySem.Challenge.rw_meetbook_k04_whole_kept_and_forgotten.Holds := by
 refine Hq0.tpQ ?_
 k_fill
 refine L2.MB.law_walkO (l:=PySem.Challenge.rw_meetbook_k04_whole_kept_and_forgotten) (k:=10) (x:="_law_script") (φ:=L2.MB.Lw.p_law) (cs:=L2.MB.Lw.cs) (es:=L2.MB.Lw.xs) rfl rfl ⟨rfl,by decide,by decide⟩ (fun w h Y=>PySem.W.kIn_of Y) (fun ns h=>L2.MB.Lw.law_true ns h) ?F
 case F=>
  intro w mg fa h KX G hmg;have T:L2.MB.Bn mg:=by
   refine' L2.MB.bn_mk KX G ?_ ?_ ?_ ?_ ?_ ?_ ?_ ?_ ?_ ?_ ?_ ?_ ?_ ?_ <;> k_is
  refine' L2.MB.Lw.all_mk KX G hmg T ?_ ?_ ?_ ?_ ?_ ?_ ?_ ?_ ?_ ?_ ?_ ?_ ?_ ?_ ?_ ?_ ?_ ?_ ?_ ?_ ?_ ?_ ?_
  any_goals (with_reducible show L2.MB.clsIn _ _ _);unfold L2.MB.clsIn;k_is
  any_goals (with_reducible show L2.Cls _ _);refine' ⟨?_,?_,?_,?_⟩ <;> k_is
  any_goals (with_reducible show L2.MB.mkIn _ _);refine' ⟨?_,?_⟩ <;> k_is
  any_goals (with_reducible show L2.NoAttr _ _ _);unfold L2.NoAttr;k_is
  any_goals (with_reducible show L2.MB.ownIn _ _ _);(refine' L2.MB.own_mk ?p1 ?p2 ?p3 ?p4 ?p5 ?p6;(case p1=>k_is);(case p2=>rfl);(case p3=>rfl);(case p4=>(refine' L2.MB.tail_mk ?q1 ?q2 ?q3 ?q4;(case q1=>k_is);(case q2=>(refine' L2.MB.nsOk_mk ?l ?h;(case l=>k_is);(case h=>rfl)));(case q3=>k_is);(case q4=>rfl)));(case p5=>(refine' L2.MB.nsOk_mk ?l ?h;(case l=>k_is);(case h=>rfl)));(case p6=>k_is))
  any_goals (with_reducible show L2.MB.AllP _ _);dsimp only[L2.MB.AllP];(repeat' with_reducible apply And.intro)
  all_goals first|k_is|exact rfl|exact trivial|(refine' L2.MB.fnIn_mk ?z1 ?z2 ?z3 ?z4;(case z1=>k_is);(case z2=>k_is);(case z3=>k_is);(case z4=>k_is))|(refine' ⟨_,L2.MB.mtIn_mk ?z1 ?z2 ?z3 ?z4 ?z5⟩;(case z1=>k_is);(case z2=>k_is);(case z3=>k_is);(case z4=>k_is);(case z5=>k_is))
end
