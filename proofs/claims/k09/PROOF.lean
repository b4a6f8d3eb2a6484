import PyProof.Rows.All
import Wide.All
import OpenK.AllK
import Wide.FinOn
import Lean
import PyProof.EqAt
import PyProof.EqKinds
import PyProof.TupleCall
import PyProof.NeKinds
import PyProof.StationsW
import PyProof.ExcBaseAll.ValueError
import KE.KSortTup
import PySem.Challenge.RW_meetbook_k09_whole_hands_renumbered
section
set_option Elab.async false
open PySem PySem.W PyProof.Rows
def Hq0.vwQ : Program := { PySem.Challenge.pw_meetbook_k09_whole_hands_renumbered with main := { PySem.Challenge.pw_meetbook_k09_whole_hands_renumbered.main with body := [1, 2, 3, 5, 6, 7, 8, 10, 11, 13, 15, 16, 17, 18, 20, 21, 22, 23, 24, 25, 26, 27, 28, 29, 30, 31, 32].filterMap fun i => PySem.Challenge.pw_meetbook_k09_whole_hands_renumbered.main.body[i]? } }
local macro_rules
 | `(tactic| o_head $H) => `(tactic| (refine holds_open (q := Hq0.vwQ) (loose := []) (Xt := fun s => xlAt Hq0.vwQ [] s && recOk [] s) (XP := XL Hq0.vwQ []) (Yf := Hook.obs $H) (Ya := Hook.val $H) (YP := Hook.says $H) (N := 4856) ?hl (Hook.of $H) (Hook.keeps $H) (fun s e => xl_of s (Bool.and_eq_true_iff.mp e).1) XL.keeps (by rfl) (by rfl) (by rfl) (fun s e => recFacts_of (Bool.and_eq_true_iff.mp e).2) (by rfl) (by first | assumption | decide +kernel) (by decide +kernel) ⟨rfl, rfl, rfl, rfl, rfl, by decide +kernel⟩ ?hw ?hc; (case hl => (intro w; kernel_rfl))))
set_option maxRecDepth 100000 in
set_option maxHeartbeats 0 in
open_top Hq0.tpQ for PySem.Challenge.rw_meetbook_k09_whole_hands_renumbered
end
open PySem.W renaming Frag→aa, nsIn→cq, mg_none_of→c4, hideAll→fe, hideAll_none→ff, keepIn→ga, findIn→gz, emptyDict→g7, fnOf→ie, instObj→ir, codeIn→ju, hideAll_get→jz, kia_one→j8, kia_tup→ka, nsOkIn→kj, of_hideAll→lw, tailIn→mj, mg_of→mz, plainGet→m7, isFn→n8, plainGet_of→om, lookIn→oq, KdlSrc→o7, callWith_K→o8, methodObj→pf, hasDictIn→ph, takerIn→qj, makesIn→qk, kat_one→qq, cellsFrom_some→qt, methodCall_KW→rh, kdu_collect→tj, kitx_tuple→ug, plainOver→ut, kitx_none→uu, kitx_bool→uv, kitx_list→uw, handedIn→u7, kitx_int→va, kitx_str→vb, OpenLaw→vn, kat_nil→vv, WalkO→v9, KasT→wc
open PySem renaming wpAny_bind→ae, Addr→af, Value→ai, wpAny_pure→ao, Shared→aq, starEach→ar, wpAny→bf, Expr→bw, tupleKind→bz, sizeLine_eq→b8, mainGlobals→ca, Stmt→cu, Heap→cx, Program→da, bootBuiltins→dc, backTo→de, World→df, Around→dh, wpAny_truthy_bool→di, cLine→dm, wpAny_newObj_type→dw, sysModules→eu, compareOp→fw, mem_of_lookup→fx, entryOfKey→f6, foldedSetIterable→f7, cellsFrom→gp, wpAny_mono→gq, attributeBase→gv, NameKind→g8, wpAny_call_entry→g9, keywordEach→hV, wpAny_holding→ij, Paired→iq, behindInMarks→i4, wpAny_typeNameOfWhole_valiter→i5, wpAny_typeNameOfWhole_keyiter→i6, wpAny_callSpecial?_slot→i7, swapsWith→i9, Keyword→jf, storedH→ji, FuncData→jj, backToKw→jk, wpAny_dictEntries→jm, wpAny_typeNameOf_valiter→jw, wpAny_typeNameOf_keyiter→jx, Scope→j0, tupleKind_room_in1→j7, wpAny_dictEpoch→j9, binaryOp→kc, DictEntry→ko, assignEach→kq, atKey→kr, sliceBounds→k8, wpAny_passesOwn→lm, rawInt→lz, getMethod→l0, wpAny_Call_Name_kw→l7, standAt→mh, pyNext→mv, codeAny→nu, wpAny_isOneOf_valiter→ny, wpAny_execs_nil→n5, letOwnedTupleGo→n6, getItem→ou, callerA→ow, intText?→ox, wpAny_fieldsOf→oy, wpAny_setField→oz, firstArgMember→o6, wpAny_attempt→pd, wpAny_loadPart_at→pj, valueAt→p7, codeAny_mono→p8, callWith→p9, wpAny_forIn_list→qc, IsPart→qd, wpAny_comprehension_free→qe, putAt→qm, wpAny_field→qu, wpAny_isTrue_Compare1→rc, BindsTo→rg, newFunctionEnv→rm, wpAny_notOrdered_dict→rp, wpAny_isOneOf_keyiter→rq, typeLookup→sf, call_meets→sh, wpAny_pyIter_keyiter→sj, wpAny_updateDictKeys→ss, wpAny_standAt→su, swapsWithSole→sv, swappedStores→sw, wpAny_newList→s0, wpAny_isSubtype_exc→tf, wpAny_dictFind_heap→tm, Within→t4, seqIndex?→ub, seqIndex_neg→uc, noteFrame→uh, setFlight→uj, call_meetsIn→uk, seqIndex_of→u6, call→vm
open List renaming mem_cons_of_mem→aj, mem_cons→ak, getD_eq_getElem?_getD→am, mem_cons_self→au, length_map→av, getElem?_eq_getElem→aw, replicate→ax, getElem?_append_left→ay, mem_map→az, getElem?_map→bc, size_toArray→bg, getElem?_eq_some_iff→bi, map_cons→bp, range→bq, zipWith→bt, length_cons→bv, length_append→b7, mem_filter→cf, nodup_cons→cg, not_mem_nil→cm, getElem?_eq_none→cz, mem_range→c5, mem_append→c6, append_nil→c7, length_set→c9, range'→db, mem_append_right→dq, map_append→dr, append_assoc→dy, mem_append_left→d4, all_eq_true→d6, replicate_succ→d7, length_zipWith→d8, getElem?_replicate→ee, filter_cons_of_neg→eg, filter_cons_of_pos→en, mem_of_getElem?→fh, mem_singleton→fk, getElem?_set_self→fm, lookup_cons→fu, map_congr_left→fy, getElem?_range→fz, length_singleton→gk, find?_cons→gn, getElem_mem→gu, map_map→gy, getElem?_set_ne→hX, zipWith_cons_cons→ii, getElem?_append_right→im, mem_or_eq_of_mem_set→io, flatten_cons→iw, length_range→iy, mem_filterMap→jb, length_replicate→jg, length_filter_le→jh, getElem?_of_mem→jp, pairwise_iff_getElem→jr, lookup→jt, filterMap_cons→j3, ext_getElem?→ke, nodup_append→kh, map_nil→ki, range'_succ→kt, any_cons→ku, length→k7, filter_sublist→lj, length_nil→lq, pairwise_map→mr, sum_cons→m5, length_take→m9, filter_cons→ng, take_succ_eq_append_getElem→ni, nodup_range→nj, any_eq_true→nq, set_set→oa, sum_append→oj, mem_range'_1→pk, drop_eq_getElem_cons→pp, mem_of_find?_eq_some→px, mem_flatMap→qh, of_mem_zip→ql, range_succ→qr, range_succ_eq_map→qx, take_of_length_le→qy, getElem?_zipWith→rn, filter_eq_self→tq, zip_cons_cons→ua, getElem_range→ui, find?_eq_none→ul, set_cons_zero→um, set_cons_succ→uo, filter_append→uq, mem_replicate→ur, nodup_range'→uz, getElem?_set→u0, length_drop→u8, drop_length→vc, zipWith_map→ve, getElem_map→vf, foldl→vj, foldl_cons→vk, find?_some→vt, filter_nil→vy, nodup_nil→vz, forIn_nil→v5
open PySem.Heap renaming get?_push_of_some→bh, lt_size→br, get?_push_size→b0, get?_update_other→d5, SameBut→fg, get?_update_self→gg, size_push→hZ, DictOfH→ig, size_update→nh
open Nat renaming le_refl→bj, lt_of_lt_of_le→bx, le_trans→ci, ne_of_lt→cj, lt_irrefl→f9, le_of_lt→ic, zero_le→ip, min_self→iu, lt_of_le_of_lt→ma, lt_or_ge→me, lt_succ_self→m8, not_lt→si, le_of_eq→t7, lt_trichotomy→u3
open Bool renaming and_eq_true→bu, false_ne_true→ck, false_eq_true→dn, or_eq_true→ib, not_eq_true'→ux, not_false→v6
open PySem.Value renaming ref→b9, none→hW, type→jn, bool→se, int→tw, str→tz, isStrOf→v8
open Option.some renaming inj→ce
open Array renaming getD_eq_getD_getElem?→cr, length_toList→du, getElem?_toList→gl, getElem?_eq_getElem→jq, getElem?_eq_some_iff→ky, isEmpty_iff→mq, perm_iff_toList_perm→pe, getElem?_eq_none→qz, all_toList→vd
open PySem.NameKind renaming cell→cw, free→gw
open Ne renaming symm→cy
open Int renaming toNat_natCast→d9, natCast_nonneg→je, le_refl→k9
open PySem.F renaming slot_dict_valueiterator_next→fj, slot_dict_keyiterator_next→f8, args_dict_valueiterator_next_1→lg, entry_dict_valueiterator_next→lu, args_dict_keyiterator_next_1→md, entry_dict_keyiterator_next→mm, slot_dict_iter→my, slot_dict_values_iter→ol, slot_dict_values→qf, slot_dict_update→qg, plainAttrs_dict→qi, slot_list_append→rj, slot_dict_pop→r9, slot_list_pop→ud
open True renaming intro→gs
open PyProof.Rows renaming seqObj→gx, slot_tuple_getitem→i8, callWith_type1→ja, envOfC→jc, IntsAre→j5, AllBare→mf, sortedHeap→pq, get?_update_seq→qo, subscriptTail_builtinR→qv, subscriptTail→sy, lt_int→vg
open PySem.Builtin.Dict_items renaming ownsTuple→ia, newIterator→vq, dictOf→wb
open False renaming elim→ik
open PySem.Paired renaming length→iz
open PySem.Obj renaming data_mapFields→jd, mapSeq→j6, mapFields→kz, isFreed_of_fields→nv, mapDictKeys→qp, cls_mapFields→uy
open PySem.Str renaming ofString→jl
open PySem.Builtin.Slice renaming slicePlaces→jo, sliceAdjust→lr, sliceApplied→pc
open PySem.Builtin.Tuple renaming tupleExact→jv, tupleHashOf→pz
open Std.Legacy renaming Range→jy
open Classical renaming propDecidable→j4
open PySem.Builtin.Dict renaming showsAll→km
open PySem.Heap.SameBut renaming update→lh
open Option renaming isSome_iff_exists→l8, map_eq_some_iff→mw, isSome_map→pi, isSome_some→uf, getD_none→u9, some→we, none→wf
open PySem.Builtin.List renaming listTooLong→l9
open Sum renaming inl→nr, inr→p0
open ForInStep renaming yield→n9
open Lean.Macro renaming throwUnsupported→o9
open PySem.Calls renaming Name_function_global→pb, call_function_entry→pv, callWith_builtin→qw, evalArgs_plain→sg
open Std.Legacy.Range renaming forIn_eq_forIn_range'→tu, size→wd
open PySem.Data renaming cell→t6, dict→v7
open PySem.Around renaming under→t8
open PySem.Code renaming isFrame→t9
open PySem.SeqAt renaming EqAt→vh, RcAt→vo
open PySem.PassesOwn renaming never→vp
open Array.Perm renaming refl→vx
open PySem PySem.Spec PyProof.Rows
set_option Elab.async false
set_option linter.all false
set_option maxRecDepth 100000
set_option maxHeartbeats 4000000
section
namespace L2
noncomputable abbrev Key:=Sum Int Str
noncomputable def Cg:Key->ai->Bool
 |.inl k,v=>Value.isInt k v
 |.inr x,v=>v8 x v
noncomputable def QV (w:df):Key->Int
 |.inl k=>hashInt k
 |.inr x=>hashStr w x
theorem cF:∀ {k:Key}{v:ai},Cg k v=true->(∃ i t,k=nr i/\v=tw i t)∨(∃ x t,k=p0 x/\v=tz x t)
 |.inl i,v,h=>by
  obtain⟨t,e⟩:=Value.isInt_shape (k:=i) (v:=v) h;exact .inl ⟨i,t,rfl,e⟩
 |.inr x,v,h=>by
  obtain⟨t,e⟩:=Value.isStrOf_shape (x:=x) (v:=v) h;exact .inr ⟨x,t,rfl,e⟩
theorem Ep (i:Int) (t:Tok):Cg (.inl i) (.int i t)=true:=by simp[Cg,Value.isInt]
theorem Eo (x:Str) (t:Tok):Cg (.inr x) (.str x t)=true:=by simp[Cg,v8]
theorem NE (a b:Int):decide ((nr a:Key)=nr b)=(a==b):=by
 by_cases e:a=b
 ·subst e;simp
 ·have h:¬(nr a:Key)=nr b:=fun q=>e (Sum.inl.inj q);rw[decide_eq_false h];exact(beq_eq_false_iff_ne.mpr e).symm
theorem NA (a b:Str):decide ((p0 a:Key)=p0 b)=decide (a=b):=by
 by_cases e:a=b
 ·subst e;simp
 ·have h:¬(p0 a:Key)=p0 b:=fun q=>e (Sum.inr.inj q);rw[decide_eq_false h,decide_eq_false e]
theorem ND (a:Int) (b:Str):decide ((nr a:Key)=p0 b)=false:=decide_eq_false (fun q=>nomatch q)
theorem NB (a:Str) (b:Int):decide ((p0 a:Key)=nr b)=false:=decide_eq_false (fun q=>nomatch q)
noncomputable def aI (prog:da) (w:df):PySem.KeyKind prog w Key where
 is:=Cg
 hash:=QV w
 inj:=fun v a b ha hb=>by
  rcases cF ha with⟨i,t,rfl,rfl⟩|⟨x,t,rfl,rfl⟩
  ·rcases cF hb with⟨j,u,rfl,e⟩|⟨y,u,rfl,e⟩
   ·injection e with e1 _;rw[e1]
   ·exact nomatch e
  ·rcases cF hb with⟨j,u,rfl,e⟩|⟨y,u,rfl,e⟩
   ·exact nomatch e
   ·injection e with e1 _;rw[e1]
 byValue:=fun k v h=>by
  rcases cF h with⟨i,t,rfl,rfl⟩|⟨x,t,rfl,rfl⟩ <;> rfl
 pyHash:=fun hv h=>by
  rcases cF hv with⟨i,t,rfl,rfl⟩|⟨x,t,rfl,rfl⟩
  ·exact wpAny_pyHash_int h
  ·exact wpAny_pyHash_str h
 eqBool:=fun hu hv h=>by
  rcases cF hu with⟨i,t,rfl,rfl⟩|⟨x,t,rfl,rfl⟩
  ·rcases cF hv with⟨j,u,rfl,rfl⟩|⟨y,u,rfl,rfl⟩
   ·rw[NE] at h;exact wpAny_eqBool_int h
   ·rw[ND] at h;exact SeqAt.EqAt.int_str i t y u _ _ _ _ h
  ·rcases cF hv with⟨j,u,rfl,rfl⟩|⟨y,u,rfl,rfl⟩
   ·rw[NB] at h;exact SeqAt.EqAt.str_int x t j u _ _ _ _ h
   ·rw[NA] at h;exact wpAny_eqBool_str h
 «strs» :=fun k x t v h=>by
  rcases cF h with⟨i,u,rfl,e⟩|⟨y,u,rfl,e⟩
  ·exact nomatch e
  ·injection e with e1 _
   subst e1;cases v <;> rfl
theorem yY (prog:da) (w:df) (i:Int) (t:Tok):(aI prog w).is (.inl i) (.int i t)=true:=Ep i t
theorem yX (prog:da) (w:df) (x:Str) (t:Tok):(aI prog w).is (.inr x) (.str x t)=true:=Eo x t
end L2
namespace L2
inductive V where
 |non|bl (b:Bool)|int (i:Int)|str (x:Str)|byt (b:Array UInt8)|flt (b:UInt64)|ref (a:af)|ty (n:String)
 deriving DecidableEq
noncomputable def RelV:V->ai->Prop
 |.non,u=>u=hW
 |.bl b,u=>u=se b
 |.int i,u=>∃ t,u=tw i t
 |.str x,u=>∃ t,u=tz x t
 |.byt b,u=>∃ t,u=Value.bytes b t
 |.flt b,u=>∃ t,u=Value.float b t
 |.ref a,u=>u=b9 a
 |.ty n,u=>u=jn n
noncomputable abbrev Vals:List V->List ai->Prop:=iq RelV
theorem Vals.length (r:Vals xs us):xs.length=us.length:=iz r
theorem Vals.get:∀ {xs:List V}{us:List ai}{i:Nat}{x:V},Vals xs us->xs[i]?=we x->∃ u,us[i]?=we u/\RelV x u
 |_,_,_,_,.nil,e=>by simp at e
 |_,_,0,_,.cons r _,e=>by simp at e;subst e;exact⟨_,rfl,r⟩
 |_,_,i+1,x,.cons _ t,e=>by
  obtain⟨u,h1,h2⟩:=Vals.get (i:=i) (x:=x) t (by simpa using e);exact⟨u,by simpa using h1,h2⟩
theorem Vals.set (r:RelV x u):∀ {xs:List V}{us:List ai} (i:Nat),Vals xs us->Vals (xs.set i x) (us.set i u)
 |_,_,_,.nil=>.nil
 |_,_,0,.cons _ t=>.cons r t
 |_,_,i+1,.cons q t=>.cons q (Vals.set r i t)
theorem Vals.append:∀ {xs ys:List V}{us ws:List ai},Vals xs us->Vals ys ws->Vals (xs++ys) (us++ws)
 |_,_,_,_,.nil,s=>s
 |_,_,_,_,.cons r t,s=>.cons r (Vals.append t s)
theorem Vals.take:∀ {xs:List V}{us:List ai} (n:Nat),Vals xs us->Vals (xs.take n) (us.take n)
 |_,_,0,_=>.nil
 |_,_,_+1,.nil=>.nil
 |_,_,n+1,.cons r t=>.cons r (Vals.take n t)
theorem Vals.drop:∀ {xs:List V}{us:List ai} (n:Nat),Vals xs us->Vals (xs.drop n) (us.drop n)
 |_,_,0,r=>r
 |_,_,_+1,.nil=>.nil
 |_,_,n+1,.cons _ t=>Vals.drop n t
noncomputable def RelO:Option V->Option ai->Prop
 |some v,we u=>RelV v u
 |none,wf=>True
 |_,_=>False
noncomputable def KV {κ:Type}:List (κ×V)->List (κ×ai)->Prop:=iq fun(p:κ×V) (q:κ×ai)=>p.1=q.1/\RelV p.2 q.2
noncomputable def kV:Key->V
 |.inl i=>.int i
 |.inr x=>.str x
inductive HO where
 /-- a list -/
 |lst (xs:List V)
 /-- a tuple (never changes) -/
 |tup (xs:List V)
 /-- a dict whose keys are ints and texts;one whose keys are tuples of ints and texts (the empty one is both) -/
 |dK (kvs:List (Key×V))|dT (kvs:List (List Key×V))
 /-- a set of ints:its members,its size -/
 |set (S:Int->Bool) (n:Nat)
 /-- an instance of the class at C,its dict at dx,its attributes -/
 |ins (C dx:af) (fs:List (Str×V))
 /-- the dict of the instance at x -/
 |own (x:af)
 /-- the dict of an exception -/
 |xd (fs:List (Str×V))
 /-- a bound method,f of x -/
 |met (f x:af)
 /-- a range object lo,lo+1,.. below hi -/
 |rng (lo hi:Int)
 /-- a thing that is known to the object (the script;a dict while a loop walks it):read,never written while it is so -/
 |frz (o:Obj) (u:HO)
 /-- a code object's table -/
 |tbl (ps:Array ai)
 /-- any other thing,by what is true of its one object (a def of one's own:SetO a S n:=HO.ext fun h=> ..) -/
 |ext (φ:cx->Prop)
noncomputable abbrev Hp:=af->Option HO
noncomputable def upd (H:Hp) (a:af) (o:HO):Hp:=fun b=>if b=a then we o else H b
theorem aK:upd H a o a=we o:=by unfold upd;rw[if_pos rfl]
theorem aE (h:b≠a):upd H a o b=H b:=by unfold upd;rw[if_neg h]
theorem Kq {H:Hp} (h:H a=we o) (h':H b=we u) (d:o≠u):a≠b:=by
 intro e;subst e;rw[h] at h';exact d (ce h')
theorem aH {H:Hp} (h:H a=we o) (h':H b=wf):a≠b:=by
 intro e;subst e;rw[h] at h';cases h'
section
variable (P:da) (w:df)
noncomputable def ObjOk (H:Hp) (h:cx) (a:af):HO->Prop
 |.lst xs=>xs.length<=sizeLine/\∃(its:List ai) (n:Nat),Vals xs its/\h.get? a=we { cls:=.type "list",data:=.seq its.toArray n }
 |.tup xs=>xs.length<=sizeLine/\∃ its:List ai,Vals xs its/\IsTup h a its.toArray
 |.dK kvs=>kvs.length<=sizeLine/\(a==eu)=false/\∃ vs,KV kvs vs/\h.DictOf (aI P w) a vs
 |.dT kvs=>kvs.length<=sizeLine/\(a==eu)=false/\∃ xs:List (List Key×af×ai),
   iq (fun(p:List Key×V) (q:List Key×af×ai)=>p.1=q.1/\H q.2.1=we (.tup (p.1.map kV))/\RelV p.2 q.2.2) kvs xs/\
   ∃ o es ep,h.get? a=we o/\o.ExactDict/\o.data=.dict es ep/\es.toList=xs.map (f6 (bz (aI P w)))/\(xs.map (·.1)).Nodup
 |.set S n=>h.SetOf (intKind P w) a S n
 |.ins C dx fs=>H dx=we (.own a)/\fs.length<=1000/\dx≠a/\h.get? a=we (ir C dx)/\
   ∃ mA,h.Ns1 dx mA/\(∀ f,RelO (fs.lookup f) (mA f))/\t4 mA (fs.map (·.1))
 |.own _=>∃ o,h.get? a=we o
 |.xd fs=>∃ mA,h.Ns1 a mA/\∀ f,RelO (fs.lookup f) (mA f)
 |.rng lo hi=>∃ t u v,h.get? a=we { cls:=.type "range",data:=.fields #[.int lo t,.int hi u,.int 1 v] }
 |.frz o u=>h.get? a=we o/\ObjOk H h a u
 |.tbl ps=>h.get? a=we { cls:=.none,data:=.fields ps }
 |.met f x=>h.get? a=we (pf (.ref f) (.ref x))
 |.ext φ=>φ h/\(∃ o,h.get? a=we o)/\∀ h1 h2:cx,φ h1->(∀ o,h1.get? a=we o->h2.get? a=we o)->φ h2
noncomputable def HOk (H:Hp) (h:cx):Prop:=∀ a o,H a=we o->ObjOk P w H h a o
end
section
variable {P:da}{w:df}{H H':Hp}{h h':cx}{a:af}{o:HO}
theorem ObjOk.lt (x:ObjOk P w H h a o):a<h.objs.size:=by
 cases o with
 |lst xs=>obtain⟨_,_,_,_,e⟩:=x;exact br e
 |tup xs=>obtain⟨_,_,_,p⟩:=x;exact p.lt
 |dK kvs=>obtain⟨_,_,_,_,o,_,_,e,_⟩:=x;exact br e
 |dT kvs=>obtain⟨_,_,_,_,o,_,_,e,_⟩:=x;exact br e
 |set S n=>obtain⟨o,_,_,_,e,_⟩:=x;exact br e
 |ins C dx fs=>obtain⟨_,_,_,e,_⟩:=x;exact br e
 |own y=>obtain⟨_,e⟩:=x;exact br e
 |xd fs=>obtain⟨_,⟨_,_,_,e,_⟩,_⟩:=x;exact br e
 |rng lo hi=>obtain⟨_,_,_,e⟩:=x;exact br e
 |frz ob u=>obtain⟨e,_⟩:=x;exact br e
 |tbl ps=>exact br (show h.get? a=we _ from x)
 |met f y=>exact br (show h.get? a=we _ from x)
 |ext φ=>obtain⟨_,⟨_,e⟩,_⟩:=x;exact br e
theorem iq.mapP:∀ {l₁:List α}{l₂:List β},iq F l₁ l₂->(∀ a b,F a b->G a b)->iq G l₁ l₂
 |_,_,.nil,_=>.nil
 |_,_,.cons r t,f=>.cons (f _ _ r) (iq.mapP t f)
theorem ObjOk.stay (x:ObjOk P w H h a o) (k:∀ b u,(b=a∨H b=we (.own a))->h.get? b=we u->h'.get? b=we u)
  (ho:∀ b,H b=we (.own a)->H' b=we (.own a)) (ht:∀ b xs,H b=we (.tup xs)->H' b=we (.tup xs)):ObjOk P w H' h' a o:=by
 induction o with
 |lst xs=>obtain⟨z,its,n,r,e⟩:=x;exact⟨z,its,n,r,k _ _ (.inl rfl) e⟩
 |tup xs=>obtain⟨z,its,r,ob,e,c⟩:=x;exact⟨z,its,r,ob,k _ _ (.inl rfl) e,c⟩
 |dK kvs=>obtain⟨z,y,vs,r,ob,es,ep,e,c⟩:=x;exact⟨z,y,vs,r,ob,es,ep,k _ _ (.inl rfl) e,c⟩
 |dT kvs=>
  obtain⟨z,y,xs,r,ob,es,ep,e,c⟩:=x;exact⟨z,y,xs,iq.mapP r fun p q z=>⟨z.1,ht _ _ z.2.1,z.2.2⟩,ob,es,ep,k _ _ (.inl rfl) e,c⟩
 |set S n=>obtain⟨ob,es,ep,t,e,c⟩:=x;exact⟨ob,es,ep,t,k _ _ (.inl rfl) e,c⟩
 |ins C dx fs=>
  obtain⟨d,z,ne,e,mA,⟨od,es,ep,e2,c⟩,r⟩:=x;exact⟨ho _ d,z,ne,k _ _ (.inl rfl) e,mA,⟨od,es,ep,k _ _ (.inr d) e2,c⟩,r⟩
 |own y=>obtain⟨ob,e⟩:=x;exact⟨ob,k _ _ (.inl rfl) e⟩
 |xd fs=>obtain⟨mA,⟨od,es,ep,e,c⟩,r⟩:=x;exact⟨mA,⟨od,es,ep,k _ _ (.inl rfl) e,c⟩,r⟩
 |rng lo hi=>obtain⟨t,u,v,e⟩:=x;exact⟨t,u,v,k _ _ (.inl rfl) e⟩
 |frz ob u ih=>obtain⟨e,q⟩:=x;exact⟨k _ _ (.inl rfl) e,ih q⟩
 |tbl ps=>
  have e:h.get? a=we { cls:=.none,data:=.fields ps }:=x;show h'.get? a=we { cls:=.none,data:=.fields ps };exact k a _ (.inl rfl) e
 |met f y=>
  have e:h.get? a=we (pf (.ref f) (.ref y)):=x;show h'.get? a=we (pf (.ref f) (.ref y));exact k a _ (.inl rfl) e
 |ext φ=>obtain⟨p,⟨o,e⟩,st⟩:=x;exact⟨st _ _ p fun o q=>k _ _ (.inl rfl) q,⟨o,k _ _ (.inl rfl) e⟩,st⟩
theorem HOk.lt (x:HOk P w H h) (e:H a=we o):a<h.objs.size:=(x a o e).lt
theorem HOk.fresh (x:HOk P w H h) (e:h.objs.size<=a):H a=wf:=by
 cases q:H a with
 |none=>rfl
 |some u=>exact absurd (bx (x.lt q) e) (f9 _)
theorem HOk.kept (x:HOk P w H h) (k:∀ b u,h.get? b=we u->h'.get? b=we u):HOk P w H h':=fun a o e=>
 (x a o e).stay (fun b u _ q=>k b u q) (fun _ q=>q) fun _ _ q=>q
theorem HOk.laid (x:HOk P w H h) (k:∀ b u,h.get? b=we u->h'.get? b=we u) (hp:h.objs.size<=a) (new:ObjOk P w (upd H a o) h' a o):HOk P w (upd H a o) h':=fun b u e=>by
 have hn:=x.fresh hp
 by_cases hb:b=a
 ·subst hb;rw[aK] at e;cases e;exact new
 ·rw[aE hb] at e;exact(x b u e).stay (fun c v _ q=>k c v q) (fun c q=>by rw[aE (aH q hn)];exact q) fun c xs q=>by rw[aE (aH q hn)];exact q
end
noncomputable def Rd (H:Hp) (a:af) (u:HO):Prop:=H a=we u∨∃ o,H a=we (.frz o u)
theorem Rd.ok (r:Rd H a u) (x:HOk P w H h):ObjOk P w H h a u:=by
 rcases r with r|⟨o,r⟩
 ·exact x a u r
 ·obtain⟨_,q⟩:=x a _ r;exact q
noncomputable def Mut:Option HO->Prop
 |some (.lst _)=>True
 |some (.dK _)=>True
 |some (.dT _)=>True
 |some (.set _ _)=>True
 |some (.ins _ _ _)=>True
 |some (.ext _)=>True
 |_=>False
section
variable {P:da}{w:df}{H:Hp}{h h':cx}{x e:af}{o':HO}
theorem HOk.write (ok:HOk P w H h) (mu:Mut (H x)) (he:e=x∨H e=we (.own x)) (k:∀ b u,b≠e->h.get? b=we u->h'.get? b=we u) (heo:∃ u,h'.get? e=we u)
  (new:ObjOk P w (upd H x o') h' x o'):HOk P w (upd H x o') h':=fun b u q=>by
 have nown:∀ c y,H c=we (.own y)->c≠x:=fun c y r z=>by subst z;rw[r] at mu;exact mu
 have ntup:∀ c xs,H c=we (.tup xs)->c≠x:=fun c xs r z=>by subst z;rw[r] at mu;exact mu
 by_cases hb:b=x
 ·subst hb;rw[aK] at q;cases q;exact new
 ·rw[aE hb] at q
  by_cases hbe:b=e
  ·have q':H b=we (.own x):=by
    rcases he with z|z
    ·exact absurd (hbe.trans z) hb
    ·rw[hbe];exact z
   rw[q] at q';cases q';obtain⟨v,hv⟩:=heo;exact⟨v,by rw[hbe];exact hv⟩
  ·refine(ok b u q).stay (fun c v hc r=>k c v ?_ r) (fun c r=>by rw[aE (nown c b r)];exact r) fun c xs r=>by rw[aE (ntup c xs r)];exact r
   rcases hc with rfl|hc
   ·exact hbe
   ·rintro rfl;rcases he with z|z
    ·exact nown c b hc z
    ·rw[hc] at z;cases z;exact hb rfl
end
structure Un (fs ex:List af) (H H':Hp) (h h':cx):Prop where
 keep:∀ b o,h.get? b=we o->H b=wf->b∉fs->b∉ex->h'.get? b=we o
 slot:∀ b o,h.get? b=we o->H b=wf->b∈fs->b∉ex->∃ sl,h'.get? b=we { o with slots:=sl }
 free:∀ b o,h.get? b=we o->H b=wf->b∉ex->H' b=wf
 there:∀ b o,h.get? b=we o->b∉ex->∃ o',h'.get? b=we o'
 tups:∀ b xs,H b=we (.tup xs)->H' b=we (.tup xs)
 frzs:∀ b o u,H b=we (.frz o u)->H' b=we (.frz o u)
 tbls:∀ b ps,H b=we (.tbl ps)->∃ more,H' b=we (.tbl (ps++more))
section
variable {fs fs' ex ex':List af}{H H1 H2:Hp}{h h1 h2 h':cx}{a x e:af}{o:HO}
theorem Un.any (u:Un fs ex H H1 h h1) (q:h.get? b=we ob) (n:H b=wf) (hx:b∉ex):∃ sl,h1.get? b=we { ob with slots:=sl }:=by
 by_cases hb:b∈fs
 ·exact u.slot b ob q n hb hx
 ·exact⟨ob.slots,u.keep b ob q n hb hx⟩
theorem Un.kept (k:∀ b u,h.get? b=we u->h'.get? b=we u):Un fs ex H H h h':=
 ⟨fun b ob q _ _ _=>k b ob q,fun b ob q _ _ _=>⟨ob.slots,k b ob q⟩,fun _ _ _ n _=>n,fun b ob q _=>⟨ob,k b ob q⟩,fun _ _ q=>q,fun _ _ _ q=>q,fun _ ps q=>⟨#[],by rw[q];simp⟩⟩
theorem Un.refl:Un fs ex H H h h:=Un.kept fun _ _ q=>q
theorem Un.laid (k:∀ b u,h.get? b=we u->h'.get? b=we u) (hp:h.objs.size<=a) (hn:H a=wf):Un fs ex H (upd H a o) h h' where
 keep:=fun b u q _ _ _=>k b u q
 slot:=fun b u q _ _ _=>⟨u.slots,k b u q⟩
 free:=fun b u q n _=>by rw[aE (cj (bx (br q) hp))];exact n
 there:=fun b u q _=>⟨u,k b u q⟩
 tups:=fun b xs q=>by rw[aE (aH q hn)];exact q
 frzs:=fun b u xs q=>by rw[aE (aH q hn)];exact q
 tbls:=fun b ps q=>⟨#[],by rw[aE (aH q hn),q];simp⟩
theorem Un.write (mu:Mut (H x)) (he:e=x∨H e=we (.own x)) (k:∀ b u,b≠e->h.get? b=we u->h'.get? b=we u) (heo:∃ u,h'.get? e=we u):Un fs ex H (upd H x o) h h':=by
 have hx:∀ b,H b=wf->b≠x:=fun b n z=>by subst z;rw[n] at mu;exact mu
 have hb:∀ b,H b=wf->b≠e:=fun b n z=>by
  subst z;rcases he with r|r
  ·exact hx b n r
  ·rw[n] at r;cases r
 have hm:∀ b u,H b=we u->¬ Mut (we u)->b≠x:=fun b u q nm z=>by subst z;rw[q] at mu;exact nm mu
 refine⟨fun b u q n _ _=>k b u (hb b n) q,fun b u q n _ _=>⟨u.slots,k b u (hb b n) q⟩,fun b u q n _=>by rw[aE (hx b n)];exact n,fun b u q _=> ?_,
  fun b xs q=>by rw[aE (hm b _ q fun z=>z)];exact q,fun b u xs q=>by rw[aE (hm b _ q fun z=>z)];exact q,fun b ps q=>⟨#[],by rw[aE (hm b _ q fun z=>z),q];simp⟩⟩
 by_cases hbe:b=e
 ·subst hbe;exact heo
 ·exact⟨u,k b u hbe q⟩
end
noncomputable def trk (h:cx) (H:Hp):List af:=(bq h.objs.size).filter fun a=>(H a).isSome
noncomputable def Hj (h:cx) (H:Hp):cx:=fe h (trk h H)
theorem Ew (h:cx) (H:Hp):(Hj h H).objs.size=h.objs.size:=PySem.W.hideAll_size _ _
theorem Hi (e:h.get? b=we o) (n:H b=wf):(Hj h H).get? b=we o:=
 jz _ e fun hm=>by
  have q:(H b).isSome=true:=(cf.mp hm).2;rw[n] at q;simp at q
theorem JR (e:(Hj h H).get? b=we o):h.get? b=we o/\H b=wf:=by
 have e':h.get? b=we o:=lw (trk h H) e;refine⟨e',?_⟩;cases q:H b with
 |none=>rfl
 |some x=>
  have hm:b∈trk h H:=cf.mpr ⟨c5.mpr (br e'),by simp[q]⟩;have z:(Hj h H).get? b=wf:=ff (trk h H) hm;rw[z] at e;cases e
end L2
namespace L2
structure Mod (K:aa) (mg:Str->Option ai) (base:cx):Prop where
 kin:K.In base
 glob:base.Ns ca mg
 blt:∃ mb,base.Ns builtinsNs mb/\∀ x:Str,x≠"__name__"->mb x=dc x
 nolimit:base.NoLimit
structure Cx where
 prog:da
 w:df
 K:aa
 mg:Str->Option ai
 base:cx
 A:dh
 N:List Str
 s₀:aq
 H₀:Hp
 env:Env
 outer:List Env
 stack:List Env
 ex:List af
 fn:Str->Bool
 calm:Bool
 pn:List (af×Obj)
 xe:ai->aq->Prop
noncomputable def frs (l:List Env):List af:=l.filterMap (·.frame)
noncomputable abbrev Cx.fs (X:Cx):List af:=frs X.outer
noncomputable def Vis (sc:j0) (x:Str):Prop:=sc.names.lookup x=we .local∨sc.names.lookup x=we .cell∨sc.names.lookup x=we .free
noncomputable def Loc (sc:j0) (x:Str):Prop:=sc.names.lookup x=we .local∨sc.names.lookup x=we .cell
noncomputable def Rl (env:Env) (h:cx) (m:Str->Option ai) (x:Str) (u:ai):Prop:=
 (env.kindOf x=we .local/\m x=we u)∨((env.kindOf x=we .cell∨env.kindOf x=we .free)/\∃ c,env.cells.lookup x=we c/\h.IsCell c (we u))
structure Cx.Ok (X:Cx):Prop where
 mod:Mod X.K X.mg X.base
 kind:X.env.scope.kind=.function
 glob:X.env.globals=ca
 blt:X.env.builtins=builtinsNs
 above:X.s₀.heap.objs.size<=X.env.locals
 inj:∀ x y c,X.env.cells.lookup x=we c->X.env.cells.lookup y=we c->x=y
 has:∀ x,(X.env.kindOf x=we .cell∨X.env.kindOf x=we .free)->∃ c,X.env.cells.lookup x=we c
 cab:∀ x c,X.fn x=true->X.env.cells.lookup x=we c->X.s₀.heap.objs.size<=c
 hd:X.calm=true->X.A.handled=wf
 frames:X.A.frames=we X.stack
 stk:X.stack=X.outer∨(X.stack=X.env::X.outer/\X.env.frame=we X.env.locals)
 exf:∀ b∈X.ex,b≠X.env.locals/\∀ x c,X.env.cells.lookup x=we c->c≠b
 bs:∀ b o,X.base.get? b=we o->X.s₀.heap.get? b=we o/\X.H₀ b=wf
 bsz:X.base.objs.size<=X.s₀.heap.objs.size
 noex:∀ b o,X.base.get? b=we o->b∉X.ex
 exfs:∀ b∈X.ex,b∉X.fs
 funs:X.s₀.heap.FunFrames X.base X.outer
 frf:∀ b∈X.fs,X.H₀ b=wf
structure Inv (X:Cx) (pins:List (af×Obj)) (σ:List (Option V)) (H:Hp) (s:aq):Prop where
 ok:X.Ok
 os:s.os=X.s₀.os
 bare:mf s.gens
 base:Un X.fs X.ex X.H₀ H X.s₀.heap s.heap
 loc:∃ m,s.heap.Ns X.env.locals m/\∀(i:Nat) (x:Str) (v:V),X.N[i]?=we x->σ[i]?=we (we v)->Vis X.env.scope x->∃ u,RelV v u/\Rl X.env s.heap m x u
 cell:∀ x c,X.env.cells.lookup x=we c->∃ v,s.heap.IsCell c v
 free:H X.env.locals=wf
 freeC:∀ x c,X.env.cells.lookup x=we c->H c=wf
 pin:∀ p∈X.pn++pins,s.heap.get? p.1=we p.2/\H p.1=wf/\p.1≠X.env.locals/\p.1∉X.fs/\∀ v,p.2.data≠ .cell v
 hok:HOk X.prog X.w H s.heap
 len:σ.length=X.N.length
section
variable {X:Cx}{pins:List (af×Obj)}{σ:List (Option V)}{H H':Hp}{s:aq}{h':cx}
theorem Cx.Ok.nofr (ok:X.Ok) (e:X.base.get? b=we o):b∉X.fs:=fun hb=>by
 have:=(ok.funs.mem hb).1
 rw[e] at this;cases this
theorem Inv.bs (I:Inv X pins σ H s):∀ b o,X.base.get? b=we o->s.heap.get? b=we o/\H b=wf:=fun b o e=>
 ⟨I.base.keep b o (I.ok.bs b o e).1 (I.ok.bs b o e).2 (I.ok.nofr e) (I.ok.noex b o e),I.base.free b o (I.ok.bs b o e).1 (I.ok.bs b o e).2 (I.ok.noex b o e)⟩
theorem Inv.bk (I:Inv X pins σ H s):∀ b o,X.base.get? b=we o->s.heap.get? b=we o:=fun b o e=>(I.bs b o e).1
theorem Inv.mod (I:Inv X pins σ H s):Mod X.K X.mg X.base:=I.ok.mod
theorem Inv.kIn (I:Inv X pins σ H s):X.K.In s.heap:=I.ok.mod.kin.keeps I.bk
theorem Inv.lt (I:Inv X pins σ H s):X.env.locals<s.heap.objs.size:=let ⟨_,hn,_⟩:=I.loc;hn.lt
theorem Inv.sz (I:Inv X pins σ H s):X.s₀.heap.objs.size<=s.heap.objs.size:=ci I.ok.above (ic I.lt)
theorem Inv.nofs (I:Inv X pins σ H s) (h:s.heap.objs.size<=a):a∉X.fs:=fun hb=>by
 obtain⟨_,o,ho,_⟩:=I.ok.funs.mem hb;exact absurd (bx (br ho) (ci I.sz h)) (f9 _)
theorem Inv.cne (I:Inv X pins σ H s):∀ x c,X.env.cells.lookup x=we c->c≠X.env.locals:=fun x c e z=>by
 obtain⟨v,o,ho,hd⟩:=I.cell x c e;obtain⟨m,⟨o',es,ep,ho',hd',_⟩,_⟩:=I.loc;rw[z,ho'] at ho;cases ho;rw[hd'] at hd;cases hd
theorem Inv.funs (I:Inv X pins σ H s):s.heap.FunFrames X.base X.outer:=by
 have all:∀(l:List Env),(∀ b∈frs l,b∈X.fs)->X.s₀.heap.FunFrames X.base l->s.heap.FunFrames X.base l:=by
  intro l
  induction l with
  |nil=>intro _ _;trivial
  |cons env r ih=>
   intro hs hl;obtain⟨hk,⟨L,o,hf,hn,ho,hd⟩,hr⟩:=hl;have hL:L∈X.fs:=hs L (by unfold frs;rw[j3,hf];exact au);obtain⟨sl,e⟩:=I.base.slot L o ho (I.ok.frf L hL) hL fun z=>I.ok.exfs L z hL;exact⟨hk,⟨L,_,hf,hn,e,hd⟩,ih (fun b hb=>hs b (by unfold frs;rw[j3,hf];exact aj _ hb)) hr⟩
 exact all X.outer (fun _ hb=>hb) I.ok.funs
theorem Inv.stack (I:Inv X pins σ H s):s.heap.FunFrames X.base X.stack:=by
 rcases I.ok.stk with e|⟨e,hf⟩
 ·rw[e];exact I.funs
 ·rw[e];obtain⟨m,hn,_⟩:=I.loc;refine .cons (by rw[I.ok.kind];decide) hf hn ?_ I.funs;exact Heap.get?_none_of_le (ci I.ok.bsz I.ok.above)
theorem Inv.stkSub (I:Inv X pins σ H s):∀ b∈frs X.stack,b∈X.env.locals::X.fs:=fun b hb=>by
 rcases I.ok.stk with e|⟨e,hf⟩
 ·rw[e] at hb;exact aj _ hb
 ·rw[e] at hb;unfold frs at hb;rw[j3,hf] at hb;exact hb
theorem Inv.stkFree (I:Inv X pins σ H s):∀ b∈frs X.stack,H b=wf:=fun b hb=>by
 rcases ak.mp (I.stkSub b hb) with e|hb
 ·rw[e];exact I.free
 ·obtain⟨_,o,ho,_⟩:=I.ok.funs.mem hb;exact I.base.free b o ho (I.ok.frf b hb) fun z=>I.ok.exfs b z hb
theorem Inv.step {ch:List af} (I:Inv X pins σ H s)
  (hch:∀ b∈ch,(b∈X.ex∨X.s₀.heap.objs.size<=b)/\b≠X.env.locals/\(∀ x c,X.env.cells.lookup x=we c->c≠b)/\∀ p∈X.pn++pins,p.1≠b)
  (keep:∀ b o,b≠X.env.locals->b∉X.fs->b∉ch->s.heap.get? b=we o->H b=wf->h'.get? b=we o)
  (slot:∀ b o,b≠X.env.locals->b∈X.fs->b∉ch->s.heap.get? b=we o->H b=wf->∃ sl,h'.get? b=we { o with slots:=sl }) (free:∀ b o,b∉ch->s.heap.get? b=we o->H b=wf->H' b=wf)
  (there:∀ b o,b∉ch->s.heap.get? b=we o->∃ o',h'.get? b=we o')
  (tups:∀ b xs,H b=we (.tup xs)->H' b=we (.tup xs)) (frzs:∀ b o u,H b=we (.frz o u)->H' b=we (.frz o u)) (tbls:∀ b ps,H b=we (.tbl ps)->∃ more,H' b=we (.tbl (ps++more)))
  (ns:∀ m,s.heap.Ns X.env.locals m->h'.Ns X.env.locals m) (hok:HOk X.prog X.w H' h') (hg:mf g'):
  Inv X pins σ H' { s with heap:=h',gens:=g',drawn:=d',toks:=t' }:=by
 have neL:∀ b o,X.s₀.heap.get? b=we o->b≠X.env.locals:=fun b o e=>cj (bx (br e) I.ok.above);have neC:∀ b o,X.s₀.heap.get? b=we o->b∉X.ex->b∉ch:=fun b o e hx hb=>by
  rcases(hch b hb).1 with z|z
  ·exact hx z
  ·exact absurd (bx (br e) z) (f9 _)
 have cellK:∀ x c,X.env.cells.lookup x=we c->∀ v,s.heap.IsCell c v->h'.IsCell c v:=fun x c e v ⟨o,ho,hd⟩=>by
  have nch:c∉ch:=fun z=>(hch c z).2.2.1 x c e rfl
  by_cases hc:c∈X.fs
  ·obtain⟨sl,q⟩:=slot c o (I.cne x c e) hc nch ho (I.freeC x c e);exact⟨_,q,hd⟩
  ·exact⟨o,keep c o (I.cne x c e) hc nch ho (I.freeC x c e),hd⟩
 refine⟨I.ok,I.os,hg,⟨fun b o e n hb hx=> ?_,fun b o e n hb hx=> ?_,fun b o e n hx=> ?_,fun b o e hx=> ?_,fun b xs e=>tups b xs (I.base.tups b xs e),fun b o xs e=>frzs b o xs (I.base.frzs b o xs e),fun b ps e=> ?_⟩,?_,fun x c e=> ?_,?_,fun x c e=> ?_,fun p hp=> ?_,hok,I.len⟩
 ·exact keep b o (neL b o e) hb (neC b o e hx) (I.base.keep b o e n hb hx) (I.base.free b o e n hx)
 ·obtain⟨sl,e1⟩:=I.base.slot b o e n hb hx;obtain⟨sl',e2⟩:=slot b _ (neL b o e) hb (neC b o e hx) e1 (I.base.free b o e n hx);exact⟨sl',e2⟩
 ·obtain⟨o',e1⟩:=I.base.there b o e hx;exact free b o' (neC b o e hx) e1 (I.base.free b o e n hx)
 ·obtain⟨o',e1⟩:=I.base.there b o e hx;exact there b o' (neC b o e hx) e1
 ·obtain⟨m1,e1⟩:=I.base.tbls b ps e;obtain⟨m2,e2⟩:=tbls b _ e1;exact⟨m1++m2,by rw[e2,Array.append_assoc]⟩
 ·obtain⟨m,hn,hl⟩:=I.loc;refine⟨m,ns m hn,fun i x v e1 e2 e3=> ?_⟩;obtain⟨u,r,l⟩:=hl i x v e1 e2 e3;refine⟨u,r,?_⟩;rcases l with l|⟨k,c,e,z⟩
  ·exact .inl l
  ·exact .inr ⟨k,c,e,cellK x c e _ z⟩
 ·obtain⟨v,z⟩:=I.cell x c e;exact⟨v,cellK x c e v z⟩
 ·obtain⟨m,⟨o,_,_,ho,_⟩,_⟩:=I.loc;exact free _ o (fun z=>(hch _ z).2.1 rfl) ho I.free
 ·obtain⟨v,o,ho,hd⟩:=I.cell x c e;exact free c o (fun z=>(hch c z).2.2.1 x c e rfl) ho (I.freeC x c e)
 ·obtain⟨e,n,ne,nf,d⟩:=I.pin p hp;have nch:p.1∉ch:=fun z=>(hch p.1 z).2.2.2 p hp rfl;exact⟨keep p.1 p.2 ne nf nch e n,free p.1 p.2 nch e n,ne,nf,d⟩
theorem Inv.un (I:Inv X pins σ H s) (u:Un X.fs [] H H' s.heap h') (hok:HOk X.prog X.w H' h'):Inv X pins σ H' { s with heap:=h',toks:=t' }:=by
 obtain⟨m,⟨o,es,ep,ho,r⟩,_⟩:=id I.loc;obtain⟨sl,hL⟩:=u.any ho I.free (by simp);exact I.step (g':=s.gens) (d':=s.drawn) (ch:=[]) (fun _ z=>nomatch z) (fun b o _ hb _ e n=>u.keep b o e n hb (by simp)) (fun b o _ hb _ e n=>u.slot b o e n hb (by simp)) (fun b o _ e n=>u.free b o e n (by simp)) (fun b o _ e=>u.there b o e (by simp)) u.tups u.frzs u.tbls (fun m' hm=>by
  obtain⟨o',es',ep',ho',r'⟩:=hm;rw[ho] at ho';cases ho';exact⟨_,es',ep',hL,r'⟩) hok I.bare
theorem Inv.call (I:Inv X pins σ H s) (u:Un (frs X.stack) ch H H' s.heap h') (hok:HOk X.prog X.w H' h') (hg:mf g')
  (hch:∀ b∈ch,(b∈X.ex∨X.s₀.heap.objs.size<=b)/\b≠X.env.locals/\(∀ x c,X.env.cells.lookup x=we c->c≠b)/\∀ p∈X.pn++pins,p.1≠b):
  Inv X pins σ H' { s with heap:=h',gens:=g',drawn:=d',toks:=t' }:=by
 obtain⟨m,⟨o,es,ep,ho,r⟩,_⟩:=id I.loc;obtain⟨sl,hL⟩:=u.any ho I.free fun z=>(hch _ z).2.1 rfl;exact I.step (ch:=ch) hch (fun b o hL hb hc e n=>u.keep b o e n (fun z=>(ak.mp (I.stkSub b z)).elim hL hb) hc) (fun b o _ _ hc e n=>u.any e n hc) (fun b o hc e n=>u.free b o e n hc) (fun b o hc e=>u.there b o e hc) u.tups u.frzs u.tbls (fun m' hm=>by
  obtain⟨o',es',ep',ho',r'⟩:=hm;rw[ho] at ho';cases ho';exact⟨_,es',ep',hL,r'⟩) hok hg
theorem Inv.turned (I:Inv X pins σ H s) (k:∀ b o,b≠it->s.heap.get? b=we o->h'.get? b=we o) (hn:H it=wf) (hL:it≠X.env.locals)
  (h1:it∈X.ex∨X.s₀.heap.objs.size<=it) (h2:∀ x c,X.env.cells.lookup x=we c->c≠it) (h3:∀ p∈X.pn++pins,p.1≠it):Inv X pins σ H { s with heap:=h',toks:=t' }:=by
 have nit:∀ b u,H b=we u->b≠it:=fun b u e z=>by rw[z,hn] at e;cases e
 refine I.step (g':=s.gens) (d':=s.drawn) (ch:=[it]) (fun b hb=> ?_) (fun b o _ _ hc e _=>k b o (fun z=>hc (by simp[z])) e) (fun b o _ _ hc e _=>⟨o.slots,k b o (fun z=>hc (by simp[z])) e⟩) (fun _ _ _ _ n=>n)
  (fun b o hc e=>⟨o,k b o (fun z=>hc (by simp[z])) e⟩) (fun _ _ e=>e) (fun _ _ _ e=>e) (fun b ps e=>⟨#[],by rw[e];simp⟩) (fun m hm=> ?_) (fun b u e=> ?_) I.bare
 ·have e:b=it:=by simpa using hb
  subst e;exact⟨h1,hL,h2,h3⟩
 ·obtain⟨o,es,ep,ho,r⟩:=hm;exact⟨o,es,ep,k _ o (cy hL) ho,r⟩
 ·refine(I.hok b u e).stay (fun c v hc q=>k c v ?_ q) (fun _ q=>q) fun _ _ q=>q;rcases hc with z|z
  ·rw[z];exact nit b u e
  ·exact nit c _ z
theorem Inv.tok (I:Inv X pins σ H s) (t:Nat):Inv X pins σ H { s with toks:=t }:=I.un (h':=s.heap) (t':=t) Un.refl I.hok
theorem Inv.kept (I:Inv X pins σ H s) (k:∀ b u,s.heap.get? b=we u->h'.get? b=we u):Inv X pins σ H { s with heap:=h',toks:=t' }:=I.un (Un.kept k) (I.hok.kept k)
theorem Inv.laid (I:Inv X pins σ H s) (k:∀ b u,s.heap.get? b=we u->h'.get? b=we u) (hp:s.heap.objs.size<=a) (new:ObjOk X.prog X.w (upd H a o) h' a o):
  Inv X pins σ (upd H a o) { s with heap:=h',toks:=t' }:=I.un (Un.laid k hp (I.hok.fresh hp)) (I.hok.laid k hp new)
theorem Inv.write (I:Inv X pins σ H s) (mu:Mut (H x)) (he:e=x∨H e=we (.own x)) (k:∀ b u,b≠e->s.heap.get? b=we u->h'.get? b=we u) (heo:∃ u,h'.get? e=we u)
  (new:ObjOk X.prog X.w (upd H x o) h' x o):Inv X pins σ (upd H x o) { s with heap:=h',toks:=t' }:=I.un (Un.write mu he k heo) (I.hok.write mu he k heo new)
theorem Inv.weak (I:Inv X pins σ H s) (hl:σ'.length=σ.length) (w:∀(i:Nat) v,σ'[i]?=we (we v)->σ[i]?=we (we v)):Inv X pins σ' H s:=
 ⟨I.ok,I.os,I.bare,I.base,let ⟨m,hn,hl'⟩:=I.loc;⟨m,hn,fun i x v e1 e2 e3=>hl' i x v e1 (w i v e2) e3⟩,I.cell,I.free,I.freeC,I.pin,I.hok,hl.trans I.len⟩
theorem Inv.pins_of (I:Inv X pins σ H s) (h:∀ p∈pins',s.heap.get? p.1=we p.2/\H p.1=wf/\p.1≠X.env.locals/\p.1∉X.fs/\∀ v,p.2.data≠ .cell v):Inv X pins' σ H s:=
 ⟨I.ok,I.os,I.bare,I.base,I.loc,I.cell,I.free,I.freeC,fun p hp=>(c6.mp hp).elim (fun z=>I.pin p (d4 _ z)) (h p),I.hok,I.len⟩
theorem nodup_ix {N:List Str} (hN:N.Nodup) {i j:Nat} (a:N[i]?=we x) (b:N[j]?=we x):i=j:=by
 obtain⟨h1,e1⟩:=bi.mp a;obtain⟨h2,e2⟩:=bi.mp b;exact(List.getElem_inj hN).mp (e1.trans e2.symm)
theorem vR (I:Inv X pins σ H s) (hN:X.N.Nodup) (hi:X.N[i]?=we x) (hx:Loc X.env.scope x) (r:RelV v u)
  (h:∀ s',Inv X pins (σ.set i (we v)) H s'->(∃ a,fg a s.heap s'.heap/\(a=X.env.locals∨X.env.cells.lookup x=we a))->Q () s') (hf:X.fn x=true∨X.env.scope.names.lookup x=we .local:=by first|exact .inl rfl|exact .inr rfl|assumption):bf M A (storeName X.env x u) Q E s:=by
 obtain⟨m,hn,hl⟩:=id I.loc;have hcls:(X.env.scope.kind== .class||(X.env.scope.kind== .module&&X.env.locals !=X.env.globals))=false:=by rw[I.ok.kind];rfl
 have hiσ:i<σ.length:=by rw[I.len];exact(bi.mp hi).1
 have cne:=I.cne;have tracked:∀ {a:af}{h':cx},(∃ o,s.heap.get? a=we o/\H a=wf)->fg a s.heap h'->HOk X.prog X.w H h':=fun {a h'} ha hs b ob e=>by
  obtain⟨_,_,hfree⟩:=ha;refine(I.hok b ob e).stay (fun c w' hc q=>(hs.2 c ?_).trans q) (fun _ q=>q) fun _ _ q=>q;rintro rfl;rcases hc with rfl|hc
  ·rw[hfree] at e;cases e
  ·rw[hfree] at hc;cases hc
 rcases hx with hk|hk
 ·refine wpAny_storeName_local hk hn (fun h' hn' hs=> ?_) hcls;obtain⟨oL,_,_,hoL,_⟩:=id hn;refine h _ ⟨I.ok,I.os,I.bare,⟨fun b o e n hb hx=> ?_,fun b o e n hb hx=> ?_,I.base.free,fun b o e hx=> ?_,I.base.tups,I.base.frzs,I.base.tbls⟩,⟨_,hn',fun j y v' e1 e2 e3=> ?_⟩,fun y c e=> ?_,I.free,I.freeC,fun p hp=> ?_,tracked ⟨oL,hoL,I.free⟩ hs,by simpa using I.len⟩ ⟨_,hs,.inl rfl⟩
  ·exact(hs.2 b (cj (bx (br e) I.ok.above))).trans (I.base.keep b o e n hb hx)
  ·obtain⟨sl,e1⟩:=I.base.slot b o e n hb hx;exact⟨sl,(hs.2 b (cj (bx (br e) I.ok.above))).trans e1⟩
  ·obtain⟨o',e1⟩:=I.base.there b o e hx;exact⟨o',(hs.2 b (cj (bx (br e) I.ok.above))).trans e1⟩
  ·by_cases hj:j=i
   ·subst hj;rw[hi] at e1;cases e1;rw[fm hiσ] at e2;cases e2;exact⟨u,r,.inl ⟨hk,by simp⟩⟩
   ·rw[hX (cy hj)] at e2;obtain⟨u',r',q⟩:=hl j y v' e1 e2 e3;refine⟨u',r',?_⟩;rcases q with⟨k,e⟩|⟨k,c,e,z⟩
    ·refine .inl ⟨k,?_⟩
     have:y≠x:=fun e=>hj (nodup_ix hN e1 (e ▸ hi))
     simp[this,e]
    ·exact .inr ⟨k,c,e,z.sameBut hs (cne y c e)⟩
  ·obtain⟨w',z⟩:=I.cell y c e;exact⟨w',z.sameBut hs (cne y c e)⟩
  ·obtain⟨e,n,ne,nf,d⟩:=I.pin p hp;exact⟨(hs.2 p.1 ne).trans e,n,ne,nf,d⟩
 ·have hfn:X.fn x=true:=by
   rcases hf with z|z
   ·exact z
   ·rw[z] at hk;cases hk
  obtain⟨c,hc⟩:=I.ok.has x (.inl hk);obtain⟨w',z⟩:=I.cell x c hc;refine wpAny_storeName_cell I.ok.kind hk hc z (fun h' hc' hs=> ?_);obtain⟨oc,hoc,hocd⟩:=id z;refine h { s with heap:=h' } ⟨I.ok,I.os,I.bare,⟨fun b o e n hb hx=> ?_,fun b o e n hb hx=> ?_,I.base.free,fun b o e hx=> ?_,I.base.tups,I.base.frzs,I.base.tbls⟩,⟨m,hn.sameBut hs (cy (cne x c hc)),fun j y v' e1 e2 e3=> ?_⟩,fun y c' e=> ?_,I.free,I.freeC,fun p hp=> ?_,tracked ⟨oc,hoc,I.freeC x c hc⟩ hs,by simpa using I.len⟩ ⟨c,hs,.inr hc⟩
  ·exact(hs.2 b (cj (bx (br e) (I.ok.cab x c hfn hc)))).trans (I.base.keep b o e n hb hx)
  ·obtain⟨sl,e1⟩:=I.base.slot b o e n hb hx;exact⟨sl,(hs.2 b (cj (bx (br e) (I.ok.cab x c hfn hc)))).trans e1⟩
  ·obtain⟨o',e1⟩:=I.base.there b o e hx;exact⟨o',(hs.2 b (cj (bx (br e) (I.ok.cab x c hfn hc)))).trans e1⟩
  ·by_cases hj:j=i
   ·subst hj;rw[hi] at e1;cases e1;rw[fm hiσ] at e2;cases e2;exact⟨u,r,.inr ⟨.inl hk,c,hc,hc'⟩⟩
   ·rw[hX (cy hj)] at e2;obtain⟨u',r',q⟩:=hl j y v' e1 e2 e3;refine⟨u',r',?_⟩;rcases q with q|⟨k,c',e,z'⟩
    ·exact .inl q
    ·refine .inr ⟨k,c',e,z'.sameBut hs ?_⟩;rintro rfl;exact hj (nodup_ix hN e1 (I.ok.inj _ _ _ e hc ▸ hi))
  ·by_cases hcc:c'=c
   ·subst hcc;exact⟨_,hc'⟩
   ·obtain⟨w2,z2⟩:=I.cell y c' e;exact⟨w2,z2.sameBut hs hcc⟩
  ·obtain⟨e,n,ne,nf,d⟩:=I.pin p hp;refine⟨(hs.2 p.1 ?_).trans e,n,ne,nf,d⟩;intro q;rw[q,hoc] at e;have q':oc=p.2:=ce e;exact d w' (by rw[<- q'];exact hocd)
theorem AQ (I:Inv X pins σ H s) (hN:X.N.Nodup) (hi:X.N[i]?=we x) (hx:Loc X.env.scope x) (r:RelV v u)
  (h:∀ s',Inv X pins (σ.set i (we v)) H s'->Q () s') (hf:X.fn x=true∨X.env.scope.names.lookup x=we .local:=by first|exact .inl rfl|exact .inr rfl|assumption):bf M A (storeName X.env x u) Q E s:=
 vR I hN hi hx r (fun s' I' _=>h s' I') hf
theorem Inv.call' (I:Inv X pins σ H s) (ho:s'.os=s.os) (u:Un (frs X.stack) ch H H' s.heap s'.heap) (hok:HOk X.prog X.w H' s'.heap) (hg:mf s'.gens)
  (hch:∀ b∈ch,(b∈X.ex∨X.s₀.heap.objs.size<=b)/\b≠X.env.locals/\(∀ x c,X.env.cells.lookup x=we c->c≠b)/\∀ p∈X.pn++pins,p.1≠b):Inv X pins σ H' s':=by
 obtain⟨h',g',d',t',o'⟩:=s';have e:o'=s.os:=ho;subst e;exact I.call (g':=g') (t':=t') (d':=d') u hok hg hch
end
noncomputable abbrev XK:=ai->Option af->Hp->Prop
noncomputable abbrev St:=List (Option V)
noncomputable abbrev VK:=V->Hp->Prop
noncomputable abbrev TE:=St->Hp->VK->Prop
noncomputable abbrev TT:=St->Hp->(Bool->Hp->Prop)->Prop
noncomputable abbrev TA:=St->Hp->(List V->Hp->Prop)->Prop
structure BI where
 nx:St->Hp->Prop
 rt:VK
 bk:St->Hp->Prop:=fun _ _=>False
 ct:St->Hp->Prop:=fun _ _=>False
noncomputable abbrev TS:=BI->St->Hp->Prop
noncomputable def EP (X:Cx) (pins:List (af×Obj)) (σ:St) (Q:VK) (u:ai) (s':aq):Prop:=∃ v H',Inv X pins σ H' s'/\RelV v u/\Q v H'
noncomputable def TP (X:Cx) (pins:List (af×Obj)) (σ:St) (Q:Bool->Hp->Prop) (b:Bool) (s':aq):Prop:=∃ H',Inv X pins σ H' s'/\Q b H'
noncomputable def AP (X:Cx) (pins:List (af×Obj)) (σ:St) (Q:List V->Hp->Prop) (us:List ai) (s':aq):Prop:=∃ vs H',Inv X pins σ H' s'/\Vals vs us/\Q vs H'
noncomputable def SP (X:Cx) (pins:List (af×Obj)) (D:BI) (f:Flow) (s':aq):Prop:=
 match f with
 |.next=>∃ σ' H',Inv X pins σ' H' s'/\D.nx σ' H'
 |.brk=>∃ σ' H',Inv X pins σ' H' s'/\D.bk σ' H'
 |.cont=>∃ σ' H',Inv X pins σ' H' s'/\D.ct σ' H'
 |.ret u=>∃ v σ' H',Inv X pins σ' H' s'/\RelV v u/\D.rt v H'
noncomputable def PE (X:Cx) (e:bw) (t:TE):Prop:=
 ∀(pins:List (af×Obj)) (s:aq) (σ:St) (H:Hp) (Q:VK),Inv X pins σ H s->t σ H Q->bf (model X.prog X.w) X.A (eval e X.env) (EP X pins σ Q) X.xe s
noncomputable def PT (X:Cx) (e:bw) (t:TT):Prop:=
 ∀(pins:List (af×Obj)) (s:aq) (σ:St) (H:Hp) (Q:Bool->Hp->Prop),Inv X pins σ H s->t σ H Q->bf (model X.prog X.w) X.A (isTrue e X.env (eval e X.env)) (TP X pins σ Q) X.xe s
noncomputable def PW (X:Cx) (e:bw) (t:TT):Prop:=
 ∀(whole:Sem ai) (pins:List (af×Obj)) (s:aq) (σ:St) (H:Hp) (Q:Bool->Hp->Prop),Inv X pins σ H s->t σ H Q->bf (model X.prog X.w) X.A (isTrue e X.env whole) (TP X pins σ Q) X.xe s
theorem PW.pt (h:PW X e t):PT X e t:=h _
noncomputable def PA (X:Cx) (es:List bw) (t:TA):Prop:=
 ∀(pos:Pos) (pins:List (af×Obj)) (s:aq) (σ:St) (H:Hp) (Q:List V->Hp->Prop),Inv X pins σ H s->t σ H Q->bf (model X.prog X.w) X.A (spliced (de pos (ar es X.env))) (AP X pins σ Q) X.xe s
noncomputable def PS (X:Cx) (st:cu) (t:TS):Prop:=
 ∀(pins:List (af×Obj)) (s:aq) (σ:St) (H:Hp) (D:BI),Inv X pins σ H s->t D σ H->bf (model X.prog X.w) X.A (exec st X.env) (SP X pins D) X.xe s
noncomputable def PSs (X:Cx) (st:List cu) (t:TS):Prop:=
 ∀(pins:List (af×Obj)) (s:aq) (σ:St) (H:Hp) (D:BI),Inv X pins σ H s->t D σ H->bf (model X.prog X.w) X.A (execs st X.env) (SP X pins D) X.xe s
theorem thn {Q Q':α->aq->Prop} (h:bf M A t Q E s) (hQ:∀ a s,Q a s->Q' a s):bf M A t Q' E s:=gq h hQ fun _ _ x=>x
end L2
namespace L2
section
variable {X:Cx}
noncomputable def Qg (i:Nat):TE:=fun σ H Q=>∃ v,σ[i]?=we (we v)/\Q v H
noncomputable def tC (v:V):TE:=fun _ H Q=>Q v H
theorem Mr (hN:X.N[i]?=we x) (hv:Vis X.env.scope x) (hd:(x==("__debug__":Str))=false:=by decide) (hcd:(x==("__classdict__":Str))=false:=by decide):PE X (.Name x pos) (Qg i):=by
 intro pins s σ H Q I h;obtain⟨v,e,h⟩:=h;obtain⟨m,hn,hl⟩:=I.loc;obtain⟨u,r,l⟩:=hl i x v hN e hv;have fin:EP X pins σ Q u s:=⟨v,H,I,r,h⟩;rcases l with⟨hk,hm⟩|⟨hk,c,hc,hcell⟩
 ·exact wpAny_Name (wpAny_loadName_local I.ok.kind hk hn hm fin) hd
 ·rcases hk with hk|hk
  ·exact wpAny_Name (wpAny_loadName_cell I.ok.kind hk hc hcell fin) hd
  ·exact wpAny_Name (wpAny_loadName_free I.ok.kind hk hc hcell fin hcd) hd
theorem Mw:PE X (.Constant (.int i) j pos) (tC (.int i)):=fun _ _ _ H _ I h=>wpAny_Constant_int ⟨.int i,H,I.tok _,⟨_,rfl⟩,h⟩
theorem Pg:PE X (.Constant (.bool b) j pos) (tC (.bl b)):=fun _ _ _ H _ I h=>Constant_bool ⟨.bl b,H,I,rfl,h⟩
theorem Mv:PE X (.Constant .none j pos) (tC .non):=fun _ _ _ H _ I h=>Constant_none ⟨.non,H,I,rfl,h⟩
theorem Ms:PE X (.Constant (.str x) j pos) (tC (.str x)):=fun _ _ _ H _ I h=>Calls.Constant_str ⟨.str x,H,I.tok _,⟨_,rfl⟩,h⟩
noncomputable def Gl (X:Cx) (x:Str):Prop:=X.env.kindOf x=we .globalImplicit
theorem tP (I:Inv X pins σ H s) (hg:Gl X x) (hm:X.mg x=we u) (h:Q u s)
  (hd:(x==("__debug__":Str))=false:=by decide):bf (model X.prog X.w) X.A (eval (.Name x pos) X.env) Q E s:=
 pb I.ok.kind hg (Calls.loadGlobal_global (by rw[I.ok.glob];exact I.mod.glob.keeps I.bk) hm h) hd
theorem rW (I:Inv X pins σ H s) (hg:Gl X x) (hm:X.mg x=wf) (hv:dc x=we u) (h:Q u s)
  (hn:x≠"__name__":=by decide) (hd:(x==("__debug__":Str))=false:=by decide):bf (model X.prog X.w) X.A (eval (.Name x pos) X.env) Q E s:=by
 obtain⟨mb,h1,h2⟩:=I.mod.blt;exact pb I.ok.kind hg (Calls.loadGlobal_builtin (by rw[I.ok.glob];exact I.mod.glob.keeps I.bk) hm (by rw[I.ok.blt];exact h1.keeps I.bk) ((h2 x hn).trans hv) h) hd
theorem yS (hg:Gl X x) (hm:X.mg x=wf) (hv:dc x=we u) (r:RelV v u) (hn:x≠"__name__":=by decide) (hd:(x==("__debug__":Str))=false:=by decide):PE X (.Name x pos) (tC v):=
 fun _ _ _ H _ I h=>rW I hg hm hv ⟨v,H,I,r,h⟩ hn hd
variable {a b:bw}{ta tb:TE}{pos:Pos}
noncomputable def PC (X:Cx) (op:CmpOp) (a b:bw) (t:TE):Prop:=
 ∀(pins:List (af×Obj)) (s:aq) (σ:St) (H:Hp) (Q:VK),Inv X pins σ H s->t σ H Q->
  bf (model X.prog X.w) X.A (eval a X.env) (fun v s₁=>bf (model X.prog X.w) X.A (eval b X.env) (fun u s₂=>bf (model X.prog X.w) X.A (fw op v u) (EP X pins σ Q) X.xe s₂) X.xe s₁) X.xe s
noncomputable def tB (t:TE):TT:=fun σ H Q=>t σ H fun x H1=>∃ c,x=.bl c/\Q c H1
theorem Mi (h:PC X op a b t) (h1:i4 op b=false:=by first|exact nobehind _ (by decide) (by decide)|rfl):PT X (.Compare a [op] [b] pos) (tB t):=by
 intro pins s σ H Q I hw;refine rc (thn (h pins s σ H _ I hw) fun v s1 h1=>thn h1 fun u s2 h2=>thn h2 fun c s3 ⟨x,H1,I1,r1,q1⟩=> ?_) h1;obtain⟨d,rfl,q⟩:=q1;cases r1;exact di ⟨H1,I1,q⟩
variable {tA tB':TT}{rest:List bw}
noncomputable def QL (t u:TT):TT:=fun σ H Q=>t σ H fun c H1=>if c=true then u σ H1 Q else Q false H1
noncomputable def tOr (t u:TT):TT:=fun σ H Q=>t σ H fun c H1=>if c=true then Q true H1 else u σ H1 Q
noncomputable def QF (t:TT):TT:=fun σ H Q=>t σ H fun c H1=>Q (!c) H1
theorem Jl (ha:PT X a tA):PW X (.BoolOp .And [a] pos) tA:=by
 intro wh pins s σ H Q I h;refine isTrue_and (thn (ha pins s σ H Q I h) fun c s1 e=> ?_);cases c with
 |true=>exact isTrue_and_nil e
 |false=>exact e
theorem Me (ha:PT X a tA):PW X (.BoolOp .Or [a] pos) tA:=by
 intro wh pins s σ H Q I h;refine isTrue_or (thn (ha pins s σ H Q I h) fun c s1 e=> ?_);cases c with
 |false=>exact isTrue_or_nil e
 |true=>exact e
theorem Mf (ha:PT X a tA) (hb:PW X (.BoolOp .And (b::rest) pos) tB'):PW X (.BoolOp .And (a::b::rest) pos) (QL tA tB'):=by
 intro wh pins s σ H Q I h;refine isTrue_and (thn (ha pins s σ H _ I h) fun c s1 ⟨H1,I1,q1⟩=> ?_);cases c with
 |true=>exact hb wh pins s1 σ H1 Q I1 q1
 |false=>exact⟨H1,I1,q1⟩
theorem Pb (ha:PT X a tA) (hb:PW X (.BoolOp .Or (b::rest) pos) tB'):PW X (.BoolOp .Or (a::b::rest) pos) (tOr tA tB'):=by
 intro wh pins s σ H Q I h;refine isTrue_or (thn (ha pins s σ H _ I h) fun c s1 ⟨H1,I1,q1⟩=> ?_);cases c with
 |true=>exact⟨H1,I1,q1⟩
 |false=>exact hb wh pins s1 σ H1 Q I1 q1
theorem Mh (ha:PT X a tA):PT X (.UnaryOp .Not a pos) (QF tA):=by
 intro pins s σ H Q I h;exact isTrue_not (ha pins s σ H (fun c H1=>Q (!c) H1) I h)
noncomputable def OU (ta tb:TE):TE:=fun σ H Q=>ta σ H fun x H1=>∃ c,x=.bl c/\if c=true then tb σ H1 Q else Q (.bl false) H1
noncomputable def OJ (ta:TE):TE:=fun σ H Q=>ta σ H fun x H1=>∃ c,x=.bl c/\Q (.bl (!c)) H1
theorem Mt (h:PE X a t):PE X (.BoolOp op [a] pos) t:=fun pins s σ H Q I hw=>BoolOp_one (h pins s σ H Q I hw)
theorem MA (ha:PE X a ta) (hb:PE X (.BoolOp .And (b::rest) pos) tb):PE X (.BoolOp .And (a::b::rest) pos) (OU ta tb):=by
 intro pins s σ H Q I h;refine BoolOp_and (thn (ha pins s σ H _ I h) fun v s1 ⟨x,H1,I1,r1,q1⟩=> ?_);obtain⟨c,rfl,q1⟩:=q1;cases r1;refine di ?_;cases c with
 |true=>exact hb pins s1 σ H1 Q I1 q1
 |false=>exact⟨.bl false,H1,I1,rfl,q1⟩
theorem Mu (ha:PE X a ta):PE X (.UnaryOp .Not a pos) (OJ ta):=by
 intro pins s σ H Q I h;refine UnaryOp_ (thn (ha pins s σ H _ I h) fun v s1 ⟨x,H1,I1,r1,q1⟩=> ?_);obtain⟨c,rfl,q1⟩:=q1;cases r1;exact not_of (di ⟨.bl (!c),H1,I1,rfl,q1⟩)
end
end L2
namespace L2
noncomputable def SqL (K:aa) (H:Hp) (a:af) (xs:List V):Prop:=
 Rd H a (.lst xs)∨
  ∃(o:Obj) (its:Array ai) (n:Nat),K.lookup a=we o/\o.cls=.type "list"/\o.dict=wf/\o.data=.seq its n/\its.size<=sizeLine/\Vals xs its.toList
noncomputable def SqT (K:aa) (H:Hp) (a:af) (xs:List V):Prop:=
 Rd H a (.tup xs)∨
  ∃(o:Obj) (its:Array ai) (n:Nat),K.lookup a=we o/\o.cls=.type "tuple"/\o.data=.seq its n/\its.size<=sizeLine/\Vals xs its.toList
noncomputable def Rj:ai->Option V
 |.none=>we .non
 |.bool b=>we (.bl b)
 |.int i _=>we (.int i)
 |.str x _=>we (.str x)
 |.bytes b _=>we (.byt b)
 |.float b _=>we (.flt b)
 |.ref a=>we (.ref a)
 |.type n=>we (.ty n)
 |_=>wf
theorem RelV.abs (r:RelV x u):Rj u=we x:=by
 cases x with
 |non=>cases r;rfl
 |bl _=>cases r;rfl
 |int _=>obtain⟨t,rfl⟩:=r;rfl
 |str _=>obtain⟨t,rfl⟩:=r;rfl
 |byt _=>obtain⟨t,rfl⟩:=r;rfl
 |flt _=>obtain⟨t,rfl⟩:=r;rfl
 |ref _=>cases r;rfl
 |ty _=>cases r;rfl
theorem RelV.inj (r:RelV x u) (q:RelV y u):x=y:=ce (r.abs.symm.trans q.abs)
theorem Vals.inj:∀ {xs ys:List V}{us:List ai},Vals xs us->Vals ys us->xs=ys
 |_,_,_,.nil,.nil=>rfl
 |_,_,_,.cons r t,.cons r' t'=>by rw[r.inj r',Vals.inj t t']
section
variable {X:Cx}{pins:List (af×Obj)}{σ:St}{H:Hp}{s:aq}{a:af}{xs ys:List V}
theorem SqL.of {K:aa} (h:H a=we (.lst xs)):SqL K H a xs:=.inl (.inl h)
theorem Inv.list (I:Inv X pins σ H s) (h:SqL X.K H a xs):∃ its:List ai,Vals xs its/\PlainL s.heap a its.toArray/\xs.length<=sizeLine:=by
 rcases h with h|⟨o,its,n,hk,hc,hd,hs,hz,r⟩
 ·obtain⟨z,its,n,r,e⟩:=h.ok I.hok;exact⟨its,r,⟨_,n,e,rfl,rfl,rfl⟩,z⟩
 ·refine⟨its.toList,r,⟨o,n,I.kIn a o hk,hc,hd,by simpa using hs⟩,?_⟩;have e:=r.length;simp only[du] at e;omega
theorem Inv.tuple (I:Inv X pins σ H s) (h:SqT X.K H a xs):∃ its:List ai,Vals xs its/\IsTup s.heap a its.toArray/\xs.length<=sizeLine:=by
 rcases h with h|⟨o,its,n,hk,hc,hs,hz,r⟩
 ·obtain⟨z,its,r,p⟩:=h.ok I.hok;exact⟨its,r,p,z⟩
 ·refine⟨its.toList,r,⟨o,I.kIn a o hk,hc,n,by simpa using hs⟩,?_⟩;have e:=r.length;simp only[du] at e;omega
theorem Inv.list_inj (I:Inv X pins σ H s) (h:SqL X.K H a xs) (h':SqL X.K H a ys):xs=ys:=by
 obtain⟨its,r,⟨o,n,e,_,_,d⟩,_⟩:=I.list h;obtain⟨its',r',⟨o',n',e',_,_,d'⟩,_⟩:=I.list h';rw[e] at e';cases e';rw[d] at d';injection d' with d1 _
 have:its=its':=by simpa using congrArg Array.toList d1
 subst this;exact r.inj r'
theorem Inv.tuple_inj (I:Inv X pins σ H s) (h:SqT X.K H a xs) (h':SqT X.K H a ys):xs=ys:=by
 obtain⟨its,r,⟨o,e,_,n,d⟩,_⟩:=I.tuple h;obtain⟨its',r',⟨o',e',_,n',d'⟩,_⟩:=I.tuple h';rw[e] at e';cases e';rw[d] at d';injection d' with d1 _
 have:its=its':=by simpa using congrArg Array.toList d1
 subst this;exact r.inj r'
end
noncomputable abbrev Cx.wish (X:Cx) (E:ai->aq->Prop):Cx:={ X with xe:=E }
noncomputable abbrev Cx.nox (X:Cx):Cx:=X.wish fun _ _=>False
theorem Cx.Ok.wish {X:Cx} (ok:X.Ok) (E:ai->aq->Prop):(X.wish E).Ok:=
 ⟨ok.mod,ok.kind,ok.glob,ok.blt,ok.above,ok.inj,ok.has,ok.cab,ok.hd,ok.frames,ok.stk,ok.exf,ok.bs,ok.bsz,ok.noex,ok.exfs,ok.funs,ok.frf⟩
theorem Cx.Ok.unwish {X:Cx} (ok:(X.wish E).Ok):X.Ok:=
 ⟨ok.mod,ok.kind,ok.glob,ok.blt,ok.above,ok.inj,ok.has,ok.cab,ok.hd,ok.frames,ok.stk,ok.exf,ok.bs,ok.bsz,ok.noex,ok.exfs,ok.funs,ok.frf⟩
section
variable {X:Cx}{pins:List (af×Obj)}{σ:St}{H:Hp}{s:aq}{E:ai->aq->Prop}
theorem Inv.wish (I:Inv X pins σ H s) (E:ai->aq->Prop):Inv (X.wish E) pins σ H s:=⟨I.ok.wish E,I.os,I.bare,I.base,I.loc,I.cell,I.free,I.freeC,I.pin,I.hok,I.len⟩
theorem Inv.unwish (I:Inv (X.wish E) pins σ H s):Inv X pins σ H s:=⟨I.ok.unwish,I.os,I.bare,I.base,I.loc,I.cell,I.free,I.freeC,I.pin,I.hok,I.len⟩
theorem SP.unwish (h:SP (X.wish E) pins D f s'):SP X pins D f s':=by
 cases f with
 |next=>obtain⟨σ',H',I,q⟩:=h;exact⟨σ',H',I.unwish,q⟩
 |brk=>obtain⟨σ',H',I,q⟩:=h;exact⟨σ',H',I.unwish,q⟩
 |cont=>obtain⟨σ',H',I,q⟩:=h;exact⟨σ',H',I.unwish,q⟩
 |ret u=>obtain⟨v,σ',H',I,r,q⟩:=h;exact⟨v,σ',H',I.unwish,r,q⟩
end
section
variable {X:Cx}{st:cu}{rest:List cu}{t u:TS}{e:bw}{te:TE}{pos:Pos}
noncomputable def OL:TS:=fun D σ H=>D.nx σ H
noncomputable def QD (t u:TS):TS:=fun D σ H=>t { D with nx:=u D } σ H
theorem Jo:PSs X [] OL:=fun _ _ σ H _ I h=>n5 ⟨σ,H,I,h⟩
theorem Gp (h1:PS X st t) (h2:PSs X rest u):PSs X (st::rest) (QD t u):=by
 intro pins s σ H D I h;refine wpAny_execs_cons (thn (h1 pins s σ H { D with nx:=u D } I h) fun f s1 q=> ?_);cases f with
 |next=>
  obtain⟨σ',H',I',q⟩:=q;exact h2 pins s1 σ' H' D I' q
 |ret v=>exact q
 |brk=>exact q
 |cont=>exact q
theorem Jn (h1:PS X st t):PSs X [st] t:=by
 intro pins s σ H D I h;refine wpAny_execs_cons (thn (h1 pins s σ H D I h) fun f s1 q=> ?_);cases f with
 |next=>exact n5 q
 |ret v=>exact q
 |brk=>exact q
 |cont=>exact q
theorem Inv.quiet (I:Inv X pins σ H s):interactive X.env=false:=by simp[interactive,I.ok.kind]
noncomputable def OO (te:TE):TS:=fun D σ H=>te σ H fun _ H1=>D.nx σ H1
theorem Jq (he:PE X e te) (hs:i9 e wf pos.line X.env=pure false:=by rfl):PS X (.Expr e pos) (OO te):=by
 intro pins s σ H D I h;exact wpAny_Expr_any (thn (he pins s σ H _ I h) fun v s1 ⟨x,H1,I1,r1,q1⟩=>⟨σ,H1,I1,q1⟩) I.quiet hs
noncomputable def QE (te:TE):TS:=fun D σ H=>te σ H D.rt
theorem Ml (he:PE X e te):PS X (.Return (we e) pos) (QE te):=by
 intro pins s σ H D I h;exact wpAny_Return_some (thn (he pins s σ H _ I h) fun v s1 ⟨x,H1,I1,r1,q1⟩=>⟨x,σ,H1,I1,r1,q1⟩)
noncomputable def QH (c:TT) (t u:TS):TS:=fun D σ H=>c σ H fun b H1=>if b=true then t D σ H1 else u D σ H1
theorem Pc (hc:PT X c tc) (ha:PSs X a t) (hb:PSs X b u):PS X (.If c a b pos) (QH tc t u):=by
 intro pins s σ H D I h;refine wpAny_If (thn (hc pins s σ H _ I h) fun d s1 ⟨H1,I1,q1⟩=> ?_);cases d with
 |true=>exact ha pins s1 σ H1 D I1 q1
 |false=>exact hb pins s1 σ H1 D I1 q1
end
noncomputable abbrev TG:=V->St->Hp->(St->Hp->Prop)->Prop
noncomputable abbrev TGs:=List V->St->Hp->(St->Hp->Prop)->Prop
noncomputable def PG (X:Cx) (target:bw) (t:TG):Prop:=
 ∀(pins:List (af×Obj)) (s:aq) (σ:St) (H:Hp) (v:V) (u:ai) (Q:St->Hp->Prop),Inv X pins σ H s->RelV v u->t v σ H Q->
  bf (model X.prog X.w) X.A (assign target X.env u) (fun _ s'=>∃ σ' H',Inv X pins σ' H' s'/\Q σ' H') X.xe s
noncomputable def PGs (X:Cx) (ts:List bw) (t:TGs):Prop:=
 ∀(pins:List (af×Obj)) (s:aq) (σ:St) (H:Hp) (vs:List V) (us:List ai) (Q:St->Hp->Prop),Inv X pins σ H s->Vals vs us->t vs σ H Q->
  bf (model X.prog X.w) X.A (assignInOrder ((kq ts X.env).map (·.2)) us) (fun _ s'=>∃ σ' H',Inv X pins σ' H' s'/\Q σ' H') X.xe s
noncomputable abbrev Qu:=V->V->V->Hp->(Hp->Prop)->Prop
noncomputable def Qx (X:Cx) (t:Qu):Prop:=
 ∀(pins:List (af×Obj)) (s:aq) (σ:St) (H:Hp) (o i v:V) (ov iv u:ai) (Q:Hp->Prop),Inv X pins σ H s->RelV o ov->RelV i iv->RelV v u->t o i v H Q->
  bf (model X.prog X.w) X.A (setItem ov iv u) (fun _ s'=>∃ H',Inv X pins σ H' s'/\Q H') X.xe s
section
variable {X:Cx}{pos:Pos}
noncomputable def NP (i:Nat):TG:=fun v σ H Q=>Q (σ.set i (we v)) H
theorem fX (hN:X.N.Nodup) (hi:X.N[i]?=we x) (hx:Loc X.env.scope x) (hf:X.fn x=true∨X.env.scope.names.lookup x=we .local:=by first|exact .inl rfl|exact .inr rfl|assumption):PG X (.Name x pos) (NP i):=by
 intro pins s σ H v u Q I r h;exact wpAny_assign_Name (AQ I hN hi hx r (fun s' I'=>⟨_,H,I',h⟩) hf)
noncomputable def Re:TGs:=fun vs σ H Q=>vs=[]/\Q σ H
noncomputable def PJ (t:TG) (u:TGs):TGs:=fun vs σ H Q=>∃ v r,vs=v::r/\t v σ H fun σ' H'=>u r σ' H' Q
theorem yR:PGs X [] Re:=by
 intro pins s σ H vs us Q I r h;obtain⟨e,h⟩:=h;subst e;cases r;exact assignInOrder_nil ⟨σ,H,I,h⟩
theorem eU (h1:PG X e t) (h2:PGs X es u)
  (hs:(kq (e::es) X.env).map (·.2)=assign e X.env::(kq es X.env).map (·.2):=by rfl):PGs X (e::es) (PJ t u):=by
 intro pins s σ H vs us Q I r h;obtain⟨v,vr,e1,h⟩:=h;subst e1;cases r with
 |cons r rr=>
  rw[hs];refine assignInOrder_cons (thn (h1 pins s σ H _ _ _ I r h) fun _ s1 ⟨σ1,H1,I1,q1⟩=> ?_);exact h2 pins s1 σ1 H1 _ _ Q I1 rr q1
noncomputable def Rb (K:aa) (n:Nat) (t:TGs):TG:=fun v σ H Q=>∃ a xs,v=.ref a/\SqT K H a xs/\xs.length=n/\t xs σ H Q
theorem DG (hc:X.calm=true) (h:PGs X es t)
  (hn:(kq es X.env).length=n:=by rfl) (hst:(kq es X.env).findIdx? (·.1)=wf:=by rfl):PG X (.Tuple es k pos) (Rb X.K n t):=by
 intro pins s σ H v u Q I r hw;obtain⟨a,xs,e1,hq,hl,hw⟩:=hw;subst e1;cases r;obtain⟨its,rv,ht,hz⟩:=I.tuple hq;refine assign_Tuple_tuple (I.ok.hd hc) ht (by simp[hn,<- hl,rv.length]) hst fun h' hx=> ?_;have I1:Inv X pins σ H { s with heap:=h' }:=I.kept (t':=s.toks) fun b o e=>hx b o (cj (br e)) e;exact h pins _ σ H xs _ Q I1 (by simpa using rv) hw
noncomputable def gSub (to ti:TE) (t:Qu):TG:=fun v σ H Q=>to σ H fun o H1=>ti σ H1 fun i H2=>t o i v H2 fun H3=>Q σ H3
theorem Mq (ho:PE X o to) (hi:PE X i ti) (hs:Qx X t)
  (ha:∀ v,assign (.Subscript o i pos) X.env v=(do
   let ov <- holding [v] (eval o X.env)
   let iv <- holding [v,ov] (eval i X.env)
   mh pos
   holding [v,ov,iv] (setItem ov iv v)
   release [v,ov,iv] []):=by intro _;rfl):PG X (.Subscript o i pos) (gSub to ti t):=by
 intro pins s σ H v u Q I r h;rw[ha];refine ae (ij (thn (ho pins s σ H _ I h) fun ov s1 ⟨x,H1,I1,r1,q1⟩=> ?_));refine ae (ij (thn (hi pins s1 σ H1 _ I1 q1) fun iv s2 ⟨y,H2,I2,r2,q2⟩=> ?_));refine ae (su (ae (ij (thn (hs pins s2 σ H2 x y v ov iv u _ I2 r1 r2 r q2) fun _ s3 ⟨H3,I3,q3⟩=> ?_))));exact wpAny_release ⟨σ,H3,I3,q3⟩
noncomputable def Qi (te:TE) (g:TG):TS:=fun D σ H=>te σ H fun x H1=>g x σ H1 D.nx
theorem Iy (he:PE X e te) (hg:PG X tg g) (hs:sv [tg] e pos.line X.env=pure false:=by rfl) (hw:sw [tg] e X.env=pure wf:=by rfl)
  (h1:(kq [tg] X.env).map (·.2)=[assign tg X.env]:=by rfl):PS X (.Assign [tg] e pos) (Qi te g):=by
 intro pins s σ H D I h;refine wpAny_Assign_stores (thn (he pins s σ H _ I h) fun v s1 ⟨x,H1,I1,r1,q1⟩=> ?_) hs hw;rw[h1];exact thn (hg pins s1 σ H1 x v _ I1 r1 q1) fun _ s2 q=>q
theorem Mj (hN:X.N.Nodup) (hi:X.N[i]?=we x) (hx:Loc X.env.scope x) (he:PE X e te) (hs:i9 e (we (.Name x pos')) pos.line X.env=pure false:=by rfl) (hf:X.fn x=true∨X.env.scope.names.lookup x=we .local:=by first|exact .inl rfl|exact .inr rfl|assumption):
  PS X (.Assign [.Name x pos'] e pos) (Qi te (NP i)):=by
 intro pins s σ H D I h;refine wpAny_Assign_Name (thn (he pins s σ H _ I h) fun v s1 ⟨y,H1,I1,r1,q1⟩=> ?_) hs;exact AQ I1 hN hi hx r1 (fun s2 I2=>⟨_,H1,I2,q1⟩) hf
end
section
variable {X:Cx}{pos:Pos}
end
structure It where
 go:Nat->Hp->Prop
 yld:Nat->Hp->V->Hp->Prop
 stop:Nat->Hp->Prop
noncomputable def IX (X:Cx) (pins:List (af×Obj)) (H:Hp) (b:af):Prop:=
 H b=wf/\b≠X.env.locals/\b∉X.fs/\(b∈X.ex∨X.s₀.heap.objs.size<=b)/\(∀ x c,X.env.cells.lookup x=we c->c≠b)/\∀ p∈X.pn++pins,p.1≠b
theorem Inv.fpOk (I:Inv X pins σ H s) (hb:s.heap.objs.size<=b) (hn:H' b=wf):IX X pins H' b:=by
 refine⟨hn,Nat.ne_of_gt (bx I.lt hb),I.nofs hb,.inr (ci I.sz hb),fun x c e z=> ?_,fun p hp z=> ?_⟩
 ·obtain⟨v,q⟩:=I.cell x c e;exact absurd (bx q.lt (by rw[z];exact hb)) (f9 _)
 ·exact absurd (bx (br (I.pin p hp).1) (by rw[z];exact hb)) (f9 _)
structure LD (P:da) (w:df) (K:aa) (tg:bw) (J:It) (fp:List af) (it:af) (tn:Nat->cx->Prop):Prop where
 mem:it∈fp
 obj:∀ i h,tn i h->∀ b∈fp,∃ o,h.get? b=we o/\∀ v,o.data≠ .cell v
 keep:∀ i h h',tn i h->(∀ b∈fp,∀ o,h.get? b=we o->h'.get? b=we o)->tn i h'
 item:∀(X:Cx),X.prog=P->X.w=w->X.K=K->X.calm=true->∀(i:Nat) (pins:List (af×Obj)) (s:aq) (σ:St) (H:Hp) (E:ai->aq->Prop),Inv X pins σ H s->(∀ b∈fp,IX X pins H b)->tn i s.heap->J.go i H->
  bf (model P w) X.A (mv (.ref it)) (fun r s1=>∃ u,r=we u/\
   bf (model P w) X.A (n6 tg (.ref it) u) (fun _ s2=>∃ x H',Inv X pins σ H' s2/\RelV x u/\J.yld i H x H'/\tn (i+1) s2.heap/\∀ b∈fp,H' b=wf) E s1) E s
 done:∀(X:Cx),X.prog=P->X.w=w->X.K=K->X.calm=true->∀(i:Nat) (pins:List (af×Obj)) (s:aq) (σ:St) (H:Hp) (E:ai->aq->Prop),Inv X pins σ H s->(∀ b∈fp,IX X pins H b)->tn i s.heap->J.stop i H->
  bf (model P w) X.A (mv (.ref it)) (fun r s1=>r=wf/\Inv X pins σ H s1) E s
 self:∀(A:dh) (i:Nat) (s:aq) (Q:ai->aq->Prop) (E:ai->aq->Prop),tn i s.heap->Q (.ref it) s->bf (model P w) A (pyIter (.ref it)) Q E s
noncomputable abbrev TI:=St->Hp->(It->Hp->Prop)->Prop
noncomputable def PIE (X:Cx) (pins:List (af×Obj)) (σ:St) (tg:bw) (R:It->Hp->Prop) (itv:ai) (s2:aq):Prop:=
 ∃(it:af) (fp:List af) (tn:Nat->cx->Prop) (J:It) (H':Hp),itv=.ref it/\Inv X pins σ H' s2/\LD X.prog X.w X.K tg J fp it tn/\tn 0 s2.heap/\(∀ b∈fp,IX X pins H' b)/\R J H'
noncomputable def PI (X:Cx) (tg iter:bw) (wi:TI):Prop:=
 ∀(pins:List (af×Obj)) (s:aq) (σ:St) (H:Hp) (R:It->Hp->Prop),Inv X pins σ H s->wi σ H R->
  bf (model X.prog X.w) X.A (eval iter X.env) (fun v s1=>bf (model X.prog X.w) X.A (pyIter v) (PIE X pins σ tg R) X.xe s1) X.xe s
theorem KM (ho:s.heap.get? it=we o) (hc:o.cls=.type n) (hd:o.data=.fields vs)
  (hn:["enumerate","zip","dict_itemiterator","dict_reverseitemiterator","odict_iterator","itertools.zip_longest","itertools.pairwise"].contains n=false) (hQ:Q () s):bf M A (n6 tg (.ref it) u) Q E s:=by
 unfold n6;cases tg <;> first
  |exact ao hQ
  |(cases u <;> first
    |exact ao hQ
    |(refine ae (wpAny_load ho ?_)
      rw[hc,hd];show bf M A (if(["enumerate","zip","dict_itemiterator","dict_reverseitemiterator","odict_iterator","itertools.zip_longest","itertools.pairwise"].contains n&&vs[0]?==we (lz _))=true then _ else _) Q E s;rw[if_neg (by intro h;rw[hn,Bool.false_and] at h;cases h)];exact ao hQ))
noncomputable def Itl (K:aa) (a:af):It:=
 ⟨fun i H=>∃ xs x,SqL K H a xs/\xs[i]?=we x,fun i H x H'=>H'=H/\∀ xs,SqL K H a xs->xs[i]?=we x,fun i H=>∃ xs,SqL K H a xs/\xs.length<=i⟩
noncomputable def Itr (lo:Int) (n:Nat):It:=⟨fun i _=>i<n,fun i H x H'=>H'=H/\x=.int (lo+i),fun i _=>n<=i⟩
theorem CY {K:aa} (a it:af):LD P w K tg (Itl K a) [it] it (fun i h=>h.IsListIter it a i) where
 mem:=by simp
 obj:=fun i h st b hb=>by
  have e:b=it:=by simpa using hb
  subst e;obtain⟨o,e,c,d⟩:=st;exact⟨o,e,fun v z=>by rw[d] at z;cases z⟩
 keep:=fun i h h' st k=>st.at fun o e=>k it (by simp) o e
 item:=by
  intro X hP hw hK hc i pins s σ H E I hf st hg;subst hP hw hK;obtain⟨xs,x,hq,hx⟩:=hg;obtain⟨its,rv,p,hz⟩:=I.list hq;obtain⟨u,hu,ru⟩:=rv.get hx;obtain⟨f0,f1,f2,f3,f4,f5⟩:=hf it (by simp);refine wpAny_pyNext_list_item st p.isList (x:=u) (by simpa using hu) fun h' st' sb=> ?_;have I1:Inv X pins σ H { s with heap:=h' }:=I.turned (t':=s.toks) (fun b o hb e=>(sb.2 b hb).trans e) f0 f1 f3 f4 f5;obtain⟨o,e,c,d⟩:=id st';exact⟨u,rfl,KM (s:={ s with heap:=h' }) e c d (by decide) ⟨x,H,I1,ru,⟨rfl,fun ys hy=>by rw[I.list_inj hy hq];exact hx⟩,st',fun b hb=>(hf b hb).1⟩⟩
 done:=by
  intro X hP hw hK hc i pins s σ H E I hf st hg;subst hP hw hK;obtain⟨xs,hq,hx⟩:=hg;obtain⟨its,rv,p,hz⟩:=I.list hq;obtain⟨f0,f1,f2,f3,f4,f5⟩:=hf it (by simp);have hl:=rv.length;exact wpAny_pyNext_list_end (I.ok.hd hc) st p.isList (by simp;omega) fun h' eb=>⟨rfl,I.turned (t':=s.toks) (fun b o hb e=>eb b o hb e) f0 f1 f3 f4 f5⟩
 self:=fun _ _ _ _ _ st h=>wpAny_pyIter_listiter st h
theorem BK {K:aa} (it:af) (lo:Int) (n:Nat):LD P w K tg (Itr lo n) [it] it (fun i h=>IsRangeIter h it (lo+(i:Nat)*1) ((n:Int)-(i:Nat)) 1) where
 mem:=by simp
 obj:=fun i h st b hb=>by
  have e:b=it:=by simpa using hb
  subst e;exact⟨_,st,fun v z=>by
   have z':Data.fields _=t6 v:=z;cases z'⟩
 keep:=fun i h h' st k=>k it (by simp) _ st
 item:=by
  intro X hP hw hK hc i pins s σ H E I hf st hg;subst hP hw hK;obtain⟨f0,f1,f2,f3,f4,f5⟩:=hf it (by simp);have W:=Walks.range (prog:=X.prog) (w:=X.w) (I.ok.hd hc) it lo 1 n;refine W.item i s _ _ hg st fun v h' tk hv st' kk=> ?_;obtain⟨t,rfl⟩:=hv;have I1:Inv X pins σ H { s with heap:=h',toks:=tk }:=I.turned (fun b o hb e=>kk b o (by simpa using hb) e) f0 f1 f3 f4 f5;refine⟨_,rfl,KM (s:={ s with heap:=h',toks:=tk }) (n:="range_iterator") st' rfl rfl (by decide) ⟨.int (lo+i),H,I1,⟨t,?_⟩,⟨rfl,rfl⟩,st',fun b hb=>(hf b hb).1⟩⟩;rw[Int.mul_one]
 done:=by
  intro X hP hw hK hc i pins s σ H E I hf st hg;subst hP hw hK;obtain⟨f0,f1,f2,f3,f4,f5⟩:=hf it (by simp);exact wpAny_pyNext_range_end (I.ok.hd hc) st (by have:n<=i:=hg;omega) fun h' eb=>⟨rfl,I.turned (t':=s.toks) (fun b o hb e=>eb b o hb e) f0 f1 f3 f4 f5⟩
 self:=fun _ _ _ _ _ st h=>wpAny_pyIter_rangeiter st h
end L2
namespace L2
section
variable {X:Cx}{tg:bw}
noncomputable def Pz (K:aa) (tl:TE):TI:=fun σ H R=>tl σ H fun x H1=>∃ a,x=.ref a/\(∃ xs,SqL K H1 a xs)/\R (Itl K a) H1
theorem Jv (hl:PE X l tl):PI X tg l (Pz X.K tl):=by
 intro pins s σ H R I h;refine thn (hl pins s σ H _ I h) fun v s1 ⟨x,H1,I1,r1,q1⟩=> ?_;obtain⟨a,e,⟨xs,hq⟩,q⟩:=q1;subst e;cases r1;obtain⟨its,rv,p,hz⟩:=I1.list hq;refine wpAny_pyIter_list p.isList ?_;refine⟨s1.heap.objs.size,[s1.heap.objs.size],_,_,H1,rfl,I1.kept (t':=s1.toks) fun b o e=>bh _ e,CY a _,⟨_,b0 _ rfl,rfl,rfl⟩,fun b hb=> ?_,q⟩;have e:b=s1.heap.objs.size:=by simpa using hb
 subst e;exact I1.fpOk (bj _) (I1.hok.fresh (bj _))
theorem AX {lo hi:Int} (I:Inv X pins σ H s) (h1: -(2 ^ 62)<=lo) (h2:lo<2 ^ 62) (h3: -(2 ^ 62)<=hi) (h4:hi<2 ^ 62)
  (q:R (Itr lo (hi-lo).toNat) H):bf (model X.prog X.w) X.A (pyIter (.ref s.heap.objs.size)) (PIE X pins σ tg R) E { s with heap:=s.heap.push { cls:=.type "range",data:=.fields #[.int lo t,.int hi u,.int 1 v] },toks:=tk }:=by
 refine wpAny_pyIter_range (IsRange.new ..) (small_one h1 h2 h3 h4) ?_;have I1:Inv X pins σ H { s with heap:=s.heap.push { cls:=.type "range",data:=.fields #[.int lo t,.int hi u,.int 1 v] },toks:=tk }:=I.kept fun b o e=>bh _ e;refine⟨(s.heap.push { cls:=.type "range",data:=.fields #[.int lo t,.int hi u,.int 1 v] }).objs.size,[(s.heap.push { cls:=.type "range",data:=.fields #[.int lo t,.int hi u,.int 1 v] }).objs.size],_,_,H,rfl,
  I1.kept (t':=tk) fun b o e=>bh _ e,BK _ lo (hi-lo).toNat,?_,fun b hb=> ?_,q⟩
 ·have e1:lo+((0:Nat):Int)*1=lo:=by simp
  have e2:(((hi-lo).toNat:Nat):Int)-((0:Nat):Int)=Builtin.Range.rangeSize lo hi 1:=by rw[rangeSize_one];split <;> omega
  show IsRangeIter _ _ (lo+((0:Nat):Int)*1) ((((hi-lo).toNat:Nat):Int)-((0:Nat):Int)) 1;rw[e1,e2];exact b0 _ rfl
 ·have e:b=(s.heap.push { cls:=.type "range",data:=.fields #[.int lo t,.int hi u,.int 1 v] }).objs.size:=by simpa using hb
  subst e;exact I1.fpOk (bj _) (I1.hok.fresh (bj _))
noncomputable def Py (ta:TA):TI:=fun σ H R=>ta σ H fun vs H1=>∃ j:Int,vs=[.int j]/\ -(2 ^ 62)<=j/\j<2 ^ 62/\R (Itr 0 j.toNat) H1
noncomputable def Px (ta:TA):TI:=fun σ H R=>ta σ H fun vs H1=>∃ i j:Int,vs=[.int i,.int j]/\(-(2 ^ 62)<=i/\i<2 ^ 62/\ -(2 ^ 62)<=j/\j<2 ^ 62)/\R (Itr i (j-i).toNat) H1
theorem DD (hg:Gl X "range") (hm:X.mg "range"=wf) (ha:PA X [a] ta) (hs:ar [a] X.env=[(false,eval a X.env)]:=by rfl):PI X tg (.Call (.Name "range" p) [a] [] pos) (Py ta):=by
 intro pins s σ H R I h;refine Call_ (rW I hg hm boot_range (ja (thn (ha pos pins s σ H _ I h) fun us s1 ⟨vs,H1,I1,r1,q1⟩=> ?_) hs rfl));obtain⟨j,e,q1,q2,q⟩:=q1;subst e;cases r1 with
 |cons r rr=>
  cases rr;obtain⟨t,rfl⟩:=r;exact call_range_1 (AX I1 (by omega) (by omega) q1 q2 (by simpa using q))
theorem DC (hg:Gl X "range") (hm:X.mg "range"=wf) (ha:PA X [a,b] ta) (hs:ar [a,b] X.env=[(false,eval a X.env),(false,eval b X.env)]:=by rfl) (hs2:ar [b] X.env=[(false,eval b X.env)]:=by rfl):
  PI X tg (.Call (.Name "range" p) [a,b] [] pos) (Px ta):=by
 intro pins s σ H R I h;refine Call_ (rW I hg hm boot_range (ja (thn (ha pos pins s σ H _ I h) fun us s1 ⟨vs,H1,I1,r1,q1⟩=> ?_) (by rw[hs,hs2]) (by rw[hs2];rfl)));obtain⟨i,j,e,⟨q1,q2,q3,q4⟩,q⟩:=q1;subst e;cases r1 with
 |cons r rr=>
  cases rr with
  |cons r' rr=>
   cases rr;obtain⟨t,rfl⟩:=r;obtain⟨t',rfl⟩:=r';exact call_range_2 (AX I1 q1 q2 q3 q4 q)
noncomputable def ON (wi:TI) (g:TG) (tb:TS):TS:=fun D σ H=>wi σ H fun J H1=>∃ W:Nat->Nat->St->Hp->Prop,(∃ m,W 0 m σ H1)/\∀ i m σ H,W i m σ H->
 (J.stop i H/\D.nx σ H)∨(J.go i H/\∃ N:St->Hp->Prop,(∀ σ' H',N σ' H'->∃ m',m'<m/\W (i+1) m' σ' H')/\∀ x H',J.yld i H x H'->g x σ H' fun σ2 H2=>tb { D with nx:=N,ct:=N,bk:=D.nx } σ2 H2)
noncomputable def wE (fp:List af) (h:cx):List (af×Obj):=fp.filterMap fun b=>(h.get? b).map fun o=>(b,o)
theorem jH (hb:b∈fp) (e:h.get? b=we o):(b,o)∈wE fp h:=jb.mpr ⟨b,hb,by rw[e];rfl⟩
theorem DU (hp:p∈wE fp h):p.1∈fp/\h.get? p.1=we p.2:=by
 obtain⟨b,hb,e⟩:=jb.mp hp;cases q:h.get? b with
 |none=>rw[q] at e;cases e
 |some o=>
  rw[q] at e;have e':(b,o)=p:=ce e;subst e';exact⟨hb,q⟩
theorem Inv.pinned (I:Inv X pins σ H s) (hf:∀ b∈fp,IX X pins H b) (ho:∀ b∈fp,∃ o,s.heap.get? b=we o/\∀ v,o.data≠ .cell v):Inv X (pins++wE fp s.heap) σ H s:=
 I.pins_of fun p hp=>(c6.mp hp).elim (fun z=>I.pin p (dq _ z)) fun z=>by
  obtain⟨hb,e⟩:=DU z;obtain⟨f0,f1,f2,_⟩:=hf p.1 hb;obtain⟨o,e',d⟩:=ho p.1 hb;rw[e] at e';cases e';exact⟨e,f0,f1,f2,d⟩
theorem Inv.unpinned (I:Inv X (pins++pl) σ H s):Inv X pins σ H s:=I.pins_of fun p hp=>I.pin p (dq _ (d4 _ hp))
theorem Ix (hp:PassesOwn (model X.prog X.w) X.A X.env X.xe) (hc:X.calm=true) (hi:PI X tg iter wi) (hg:PG X tg g) (hb:PSs X body tb)
  (hs:∀ x,f7 iter X.env x=pure x:=by intro _;rfl):PS X (.For tg iter body [] pos) (ON wi g tb):=by
 intro pins s σ H D I h;refine wpAny_For (thn (hi pins s σ H _ I h) fun v s1 h1=>thn h1 fun itv s2 h2=> ?_) hs;obtain⟨it,fp,tn,J,H2,e,I2,T,st2,f2,W,⟨m0,w0⟩,turn⟩:=h2;subst e
 -- what stays true of the iterator's objects through the loop
 have stat:∀ {H':Hp},(∀ b∈fp,H' b=wf)->∀ b∈fp,IX X pins H' b:=fun hn b hb=>⟨hn b hb,(f2 b hb).2⟩;refine codeAny_forLoop_any (fun n s'=>∃ i σ' H',Inv X pins σ' H' s'/\tn i s'.heap/\(∀ b∈fp,H' b=wf)/\W i n σ' H') ?_ m0 ⟨0,σ,H2,I2,st2,fun b hb=>(f2 b hb).1,w0⟩;rintro n s3 ⟨i,σ3,H3,I3,st3,fr3,w3⟩;rcases turn i n σ3 H3 w3 with⟨stop,qn⟩|⟨go,N,hN,step⟩
 ·refine lm hp (thn (T.done X rfl rfl rfl hc i pins s3 σ3 H3 X.xe I3 (stat fr3) st3 stop) fun r s4 ⟨hr,I4⟩=> ?_);subst hr;exact n5 ⟨σ3,H3,I4,qn⟩
 ·refine lm hp (thn (T.item X rfl rfl rfl hc i pins s3 σ3 H3 X.xe I3 (stat fr3) st3 go) fun r s4 ⟨u,hr,h4⟩=> ?_);subst hr;refine lm hp (thn h4 fun _ s5 ⟨x,H5,I5,r5,y5,st5,fr5⟩=> ?_);have I5':=I5.pinned (stat fr5) (T.obj _ _ st5);refine lm hp (thn (hg _ s5 σ3 H5 x u _ I5' r5 (step x H5 y5)) fun _ s6 ⟨σ6,H6,I6,q6⟩=> ?_);refine lm hp (thn (hb _ s6 σ6 H6 _ I6 q6) fun f s7 q7=> ?_);have again:∀ {σ7:St}{H7:Hp},Inv X (pins++wE fp s5.heap) σ7 H7 s7->N σ7 H7->∃ m,m<n/\∃ i σ' H',Inv X pins σ' H' s7/\tn i s7.heap/\(∀ b∈fp,H' b=wf)/\W i m σ' H':=fun {σ7 H7} I7 n7=>by
   obtain⟨m',hm,w7⟩:=hN σ7 H7 n7;refine⟨m',hm,i+1,σ7,H7,I7.unpinned,T.keep _ _ _ st5 fun b hb o e=>(I7.pin (b,o) (dq _ (dq _ (jH hb e)))).1,fun b hb=> ?_,w7⟩;obtain⟨o,e,d⟩:=T.obj _ _ st5 b hb;exact(I7.pin (b,o) (dq _ (dq _ (jH hb e)))).2.1
  cases f with
  |next=>obtain⟨σ7,H7,I7,n7⟩:=q7;exact again I7 n7
  |cont=>obtain⟨σ7,H7,I7,n7⟩:=q7;exact again I7 n7
  |brk=>obtain⟨σ7,H7,I7,q7⟩:=q7;exact⟨σ7,H7,I7.unpinned,q7⟩
  |ret v=>obtain⟨x7,σ7,H7,I7,r7,q7⟩:=q7;exact⟨x7,σ7,H7,I7.unpinned,r7,q7⟩
end
end L2
namespace L2
noncomputable abbrev R2:=V->V->Hp->VK->Prop
noncomputable def OpR (X:Cx) (f:ai->ai->Sem ai) (r:R2):Prop:=
 ∀(pins:List (af×Obj)) (s:aq) (σ:St) (H:Hp) (x y:V) (v u:ai) (Q:VK),Inv X pins σ H s->RelV x v->RelV y u->r x y H Q->
  bf (model X.prog X.w) X.A (f v u) (EP X pins σ Q) X.xe s
noncomputable def UnR (X:Cx) (f:ai->Sem ai) (r:V->Hp->VK->Prop):Prop:=
 ∀(pins:List (af×Obj)) (s:aq) (σ:St) (H:Hp) (x:V) (v:ai) (Q:VK),Inv X pins σ H s->RelV x v->r x H Q->
  bf (model X.prog X.w) X.A (f v) (EP X pins σ Q) X.xe s
noncomputable def CallR (X:Cx) (f:ai) (r:List V->Hp->VK->Prop):Prop:=
 ∀(pins:List (af×Obj)) (s:aq) (σ:St) (H:Hp) (xs:List V) (us:List ai) (Q:VK),Inv X pins σ H s->Vals xs us->r xs H Q->
  bf (model X.prog X.w) X.A (call f us) (EP X pins σ Q) X.xe s
noncomputable def Rk (X:Cx) (r:V->Hp->(Bool->Hp->Prop)->Prop):Prop:=
 ∀(pins:List (af×Obj)) (s:aq) (σ:St) (H:Hp) (x:V) (v:ai) (Q:Bool->Hp->Prop),Inv X pins σ H s->RelV x v->r x H Q->
  bf (model X.prog X.w) X.A (truthy v) (TP X pins σ Q) X.xe s
noncomputable def tOp (r:R2) (ta tb:TE):TE:=fun σ H Q=>ta σ H fun x H1=>tb σ H1 fun y H2=>r x y H2 Q
noncomputable def tUn (r:V->Hp->VK->Prop) (ta:TE):TE:=fun σ H Q=>ta σ H fun x H1=>r x H1 Q
noncomputable def rI (C:Int->Int->Prop) (g:Int->Int->V):R2:=fun x y H Q=>∃ i j,x=.int i/\y=.int j/\C i j/\Q (g i j) H
noncomputable def rI0 (g:Int->Int->V):R2:=fun x y H Q=>∃ i j,x=.int i/\y=.int j/\Q (g i j) H
noncomputable def rU (g:Int->V):V->Hp->VK->Prop:=fun x H Q=>∃ i,x=.int i/\Q (g i) H
section
variable {X:Cx}{a b c:bw}{ta tb tc:TE}{pos:Pos}
theorem PV (ha:PE X a ta) (hb:PE X b tb) {R:V->V->Hp->Prop} (I:Inv X pins σ H s)
  (h:ta σ H fun x H1=>tb σ H1 fun y H2=>R x y H2) {f:ai->ai->Sem ai}
  (hf:∀ v u s2 x y H2,Inv X pins σ H2 s2->RelV x v->RelV y u->R x y H2->bf (model X.prog X.w) X.A (f v u) Q X.xe s2):
  bf (model X.prog X.w) X.A (eval a X.env) (fun v s₁=>bf (model X.prog X.w) X.A (eval b X.env) (fun u s₂=>bf (model X.prog X.w) X.A (f v u) Q X.xe s₂) X.xe s₁) X.xe s:=by
 refine thn (ha pins s σ H _ I h) fun v s1 ⟨x,H1,I1,r1,q1⟩=> ?_;refine thn (hb pins s1 σ H1 _ I1 q1) fun u s2 ⟨y,H2,I2,r2,q2⟩=> ?_;exact hf v u s2 x y H2 I2 r1 r2 q2
theorem Pe (ho:OpR X (kc op) r) (ha:PE X a ta) (hb:PE X b tb):PE X (.BinOp a op b pos) (tOp r ta tb):=by
 intro pins s σ H Q I h;exact wpAny_BinOp (PV ha hb I h fun v u s2 x y H2 I2 rx ry q=>ho pins s2 σ H2 x y v u Q I2 rx ry q)
theorem Pd (ho:UnR X (unaryOp op) r) (ha:PE X a ta):PE X (.UnaryOp op a pos) (tUn r ta):=by
 intro pins s σ H Q I h;exact UnaryOp_ (thn (ha pins s σ H _ I h) fun v s1 ⟨x,H1,I1,r1,q1⟩=>ho pins s1 σ H1 x v Q I1 r1 q1)
theorem opI {g:Int->Int->Int}
  (rule:∀(i j:Int) (t u:Tok) (s:aq) (Q:ai->aq->Prop) (E:ai->aq->Prop),C i j->Q (.int (g i j) s.toks) { s with toks:=s.toks+1 }->bf (model X.prog X.w) X.A (f (.int i t) (.int j u)) Q E s):
  OpR X f (rI C fun i j=>.int (g i j)):=by
 intro pins s σ H x y v u Q I rx ry h;obtain⟨i,j,rfl,rfl,hc,q⟩:=h;obtain⟨t,rfl⟩:=rx;obtain⟨t',rfl⟩:=ry;exact rule i j t t' s _ _ hc ⟨.int (g i j),H,I.tok _,⟨_,rfl⟩,q⟩
theorem Qr {g:Int->Int->Int}
  (rule:∀(i j:Int) (t u:Tok) (s:aq) (Q:ai->aq->Prop) (E:ai->aq->Prop),Q (.int (g i j) s.toks) { s with toks:=s.toks+1 }->bf (model X.prog X.w) X.A (f (.int i t) (.int j u)) Q E s):
  OpR X f (rI0 fun i j=>.int (g i j)):=by
 intro pins s σ H x y v u Q I rx ry h;obtain⟨i,j,rfl,rfl,q⟩:=h;obtain⟨t,rfl⟩:=rx;obtain⟨t',rfl⟩:=ry;exact rule i j t t' s _ _ ⟨.int (g i j),H,I.tok _,⟨_,rfl⟩,q⟩
theorem Pp {g:Int->Int->Bool}
  (rule:∀(i j:Int) (t u:Tok) (s:aq) (Q:ai->aq->Prop) (E:ai->aq->Prop),Q (.bool (g i j)) s->bf (model X.prog X.w) X.A (f (.int i t) (.int j u)) Q E s):
  OpR X f (rI0 fun i j=>.bl (g i j)):=by
 intro pins s σ H x y v u Q I rx ry h;obtain⟨i,j,rfl,rfl,q⟩:=h;obtain⟨t,rfl⟩:=rx;obtain⟨t',rfl⟩:=ry;exact rule i j t t' s _ _ ⟨.bl (g i j),H,I,rfl,q⟩
noncomputable def Rn (i j:Int):Prop:=0<j/\j<1073741824
noncomputable def CMul (i j:Int):Prop:=(-(2 ^ 64)<i/\i<2 ^ 64)∨(-(2 ^ 64)<j/\j<2 ^ 64)
theorem CMul.ok (h:CMul i j):IntMulOk i j:=by
 rcases h with⟨h1,h2⟩|⟨h1,h2⟩
 ·exact .of_left (intBits_le_64 h1 h2)
 ·exact .of_right (intBits_le_64 h1 h2)
theorem Nb:OpR X (kc .Add) (rI0 fun i j=>.int (i+j)):=Qr fun _ _ _ _ _ _ _ q=>add_int q
theorem MR:OpR X (kc .Sub) (rI0 fun i j=>.int (i-j)):=Qr fun _ _ _ _ _ _ _ q=>sub_int q
theorem MU:OpR X (kc .Mult) (rI CMul fun i j=>.int (i*j)):=opI fun _ _ _ _ _ _ _ hc q=>mul_int q hc.ok
theorem JP:OpR X (kc .FloorDiv) (rI Rn fun i j=>.int (i / j)):=opI fun i j _ _ _ _ _ hc q=>by
 have h1:(0:Int)<j:=hc.1;have h2:j<1073741824:=hc.2;exact floordiv_int (by omega) (by rw[Int.fdiv_eq_ediv_of_nonneg i (by omega)];exact q) (.inl (PyProof.noPylong_small (by omega)))
theorem MV:OpR X (kc .Mod) (rI (fun _ j=>0<j) fun i j=>.int (i % j)):=opI fun i j _ _ _ _ _ hc q=>by
 have h1:(0:Int)<j:=hc;exact mod_int' (by omega) (by rw[Int.fmod_eq_emod_of_nonneg i (by omega)];exact q)
theorem unI {g:Int->Int}
  (rule:∀(i:Int) (t:Tok) (s:aq) (Q:ai->aq->Prop) (E:ai->aq->Prop),Q (.int (g i) s.toks) { s with toks:=s.toks+1 }->bf (model X.prog X.w) X.A (f (.int i t)) Q E s):
  UnR X f (rU fun i=>.int (g i)):=by
 intro pins s σ H x v Q I rx h;obtain⟨i,rfl,q⟩:=h;obtain⟨t,rfl⟩:=rx;exact rule i t s _ _ ⟨.int (g i),H,I.tok _,⟨_,rfl⟩,q⟩
theorem LI:UnR X (unaryOp .USub) (rU fun i=>.int (-i)):=unI fun _ _ _ _ _ q=>neg_int q
end
section
variable {X:Cx}{a b c:bw}{ta tb tc:TE}{pos:Pos}
theorem NY (I:Inv X pins σ H s) (q:Q (.bl k) H) (e:k=k'):EP X pins σ Q (.bool k') s:=by
 subst e;exact⟨.bl k,H,I,rfl,q⟩
theorem MW:OpR X (fw .Lt) (rI0 fun i j=>.bl (decide (i<j))):=Pp fun _ _ _ _ _ _ _ q=>vg q
theorem MX:OpR X (fw .LtE) (rI0 fun i j=>.bl (decide (i<=j))):=Pp fun _ _ _ _ _ _ _ q=>le_int q
theorem MZ:OpR X (fw .Gt) (rI0 fun i j=>.bl (decide (j<i))):=Pp fun _ _ _ _ _ _ _ q=>gt_int q
theorem IH:OpR X (fw .Is) (fun x y H Q=>y=.non/\Q (.bl (decide (x=.non))) H):=by
 intro pins s σ H x y v u Q I rx ry h;obtain⟨rfl,q⟩:=h;cases ry;refine is_none_gen (NY I q ?_);cases x <;> first
  |(cases rx;rfl)
  |(obtain⟨t,rfl⟩:=rx;rfl)
theorem kY (b:bw) (h:op≠ .In:=by decide) (h2:op≠ .NotIn:=by decide):i4 op b=false:=by
 have e1:(op==CmpOp.In)=false:=by cases op <;> first|rfl|exact absurd rfl h
 have e2:(op==CmpOp.NotIn)=false:=by cases op <;> first|rfl|exact absurd rfl h2
 cases b <;> simp[i4,e1,e2]
theorem JB (ho:OpR X (fw op) r) (ha:PE X a ta) (hb:PE X b tb) (hm:i4 op b=false):PE X (.Compare a [op] [b] pos) (tOp r ta tb):=by
 intro pins s σ H Q I h;exact wpAny_Compare1 (PV ha hb I h fun v u s2 x y H2 I2 rx ry q=>ho pins s2 σ H2 x y v u Q I2 rx ry q) hm
noncomputable def LN (t:TE):TT:=fun σ H Q=>t σ H fun x H'=>∃ k,x=.bl k/\Q k H'
theorem Jm (ho:OpR X (fw op) r) (ha:PE X a ta) (hb:PE X b tb) (hm:i4 op b=false):PT X (.Compare a [op] [b] pos) (LN (tOp r ta tb)):=by
 intro pins s σ H Q I h;refine rc (thn (ha pins s σ H _ I h) fun v s1 ⟨x,H1,I1,r1,q1⟩=>thn (hb pins s1 σ H1 _ I1 q1) fun u s2 ⟨y,H2,I2,r2,q2⟩=>
  thn (ho pins s2 σ H2 x y v u _ I2 r1 r2 q2) fun c s3 ⟨z,H3,I3,r3,k,e,q3⟩=> ?_) hm
 subst e;cases r3;exact di ⟨H3,I3,q3⟩
noncomputable def LR (r r':R2) (ta tb tc:TE):TE:=fun σ H Q=>ta σ H fun x H1=>tb σ H1 fun y H2=>r x y H2 fun z H3=>∃ k,z=.bl k/\
 (if k=true then tc σ H3 fun w' H4=>r' y w' H4 Q else Q (.bl false) H3)
theorem Go (ho:OpR X (fw op) r) (ho':OpR X (fw op') r') (ha:PE X a ta) (hb:PE X b tb) (hc:PE X c tc)
  (hm:lastMarks [op,op'] [b,c]=false:=by with_unfolding_all rfl):PT X (.Compare a [op,op'] [b,c] pos) (LN (LR r r' ta tb tc)):=by
 intro pins s σ H Q I h;refine isTrue_chain (thn (ha pins s σ H _ I h) fun v s1 ⟨x,H1,I1,r1,q1⟩=>test_link (thn (hb pins s1 σ H1 _ I1 q1) fun u s2 ⟨y,H2,I2,r2,q2⟩=>
  thn (ho pins s2 σ H2 x y v u _ I2 r1 r2 q2) fun d s3 ⟨z,H3,I3,r3,k,e,q3⟩=> ?_)) hm
 subst e;cases r3;refine di ?_;cases k with
 |false=>
  obtain⟨k',e',q'⟩:=q3;cases e';exact ite_ff ⟨H3,I3,q'⟩
 |true=>
  refine ite_tt (test_last (thn (hc pins s3 σ H3 _ I3 q3) fun w' s4 ⟨z',H4,I4,r4,q4⟩=>thn (ho' pins s4 σ H4 y z' u w' _ I4 r2 r4 q4) fun d' s5 ⟨z2,H5,I5,r5,k2,e2,q5⟩=> ?_));subst e2;cases r5;exact di ⟨H5,I5,q5⟩
noncomputable def PX (K:aa) (x:V) (H:Hp) (k:Bool):Prop:=
 match x with
 |.non=>k=false
 |.bl b=>k=b
 |.int i=>k=(i !=0)
 |.str y=>y.length<=sizeLine/\k=((y.length:Int) !=0)
 |.byt y=>y.size<=sizeLine/\k=((y.size:Int) !=0)
 |.ref p=>(∃ xs,SqL K H p xs/\k= !xs.isEmpty)∨(∃ xs,SqT K H p xs/\k= !xs.isEmpty)∨∃ kvs,H p=we (.dK kvs)/\k= !kvs.isEmpty
 |_=>False
theorem Ck {vs:List (κ×ai)} (r:KV kvs vs):(!vs.isEmpty)= !kvs.isEmpty:=by
 cases r <;> rfl
theorem rX (r:Vals xs its):(!its.toArray.isEmpty)= !xs.isEmpty:=by
 cases r <;> simp
theorem rT:(sizeLine:Nat)<2 ^ 63:=by rw[b8];decide
theorem tru_ok:Rk X (fun x H Q=>∃ k,PX X.K x H k/\Q k H):=by
 intro pins s σ H x v Q I rx h;obtain⟨k,e,q⟩:=h;have hl:=rT;have hs:sizeLine=16777216:=b8;cases x with
 |non=>
  cases rx;have e':k=false:=e;subst e';exact truthy_none ⟨H,I,q⟩
 |bl b=>
  cases rx;have e':k=b:=e;subst e';exact di ⟨H,I,q⟩
 |int i=>
  obtain⟨t,rfl⟩:=rx;have e':k=(i !=0):=e;subst e';exact PySem.P.truthy_int ⟨H,I,q⟩
 |str y=>
  obtain⟨t,rfl⟩:=rx;obtain⟨hy,e'⟩:y.length<=sizeLine/\k=((y.length:Int) !=0):=e;subst e';exact PySem.P.truthy_str (by omega) ⟨H,I.tok _,q⟩
 |byt y=>
  obtain⟨t,rfl⟩:=rx;obtain⟨hy,e'⟩:y.size<=sizeLine/\k=((y.size:Int) !=0):=e;subst e';exact PySem.W.truthy_bytes (by omega) ⟨H,I.tok _,q⟩
 |ref p=>
  cases rx;have e':(∃ xs,SqL X.K H p xs/\k= !xs.isEmpty)∨(∃ xs,SqT X.K H p xs/\k= !xs.isEmpty)∨∃ kvs,H p=we (.dK kvs)/\k= !kvs.isEmpty:=e;rcases e' with⟨xs,hx,e'⟩|⟨xs,hx,e'⟩|⟨kvs,hx,e'⟩
  ·subst e';obtain⟨its,r,pl,hz⟩:=I.list hx;have hlen:=r.length;exact wpAny_truthy_list pl.isList (by simp only[bg];omega) ⟨H,I.tok _,by rw[rX r];exact q⟩
  ·subst e';obtain⟨its,r,pl,hz⟩:=I.tuple hx;have hlen:=r.length;exact truthy_tuple pl (by simp only[bg];omega) ⟨H,I.tok _,by rw[rX r];exact q⟩
  ·subst e';obtain⟨hz,hS,vs,r,m⟩:kvs.length<=sizeLine/\(p==eu)=false/\∃ vs,KV kvs vs/\s.heap.DictOf (aI X.prog X.w) p vs:=I.hok p _ hx;have hlen:kvs.length=vs.length:=iz r;exact wpAny_truthy_dict hS m (by omega) ⟨H,I.tok _,by rw[Ck r];exact q⟩
 |_=>exact(show False from e).elim
theorem Gn (ha:PE X a ta) (he:∀ whole,isTrue a X.env whole=(do let v <- whole;mh a.pos;holding [v] (truthy v))):
  PT X a (fun σ H Q=>ta σ H fun x H'=>∃ k,PX X.K x H' k/\Q k H'):=by
 intro pins s σ H Q I h;exact isTrue_plain (thn (ha pins s σ H _ I h) fun v s1 ⟨x,H1,I1,r1,q1⟩=>tru_ok pins s1 σ H1 x v Q I1 r1 q1) (he _)
theorem BY:OpR X (kc .Add) (fun x y H Q=>∃ i j,x=.str i/\y=.str j/\i.length+j.length<=sizeLine/\Q (.str (i++j)) H):=by
 intro pins s σ H x y v u Q I rx ry h;obtain⟨i,j,rfl,rfl,hz,q⟩:=h;obtain⟨t,rfl⟩:=rx;obtain⟨t',rfl⟩:=ry;exact add_str (fun t' tk=>⟨.str (i++j),H,I.tok _,⟨_,rfl⟩,q⟩) hz
theorem lQ (r:Vals [x] us):∃ u,us=[u]/\RelV x u:=by
 cases r with
 |cons r1 r2=>cases r2;exact⟨_,rfl,r1⟩
theorem CS (r:Vals [x,y] us):∃ u w',us=[u,w']/\RelV x u/\RelV y w':=by
 cases r with
 |cons r1 r2=>
  cases r2 with
  |cons r3 r4=>cases r4;exact⟨_,_,rfl,r1,r3⟩
theorem Fx (hc:X.calm=true):CallR X (.builtin "max") (fun xs H Q=>∃ i j,xs=[.int i,.int j]/\Q (.int (if j>i then j else i)) H):=by
 intro pins s σ H xs us Q I r h;obtain⟨i,j,rfl,q⟩:=h;obtain⟨u,w',rfl,⟨t,rfl⟩,⟨t',rfl⟩⟩:=CS r;refine max_two_ints (I.ok.hd hc) fun h' tk k=>⟨_,H,I.kept k,?_,q⟩
 by_cases hj:j>i
 ·rw[if_pos hj,if_pos hj];exact⟨_,rfl⟩
 ·rw[if_neg hj,if_neg hj];exact⟨_,rfl⟩
theorem Fw (hc:X.calm=true):CallR X (.builtin "min") (fun xs H Q=>∃ i j,xs=[.int i,.int j]/\Q (.int (if j<i then j else i)) H):=by
 intro pins s σ H xs us Q I r h;obtain⟨i,j,rfl,q⟩:=h;obtain⟨u,w',rfl,⟨t,rfl⟩,⟨t',rfl⟩⟩:=CS r;refine min_two_ints (I.ok.hd hc) fun h' tk k=>⟨_,H,I.kept k,?_,q⟩
 by_cases hj:j<i
 ·rw[if_pos hj,if_pos hj];exact⟨_,rfl⟩
 ·rw[if_neg hj,if_neg hj];exact⟨_,rfl⟩
theorem call_int1:CallR X (.type "int") (fun xs H Q=>(∃ i,xs=[.int i]/\Q (.int i) H)∨∃ k,xs=[.bl k]/\Q (.int (if k then 1 else 0)) H):=by
 intro pins s σ H xs us Q I r h;rcases h with⟨i,rfl,q⟩|⟨k,rfl,q⟩
 ·obtain⟨u,rfl,t,rfl⟩:=lQ r;exact call_int_int ⟨.int i,H,I,⟨_,rfl⟩,q⟩
 ·obtain⟨u,rfl,r1⟩:=lQ r;cases r1;exact call_int_bool ⟨.int (if k then 1 else 0),H,I.tok _,⟨_,rfl⟩,q⟩
noncomputable def Qe (K:aa) (x:V) (H:Hp) (n:Nat):Prop:=
 match x with
 |.str y=>y.length<=sizeLine/\n=y.length
 |.byt y=>y.size<=sizeLine/\n=y.size
 |.ref p=>(∃ xs,SqL K H p xs/\n=xs.length)∨∃ xs,SqT K H p xs/\n=xs.length
 |_=>False
theorem Ic:CallR X (.builtin "len") (fun xs H Q=>∃ x n,xs=[x]/\Qe X.K x H n/\Q (.int n) H):=by
 intro pins s σ H xs us Q I r h;obtain⟨x,n,rfl,e,q⟩:=h;obtain⟨u,rfl,rx⟩:=lQ r;have hl:=rT;have hs:sizeLine=16777216:=b8;cases x with
 |str y=>
  obtain⟨t,rfl⟩:=rx;obtain⟨hy,e'⟩:y.length<=sizeLine/\n=y.length:=e;subst e';exact len_str (by omega) ⟨.int _,H,I.tok _,⟨_,rfl⟩,q⟩
 |byt y=>
  obtain⟨t,rfl⟩:=rx;obtain⟨hy,e'⟩:y.size<=sizeLine/\n=y.size:=e;subst e';exact PySem.W.len_bytes (by omega) ⟨.int _,H,I.tok _,⟨_,rfl⟩,q⟩
 |ref p=>
  cases rx;have e':(∃ xs,SqL X.K H p xs/\n=xs.length)∨∃ xs,SqT X.K H p xs/\n=xs.length:=e;rcases e' with⟨xs,hx,e'⟩|⟨xs,hx,e'⟩
  ·subst e';obtain⟨its,r',pl,hz⟩:=I.list hx;have hlen:=r'.length;exact Calls.call_len_list pl.isList (by simp only[bg];omega) ⟨.int xs.length,H,I.tok _,⟨_,by simp only[bg];rw[hlen]⟩,q⟩
  ·subst e';obtain⟨its,r',pl,hz⟩:=I.tuple hx;have hlen:=r'.length;exact len_tuple pl (by simp only[bg];omega) ⟨.int xs.length,H,I.tok _,⟨_,by simp only[bg];rw[hlen]⟩,q⟩
 |_=>exact(show False from e).elim
end
end L2
namespace L2
structure ObjM (h:cx) (x dx C:af) (mA:Str->Option ai):Prop where
 obj:h.get? x=we (ir C dx)
 ns:h.Ns1 dx mA
 ne:dx≠x
theorem Ek {h:cx} (n:h.Ns1 dx mA):∃ od,h.get? dx=we od/\∀ name,oq name od=we (mA name):=by
 obtain⟨o,es,ep,ho,hd,hk,_,hm⟩:=n;refine⟨o,ho,fun name=> ?_⟩;have e:=hm name;unfold nsFind findBy at e;rw[<- Array.find?_toList] at e;unfold oq;rw[hd];dsimp only;split
 ·rename_i y q
  rw[q] at e;exact congrArg we e
 ·rename_i q
  rw[q] at e;have a:es.toList.any (·.refKey)=false:=by
   rw[List.any_eq_false];intro y hy;obtain⟨z,t,hkey⟩:=hk y (Array.mem_toList_iff.mp hy);simp[DictEntry.refKey,hkey]
  have a':¬ es.toList.any (·.refKey)=true:=by rw[a];exact ck
  rw[if_neg a'];exact congrArg we e
theorem ObjM.look (I:ObjM h x dx C mA):∃ od,PySem.W.InstAt h x (ir C dx) C (we od)/\∀ name,oq name od=we (mA name):=
 let ⟨od,ho,hl⟩:=Ek I.ns
 ⟨od,⟨I.obj,rfl,rfl,ho⟩,hl⟩
section
variable {prog:da}{w:df}{A:dh}{E:ai->aq->Prop}{s:aq}{K:aa}{x dx C f:af}{mA:Str->Option ai}{name:Str}{v:ai}
theorem KN (X:K.In s.heap) (I:ObjM s.heap x dx C mA) (hg:m7 K C name=true) (hh:ph K C=true)
  (ha:gz K (.ref C) name=we wf) (hv:mA name=we v) (hv':u7 v=true) (h:Q v { s with toks:=s.toks+1 }):
  bf (model prog w) A (getAttr (.ref x) name expr) Q E s:=by
 obtain⟨od,J,hl⟩:=I.look;exact PySem.W.get_value X J (om hg).1 (PySem.W.findObj_own hh ha rfl (by rw[hl,hv])) hv' h
theorem Hm (X:K.In s.heap) (I:ObjM s.heap x dx C mA) (hg:m7 K C name=true)
  (hf:gz K (.ref C) name=we (we (.ref f))) (ht:n8 K (.ref f)=true) (hv:mA name=wf) (h:Q (.ref f,[.ref x]) s):
  bf (model prog w) A (l0 (.ref x) name pl) Q E s:=by
 obtain⟨od,J,hl⟩:=I.look;exact PySem.W.method_fn X J (om hg).1 (om hg).2 hf (beq_iff_eq.mp ht) (by show(oq name od).map (·.isSome)=we false;rw[hl,hv];rfl) h
theorem Jf (X:K.In s.heap) (I:ObjM s.heap x dx C mA)
  (hs:gz K (.ref C) "__setattr__"=we (we (.builtin "object.__setattr__"))) (hp:ut K C=true) (ht:qj K C name=we wf) (hh:ph K C=true)
  (hw:t4 mA ns) (hsz:ns.length<=sizeLine)
  (h:∀ h',ObjM h' x dx C (fun y=>if y=name then we v else mA y)->fg dx s.heap h'->Q () { s with heap:=h',toks:=s.toks+2 }):
  bf (model prog w) A (setAttr (.ref x) name v) Q E s:=by
 obtain⟨od,J,hl⟩:=I.look;refine PySem.W.set_plain X J hs (PySem.W.osa_open (s:={ s with toks:=s.toks+1 }) (r:=wf) X J hp ht fun b=> ?_);obtain⟨cd,hc,hd'⟩:=PySem.W.any_some hh;have hx:s.heap.get? x=we ⟨.ref C,we dx,.plain,#[]⟩:=I.obj;refine ae (ao (ae (ae (wpAny_loadPart hx (ae (PySem.W.Looks.here (s:={ s with toks:=s.toks+1 }) (PySem.W.looks_clsIn X hc) ?_))))));rw[hd'];refine ao (a:=we dx) (ae (ao (ae ?_)));refine wpAny_nsSet1 (s:={ s with toks:=s.toks+1 }) I.ns fun h' hn2 hs2=> ?_;obtain⟨oD,esD,epD,hoD,hdD,hcD⟩:=hn2.count (PySem.Within.cons name v hw);refine ae (wpAny_lookBehind hoD (by rw[hdD];exact pastItsLine_dict (ci hcD (by rw[bv];omega))) ?_);exact ao (h _ ⟨(hs2.2 _ (cy I.ne)).trans I.obj,hn2,I.ne⟩ hs2)
theorem GT (X:K.In s.heap) (hm:qk K C=true)
  (hi:gz K (.ref C) "__init__"=we (we (.ref f))) (hf:PySem.W.typeIn K (.ref f)=we (.type "function"))
  (h:nu (model prog w) (A.under (.builtin "type.__call__" ⟨.ref C::vs,kw⟩)) (.call (.ref f) ⟨.ref (s.heap.objs.size+1)::vs,kw⟩) (PySem.W.InitBack (s.heap.objs.size+1) R)
   { s with heap:=(s.heap.push g7).push (ir C s.heap.objs.size) }):
  nu (model prog w) A (.call (.ref C) ⟨vs,kw⟩) R s:=by
 obtain⟨hh,g,d,t,os⟩:=s;exact PySem.W.make_core (PySem.W.makes_of X hm) (PySem.W.looks_findIn X hi) (fun self=>PySem.W.bind_fn X self hf) (.inl rfl) h
end
noncomputable def putF (f:Str) (v:V):List (Str×V)->List (Str×V)
 |[]=>[(f,v)]
 |(g,x)::r=>if g=f then(g,v)::r else(g,x)::putF f v r
theorem oS (f g:Str) (v:V):∀ fs:List (Str×V),(putF f v fs).lookup g=if g=f then we v else fs.lookup g
 |[]=>by
  show jt g [(f,v)]=_
  by_cases h:g=f
  ·have hb:(g==f)=true:=beq_iff_eq.mpr h;simp only[jt,hb,if_pos h]
  ·have hb:(g==f)=false:=beq_eq_false_iff_ne.mpr h;simp only[jt,hb,if_neg h]
 |(k,x)::r=>by
  have ih:=oS f g v r;rw[show putF f v ((k,x)::r)=(if k=f then(k,v)::r else(k,x)::putF f v r) from rfl]
  by_cases hk:k=f
  ·rw[if_pos hk]
   by_cases h:g=k
   ·have hb:(g==k)=true:=beq_iff_eq.mpr h;simp only[jt,hb,if_pos (h.trans hk)]
   ·have hb:(g==k)=false:=beq_eq_false_iff_ne.mpr h;simp only[jt,hb,if_neg (fun e:g=f=>h (e.trans hk.symm))]
  ·rw[if_neg hk]
   by_cases h:g=k
   ·have hb:(g==k)=true:=beq_iff_eq.mpr h;simp only[jt,hb,if_neg (fun e:g=f=>hk (h.symm.trans e))]
   ·have hb:(g==k)=false:=beq_eq_false_iff_ne.mpr h;simp only[jt,hb];exact ih
theorem oV (f:Str) (v:V):∀ fs:List (Str×V),f∈(putF f v fs).map (·.1)/\∀ g,g∈fs.map (·.1)->g∈(putF f v fs).map (·.1)
 |[]=>⟨by simp[putF],fun g h=>by simp at h⟩
 |(k,x)::r=>by
  obtain⟨i1,i2⟩:=oV f v r;rw[show putF f v ((k,x)::r)=(if k=f then(k,v)::r else(k,x)::putF f v r) from rfl]
  by_cases hk:k=f
  ·rw[if_pos hk];subst hk;exact⟨by simp,fun g h=>by simpa using h⟩
  ·rw[if_neg hk];refine⟨?_,fun g h=> ?_⟩
   ·rw[bp];exact aj _ i1
   ·rw[bp] at h ⊢;rcases ak.mp h with e|e
    ·exact ak.mpr (.inl e)
    ·exact aj _ (i2 g e)
theorem oU (f:Str) (v:V):∀ fs:List (Str×V),(putF f v fs).length<=fs.length+1
 |[]=>by simp[putF]
 |(k,x)::r=>by
  have ih:=oU f v r;rw[show putF f v ((k,x)::r)=(if k=f then(k,v)::r else(k,x)::putF f v r) from rfl]
  by_cases hk:k=f
  ·rw[if_pos hk,bv,bv];omega
  ·rw[if_neg hk,bv,bv];omega
theorem RelO.some_of (r:RelO (we v) o):∃ u,o=we u/\RelV v u:=by
 cases o with
 |none=>exact(show False from r).elim
 |some u=>exact⟨u,rfl,r⟩
theorem RelO.none_of (r:RelO wf o):o=wf:=by
 cases o with
 |none=>rfl
 |some u=>exact(show False from r).elim
theorem Ez (r:RelV v u):u7 u=true:=by
 cases v with
 |non=>cases (show u=hW from r);rfl
 |bl b=>cases (show u=se b from r);rfl
 |int i=>obtain⟨t,e⟩:=(show ∃ t,u=tw i t from r);cases e;rfl
 |str x=>obtain⟨t,e⟩:=(show ∃ t,u=tz x t from r);cases e;rfl
 |byt b=>obtain⟨t,e⟩:=(show ∃ t,u=Value.bytes b t from r);cases e;rfl
 |flt b=>obtain⟨t,e⟩:=(show ∃ t,u=Value.float b t from r);cases e;rfl
 |ref a=>cases (show u=b9 a from r);rfl
 |ty n=>cases (show u=jn n from r);rfl
section
variable {P:da}{w:df}{H H':Hp}{h h':cx}{a C dx:af}{fs fs':List (Str×V)}
theorem zG (hok:HOk P w H h) (e:H a=we (.ins C dx fs)):∃ mA,ObjM h a dx C mA/\(∀ f,RelO (fs.lookup f) (mA f))/\t4 mA (fs.map (·.1))/\fs.length<=1000/\H dx=we (.own a):=by
 obtain⟨d,z,ne,ob,mA,n,r,q⟩:=(show ObjOk P w H h a (.ins C dx fs) from hok a _ e);exact⟨mA,⟨ob,n,ne⟩,r,q,z,d⟩
end
structure Cls (K:aa) (C:af):Prop where
 pg:m7 K C Str.empty=true
 hd:ph K C=true
 po:ut K C=true
 sa:gz K (.ref C) "__setattr__"=we (we (.builtin "object.__setattr__"))
theorem Cls.get {K:aa} (c:Cls K C) (f:Str):m7 K C f=true:=c.pg
noncomputable def NoAttr (K:aa) (C:af) (f:Str):Prop:=gz K (.ref C) f=we wf
theorem NoAttr.taker {K:aa} (n:NoAttr K C f):qj K C f=we wf:=by
 unfold qj;rw[show gz K (.ref C) f=we wf from n];rfl
structure Iq (K:aa) (C:af) (m:Str) (f:af):Prop where
 at_:gz K (.ref C) m=we (we (.ref f))
 fn:n8 K (.ref f)=true
 kp:ga K (.ref f)=true
section
variable {X:Cx}{pins:List (af×Obj)}{σ:St}{H:Hp}{s:aq}{a C dx:af}{fs:List (Str×V)}{f:Str}{v:V}{A:dh}{E:ai->aq->Prop}
theorem Cq (I:Inv X pins σ H s) (e:H a=we (.ins C dx fs)) (c:Cls X.K C) (n:NoAttr X.K C f) (l:fs.lookup f=we v)
  (h:∀ u s',Inv X pins σ H s'->RelV v u->Q u s'):bf (model X.prog X.w) A (getAttr (.ref a) f b) Q E s:=by
 obtain⟨mA,O,r,_,_,_⟩:=zG I.hok e;obtain⟨u,hu,ru⟩:=RelO.some_of (v:=v) (o:=mA f) (by rw[<- l];exact r f);exact KN I.kIn O (c.get f) c.hd n hu (Ez ru) (h u _ (I.tok _) ru)
theorem sB (I:Inv X pins σ H s) (e:H a=we (.ins C dx fs)) (c:Cls X.K C) (k:Iq X.K C m g) (l:fs.lookup m=wf)
  (h:Q (.ref g,[.ref a]) s):bf (model X.prog X.w) A (l0 (.ref a) m pl) Q E s:=by
 obtain⟨mA,O,r,_,_,_⟩:=zG I.hok e;have hn:mA m=wf:=RelO.none_of (by rw[<- l];exact r m);exact Hm I.kIn O (c.get m) k.at_ k.fn hn h
theorem BO (I:Inv X pins σ H s) (e:H a=we (.ins C dx fs)) (c:Cls X.K C) (n:NoAttr X.K C f) (hl:fs.length<1000) (ry:RelV y u)
  (h:∀ s',Inv X pins σ (upd H a (.ins C dx (putF f y fs))) s'->Q () s'):bf (model X.prog X.w) A (setAttr (.ref a) f u) Q E s:=by
 obtain⟨mA,O,r,wi,_,ho⟩:=zG I.hok e;have hz:(fs.map (·.1)).length<=sizeLine:=by rw[av,b8];omega
 refine Jf I.kIn O c.sa c.po n.taker c.hd wi hz fun h' O' sb=>h _ ?_;have hd:∃ o,h'.get? dx=we o:=let ⟨o,_,_,e',_⟩:=O'.ns;⟨o,e'⟩;refine I.write (x:=a) (e:=dx) (by rw[e];exact gs) (.inr ho) (fun b q hb z=>(sb.2 b hb).trans z) hd ?_;refine⟨by rw[aE O.ne];exact ho,?_,O.ne,O'.obj,_,O'.ns,fun g=> ?_,fun g hg=> ?_⟩
 ·have:=oU f y fs;omega
 ·show RelO ((putF f y fs).lookup g) (if g=f then we u else mA g);rw[oS]
  by_cases q:g=f
  ·rw[if_pos q,if_pos q];exact ry
  ·rw[if_neg q,if_neg q];exact r g
 ·by_cases q:g=f
  ·rw[q];exact(oV f y fs).1
  ·refine(oV f y fs).2 g (wi g fun z=>hg ?_)
   show(if g=f then we u else mA g)=wf
   rw[if_neg q];exact z
theorem Inv.made (I:Inv X pins σ H s):Inv X pins σ (upd (upd H s.heap.objs.size (.own (s.heap.objs.size+1))) (s.heap.objs.size+1) (.ins C s.heap.objs.size []))
  { s with heap:=(s.heap.push g7).push (ir C s.heap.objs.size) }:=by
 have e1:(s.heap.push g7).get? s.heap.objs.size=we g7:=b0 s.heap rfl;have e2:((s.heap.push g7).push (ir C s.heap.objs.size)).get? (s.heap.objs.size+1)=we (ir C s.heap.objs.size):=by
  have:=b0 (s.heap.push g7) (o:=ir C s.heap.objs.size) rfl
  rwa [hZ] at this
 have e3:(s.heap.push g7).Ns s.heap.objs.size (fun _=>wf):=⟨g7,#[],_,e1,rfl,(fun e he=>absurd he (by simp)),fun _=>rfl⟩;have I1:=I.laid (a:=s.heap.objs.size) (o:=.own (s.heap.objs.size+1)) (h':=s.heap.push g7) (t':=s.toks) (fun b u q=>bh _ q) (bj _) ⟨_,e1⟩;refine I1.laid (a:=s.heap.objs.size+1) (o:=.ins C s.heap.objs.size []) (t':=s.toks) (fun b u q=>bh _ q) (t7 (hZ _ _)) ?_;have ne:s.heap.objs.size≠s.heap.objs.size+1:=cj (m8 _);refine⟨by rw[aE ne,aK],ip _,ne,e2,fun _=>wf,(Heap.Ns1.of_empty e3).at fun o q=>bh _ q,fun _=>gs,fun y hy=>absurd rfl hy⟩
theorem Lq (hb:gv e f env (eval e env)=eval e env)
  (h:bf (model prog w) A (eval e env) (fun o s₁=>bf (model prog w) A (getAttr o f true) Q E s₁) E s):bf (model prog w) A (eval (.Attribute e f pos) env) Q E s:=
 Attribute_any_ h (by rw[arm_eval_Attribute,hb])
end
noncomputable def QI (K:aa) (ta:TE) (f:Str):TE:=fun σ H Q=>ta σ H fun x H1=>∃ a C dx fs v,x=.ref a/\H1 a=we (.ins C dx fs)/\Cls K C/\NoAttr K C f/\fs.lookup f=we v/\Q v H1
noncomputable def QM (K:aa) (ta tv:TE) (f:Str):TS:=fun D σ H=>tv σ H fun y H1=>ta σ H1 fun x H2=>∃ a C dx fs,x=.ref a/\H2 a=we (.ins C dx fs)/\Cls K C/\NoAttr K C f/\fs.length<1000/\
 D.nx σ (upd H2 a (.ins C dx (putF f y fs)))
section
variable {X:Cx}{o e value:bw}{f:Str}{pos pos' tpos:Pos}{ta tv:TE}
theorem Mx (he:PE X e ta) (hb:gv e f X.env (eval e X.env)=eval e X.env):PE X (.Attribute e f pos) (QI X.K ta f):=by
 intro pins s σ H Q I h;refine Lq hb (thn (he pins s σ H _ I h) fun u s1 ⟨x,H1,I1,rx,a,C,dx,fs,v,ex,ea,c,n,l,q⟩=> ?_);subst ex;obtain rfl:u=b9 a:=rx;exact Cq I1 ea c n l fun u' s2 I2 ru=>⟨v,H1,I2,ru,q⟩
theorem Mm (ha:PE X o ta) (hv:PE X value tv) (hs:i9 value (we (.Attribute o f pos')) pos.line X.env=pure false):PS X (.Assign [.Attribute o f pos'] value pos) (QM X.K ta tv f):=by
 intro pins s σ H D I h;refine plainObj_wpAny_Assign_Attribute (thn (hv pins s σ H _ I h) fun u s1 ⟨y,H1,I1,ry,q⟩=>thn (ha pins s1 σ H1 _ I1 q) fun ov s2 ⟨x,H2,I2,rx,a,C,dx,fs,ex,ea,c,n,l,q2⟩=> ?_) hs;subst ex;obtain rfl:ov=b9 a:=rx;exact BO I2 ea c n l ry fun s3 I3=>⟨σ,_,I3,q2⟩
end
section
variable {X:Cx}{pins:List (af×Obj)}{σ:St}{H:Hp}{s:aq}{A:dh}{E:ai->aq->Prop}{Q:ai->aq->Prop}{c:ai}{b:Bool}
end
end L2
namespace L2
structure Room (k:Nat) (A:dh):Prop where
 hd:A.handled=wf
 dp:A.depth+3*k+5<recursionLimit
 un:A.units+16*k+200<dm
theorem Room.mono (r:Room k A) (h:j<=k):Room j A:=⟨r.hd,by have:=r.dp;omega,by have:=r.un;omega⟩
theorem Room.deeper (r:Room (k+1) A) (env:Env):Room k (A.deeper env):=
 ⟨r.hd,by have:=r.dp;show A.depth+1+3*k+5<_;omega,by have:=r.un;show A.units+3+16*k+200<_;omega⟩
theorem Ce {A:dh}:(A.under (.builtin "type.__call__" ⟨.ref C::us,kw⟩)).depth=A.depth+1:=by
 first|rfl|simp[t8,Code.weight,Code.isCreation,Code.isGuard,Code.isCaller,Code.frames,t9,guardIds]
theorem Cd {A:dh}:(A.under (.builtin "type.__call__" ⟨.ref C::us,kw⟩)).units=A.units+1:=by
 first|rfl|simp[t8,Code.cUnits,Code.frames,t9]
theorem Room.make (r:Room (k+1) A) (C:af) (us:List ai) (kw:List (Str×ai)):Room k (A.under (.builtin "type.__call__" ⟨.ref C::us,kw⟩)):=
 ⟨r.hd,by have:=r.dp;rw[Ce];omega,by have:=r.un;rw[Cd];omega⟩
theorem Room.depth (r:Room k A):A.depth<recursionLimit:=by have:=r.dp;omega
theorem Room.units (r:Room k A):A.units+64<dm:=by have:=r.un;omega
noncomputable def Qh:TA:=fun _ H Q=>Q [] H
noncomputable def OQ (ta:TE) (tr:TA):TA:=fun σ H Q=>ta σ H fun x H1=>tr σ H1 fun xs H2=>Q (x::xs) H2
section
variable {X:Cx}{e:bw}{es:List bw}{te:TE}{t:TA}{pos:Pos}
theorem rM:PA X [] Qh:=fun _ _ _ _ H Q I h=>Calls.spliced_nil ⟨[],H,I,.nil,h⟩
theorem gN (ha:PE X e te) (hr:PA X es t) (hs:ar (e::es) X.env=(false,eval e X.env)::ar es X.env:=by rfl):PA X (e::es) (OQ te t):=by
 intro pos pins s σ H Q I h;rw[hs];show bf _ _ (spliced ((false,eval e X.env)::de pos (ar es X.env))) _ _ s;refine Calls.spliced_cons (thn (ha pins s σ H _ I h) fun u s1 ⟨x,H1,I1,r1,q1⟩=> ?_);exact thn (hr pos pins s1 σ H1 _ I1 q1) fun us s2 ⟨xs,H2,I2,r2,q2⟩=>⟨x::xs,H2,I2,.cons r1 r2,q2⟩
noncomputable def QC (t:TA):TE:=fun σ H Q=>t σ H fun xs H1=>xs.length<=sizeLine/\∀ p,H1 p=wf->Q (.ref p) (upd H1 p (.tup xs))
noncomputable def QG (t:TA):TE:=fun σ H Q=>t σ H fun xs H1=>xs.length<=sizeLine/\∀ p,H1 p=wf->Q (.ref p) (upd H1 p (.lst xs))
theorem Iz (h:PA X es t):PE X (.Tuple es x1 pos) (QC t):=by
 intro pins s σ H Q I hq;refine wpAny_Tuple_spliced (thn (h pos pins s σ H _ I hq) fun us s1 ⟨xs,H1,I1,r,z,q⟩=>⟨by rw[<- r.length];exact z,?_⟩);have hf:H1 s1.heap.objs.size=wf:=I1.hok.fresh (bj _);refine⟨.ref s1.heap.objs.size,upd H1 s1.heap.objs.size (.tup xs),I1.laid (t':=s1.toks) (fun b u e=>bh _ e) (bj _) ?_,rfl,q _ hf⟩;exact⟨z,us,r,⟨_,b0 _ rfl,rfl,_,rfl⟩⟩
theorem IA (h:PA X es t):PE X (.List es pos) (QG t):=by
 intro pins s σ H Q I hq;refine wpAny_List_spliced (thn (h pos pins s σ H _ I hq) fun us s1 ⟨xs,H1,I1,r,z,q⟩=>⟨by rw[<- r.length];exact z,?_⟩);have hf:H1 s1.heap.objs.size=wf:=I1.hok.fresh (bj _);refine⟨.ref s1.heap.objs.size,upd H1 s1.heap.objs.size (.lst xs),I1.laid (t':=s1.toks) (fun b u e=>bh _ e) (bj _) ?_,rfl,q _ hf⟩;exact⟨z,us,0,r,b0 _ rfl⟩
end
noncomputable abbrev Sp:=List V->Hp->VK->XK->Prop
noncomputable abbrev CXT:=List Env->Hp->aq->XK->ai->aq->Prop
structure Env0 (P:da) (w:df) (K:aa) (mg:Str->Option ai) (base:cx) (A:dh) (outer:List Env) (s:aq) (H:Hp):Prop where
 frames:A.frames=we outer
 mod:Mod K mg base
 bs:∀ b o,base.get? b=we o->s.heap.get? b=we o/\H b=wf
 bsz:base.objs.size<=s.heap.objs.size
 funs:s.heap.FunFrames base outer
 frf:∀ b∈frs outer,H b=wf
 hok:HOk P w H s.heap
 bare:mf s.gens
noncomputable def CE (outer:List Env) (P:da) (w:df) (H:Hp) (s:aq) (Q:VK) (u:ai) (s':aq):Prop:=
 ∃ v H',s'.os=s.os/\mf s'.gens/\Un (frs outer) [] H H' s.heap s'.heap/\HOk P w H' s'.heap/\RelV v u/\Q v H'
noncomputable def CR (CX:CXT) (outer:List Env) (P:da) (w:df) (H:Hp) (s:aq) (Q:VK) (E:XK) (r:Result) (s':aq):Prop:=
 match r with
 |.ok (.ret u)=>CE outer P w H s Q u s'
 |.ok _=>False
 |.error e=>CX outer H s E e s'
structure rA (P:da) (w:df) (K:aa) (mg:Str->Option ai) (base:cx) (CX:CXT) (k:Nat) (f:af) (fd:jj) (ps:List Str) (sp:Sp):Prop where
 len:∀ vs H Q E,sp vs H Q E->vs.length=ps.length
 run:∀(A:dh) (outer:List Env) (s:aq) (H:Hp) (args:Args) (us:List ai) (vs:List V) (Q:VK) (E:XK),Room k A->Env0 P w K mg base A outer s H->rg s fd args (ps.zip us)->Vals vs us->sp vs H Q E->
  nu (model P w) A (.call (.ref f) args) (CR CX outer P w H s Q E) s
theorem Env0.make {K:aa} (e:Env0 P w K mg base A outer s H) (C:af) (us:List ai) (kw:List (Str×ai)):
  Env0 P w K mg base (A.under (.builtin "type.__call__" ⟨.ref C::us,kw⟩)) outer s H:=⟨by first|exact e.frames|(simpa [t8,Code.envs,t9,pushEnvs] using e.frames),e.mod,e.bs,e.bsz,e.funs,e.frf,e.hok,e.bare⟩
section
variable {X:Cx}{pins:List (af×Obj)}{σ:St}{H:Hp}{s s':aq}
theorem Inv.env0 (I:Inv X pins σ H s):Env0 X.prog X.w X.K X.mg X.base X.A X.stack s H:=
 ⟨I.ok.frames,I.ok.mod,I.bs,ci I.ok.bsz I.sz,I.stack,I.stkFree,I.hok,I.bare⟩
theorem Inv.after (I:Inv X pins σ H s) (h:CE X.stack X.prog X.w H s Q u s'):EP X pins σ Q u s':=by
 obtain⟨v,H',os,bare,un,hok,r,q⟩:=h;obtain⟨hh,g,d,t,os'⟩:=s';obtain rfl:os'=s.os:=os;exact⟨v,H',I.call (h':=hh) (g':=g) (d':=d) (t':=t) (ch:=[]) un hok bare (fun b z=>absurd z (by simp)),r,q⟩
end
noncomputable def OR (sp:Sp) (dvs:List V) (E:XK) (t:TA):TE:=fun σ H Q=>t σ H fun vs H1=>sp (vs++dvs) H1 Q E
noncomputable def LO (C:af) (m:Str) (sp:Sp) (dvs:List V) (E:XK) (ta:TE) (t:TA):TE:=fun σ H Q=>ta σ H fun x H1=>∃ a dx fs,x=.ref a/\H1 a=we (.ins C dx fs)/\fs.lookup m=wf/\
 t σ H1 fun vs H2=>sp (x::(vs++dvs)) H2 Q E
noncomputable def OM (C:af) (sp:Sp) (dvs:List V) (E:XK) (t:TA):TE:=fun σ H Q=>t σ H fun vs H1=>∀ x dx,H1 x=wf->H1 dx=wf->dx≠x->
 sp (.ref x::(vs++dvs)) (upd (upd H1 dx (.own x)) x (.ins C dx [])) (fun v H2=>v=.non/\Q (.ref x) H2) E
noncomputable def Binds (K:aa) (fd:jj) (ps:List Str) (ds:List ai):Prop:=
 ∀(s:aq) (us:List ai),K.In s.heap->(us++ds).length=ps.length->rg s fd ⟨us,[]⟩ (ps.zip (us++ds))
theorem Binds.all {K:aa} (h:∀ us:List ai,us.length=ps.length->bindArgs fd ⟨us,[]⟩=pure (ps.zip us)):Binds K fd ps []:=fun s us _ hl=>by
 rw[c7] at hl ⊢;exact .of_eq (h us hl)
noncomputable def pW (CX:CXT) (X:Cx) (E:XK):Prop:=∀(pins:List (af×Obj)) (σ:St) (H:Hp) (s:aq) (e:ai) (s':aq),Inv X pins σ H s->CX X.stack H s E e s'->X.xe e s'
section
variable {X:Cx}{CX:CXT}{k:Nat}{f C:af}{fd:jj}{ps:List Str}{sp:Sp}{dvs:List V}{ds:List ai}{E:XK}{x m:Str}{p pos apos:Pos}{e o:bw}{es:List bw}{ta:TE}{t:TA}
theorem Dr (F:rA X.prog X.w X.K X.mg X.base CX k f fd ps sp) (hr:Room k X.A) (hb:Binds X.K fd ps ds) (hd:Vals dvs ds) (hx:pW CX X E)
  (I:Inv X pins σ H s) (r:Vals vs us) (h:sp (vs++dvs) H Q E):bf (model X.prog X.w) X.A (call (.ref f) us) (EP X pins σ Q) X.xe s:=by
 have r2:Vals (vs++dvs) (us++ds):=r.append hd;have hl:(us++ds).length=ps.length:=by rw[<- r2.length];exact F.len _ _ _ _ h
 refine wpAny_call (p8 (F.run X.A X.stack s H ⟨us,[]⟩ (us++ds) (vs++dvs) Q E hr I.env0 (hb s us I.kIn hl) r2 h) fun r s' hq=> ?_);cases r with
 |error e=>exact hx pins σ H s e s' I hq
 |ok fl=>
  cases fl with
  |ret u=>exact I.after hq
  |next=>exact ik hq
  |brk=>exact ik hq
  |cont=>exact ik hq
theorem JC (F:rA X.prog X.w X.K X.mg X.base CX k f fd ps sp) (hr:Room k X.A) (hg:Gl X x) (hm:X.mg x=we (.ref f)) (hk:ga X.K (.ref f)=true) (hb:Binds X.K fd ps ds) (hd:Vals dvs ds) (hx:pW CX X E)
  (ha:PA X (e::es) t) (hdb:(x==("__debug__":Str))=false:=by decide) (he:ar (e::es) X.env=(false,eval e X.env)::ar es X.env:=by rfl) (hpl:(de pos (ar es X.env)).any (·.1)=false:=by rfl):
  PE X (.Call (.Name x p) (e::es) [] pos) (OR sp dvs E t):=by
 intro pins s σ H Q I h;refine l7 (tP I hg hm ?_ hdb);refine o8 (h₀:=X.base) I.ok.mod.kin hk (thn (ha pos pins s σ H _ I h) fun us s1 ⟨vs,H1,I1,r,q⟩=>⟨I1.kIn,?_⟩) he hpl;exact Dr F hr hb hd hx I1 r q
theorem Jx (he:PE X o ta) (c:Cls X.K C) (hm:Iq X.K C m f) (F:rA X.prog X.w X.K X.mg X.base CX k f fd ps sp) (hr:Room k X.A) (hb:Binds X.K fd ps ds) (hd:Vals dvs ds) (hx:pW CX X E) (ha:PA X (e::es) t)
  (hst:ar (e::es) X.env=(false,eval e X.env)::ar es X.env:=by rfl) (hpl:(de pos (ar es X.env)).any (·.1)=false:=by rfl)
  (ht:eval (.Call (.Attribute o m apos) (e::es) [] pos) X.env=(do
   let ov <- eval o X.env
   mh apos.atName
   let (f,first) <- holding [ov] (l0 ov m pl)
   p9 pos f first (de pos (ar (e::es) X.env)) (jk pos (hV [] X.env))):=by rfl):
  PE X (.Call (.Attribute o m apos) (e::es) [] pos) (LO C m sp dvs E ta t):=by
 intro pins s σ H Q I h;refine rh (pl:=pl) (thn (he pins s σ H _ I h) fun u s1 ⟨x,H1,I1,rx,a,dx,fs,ex,ea,l,q⟩=> ?_) ht;subst ex;obtain rfl:u=b9 a:=rx;refine sB I1 ea c hm l ?_;refine o8 (first:=[.ref a]) (h₀:=X.base) I.ok.mod.kin hm.kp (thn (ha pos pins s1 σ H1 _ I1 q) fun us s2 ⟨vs,H2,I2,r,q2⟩=>⟨I2.kIn,?_⟩) hst hpl;exact Dr (us:=.ref a::us) (vs:=.ref a::vs) F hr hb hd hx I2 (.cons rfl r) q2
theorem Gu (he:PE X o ta) (c:Cls X.K C) (hm:Iq X.K C m f) (F:rA X.prog X.w X.K X.mg X.base CX k f fd ps sp) (hr:Room k X.A) (hb:Binds X.K fd ps ds) (hd:Vals dvs ds) (hx:pW CX X E)
  (ht:eval (.Call (.Attribute o m apos) [] [] pos) X.env=(do
   let ov <- eval o X.env
   mh apos.atName
   let (f,first) <- holding [ov] (l0 ov m pl)
   p9 pos f first (de pos (ar [] X.env)) (jk pos (hV [] X.env))):=by rfl):
  PE X (.Call (.Attribute o m apos) [] [] pos) (LO C m sp dvs E ta Qh):=by
 intro pins s σ H Q I h;refine rh (pl:=pl) (thn (he pins s σ H _ I h) fun u s1 ⟨x,H1,I1,rx,a,dx,fs,ex,ea,l,q⟩=> ?_) ht;subst ex;obtain rfl:u=b9 a:=rx;refine sB I1 ea c hm l ?_;exact PySem.W.callWith_K0 (first:=[.ref a]) I1.kIn hm.kp (Dr (us:=[.ref a]) (vs:=[.ref a]) F hr hb hd hx I1 (.cons rfl .nil) q)
structure Mk (K:aa) (C f:af):Prop where
 makes:qk K C=true
 init:gz K (.ref C) "__init__"=we (we (.ref f))
 fn:n8 K (.ref f)=true
 kp:ga K (.ref C)=true
theorem FY (M:Mk X.K C f) (F:rA X.prog X.w X.K X.mg X.base CX k f fd ps sp) (hr:Room (k+1) X.A) (hb:Binds X.K fd ps ds) (hd:Vals dvs ds)
  (hx:pW CX X E) (I:Inv X pins σ H s) (r:Vals vs us)
  (h:∀ x dx,H x=wf->H dx=wf->dx≠x->sp (.ref x::(vs++dvs)) (upd (upd H dx (.own x)) x (.ins C dx [])) (fun v H2=>v=.non/\Q (.ref x) H2) E):
  bf (model X.prog X.w) X.A (call (.ref C) us) (EP X pins σ Q) X.xe s:=by
 have hq:=h (s.heap.objs.size+1) s.heap.objs.size (I.hok.fresh (Nat.le_succ _)) (I.hok.fresh (bj _)) (cj (m8 _));have I2:=Inv.made (C:=C) I;have r2:Vals (V.ref (s.heap.objs.size+1)::(vs++dvs)) (b9 (s.heap.objs.size+1)::(us++ds)):=.cons rfl (r.append hd);have hl:(b9 (s.heap.objs.size+1)::us++ds).length=ps.length:=by
  have e:=r2.length;rw[F.len _ _ _ _ hq] at e;exact e.symm
 refine wpAny_call (GT (f:=f) I.kIn M.makes M.init (beq_iff_eq.mp M.fn) (p8 (F.run _ X.stack _ _ ⟨b9 (s.heap.objs.size+1)::us,[]⟩ (b9 (s.heap.objs.size+1)::(us++ds)) _ _ E (hr.make C us [])
  (I2.env0.make C us []) (hb _ (b9 (s.heap.objs.size+1)::us) I2.kIn hl) r2 hq) fun r s' hq'=> ?_))
 cases r with
 |error e=>exact hx pins σ _ _ e s' I2 hq'
 |ok fl=>
  cases fl with
  |ret u=>
   obtain⟨v,H',I3,rv,ev,q3⟩:=I2.after hq';subst ev;exact⟨rv,⟨V.ref (s.heap.objs.size+1),H',I3,rfl,q3⟩⟩
  |next=>exact ik hq'
  |brk=>exact ik hq'
  |cont=>exact ik hq'
theorem Jy (M:Mk X.K C f) (F:rA X.prog X.w X.K X.mg X.base CX k f fd ps sp) (hr:Room (k+1) X.A) (hg:Gl X x) (hm:X.mg x=we (.ref C)) (hb:Binds X.K fd ps ds) (hd:Vals dvs ds) (hx:pW CX X E)
  (ha:PA X (e::es) t) (hdb:(x==("__debug__":Str))=false:=by decide) (he:ar (e::es) X.env=(false,eval e X.env)::ar es X.env:=by rfl) (hpl:(de pos (ar es X.env)).any (·.1)=false:=by rfl):
  PE X (.Call (.Name x p) (e::es) [] pos) (OM C sp dvs E t):=by
 intro pins s σ H Q I h;refine l7 (tP I hg hm ?_ hdb);refine o8 (h₀:=X.base) I.ok.mod.kin M.kp (thn (ha pos pins s σ H _ I h) fun us s1 ⟨vs,H1,I1,r,q⟩=>⟨I1.kIn,?_⟩) he hpl;exact FY M F hr hb hd hx I1 r q
end
section
variable {X:Cx}{CX:CXT}{k:Nat}{f C:af}{fd:jj}{ps ks:List Str}{sp:Sp}{E:XK}{x m:Str}{p pos apos kpos:Pos}{e o:bw}{es:List bw}{kws:List jf}{te ta:TE}{t tk:TA}{nm:Option Str}
variable {g:List ai->List ai->List ai}{gV:List V->List V->List V}
end
structure kI (N P:List Str) (sc:j0):Prop where
 kind:sc.kind=.function
 co:sc.isCoroutine=false
 gen:sc.isGenerator=false
 nd:N.Nodup
 pre:N.take P.length=P
 par:∀ x∈P,sc.names.lookup x=we .local∨sc.names.lookup x=we .cell
 nofree:∀ y∈sc.names,y.2≠ .free
theorem xU {kindOf:Str->Option g8}:∀ {binds:List (Str×ai)}{m:Str->Option ai},(∀ v,(x,v)∉binds)->bindL kindOf binds m x=m x
 |[],_,_=>rfl
 |(n,v)::r,m,h=>by
  unfold bindL;rw[xU fun w hw=>h w (aj _ hw)];split
  ·have:x≠n:=by rintro rfl;exact h v au
   simp[this]
  ·rfl
theorem xW {kindOf:Str->Option g8}:∀ {binds:List (Str×ai)}{m:Str->Option ai},(∀ v,(x,v)∉binds)->bindC kindOf binds m x=m x
 |[],_,_=>rfl
 |(n,v)::r,m,h=>by
  unfold bindC;rw[xW fun w hw=>h w (aj _ hw)];split
  ·rfl
  ·have:x≠n:=by rintro rfl;exact h v au
   simp[this]
theorem xV {kindOf:Str->Option g8}:∀ {P:List Str}{vs:List ai}{i:Nat}{m:Str->Option ai},P.Nodup->P[i]?=we x->vs[i]?=we v->kindOf x=we .local->
  bindL kindOf (P.zip vs) m x=we v
 |[],_,_,_,_,h,_,_=>by simp at h
 |_::_,[],_,_,_,_,h,_=>by simp at h
 |p::P,w::vs,0,m,nd,h1,h2,hk=>by
  simp at h1 h2;subst h1;subst h2;show bindL kindOf ((p,w)::P.zip vs) m p=_;unfold bindL;rw[xU fun v hv=>(cg.mp nd).1 (ql hv).1,if_pos hk];simp
 |p::P,w::vs,i+1,m,nd,h1,h2,hk=>by
  show bindL kindOf ((p,w)::P.zip vs) m x=_;unfold bindL;exact xV (i:=i) (cg.mp nd).2 (by simpa using h1) (by simpa using h2) hk
theorem xX {kindOf:Str->Option g8}:∀ {P:List Str}{vs:List ai}{i:Nat}{m:Str->Option ai},P.Nodup->P[i]?=we x->vs[i]?=we v->kindOf x≠we .local->
  bindC kindOf (P.zip vs) m x=we v
 |[],_,_,_,_,h,_,_=>by simp at h
 |_::_,[],_,_,_,_,h,_=>by simp at h
 |p::P,w::vs,0,m,nd,h1,h2,hk=>by
  simp at h1 h2;subst h1;subst h2;show bindC kindOf ((p,w)::P.zip vs) m p=_;unfold bindC;rw[xW fun v hv=>(cg.mp nd).1 (ql hv).1,if_neg hk];simp
 |p::P,w::vs,i+1,m,nd,h1,h2,hk=>by
  show bindC kindOf ((p,w)::P.zip vs) m x=_;unfold bindC;exact xX (i:=i) (cg.mp nd).2 (by simpa using h1) (by simpa using h2) hk
noncomputable def start (N:List Str) (vs:List V):St:=vs.map we++ax (N.length-vs.length) wf
noncomputable def Ai (CX:CXT) (P:da) (w:df) (K:aa) (mg:Str->Option ai) (base:cx) (N:List Str) (qual:Str) (scope:j0) (f:af) (cd:ai) (A:dh) (outer:List Env) (s:aq) (H:Hp) (E:XK):Cx where
 prog:=P
 w:=w
 K:=K
 mg:=mg
 base:=base
 A:=A.deeper (jc qual scope s.heap.objs.size f cd)
 N:=N
 s₀:=s
 H₀:=H
 env:=jc qual scope s.heap.objs.size f cd
 outer:=outer
 stack:=jc qual scope s.heap.objs.size f cd::outer
 ex:=[]
 calm:=true
 fn:=fun _=>true
 pn:=[]
 xe:=fun e s'=>bf (model P w) (A.deeper (jc qual scope s.heap.objs.size f cd)) (leaving (jc qual scope s.heap.objs.size f cd) e) (fun _ s''=>CX outer H s E e s'') (fun e' s''=>CX outer H s E e' s'') s'
theorem BA {sc:j0} (h:sc.names.lookup x=we .cell):∃ c,(gp n sc.names []).lookup x=we c:=by
 have q:=qt sc.names n [] (.inl h);exact l8.mp q
theorem Ev {K:aa}
  (S:kI N ps scope) (hd:A.handled=wf) (e0:Env0 P w K mg base A outer s H) (hl:vs.length=ps.length) (r:Vals vs us)
  (x:InCallC s s.heap.objs.size (bindL (jc qual scope s.heap.objs.size f cd).kindOf (ps.zip us) fun _=>wf) (gp (s.heap.objs.size+1) scope.names []) (bindC (jc qual scope s.heap.objs.size f cd).kindOf (ps.zip us) fun _=>wf) s1):
  Inv (Ai CX P w K mg base N qual scope f cd A outer s H E) [] (start N vs) H s1:=by
 have hpl:ps.length<=N.length:=by have:=congrArg k7 S.pre;rw[m9] at this;omega
 obtain⟨h1,tk,rfl,hk⟩:=x.done;have noA:∀ b:af,b∉(Ai CX P w K mg base N qual scope f cd A outer s H E).ex:=fun b z=>absurd (show b∈([]:List af) from z) (by simp);refine⟨⟨e0.mod,S.kind,rfl,rfl,bj _,fun y z c h1 h2=> ?_,fun y hy=> ?_,fun y c _ h=> ?_,fun _=>hd,Around.frames_deeper e0.frames,.inr ⟨rfl,rfl⟩,fun b z=>absurd z (noA b),e0.bs,e0.bsz,fun b _ _=>noA b,fun b z=>absurd z (noA b),e0.funs,e0.frf⟩,
  rfl,e0.bare,Un.kept hk,⟨_,x.toInCall.ns,fun i y v h1 h2 h3=> ?_⟩,fun y c h=>⟨_,x.cell y c h⟩,e0.hok.fresh (bj _),fun y c h=> ?_,fun p hp=>absurd (show p∈([]:List (af×Obj)) from hp) (by simp),e0.hok.kept hk,?_⟩
 ·exact name_of_addr x.apart (fx h1) (fx h2)
 ·have hy:scope.names.lookup y=we .cell∨scope.names.lookup y=we .free:=hy;rcases hy with hy|hy
  ·exact BA hy
  ·exact absurd rfl (S.nofree _ (fx hy))
 ·exact ic (x.above y c (fx h))
 ·have hi:i<vs.length:=by
   unfold start at h2
   by_cases hi:i<vs.length
   ·exact hi
   ·rw[im (by simpa using hi)] at h2;rw[ee] at h2;split at h2 <;> cases h2
  have ha:vs[i]?=we v:=by
   unfold start at h2;rw[ay (by simpa using hi),bc] at h2;cases e:vs[i]? with
   |none=>rw[e] at h2;cases h2
   |some a=>rw[e] at h2;cases h2;rfl
  obtain⟨u,hu,rv⟩:=r.get ha;have hp:ps[i]?=we y:=by
   rw[<- S.pre,List.getElem?_take_of_lt (by omega)];exact h1
  have ndP:ps.Nodup:=by rw[<- S.pre];exact S.nd.sublist (List.take_sublist _ _)
  refine⟨u,rv,?_⟩;rcases S.par y (fh hp) with k|k
  ·exact .inl ⟨k,xV ndP hp hu k⟩
  ·obtain⟨c,e⟩:=BA (n:=s.heap.objs.size+1) k;refine .inr ⟨.inl k,c,e,?_⟩;have q:=x.cell y c e;rw[xX ndP hp hu (by show scope.names.lookup y≠_;rw[k];decide)] at q;exact q
 ·exact e0.hok.fresh (ic (x.above y c (fx h)))
 ·unfold start;show _=N.length;rw[b7,av,jg];omega
theorem PK {K:aa}{dV kV doc pm cdv ct oc:ai}
    (lk:K.lookup f=we ⟨oc,od,.func (ie name qual params body scope dV kV doc pm an cdv ct),osl⟩) (hcd:ju K cdv qual=true) (S:kI N ps scope)
  (len:∀ vs H Q E,sp vs H Q E->vs.length=ps.length)
  (hbody:∀(A:dh) (outer:List Env) (s:aq) (H:Hp) (vs:List V) (Q:VK) (E:XK),Room k (A.deeper (jc qual scope s.heap.objs.size f cdv))->sp vs H Q E->
   ∃ t,PSs (Ai CX P w K mg base N qual scope f cdv A outer s H E) body t/\t { nx:=fun _ H'=>Q .non H',rt:=Q } (start N vs) H):
  rA P w K mg base CX (k+1) f (ie name qual params body scope dV kV doc pm an cdv ct) ps sp:=by
 refine⟨len,fun A outer s H args us vs Q E hr e0 hb r hsp=> ?_⟩;have hl:=len _ _ _ _ hsp;have KX:K.In s.heap:=e0.mod.kin.keeps fun b o e=>(e0.bs b o e).1;have lim:s.heap.NoLimit:=e0.mod.nolimit.keeps fun b o e=>(e0.bs b o e).1;have hkind:∀ y∈ps.zip us,scope.names.lookup y.1=we .local∨(scope.names.lookup y.1=we .cell/\((gp (s.heap.objs.size+1) scope.names []).lookup y.1).isSome=true):=fun⟨n,v⟩ hy=>by
  rcases S.par n (ql hy).1 with q|q
  ·exact .inl q
  ·exact .inr ⟨q,qt _ _ _ (.inl q)⟩
 refine codeAny_call_function hr.depth (KX _ _ lk) rfl S.co S.gen rfl (PySem.W.codeRec_of KX hcd) (hb _ _ _ _ ?_);refine wpAny_newFunctionEnv_cells S.kind hkind fun env he s1 x=> ?_;subst he;refine⟨lim.keeps x.toInCall.keep,codeAny_func ?_⟩;obtain⟨t,ht,hq⟩:=hbody A outer s H vs Q E (hr.deeper _) hsp;have I:Inv (Ai CX P w K mg base N qual scope f cdv A outer s H E) [] (start N vs) H s1:=Ev S hr.hd e0 hl r x;refine gq (ht [] s1 (start N vs) H _ I hq) (fun fl s' hs=> ?_) fun e s' hs=>hs;have fin:∀ {σ':St}{H':Hp}{v:V}{u:ai},Inv (Ai CX P w K mg base N qual scope f cdv A outer s H E) [] σ' H' s'->RelV v u->Q v H'->CE outer P w H s Q u s':=
  fun {σ' H' v u} J rv q=>⟨v,H',J.os,J.bare,J.base,J.hok,rv,q⟩
 cases fl with
 |ret u=>
  obtain⟨v,σ',H',J,rv,q⟩:=hs;exact fin J rv q
 |next=>
  obtain⟨σ',H',J,q⟩:=hs;exact fin (v:=V.non) (u:=hW) J rfl q
 |brk=>
  obtain⟨_,_,_,q⟩:=hs;exact ik q
 |cont=>
  obtain⟨_,_,_,q⟩:=hs;exact ik q
end L2
namespace L2
section
variable {X:Cx}{x:Str}{p pos:Pos}{e:bw}{es:List bw}{t:TA}{id T:String}{r:List V->Hp->VK->Prop}
noncomputable def tCB (r:List V->Hp->VK->Prop) (t:TA):TE:=fun σ H Q=>t σ H fun vs H1=>r vs H1 Q
theorem nC (hc:CallR X (.builtin id) r) (hg:Gl X x) (hm:X.mg x=wf) (hv:dc x=we (.builtin id)) (ha:PA X (e::es) t) (hn:x≠"__name__":=by decide) (hdb:(x==("__debug__":Str))=false:=by decide)
  (he:ar (e::es) X.env=(false,eval e X.env)::ar es X.env:=by rfl) (hpl:(de pos (ar es X.env)).any (·.1)=false:=by rfl):PE X (.Call (.Name x p) (e::es) [] pos) (tCB r t):=by
 intro pins s σ H Q I h;refine l7 (rW I hg hm hv ?_ hn hdb);exact PyProof.Rows.callWith_builtin1 (thn (ha pos pins s σ H _ I h) fun us s1 ⟨vs,H1,I1,r1,q1⟩=>hc pins s1 σ H1 vs us Q I1 r1 q1) he hpl
theorem DH (hc:CallR X (.type T) r) (hg:Gl X x) (hm:X.mg x=wf) (hv:dc x=we (.type T)) (ha:PA X (e::es) t) (hn:x≠"__name__":=by decide) (hdb:(x==("__debug__":Str))=false:=by decide)
  (he:ar (e::es) X.env=(false,eval e X.env)::ar es X.env:=by rfl) (hpl:(de pos (ar es X.env)).any (·.1)=false:=by rfl):PE X (.Call (.Name x p) (e::es) [] pos) (tCB r t):=by
 intro pins s σ H Q I h;refine l7 (rW I hg hm hv ?_ hn hdb);exact ja (thn (ha pos pins s σ H _ I h) fun us s1 ⟨vs,H1,I1,r1,q1⟩=>hc pins s1 σ H1 vs us Q I1 r1 q1) he hpl
end
end L2
namespace HT
open PySem PyProof.Rows
noncomputable def lexLt:List Int->List Int->Bool
 |[],[]=>false
 |[],_::_=>true
 |_::_,[]=>false
 |x::xs,y::ys=>if x=y then lexLt xs ys else decide (x<y)
theorem Cf (x y:Int) (xs ys:List Int):lexLt (x::xs) (y::ys)=if x=y then lexLt xs ys else decide (x<y):=rfl
theorem tN:lexLt [] []=false:=rfl
theorem qI (y:Int) (ys:List Int):lexLt [] (y::ys)=true:=rfl
theorem qJ (x:Int) (xs:List Int):lexLt (x::xs) []=false:=rfl
theorem HN (A:dh) (s:aq) (a:Int) (t:Tok) (c:Int) (u:Tok):∃ e,vh A s (.int a t) (.int c u) e/\(e=true↔a=c):=
 ⟨(a==c),SeqAt.EqAt.int_int a t c u,by simp⟩
theorem Gh (A:dh) (s:aq) (a:Int) (t:Tok) (c:Int) (u:Tok) (prog:da) (w:df) (E:ai->aq->Prop) (Q:ai->aq->Prop) (h:Q (.bool (decide (a<c))) s):
  bf (model prog w) A (richCompare .Lt (.int a t) (.int c u)) Q E s:=
 (vg h:bf (model prog w) A (fw .Lt (.int a t) (.int c u)) Q E s)
section
open PySem.SeqAt
open PySem.AutoSeq1 (wpAny_loadPart')
open PySem.MeetsSeq PySem.MeetsSeq2 PySem.MeetsSeq3
theorem sU (l b:af) (items items2:Array ai) (n n2:Nat) (dd dd2:Option af) (sl sl2:Array (Option ai)) (ns ms:List Int) (hi:j5 items.toList ns) (hj:j5 items2.toList ms):
  Meets (Builtin.«tuple.__lt__» ⟨[.ref l,.ref b],[]⟩)
   (fun _ R s=>s.heap.get? l=we { cls:=.type "tuple",dict:=dd,data:=.seq items n,slots:=sl }/\s.heap.get? b=we { cls:=.type "tuple",dict:=dd2,data:=.seq items2 n2,slots:=sl2 }/\
    R (.ok (.ret (.bool (lexLt ns ms)))) s):=
 .of_wp fun prog w A R s h=>by
  obtain⟨hp,g,d,tk,os⟩:=s;obtain⟨hl,hb,h⟩:=h;have f2:=AutoSeq1.sub_tuple_tuple;have z1:items.size=ns.length:=by rw[<- hi.length];simp
  have z2:items2.size=ms.length:=by rw[<- hj.length];simp
  wp_walk using wpAny_loadPart' hl,wpAny_loadPart' hb,qc _ (fun rest b s'=>b.1=wf/\s'=⟨hp,g,d,tk,os⟩/\∃(vs ws:List ai) (ns' ms':List Int),rest=vs.zip ws/\
   j5 vs ns'/\j5 ws ms'/\ns'.length+items2.size=ms'.length+items.size/\R (.ok (.ret (.bool (lexLt ns' ms')))) ⟨hp,g,d,tk,os⟩) _
  case turn=>
   rintro⟨y,x⟩ rest b s' ⟨hb',rfl,vs,ws,ns',ms',hz,hvi,hwi,hlen,hR⟩
   cases hvi with
   |nil=>rw[List.zip_nil_left] at hz;cases hz
   |cons a t hvi'=>
    cases hwi with
    |nil=>rw[List.zip_nil_right] at hz;cases hz
    |cons c u hwi'=>
     rw[ua] at hz;injection hz with hyx hrest
     injection hyx with hy hx
     subst hy hx;rw[Cf] at hR;simp only[bv] at hlen;obtain⟨e,he,hiff⟩:=HN A.in1 ⟨hp,g,d,tk,os⟩ a t c u;refine ae (he prog w _ _ ?_);cases e with
     |true=>
      rw[if_pos (hiff.mp rfl)] at hR
      wp_walk
      exact⟨rfl,rfl,_,_,_,_,hrest,hvi',hwi',by omega,hR⟩
     |false=>
      rw[if_neg (fun q=>absurd (hiff.mpr q) ck)] at hR;have hri:=Gh A.in1 ⟨hp,g,d,tk,os⟩ a t c u prog w
      wp_walk using hri
      exact⟨_,rfl,by simpa using hR⟩
  case fin=>
   rintro⟨b1,b2⟩ s' ⟨hb',rfl,vs,ws,ns',ms',hz,hvi,hwi,hlen,hR⟩
   simp only at hb';subst hb';have hv:lexLt ns' ms'=decide (items.size<items2.size):=by
    cases hvi with
    |nil=>
     cases hwi with
     |nil=>
      simp only[lq] at hlen;rw[tN];exact(decide_eq_false (by omega)).symm
     |cons c u hw=>
      simp only[lq,bv] at hlen;rw[qI];exact(decide_eq_true (by omega)).symm
    |cons a t hv=>
     cases hwi with
     |nil=>
      simp only[lq,bv] at hlen;rw[qJ];exact(decide_eq_false (by omega)).symm
     |cons c u hw=>
      rw[ua] at hz;cases hz
   rw[hv] at hR
   wp_walk
   exact⟨_,rfl,by simpa [Builtin.Tuple.tupleCompareSizes] using hR⟩
  case h=>
   exact⟨rfl,rfl,items.toList,items2.toList,ns,ms,rfl,hi,hj,by omega,h⟩
end
section
variable {prog:da}{w:df}{A:dh}{E:ai->aq->Prop}{s:aq}
theorem lt_tupInts (hl:IsTup s.heap l items) (hb:IsTup s.heap b items2) (hi:j5 items.toList ns) (hj:j5 items2.toList ms)
  (hu:A.units<dm) (h:Q (.bool (lexLt ns ms)) s):bf (model prog w) A (fw .Lt (.ref l) (.ref b)) Q E s:=by
 obtain⟨⟨cls,dd,data,sl⟩,ho,hc,n,hd⟩:=id hl;obtain⟨⟨cls2,dd2,data2,sl2⟩,ho2,hc2,n2,hd2⟩:=id hb;simp only at hc hd hc2 hd2;subst hc hd hc2 hd2;exact richCompare_meets_room (op:=.Lt) ⟨_,ho,rfl⟩ ⟨_,ho2,rfl⟩ PySem.F.slot_tuple_lt PySem.F.entry_tuple_lt (PySem.F.args_tuple_lt_2 _ _) (sU l b items items2 n n2 dd dd2 sl sl2 ns ms hi hj)
  ⟨ho,ho2,show se (lexLt ns ms)≠Value.notImplemented/\Q (.bool (lexLt ns ms)) s from⟨(fun x=>nomatch x),h⟩⟩ hu
noncomputable def sIx (n d:Nat):Option Int->Nat
 |none=>d
 |some v=>if v<0 then(v+(n:Int)).toNat else min v.toNat n
theorem sIx_nat (n d k:Nat):sIx n d (we (k:Int))=min k n:=by
 show(if(k:Int)<0 then((k:Int)+(n:Int)).toNat else min (k:Int).toNat n)=min k n
 rw[if_neg (by omega),d9]
theorem LV (n d:Nat) (hd:d<=n) (o:Option Int):sIx n d o<=n:=by
 cases o with
 |none=>exact hd
 |some v=>
  show(if v<0 then(v+(n:Int)).toNat else min v.toNat n)<=n
  by_cases hv:v<0
  ·rw[if_pos hv];omega
  ·rw[if_neg hv];exact Nat.min_le_right _ _
theorem Fm (v:Int) (n d:Nat):(if v<0 then max (v+(n:Int)) 0 else min v (n:Int))=((sIx n d (we v):Nat):Int):=by
 show(if v<0 then max (v+(n:Int)) 0 else min v (n:Int))=(((if v<0 then(v+(n:Int)).toNat else min v.toNat n):Nat):Int)
 by_cases hv:v<0
 ·simp only[if_pos hv];omega
 ·simp only[if_neg hv];omega
theorem CF (lo hi:Option Int) (n:Nat):lr lo hi 1 (n:Int)=(((sIx n 0 lo:Nat):Int),((sIx n n hi:Nat):Int)):=by
 have h1:¬((1:Int)<0):=by omega
 unfold lr;simp only[h1,if_false];refine Prod.ext ?_ ?_
 ·cases lo with
  |none=>rfl
  |some v=>exact Fm v n 0
 ·cases hi with
  |none=>rfl
  |some v=>exact Fm v n n
theorem BW (i j:Nat):jo (i:Int) (j:Int) 1=j-i:=by
 unfold jo;have h1:(1:Int)>0:=by omega
 simp only[h1,if_true,Int.ediv_one];split <;> omega
theorem rD (p:qd v o) (h:Q o s):bf (model prog w) A (Builtin.Slice.slicePartIndex v) Q E s:=by
 cases p with
 |none=>exact slicePart_none h
 |int i t=>exact slicePart_int h
theorem mQ {lo hi:Option Int}{Q:Int×Int×Nat->aq->Prop} (hs:s.heap.IsSliceOf sl vl vu .none) (pl:qd vl lo) (pu:qd vu hi)
  (h:Q (((sIx n 0 lo:Nat):Int),1,sIx n n hi-sIx n 0 lo) s):bf (model prog w) A (pc (.ref sl) (pure (n:Int))) Q E s:=by
 obtain⟨os,hos,hcs,hds⟩:=id hs;unfold pc Builtin.Slice.sliceFields;refine ae (ae (qu hos hds (x:=vl) rfl (ae (qu hos hds (x:=vu) rfl (ae (qu hos hds (x:=.none) rfl (ao ?_)))))));refine ae (slicePart_none ?_);show bf _ _ (if((1:Int)==0)=true then _ else _) _ _ s;rw[if_neg (by decide)];refine ae (rD pl (ae (rD pu (ae (ao ?_)))));show bf _ _ (match lr lo hi 1 (n:Int) with|(lo,hi)=>pure (lo,(1:Int),jo lo hi 1)) _ _ s;rw[CF lo hi n];show bf _ _ (pure (((sIx n 0 lo:Nat):Int),(1:Int),jo ((sIx n 0 lo:Nat):Int) ((sIx n n hi:Nat):Int) 1)) _ _ s;rw[BW];exact ao h
theorem Gq (xs:Array ai) (i k:Nat):((bq k).filterMap fun(m:Nat)=>xs[((i:Int)+(m:Int)*1).toNat]?).toArray=((xs.toList.drop i).take k).toArray:=by
 have e:(fun(m:Nat)=>xs[((i:Int)+(m:Int)*1).toNat]?)=fun m=>xs[i+m]?:=by
  funext m
  have:((i:Int)+(m:Int)*1).toNat=i+m:=by omega
  rw[this]
 rw[e]
 have:=pick_run xs i k
 rw[List.filterMap_map] at this;have e2:((fun x=>xs[x]?)∘fun x=>i+x)=fun m=>xs[i+m]?:=rfl;rw[e2] at this;rw[this]
theorem getItem_tuple_cut {lo hi:Option Int} (ht:IsTup s.heap t items) (hs:s.heap.IsSliceOf sl vl vu .none) (pl:qd vl lo) (pu:qd vu hi)
  (hw:¬(sIx items.size 0 lo=0/\sIx items.size items.size hi=items.size))
  (h:Q (.ref s.heap.objs.size) { s with heap:=s.heap.push { cls:=.type "tuple",data:=.seq ((items.toList.drop (sIx items.size 0 lo)).take (sIx items.size items.size hi-sIx items.size 0 lo)).toArray } })
  (hsz:items.size<=sizeLine):bf (model prog w) A (ou (.ref t) (.ref sl)) Q E s:=by
 have htake:sizeOk (.seq ((items.toList.drop (sIx items.size 0 lo)).take (sIx items.size items.size hi-sIx items.size 0 lo)).toArray):=by
  show((items.toList.drop (sIx items.size 0 lo)).take (sIx items.size items.size hi-sIx items.size 0 lo)).toArray.size<=sizeLine
  rw[bg,m9,u8,du];omega
 have hj:sIx items.size items.size hi<=items.size:=LV _ _ (bj _) hi;obtain⟨os,hos,hcs,hds⟩:=id hs;have hTs:s.TypeIs (.ref sl) "slice":=⟨os,hos,hcs⟩;unfold ou
 try with_reducible refine ij ?_
 first|refine ae (ao ?_)|skip
 refine ae (wpAny_sequenceKey ht.typeIs (by decide) ?_);refine ae (i7 (name:=jl "__getitem__") ht.typeIs i8
  (g9 i8 ht.typeIs entry_tuple_getitem ?_ (args_tuple_getitem _ _)))
 show bf _ _ (Builtin.Tuple.tupleItemsOf (.ref t) >>= _) _ _ s;refine ae (tupleItemsOf_ ht ?_);refine ae (wpAny_typeOf hTs ?_);rw[if_pos (by decide)];refine ae (mQ hs pl pu ?_);have hno:¬((((sIx items.size 0 lo:Nat):Int)==0&&(1:Int)==1&&(sIx items.size items.size hi-sIx items.size 0 lo)==items.size)=true):=by
  intro q;rw[bu,bu] at q;have q1:((sIx items.size 0 lo:Nat):Int)=0:=eq_of_beq q.1.1;have q2:sIx items.size items.size hi-sIx items.size 0 lo=items.size:=eq_of_beq q.2;exact hw ⟨by omega,by omega⟩
 show bf _ _ (if(((sIx items.size 0 lo:Nat):Int)==0&&(1:Int)==1&&(sIx items.size items.size hi-sIx items.size 0 lo)==items.size)=true then _ else _) _ _ s;rw[if_neg hno,Gq]
 first
  |exact ae (m:=jv _) (dw (ao ⟨_,rfl,ao h⟩) htake)
  |exact ae (m:=jv _) (dw (ae (ao (ao ⟨_,rfl,ao h⟩))) htake)
  |exact ae (ae (m:=jv _) (dw (ao (ao ⟨_,rfl,ao h⟩)) htake))
  |exact ae (ae (m:=jv _) (dw (ao ⟨_,rfl,ao h⟩) htake))
end
end HT
namespace L2
noncomputable abbrev TO:=St->Hp->(Option Int->Hp->Prop)->Prop
noncomputable def PO (X:Cx) (e:Option bw) (t:TO):Prop:=
 ∀(pins:List (af×Obj)) (s:aq) (σ:St) (H:Hp) (Q:Option Int->Hp->Prop),Inv X pins σ H s->t σ H Q->
  bf (model X.prog X.w) X.A (evalPart e X.env) (fun u s'=>∃ o H',Inv X pins σ H' s'/\qd u o/\Q o H') X.xe s
noncomputable def Ja:TO:=fun _ H Q=>Q wf H
noncomputable def OH (t:TE):TO:=fun σ H Q=>t σ H fun x H1=>∃ i,x=.int i/\Q (we i) H1
theorem Cn:∀ {us:List ai},Vals (ns.map V.int) us->j5 us ns:=by
 induction ns with
 |nil=>intro us r;rw[ki] at r;cases r;exact .nil
 |cons n ns ih=>
  intro us r;rw[bp] at r;cases r with
  |cons r1 r2=>
   obtain⟨t,e⟩:=r1;subst e;exact .cons n t (ih r2)
section
variable {X:Cx}{e:bw}{te:TE}{lo hi:Option bw}{tl th:TO}{pos p2:Pos}
theorem Ju:PO X wf Ja:=by
 intro pins s σ H Q I h;rw[evalPart_none];exact ao ⟨wf,H,I,.none,h⟩
theorem Jt (h:PE X e te):PO X (we e) (OH te):=by
 intro pins s σ H Q I hw;rw[evalPart_some];refine thn (h pins s σ H _ I hw) fun u s1 ⟨x,H1,I1,r1,q1⟩=> ?_;obtain⟨i,rfl,q⟩:=q1;obtain⟨t,rfl⟩:=r1;exact⟨we i,H1,I1,.int i t,q⟩
noncomputable def SlR (X:Cx) (r:V->Option Int->Option Int->Hp->VK->Prop):Prop:=
 ∀(pins:List (af×Obj)) (s:aq) (σ:St) (H:Hp) (x:V) (v vl vu:ai) (lo hi:Option Int) (sl:af) (Q:VK),Inv X pins σ H s->RelV x v->s.heap.IsSliceOf sl vl vu .none->qd vl lo->qd vu hi->r x lo hi H Q->
  ∃ T id,sf (.type T) "__getitem__"=pure (we (.builtin id))/\s.TypeIs v T/\bf (model X.prog X.w) X.A (ou v (.ref sl)) (EP X pins σ Q) X.xe s
theorem SlR.or (h:SlR X r) (h':SlR X r'):SlR X (fun x lo hi H Q=>r x lo hi H Q∨r' x lo hi H Q):=by
 intro pins s σ H x v vl vu lo hi sl Q I rx hs pl pu q;rcases q with q|q
 ·exact h pins s σ H x v vl vu lo hi sl Q I rx hs pl pu q
 ·exact h' pins s σ H x v vl vu lo hi sl Q I rx hs pl pu q
noncomputable def tSl (r:V->Option Int->Option Int->Hp->VK->Prop) (te:TE) (tl th:TO):TE:=fun σ H Q=>te σ H fun x H1=>tl σ H1 fun l H2=>th σ H2 fun u H3=>r x l u H3 Q
theorem Gs (hr:SlR X r) (he:PE X e te) (hl:PO X lo tl) (hu:PO X hi th):PE X (.Subscript e (.Slice lo hi wf p2) pos) (tSl r te tl th):=by
 intro pins s σ H Q I h;refine Subscript_ (thn (he pins s σ H _ I h) fun v s1 ⟨x,H1,I1,r1,q1⟩=> ?_);refine wpAny_Slice (thn (hl pins s1 σ H1 _ I1 q1) fun vl s2 ⟨l,H2,I2,pl,q2⟩=>thn (hu pins s2 σ H2 _ I2 q2) fun vu s3 ⟨u,H3,I3,pu,q3⟩=> ?_);rw[evalPart_none];refine ao ?_;have I4:Inv X pins σ H3 { s3 with heap:=s3.heap.push { cls:=.type "slice",data:=.fields #[vl,vu,.none] } }:=I3.kept (t':=s3.toks) fun b ob q=>bh _ q;obtain⟨T,id,hT,ht,hg⟩:=hr pins { s3 with heap:=s3.heap.push { cls:=.type "slice",data:=.fields #[vl,vu,.none] } } σ H3 x v vl vu l u s3.heap.objs.size Q I4 r1 (Heap.IsSliceOf.new ..) pl pu q3;show bf (model X.prog X.w) X.A (sy e (.Slice lo hi wf p2) v (.ref s3.heap.objs.size)) (EP X pins σ Q) X.xe { s3 with heap:=s3.heap.push { cls:=.type "slice",data:=.fields #[vl,vu,.none] } };exact tail_any (ops:=[.ref s3.heap.objs.size,v]) ht hT hg (by with_unfolding_all rfl)
noncomputable def IU (xs:List V) (lo hi:Option Int):List V:=(xs.drop (HT.sIx xs.length 0 lo)).take (HT.sIx xs.length xs.length hi-HT.sIx xs.length 0 lo)
theorem pQ (xs:List V) (lo hi:Option Int):(IU xs lo hi).length<=xs.length:=by
 unfold IU;rw[m9,u8];omega
noncomputable def QN (K:aa):V->Option Int->Option Int->Hp->VK->Prop:=fun x lo hi H Q=>∃ a xs,x=.ref a/\SqT K H a xs/\
 ¬(HT.sIx xs.length 0 lo=0/\HT.sIx xs.length xs.length hi=xs.length)/\∀ p,H p=wf->Q (.ref p) (upd H p (.tup (IU xs lo hi)))
theorem LS:SlR X (QN X.K):=by
 intro pins s σ H x v vl vu lo hi sl Q I rx hs pl pu h;obtain⟨a,xs,rfl,hx,hw,q⟩:=h;cases rx;obtain⟨its,r,ht,hz⟩:=I.tuple hx;have hlen:its.toArray.size=xs.length:=by rw[bg];exact r.length.symm
 refine⟨"tuple",_,i8.lookup,ht.typeIs,?_⟩;refine HT.getItem_tuple_cut ht hs pl pu (by rw[hlen];exact hw) ?_ (by rw[hlen];exact hz);rw[hlen];refine⟨.ref s.heap.objs.size,_,I.laid (t':=s.toks) (o:=.tup (IU xs lo hi)) (fun b ob q=>bh _ q) (bj _) ?_,rfl,q _ (I.hok.fresh (bj _))⟩;exact⟨ci (pQ xs lo hi) hz,_,(r.drop (HT.sIx xs.length 0 lo)).take (HT.sIx xs.length xs.length hi-HT.sIx xs.length 0 lo),IsTup.new _ _⟩
end
end L2
namespace L2
noncomputable def ixN (n:Nat) (i:Int):Option Nat:=if 0<=i then(if i<n then we i.toNat else wf) else if -(n:Int)<=i then we (i+n).toNat else wf
noncomputable def atI {α:Type} (xs:List α) (i:Int):Option α:=(ixN xs.length i).bind fun j=>xs[j]?
theorem Es (h:ixN n i=we j):ub i n=we j/\j<n/\ -(n:Int)<=i/\i<n:=by
 unfold ixN at h
 by_cases h0:0<=i
 ·rw[if_pos h0] at h
  by_cases h1:i<n
  ·rw[if_pos h1] at h;have e:i.toNat=j:=ce h;exact⟨by rw[u6 h0 h1,e],by omega,by omega,h1⟩
  ·rw[if_neg h1] at h;cases h
 ·rw[if_neg h0] at h
  by_cases h1: -(n:Int)<=i
  ·rw[if_pos h1] at h;have e:(i+n).toNat=j:=ce h;exact⟨by rw[uc (by omega) h1,e],by omega,h1,by omega⟩
  ·rw[if_neg h1] at h;cases h
theorem Am {v:α} (h:atI xs i=we v):∃ j,ub i xs.length=we j/\xs[j]?=we v/\j<xs.length/\ -(xs.length:Int)<=i/\i<xs.length:=by
 unfold atI at h;cases e:ixN xs.length i with
 |none=>rw[e] at h;cases h
 |some j=>
  rw[e] at h;obtain⟨h1,h2,h3,h4⟩:=Es e;exact⟨j,h1,h,h2,h3,h4⟩
noncomputable def FD (b:bw):Prop:=∀ o i,subscripted b false o i=operate [o,i] (ou o i)
noncomputable def IxR (X:Cx) (r:R2):Prop:=
 ∀(value slice:bw) (pins:List (af×Obj)) (s:aq) (σ:St) (H:Hp) (x y:V) (v u:ai) (Q:VK),Inv X pins σ H s->RelV x v->RelV y u->r x y H Q->
  subscripted slice false v u=operate [v,u] (ou v u)->bf (model X.prog X.w) X.A (sy value slice v u) (EP X pins σ Q) X.xe s
noncomputable def MtR (X:Cx) (id:String) (r:V->List V->Hp->VK->Prop):Prop:=
 ∀(pins:List (af×Obj)) (s:aq) (σ:St) (H:Hp) (x:V) (xs:List V) (v:ai) (us:List ai) (Q:VK),Inv X pins σ H s->RelV x v->Vals xs us->r x xs H Q->
  bf (model X.prog X.w) X.A (call (.builtin id) (v::us)) (EP X pins σ Q) X.xe s
section
variable {X:Cx}{a b:bw}{ta tb:TE}{pos:Pos}
theorem IxR.or (h:IxR X r) (h':IxR X r'):IxR X (fun x y H Q=>r x y H Q∨r' x y H Q):=by
 intro value slice pins s σ H x y v u Q I rx ry q hs;rcases q with q|q
 ·exact h value slice pins s σ H x y v u Q I rx ry q hs
 ·exact h' value slice pins s σ H x y v u Q I rx ry q hs
theorem Pf (hr:IxR X r) (ha:PE X a ta) (hb:PE X b tb) (hs:FD b):PE X (.Subscript a b pos) (tOp r ta tb):=by
 intro pins s σ H Q I h;exact Subscript_ (PV ha hb I h fun v u s2 x y H2 I2 rx ry q=>hr a b pins s2 σ H2 x y v u Q I2 rx ry q (hs _ _))
noncomputable def Qm (K:aa):R2:=fun x y H Q=>∃ p xs i v,x=.ref p/\y=.int i/\SqL K H p xs/\atI xs i=we v/\Q v H
noncomputable def Qk (K:aa):R2:=fun x y H Q=>∃ p xs i v,x=.ref p/\y=.int i/\SqT K H p xs/\atI xs i=we v/\Q v H
noncomputable def Ql:R2:=fun x y H Q=>∃ z i c,x=.str z/\y=.int i/\z.length<=sizeLine/\atI z.cps.toList i=we c/\Q (.str ⟨#[c]⟩) H
theorem ix_list:IxR X (Qm X.K):=by
 intro value slice pins s σ H x y v u Q I rx ry h hs;obtain⟨p,xs,i,z,rfl,rfl,hq,he,q⟩:=h;cases rx;obtain⟨t,rfl⟩:=ry;obtain⟨its,r,pl,hz⟩:=I.list hq;obtain⟨j,h1,h2,h3,h4,h5⟩:=Am he;obtain⟨w,ew,rw'⟩:=r.get h2;have hl:=r.length;have hn:=rT;have fin:EP X pins σ Q w s:=⟨z,H,I,rw',q⟩
 by_cases h0:0<=i
 ·have hj:i.toNat=j:=by
   rw[u6 h0 h5] at h1;exact ce h1
  exact item_listR pl.isList h0 (by omega) (by rw[hj];simpa using ew) fin hs
 ·have hj:(i+(its.toArray.size:Int)).toNat=j:=by
   rw[uc (by omega) h4] at h1;rw[bg,<- hl];exact ce h1
  exact qv (x:=w) pl.isList.typeIs slot_list_getitem.lookup
   (wpAny_getItem_list_neg (Q:=fun r s'=>r=w/\EP X pins σ Q r s') pl.isList (by omega) (by rw[bg] <;> omega) (by omega) (by rw[hj];simpa using ew) ⟨rfl,fin⟩) hs
theorem ix_tup:IxR X (Qk X.K):=by
 intro value slice pins s σ H x y v u Q I rx ry h hs;obtain⟨p,xs,i,z,rfl,rfl,hq,he,q⟩:=h;cases rx;obtain⟨t,rfl⟩:=ry;obtain⟨its,r,pl,hz⟩:=I.tuple hq;obtain⟨j,h1,h2,h3,h4,h5⟩:=Am he;obtain⟨w,ew,rw'⟩:=r.get h2;have hl:=r.length;have hn:=rT;have fin:EP X pins σ Q w s:=⟨z,H,I,rw',q⟩;exact qv (x:=w) pl.typeIs i8.lookup
  (getItem_tuple (j:=j) (Q:=fun r s'=>r=w/\EP X pins σ Q r s') pl (by omega) (by omega) (by rw[bg,<- hl];exact h1) (by simpa using ew) ⟨rfl,fin⟩) hs
theorem NG:IxR X Ql:=by
 intro value slice pins s σ H x y v u Q I rx ry h hs;obtain⟨z,i,c,rfl,rfl,hz,he,q⟩:=h;obtain⟨t,rfl⟩:=rx;obtain⟨t',rfl⟩:=ry;obtain⟨j,h1,h2,h3,h4,h5⟩:=Am he;have hl:z.cps.toList.length=z.length:=by simp[Str.length]
 rw[hl] at h1 h4 h5;have hn:=rT;exact tail_any (typeIs_str s z t) slot_str_getitem.lookup (getItem_str (c:=c) (by
  have e1:decide (i< -(2 ^ 63:Int))=false:=decide_eq_false (by omega);have e2:decide (i≥2 ^ 63)=false:=decide_eq_false (by omega);rw[e1,e2,Bool.or_false]) (by rw[h1];simpa using h2) ⟨.str ⟨#[c]⟩,H,I.tok _,⟨_,rfl⟩,q⟩) hs
noncomputable def rIx (K:aa):R2:=fun x y H Q=>Qm K x y H Q∨Qk K x y H Q∨Ql x y H Q
theorem NH:IxR X (rIx X.K):=ix_list.or (ix_tup.or NG)
theorem Cc (its:List ai) (n j:Nat) (u:ai):j6 (·.setIfInBounds j u) { cls:=.type "list",data:=.seq its.toArray n }={ cls:=.type "list",data:=.seq (its.set j u).toArray n }:=by
 simp[j6]
theorem Inv.lst (I:Inv X pins σ H s) (h:H p=we (.lst xs)):
  ∃(its:List ai) (n:Nat),Vals xs its/\s.heap.get? p=we { cls:=.type "list",data:=.seq its.toArray n }/\xs.length<=sizeLine:=by
 obtain⟨z,its,n,r,e⟩:=I.hok p _ h;exact⟨its,n,r,e,z⟩
theorem Inv.lstUpd {its its':List ai} (I:Inv X pins σ H s) (h:H p=we (.lst xs))
  (ho:s.heap.get? p=we { cls:=.type "list",data:=.seq its.toArray n }) (hf:f { cls:=.type "list",data:=.seq its.toArray n }={ cls:=.type "list",data:=.seq its'.toArray n' }) (r:Vals ys its') (hz:ys.length<=sizeLine) (t:Nat):
  Inv X pins σ (upd H p (.lst ys)) { s with heap:=s.heap.update p f,toks:=t }:=by
 have e:(s.heap.update p f).get? p=we { cls:=.type "list",data:=.seq its'.toArray n' }:=by
  rw[gg f ho (by rw[hf] <;> rfl),hf]
 refine I.write (x:=p) (e:=p) (by rw[h];trivial) (.inl rfl) (fun b u hb q=>(d5 _ _ (cy hb)).trans q) ⟨_,e⟩ ?_;exact⟨hz,its',n',r,e⟩
noncomputable def OZ:V->V->V->Hp->(Hp->Prop)->Prop:=fun o i v H Q=>∃ p xs k j,o=.ref p/\i=.int k/\H p=we (.lst xs)/\ixN xs.length k=we j/\Q (upd H p (.lst (xs.set j v)))
theorem FV:Qx X OZ:=by
 intro pins s σ H o i v ov iv u Q I ro ri rv h;obtain⟨p,xs,k,j,rfl,rfl,hp,hj,q⟩:=h;cases ro;obtain⟨t,rfl⟩:=ri;obtain⟨its,n,r,ho,hz⟩:=I.lst hp;obtain⟨h1,h2,h3,h4⟩:=Es hj;have hl:=r.length;have hn:=rT;have I':Inv X pins σ (upd H p (.lst (xs.set j v))) { s with heap:=s.heap.update p (j6 (·.setIfInBounds j u)) }:=
  I.lstUpd hp ho (Cc its n j u) (r.set rv j) (by rw[c9];exact hz) s.toks
 by_cases h0:0<=k
 ·have hk:k.toNat=j:=by
   rw[u6 h0 h4] at h1;exact ce h1
  exact PySem.W.ki_setAt ho h0 (by omega) (by rw[bg,<- hl];exact h4) (by rw[hk];exact⟨_,I',q⟩)
 ·have hk:(k+(its.toArray.size:Int)).toNat=j:=by
   rw[uc (by omega) h3] at h1;rw[bg,<- hl];exact ce h1
  exact PySem.W.ki_setBack ho (by omega) (by rw[bg,<- hl];exact h3) (by omega) (by rw[hk];exact⟨_,I',q⟩)
theorem vS (lo hi:Option Int) (n:Nat):(k8 lo hi wf n).1=((HT.sIx n 0 lo:Nat):Int)/\(k8 lo hi wf n).2.1=((HT.sIx n n hi:Nat):Int)/\(k8 lo hi wf n).2.2=1:=by
 refine⟨?_,?_,rfl⟩
 ·cases lo with
  |none=>simp[k8,HT.sIx]
  |some i=>
   simp only[k8,HT.sIx,u9,show(1:Int)>0 by decide,if_true]
   by_cases h:i<0
   ·simp only[h,if_true] <;> omega
   ·simp only[h,if_false] <;> omega
 ·cases hi with
  |none=>simp[k8,HT.sIx]
  |some i=>
   simp only[k8,HT.sIx,u9,show(1:Int)>0 by decide,if_true]
   by_cases h:i<0
   ·simp only[h,if_true] <;> omega
   ·simp only[h,if_false] <;> omega
theorem sZ (its:List ai) (lo hi:Option Int):slicePick its.toArray lo hi wf=((its.drop (HT.sIx its.length 0 lo)).take (HT.sIx its.length its.length hi-HT.sIx its.length 0 lo)).toArray:=by
 obtain⟨h1,h2,h3⟩:=vS lo hi its.toArray.size;unfold slicePick;rw[h1,h2,h3];simp only[sliceRange_one,pick_run,bg] <;> rfl
noncomputable def QO (K:aa):V->Option Int->Option Int->Hp->VK->Prop:=fun x lo hi H Q=>∃ a xs,x=.ref a/\SqL K H a xs/\∀ p,H p=wf->Q (.ref p) (upd H p (.lst (IU xs lo hi)))
theorem sl_list:SlR X (QO X.K):=by
 intro pins s σ H x v vl vu lo hi sl Q I rx hs pl pu h;obtain⟨a,xs,rfl,hx,q⟩:=h;cases rx;obtain⟨its,r,ht,hz⟩:=I.list hx;have hlen:=r.length;refine⟨"list",_,slot_list_getitem.lookup,ht.isList.typeIs,?_⟩;refine wpAny_getItem_list_slice ht.isList hs pl pu .none (by simp) ?_ (by rw[bg] <;> omega);rw[sZ,<- hlen];refine⟨.ref s.heap.objs.size,_,I.laid (t':=s.toks) (o:=.lst (IU xs lo hi)) (fun b ob q=>bh _ q) (bj _) ?_,rfl,q _ (I.hok.fresh (bj _))⟩;exact⟨ci (pQ xs lo hi) hz,_,0,(r.drop (HT.sIx xs.length 0 lo)).take (HT.sIx xs.length xs.length hi-HT.sIx xs.length 0 lo),b0 _ rfl⟩
theorem CallR.or (h:CallR X f r) (h':CallR X f r'):CallR X f (fun xs H Q=>r xs H Q∨r' xs H Q):=by
 intro pins s σ H xs us Q I rs q;rcases q with q|q
 ·exact h pins s σ H xs us Q I rs q
 ·exact h' pins s σ H xs us Q I rs q
theorem xS:CallR X (.type "list") (fun xs H Q=>∃ p ys,xs=[.ref p]/\(SqL X.K H p ys∨SqT X.K H p ys)/\∀ l,H l=wf->Q (.ref l) (upd H l (.lst ys))):=by
 intro pins s σ H xs us Q I r h;obtain⟨p,ys,rfl,hq,q⟩:=h;obtain⟨u,rfl,rx⟩:=lQ r;cases rx;have fin:∀(its:List ai),Vals ys its->ys.length<=sizeLine->∀(h':cx) (c':Nat),(∀ b o',s.heap.get? b=we o'->h'.get? b=we o')->
   h'.get? s.heap.objs.size=we { cls:=.type "list",dict:=wf,data:=.seq its.toArray c',slots:= #[] }->EP X pins σ Q (.ref s.heap.objs.size) { s with heap:=h' }:=fun its r' hz h' c' kp e=>
  ⟨.ref s.heap.objs.size,_,I.laid (t':=s.toks) kp (bj _) (show ObjOk X.prog X.w _ h' _ (.lst ys) from⟨hz,its,c',r',e⟩),rfl,q _ (I.hok.fresh (bj _))⟩
 rcases hq with hq|hq
 ·obtain⟨its,r',pl,hz⟩:=I.list hq;have hlen:=r'.length;obtain⟨o,ho,hc,n,hd⟩:=pl.isList;exact call_list_seq p (.inl rfl) ho hc hd (fun h' c' kp e=>fin its r' hz h' c' kp e) (by simp only[bg] <;> omega)
 ·obtain⟨its,r',pl,hz⟩:=I.tuple hq;have hlen:=r'.length;obtain⟨o,ho,hc,n,hd⟩:=pl;exact call_list_seq p (.inr rfl) ho hc hd (fun h' c' kp e=>fin its r' hz h' c' kp e) (by simp only[bg] <;> omega)
theorem uM:CallR X (.type "tuple") (fun xs H Q=>∃ p ys,xs=[.ref p]/\((SqL X.K H p ys/\∀ l,H l=wf->Q (.ref l) (upd H l (.tup ys)))∨(SqT X.K H p ys/\Q (.ref p) H))):=by
 intro pins s σ H xs us Q I r h;obtain⟨p,ys,rfl,h⟩:=h;obtain⟨u,rfl,rx⟩:=lQ r;cases rx;rcases h with⟨hq,q⟩|⟨hq,q⟩
 ·obtain⟨its,r',pl,hz⟩:=I.list hq;have hlen:=r'.length;refine call_tuple_list pl.isList (fun h' kp=> ?_) (by simp only[bg] <;> omega);have I1:Inv X pins σ H { s with heap:=h' }:=I.kept (t':=s.toks) kp;have I2:Inv X pins σ (upd H h'.objs.size (.tup ys)) { s with heap:=h'.push { cls:=.type "tuple",data:=.seq its.toArray } }:=
   I1.laid (t':=s.toks) (fun b o e=>bh _ e) (bj _) (show ObjOk X.prog X.w _ _ _ (.tup ys) from⟨hz,its,r',IsTup.new _ _⟩)
  exact⟨.ref h'.objs.size,_,I2,rfl,q _ (I1.hok.fresh (bj _))⟩
 ·obtain⟨its,r',pl,hz⟩:=I.tuple hq;exact call_tuple_same pl ⟨.ref p,H,I,rfl,q⟩
noncomputable def tyV (K:aa) (T:String) (x:V) (H:Hp):Prop:=match x with
 |.str _=>T="str"
 |.int _=>T="int"
 |.ref p=>(T="list"/\∃ xs,SqL K H p xs)∨(T="tuple"/\∃ o,K.lookup p=we o/\o.cls=.type "tuple"/\o.dict=wf)∨
   (T="dict"/\((∃ kvs,H p=we (.dK kvs))∨∃ kvs,H p=we (.dT kvs)))∨(T="set"/\∃ S n,H p=we (.set S n))
 |_=>False
theorem Iu (I:Inv X pins σ H s) (r:RelV x v) (ty:tyV X.K T x H):
  s.TypeIs v T/\∀ a,v=.ref a->∃ ob,s.heap.get? a=we ob/\ob.dict=wf:=by
 cases x with
 |str z=>
  obtain⟨t,rfl⟩:=r;cases (show T="str" from ty);exact⟨typeIs_str s z t,fun _ e=>nomatch e⟩
 |int i=>
  obtain⟨t,rfl⟩:=r;cases (show T="int" from ty);exact⟨typeIs_int s i t,fun _ e=>nomatch e⟩
 |ref p=>
  cases r;rcases ty with⟨rfl,xs,hq⟩|⟨rfl,o,hk,hc,hd⟩|⟨rfl,hk⟩|⟨rfl,S,n,hk⟩
  ·obtain⟨its,_,pl,_⟩:=I.list hq;refine⟨pl.isList.typeIs,fun a e=> ?_⟩;cases e;obtain⟨o,n,e,c,hd,_⟩:=pl;exact⟨o,e,hd⟩
  ·refine⟨⟨o,I.kIn p o hk,hc⟩,fun a e=> ?_⟩;cases e;exact⟨o,I.kIn _ o hk,hd⟩
  ·have z:∃ o,s.heap.get? p=we o/\o.ExactDict:=by
    rcases hk with⟨kvs,hk⟩|⟨kvs,hk⟩
    ·obtain⟨_,_,_,_,o,_,_,e,ex,_⟩:=I.hok p _ hk;exact⟨o,e,ex⟩
    ·obtain⟨_,_,_,_,o,_,_,e,ex,_⟩:=I.hok p _ hk;exact⟨o,e,ex⟩
   obtain⟨o,e,ex⟩:=z;refine⟨⟨o,e,ex.1⟩,fun a e2=> ?_⟩;cases e2;exact⟨o,e,ex.2.1⟩
  ·obtain⟨o,_,_,_,e,ex,_⟩:=I.hok p _ hk;refine⟨⟨o,e,ex.1⟩,fun a e2=> ?_⟩;cases e2;exact⟨o,e,ex.2.1⟩
 |_=>exact ik ty
noncomputable def QK (K:aa) (T:String) (r:V->List V->Hp->VK->Prop) (to:TE):TE:=fun σ H Q=>to σ H fun x H1=>tyV K T x H1/\r x [] H1 Q
noncomputable def tBM (K:aa) (T:String) (r:V->List V->Hp->VK->Prop) (to:TE) (t:TA):TE:=fun σ H Q=>to σ H fun x H1=>tyV K T x H1/\t σ H1 fun xs H2=>r x xs H2 Q
variable {o e:bw}{es:List bw}{to:TE}{t:TA}{name:Str}{apos cpos:Pos}{T id:String}{r:V->List V->Hp->VK->Prop}
theorem My (pa:PlainAttrs T) (slot:Slot T name id) (hty:typeOf (.builtin id)=pure (.type "method_descriptor")) (hm:MtR X id r) (ho:PE X o to)
  (hbase:gv o name X.env (eval o X.env)=eval o X.env:=by rfl) (hline:(apos.endLine==cpos.line)=true:=by rfl):PE X (.Call (.Attribute o name apos) [] [] cpos) (QK X.K T r to):=by
 intro pins s σ H Q I h;refine wpAny_Call_method0_late hbase hline (thn (ho pins s σ H _ I h) fun v s1 ⟨x,H1,I1,r1,ty,q1⟩=> ?_);obtain⟨h1,h2⟩:=Iu I1 r1 ty;exact⟨T,id,pa,slot,hty,h1,h2,qw rfl (PySem.evalArgs_none (hm pins s1 σ H1 x [] v [] Q I1 r1 .nil q1))⟩
theorem Mz (pa:PlainAttrs T) (slot:Slot T name id) (hty:typeOf (.builtin id)=pure (.type "method_descriptor")) (hm:MtR X id r) (ho:PE X o to) (ha:PA X (e::es) t)
  (hbase:gv o name X.env (eval o X.env)=eval o X.env:=by rfl)
  (hfew:((de cpos (ar (e::es) X.env)).all (fun x=> !x.1)&&(jk cpos (hV [] X.env)).all (fun x=>x.1.isSome)
   &&decide ((e::es).length+([]:List jf).length+(if([]:List jf).isEmpty then 0 else 1)<30))=true:=by rfl)
  (hline:(apos.endLine==cpos.line)=true:=by rfl) (hs:ar (e::es) X.env=(false,eval e X.env)::ar es X.env:=by rfl) (hplain:(de cpos (ar es X.env)).any (·.1)=false:=by rfl):
  PE X (.Call (.Attribute o name apos) (e::es) [] cpos) (tBM X.K T r to t):=by
 intro pins s σ H Q I h;refine wpAny_Call_method_late hbase hfew hline rfl (thn (ho pins s σ H _ I h) fun v s1 ⟨x,H1,I1,r1,ty,q1⟩=> ?_);obtain⟨h1,h2⟩:=Iu I1 r1 ty;refine⟨T,id,pa,slot,hty,h1,h2,?_⟩;have hA:=ha cpos pins s1 σ H1 _ I1 q1;rw[hs] at hA ⊢;refine qw (by show(false||(de cpos (ar es X.env)).any (·.1))=false;rw[hplain] <;> rfl) (sg ?_);exact thn hA fun us s2 ⟨vs,H2,I2,r2,q2⟩=>hm pins s2 σ H2 x vs v us Q I2 r1 r2 q2
end
end L2
namespace L2
noncomputable def MtM (X:Cx) (id:String) (r:V->List V->Hp->VK->Prop):Prop:=
 ∀(pins:List (af×Obj)) (s:aq) (σ:St) (H:Hp) (x:V) (xs:List V) (v:ai) (us:List ai) (Q:VK),Inv X pins σ H s->RelV x v->Vals xs us->r x xs H Q->
  bf (model X.prog X.w) X.A (call (.builtin id) (v::us)) (EP X pins σ Q) X.xe s
theorem Vals.one:∀ {x:V}{us:List ai},Vals [x] us->∃ u,us=[u]/\RelV x u
 |_,_,.cons r .nil=>⟨_,rfl,r⟩
theorem Vals.eraseIdx:∀ {xs:List V}{us:List ai} (i:Nat),Vals xs us->Vals (xs.eraseIdx i) (us.eraseIdx i)
 |_,_,_,.nil=>.nil
 |_,_,0,.cons _ t=>t
 |_,_,i+1,.cons r t=>.cons r (Vals.eraseIdx i t)
theorem Vals.rep (h:Vals xs us):∀ k:Nat,Vals (ax k xs).flatten (ax k us).flatten
 |0=>.nil
 |k+1=>by
  rw[d7,d7,iw,iw];exact Vals.append h (Vals.rep h k)
theorem wN:∀(l:List α) (i:Nat),(l.eraseIdx i).length<=l.length
 |[],_=>bj _
 |_::_,0=>Nat.le_succ _
 |_::r,i+1=>Nat.succ_le_succ (wN r i)
theorem xD (its:List ai):∀(k:Nat) (acc:List ai),
  vj (fun x1 x2=>x1++x2) acc.toArray (ax k its.toArray)=(acc++(ax k its).flatten).toArray
 |0,acc=>by simp
 |k+1,acc=>by
  have e:acc.toArray++its.toArray=(acc++its).toArray:=by simp
  have e2:(acc++its)++(ax k its).flatten=acc++(ax (k+1) its).flatten:=by
   rw[d7,iw,dy]
  rw[<- e2,<- xD its k (acc++its),<- e,d7,vk]
section
variable {X:Cx}{pins:List (af×Obj)}{σ:St}{H:Hp}{s:aq}{l b:af}{xs ys zs:List V}
theorem Inv.lset {its its':List ai} (I:Inv X pins σ H s) (hH:H l=we (.lst xs))
  (e:s.heap.get? l=we { cls:=.type "list",data:=.seq its.toArray n }) (hf:f its.toArray=its'.toArray) (hv:Vals ys its') (hz:ys.length<=sizeLine):
  Inv X pins σ (upd H l (.lst ys)) { s with heap:=s.heap.update l (j6 f),toks:=t' }:=by
 have q:=PySem.IsL.update e f;rw[hf] at q;refine I.write (x:=l) (e:=l) (by rw[hH];exact trivial) (.inl rfl) (fun b' u hb hu=>(d5 s.heap (j6 f) (cy hb)).trans hu) ⟨_,q⟩ ?_;exact⟨hz,its',_,hv,q⟩
theorem Inv.lnew (I:Inv X pins σ H s) (hv:Vals ys its) (hz:ys.length<=sizeLine):
  Inv X pins σ (upd H s.heap.objs.size (.lst ys)) { s with heap:=s.heap.push { cls:=.type "list",data:=.seq its.toArray },toks:=t' }:=
 I.laid (fun _ _ q=>bh _ q) (bj _) ⟨hz,its,0,hv,b0 _ rfl⟩
theorem Inv.fresh (I:Inv X pins σ H s):H s.heap.objs.size=wf:=I.hok.fresh (bj _)
theorem Inv.lstM (I:Inv X pins σ H s) (hH:H l=we (.lst xs)):xs.length<=sizeLine/\∃(its:List ai) (n:Nat),Vals xs its/\xs.length=its.length/\s.heap.get? l=we { cls:=.type "list",data:=.seq its.toArray n }:=by
 obtain⟨z,its,n,r,e⟩:=I.hok l _ hH;exact⟨z,its,n,r,r.length,e⟩
theorem GK (h:n<=sizeLine):l9 n=false:=by
 unfold l9;exact decide_eq_false (by omega)
end
section
variable {X:Cx}
noncomputable def Dw:V->List V->Hp->VK->Prop:=fun x vs H Q=>∃ l xs y,x=.ref l/\vs=[y]/\H l=we (.lst xs)/\xs.length<sizeLine/\Q .non (upd H l (.lst (xs++[y])))
theorem wK:MtM X "list.append" Dw:=by
 intro pins s σ H x vs v us Q I rx rv h;obtain⟨l,xs,y,rfl,rfl,hH,hz,q⟩:=h;cases rx;obtain⟨u,rfl,ru⟩:=rv.one;obtain⟨z,its,n,r,hl,e⟩:=I.lstM hH;refine sh rj ⟨_,e,rfl⟩ F.entry_list_append (F.args_list_append_2 _ _) (PySem.list_append l its.toArray n u (by rw[bg];omega)) ⟨e,?_⟩;refine⟨.non,_,I.lset (its':=its++[u]) hH e (by simp) (r.append (.cons ru .nil)) ?_,rfl,q⟩;rw[b7,gk];omega
noncomputable def Iw:V->List V->Hp->VK->Prop:=fun x vs H Q=>∃ l xs i k y,x=.ref l/\vs=[.int i]/\H l=we (.lst xs)/\ -(2 ^ 63)<=i/\i<2 ^ 63/\ub i xs.length=we k/\xs[k]?=we y/\Q y (upd H l (.lst (xs.eraseIdx k)))
theorem GQ:MtM X "list.pop" Iw:=by
 intro pins s σ H x vs v us Q I rx rv h;obtain⟨l,xs,i,k,y,rfl,rfl,hH,h1,h2,hk,hy,q⟩:=h;cases rx;obtain⟨u,rfl,ru⟩:=rv.one;obtain⟨t,rfl⟩:=ru;obtain⟨z,its,n,r,hl,e⟩:=I.lstM hH;obtain⟨w,hw,rw'⟩:=r.get hy;refine sh ud ⟨_,e,rfl⟩ F.entry_list_pop (F.args_list_pop_2 _ _)
  (MeetsSeq.list_pop_at l its.toArray n i t k w (fitsIndex_both h1 h2) (by rw[bg,<- hl];exact hk) (by rw[<- gl];exact hw) (by rw[bg];omega)) ⟨e,?_⟩
 refine⟨y,_,I.lset (its':=its.eraseIdx k) hH e ?_ (r.eraseIdx k) ?_,rw',q⟩
 ·show its.toArray.eraseIdxIfInBounds k=(its.eraseIdx k).toArray;rw[List.eraseIdxIfInBounds_toArray]
 ·have:=wN xs k
  omega
noncomputable def QR:R2:=fun x y H Q=>∃ l b xs zs,x=.ref l/\y=.ref b/\H l=we (.lst xs)/\H b=we (.lst zs)/\xs.length+zs.length<=sizeLine/\∀ p,H p=wf->Q (.ref p) (upd H p (.lst (xs++zs)))
theorem Na:OpR X (kc .Add) QR:=by
 intro pins s σ H x y v u Q I rx ry h;obtain⟨l,b,xs,zs,rfl,rfl,hH,hB,hz,q⟩:=h;cases rx;cases ry;obtain⟨z,its,n,r,hl,e⟩:=I.lstM hH;obtain⟨z2,its2,n2,r2,hl2,e2⟩:=I.lstM hB;refine PySem.P.add_list e e2 ?_ (by rw[bg,bg];omega);have ea:its.toArray++its2.toArray=(its++its2).toArray:=by simp
 rw[ea];exact⟨.ref _,_,I.lnew (t':=s.toks) (r.append r2) (by rw[b7];omega),rfl,q _ I.fresh⟩
noncomputable def QP:R2:=fun x y H Q=>∃ l k xs,x=.ref l/\y=.int k/\H l=we (.lst xs)/\ -(2 ^ 63)<=k/\k<2 ^ 63/\xs.length*k.toNat<=sizeLine/\
 ∀ p,H p=wf->Q (.ref p) (upd H p (.lst (ax k.toNat xs).flatten))
theorem Kt (xs:List α) (k:Nat):(ax k xs).flatten.length=k*xs.length:=by
 induction k with
 |zero=>simp
 |succ k ih=>rw[d7,iw,b7,ih,Nat.succ_mul,Nat.add_comm]
theorem MS:OpR X (kc .Mult) QP:=by
 intro pins s σ H x y v u Q I rx ry h;obtain⟨l,k,xs,rfl,rfl,hH,h1,h2,hz,q⟩:=h;cases rx;obtain⟨t,rfl⟩:=ry;obtain⟨z,its,n,r,hl,e⟩:=I.lstM hH;have hlen:its.toArray.size*k.toNat<=sizeLine:=by rw[bg,<- hl];exact hz
 have hcap:¬ its.toArray.size*k.toNat>(2 ^ 63-1) / 8:=by
  have:(sizeLine:Nat)<=(2 ^ 63-1) / 8:=by decide
  omega
 have hfit:¬(!Builtin.List.listFitsIndex k)=true:=by
  rw[fitsIndex_both h1 h2];exact ck
 have hlong:¬ l9 (its.toArray.size*k.toNat)=true:=by
  rw[GK hlen];exact ck
 have hnew:vj (fun x1 x2=>x1++x2) #[] (ax (if its.toArray.isEmpty=true then 0 else k.toNat) its.toArray)=(ax k.toNat its).flatten.toArray:=by
  have f0:∀ m:Nat,vj (fun x1 x2=>x1++x2) #[] (ax m its.toArray)=(ax m its).flatten.toArray:=fun m=>by
   have:=xD its m []
   rw[List.nil_append] at this;exact this
  rw[f0];cases its with
  |nil=>simp
  |cons a r'=>rw[if_neg (by simp)]
 refine wpAny_binaryOp_repeat_ref (T:="list") (U:="int") (by decide) ⟨_,e,rfl⟩ (fun s'=>typeIs_int s' k t) noFill_list_mul F.fills_int_mul F.slot_int_rmul repeat_list F.slot_int_index.lookup
  (sh F.slot_int_rmul (typeIs_int s k t) F.entry_int_rmul (F.args_int_rmul_2 _ _) (int___rmul___int_list k t l its.toArray n)
   ⟨e,rfl,⟨_,e,rfl⟩,sh F.slot_list_mul ⟨_,e,rfl⟩ F.entry_list_mul (F.args_list_mul_2 _ _) (AutoListH.list___mul___list_int_3 l its.toArray n k t hfit hcap hlong) ⟨e,?_⟩⟩)
 rw[hnew];exact⟨.ref _,_,I.lnew (t':=s.toks) (r.rep k.toNat) (by rw[Kt,Nat.mul_comm];exact hz),rfl,q _ I.fresh⟩
end
section
variable {prog:da}{w:df}{A:dh}{E:ai->aq->Prop}{s:aq}
set_option maxRecDepth 100000 in
end
section
variable {X:Cx}
end
end L2
namespace Att
open PySem PySem.W PySem.Calls PyProof.Rows
theorem oW:∀(ns:List Int) (vs:List ai),WellAll P h vs (ns.map WData.int)->j5 vs ns:=by
 intro ns
 induction ns with
 |nil=>
  intro vs w;rw[ki] at w;cases w;exact .nil
 |cons n ns ih=>
  intro vs w;rw[bp] at w;cases w with
  |cons a b=>
   cases a;exact .cons _ _ (ih _ b)
theorem Dk {l:OpenLaw} (hn:l.most=we n)
  (hpre:l.row.toRowW.claim.pre args=true) (hwl:WellAll P h vals args):
  ∃ a vs ns,vals=[b9 a]/\args=[WData.list (ns.map WData.int)]/\h.get? a=we { cls:=.type "list",data:=.seq vs.toArray }/\j5 vs ns/\ns.length<=n:=by
 have hsh:WShape.hasAll [] args [.list .int]=true:=(pre_splitW hpre).1;have hc:l.pre.holds [] { args:=args }=true:=(pre_splitW hpre).2;obtain⟨d,r,rfl,h1,h2⟩:=hasAllW_cons hsh;obtain rfl:=hasAllW_nil h2;obtain⟨xs,rfl,h3⟩:=hasW_list h1;obtain⟨ns,rfl⟩:=items_int h3;have hlen:ns.length<=n:=by
  unfold OpenLaw.pre at hc;have h4:(WTm.not (.lt (.lit (.int (n:Int))) (.len (.arg 0)))).holds [] { args:=[.list (ns.map .int)] }=true:=by
   have h4:=(holds_andW hc).1;rw[hn] at h4;exact h4
  have h5:=condW_of h4 (w_not (w_lt w_lit (w_len_list (w_arg rfl))));rw[av] at h5;refine Nat.le_of_not_lt fun q=> ?_;have q':(n:Int)<((ns.length:Nat):Int):=by omega
  first
   |(rw[decide_eq_true q'] at h5;exact absurd h5 (by decide))
   |(simp at h5;omega)
 cases hwl with
 |cons w1 w2=>
  cases w2;cases w1 with
  |list ho hall=>exact⟨_,_,ns,rfl,rfl,ho,oW ns _ hall,hlen⟩
theorem Dx (l:OpenLaw) (args:List WData):l.row.toRowW.claim.post args (.bool true) args=true:=
 postW_of (r:=l.row.toRowW) (X:=(true==true))
  (show WShape.has [] (.bool true) .bool=true by first|rfl|decide|simp[WShape.has,WShape.arms,WShape.armsAll])
  (show(WTm.eq .res (.lit (.bool true))).value [] { args:=args,res:=we (.bool true),after:=args }=we (.bool (true==true)) from w_eq_bool (w_res rfl) w_lit) rfl
theorem attach_call {l:OpenLaw}
  (hn:l.most=we n) (hdf:d.params.defaults=[])
  (call:∀(w:df) (s₀ s₁:aq) (mg mb:Str->Option ai) (fa:af) (o:Obj) (pm cd doc:ai) (a:af) (vs:List ai) (ns:List Int),
   Ground q loose [] XP w s₀ mg mb s₁.heap->YP w s₁.heap->
   s₁.heap.get? fa=we o->o.data=.func (docDef d.name d.params d.body d.scope pm cd doc)->s₁.heap.CodeRec cd d.name->mg d.name=we (.ref fa)->
   s₁.heap.get? a=we { cls:=.type "list",data:=.seq vs.toArray }->j5 vs ns->ns.length<=n->s₁.gens= #[]->
   nu (model l.prog w) ow (.call (.ref fa) ⟨[.ref a],[]⟩) (fun r s'=>r=.ok (.ret (.bool true))/\OldK s₁.heap s'.heap/\s'.os=s₁.os/\mf s'.gens) s₁):
  WalkO q loose XP YP l.row.toRowW d [] (fun f vs=>vm f vs):=by
 intro w s₀ s₁ mg mb G Y fa o pm cd doc dV kV ho hd hcd hD hmg hg args vals as hpre hlay hrd hwl hlo;obtain rfl:dV=.none:=Dflts.none hD hdf;obtain rfl:kV=.none:=Dflts.noKw hD;obtain⟨a,vs,ns,rfl,rfl,hobj,hints,hlen⟩:=Dk hn hpre hwl;refine enter_call (p8 (call w s₀ s₁ mg mb fa o pm cd doc a vs ns G Y ho (fd_plain hd) hcd hmg hobj hints hlen hg) fun r s' hq=> ?_);obtain⟨rfl,h2,h3,h4⟩:=hq;exact⟨.inl ⟨.bool true,.bool true,[],rfl,fun _=>rfl,.bool true,Dx l _,fun _=>⟨List.Pairwise.nil,fun _ hm=>(nomatch hm)⟩⟩,h2,h3,h4⟩
section
variable {prog:da}{w:df}{A:dh}{E:ai->aq->Prop}{s:aq}{K:Frag}
end
end Att
namespace L2
theorem vI:∀ {vs:List ai}{ns:List Int},j5 vs ns->Vals (ns.map V.int) vs
 |_,_,.nil=>.nil
 |_,_,.cons n t h=>.cons ⟨t,rfl⟩ (vI h)
noncomputable def Qa (H:Hp):Prop:=∀ b,H b=wf∨∃ o xs,H b=we (.frz o (.lst xs))
theorem GV {K:aa}
  (KX:K.In s₁.heap) (hns:s₁.heap.Ns ca mg) (hb:s₁.heap.Ns builtinsNs mb) (hbb:∀ x:Str,x≠"__name__"->mb x=dc x) (hlim:s₁.heap.NoLimit) (hg:s₁.gens= #[])
  (ha:s₁.heap.get? a=we { cls:=.type "list",data:=.seq vs.toArray }) (hi:j5 vs ns) (hl:ns.length<=sizeLine) (hr:Room k ow)
  (F:∀ base:cx,K.In base->base.Ns ca mg->rA P w K mg base CX k fa fd [x] sp) (hbind:∀(s:aq) (u:ai),rg s fd ⟨[u],[]⟩ [(x,u)])
  (hsp:∀ H:Hp,Qa H->SqL K H a (ns.map V.int)->sp [.ref a] H (fun v _=>v=.bl true) fun _ _ _=>False)
  (hCX:∀ H e s',CX [] H s₁ (fun _ _ _=>False) e s'->False):
  nu (model P w) ow (.call (.ref fa) ⟨[.ref a],[]⟩) (fun r s'=>r=.ok (.ret (.bool true))/\OldK s₁.heap s'.heap/\s'.os=s₁.os/\mf s'.gens) s₁:=by
 have rv:=vI hi;have lenV:=hi.length
 -- from an abstract heap in which nothing but the script may be tracked
 have core:∀ H:Hp,Qa H->SqL K H a (ns.map V.int)->HOk P w H s₁.heap->(∀ b,H b≠wf->b=a)->(H a≠wf->K.lookup a=wf)->
   nu (model P w) ow (.call (.ref fa) ⟨[.ref a],[]⟩) (fun r s'=>r=.ok (.ret (.bool true))/\OldK s₁.heap s'.heap/\s'.os=s₁.os/\mf s'.gens) s₁:=by
  intro H hO hS hok hA hK;have base_of:∀ {b:af}{o:Obj},s₁.heap.get? b=we o->H b=wf->(Hj s₁.heap H).get? b=we o:=fun e n=>Hi e n;have noA:∀ {b:af}{o:Obj}{es:Array ko}{ep:Nat},s₁.heap.get? b=we o->o.data=.dict es ep->H b=wf:=fun {b o es ep} e d=>by
   cases q:H b with
   |none=>rfl
   |some u=>
    have e':b=a:=hA b (by rw[q];simp);subst e';rw[ha] at e;cases e;have d':Data.seq vs.toArray _=v7 es ep:=d;cases d'
  have nsK:∀ {b:af}{m:Str->Option ai},s₁.heap.Ns b m->(Hj s₁.heap H).Ns b m:=fun {b m} ⟨o,es,ep,e,d,r⟩=>⟨o,es,ep,base_of e (noA e d),d,r⟩;have hKb:K.In (Hj s₁.heap H):=fun b o e=>base_of (KX b o e) (by
   cases q:H b with
   |none=>rfl
   |some u=>
    have e':b=a:=hA b (by rw[q];simp);subst e';rw[hK (by rw[q];simp)] at e;cases e)
  have hM:Mod K mg (Hj s₁.heap H):=⟨hKb,nsK hns,⟨mb,nsK hb,hbb⟩,let ⟨mc,h1,h2⟩:=hlim;⟨mc,nsK h1,h2⟩⟩;have e0:Env0 P w K mg (Hj s₁.heap H) ow [] s₁ H:=⟨rfl,hM,fun b o e=>JR e,t7 (Ew _ _),trivial,fun b hb=>absurd (show b∈([]:List af) from hb) (by simp),hok,.of_eq hg⟩;refine p8 ((F _ hKb (nsK hns)).run ow [] s₁ H ⟨[.ref a],[]⟩ [.ref a] [.ref a] _ _ hr e0 (hbind s₁ (.ref a)) (.cons rfl .nil) (hsp H hO hS)) fun r s' h=> ?_;cases r with
  |error e=>exact(hCX H e s' h).elim
  |ok fl=>
   cases fl with
   |next=>exact ik h
   |brk=>exact ik h
   |cont=>exact ik h
   |ret u=>
    obtain⟨v,H',os,bare,un,hok',r',q⟩:=h;have q':v=.bl true:=q;subst q';obtain rfl:u=se true:=r';refine⟨rfl,OldK.of_keep fun b o e=> ?_,os,bare⟩;cases q:H b with
    |none=>exact un.keep b o e q (by intro z;exact absurd (show b∈([]:List af) from z) (by simp)) (by simp)
    |some u=>
     rcases hO b with z|⟨ob,xs,z⟩
     ·rw[q] at z;cases z
     ·have z2:=un.frzs b ob _ z;obtain⟨e1,_⟩:=hok b _ z;obtain⟨e2,_⟩:=hok' b _ z2;rw[e] at e1;cases e1;exact e2
 cases hk:K.lookup a with
 |some o=>
  -- the script is one of the module's own objects
  have e:=KX a o hk;rw[ha] at e;cases e;refine core (fun _=>wf) (fun _=>.inl rfl) (.inr ⟨_,vs.toArray,_,hk,rfl,rfl,rfl,by rw[bg,lenV];exact hl,by simpa using rv⟩) (fun b u z=>by have z':(wf:Option HO)=we u:=z;cases z') (fun b z=>absurd rfl z) fun z=>absurd rfl z
 |none=>
  refine core (fun b=>if b=a then we (.frz { cls:=.type "list",data:=.seq vs.toArray } (.lst (ns.map V.int))) else wf) (fun b=> ?_) (.inl (.inr ⟨{ cls:=.type "list",data:=.seq vs.toArray },if_pos rfl⟩)) (fun b u z=> ?_) (fun b z=> ?_) fun _=>hk
  ·by_cases hb:b=a
   ·exact .inr ⟨_,_,if_pos hb⟩
   ·exact .inl (if_neg hb)
  ·by_cases hb:b=a
   ·have z':=(if_pos hb).symm.trans z;cases z';subst hb;exact⟨ha,by rw[av];exact hl,vs,_,rv,ha⟩
   ·have z':=(if_neg hb).symm.trans z;cases z'
  ·by_cases hb:b=a
   ·exact hb
   ·exact absurd (if_neg hb) z
end L2
namespace L2
theorem walk_of {l:vn}{K:Params->aa}{CX:df->CXT}{sp:df->Sp}
  (hn:l.most=we n) (hn2:n<=sizeLine) (hdf:d.params.defaults=[]) (hr:Room k ow)
  (hY:∀(w:df) (h:cx),YP w h->(K w.params).In h)
  (F:∀(w:df) (mg:Str->Option ai) (fa:af) (h:cx),(K w.params).In h->h.Ns ca mg->mg d.name=we (.ref fa)->
   ∃ fd:jj,(∀(s:aq) (u:ai),rg s fd ⟨[u],[]⟩ [(x,u)])/\
    ∀ base:cx,(K w.params).In base->base.Ns ca mg->rA l.prog w (K w.params) mg base (CX w) k fa fd [x] (sp w))
  (hsp:∀(w:df) (H:Hp) (a:af) (ns:List Int),ns.length<=n->Qa H->SqL (K w.params) H a (ns.map V.int)->sp w [.ref a] H (fun v _=>v=.bl true) fun _ _ _=>False)
  (hCX:∀(w:df) (H:Hp) (s:aq) (e:ai) (s':aq),CX w [] H s (fun _ _ _=>False) e s'->False):
  v9 q loose XP YP l.row.toRowW d [] (fun f vs=>vm f vs):=by
 refine Att.attach_call hn hdf fun w s₀ s₁ mg mb fa o pm cd doc a vs ns G Y ho hd hcd hmg hobj hints hlen hg=> ?_;have KX:=hY w _ Y;obtain⟨fd,hb,hF⟩:=F w mg fa _ KX G.T.g hmg;exact GV KX G.T.g G.T.b G.T.builtins G.T.nolimit hg hobj hints (ci hlen hn2) hr hF hb (fun H hO hS=>hsp w H a ns hlen hO hS) fun H e s'=>hCX w H s₁ e s'
end L2
namespace L2
noncomputable def bQ (s:cu) (j:Nat):cu:=match s with
 |.ClassDef _ _ _ body _ _ _ _ _ _ _=>body.getD j (.Pass ⟨0,0,0,0⟩)
 |_=>.Pass ⟨0,0,0,0⟩
noncomputable def gU (s:cu):Arguments:=match s with
 |.FunctionDef _ a _ _ _ _ _ _ _ _=>a
 |_=>{ posonlyargs:=[],args:=[],vararg:=wf,kwonlyargs:=[],kw_defaults:=[],kwarg:=wf,defaults:=[] }
noncomputable def fQ (s:cu):List cu:=match s with
 |.FunctionDef _ _ b _ _ _ _ _ _ _=>b
 |_=>[]
noncomputable def aZ (s:cu):j0:=match s with
 |.FunctionDef _ _ _ _ _ _ sc _ _ _=>sc
 |_=>{ kind:=.function,names:=[],isGenerator:=false,isCoroutine:=false }
structure Fun (K:aa) (x qual:Str) (st:cu) (f:af) (fd:jj):Prop where
 ex:∃(oc:ai) (od:Option af) (kV doc pm:ai) (an:Option af) (cdv ct:ai) (osl:Array (Option ai)),
  fd=ie x qual (gU st) (fQ st) (aZ st) .none kV doc pm an cdv ct/\K.lookup f=we ⟨oc,od,.func fd,osl⟩/\ju K cdv qual=true
 kp:ga K (.ref f)=true
section
variable {P:da}{w:df}{K:aa}{mg:Str->Option ai}{base:cx}
theorem Fun.binds {st:cu} (F:Fun K x qual st f fd)
  (h:∀(kV doc pm:ai) (an:Option af) (cdv ct:ai) (us:List ai),us.length=ps.length->bindArgs (ie x qual (gU st) (fQ st) (aZ st) .none kV doc pm an cdv ct) ⟨us,[]⟩=pure (ps.zip us)):Binds K fd ps []:=by
 obtain⟨oc,od,kV,doc,pm,an,cdv,ct,osl,rfl,lk,hcd⟩:=F.ex;exact .all (h kV doc pm an cdv ct)
theorem IR {st:cu}{kV doc pm cdv ct:ai} (l:K.lookup f=we ⟨oc,od,.func (ie x qual (gU st) (fQ st) (aZ st) .none kV doc pm an cdv ct),osl⟩)
  (c:ju K cdv qual=true) (k:ga K (.ref f)=true):Fun K x qual st f (ie x qual (gU st) (fQ st) (aZ st) .none kV doc pm an cdv ct):=⟨⟨oc,od,kV,doc,pm,an,cdv,ct,osl,rfl,l,c⟩,k⟩
end
theorem PB (hr:Room k A):A.units+1<dm:=ma (Nat.add_le_add_left (by decide:1<=64) _) hr.units
section
variable {X:Cx}
end
theorem LA {A B:Prop} (h:B):if false=true then A else B:=by
 rw[if_neg ck];exact h
theorem Lz {A B:Prop} (h:A):if true=true then A else B:=by
 rw[if_pos rfl];exact h
noncomputable def Same (H H':Hp):Prop:=∀ b o,H b=we o->H' b=we o
theorem Same.refl (H:Hp):Same H H:=fun _ _ h=>h
theorem Same.trans (a:Same H H1) (b:Same H1 H2):Same H H2:=fun c o h=>b c o (a c o h)
theorem Same.free (e:Same H H') (h:H' l=Option.none):H l=Option.none:=by
 cases q:H l with
 |none=>rfl
 |some o=>
  rw[e l o q] at h;cases h
end L2
end
section
namespace L2
section
variable {κ:Type} [DecidableEq κ]
noncomputable def vJ (kvs:List (κ×V)) (k:κ):Option V:=(kvs.find? fun kv=>decide (kv.1=k)).map (·.2)
noncomputable def qG (kvs:List (κ×V)) (k:κ) (v:V):List (κ×V):=
 if(kvs.any fun kv=>decide (kv.1=k))=true then kvs.map (fun kv=>if kv.1=k then(kv.1,v) else kv) else kvs++[(k,v)]
noncomputable def xI (kvs:List (κ×V)) (k:κ):List (κ×V):=kvs.filter fun kv=>decide (kv.1≠k)
theorem mY {k:κ} (e:p.1=k):vJ (p::r) k=we p.2:=by simp[vJ,gn,e]
theorem kJ {k:κ} (e:¬ p.1=k):vJ (p::r) k=vJ r k:=by simp[vJ,gn,e]
theorem AK (k:κ):∀ kvs:List (κ×V),(kvs.any fun kv=>decide (kv.1=k))=(vJ kvs k).isSome
 |[]=>rfl
 |p::r=>by
  rw[ku]
  by_cases e:p.1=k
  ·simp only[mY e,decide_eq_true e,Bool.true_or,uf]
  ·rw[kJ e,decide_eq_false e,Bool.false_or];exact AK k r
theorem kA (kvs:List (κ×V)) (k:κ) (v:V):(qG kvs k v).length<=kvs.length+1:=by
 unfold qG;split
 ·rw[av];omega
 ·rw[b7,bv,lq];omega
theorem RelO.isSome_eq (r:RelO o u):o.isSome=u.isSome:=by
 cases o with
 |none=>cases u with
  |none=>rfl
  |some _=>exact(show False from r).elim
 |some _=>cases u with
  |none=>exact(show False from r).elim
  |some _=>rfl
theorem KV.val (r:KV kvs vs) (k:κ):RelO (vJ kvs k) (p7 vs k):=by
 unfold KV at r
 induction r with
 |nil=>exact gs
 |@cons p q ps qs h t ih=>
  obtain⟨h1,h2⟩:=h
  by_cases e:p.1=k
  ·have e':q.1=k:=h1.symm.trans e;have b:p7 (q::qs) k=we q.2:=by simp[p7,gn,e']
   rw[mY e,b];exact h2
  ·have e':¬ q.1=k:=fun z=>e (h1.trans z);have b:p7 (q::qs) k=p7 qs k:=by simp[p7,gn,e']
   rw[kJ e,b];exact ih
theorem KV.any (r:KV kvs vs) (k:κ):(kvs.any fun kv=>decide (kv.1=k))=vs.any fun kv=>decide (kv.1=k):=by
 unfold KV at r
 induction r with
 |nil=>rfl
 |cons h t ih=>rw[ku,ku,ih,h.1]
theorem KV.repl (r:KV kvs vs) (k:κ) (ry:RelV y u):
  KV (kvs.map fun kv=>if kv.1=k then(kv.1,y) else kv) (vs.map fun kv=>if kv.1=k then(kv.1,u) else kv):=by
 unfold KV at r ⊢
 induction r with
 |nil=>exact .nil
 |@cons p q ps qs h t ih=>
  rw[bp,bp];refine .cons ?_ ih;obtain⟨h1,h2⟩:=h
  by_cases e:p.1=k
  ·rw[if_pos e,if_pos (h1.symm.trans e)];exact⟨h1,ry⟩
  ·rw[if_neg e,if_neg (fun z=>e (h1.trans z))];exact⟨h1,h2⟩
theorem KV.put (r:KV kvs vs) (k:κ) (ry:RelV y u):KV (qG kvs k y) (stored vs k u):=by
 unfold qG stored;rw[r.any k]
 by_cases e:(vs.any fun kv=>decide (kv.1=k))=true
 ·rw[if_pos e,if_pos e];exact r.repl k ry
 ·rw[if_neg e,if_neg e];exact Paired.snoc r ⟨rfl,ry⟩
theorem KV.length {vs:List (κ×ai)} (r:KV kvs vs):kvs.length=vs.length:=iz r
theorem HV (kvs:List (κ×V)) (k:κ):(xI kvs k).length<=kvs.length:=jh _ _
end
theorem Ha (r:RelV (kV k) u):(aI P w).is k u=true:=by
 cases k with
 |inl i=>obtain⟨t,e⟩:=(show ∃ t,u=tw i t from r);subst e;exact yY P w i t
 |inr x=>obtain⟨t,e⟩:=(show ∃ t,u=tz x t from r);subst e;exact yX P w x t
theorem wS:∀ {ks:List Key}{us:List ai},Vals (ks.map kV) us->ItemsAre (aI P w) ks us
 |[],_,r=>by rw[ki] at r;cases r;exact .nil
 |k::ks,_,r=>by
  rw[bp] at r;cases r with
  |cons h t=>exact .cons (Ha h) (wS t)
noncomputable abbrev KT (H:Hp):List (List Key×V)->List (List Key×af×ai)->Prop:=iq fun p q=>p.1=q.1/\H q.2.1=we (.tup (p.1.map kV))/\RelV p.2 q.2.2
theorem KT.val (r:KT H kvs xs) (k:List Key):RelO (vJ kvs k) ((kr xs k).map (·.2)):=by
 induction r with
 |nil=>exact gs
 |@cons p q ps qs h t ih=>
  obtain⟨h1,_,h2⟩:=h
  by_cases e:p.1=k
  ·have e':q.1=k:=h1.symm.trans e;have b:kr (q::qs) k=we q.2:=by simp[kr,gn,e']
   rw[mY e,b];exact h2
  ·have e':¬ q.1=k:=fun z=>e (h1.trans z);have b:kr (q::qs) k=kr qs k:=by simp[kr,gn,e']
   rw[kJ e,b];exact ih
theorem KT.repl (r:KT H kvs xs) (k:List Key) (ry:RelV y u):
  KT H (kvs.map fun kv=>if kv.1=k then(kv.1,y) else kv) (xs.map (qm k u)):=by
 induction r with
 |nil=>exact .nil
 |@cons p q ps qs h t ih=>
  rw[bp,bp];refine .cons ?_ ih;obtain⟨h1,h2,h3⟩:=h;unfold qm
  by_cases e:p.1=k
  ·rw[if_pos e,if_pos (h1.symm.trans e)];exact⟨h1,h2,ry⟩
  ·rw[if_neg e,if_neg (fun z=>e (h1.trans z))];exact⟨h1,h2,h3⟩
theorem KT.put (r:KT H kvs xs) (k:List Key) (hb:H b=we (.tup (k.map kV))) (ry:RelV y u):
  KT H (qG kvs k y) (ji xs k b u):=by
 have e:(kvs.any fun kv=>decide (kv.1=k))=(kr xs k).isSome:=by
  rw[AK,(r.val k).isSome_eq,pi]
 unfold qG ji;rw[e]
 by_cases q:(kr xs k).isSome=true
 ·rw[if_pos q,if_pos q];exact r.repl k ry
 ·rw[if_neg q,if_neg q];exact Paired.snoc r ⟨rfl,hb,ry⟩
theorem KT.keeps (r:KT H kvs xs) (ht:∀ b ys,H b=we (.tup ys)->H' b=we (.tup ys)):KT H' kvs xs:=
 iq.mapP r fun _ _ z=>⟨z.1,ht _ _ z.2.1,z.2.2⟩
section
variable {P:da}{w:df}{H:Hp}{h:cx}{a:af}
theorem LY (ok:HOk P w H h) (e:Rd H a u):ObjOk P w H h a u:=e.ok ok
theorem HX (ok:HOk P w H h) (e:Rd H a (.dK kvs)):kvs.length<=sizeLine/\(a==eu)=false/\∃ vs,KV kvs vs/\h.DictOf (aI P w) a vs:=
 show ObjOk P w H h a (.dK kvs) from LY ok e
theorem PN (ok:HOk P w H h) (e:H a=we (.dK kvs)):kvs.length<=sizeLine/\(a==eu)=false/\∃ vs,KV kvs vs/\h.DictOf (aI P w) a vs:=HX ok (.inl e)
theorem wP (ok:HOk P w H h) (e:H a=we (.tup (ks.map kV))):(bz (aI P w)).is h ks a:=by
 obtain⟨_,its,r,o,h1,h2,n,h3⟩:=(show ObjOk P w H h a (.tup (ks.map kV)) from ok a _ e);exact⟨o,its.toArray,n,h1,h2,h3,by simpa using wS r⟩
theorem HR (ok:HOk P w H h) (e:Rd H a (.dT kvs)):kvs.length<=sizeLine/\(a==eu)=false/\
  ∃ xs,KT H kvs xs/\h.DictOfH (bz (aI P w)) a xs:=by
 obtain⟨z,y,xs,r,o,es,ep,h1,h2,h3,h4,h5⟩:=(show ObjOk P w H h a (.dT kvs) from LY ok e);refine⟨z,y,xs,r,o,es,ep,h1,h2,h3,h4,fun x hx=> ?_,h5⟩;have all:∀ {l:List (List Key×V)}{m:List (List Key×af×ai)},KT H l m->∀ x∈m,(bz (aI P w)).is h x.1 x.2.1:=by
  intro l m q
  induction q with
  |nil=>intro x hx;exact nomatch hx
  |@cons p q ps qs hq t ih=>
   intro x hx;rcases ak.mp hx with e|hx
   ·subst e;exact wP ok (by rw[<- hq.1];exact hq.2.1)
   ·exact ih x hx
 exact all r x hx
theorem HS (ok:HOk P w H h) (e:H a=we (.dT kvs)):kvs.length<=sizeLine/\(a==eu)=false/\
  ∃ xs,KT H kvs xs/\h.DictOfH (bz (aI P w)) a xs:=HR ok (.inl e)
end
noncomputable def DGet (H:Hp) (a:af) (y:V) (r:Option V):Prop:=
 (∃ kvs k,Rd H a (.dK kvs)/\y=kV k/\r=vJ kvs k)∨∃ kvs k b,Rd H a (.dT kvs)/\y=.ref b/\H b=we (.tup (k.map kV))/\r=vJ kvs k
noncomputable def DPut (H:Hp) (a:af) (y v:V) (H':Hp):Prop:=
 (∃ kvs k,H a=we (.dK kvs)/\y=kV k/\kvs.length<sizeLine/\H'=upd H a (.dK (qG kvs k v)))∨
 ∃ kvs k b,H a=we (.dT kvs)/\y=.ref b/\H b=we (.tup (k.map kV))/\kvs.length<sizeLine/\H'=upd H a (.dT (qG kvs k v))
theorem DGet.k {k:Key} (e:H a=we (.dK kvs)):DGet H a (kV k) (vJ kvs k):=.inl ⟨kvs,k,.inl e,rfl,rfl⟩
theorem DGet.t {k:List Key} (e:H a=we (.dT kvs)) (eb:H b=we (.tup (k.map kV))):DGet H a (.ref b) (vJ kvs k):=.inr ⟨kvs,k,b,.inl e,rfl,eb,rfl⟩
theorem DPut.k {k:Key} (e:H a=we (.dK kvs)) (hl:kvs.length<sizeLine):DPut H a (kV k) v (upd H a (.dK (qG kvs k v))):=.inl ⟨kvs,k,e,rfl,hl,rfl⟩
theorem DPut.t {k:List Key} (e:H a=we (.dT kvs)) (eb:H b=we (.tup (k.map kV))) (hl:kvs.length<sizeLine):
  DPut H a (.ref b) v (upd H a (.dT (qG kvs k v))):=.inr ⟨kvs,k,b,e,rfl,eb,hl,rfl⟩
section
variable {X:Cx}{pins:List (af×Obj)}{σ:St}{H:Hp}{s:aq}{a:af}{y v:V}{u r:ai}{o:Option V}{A:dh}{E:ai->aq->Prop}
theorem Inv.big (I:Inv X pins σ H s):eu<s.heap.objs.size:=by
 have h:ca<s.heap.objs.size:=(I.mod.glob.keeps I.bk).lt;exact Nat.lt_trans (by decide) h
theorem Fj (hu:A.units+1<dm) (I:Inv X pins σ H s) (g:DGet H a y (we v)) (ry:RelV y u) (h:∀ w' s',Inv X pins σ H s'->RelV v w'->Q w' s'):
  bf (model X.prog X.w) A (ou (.ref a) u) Q E s:=by
 rcases g with⟨kvs,k,e,ey,l⟩|⟨kvs,k,b,e,ey,eb,l⟩
 ·subst ey;obtain⟨z,hd,vs,rel,dd⟩:=HX I.hok e;obtain⟨w',hw,rw'⟩:=RelO.some_of (v:=v) (o:=p7 vs k) (by rw[l];exact rel.val k);exact wpAny_getItem_of (Ha ry) dd.mapOf hw (h w' _ (I.tok _) rw')
 ·subst ey;cases (show u=b9 b from ry);obtain⟨z,hd,xs,rel,dd⟩:=HR I.hok e;obtain⟨w',hw,rw'⟩:=RelO.some_of (v:=v) (o:=(kr xs k).map (·.2)) (by rw[l];exact rel.val k);obtain⟨p,hp,hp2⟩:=mw.mp hw;refine wpAny_getItem_heap (j7 hu) (wP I.hok eb) dd hp ?_;rw[hp2];exact h w' _ (I.tok _) rw'
theorem Rh (hu:A.units+1<dm) (I:Inv X pins σ H s) (g:DGet H a y o) (ry:RelV y u) (h:∀ s',Inv X pins σ H s'->Q (.bool o.isSome) s'):
  bf (model X.prog X.w) A (fw .In u (.ref a)) Q E s:=by
 rcases g with⟨kvs,k,e,ey,l⟩|⟨kvs,k,b,e,ey,eb,l⟩
 ·subst ey;obtain⟨z,hd,vs,rel,dd⟩:=HX I.hok e;refine wpAny_in_of (Ha ry) hd dd.mapOf ?_;rw[<- (rel.val k).isSome_eq,<- l];exact h _ (I.tok _)
 ·subst ey;cases (show u=b9 b from ry);obtain⟨z,hd,xs,rel,dd⟩:=HR I.hok e;refine wpAny_in_heap (j7 hu) (wP I.hok eb) hd dd ?_;have q:=(rel.val k).isSome_eq;rw[pi] at q;rw[<- q,<- l];exact h _ (I.tok _)
theorem uF (I:Inv X pins σ H s) (mu:Mut (H a)) (hs:fg a s.heap h') (he:∃ q,h'.get? a=we q) (new:ObjOk X.prog X.w (upd H a ob) h' a ob):
  Inv X pins σ (upd H a ob) { s with heap:=h',toks:=t' }:=
 I.write (x:=a) (e:=a) mu (.inl rfl) (fun b q hb z=>(hs.2 b hb).trans z) he new
theorem Oc (z:kvs.length<=sizeLine) (hd:(a==eu)=false) (rel:KV kvs vs) (dd:h'.DictOf (aI P w) a vs):
  ObjOk P w H' h' a (.dK kvs):=⟨z,hd,vs,rel,dd⟩
theorem Fg (hu:A.units+1<dm) (I:Inv X pins σ H s) (g:DPut H a y v H') (ry:RelV y u) (rv:RelV v r) (h:∀ s',Inv X pins σ H' s'->Q () s'):
  bf (model X.prog X.w) A (setItem (.ref a) u r) Q E s:=by
 rcases g with⟨kvs,k,e,ey,l,eH⟩|⟨kvs,k,b,e,ey,eb,l,eH⟩
 ·subst ey eH;obtain⟨z,hd,vs,rel,dd⟩:=PN I.hok e;have hz:vs.length<=sizeLine:=by rw[<- rel.length];exact z
  have hl:(qG kvs k v).length<=sizeLine:=by have:=kA kvs k v;omega
  refine wpAny_setItem_pairs (hsz:=hz) (Ha ry) dd fun h' dd' hs=>h _ ?_;have he:∃ q,h'.get? a=we q:=let ⟨q,_,_,hq,_⟩:=dd';⟨q,hq⟩;exact uF I (by rw[e];exact gs) hs he (Oc hl hd (rel.put k rv) dd')
 ·subst ey eH;cases (show u=b9 b from ry);obtain⟨z,hd,xs,rel,dd⟩:=HS I.hok e;have hz:xs.length<=sizeLine:=by rw[<- iz rel];exact z
  have hl:(qG kvs k v).length<=sizeLine:=by have:=kA kvs k v;omega
  refine wpAny_setItem_heap (hsz:=hz) (j7 hu) (wP I.hok eb) dd fun h' dd' hs=>h _ ?_;obtain⟨q,es,ep,hq,h2,h3,h4,_,h5⟩:=dd';refine uF I (by rw[e];exact gs) hs ⟨q,hq⟩ ⟨hl,hd,_,(rel.put k eb rv).keeps fun c ys ec=> ?_,q,es,ep,hq,h2,h3,h4,h5⟩;rw[aE (Kq ec e (fun z=>nomatch z))];exact ec
end
section
variable {X:Cx}{pins:List (af×Obj)}{σ:St}{H:Hp}{s:aq}{a:af}{kvs:List (Key×V)}{k:Key}{u:ai}{A:dh}{E:ai->aq->Prop}
end
noncomputable def Qb (i:bw):Prop:=∀ ov iv,subscripted i false ov iv=operate [ov,iv] (ou ov iv)
theorem Jc {T id:String}
  (hl:sf (.type T) "__getitem__"=pure (we (.builtin id))) (hs:Qb slice)
  (h:bf (model prog w) A (eval value env) (fun o s₁=>bf (model prog w) A (eval slice env) (fun i s₂=>s₂.TypeIs o T/\bf (model prog w) A (ou o i) Q E s₂) E s₁) E s):
  bf (model prog w) A (eval (.Subscript value slice pos) env) Q E s:=by
 refine Subscript_ (gq h (fun o s₁ h₁=>gq h₁ (fun i s₂ h₂=> ?_) fun _ _ x=>x) fun _ _ x=>x);obtain⟨hT,h₂⟩:=h₂;unfold sy;refine ae ?_;rw[getitemInPython_of_ne hT.not_modules];refine ae (wpAny_specialOf hT hl ?_);have fin:bf (model prog w) A (subscripted slice false o i) (fun r s₃=>bf (model prog w) A (letTemporaryGo value o r >>= fun _=>pure r) Q E s₃) E s₂:=by
  rw[hs o i];exact wpAny_operating (gq h₂ (fun r s₃ h₃=>ae (wpAny_letTemporaryGo (ao h₃))) fun _ _ x=>x)
 first
  |exact ao (ae fin)
  |exact ae (ao (ae fin))
  |exact ae fin
theorem Ab (I:Inv X pins σ H s) (g:DGet H a y o):s.TypeIs (.ref a) "dict":=by
 rcases g with⟨kvs,k,e,_,_⟩|⟨kvs,k,b,e,_,_,_⟩
 ·obtain⟨_,_,vs,_,dd⟩:=HX I.hok e;exact dd.typeIs
 ·obtain⟨_,_,xs,_,dd⟩:=HR I.hok e;exact dd.typeIs
noncomputable def OP (td ty:TE):TE:=fun σ H Q=>td σ H fun x H1=>ty σ H1 fun y H2=>∃ a v,x=.ref a/\DGet H2 a y (we v)/\Q v H2
noncomputable def QJ (ty td:TE):TE:=fun σ H Q=>ty σ H fun y H1=>td σ H1 fun x H2=>∃ a o,x=.ref a/\DGet H2 a y o/\Q (.bl o.isSome) H2
noncomputable def OX (td ty tv:TE):TS:=fun D σ H=>tv σ H fun v H1=>td σ H1 fun x H2=>ty σ H2 fun y H3=>∃ a H4,x=.ref a/\DPut H3 a y v H4/\D.nx σ H4
section
variable {X:Cx}{o i e value:bw}{pos pos' tpos:Pos}{td ty tv:TE}
theorem Jz (hu:X.A.units+1<dm) (ho:PE X o td) (hi:PE X i ty) (hs:Qb i):PE X (.Subscript o i pos) (OP td ty):=by
 intro pins s σ H Q I h;refine Jc PySem.F.slot_dict_getitem.lookup hs (thn (ho pins s σ H _ I h) fun u s1 ⟨x,H1,I1,rx,q1⟩=>thn (hi pins s1 σ H1 _ I1 q1) fun iv s2 ⟨y,H2,I2,ry,a,v,ex,g,q2⟩=> ?_);subst ex;obtain rfl:u=b9 a:=rx;exact⟨Ab I2 g,Fj hu I2 g ry fun w' s3 I3 rw'=>⟨v,H2,I3,rw',q2⟩⟩
theorem MC (hu:X.A.units+1<dm) (hi:PE X i ty) (ho:PE X o td):PC X .In i o (QJ ty td):=by
 intro pins s σ H Q I h;refine thn (hi pins s σ H _ I h) fun iv s1 ⟨y,H1,I1,ry,q1⟩=>thn (ho pins s1 σ H1 _ I1 q1) fun u s2 ⟨x,H2,I2,rx,a,ov,ex,g,q2⟩=> ?_;subst ex;obtain rfl:u=b9 a:=rx;exact Rh hu I2 g ry fun s3 I3=>⟨.bl ov.isSome,H2,I3,rfl,q2⟩
theorem Jr (hu:X.A.units+1<dm) (ho:PE X o td) (hi:PE X i ty) (hv:PE X value tv) (hs:i9 value (we (.Subscript o i pos')) pos.line X.env=pure false):
  PS X (.Assign [.Subscript o i pos'] value pos) (OX td ty tv):=by
 intro pins s σ H D I h;refine wpAny_Assign_Subscript (thn (hv pins s σ H _ I h) fun r s1 ⟨v,H1,I1,rv,q1⟩=>thn (ho pins s1 σ H1 _ I1 q1) fun u s2 ⟨x,H2,I2,rx,q2⟩=>thn (hi pins s2 σ H2 _ I2 q2) fun iv s3 ⟨y,H3,I3,ry,a,H4,ex,g,q3⟩=> ?_) hs;subst ex;obtain rfl:u=b9 a:=rx;exact Fg hu I3 g ry rv fun s4 I4=>⟨σ,H4,I4,q3⟩
end
theorem HU (h:cx) (hb:eu<h.objs.size):ObjOk P w H (h.push { cls:=.type "dict",data:=.dict #[] }) h.objs.size (.dT []):=
 ⟨ip _,beq_eq_false_iff_ne.mpr (cy (cj hb)),[],.nil,_,#[],0,b0 _ rfl,⟨rfl,rfl,rfl⟩,rfl,rfl,vz⟩
noncomputable def LP:TE:=fun _ H Q=>∀ p,H p=wf->Q (.ref p) (upd H p (.dT []))
section
variable {X:Cx}{pos:Pos}
theorem Gv:PE X (.Dict [] [] pos) LP:=fun pins s σ H Q I h=>
 wpAny_Dict_empty ⟨.ref s.heap.objs.size,_,I.laid (a:=s.heap.objs.size) (o:=.dT []) (t':=s.toks) (fun _ _ q=>bh _ q) (bj _) (HU s.heap I.big),rfl,h _ (I.hok.fresh (bj _))⟩
end
section
variable {X:Cx}{pins:List (af×Obj)}{σ:St}{H:Hp}{s:aq}{a:af}{y d:V}{u r:ai}{o:Option V}{A:dh}{E:ai->aq->Prop}
end
section
variable {X:Cx}{o e f:bw}{apos cpos:Pos}{td ty tx:TE}
end
section
variable {X:Cx}{pins:List (af×Obj)}{σ:St}{H:Hp}{s:aq}{a:af}{kvs:List (Key×V)}{A:dh}{E:ai->aq->Prop}
end
section
variable {X:Cx}{pins:List (af×Obj)}{σ:St}{H:Hp}{s:aq}{a:af}{y:V}{u:ai}{A:dh}{E:ai->aq->Prop}
end
end L2
namespace L2
section
variable {κ:Type} [DecidableEq κ]
end
end L2
end
section
namespace L2.MB
inductive D where
 |non|bl (b:Bool)|int (i:Int)|str (x:Str)|lst (ds:List D)|tup (ds:List D)
 /-- an object that is told by its number -/
 |obj (n:Nat)
 /-- a list that is handed in and only read -/
 |scr (ds:List D)
 deriving Inhabited
structure Okk where
 p:af->Prop
 al:Nat->Option af
instance:CoeFun Okk (fun _=>af->Prop):=⟨Okk.p⟩
instance:Coe Okk (af->Prop):=⟨Okk.p⟩
noncomputable def Okk.all:Okk:=⟨fun _=>True,fun _=>wf⟩
noncomputable def RL (K:aa) (ok:Okk) (H:Hp) (a:af) (xs:List V):Prop:=ok a/\H a=we (.lst xs)
noncomputable def RC (K:aa) (ok:Okk) (H:Hp) (a:af) (xs:List V):Prop:=
 (ok a/\Rd H a (.lst xs))∨
  ∃(o:Obj) (its:Array ai) (n:Nat),K.lookup a=we o/\o.cls=.type "list"/\o.dict=wf/\o.data=.seq its n/\its.size<=sizeLine/\Vals xs its.toList
noncomputable def RT (K:aa) (ok:Okk) (H:Hp) (a:af) (xs:List V):Prop:=ok a/\H a=we (.tup xs)
section
variable {K:aa}{ok ok':Okk}{H H':Hp}{a:af}{xs:List V}
theorem RL.sq (h:RL K ok H a xs):SqL K H a xs:=.inl (.inl h.2)
theorem RC.sq (h:RC K ok H a xs):SqL K H a xs:=h.elim (fun z=>.inl z.2) .inr
theorem RT.sq (h:RT K ok H a xs):SqT K H a xs:=.inl (.inl h.2)
theorem Rd.mono (f:∀ b o,ok b->H b=we o->ok' b/\H' b=we o) (k:ok a) (h:Rd H a u):ok' a/\Rd H' a u:=by
 rcases h with h|⟨o,h⟩
 ·exact⟨(f _ _ k h).1,.inl (f _ _ k h).2⟩
 ·exact⟨(f _ _ k h).1,.inr ⟨o,(f _ _ k h).2⟩⟩
theorem RL.mono (f:∀ b o,ok b->H b=we o->ok' b/\H' b=we o) (h:RL K ok H a xs):RL K ok' H' a xs:=f _ _ h.1 h.2
theorem RC.mono (f:∀ b o,ok b->H b=we o->ok' b/\H' b=we o) (h:RC K ok H a xs):RC K ok' H' a xs:=
 h.elim (fun z=>.inl (Rd.mono f z.1 z.2)) .inr
theorem RT.mono (f:∀ b o,ok b->H b=we o->ok' b/\H' b=we o) (h:RT K ok H a xs):RT K ok' H' a xs:=f _ _ h.1 h.2
end
mutual
inductive Rep (K:aa) (ok:Okk) (H:Hp):V->D->Prop
 |non:Rep K ok H .non .non
 |bl (b:Bool):Rep K ok H (.bl b) (.bl b)
 |int (i:Int):Rep K ok H (.int i) (.int i)
 |str (x:Str):Rep K ok H (.str x) (.str x)
 |lst {a:af}{xs:List V}{ds:List D}:RL K ok H a xs->Reps K ok H xs ds->Rep K ok H (.ref a) (.lst ds)
 |tup {a:af}{xs:List V}{ds:List D}:RT K ok H a xs->Reps K ok H xs ds->Rep K ok H (.ref a) (.tup ds)
 |obj {n:Nat}{a:af}:ok.al n=we a->Rep K ok H (.ref a) (.obj n)
 |scr {a:af}{xs:List V}{ds:List D}:RC K ok H a xs->Reps K ok H xs ds->Rep K ok H (.ref a) (.scr ds)
inductive Reps (K:aa) (ok:Okk) (H:Hp):List V->List D->Prop
 |nil:Reps K ok H [] []
 |cons {v:V}{d:D}{vs:List V}{ds:List D}:Rep K ok H v d->Reps K ok H vs ds->Reps K ok H (v::vs) (d::ds)
end
section
variable {K:aa}{ok ok':Okk}{H H':Hp}
mutual
theorem Rep.mono (f:∀ b o,ok b->H b=we o->ok' b/\H' b=we o) (g:∀ n a,ok.al n=we a->ok'.al n=we a:=by exact fun _ _ h=>h):∀ {v:V}{d:D},Rep K ok H v d->Rep K ok' H' v d
 |_,_,.non=>.non
 |_,_,.bl b=>.bl b
 |_,_,.int i=>.int i
 |_,_,.str x=>.str x
 |_,_,.lst h r=>.lst (h.mono f) (Reps.mono f g r)
 |_,_,.tup h r=>.tup (h.mono f) (Reps.mono f g r)
 |_,_,.obj e=>.obj (g _ _ e)
 |_,_,.scr h r=>.scr (h.mono f) (Reps.mono f g r)
theorem Reps.mono (f:∀ b o,ok b->H b=we o->ok' b/\H' b=we o) (g:∀ n a,ok.al n=we a->ok'.al n=we a:=by exact fun _ _ h=>h):∀ {vs:List V}{ds:List D},Reps K ok H vs ds->Reps K ok' H' vs ds
 |_,_,.nil=>.nil
 |_,_,.cons h r=>.cons (Rep.mono f g h) (Reps.mono f g r)
end
theorem Rep.same {v:V}{d:D} (e:Same H H') (h:Rep K ok H v d):Rep K ok H' v d:=h.mono fun b o k q=>⟨k,e b o q⟩
theorem Reps.same {vs:List V}{ds:List D} (e:Same H H') (h:Reps K ok H vs ds):Reps K ok H' vs ds:=h.mono fun b o k q=>⟨k,e b o q⟩
theorem Rep.non_inv (h:Rep K ok H v .non):v=.non:=by cases h;rfl
theorem Rep.bl_inv (h:Rep K ok H v (.bl b)):v=.bl b:=by cases h;rfl
theorem Rep.int_inv (h:Rep K ok H v (.int i)):v=.int i:=by cases h;rfl
theorem Rep.str_inv (h:Rep K ok H v (.str x)):v=.str x:=by cases h;rfl
theorem Rep.lst_inv (h:Rep K ok H v (.lst ds)):∃ a xs,v=.ref a/\RL K ok H a xs/\Reps K ok H xs ds:=by cases h;exact⟨_,_,rfl,‹_›,‹_›⟩
theorem Rep.tup_inv (h:Rep K ok H v (.tup ds)):∃ a xs,v=.ref a/\RT K ok H a xs/\Reps K ok H xs ds:=by cases h;exact⟨_,_,rfl,‹_›,‹_›⟩
theorem Rep.scr_inv (h:Rep K ok H v (.scr ds)):∃ a xs,v=.ref a/\RC K ok H a xs/\Reps K ok H xs ds:=by cases h;exact⟨_,_,rfl,‹_›,‹_›⟩
theorem Rep.obj_inv (h:Rep K ok H v (.obj n)):∃ a,v=.ref a/\ok.al n=we a:=by cases h;exact⟨_,rfl,‹_›⟩
theorem Reps.length:∀ {vs:List V}{ds:List D},Reps K ok H vs ds->vs.length=ds.length
 |_,_,.nil=>rfl
 |_,_,.cons _ r=>by rw[bv,bv,Reps.length r]
theorem Reps.get:∀ {vs:List V}{ds:List D}{i:Nat}{d:D},Reps K ok H vs ds->ds[i]?=we d->∃ v,vs[i]?=we v/\Rep K ok H v d
 |_,_,_,_,.nil,e=>by simp at e
 |_,_,0,_,.cons h _,e=>by
  simp at e;subst e;exact⟨_,rfl,h⟩
 |_,_,i+1,d,.cons _ r,e=>by
  obtain⟨v,h1,h2⟩:=Reps.get (i:=i) (d:=d) r (by simpa using e);exact⟨v,by simpa using h1,h2⟩
theorem Reps.getV:∀ {vs:List V}{ds:List D}{i:Nat}{v:V},Reps K ok H vs ds->vs[i]?=we v->∃ d,ds[i]?=we d/\Rep K ok H v d
 |_,_,_,_,.nil,e=>by simp at e
 |_,_,0,_,.cons h _,e=>by
  simp at e;subst e;exact⟨_,rfl,h⟩
 |_,_,i+1,v,.cons _ r,e=>by
  obtain⟨d,h1,h2⟩:=Reps.getV (i:=i) (v:=v) r (by simpa using e);exact⟨d,by simpa using h1,h2⟩
theorem Reps.append:∀ {vs ws:List V}{ds es:List D},Reps K ok H vs ds->Reps K ok H ws es->Reps K ok H (vs++ws) (ds++es)
 |_,_,_,_,.nil,s=>s
 |_,_,_,_,.cons h r,s=>.cons h (Reps.append r s)
theorem Reps.snoc (h:Reps K ok H vs ds) (q:Rep K ok H v d):Reps K ok H (vs++[v]) (ds++[d]):=h.append (.cons q .nil)
theorem Reps.take:∀ {vs:List V}{ds:List D} (n:Nat),Reps K ok H vs ds->Reps K ok H (vs.take n) (ds.take n)
 |_,_,0,_=>.nil
 |_,_,_+1,.nil=>.nil
 |_,_,n+1,.cons h r=>.cons h (Reps.take n r)
theorem Reps.drop:∀ {vs:List V}{ds:List D} (n:Nat),Reps K ok H vs ds->Reps K ok H (vs.drop n) (ds.drop n)
 |_,_,0,r=>r
 |_,_,_+1,.nil=>.nil
 |_,_,n+1,.cons _ r=>Reps.drop n r
theorem Reps.set (q:Rep K ok H v d):∀ {vs:List V}{ds:List D} (i:Nat),Reps K ok H vs ds->Reps K ok H (vs.set i v) (ds.set i d)
 |_,_,_,.nil=>.nil
 |_,_,0,.cons _ r=>.cons q r
 |_,_,i+1,.cons h r=>.cons h (Reps.set q i r)
theorem Reps.ints:∀(ns:List Int),Reps K ok H (ns.map V.int) (ns.map D.int)
 |[]=>.nil
 |n::ns=>.cons (.int n) (Reps.ints ns)
theorem Reps.of_ints:∀ {ns:List Int}{vs:List V},Reps K ok H vs (ns.map D.int)->vs=ns.map V.int
 |[],_,.nil=>rfl
 |n::ns,_,.cons h r=>by
  cases h;rw[Reps.of_ints r];rfl
theorem Rep.lst_new {p:af}{xs:List V}{ds:List D} (k:ok p) (n:H p=wf) (r:Reps K ok H xs ds):Rep K ok (upd H p (.lst xs)) (.ref p) (.lst ds):=
 .lst ⟨k,aK⟩ (r.mono fun b o q e=>⟨q,by rw[aE (aH e n)];exact e⟩)
theorem Rep.tup_new {p:af}{xs:List V}{ds:List D} (k:ok p) (n:H p=wf) (r:Reps K ok H xs ds):Rep K ok (upd H p (.tup xs)) (.ref p) (.tup ds):=
 .tup ⟨k,aK⟩ (r.mono fun b o q e=>⟨q,by rw[aE (aH e n)];exact e⟩)
end
theorem cC {H:Hp}{p:af}{o:HO} (n:H p=wf):Same H (upd H p o):=fun b u e=>by
 rw[aE (aH e n)];exact e
noncomputable abbrev Rho:=List (Option D)
noncomputable abbrev DF:=Rho->Option D
noncomputable abbrev DB:=Rho->Option Bool
noncomputable abbrev DL:=Rho->Option (List D)
structure OkH (ok:Okk) (H:Hp):Prop where
 fn:∀ b,H b=wf->ok b
 tp:∀ b xs,H b=we (.tup xs)->ok b
instance {ok:Okk}{H:Hp}:CoeFun (OkH ok H) (fun _=>∀ b,H b=wf->ok b):=⟨OkH.fn⟩
theorem OkH.same {ok:Okk}{H H':Hp} (h:OkH ok H) (e:Same H H'):OkH ok H':=⟨fun b n=>h b (e.free n),fun b xs q=>by
 cases z:H b with
 |none=>exact h b z
 |some o=>
  rw[e b o z] at q;cases q;exact h.tp b xs z⟩
noncomputable def EnvR (K:aa) (ok:Okk) (H:Hp) (σ:St) (ρ:Rho):Prop:=∀(i:Nat) (d:D),ρ[i]?=we (we d)->∃ v,σ[i]?=we (we v)/\Rep K ok H v d
theorem EnvR.same {K:aa}{ok:Okk}{H H':Hp}{σ:St}{ρ:Rho} (h:EnvR K ok H σ ρ) (e:Same H H'):EnvR K ok H' σ ρ:=fun i d q=>
 let ⟨v,a,b⟩:=h i d q
 ⟨v,a,b.same e⟩
noncomputable def tD (K:aa) (f:DF):TE:=fun σ H Q=>∃(ok:Okk) (ρ:Rho) (d:D),OkH ok H/\EnvR K ok H σ ρ/\f ρ=we d/\∀ v H',Same H H'->Rep K ok H' v d->Q v H'
noncomputable def tDA (K:aa) (f:DL):TA:=fun σ H Q=>∃(ok:Okk) (ρ:Rho) (ds:List D),OkH ok H/\EnvR K ok H σ ρ/\f ρ=we ds/\∀ vs H',Same H H'->Reps K ok H' vs ds->Q vs H'
noncomputable abbrev DE (X:Cx) (e:bw) (f:DF):Prop:=PE X e (tD X.K f)
noncomputable abbrev DA (X:Cx) (es:List bw) (f:DL):Prop:=PA X es (tDA X.K f)
theorem _root_.L2.PE.imp {X:Cx}{e:bw}{t t':TE} (h:PE X e t) (f:∀ σ H Q,t' σ H Q->t σ H Q):PE X e t':=fun pins s σ H Q I q=>h pins s σ H Q I (f _ _ _ q)
theorem _root_.L2.PT.imp {X:Cx}{e:bw}{t t':TT} (h:PT X e t) (f:∀ σ H Q,t' σ H Q->t σ H Q):PT X e t':=fun pins s σ H Q I q=>h pins s σ H Q I (f _ _ _ q)
theorem _root_.L2.PA.imp {X:Cx}{e:List bw}{t t':TA} (h:PA X e t) (f:∀ σ H Q,t' σ H Q->t σ H Q):PA X e t':=fun p pins s σ H Q I q=>h p pins s σ H Q I (f _ _ _ q)
theorem _root_.L2.PS.imp {X:Cx}{e:cu}{t t':TS} (h:PS X e t) (f:∀ D σ H,t' D σ H->t D σ H):PS X e t':=fun pins s σ H D I q=>h pins s σ H D I (f _ _ _ q)
theorem _root_.L2.PSs.imp {X:Cx}{e:List cu}{t t':TS} (h:PSs X e t) (f:∀ D σ H,t' D σ H->t D σ H):PSs X e t':=fun pins s σ H D I q=>h pins s σ H D I (f _ _ _ q)
noncomputable def Lj (i:Nat):DF:=fun ρ=>ρ[i]?.join
noncomputable def dC (d:D):DF:=fun _=>we d
noncomputable def d1 (g:D->Option D) (f:DF):DF:=fun ρ=>(f ρ).bind g
noncomputable def PU:DL:=fun _=>we []
noncomputable def Ll (f:DF) (r:DL):DL:=fun ρ=>(f ρ).bind fun d=>(r ρ).map fun ds=>d::ds
theorem aN {α β:Type}{o:Option α}{f:α->Option β}{b:β} (h:o.bind f=we b):∃ a,o=we a/\f a=we b:=by
 cases o with
 |none=>cases h
 |some a=>exact⟨a,rfl,h⟩
section
variable {X:Cx}{e a b:bw}{es:List bw}{f fa fb:DF}{fl:DL}{pos:Pos}
theorem Od (h:PE X (.Name x pos) (Qg i)):DE X (.Name x pos) (Lj i):=h.imp fun σ H Q ⟨ok,ρ,d,h1,h2,h3,h4⟩=>by
 have e:ρ[i]?=we (we d):=by
  unfold Lj at h3;cases q:ρ[i]? with
  |none=>rw[q] at h3;cases h3
  |some o=>rw[q] at h3;cases o with
   |none=>cases h3
   |some d'=>cases h3;rfl
 obtain⟨v,e1,e2⟩:=h2 i d e;exact⟨v,e1,h4 v H (Same.refl H) e2⟩
theorem dv (i:Nat) (hN:X.N[i]?=we x:=by rfl) (hv:Vis X.env.scope x:=by first|exact Or.inl rfl|exact Or.inr (Or.inl rfl)|exact Or.inr (Or.inr rfl)) (hd:(x==("__debug__":Str))=false:=by decide)
  (hcd:(x==("__classdict__":Str))=false:=by decide):DE X (.Name x pos) (Lj i):=Od (Mr hN hv hd hcd)
theorem nJ (h:PE X e (tC v)) (r:∀ K ok H,Rep K ok H v d):DE X e (dC d):=h.imp fun σ H Q ⟨ok,ρ,d',h1,h2,h3,h4⟩=>by
 cases h3;exact h4 v H (Same.refl H) (r _ _ _)
theorem By:DE X (.Constant (.int i) j pos) (dC (.int i)):=nJ Mw fun _ _ _=>.int i
theorem PQ {b j pos}:DE X (.Constant (.bool b) j pos) (dC (.bl b)):=nJ Pg fun _ _ _=>.bl b
theorem Oe:DE X (.Constant .none j pos) (dC .non):=nJ Mv fun _ _ _=>.non
theorem Ff:DE X (.Constant (.str x) j pos) (dC (.str x)):=nJ Ms fun _ _ _=>.str x
noncomputable def Fit2 (K:aa) (r:R2) (g:D->D->Option D):Prop:=∀(ok:Okk) (H:Hp) (x y:V) (a b d:D) (Q:VK),OkH ok H->Rep K ok H x a->Rep K ok H y b->g a b=we d->(∀ v H',Same H H'->Rep K ok H' v d->Q v H')->r x y H Q
noncomputable def Rm (K:aa) (r:V->Hp->VK->Prop) (g:D->Option D):Prop:=∀(ok:Okk) (H:Hp) (x:V) (a d:D) (Q:VK),OkH ok H->Rep K ok H x a->g a=we d->(∀ v H',Same H H'->Rep K ok H' v d->Q v H')->r x H Q
noncomputable def FitL (K:aa) (r:List V->Hp->VK->Prop) (g:List D->Option D):Prop:=∀(ok:Okk) (H:Hp) (xs:List V) (as:List D) (d:D) (Q:VK),OkH ok H->Reps K ok H xs as->g as=we d->(∀ v H',Same H H'->Rep K ok H' v d->Q v H')->r xs H Q
noncomputable def toB:D->Option Bool
 |.bl b=>we b
 |_=>wf
theorem nP (h:toB d=we k):d=.bl k:=by
 cases d with
 |bl b=>cases h;rfl
 |_=>cases h
theorem PP (ho:UnR X (unaryOp op) r) (F:Rm X.K r g) (ha:DE X a fa):DE X (.UnaryOp op a pos) (d1 g fa):=
 (Pd ho ha).imp fun σ H Q ⟨ok,ρ,d,h1,h2,h3,h4⟩=>by
  obtain⟨x,e1,h3⟩:=aN h3;exact⟨ok,ρ,x,h1,h2,e1,fun v H1 s1 r1=>F ok H1 v x d Q (h1.same s1) r1 h3 fun w H3 s3 r3=>h4 w H3 (s1.trans s3) r3⟩
theorem Of:DA X [] PU:=(PA.imp rM) fun σ H Q ⟨ok,ρ,d,h1,h2,h3,h4⟩=>by
 cases h3;exact h4 [] H (Same.refl H) .nil
theorem Lg (ha:DE X e f) (hr:DA X es fl) (hs:ar (e::es) X.env=(false,eval e X.env)::ar es X.env:=by rfl):DA X (e::es) (Ll f fl):=
 (gN ha hr hs).imp fun σ H Q ⟨ok,ρ,ds,h1,h2,h3,h4⟩=>by
  obtain⟨x,e1,h3⟩:=aN h3;cases e2:fl ρ with
  |none=>rw[e2] at h3;cases h3
  |some r=>
   rw[e2] at h3;cases h3;exact⟨ok,ρ,x,h1,h2,e1,fun v H1 s1 r1=>⟨ok,ρ,r,h1.same s1,h2.same s1,e2,fun vs H2 s2 r2=>h4 (v::vs) H2 (s1.trans s2) (.cons (r1.same s2) r2)⟩⟩
noncomputable def qN (ds:List D):Option D:=if ds.length<=sizeLine then we (.tup ds) else wf
noncomputable def Hu (ds:List D):Option D:=if ds.length<=sizeLine then we (.lst ds) else wf
theorem bI {α:Type}{c:Prop} [Decidable c] {a b:α} (h:(if c then we a else wf)=we b):c/\a=b:=by
 by_cases hc:c
 ·rw[if_pos hc] at h;exact⟨hc,ce h⟩
 ·rw[if_neg hc] at h;cases h
end
end L2.MB
end
section
namespace L2.MB
noncomputable def gI (g:Int->Int->Option D) (a b:D):Option D:=match a,b with
 |.int i,.int j=>g i j
 |_,_=>wf
theorem IQ (h:gI g a b=we d):∃ i j,a=.int i/\b=.int j/\g i j=we d:=by
 unfold gI at h;split at h
 ·exact⟨_,_,rfl,rfl,h⟩
 ·cases h
noncomputable abbrev vG:=gI fun i j=>we (.int (i+j))
noncomputable abbrev gSub:=gI fun i j=>we (.int (i-j))
noncomputable abbrev iF:=gI fun i j=>if(-1000000000000000000<i/\i<1000000000000000000)∨(-1000000000000000000<j/\j<1000000000000000000) then we (.int (i*j)) else wf
noncomputable abbrev cH:=gI fun i j=>if 0<j then we (.int (i % j)) else wf
noncomputable abbrev KQ:=gI fun i j=>if 0<j/\j<1073741824 then we (.int (i / j)) else wf
noncomputable abbrev gLt:=gI fun i j=>we (.bl (decide (i<j)))
noncomputable abbrev gLe:=gI fun i j=>we (.bl (decide (i<=j)))
noncomputable abbrev gGt:=gI fun i j=>we (.bl (decide (j<i)))
theorem mJ {K:aa}{g':Int->Int->D} (r:∀ i j ok H,Rep K ok H (g i j) (g' i j)):Fit2 K (rI0 g) (gI fun i j=>we (g' i j)):=fun ok H x y a b d Q h1 ra rb e k=>by
 obtain⟨i,j,rfl,rfl,e⟩:=IQ e;cases e;exact⟨i,j,ra.int_inv,rb.int_inv,k _ H (Same.refl H) (r i j ok H)⟩
theorem Lb {K:aa}{C C':Int->Int->Prop} [∀ i j,Decidable (C' i j)] {g:Int->Int->V}{g':Int->Int->D} (hC:∀ i j,C' i j->C i j) (r:∀ i j ok H,Rep K ok H (g i j) (g' i j)):
  Fit2 K (rI C g) (gI fun i j=>if C' i j then we (g' i j) else wf):=fun ok H x y a b d Q h1 ra rb e k=>by
 obtain⟨i,j,rfl,rfl,e⟩:=IQ e;obtain⟨hc,rfl⟩:=bI e;exact⟨i,j,ra.int_inv,rb.int_inv,hC i j hc,k _ H (Same.refl H) (r i j ok H)⟩
section
variable {X:Cx}{e a b c:bw}{es:List bw}{f fa fb fc:DF}{fl:DL}{pos:Pos}
noncomputable def PF (a:D):Option D:=match a with
 |.int i=>we (.int (-i))
 |_=>wf
theorem IT (ha:DE X a fa):DE X (.UnaryOp .USub a pos) (d1 PF fa):=PP LI (fun ok H x a d Q h1 r e k=>by
 cases a with
 |int i=>cases e;exact⟨i,r.int_inv,k _ H (Same.refl H) (.int _)⟩
 |_=>cases e) ha
noncomputable def Qf:D->Option Bool
 |.non=>we false
 |.bl b=>we b
 |.int i=>we (i !=0)
 |.str x=>if x.length<=sizeLine then we ((x.length:Int) !=0) else wf
 |.lst ds=>we (!ds.isEmpty)
 |.tup ds=>we (!ds.isEmpty)
 |.obj _=>wf
 |.scr ds=>we (!ds.isEmpty)
theorem Reps.isEmpty {K:aa} (h:Reps K ok H vs ds):vs.isEmpty=ds.isEmpty:=by cases h <;> rfl
theorem IZ {K:aa} (h:Rep K ok H v d) (e:Qf d=we k):PX K v H k:=by
 cases h with
 |non=>cases e;exact rfl
 |bl b=>cases e;exact rfl
 |int i=>cases e;exact rfl
 |str x=>
  obtain⟨hz,rfl⟩:=bI e;exact⟨hz,rfl⟩
 |lst h r=>
  cases e;exact .inl ⟨_,h.sq,by rw[r.isEmpty]⟩
 |tup h r=>
  cases e;exact .inr (.inl ⟨_,h.sq,by rw[r.isEmpty]⟩)
 |obj _=>cases e
 |scr h r=>
  cases e;exact .inl ⟨_,h.sq,by rw[r.isEmpty]⟩
theorem _root_.L2.PW.imp {X:Cx}{e:bw}{t t':TT} (h:PW X e t) (f:∀ σ H Q,t' σ H Q->t σ H Q):PW X e t':=fun wh pins s σ H Q I q=>h wh pins s σ H Q I (f _ _ _ q)
variable {ba bb:DB}{rest:List bw}
noncomputable def Rc (a:D):Option D:=(toB a).map fun k=>.bl (!k)
noncomputable def KR (a b:D):Option D:=match a,b with
 |.str x,.str y=>if x.length+y.length<=sizeLine then we (.str (x++y)) else wf
 |_,_=>wf
noncomputable def gIx (a b:D):Option D:=match a,b with
 |.lst ds,.int i=>atI ds i
 |.scr ds,.int i=>atI ds i
 |.tup ds,.int i=>atI ds i
 |.str x,.int i=>if x.length<=sizeLine then(atI x.cps.toList i).map fun c=>.str ⟨#[c]⟩ else wf
 |_,_=>wf
theorem Reps.atI {K:aa} (h:Reps K ok H vs ds) (e:L2.atI ds i=we d):∃ v,L2.atI vs i=we v/\Rep K ok H v d:=by
 unfold L2.atI at e ⊢;rw[h.length];cases q:ixN ds.length i with
 |none=>rw[q] at e;cases e
 |some j=>
  rw[q] at e;exact h.get e
noncomputable def CA (ds:List D) (lo hi:Option Int):List D:=(ds.drop (HT.sIx ds.length 0 lo)).take (HT.sIx ds.length ds.length hi-HT.sIx ds.length 0 lo)
theorem Reps.cut {K:aa} (h:Reps K ok H vs ds) (lo hi:Option Int):Reps K ok H (IU vs lo hi) (CA ds lo hi):=by
 unfold IU CA;rw[h.length];exact(h.drop _).take _
noncomputable abbrev DO:=Rho->Option (Option Int)
noncomputable def tDO (K:aa) (f:DO):TO:=fun σ H Q=>∃(ok:Okk) (ρ:Rho) (o:Option Int),OkH ok H/\EnvR K ok H σ ρ/\f ρ=we o/\∀ H',Same H H'->Q o H'
theorem _root_.L2.PO.imp {X:Cx}{e:Option bw}{t t':TO} (h:PO X e t) (f:∀ σ H Q,t' σ H Q->t σ H Q):PO X e t':=fun pins s σ H Q I q=>h pins s σ H Q I (f _ _ _ q)
noncomputable abbrev DOp (X:Cx) (e:Option bw) (f:DO):Prop:=PO X e (tDO X.K f)
noncomputable def dNo:DO:=fun _=>we wf
noncomputable def toI:D->Option Int
 |.int i=>we i
 |_=>wf
theorem yK (h:toI d=we i):d=.int i:=by
 cases d with
 |int b=>cases h;rfl
 |_=>cases h
noncomputable def dSo (f:DF):DO:=fun ρ=>(f ρ).bind fun d=>(toI d).map we
theorem Lf:DOp X wf dNo:=PO.imp Ju fun σ H Q ⟨ok,ρ,o,h1,h2,h3,h4⟩=>by
 cases h3;exact h4 H (Same.refl H)
theorem Le (h:DE X e f):DOp X (we e) (dSo f):=PO.imp (Jt h) fun σ H Q ⟨ok,ρ,o,h1,h2,h3,h4⟩=>by
 obtain⟨d,e1,e2⟩:=aN h3;cases e3:toI d with
 |none=>rw[e3] at e2;cases e2
 |some i=>
  rw[e3] at e2;cases e2;obtain rfl:=yK e3;exact⟨ok,ρ,_,h1,h2,e1,fun v H1 s1 r1=>⟨i,r1.int_inv,h4 H1 s1⟩⟩
noncomputable def gSl (a:D) (lo hi:Option Int):Option D:=match a with
 |.lst ds=>we (.lst (CA ds lo hi))
 |.scr ds=>we (.lst (CA ds lo hi))
 |.tup ds=>if HT.sIx ds.length 0 lo=0/\HT.sIx ds.length ds.length hi=ds.length then wf else we (.tup (CA ds lo hi))
 |_=>wf
noncomputable def PH (ds:List D):Option D:=match ds with
 |[.lst xs]=>we (.int xs.length)
 |[.scr xs]=>we (.int xs.length)
 |[.tup xs]=>we (.int xs.length)
 |[.str x]=>if x.length<=sizeLine then we (.int x.length) else wf
 |_=>wf
theorem Reps.one_inv {K:aa} (h:Reps K ok H vs [d]):∃ v,vs=[v]/\Rep K ok H v d:=by
 cases h with
 |cons a r=>cases r;exact⟨_,rfl,a⟩
theorem Reps.two_inv {K:aa} (h:Reps K ok H vs [d,d']):∃ v v',vs=[v,v']/\Rep K ok H v d/\Rep K ok H v' d':=by
 cases h with
 |cons a r=>
  obtain⟨v',rfl,b⟩:=r.one_inv;exact⟨_,_,rfl,a,b⟩
theorem KW {K:aa}:FitL K (fun xs H Q=>∃ x n,xs=[x]/\Qe K x H n/\Q (.int n) H) PH:=fun ok H xs as d Q h1 r e k=>by
 unfold PH at e;split at e
 ·cases e;obtain⟨v,rfl,r1⟩:=r.one_inv;obtain⟨p,ys,rfl,g,r2⟩:=r1.lst_inv;exact⟨_,_,rfl,.inl ⟨_,g.sq,r2.length.symm⟩,k _ H (Same.refl H) (.int _)⟩
 ·cases e;obtain⟨v,rfl,r1⟩:=r.one_inv;obtain⟨p,ys,rfl,g,r2⟩:=r1.scr_inv;exact⟨_,_,rfl,.inl ⟨_,g.sq,r2.length.symm⟩,k _ H (Same.refl H) (.int _)⟩
 ·cases e;obtain⟨v,rfl,r1⟩:=r.one_inv;obtain⟨p,ys,rfl,g,r2⟩:=r1.tup_inv;exact⟨_,_,rfl,.inr ⟨_,g.sq,r2.length.symm⟩,k _ H (Same.refl H) (.int _)⟩
 ·obtain⟨hz,rfl⟩:=bI e;obtain⟨v,rfl,r1⟩:=r.one_inv;obtain rfl:=r1.str_inv;exact⟨_,_,rfl,⟨hz,rfl⟩,k _ H (Same.refl H) (.int _)⟩
 ·cases e
end
noncomputable def jU (f:D->D->Option Bool):List D->List D->Option Bool
 |[],_=>we true
 |_::_,[]=>we true
 |x::xs,y::ys=>(f x y).bind fun b=>(jU f xs ys).map fun c=>b&&c
noncomputable def eqS:D->D->Bool
 |.non,.non=>true
 |.bl a,.bl b=>a==b
 |.bl a,.int b=>(if a then 1 else 0)==b
 |.int a,.bl b=>a==(if b then 1 else 0)
 |.int a,.int b=>a==b
 |.str a,.str b=>a==b
 |_,_=>false
noncomputable def eqD:Nat->D->D->Option Bool
 |n+1,.lst xs,.lst ys=>if xs.length=ys.length then jU (eqD n) xs ys else we false
 |n+1,.tup xs,.tup ys=>(jU (eqD n) xs ys).map fun k=>k&&xs.length==ys.length
 |0,.lst _,.lst _=>wf
 |0,.tup _,.tup _=>wf
 |_,.obj _,_=>wf
 |_,_,.obj _=>wf
 |_,.scr _,_=>wf
 |_,_,.scr _=>wf
 |_,a,b=>we (eqS a b)
noncomputable def eAt (f:D->D->Option Bool) (xs ys:List D) (j:Nat):Bool:=match xs[j]?,ys[j]? with
 |some x,we y=>(f x y).getD false
 |_,_=>false
theorem iB:∀ {xs ys:List D}{k:Bool}{j:Nat}{x y:D},jU f xs ys=we k->xs[j]?=we x->ys[j]?=we y->f x y=we (eAt f xs ys j)
 |[],_,_,_,_,_,_,h,_=>by simp at h
 |_::_,[],_,_,_,_,_,_,h=>by simp at h
 |x'::xs,y'::ys,k,j,x,y,h,h1,h2=>by
  obtain⟨b,e1,e2⟩:=aN h;cases q:jU f xs ys with
  |none=>rw[q] at e2;cases e2
  |some c=>
   cases j with
   |zero=>
    simp at h1 h2;subst h1 h2;simp[eAt,e1]
   |succ j=>
    simp at h1 h2
    have:=iB q h1 h2
    simpa [eAt] using this
theorem lM:∀ {xs ys:List D}{k:Bool},jU f xs ys=we k->k=(bq (min xs.length ys.length)).all (eAt f xs ys)
 |[],ys,k,h=>by
  cases h;simp
 |_::_,[],k,h=>by
  cases h;simp
 |x::xs,y::ys,k,h=>by
  obtain⟨b,e1,e2⟩:=aN h;cases q:jU f xs ys with
  |none=>rw[q] at e2;cases e2
  |some c=>
   rw[q] at e2;cases e2;have ih:=lM q;have em:min (x::xs).length (y::ys).length=min xs.length ys.length+1:=by
    rw[bv,bv];omega
   rw[em,qx,List.all_cons,List.all_map];have e0:eAt f (x::xs) (y::ys) 0=b:=by simp[eAt,e1]
   have e3:(eAt f (x::xs) (y::ys)∘Nat.succ)=eAt f xs ys:=by
    funext j
    simp[eAt]
   rw[e0,e3,ih]
theorem cT (n m:Nat) (b:D):eqD n (.obj m) b=wf:=by cases n <;> cases b <;> rfl
theorem bK (n m:Nat) (a:D):eqD n a (.obj m)=wf:=by cases n <;> cases a <;> rfl
theorem cS (n:Nat) (m:List D) (b:D):eqD n (.scr m) b=wf:=by cases n <;> cases b <;> rfl
theorem bJ (n:Nat) (m:List D) (a:D):eqD n a (.scr m)=wf:=by cases n <;> cases a <;> rfl
section
variable {X:Cx}{pins:List (af×Obj)}{σ:St}{H:Hp}{s:aq}{ok ok':Okk}
theorem eL {A:dh} (h:A.units+(n+1)<dm):A.in1.units+n<dm:=by
 show A.units+1+n<dm;omega
theorem iR (I:Inv X pins σ H s) (h:RL X.K ok H a xs) (g:RT X.K ok' H a ys):False:=by
 obtain⟨_,_,⟨o,n,e,c,_,_⟩,_⟩:=I.list h.sq;obtain⟨_,_,⟨o',e',c',_⟩,_⟩:=I.tuple g.sq;rw[e] at e';cases e';rw[c] at c';exact absurd c' (by decide)
theorem pS (ih:∀ {v:V}{a b:D}{k:Bool},Rep X.K ok H v a->Rep X.K ok' H v b->eqD n a b=we k->k=true):∀ {vs:List V}{ds es:List D}{k:Bool},Reps X.K ok H vs ds->Reps X.K ok' H vs es->jU (eqD n) ds es=we k->k=true
 |_,_,_,_,.nil,.nil,h=>by cases h;rfl
 |_,_,_,_,.cons r rs,.cons q qs,h=>by
  obtain⟨b,e1,e2⟩:=aN h;cases z:jU (eqD n) _ _ with
  |none=>rw[z] at e2;cases e2
  |some c=>
   rw[z] at e2;cases e2;rw[ih r q e1,pS ih rs qs z];rfl
theorem HK (I:Inv X pins σ H s):∀(n:Nat) {v:V}{a b:D}{k:Bool},Rep X.K ok H v a->Rep X.K ok' H v b->eqD n a b=we k->k=true:=by
 intro n
 induction n with
 |zero=>
  intro v a b k ra rb e;cases ra with
  |lst g r=>cases rb with
   |lst g' r'=>cases e
   |tup g' r'=>exact(iR I g g').elim
   |obj _=>rw[bK] at e;cases e
   |scr _ _=>rw[bJ] at e;cases e
  |tup g r=>cases rb with
   |tup g' r'=>cases e
   |lst g' r'=>exact(iR I g' g).elim
   |obj _=>rw[bK] at e;cases e
   |scr _ _=>rw[bJ] at e;cases e
  |obj _=>rw[cT] at e;cases e
  |scr _ _=>rw[cS] at e;cases e
  |_=>cases rb;cases e;simp[eqS]
 |succ n ih=>
  intro v a b k ra rb e;cases ra with
  |@lst p xs ds g r=>cases rb with
   |@lst _ xs' ds' g' r'=>
    obtain rfl:=I.list_inj g.sq g'.sq;have e':(if ds.length=ds'.length then jU (eqD n) ds ds' else we false)=we k:=e;rw[if_pos (by rw[<- r.length,<- r'.length])] at e';exact pS ih r r' e'
   |tup g' r'=>exact(iR I g g').elim
   |obj _=>rw[bK] at e;cases e
   |scr _ _=>rw[bJ] at e;cases e
  |@tup p xs ds g r=>cases rb with
   |@tup _ xs' ds' g' r'=>
    obtain rfl:=I.tuple_inj g.sq g'.sq;have e':((jU (eqD n) ds ds').map fun k=>k&&ds.length==ds'.length)=we k:=e;have hl:ds.length=ds'.length:=by rw[<- r.length,<- r'.length]
    cases q:jU (eqD n) ds ds' with
    |none=>rw[q] at e';cases e'
    |some c=>
     rw[q] at e';cases e';rw[pS ih r r' q,hl];simp
   |lst g' r'=>exact(iR I g' g).elim
   |obj _=>rw[bK] at e;cases e
   |scr _ _=>rw[bJ] at e;cases e
  |obj _=>rw[cT] at e;cases e
  |scr _ _=>rw[cS] at e;cases e
  |_=>cases rb;cases e;simp[eqS]
theorem pV (ih:∀ {v:V}{a b c:D}{k k':Bool},Rep X.K ok H v a->Rep X.K ok' H v b->eqD n a c=we k->eqD n b c=we k'->k=k'):∀ {vs:List V}{ds es as:List D}{k k':Bool},Reps X.K ok H vs ds->Reps X.K ok' H vs es->jU (eqD n) ds as=we k->jU (eqD n) es as=we k'->k=k'
 |_,_,_,_,_,_,.nil,.nil,h,h'=>by cases h;cases h';rfl
 |_,_,_,[],_,_,.cons r rs,.cons q qs,h,h'=>by cases h;cases h';rfl
 |_,_,_,a::as,_,_,.cons r rs,.cons q qs,h,h'=>by
  obtain⟨b,e1,e2⟩:=aN h;obtain⟨b',e1',e2'⟩:=aN h';cases z:jU (eqD n) _ as with
  |none=>rw[z] at e2;cases e2
  |some c=>
   rw[z] at e2;cases e2;cases z':jU (eqD n) _ as with
   |none=>rw[z'] at e2';cases e2'
   |some c'=>
    rw[z'] at e2';cases e2';rw[ih r q e1 e1',pV ih rs qs z z']
theorem HM (I:Inv X pins σ H s):∀(n:Nat) {v:V}{a b c:D}{k k':Bool},Rep X.K ok H v a->Rep X.K ok' H v b->eqD n a c=we k->eqD n b c=we k'->k=k':=by
 intro n
 induction n with
 |zero=>
  intro v a b c k k' ra rb e e';cases ra with
  |lst g r=>cases rb with
   |lst g' r'=>cases c <;> first|(cases e;done)|(cases e;cases e';rfl)
   |tup g' r'=>exact(iR I g g').elim
   |obj _=>rw[cT] at e';cases e'
   |scr _ _=>rw[cS] at e';cases e'
  |tup g r=>cases rb with
   |tup g' r'=>cases c <;> first|(cases e;done)|(cases e;cases e';rfl)
   |lst g' r'=>exact(iR I g' g).elim
   |obj _=>rw[cT] at e';cases e'
   |scr _ _=>rw[cS] at e';cases e'
  |obj _=>rw[cT] at e;cases e
  |scr _ _=>rw[cS] at e;cases e
  |_=>cases rb;rw[e] at e';cases e';rfl
 |succ n ih=>
  intro v a b c k k' ra rb e e';cases ra with
  |@lst p xs ds g r=>cases rb with
   |@lst _ xs' ds' g' r'=>
    obtain rfl:=I.list_inj g.sq g'.sq;have hl:ds.length=ds'.length:=by rw[<- r.length,<- r'.length]
    cases c with
    |lst cs=>
     have e1:(if ds.length=cs.length then jU (eqD n) ds cs else we false)=we k:=e;have e2:(if ds'.length=cs.length then jU (eqD n) ds' cs else we false)=we k':=e';rw[<- hl] at e2
     by_cases z:ds.length=cs.length
     ·rw[if_pos z] at e1 e2;exact pV ih r r' e1 e2
     ·rw[if_neg z] at e1 e2;cases e1;cases e2;rfl
    |_=>first|(cases e;done)|(cases e;cases e';rfl)
   |tup g' r'=>exact(iR I g g').elim
   |obj _=>rw[cT] at e';cases e'
   |scr _ _=>rw[cS] at e';cases e'
  |@tup p xs ds g r=>cases rb with
   |@tup _ xs' ds' g' r'=>
    obtain rfl:=I.tuple_inj g.sq g'.sq;have hl:ds.length=ds'.length:=by rw[<- r.length,<- r'.length]
    cases c with
    |tup cs=>
     have e1:((jU (eqD n) ds cs).map fun k=>k&&ds.length==cs.length)=we k:=e;have e2:((jU (eqD n) ds' cs).map fun k=>k&&ds'.length==cs.length)=we k':=e';rw[<- hl] at e2;cases q:jU (eqD n) ds cs with
     |none=>rw[q] at e1;cases e1
     |some x=>
      cases q':jU (eqD n) ds' cs with
      |none=>rw[q'] at e2;cases e2
      |some x'=>
       rw[q] at e1;rw[q'] at e2;cases e1;cases e2;rw[pV ih r r' q q']
    |_=>first|(cases e;done)|(cases e;cases e';rfl)
   |lst g' r'=>exact(iR I g' g).elim
   |obj _=>rw[cT] at e';cases e'
   |scr _ _=>rw[cS] at e';cases e'
  |obj _=>rw[cT] at e;cases e
  |scr _ _=>rw[cS] at e;cases e
  |_=>cases rb;rw[e] at e';cases e';rfl
theorem Aa (I:Inv X pins σ H s) (n:Nat) (ra:Rep X.K ok H x a) (rb:Rep X.K ok' H y b) (rv:RelV x v) (ru:RelV y u) (e:eqD n a b=we k) (hrc:vo A s v u k):vh A s v u k:=by
 by_cases hs:v=u
 ·subst hs;obtain rfl:=rv.inj ru;rw[HK I n ra rb e];exact SeqAt.EqAt.same v
 ·intro prog w E Q hq;unfold eqBool;refine ij ?_;refine wpAny_ite_split (fun hab=>absurd (eq_of_beq hab) hs) (fun _=> ?_);cases ra with
  |non=>cases rv;exact ae (hrc prog w E _ (di hq))
  |bl b=>cases rv;exact ae (hrc prog w E _ (di hq))
  |int i=>obtain⟨t,rfl⟩:=rv;exact ae (hrc prog w E _ (di hq))
  |str z=>obtain⟨t,rfl⟩:=rv;exact ae (hrc prog w E _ (di hq))
  |lst _ _=>cases rv;exact ae (hrc prog w E _ (di hq))
  |tup _ _=>cases rv;exact ae (hrc prog w E _ (di hq))
  |obj _=>rw[cT] at e;cases e
  |scr _ _=>rw[cS] at e;cases e
theorem Iv (I:Inv X pins σ H s) (n:Nat):∀ {A:dh}{a b:D}{x y:V}{v u:ai}{k:Bool},Rep X.K ok H x a->Rep X.K ok' H y b->RelV x v->RelV y u->eqD n a b=we k->A.units+n<dm->vo A s v u k:=by
 induction n using Nat.strongRecOn with
 |_ n ih=>
  intro A a b x y v u k ra rb rv ru e hu;have hu0:A.units<dm:=by omega
  cases ra with
  |non=>
   cases rv;cases rb with
   |non=>cases ru;cases n <;> cases e <;> exact SeqAt.RcAt.none_none
   |obj _=>rw[bK] at e;cases e
   |scr _ _=>rw[bJ] at e;cases e
   |bl b=>cases ru;cases n <;> cases e <;> exact SeqAt.RcAt.none_bool b
   |int b=>obtain⟨t,rfl⟩:=ru;cases n <;> cases e <;> exact SeqAt.RcAt.none_int b t
   |str b=>obtain⟨t,rfl⟩:=ru;cases n <;> cases e <;> exact SeqAt.RcAt.none_str b t
   |lst g r=>cases ru;obtain⟨its,_,pl,_⟩:=I.list g.sq;cases n <;> cases e <;> exact SeqAt.RcAt.none_list pl.isList hu0
   |tup g r=>cases ru;obtain⟨its,_,pl,_⟩:=I.tuple g.sq;cases n <;> cases e <;> exact SeqAt.RcAt.none_tuple pl hu0
  |bl a=>
   cases rv;cases rb with
   |non=>cases ru;cases n <;> cases e <;> exact SeqAt.RcAt.bool_none a
   |obj _=>rw[bK] at e;cases e
   |scr _ _=>rw[bJ] at e;cases e
   |bl b=>cases ru;cases n <;> cases e <;> exact SeqAt.RcAt.bool_bool a b
   |int b=>obtain⟨t,rfl⟩:=ru;cases n <;> cases e <;> exact SeqAt.RcAt.bool_int a b t
   |str b=>obtain⟨t,rfl⟩:=ru;cases n <;> cases e <;> exact SeqAt.RcAt.bool_str a b t
   |lst g r=>cases ru;obtain⟨its,_,pl,_⟩:=I.list g.sq;cases n <;> cases e <;> exact SeqAt.RcAt.bool_list a pl.isList hu0
   |tup g r=>cases ru;obtain⟨its,_,pl,_⟩:=I.tuple g.sq;cases n <;> cases e <;> exact SeqAt.RcAt.bool_tuple a pl hu0
  |int a=>
   obtain⟨t',rfl⟩:=rv;cases rb with
   |non=>cases ru;cases n <;> cases e <;> exact SeqAt.RcAt.int_none a t'
   |obj _=>rw[bK] at e;cases e
   |scr _ _=>rw[bJ] at e;cases e
   |bl b=>cases ru;cases n <;> cases e <;> exact SeqAt.RcAt.int_bool a t' b
   |int b=>obtain⟨t,rfl⟩:=ru;cases n <;> cases e <;> exact SeqAt.RcAt.int_int a t' b t
   |str b=>obtain⟨t,rfl⟩:=ru;cases n <;> cases e <;> exact SeqAt.RcAt.int_str a t' b t
   |lst g r=>cases ru;obtain⟨its,_,pl,_⟩:=I.list g.sq;cases n <;> cases e <;> exact SeqAt.RcAt.int_list a t' pl.isList hu0
   |tup g r=>cases ru;obtain⟨its,_,pl,_⟩:=I.tuple g.sq;cases n <;> cases e <;> exact SeqAt.RcAt.int_tuple a t' pl hu0
  |str a=>
   obtain⟨t',rfl⟩:=rv;cases rb with
   |non=>cases ru;cases n <;> cases e <;> exact SeqAt.RcAt.str_none a t'
   |obj _=>rw[bK] at e;cases e
   |scr _ _=>rw[bJ] at e;cases e
   |bl b=>cases ru;cases n <;> cases e <;> exact SeqAt.RcAt.str_bool a t' b
   |int b=>obtain⟨t,rfl⟩:=ru;cases n <;> cases e <;> exact SeqAt.RcAt.str_int a t' b t
   |str b=>obtain⟨t,rfl⟩:=ru;cases n <;> cases e <;> exact SeqAt.RcAt.str_str a t' b t
   |lst g r=>cases ru;obtain⟨its,_,pl,_⟩:=I.list g.sq;cases n <;> cases e <;> exact SeqAt.RcAt.str_list a t' pl.isList hu0
   |tup g r=>cases ru;obtain⟨its,_,pl,_⟩:=I.tuple g.sq;cases n <;> cases e <;> exact SeqAt.RcAt.str_tuple a t' pl hu0
  |obj _=>rw[cT] at e;cases e
  |scr _ _=>rw[cS] at e;cases e
  |@lst p xs ds g r=>
   cases rv;obtain⟨its,rr,pl,_⟩:=I.list g.sq;cases rb with
   |non=>cases ru;cases n <;> cases e <;> exact SeqAt.RcAt.list_none pl.isList hu0
   |obj _=>rw[bK] at e;cases e
   |scr _ _=>rw[bJ] at e;cases e
   |bl b=>cases ru;cases n <;> cases e <;> exact SeqAt.RcAt.list_bool b pl.isList hu0
   |int b=>obtain⟨t,rfl⟩:=ru;cases n <;> cases e <;> exact SeqAt.RcAt.list_int b t pl.isList hu0
   |str b=>obtain⟨t,rfl⟩:=ru;cases n <;> cases e <;> exact SeqAt.RcAt.list_str b t pl.isList hu0
   |tup g' r'=>cases ru;obtain⟨its',_,pl',_⟩:=I.tuple g'.sq;cases n <;> cases e <;> exact SeqAt.RcAt.list_tuple pl.isList pl' hu0
   |@lst p' xs' ds' g' r'=>
    cases ru;obtain⟨its',rr',pl',_⟩:=I.list g'.sq;have l1:its.toArray.size=ds.length:=by rw[bg,<- rr.length,r.length]
    have l2:its'.toArray.size=ds'.length:=by rw[bg,<- rr'.length,r'.length]
    cases n with
    |zero=>cases e
    |succ n=>
     have e':(if ds.length=ds'.length then jU (eqD n) ds ds' else we false)=we k:=e
     by_cases hl:ds.length=ds'.length
     ·rw[if_pos hl] at e';have hk:k=(bq its.toArray.size).all (eAt (eqD n) ds ds'):=by
       rw[lM e',l1,<- hl,iu]
      rw[hk];refine SeqAt.RcAt.lists pl.isList pl'.isList (by rw[l1,l2,hl]) hu0 fun j h1 h2=> ?_;obtain⟨d,hd,rd⟩:=r.getV (i:=j) (v:=xs[j]'(by rw[r.length,<- l1];exact h1)) (by simp);obtain⟨d',hd',rd'⟩:=r'.getV (i:=j) (v:=xs'[j]'(by rw[r'.length,<- l2];exact h2)) (by simp);obtain⟨w,hw,rw1⟩:=rr.get (i:=j) (x:=xs[j]'(by rw[r.length,<- l1];exact h1)) (by simp);obtain⟨w',hw',rw2⟩:=rr'.get (i:=j) (x:=xs'[j]'(by rw[r'.length,<- l2];exact h2)) (by simp);have ew:its.toArray[j]=w:=by
       obtain⟨_,q⟩:=bi.mp hw;simpa using q
      have ew':its'.toArray[j]=w':=by
       obtain⟨_,q⟩:=bi.mp hw';simpa using q
      rw[ew,ew'];exact Aa I n rd rd' rw1 rw2 (iB e' hd hd') (ih n (m8 n) rd rd' rw1 rw2 (iB e' hd hd') (eL hu))
     ·rw[if_neg hl] at e';cases e';exact SeqAt.RcAt.lists_lengths pl.isList pl'.isList (by rw[l1,l2];simpa using hl) hu0
  |@tup p xs ds g r=>
   cases rv;obtain⟨its,rr,pl,_⟩:=I.tuple g.sq;cases rb with
   |non=>cases ru;cases n <;> cases e <;> exact SeqAt.RcAt.tuple_none pl hu0
   |obj _=>rw[bK] at e;cases e
   |scr _ _=>rw[bJ] at e;cases e
   |bl b=>cases ru;cases n <;> cases e <;> exact SeqAt.RcAt.tuple_bool b pl hu0
   |int b=>obtain⟨t,rfl⟩:=ru;cases n <;> cases e <;> exact SeqAt.RcAt.tuple_int b t pl hu0
   |str b=>obtain⟨t,rfl⟩:=ru;cases n <;> cases e <;> exact SeqAt.RcAt.tuple_str b t pl hu0
   |lst g' r'=>cases ru;obtain⟨its',_,pl',_⟩:=I.list g'.sq;cases n <;> cases e <;> exact SeqAt.RcAt.tuple_list pl pl'.isList hu0
   |@tup p' xs' ds' g' r'=>
    cases ru;obtain⟨its',rr',pl',_⟩:=I.tuple g'.sq;have l1:its.toArray.size=ds.length:=by rw[bg,<- rr.length,r.length]
    have l2:its'.toArray.size=ds'.length:=by rw[bg,<- rr'.length,r'.length]
    cases n with
    |zero=>cases e
    |succ n=>
     have e':((jU (eqD n) ds ds').map fun k=>k&&ds.length==ds'.length)=we k:=e;cases q:jU (eqD n) ds ds' with
     |none=>rw[q] at e';cases e'
     |some c=>
      rw[q] at e';cases e';have hk:(c&&ds.length==ds'.length)=((bq (min its.toArray.size its'.toArray.size)).all (eAt (eqD n) ds ds')&&its.toArray.size==its'.toArray.size):=by
       rw[lM q,l1,l2]
      show vo A s (b9 p) (b9 p') (c&&ds.length==ds'.length);rw[hk];refine SeqAt.RcAt.tuples pl pl' hu0 fun j h1 h2=> ?_;obtain⟨d,hd,rd⟩:=r.getV (i:=j) (v:=xs[j]'(by rw[r.length,<- l1];exact h1)) (by simp);obtain⟨d',hd',rd'⟩:=r'.getV (i:=j) (v:=xs'[j]'(by rw[r'.length,<- l2];exact h2)) (by simp);obtain⟨w,hw,rw1⟩:=rr.get (i:=j) (x:=xs[j]'(by rw[r.length,<- l1];exact h1)) (by simp);obtain⟨w',hw',rw2⟩:=rr'.get (i:=j) (x:=xs'[j]'(by rw[r'.length,<- l2];exact h2)) (by simp);have ew:its.toArray[j]=w:=by
       obtain⟨_,q⟩:=bi.mp hw;simpa using q
      have ew':its'.toArray[j]=w':=by
       obtain⟨_,q⟩:=bi.mp hw';simpa using q
      rw[ew,ew'];exact Aa I n rd rd' rw1 rw2 (iB q hd hd') (ih n (m8 n) rd rd' rw1 rw2 (iB q hd hd') (eL hu))
theorem xG (I:Inv X pins σ H s) (n:Nat) (ra:Rep X.K ok H x a) (rb:Rep X.K ok' H y b) (rv:RelV x v) (ru:RelV y u) (e:eqD n a b=we k) (hu:A.units+n<dm):vh A s v u k:=
 Aa I n ra rb rv ru e (Iv I n ra rb rv ru e hu)
end
section
variable {X:Cx}{pins:List (af×Obj)}{σ:St}{H:Hp}{s:aq}{ok ok':Okk}
theorem LZ (I:Inv X pins σ H s) (n:Nat):∀ {A:dh}{a b:D}{x y:V}{v u:ai}{k:Bool},Rep X.K ok H x a->Rep X.K ok' H y b->RelV x v->RelV y u->eqD n a b=we k->A.units+n<dm->SeqAt.RcNeAt A s v u (!k):=by
  intro A a b x y v u k ra rb rv ru e hu;have hu0:A.units<dm:=by omega
  cases ra with
  |non=>
   cases rv;cases rb with
   |non=>cases ru;cases n <;> cases e <;> exact SeqAt.RcNeAt.none_none
   |obj _=>rw[bK] at e;cases e
   |scr _ _=>rw[bJ] at e;cases e
   |bl b=>cases ru;cases n <;> cases e <;> exact SeqAt.RcNeAt.none_bool b
   |int b=>obtain⟨t,rfl⟩:=ru;cases n <;> cases e <;> exact SeqAt.RcNeAt.none_int b t
   |str b=>obtain⟨t,rfl⟩:=ru;cases n <;> cases e <;> exact SeqAt.RcNeAt.none_str b t
   |lst g r=>cases ru;obtain⟨its,_,pl,_⟩:=I.list g.sq;cases n <;> cases e <;> exact SeqAt.RcNeAt.none_list pl.isList hu0
   |tup g r=>cases ru;obtain⟨its,_,pl,_⟩:=I.tuple g.sq;cases n <;> cases e <;> exact SeqAt.RcNeAt.none_tuple pl hu0
  |bl a=>
   cases rv;cases rb with
   |non=>cases ru;cases n <;> cases e <;> exact SeqAt.RcNeAt.bool_none a
   |obj _=>rw[bK] at e;cases e
   |scr _ _=>rw[bJ] at e;cases e
   |bl b=>cases ru;cases n <;> cases e <;> exact SeqAt.RcNeAt.bool_bool a b
   |int b=>obtain⟨t,rfl⟩:=ru;cases n <;> cases e <;> exact SeqAt.RcNeAt.bool_int a b t
   |str b=>obtain⟨t,rfl⟩:=ru;cases n <;> cases e <;> exact SeqAt.RcNeAt.bool_str a b t
   |lst g r=>cases ru;obtain⟨its,_,pl,_⟩:=I.list g.sq;cases n <;> cases e <;> exact SeqAt.RcNeAt.bool_list a pl.isList hu0
   |tup g r=>cases ru;obtain⟨its,_,pl,_⟩:=I.tuple g.sq;cases n <;> cases e <;> exact SeqAt.RcNeAt.bool_tuple a pl hu0
  |int a=>
   obtain⟨t',rfl⟩:=rv;cases rb with
   |non=>cases ru;cases n <;> cases e <;> exact SeqAt.RcNeAt.int_none a t'
   |obj _=>rw[bK] at e;cases e
   |scr _ _=>rw[bJ] at e;cases e
   |bl b=>cases ru;cases n <;> cases e <;> exact SeqAt.RcNeAt.int_bool a t' b
   |int b=>obtain⟨t,rfl⟩:=ru;cases n <;> cases e <;> exact SeqAt.RcNeAt.int_int a t' b t
   |str b=>obtain⟨t,rfl⟩:=ru;cases n <;> cases e <;> exact SeqAt.RcNeAt.int_str a t' b t
   |lst g r=>cases ru;obtain⟨its,_,pl,_⟩:=I.list g.sq;cases n <;> cases e <;> exact SeqAt.RcNeAt.int_list a t' pl.isList hu0
   |tup g r=>cases ru;obtain⟨its,_,pl,_⟩:=I.tuple g.sq;cases n <;> cases e <;> exact SeqAt.RcNeAt.int_tuple a t' pl hu0
  |str a=>
   obtain⟨t',rfl⟩:=rv;cases rb with
   |non=>cases ru;cases n <;> cases e <;> exact SeqAt.RcNeAt.str_none a t'
   |obj _=>rw[bK] at e;cases e
   |scr _ _=>rw[bJ] at e;cases e
   |bl b=>cases ru;cases n <;> cases e <;> exact SeqAt.RcNeAt.str_bool a t' b
   |int b=>obtain⟨t,rfl⟩:=ru;cases n <;> cases e <;> exact SeqAt.RcNeAt.str_int a t' b t
   |str b=>obtain⟨t,rfl⟩:=ru;cases n <;> cases e <;> exact SeqAt.RcNeAt.str_str a t' b t
   |lst g r=>cases ru;obtain⟨its,_,pl,_⟩:=I.list g.sq;cases n <;> cases e <;> exact SeqAt.RcNeAt.str_list a t' pl.isList hu0
   |tup g r=>cases ru;obtain⟨its,_,pl,_⟩:=I.tuple g.sq;cases n <;> cases e <;> exact SeqAt.RcNeAt.str_tuple a t' pl hu0
  |obj _=>rw[cT] at e;cases e
  |scr _ _=>rw[cS] at e;cases e
  |@lst p xs ds g r=>
   cases rv;obtain⟨its,rr,pl,_⟩:=I.list g.sq;cases rb with
   |non=>cases ru;cases n <;> cases e <;> exact SeqAt.RcNeAt.list_none pl.isList hu0
   |obj _=>rw[bK] at e;cases e
   |scr _ _=>rw[bJ] at e;cases e
   |bl b=>cases ru;cases n <;> cases e <;> exact SeqAt.RcNeAt.list_bool b pl.isList hu0
   |int b=>obtain⟨t,rfl⟩:=ru;cases n <;> cases e <;> exact SeqAt.RcNeAt.list_int b t pl.isList hu0
   |str b=>obtain⟨t,rfl⟩:=ru;cases n <;> cases e <;> exact SeqAt.RcNeAt.list_str b t pl.isList hu0
   |tup g' r'=>cases ru;obtain⟨its',_,pl',_⟩:=I.tuple g'.sq;cases n <;> cases e <;> exact SeqAt.RcNeAt.list_tuple pl.isList pl' hu0
   |@lst p' xs' ds' g' r'=>
    cases ru;obtain⟨its',rr',pl',_⟩:=I.list g'.sq;have l1:its.toArray.size=ds.length:=by rw[bg,<- rr.length,r.length]
    have l2:its'.toArray.size=ds'.length:=by rw[bg,<- rr'.length,r'.length]
    cases n with
    |zero=>cases e
    |succ n=>
     have e':(if ds.length=ds'.length then jU (eqD n) ds ds' else we false)=we k:=e
     by_cases hl:ds.length=ds'.length
     ·rw[if_pos hl] at e';have hk:k=(bq its.toArray.size).all (eAt (eqD n) ds ds'):=by
       rw[lM e',l1,<- hl,iu]
      rw[hk];refine SeqAt.RcNeAt.lists pl.isList pl'.isList (by rw[l1,l2,hl]) hu0 fun j h1 h2=> ?_;obtain⟨d,hd,rd⟩:=r.getV (i:=j) (v:=xs[j]'(by rw[r.length,<- l1];exact h1)) (by simp);obtain⟨d',hd',rd'⟩:=r'.getV (i:=j) (v:=xs'[j]'(by rw[r'.length,<- l2];exact h2)) (by simp);obtain⟨w,hw,rw1⟩:=rr.get (i:=j) (x:=xs[j]'(by rw[r.length,<- l1];exact h1)) (by simp);obtain⟨w',hw',rw2⟩:=rr'.get (i:=j) (x:=xs'[j]'(by rw[r'.length,<- l2];exact h2)) (by simp);have ew:its.toArray[j]=w:=by
       obtain⟨_,q⟩:=bi.mp hw;simpa using q
      have ew':its'.toArray[j]=w':=by
       obtain⟨_,q⟩:=bi.mp hw';simpa using q
      rw[ew,ew'];exact xG I n rd rd' rw1 rw2 (iB e' hd hd') (eL hu)
     ·rw[if_neg hl] at e';cases e';exact SeqAt.RcNeAt.lists_lengths pl.isList pl'.isList (by rw[l1,l2];simpa using hl) hu0
  |@tup p xs ds g r=>
   cases rv;obtain⟨its,rr,pl,_⟩:=I.tuple g.sq;cases rb with
   |non=>cases ru;cases n <;> cases e <;> exact SeqAt.RcNeAt.tuple_none pl hu0
   |obj _=>rw[bK] at e;cases e
   |scr _ _=>rw[bJ] at e;cases e
   |bl b=>cases ru;cases n <;> cases e <;> exact SeqAt.RcNeAt.tuple_bool b pl hu0
   |int b=>obtain⟨t,rfl⟩:=ru;cases n <;> cases e <;> exact SeqAt.RcNeAt.tuple_int b t pl hu0
   |str b=>obtain⟨t,rfl⟩:=ru;cases n <;> cases e <;> exact SeqAt.RcNeAt.tuple_str b t pl hu0
   |lst g' r'=>cases ru;obtain⟨its',_,pl',_⟩:=I.list g'.sq;cases n <;> cases e <;> exact SeqAt.RcNeAt.tuple_list pl pl'.isList hu0
   |@tup p' xs' ds' g' r'=>
    cases ru;obtain⟨its',rr',pl',_⟩:=I.tuple g'.sq;have l1:its.toArray.size=ds.length:=by rw[bg,<- rr.length,r.length]
    have l2:its'.toArray.size=ds'.length:=by rw[bg,<- rr'.length,r'.length]
    cases n with
    |zero=>cases e
    |succ n=>
     have e':((jU (eqD n) ds ds').map fun k=>k&&ds.length==ds'.length)=we k:=e;cases q:jU (eqD n) ds ds' with
     |none=>rw[q] at e';cases e'
     |some c=>
      rw[q] at e';cases e';have hk:(c&&ds.length==ds'.length)=((bq (min its.toArray.size its'.toArray.size)).all (eAt (eqD n) ds ds')&&its.toArray.size==its'.toArray.size):=by
       rw[lM q,l1,l2]
      show SeqAt.RcNeAt A s (b9 p) (b9 p') (!(c&&ds.length==ds'.length));rw[hk];refine SeqAt.RcNeAt.tuples pl pl' hu0 fun j h1 h2=> ?_;obtain⟨d,hd,rd⟩:=r.getV (i:=j) (v:=xs[j]'(by rw[r.length,<- l1];exact h1)) (by simp);obtain⟨d',hd',rd'⟩:=r'.getV (i:=j) (v:=xs'[j]'(by rw[r'.length,<- l2];exact h2)) (by simp);obtain⟨w,hw,rw1⟩:=rr.get (i:=j) (x:=xs[j]'(by rw[r.length,<- l1];exact h1)) (by simp);obtain⟨w',hw',rw2⟩:=rr'.get (i:=j) (x:=xs'[j]'(by rw[r'.length,<- l2];exact h2)) (by simp);have ew:its.toArray[j]=w:=by
       obtain⟨_,q⟩:=bi.mp hw;simpa using q
      have ew':its'.toArray[j]=w':=by
       obtain⟨_,q⟩:=bi.mp hw';simpa using q
      rw[ew,ew'];exact xG I n rd rd' rw1 rw2 (iB q hd hd') (eL hu)
end
noncomputable def Qp (K:aa) (n:Nat):R2:=fun x y H Q=>∃ ok a b k,Rep K ok H x a/\Rep K ok H y b/\eqD n a b=we k/\Q (.bl k) H
noncomputable def Qj (K:aa) (n:Nat):R2:=fun x y H Q=>∃ ok a b k,Rep K ok H x a/\Rep K ok H y b/\eqD n a b=we k/\Q (.bl (!k)) H
noncomputable def gEq (n:Nat) (a b:D):Option D:=(eqD n a b).map D.bl
noncomputable def gNe (n:Nat) (a b:D):Option D:=(eqD n a b).map fun k=>D.bl (!k)
theorem aF {f:α->β} (h:o.map f=we b):∃ a,o=we a/\f a=b:=by
 cases o with
 |none=>cases h
 |some a=>exact⟨a,rfl,ce h⟩
noncomputable abbrev Lx (X:Cx) (n:Nat):Prop:=X.A.units+n<dm
section
variable {X:Cx}{e a b c:bw}{es:List bw}{f fa fb fc:DF}{fl:DL}{pos:Pos}
theorem II (hu:Lx X n):OpR X (fw .Eq) (Qp X.K n):=by
 intro pins s σ H x y v u Q I rx ry h;obtain⟨ok,a,b,k,ra,rb,e,q⟩:=h;exact Iv I n ra rb rx ry e hu X.prog X.w X.xe _ ⟨.bl k,H,I,rfl,q⟩
theorem MT (hu:Lx X n):OpR X (fw .NotEq) (Qj X.K n):=by
 intro pins s σ H x y v u Q I rx ry h;obtain⟨ok,a,b,k,ra,rb,e,q⟩:=h;exact LZ I n ra rb rx ry e hu X.prog X.w X.xe _ ⟨.bl (!k),H,I,rfl,q⟩
noncomputable def isN:D->Bool
 |.non=>true
 |_=>false
noncomputable def NT (a b:D):Option D:=match b with
 |.non=>we (.bl (isN a))
 |_=>wf
theorem NJ {K:aa} (h:Rep K ok H v d):decide (v=.non)=isN d:=by
 cases h <;> simp[isN]
theorem EW {K:aa}:Fit2 K (fun x y H Q=>y=.non/\Q (.bl (decide (x=.non))) H) NT:=fun ok H x y a b d Q h1 ra rb e k=>by
 cases b with
 |non=>
  cases e;refine⟨rb.non_inv,?_⟩;rw[NJ ra];exact k _ H (Same.refl H) (.bl _)
 |_=>cases e
noncomputable def inO (f:D->Option Bool):List D->Option Bool
 |[]=>we false
 |x::xs=>(f x).bind fun b=>(inO f xs).map fun c=>b||c
noncomputable def inD (n:Nat) (a b:D):Option Bool:=match b with
 |.lst ds=>inO (fun d=>eqD n d a) ds
 |.tup ds=>inO (fun d=>eqD n d a) ds
 |_=>wf
noncomputable def CD (K:aa) (ok:Okk) (H:Hp) (n:Nat) (a:D) (u:ai):Bool:=
 @decide (∃ x d,RelV x u/\Rep K ok H x d/\eqD n d a=we true) (j4 _)
theorem Ii {a d:D} (I:Inv X pins σ H s) (r:RelV x u) (q:Rep X.K ok H x d) (e:eqD n d a=we k):CD X.K ok H n a u=k:=by
 unfold CD;cases k with
 |true=>exact @decide_eq_true _ (j4 _) ⟨x,d,r,q,e⟩
 |false=>
  refine @decide_eq_false _ (j4 _) ?_
  rintro⟨x',d',r',q',e'⟩
  obtain rfl:=r.inj r';exact nomatch HM I n q q' e e'
theorem zH {a:D} (I:Inv X pins σ H s):∀ {xs:List V}{us:List ai}{ds:List D}{k:Bool},Vals xs us->Reps X.K ok H xs ds->inO (fun d=>eqD n d a) ds=we k->
  us.any (CD X.K ok H n a)=k/\∀ u∈us,∃ x d,RelV x u/\Rep X.K ok H x d/\eqD n d a=we (CD X.K ok H n a u)
 |_,_,_,_,.nil,.nil,h=>by
  cases h;exact⟨rfl,fun u hu=>by cases hu⟩
 |_,_,_,k,.cons r rs,.cons q qs,h=>by
  obtain⟨b,e1,e2⟩:=aN h;obtain⟨c,e3,rfl⟩:=aF e2;obtain⟨h1,h2⟩:=zH I rs qs e3;have hb:=Ii I r q e1;refine⟨by rw[ku,hb,h1],fun u hu=> ?_⟩;rcases ak.mp hu with rfl|hu
  ·exact⟨_,_,r,q,by rw[hb];exact e1⟩
  ·exact h2 u hu
noncomputable def Qo (K:aa) (n:Nat):R2:=fun x y H Q=>∃ ok a b k,Rep K ok H x a/\Rep K ok H y b/\inD n a b=we k/\Q (.bl k) H
theorem MY (hu:Lx X (n+1)):OpR X (fw .In) (Qo X.K n):=by
 intro pins s σ H x y v u Q I rx ry h;obtain⟨ok,a,b,k,ra,rb,e,q⟩:=h;cases rb with
 |lst g r=>
  cases ry;obtain⟨its,rr,pl,_⟩:=I.list g.sq;obtain⟨h1,h2⟩:=zH I rr r e;refine SeqAt.in_listAt (CD X.K ok H n a) pl.isList (fun w hw=> ?_) ⟨.bl k,H,I,?_,q⟩
  ·obtain⟨x',d',r',q',e'⟩:=h2 w (by simpa using hw);exact xG I n q' ra r' rx e' (eL hu)
  ·rw[<- h1];simp[RelV]
 |tup g r=>
  cases ry;obtain⟨its,rr,pl,_⟩:=I.tuple g.sq;obtain⟨h1,h2⟩:=zH I rr r e;refine SeqAt.in_tupleAt (CD X.K ok H n a) pl (fun w hw=> ?_) ⟨.bl k,H,I,?_,q⟩
  ·obtain⟨x',d',r',q',e'⟩:=h2 w (by simpa using hw);exact xG I n q' ra r' rx e' (eL hu)
  ·rw[<- h1];simp[RelV]
 |_=>cases e
noncomputable def gIn (n:Nat) (a b:D):Option D:=(inD n a b).map D.bl
theorem NX {K:aa}:Fit2 K (Qo K n) (gIn n):=fun ok H x y a b d Q h1 ra rb e k=>by
 obtain⟨c,e1,rfl⟩:=aF e;exact⟨ok,a,b,c,ra,rb,e1,k _ H (Same.refl H) (.bl _)⟩
noncomputable def tyD:D->String
 |.non=>"NoneType"
 |.bl _=>"bool"
 |.int _=>"int"
 |.str _=>"str"
 |.lst _=>"list"
 |.tup _=>"tuple"
 |.obj _=>"object"
 |.scr _=>"object"
noncomputable def dR:D->Bool
 |.obj _=>true
 |.scr _=>true
 |_=>false
noncomputable def lC (T:String) (d:D):Option Bool:=
 if dR d=true then wf else if T="int" then we (match d with|.int _=>true|.bl _=>true|_=>false)
 else if T="bool" then we (match d with|.bl _=>true|_=>false)
 else if T="str" then we (match d with|.str _=>true|_=>false)
 else if T="list" then we (match d with|.lst _=>true|_=>false)
 else if T="tuple" then we (match d with|.tup _=>true|_=>false)
 else if T="dict" then we false
 else wf
theorem Kv {K:aa} (h:lC T d=we k):PySem.W.kitOne K (.type (tyD d)) (.type T)=we k:=by
 unfold lC at h;split at h
 ·cases h
 rename_i hob
 split at h
 ·subst_vars;cases h;cases d <;> first|rfl|exact absurd rfl hob
 ·split at h
  ·subst_vars;cases h;cases d <;> first|rfl|exact absurd rfl hob
  ·split at h
   ·subst_vars;cases h;cases d <;> first|rfl|exact absurd rfl hob
   ·split at h
    ·subst_vars;cases h;cases d <;> first|rfl|exact absurd rfl hob
    ·split at h
     ·subst_vars;cases h;cases d <;> first|rfl|exact absurd rfl hob
     ·split at h
      ·subst_vars;cases h;cases d <;> first|rfl|exact absurd rfl hob
      ·cases h
noncomputable def QQ (K:aa):List V->Hp->VK->Prop:=fun xs H Q=>∃ x T d ok k,xs=[x,.ty T]/\Rep K ok H x d/\lC T d=we k/\Q (.bl k) H
theorem Ie:CallR X (.builtin "isinstance") (QQ X.K):=by
 intro pins s σ H xs us Q I r h;obtain⟨x,T,d,ok,k,rfl,q,e,hq⟩:=h;obtain⟨u,w',rfl,ru,rw'⟩:=CS r;cases rw';have fin:∀ tk,EP X pins σ Q (.bool k) { s with toks:=tk }:=fun tk=>⟨.bl k,H,I.tok _,rfl,hq⟩;have ek:=Kv (K:=X.K) e;cases q with
 |non=>cases ru;exact j8 uu I.kIn gs ek (fun z=>nomatch z) fin
 |bl b=>cases ru;exact j8 uv I.kIn gs ek (fun z=>nomatch z) fin
 |int i=>obtain⟨t,rfl⟩:=ru;exact j8 va I.kIn gs ek (fun z=>nomatch z) fin
 |str z=>obtain⟨t,rfl⟩:=ru;exact j8 vb I.kIn gs ek (fun z=>nomatch z) fin
 |lst g r=>
  cases ru;obtain⟨its,_,⟨o,n,e1,c1,_,_⟩,_⟩:=I.list g.sq;exact j8 uw I.kIn ⟨o,e1,c1⟩ ek (fun z=>nomatch z) fin
 |tup g r=>
  cases ru;obtain⟨its,_,⟨o,e1,c1,_⟩,_⟩:=I.tuple g.sq;exact j8 ug I.kIn ⟨o,e1,c1⟩ ek (fun z=>nomatch z) fin
 |obj _=>exact nomatch e
 |scr _ _=>exact nomatch e
end
set_option compiler.extract_closed false
local macro_rules| `(tactic|walk_at "adr")=> `(tactic|((try unfold af at*);omega))
noncomputable def sN (env:Env):List (Str×g8)->List (Str×af)->List (Str×af)
 |[],acc=>acc
 |(n,k)::r,acc=>if k== .free then sN env r ((n,(env.cells.lookup n).getD 0)::acc) else sN env r acc
theorem uC (f:Str×g8->List (Str×af)->Sem (ForInStep (List (Str×af))))
  (hf:∀ name kind cs,f (name,kind) cs=if kind== .free then(do let c <- cellOf env name;pure (.yield ((name,c)::cs))) else pure (.yield cs)):
  ∀(names:List (Str×g8)) (acc:List (Str×af)),(∀ y∈names,y.2=.free->∃ c,env.cells.lookup y.1=we c)->(forIn names acc f:Sem _)=pure (sN env names acc)
 |[],acc,_=>by rw[v5];rfl
 |(n,k)::r,acc,h=>by
  rw[List.forIn_cons,hf];have hr:∀ y∈r,y.2=.free->∃ c,env.cells.lookup y.1=we c:=fun y hy=>h y (aj _ hy);unfold sN
  by_cases hk:(k==gw)=true
  ·rw[if_pos hk,if_pos hk];obtain⟨c,hc⟩:=h (n,k) au (by simpa using hk);have e:(cellOf env n:Sem af)=pure c:=by unfold cellOf;rw[hc]
   rw[e,hc];simp only[pure_bind,Option.getD_some];exact uC f hf r _ hr
  ·rw[if_neg hk,if_neg hk];simp only[pure_bind];exact uC f hf r _ hr
theorem sM (h:∀ y∈scope.names,y.2=.free->∃ c,env.cells.lookup y.1=we c):closureFor scope env=pure (sN env scope.names []):=by
 simp only[closureFor];rw[uC (env:=env) _ (fun name kind cs=>by cases hk:kind==gw <;> simp[hk]) scope.names [] h];rfl
theorem nK:∀ {names:List (Str×g8)}{acc:List (Str×af)}{c:af},(sN env names acc).lookup x=we c->acc.lookup x=we c∨((x,gw)∈names/\c=(env.cells.lookup x).getD 0)
 |[],acc,c,h=>.inl h
 |(n,k)::r,acc,c,h=>by
  unfold sN at h
  by_cases hk:(k==gw)=true
  ·rw[if_pos hk] at h;rcases nK h with q|⟨q1,q2⟩
   ·rw[fu] at q;cases hx:x==n with
    |true=>
     rw[hx] at q;obtain rfl:x=n:=by simpa using hx
     have hk':k=.free:=by simpa using hk
     subst hk';exact .inr ⟨au,by cases q;rfl⟩
    |false=>
     rw[hx] at q;exact .inl q
   ·exact .inr ⟨aj _ q1,q2⟩
  ·rw[if_neg hk] at h;rcases nK h with q|⟨q1,q2⟩
   ·exact .inl q
   ·exact .inr ⟨aj _ q1,q2⟩
theorem pR:∀ {names:List (Str×g8)}{acc:List (Str×af)},(∃ c,acc.lookup x=we c)->∃ c,(sN env names acc).lookup x=we c
 |[],acc,h=>h
 |(n,k)::r,acc,h=>by
  unfold sN;split
  ·refine pR ?_;rw[fu];cases hx:x==n with
   |true=>exact⟨_,rfl⟩
   |false=>exact h
  ·exact pR h
theorem uL:∀ {names:List (Str×g8)}{acc:List (Str×af)},(x,gw)∈names->∃ c,(sN env names acc).lookup x=we c
 |(n,k)::r,acc,h=>by
  unfold sN;rcases ak.mp h with e|h
  ·cases e;rw[if_pos (by rfl)];exact pR ⟨_,by rw[fu,beq_self_eq_true]⟩
  ·split
   ·exact uL h
   ·exact uL h
theorem eX:∀ {names:List (Str×g8)}{n:Nat}{acc:List (Str×af)}{c:af},(gp n names acc).lookup x=we c->acc.lookup x=we c∨((x,cw)∈names/\n<=c)
 |[],n,acc,c,h=>.inl h
 |(y,k)::r,n,acc,c,h=>by
  unfold gp at h
  by_cases hk:(k==cw)=true
  ·rw[if_pos hk] at h;rcases eX h with q|⟨q1,q2⟩
   ·rw[fu] at q;cases hx:x==y with
    |true=>
     rw[hx] at q;obtain rfl:x=y:=by simpa using hx
     have hk':k=.cell:=by simpa using hk
     subst hk';cases q;exact .inr ⟨au,bj _⟩
    |false=>
     rw[hx] at q;exact .inl q
   ·exact .inr ⟨aj _ q1,by walk_at "adr"⟩
  ·rw[if_neg hk] at h;rcases eX h with q|⟨q1,q2⟩
   ·exact .inl q
   ·exact .inr ⟨aj _ q1,q2⟩
theorem gZ:∀ {names:List (Str×g8)}{n:Nat}{acc:List (Str×af)},(x,cw)∉names->(gp n names acc).lookup x=acc.lookup x
 |[],n,acc,_=>rfl
 |(y,k)::r,n,acc,h=>by
  have hr:(x,cw)∉r:=fun z=>h (aj _ z);unfold gp
  by_cases hk:(k==cw)=true
  ·rw[if_pos hk,gZ hr,fu];have hk':k=.cell:=by simpa using hk
   subst hk';cases hx:x==y with
   |true=>
    obtain rfl:x=y:=by simpa using hx
    exact absurd au h
   |false=>rfl
  ·rw[if_neg hk,gZ hr]
theorem eK:∀ {names:List (Str×g8)}{n:Nat}{acc:List (Str×af)},(∃ c,acc.lookup x=we c)->∃ c,(gp n names acc).lookup x=we c
 |[],n,acc,h=>h
 |(y,k)::r,n,acc,h=>by
  unfold gp;split
  ·refine eK ?_;rw[fu];cases hx:x==y with
   |true=>exact⟨_,rfl⟩
   |false=>exact h
  ·exact eK h
theorem iY:∀ {names:List (Str×g8)}{n:Nat}{acc:List (Str×af)},(x,cw)∈names->∃ c,(gp n names acc).lookup x=we c
 |(y,k)::r,n,acc,h=>by
  unfold gp;rcases ak.mp h with e|h
  ·cases e;rw[if_pos (by rfl)];exact eK ⟨_,by rw[fu,beq_self_eq_true]⟩
  ·split
   ·exact iY h
   ·exact iY h
structure uV (h:cx) (n:Nat) (acc cs:List (Str×af)):Prop where
 cell:∀ x c,(x,c)∈cs->(x,c)∈acc∨(h.IsCell c wf/\n<=c)
 apart:∀ x y c,(x,c)∈cs->(y,c)∈cs->n<=c->x=y
theorem tL:∀(names:List (Str×g8)) (h:cx) (n:Nat) (acc0 acc:List (Str×af)),n<=h.objs.size->uV h n acc0 acc->(∀ x c,(x,c)∈acc->c<h.objs.size)->uV (pushCells h names) n acc0 (gp h.objs.size names acc)
 |[],h,n,acc0,acc,_,N,_=>N
 |(y,k)::r,h,n,acc0,acc,hn,N,hlt=>by
  unfold pushCells gp;split
  ·have:=tL r (h.push { cls:=.type "cell",data:=.cell wf }) n acc0 ((y,h.objs.size)::acc) (by rw[hZ];walk_at "adr")
    ⟨fun x c hm=>by
     rcases ak.mp hm with e|hm
     ·cases e;exact .inr ⟨⟨_,b0 _ rfl,rfl⟩,hn⟩
     ·rcases N.cell x c hm with q|⟨q1,q2⟩
      ·exact .inl q
      ·exact .inr ⟨q1.keeps fun b o e=>bh _ e,q2⟩,
    fun x z c h1 h2 h3=>by
     rcases ak.mp h1 with e1|h1 <;> rcases ak.mp h2 with e2|h2
     ·cases e1;cases e2;rfl
     ·cases e1;exact absurd (hlt z _ h2) (f9 _)
     ·cases e2;exact absurd (hlt x _ h1) (f9 _)
     ·exact N.apart x z c h1 h2 h3⟩
    (fun x c hm=>by
     rw[hZ];rcases ak.mp hm with e|hm
     ·cases e;walk_at "adr"
     ·have:=hlt x c hm;walk_at "adr")
   rw[hZ] at this;exact this
  ·exact tL r h n acc0 acc hn N hlt
theorem GL
  (h:∀ h':cx,(∀ b o,s.heap.get? b=we o->h'.get? b=we o)->h'.Ns s.heap.objs.size (fun _=>wf)->uV h' (s.heap.objs.size+1) cl (gp (s.heap.objs.size+1) scope.names cl)->
   Q { scope:=scope,locals:=s.heap.objs.size,globals:=globals,cells:=gp (s.heap.objs.size+1) scope.names cl,qual:=qual,func:=wf,code:=env.code,frame:=env.frame,builtins:=env.builtins } { s with heap:=h' })
  (hlt:∀ x c,(x,c)∈cl->c<s.heap.objs.size):bf M A (rm scope globals cl [] qual wf .none (we env)) Q E s:=by
 simp only[rm,uf,if_true];refine ae (wpAny_alloc ?_);refine ae (wpAny_layCells _ (fun name kind cells=>by cases hkc:kind==cw <;> simp[hkc]) _ _ _ _ ?_);rw[show({ s with heap:=s.heap.push { cls:=.type "dict",data:=.dict #[] } }:aq).heap.objs.size=s.heap.objs.size+1 from hZ ..];rw[v5];refine ae (ao (ao (h _ (fun b o e=>pushCells_keeps _ _ b o (bh _ e)) ((Heap.Ns.new s.heap (.type "dict")).keeps (pushCells_keeps _ _)) ?_)))
 have:=tL scope.names (s.heap.push { cls:=.type "dict",data:=.dict #[] }) (s.heap.objs.size+1) cl cl (by rw[hZ];walk_at "adr")
  ⟨fun x c hm=>.inl hm,fun x y c h1 h2 h3=>absurd (hlt x c h1) (by walk_at "adr")⟩ (fun x c hm=>by rw[hZ];have:=hlt x c hm;walk_at "adr")
 rw[hZ] at this;exact this
theorem xO (I:Nat->aq->Prop)
  (turn:∀ n s,I n s->bf (model prog w) A (mv it) (fun r s₁=>match r with
   |none=>R (.ok .next) s₁
   |some v=>bf (model prog w) A (n6 target it v) (fun _ s₁'=>bf (model prog w) A (assign target env v) (fun _ s₂=>
     bf (model prog w) A (forIn ifs true fun c r=>if r=true then do let ok <- isTrue c env (eval c env);pure (n9 ok) else pure (n9 r)) (fun ok s₃=>
      if ok=true then bf (model prog w) A (eval elt env) (fun x s₄=>
       bf (model prog w) A (call (.builtin "list.append") [acc,x]) (fun _ s₅=>∃ m,m<n/\I m s₅) (fun _ _=>False) s₄) (fun _ _=>False) s₃
      else ∃ m,m<n/\I m s₃) (fun _ _=>False) s₂) (fun _ _=>False) s₁') (fun _ _=>False) s₁) (fun _ _=>False) s)
  (n:Nat) (h:I n s):nu (model prog w) A (.compLoop (.ListComp elt [⟨target,iter,ifs,0⟩] scope pos) 0 it acc env) R s:=by
 refine codeAny_loop rfl I (fun n s hI=> ?_) n h;show bf _ A ((compTurn (.ListComp elt [⟨target,iter,ifs,0⟩] scope pos) 0 it acc env).onRaise (fun x=>do uh x env;theTreesLotGoes x)) _ _ s;refine wpAny_noted ?_;rw[compTurn_list];refine ae (su (ae (gq (turn n s hI) (fun r s₁ h₁=> ?_) fun _ _ h'=>h'.elim)));cases r with
 |none=>exact ao h₁
 |some v=>
  refine ae (gq h₁ (fun _ s₁' h₁'=> ?_) fun _ _ h'=>h'.elim);refine ae (gq h₁' (fun _ s₂ h₂=>ae (gq h₂ (fun ok s₃ h₃=> ?_) fun _ _ h'=>h'.elim)) fun _ _ h'=>h'.elim);cases ok with
  |false=>exact ao ⟨rfl,h₃⟩
  |true=>
   exact ae (ae (gq h₃ (fun x s₄ h₄=>ae (gq h₄ (fun _ s₅ h₅=>ao (ao ⟨rfl,h₅⟩)) fun _ _ h'=>h'.elim)) fun _ _ h'=>h'.elim))
noncomputable def blk (X:Cx) (N':List Str) (scope:j0) (cells:List (Str×af)) (C:af) (fp:List af) (pins:List (af×Obj)) (s₀:aq) (H₀:Hp):Cx where
 prog:=X.prog
 w:=X.w
 K:=X.K
 mg:=X.mg
 base:=X.base
 A:=X.A
 N:=N'
 s₀:=s₀
 H₀:=H₀
 env:=compEnvC scope cells C X.env
 outer:=X.stack
 stack:=X.stack
 ex:=fp
 fn:=fun x=>scope.names.lookup x==we .cell
 calm:=X.calm
 pn:=X.pn++pins
 xe:=fun _ _=>False
noncomputable def LF (X:Cx) (ifs:List bw) (tt:TT):Prop:=
 ∀(pins:List (af×Obj)) (s:aq) (σ:St) (H:Hp) (Q:Bool->Hp->Prop),Inv X pins σ H s->tt σ H Q->
  bf (model X.prog X.w) X.A (forIn ifs true fun c r=>if r=true then do let ok <- isTrue c X.env (eval c X.env);pure (n9 ok) else pure (n9 r)) (TP X pins σ Q) X.xe s
noncomputable def QB:TT:=fun _ H Q=>Q true H
theorem KC:LF X [] QB:=fun _ _ _ H _ I h=>wpAny_tests_nil ⟨H,I,h⟩
theorem KB (h:PT X c tt):LF X [c] tt:=fun pins s σ H Q I q=>wpAny_tests_one (h pins s σ H Q I q)
noncomputable def Fq (caps:List (Option Nat)) (σ:St):St:=caps.map fun o=>o.bind fun j=>(σ[j]?).join
noncomputable def BB (X:Cx) (scope:j0) (N':List Str) (caps:List (Option Nat)):Prop:=
 caps.length=N'.length/\∀(i j:Nat),caps[i]?=we (we j)->∃ x,N'[i]?=we x/\X.N[j]?=we x/\scope.names.lookup x=we .free/\(x,cw)∉scope.names/\(X.env.scope.names.lookup x=we .cell∨X.env.scope.names.lookup x=we .free)
noncomputable def Jb (wi:TI) (caps:List (Option Nat)) (g:TG) (tt:TT) (te:TE):TE:=fun σ H Q=>wi σ H fun J H1=>∀ D,H1 D=wf->∃ W:Nat->Nat->St->Hp->Prop,(∃ m,W 0 m (Fq caps σ) (upd H1 D (.lst [])))/\
 ∀ i m σ' H,W i m σ' H->(J.stop i H/\Q (.ref D) H)∨(J.go i H/\∀ x H',J.yld i H x H'->g x σ' H' fun σ2 H2=>tt σ2 H2 fun b H3=>
  if b=true then te σ2 H3 fun y H4=>∃ ys m',H4 D=we (.lst ys)/\ys.length<sizeLine/\m'<m/\W (i+1) m' σ2 (upd H4 D (.lst (ys++[y]))) else ∃ m',m'<m/\W (i+1) m' σ2 H3)
section
variable {X:Cx}{elt iter tg:bw}{ifs:List bw}{scope:j0}{pos:Pos}{N':List Str}{caps:List (Option Nat)}{wi:TI}{g:TG}{tt:TT}{te:TE}
theorem fW (h:(relabel scope env).names.lookup x=we k):scope.names.lookup x=we k∨(k=.cell/\scope.names.lookup x=we .free):=by
 have aux:∀(names:List (Str×g8)),(names.map fun(n,k)=>if(k==gw&&env.scope.kind== .function&&env.kindOf n==we .cell) then(n,cw) else(n,k)).lookup x=we k->
   names.lookup x=we k∨(k=.cell/\names.lookup x=we .free):=by
  intro names
  induction names with
  |nil=>intro h;cases h
  |cons p r ih=>
   obtain⟨n,kk⟩:=p;intro h;rw[bp] at h
   by_cases hc:(kk==gw&&env.scope.kind== .function&&env.kindOf n==we .cell)=true
   ·have h':jt x ((n,cw)::(r.map fun(n,k)=>if(k==gw&&env.scope.kind== .function&&env.kindOf n==we .cell) then(n,cw) else(n,k)))=we k:=by
     have e:(if(kk==gw&&env.scope.kind== .function&&env.kindOf n==we .cell)=true then(n,cw) else(n,kk))=(n,cw):=if_pos hc;rw[<- e];exact h
    rw[fu] at h' ⊢;cases hx:x==n with
    |true=>
     rw[hx] at h';cases h';have hk:kk=.free:=by
      rw[bu,bu] at hc;simpa using hc.1.1
     exact .inr ⟨rfl,by rw[hk]⟩
    |false=>
     rw[hx] at h';exact ih h'
   ·have h':jt x ((n,kk)::(r.map fun(n,k)=>if(k==gw&&env.scope.kind== .function&&env.kindOf n==we .cell) then(n,cw) else(n,k)))=we k:=by
     have e:(if(kk==gw&&env.scope.kind== .function&&env.kindOf n==we .cell)=true then(n,cw) else(n,kk))=(n,kk):=if_neg hc;rw[<- e];exact h
    rw[fu] at h' ⊢;cases hx:x==n with
    |true=>
     rw[hx] at h';exact .inl h'
    |false=>
     rw[hx] at h';exact ih h'
 exact aux scope.names h
theorem dB {l:List (Str×g8)} (h:l.lookup x=we k):(x,k)∈l:=fx h
theorem xL {Qn:V->Hp->Prop}{RR:ai->af->Result->aq->Prop}
  (hc:X.calm=true) (hkind:scope.kind=.function)
  (hfree:∀ y∈scope.names,y.2=.free->X.env.scope.names.lookup y.1=we .cell∨X.env.scope.names.lookup y.1=we .free) (huniq:∀ y∈scope.names,y.2=.free->(y.1,cw)∉scope.names)
  (hcap:BB X scope N' caps)
  (hb:∀ cells C fp pins s₀ H₀,PG (blk X N' scope cells C fp pins s₀ H₀) tg g/\LF (blk X N' scope cells C fp pins s₀ H₀) ifs tt/\PE (blk X N' scope cells C fp pins s₀ H₀) elt te)
  (I2:Inv X pins σ H2 s2) (T:LD X.prog X.w X.K tg J fp it tn) (st2:tn 0 s2.heap) (f2:∀ b∈fp,IX X pins H2 b)
  (q:∀ D,H2 D=wf->∃ W:Nat->Nat->St->Hp->Prop,(∃ m,W 0 m (Fq caps σ) (upd H2 D (.lst [])))/\
   ∀ i m σ' H,W i m σ' H->(J.stop i H/\Qn (.ref D) H)∨(J.go i H/\∀ x H',J.yld i H x H'->g x σ' H' fun σ2 H2=>tt σ2 H2 fun b H3=>
    if b=true then te σ2 H3 fun y H4=>∃ ys m',H4 D=we (.lst ys)/\ys.length<sizeLine/\m'<m/\W (i+1) m' σ2 (upd H4 D (.lst (ys++[y]))) else ∃ m',m'<m/\W (i+1) m' σ2 H3))
  (hfin:∀(C D:af) (s6:aq) (H6:Hp),Inv X pins σ H6 s6->Qn (.ref D) H6->(∃ m,s6.heap.Ns C m)->H6 C=wf->C≠X.env.locals->X.s₀.heap.objs.size<=C->(∀ x c,X.env.cells.lookup x=we c->c≠C)->(∀ p∈X.pn++pins,p.1≠C)->RR (.ref D) C (.ok .next) s6):
  bf (model X.prog X.w) X.A (newList []) (fun acc s₃=>bf (model X.prog X.w) X.A (rm scope X.env.globals (sN X.env scope.names []) [] X.env.qual wf .none (we X.env)) (fun cenv s₄=>
   nu (model X.prog X.w) X.A (.compStart (.ListComp elt [⟨tg,iter,ifs,0⟩] scope pos) 0 (.ref it) acc { cenv with scope:=relabel scope X.env }) (RR acc cenv.locals) s₄) E s₃) E s2:=by
 have hcells:∀ y∈scope.names,y.2=.free->∃ c,X.env.cells.lookup y.1=we c:=fun y hy hf=>I2.ok.has y.1 (hfree y hy hf);have hD:H2 s2.heap.objs.size=wf:=I2.hok.fresh (bj _);obtain⟨W,⟨m0,w0⟩,turn⟩:=q s2.heap.objs.size hD;refine dw ?_ (ip _)
 generalize hs3:({ s2 with heap:=s2.heap.push { cls:=.type "list",dict:=wf,data:=.seq ([]:List ai).toArray } }:aq)=s3
 have I3:Inv X pins σ (upd H2 s2.heap.objs.size (.lst [])) s3:=by
  subst hs3;exact I2.laid (t':=s2.toks) (fun b u e=>bh _ e) (bj _) ⟨ip _,[],0,.nil,b0 _ rfl⟩
 have sz3:s3.heap.objs.size=s2.heap.objs.size+1:=by rw[<- hs3];exact hZ ..
 have k23:∀ b o,s2.heap.get? b=we o->s3.heap.get? b=we o:=fun b o e=>by rw[<- hs3];exact bh _ e
 generalize hH3:upd H2 s2.heap.objs.size (.lst [])=H3 at I3 w0
 have clLook:∀ x c,(sN X.env scope.names []).lookup x=we c->X.env.cells.lookup x=we c:=fun x c e=>by
  rcases nK e with z|⟨z1,z2⟩
  ·cases z
  ·obtain⟨c',hc'⟩:=hcells (x,.free) z1 rfl;rw[hc'] at z2 ⊢;rw[z2];rfl
 have clMem:∀ x c,(x,c)∈sN X.env scope.names []->∃ c',X.env.cells.lookup x=we c'/\c=c':=by
  have aux:∀(names:List (Str×g8)) (acc:List (Str×af)),(∀ y∈names,y.2=.free->∃ c,X.env.cells.lookup y.1=we c)->(∀ x c,(x,c)∈acc->∃ c',X.env.cells.lookup x=we c'/\c=c')->
    ∀ x c,(x,c)∈sN X.env names acc->∃ c',X.env.cells.lookup x=we c'/\c=c':=by
   intro names
   induction names with
   |nil=>intro acc _ h x c hm;exact h x c hm
   |cons p r ih=>
    obtain⟨n,k⟩:=p;intro acc hn h x c hm;unfold sN at hm;have hr:∀ y∈r,y.2=.free->∃ c,X.env.cells.lookup y.1=we c:=fun y hy=>hn y (aj _ hy);split at hm
    ·rename_i hk
     refine ih _ hr (fun x c hm=> ?_) x c hm;rcases ak.mp hm with e|hm
     ·cases e;obtain⟨c',hc'⟩:=hn (n,k) au (by simpa using hk);exact⟨c',hc',by rw[hc'];rfl⟩
     ·exact h x c hm
    ·exact ih _ hr h x c hm
  exact aux scope.names [] hcells (fun x c hm=>by cases hm)
 have cellLt:∀ x c,X.env.cells.lookup x=we c->c<s2.heap.objs.size:=fun x c e=>by
  obtain⟨v,z⟩:=I2.cell x c e;exact z.lt
 have hltc:∀ x c,(x,c)∈sN X.env scope.names []->c<s3.heap.objs.size:=fun x c hm=>by
  obtain⟨c',hc',rfl⟩:=clMem x c hm
  have:=cellLt x c hc'
  walk_at "adr"
 refine GL (fun h4 k34 ns4 nc=> ?_) hltc
 generalize hC:s3.heap.objs.size=C at ns4 nc
 generalize hcs:gp (C+1) scope.names (sN X.env scope.names [])=cells at nc
 -- the block's own invariant
 have cellOld:∀ x c,cells.lookup x=we c->c<C->X.env.cells.lookup x=we c:=fun x c e hlt=>by
  rw[<- hcs] at e;rcases eX e with z|⟨_,z⟩
  ·exact clLook x c z
  ·walk_at "adr"
 have cellNew:∀ x c,cells.lookup x=we c->¬ c<C->h4.IsCell c wf/\C+1<=c:=fun x c e hge=>by
  rcases nc.cell x c (fx e) with z|z
  ·obtain⟨c',hc',rfl⟩:=clMem x c z
   have:=cellLt x c hc'
   walk_at "adr"
  ·exact z
 have sz4:C<=h4.objs.size:=ic ns4.lt;have okB:(blk X N' scope cells C fp pins s3 H3).Ok:=by
  refine⟨I3.ok.mod,hkind,I3.ok.glob,I3.ok.blt,t7 hC,fun x y c h1 h2=> ?_,fun x hx=> ?_,fun x c hf hx=> ?_,I3.ok.hd,I3.ok.frames,.inl rfl,fun b hb=>⟨?_,fun x c hx=> ?_⟩,I3.bs,ci I3.ok.bsz I3.sz,fun b o e hb=> ?_,fun b hb=> ?_,I3.stack,I3.stkFree⟩
  ·by_cases hlt:c<C
   ·exact I3.ok.inj x y c (cellOld x c h1 hlt) (cellOld y c h2 hlt)
   ·exact nc.apart x y c (fx h1) (fx h2) (cellNew x c h1 hlt).2
  ·show ∃ c,cells.lookup x=we c;rw[<- hcs];have hx':(relabel scope X.env).names.lookup x=we .cell∨(relabel scope X.env).names.lookup x=we .free:=hx;have fromFree:(x,gw)∈scope.names->∃ c,(gp (C+1) scope.names (sN X.env scope.names [])).lookup x=we c:=fun hm=>eK (uL hm);rcases hx' with hx'|hx'
   ·rcases fW hx' with z|⟨_,z⟩
    ·exact iY (dB z)
    ·exact fromFree (dB z)
   ·rcases fW hx' with z|⟨z,_⟩
    ·exact fromFree (dB z)
    ·cases z
  ·have hf':(x,cw)∈scope.names:=dB (by simpa using (show(scope.names.lookup x==we .cell)=true from hf))
   by_cases hlt:c<C
   ·exfalso
    have e:(gp (C+1) scope.names (sN X.env scope.names [])).lookup x=we c:=by rw[hcs];exact hx
    rcases eX e with z|⟨_,z⟩
    ·rcases nK z with z|⟨z1,_⟩
     ·cases z
     ·exact huniq (x,.free) z1 rfl hf'
    ·walk_at "adr"
   ·show s3.heap.objs.size<=c
    have:=(cellNew x c hx hlt).2
    walk_at "adr"
  ·have:=(f2 b hb)
   obtain⟨o,e,_⟩:=T.obj 0 _ st2 b hb
   have:=br e
   show b≠C
   walk_at "adr"
  ·obtain⟨o,e,hcell⟩:=T.obj 0 _ st2 b hb;have hlt':=br e;intro z
   by_cases hlt:c<C
   ·exact(f2 b hb).2.2.2.2.1 x c (cellOld x c hx hlt) z
   ·have:=(cellNew x c hx hlt).2
    walk_at "adr"
  ·rcases(f2 b hb).2.2.2.1 with z|z
   ·exact I2.ok.noex b o e z
   ·have q1:=br e;have q2:=I2.ok.bsz;have q3:=I2.sz;exact absurd (bx q1 (ci q2 z)) (f9 _)
  ·intro z;rcases ak.mp (I3.stkSub b z) with z|z
   ·exact(f2 b hb).2.1 z
   ·exact(f2 b hb).2.2.1 z
 have hfpC:∀ b∈fp,b<C:=fun b hb=>by
  obtain⟨o,e,_⟩:=T.obj 0 _ st2 b hb
  have:=br e
  walk_at "adr"
 have Hnew:∀ b,C<=b->H3 b=wf:=fun b hb=>by
  cases z:H3 b with
  |none=>rfl
  |some o=>
   have:=I3.hok.lt z
   walk_at "adr"
 have IB:Inv (blk X N' scope cells C fp pins s3 H3) [] (Fq caps σ) H3 { s3 with heap:=h4 }:=by
  refine⟨okB,rfl,I3.bare,Un.kept k34,⟨_,ns4,fun i x v e1 e2 e3=> ?_⟩,fun x c hx=> ?_,Hnew C (bj _),fun x c hx=> ?_,fun p hp=> ?_,I3.hok.kept k34,?_⟩
  ·-- a captured name
   have e2':(Fq caps σ)[i]?=we (we v):=e2;unfold Fq at e2';rw[bc] at e2';cases hci:caps[i]? with
   |none=>rw[hci] at e2';cases e2'
   |some o=>
    rw[hci] at e2';cases o with
    |none=>cases e2'
    |some j=>
     obtain⟨x',hx1,hx2,hx3,hx4,hx5⟩:=hcap.2 i j hci;have ex:x=x':=by
      have e1':N'[i]?=we x:=e1;rw[hx1] at e1';exact(ce e1').symm
     subst ex;have hσ:σ[j]?=we (we v):=by
      have z:(σ[j]?).join=we v:=ce e2';cases hj:σ[j]? with
      |none=>rw[hj] at z;cases z
      |some o=>
       rw[hj] at z;cases o with
       |none=>cases z
       |some v'=>cases z;rfl
     obtain⟨m,hn,hl⟩:=I3.loc;obtain⟨u,r,l⟩:=hl j x v hx2 hσ (hx5.elim (fun z=>.inr (.inl z)) fun z=>.inr (.inr z));refine⟨u,r,?_⟩;rcases l with⟨k,_⟩|⟨_,c,hcx,hcell⟩
     ·have k':X.env.scope.names.lookup x=we .local:=k;rcases hx5 with z|z
      ·rw[k'] at z;cases z
      ·rw[k'] at z;cases z
     ·have hlk:cells.lookup x=we c:=by
       rw[<- hcs,gZ hx4];obtain⟨c',hc'⟩:=uL (env:=X.env) (acc:=[]) (dB hx3);rw[hc',<- clLook x c' hc',hcx]
      have e3':(relabel scope X.env).names.lookup x=we .local∨(relabel scope X.env).names.lookup x=we .cell∨(relabel scope X.env).names.lookup x=we .free:=e3;rcases e3' with z|z|z
      ·exfalso
       rcases fW z with z|⟨z,_⟩
       ·rw[hx3] at z;cases z
       ·cases z
      ·exact .inr ⟨.inl z,c,hlk,hcell.keeps k34⟩
      ·exact .inr ⟨.inr z,c,hlk,hcell.keeps k34⟩
  ·by_cases hlt:c<C
   ·obtain⟨v,z⟩:=I3.cell x c (cellOld x c hx hlt);exact⟨v,z.keeps k34⟩
   ·exact⟨wf,(cellNew x c hx hlt).1⟩
  ·by_cases hlt:c<C
   ·exact I3.freeC x c (cellOld x c hx hlt)
   ·exact Hnew c (by walk_at "adr")
  ·have hp':p∈X.pn++pins:=by
    have hp'':p∈(X.pn++pins)++[]:=hp;rwa [c7] at hp''
   obtain⟨e,n,ne,nf,d⟩:=I3.pin p hp';refine⟨k34 _ _ e,n,?_,fun z=> ?_,d⟩
   ·show p.1≠C
    have:=br e
    walk_at "adr"
   ·rcases ak.mp (I3.stkSub p.1 z) with z|z
    ·exact ne z
    ·exact nf z
  ·show(Fq caps σ).length=N'.length
   unfold Fq;rw[av];exact hcap.1
 have tn4:tn 0 h4:=T.keep 0 _ _ st2 fun b hb o e=>k34 b o (k23 b o e);have fr3:∀ b∈fp,H3 b=wf:=fun b hb=>by
  obtain⟨o,e,_⟩:=T.obj 0 _ st2 b hb;rw[<- hH3,aE (cj (br e))];exact(f2 b hb).1
 have stat:∀ {H':Hp},(∀ b∈fp,H' b=wf)->∀ b∈fp,IX (blk X N' scope cells C fp pins s3 H3) [] H' b:=fun hn b hb=>
  ⟨hn b hb,cj (hfpC b hb),fun z=>okB.exfs b hb z,.inl hb,fun x c hx=>(okB.exf b hb).2 x c hx,fun p hp=>by
   have hp':p∈X.pn++pins:=by
    have hp'':p∈(X.pn++pins)++[]:=hp;rwa [c7] at hp''
   exact(f2 b hb).2.2.2.2.2 p hp'⟩
 obtain⟨hG,hT,hE⟩:=hb cells C fp pins s3 H3;have loop:nu (model X.prog X.w) X.A (.compLoop (.ListComp elt [⟨tg,iter,ifs,0⟩] scope pos) 0 (.ref it) (.ref s2.heap.objs.size) (compEnvC scope cells C X.env)) (RR (.ref s2.heap.objs.size) C) { s3 with heap:=h4 }:=by
  refine xO (fun n s'=>∃ i σ' H',Inv (blk X N' scope cells C fp pins s3 H3) [] σ' H' s'/\tn i s'.heap/\(∀ b∈fp,H' b=wf)/\W i n σ' H') ?_ m0 ⟨0,_,_,IB,tn4,fr3,w0⟩;rintro n s5 ⟨i,σ5,H5,I5,st5,fr5,w5⟩;rcases turn i n σ5 H5 w5 with⟨stop,qn⟩|⟨go,step⟩
  ·refine thn (T.done (blk X N' scope cells C fp pins s3 H3) rfl rfl rfl hc i [] s5 σ5 H5 _ I5 (stat fr5) st5 stop) fun r s6 ⟨hr,I6⟩=> ?_;subst hr;obtain⟨m6,ns6,_⟩:=I6.loc;have un7:Un (frs X.stack) fp H3 H5 s3.heap s6.heap:=I6.base;have I8:Inv X pins σ H5 s6:=by
    refine I3.call' (ch:=fp) I6.os un7 I6.hok I6.bare fun b hb=>⟨?_,(f2 b hb).2.1,(f2 b hb).2.2.2.2.1,(f2 b hb).2.2.2.2.2⟩;exact(f2 b hb).2.2.2.1
   refine hfin C s2.heap.objs.size s6 H5 I8 qn ⟨m6,ns6⟩ I6.free ?_ (by have:=I3.sz;walk_at "adr") (fun x c e=> ?_) fun p hp=> ?_
   ·have:=I3.lt
    walk_at "adr"
   ·have:=cellLt x c e
    walk_at "adr"
   ·have:=br (I3.pin p hp).1
    walk_at "adr"
  ·refine thn (T.item (blk X N' scope cells C fp pins s3 H3) rfl rfl rfl hc i [] s5 σ5 H5 _ I5 (stat fr5) st5 go) fun r s6 ⟨u,hr,h6⟩=> ?_;subst hr;refine thn h6 fun _ s7 ⟨x,H7,I7,r7,y7,st7,fr7⟩=> ?_;have I7':=I7.pinned (stat fr7) (T.obj _ _ st7);have keepTn:∀ {σ':St}{H':Hp}{s':aq},Inv (blk X N' scope cells C fp pins s3 H3) ([]++wE fp s7.heap) σ' H' s'->tn (i+1) s'.heap/\∀ b∈fp,H' b=wf:=fun {σ' H' s'} I'=>by
    refine⟨T.keep _ _ _ st7 fun b hb o e=>(I'.pin (b,o) (dq _ (dq _ (jH hb e)))).1,fun b hb=> ?_⟩;obtain⟨o,e,d⟩:=T.obj _ _ st7 b hb;exact(I'.pin (b,o) (dq _ (dq _ (jH hb e)))).2.1
   refine thn (hG _ s7 σ5 H7 x u _ I7' r7 (step x H7 y7)) fun _ s8 ⟨σ8,H8,I8,q8⟩=> ?_;refine thn (hT _ s8 σ8 H8 _ I8 q8) fun b s9 ⟨H9,I9,q9⟩=> ?_;cases b with
   |false=>
    rw[if_neg ck] at q9 ⊢;obtain⟨m',hm,w9⟩:=q9;exact⟨m',hm,i+1,σ8,H9,I9.unpinned,(keepTn I9).1,(keepTn I9).2,w9⟩
   |true=>
    rw[if_pos rfl] at q9 ⊢;refine thn (hE _ s9 σ8 H9 _ I9 q9) fun y s10 ⟨yv,H10,I10,r10,q10⟩=> ?_;obtain⟨ys,m',hy,hz,hm,w10⟩:=q10;refine thn (wK _ s10 σ8 H10 (.ref s2.heap.objs.size) [yv] (.ref s2.heap.objs.size) [y] (fun _ H'=>H'=upd H10 s2.heap.objs.size (.lst (ys++[yv]))) I10 rfl (.cons r10 .nil) ⟨_,ys,yv,rfl,rfl,hy,hz,rfl⟩) fun _ s11 ⟨_,H11,I11,_,e11⟩=> ?_;subst e11;exact⟨m',hm,i+1,σ8,_,I11.unpinned,(keepTn I11).1,(keepTn I11).2,w10⟩
 exact codeAny_compStart_list loop (T.self X.A 0 _ _ _ tn4 loop)
theorem JA (hc:X.calm=true) (hkind:scope.kind=.function) (hnames:∀ x∈scope.names,x.2=.local->scope.names.lookup x.1=we .local)
  (hfree:∀ y∈scope.names,y.2=.free->X.env.scope.names.lookup y.1=we .cell∨X.env.scope.names.lookup y.1=we .free) (huniq:∀ y∈scope.names,y.2=.free->(y.1,cw)∉scope.names)
  (hcap:BB X scope N' caps) (hi:PI X tg iter wi)
  (hb:∀ cells C fp pins s₀ H₀,PG (blk X N' scope cells C fp pins s₀ H₀) tg g/\LF (blk X N' scope cells C fp pins s₀ H₀) ifs tt/\PE (blk X N' scope cells C fp pins s₀ H₀) elt te)
  (hs:∀ x,f7 iter X.env x=pure x:=by intro _;rfl):PE X (.ListComp elt [⟨tg,iter,ifs,0⟩] scope pos) (Jb wi caps g tt te):=by
 intro pins s σ H Q I h;have hclos:=sM (scope:=scope) (env:=X.env) fun y hy hf=>I.ok.has y.1 (hfree y hy hf);rw[eval_ListComp];refine qe (use:=wf) rfl hs hclos hkind hnames (thn (hi pins s σ H _ I h) fun v s1 h1=>thn h1 fun itv s2 h2=> ?_);obtain⟨it,fp,tn,J,H2,e,I2,T,st2,f2,q⟩:=h2;subst e;refine xL (RR:=fun acc C=>compPost (model X.prog X.w) X.A X.xe wf (EP X pins σ Q) acc C) (Qn:=fun v H=>∀ a,v=.ref a->Q (.ref a) H) hc hkind hfree huniq hcap hb I2 T st2 f2 (fun D hD=> ?_) fun C D s6 H6 I6 q6 ⟨m6,ns6⟩ hC h1 h2 h3 h4=> ?_
 ·obtain⟨W,w0,turn⟩:=q D hD;refine⟨W,w0,fun i m σ' H w=> ?_⟩;rcases turn i m σ' H w with⟨a,b⟩|z
  ·exact .inl ⟨a,fun c hc=>by cases hc;exact b⟩
  ·exact .inr z
 ·refine⟨m6,ns6,fun h7 sb=> ?_⟩;have I8:Inv X pins σ H6 { s6 with heap:=h7 }:=I6.turned (t':=s6.toks) (fun b o hb e=>(sb.2 b hb).trans e) hC h1 (.inr h2) h3 h4;exact⟨.ref D,H6,I8,rfl,q6 D rfl⟩
noncomputable def LQ (wi:TI) (caps:List (Option Nat)) (g:TG) (tt:TT) (te:TE) (i:Nat):TS:=fun D σ H=>Jb wi caps g tt te σ H fun x H1=>D.nx (σ.set i (we x)) H1
theorem Js (hN:X.N.Nodup) (hiy:X.N[i]?=we y) (hy:X.env.scope.names.lookup y=we .local) (hc:X.calm=true) (hkind:scope.kind=.function) (hnames:∀ x∈scope.names,x.2=.local->scope.names.lookup x.1=we .local)
  (hfree:∀ y∈scope.names,y.2=.free->X.env.scope.names.lookup y.1=we .cell∨X.env.scope.names.lookup y.1=we .free) (huniq:∀ y∈scope.names,y.2=.free->(y.1,cw)∉scope.names)
  (hcap:BB X scope N' caps) (hi:PI X tg iter wi)
  (hb:∀ cells C fp pins s₀ H₀,PG (blk X N' scope cells C fp pins s₀ H₀) tg g/\LF (blk X N' scope cells C fp pins s₀ H₀) ifs tt/\PE (blk X N' scope cells C fp pins s₀ H₀) elt te)
  (hsw:i9 (.ListComp elt [⟨tg,iter,ifs,0⟩] scope pos) (we (.Name y py)) spos.line X.env=pure true:=by rfl)
  (hs:∀ x,f7 iter X.env x=pure x:=by intro _;rfl):PS X (.Assign [.Name y py] (.ListComp elt [⟨tg,iter,ifs,0⟩] scope pos) spos) (LQ wi caps g tt te i):=by
 intro pins s σ H D I h;have hclos:=sM (scope:=scope) (env:=X.env) fun y hy hf=>I.ok.has y.1 (hfree y hy hf);rw[exec_Assign_Name_used _ _ _ _ hsw];refine ae (su (ae ?_));show bf _ X.A (do let _ <- comprehension (.ListComp elt [⟨tg,iter,ifs,0⟩] scope pos) scope X.env _ (newList []) false (eval iter X.env) (we (assign (.Name y py) X.env))) _ _ s;refine ae (gq (qe (use:=we (assign (.Name y py) X.env)) (Q:=fun _ s'=>SP X pins D .next s') rfl hs hclos hkind hnames
  (thn (hi pins s σ H _ I h) fun v s1 h1=>thn h1 fun itv s2 h2=> ?_)) (fun _ s' hq=>ao (ao hq)) fun _ _ e=>e)
 obtain⟨it,fp,tn,J,H2,e,I2,T,st2,f2,q⟩:=h2;subst e;refine xL (RR:=fun acc C=>compPost (model X.prog X.w) X.A X.xe (we (assign (.Name y py) X.env)) (fun _ s'=>SP X pins D .next s') acc C) (Qn:=fun v H=>∀ a,v=.ref a->D.nx (σ.set i (we (.ref a))) H) hc hkind hfree huniq hcap hb I2 T st2 f2 (fun D' hD=> ?_) fun C D' s6 H6 I6 q6 ⟨m6,ns6⟩ hC h1 h2 h3 h4=> ?_
 ·obtain⟨W,w0,turn⟩:=q D' hD;refine⟨W,w0,fun i m σ' H w=> ?_⟩;rcases turn i m σ' H w with⟨a,b⟩|z
  ·exact .inl ⟨a,fun c hc=>by cases hc;exact b⟩
  ·exact .inr z
 ·show bf _ X.A (assign (.Name y py) X.env (.ref D')) _ _ _;refine wpAny_assign_Name (vR I6 hN hiy (.inl hy) (v:=.ref D') (u:=.ref D') rfl (fun s7 I7 ⟨a,sb,ha⟩=> ?_) (.inr hy));have hCa:C≠a:=by
   rcases ha with rfl|ha
   ·exact h1
   ·exact fun z=>h3 y a ha z.symm
  refine⟨m6,ns6.sameBut sb hCa,fun h8 sb8=> ?_⟩;have I8:Inv X pins (σ.set i (we (.ref D'))) H6 { s7 with heap:=h8 }:=I7.turned (t':=s7.toks) (fun b o hb e=>(sb8.2 b hb).trans e) hC h1 (.inr h2) h3 h4;exact⟨_,H6,I8,q6 D' rfl⟩
end
set_option compiler.extract_closed false
local macro_rules| `(tactic|walk_at "adr")=> `(tactic|((try unfold af at*);omega))
noncomputable def Itz (K:aa) (l1 l2:af):It:=
 ⟨fun i H=>∃ xs ys x y,SqL K H l1 xs/\SqL K H l2 ys/\xs[i]?=we x/\ys[i]?=we y,
  fun i H v H'=>∃ T x y,v=.ref T/\H T=wf/\(∀ xs,SqL K H l1 xs->xs[i]?=we x)/\(∀ ys,SqL K H l2 ys->ys[i]?=we y)/\H'=upd H T (.tup [x,y]),
  fun i H=>∃ xs ys,SqL K H l1 xs/\SqL K H l2 ys/\(xs.length<=i∨ys.length<=i)⟩
theorem FT {K:aa}{z TI TO i1 i2 l1 l2:af} (D:ZipApart z TI TO i1 i2 l1 l2):LD P w K (.Tuple es k pos) (Itz K l1 l2) [z,TI,TO,i1,i2] z
  (fun i h=>IsZip h z TI TO .none/\IsPair h TI (.ref i1) (.ref i2)/\(∃ a b,IsPair h TO a b)/\h.IsListIter i1 l1 i/\h.IsListIter i2 l2 i) where
 mem:=by simp
 obj:=fun i h st b hb=>by
  obtain⟨hz,hTI,⟨a,b',hTO⟩,⟨o1,e1,c1,d1⟩,⟨o2,e2,c2,d2⟩⟩:=st;simp only[ak,cm,or_false] at hb;rcases hb with rfl|rfl|rfl|rfl|rfl
  ·exact⟨_,hz,fun v q=>by cases (show Data.fields _=t6 v from q)⟩
  ·exact⟨_,hTI,fun v q=>by cases (show Data.seq _ _=t6 v from q)⟩
  ·exact⟨_,hTO,fun v q=>by cases (show Data.seq _ _=t6 v from q)⟩
  ·exact⟨o1,e1,fun v q=>by rw[d1] at q;cases q⟩
  ·exact⟨o2,e2,fun v q=>by rw[d2] at q;cases q⟩
 keep:=fun i h h' st kp=>by
  obtain⟨hz,hTI,⟨a,b',hTO⟩,h1,h2⟩:=st;exact⟨kp z (by simp) _ hz,kp TI (by simp) _ hTI,⟨a,b',kp TO (by simp) _ hTO⟩,h1.at fun o e=>kp i1 (by simp) o e,h2.at fun o e=>kp i2 (by simp) o e⟩
 item:=by
  intro X hP hw hK hc i pins s σ H E I hf st hg;subst hP hw hK;obtain⟨hz,hTI,⟨a,b',hTO⟩,h1,h2⟩:=st;obtain⟨xs,ys,x,y,hq1,hq2,hx,hy⟩:=hg;obtain⟨its1,rv1,p1,hz1⟩:=I.list hq1;obtain⟨its2,rv2,p2,hz2⟩:=I.list hq2;obtain⟨u1,hu1,ru1⟩:=rv1.get hx;obtain⟨u2,hu2,ru2⟩:=rv2.get hy;have lt:∀ {c:af}{o:Obj},s.heap.get? c=we o->c<s.heap.objs.size:=fun e=>br e;refine wpAny_pyNext_zip_item D hz hTI hTO h1 h2 p1.isList p2.isList (x:=u1) (y:=u2) (by simpa using hu1) (by simpa using hu2) fun h' a1 a2 a3 a4 a5 a6 hk=> ?_;refine⟨_,rfl,wpAny_letOwnedTupleGo_zip (s:={ s with heap:=h' }) a1 fun h'' z1 sb=> ?_⟩;have hTf:H s.heap.objs.size=wf:=I.hok.fresh (bj _);have hzlt:=lt hz;have up:∀ b o,b≠z->b≠TO->b≠i1->b≠i2->s.heap.get? b=we o->h''.get? b=we o:=fun b o n1 n2 n3 n4 e=>(sb.2 b n1).trans (hk b o n1 n2 n3 n4 e);have fpb:∀ b,b=z∨b=TO∨b=i1∨b=i2->b∈[z,TI,TO,i1,i2]:=fun b hb=>by
   rcases hb with rfl|rfl|rfl|rfl <;> simp
  have nT:∀ b,b∈[z,TI,TO,i1,i2]->b≠s.heap.objs.size:=fun b hb=>by
   obtain⟨o1,e1,_⟩:=h1;obtain⟨o2,e2,_⟩:=h2;simp only[ak,cm,or_false] at hb;rcases hb with rfl|rfl|rfl|rfl|rfl
   ·exact cj (lt hz)
   ·exact cj (lt hTI)
   ·exact cj (lt hTO)
   ·exact cj (lt e1)
   ·exact cj (lt e2)
  have trk:∀ b u,H b=we u->b∉[z,TI,TO,i1,i2]:=fun b u e hb=>by
   rw[(hf b hb).1] at e;cases e
  have upH:∀ b u o,H b=we u->s.heap.get? b=we o->h''.get? b=we o:=fun b u o e q=>
   up b o (fun w=>trk b u e (fpb b (.inl w))) (fun w=>trk b u e (fpb b (.inr (.inl w)))) (fun w=>trk b u e (fpb b (.inr (.inr (.inl w))))) (fun w=>trk b u e (fpb b (.inr (.inr (.inr w))))) q
  have hTup:IsTup h'' s.heap.objs.size #[u1,u2]:=⟨_,(sb.2 _ (Nat.ne_of_gt hzlt)).trans a5,rfl,_,rfl⟩;have hok:HOk X.prog X.w (upd H s.heap.objs.size (.tup [x,y])) h'':=fun b u e=>by
   by_cases hb:b=s.heap.objs.size
   ·subst hb;rw[aK] at e;cases e;exact⟨by show 2<=sizeLine;decide,[u1,u2],.cons ru1 (.cons ru2 .nil),hTup⟩
   ·rw[aE hb] at e;refine(I.hok b u e).stay (fun c v hcb q=> ?_) (fun c q=>by rw[aE (aH q hTf)];exact q) fun c zs q=>by rw[aE (aH q hTf)];exact q
    rcases hcb with rfl|hcb
    ·exact upH _ _ v e q
    ·exact upH _ _ v hcb q
  have I2:Inv X pins σ (upd H s.heap.objs.size (.tup [x,y])) { s with heap:=h'' }:=by
   refine I.step (g':=s.gens) (d':=s.drawn) (t':=s.toks) (ch:=[z,TO,i1,i2]) (fun b hb=> ?_) (fun b o hL hb hcb e n=> ?_) (fun b o hL hb hcb e n=>⟨o.slots,?_⟩) (fun b o hcb e n=> ?_) (fun b o hcb e=>⟨o,?_⟩)
    (fun b zs e=>by rw[aE (aH e hTf)];exact e) (fun b ob zs e=>by rw[aE (aH e hTf)];exact e) (fun b ps e=>⟨#[],by rw[aE (aH e hTf),e];simp⟩) (fun m hm=> ?_) hok I.bare
   ·have hb':b∈[z,TI,TO,i1,i2]:=by
     simp only[ak,cm,or_false] at hb;exact fpb b hb
    obtain⟨f0,f1,f2,f3,f4,f5⟩:=hf b hb';exact⟨f3,f1,f4,f5⟩
   ·simp only[ak,cm,or_false,not_or] at hcb;exact up b o hcb.1 hcb.2.1 hcb.2.2.1 hcb.2.2.2 e
   ·simp only[ak,cm,or_false,not_or] at hcb;exact up b o hcb.1 hcb.2.1 hcb.2.2.1 hcb.2.2.2 e
   ·rw[aE (cj (lt e))];exact n
   ·simp only[ak,cm,or_false,not_or] at hcb;exact up b o hcb.1 hcb.2.1 hcb.2.2.1 hcb.2.2.2 e
   ·obtain⟨o,es',ep,ho,r⟩:=hm;exact⟨o,es',ep,up _ o (fun q=>(hf z (by simp)).2.1 q.symm) (fun q=>(hf TO (by simp)).2.1 q.symm) (fun q=>(hf i1 (by simp)).2.1 q.symm) (fun q=>(hf i2 (by simp)).2.1 q.symm) ho,r⟩
  refine⟨.ref s.heap.objs.size,_,I2,rfl,⟨s.heap.objs.size,x,y,rfl,hTf,fun zs q=>by rw[I.list_inj q hq1];exact hx,fun zs q=>by rw[I.list_inj q hq2];exact hy,rfl⟩,?_,fun b hb=> ?_⟩
  ·exact⟨z1,(sb.2 _ D.TIz).trans (hk _ _ D.TIz D.TITO D.TIi1 D.TIi2 hTI),⟨_,_,(sb.2 _ D.TOz).trans a2⟩,a3.at fun o e=>(sb.2 _ D.i1z).trans e,a4.at fun o e=>(sb.2 _ D.i2z).trans e⟩
  ·rw[aE (nT b hb)];exact(hf b hb).1
 done:=by
  intro X hP hw hK hc i pins s σ H E I hf st hg;subst hP hw hK;obtain⟨hz,hTI,⟨a,b',hTO⟩,h1,h2⟩:=st;obtain⟨xs,ys,hq1,hq2,hx⟩:=hg;obtain⟨its1,rv1,p1,hz1⟩:=I.list hq1;obtain⟨its2,rv2,p2,hz2⟩:=I.list hq2;have hl1:=rv1.length;have hl2:=rv2.length;refine wpAny_pyNext_zip_end (I.ok.hd hc) D hz hTI hTO h1 h2 p1.isList p2.isList ?_ fun h' hk=>⟨rfl,?_⟩
  ·rcases hx with hx|hx
   ·exact .inl (by simp;omega)
   ·exact .inr (by simp;omega)
  ·have trk:∀ b u,H b=we u->b∉[z,TI,TO,i1,i2]:=fun b u e hb=>by
    rw[(hf b hb).1] at e;cases e
   have up:∀ b o,b∉[z,TO,i1,i2]->s.heap.get? b=we o->h'.get? b=we o:=fun b o hb e=>by
    simp only[ak,cm,or_false,not_or] at hb;exact hk b o hb.1 hb.2.1 hb.2.2.1 hb.2.2.2 e
   have sub:∀ b,b∈[z,TO,i1,i2]->b∈[z,TI,TO,i1,i2]:=fun b hb=>by
    simp only[ak,cm,or_false] at hb ⊢;rcases hb with rfl|rfl|rfl|rfl <;> simp
   refine I.step (g':=s.gens) (d':=s.drawn) (t':=s.toks) (ch:=[z,TO,i1,i2]) (fun b hb=> ?_) (fun b o hL hb hcb e n=>up b o hcb e) (fun b o hL hb hcb e n=>⟨o.slots,up b o hcb e⟩) (fun b o hcb e n=>n) (fun b o hcb e=>⟨o,up b o hcb e⟩)
    (fun b zs e=>e) (fun b ob zs e=>e) (fun b ps e=>⟨#[],by rw[e];simp⟩) (fun m hm=> ?_) (fun b u e=> ?_) I.bare
   ·obtain⟨f0,f1,f2,f3,f4,f5⟩:=hf b (sub b hb);exact⟨f3,f1,f4,f5⟩
   ·obtain⟨o,es',ep,ho,r⟩:=hm;exact⟨o,es',ep,up _ o (fun q=>(hf _ (sub _ q)).2.1 rfl) ho,r⟩
   ·refine(I.hok b u e).stay (fun c v hcb q=>up c v (fun w=> ?_) q) (fun _ q=>q) fun _ _ q=>q;rcases hcb with rfl|hcb
    ·exact trk _ _ e (sub _ w)
    ·exact trk _ _ hcb (sub _ w)
 self:=fun _ _ _ _ _ st h=>wpAny_pyIter_zip st.1 h
noncomputable def QW (K:aa) (ta:TA):TI:=fun σ H R=>ta σ H fun vs H1=>∃ a b,vs=[.ref a,.ref b]/\(∃ xs,SqL K H1 a xs)/\(∃ ys,SqL K H1 b ys)/\R (Itz K a b) H1
section
variable {X:Cx}
theorem Mp (hg:Gl X "zip") (hm:X.mg "zip"=wf) (ha:PA X [a,b] ta) (hs:ar [a,b] X.env=[(false,eval a X.env),(false,eval b X.env)]:=by rfl) (hs2:ar [b] X.env=[(false,eval b X.env)]:=by rfl):
  PI X (.Tuple es k tp) (.Call (.Name "zip" p) [a,b] [] pos) (QW X.K ta):=by
 intro pins s σ H R I h;refine Call_ (rW I hg hm PyProof.Rows.boot_zip (ja (thn (ha pos pins s σ H _ I h) fun us s1 ⟨vs,H1,I1,r1,q1⟩=> ?_) (by rw[hs,hs2]) (by rw[hs2];rfl)));obtain⟨a1,b1,e,⟨xs,hx⟩,⟨ys,hy⟩,q⟩:=q1;subst e;obtain⟨u1,u2,rfl,ru1,ru2⟩:=CS r1;cases ru1;cases ru2;obtain⟨its1,rv1,p1,hz1⟩:=I1.list hx;obtain⟨its2,rv2,p2,hz2⟩:=I1.list hy;have lt1:a1<s1.heap.objs.size:=by obtain⟨o,_,e,_⟩:=p1;exact br e
 have lt2:b1<s1.heap.objs.size:=by obtain⟨o,_,e,_⟩:=p2;exact br e
 refine call_zip_2 p1.isList p2.isList fun h' hz hTI hTO hi1 hi2 hsz hk=> ?_;have I2:Inv X pins σ H1 { s1 with heap:=h' }:=I1.kept (t':=s1.toks) hk;refine wpAny_pyIter_zip (s:={ s1 with heap:=h' }) hz ?_;refine⟨_,[_,_,_,_,_],_,_,H1,rfl,I2,FT (zipApart_new lt1 lt2),⟨hz,hTI,⟨_,_,hTO⟩,hi1,hi2⟩,fun b hb=> ?_,q⟩;have hb':s1.heap.objs.size<=b:=by
  simp only[ak,cm,or_false] at hb;rcases hb with rfl|rfl|rfl|rfl|rfl <;> walk_at "adr"
 exact I1.fpOk hb' (I1.hok.fresh hb')
end
noncomputable def Gd (ok:Okk) (H:Hp):Hp:=fun b=>@ite _ (ok b) (j4 _) (H b) wf
theorem Ga (h:ok b):Gd ok H b=H b:=by unfold Gd;rw[if_pos h]
theorem Gc (h:¬ ok b):Gd ok H b=wf:=by unfold Gd;rw[if_neg h]
theorem kR (h:Gd ok H b=we o):ok b/\H b=we o:=by
 by_cases k:ok b
 ·rw[Ga k] at h;exact⟨k,h⟩
 ·rw[Gc k] at h;cases h
structure ItD (K:aa) (al:Nat->Option af) (H0:Hp) (J:It) (ds:List D):Prop where
 go:∀ i H,Same H0 H->i<ds.length->J.go i H
 yld:∀ i H x H' d,Same H0 H->J.yld i H x H'->ds[i]?=we d->Same H H'/\Rep K ⟨fun b=>H0 b≠wf∨H b=wf,al⟩ H' x d
 stop:∀ i H,Same H0 H->ds.length<=i->J.stop i H
theorem _root_.L2.PI.imp (h:PI X tg e t) (f:∀ σ H R,t' σ H R->t σ H R):PI X tg e t':=fun pins s σ H R I q=>h pins s σ H R I (f _ _ _ q)
section
variable {X:Cx}{tg e a b c:bw}{f fa fb fc:DF}{fl:DL}{pos p:Pos}
noncomputable def jY (lo:Int) (n:Nat):List D:=(bq n).map fun k=>D.int (lo+(k:Nat))
theorem kQ (lo:Int) (n:Nat):(jY lo n).length=n:=by simp[jY]
theorem FZ {lo:Int} (h:(jY lo n)[i]?=we d):i<n/\d=.int (lo+(i:Nat)):=by
 unfold jY at h;rw[bc] at h;obtain⟨k,e,rfl⟩:=aF h;obtain⟨hi,e'⟩:=bi.mp e;rw[iy] at hi;rw[ui] at e';subst e';exact⟨hi,rfl⟩
theorem itD_range {K:aa}{lo:Int}:ItD K al H0 (Itr lo n) (jY lo n):=
 ⟨fun i H _ hi=>by rw[kQ] at hi;exact hi,fun i H x H' d _ y hd=>by
  obtain⟨rfl,rfl⟩:=y;obtain⟨_,rfl⟩:=FZ hd;exact⟨Same.refl _,.int _⟩,fun i H _ hi=>by rw[kQ] at hi;exact hi⟩
noncomputable def jP (ds:List D):Option (List D):=match ds with
 |[.int j]=>if -1000000000<=j/\j<=1000000000 then we (jY 0 j.toNat) else wf
 |_=>wf
noncomputable def Hr (ds:List D):Option (List D):=match ds with
 |[.int i,.int j]=>if -1000000000<=i/\i<=1000000000/\ -1000000000<=j/\j<=1000000000 then we (jY i (j-i).toNat) else wf
 |_=>wf
noncomputable def yH (xs ys:List D):List D:=bt (fun x y=>D.tup [x,y]) xs ys
noncomputable abbrev BR:=D->Rho->Option Rho
noncomputable def gR (K:aa) (bd:BR):TG:=fun v σ H Q=>∃(ok:Okk) (ρ ρ':Rho) (d:D),EnvR K ok H σ ρ/\σ.length=ρ.length/\Rep K ok H v d/\bd d ρ=we ρ'/\∀ σ',EnvR K ok H σ' ρ'->σ'.length=ρ'.length->Q σ' H
noncomputable def aY (i:Nat):BR:=fun d ρ=>we (ρ.set i (we d))
theorem _root_.L2.PG.imp (h:PG X tg t) (f:∀ v σ H Q,t' v σ H Q->t v σ H Q):PG X tg t':=fun pins s σ H v u Q I r q=>h pins s σ H v u Q I r (f _ _ _ _ q)
theorem EnvR.set {K:aa} (h:EnvR K ok H σ ρ) (hl:σ.length=ρ.length) (r:Rep K ok H v d) (i:Nat):EnvR K ok H (σ.set i (we v)) (ρ.set i (we d)):=fun j e hj=>by
 by_cases hij:i=j
 ·subst hij
  by_cases hi:i<ρ.length
  ·rw[fm hi] at hj;cases hj;exact⟨v,by rw[fm (by omega)],r⟩
  ·rw[cz (by rw[c9];omega)] at hj;cases hj
 ·rw[hX hij] at hj;obtain⟨w,a,b⟩:=h j e hj;exact⟨w,by rw[hX hij];exact a,b⟩
theorem KL (hN:X.N.Nodup) (hi:X.N[i]?=we x) (hx:Loc X.env.scope x) (hf:X.fn x=true∨X.env.scope.names.lookup x=we .local:=by first|exact .inl rfl|exact .inr rfl|assumption):PG X (.Name x tp) (gR X.K (aY i)):=
 PG.imp (fX hN hi hx hf) fun v σ H Q ⟨ok,ρ,ρ',d,h1,h2,h3,h4,h5⟩=>by
  cases h4;exact h5 _ (h1.set h2 h3 i) (by rw[c9,c9];exact h2)
noncomputable def uN (i j:Nat):BR:=fun d ρ=>match d with
 |.tup [x,y]=>we ((ρ.set i (we x)).set j (we y))
 |_=>wf
theorem KJ (hc:X.calm=true) (hN:X.N.Nodup) (hi:X.N[i]?=we x) (hj:X.N[j]?=we y) (hx:Loc X.env.scope x) (hy:Loc X.env.scope y)
  (hf:X.fn x=true∨X.env.scope.names.lookup x=we .local:=by first|exact .inl rfl|exact .inr rfl|assumption) (hf2:X.fn y=true∨X.env.scope.names.lookup y=we .local:=by first|exact .inl rfl|exact .inr rfl|assumption):
  PG X (.Tuple [.Name x p1,.Name y p2] k tp) (gR X.K (uN i j)):=
 PG.imp (DG (n:=2) hc (eU (fX hN hi hx hf) (eU (fX hN hj hy hf2) yR))) fun v σ H Q ⟨ok,ρ,ρ',d,h1,h2,h3,h4,h5⟩=>by
  unfold uN at h4;split at h4
  ·cases h4;obtain⟨a,xs,rfl,g,r⟩:=h3.tup_inv;obtain⟨v1,v2,rfl,r1,r2⟩:=r.two_inv;refine⟨a,_,rfl,g.sq,rfl,v1,_,rfl,v2,_,rfl,rfl,?_⟩;refine h5 _ ((h1.set h2 r1 i).set (by rw[c9,c9];exact h2) r2 j) ?_;simp only[c9];exact h2
  ·cases h4
noncomputable def FQ (caps:List (Option Nat)) (ρ:Rho):Rho:=caps.map fun o=>o.bind fun j=>(ρ[j]?).join
noncomputable def jN:DB:=fun _=>we true
theorem EnvR.cap {K:aa} (h:EnvR K ok H σ ρ) (caps:List (Option Nat)):EnvR K ok H (Fq caps σ) (FQ caps ρ):=fun i d e=>by
 unfold FQ at e;rw[bc] at e;obtain⟨o,e1,e2⟩:=aF e;cases o with
 |none=>cases e2
 |some j=>
  have e3:(ρ[j]?).join=we d:=e2;have e4:ρ[j]?=we (we d):=by
   cases q:ρ[j]? with
   |none=>rw[q] at e3;cases e3
   |some o=>
    rw[q] at e3;cases o with
    |none=>cases e3
    |some d'=>cases e3;rfl
  obtain⟨v,a,b⟩:=h j d e4;refine⟨v,?_,b⟩;unfold Fq;rw[bc,e1];show we ((σ[j]?).join)=_;rw[a];rfl
theorem Lp (caps:List (Option Nat)) (σ:St) (ρ:Rho):(Fq caps σ).length=(FQ caps ρ).length:=by simp[Fq,FQ]
variable {elt iter:bw}{ifs:List bw}{scope:j0}{N':List Str}{caps:List (Option Nat)}{fi:DL}{bd:BR}{t:DB}
structure FO (X:Cx) (scope:j0) (N':List Str) (caps:List (Option Nat)):Prop where
 calm:X.calm=true
 kind:scope.kind=.function
 names:∀ x∈scope.names,x.2=.local->scope.names.lookup x.1=we .local
 free:∀ y∈scope.names,y.2=.free->X.env.scope.names.lookup y.1=we .cell∨X.env.scope.names.lookup y.1=we .free
 uniq:∀ y∈scope.names,y.2=.free->(y.1,cw)∉scope.names
 cap:BB X scope N' caps
end
section
variable {K:aa}{ok0:Okk}{H0 H H':Hp}{σ:St}{ρ:Rs}{A:Nat->Option af}
theorem Di {l:List α} (h:(l.set i a)[j]?=we b):(j=i/\i<l.length/\b=a)∨(j≠i/\l[j]?=we b):=by
 by_cases e:i=j
 ·subst e
  by_cases hi:i<l.length
  ·rw[fm hi] at h;exact .inl ⟨rfl,hi,(ce h).symm⟩
  ·rw[cz (by rw[c9];omega)] at h;cases h
 ·rw[hX e] at h;exact .inr ⟨fun z=>e z.symm,h⟩
end
section
variable {X:Cx}{st:cu}{rest body els:List cu}{tg e a b c iter:bw}{es:List bw}{f fa fb:DF}{fl fi:DL}{t:DB}{F G:DS}{bd:BS}{pos p:Pos}{M:List Nat}
end
theorem Fe (hr:Room k A) (h:n<=200:=by decide):A.units+n<dm:=by
 have:=hr.un
 omega
end L2.MB
end
section
namespace L2.MB
noncomputable def nO:List D->Option (List Int)
 |[]=>we []
 |.int i::ds=>(nO ds).map fun ns=>i::ns
 |_::_=>wf
theorem rB:∀ {ds:List D}{ns:List Int},nO ds=we ns->ds=ns.map D.int
 |[],ns,h=>by cases h;rfl
 |.int i::ds,ns,h=>by
  have h':(nO ds).map (fun ns=>i::ns)=we ns:=h;obtain⟨ms,e,rfl⟩:=aF h';rw[rB e];rfl
 |.non::_,_,h=>nomatch h
 |.bl _::_,_,h=>nomatch h
 |.str _::_,_,h=>nomatch h
 |.lst _::_,_,h=>nomatch h
 |.tup _::_,_,h=>nomatch h
section
variable {X:Cx}{e a b c:bw}{es:List bw}{f fa fb fc:DF}{fl:DL}{pos p:Pos}
theorem zF (h:Vals (ns.map V.int) its):∃ xs:Array (Int×Tok),its.toArray=intItems xs/\xs.toList.map (·.1)=ns:=by
 have hi:=Cn h;obtain⟨xs,e⟩:=(hi.allInts).items;refine⟨xs,e,?_⟩;rw[<- nums_intItems,<- e];exact hi.numsOf
theorem Fs (hc:X.calm=true):CallR X (.builtin "sum") (fun xs H Q=>∃(p:af) (ns:List Int),xs=[.ref p]/\SqL X.K H p (ns.map V.int)/\Q (.int ns.sum) H):=by
 intro pins s σ H xs us Q I r h;obtain⟨p,ns,rfl,hq,q⟩:=h;obtain⟨u,rfl,rx⟩:=lQ r;cases rx;obtain⟨its,r',pl,hz⟩:=I.list hq;obtain⟨ys,e1,e2⟩:=zF r';refine sum_intListG (I.ok.hd hc) (by rw[<- e1];exact pl.isList) fun h' tk t' k=> ?_;rw[preSum_eq,qy (by simp),e2];exact⟨.int ns.sum,H,I.kept k,⟨_,rfl⟩,q⟩
noncomputable def Ov (ds:List D):Option D:=match ds with
 |[.lst xs]=>(nO xs).map fun ns=>.int ns.sum
 |_=>wf
noncomputable def ES (ds:List D):Option D:=match ds with
 |[.int i,.int j]=>we (.int (if j>i then j else i))
 |_=>wf
noncomputable def Ht (ds:List D):Option D:=match ds with
 |[.int i,.int j]=>we (.int (if j<i then j else i))
 |_=>wf
noncomputable def Ox (ds:List D):Option D:=match ds with
 |[.int i]=>we (.int i)
 |[.bl k]=>we (.int (if k then 1 else 0))
 |[.str x]=>if x.length<=640 then(ox x).map D.int else wf
 |_=>wf
theorem QU {K:aa} (r:Reps K ok H vs [.lst xs]):∃ p ys,vs=[.ref p]/\RL K ok H p ys/\Reps K ok H ys xs:=by
 obtain⟨v,rfl,r1⟩:=r.one_inv;obtain⟨p,ys,rfl,g,r2⟩:=r1.lst_inv;exact⟨p,ys,rfl,g,r2⟩
theorem KS {K:aa}:FitL K (fun xs H Q=>∃(p:af) (ns:List Int),xs=[.ref p]/\SqL K H p (ns.map V.int)/\Q (.int ns.sum) H) Ov:=fun ok H xs as d Q h1 r e k=>by
 unfold Ov at e;split at e
 ·obtain⟨ns,e1,rfl⟩:=aF e;obtain rfl:=rB e1;obtain⟨p,ys,rfl,g,r2⟩:=QU r;obtain rfl:=r2.of_ints;exact⟨p,ns,rfl,g.sq,k _ H (Same.refl H) (.int _)⟩
 ·cases e
theorem HH {K:aa}:FitL K (fun xs H Q=>∃ i j,xs=[.int i,.int j]/\Q (.int (if j>i then j else i)) H) ES:=fun ok H xs as d Q h1 r e k=>by
 unfold ES at e;split at e
 ·cases e;obtain⟨v,v',rfl,r1,r2⟩:=r.two_inv;obtain rfl:=r1.int_inv;obtain rfl:=r2.int_inv;exact⟨_,_,rfl,k _ H (Same.refl H) (.int _)⟩
 ·cases e
theorem HG {K:aa}:FitL K (fun xs H Q=>∃ i j,xs=[.int i,.int j]/\Q (.int (if j<i then j else i)) H) Ht:=fun ok H xs as d Q h1 r e k=>by
 unfold Ht at e;split at e
 ·cases e;obtain⟨v,v',rfl,r1,r2⟩:=r.two_inv;obtain rfl:=r1.int_inv;obtain rfl:=r2.int_inv;exact⟨_,_,rfl,k _ H (Same.refl H) (.int _)⟩
 ·cases e
theorem Fz:CallR X (.type "int") (fun xs H Q=>∃ x n,xs=[.str x]/\x.length<=640/\ox x=we n/\Q (.int n) H):=by
 intro pins s σ H xs us Q I r h;obtain⟨x,n,rfl,hz,hn,q⟩:=h;obtain⟨u,rfl,t,rfl⟩:=lQ r;exact PySem.W.KIN.call_text hn hz ⟨.int n,H,I.tok _,⟨_,rfl⟩,q⟩
theorem KZ {K:aa}:FitL K (fun xs H Q=>((∃ i,xs=[.int i]/\Q (.int i) H)∨∃ k,xs=[.bl k]/\Q (.int (if k then 1 else 0)) H)∨∃ x n,xs=[.str x]/\x.length<=640/\ox x=we n/\Q (.int n) H) Ox:=fun ok H xs as d Q h1 r e k=>by
 unfold Ox at e;split at e
 ·cases e;obtain⟨v,rfl,r1⟩:=r.one_inv;obtain rfl:=r1.int_inv;exact .inl (.inl ⟨_,rfl,k _ H (Same.refl H) (.int _)⟩)
 ·cases e;obtain⟨v,rfl,r1⟩:=r.one_inv;obtain rfl:=r1.bl_inv;exact .inl (.inr ⟨_,rfl,k _ H (Same.refl H) (.int _)⟩)
 ·rename_i x
  by_cases hz:x.length<=640
  ·rw[if_pos hz] at e;obtain⟨n,e1,rfl⟩:=aF e;obtain⟨v,rfl,r1⟩:=r.one_inv;obtain rfl:=r1.str_inv;exact .inr ⟨x,n,rfl,hz,e1,k _ H (Same.refl H) (.int _)⟩
  ·rw[if_neg hz] at e;cases e
 ·cases e
theorem FA:CallR X (.type "int") (fun xs H Q=>((∃ i,xs=[.int i]/\Q (.int i) H)∨∃ k,xs=[.bl k]/\Q (.int (if k then 1 else 0)) H)∨∃ x n,xs=[.str x]/\x.length<=640/\ox x=we n/\Q (.int n) H):=call_int1.or Fz
theorem sF (a:Array Nat):∀(k:Nat) (acc:Array Nat),((ax k a).foldl (· ++·) acc).size=acc.size+k*a.size
 |0,acc=>by simp
 |k+1,acc=>by
  rw[d7,vk,sF a k,Array.size_append,Nat.succ_mul];omega
noncomputable def Ot (x:Str) (n:Int):Str:=if n<1 then Str.empty else if(n==1||x.length==0)=true then x else⟨(ax n.toNat x.cps).foldl (· ++·) #[]⟩
noncomputable def KP (a b:D):Option D:=match a,b with
 |.str x,.int n=>if 0<=n/\n<=100000/\x.length<=100 then we (.str (Ot x n)) else wf
 |_,_=>wf
theorem JO:OpR X (kc .Mult) (fun x y H Q=>∃ z n,x=.str z/\y=.int n/\(0<=n/\n<=100000/\z.length<=100)/\Q (.str (Ot z n)) H):=by
 intro pins s σ H x y v u Q I rx ry h;obtain⟨z,n,rfl,rfl,⟨h0,h1,h2⟩,q⟩:=h;obtain⟨t,rfl⟩:=rx;obtain⟨t',rfl⟩:=ry;refine PySem.P.mul_str ?_ (fun hn _=> ?_) (fun hn _=> ?_) ?_
 ·have e1:decide (n< -(2 ^ 63:Int))=false:=decide_eq_false (by omega);have e2:decide (n≥2 ^ 63)=false:=decide_eq_false (by omega);rw[e1,e2,Bool.or_false]
 ·have h3:n<=100000:=h1
  have:(100:Int)<=(2 ^ 63-1) / n:=by
   refine(Int.le_ediv_iff_mul_le (by omega)).mpr ?_;omega
  have h4:(z.length:Int)<=100:=by omega
  omega
 ·have hle:z.length*n.toNat<=100*100000:=Nat.mul_le_mul h2 (by omega);have hs:=b8
  first|exact decide_eq_false (by omega)|(simp[Builtin.Str.tooLong];omega)|(simp[tooLong];omega)
 ·unfold Ot at q;split
  ·rename_i hn
   rw[if_pos hn] at q;exact⟨by show 0<=sizeLine;exact ip _,.str _,H,I.tok _,⟨_,rfl⟩,q⟩
  ·rename_i hn
   rw[if_neg hn] at q;split
   ·rename_i hz
    rw[if_pos hz] at q;exact⟨.str _,H,I,⟨_,rfl⟩,q⟩
   ·rename_i hz
    rw[if_neg hz] at q;refine⟨?_,.str _,H,I.tok _,⟨_,rfl⟩,q⟩
    show((ax n.toNat z.cps).foldl (· ++·) #[]).size<=sizeLine
    rw[sF,b8];have hle:n.toNat*z.cps.size<=100000*100:=Nat.mul_le_mul (by omega) h2;simp only[bg,lq];omega
end
section
variable {X:Cx}{tg e a b c:bw}{f fa fb fc:DF}{fl:DL}{pos p:Pos}
end
noncomputable def Ak (scope:j0):Bool:=scope.names.all fun y=> !(y.2== .local)||scope.names.lookup y.1==we .local
noncomputable def Fo (out scope:j0):Bool:=scope.names.all fun y=> !(y.2== .free)||((out.names.lookup y.1==we .cell||out.names.lookup y.1==we .free)&& !(scope.names.contains (y.1,cw)))
noncomputable def xP (N:List Str) (out scope:j0) (x:Str):Option Nat->Bool
 |none=>true
 |some j=>N[j]?==we x&&scope.names.lookup x==we .free&& !(scope.names.contains (x,cw))&&(out.names.lookup x==we .cell||out.names.lookup x==we .free)
noncomputable def mM (N:List Str) (out scope:j0):List Str->List (Option Nat)->Bool
 |[],[]=>true
 |x::xs,c::cs=>xP N out scope x c&&mM N out scope xs cs
 |_,_=>false
theorem sO:∀ {xs:List Str}{cs:List (Option Nat)},mM N out scope xs cs=true->cs.length=xs.length
 |[],[],_=>rfl
 |x::xs,c::cs,h=>by
  have h':(xP N out scope x c&&mM N out scope xs cs)=true:=h;rw[bu] at h';simp[sO h'.2]
 |[],_::_,h=>nomatch h
 |_::_,[],h=>nomatch h
theorem sP:∀ {xs:List Str}{cs:List (Option Nat)}{i j:Nat},mM N out scope xs cs=true->cs[i]?=we (we j)->∃ x,xs[i]?=we x/\xP N out scope x (we j)=true
 |[],[],i,j,_,h=>by simp at h
 |x::xs,c::cs,i,j,h,h2=>by
  have h':(xP N out scope x c&&mM N out scope xs cs)=true:=h;rw[bu] at h';cases i with
  |zero=>
   simp at h2;subst h2;exact⟨x,rfl,h'.1⟩
  |succ i=>
   simp at h2;obtain⟨y,e,q⟩:=sP (i:=i) h'.2 h2;exact⟨y,by simpa using e,q⟩
 |[],_::_,_,_,h,_=>nomatch h
 |_::_,[],_,_,h,_=>nomatch h
theorem xN (h1:X.calm=true) (h2:scope.kind=.function) (h3:Ak scope=true) (h4:Fo X.env.scope scope=true) (h5:mM X.N X.env.scope scope N' caps=true):FO X scope N' caps:=by
 refine⟨h1,h2,fun x hx hl=> ?_,fun y hy hf=> ?_,fun y hy hf hm=> ?_,sO h5,fun i j hij=> ?_⟩
 ·have:=d6.mp h3 x hx
  rw[hl] at this;simpa using this
 ·have:=d6.mp h4 y hy
  rw[hf] at this;simp at this;exact this.1
 ·have:=d6.mp h4 y hy
  rw[hf] at this;simp at this;exact this.2 hm
 ·obtain⟨x,e,q⟩:=sP h5 hij;unfold xP at q;simp only[bu,ib,beq_iff_eq,ux,List.contains_eq_mem,decide_eq_false_iff_not] at q;exact⟨x,e,q.1.1.1,q.1.1.2,q.1.2,q.2⟩
namespace boot
theorem len:dc "len"=we (.builtin "len"):=by decide+kernel
theorem sum:dc "sum"=we (.builtin "sum"):=by decide+kernel
theorem min:dc "min"=we (.builtin "min"):=by decide+kernel
theorem max:dc "max"=we (.builtin "max"):=by decide+kernel
theorem sorted:dc "sorted"=we (.builtin "sorted"):=by decide+kernel
theorem list:dc "list"=we (.type "list"):=by decide+kernel
theorem tuple:dc "tuple"=we (.type "tuple"):=by decide+kernel
theorem int:dc "int"=we (.type "int"):=by decide+kernel
theorem bool:dc "bool"=we (.type "bool"):=by decide+kernel
theorem str:dc "str"=we (.type "str"):=by decide+kernel
end boot
structure Bn (mg:Str->Option ai):Prop where
 len:mg "len"=wf
 range:mg "range"=wf
 zip:mg "zip"=wf
 sum:mg "sum"=wf
 all:mg "all"=wf
 min:mg "min"=wf
 max:mg "max"=wf
 sorted:mg "sorted"=wf
 isinstance:mg "isinstance"=wf
 list:mg "list"=wf
 tuple:mg "tuple"=wf
 int:mg "int"=wf
 bool:mg "bool"=wf
 str:mg "str"=wf
theorem bn_mk {K:aa} (X:K.In h) (G:h.Ns ca mg) (h1:cq K ca "len"=we wf) (h2:cq K ca "range"=we wf) (h3:cq K ca "zip"=we wf)
  (h4:cq K ca "sum"=we wf) (h5:cq K ca "all"=we wf) (h6:cq K ca "min"=we wf) (h7:cq K ca "max"=we wf) (h8:cq K ca "sorted"=we wf)
  (h9:cq K ca "isinstance"=we wf) (h10:cq K ca "list"=we wf) (h11:cq K ca "tuple"=we wf) (h12:cq K ca "int"=we wf) (h13:cq K ca "bool"=we wf)
  (h14:cq K ca "str"=we wf):Bn mg:=
 ⟨c4 X G h1,c4 X G h2,c4 X G h3,c4 X G h4,c4 X G h5,c4 X G h6,c4 X G h7,c4 X G h8,c4 X G h9,c4 X G h10,c4 X G h11,c4 X G h12,
  c4 X G h13,c4 X G h14⟩
noncomputable def FnIn (K:aa) (x:Str) (st:cu):Prop:=∃(f:af) (oc:ai) (od an:Option af) (osl:Array (Option ai)) (kV doc pm cdv ct:ai),cq K ca x=we (we (.ref f))/\
 K.lookup f=we ⟨oc,od,.func (ie x x (gU st) (fQ st) (aZ st) .none kV doc pm an cdv ct),osl⟩/\ju K cdv x=true/\ga K (.ref f)=true
theorem fnIn_mk {K:aa}{st:cu}{kV doc pm cdv ct:ai} (a:cq K ca x=we (we (.ref f)))
  (l:K.lookup f=we ⟨oc,od,.func (ie x x (gU st) (fQ st) (aZ st) .none kV doc pm an cdv ct),osl⟩) (c:ju K cdv x=true) (k:ga K (.ref f)=true):FnIn K x st:=
 ⟨f,oc,od,an,osl,kV,doc,pm,cdv,ct,a,l,c,k⟩
structure OB (K:aa) (mg:Str->Option ai) (x:Str) (st:cu) (f:af) (fd:jj):Prop where
 fn:Fun K x x st f fd
 at_:mg x=we (.ref f)
theorem FnIn.fnAt {K:aa}{st:cu} (I:FnIn K x st) (X:K.In h) (G:h.Ns ca mg):∃ f fd,OB K mg x st f fd:=by
 obtain⟨f,oc,od,an,osl,kV,doc,pm,cdv,ct,a,l,c,k⟩:=I;exact⟨f,_,IR l c k,mz X G a⟩
inductive Ob where
 /-- an instance of the c-th class;a list;a dict by tuples;a dict by texts and ints -/
 |ins (c:Nat) (fs:List (Str×D))|ml (ds:List D)|dt (kvs:List (List Key×D))|dk (kvs:List (Key×D))
 /-- a dict by tuples while a loop walks it -/
 |dz (kvs:List (List Key×D))
noncomputable abbrev Om:=List Ob
inductive KvR {κ:Type} (K:aa) (ok:Okk) (H:Hp):List (κ×V)->List (κ×D)->Prop
 |nil:KvR K ok H [] []
 |cons {k:κ}{v:V}{d:D}{vs:List (κ×V)}{ds:List (κ×D)}:Rep K ok H v d->KvR K ok H vs ds->KvR K ok H ((k,v)::vs) ((k,d)::ds)
section
variable {κ:Type}{K:aa}{ok ok':Okk}{H H':Hp}
theorem KvR.mono (f:∀ b o,ok b->H b=we o->ok' b/\H' b=we o) (g:∀ n a,ok.al n=we a->ok'.al n=we a):∀ {vs:List (κ×V)}{ds:List (κ×D)},KvR K ok H vs ds->KvR K ok' H' vs ds
 |_,_,.nil=>.nil
 |_,_,.cons r rs=>.cons (r.mono f g) (KvR.mono f g rs)
theorem KvR.length:∀ {vs:List (κ×V)}{ds:List (κ×D)},KvR K ok H vs ds->vs.length=ds.length
 |_,_,.nil=>rfl
 |_,_,.cons _ rs=>by rw[bv,bv,KvR.length rs]
theorem KvR.keys:∀ {vs:List (κ×V)}{ds:List (κ×D)},KvR K ok H vs ds->vs.map (·.1)=ds.map (·.1)
 |_,_,.nil=>rfl
 |_,_,.cons _ rs=>by rw[bp,bp,KvR.keys rs]
theorem KvR.vals:∀ {vs:List (κ×V)}{ds:List (κ×D)},KvR K ok H vs ds->Reps K ok H (vs.map (·.2)) (ds.map (·.2))
 |_,_,.nil=>.nil
 |_,_,.cons r rs=>.cons r (KvR.vals rs)
end
section
variable {K:aa}{ok ok':Okk}{H H':Hp}
theorem KvR.look:∀ {vs:List (Str×V)}{ds:List (Str×D)},KvR K ok H vs ds->ds.lookup x=we d->∃ v,vs.lookup x=we v/\Rep K ok H v d
 |_,_,.nil,e=>by cases e
 |_,_,@KvR.cons _ _ _ _ k v d' vs ds r rs,e=>by
  rw[fu] at e ⊢;cases q:x==k with
  |true=>
   rw[q] at e;cases e;exact⟨v,rfl,r⟩
  |false=>
   rw[q] at e;exact KvR.look rs e
theorem KvR.look_none:∀ {vs:List (Str×V)}{ds:List (Str×D)},KvR K ok H vs ds->ds.lookup x=wf->vs.lookup x=wf
 |_,_,.nil,e=>rfl
 |_,_,@KvR.cons _ _ _ _ k v d' vs ds r rs,e=>by
  rw[fu] at e ⊢;cases q:x==k with
  |true=>rw[q] at e;cases e
  |false=>rw[q] at e;exact KvR.look_none rs e
end
noncomputable def CellR (cls:Nat->af) (K:aa) (ok:Okk) (H:Hp) (a:af):Ob->Prop
 |.ins c fs=>∃ dx vs,H a=we (.ins (cls c) dx vs)/\KvR K ok H vs fs
 |.ml ds=>∃ xs,H a=we (.lst xs)/\Reps K ok H xs ds
 |.dt kvs=>∃ vs,H a=we (.dT vs)/\KvR K ok H vs kvs
 |.dk kvs=>∃ vs,H a=we (.dK vs)/\KvR K ok H vs kvs
 |.dz kvs=>∃ o vs,H a=we (.frz o (.dT vs))/\KvR K ok H vs kvs
theorem CellR.mono {K:aa} (f:∀ b o,ok b->H b=we o->ok' b/\H' b=we o) (g:∀ n a,ok.al n=we a->ok'.al n=we a) (e:∀ o,H a=we o->H' a=we o)
  (h:CellR cls K ok H a ob):CellR cls K ok' H' a ob:=by
 cases ob with
 |ins c fs=>obtain⟨dx,vs,h1,h2⟩:=h;exact⟨dx,vs,e _ h1,h2.mono f g⟩
 |ml ds=>obtain⟨xs,h1,h2⟩:=h;exact⟨xs,e _ h1,h2.mono f g⟩
 |dt kvs=>obtain⟨xs,h1,h2⟩:=h;exact⟨xs,e _ h1,h2.mono f g⟩
 |dk kvs=>obtain⟨xs,h1,h2⟩:=h;exact⟨xs,e _ h1,h2.mono f g⟩
 |dz kvs=>obtain⟨o,xs,h1,h2⟩:=h;exact⟨o,xs,e _ h1,h2.mono f g⟩
theorem CellR.there {K:aa} (h:CellR cls K ok H a ob):∃ o,H a=we o/\True:=by
 cases ob with
 |ins c fs=>obtain⟨dx,vs,h1,h2⟩:=h;exact⟨_,h1,trivial⟩
 |ml ds=>obtain⟨xs,h1,h2⟩:=h;exact⟨_,h1,trivial⟩
 |dt kvs=>obtain⟨xs,h1,h2⟩:=h;exact⟨_,h1,trivial⟩
 |dk kvs=>obtain⟨xs,h1,h2⟩:=h;exact⟨_,h1,trivial⟩
 |dz kvs=>obtain⟨o,xs,h1,h2⟩:=h;exact⟨_,h1,trivial⟩
structure Stt (cls:Nat->af) (K:aa) (ok:Okk) (H:Hp) (ω:Om):Prop where
 cell:∀ n ob,ω[n]?=we ob->∃ a,ok.al n=we a/\CellR cls K ok H a ob
 dom:∀ n a,ok.al n=we a->n<ω.length
 inj:∀ n m a,ok.al n=we a->ok.al m=we a->n=m
 nok:∀ n a,ok.al n=we a->¬ ok.p a
structure Ex (ok:Okk) (H:Hp) (ok':Okk) (H':Hp):Prop where
 dat:∀ b o,ok b->H b=we o->ok' b/\H' b=we o
 ids:∀ n a,ok.al n=we a->ok'.al n=we a
 frm:∀ b o,H b=we o->(∀ n,ok.al n≠we b)->H' b=we o
 new:∀ n a,ok'.al n=we a->ok.al n=we a∨H a=wf
 keep:∀ b,H' b=wf->H b=wf
 sub:∀ b,ok' b->ok b∨H b=wf
 /-- what a loop walks stands still -/
 frz:∀ b o u,H b=we (.frz o u)->H' b=we (.frz o u)
structure Nw (cls:Nat->af) (K:aa) (ok:Okk) (H:Hp) (ok':Okk) (H':Hp) (ω':Om):Prop where
 ex:Ex ok H ok' H'
 okh:OkH ok' H'
 st:Stt cls K ok' H' ω'
section
variable {cls:Nat->af}{K:aa}{ok ok' ok2:Okk}{H H' H2:Hp}{ω ω' ω2:Om}{σ:St}{ρ:Rho}{a:af}{n:Nat}
theorem Stt.at_ (h:Stt cls K ok H ω) (e:ok.al n=we a):∃ ob,ω[n]?=we ob/\CellR cls K ok H a ob:=by
 have hn:=h.dom n a e;obtain⟨b,e1,c⟩:=h.cell n ω[n] (by simp[hn]);rw[e] at e1;cases e1;exact⟨_,by simp[hn],c⟩
theorem Ex.same (s:Same H H'):Ex ok H ok H':=⟨fun b o k e=>⟨k,s b o e⟩,fun _ _ e=>e,fun b o e _=>s b o e,fun _ _ e=>.inl e,fun _ e=>s.free e,fun _ e=>.inl e,fun b o u e=>s b _ e⟩
theorem Ex.trans (x:Ex ok H ok' H') (y:Ex ok' H' ok2 H2):Ex ok H ok2 H2 where
 dat:=fun b o k e=>let ⟨k',e'⟩:=x.dat b o k e;y.dat b o k' e'
 ids:=fun n a e=>y.ids n a (x.ids n a e)
 frm:=fun b o e h=>y.frm b o (x.frm b o e h) fun n z=>by
  rcases x.new n b z with z|z
  ·exact h n z
  ·rw[e] at z;cases z
 new:=fun n a e=>by
  rcases y.new n a e with z|z
  ·exact x.new n a z
  ·exact .inr (x.keep a z)
 keep:=fun b e=>x.keep b (y.keep b e)
 sub:=fun b e=>by
  rcases y.sub b e with z|z
  ·exact x.sub b z
  ·exact .inr (x.keep b z)
 frz:=fun b o u e=>y.frz b o u (x.frz b o u e)
theorem Nw.trans (x:Nw cls K ok H ok' H' ω') (y:Nw cls K ok' H' ok2 H2 ω2):Nw cls K ok H ok2 H2 ω2:=⟨x.ex.trans y.ex,y.okh,y.st⟩
theorem Stt.same (h:Stt cls K ok H ω) (s:Same H H'):Stt cls K ok H' ω:=
 ⟨fun n ob e=>let ⟨a,e1,c⟩:=h.cell n ob e;⟨a,e1,c.mono (fun b o k e=>⟨k,s b o e⟩) (fun _ _ e=>e) fun o e=>s a o e⟩,h.dom,h.inj,h.nok⟩
theorem Nw.same (h:OkH ok H) (t:Stt cls K ok H ω) (s:Same H H'):Nw cls K ok H ok H' ω:=⟨.same s,h.same s,t.same s⟩
theorem Nw.refl (h:OkH ok H) (t:Stt cls K ok H ω):Nw cls K ok H ok H ω:=.same h t (Same.refl H)
theorem Rep.ex (x:Ex ok H ok' H') (h:Rep K ok H v d):Rep K ok' H' v d:=h.mono x.dat x.ids
theorem Reps.ex (x:Ex ok H ok' H') (h:Reps K ok H v d):Reps K ok' H' v d:=h.mono x.dat x.ids
theorem EnvR.ex (x:Ex ok H ok' H') (h:EnvR K ok H σ ρ):EnvR K ok' H' σ ρ:=fun i d e=>let ⟨v,a,r⟩:=h i d e;⟨v,a,r.ex x⟩
theorem rE {l:List Ob}{a b:Ob} (h:(l.set i a)[j]?=we b):(j=i/\b=a)∨(j≠i/\l[j]?=we b):=by
 rcases Di h with⟨h1,_,h3⟩|h
 ·exact .inl ⟨h1,h3⟩
 ·exact .inr h
theorem Nw.write (h:OkH ok H) (t:Stt cls K ok H ω) (e:ok.al n=we a) (h0:H a=we o0) (c:(∀ b u,ok b->H b=we u->ok b/\upd H a o b=we u)->CellR cls K ok (upd H a o) a ob) (nt:∀ xs,o≠ .tup xs:=by intro _ z;cases z) (nz:∀ x u,o0≠ .frz x u:=by intro _ _ z;cases z):Nw cls K ok H ok (upd H a o) (ω.set n ob):=by
 have dat:∀ b u,ok b->H b=we u->ok b/\upd H a o b=we u:=fun b u k q=>⟨k,by rw[aE (show b≠a from fun z=>t.nok n a e (z ▸ k))];exact q⟩;refine⟨⟨dat,fun _ _ z=>z,fun b u q z=>by rw[aE (show b≠a from fun w=>z n (w ▸ e))];exact q,fun _ _ z=>.inl z,fun b q=> ?_,fun _ z=>.inl z,fun b x u z=>by rw[aE (show b≠a from fun w=>nz x u (ce ((h0.symm.trans (w ▸ z)))))];exact z⟩,⟨fun b q=> ?_,fun b xs q=> ?_⟩,fun m ob' q=> ?_,fun m b q=> ?_,t.inj,t.nok⟩
 ·by_cases hb:b=a
  ·rw[hb,aK] at q;cases q
  ·rw[aE hb] at q;exact q
 ·by_cases hb:b=a
  ·rw[hb,aK] at q;cases q
  ·rw[aE hb] at q;exact h b q
 ·by_cases hb:b=a
  ·rw[hb,aK] at q;exact absurd (ce q) (nt xs)
  ·rw[aE hb] at q;exact h.tp b xs q
 ·rcases rE q with⟨rfl,rfl⟩|⟨hm,q⟩
  ·exact⟨a,e,c dat⟩
  ·obtain⟨b,e1,c1⟩:=t.cell m ob' q;refine⟨b,e1,c1.mono dat (fun _ _ z=>z) fun u z=> ?_⟩;rw[aE (show b≠a from fun w=>hm (t.inj m n a (w ▸ e1) e))];exact z
 ·rw[c9];exact t.dom m b q
noncomputable def okN (ok:Okk) (n:Nat) (p:af):Okk:=⟨fun b=>ok b/\b≠p,fun m=>if m=n then we p else ok.al m⟩
theorem tH (t:Stt cls K ok H ω) (m:Nat) (b:af) (e:ok.al m=we b):(okN ok ω.length p).al m=we b:=by
 have hm:=t.dom m b e
 show(if m=ω.length then we p else ok.al m)=we b
 rw[if_neg (cj hm)];exact e
theorem yW (np:H p=wf) (b:af) (u:HO) (k:ok b) (e:H b=we u):okN ok n p b/\upd H p o b=we u:=
 ⟨⟨k,aH e np⟩,by rw[aE (aH e np)];exact e⟩
theorem Nw.make (h:OkH ok H) (t:Stt cls K ok H ω) (np:H p=wf) (c:CellR cls K (okN ok ω.length p) (upd H p o) p ob) (nt:∀ xs,o≠ .tup xs:=by intro _ z;cases z):Nw cls K ok H (okN ok ω.length p) (upd H p o) (ω++[ob]):=by
 have al:∀ m b,(okN ok ω.length p).al m=we b->(m=ω.length/\b=p)∨(m≠ω.length/\ok.al m=we b):=fun m b q=>by
  have q':(if m=ω.length then we p else ok.al m)=we b:=q
  by_cases hm:m=ω.length
  ·rw[if_pos hm] at q';exact .inl ⟨hm,(ce q').symm⟩
  ·rw[if_neg hm] at q';exact .inr ⟨hm,q'⟩
 have tr:∀ m b,ok.al m=we b->b≠p:=fun m b q=>by
  obtain⟨_,_,c1⟩:=t.at_ q;obtain⟨_,z,_⟩:=c1.there;exact aH z np
 refine⟨⟨fun b u k e=>yW np b u k e,fun m b q=>tH t m b q,fun b u q z=>by rw[aE (aH q np)];exact q,fun m b q=> ?_,fun b q=> ?_,fun b k=>.inl k.1,fun b x u z=>by rw[aE (aH z np)];exact z⟩,⟨fun b q=> ?_,fun b xs q=> ?_⟩,fun m ob' q=> ?_,fun m b q=> ?_,fun m m' b q q'=> ?_,fun m b q k=> ?_⟩
 ·rcases al m b q with⟨_,rfl⟩|⟨_,q⟩
  ·exact .inr np
  ·exact .inl q
 ·by_cases hb:b=p
  ·rw[hb];exact np
  ·rw[aE hb] at q;exact q
 ·have hb:b≠p:=fun z=>by rw[z,aK] at q;cases q
  rw[aE hb] at q;exact⟨h b q,hb⟩
 ·have hb:b≠p:=fun z=>by rw[z,aK] at q;exact nt xs (ce q)
  rw[aE hb] at q;exact⟨h.tp b xs q,hb⟩
 ·by_cases hm:m<ω.length
  ·rw[ay hm] at q;obtain⟨b,e1,c1⟩:=t.cell m ob' q;exact⟨b,tH t m b e1,c1.mono (fun b u k e=>yW np b u k e) (fun m b q=>tH t m b q) fun u z=>by rw[aE (aH z np)];exact z⟩
  ·have hm':m=ω.length:=by
    have:=(bi.mp q).1
    simp at this;omega
   subst hm';rw[im (bj _)] at q;simp at q;subst q;exact⟨p,by show(if ω.length=ω.length then we p else _)=_;rw[if_pos rfl],c⟩
 ·rw[b7,gk];rcases al m b q with⟨rfl,_⟩|⟨_,q⟩
  ·omega
  ·have:=t.dom m b q
   omega
 ·rcases al m b q with⟨rfl,rfl⟩|⟨_,q⟩ <;> rcases al m' b q' with⟨rfl,w⟩|⟨_,q'⟩
  ·rfl
  ·exact absurd rfl (tr m' b q')
  ·exact absurd w (tr m b q)
  ·exact t.inj m m' b q q'
 ·rcases al m b q with⟨_,rfl⟩|⟨_,q⟩
  ·exact k.2 rfl
  ·exact t.nok m b q k.1
theorem Rep.new_obj:Rep K (okN ok n p) H (.ref p) (.obj n):=.obj (by show(if n=n then we p else _)=_;rw[if_pos rfl])
end
inductive Rz (α:Type) where
 |ok (a:α)|ex (c:Nat)
noncomputable abbrev OG (α:Type):=Rho->Om->Option (Rz α×Om)
noncomputable abbrev XE:=Nat->Hp->Prop
structure Pre (cls:Nat->af) (K:aa) (ok:Okk) (H:Hp) (ω:Om) (σ:St) (ρ:Rho):Prop where
 okh:OkH ok H
 st:Stt cls K ok H ω
 env:EnvR K ok H σ ρ
 len:σ.length=ρ.length
theorem Pre.nw {K:aa} (p:Pre cls K ok H ω σ ρ) (x:Nw cls K ok H ok' H' ω'):Pre cls K ok' H' ω' σ ρ:=⟨x.okh,x.st,p.env.ex x.ex,p.len⟩
noncomputable def exR (cls:Nat->af) (K:aa) (ok:Okk) (H:Hp) (ω':Om) (E:XE) (c:Nat):Prop:=∀ ok' H',Nw cls K ok H ok' H' ω'->E c H'
noncomputable def tO (cls:Nat->af) (K:aa) (f:OG D) (E:XE):TE:=fun σ H Q=>∃(ok:Okk) (ρ:Rho) (ω:Om) (r:Rz D) (ω':Om),Pre cls K ok H ω σ ρ/\f ρ ω=we (r,ω')/\match r with
 |.ok d=>∀ v ok' H',Nw cls K ok H ok' H' ω'->Rep K ok' H' v d->Q v H'
 |.ex c=>exR cls K ok H ω' E c
noncomputable def tOT (cls:Nat->af) (K:aa) (f:OG Bool) (E:XE):TT:=fun σ H Q=>∃(ok:Okk) (ρ:Rho) (ω:Om) (r:Rz Bool) (ω':Om),Pre cls K ok H ω σ ρ/\f ρ ω=we (r,ω')/\match r with
 |.ok b=>∀ ok' H',Nw cls K ok H ok' H' ω'->Q b H'
 |.ex c=>exR cls K ok H ω' E c
noncomputable def tOA (cls:Nat->af) (K:aa) (f:OG (List D)) (E:XE):TA:=fun σ H Q=>∃(ok:Okk) (ρ:Rho) (ω:Om) (r:Rz (List D)) (ω':Om),Pre cls K ok H ω σ ρ/\f ρ ω=we (r,ω')/\match r with
 |.ok ds=>∀ vs ok' H',Nw cls K ok H ok' H' ω'->Reps K ok' H' vs ds->Q vs H'
 |.ex c=>exR cls K ok H ω' E c
noncomputable abbrev OE (X:Cx) (cls:Nat->af) (E:XE) (e:bw) (f:OG D):Prop:=PE X e (tO cls X.K f E)
noncomputable abbrev OT (X:Cx) (cls:Nat->af) (E:XE) (e:bw) (f:OG Bool):Prop:=PT X e (tOT cls X.K f E)
noncomputable abbrev OA (X:Cx) (cls:Nat->af) (E:XE) (es:List bw) (f:OG (List D)):Prop:=PA X es (tOA cls X.K f E)
noncomputable def oB {α β:Type} (f:OG α) (g:α->OG β):OG β:=fun ρ ω=>match f ρ ω with
 |none=>wf
 |some (.ex c,ω1)=>we (.ex c,ω1)
 |some (.ok a,ω1)=>g a ρ ω1
theorem kX {g:α->OG β} (h:oB f g ρ ω=we (r,ω')):(∃ c,f ρ ω=we (.ex c,ω')/\r=.ex c)∨∃ a ω1,f ρ ω=we (.ok a,ω1)/\g a ρ ω1=we (r,ω'):=by
 unfold oB at h;split at h
 ·cases h
 ·cases h;exact .inl ⟨_,‹_›,rfl⟩
 ·exact .inr ⟨_,_,‹_›,h⟩
noncomputable def oR {α:Type} (o:Option (α×Om)):Option (Rz α×Om):=o.map fun p=>(.ok p.1,p.2)
theorem cA {r:Rz α} (h:oR o=we (r,ω')):∃ a,o=we (a,ω')/\r=.ok a:=by
 obtain⟨⟨a,w⟩,e1,e2⟩:=aF h;cases e2;exact⟨a,e1,rfl⟩
noncomputable def oP (f:DF):OG D:=fun ρ ω=>oR ((f ρ).map fun d=>(d,ω))
noncomputable def oPT (f:DB):OG Bool:=fun ρ ω=>oR ((f ρ).map fun d=>(d,ω))
noncomputable def pu {α:Type} (o:Option α) (ω:Om):Option (α×Om):=o.map fun d=>(d,ω)
theorem cK {a:α} (h:pu o ω=we (a,ω')):o=we a/\ω'=ω:=by
 obtain⟨b,e1,e2⟩:=aF h;cases e2;exact⟨e1,rfl⟩
section
variable {X:Cx}{cls:Nat->af}{E:XE}{e a b c:bw}{es:List bw}{f:DF}{fa fb:OG D}{fl:OG (List D)}{ft ft':OG Bool}{pos p:Pos}
theorem JV (h:DE X e f):OE X cls E e (oP f):=h.imp fun σ H Q ⟨ok,ρ,ω,r,ω',P,h3,h4⟩=>by
 obtain⟨d,e1,rfl⟩:=cA h3;obtain⟨e2,rfl⟩:=cK e1;exact⟨ok,ρ,d,P.okh,P.env,e2,fun v H' s r=>h4 v ok H' (.same P.okh P.st s) r⟩
theorem tO.then_ {K:aa}{r:Rz α} (P:Pre cls K ok H ω σ ρ) (e:oB fa g ρ ω=we (r,ω')) (hx:∀ c,r=.ex c->exR cls K ok H ω' E c)
  (h:∀ d ω1 v ok1 H1,g d ρ ω1=we (r,ω')->Nw cls K ok H ok1 H1 ω1->Pre cls K ok1 H1 ω1 σ ρ->Rep K ok1 H1 v d->Q v H1):tO cls K fa E σ H Q:=by
 rcases kX e with⟨c,e1,rfl⟩|⟨d,ω1,e1,e2⟩
 ·exact⟨ok,ρ,ω,.ex c,ω',P,e1,hx c rfl⟩
 ·exact⟨ok,ρ,ω,.ok d,ω1,P,e1,fun v ok1 H1 n r1=>h d ω1 v ok1 H1 e2 n (P.nw n) r1⟩
theorem tOA.then_ {K:aa}{r:Rz α} (P:Pre cls K ok H ω σ ρ) (e:oB fl g ρ ω=we (r,ω')) (hx:∀ c,r=.ex c->exR cls K ok H ω' E c)
  (h:∀ d ω1 v ok1 H1,g d ρ ω1=we (r,ω')->Nw cls K ok H ok1 H1 ω1->Pre cls K ok1 H1 ω1 σ ρ->Reps K ok1 H1 v d->Q v H1):tOA cls K fl E σ H Q:=by
 rcases kX e with⟨c,e1,rfl⟩|⟨d,ω1,e1,e2⟩
 ·exact⟨ok,ρ,ω,.ex c,ω',P,e1,hx c rfl⟩
 ·exact⟨ok,ρ,ω,.ok d,ω1,P,e1,fun v ok1 H1 n r1=>h d ω1 v ok1 H1 e2 n (P.nw n) r1⟩
theorem tOT.then_ {K:aa}{r:Rz α} (P:Pre cls K ok H ω σ ρ) (e:oB ft g ρ ω=we (r,ω')) (hx:∀ c,r=.ex c->exR cls K ok H ω' E c)
  (h:∀ d ω1 ok1 H1,g d ρ ω1=we (r,ω')->Nw cls K ok H ok1 H1 ω1->Pre cls K ok1 H1 ω1 σ ρ->Q d H1):tOT cls K ft E σ H Q:=by
 rcases kX e with⟨c,e1,rfl⟩|⟨d,ω1,e1,e2⟩
 ·exact⟨ok,ρ,ω,.ex c,ω',P,e1,hx c rfl⟩
 ·exact⟨ok,ρ,ω,.ok d,ω1,P,e1,fun ok1 H1 n=>h d ω1 ok1 H1 e2 n (P.nw n)⟩
theorem exR.nw {K:aa}{c:Nat} (h:exR cls K ok H ω' E c) (n:Nw cls K ok H ok' H' ω1):exR cls K ok' H' ω' E c:=fun ok2 H2 m=>h ok2 H2 (n.trans m)
noncomputable def yC (cls:Nat->af) (K:aa) (r:R2) (g:Om->D->D->Option (D×Om)):Prop:=∀(ok:Okk) (H:Hp) (ω:Om) (x y:V) (a b d:D) (ω':Om) (Q:VK),OkH ok H->Stt cls K ok H ω->Rep K ok H x a->Rep K ok H y b->g ω a b=we (d,ω')->
 (∀ v ok' H',Nw cls K ok H ok' H' ω'->Rep K ok' H' v d->Q v H')->r x y H Q
noncomputable def vC (cls:Nat->af) (K:aa) (r:List V->Hp->VK->Prop) (g:Om->List D->Option (D×Om)):Prop:=∀(ok:Okk) (H:Hp) (ω:Om) (xs:List V) (as:List D) (d:D) (ω':Om) (Q:VK),OkH ok H->Stt cls K ok H ω->Reps K ok H xs as->g ω as=we (d,ω')->
 (∀ v ok' H',Nw cls K ok H ok' H' ω'->Rep K ok' H' v d->Q v H')->r xs H Q
theorem Fit2.lift {K:aa} (F:Fit2 K r g):yC cls K r fun ω a b=>pu (g a b) ω:=fun ok H ω x y a b d ω' Q h1 st ra rb e k=>by
 obtain⟨ue,rfl⟩:=cK e;exact F ok H x y a b d Q h1 ra rb ue fun v H' s r=>k v ok H' (.same h1 st s) r
theorem FitL.lift {K:aa} (F:FitL K r g):vC cls K r fun ω a=>pu (g a) ω:=fun ok H ω x a d ω' Q h1 st ra e k=>by
 obtain⟨ue,rfl⟩:=cK e;exact F ok H x a d Q h1 ra ue fun v H' s r=>k v ok H' (.same h1 st s) r
noncomputable def o2 (g:Om->D->D->Option (D×Om)) (f h:OG D):OG D:=oB f fun a=>oB h fun b _ ω=>oR (g ω a b)
noncomputable def oL (g:Om->List D->Option (D×Om)) (f:OG (List D)):OG D:=oB f fun as _ ω=>oR (g ω as)
theorem tO.op {K:aa} (F:yC cls K r g) (h:tO cls K (o2 g fa fb) E σ H Q):tOp r (tO cls K fa E) (tO cls K fb E) σ H Q:=by
 obtain⟨ok,ρ,ω,rz,ω',P,e,q⟩:=h;refine tO.then_ P e (fun c z=>by subst z;exact q) fun a ω1 v ok1 H1 e1 n1 P1 r1=> ?_;refine tO.then_ P1 e1 (fun c z=>by subst z;exact exR.nw q n1) fun b ω2 u ok2 H2 e2 n2 P2 r2=> ?_;obtain⟨d,e3,rfl⟩:=cA e2;exact F ok2 H2 ω2 v u a b d ω' Q P2.okh P2.st (r1.ex n2.ex) r2 e3 fun w ok3 H3 n3 r3=>q w ok3 H3 (n1.trans (n2.trans n3)) r3
theorem tI (ho:OpR X (kc op) r) (F:yC cls X.K r g) (ha:OE X cls E a fa) (hb:OE X cls E b fb):OE X cls E (.BinOp a op b pos) (o2 g fa fb):=
 (Pe ho ha hb).imp fun _ _ _ h=>tO.op F h
theorem Bc (ho:OpR X (fw op) r) (F:yC cls X.K r g) (ha:OE X cls E a fa) (hb:OE X cls E b fb) (hm:i4 op b=false):OE X cls E (.Compare a [op] [b] pos) (o2 g fa fb):=
 (JB ho ha hb hm).imp fun _ _ _ h=>tO.op F h
noncomputable def dG (f:OG D):OG Bool:=oB f fun d _ ω=>oR (pu (toB d) ω)
theorem rN (ho:OpR X (fw op) r) (F:yC cls X.K r g) (ha:OE X cls E a fa) (hb:OE X cls E b fb) (hm:i4 op b=false):OT X cls E (.Compare a [op] [b] pos) (dG (o2 g fa fb)):=
 (Jm ho ha hb hm).imp fun σ H Q ⟨ok,ρ,ω,r,ω',P,e,q⟩=>by
  refine tO.op F ?_;refine tO.then_ P e (fun c z=>by subst z;exact q) fun d ω1 v ok1 H1 e1 n1 P1 r1=> ?_;obtain⟨k,e3,rfl⟩:=cA e1;obtain⟨ue3,rfl⟩:=cK e3;obtain rfl:=nP ue3;exact⟨k,r1.bl_inv,q ok1 H1 n1⟩
noncomputable def fZ (f:OG D):OG Bool:=oB f fun d _ ω=>oR (pu (Qf d) ω)
theorem MF (h:OE X cls E e fa) (he:∀ whole,isTrue e X.env whole=(do let v <- whole;mh e.pos;holding [v] (truthy v)):=by intro _;rfl):OT X cls E e (fZ fa):=(Gn h he).imp fun σ H Q ⟨ok,ρ,ω,r,ω',P,e,q⟩=>by
 refine tO.then_ P e (fun c z=>by subst z;exact q) fun d ω1 v ok1 H1 e1 n1 P1 r1=> ?_;obtain⟨k,e3,rfl⟩:=cA e1;obtain⟨ue3,rfl⟩:=cK e3;exact⟨k,IZ r1 ue3,q ok1 H1 n1⟩
noncomputable def gQ (f:OG Bool):OG Bool:=oB f fun k _ ω=>we (.ok (!k),ω)
theorem MG (h:OT X cls E a ft):OT X cls E (.UnaryOp .Not a pos) (gQ ft):=(Mh h).imp fun σ H Q ⟨ok,ρ,ω,r,ω',P,e,q⟩=>by
 refine tOT.then_ P e (fun c z=>by subst z;exact q) fun d ω1 ok1 H1 e1 n1 P1=> ?_;cases e1;exact q ok1 H1 n1
noncomputable abbrev OW (X:Cx) (cls:Nat->af) (E:XE) (e:bw) (f:OG Bool):Prop:=PW X e (tOT cls X.K f E)
noncomputable def yD (f g:OG Bool):OG Bool:=oB f fun k ρ ω=>if k=true then g ρ ω else we (.ok false,ω)
noncomputable def oOr (f g:OG Bool):OG Bool:=oB f fun k ρ ω=>if k=true then we (.ok true,ω) else g ρ ω
variable {rest:List bw}
theorem JD (ha:OT X cls E a ft):OW X cls E (.BoolOp .And [a] pos) ft:=Jl ha
theorem MD (ha:OT X cls E a ft):OW X cls E (.BoolOp .Or [a] pos) ft:=Me ha
theorem ME (ha:OT X cls E a ft) (hb:OW X cls E (.BoolOp .And (b::rest) pos) ft'):OW X cls E (.BoolOp .And (a::b::rest) pos) (yD ft ft'):=PW.imp (Mf ha hb) fun σ H Q ⟨ok,ρ,ω,r,ω',P,e,q⟩=>by
 refine tOT.then_ P e (fun c z=>by subst z;exact q) fun d ω1 ok1 H1 e1 n1 P1=> ?_;cases d with
 |true=>
  refine Lz ⟨ok1,ρ,ω1,r,ω',P1,e1,?_⟩;cases r with
  |ok b=>exact fun ok2 H2 n2=>q ok2 H2 (n1.trans n2)
  |ex c=>exact exR.nw q n1
 |false=>
  cases e1;exact LA (q ok1 H1 n1)
theorem Pi (ha:OT X cls E a ft) (hb:OW X cls E (.BoolOp .Or (b::rest) pos) ft'):OW X cls E (.BoolOp .Or (a::b::rest) pos) (oOr ft ft'):=PW.imp (Pb ha hb) fun σ H Q ⟨ok,ρ,ω,r,ω',P,e,q⟩=>by
 refine tOT.then_ P e (fun c z=>by subst z;exact q) fun d ω1 ok1 H1 e1 n1 P1=> ?_;cases d with
 |false=>
  refine LA ⟨ok1,ρ,ω1,r,ω',P1,e1,?_⟩;cases r with
  |ok b=>exact fun ok2 H2 n2=>q ok2 H2 (n1.trans n2)
  |ex c=>exact exR.nw q n1
 |true=>
  cases e1;exact Lz (q ok1 H1 n1)
theorem QT (h:OW X cls E e ft):OT X cls E e ft:=PW.pt h
noncomputable def aJ:OG (List D):=fun _ ω=>we (.ok [],ω)
noncomputable def aC (f:OG D) (g:OG (List D)):OG (List D):=oB f fun d=>oB g fun ds _ ω=>we (.ok (d::ds),ω)
theorem Nu:OA X cls E [] aJ:=(PA.imp rM) fun σ H Q ⟨ok,ρ,ω,r,ω',P,e,q⟩=>by
 cases e;exact q [] ok H (.refl P.okh P.st) .nil
theorem Kl (ha:OE X cls E e fa) (hr:OA X cls E es fl) (hs:ar (e::es) X.env=(false,eval e X.env)::ar es X.env:=by rfl):OA X cls E (e::es) (aC fa fl):=
 (gN ha hr hs).imp fun σ H Q ⟨ok,ρ,ω,r,ω',P,e,q⟩=>by
  refine tO.then_ P e (fun c z=>by subst z;exact q) fun d ω1 v ok1 H1 e1 n1 P1 r1=> ?_;refine tOA.then_ P1 e1 (fun c z=>by subst z;exact exR.nw q n1) fun ds ω2 vs ok2 H2 e2 n2 P2 r2=> ?_;cases e2;exact q (v::vs) ok2 H2 (n1.trans n2) (.cons (r1.ex n2.ex) r2)
theorem Nd (h:OA X cls E es fl):OE X cls E (.Tuple es x1 pos) (oL (fun ω ds=>pu (qN ds) ω) fl):=(Iz h).imp fun σ H Q ⟨ok,ρ,ω,r,ω',P,e,q⟩=>by
 refine tOA.then_ P e (fun c z=>by subst z;exact q) fun ds ω1 vs ok1 H1 e1 n1 P1 r1=> ?_;obtain⟨d,e3,rfl⟩:=cA e1;obtain⟨ue3,rfl⟩:=cK e3;obtain⟨hz,rfl⟩:=bI ue3;refine⟨by rw[r1.length];exact hz,fun p n=> ?_⟩;exact q _ ok1 _ (n1.trans (.same P1.okh P1.st (cC n))) (.tup_new (P1.okh p n) n r1)
theorem Nm (h:OA X cls E es fl):OE X cls E (.List es pos) (oL (fun ω ds=>pu (Hu ds) ω) fl):=(IA h).imp fun σ H Q ⟨ok,ρ,ω,r,ω',P,e,q⟩=>by
 refine tOA.then_ P e (fun c z=>by subst z;exact q) fun ds ω1 vs ok1 H1 e1 n1 P1 r1=> ?_;obtain⟨d,e3,rfl⟩:=cA e1;obtain⟨ue3,rfl⟩:=cK e3;obtain⟨hz,rfl⟩:=bI ue3;refine⟨by rw[r1.length];exact hz,fun p n=> ?_⟩;exact q _ ok1 _ (n1.trans (.same P1.okh P1.st (cC n))) (.lst_new (P1.okh p n) n r1)
noncomputable def NS (ω:Om) (ds:List D):Option (D×Om):=if ds.length<=sizeLine then we (.obj ω.length,ω++[.ml ds]) else wf
theorem Nw.ml {K:aa}{p:af} (h:OkH ok H) (t:Stt cls K ok H ω) (np:H p=wf) (r:Reps K ok H xs ds):Nw cls K ok H (okN ok ω.length p) (upd H p (.lst xs)) (ω++[.ml ds]):=
 Nw.make h t np ⟨xs,aK,r.mono (fun b u k e=>yW np b u k e) fun m b q=>tH t m b q⟩
theorem Ka (h:OA X cls E es fl):OE X cls E (.List es pos) (oL NS fl):=(IA h).imp fun σ H Q ⟨ok,ρ,ω,r,ω',P,e,q⟩=>by
 refine tOA.then_ P e (fun c z=>by subst z;exact q) fun ds ω1 vs ok1 H1 e1 n1 P1 r1=> ?_;obtain⟨d,e3,rfl⟩:=cA e1;obtain⟨hz,e4⟩:=bI e3;cases e4;refine⟨by rw[r1.length];exact hz,fun p n=> ?_⟩;exact q _ _ _ (n1.trans (.ml P1.okh P1.st n r1)) .new_obj
theorem tO.cb {K:aa} (F:vC cls K r g) (h:tO cls K (oL g fl) E σ H Q):tCB r (tOA cls K fl E) σ H Q:=by
 obtain⟨ok,ρ,ω,rz,ω',P,e,q⟩:=h;refine tOA.then_ P e (fun c z=>by subst z;exact q) fun ds ω1 vs ok1 H1 e1 n1 P1 r1=> ?_;obtain⟨d,e3,rfl⟩:=cA e1;exact F ok1 H1 ω1 vs ds d ω' Q P1.okh P1.st r1 e3 fun w ok3 H3 n3 r3=>q w ok3 H3 (n1.trans n3) r3
theorem jF {id:String} (hc:CallR X (.builtin id) r) (F:vC cls X.K r g) (hg:Gl X x) (hm:X.mg x=wf) (hv:dc x=we (.builtin id)) (ha:OA X cls E (e::es) fl)
  (hn:x≠"__name__":=by decide) (hdb:(x==("__debug__":Str))=false:=by decide)
  (he:ar (e::es) X.env=(false,eval e X.env)::ar es X.env:=by rfl) (hpl:(de pos (ar es X.env)).any (·.1)=false:=by rfl):OE X cls E (.Call (.Name x p) (e::es) [] pos) (oL g fl):=
 (nC hc hg hm hv ha hn hdb he hpl).imp fun _ _ _ h=>tO.cb F h
theorem oJ (hc:CallR X (.type T) r) (F:vC cls X.K r g) (hg:Gl X x) (hm:X.mg x=wf) (hv:dc x=we (.type T)) (ha:OA X cls E (e::es) fl)
  (hn:x≠"__name__":=by decide) (hdb:(x==("__debug__":Str))=false:=by decide)
  (he:ar (e::es) X.env=(false,eval e X.env)::ar es X.env:=by rfl) (hpl:(de pos (ar es X.env)).any (·.1)=false:=by rfl):OE X cls E (.Call (.Name x p) (e::es) [] pos) (oL g fl):=
 (DH hc hg hm hv ha hn hdb he hpl).imp fun _ _ _ h=>tO.cb F h
end
end L2.MB
end
section
namespace L2.MB
mutual
noncomputable def fA:D->D->Bool
 |.non,.non=>true
 |.bl a,.bl b=>a==b
 |.int a,.int b=>a==b
 |.str a,.str b=>decide (a=b)
 |.lst a,.lst b=>sameDs a b
 |.tup a,.tup b=>sameDs a b
 |.obj a,.obj b=>a==b
 |.scr a,.scr b=>sameDs a b
 |_,_=>false
noncomputable def sameDs:List D->List D->Bool
 |[],[]=>true
 |a::as,b::bs=>fA a b&&sameDs as bs
 |_,_=>false
end
mutual
theorem AS:∀(a b:D),fA a b=true->a=b
 |.non,b,h=>by cases b <;> first|rfl|(simp[fA] at h)
 |.bl a,b,h=>by cases b <;> simp[fA] at h;rw[h]
 |.int a,b,h=>by cases b <;> simp[fA] at h;rw[h]
 |.str a,b,h=>by cases b <;> simp[fA] at h;rw[h]
 |.obj a,b,h=>by cases b <;> simp[fA] at h;rw[h]
 |.lst a,b,h=>by
  cases b with
  |lst b=>rw[sameDs_eq a b (by simpa [fA] using h)]
  |_=>simp[fA] at h
 |.scr a,b,h=>by
  cases b with
  |scr b=>rw[sameDs_eq a b (by simpa [fA] using h)]
  |_=>simp[fA] at h
 |.tup a,b,h=>by
  cases b with
  |tup b=>rw[sameDs_eq a b (by simpa [fA] using h)]
  |_=>simp[fA] at h
theorem sameDs_eq:∀(a b:List D),sameDs a b=true->a=b
 |[],[],_=>rfl
 |[],_::_,h=>by simp[sameDs] at h
 |_::_,[],h=>by simp[sameDs] at h
 |a::as,b::bs,h=>by
  simp only[sameDs,bu] at h;rw[AS a b h.1,sameDs_eq as bs h.2]
end
noncomputable def cellOf (ω:Om):D->Option Ob
 |.obj n=>ω[n]?
 |_=>wf
theorem dH (h:cellOf ω d=we ob):∃ n,d=.obj n/\ω[n]?=we ob:=by
 cases d with
 |obj n=>exact⟨n,rfl,h⟩
 |_=>cases h
theorem Stt.ref {K:aa} (t:Stt cls K ok H ω) (r:Rep K ok H v (.obj n)) (e:ω[n]?=we ob):∃ a,v=.ref a/\ok.al n=we a/\CellR cls K ok H a ob:=by
 obtain⟨a,rfl,e1⟩:=r.obj_inv;obtain⟨b,e2,c⟩:=t.cell n ob e;rw[e1] at e2;cases e2;exact⟨a,rfl,e1,c⟩
noncomputable def LB (c:Nat) (x:Str) (ω:Om) (d:D):Option D:=match cellOf ω d with
 |some (.ins c' fs)=>if c'=c then fs.lookup x else wf
 |_=>wf
theorem Hw (h:LB c x ω d=we y):∃ n fs,d=.obj n/\ω[n]?=we (.ins c fs)/\fs.lookup x=we y:=by
 unfold LB at h;split at h
 ·rename_i c' fs hc
  obtain⟨n,rfl,e⟩:=dH hc
  by_cases hcc:c'=c
  ·subst hcc;rw[if_pos rfl] at h;exact⟨n,fs,rfl,e,h⟩
  ·rw[if_neg hcc] at h;cases h
 ·cases h
noncomputable def fS (c:Nat) (x:Str) (f:OG D):OG D:=oB f fun d _ ω=>oR (pu (LB c x ω d) ω)
section
variable {X:Cx}{cls:Nat->af}{E:XE}{e a b c o i value:bw}{es:List bw}{f:DF}{fa fb fo fi fv:OG D}{fl:OG (List D)}{ft ft':OG Bool}{pos p apos pos':Pos}{x m:Str}{cn:Nat}
theorem No (hc:Cls X.K (cls cn)) (hn:NoAttr X.K (cls cn) x) (he:OE X cls E e fa) (hb:gv e x X.env (eval e X.env)=eval e X.env:=by rfl):OE X cls E (.Attribute e x pos) (fS cn x fa):=(Mx he hb).imp fun σ H Q ⟨ok,ρ,ω,r,ω',P,e,q⟩=>by
 refine tO.then_ P e (fun c z=>by subst z;exact q) fun d ω1 v ok1 H1 e1 n1 P1 r1=> ?_;obtain⟨y,e3,rfl⟩:=cA e1;obtain⟨ue3,rfl⟩:=cK e3;obtain⟨n,fs,rfl,e4,e5⟩:=Hw ue3;obtain⟨a,rfl,e6,dx,vs,e7,kv⟩:=P1.st.ref r1 e4;obtain⟨u,e8,ru⟩:=kv.look e5;exact⟨a,_,dx,vs,u,rfl,e7,hc,hn,e8,q u ok1 H1 n1 ru⟩
noncomputable def vF (ω:Om) (a b:D):Option D:=match cellOf ω a with
 |some (.ml ds)=>(toI b).bind fun i=>atI ds i
 |some _=>wf
 |none=>gIx a b
theorem KY {K:aa}:yC cls K (fun x y H Q=>(∃ p xs i v,x=.ref p/\y=.int i/\SqL K H p xs/\atI xs i=we v/\Q v H)∨(∃ p xs i v,x=.ref p/\y=.int i/\SqT K H p xs/\atI xs i=we v/\Q v H)∨
  ∃ z i c,x=.str z/\y=.int i/\z.length<=sizeLine/\atI z.cps.toList i=we c/\Q (.str ⟨#[c]⟩) H) fun ω a b=>pu (vF ω a b) ω:=fun ok H ω x y a b d ω' Q h1 st ra rb e k=>by
 obtain⟨ue,rfl⟩:=cK e;clear e;unfold vF at ue;cases hc:cellOf ω' a with
 |some ob=>
  rw[hc] at ue;obtain⟨n,rfl,e1⟩:=dH hc;cases ob with
  |ml ds=>
   obtain⟨i,e0,ue⟩:=aN (show(toI b).bind _=we d from ue);obtain rfl:=yK e0;obtain⟨p,rfl,e2,xs,e3,r⟩:=st.ref ra e1;obtain rfl:=rb.int_inv;obtain⟨v,e4,rv⟩:=r.atI ue;exact .inl ⟨p,xs,i,v,rfl,rfl,SqL.of e3,e4,k v ok H (.refl h1 st) rv⟩
  |_=>cases ue
 |none=>
  rw[hc] at ue;have ue':gIx a b=we d:=ue;have k':∀ v H',Same H H'->Rep K ok H' v d->Q v H':=fun v H' s r=>k v ok H' (.same h1 st s) r;cases b with
  |int i=>
   obtain rfl:=rb.int_inv;cases a with
   |lst ds=>
    obtain⟨p,xs,rfl,h,r⟩:=ra.lst_inv;obtain⟨v,e1,r1⟩:=r.atI ue';exact .inl ⟨p,xs,i,v,rfl,rfl,h.sq,e1,k' v H (Same.refl H) r1⟩
   |scr ds=>
    obtain⟨p,xs,rfl,h,r⟩:=ra.scr_inv;obtain⟨v,e1,r1⟩:=r.atI ue';exact .inl ⟨p,xs,i,v,rfl,rfl,h.sq,e1,k' v H (Same.refl H) r1⟩
   |tup ds=>
    obtain⟨p,xs,rfl,h,r⟩:=ra.tup_inv;obtain⟨v,e1,r1⟩:=r.atI ue';exact .inr (.inl ⟨p,xs,i,v,rfl,rfl,h.sq,e1,k' v H (Same.refl H) r1⟩)
   |str z=>
    obtain rfl:=ra.str_inv;have e':(if z.length<=sizeLine then(L2.atI z.cps.toList i).map fun c=>D.str ⟨#[c]⟩ else wf)=we d:=ue'
    by_cases hz:z.length<=sizeLine
    ·rw[if_pos hz] at e';cases q:L2.atI z.cps.toList i with
     |none=>rw[q] at e';cases e'
     |some c=>
      rw[q] at e';cases e';exact .inr (.inr ⟨z,i,c,rfl,rfl,hz,q,k' _ H (Same.refl H) (.str _)⟩)
    ·rw[if_neg hz] at e';cases e'
   |_=>cases ue'
  |_=>cases a <;> cases ue'
theorem Pr (ha:OE X cls E a fa) (hb:OE X cls E b fb) (hs:FD b:=by intro _ _;rfl):OE X cls E (.Subscript a b pos) (o2 (fun ω a b=>pu (vF ω a b) ω) fa fb):=(Pf NH ha hb hs).imp fun _ _ _ h=>tO.op KY h
noncomputable def toK:D->Option Key
 |.int i=>we (.inl i)
 |.str x=>we (.inr x)
 |_=>wf
noncomputable def LL:List D->Option (List Key)
 |[]=>we []
 |d::ds=>(toK d).bind fun k=>(LL ds).map fun ks=>k::ks
noncomputable def ofK:Key->D
 |.inl i=>.int i
 |.inr x=>.str x
theorem yJ {K:aa} (h:toK d=we k) (r:Rep K ok H v d):v=kV k:=by
 cases d with
 |int i=>cases h;exact r.int_inv
 |str x=>cases h;exact r.str_inv
 |_=>cases h
theorem AO {K:aa}:∀ {vs:List V}{ds:List D}{ks:List Key},LL ds=we ks->Reps K ok H vs ds->vs=ks.map kV
 |_,_,_,h,.nil=>by cases h;rfl
 |_,_,_,h,.cons r rs=>by
  obtain⟨k,e1,h⟩:=aN h;obtain⟨ks,e2,rfl⟩:=aF h;rw[yJ e1 r,AO e2 rs];rfl
noncomputable def Db:D->Option (List Key)
 |.tup ds=>LL ds
 |_=>wf
theorem toT'_rep {K:aa} (h:Db d=we ks) (r:Rep K ok H v d):∃ b,v=.ref b/\ok b/\H b=we (.tup (ks.map kV)):=by
 cases d with
 |tup ds=>
  obtain⟨b,xs,rfl,g,rs⟩:=r.tup_inv;rw[AO h rs] at g;exact⟨b,rfl,g.1,g.2⟩
 |_=>cases h
section
variable {κ:Type} [DecidableEq κ]
noncomputable def iH (kvs:List (κ×D)) (k:κ):Option D:=(kvs.find? fun kv=>decide (kv.1=k)).map (·.2)
noncomputable def iI (kvs:List (κ×D)) (k:κ) (v:D):List (κ×D):=if(kvs.any fun kv=>decide (kv.1=k))=true then kvs.map (fun kv=>if kv.1=k then(kv.1,v) else kv) else kvs++[(k,v)]
noncomputable def dQ (kvs:List (κ×D)) (k:κ):List (κ×D):=kvs.filter fun kv=>decide (kv.1≠k)
variable {K:aa}{ok:Okk}{H:Hp}
theorem KvR.val:∀ {vs:List (κ×V)}{ds:List (κ×D)}{d:D},KvR K ok H vs ds->iH ds k=we d->∃ v,vJ vs k=we v/\Rep K ok H v d
 |_,_,_,.nil,e=>by cases e
 |_,_,d,@KvR.cons _ _ _ _ k' v d' vs ds r rs,e=>by
  by_cases q:k'=k
  ·have e':iH ((k',d')::ds) k=we d':=by simp[iH,gn,q]
   rw[e'] at e;cases e;exact⟨v,mY (p:=(k',v)) q,r⟩
  ·have e':iH ((k',d')::ds) k=iH ds k:=by simp[iH,gn,q]
   rw[e'] at e;obtain⟨u,e1,ru⟩:=KvR.val rs e;exact⟨u,by rw[kJ (p:=(k',v)) q];exact e1,ru⟩
theorem KvR.val_none:∀ {vs:List (κ×V)}{ds:List (κ×D)},KvR K ok H vs ds->iH ds k=wf->vJ vs k=wf
 |_,_,.nil,e=>rfl
 |_,_,@KvR.cons _ _ _ _ k' v d' vs ds r rs,e=>by
  by_cases q:k'=k
  ·have e':iH ((k',d')::ds) k=we d':=by simp[iH,gn,q]
   rw[e'] at e;cases e
  ·have e':iH ((k',d')::ds) k=iH ds k:=by simp[iH,gn,q]
   rw[e'] at e;rw[kJ (p:=(k',v)) q];exact KvR.val_none rs e
theorem KvR.any:∀ {vs:List (κ×V)}{ds:List (κ×D)},KvR K ok H vs ds->(vs.any fun kv=>decide (kv.1=k))=ds.any fun kv=>decide (kv.1=k)
 |_,_,.nil=>rfl
 |_,_,.cons _ rs=>by rw[ku,ku,KvR.any rs]
theorem KvR.rep1 (q:Rep K ok H v d):∀ {vs:List (κ×V)}{ds:List (κ×D)},KvR K ok H vs ds->KvR K ok H (vs.map fun kv=>if kv.1=k then(kv.1,v) else kv) (ds.map fun kv=>if kv.1=k then(kv.1,d) else kv)
 |_,_,.nil=>.nil
 |_,_,@KvR.cons _ _ _ _ k' v' d' vs ds r rs=>by
  rw[bp,bp]
  by_cases z:k'=k
  ·rw[if_pos z,if_pos z];exact .cons q (KvR.rep1 q rs)
  ·rw[if_neg z,if_neg z];exact .cons r (KvR.rep1 q rs)
theorem KvR.snoc (q:Rep K ok H v d):∀ {vs:List (κ×V)}{ds:List (κ×D)},KvR K ok H vs ds->KvR K ok H (vs++[(k,v)]) (ds++[(k,d)])
 |_,_,.nil=>.cons q .nil
 |_,_,.cons r rs=>.cons r (KvR.snoc q rs)
theorem KvR.put {ds:List (κ×D)} (h:KvR K ok H vs ds) (q:Rep K ok H v d):KvR K ok H (qG vs k v) (iI ds k d):=by
 unfold qG iI;rw[h.any];split
 ·exact h.rep1 q
 ·exact h.snoc q
theorem KvR.drop:∀ {vs:List (κ×V)}{ds:List (κ×D)},KvR K ok H vs ds->KvR K ok H (xI vs k) (dQ ds k)
 |_,_,.nil=>.nil
 |_,_,@KvR.cons _ _ _ _ k' v' d' vs ds r rs=>by
  unfold xI dQ
  by_cases z:k'=k
  ·rw[ng,ng];simp only[z,ne_eq,not_true_eq_false,decide_false,dn,if_false];exact KvR.drop rs
  ·rw[ng,ng];simp only[z,ne_eq,not_false_eq_true,decide_true,if_true];exact .cons r (KvR.drop rs)
end
noncomputable def Hy (ω:Om) (d y:D):Option (Option D):=match cellOf ω d with
 |some (.dt kvs)=>(Db y).map fun k=>iH kvs k
 |some (.dz kvs)=>(Db y).map fun k=>iH kvs k
 |some (.dk kvs)=>(toK y).map fun k=>iH kvs k
 |_=>wf
noncomputable def ResR (K:aa) (ok:Okk) (H:Hp):Option D->Option V->Prop
 |some z,u=>∃ v,u=we v/\Rep K ok H v z
 |none,u=>u=wf
theorem ResR.isSome {K:aa} (h:ResR K ok H r u):u.isSome=r.isSome:=by
 cases r with
 |none=>rw[show u=wf from h];rfl
 |some z=>obtain⟨v,rfl,_⟩:=h;rfl
theorem KvR.res {κ:Type} [DecidableEq κ] {K:aa}{ok:Okk}{H:Hp}{k:κ}{vs:List (κ×V)}{ds:List (κ×D)} (h:KvR K ok H vs ds):ResR K ok H (iH ds k) (vJ vs k):=by
 cases q:iH ds k with
 |none=>exact h.val_none q
 |some z=>exact h.val q
theorem DGet.of {K:aa}{x y:V} (t:Stt cls K ok H ω) (rx:Rep K ok H x d) (ry:Rep K ok H y k) (e:Hy ω d k=we r):∃ a u,x=.ref a/\DGet H a y u/\ResR K ok H r u:=by
 unfold Hy at e;cases hc:cellOf ω d with
 |none=>rw[hc] at e;cases e
 |some ob=>
  rw[hc] at e;obtain⟨n,rfl,e1⟩:=dH hc;cases ob with
  |dt kvs=>
   obtain⟨a,rfl,e2,vs,e3,kv⟩:=t.ref rx e1;obtain⟨ks,e4,e5⟩:=aF (show(Db k).map _=we r from e);subst e5;obtain⟨b,rfl,_,hb⟩:=toT'_rep e4 ry;exact⟨a,_,rfl,DGet.t e3 hb,kv.res⟩
  |dz kvs=>
   obtain⟨a,rfl,e2,ob,vs,e3,kv⟩:=t.ref rx e1;obtain⟨ks,e4,e5⟩:=aF (show(Db k).map _=we r from e);subst e5;obtain⟨b,rfl,_,hb⟩:=toT'_rep e4 ry;exact⟨a,_,rfl,.inr ⟨vs,ks,b,.inr ⟨ob,e3⟩,rfl,hb,rfl⟩,kv.res⟩
  |dk kvs=>
   obtain⟨a,rfl,e2,vs,e3,kv⟩:=t.ref rx e1;obtain⟨ks,e4,e5⟩:=aF (show(toK k).map _=we r from e);subst e5;obtain rfl:=yJ e4 ry;exact⟨a,_,rfl,DGet.k e3,kv.res⟩
  |_=>cases e
noncomputable def uA (ω:Om) (d y:D):Option D:=(Hy ω d y).join
theorem Kh (hu:X.A.units+1<dm) (ho:OE X cls E o fo) (hi:OE X cls E i fi) (hs:Qb i:=by intro _ _;rfl):OE X cls E (.Subscript o i pos) (o2 (fun ω a b=>pu (uA ω a b) ω) fo fi):=(Jz hu ho hi hs).imp fun σ H Q ⟨ok,ρ,ω,r,ω',P,e,q⟩=>by
 refine tO.then_ P e (fun c z=>by subst z;exact q) fun d ω1 v ok1 H1 e1 n1 P1 r1=> ?_;refine tO.then_ P1 e1 (fun c z=>by subst z;exact exR.nw q n1) fun y ω2 u ok2 H2 e2 n2 P2 r2=> ?_;obtain⟨z,e3,rfl⟩:=cA e2;obtain⟨ue3,rfl⟩:=cK e3;have e4:Hy ω' d y=we (we z):=by
  unfold uA at ue3;cases q:Hy ω' d y with
  |none=>rw[q] at ue3;cases ue3
  |some w=>rw[q] at ue3;cases w with
   |none=>cases ue3
   |some w=>cases ue3;rfl
 obtain⟨a,w,rfl,g,w2⟩:=DGet.of P2.st (r1.ex n2.ex) r2 e4;obtain⟨v',rfl,rv⟩:=w2;exact⟨a,v',rfl,g,q v' ok2 H2 (n1.trans n2) rv⟩
noncomputable def LC (ω:Om) (y d:D):Option D:=(Hy ω d y).map fun r=>.bl r.isSome
theorem MK (hu:X.A.units+1<dm) (hi:OE X cls E i fi) (ho:OE X cls E o fo) (hm:i4 .In o=false:=by with_unfolding_all rfl):OT X cls E (.Compare i [.In] [o] pos) (dG (o2 (fun ω a b=>pu (LC ω a b) ω) fi fo)):=
 (Mi (MC hu hi ho) hm).imp fun σ H Q ⟨ok,ρ,ω,r,ω',P,e,q⟩=>by
 rcases kX e with⟨c,e1,rfl⟩|⟨dd,ωd,e0,e5⟩
 ·rcases kX e1 with⟨c',e2,e3⟩|⟨y,ω1,e2,e3⟩
  ·cases e3;exact⟨ok,ρ,ω,.ex c,ω',P,e2,q⟩
  ·refine⟨ok,ρ,ω,.ok y,ω1,P,e2,fun v ok1 H1 n1 r1=> ?_⟩;rcases kX e3 with⟨c',e4,e6⟩|⟨z,ω2,e4,e6⟩
   ·cases e6;exact⟨ok1,ρ,ω1,.ex c,ω',P.nw n1,e4,exR.nw q n1⟩
   ·obtain⟨_,_,w⟩:=cA e6;cases w
 ·rcases kX e0 with⟨c',e2,e3⟩|⟨y,ω1,e2,e3⟩
  ·cases e3
  ·refine⟨ok,ρ,ω,.ok y,ω1,P,e2,fun v ok1 H1 n1 r1=> ?_⟩;rcases kX e3 with⟨c',e4,e6⟩|⟨z,ω2,e4,e6⟩
   ·cases e6
   ·refine⟨ok1,ρ,ω1,.ok z,ω2,P.nw n1,e4,fun u ok2 H2 n2 r2=> ?_⟩;obtain⟨w,e7,w'⟩:=cA e6;cases w';obtain⟨ue7,rfl⟩:=cK e7;obtain⟨ro,e8,rfl⟩:=aF ue7;obtain⟨k,e9,rfl⟩:=cA e5;obtain⟨ue9,rfl⟩:=cK e9;cases ue9;obtain⟨a,w,rfl,g,w2⟩:=DGet.of n2.st r2 (r1.ex n2.ex) e8;exact⟨a,w,rfl,g,ro.isSome,by rw[w2.isSome],q ok2 H2 (n1.trans n2)⟩
noncomputable def DY:OG D:=fun _ ω=>we (.ok (.obj ω.length),ω++[.dt []])
theorem JY:OE X cls E (.Dict [] [] pos) DY:=(PE.imp Gv) fun σ H Q ⟨ok,ρ,ω,r,ω',P,e,q⟩=>by
 cases e;exact fun p n=>q _ _ _ (Nw.make (o:=.dT []) P.okh P.st n ⟨[],aK,.nil⟩) .new_obj
end
end L2.MB
end
section
namespace L2.MB
inductive OOut where
 |nx (ρ:Rho)|rt (d:D)|bk (ρ:Rho)|ct (ρ:Rho)|ex (c:Nat)
noncomputable abbrev OS:=Rho->Om->Option (OOut×Om)
noncomputable def nxR (cls:Nat->af) (K:aa) (ok:Okk) (H:Hp) (ω':Om) (ρ:Rho) (N:St->Hp->Prop):Prop:=∀ ok' H' σ',Nw cls K ok H ok' H' ω'->EnvR K ok' H' σ' ρ->σ'.length=ρ.length->N σ' H'
noncomputable def outO (cls:Nat->af) (K:aa) (ok:Okk) (H:Hp) (ω':Om) (E:XE) (D:BI):OOut->Prop
 |.nx ρ=>nxR cls K ok H ω' ρ D.nx
 |.bk ρ=>nxR cls K ok H ω' ρ D.bk
 |.ct ρ=>nxR cls K ok H ω' ρ D.ct
 |.rt d=>∀ v ok' H',Nw cls K ok H ok' H' ω'->Rep K ok' H' v d->D.rt v H'
 |.ex c=>exR cls K ok H ω' E c
noncomputable def tOS (cls:Nat->af) (K:aa) (F:OS) (E:XE):TS:=fun D σ H=>∃(ok:Okk) (ρ:Rho) (ω:Om) (o:OOut) (ω':Om),Pre cls K ok H ω σ ρ/\F ρ ω=we (o,ω')/\outO cls K ok H ω' E D o
noncomputable abbrev OSt (X:Cx) (cls:Nat->af) (E:XE) (st:cu) (F:OS):Prop:=PS X st (tOS cls X.K F E)
noncomputable abbrev OSs (X:Cx) (cls:Nat->af) (E:XE) (st:List cu) (F:OS):Prop:=PSs X st (tOS cls X.K F E)
theorem nxR.nw {K:aa} (h:nxR cls K ok H ω' ρ N) (n:Nw cls K ok H ok' H' ω1):nxR cls K ok' H' ω' ρ N:=fun ok2 H2 σ2 m e l=>h ok2 H2 σ2 (n.trans m) e l
theorem outO.nw {K:aa}{D:BI} (h:outO cls K ok H ω' E D o) (n:Nw cls K ok H ok' H' ω1):outO cls K ok' H' ω' E D o:=by
 cases o with
 |nx ρ=>exact nxR.nw h n
 |bk ρ=>exact nxR.nw h n
 |ct ρ=>exact nxR.nw h n
 |rt d=>exact fun v ok2 H2 m r=>h v ok2 H2 (n.trans m) r
 |ex c=>exact exR.nw h n
noncomputable def oX {α:Type} (f:OG α) (g:α->Rho->Om->Option (OOut×Om)):OS:=fun ρ ω=>match f ρ ω with
 |none=>wf
 |some (.ex c,ω1)=>we (.ex c,ω1)
 |some (.ok a,ω1)=>g a ρ ω1
theorem DW {g:α->Rho->Om->Option (OOut×Om)} (h:oX f g ρ ω=we (o,ω')):(∃ c,f ρ ω=we (.ex c,ω')/\o=.ex c)∨∃ a ω1,f ρ ω=we (.ok a,ω1)/\g a ρ ω1=we (o,ω'):=by
 unfold oX at h;split at h
 ·cases h
 ·cases h;exact .inl ⟨_,‹_›,rfl⟩
 ·exact .inr ⟨_,_,‹_›,h⟩
noncomputable def bH:OS:=fun ρ ω=>we (.nx ρ,ω)
noncomputable def aG (F G:OS):OS:=fun ρ ω=>match F ρ ω with
 |none=>wf
 |some (.nx ρ1,ω1)=>G ρ1 ω1
 |some (o,ω1)=>we (o,ω1)
theorem Dl (h:aG F G ρ ω=we (o,ω')):(∃ ρ1 ω1,F ρ ω=we (.nx ρ1,ω1)/\G ρ1 ω1=we (o,ω'))∨(F ρ ω=we (o,ω')/\∀ ρ1,o≠ .nx ρ1):=by
 unfold aG at h;split at h
 ·cases h
 ·exact .inl ⟨_,_,‹_›,h⟩
 ·rename_i o1 ω1 hn q
  cases h;exact .inr ⟨q,fun ρ1 z=>hn ρ1 z⟩
noncomputable def aX (i:Nat) (f:OG D):OS:=oX f fun d ρ ω=>we (.nx (ρ.set i (we d)),ω)
noncomputable def bX (f:OG D):OS:=oX f fun _ ρ ω=>we (.nx ρ,ω)
noncomputable def dI (t:OG Bool) (F G:OS):OS:=oX t fun k ρ ω=>if k=true then F ρ ω else G ρ ω
noncomputable def aU (f:OG D):OS:=oX f fun d _ ω=>we (.rt d,ω)
section
variable {X:Cx}{cls:Nat->af}{E:XE}{st:cu}{rest body els:List cu}{tg e a b c o i iter value:bw}{es:List bw}{f:DF}{fa fb fo fi fv:OG D}{fl:OG (List D)}{ft ft':OG Bool}{F G:OS}{pos p apos pos':Pos}{x m:Str}{cn:Nat}
theorem tO.thenS {K:aa}{o:OOut}{D:BI} (P:Pre cls K ok H ω σ ρ) (e:oX fa g ρ ω=we (o,ω')) (hx:outO cls K ok H ω' E D o)
  (h:∀ d ω1 v ok1 H1,g d ρ ω1=we (o,ω')->Nw cls K ok H ok1 H1 ω1->Pre cls K ok1 H1 ω1 σ ρ->Rep K ok1 H1 v d->outO cls K ok1 H1 ω' E D o->Q v H1):tO cls K fa E σ H Q:=by
 rcases DW e with⟨c,e1,rfl⟩|⟨d,ω1,e1,e2⟩
 ·exact⟨ok,ρ,ω,.ex c,ω',P,e1,hx⟩
 ·exact⟨ok,ρ,ω,.ok d,ω1,P,e1,fun v ok1 H1 n r1=>h d ω1 v ok1 H1 e2 n (P.nw n) r1 (hx.nw n)⟩
theorem MN:OSs X cls E [] bH:=(PSs.imp Jo) fun D σ H ⟨ok,ρ,ω,o,ω',P,e,q⟩=>by
 cases e;exact q ok H σ (.refl P.okh P.st) P.env P.len
theorem JL (h1:OSt X cls E st F) (h2:OSs X cls E rest G):OSs X cls E (st::rest) (aG F G):=(Gp h1 h2).imp fun D σ H ⟨ok,ρ,ω,o,ω',P,e,q⟩=>by
 rcases Dl e with⟨ρ1,ω1,e1,e2⟩|⟨e1,hn⟩
 ·exact⟨ok,ρ,ω,_,ω1,P,e1,fun ok1 H1 σ1 n1 r1 l1=>⟨ok1,ρ1,ω1,o,ω',⟨n1.okh,n1.st,r1,l1⟩,e2,q.nw n1⟩⟩
 ·refine⟨ok,ρ,ω,o,ω',P,e1,?_⟩;cases o with
  |nx ρ1=>exact absurd rfl (hn ρ1)
  |_=>exact q
theorem MM (h1:OSt X cls E st F):OSs X cls E [st] F:=Jn h1
theorem MQ {i:Nat} (hN:X.N.Nodup) (hi:X.N[i]?=we x) (hx:Loc X.env.scope x) (he:OE X cls E e fa) (hs:i9 e (we (.Name x pos')) pos.line X.env=pure false:=by rfl)
  (hf:X.fn x=true∨X.env.scope.names.lookup x=we .local:=by first|exact .inl rfl|exact .inr rfl|assumption):OSt X cls E (.Assign [.Name x pos'] e pos) (aX i fa):=
 (Mj hN hi hx he hs hf).imp fun D σ H ⟨ok,ρ,ω,o,ω',P,e,q⟩=>by
  refine tO.thenS P e q fun d ω1 v ok1 H1 e1 n1 P1 r1 q1=> ?_;cases e1;exact q1 ok1 H1 _ (.refl P1.okh P1.st) (P1.env.set P1.len r1 i) (by rw[c9,c9];exact P1.len)
theorem JJ (he:OE X cls E e fa) (hs:i9 e wf pos.line X.env=pure false:=by rfl):OSt X cls E (.Expr e pos) (bX fa):=
 (Jq he hs).imp fun D σ H ⟨ok,ρ,ω,o,ω',P,e,q⟩=>by
  refine tO.thenS P e q fun d ω1 v ok1 H1 e1 n1 P1 r1 q1=> ?_;cases e1;exact q1 ok1 H1 σ (.refl P1.okh P1.st) P1.env P1.len
theorem Po (hc:OT X cls E c ft) (ha:OSs X cls E body F) (hb:OSs X cls E els G):OSt X cls E (.If c body els pos) (dI ft F G):=(Pc hc ha hb).imp fun D σ H ⟨ok,ρ,ω,o,ω',P,e,q⟩=>by
 rcases DW e with⟨c,e1,rfl⟩|⟨k,ω1,e1,e2⟩
 ·exact⟨ok,ρ,ω,.ex c,ω',P,e1,q⟩
 ·refine⟨ok,ρ,ω,.ok k,ω1,P,e1,fun ok1 H1 n1=> ?_⟩;cases k with
  |true=>exact Lz ⟨ok1,ρ,ω1,o,ω',P.nw n1,e2,q.nw n1⟩
  |false=>exact LA ⟨ok1,ρ,ω1,o,ω',P.nw n1,e2,q.nw n1⟩
theorem ML (he:OE X cls E e fa):OSt X cls E (.Return (we e) pos) (aU fa):=(Ml he).imp fun D σ H ⟨ok,ρ,ω,o,ω',P,e,q⟩=>by
 refine tO.thenS P e q fun d ω1 v ok1 H1 e1 n1 P1 r1 q1=> ?_;cases e1;exact q1 v ok1 H1 (.refl P1.okh P1.st) r1
noncomputable def kS (f:Str) (v:D):List (Str×D)->List (Str×D)
 |[]=>[(f,v)]
 |(g,x)::r=>if g=f then(g,v)::r else(g,x)::kS f v r
theorem KvR.putF {K:aa} (q:Rep K ok H v d):∀ {vs:List (Str×V)}{ds:List (Str×D)},KvR K ok H vs ds->KvR K ok H (L2.putF x v vs) (kS x d ds)
 |_,_,.nil=>.cons q .nil
 |_,_,@KvR.cons _ _ _ _ k v' d' vs ds r rs=>by
  show KvR K ok H (if k=x then(k,v)::vs else(k,v')::L2.putF x v vs) (if k=x then(k,d)::ds else(k,d')::kS x d ds)
  by_cases z:k=x
  ·rw[if_pos z,if_pos z];exact .cons q rs
  ·rw[if_neg z,if_neg z];exact .cons r (KvR.putF q rs)
noncomputable def tY (c:Nat) (x:Str) (ω:Om) (o v:D):Option Om:=match o with
 |.obj n=>match ω[n]? with
  |some (.ins c' fs)=>if c'=c/\fs.length<1000 then we (ω.set n (.ins c (kS x v fs))) else wf
  |_=>wf
 |_=>wf
theorem EO {c:Nat}{o v:D} (h:tY c x ω o v=we ω'):∃ n fs,o=.obj n/\ω[n]?=we (.ins c fs)/\fs.length<1000/\ω'=ω.set n (.ins c (kS x v fs)):=by
 unfold tY at h;split at h
 ·split at h
  ·obtain⟨⟨rfl,hl⟩,rfl⟩:=bI h;exact⟨_,_,rfl,‹_›,hl,rfl⟩
  ·cases h
 ·cases h
noncomputable def mS (c:Nat) (x:Str) (fo fv:OG D):OS:=oX fv fun v=>oX fo fun o ρ ω=>(tY c x ω o v).map fun ω'=>(.nx ρ,ω')
theorem MP (hc:Cls X.K (cls cn)) (hn:NoAttr X.K (cls cn) x) (ho:OE X cls E o fo) (hv:OE X cls E value fv) (hs:i9 value (we (.Attribute o x pos')) pos.line X.env=pure false:=by rfl):OSt X cls E (.Assign [.Attribute o x pos'] value pos) (mS cn x fo fv):=
 (Mm ho hv hs).imp fun D σ H ⟨ok,ρ,ω,oo,ω',P,e,q⟩=>by
  refine tO.thenS P e q fun dv ω1 v ok1 H1 e1 n1 P1 r1 q1=> ?_;refine tO.thenS P1 e1 q1 fun d ω2 u ok2 H2 e2 n2 P2 r2 q2=> ?_;obtain⟨ω3,e3,e4⟩:=aF e2;cases e4;obtain⟨n,fs,rfl,e5,hl,rfl⟩:=EO e3;obtain⟨a,rfl,e6,dx,vs,e7,kv⟩:=P2.st.ref r2 e5;refine⟨a,_,dx,vs,rfl,e7,hc,hn,by rw[kv.length];exact hl,?_⟩;have nw:=Nw.write (o:=.ins (cls cn) dx (L2.putF x v vs)) (ob:=.ins cn (kS x dv fs)) P2.okh P2.st e6 e7 fun dat=>⟨dx,_,aK,((kv.mono dat fun _ _ z=>z).putF ((r1.ex n2.ex).mono dat))⟩;exact q2 ok2 _ σ nw (P2.env.ex nw.ex) P2.len
noncomputable def zQ (ω:Om) (o i v:D):Option Om:=match o,i with
 |.obj n,.int k=>match ω[n]? with
  |some (.ml ds)=>(ixN ds.length k).map fun j=>ω.set n (.ml (ds.set j v))
  |_=>wf
 |_,_=>wf
theorem EN {o i v:D} (h:zQ ω o i v=we ω'):∃ n k ds j,o=.obj n/\i=.int k/\ω[n]?=we (.ml ds)/\ixN ds.length k=we j/\ω'=ω.set n (.ml (ds.set j v)):=by
 unfold zQ at h;split at h
 ·split at h
  ·obtain⟨j,e1,rfl⟩:=aF h;exact⟨_,_,_,j,rfl,rfl,‹_›,e1,rfl⟩
  ·cases h
 ·cases h
noncomputable def oG (g:Om->D->D->D->Option Om) (fo fi fv:OG D):OS:=oX fv fun v=>oX fo fun o=>oX fi fun i ρ ω=>(g ω o i v).map fun ω'=>(.nx ρ,ω')
theorem JG (ho:OE X cls E o fo) (hi:OE X cls E i fi) (hv:OE X cls E value fv) (hs:sv [.Subscript o i pos'] value pos.line X.env=pure false:=by rfl) (hw:sw [.Subscript o i pos'] value X.env=pure wf:=by rfl)
  (h1:(kq [.Subscript o i pos'] X.env).map (·.2)=[assign (.Subscript o i pos') X.env]:=by rfl)
  (ha:∀ v,assign (.Subscript o i pos') X.env v=(do
   let ov <- holding [v] (eval o X.env)
   let iv <- holding [v,ov] (eval i X.env)
   mh pos'
   holding [v,ov,iv] (setItem ov iv v)
   release [v,ov,iv] []):=by intro _;rfl):OSt X cls E (.Assign [.Subscript o i pos'] value pos) (oG zQ fo fi fv):=
 (Iy hv (Mq ho hi FV ha) hs hw h1).imp fun D σ H ⟨ok,ρ,ω,oo,ω',P,e,q⟩=>by
  refine tO.thenS P e q fun dv ω1 v ok1 H1 e1 n1 P1 r1 q1=> ?_;refine tO.thenS P1 e1 q1 fun d ω2 u ok2 H2 e2 n2 P2 r2 q2=> ?_;refine tO.thenS P2 e2 q2 fun y ω3 w ok3 H3 e3 n3 P3 r3 q3=> ?_;obtain⟨ω4,e4,e5⟩:=aF e3;cases e5;obtain⟨n,k,ds,j,rfl,rfl,e5,hj,rfl⟩:=EN e4;obtain⟨a,rfl,e6,xs,e7,rs⟩:=P3.st.ref (r2.ex n3.ex) e5;obtain rfl:=r3.int_inv;refine⟨a,xs,k,j,rfl,rfl,e7,by rw[rs.length];exact hj,?_⟩;have nw:=Nw.write (o:=.lst (xs.set j v)) (ob:=.ml (ds.set j dv)) P3.okh P3.st e6 e7 fun dat=>⟨_,aK,(rs.mono dat).set ((r1.ex (n2.ex.trans n3.ex)).mono dat) j⟩;exact q3 ok3 _ σ nw (P3.env.ex nw.ex) P3.len
noncomputable def tZ (ω:Om) (o i v:D):Option Om:=match o with
 |.obj n=>match ω[n]? with
  |some (.dt kvs)=>(Db i).bind fun k=>if kvs.length<sizeLine then we (ω.set n (.dt (iI kvs k v))) else wf
  |some (.dk kvs)=>(toK i).bind fun k=>if kvs.length<sizeLine then we (ω.set n (.dk (iI kvs k v))) else wf
  |_=>wf
 |_=>wf
theorem JK (hu:X.A.units+1<dm) (ho:OE X cls E o fo) (hi:OE X cls E i fi) (hv:OE X cls E value fv) (hs:i9 value (we (.Subscript o i pos')) pos.line X.env=pure false:=by rfl):
  OSt X cls E (.Assign [.Subscript o i pos'] value pos) (oG tZ fo fi fv):=
 (Jr hu ho hi hv hs).imp fun D σ H ⟨ok,ρ,ω,oo,ω',P,e,q⟩=>by
  refine tO.thenS P e q fun dv ω1 v ok1 H1 e1 n1 P1 r1 q1=> ?_;refine tO.thenS P1 e1 q1 fun d ω2 u ok2 H2 e2 n2 P2 r2 q2=> ?_;refine tO.thenS P2 e2 q2 fun y ω3 w ok3 H3 e3 n3 P3 r3 q3=> ?_;obtain⟨ω4,e4,e5⟩:=aF e3;cases e5;have rv:=r1.ex (n2.ex.trans n3.ex);unfold tZ at e4;split at e4
  ·split at e4
   ·rename_i n kvs e5
    obtain⟨ks,e8,e9⟩:=aN e4;obtain⟨hl,rfl⟩:=bI e9;obtain⟨a,rfl,e6,vs,e7,kv⟩:=P3.st.ref (r2.ex n3.ex) e5;obtain⟨b,rfl,_,hb⟩:=toT'_rep e8 r3;refine⟨a,_,rfl,DPut.t e7 hb (by rw[kv.length];exact hl),?_⟩;have nw:=Nw.write (o:=.dT (qG vs ks v)) (ob:=.dt (iI kvs ks dv)) P3.okh P3.st e6 e7 fun dat=>⟨_,aK,(kv.mono dat fun _ _ z=>z).put (rv.mono dat)⟩;exact q3 ok3 _ σ nw (P3.env.ex nw.ex) P3.len
   ·rename_i n kvs e5
    obtain⟨ks,e8,e9⟩:=aN e4;obtain⟨hl,rfl⟩:=bI e9;obtain⟨a,rfl,e6,vs,e7,kv⟩:=P3.st.ref (r2.ex n3.ex) e5;obtain rfl:=yJ e8 r3;refine⟨a,_,rfl,DPut.k e7 (by rw[kv.length];exact hl),?_⟩;have nw:=Nw.write (o:=.dK (qG vs ks v)) (ob:=.dk (iI kvs ks dv)) P3.okh P3.st e6 e7 fun dat=>⟨_,aK,(kv.mono dat fun _ _ z=>z).put (rv.mono dat)⟩;exact q3 ok3 _ σ nw (P3.env.ex nw.ex) P3.len
   ·cases e4
  ·cases e4
structure ItO (cls:Nat->af) (K:aa) (ok1:Okk) (H1:Hp) (C:Om->Bool) (J:It) (ds:List D):Prop where
 go:∀ i ok H ω,Nw cls K ok1 H1 ok H ω->C ω=true->i<ds.length->J.go i H
 yld:∀ i ok H ω x H' d,Nw cls K ok1 H1 ok H ω->C ω=true->J.yld i H x H'->ds[i]?=we d->Same H H'/\Rep K ok H' x d
 stop:∀ i ok H ω,Nw cls K ok1 H1 ok H ω->C ω=true->ds.length<=i->J.stop i H
noncomputable abbrev OI':=OG (List D×(Om->Bool))
noncomputable def tOI (cls:Nat->af) (K:aa) (f:OI') (E:XE):TI:=fun σ H R=>∃(ok:Okk) (ρ:Rho) (ω:Om) (r:Rz (List D×(Om->Bool))) (ω':Om),Pre cls K ok H ω σ ρ/\f ρ ω=we (r,ω')/\match r with
 |.ok p=>∀ J ok' H',Nw cls K ok H ok' H' ω'->ItO cls K ok' H' p.2 J p.1->R J H'
 |.ex c=>exR cls K ok H ω' E c
noncomputable abbrev OI (X:Cx) (cls:Nat->af) (E:XE) (tg e:bw) (f:OI'):Prop:=PI X tg e (tOI cls X.K f E)
noncomputable def bO:Om->Bool:=fun _=>true
theorem ItD.toO {K:aa} (h:ItD K ok1.al (Gd ok1 H1) J ds):ItO cls K ok1 H1 bO J ds:=by
 have sm:∀ {ok:Okk}{H:Hp}{ω:Om},Nw cls K ok1 H1 ok H ω->Same (Gd ok1 H1) H:=fun n b u z=>(n.ex.dat b u (kR z).1 (kR z).2).2;refine⟨fun i ok H ω n _ hi=>h.go i H (sm n) hi,fun i ok H ω x H' d n _ y hd=> ?_,fun i ok H ω n _ hi=>h.stop i H (sm n) hi⟩;obtain⟨s,r⟩:=h.yld i H x H' d (sm n) y hd;refine⟨s,Rep.mono (ok:=⟨fun b=>Gd ok1 H1 b≠wf∨H b=wf,ok1.al⟩) (fun b u z w=>⟨?_,w⟩) (fun m a z=>n.ex.ids m a z) r⟩;rcases z with z|z
 ·cases q:Gd ok1 H1 b with
  |none=>exact absurd q z
  |some u'=>exact(n.ex.dat b u' (kR q).1 (kR q).2).1
 ·exact n.okh b z
noncomputable def mG (n:Nat) (ds:List D) (ω:Om):Bool:=match ω[n]? with
 |some (.ml ds')=>sameDs ds' ds
 |_=>false
theorem Hf (h:mG n ds ω=true):ω[n]?=we (.ml ds):=by
 unfold mG at h;split at h
 ·rename_i ds' e
  rw[sameDs_eq ds' ds h] at e;exact e
 ·cases h
noncomputable def sE (ω:Om) (d:D):Option (List D×(Om->Bool)):=match d with
 |.lst ds=>we (ds,bO)
 |.obj n=>match ω[n]? with
  |some (.ml ds)=>we (ds,mG n ds)
  |_=>wf
 |_=>wf
theorem Hv (h:sE ω d=we (ds,chk)):(d=.lst ds/\chk=bO)∨∃ n,d=.obj n/\ω[n]?=we (.ml ds)/\chk=mG n ds:=by
 cases d with
 |lst xs=>cases h;exact .inl ⟨rfl,rfl⟩
 |obj n=>
  have h':(match ω[n]? with
   |some (.ml ds)=>we (ds,mG n ds)
   |_=>wf)=we (ds,chk):=h
  split at h'
  ·rename_i xs e
   cases h';exact .inr ⟨n,rfl,e,rfl⟩
  ·cases h'
 |_=>cases h
theorem zW {K:aa} (e:sE ω1 d=we (ds,chk)) (st:Stt cls K ok1 H1 ω1) (r:Rep K ok1 H1 v d):
  ∃ a,v=.ref a/\(∃ xs,SqL K H1 a xs)/\∀ ok H ω,Nw cls K ok1 H1 ok H ω->chk ω=true->∃ xs,SqL K H a xs/\Reps K ok H xs ds:=by
 rcases Hv e with⟨rfl,rfl⟩|⟨n,rfl,e1,rfl⟩
 ·obtain⟨a,xs,rfl,g,rs⟩:=r.lst_inv;refine⟨a,rfl,⟨xs,g.sq⟩,fun ok H ω n _=>⟨xs,(g.mono n.ex.dat).sq,rs.ex n.ex⟩⟩
 ·obtain⟨a,rfl,e2,xs,e3,rs⟩:=st.ref r e1;refine⟨a,rfl,⟨xs,SqL.of e3⟩,fun ok H ω nw hc=> ?_⟩;obtain⟨b,e4,xs',e5,rs'⟩:=nw.st.cell n _ (Hf hc)
  have:=nw.ex.ids n a e2
  rw[e4] at this;cases this;exact⟨xs',SqL.of e5,rs'⟩
noncomputable def oIL (f:OG D):OI':=oB f fun d _ ω=>oR (pu (sE ω d) ω)
theorem JQ (h:OE X cls E e fa):OI X cls E tg e (oIL fa):=PI.imp (Jv h) fun σ H R ⟨ok,ρ,ω,r,ω',P,e,q⟩=>by
 refine tO.then_ P e (fun c z=>by subst z;exact q) fun d ω1 v ok1 H1 e1 n1 P1 r1=> ?_;obtain⟨⟨ds,chk⟩,e3,rfl⟩:=cA e1;obtain⟨ue3,rfl⟩:=cK e3;obtain⟨a,rfl,hx,at_⟩:=zW ue3 P1.st r1;refine⟨a,rfl,hx,q _ ok1 H1 n1 ⟨fun i ok H ω n c hi=> ?_,fun i ok H ω x H' d n c y hd=> ?_,fun i ok H ω n c hi=> ?_⟩⟩
 ·obtain⟨xs,s1,rs⟩:=at_ ok H ω n c;have hi':i<xs.length:=by rw[rs.length];exact hi
  exact⟨xs,xs[i],s1,by simp[hi']⟩
 ·obtain⟨xs,s1,rs⟩:=at_ ok H ω n c;obtain⟨rfl,y⟩:=y;obtain⟨w,z1,z2⟩:=rs.get hd;rw[y xs s1] at z1;cases z1;exact⟨Same.refl _,z2⟩
 ·obtain⟨xs,s1,rs⟩:=at_ ok H ω n c;exact⟨xs,s1,by rw[rs.length];exact hi⟩
noncomputable def Ow (ω:Om) (ds:List D):Option (List D×(Om->Bool)):=match ds with
 |[a,b]=>(sE ω a).bind fun p=>(sE ω b).map fun q=>(yH p.1 q.1,fun ω=>p.2 ω&&q.2 ω)
 |_=>wf
noncomputable def oIZ (f:OG (List D)):OI':=oB f fun ds _ ω=>oR (pu (Ow ω ds) ω)
theorem Nc (hg:Gl X "zip") (hm:X.mg "zip"=wf) (ha:OA X cls E [a,b] fl) (hs:ar [a,b] X.env=[(false,eval a X.env),(false,eval b X.env)]:=by rfl) (hs2:ar [b] X.env=[(false,eval b X.env)]:=by rfl):
  OI X cls E (.Tuple ts k tp) (.Call (.Name "zip" p) [a,b] [] pos) (oIZ fl):=PI.imp (Mp hg hm ha hs hs2) fun σ H R ⟨ok,ρ,ω,r,ω',P,e,q⟩=>by
 refine tOA.then_ P e (fun c z=>by subst z;exact q) fun ds ω1 vs ok1 H1 e1 n1 P1 r1=> ?_;obtain⟨⟨dz,chk⟩,e3,rfl⟩:=cA e1;obtain⟨ue3,rfl⟩:=cK e3;unfold Ow at ue3;split at ue3
 ·obtain⟨⟨d1,c1⟩,e4,e5⟩:=aN ue3;obtain⟨⟨d2,c2⟩,e6,e7⟩:=aF e5;cases e7;obtain⟨v,v',rfl,ra,rb⟩:=r1.two_inv;obtain⟨a1,rfl,hx,at1⟩:=zW e4 P1.st ra;obtain⟨b1,rfl,hy,at2⟩:=zW e6 P1.st rb;have hl:(yH d1 d2).length=min d1.length d2.length:=by simp[yH]
  refine⟨a1,b1,rfl,hx,hy,q _ ok1 H1 n1 ⟨fun i ok H ω n c hi=> ?_,fun i ok H ω x H' d n c y hd=> ?_,fun i ok H ω n c hi=> ?_⟩⟩
  ·obtain⟨xs,s1,rs⟩:=at1 ok H ω n (bu _ _ ▸ c).1;obtain⟨ys,s2,rs2⟩:=at2 ok H ω n (bu _ _ ▸ c).2;rw[hl] at hi;have hi1:i<xs.length:=by rw[rs.length];omega
   have hi2:i<ys.length:=by rw[rs2.length];omega
   exact⟨xs,ys,xs[i],ys[i],s1,s2,by simp[hi1],by simp[hi2]⟩
  ·obtain⟨xs,s1,rs⟩:=at1 ok H ω n (bu _ _ ▸ c).1;obtain⟨ys,s2,rs2⟩:=at2 ok H ω n (bu _ _ ▸ c).2;obtain⟨T,x1,y1,rfl,hT,hx,hy,rfl⟩:=y;have hx':=hx xs s1;have hy':=hy ys s2;unfold yH at hd;rw[rn] at hd;cases q1:d1[i]? with
   |none=>rw[q1] at hd;cases hd
   |some u1=>
    cases q2:d2[i]? with
    |none=>rw[q1,q2] at hd;cases hd
    |some u2=>
     rw[q1,q2] at hd;cases hd;obtain⟨w1,z1,z2⟩:=rs.get q1;rw[hx'] at z1;cases z1;obtain⟨w2,z3,z4⟩:=rs2.get q2;rw[hy'] at z3;cases z3;exact⟨cC hT,.tup_new (n.okh T hT) hT (.cons z2 (.cons z4 .nil))⟩
  ·obtain⟨xs,s1,rs⟩:=at1 ok H ω n (bu _ _ ▸ c).1;obtain⟨ys,s2,rs2⟩:=at2 ok H ω n (bu _ _ ▸ c).2;rw[hl] at hi;refine⟨xs,ys,s1,s2,?_⟩;rw[rs.length,rs2.length];omega
 ·cases ue3
noncomputable abbrev EF:XE:=fun _ _=>False
noncomputable def bY (bd:BR) (chk:Om->Bool) (F:OS):List D->OS
 |[],ρ,ω=>if chk ω=true then we (.nx ρ,ω) else wf
 |d::ds,ρ,ω=>if chk ω=true then(bd d ρ).bind fun ρ1=>match F ρ1 ω with
  |none=>wf
  |some (.nx ρ2,ω2)=>bY bd chk F ds ρ2 ω2
  |some (.ct ρ2,ω2)=>bY bd chk F ds ρ2 ω2
  |some (.bk ρ2,ω2)=>we (.nx ρ2,ω2)
  |some (.rt d,ω2)=>we (.rt d,ω2)
  |some (.ex _,_)=>wf else wf
noncomputable def bF (fi:OI') (bd:BR) (F:OS):OS:=oX fi fun p ρ ω=>bY bd p.2 F p.1 ρ ω
theorem cL {α:Type}{c:Prop} [Decidable c] {a:Option α}{b:α} (h:(if c then a else wf)=we b):c/\a=we b:=by
 by_cases hc:c
 ·rw[if_pos hc] at h;exact⟨hc,h⟩
 ·rw[if_neg hc] at h;cases h
noncomputable def Rf (g:TG) (tb:TS) (D:BI) (σ:St) (J:It) (H1:Hp):Prop:=∃ W:Nat->Nat->St->Hp->Prop,(∃ m,W 0 m σ H1)/\∀ i m σ H,W i m σ H->
 (J.stop i H/\D.nx σ H)∨(J.go i H/\∃ N:St->Hp->Prop,(∀ σ' H',N σ' H'->∃ m',m'<m/\W (i+1) m' σ' H')/\∀ x H',J.yld i H x H'->g x σ H' fun σ2 H2=>tb { D with nx:=N,ct:=N,bk:=D.nx } σ2 H2)
theorem Bu {K:aa}{D:BI}{o:OOut} (it:ItO cls K ok1 H1 chk J ds) (P1:Pre cls K ok1 H1 ω1 σ ρ) (e2':bY bd chk F ds ρ ω1=we (o,ω')) (q1:outO cls K ok1 H1 ω' EF D o):
  Rf (gR K bd) (tOS cls K F EF) D σ J H1:=by
 refine⟨fun i m σ' H'=>∃ ok' ωc ρ',m=ds.length-i/\i<=ds.length/\Nw cls K ok1 H1 ok' H' ωc/\EnvR K ok' H' σ' ρ'/\σ'.length=ρ'.length/\bY bd chk F (ds.drop i) ρ' ωc=we (o,ω'),
  ⟨ds.length,ok1,ω1,ρ,by simp,ip _,.refl P1.okh P1.st,P1.env,P1.len,by simpa using e2'⟩,?_⟩
 rintro i m σ' H' ⟨ok',ωc,ρ',rfl,hi,n2,env,len,ef⟩
 by_cases hlt:i<ds.length
 ·have hdrop:ds.drop i=ds[i]::ds.drop (i+1):=pp hlt;rw[hdrop] at ef;have ef':(if chk ωc=true then(bd ds[i] ρ').bind fun ρ1=>(match F ρ1 ωc with
   |none=>wf
   |some (.nx ρ2,ω2)=>bY bd chk F (ds.drop (i+1)) ρ2 ω2
   |some (.ct ρ2,ω2)=>bY bd chk F (ds.drop (i+1)) ρ2 ω2
   |some (.bk ρ2,ω2)=>we (.nx ρ2,ω2)
   |some (.rt d,ω2)=>we (.rt d,ω2)
   |some (.ex _,_)=>wf) else wf)=we (o,ω'):=ef
  obtain⟨hc,ef'⟩:=cL ef';obtain⟨ρ1,e3,e4⟩:=aN ef';refine .inr ⟨it.go i ok' H' ωc n2 hc hlt,fun σ2 H2=>∃ ok2 ω2 ρ2,Nw cls K ok1 H1 ok2 H2 ω2/\EnvR K ok2 H2 σ2 ρ2/\σ2.length=ρ2.length/\bY bd chk F (ds.drop (i+1)) ρ2 ω2=we (o,ω'),
   fun σ2 H2 ⟨ok2,ω2,ρ2,z1,z2,z3,z4⟩=>⟨ds.length-(i+1),by omega,ok2,ω2,ρ2,rfl,hlt,z1,z2,z3,z4⟩,fun x H'' y=> ?_⟩
  obtain⟨s2,rx⟩:=it.yld i ok' H' ωc x H'' ds[i] n2 hc y (by simp[hlt]);have n3:Nw cls K ok1 H1 ok' H'' ωc:=n2.trans (.same n2.okh n2.st s2);refine⟨ok',ρ',ρ1,ds[i],env.same s2,len,rx,e3,fun σ2 env2 len2=> ?_⟩;cases eF:F ρ1 ωc with
  |none=>rw[eF] at e4;cases e4
  |some p=>
   obtain⟨o1,ω2⟩:=p;rw[eF] at e4;refine⟨ok',ρ1,ωc,o1,ω2,⟨n3.okh,n3.st,env2,len2⟩,eF,?_⟩;cases o1 with
   |nx ρ2=>exact fun ok3 H3 σ3 m3 r3 l3=>⟨ok3,ω2,ρ2,n3.trans m3,r3,l3,e4⟩
   |ct ρ2=>exact fun ok3 H3 σ3 m3 r3 l3=>⟨ok3,ω2,ρ2,n3.trans m3,r3,l3,e4⟩
   |bk ρ2=>
    cases e4;exact fun ok3 H3 σ3 m3 r3 l3=>q1 ok3 H3 σ3 (n3.trans m3) r3 l3
   |rt d=>
    cases e4;exact fun v ok3 H3 m3 r3=>q1 v ok3 H3 (n3.trans m3) r3
   |ex c=>cases e4
 ·have ei:i=ds.length:=by omega
  subst ei;rw[vc] at ef;have ef':(if chk ωc=true then we (OOut.nx ρ',ωc) else wf)=we (o,ω'):=ef;obtain⟨hc,ef'⟩:=bI ef';cases ef';exact .inl ⟨it.stop _ ok' H' _ n2 hc (bj _),q1 ok' H' σ' n2 env len⟩
theorem tOS.for_ {K:aa}{fi:OI'}{D:BI} (h:tOS cls K (bF fi bd F) EF D σ H):ON (tOI cls K fi EF) (gR K bd) (tOS cls K F EF) D σ H:=by
 obtain⟨ok,ρ,ω,o,ω',P,e,q⟩:=h;rcases DW e with⟨c,e1,rfl⟩|⟨⟨ds,chk⟩,ω1,e1,e2⟩
 ·exact⟨ok,ρ,ω,.ex c,ω',P,e1,q⟩
 ·exact⟨ok,ρ,ω,.ok (ds,chk),ω1,P,e1,fun J ok1 H1 n1 it=>Bu it (P.nw n1) e2 (q.nw n1)⟩
noncomputable def sNx (F:OS):OS:=fun ρ ω=>match F ρ ω with
 |some (.ex _,_)=>wf
 |r=>r
theorem Dm {o:OOut} (h:sNx F ρ ω=we (o,ω')):F ρ ω=we (o,ω')/\∀ c,o≠ .ex c:=by
 unfold sNx at h;split at h
 ·cases h
 ·rename_i hn
  exact⟨h,fun c z=>by subst z;exact hn c ω' h⟩
theorem _root_.L2.PS.nox (h:PS X.nox st t):PS X st t:=fun pins s σ H D I hw=>
 gq (h pins s σ H D (I.wish _) hw) (fun _ _ q=>q.unwish) fun _ _ z=>ik z
theorem IG (h:OSt X.nox cls EF st F):OSt X cls E st (sNx F):=(PS.nox h).imp fun D σ H ⟨ok,ρ,ω,o,ω',P,e,q⟩=>by
 obtain⟨e,hn⟩:=Dm e;refine⟨ok,ρ,ω,o,ω',P,e,?_⟩;cases o with
 |ex c=>exact absurd rfl (hn c)
 |_=>exact q
theorem MO {fi:OI'} (hc:X.calm=true) (hi:OI X.nox cls EF tg iter fi) (hg:PG X.nox tg (gR X.K bd)) (hb:OSs X.nox cls EF body F) (hs:∀ x,f7 iter X.env x=pure x:=by intro _;rfl):
  OSt X cls E (.For tg iter body [] pos) (sNx (bF fi bd F)):=IG ((Ix (X:=X.nox) vp hc hi hg hb hs).imp fun D σ H h=>tOS.for_ h)
end
noncomputable def compLO (bd:BR) (chk:Om->Bool) (t:OG Bool) (f:OG D):List D->Rho->Om->Option (List D×Om)
 |[],_,ω=>if chk ω=true then we ([],ω) else wf
 |d::ds,ρ,ω=>if chk ω=true then(bd d ρ).bind fun ρ1=>match t ρ1 ω with
  |some (.ok k,ω1)=>if k=true then(match f ρ1 ω1 with
   |some (.ok y,ω2)=>(compLO bd chk t f ds ρ1 ω2).map fun r=>(y::r.1,r.2)
   |_=>wf) else compLO bd chk t f ds ρ1 ω1
  |_=>wf else wf
noncomputable def dO (fin:Om->List D->Option (D×Om)) (fi:OI') (caps:List (Option Nat)) (bd:BR) (t:OG Bool) (f:OG D):OG D:=oB fi fun p ρ ω=>if p.1.length<=sizeLine then(compLO bd p.2 t f p.1 (FQ caps ρ) ω).bind fun r=>oR (fin r.2 r.1) else wf
noncomputable def yE (ω:Om) (ds:List D):Option (D×Om):=we (.lst ds,ω)
noncomputable def Lc (ω:Om) (ds:List D):Option (D×Om):=we (.obj ω.length,ω++[.ml ds])
noncomputable def Fin (fin:Om->List D->Option (D×Om)):Prop:=∀(cls:Nat->af) (K:aa) (ok1 ok:Okk) (H1 H:Hp) (ω ω':Om) (P:af) (vs:List V) (ds:List D) (d:D),Nw cls K ok1 H1 ok H ω->H1 P=wf->H P=we (.lst vs)->¬ ok.p P->(∀ n,ok.al n≠we P)->Reps K ok H vs ds->fin ω ds=we (d,ω')->
 ∃ ok',Nw cls K ok1 H1 ok' H ω'/\Rep K ok' H (.ref P) d
theorem PM:Fin yE:=fun cls K ok1 ok H1 H ω ω' P vs ds d nw h1 hP np na rs e=>by
 cases e;have dat:∀ b o,ok.p b->H b=we o->(ok.p b∨b=P)/\H b=we o:=fun b o k e=>⟨.inl k,e⟩;refine⟨⟨fun b=>ok.p b∨b=P,ok.al⟩,⟨⟨fun b o k e=>⟨.inl (nw.ex.dat b o k e).1,(nw.ex.dat b o k e).2⟩,nw.ex.ids,nw.ex.frm,nw.ex.new,nw.ex.keep,fun b k=> ?_,nw.ex.frz⟩,⟨fun b e=>.inl (nw.okh b e),fun b xs e=>.inl (nw.okh.tp b xs e)⟩,fun n ob e=> ?_,nw.st.dom,nw.st.inj,fun n a e k=> ?_⟩,.lst ⟨.inr rfl,hP⟩ (rs.mono dat)⟩
 ·rcases k with k|rfl
  ·exact nw.ex.sub b k
  ·exact .inr h1
 ·obtain⟨a,e1,c⟩:=nw.st.cell n ob e;exact⟨a,e1,c.mono dat (fun _ _ z=>z) fun _ z=>z⟩
 ·rcases k with k|rfl
  ·exact nw.st.nok n a e k
  ·exact na n e
theorem PL:Fin Lc:=fun cls K ok1 ok H1 H ω ω' P vs ds d nw h1 hP np na rs e=>by
 cases e;have al:∀ m b,(if m=ω.length then we P else ok.al m)=we b->(m=ω.length/\b=P)∨(m≠ω.length/\ok.al m=we b):=fun m b q=>by
  by_cases hm:m=ω.length
  ·rw[if_pos hm] at q;exact .inl ⟨hm,(ce q).symm⟩
  ·rw[if_neg hm] at q;exact .inr ⟨hm,q⟩
 have ids:∀ m b,ok.al m=we b->(if m=ω.length then we P else ok.al m)=we b:=fun m b q=>by
  rw[if_neg (cj (nw.st.dom m b q))];exact q
 have dat:∀ b o,ok.p b->H b=we o->ok.p b/\H b=we o:=fun b o k e=>⟨k,e⟩;refine⟨⟨ok.p,fun m=>if m=ω.length then we P else ok.al m⟩,⟨⟨nw.ex.dat,fun m b q=>ids m b (nw.ex.ids m b q),nw.ex.frm,fun m b q=> ?_,nw.ex.keep,nw.ex.sub,nw.ex.frz⟩,⟨nw.okh.fn,nw.okh.tp⟩,fun m ob q=> ?_,fun m b q=> ?_,fun m m' b q q'=> ?_,fun m b q k=> ?_⟩,.obj (by show(if ω.length=ω.length then we P else _)=_;rw[if_pos rfl])⟩
 ·rcases al m b q with⟨_,rfl⟩|⟨_,q⟩
  ·exact .inr h1
  ·exact nw.ex.new m b q
 ·by_cases hm:m<ω.length
  ·rw[ay hm] at q;obtain⟨b,e1,c⟩:=nw.st.cell m ob q;exact⟨b,ids m b e1,c.mono dat ids fun _ z=>z⟩
  ·have hm':m=ω.length:=by
    have:=(bi.mp q).1
    simp at this;omega
   subst hm';rw[im (bj _)] at q;simp at q;subst q;exact⟨P,by show(if ω.length=ω.length then we P else _)=_;rw[if_pos rfl],vs,hP,Reps.mono (ok':=⟨ok.p,fun m=>if m=ω.length then we P else ok.al m⟩) dat ids rs⟩
 ·rw[b7,gk];rcases al m b q with⟨rfl,_⟩|⟨_,q⟩
  ·omega
  ·have:=nw.st.dom m b q
   omega
 ·rcases al m b q with⟨rfl,rfl⟩|⟨_,qa⟩ <;> rcases al m' b q' with⟨rfl,w⟩|⟨_,qb⟩
  ·rfl
  ·exact absurd qb (na m')
  ·rw[w] at qa;exact absurd qa (na m)
  ·exact nw.st.inj m m' b qa qb
 ·rcases al m b q with⟨_,rfl⟩|⟨_,q⟩
  ·exact np k
  ·exact nw.st.nok m b q k
theorem Aj (h:compLO bd chk t f (d::ds) ρ ω=we (ys,ω')):
  chk ω=true/\∃ ρ1 k ω1,bd d ρ=we ρ1/\t ρ1 ω=we (.ok k,ω1)/\((k=true/\∃ y zs ω2,f ρ1 ω1=we (.ok y,ω2)/\compLO bd chk t f ds ρ1 ω2=we (zs,ω')/\ys=y::zs)∨(k=false/\compLO bd chk t f ds ρ1 ω1=we (ys,ω'))):=by
 obtain⟨hc,h⟩:=cL (show(if chk ω=true then _ else wf)=_ from h);obtain⟨ρ1,e1,h⟩:=aN h;refine⟨hc,ρ1,?_⟩;split at h
 ·rename_i k ω1 e2
  refine⟨k,ω1,e1,e2,?_⟩;cases k with
  |true=>
   rw[if_pos rfl] at h;split at h
   ·rename_i y ω2 e3
    obtain⟨⟨zs,ω3⟩,e4,e5⟩:=aF h;cases e5;exact .inl ⟨rfl,y,zs,ω2,e3,e4,rfl⟩
   ·cases h
  |false=>
   rw[if_neg ck] at h;exact .inr ⟨rfl,h⟩
 ·cases h
section
variable {X:Cx}{cls:Nat->af}{E:XE}{tg iter elt:bw}{ifs:List bw}{scope:j0}{N':List Str}{caps:List (Option Nat)}{fi:OI'}{bd:BR}{t:OG Bool}{f:OG D}{pos:Pos}{fin:Om->List D->Option (D×Om)}
theorem tO.comp {K:aa} (Fn:Fin fin) (h:tO cls K (dO fin fi caps bd t f) E σ H Q):Jb (tOI cls K fi E) caps (gR K bd) (tOT cls K t EF) (tO cls K f EF) σ H Q:=by
 obtain⟨ok,ρ,ω,r,ω',P,e,q⟩:=h;rcases kX e with⟨c,e1,rfl⟩|⟨⟨ds,chk⟩,ω1,e1,e2⟩
 ·exact⟨ok,ρ,ω,.ex c,ω',P,e1,q⟩
 ·refine⟨ok,ρ,ω,.ok (ds,chk),ω1,P,e1,fun J ok1 H1 n1 it A hA=> ?_⟩;have P1:=P.nw n1;obtain⟨hz,e2⟩:=cL (show(if ds.length<=sizeLine then _ else wf)=_ from e2);obtain⟨⟨out,ωf⟩,e3,e4⟩:=aN e2;obtain⟨d,e5,rfl⟩:=cA e4
  -- ahead of the first turn:the list that is filled stands apart
  have start:Nw cls K ok1 H1 ⟨fun b=>ok1 b/\b≠A,ok1.al⟩ (upd H1 A (.lst [])) ω1:=by
   have dat:∀ b o,ok1.p b->H1 b=we o->(ok1.p b/\b≠A)/\upd H1 A (.lst []) b=we o:=fun b o k e=>⟨⟨k,aH e hA⟩,by rw[aE (aH e hA)];exact e⟩;refine⟨⟨dat,fun _ _ z=>z,fun b o z _=>by rw[aE (aH z hA)];exact z,fun _ _ z=>.inl z,fun b z=> ?_,fun b k=>.inl k.1,fun b x u z=>by rw[aE (aH z hA)];exact z⟩,⟨fun b z=> ?_,fun b xs z=> ?_⟩,fun n ob z=> ?_,P1.st.dom,P1.st.inj,fun n a z k=>P1.st.nok n a z k.1⟩
   ·by_cases hb:b=A
    ·rw[hb];exact hA
    ·rw[aE hb] at z;exact z
   ·have hb:b≠A:=fun w=>by rw[w,aK] at z;cases z
    rw[aE hb] at z;exact⟨P1.okh b z,hb⟩
   ·have hb:b≠A:=fun w=>by rw[w,aK] at z;cases z
    rw[aE hb] at z;exact⟨P1.okh.tp b xs z,hb⟩
   ·obtain⟨a,z1,c⟩:=P1.st.cell n ob z;exact⟨a,z1,c.mono dat (fun _ _ z=>z) fun o w=>by rw[aE (aH w hA)];exact w⟩
  refine⟨fun i m σ' H'=>∃ ok' ωc ρ' vs acc rest,m=ds.length-i/\i<=ds.length/\Nw cls K ok1 H1 ok' H' ωc/\¬ ok'.p A/\(∀ n,ok'.al n≠we A)/\H' A=we (.lst vs)/\Reps K ok' H' vs acc/\EnvR K ok' H' σ' ρ'/\σ'.length=ρ'.length/\
   compLO bd chk t f (ds.drop i) ρ' ωc=we (rest,ωf)/\acc++rest=out/\acc.length<=i,
   ⟨ds.length,_,ω1,FQ caps ρ,[],[],out,by simp,ip _,start,fun k=>k.2 rfl,fun n z=> ?_,aK,.nil,(P1.env.ex start.ex).cap caps,Lp _ _ _,by simpa using e3,by simp,ip _⟩,?_⟩
  ·obtain⟨_,_,c⟩:=P1.st.at_ (show ok1.al n=we A from z);obtain⟨_,w,_⟩:=c.there;rw[hA] at w;cases w
  ·rintro i m σ' H' ⟨ok',ωc,ρ',vs,acc,rest,rfl,hi,nw,np,na,hv,ra,re,rl,ec,ea,hal⟩
   by_cases hlt:i<ds.length
   ·have hdrop:ds.drop i=ds[i]::ds.drop (i+1):=pp hlt;rw[hdrop] at ec;obtain⟨hc,ρ1,k,ω2,b1,b2,hk⟩:=Aj ec;refine .inr ⟨it.go i ok' H' ωc nw hc hlt,fun x H'' y=> ?_⟩;obtain⟨s2,rx⟩:=it.yld i ok' H' ωc x H'' ds[i] nw hc y (by simp[hlt]);have nw2:Nw cls K ok' H' ok' H'' ωc:=.same nw.okh nw.st s2;refine⟨ok',ρ',ρ1,ds[i],re.same s2,rl,rx,b1,fun σ2 re2 rl2=> ?_⟩;refine⟨ok',ρ1,ωc,.ok k,ω2,⟨nw2.okh,nw2.st,re2,rl2⟩,b2,fun ok3 H3 nw3=> ?_⟩
    -- the list that is filled stays apart
    have apart:∀ {okx:Okk}{Hx:Hp}{ωx:Om},Nw cls K ok' H' okx Hx ωx->¬ okx.p A/\(∀ n,okx.al n≠we A)/\Hx A=we (.lst vs):=by
     intro okx Hx ωx nx;refine⟨fun z=> ?_,fun n z=> ?_,nx.ex.frm A _ hv na⟩
     ·rcases nx.ex.sub A z with z|z
      ·exact np z
      ·rw[hv] at z;cases z
     ·rcases nx.ex.new n A z with z|z
      ·exact na n z
      ·rw[hv] at z;cases z
    rcases hk with⟨rfl,yd,zs,ω4,b5,b6,rfl⟩|⟨rfl,b6⟩
    ·refine Lz ⟨ok3,ρ1,ω2,.ok yd,ω4,⟨nw3.okh,nw3.st,re2.ex nw3.ex,rl2⟩,b5,fun yv ok4 H4 nw4 ry=> ?_⟩;have nx:=nw2.trans (nw3.trans nw4);obtain⟨np4,na4,hv4⟩:=apart nx;have hvl:vs.length<sizeLine:=by
      rw[ra.length];omega
     have keep:∀ b o,ok4.p b->H4 b=we o->ok4.p b/\upd H4 A (.lst (vs++[yv])) b=we o:=fun b o k e=>⟨k,by rw[aE (show b≠A from fun w=>np4 (w ▸ k))];exact e⟩;have nwf:=nw.trans nx;refine⟨vs,ds.length-(i+1),hv4,hvl,by omega,ok4,ω4,ρ1,vs++[yv],acc++[yd],zs,rfl,hlt,?_,np4,na4,aK,?_,?_,rl2,b6,by simpa using ea,by simp;omega⟩
     ·have nA:∀ {b:af}{o:HO},H1 b=we o->b≠A:=fun z=>aH z hA;refine⟨⟨fun b o k e=>⟨(nwf.ex.dat b o k e).1,by rw[aE (nA e)];exact(nwf.ex.dat b o k e).2⟩,nwf.ex.ids,fun b o e z=>by rw[aE (nA e)];exact nwf.ex.frm b o e z,nwf.ex.new,fun b e=> ?_,nwf.ex.sub,fun b x u z=>by rw[aE (nA z)];exact nwf.ex.frz b x u z⟩,⟨fun b e=> ?_,fun b xs e=> ?_⟩,fun n ob e=> ?_,nwf.st.dom,nwf.st.inj,nwf.st.nok⟩
      ·by_cases hb:b=A
       ·rw[hb];exact hA
       ·rw[aE hb] at e;exact nwf.ex.keep b e
      ·have hb:b≠A:=fun w=>by rw[w,aK] at e;cases e
       rw[aE hb] at e;exact nwf.okh b e
      ·have hb:b≠A:=fun w=>by rw[w,aK] at e;cases e
       rw[aE hb] at e;exact nwf.okh.tp b xs e
      ·obtain⟨a,z1,c⟩:=nwf.st.cell n ob e;exact⟨a,z1,c.mono keep (fun _ _ z=>z) fun o w=>by rw[aE (show a≠A from fun w'=>na4 n (w' ▸ z1))];exact w⟩
     ·exact((ra.ex nx.ex).snoc ry).mono keep
     ·intro j dj ej;obtain⟨w,a,r⟩:=(re2.ex (nw3.trans nw4).ex) j dj ej;exact⟨w,a,r.mono keep⟩
    ·have nx:=nw2.trans nw3;obtain⟨np4,na4,hv4⟩:=apart nx;exact LA ⟨ds.length-(i+1),by omega,ok3,ω2,ρ1,vs,acc,rest,rfl,hlt,nw.trans nx,np4,na4,hv4,ra.ex nx.ex,re2.ex nw3.ex,rl2,b6,ea,by omega⟩
   ·have ei:i=ds.length:=by omega
    subst ei;rw[vc] at ec;obtain⟨hc,ec⟩:=bI (show(if chk ωc=true then we ([],ωc) else wf)=_ from ec);cases ec;rw[c7] at ea;subst ea;refine .inl ⟨it.stop _ ok' H' _ nw hc (bj _),?_⟩;obtain⟨ok2,nw2,rr⟩:=Fn cls K ok1 ok' H1 H' _ ω' A vs acc d nw hA hv np na ra e5;exact q _ ok2 H' (n1.trans nw2) rr
noncomputable def Lv (X:Cx) (cls:Nat->af) (E:XE) (ifs:List bw) (t:OG Bool):Prop:=LF X ifs (tOT cls X.K t E)
theorem GB:Lv X cls E [] (oPT jN):=fun pins s σ H Q I ⟨ok,ρ,ω,r,ω',P,e,q⟩=>by
 cases e;exact KC pins s σ H Q I (q ok H (.refl P.okh P.st))
theorem GA (h:OT X cls E c t):Lv X cls E [c] t:=KB h
theorem Ki (Fn:Fin fin) (C:FO X scope N' caps) (hi:OI X cls E tg iter fi)
  (hb:∀ cells C fp pins s₀ H₀,PG (blk X N' scope cells C fp pins s₀ H₀) tg (gR X.K bd)/\Lv (blk X N' scope cells C fp pins s₀ H₀) cls EF ifs t/\OE (blk X N' scope cells C fp pins s₀ H₀) cls EF elt f)
  (hs:∀ x,f7 iter X.env x=pure x:=by intro _;rfl):OE X cls E (.ListComp elt [⟨tg,iter,ifs,0⟩] scope pos) (dO fin fi caps bd t f):=
 (JA C.calm C.kind C.names C.free C.uniq C.cap hi hb hs).imp fun _ _ _ h=>tO.comp Fn h
theorem JM (Fn:Fin fin) (hN:X.N.Nodup) (hiy:X.N[i]?=we y) (hy:X.env.scope.names.lookup y=we .local) (C:FO X scope N' caps) (hi:OI X cls E tg iter fi)
  (hb:∀ cells C fp pins s₀ H₀,PG (blk X N' scope cells C fp pins s₀ H₀) tg (gR X.K bd)/\Lv (blk X N' scope cells C fp pins s₀ H₀) cls EF ifs t/\OE (blk X N' scope cells C fp pins s₀ H₀) cls EF elt f)
  (hsw:i9 (.ListComp elt [⟨tg,iter,ifs,0⟩] scope pos) (we (.Name y py)) spos.line X.env=pure true:=by rfl)
  (hs:∀ x,f7 iter X.env x=pure x:=by intro _;rfl):OSt X cls E (.Assign [.Name y py] (.ListComp elt [⟨tg,iter,ifs,0⟩] scope pos) spos) (aX i (dO fin fi caps bd t f)):=
 (Js hN hiy hy C.calm C.kind C.names C.free C.uniq C.cap hi hb hsw hs).imp fun D σ H ⟨ok,ρ,ω,o,ω',P,e,q⟩=>by
  refine tO.comp (fi:=fi) (caps:=caps) (bd:=bd) (t:=t) (f:=f) (E:=E) Fn ?_;refine tO.thenS P e q fun d ω1 v ok1 H1 e1 n1 P1 r1 q1=> ?_;cases e1;exact q1 ok1 H1 _ (.refl P1.okh P1.st) (P1.env.set P1.len r1 i) (by rw[c9,c9];exact P1.len)
end
structure FlyT (exC:Nat->af) (c:Nat) (ea:af) (T:af) (h0:cx) (H:Hp) (h:cx):Prop where
 tr:∃(oe oT:Obj) (vs ts:Array ai) (a0:ai),h.get? ea=we oe/\oe.cls=.ref (exC c)/\oe.data=.fields vs/\vs[0]?=we a0/\vs[1]?=we (.ref T)/\T≠ea/\h.get? T=we oT/\oT.data=.fields ts/\ts[3]?=we .none
 h0e:h0.get? ea=wf
 h0T:h0.get? T=wf
 He:H ea=wf
 HT:H T=wf
structure Raw (exC:Nat->af) (c:Nat) (ea:af) (h0:cx) (H:Hp) (h:cx):Prop where
 at_:∃ t,h.get? ea=we { cls:=.ref (exC c),data:=.fields #[.ref t,.none,.none,.none,.bool false,.none] }
 h0e:h0.get? ea=wf
 He:H ea=wf
noncomputable def CX1 (P:da) (w:df) (exC:Nat->af):CXT:=fun outer H s E e s'=>∃ c ea T H',e=.ref ea/\s'.os=s.os/\mf s'.gens/\Un (frs outer) [] H H' s.heap s'.heap/\HOk P w H' s'.heap/\FlyT exC c ea T s.heap H' s'.heap/\E (.ref (exC c)) wf H'
noncomputable def exK (exC:Nat->af) (E:XE):XK:=fun cv _ H'=>∃ c,cv=.ref (exC c)/\E c H'
structure Exc (X:Cx) (exC:Nat->af) (E:XE):Prop where
 fly:∀ c ea T H' pins σ' s',Inv X pins σ' H' s'->FlyT exC c ea T X.s₀.heap H' s'.heap->(∀ p∈X.pn,p.1≠ea/\p.1≠T)->E c H'->X.xe (.ref ea) s'
 ex:X.ex=[]
structure OC (X:Cx) (exC:Nat->af) (E:XE):Prop where
 raw:∀ c ea H' pins σ' s',Inv X pins σ' H' s'->Raw exC c ea X.s₀.heap H' s'.heap->E c H'->X.xe (.ref ea) s'
 ex:X.ex=[]
noncomputable abbrev Pas (X:Cx) (exC:Nat->af) (E:XE):Prop:=pW (CX1 X.prog X.w exC) X (exK exC E)
theorem Ph:Pas X exC EF:=fun _ _ _ _ _ _ _ ⟨_,_,_,_,_,_,_,_,_,_,_,_,z⟩=>z.elim
theorem _root_.L2.Inv.pers (I:Inv X pins σ H s) (hx:X.ex=[]) (e:s.heap.get? b=wf):X.s₀.heap.get? b=wf:=by
 cases q:X.s₀.heap.get? b with
 |none=>rfl
 |some o=>
  obtain⟨o',z⟩:=I.base.there b o q (by rw[hx];simp);rw[e] at z;cases z
theorem Exc.pas (h:Exc X exC E):Pas X exC E:=fun pins σ H s e s' I ⟨c,ea,T,H',e1,os,bare,un,hok,fl,c',hc,hE⟩=>by
 subst e1;have I':Inv X pins σ H' s':=I.call' (ch:=[]) os un hok bare (fun b z=>absurd z (by simp));obtain⟨oe,oT,vs,ts,a0,g1,g2,g3⟩:=fl.tr;refine h.fly c' ea T H' pins σ s' I' ⟨⟨oe,oT,vs,ts,a0,g1,by rw[g2,hc],g3⟩,I.pers h.ex fl.h0e,I.pers h.ex fl.h0T,fl.He,fl.HT⟩ (fun p hp=> ?_) hE;obtain⟨w,_⟩:=I.pin p (d4 _ hp);exact⟨fun z=>(by rw[z,fl.h0e] at w;cases w),fun z=>(by rw[z,fl.h0T] at w;cases w)⟩
noncomputable abbrev eB:=List D->Om->Option (Rz D×Om)
noncomputable def spO (cls exC:Nat->af) (K:aa) (φ:eB):Sp:=fun vs H Q E=>∃(ok:Okk) (ω:Om) (ds:List D) (r:Rz D) (ω':Om),OkH ok H/\Stt cls K ok H ω/\Reps K ok H vs ds/\φ ds ω=we (r,ω')/\match r with
 |.ok d=>∀ v ok' H',Nw cls K ok H ok' H' ω'->Rep K ok' H' v d->Q v H'
 |.ex c=>∀ ok' H',Nw cls K ok H ok' H' ω'->E (.ref (exC c)) wf H'
section
variable {X:Cx}{cls exC:Nat->af}{E:XE}{e a b c o i value:bw}{es:List bw}{fa fb fo fi fv:OG D}{fl:OG (List D)}{pos p apos pos':Pos}{x m:Str}{cn k:Nat}{fn C:af}{fd:jj}{ps:List Str}{φ:eB}
theorem spO.at {K:aa} (h1:OkH ok H) (st:Stt cls K ok H ω) (rs:Reps K ok H vs ds) (e:φ ds ω=we (r,ω'))
  (hq:∀ d,r=.ok d->∀ v ok' H',Nw cls K ok H ok' H' ω'->Rep K ok' H' v d->Q v H') (hx:∀ c,r=.ex c->exR cls K ok H ω' E c):spO cls exC K φ vs H Q (exK exC E):=by
 refine⟨ok,ω,ds,r,ω',h1,st,rs,e,?_⟩;cases r with
 |ok d=>exact hq d rfl
 |ex c=>exact fun ok' H' n=>⟨c,rfl,hx c rfl ok' H' n⟩
noncomputable def bE (φ:eB) (fl:OG (List D)):OG D:=oB fl fun ds _ ω=>φ ds ω
theorem yP {K:aa}{r:Rz D}{Q:VK} (n1:Nw cls K ok H ok1 H1 ω1) (q:match r with
  |.ok d=>∀ v ok' H',Nw cls K ok H ok' H' ω'->Rep K ok' H' v d->Q v H'
  |.ex c=>exR cls K ok H ω' E c):∀ d,r=.ok d->∀ v ok' H',Nw cls K ok1 H1 ok' H' ω'->Rep K ok' H' v d->Q v H':=fun d z v ok' H' n r=>by
 subst z;exact q v ok' H' (n1.trans n) r
theorem yQ {K:aa}{r:Rz D}{Q:VK} (n1:Nw cls K ok H ok1 H1 ω1) (q:match r with
  |.ok d=>∀ v ok' H',Nw cls K ok H ok' H' ω'->Rep K ok' H' v d->Q v H'
  |.ex c=>exR cls K ok H ω' E c):∀ c,r=.ex c->exR cls K ok1 H1 ω' E c:=fun c z=>by
 subst z;exact exR.nw q n1
theorem Kj (F:rA X.prog X.w X.K X.mg X.base (CX1 X.prog X.w exC) k fn fd ps (spO cls exC X.K φ)) (hr:Room k X.A) (hg:Gl X x) (hm:X.mg x=we (.ref fn)) (hk:ga X.K (.ref fn)=true)
  (hb:Binds X.K fd ps []) (hx:Pas X exC E) (ha:OA X cls E (e::es) fl) (hdb:(x==("__debug__":Str))=false:=by decide) (he:ar (e::es) X.env=(false,eval e X.env)::ar es X.env:=by rfl) (hpl:(de pos (ar es X.env)).any (·.1)=false:=by rfl):
  OE X cls E (.Call (.Name x p) (e::es) [] pos) (bE φ fl):=
 (JC F hr hg hm hk hb .nil hx ha hdb he hpl).imp fun σ H Q ⟨ok,ρ,ω,r,ω',P,e,q⟩=>by
  refine tOA.then_ P e (fun c z=>by subst z;exact q) fun ds ω1 vs ok1 H1 e1 n1 P1 r1=> ?_;rw[c7];exact spO.at P1.okh P1.st r1 e1 (yP n1 q) (yQ (Q:=Q) n1 q)
noncomputable def Cj (c:Nat) (m:Str) (ω:Om) (d:D):Bool:=match cellOf ω d with
 |some (.ins c' fs)=>c'==c&&(fs.lookup m).isNone
 |_=>false
theorem wT {c:Nat} (h:Cj c m ω d=true):∃ n fs,d=.obj n/\ω[n]?=we (.ins c fs)/\fs.lookup m=wf:=by
 unfold Cj at h;split at h
 ·rename_i c' fs hc
  obtain⟨n,rfl,e⟩:=dH hc;simp only[bu,beq_iff_eq,Option.isNone_iff_eq_none] at h;obtain⟨rfl,h⟩:=h;exact⟨n,fs,rfl,e,h⟩
 ·cases h
noncomputable def bC (c:Nat) (m:Str) (φ:eB) (fo:OG D) (fl:OG (List D)):OG D:=oB fo fun d ρ ω=>if Cj c m ω d=true then oB fl (fun ds _ ω=>φ (d::ds) ω) ρ ω else wf
theorem Kb (ho:OE X cls E o fo) (hc:Cls X.K (cls cn)) (hm:Iq X.K (cls cn) m fn) (F:rA X.prog X.w X.K X.mg X.base (CX1 X.prog X.w exC) k fn fd ps (spO cls exC X.K φ)) (hr:Room k X.A) (hb:Binds X.K fd ps []) (hx:Pas X exC E) (ha:OA X cls E (e::es) fl)
  (hst:ar (e::es) X.env=(false,eval e X.env)::ar es X.env:=by rfl) (hpl:(de pos (ar es X.env)).any (·.1)=false:=by rfl)
  (ht:eval (.Call (.Attribute o m apos) (e::es) [] pos) X.env=(do
   let ov <- eval o X.env
   mh apos.atName
   let (f,first) <- holding [ov] (l0 ov m pl)
   p9 pos f first (de pos (ar (e::es) X.env)) (jk pos (hV [] X.env))):=by rfl):
  OE X cls E (.Call (.Attribute o m apos) (e::es) [] pos) (bC cn m φ fo fl):=
 (Jx (pl:=pl) ho hc hm F hr hb .nil hx ha hst hpl ht).imp fun σ H Q ⟨ok,ρ,ω,r,ω',P,e,q⟩=>by
  refine tO.then_ P e (fun c z=>by subst z;exact q) fun d ω1 v ok1 H1 e1 n1 P1 r1=> ?_;obtain⟨hi,e1⟩:=cL e1;obtain⟨n,fs,rfl,e2,e3⟩:=wT hi;obtain⟨a,rfl,e4,dx,vs,e5,kv⟩:=P1.st.ref r1 e2;refine⟨a,dx,vs,rfl,e5,kv.look_none e3,?_⟩;refine tOA.then_ P1 e1 (fun c z=>by subst z;exact exR.nw q n1) fun ds ω2 us ok2 H2 e6 n2 P2 r2=> ?_;rw[c7];exact spO.at P2.okh P2.st (.cons (r1.ex n2.ex) r2) e6 (yP (n1.trans n2) q) (yQ (Q:=Q) (n1.trans n2) q)
theorem GD (ho:OE X cls E o fo) (hc:Cls X.K (cls cn)) (hm:Iq X.K (cls cn) m fn) (F:rA X.prog X.w X.K X.mg X.base (CX1 X.prog X.w exC) k fn fd ps (spO cls exC X.K φ)) (hr:Room k X.A) (hb:Binds X.K fd ps []) (hx:Pas X exC E)
  (ht:eval (.Call (.Attribute o m apos) [] [] pos) X.env=(do
   let ov <- eval o X.env
   mh apos.atName
   let (f,first) <- holding [ov] (l0 ov m pl)
   p9 pos f first (de pos (ar [] X.env)) (jk pos (hV [] X.env))):=by rfl):
  OE X cls E (.Call (.Attribute o m apos) [] [] pos) (bC cn m φ fo aJ):=
 (Gu (pl:=pl) ho hc hm F hr hb .nil hx ht).imp fun σ H Q ⟨ok,ρ,ω,r,ω',P,e,q⟩=>by
  refine tO.then_ P e (fun c z=>by subst z;exact q) fun d ω1 v ok1 H1 e1 n1 P1 r1=> ?_;obtain⟨hi,e1⟩:=cL e1;obtain⟨n,fs,rfl,e2,e3⟩:=wT hi;obtain⟨a,rfl,e4,dx,vs,e5,kv⟩:=P1.st.ref r1 e2;refine⟨a,dx,vs,rfl,e5,kv.look_none e3,?_⟩;have e6:φ [.obj n] ω1=we (r,ω'):=e1;exact spO.at P1.okh P1.st (.cons r1 .nil) e6 (yP n1 q) (yQ (Q:=Q) n1 q)
noncomputable def qH (c:Nat) (φ:eB) (fl:OG (List D)):OG D:=oB fl fun ds _ ω=>match φ (.obj ω.length::ds) (ω++[.ins c []]) with
 |some (.ok .non,ω')=>we (.ok (.obj ω.length),ω')
 |some (.ex c,ω')=>we (.ex c,ω')
 |_=>wf
theorem Kd (M:Mk X.K (cls cn) fn) (F:rA X.prog X.w X.K X.mg X.base (CX1 X.prog X.w exC) k fn fd ps (spO cls exC X.K φ)) (hr:Room (k+1) X.A) (hg:Gl X x) (hm:X.mg x=we (.ref (cls cn))) (hb:Binds X.K fd ps []) (hx:Pas X exC E)
  (ha:OA X cls E (e::es) fl) (hdb:(x==("__debug__":Str))=false:=by decide) (he:ar (e::es) X.env=(false,eval e X.env)::ar es X.env:=by rfl) (hpl:(de pos (ar es X.env)).any (·.1)=false:=by rfl):
  OE X cls E (.Call (.Name x p) (e::es) [] pos) (qH cn φ fl):=
 (Jy M F hr hg hm hb .nil hx ha hdb he hpl).imp fun σ H Q ⟨ok,ρ,ω,r,ω',P,e,q⟩=>by
  refine tOA.then_ P e (fun c z=>by subst z;exact q) fun ds ω1 vs ok1 H1 e1 n1 P1 r1=> ?_;intro a dx na ndx hne;rw[c7];have n2:Nw cls X.K ok1 H1 ok1 (upd H1 dx (.own a)) ω1:=.same P1.okh P1.st (cC ndx);have n3:Nw cls X.K ok1 (upd H1 dx (.own a)) (okN ok1 ω1.length a) (upd (upd H1 dx (.own a)) a (.ins (cls cn) dx [])) (ω1++[.ins cn []]):=
   Nw.make n2.okh n2.st (by rw[aE (cy hne)];exact na) ⟨dx,[],aK,.nil⟩
  have n4:=n1.trans (n2.trans n3);have rs:Reps X.K (okN ok1 ω1.length a) (upd (upd H1 dx (.own a)) a (.ins (cls cn) dx [])) (.ref a::vs) (.obj ω1.length::ds):=.cons .new_obj ((r1.ex n2.ex).ex n3.ex);cases eφ:φ (.obj ω1.length::ds) (ω1++[.ins cn []]) with
  |none=>rw[eφ] at e1;cases e1
  |some pr=>
   obtain⟨rz,ω2⟩:=pr;rw[eφ] at e1;refine⟨_,_,_,rz,ω2,n3.okh,n3.st,rs,eφ,?_⟩;cases rz with
   |ex c=>
    cases e1;exact fun ok' H' n=>⟨c,rfl,q ok' H' (n4.trans n)⟩
   |ok d=>
    cases d with
    |non=>
     cases e1;refine fun v ok' H' n rv=>⟨rv.non_inv,q _ ok' H' (n4.trans n) (.obj (n.ex.ids _ _ ?_))⟩
     show(if ω1.length=ω1.length then we a else _)=_
     rw[if_pos rfl]
    |_=>cases e1
end
theorem _root_.L2.HOk.obj (x:HOk P w H h) (e:H a=we o):∃ u,h.get? a=we u:=by
 have z:=x a o e;cases o with
 |lst xs=>obtain⟨_,_,_,_,e⟩:=z;exact⟨_,e⟩
 |tup xs=>obtain⟨_,_,_,o,e,_⟩:=z;exact⟨_,e⟩
 |dK kvs=>obtain⟨_,_,_,_,o,_,_,e,_⟩:=z;exact⟨_,e⟩
 |dT kvs=>obtain⟨_,_,_,_,o,_,_,e,_⟩:=z;exact⟨_,e⟩
 |set S n=>obtain⟨o,_,_,_,e,_⟩:=z;exact⟨_,e⟩
 |ins C dx fs=>obtain⟨_,_,_,e,_⟩:=z;exact⟨_,e⟩
 |own y=>exact z
 |xd fs=>obtain⟨_,⟨_,_,_,e,_⟩,_⟩:=z;exact⟨_,e⟩
 |rng lo hi=>obtain⟨_,_,_,e⟩:=z;exact⟨_,e⟩
 |frz ob u=>obtain⟨e,_⟩:=z;exact⟨_,e⟩
 |tbl ps=>exact⟨_,show h.get? a=we _ from z⟩
 |met f y=>exact⟨_,show h.get? a=we _ from z⟩
 |ext φ=>exact z.2.1
structure Pass (fs:List af) (ea T:af) (h h':cx):Prop where
 keep:∀ b o,h.get? b=we o->b∉fs->b≠ea->b≠T->h'.get? b=we o
 slot:∀ b o,h.get? b=we o->b∈fs->∃ sl,h'.get? b=we { o with slots:=sl }
theorem uB {h base base':cx}:∀ {l:List Env},h.FunFrames base l->(∀ b∈frs l,base'.get? b=wf)->h.FunFrames base' l
 |[],_,_=>trivial
 |env::r,⟨hk,⟨L,o,hf,hn,ho,hd⟩,hr⟩,n=>by
  refine⟨hk,⟨L,o,hf,n L ?_,ho,hd⟩,uB hr fun b hb=>n b ?_⟩
  ·unfold frs;rw[j3,hf];exact au
  ·unfold frs at hb ⊢;rw[j3,hf];exact aj _ hb
section
variable {M:Model}{A:dh}{E:ai->aq->Prop}{s:aq}{env:Env}{outer:List Env}{base h0:cx}{H:Hp}{exC:Nat->af}{c:Nat}{ea T L:af}{Q:Unit->aq->Prop}{P:da}{w:df}
theorem zY (hok:HOk P w H s.heap) (h0p:∀ b,s.heap.get? b=wf->h0.get? b=wf) (hb:∀ b,base'.get? b=wf->b=ea∨b=T∨b∈frs l∨s.heap.get? b=wf)
  (hl:h'.FunFrames base' l) (tr:h'.TracedW base' ea cls a0) (hc:cls=.ref (exC c)) (n1:h0.get? ea=wf) (n2:H ea=wf) (n3:h0.get? T=wf) (n4:H T=wf):∃ T',FlyT exC c ea T' h0 H h'/\(T'=T∨s.heap.get? T'=wf):=by
 obtain⟨oe,vs,T',oT,ts,e1,⟨e2,e3⟩,e4,e5,e6,e7,e8,e9,e10⟩:=tr;have hT:T'=T∨s.heap.get? T'=wf:=by
  rcases hb T' e6 with z|z|z|z
  ·exact absurd z e7
  ·exact .inl z
  ·obtain⟨_,o,q1,q2⟩:=hl.mem z;rw[e8] at q1;cases q1;exact absurd e9 (q2 ts)
  ·exact .inr z
 refine⟨T',⟨⟨oe,oT,vs,ts,a0,e1,by rw[e2,hc],e4,e3,e5,e7,e8,e9,e10⟩,n1,?_,n2,?_⟩,hT⟩
 ·rcases hT with rfl|z
  ·exact n3
  ·exact h0p _ z
 ·rcases hT with rfl|z
  ·exact n4
  ·cases q:H T' with
   |none=>rfl
   |some o=>
    obtain⟨u,w⟩:=hok.obj q;rw[z] at w;cases w
theorem zJ (e:(fe h l).get? b=wf):b∈l∨h.get? b=wf:=by
 by_cases hb:b∈l
 ·exact .inl hb
 ·right;cases q:h.get? b with
  |none=>rfl
  |some o=>
   rw[jz l q hb] at e;cases e
theorem Em (hfr:A.frames=we (env::outer)) (hf:env.frame=we L) (funs:s.heap.FunFrames base (env::outer)) (hok:HOk P w H s.heap) (h0p:∀ b,s.heap.get? b=wf->h0.get? b=wf) (fl:FlyT exC c ea T h0 H s.heap)
  (hQ:∀ h' T',Pass (frs (env::outer)) ea T s.heap h'->FlyT exC c ea T' h0 H h'->(T'=T∨s.heap.get? T'=wf)->Q () { s with heap:=h' }):bf M A (leaving env (.ref ea)) Q E s:=by
 obtain⟨oe,oT,vs,ts,a0,e1,e2,e3,e4,e5,e6,e7,e8,e9⟩:=fl.tr;have nF:∀ b∈frs (env::outer),(fe s.heap (ea::T::frs (env::outer))).get? b=wf:=fun b hb=>ff _ (aj _ (aj _ hb));have hb0:∀ b,(fe s.heap (ea::T::frs (env::outer))).get? b=wf->b=ea∨b=T∨b∈frs (env::outer)∨s.heap.get? b=wf:=fun b z=>by
  rcases zJ z with z|z
  ·rcases ak.mp z with z|z
   ·exact .inl z
   ·rcases ak.mp z with z|z
    ·exact .inr (.inl z)
    ·exact .inr (.inr (.inl z))
  ·exact .inr (.inr (.inr z))
 refine wpAny_leaving_nextW (base:=fe s.heap (ea::T::frs (env::outer))) (cls:=.ref (exC c)) (a0:=a0) hfr (uB funs nF) hf ?_ (fun b o z=>lw _ z) (ff _ au) fun h' hL=> ?_
 ·exact⟨oe,vs,T,oT,ts,e1,⟨e2,e4⟩,e3,e5,ff _ (aj _ au),e6,e7,e8,e9⟩
 ·obtain⟨k1,k2,k3,k4⟩:=hL;obtain⟨T',f1,f2⟩:=zY (T:=T) hok h0p hb0 k2 k3 rfl fl.h0e fl.He fl.h0T fl.HT;refine hQ h' T' ⟨fun b o z n1 n2 n3=>k1 b o (jz _ z ?_),fun b o z hb=> ?_⟩ f1 f2
  ·intro hm;rcases ak.mp hm with hm|hm
   ·exact n2 hm
   ·rcases ak.mp hm with hm|hm
    ·exact n3 hm
    ·exact n1 hm
  ·obtain⟨_,o',q1,q2⟩:=funs.mem hb;rw[z] at q1;cases q1;exact k4 b o z q2
theorem El (hfr:A.frames=we (env::outer)) (hf:env.frame=we L) (funs:s.heap.FunFrames base (env::outer)) (hok:HOk P w H s.heap) (h0p:∀ b,s.heap.get? b=wf->h0.get? b=wf) (fl:Raw exC c ea h0 H s.heap)
  (hQ:∀ h' T',Pass (frs (env::outer)) ea ea s.heap h'->FlyT exC c ea T' h0 H h'->s.heap.get? T'=wf->Q () { s with heap:=h' }):bf M A (leaving env (.ref ea)) Q E s:=by
 obtain⟨t,e1⟩:=fl.at_;have nF:∀ b∈frs (env::outer),(fe s.heap (ea::frs (env::outer))).get? b=wf:=fun b hb=>ff _ (aj _ hb);have hb0:∀ b,(fe s.heap (ea::frs (env::outer))).get? b=wf->b=ea∨b=ea∨b∈frs (env::outer)∨s.heap.get? b=wf:=fun b z=>by
  rcases zJ z with z|z
  ·rcases ak.mp z with z|z
   ·exact .inl z
   ·exact .inr (.inr (.inl z))
  ·exact .inr (.inr (.inr z))
 refine wpAny_leaving_firstW (base:=fe s.heap (ea::frs (env::outer))) (a0:=.ref t) hfr (uB funs nF) hf e1 (fun b o z=>lw _ z) (ff _ au) rfl rfl rfl fun h' hL=> ?_;obtain⟨k1,k2,k3,k4⟩:=hL;obtain⟨T',f1,f2⟩:=zY (T:=ea) (c:=c) (exC:=exC) hok h0p hb0 k2 k3 rfl fl.h0e fl.He fl.h0e fl.He;have hTe:T'≠ea:=by obtain⟨_,_,_,_,_,_,_,_,_,_,z,_⟩:=f1.tr;exact z
 refine hQ h' T' ⟨fun b o z n1 n2 n3=>k1 b o (jz _ z ?_),fun b o z hb=> ?_⟩ f1 (f2.resolve_left hTe)
 ·intro hm;rcases ak.mp hm with hm|hm
  ·exact n2 hm
  ·exact n1 hm
 ·obtain⟨_,o',q1,q2⟩:=funs.mem hb;rw[z] at q1;cases q1;exact k4 b o z q2
end
theorem exc_def {K:aa}:
  Exc (Ai (CX1 P w exC) P w K mg base N qual scope f cd A outer s H E) exC (fun c H'=>E (.ref (exC c)) wf H')/\OC (Ai (CX1 P w exC) P w K mg base N qual scope f cd A outer s H E) exC (fun c H'=>E (.ref (exC c)) wf H'):=by
 have main:∀ {pins:List (af×Obj)}{σ':St}{H':Hp}{s':aq}{c:Nat}{ea T T':af}{h'':cx},Inv (Ai (CX1 P w exC) P w K mg base N qual scope f cd A outer s H E) pins σ' H' s'->
   s.heap.get? ea=wf->s.heap.get? T=wf->H' ea=wf->H' T=wf->Pass (frs (jc qual scope s.heap.objs.size f cd::outer)) ea T s'.heap h''->FlyT exC c ea T' s.heap H' h''->E (.ref (exC c)) wf H'->
   CX1 P w exC outer H s E (.ref ea) { s' with heap:=h'' }:=fun {pins σ' H' s' c ea T T' h''} I n1 n2 n3 n4 ps fl hE=>by
  have nofr:∀ b u,H' b=we u->b∉frs (jc qual scope s.heap.objs.size f cd::outer):=fun b u e z=>by
   have:=I.stkFree b z
   rw[e] at this;cases this
  have kb:∀ b u v,H' b=we u->s'.heap.get? b=we v->h''.get? b=we v:=fun b u v e z=>ps.keep b v z (nofr b u e) (fun q=>by rw[q,n3] at e;cases e) fun q=>by rw[q,n4] at e;cases e
  have old:∀ {b:af}{o:Obj},s.heap.get? b=we o->b≠ea/\b≠T:=fun {b o} z=>⟨fun q=>(by rw[q,n1] at z;cases z),fun q=>(by rw[q,n2] at z;cases z)⟩;have fr1:∀ b,b∈frs (jc qual scope s.heap.objs.size f cd::outer)->b=s.heap.objs.size∨b∈frs outer:=fun b hb=>by
   have hb':b∈s.heap.objs.size::frs outer:=hb;exact ak.mp hb'
  have nx:∀ b:af,b∉(Ai (CX1 P w exC) P w K mg base N qual scope f cd A outer s H E).ex:=fun b z=>absurd (show b∈([]:List af) from z) (by simp);refine⟨c,ea,T',H',rfl,I.os,I.bare,⟨fun b o e n hb _=> ?_,fun b o e n hb _=> ?_,fun b o e n _=>I.base.free b o e n (nx b),fun b o e _=> ?_,I.base.tups,I.base.frzs,I.base.tbls⟩,fun b u e=> ?_,fl,hE⟩
  ·have z:=I.base.keep b o e n hb (nx b);refine ps.keep b o z (fun hm=> ?_) (old e).1 (old e).2;rcases fr1 b hm with q|q
   ·exact absurd (br e) (by rw[q];exact f9 _)
   ·exact hb q
  ·obtain⟨sl,z⟩:=I.base.slot b o e n hb (nx b);obtain⟨sl2,z2⟩:=ps.slot b _ z (show b∈s.heap.objs.size::frs outer from aj _ hb);exact⟨sl2,z2⟩
  ·obtain⟨o',z⟩:=I.base.there b o e (nx b)
   by_cases hm:b∈frs (jc qual scope s.heap.objs.size f cd::outer)
   ·obtain⟨sl2,z2⟩:=ps.slot b _ z hm;exact⟨_,z2⟩
   ·exact⟨_,ps.keep b o' z hm (old e).1 (old e).2⟩
  ·refine(I.hok b u e).stay (fun c v hc q=> ?_) (fun _ q=>q) fun _ _ q=>q;rcases hc with rfl|hc
   ·exact kb c u v e q
   ·exact kb c _ v hc q
 refine⟨⟨fun c ea T H' pins σ' s' I fl _ hE=> ?_,rfl⟩,⟨fun c ea H' pins σ' s' I fl hE=> ?_,rfl⟩⟩
 ·exact Em (L:=s.heap.objs.size) I.ok.frames rfl I.stack I.hok (fun b z=>I.pers rfl z) fl fun h'' T' ps fl' _=>main I fl.h0e fl.h0T fl.He fl.HT ps fl' hE
 ·exact El (L:=s.heap.objs.size) I.ok.frames rfl I.stack I.hok (fun b z=>I.pers rfl z) fl fun h'' T' ps fl' _=>main I fl.h0e fl.h0e fl.He fl.He ps fl' hE
noncomputable def cI (N:List Str) (ds:List D):Rho:=ds.map we++ax (N.length-ds.length) wf
theorem BN {K:aa} (r:Reps K ok H vs ds):EnvR K ok H (start N vs) (cI N ds)/\(start N vs).length=(cI N ds).length:=by
 refine⟨fun i d e=> ?_,?_⟩
 ·unfold cI at e
  by_cases hi:i<ds.length
  ·rw[ay (by simpa using hi),bc] at e;obtain⟨d',e1,e2⟩:=aF e;cases e2;obtain⟨v,e3,r'⟩:=r.get e1;have hv:i<vs.length:=(bi.mp e3).1;refine⟨v,?_,r'⟩;unfold start;rw[ay (by simpa using hv),bc,e3];rfl
  ·rw[im (by simpa using hi),ee] at e;split at e <;> cases e
 ·unfold start cI;rw[b7,b7,av,av,jg,jg,r.length]
noncomputable def dW (n:Nat) (N:List Str) (G:OS):eB:=fun ds ω=>if ds.length=n then(match G (cI N ds) ω with
 |some (.rt d,ω')=>we (.ok d,ω')
 |some (.nx _,ω')=>we (.ok .non,ω')
 |some (.ex c,ω')=>we (.ex c,ω')
 |_=>wf) else wf
theorem Rg {K:aa}{st:cu} (F:Fun K x qual st f fd) (S:kI N ps (aZ st))
  (hbody:∀(cdv:ai) (A:dh) (outer:List Env) (s:aq) (H:Hp) (E:XK),Room k (A.deeper (jc qual (aZ st) s.heap.objs.size f cdv))->Exc (Ai (CX1 P w exC) P w K mg base N qual (aZ st) f cdv A outer s H E) exC (fun c H'=>E (.ref (exC c)) wf H')->OC (Ai (CX1 P w exC) P w K mg base N qual (aZ st) f cdv A outer s H E) exC (fun c H'=>E (.ref (exC c)) wf H')->
   OSs (Ai (CX1 P w exC) P w K mg base N qual (aZ st) f cdv A outer s H E) cls (fun c H'=>E (.ref (exC c)) wf H') (fQ st) G):rA P w K mg base (CX1 P w exC) (k+1) f fd ps (spO cls exC K (dW ps.length N G)):=by
 obtain⟨oc,od,kV,doc,pm,an,cdv,ct,osl,rfl,lk,hcd⟩:=F.ex;have len:∀ vs H Q E,spO cls exC K (dW ps.length N G) vs H Q E->vs.length=ps.length:=fun vs H Q E ⟨ok,ω,ds,r,ω',h1,h2,h3,h4,h5⟩=>by
  rw[h3.length];exact(cL (show(if ds.length=ps.length then _ else wf)=_ from h4)).1
 refine PK lk hcd S len fun A outer s H vs Q E hr hsp=> ?_;obtain⟨ok,ω,ds,r,ω',h1,h2,h3,h4,h5⟩:=hsp;refine⟨_,hbody cdv A outer s H E hr exc_def.1 exc_def.2,?_⟩;obtain⟨_,h4⟩:=cL (show(if ds.length=ps.length then _ else wf)=_ from h4);obtain⟨e1,e2⟩:=BN (N:=N) h3;cases q:G (cI N ds) ω with
 |none=>rw[q] at h4;cases h4
 |some pr=>
  obtain⟨o,ω2⟩:=pr;rw[q] at h4;refine⟨ok,cI N ds,ω,o,ω2,⟨h1,h2,e1,e2⟩,q,?_⟩;cases o with
  |rt d=>cases h4;exact fun v ok' H' n rv=>h5 v ok' H' n rv
  |nx ρ=>cases h4;exact fun ok' H' σ' n _ _=>h5 .non ok' H' n .non
  |ex c=>cases h4;exact fun ok' H' n=>h5 ok' H' n
  |bk ρ=>cases h4
  |ct ρ=>cases h4
noncomputable abbrev BJ:List ai:=[.type "ValueError",.type "Exception",.type "BaseException",.type "object"]
noncomputable def ownIn (K:aa) (C:af) (tl:List ai):Prop:=∃(dd:Option af) (cd:ClassData) (k0 k1 k2 k3 k5:Option ai),K.lookup C=we ⟨.type "type",dd,.cls cd,#[k0,k1,k2,k3,we (.builtin "ValueError.__new__"),k5]⟩/\
 cd.mro=.ref C::tl/\cd.hasDel=false/\mj K BJ tl=true/\kj K cd.ns=true/\cq K cd.ns "__init__"=we wf
theorem DM {K:aa} (X:K.In h) (q:ownIn K C tl):∃(nm qn:Str) (N:af) (bs:List ai) (hdct:Bool) (sn:List Str) (sub:List ai) (ab:Bool) (col:Option Bool) (dd:Option af) (k0 k1 k2 k3 k5:Option ai) (mN:Str->Option ai),
  h.get? C=we (excClassObj nm qn C N bs tl hdct sn sub ab col dd k0 k1 k2 k3 k5 "ValueError.__new__")/\h.Ns N mN/\mN "__init__"=wf/\OwnTail h BJ tl:=by
 obtain⟨dd,cd,k0,k1,k2,k3,k5,hl,hm,hd,ht,hn,hi⟩:=q;obtain⟨a1,a2,a3,a4,a5,a6,a7,a8,a9,b1,b2⟩:=cd;dsimp only at hm hd hn hi;subst hm hd;exact⟨a1,a5,a4,a2,a6,a7,a8,a9,b1,dd,k0,k1,k2,k3,k5,_,X _ _ hl,.of_isNs (PySem.W.isNs_of_in X hn),PySem.W.nsMap_none_of_in X hn hi,PySem.W.tail_of_in X ht⟩
noncomputable def AT (c:Nat) (f:DF):OS:=fun ρ ω=>(f ρ).map fun _=>(.ex c,ω)
section
variable {X:Cx}{cls exC:Nat->af}{E:XE}{e:bw}{f:DF}{pos np cpos:Pos}{x:Str}{c:Nat}{tl:List ai}
theorem Ba (hc:X.calm=true) (hx:OC X exC E) (hg:Gl X x) (hm:X.mg x=we (.ref (exC c))) (hq:ownIn X.K (exC c) tl) (he:DE X e f) (hdb:(x==("__debug__":Str))=false:=by decide)
  (hst:ar [e] X.env=(false,eval e X.env)::ar [] X.env:=by rfl) (hpl:(de cpos (ar [e] X.env)).any (·.1)=false:=by rfl):
  OSt X cls E (.Raise (we (.Call (.Name x np) [e] [] cpos)) wf pos) (AT c f):=by
 rintro pins s σ H D I ⟨ok,ρ,ω,o,ω',P,e0,q⟩;obtain⟨d,e1,e2⟩:=aF e0;cases e2;obtain⟨nm,qn,N,bs,hdct,sn,sub,ab,col,dd,k0,k1,k2,k3,k5,mN,hC,hN,hni,T⟩:=DM I.mod.kin hq;refine wpAny_Raise_call_subT (C:=exC c) (N:=N) (bm:=tl) (hdct:=hdct) (sn:=sn) (sub:=sub) (ab:=ab) (col:=col) (dd:=dd) (k0:=k0) (k1:=k1) (k2:=k2) (k3:=k3) (k5:=k5) (nm:=nm) (q:=qn) (bs:=bs)
  PySem.F.excBase_ValueError (mN:=mN) (T.hasType rfl) (I.ok.hd hc) hpl hni (tP I hg hm ⟨rfl,?_⟩ hdb)
 have ha:=(Lg he Of hst:DA X [e] (Ll f PU)) cpos pins s σ H (fun vs H'=>vs.length<=sizeLine/\Same H H') I
  ⟨ok,ρ,[d],P.okh,P.env,by unfold Ll PU;rw[e1];rfl,fun vs H' s' r=>⟨by rw[r.length];show 1<=sizeLine;decide,s'⟩⟩
 rw[hst] at ha ⊢;refine sg (thn ha fun us s2 ⟨vs,H2,I2,rv,hl,sm⟩=>⟨rfl,by show us.length<=_;rw[<- rv.length];exact hl,I2.bk _ _ hC,hN.keeps I2.bk,T.keeps I2.bk,fun h' ea hm'=> ?_⟩);have I3:Inv X pins σ H2 { s2 with heap:=h' }:=I2.kept (t':=s2.toks) hm'.keeps;obtain⟨t,z1,z2,z3⟩:=hm'.there;refine hx.raw c ea H2 pins σ _ I3 ⟨⟨t,z1⟩,I2.pers hx.ex hm'.new,?_⟩ (q ok H2 (.same P.okh P.st sm));cases w:H2 ea with
 |none=>rfl
 |some u=>
  obtain⟨u',w'⟩:=HOk.obj I2.hok w;rw[hm'.new] at w';cases w'
theorem _root_.L2.Inv.passed (I:Inv X pins σ H s) (hx:X.ex=[]) (ps:Pass (frs X.stack) ea T s.heap h') (n1:X.s₀.heap.get? ea=wf) (n2:X.s₀.heap.get? T=wf) (n3:H ea=wf) (n4:H T=wf)
  (hp:∀ p∈X.pn++pins,p.1≠ea/\p.1≠T) (hf:∀ b,(b=ea∨b=T)->∃ o vs,s.heap.get? b=we o/\o.data=.fields vs):Inv X pins σ H { s with heap:=h' }:=by
 have nofr:∀ b u,H b=we u->b∉frs X.stack:=fun b u e z=>by
  have:=I.stkFree b z
  rw[e] at this;cases this
 have any:∀ b o,s.heap.get? b=we o->(∀ vs,o.data≠ .fields vs)->∃ sl,h'.get? b=we { o with slots:=sl }:=fun b o e nf=>by
  by_cases hb:b∈frs X.stack
  ·exact ps.slot b o e hb
  ·refine⟨o.slots,ps.keep b o e hb (fun z=> ?_) fun z=> ?_⟩
   ·obtain⟨o',vs,w1,w2⟩:=hf b (.inl z);rw[e] at w1;cases w1;exact nf vs w2
   ·obtain⟨o',vs,w1,w2⟩:=hf b (.inr z);rw[e] at w1;cases w1;exact nf vs w2
 have kb:∀ b u v,H b=we u->s.heap.get? b=we v->h'.get? b=we v:=fun b u v e z=>ps.keep b v z (nofr b u e) (fun q=>by rw[q,n3] at e;cases e) fun q=>by rw[q,n4] at e;cases e
 have old:∀ {b:af}{o:Obj},X.s₀.heap.get? b=we o->b≠ea/\b≠T:=fun {b o} z=>⟨fun q=>(by rw[q,n1] at z;cases z),fun q=>(by rw[q,n2] at z;cases z)⟩;have locf:∀ b,b∈frs X.stack->b=X.env.locals∨b∈X.fs:=fun b hb=>ak.mp (I.stkSub b hb);obtain⟨m,⟨oL,es,ep,hoL,hdL,rL⟩,lk⟩:=id I.loc;obtain⟨slL,hL⟩:=any _ oL hoL fun vs z=>by rw[hdL] at z;cases z
 refine⟨I.ok,I.os,I.bare,⟨fun b o e n hb hxx=> ?_,fun b o e n hb hxx=> ?_,I.base.free,fun b o e hxx=> ?_,I.base.tups,I.base.frzs,I.base.tbls⟩,⟨m,⟨_,es,ep,hL,hdL,rL⟩,fun i x v e1 e2 e3=> ?_⟩,fun x c e=> ?_,I.free,I.freeC,fun p hpp=> ?_,fun b u e=> ?_,I.len⟩
 ·have z:=I.base.keep b o e n hb hxx;refine ps.keep b o z (fun hm=> ?_) (old e).1 (old e).2;rcases locf b hm with q|q
  ·exact absurd (br e) (by rw[q];exact si.mpr I.ok.above)
  ·exact hb q
 ·obtain⟨sl,z⟩:=I.base.slot b o e n hb hxx
  by_cases hm:b∈frs X.stack
  ·obtain⟨sl2,z2⟩:=ps.slot b _ z hm;exact⟨sl2,z2⟩
  ·exact⟨sl,ps.keep b _ z hm (old e).1 (old e).2⟩
 ·obtain⟨o',z⟩:=I.base.there b o e hxx
  by_cases hm:b∈frs X.stack
  ·obtain⟨sl2,z2⟩:=ps.slot b _ z hm;exact⟨_,z2⟩
  ·exact⟨_,ps.keep b o' z hm (old e).1 (old e).2⟩
 ·obtain⟨u,ru,z⟩:=lk i x v e1 e2 e3;refine⟨u,ru,?_⟩;rcases z with z|⟨k,c,e,oc,w1,w2⟩
  ·exact .inl z
  ·obtain⟨sl,w3⟩:=any c oc w1 fun vs q=>by rw[w2] at q;cases q
   exact .inr ⟨k,c,e,_,w3,w2⟩
 ·obtain⟨v,oc,w1,w2⟩:=I.cell x c e;obtain⟨sl,w3⟩:=any c oc w1 fun vs q=>by rw[w2] at q;cases q
  exact⟨v,_,w3,w2⟩
 ·obtain⟨e,n,ne,nf,d⟩:=I.pin p hpp;refine⟨ps.keep p.1 p.2 e (fun hm=> ?_) (hp p hpp).1 (hp p hpp).2,n,ne,nf,d⟩;rcases locf p.1 hm with q|q
  ·exact ne q
  ·exact nf q
 ·refine(I.hok b u e).stay (fun c v hc q=> ?_) (fun _ q=>q) fun _ _ q=>q;rcases hc with rfl|hc
  ·exact kb c u v e q
  ·exact kb c _ v hc q
end
theorem qO {K:aa} (X:K.In s.heap) (q:ownIn K C tl) (q':ownIn K C' tl') (he:s.heap.get? ea=we oe) (hc:oe.cls=.ref C)
  (h:Q ((b9 C::tl).contains (.ref C')) s):bf M A (excMatches (.ref ea) (.ref C')) Q E s:=by
 obtain⟨nm,qn,N,bs,hdct,sn,sub,ab,col,dd,k0,k1,k2,k3,k5,mN,hC,hN,hni,T⟩:=DM X q;obtain⟨nm',qn',N',bs',hdct',sn',sub',ab',col',dd',k0',k1',k2',k3',k5',mN',hC',hN',hni',T'⟩:=DM X q';have hB:(b9 C'::tl').contains (.type "BaseException")=true:=by rw[List.contains_cons,T'.hasType (X:="BaseException") (b:=true) rfl,Bool.or_true]
 have f:=tc_notTuple;obtain⟨hp,g,d,tk,os⟩:=s;unfold excMatches
 generalize hb:(b9 C::tl).contains (.ref C')=b at h
 repeat (first|(with_reducible refine pj he ?_;rw[hc])|with_reducible refine pj hC' ?_|(with_reducible refine tf hC' ?_;rw[hB])|(with_reducible refine tf hC ?_;rw[hb])|wp_step)
 cases b <;> (wp_walk;exact h)
section
variable {M:Model}{A:dh}{E:ai->aq->Prop}{s:aq}{env:Env}{outer:List Env}{base h0:cx}{H:Hp}{exC:Nat->af}{c:Nat}{ea T L:af}{Q:Unit->aq->Prop}{P:da}{w:df}
theorem GJ (hfr:A.frames=we (env::outer)) (hf:env.frame=we L) (funs:s.heap.FunFrames base (env::outer)) (hok:HOk P w H s.heap) (h0p:∀ b,s.heap.get? b=wf->h0.get? b=wf) (fl:FlyT exC c ea T h0 H s.heap)
  (hQ:∀ h' T',Pass (frs (env::outer)) ea T s.heap h'->FlyT exC c ea T' h0 H h'->(T'=T∨s.heap.get? T'=wf)->Q () { s with heap:=h' }):
  bf M A (uh (.ref ea) env) (fun _ s₂=>bf M A (uj (.ref ea) wf) Q E s₂) E s:=by
 obtain⟨oe,oT,vs,ts,a0,e1,e2,e3,e4,e5,e6,e7,e8,e9⟩:=fl.tr;have nF:∀ b∈frs (env::outer),(fe s.heap (ea::T::frs (env::outer))).get? b=wf:=fun b hb=>ff _ (aj _ (aj _ hb));have hb0:∀ b,(fe s.heap (ea::T::frs (env::outer))).get? b=wf->b=ea∨b=T∨b∈frs (env::outer)∨s.heap.get? b=wf:=fun b z=>by
  rcases zJ z with z|z
  ·rcases ak.mp z with z|z
   ·exact .inl z
   ·rcases ak.mp z with z|z
    ·exact .inr (.inl z)
    ·exact .inr (.inr (.inl z))
  ·exact .inr (.inr (.inr z))
 refine wpAny_noteFrame_onW (base:=fe s.heap (ea::T::frs (env::outer))) (cls:=.ref (exC c)) (a0:=a0) hfr (uB funs nF) hf ?_ (fun b o z=>lw _ z) (ff _ au) fun h' hN=> ?_
 ·exact⟨oe,vs,T,oT,ts,e1,⟨e2,e4⟩,e3,e5,ff _ (aj _ au),e6,e7,e8,e9⟩
 ·obtain⟨k1,k2,k3,k4⟩:=hN;refine wpAny_setFlight_noneW (base:=fe s.heap (ea::T::frs (env::outer))) (l:=env::outer) k1 k2 k3 fun h'' m1 m2 m3 m4=> ?_;obtain⟨T',f1,f2⟩:=zY (T:=T) (s:=s) hok h0p hb0 m2 m3 rfl fl.h0e fl.He fl.h0T fl.HT;refine hQ h'' T' ⟨fun b o z n1 n2 n3=>m1 b o (jz _ z ?_),fun b o z hb=> ?_⟩ f1 f2
  ·intro hm;rcases ak.mp hm with hm|hm
   ·exact n2 hm
   ·rcases ak.mp hm with hm|hm
    ·exact n3 hm
    ·exact n1 hm
  ·obtain⟨_,o',q1,q2⟩:=funs.mem hb;rw[z] at q1;cases q1;obtain⟨sl,w1⟩:=k4 b o z q2;exact⟨sl,m4 b _ w1 q2⟩
theorem zZ (funs:s.heap.FunFrames base outer) (fl:FlyT exC c ea T h0 H s.heap) (hQ:∀ h',Pass (frs outer) ea T s.heap h'->FlyT exC c ea T h0 H h'->Q () { s with heap:=h' }):bf M A (uj (.ref ea) wf) Q E s:=by
 obtain⟨oe,oT,vs,ts,a0,e1,e2,e3,e4,e5,e6,e7,e8,e9⟩:=fl.tr;have hz:3<ts.size:=(ky.mp e9).1;have oth:∀ b,b≠T->(s.heap.update T (kz (·.setIfInBounds 3 .none))).get? b=s.heap.get? b:=fun b hb=>d5 _ _ (cy hb);refine wpAny_setFlight_none e1 e3 e5 e7 e8 hz (hQ _ ⟨fun b o z _ _ n3=>(oth b n3).trans z,fun b o z hb=>⟨o.slots,(oth b fun q=> ?_).trans z⟩⟩ ⟨⟨oe,_,vs,_,a0,(oth ea (cy e6)).trans e1,e2,e3,e4,e5,e6,gg _ e7 (nv (jd e8 _)),jd e8 _,by simp[hz]⟩,fl.h0e,fl.h0T,fl.He,fl.HT⟩);obtain⟨_,o',q1,q2⟩:=funs.mem hb;rw[q,e7] at q1;cases q1;exact q2 ts e8
end
noncomputable abbrev Xm (X:Cx) (ea:af):Cx:={ X with A:=X.A.mark (we (.ref ea)),calm:=false,xe:=fun _ _=>False }
noncomputable abbrev Xp (X:Cx) (pn:List (af×Obj)) (xe:ai->aq->Prop):Cx:={ X with pn:=pn,xe:=xe }
section
variable {X:Cx}{pins pins':List (af×Obj)}{σ:St}{H:Hp}{s:aq}{xe:ai->aq->Prop}
theorem _root_.L2.Inv.marked (I:Inv X pins σ H s) (ea:af):Inv (Xm X ea) pins σ H s:=
 ⟨⟨I.ok.mod,I.ok.kind,I.ok.glob,I.ok.blt,I.ok.above,I.ok.inj,I.ok.has,I.ok.cab,(fun z=>nomatch z),I.ok.frames,I.ok.stk,I.ok.exf,I.ok.bs,I.ok.bsz,I.ok.noex,I.ok.exfs,I.ok.funs,I.ok.frf⟩,I.os,I.bare,I.base,I.loc,I.cell,I.free,I.freeC,I.pin,I.hok,I.len⟩
theorem _root_.L2.Inv.unmarked (k:X.calm=true->X.A.handled=wf) (I:Inv (Xm X ea) pins σ H s):Inv X pins σ H s:=
 ⟨⟨I.ok.mod,I.ok.kind,I.ok.glob,I.ok.blt,I.ok.above,I.ok.inj,I.ok.has,I.ok.cab,k,I.ok.frames,I.ok.stk,I.ok.exf,I.ok.bs,I.ok.bsz,I.ok.noex,I.ok.exfs,I.ok.funs,I.ok.frf⟩,I.os,I.bare,I.base,I.loc,I.cell,I.free,I.freeC,I.pin,I.hok,I.len⟩
theorem _root_.L2.Inv.pned (I:Inv X pins σ H s):Inv (Xp X (X.pn++pins) xe) [] σ H s:=
 ⟨⟨I.ok.mod,I.ok.kind,I.ok.glob,I.ok.blt,I.ok.above,I.ok.inj,I.ok.has,I.ok.cab,I.ok.hd,I.ok.frames,I.ok.stk,I.ok.exf,I.ok.bs,I.ok.bsz,I.ok.noex,I.ok.exfs,I.ok.funs,I.ok.frf⟩,I.os,I.bare,I.base,I.loc,I.cell,I.free,I.freeC,fun p hp=>I.pin p (by simpa using hp),I.hok,I.len⟩
theorem _root_.L2.Inv.unpned (I:Inv (Xp X (X.pn++pins) xe) pins' σ H s):Inv X pins σ H s:=
 ⟨⟨I.ok.mod,I.ok.kind,I.ok.glob,I.ok.blt,I.ok.above,I.ok.inj,I.ok.has,I.ok.cab,I.ok.hd,I.ok.frames,I.ok.stk,I.ok.exf,I.ok.bs,I.ok.bsz,I.ok.noex,I.ok.exfs,I.ok.funs,I.ok.frf⟩,I.os,I.bare,I.base,I.loc,I.cell,I.free,I.freeC,fun p hp=>I.pin p (d4 _ hp),I.hok,I.len⟩
theorem SP.unpned {D:BI} (h:SP (Xp X (X.pn++pins) xe) [] D f s):SP X pins D f s:=by
 cases f with
 |next=>obtain⟨σ',H',I,q⟩:=h;exact⟨σ',H',I.unpned,q⟩
 |brk=>obtain⟨σ',H',I,q⟩:=h;exact⟨σ',H',I.unpned,q⟩
 |cont=>obtain⟨σ',H',I,q⟩:=h;exact⟨σ',H',I.unpned,q⟩
 |ret u=>obtain⟨v,σ',H',I,r,q⟩:=h;exact⟨v,σ',H',I.unpned,r,q⟩
theorem SP.unmarked {D:BI} (k:X.calm=true->X.A.handled=wf) (h:SP (Xm X ea) pins D f s):SP X pins D f s:=by
 cases f with
 |next=>obtain⟨σ',H',I,q⟩:=h;exact⟨σ',H',I.unmarked k,q⟩
 |brk=>obtain⟨σ',H',I,q⟩:=h;exact⟨σ',H',I.unmarked k,q⟩
 |cont=>obtain⟨σ',H',I,q⟩:=h;exact⟨σ',H',I.unmarked k,q⟩
 |ret u=>obtain⟨v,σ',H',I,r,q⟩:=h;exact⟨v,σ',H',I.unmarked k,r,q⟩
variable {exC:Nat->af}{c c':Nat}{ea T:af}{x:Str}{np pos:Pos}{b₀:cu}{suite:List cu}{rest:List ExceptHandler}{tl tl':List ai}{Q:Flow->aq->Prop}{E:ai->aq->Prop}
theorem FlyT.fields (fl:FlyT exC c ea T X.s₀.heap H s.heap):∀ b,(b=ea∨b=T)->∃ o vs,s.heap.get? b=we o/\o.data=.fields vs:=fun b hb=>by
 obtain⟨oe,oT,vs,ts,a0,e1,e2,e3,e4,e5,e6,e7,e8,e9⟩:=fl.tr;rcases hb with rfl|rfl
 ·exact⟨_,_,e1,e3⟩
 ·exact⟨_,_,e7,e8⟩
theorem kC (I:Inv X pins σ H s) (hex:X.ex=[]) (fl:FlyT exC c ea T X.s₀.heap H s.heap) (hp:∀ p∈X.pn++pins,p.1≠ea/\p.1≠T) (hg:Gl X x) (hm:X.mg x=we (.ref (exC c'))) (ho:ownIn X.K (exC c) tl) (ho':ownIn X.K (exC c') tl')
  (hit:(b9 (exC c)::tl).contains (.ref (exC c'))=true->∀ s',Inv (Xm X ea) pins σ H s'->bf (model X.prog X.w) (Xm X ea).A (execs (b₀::suite) X.env) Q (fun _ _=>False) s')
  (miss:(b9 (exC c)::tl).contains (.ref (exC c'))=false->bf (model X.prog X.w) X.A (handleBy (.ref ea) X.env rest) Q E s) (hdb:(x==("__debug__":Str))=false:=by decide):
  bf (model X.prog X.w) X.A (handleBy (.ref ea) X.env (.ExceptHandler (we (.Name x np)) wf (b₀::suite) pos::rest)) Q E s:=by
 obtain⟨oe,oT,vs,ts,a0,e1,e2,_⟩:=fl.tr;refine wpAny_handleBy_cons (codeAny_handlers_test (tP (I.marked ea) hg hm ?_ hdb)) (fun z=>nomatch z);refine qO (K:=X.K) (C:=exC c) (C':=exC c') I.kIn ho ho' e1 e2 ?_;cases hb:(b9 (exC c)::tl).contains (.ref (exC c')) with
 |false=>exact miss hb
 |true=>
  refine codeAny_handlers_suite (zZ I.stack fl fun h' ps fl'=> ?_);have I':Inv X pins σ H { s with heap:=h' }:=I.passed hex ps fl.h0e fl.h0T fl.He fl.HT hp fl.fields;exact gq (hit hb _ (I'.marked ea)) (fun _ _ q=>q) fun _ _ z=>z.elim
end
noncomputable def vV (F:OS) (c1:Nat) (G1:OS) (c2:Nat) (G2:OS):OS:=fun ρ ω=>match F ρ ω with
 |some (.ex c,ω1)=>if c=c1 then sNx G1 (ax ρ.length wf) ω1 else if c=c2 then sNx G2 (ax ρ.length wf) ω1 else wf
 |r=>r
section
variable {X:Cx}{cls exC:Nat->af}{E:XE}{body:List cu}{F G1 G2:OS}{c1 c2:Nat}{x1 x2:Str}{np1 np2 p1 p2 pos:Pos}{b1 b2:cu}{r1 r2:List cu}{tl1 tl2:List ai}
theorem FR (I:Inv X pins σ H s):Inv X pins (ax σ.length wf) H s:=I.weak (by simp) fun i v e=>by
 rw[ee] at e;split at e <;> cases e
theorem JF (hex:X.ex=[]) (hc:X.calm=true) (hs:X.stack=X.env::X.outer) (hf:∃ L,X.env.frame=we L) (hg1:Gl X x1) (hg2:Gl X x2) (hm1:X.mg x1=we (.ref (exC c1))) (hm2:X.mg x2=we (.ref (exC c2))) (ho1:ownIn X.K (exC c1) tl1) (ho2:ownIn X.K (exC c2) tl2)
  (hne:(b9 (exC c2)::tl2).contains (.ref (exC c1))=false)
  (hb:∀ pn xe E',Exc (Xp X pn xe) exC E'->OSs (Xp X pn xe) cls E' body F) (h1:∀ ea,OSs (Xm X ea) cls EF (b1::r1) G1) (h2:∀ ea,OSs (Xm X ea) cls EF (b2::r2) G2)
  (hd1:(x1==("__debug__":Str))=false:=by decide) (hd2:(x2==("__debug__":Str))=false:=by decide):
  OSt X cls E (.Try body [.ExceptHandler (we (.Name x1 np1)) wf (b1::r1) p1,.ExceptHandler (we (.Name x2 np2)) wf (b2::r2) p2] [] [] pos) (vV F c1 G1 c2 G2):=by
 rintro pins s σ H D I ⟨ok,ρ,ω,o,ω',P,e,q⟩;obtain⟨L,hL⟩:=hf
 -- what the body wants
 cases eF:F ρ ω with
 |none=>unfold vV at e;rw[eF] at e;cases e
 |some pr=>
  obtain⟨o1,ω1⟩:=pr;unfold vV at e;rw[eF] at e;refine wpAny_Try_except ?_
  -- the wish within
  have main:∀(E':XE),(∀ c H',E' c H'->∃ ok',Nw cls X.K ok H ok' H' ω1/\∃ z,o1=.ex z/\c=z)->outO cls X.K ok H ω1 E' D o1->
    bf (model X.prog X.w) X.A (execs body X.env) (fun f s₁=>match f with|.next=>bf (model X.prog X.w) X.A (execs [] X.env) (SP X pins D) X.xe s₁|f=>SP X pins D f s₁)
     (fun e s₁=>bf (model X.prog X.w) X.A (uh e X.env) (fun _ s₂=>bf (model X.prog X.w) X.A (uj e wf) (fun _ s₃=>bf (model X.prog X.w) X.A (handleBy e X.env [.ExceptHandler (we (.Name x1 np1)) wf (b1::r1) p1,.ExceptHandler (we (.Name x2 np2)) wf (b2::r2) p2]) (SP X pins D) X.xe s₃) X.xe s₂) X.xe s₁) s:=by
   intro E' hE' hout;have ex:Exc (Xp X (X.pn++pins) fun e s₁=>bf (model X.prog X.w) X.A (uh e X.env) (fun _ s₂=>bf (model X.prog X.w) X.A (uj e wf) (fun _ s₃=>bf (model X.prog X.w) X.A (handleBy e X.env [.ExceptHandler (we (.Name x1 np1)) wf (b1::r1) p1,.ExceptHandler (we (.Name x2 np2)) wf (b2::r2) p2]) (SP X pins D) X.xe s₃) X.xe s₂) X.xe s₁) exC E':=by
    refine⟨fun c ea T H' pins' σ' s' I' fl hpn hE=> ?_,hex⟩;have I1:Inv X pins σ' H' s':=I'.unpned;obtain⟨ok',nw,z,ez,rfl⟩:=hE' c H' hE;subst ez;refine GJ (L:=L) (outer:=X.outer) (P:=X.prog) (w:=X.w) (by rw[I1.ok.frames,hs]) hL (by rw[<- hs];exact I1.stack) I1.hok (fun b w=>I1.pers hex w) fl fun h' T' ps fl' hT=> ?_;have hpT:∀ p∈X.pn++pins,p.1≠ea/\p.1≠T':=fun p hp=>⟨(hpn p hp).1,fun w=>by
     rcases hT with rfl|hT
     ·exact(hpn p hp).2 w
     ·have:=(I1.pin p hp).1
      rw[w,hT] at this;cases this⟩
    have I2:Inv X pins σ' H' { s' with heap:=h' }:=I1.passed hex (by rw[hs];exact ps) fl.h0e fl.h0T fl.He fl.HT hpn fl.fields;have I3:=FR I2;have run:∀ {G:OS}{b:cu}{r:List cu}{s4:aq},OSs (Xm X ea) cls EF (b::r) G->sNx G (ax ρ.length wf) ω1=we (o,ω')->Inv (Xm X ea) pins (ax σ'.length wf) H' s4->bf (model X.prog X.w) (Xm X ea).A (execs (b::r) X.env) (SP X pins D) (fun _ _=>False) s4:=fun {G b r s4} hG eG I4=>by
     obtain⟨eG,hn⟩:=Dm eG;have hlen:σ'.length=ρ.length:=by rw[I1.len,<- I.len,P.len]
     refine gq (hG pins s4 _ H' D I4 ⟨ok',_,ω1,o,ω',⟨nw.okh,nw.st,fun i d w=> ?_,by simp[hlen]⟩,eG,?_⟩) (fun _ _ z=>SP.unmarked I.ok.hd z) fun _ _ z=>z
     ·rw[ee] at w;split at w <;> cases w
     ·have q':=q.nw nw;cases o with
      |ex c=>exact absurd rfl (hn c)
      |_=>exact q'
    have e0:(if c=c1 then sNx G1 (ax ρ.length wf) ω1 else if c=c2 then sNx G2 (ax ρ.length wf) ω1 else wf)=we (o,ω'):=e
    by_cases hz1:c=c1
    ·subst hz1;have e':sNx G1 (ax ρ.length wf) ω1=we (o,ω'):=by
      rw[if_pos rfl] at e0;exact e0
     refine kC I3 hex fl' hpT hg1 hm1 ho1 ho1 (fun _ s4 I4=>run (h1 ea) e' I4) (fun w=> ?_) hd1;exact absurd w (by simp)
    ·have e2:(if c=c2 then sNx G2 (ax ρ.length wf) ω1 else wf)=we (o,ω'):=by
      rw[if_neg hz1] at e0;exact e0
     obtain⟨hz2,e3⟩:=cL e2;subst hz2;refine kC I3 hex fl' hpT hg1 hm1 ho2 ho1 (fun w=> ?_) (fun _=> ?_) hd1
     ·rw[hne] at w;cases w
     ·refine kC I3 hex fl' hpT hg2 hm2 ho2 ho2 (fun _ s4 I4=>run (h2 ea) e3 I4) (fun w=> ?_) hd2;exact absurd w (by simp)
   refine gq (hb _ _ E' ex [] s σ H D I.pned ⟨ok,ρ,ω,o1,ω1,P,eF,hout⟩) (fun f s₁ z=> ?_) fun _ _ z=>z;have z':=SP.unpned z;cases f with
   |next=>
    obtain⟨σ',H',I',q'⟩:=z';exact n5 ⟨σ',H',I',q'⟩
   |_=>exact z'
  cases o1 with
  |ex c=>exact main (fun c' H'=>(∃ ok',Nw cls X.K ok H ok' H' ω1)/\c'=c) (fun c' H' ⟨⟨ok',n⟩,ez⟩=>⟨ok',n,c,rfl,ez⟩) fun ok' H' n=>⟨⟨ok',n⟩,rfl⟩
  |nx ρ1=>cases e;exact main (fun _ _=>False) (fun _ _ z=>z.elim) q
  |rt d=>cases e;exact main (fun _ _=>False) (fun _ _ z=>z.elim) q
  |bk ρ1=>cases e;exact main (fun _ _=>False) (fun _ _ z=>z.elim) q
  |ct ρ1=>cases e;exact main (fun _ _=>False) (fun _ _ z=>z.elim) q
end
noncomputable def RawD (h:cx) (d:af) (es:Array ko) (ep:Nat):Prop:=∃ o,h.get? d=we o/\o.ExactDict/\o.data=.dict es ep
theorem RawD.at (x:RawD h d es ep) (k:∀ o,h.get? d=we o->h'.get? d=we o):RawD h' d es ep:=let ⟨o,e,r⟩:=x;⟨o,k o e,r⟩
theorem RawD.typeIs {s:aq} (x:RawD s.heap d es ep):s.TypeIs (.ref d) "dict":=let ⟨o,e,c,_⟩:=x;⟨o,e,c.1⟩
theorem RawD.lt (x:RawD h d es ep):d<h.objs.size:=let ⟨_,e,_⟩:=x;br e
section
variable {prog:da}{w:df}{A:dh}{E:ai->aq->Prop}{s:aq}{d v it:af}{es:Array ko}{ep i:Nat}
theorem BU (lo:(d==eu)=false) (r:RawD s.heap d es ep) (q:Q (.ref s.heap.objs.size) { s with heap:=s.heap.push { cls:=.type "dict_values",data:=.fields #[.ref d] } }):
  bf (model prog w) A (call (.builtin "dict.values") [.ref d]) Q E s:=by
 refine uk (prog:=prog) (w:=w) qf r.typeIs PySem.F.entry_dict_values (PySem.F.args_dict_values_1 _) (S:=fun _ R t=>RawD t.heap d es ep/\R (.ok (.ret (.ref t.heap.objs.size))) { t with heap:=t.heap.push { cls:=.type "dict_values",data:=.fields #[.ref d] } }) (.of_wp fun B R t z=> ?_) ⟨r,q⟩;obtain⟨r1,q1⟩:=z;refine ae ?_;unfold Builtin.Dict.noArgs;refine ae (rp r1.typeIs ?_);show bf _ _ (pure d) _ _ t;refine ao ?_;show bf _ _ (km d >>= _) _ _ t;unfold km;rw[if_neg (show ¬((d==eu)=true) by rw[lo];exact ck)];exact ae (ao (ae (dw (ao ⟨_,rfl,q1⟩))))
theorem Dv (vw:s.heap.IsValuesView v d) (r:RawD s.heap d es ep)
  (q:Q (.ref s.heap.objs.size) { s with heap:=s.heap.push { cls:=.type "dict_valueiterator",data:=.fields #[.ref d,.int 0 0,.int es.size 0,.int ep 0] } }):bf (model prog w) A (pyIter (.ref v)) Q E s:=by
 obtain⟨ov,v1,v2,v3⟩:=id vw;obtain⟨o,r1,r2,r3⟩:=id r;refine wpAny_pyIter_slot vw.typeIs ol (g9 ol vw.typeIs PySem.F.entry_dict_values_iter ?_ (PySem.F.args_dict_values_iter_1 _));unfold Builtin.«dict_values.__iter__»;refine ae (ao (ae ?_));unfold wb;refine ae (qu v1 v3 (x:=.ref d) rfl (ao (ae ?_)));unfold vq;refine ae (jm r1 r3 (ae (j9 r1 r3 ?_)));have own:ia "dict_valueiterator"=false:=by decide
 simp only[own,dn,ite_false];refine dw (ao ⟨_,rfl,"dict_valueiterator",_,⟨_,b0 _ rfl,rfl⟩,fj.lookup,?_⟩);simpa [lz] using q
theorem Du (vi:s.heap.IsValIter it d i es.size ep) (r:RawD s.heap d es ep) (hx:es[i]?=we e)
  (q:∀ h',h'.IsValIter it d (i+1) es.size ep->fg it s.heap h'->Q (we e.val) { s with heap:=h' }):bf (model prog w) A (mv (.ref it)) Q E s:=by
 obtain⟨o,i1,i2,i3⟩:=id vi;obtain⟨od,r1,r2,r3⟩:=id r;have lt:i<es.size:=(ky.mp hx).1;have own:ia "dict_valueiterator"=false:=by decide
 unfold mv;refine ae (pd (i7 (name:=jl "__next__") vi.typeIs fj (g9 fj vi.typeIs lu ?_ (lg _))));refine ae (ao (ae (ae ?_)))
 first|refine ae (i5 vi.typeIs (ao ?_))|refine ae (jw vi.typeIs (ao ?_))
 refine ae (oy i1 i3 ?_);simp only[own,dn,ite_false];show bf _ _ (if(b9 d==hW)=true then _ else _) _ _ s;rw[if_neg (show ¬((b9 d==hW)=true) from fun z=>nomatch z)];refine ae (ao (ae (jm r1 r3 ?_)));rw[if_neg (by simp:¬ _)];refine ae (ao (ae (j9 r1 r3 ?_)));rw[if_neg (by simp:¬ _)];refine ao ?_;simp only[show ¬((i:Int)<0) by omega,ite_false,d9,hx];refine ae ?_
 first|refine ae (i5 vi.typeIs (ao ?_))|refine ae (jw vi.typeIs (ao ?_))
 refine ae (ny vi.typeIs ?_);show bf _ _ (setField (.ref it) 1 (lz ((i:Int)+1)) >>= _) _ _ s;refine ae (oz i1 i3 (by simp) ?_);have vi2:(s.heap.update it (kz (·.setIfInBounds 1 (lz ((i:Int)+1))))).IsValIter it d (i+1) es.size ep:=⟨_,gg _ i1 (nv (jd i3 _)),(uy ..).trans i2,by rw[jd i3];simp[lz]⟩;refine ae (ij (ae (ny (s:={ s with heap:=s.heap.update it (kz (·.setIfInBounds 1 (lz ((i:Int)+1)))) }) vi2.typeIs ?_)));refine ae (ny (s:={ s with heap:=s.heap.update it (kz (·.setIfInBounds 1 (lz ((i:Int)+1)))) }) vi2.typeIs ?_);exact ao (ao ⟨_,rfl,ao (q _ vi2 (lh ..))⟩)
theorem Gi (hh:A.handled=wf) (vi:s.heap.IsValIter it d i es.size ep) (r:RawD s.heap d es ep) (hx:es.size<=i) (q:∀ h',Heap.ExtBut it s.heap h'->Q wf { s with heap:=h' }):bf (model prog w) A (mv (.ref it)) Q E s:=by
 obtain⟨o,i1,i2,i3⟩:=id vi;obtain⟨od,r1,r2,r3⟩:=id r;have own:ia "dict_valueiterator"=false:=by decide
 unfold mv;refine ae (pd (i7 (name:=jl "__next__") vi.typeIs fj (g9 fj vi.typeIs lu ?_ (lg _))));refine ae (ao (ae (ae ?_)))
 first|refine ae (i5 vi.typeIs (ao ?_))|refine ae (jw vi.typeIs (ao ?_))
 refine ae (oy i1 i3 ?_);simp only[own,dn,ite_false];show bf _ _ (if(b9 d==hW)=true then _ else _) _ _ s;rw[if_neg (show ¬((b9 d==hW)=true) from fun z=>nomatch z)];refine ae (ao (ae (jm r1 r3 ?_)));rw[if_neg (by simp:¬ _)];refine ae (ao (ae (j9 r1 r3 ?_)));rw[if_neg (by simp:¬ _)];refine ao ?_;simp only[show ¬((i:Int)<0) by omega,ite_false,d9,qz hx];refine ae ?_
 first|refine ae (i5 vi.typeIs (ao ?_))|refine ae (jw vi.typeIs (ao ?_))
 show bf _ _ (setField (.ref it) 0 .none >>= _) _ _ s;refine ae (oz i1 i3 (by simp) ?_);show bf _ _ (newExc (.type "StopIteration") [] >>= _) _ _ _;refine ae ?_;simp only[newExc,newTuple];refine ae (dw (ae (m:=o6 _ _) (wpAny_of_eq (a:=hW) (by first|rfl|(simp only[o6];rfl)) ?_)) (by size_fits));refine dw ?_ (by size_fits);simp only[raiseNew];refine ae (wpAny_handled ?_);rw[show A.in1.handled=wf from hh];refine ae (ao (wpAny_throw ?_));refine ae (wpAny_isInstance (T:="StopIteration") (b:=true) ⟨_,(b0 _ rfl),rfl⟩ isSubtype_stop ?_);exact ao (q _ (((lh ..).extBut.push _).push _))
theorem LG (hh:A.handled=wf) (I:af) (hne:d≠I):Walks prog w A I [I,d] [I] es.size (fun i v=>∃ e,es[i]?=we e/\v=e.val) (fun i h=>h.IsValIter I d i es.size ep/\RawD h d es ep) where
 sub:=fun b hb=>by simp at hb;simp[hb]
 frame:=fun _ _ _ st hk=>⟨let ⟨o,e,z⟩:=st.1;⟨o,hk I (by simp) o e,z⟩,st.2.at fun o e=>hk d (by simp) o e⟩
 item:=fun i s Q E hi st hQ=>Du (e:=es[i]) st.1 st.2 (by simp[hi]) fun h' st' sb=>hQ _ h' s.toks ⟨es[i],by simp[hi],rfl⟩ ⟨st',st.2.at fun o e=>(sb.2 d hne).trans e⟩ fun b o hb e=>(sb.2 b fun z=>hb (by simp[z])).trans e
 done:=fun s Q E st hQ=>Gi hh st.1 st.2 (bj _) fun h' eb=>hQ h' s.toks fun b o hb e=>eb b o (fun z=>hb (by simp[z])) e
 self:=fun _ _ _ _ st hQ=>wpAny_pyIter_valiter st.1 hQ
theorem rC:o7 prog w "dict_values" v d es.size (fun i x=>∃ e,es[i]?=we e/\x=e.val) (fun h=>h.IsValuesView v d/\RawD h d es ep) where
 type:=fun _ z=>z.1.typeIs
 there:=fun _ z=>⟨let ⟨_,e,_⟩:=z.1;br e,z.2.lt⟩
 keep:=fun _ _ z hk=>⟨let ⟨o,e,x⟩:=z.1;⟨o,hk v (.inl rfl) o e,x⟩,z.2.at fun o e=>hk d (.inr rfl) o e⟩
 notList:=by decide
 notTuple:=by decide
 hint:=fun _ _ _ _ z hq=>PySem.W.kdl_hint_values z.1.typeIs hq
 iter:=fun _ _ hh z=>⟨_,_,(fun _ _ hq=>Dv z.1 z.2 hq),LG hh _ (cj z.2.lt),⟨⟨_,b0 _ rfl,rfl,rfl⟩,z.2.at fun o e=>bh _ e⟩⟩
theorem wB (lo:(d==eu)=false) (r:RawD s.heap d es ep)
  (q:Q (.ref s.heap.objs.size) { s with heap:=s.heap.push { cls:=.type "dict_keyiterator",data:=.fields #[.ref d,.int 0 0,.int es.size 0,.int ep 0] } }):bf (model prog w) A (pyIter (.ref d)) Q E s:=by
 obtain⟨o,r1,r2,r3⟩:=id r;refine wpAny_pyIter_slot r.typeIs my (g9 my r.typeIs PySem.F.entry_dict_iter ?_ (PySem.F.args_dict_iter_1 _));unfold Builtin.«dict.__iter__»;refine ae ?_;unfold Builtin.Dict.dictSlotNone;refine ae (rp r.typeIs ?_);show bf _ _ (pure (b9 d)) _ _ s;refine ao ?_;show bf _ _ (km d >>= _) _ _ s;unfold km;rw[if_neg (show ¬((d==eu)=true) by rw[lo];exact ck)];refine ae (ao (ae (jm r1 r3 (ae (j9 r1 r3 ?_)))));refine ae (dw (ao ⟨_,rfl,"dict_keyiterator",_,⟨_,b0 _ rfl,rfl⟩,f8.lookup,?_⟩));simpa [lz] using q
theorem wA (vi:s.heap.IsKeyIter it d i es.size ep) (r:RawD s.heap d es ep) (hx:es[i]?=we e)
  (q:∀ h',h'.IsKeyIter it d (i+1) es.size ep->fg it s.heap h'->Q (we e.key) { s with heap:=h' }):bf (model prog w) A (mv (.ref it)) Q E s:=by
 obtain⟨o,i1,i2,i3⟩:=id vi;obtain⟨od,r1,r2,r3⟩:=id r;have lt:i<es.size:=(ky.mp hx).1;have own:ia "dict_keyiterator"=false:=by decide
 unfold mv;refine ae (pd (i7 (name:=jl "__next__") vi.typeIs f8 (g9 f8 vi.typeIs mm ?_ (md _))));refine ae (ao (ae (ae ?_)))
 first|refine ae (i6 vi.typeIs (ao ?_))|refine ae (jx vi.typeIs (ao ?_))
 refine ae (oy i1 i3 ?_);simp only[own,dn,ite_false];show bf _ _ (if(b9 d==hW)=true then _ else _) _ _ s;rw[if_neg (show ¬((b9 d==hW)=true) from fun z=>nomatch z)];refine ae (ao (ae (jm r1 r3 ?_)));rw[if_neg (by simp:¬ _)];refine ae (ao (ae (j9 r1 r3 ?_)));rw[if_neg (by simp:¬ _)];refine ao ?_;simp only[show ¬((i:Int)<0) by omega,ite_false,d9,hx];refine ae ?_
 first|refine ae (i6 vi.typeIs (ao ?_))|refine ae (jx vi.typeIs (ao ?_))
 refine ae (rq vi.typeIs ?_);show bf _ _ (setField (.ref it) 1 (lz ((i:Int)+1)) >>= _) _ _ s;refine ae (oz i1 i3 (by simp) ?_);have vi2:(s.heap.update it (kz (·.setIfInBounds 1 (lz ((i:Int)+1))))).IsKeyIter it d (i+1) es.size ep:=⟨_,gg _ i1 (nv (jd i3 _)),(uy ..).trans i2,by rw[jd i3];simp[lz]⟩;refine ae (ij (ae (rq (s:={ s with heap:=s.heap.update it (kz (·.setIfInBounds 1 (lz ((i:Int)+1)))) }) vi2.typeIs ?_)));exact ao (ao ⟨_,rfl,ao (q _ vi2 (lh ..))⟩)
theorem AW (hh:A.handled=wf) (vi:s.heap.IsKeyIter it d i es.size ep) (r:RawD s.heap d es ep) (hx:es.size<=i) (q:∀ h',Heap.ExtBut it s.heap h'->Q wf { s with heap:=h' }):bf (model prog w) A (mv (.ref it)) Q E s:=by
 obtain⟨o,i1,i2,i3⟩:=id vi;obtain⟨od,r1,r2,r3⟩:=id r;have own:ia "dict_keyiterator"=false:=by decide
 unfold mv;refine ae (pd (i7 (name:=jl "__next__") vi.typeIs f8 (g9 f8 vi.typeIs mm ?_ (md _))));refine ae (ao (ae (ae ?_)))
 first|refine ae (i6 vi.typeIs (ao ?_))|refine ae (jx vi.typeIs (ao ?_))
 refine ae (oy i1 i3 ?_);simp only[own,dn,ite_false];show bf _ _ (if(b9 d==hW)=true then _ else _) _ _ s;rw[if_neg (show ¬((b9 d==hW)=true) from fun z=>nomatch z)];refine ae (ao (ae (jm r1 r3 ?_)));rw[if_neg (by simp:¬ _)];refine ae (ao (ae (j9 r1 r3 ?_)));rw[if_neg (by simp:¬ _)];refine ao ?_;simp only[show ¬((i:Int)<0) by omega,ite_false,d9,qz hx];refine ae ?_
 first|refine ae (i6 vi.typeIs (ao ?_))|refine ae (jx vi.typeIs (ao ?_))
 show bf _ _ (setField (.ref it) 0 .none >>= _) _ _ s;refine ae (oz i1 i3 (by simp) ?_);show bf _ _ (newExc (.type "StopIteration") [] >>= _) _ _ _;refine ae ?_;simp only[newExc,newTuple];refine ae (dw (ae (m:=o6 _ _) (wpAny_of_eq (a:=hW) (by first|rfl|(simp only[o6];rfl)) ?_)) (by size_fits));refine dw ?_ (by size_fits);simp only[raiseNew];refine ae (wpAny_handled ?_);rw[show A.in1.handled=wf from hh];refine ae (ao (wpAny_throw ?_));refine ae (wpAny_isInstance (T:="StopIteration") (b:=true) ⟨_,(b0 _ rfl),rfl⟩ isSubtype_stop ?_);exact ao (q _ (((lh ..).extBut.push _).push _))
theorem LH (hh:A.handled=wf) (I:af) (hne:d≠I):Walks prog w A I [I,d] [I] es.size (fun i v=>∃ e,es[i]?=we e/\v=e.key) (fun i h=>h.IsKeyIter I d i es.size ep/\RawD h d es ep) where
 sub:=fun b hb=>by simp at hb;simp[hb]
 frame:=fun _ _ _ st hk=>⟨let ⟨o,e,z⟩:=st.1;⟨o,hk I (by simp) o e,z⟩,st.2.at fun o e=>hk d (by simp) o e⟩
 item:=fun i s Q E hi st hQ=>wA (e:=es[i]) st.1 st.2 (by simp[hi]) fun h' st' sb=>hQ _ h' s.toks ⟨es[i],by simp[hi],rfl⟩ ⟨st',st.2.at fun o e=>(sb.2 d hne).trans e⟩ fun b o hb e=>(sb.2 b fun z=>hb (by simp[z])).trans e
 done:=fun s Q E st hQ=>AW hh st.1 st.2 (bj _) fun h' eb=>hQ h' s.toks fun b o hb e=>eb b o (fun z=>hb (by simp[z])) e
 self:=fun _ _ _ _ st hQ=>sj st.1 hQ
theorem AR (lo:(d==eu)=false):o7 prog w "dict" d d es.size (fun i x=>∃ e,es[i]?=we e/\x=e.key) (fun h=>RawD h d es ep) where
 type:=fun _ z=>z.typeIs
 there:=fun _ z=>⟨z.lt,z.lt⟩
 keep:=fun _ _ z hk=>z.at fun o e=>hk d (.inl rfl) o e
 notList:=by decide
 notTuple:=by decide
 hint:=fun _ _ _ _ z hq=>PySem.W.kdl_hint_dict z.typeIs hq
 iter:=fun _ _ hh z=>⟨_,_,(fun _ _ hq=>wB lo z hq),LH hh _ (cj z.lt),⟨⟨_,b0 _ rfl,rfl,rfl⟩,z.at fun o e=>bh _ e⟩⟩
end
theorem _root_.L2.Inv.laidN (I:Inv X pins σ H s) (k:∀ b u,s.heap.get? b=we u->h'.get? b=we u) (n:s.heap.get? a=wf) (new:ObjOk X.prog X.w (upd H a o) h' a o):
  H a=wf/\Inv X pins σ (upd H a o) { s with heap:=h',toks:=t' }:=by
 have hn:H a=wf:=by
  cases q:H a with
  |none=>rfl
  |some u=>
   obtain⟨v,w⟩:=HOk.obj I.hok q;rw[n] at w;cases w
 have ne:∀ {b:af}{u:Obj},s.heap.get? b=we u->b≠a:=fun e z=>by rw[z,n] at e;cases e
 refine⟨hn,I.un ⟨fun b u e _ _ _=>k b u e,fun b u e _ _ _=>⟨u.slots,k b u e⟩,fun b u e q _=>by rw[aE (ne e)];exact q,fun b u e _=>⟨u,k b u e⟩,fun b xs e=>by rw[aE (aH e hn)];exact e,fun b u v e=>by rw[aE (aH e hn)];exact e,fun b ps e=>⟨#[],by rw[aE (aH e hn),e];simp⟩⟩ fun b u e=> ?_⟩
 by_cases hb:b=a
 ·subst hb;rw[aK] at e;cases e;exact new
 ·rw[aE hb] at e;exact(I.hok b u e).stay (fun c v _ q=>k c v q) (fun c q=>by rw[aE (aH q hn)];exact q) fun c xs q=>by rw[aE (aH q hn)];exact q
section
variable {prog:da}{w:df}{A:dh}{E:ai->aq->Prop}{s:aq}
theorem OV (ho:s.heap.get? a=we (gx "list" vs.toArray n)) (h1:vs.length<2)
  (h:P (.done (.ret .none)) { s with heap:=pq s.heap a vs ((vs.toArray.zip vs.toArray).map (·.2)) }):bf (model prog w) A (Builtin.«list.sort» ⟨[.ref a],[]⟩) P E s:=by
 have la:a<s.heap.objs.size:=br ho;have z:vs.toArray.size<2:=by rw[bg];exact h1
 obtain⟨e1,o1⟩:∃ e1,(s.heap.update a (j6 fun _=> #[])).get? a=we (gx "list" #[] e1):=⟨_,qo ho (fun _=> #[])⟩;have o2:(((s.heap.update a (j6 fun _=> #[])).push (gx "tuple" vs.toArray 0)).push (gx "list" #[] 0)).get? a=we (gx "list" #[] e1):=bh _ (bh _ o1);rw[list_sort_plain];refine ae (listItems_at ho rfl (ae (listUpdate_at ho rfl (ae (seqEpoch_at o1 rfl (ae (wpAny_newTuple (ae (s0 (ij ?_))))))))));show bf (model prog w) A _ P E { s with heap:=((s.heap.update a (j6 fun _=> #[])).push (gx "tuple" vs.toArray 0)).push (gx "list" #[] 0) };dsimp only;rw[if_pos z,if_pos z];refine ae (ao ?_);rw[StateT.run_pure];refine ae (ao ?_);dsimp only;refine ae (seqEpoch_at o2 rfl (ae (listUpdate_at o2 rfl ?_ (hsz2:=by rw[Array.size_map];show(vs.toArray.zip vs.toArray).size<=_;rw[Array.size_zip,bg,b8];omega))));simp only[bne_self_eq_false,dn,ite_false];exact ao h
theorem nY (col:∀ {R:List ai->aq->Prop},(∀(h':cx) (tk:Nat) (acc:Array ai),(∀ b o,s.heap.get? b=we o->h'.get? b=we o)->ItemsOf P acc n->R acc.toList { s with heap:=h',toks:=tk })->bf (model prog w) A.in1 (collect (.ref r)) R E s) (hn:n<2)
  (h:∀(h':cx) (tk:Nat) (vs:List ai) (a:af) (c:Nat),(∀ b o,s.heap.get? b=we o->h'.get? b=we o)->s.heap.get? a=wf->vs.length=n->(∀(j:Nat) (v:ai),vs[j]?=we v->P j v)->h'.get? a=we (gx "list" vs.toArray c)->Q (.ref a) { s with heap:=h',toks:=tk }):
  bf (model prog w) A (call (.builtin "sorted") [.ref r]) Q E s:=by
 refine pv kind_sorted plain_sorted entry_sorted (args_sorted1 _) ?_;unfold Builtin.«sorted»;refine ae (m:=checkCount "sorted" 1 1 _) (ao (ae (col fun h1 tk acc kp it=> ?_)));have hl:acc.toList.length=n:=by rw[du];exact it.1
 refine ae (s0 ?_ (by rw[hl,b8];omega));have o1:(h1.push (gx "list" acc.toList.toArray 0)).get? h1.objs.size=we (gx "list" acc.toList.toArray 0):=b0 _ rfl;refine ae (ij (g9 slot_list_sort ⟨_,o1,rfl⟩ entry_list_sort (OV (s:={ s with heap:=h1.push (gx "list" acc.toList.toArray 0),toks:=tk }) o1 (by rw[hl];exact hn) ⟨_,rfl,?_⟩) (args_list_sort _)));have nw:s.heap.get? h1.objs.size=wf:=by
  cases q:s.heap.get? h1.objs.size with
  |none=>rfl
  |some u=>exact absurd (br (kp _ _ q)) (f9 _)
 have ez:(acc.toList.toArray.zip acc.toList.toArray).map (·.2)=acc.toList.toArray:=by
  apply Array.ext';rw[Array.toList_map,Array.toList_zip];simp[List.map_snd_zip]
 have ne:∀ b,b≠h1.objs.size->∀ o,h1.get? b=we o->(pq (h1.push (gx "list" acc.toList.toArray 0)) h1.objs.size acc.toList ((acc.toList.toArray.zip acc.toList.toArray).map (·.2))).get? b=we o:=fun b hb o e=>by
  unfold pq;rw[d5 _ _ (cy hb)];refine bh _ (bh _ ?_);rw[d5 _ _ (cy hb)];exact bh _ e
 have o2:=qo o1 (fun _=> #[]);have o3:=qo (bh (gx "list" #[] 0) (bh (gx "tuple" acc.toList.toArray 0) o2)) (fun _=>(acc.toList.toArray.zip acc.toList.toArray).map (·.2));have o4:∃ c,(pq (h1.push (gx "list" acc.toList.toArray 0)) h1.objs.size acc.toList ((acc.toList.toArray.zip acc.toList.toArray).map (·.2))).get? h1.objs.size=we (gx "list" acc.toList.toArray c):=by
  unfold pq;rw[ez] at o3 ⊢;exact⟨_,o3⟩
 obtain⟨c,o4⟩:=o4;exact ao ⟨_,rfl,h _ tk acc.toList h1.objs.size c (fun b o e=>ne b (fun z=>by rw[z,nw] at e;cases e) o (kp b o e)) nw hl (fun j v e=>it.2 j v (by rw[<- gl];exact e)) o4⟩
theorem nW (K:o7 prog w T r d n P OK) (hh:A.handled=wf) (hok:OK s.heap) (hn:n<2)
  (h:∀(h':cx) (tk:Nat) (vs:List ai) (a:af) (c:Nat),(∀ b o,s.heap.get? b=we o->h'.get? b=we o)->s.heap.get? a=wf->vs.length=n->(∀(j:Nat) (v:ai),vs[j]?=we v->P j v)->h'.get? a=we (gx "list" vs.toArray c)->Q (.ref a) { s with heap:=h',toks:=tk }):
  bf (model prog w) A (call (.builtin "sorted") [.ref r]) Q E s:=
 nY (fun h=>tj (A:=A.in1) K hh hok (by rw[b8];omega) h) hn h
end
noncomputable abbrev lf (g:D->D->Option D):Om->D->D->Option (D×Om):=fun ω a b=>pu (g a b) ω
noncomputable abbrev lfL (g:List D->Option D):Om->List D->Option (D×Om):=fun ω a=>pu (g a) ω
noncomputable def LU:OS:=fun _ _=>wf
noncomputable def cV (ω:Om) (d:D):Option (List D):=match d with
 |.lst ds=>we ds
 |.obj n=>match ω[n]? with
  |some (.ml ds)=>we ds
  |_=>wf
 |_=>wf
theorem kO (h:cV ω d=we ds):d=.lst ds∨∃ n,d=.obj n/\ω[n]?=we (.ml ds):=by
 cases d with
 |lst xs=>cases h;exact .inl rfl
 |obj n=>
  have h':(match ω[n]? with
   |some (.ml ds)=>we ds
   |_=>wf)=we ds:=h
  split at h'
  ·cases h';exact .inr ⟨n,rfl,‹_›⟩
  ·cases h'
 |_=>cases h
theorem fV {K:aa} (t:Stt cls K ok H ω) (r:Rep K ok H v d) (e:cV ω d=we ds):∃ a xs,v=.ref a/\H a=we (.lst xs)/\Reps K ok H xs ds:=by
 rcases kO e with rfl|⟨n,rfl,e1⟩
 ·obtain⟨a,xs,rfl,g,rs⟩:=r.lst_inv;exact⟨a,xs,rfl,g.2,rs⟩
 ·obtain⟨a,rfl,e2,xs,e3,rs⟩:=t.ref r e1;exact⟨a,xs,rfl,e3,rs⟩
section
variable {X:Cx}{cls exC:Nat->af}{E:XE}{e a b c o i value:bw}{es rest:List bw}{fa fb fc fo fi fv:OG D}{fl:OG (List D)}{ft ft':OG Bool}{pos p apos pos':Pos}{x m:Str}{st:cu}
theorem JH:OSt X cls E st LU:=fun _ _ _ _ _ _ ⟨_,_,_,_,_,_,z,_⟩=>nomatch z
theorem Nt (ha:OE X cls E a fa) (hb:OE X cls E b fb):OE X cls E (.BinOp a .Add b pos) (o2 (lf vG) fa fb):=tI Nb (Fit2.lift (mJ fun _ _ _ _=>.int _)) ha hb
theorem Nf (ha:OE X cls E a fa) (hb:OE X cls E b fb):OE X cls E (.BinOp a .Sub b pos) (o2 (lf gSub) fa fb):=tI MR (Fit2.lift (mJ fun _ _ _ _=>.int _)) ha hb
theorem Ni (ha:OE X cls E a fa) (hb:OE X cls E b fb):OE X cls E (.BinOp a .Mult b pos) (o2 (lf iF) fa fb):=tI MU (Fit2.lift (Lb (fun i j h=>by unfold CMul;omega) fun _ _ _ _=>.int _)) ha hb
theorem Nj (ha:OE X cls E a fa) (hb:OE X cls E b fb):OE X cls E (.BinOp a .Mod b pos) (o2 (lf cH) fa fb):=tI MV (Fit2.lift (Lb (fun _ _ h=>h) fun _ _ _ _=>.int _)) ha hb
theorem Kg (ha:OE X cls E a fa) (hb:OE X cls E b fb):OE X cls E (.BinOp a .FloorDiv b pos) (o2 (lf KQ) fa fb):=tI JP (Fit2.lift (Lb (fun _ _ h=>h) fun _ _ _ _=>.int _)) ha hb
theorem Pq (ha:OE X cls E a fa) (hb:OE X cls E b fb):OE X cls E (.Compare a [.LtE] [b] pos) (o2 (lf gLe) fa fb):=Bc MX (Fit2.lift (mJ fun _ _ _ _=>.bl _)) ha hb (kY _)
theorem Ps (ha:OE X cls E a fa) (hb:OE X cls E b fb):OE X cls E (.Compare a [.Gt] [b] pos) (o2 (lf gGt) fa fb):=Bc MZ (Fit2.lift (mJ fun _ _ _ _=>.bl _)) ha hb (kY _)
theorem Pj (ha:OE X cls E a fa) (hb:OE X cls E b fb):OT X cls E (.Compare a [.Lt] [b] pos) (dG (o2 (lf gLt) fa fb)):=rN MW (Fit2.lift (mJ fun _ _ _ _=>.bl _)) ha hb (kY _)
theorem Pn (ha:OE X cls E a fa) (hb:OE X cls E b fb):OT X cls E (.Compare a [.Gt] [b] pos) (dG (o2 (lf gGt) fa fb)):=rN MZ (Fit2.lift (mJ fun _ _ _ _=>.bl _)) ha hb (kY _)
theorem Nn (ha:OE X cls E a fa) (hb:OE X cls E b fb):OE X cls E (.Compare a [.Is] [b] pos) (o2 (lf NT) fa fb):=Bc IH (Fit2.lift EW) ha hb (kY _)
theorem MI (ha:OE X cls E a fa) (hb:OE X cls E b fb):OT X cls E (.Compare a [.Is] [b] pos) (dG (o2 (lf NT) fa fb)):=rN IH (Fit2.lift EW) ha hb (kY _)
theorem Pk (hu:Lx X (n+1)) (ha:OE X cls E a fa) (hb:OE X cls E b fb) (hm:i4 .In b=false:=by with_unfolding_all rfl):OT X cls E (.Compare a [.In] [b] pos) (dG (o2 (lf (gIn n)) fa fb)):=rN (MY hu) (Fit2.lift NX) ha hb hm
noncomputable def iP (g g':D->D->Option D) (fa fb fc:OG D):OG Bool:=oB fa fun x=>oB fb fun y ρ ω=>match (g x y).bind toB with
 |none=>wf
 |some true=>oB fc (fun z _ ω=>oR (pu ((g' y z).bind toB) ω)) ρ ω
 |some false=>we (.ok false,ω)
theorem DN (ho:OpR X (fw op) r) (F:Fit2 X.K r g) (ho':OpR X (fw op') r') (F':Fit2 X.K r' g') (ha:OE X cls E a fa) (hb:OE X cls E b fb) (hc:OE X cls E c fc)
  (hm:lastMarks [op,op'] [b,c]=false:=by with_unfolding_all rfl):OT X cls E (.Compare a [op,op'] [b,c] pos) (iP g g' fa fb fc):=(Go ho ho' ha hb hc hm).imp fun σ H Q ⟨ok,ρ,ω,rz,ω',P,e,q⟩=>by
 refine tO.then_ P e (fun c z=>by subst z;exact q) fun x ω1 v ok1 H1 e1 n1 P1 r1=> ?_;refine tO.then_ P1 e1 (fun c z=>by subst z;exact exR.nw q n1) fun y ω2 u ok2 H2 e2 n2 P2 r2=> ?_;cases hg:(g x y).bind toB with
 |none=>rw[hg] at e2;cases e2
 |some k=>
  rw[hg] at e2;obtain⟨dk,g1,g2⟩:=aN hg;obtain rfl:=nP g2;refine F ok2 H2 v u x y _ _ P2.okh (r1.ex n2.ex) r2 g1 fun w H3 s3 r3=>⟨k,r3.bl_inv,?_⟩;have n3:Nw cls X.K ok2 H2 ok2 H3 ω2:=.same P2.okh P2.st s3;cases k with
  |false=>
   cases e2;exact LA ⟨false,rfl,q ok2 H3 (n1.trans (n2.trans n3))⟩
  |true=>
   refine Lz (tO.then_ (P2.nw n3) e2 (fun c z=>by subst z;exact exR.nw q (n1.trans (n2.trans n3))) fun z ω4 w4 ok4 H4 e4 n4 P4 r4=> ?_);obtain⟨k',e5,rfl⟩:=cA e4;obtain⟨ue5,rfl⟩:=cK e5;obtain⟨dk',g3,g4⟩:=aN ue5;obtain rfl:=nP g4;exact F' ok4 H4 u w4 y z _ _ P4.okh ((r2.ex n3.ex).ex n4.ex) r4 g3 fun w5 H5 s5 r5=>⟨k',r5.bl_inv,q ok4 H5 (n1.trans (n2.trans (n3.trans (n4.trans (.same P4.okh P4.st s5)))))⟩
theorem NW {K:aa}:Fit2 K (rI0 fun i j=>.bl (decide (i<=j))) gLe:=mJ fun _ _ _ _=>.bl _
theorem NV {K:aa}:Fit2 K (rI0 fun i j=>.bl (decide (i<j))) gLt:=mJ fun _ _ _ _=>.bl _
theorem JE (ha:OE X cls E a fa) (hb:OE X cls E b fb) (hc:OE X cls E c fc) (hm:lastMarks [.LtE,.Lt] [b,c]=false:=by with_unfolding_all rfl):OT X cls E (.Compare a [.LtE,.Lt] [b,c] pos) (iP gLe gLt fa fb fc):=DN MX NW MW NV ha hb hc hm
noncomputable def wI (f g:OG D):OG D:=oB f fun d ρ ω=>match toB d with
 |none=>wf
 |some true=>g ρ ω
 |some false=>we (.ok (.bl false),ω)
noncomputable def Km (f:OG D):OG D:=oB f fun d _ ω=>oR (pu (Rc d) ω)
theorem Ng (h:OE X cls E a fa):OE X cls E (.BoolOp op [a] pos) fa:=Mt h
theorem Nr (ha:OE X cls E a fa) (hb:OE X cls E (.BoolOp .And (b::rest) pos) fb):OE X cls E (.BoolOp .And (a::b::rest) pos) (wI fa fb):=(MA ha hb).imp fun σ H Q ⟨ok,ρ,ω,r,ω',P,e,q⟩=>by
 refine tO.then_ P e (fun c z=>by subst z;exact q) fun d ω1 v ok1 H1 e1 n1 P1 r1=> ?_;cases hd:toB d with
 |none=>rw[hd] at e1;cases e1
 |some k=>
  rw[hd] at e1;obtain rfl:=nP hd;refine⟨k,r1.bl_inv,?_⟩;cases k with
  |true=>exact Lz ⟨ok1,ρ,ω1,r,ω',P1,e1,by
   cases r with
   |ok d=>exact fun v ok' H' n r=>q v ok' H' (n1.trans n) r
   |ex c=>exact exR.nw q n1⟩
  |false=>
   cases e1;exact LA (q _ ok1 H1 n1 (.bl false))
theorem Nh (ha:OE X cls E a fa):OE X cls E (.UnaryOp .Not a pos) (Km fa):=(Mu ha).imp fun σ H Q ⟨ok,ρ,ω,r,ω',P,e,q⟩=>by
 refine tO.then_ P e (fun c z=>by subst z;exact q) fun d ω1 v ok1 H1 e1 n1 P1 r1=> ?_;obtain⟨y,e3,rfl⟩:=cA e1;obtain⟨ue3,rfl⟩:=cK e3;obtain⟨k,e4,rfl⟩:=aF (show(toB d).map _=we y from ue3);obtain rfl:=nP e4;exact⟨k,r1.bl_inv,q _ ok1 H1 n1 (.bl _)⟩
noncomputable def NU (ω:Om) (a b:D):Option (D×Om):=(cV ω a).bind fun xs=>(cV ω b).bind fun ys=>if xs.length+ys.length<=sizeLine then we (.lst (xs++ys),ω) else wf
theorem Nq (ha:OE X cls E a fa) (hb:OE X cls E b fb):OE X cls E (.BinOp a .Add b pos) (o2 NU fa fb):=tI Na (fun ok H ω x y a b d ω' Q h1 st ra rb e k=>by
 obtain⟨xs,e1,e⟩:=aN e;obtain⟨ys,e2,e⟩:=aN e;obtain⟨hz,e3⟩:=bI e;cases e3;obtain⟨a1,us,rfl,g1,r1⟩:=fV st ra e1;obtain⟨b1,ws,rfl,g2,r2⟩:=fV st rb e2;exact⟨a1,b1,us,ws,rfl,rfl,g1,g2,by rw[r1.length,r2.length];exact hz,fun p n=>k _ ok _ (.same h1 st (cC n)) (.lst_new (h1 p n) n (r1.append r2))⟩) ha hb
theorem Reps.rep {K:aa} (h:Reps K ok H vs ds):∀ k:Nat,Reps K ok H (ax k vs).flatten (ax k ds).flatten
 |0=>.nil
 |k+1=>by
  rw[d7,d7,iw,iw];exact h.append (Reps.rep h k)
noncomputable def Hs (ω:Om) (a b:D):Option (D×Om):=(cV ω a).bind fun xs=>(toI b).bind fun k=>if -1000000<=k/\k<=1000000/\xs.length*k.toNat<=sizeLine then we (.obj ω.length,ω++[.ml (ax k.toNat xs).flatten]) else wf
theorem JU (ha:OE X cls E a fa) (hb:OE X cls E b fb):OE X cls E (.BinOp a .Mult b pos) (o2 Hs fa fb):=tI MS (fun ok H ω x y a b d ω' Q h1 st ra rb e k=>by
 obtain⟨xs,e1,e⟩:=aN e;obtain⟨kk,e2,e⟩:=aN e;obtain⟨hz,e3⟩:=bI e;cases e3;obtain rfl:=yK e2;obtain⟨a1,us,rfl,g1,r1⟩:=fV st ra e1;exact⟨a1,kk,us,rfl,rb.int_inv,g1,by omega,by omega,by rw[r1.length];exact hz.2.2,fun p n=>k _ _ _ (.ml h1 st n (r1.rep kk.toNat)) .new_obj⟩) ha hb
noncomputable def cJ (ω:Om) (ds:List D):Option (D×Om):=match ds with
 |[d]=>match cV ω d with
  |some xs=>we (.int xs.length,ω)
  |none=>pu (PH [d]) ω
 |_=>wf
theorem HJ {K:aa}:vC cls K (fun xs H Q=>∃ x n,xs=[x]/\Qe K x H n/\Q (.int n) H) cJ:=fun ok H ω xs as d ω' Q h1 st r e k=>by
 unfold cJ at e;split at e
 ·split at e
  ·rename_i d0 ys hs
   cases e;obtain⟨v,rfl,r1⟩:=r.one_inv;obtain⟨a,us,rfl,g,rs⟩:=fV st r1 hs;exact⟨_,_,rfl,.inl ⟨_,SqL.of g,rs.length.symm⟩,k _ ok H (.refl h1 st) (.int _)⟩
  ·exact FitL.lift (cls:=cls) KW ok H ω xs _ d ω' Q h1 st r e k
 ·cases e
noncomputable def cQ (ω:Om) (d:D):Option (List D):=match d with
 |.tup ds=>we ds
 |d=>cV ω d
theorem Ch {K:aa} (t:Stt cls K ok H ω) (r:Rep K ok H v d) (e:cQ ω d=we ds):∃ a xs,v=.ref a/\(SqL K H a xs∨SqT K H a xs)/\Reps K ok H xs ds:=by
 cases d with
 |tup xs=>
  cases e;obtain⟨a,ys,rfl,g,rs⟩:=r.tup_inv;exact⟨a,ys,rfl,.inr g.sq,rs⟩
 |lst xs=>
  obtain⟨a,ys,rfl,g,rs⟩:=fV t r (show cV ω (.lst xs)=we ds from e);exact⟨a,ys,rfl,.inl (SqL.of g),rs⟩
 |obj n=>
  obtain⟨a,ys,rfl,g,rs⟩:=fV t r (show cV ω (.obj n)=we ds from e);exact⟨a,ys,rfl,.inl (SqL.of g),rs⟩
 |_=>cases e
noncomputable def gH (ω:Om) (ds:List D):Option (D×Om):=match ds with
 |[d]=>(cQ ω d).map fun xs=>(.lst xs,ω)
 |_=>wf
theorem EV {K:aa}:vC cls K (fun xs H Q=>∃ p ys,xs=[.ref p]/\(SqL K H p ys∨SqT K H p ys)/\∀ l,H l=wf->Q (.ref l) (upd H l (.lst ys))) gH:=fun ok H ω xs as d ω' Q h1 st r e k=>by
 unfold gH at e;split at e
 ·obtain⟨ys,e1,e2⟩:=aF e;cases e2;obtain⟨v,rfl,r1⟩:=r.one_inv;obtain⟨a,us,rfl,g,rs⟩:=Ch st r1 e1;exact⟨a,us,rfl,g,fun l n=>k _ ok _ (.same h1 st (cC n)) (.lst_new (h1 l n) n rs)⟩
 ·cases e
noncomputable def zP (ω:Om) (ds:List D):Option (D×Om):=match ds with
 |[d]=>(cV ω d).map fun xs=>(.tup xs,ω)
 |_=>wf
theorem HA {K:aa}:vC cls K (fun xs H Q=>∃ p ys,xs=[.ref p]/\((SqL K H p ys/\∀ l,H l=wf->Q (.ref l) (upd H l (.tup ys)))∨(SqT K H p ys/\Q (.ref p) H))) zP:=fun ok H ω xs as d ω' Q h1 st r e k=>by
 unfold zP at e;split at e
 ·obtain⟨ys,e1,e2⟩:=aF e;cases e2;obtain⟨v,rfl,r1⟩:=r.one_inv;obtain⟨a,us,rfl,g,rs⟩:=fV st r1 e1;exact⟨a,us,rfl,.inl ⟨SqL.of g,fun l n=>k _ ok _ (.same h1 st (cC n)) (.tup_new (h1 l n) n rs)⟩⟩
 ·cases e
noncomputable def NO (ω:Om) (a:D) (lo hi:Option Int):Option D:=match cV ω a with
 |some ds=>we (.lst (CA ds lo hi))
 |none=>gSl a lo hi
noncomputable def oSl (f:OG D) (l u:DO):OG D:=oB f fun a ρ ω=>(l ρ).bind fun lo=>(u ρ).bind fun hi=>oR (pu (NO ω a lo hi) ω)
theorem GC {lo hi:Option bw} (he:OE X cls E e fa) (hl:DOp X lo l) (hu:DOp X hi u):OE X cls E (.Subscript e (.Slice lo hi wf p2) pos) (oSl fa l u):=(Gs (sl_list.or LS) he hl hu).imp fun σ H Q ⟨ok,ρ,ω,r,ω',P,e,q⟩=>by
 refine tO.then_ P e (fun c z=>by subst z;exact q) fun a ω1 v ok1 H1 e1 n1 P1 r1=> ?_;obtain⟨il,g1,e1⟩:=aN e1;obtain⟨ih,g2,e1⟩:=aN e1;obtain⟨d,e3,rfl⟩:=cA e1;obtain⟨ue3,rfl⟩:=cK e3;refine⟨ok1,ρ,il,P1.okh,P1.env,g1,fun H2 s2=>⟨ok1,ρ,ih,P1.okh.same s2,P1.env.same s2,g2,fun H3 s3=> ?_⟩⟩;have sx:=s2.trans s3;have ra:=r1.same sx;have st3:=P1.st.same sx;have okh:=P1.okh.same sx;have q':∀ v H',Same H3 H'->Rep X.K ok1 H' v d->Q v H':=fun v H' s r=>q v ok1 H' (n1.trans (.same P1.okh P1.st (sx.trans s))) r;unfold NO at ue3;cases hs:cV ω' a with
 |some ds=>
  rw[hs] at ue3;cases ue3;obtain⟨p,xs,rfl,g,rs⟩:=fV st3 ra hs;exact .inl ⟨p,xs,rfl,SqL.of g,fun p' n=>q' _ _ (cC n) (.lst_new (okh p' n) n (rs.cut il ih))⟩
 |none=>
  rw[hs] at ue3;have ue4:gSl a il ih=we d:=ue3;cases a with
  |lst ds=>cases hs
  |scr ds=>
   cases ue4;obtain⟨p,xs,rfl,g,rs⟩:=ra.scr_inv;exact .inl ⟨p,xs,rfl,g.sq,fun p' n=>q' _ _ (cC n) (.lst_new (okh p' n) n (rs.cut il ih))⟩
  |tup ds=>
   have h3':(if HT.sIx ds.length 0 il=0/\HT.sIx ds.length ds.length ih=ds.length then wf else we (D.tup (CA ds il ih)))=we d:=ue4;obtain⟨p,xs,rfl,g,rs⟩:=ra.tup_inv
   by_cases hw:HT.sIx ds.length 0 il=0/\HT.sIx ds.length ds.length ih=ds.length
   ·rw[if_pos hw] at h3';cases h3'
   ·rw[if_neg hw] at h3';cases h3';exact .inr ⟨p,xs,rfl,g.sq,by rw[rs.length];exact hw,fun p' n=>q' _ _ (cC n) (.tup_new (okh p' n) n (rs.cut il ih))⟩
  |_=>cases ue4
end
noncomputable def lP (T:String) (ω:Om) (d:D):Option Bool:=match cV ω d with
 |some ds=>lC T (.lst ds)
 |none=>lC T d
noncomputable def Kz (ω:Om) (d:D):Option Bool:=match cV ω d with
 |some _=>we true
 |none=>if dR d=true then wf else we (match d with|.tup _=>true|_=>false)
theorem GX {K:aa} (h:dR d=false):PySem.W.kitAny K (.type (tyD d)) [.type "list",.type "tuple"]=we (match d with|.lst _=>true|.tup _=>true|_=>false):=by
 cases d <;> first|rfl|cases h
theorem Rep.wide {K:aa} (r:Rep K ok H v d):Rep K ⟨fun _=>True,ok.al⟩ H v d:=Rep.mono (ok:=ok) (ok':=⟨fun _=>True,ok.al⟩) (fun _ _ _ e=>⟨trivial,e⟩) (fun _ _ h=>h) r
theorem Reps.wide {K:aa} (r:Reps K ok H v d):Reps K ⟨fun _=>True,ok.al⟩ H v d:=Reps.mono (ok:=ok) (ok':=⟨fun _=>True,ok.al⟩) (fun _ _ _ e=>⟨trivial,e⟩) (fun _ _ h=>h) r
theorem oC {K:aa} (t:Stt cls K ok H ω) (r:Rep K ok H v d) (e:cV ω d=we ds):Rep K ⟨fun _=>True,ok.al⟩ H v (.lst ds):=by
 obtain⟨a,xs,rfl,g,rs⟩:=fV t r e;exact .lst ⟨trivial,g⟩ rs.wide
section
variable {X:Cx}{cls exC:Nat->af}{E:XE}{e a b c o i value:bw}{es rest:List bw}{fa fb fc fo fi fv:OG D}{fl:OG (List D)}{ft ft':OG Bool}{pos p apos pos' cpos:Pos}{x m:Str}{st:cu}
noncomputable def iJ (T:String) (f:OG D):OG D:=oB f fun d _ ω=>oR (pu ((lP T ω d).map D.bl) ω)
theorem Ky {K:aa} (t:Stt cls K ok H ω) (r:Rep K ok H v d) (e:lP T ω d=we k):∃ d',Rep K ⟨fun _=>True,ok.al⟩ H v d'/\lC T d'=we k:=by
 unfold lP at e;cases hs:cV ω d with
 |some ds=>rw[hs] at e;exact⟨_,oC t r hs,e⟩
 |none=>rw[hs] at e;exact⟨d,r.wide,e⟩
theorem rP (he:OE X cls E e fa) (hg:Gl X "isinstance") (hm:X.mg "isinstance"=wf) (hgT:Gl X T) (hmT:X.mg T=wf) (hv:dc T=we (.type Tn)) (hn:T≠"__name__":=by decide) (hdb:(T==("__debug__":Str))=false:=by decide)
  (h1:ar [e,.Name T p2] X.env=(false,eval e X.env)::ar [.Name T p2] X.env:=by rfl) (h2:ar [.Name T p2] X.env=(false,eval (.Name T p2) X.env)::ar [] X.env:=by rfl) (hpl:(de pos (ar [.Name T p2] X.env)).any (·.1)=false:=by rfl):
  OE X cls E (.Call (.Name "isinstance" p) [e,.Name T p2] [] pos) (iJ Tn fa):=
 (nC Ie hg hm (by decide+kernel) (gN he (gN (yS (v:=.ty Tn) hgT hmT hv rfl hn hdb) rM h2) h1) (by decide) (by decide) h1 hpl).imp fun σ H Q ⟨ok,ρ,ω,r,ω',P,e,q⟩=>by
  refine tO.then_ P e (fun c z=>by subst z;exact q) fun d ω1 v ok1 H1 e1 n1 P1 r1=> ?_;obtain⟨y,e3,rfl⟩:=cA e1;obtain⟨ue3,rfl⟩:=cK e3;obtain⟨k,e4,rfl⟩:=aF ue3;obtain⟨d',rd,e5⟩:=Ky P1.st r1 e4;exact⟨v,Tn,d',_,k,rfl,rd,e5,q _ ok1 H1 n1 (.bl _)⟩
noncomputable def Pa (K:aa):List V->Hp->VK->Prop:=fun xs H Q=>∃ x t d ok,xs=[x,.ref t]/\H t=we (.tup [.ty "list",.ty "tuple"])/\Rep K ok H x d/\dR d=false/\Q (.bl (match d with|.lst _=>true|.tup _=>true|_=>false)) H
theorem Fy:CallR X (.builtin "isinstance") (Pa X.K):=by
 intro pins s σ H xs us Q I r h;obtain⟨x,t,d,ok,rfl,ht,q,e,hq⟩:=h;obtain⟨u,w',rfl,ru,rw'⟩:=CS r;cases rw';obtain⟨its,rt,⟨ot,t1,t2,n,t3⟩,_⟩:=I.tuple (show SqT X.K H t _ from .inl (.inl ht));have hit:its=[jn "list",jn "tuple"]:=by
  cases rt with
  |cons a1 b1=>cases b1 with
   |cons a2 b2=>cases b2;cases a1;cases a2;rfl
 subst hit;obtain⟨oc,od,odt,osl⟩:=ot;dsimp only at t2 t3;subst t2 t3;have fin:∀ tk,EP X pins σ Q (.bool (match d with|.lst _=>true|.tup _=>true|_=>false)) { s with toks:=tk }:=fun tk=>⟨.bl _,H,I.tok _,rfl,hq⟩;have ek:=GX (K:=X.K) e;cases q with
 |non=>cases ru;exact ka uu I.kIn gs t1 ek (fun z=>nomatch z) fin
 |bl b=>cases ru;exact ka uv I.kIn gs t1 ek (fun z=>nomatch z) fin
 |int i=>obtain⟨t',rfl⟩:=ru;exact ka va I.kIn gs t1 ek (fun z=>nomatch z) fin
 |str z=>obtain⟨t',rfl⟩:=ru;exact ka vb I.kIn gs t1 ek (fun z=>nomatch z) fin
 |lst g r=>
  cases ru;obtain⟨its,_,⟨o,n,e1,c1,_,_⟩,_⟩:=I.list g.sq;exact ka uw I.kIn ⟨o,e1,c1⟩ t1 ek (fun z=>nomatch z) fin
 |tup g r=>
  cases ru;obtain⟨its,_,⟨o,e1,c1,_⟩,_⟩:=I.tuple g.sq;exact ka ug I.kIn ⟨o,e1,c1⟩ t1 ek (fun z=>nomatch z) fin
 |obj _=>cases e
 |scr _ _=>cases e
noncomputable def DZ (f:OG D):OG D:=oB f fun d _ ω=>oR (pu ((Kz ω d).map D.bl) ω)
theorem Hc {K:aa} (t:Stt cls K ok H ω) (r:Rep K ok H v d) (e:Kz ω d=we k):∃ d',Rep K ⟨fun _=>True,ok.al⟩ H v d'/\dR d'=false/\(match d' with|.lst _=>true|.tup _=>true|_=>false)=k:=by
 unfold Kz at e;cases hs:cV ω d with
 |some ds=>rw[hs] at e;cases e;exact⟨_,oC t r hs,rfl,rfl⟩
 |none=>
  rw[hs] at e;cases d with
  |lst ds=>cases hs
  |obj n=>cases e
  |scr n=>cases e
  |non=>cases e;exact⟨_,r.wide,rfl,rfl⟩
  |bl z=>cases e;exact⟨_,r.wide,rfl,rfl⟩
  |int z=>cases e;exact⟨_,r.wide,rfl,rfl⟩
  |str z=>cases e;exact⟨_,r.wide,rfl,rfl⟩
  |tup z=>cases e;exact⟨_,r.wide,rfl,rfl⟩
theorem Kf (he:OE X cls E e fa) (hg:Gl X "isinstance") (hm:X.mg "isinstance"=wf) (hgL:Gl X "list") (hmL:X.mg "list"=wf) (hgT:Gl X "tuple") (hmT:X.mg "tuple"=wf)
  (h1:ar [e,.Tuple [.Name "list" p2,.Name "tuple" p3] k4 p4] X.env=(false,eval e X.env)::ar [.Tuple [.Name "list" p2,.Name "tuple" p3] k4 p4] X.env:=by rfl)
  (h2:ar [.Tuple [.Name "list" p2,.Name "tuple" p3] k4 p4] X.env=(false,eval (.Tuple [.Name "list" p2,.Name "tuple" p3] k4 p4) X.env)::ar [] X.env:=by rfl)
  (h3:ar [.Name "list" p2,.Name "tuple" p3] X.env=(false,eval (.Name "list" p2) X.env)::ar [.Name "tuple" p3] X.env:=by rfl) (h4:ar [.Name "tuple" p3] X.env=(false,eval (.Name "tuple" p3) X.env)::ar [] X.env:=by rfl)
  (hpl:(de pos (ar [.Tuple [.Name "list" p2,.Name "tuple" p3] k4 p4] X.env)).any (·.1)=false:=by rfl):
  OE X cls E (.Call (.Name "isinstance" p) [e,.Tuple [.Name "list" p2,.Name "tuple" p3] k4 p4] [] pos) (DZ fa):=
 (nC Fy hg hm (by decide+kernel) (gN he (gN (Iz (gN (yS (v:=.ty "list") hgL hmL boot.list rfl) (gN (yS (v:=.ty "tuple") hgT hmT boot.tuple rfl) rM h4) h3)) rM h2) h1) (by decide) (by decide) h1 hpl).imp fun σ H Q ⟨ok,ρ,ω,r,ω',P,e,q⟩=>by
  refine tO.then_ P e (fun c z=>by subst z;exact q) fun d ω1 v ok1 H1 e1 n1 P1 r1=> ?_;obtain⟨y,e3,rfl⟩:=cA e1;obtain⟨ue3,rfl⟩:=cK e3;obtain⟨k,e4,rfl⟩:=aF ue3;refine⟨by show 2<=sizeLine;decide,fun t n=> ?_⟩;have n2:Nw cls X.K ok1 H1 ok1 (upd H1 t (.tup [.ty "list",.ty "tuple"])) ω':=.same P1.okh P1.st (cC n);obtain⟨d',rd,e5,e6⟩:=Hc n2.st (r1.ex n2.ex) e4;refine⟨v,t,d',_,rfl,aK,rd,e5,?_⟩;rw[e6];exact q _ ok1 _ (n1.trans n2) (.bl _)
noncomputable def Ci (ω:Om) (d:D):Bool:=match cellOf ω d with
 |some (.ml _)=>true
 |_=>false
theorem Et (h:Ci ω d=true):∃ n ds,d=.obj n/\ω[n]?=we (.ml ds):=by
 unfold Ci at h;split at h
 ·obtain⟨n,rfl,e⟩:=dH ‹_›;exact⟨n,_,rfl,e⟩
 ·cases h
noncomputable def iD (g:Om->D->List D->Option (D×Om)) (fo:OG D) (fl:OG (List D)):OG D:=oB fo fun d ρ ω=>if Ci ω d=true then oB fl (fun ds _ ω=>oR (g ω d ds)) ρ ω else wf
noncomputable def CO (cls:Nat->af) (K:aa) (r:V->List V->Hp->VK->Prop) (g:Om->D->List D->Option (D×Om)):Prop:=∀(ok:Okk) (H:Hp) (ω:Om) (x:V) (xs:List V) (a:D) (as:List D) (d:D) (ω':Om) (Q:VK),OkH ok H->Stt cls K ok H ω->Rep K ok H x a->Reps K ok H xs as->g ω a as=we (d,ω')->
 (∀ v ok' H',Nw cls K ok H ok' H' ω'->Rep K ok' H' v d->Q v H')->r x xs H Q
theorem Nk {id:String} (slot:Slot "list" m id) (hty:typeOf (.builtin id)=pure (.type "method_descriptor")) (hm:MtR X id r) (F:CO cls X.K r g) (ho:OE X cls E o fo) (ha:OA X cls E (e::es) fl)
  (hbase:gv o m X.env (eval o X.env)=eval o X.env:=by rfl)
  (hfew:((de cpos (ar (e::es) X.env)).all (fun x=> !x.1)&&(jk cpos (hV [] X.env)).all (fun x=>x.1.isSome)
   &&decide ((e::es).length+([]:List jf).length+(if([]:List jf).isEmpty then 0 else 1)<30))=true:=by rfl)
  (hline:(apos.endLine==cpos.line)=true:=by rfl) (hs:ar (e::es) X.env=(false,eval e X.env)::ar es X.env:=by rfl) (hplain:(de cpos (ar es X.env)).any (·.1)=false:=by rfl):
  OE X cls E (.Call (.Attribute o m apos) (e::es) [] cpos) (iD g fo fl):=
 (Mz PySem.F.plainAttrs_list slot hty hm ho ha hbase hfew hline hs hplain).imp fun σ H Q ⟨ok,ρ,ω,r,ω',P,e,q⟩=>by
  refine tO.then_ P e (fun c z=>by subst z;exact q) fun d ω1 v ok1 H1 e1 n1 P1 r1=> ?_;obtain⟨hi,e1⟩:=cL e1;obtain⟨n,ds0,rfl,e2⟩:=Et hi;obtain⟨a,rfl,e4,xs,e5,rs⟩:=P1.st.ref r1 e2;refine⟨.inl ⟨rfl,xs,SqL.of e5⟩,?_⟩;refine tOA.then_ P1 e1 (fun c z=>by subst z;exact exR.nw q n1) fun ds ω2 us ok2 H2 e6 n2 P2 r2=> ?_;obtain⟨y,e7,rfl⟩:=cA e6;exact F ok2 H2 ω2 _ us _ ds y ω' Q P2.okh P2.st (r1.ex n2.ex) r2 e7 fun w ok3 H3 n3 r3=>q w ok3 H3 (n1.trans (n2.trans n3)) r3
noncomputable def mB (ω:Om) (d:D) (as:List D):Option (D×Om):=match d,as with
 |.obj n,[v]=>match ω[n]? with
  |some (.ml ds)=>if ds.length<sizeLine then we (.non,ω.set n (.ml (ds++[v]))) else wf
  |_=>wf
 |_,_=>wf
theorem EU (h:mB ω d as=we (y,ω')):∃ n v ds,d=.obj n/\as=[v]/\ω[n]?=we (.ml ds)/\ds.length<sizeLine/\y=.non/\ω'=ω.set n (.ml (ds++[v])):=by
 unfold mB at h;split at h
 ·split at h
  ·obtain⟨hz,e3⟩:=bI h;cases e3;exact⟨_,_,_,rfl,rfl,‹_›,hz,rfl,rfl⟩
  ·cases h
 ·cases h
theorem La {K:aa}:CO cls K Dw mB:=fun ok H ω x xs a as d ω' Q h1 st ra rs e k=>by
 obtain⟨n,v,ds,rfl,rfl,hc,hz,rfl,rfl⟩:=EU e;obtain⟨a1,rfl,e4,us,e5,r5⟩:=st.ref ra hc;obtain⟨w,rfl,rw'⟩:=rs.one_inv;refine⟨a1,us,w,rfl,rfl,e5,by rw[r5.length];exact hz,?_⟩;exact k _ ok _ (Nw.write (o:=.lst (us++[w])) (ob:=.ml (ds++[v])) h1 st e4 e5 fun dat=>⟨_,aK,(r5.snoc rw').mono dat⟩) .non
theorem DV (ho:OE X cls E o fo) (ha:OA X cls E [e] fl) (hbase:gv o "append" X.env (eval o X.env)=eval o X.env:=by rfl)
  (hfew:((de cpos (ar [e] X.env)).all (fun x=> !x.1)&&(jk cpos (hV [] X.env)).all (fun x=>x.1.isSome)
   &&decide ([e].length+([]:List jf).length+(if([]:List jf).isEmpty then 0 else 1)<30))=true:=by rfl)
  (hline:(apos.endLine==cpos.line)=true:=by rfl) (hs:ar [e] X.env=(false,eval e X.env)::ar [] X.env:=by rfl) (hplain:(de cpos (ar [] X.env)).any (·.1)=false:=by rfl):
  OE X cls E (.Call (.Attribute o "append" apos) [e] [] cpos) (iD mB fo fl):=Nk rj PySem.F.type_list_append (fun pins s σ H x xs v us Q=>wK pins s σ H x xs v us Q) La ho ha hbase hfew hline hs hplain
end
theorem iq.get2:∀ {l:List α}{l':List β}{i:Nat}{b:β},iq F l l'->l'[i]?=we b->∃ a,l[i]?=we a/\F a b
 |_,_,_,_,.nil,e=>by simp at e
 |_,_,0,_,.cons r _,e=>by simp at e;subst e;exact⟨_,rfl,r⟩
 |_,_,i+1,b,.cons _ t,e=>by
  obtain⟨a,h1,h2⟩:=iq.get2 (i:=i) (b:=b) t (by simpa using e);exact⟨a,by simpa using h1,h2⟩
section
variable {X:Cx}{pins:List (af×Obj)}{σ:St}{H:Hp}{s:aq}{d:af}{kvs:List (List Key×V)}
theorem pP (I:Inv X pins σ H s) (e:Rd H d (.dT kvs)):(d==eu)=false/\kvs.length<=sizeLine/\∃ es ep,RawD s.heap d es ep/\es.size=kvs.length/\
  ∀(i:Nat) (y:ko),es[i]?=we y->∃ p,kvs[i]?=we p/\RelV p.2 y.val/\∃ a,y.key=.ref a/\H a=we (.tup (p.1.map kV)):=by
 obtain⟨z,lo,xs,pr,o,es,ep,h1,h2,h3,h4,h5⟩:=(show ObjOk X.prog X.w H s.heap d (.dT kvs) from e.ok I.hok);have hl:es.size=kvs.length:=by
  have:=congrArg k7 h4
  rw[av,du] at this;rw[this,<- iz pr]
 refine⟨lo,z,es,ep,⟨o,h1,h2,h3⟩,hl,fun i y hy=> ?_⟩;have hy':(xs.map (f6 (bz (aI X.prog X.w))))[i]?=we y:=by rw[<- h4,gl];exact hy
 rw[bc] at hy';obtain⟨q,q1,q2⟩:=aF hy';obtain⟨p,p1,p2,p3,p4⟩:=iq.get2 pr q1;subst q2;exact⟨p,p1,p4,q.2.1,rfl,p3⟩
end
noncomputable def Ly (v d:af):HO:=.ext fun h=>h.IsValuesView v d
section
variable {X:Cx}{cls exC:Nat->af}{E:XE}{e a b c o i value:bw}{es rest:List bw}{fa fb fc fo fi fv:OG D}{fl:OG (List D)}{ft ft':OG Bool}{pos p apos pos' cpos:Pos}{x m:Str}{st:cu}
theorem Ef:MtR X "dict.values" fun x xs H Q=>∃ d kvs,x=.ref d/\xs=[]/\H d=we (.dT kvs)/\∀ p,H p=wf->Q (.ref p) (upd H p (Ly p d)):=by
 intro pins s σ H x xs v us Q I rx rs h;obtain⟨d,kvs,rfl,rfl,hd,q⟩:=h;cases rx;cases rs;obtain⟨lo,_,es,ep,r,_,_⟩:=pP I (.inl hd);refine BU lo r ?_;have e1:(s.heap.push { cls:=.type "dict_values",data:=.fields #[.ref d] }).get? s.heap.objs.size=we { cls:=.type "dict_values",data:=.fields #[.ref d] }:=b0 _ rfl;refine⟨.ref _,_,I.laid (t':=s.toks) (fun b u q=>bh _ q) (bj _) ?_,rfl,q _ (I.hok.fresh (bj _))⟩;exact⟨⟨_,e1,rfl,rfl⟩,⟨_,e1⟩,fun h1 h2 z k=>let ⟨o,y1,y2⟩:=z;⟨o,k o y1,y2⟩⟩
theorem tM {a:af}{c:Nat} (r:Vals xs vs) (hz:xs.length<=sizeLine) (e:h.get? a=we (gx "list" vs.toArray c)):ObjOk P w H h a (.lst xs):=⟨hz,vs,c,r,e⟩
theorem yI (hl:vs.length=xs.length) (h:∀(j:Nat) (v:ai),vs[j]?=we v->∃ x,xs[j]?=we x/\RelV x v):Vals xs vs:=by
 induction vs generalizing xs with
 |nil=>
  cases xs with
  |nil=>exact .nil
  |cons _ _=>cases hl
 |cons v vs ih=>
  cases xs with
  |nil=>cases hl
  |cons x xs=>
   obtain⟨y,e,r⟩:=h 0 v rfl;simp at e;subst e;exact .cons r (ih (by simpa using hl) fun j u hu=>by simpa using h (j+1) u (by simpa using hu))
theorem xR (hc:X.calm=true):CallR X (.builtin "sorted") (fun xs H Q=>∃ v d kvs,xs=[.ref v]/\H v=we (Ly v d)/\H d=we (.dT kvs)/\kvs.length<2/\∀ l,H l=wf->Q (.ref l) (upd H l (.lst (kvs.map (·.2))))):=by
 intro pins s σ H xs us Q I r h;obtain⟨v,d,kvs,rfl,hv,hd,hl,q⟩:=h;obtain⟨u,rfl,rx⟩:=lQ r;cases rx;obtain⟨lo,hz,es,ep,rd,sz,it⟩:=pP I (.inl hd);have vw:s.heap.IsValuesView v d:=(show ObjOk X.prog X.w H s.heap v (Ly v d) from I.hok v _ hv).1;refine nW (rC (d:=d) (es:=es) (ep:=ep)) (I.ok.hd hc) ⟨vw,rd⟩ (by rw[sz];exact hl) fun h' tk vs a c kp na hlen hP ha=> ?_;have rv:Vals (kvs.map (·.2)) vs:=yI (by rw[hlen,sz,av]) fun j w hw=>by
  obtain⟨y,y1,y2⟩:=hP j w hw;obtain⟨p,p1,p2,_⟩:=it j y y1;exact⟨p.2,by rw[bc,p1];rfl,by rw[y2];exact p2⟩
 obtain⟨hn,I'⟩:=I.laidN (t':=tk) kp na (tM (H:=upd H a (.lst (kvs.map (·.2)))) rv (by rw[av];exact hz) ha);exact⟨.ref a,_,I',rfl,q a hn⟩
end
section
variable {X:Cx}{pins:List (af×Obj)}{σ:St}{H:Hp}{s:aq}{d:af}{kvs:List (List Key×V)}{o:Obj}
theorem Bk (x:HOk P w H h) (hd:H d=we u) (h1:∀ y,u≠ .own y) (h2:∀ ys,u≠ .tup ys) (new:ObjOk P w (upd H d u') h d u'):HOk P w (upd H d u') h:=fun b v e=>by
 by_cases hb:b=d
 ·subst hb;rw[aK] at e;cases e;exact new
 ·rw[aE hb] at e;exact(x b v e).stay (fun c q _ z=>z) (fun c q=>by rw[aE (fun z=>by rw[z,hd] at q;exact h1 _ (ce q))];exact q) fun c xs q=>by rw[aE (fun z=>by rw[z,hd] at q;exact h2 _ (ce q))];exact q
theorem Bd (x:ObjOk P w H h b v) (hd:H d=we u) (h1:∀ y,u≠ .own y) (h2:∀ ys,u≠ .tup ys):ObjOk P w (upd H d u') h b v:=
 x.stay (fun c q _ z=>z) (fun c q=>by rw[aE (fun z=>by rw[z,hd] at q;exact h1 _ (ce q))];exact q) fun c xs q=>by rw[aE (fun z=>by rw[z,hd] at q;exact h2 _ (ce q))];exact q
theorem _root_.L2.Inv.frozen (I:Inv X pins σ H s) (hd:H d=we (.dT kvs)) (ho:s.heap.get? d=we o):Inv X pins σ (upd H d (.frz o (.dT kvs))) s:=by
 have nn:∀ b,H b=wf->upd H d (.frz o (.dT kvs)) b=wf:=fun b e=>by rw[aE (fun z=>by rw[z,hd] at e;cases e)];exact e
 refine⟨I.ok,I.os,I.bare,⟨I.base.keep,I.base.slot,fun b u e n x=>nn b (I.base.free b u e n x),I.base.there,fun b xs e=> ?_,fun b u v e=> ?_,fun b ps e=> ?_⟩,I.loc,I.cell,nn _ I.free,fun x c e=>nn _ (I.freeC x c e),fun p hp=> ?_,Bk I.hok hd (fun _ z=>nomatch z) (fun _ z=>nomatch z) ⟨ho,Bd (I.hok d _ hd) hd (fun _ z=>nomatch z) (fun _ z=>nomatch z)⟩,I.len⟩
 ·have z:=I.base.tups b xs e;rw[aE (fun q=>by rw[q,hd] at z;cases z)];exact z
 ·have z:=I.base.frzs b u v e;rw[aE (fun q=>by rw[q,hd] at z;cases z)];exact z
 ·obtain⟨m,z⟩:=I.base.tbls b ps e;exact⟨m,by rw[aE (fun q=>by rw[q,hd] at z;cases z)];exact z⟩
 ·obtain⟨z1,z2,z3⟩:=I.pin p hp;exact⟨z1,nn _ z2,z3⟩
theorem _root_.L2.Inv.thawed (I:Inv X pins σ H s) (hd:H d=we (.frz o (.dT kvs))) (hn:∀ o u,X.H₀ d≠we (.frz o u)):Inv X pins σ (upd H d (.dT kvs)) s:=by
 have nn:∀ b,H b=wf->upd H d (.dT kvs) b=wf:=fun b e=>by rw[aE (fun z=>by rw[z,hd] at e;cases e)];exact e
 refine⟨I.ok,I.os,I.bare,⟨I.base.keep,I.base.slot,fun b u e n x=>nn b (I.base.free b u e n x),I.base.there,fun b xs e=> ?_,fun b u v e=> ?_,fun b ps e=> ?_⟩,I.loc,I.cell,nn _ I.free,fun x c e=>nn _ (I.freeC x c e),fun p hp=> ?_,Bk I.hok hd (fun _ z=>nomatch z) (fun _ z=>nomatch z) (Bd (show ObjOk X.prog X.w H s.heap d (.dT kvs) from(I.hok d _ hd).2) hd (fun _ z=>nomatch z) (fun _ z=>nomatch z)),I.len⟩
 ·have z:=I.base.tups b xs e;rw[aE (fun q=>by rw[q,hd] at z;cases z)];exact z
 ·have z:=I.base.frzs b u v e;rw[aE (fun q=>hn u v (by rw[<- q];exact e))];exact z
 ·obtain⟨m,z⟩:=I.base.tbls b ps e;exact⟨m,by rw[aE (fun q=>by rw[q,hd] at z;cases z)];exact z⟩
 ·obtain⟨z1,z2,z3⟩:=I.pin p hp;exact⟨z1,nn _ z2,z3⟩
end
noncomputable def Itk (d:af) (o:Obj) (kvs:List (List Key×V)):It:=
 ⟨fun i H=>H d=we (.frz o (.dT kvs))/\i<kvs.length,fun i H x H'=>H'=H/\∃ b p,x=.ref b/\kvs[i]?=we p/\H b=we (.tup (p.1.map kV)),fun i H=>H d=we (.frz o (.dT kvs))/\kvs.length<=i⟩
theorem CZ {K:aa} (d it:af) (o:Obj) (kvs:List (List Key×V)) (es:Array ko) (ep:Nat) (hod:o.data=.dict es ep) (hsz:es.size=kvs.length):LD P w K tg (Itk d o kvs) [it] it (fun i h=>h.IsKeyIter it d i es.size ep) where
 mem:=by simp
 obj:=fun i h st b hb=>by
  have e:b=it:=by simpa using hb
  subst e;obtain⟨o,e,c,d⟩:=st;exact⟨o,e,fun v z=>by rw[d] at z;cases z⟩
 keep:=fun i h h' st k=>let ⟨o,e,z⟩:=st;⟨o,k it (by simp) o e,z⟩
 item:=by
  intro X hP hw hK hc i pins s σ H E I hf st hg;subst hP hw hK;obtain⟨hd,hi⟩:=hg;obtain⟨f0,f1,f2,f3,f4,f5⟩:=hf it (by simp);obtain⟨lo,_,es',ep',⟨o',r1,r2,r3⟩,sz,its⟩:=pP I (.inr ⟨o,hd⟩);have ho:s.heap.get? d=we o:=(I.hok d _ hd).1;rw[ho] at r1;cases r1;rw[hod] at r3;cases r3;have hi':i<es.size:=by rw[hsz];exact hi
  obtain⟨p,p1,_,a,p2,p3⟩:=its i es[i] (by simp[hi']);refine wA (e:=es[i]) st ⟨o,ho,r2,hod⟩ (by simp[hi']) fun h' st' sb=> ?_;have I1:Inv X pins σ H { s with heap:=h' }:=I.turned (t':=s.toks) (fun b o hb e=>(sb.2 b hb).trans e) f0 f1 f3 f4 f5;obtain⟨oi,e1,c1,d1⟩:=id st';exact⟨_,rfl,KM (s:={ s with heap:=h' }) e1 c1 d1 (by decide) ⟨.ref a,H,I1,p2,⟨rfl,a,p,rfl,p1,p3⟩,st',fun b hb=>(hf b hb).1⟩⟩
 done:=by
  intro X hP hw hK hc i pins s σ H E I hf st hg;subst hP hw hK;obtain⟨hd,hi⟩:=hg;obtain⟨f0,f1,f2,f3,f4,f5⟩:=hf it (by simp);obtain⟨lo,_,es',ep',⟨o',r1,r2,r3⟩,sz,its⟩:=pP I (.inr ⟨o,hd⟩);have ho:s.heap.get? d=we o:=(I.hok d _ hd).1;rw[ho] at r1;cases r1;exact AW (I.ok.hd hc) st ⟨o,ho,r2,hod⟩ (by rw[hsz];exact hi) fun h' eb=>⟨rfl,I.turned (t':=s.toks) (fun b o hb e=>eb b o hb e) f0 f1 f3 f4 f5⟩
 self:=fun _ _ _ _ _ st h=>sj st h
noncomputable def NL (H₀:Hp) (to:TE):TI:=fun σ H R=>to σ H fun x H1=>∃ d kvs,x=.ref d/\H1 d=we (.dT kvs)/\∀ o,(∀ o' u,H₀ d≠we (.frz o' u))->R (Itk d o kvs) (upd H1 d (.frz o (.dT kvs)))
section
variable {X:Cx}{cls exC:Nat->af}{E:XE}{e a b c o i value tg iter:bw}{es rest:List bw}{fa fb fc fo fi fv:OG D}{fl:OG (List D)}{ft ft':OG Bool}{pos p apos pos' cpos:Pos}{x m:Str}{st:cu}{body:List cu}{F:OS}
theorem Jw (ho:PE X iter to):PI X tg iter (NL X.H₀ to):=by
 intro pins s σ H R I h;refine thn (ho pins s σ H _ I h) fun v s1 ⟨x,H1,I1,rx,d,kvs,ex,hd,q⟩=> ?_;subst ex;cases rx;obtain⟨lo,_,es,ep,⟨o,r1,r2,r3⟩,sz,its⟩:=pP I1 (.inl hd);have nf:∀ o' u,X.H₀ d≠we (.frz o' u):=fun o' u z=>by
  have:=I1.base.frzs d o' u z
  rw[hd] at this;cases this
 have I2:=I1.frozen hd r1;refine wB lo ⟨o,r1,r2,r3⟩ ?_;have nd:d≠s1.heap.objs.size:=cj (br r1);have hn:upd H1 d (.frz o (.dT kvs)) s1.heap.objs.size=wf:=by rw[aE (cy nd)];exact I1.hok.fresh (bj _)
 refine⟨s1.heap.objs.size,[s1.heap.objs.size],_,Itk d o kvs,_,rfl,I2.kept (t':=s1.toks) (fun b u e=>bh _ e),CZ d _ o kvs es ep r3 sz,⟨_,b0 _ rfl,rfl,rfl⟩,fun b hb=> ?_,q o nf⟩;have e:b=s1.heap.objs.size:=by simpa using hb
 subst e;exact(I1.fpOk (bj _) hn)
noncomputable def Lk (H₀:Hp) (D:BI):BI:={ nx:=fun σ H=>∃ d o kvs,H d=we (.frz o (.dT kvs))/\(∀ o' u,H₀ d≠we (.frz o' u))/\D.nx σ (upd H d (.dT kvs)),rt:=fun _ _=>False }
theorem Jp (hp:PassesOwn (model X.prog X.w) X.A X.env X.xe) (hc:X.calm=true) (ho:PE X iter to) (hg:PG X tg g) (hb:PSs X body tb) (hs:∀ x,f7 iter X.env x=pure x:=by intro _;rfl):
  PS X (.For tg iter body [] pos) (fun D σ H=>ON (NL X.H₀ to) g tb (Lk X.H₀ D) σ H):=fun pins s σ H D I h=>by
 refine thn (Ix (pos:=pos) hp hc (Jw ho) hg hb hs pins s σ H (Lk X.H₀ D) I h) fun f s' z=> ?_;cases f with
 |next=>
  obtain⟨σ',H',I',d,o,kvs,h1,h2,h3⟩:=z;exact⟨σ',_,I'.thawed h1 h2,h3⟩
 |brk=>obtain⟨_,_,_,q⟩:=z;exact q.elim
 |cont=>obtain⟨_,_,_,q⟩:=z;exact q.elim
 |ret u=>obtain⟨_,_,_,_,_,q⟩:=z;exact q.elim
noncomputable def bZ (k:List Key):D:=.tup (k.map ofK)
noncomputable def rF:List (List Key×D)->List (List Key×D)->Bool
 |[],[]=>true
 |a::as,b::bs=>decide (a.1=b.1)&&fA a.2 b.2&&rF as bs
 |_,_=>false
theorem vU:∀ {a b:List (List Key×D)},rF a b=true->a=b
 |[],[],_=>rfl
 |[],_::_,h=>nomatch h
 |_::_,[],h=>nomatch h
 |a::as,b::bs,h=>by
  simp only[rF,bu,decide_eq_true_eq] at h;rw[vU h.2,show a=b from Prod.ext h.1.1 (AS _ _ h.1.2)]
noncomputable def wU (n:Nat) (kvs:List (List Key×D)) (ω:Om):Bool:=match ω[n]? with
 |some (.dz k)=>rF k kvs
 |_=>false
theorem Hg (h:wU n kvs ω=true):ω[n]?=we (.dz kvs):=by
 unfold wU at h;split at h
 ·rename_i k e
  rw[vU h] at e;exact e
 ·cases h
noncomputable def Cu (ω:Om) (d:D):Option (Nat×List (List Key×D)):=match d with
 |.obj n=>match ω[n]? with
  |some (.dt kvs)=>we (n,kvs)
  |_=>wf
 |_=>wf
theorem ET (h:Cu ω d=we (n,kvs)):d=.obj n/\ω[n]?=we (.dt kvs):=by
 unfold Cu at h;split at h
 ·split at h
  ·cases h;exact⟨rfl,‹_›⟩
  ·cases h
 ·cases h
noncomputable def Jh (fo:OG D) (bd:BR) (F:OS):OS:=oX fo fun d ρ ω=>(Cu ω d).bind fun p=>match bY bd (wU p.1 p.2) F (p.2.map fun kv=>bZ kv.1) ρ (ω.set p.1 (.dz p.2)) with
 |some (.nx ρ',ω')=>if wU p.1 p.2 ω'=true then we (.nx ρ',ω'.set p.1 (.dt p.2)) else wf
 |_=>wf
theorem NF {K:aa} (k:Key):Rep K ok H (kV k) (ofK k):=by
 cases k with
 |inl i=>exact .int i
 |inr x=>exact .str x
theorem zA {K:aa}:∀ ks:List Key,Reps K ok H (ks.map kV) (ks.map ofK)
 |[]=>.nil
 |k::ks=>.cons (NF k) (zA ks)
end
section
variable {X:Cx}{cls exC:Nat->af}{E:XE}{e a b c o i value tg iter:bw}{es rest:List bw}{fa fb fc fo fi fv:OG D}{fl:OG (List D)}{ft ft':OG Bool}{pos p apos pos' cpos:Pos}{x m:Str}{st:cu}{body:List cu}{F:OS}
noncomputable def FB (i j k l:Nat):BR:=fun d ρ=>match d with
 |.tup [x,y,z,w]=>we ((((ρ.set i (we x)).set j (we y)).set k (we z)).set l (we w))
 |_=>wf
theorem KI {i j k l:Nat} (hc:X.calm=true) (hN:X.N.Nodup) (hi:X.N[i]?=we x) (hj:X.N[j]?=we y) (hk:X.N[k]?=we z) (hl:X.N[l]?=we w) (hx:Loc X.env.scope x) (hy:Loc X.env.scope y) (hz:Loc X.env.scope z) (hw:Loc X.env.scope w)
  (hf:X.fn x=true∨X.env.scope.names.lookup x=we .local:=by first|exact .inl rfl|exact .inr rfl|assumption) (hf2:X.fn y=true∨X.env.scope.names.lookup y=we .local:=by first|exact .inl rfl|exact .inr rfl|assumption)
  (hf3:X.fn z=true∨X.env.scope.names.lookup z=we .local:=by first|exact .inl rfl|exact .inr rfl|assumption) (hf4:X.fn w=true∨X.env.scope.names.lookup w=we .local:=by first|exact .inl rfl|exact .inr rfl|assumption):
  PG X (.Tuple [.Name x p1,.Name y p2,.Name z p3,.Name w p4] kk tp) (gR X.K (FB i j k l)):=
 PG.imp (DG (n:=4) hc (eU (fX hN hi hx hf) (eU (fX hN hj hy hf2) (eU (fX hN hk hz hf3) (eU (fX hN hl hw hf4) yR))))) fun v σ H Q ⟨ok,ρ,ρ',d,h1,h2,h3,h4,h5⟩=>by
  unfold FB at h4;split at h4
  ·cases h4;obtain⟨a,xs,rfl,g,r⟩:=h3.tup_inv;cases r with
   |cons r1 r=>cases r with
    |cons r2 r=>cases r with
     |cons r3 r=>cases r with
      |cons r4 r=>cases r with
       |nil=>
        refine⟨a,_,rfl,g.sq,rfl,_,_,rfl,_,_,rfl,_,_,rfl,_,_,rfl,rfl,?_⟩;have e1:=h1.set h2 r1 i;have e2:=e1.set (by simpa using h2) r2 j;have e3:=e2.set (by simpa using h2) r3 k;have e4:=e3.set (by simpa using h2) r4 l;exact h5 _ e4 (by simpa using h2)
  ·cases h4
noncomputable def Dp (bd:BR) (f:OG D):OS:=oX f fun d ρ ω=>(bd d ρ).map fun ρ'=>(.nx ρ',ω)
theorem JN (he:OE X cls E e fa) (hg:PG X tg (gR X.K bd)) (hs:sv [tg] e pos.line X.env=pure false:=by rfl) (hw:sw [tg] e X.env=pure wf:=by rfl)
  (h1:(kq [tg] X.env).map (·.2)=[assign tg X.env]:=by rfl):OSt X cls E (.Assign [tg] e pos) (Dp bd fa):=(Iy he hg hs hw h1).imp fun D σ H ⟨ok,ρ,ω,oo,ω',P,e,q⟩=>by
 refine tO.thenS P e q fun d ω1 v ok1 H1 e1 n1 P1 r1 q1=> ?_;obtain⟨ρ',e2,e3⟩:=aF e1;cases e3;exact⟨ok1,ρ,ρ',d,P1.env,P1.len,r1,e2,fun σ' env len=>q1 ok1 H1 σ' (.refl P1.okh P1.st) env len⟩
noncomputable def oIA (g:List D->Option (List D)) (f:OG (List D)):OI':=oB f fun ds _ ω=>oR (pu ((g ds).map fun xs=>(xs,bO)) ω)
theorem DT (hg:Gl X "range") (hm:X.mg "range"=wf) (ha:OA X cls E [a] fl) (hs:ar [a] X.env=[(false,eval a X.env)]:=by rfl):OI X cls E tg (.Call (.Name "range" p) [a] [] pos) (oIA jP fl):=
 PI.imp (DD hg hm ha hs) fun σ H R ⟨ok,ρ,ω,r,ω',P,e,q⟩=>by
  refine tOA.then_ P e (fun c z=>by subst z;exact q) fun ds ω1 vs ok1 H1 e1 n1 P1 r1=> ?_;obtain⟨⟨dz,chk⟩,e3,rfl⟩:=cA e1;obtain⟨ue3,rfl⟩:=cK e3;obtain⟨xs,e4,e5⟩:=aF ue3;cases e5;unfold jP at e4;split at e4
  ·obtain⟨⟨hl,hh⟩,rfl⟩:=bI e4;obtain⟨v,rfl,rv⟩:=r1.one_inv;obtain rfl:=rv.int_inv;exact⟨_,rfl,by omega,by omega,q _ ok1 H1 n1 itD_range.toO⟩
  ·cases e4
end
noncomputable def iZ (K:aa) (ns:List Str) (n:Nat):af:=match cq K ca (ns.getD n "") with
 |some (we (.ref a))=>a
 |_=>0
theorem nM {K:aa} (hx:ns.getD n ""=x) (h:cq K ca x=we (we (.ref a))):iZ K ns n=a:=by
 unfold iZ;rw[hx,h]
structure qE (P:da) (w:df) (K:aa) (mg:Str->Option ai) (base:cx) (cls exC:Nat->af) (k:Nat) (x:Str) (ps:List Str) (φ:eB):Prop where
 ex:∃ f fd,rA P w K mg base (CX1 P w exC) k f fd ps (spO cls exC K φ)/\mg x=we (.ref f)/\ga K (.ref f)=true/\Binds K fd ps []
structure qF (P:da) (w:df) (K:aa) (mg:Str->Option ai) (base:cx) (cls exC:Nat->af) (k c:Nat) (m:Str) (ps:List Str) (φ:eB):Prop where
 ex:∃ f fd,rA P w K mg base (CX1 P w exC) k f fd ps (spO cls exC K φ)/\Iq K (cls c) m f/\Binds K fd ps []
 cl:Cls K (cls c)
structure Oz (P:da) (w:df) (K:aa) (mg:Str->Option ai) (base:cx) (cls exC:Nat->af) (k c:Nat) (x:Str) (ps:List Str) (φ:eB):Prop where
 ex:∃ f fd,rA P w K mg base (CX1 P w exC) k f fd ps (spO cls exC K φ)/\Mk K (cls c) f/\Binds K fd ps []
 at_:mg x=we (.ref (cls c))
section
variable {X:Cx}{cls exC:Nat->af}{E:XE}{e a b c o i value:bw}{es:List bw}{fa fb fo fi fv:OG D}{fl:OG (List D)}{pos p apos pos':Pos}{x m:Str}{cn k:Nat}{ps:List Str}{φ:eB}
theorem GG (F:qE X.prog X.w X.K X.mg X.base cls exC k x ps φ) (hr:Room k X.A) (hg:Gl X x) (hx:Pas X exC E) (ha:OA X cls E (e::es) fl) (hdb:(x==("__debug__":Str))=false:=by decide)
  (he:ar (e::es) X.env=(false,eval e X.env)::ar es X.env:=by rfl) (hpl:(de pos (ar es X.env)).any (·.1)=false:=by rfl):OE X cls E (.Call (.Name x p) (e::es) [] pos) (bE φ fl):=by
 obtain⟨f,fd,h1,h2,h3,h4⟩:=F.ex;exact Kj h1 hr hg h2 h3 h4 hx ha hdb he hpl
theorem Kc (F:qF X.prog X.w X.K X.mg X.base cls exC k cn m ps φ) (hr:Room k X.A) (hx:Pas X exC E) (ho:OE X cls E o fo) (ha:OA X cls E (e::es) fl)
  (hst:ar (e::es) X.env=(false,eval e X.env)::ar es X.env:=by rfl) (hpl:(de pos (ar es X.env)).any (·.1)=false:=by rfl)
  (ht:eval (.Call (.Attribute o m apos) (e::es) [] pos) X.env=(do
   let ov <- eval o X.env
   mh apos.atName
   let (f,first) <- holding [ov] (l0 ov m pl)
   p9 pos f first (de pos (ar (e::es) X.env)) (jk pos (hV [] X.env))):=by rfl):
  OE X cls E (.Call (.Attribute o m apos) (e::es) [] pos) (bC cn m φ fo fl):=by
 obtain⟨f,fd,h1,h2,h4⟩:=F.ex;exact Kb (pl:=pl) ho F.cl h2 h1 hr h4 hx ha hst hpl ht
theorem GE (F:qF X.prog X.w X.K X.mg X.base cls exC k cn m ps φ) (hr:Room k X.A) (hx:Pas X exC E) (ho:OE X cls E o fo)
  (ht:eval (.Call (.Attribute o m apos) [] [] pos) X.env=(do
   let ov <- eval o X.env
   mh apos.atName
   let (f,first) <- holding [ov] (l0 ov m pl)
   p9 pos f first (de pos (ar [] X.env)) (jk pos (hV [] X.env))):=by rfl):
  OE X cls E (.Call (.Attribute o m apos) [] [] pos) (bC cn m φ fo aJ):=by
 obtain⟨f,fd,h1,h2,h4⟩:=F.ex;exact GD (pl:=pl) ho F.cl h2 h1 hr h4 hx ht
theorem Ke (F:Oz X.prog X.w X.K X.mg X.base cls exC k cn x ps φ) (hr:Room (k+1) X.A) (hg:Gl X x) (hx:Pas X exC E) (ha:OA X cls E (e::es) fl) (hdb:(x==("__debug__":Str))=false:=by decide)
  (he:ar (e::es) X.env=(false,eval e X.env)::ar es X.env:=by rfl) (hpl:(de pos (ar es X.env)).any (·.1)=false:=by rfl):OE X cls E (.Call (.Name x p) (e::es) [] pos) (qH cn φ fl):=by
 obtain⟨f,fd,h1,h2,h3⟩:=F.ex;exact Kd h2 h1 hr hg F.at_ h3 hx ha hdb he hpl
end
theorem boot.dict:dc "dict"=we (.type "dict"):=by decide+kernel
theorem Ku {K:aa}{ns:List Int} (h:φ [.scr (ns.map D.int)] []=we (.ok (.bl true),ω')) (hS:SqL K H a (ns.map V.int)):spO cls exC K φ [.ref a] H (fun v _=>v=.bl true) fun _ _ _=>False:=by
 refine⟨Okk.all,[],[.scr (ns.map D.int)],.ok (.bl true),ω',⟨fun _ _=>trivial,fun _ _ _=>trivial⟩,⟨fun n ob e=>by simp at e,(fun _ _ e=>nomatch e),(fun _ _ _ e=>nomatch e),(fun _ _ e=>nomatch e)⟩,.cons (.scr ?_ (Reps.ints ns)) .nil,h,fun v ok' H' _ r=>r.bl_inv⟩;rcases hS with h|h
 ·exact .inl ⟨trivial,h⟩
 ·exact .inr h
theorem law_walkO {l:vn}{K:Params->aa} (hn:l.most=we 63) (hdf:d.params.defaults=[]) (hr:Room k ow)
  (hY:∀(w:df) (h:cx),YP w h->(K w.params).In h) (hφ:∀ ns:List Int,ns.length<=63->∃ ω',φ [.scr (ns.map D.int)] []=we (.ok (.bl true),ω'))
  (F:∀(w:df) (mg:Str->Option ai) (fa:af) (h:cx),(K w.params).In h->h.Ns ca mg->mg d.name=we (.ref fa)->
   ∃ fd:jj,(∀(s:aq) (u:ai),rg s fd ⟨[u],[]⟩ [(x,u)])/\∀ base:cx,(K w.params).In base->base.Ns ca mg->rA l.prog w (K w.params) mg base (CX1 l.prog w (iZ (K w.params) es)) k fa fd [x] (spO (iZ (K w.params) cs) (iZ (K w.params) es) (K w.params) φ)):
  v9 q loose XP YP l.row.toRowW d [] (fun f vs=>vm f vs):=
 L2.walk_of (n:=63) (k:=k) (x:=x) (CX:=fun w=>CX1 l.prog w (iZ (K w.params) es)) (sp:=fun w=>spO (iZ (K w.params) cs) (iZ (K w.params) es) (K w.params) φ) hn (by decide) hdf hr hY F (fun _ _ a ns hl _ hS=>let ⟨_,h⟩:=hφ ns hl;Ku h hS) fun _ _ _ _ _ ⟨_,_,_,_,_,_,_,_,_,_,z⟩=>z
section
variable {α β:Type}{f h:OG D}{fl:OG (List D)}{ρ:Rho}{ω ω1 ω2 ω3:Om}{a b d:D}{ds:List D}{F G:OS}
theorem bA {f:OG α}{g:α->OG β} (e:f ρ ω=we (.ok x,ω1)):oB f g ρ ω=g x ρ ω1:=by unfold oB;rw[e]
theorem bR {f:OG α} (e:f ρ ω=we (.ok x,ω1)):oX f g ρ ω=g x ρ ω1:=by unfold oX;rw[e]
theorem Pt {f:DF} (e:f ρ=we d):oP f ρ ω=we (.ok d,ω):=by unfold oP;rw[e];rfl
theorem aB (e:ρ[i]?=we (we d)):oP (Lj i) ρ ω=we (.ok d,ω):=Pt (by unfold Lj;rw[e];rfl)
theorem aW:oP (dC d) ρ ω=we (.ok d,ω):=rfl
theorem iQ (e1:f ρ ω=we (.ok a,ω1)) (e2:h ρ ω1=we (.ok b,ω2)) (e3:g ω2 a b=we (d,ω3)):o2 g f h ρ ω=we (.ok d,ω3):=by
 unfold o2;rw[bA e1,bA e2];show oR (g ω2 a b)=_;rw[e3];rfl
theorem fH (e1:f ρ ω=we (.ok a,ω1)) (e2:h ρ ω1=we (.ok b,ω2)) (e3:g a b=we d):o2 (lf g) f h ρ ω=we (.ok d,ω2):=iQ e1 e2 (by show pu (g a b) ω2=_;rw[e3];rfl)
theorem aD:aJ ρ ω=we (.ok [],ω):=rfl
theorem aA (e1:f ρ ω=we (.ok a,ω1)) (e2:fl ρ ω1=we (.ok ds,ω2)):aC f fl ρ ω=we (.ok (a::ds),ω2):=by
 unfold aC;rw[bA e1,bA e2]
theorem dE (e1:fl ρ ω=we (.ok ds,ω1)) (e2:g ω1 ds=we (d,ω2)):oL g fl ρ ω=we (.ok d,ω2):=by
 unfold oL;rw[bA e1];show oR (g ω1 ds)=_;rw[e2];rfl
theorem aR (e1:fl ρ ω=we (.ok ds,ω1)) (e2:φ ds ω1=we (r,ω2)):bE φ fl ρ ω=we (r,ω2):=by
 unfold bE;rw[bA e1];exact e2
theorem aO (e:f ρ ω=we (.ok d,ω1)):aG (aX i f) G ρ ω=G (ρ.set i (we d)) ω1:=by
 unfold aG aX;rw[bR e]
theorem bD (e:F ρ ω=we (.nx ρ1,ω1)):aG F G ρ ω=G ρ1 ω1:=by
 unfold aG;rw[e]
theorem cY (e:f ρ ω=we (.ok (.bl k),ω1)):dG f ρ ω=we (.ok k,ω1):=by
 unfold dG;rw[bA e];rfl
theorem vW (e:t ρ ω=we (.ok true,ω1)):dI t F G ρ ω=F ρ ω1:=by unfold dI;rw[bR e];rfl
theorem mR (e:t ρ ω=we (.ok false,ω1)):dI t F G ρ ω=G ρ ω1:=by unfold dI;rw[bR e];rfl
theorem bB (e:f ρ ω=we (.ok d,ω1)):aU f ρ ω=we (.rt d,ω1):=by unfold aU;rw[bR e]
theorem aV (hl:ds.length=n) (e:G (cI N ds) ω=we (.rt d,ω1)):dW n N G ds ω=we (.ok d,ω1):=by
 unfold dW;rw[if_pos hl,e]
theorem NQ (h: -1000000000000000000<j/\j<1000000000000000000):iF (.int i) (.int j)=we (.int (i*j)):=by
 show(if _ then _ else _)=_
 rw[if_pos (.inr h)]
theorem NR (h:0<j):cH (.int i) (.int j)=we (.int (i % j)):=by
 show(if _ then _ else _)=_
 rw[if_pos h]
end
section
variable {X:Cx}{cls exC:Nat->af}{E:XE}{e a b c o i value tg iter:bw}{es rest:List bw}{fa fb fc fo fi fv:OG D}{fl:OG (List D)}{ft ft':OG Bool}{pos p apos pos' cpos:Pos}{x m:Str}{st:cu}{body:List cu}{F:OS}
theorem Nw.freeze {K:aa}{a:af} (P:OkH ok H) (st:Stt cls K ok H ω) (e:ok.al n=we a) (h:H a=we (.dT vs)) (kv:KvR K ok H vs kvs):
  Nw cls K ok H ok (upd H a (.frz oo (.dT vs))) (ω.set n (.dz kvs)):=Nw.write P st e h fun dat=>⟨oo,vs,aK,kv.mono dat fun _ _ z=>z⟩
theorem Pw {K:aa}{a:af} (e:ok1.al n=we a) (h:H1 a=we (.frz oo (.dT vs))) (kv:KvR K ok1 H1 vs kvs):
  ItO cls K ok1 H1 (wU n kvs) (Itk a oo vs) (kvs.map fun kv=>bZ kv.1):=by
 refine⟨fun i ok H ω nw _ hi=>⟨nw.ex.frz _ _ _ h,by rw[kv.length];simpa using hi⟩,fun i ok H ω x H' d nw _ y hd=> ?_,fun i ok H ω nw _ hi=>⟨nw.ex.frz _ _ _ h,by rw[kv.length];simpa using hi⟩⟩;obtain⟨rfl,b,p,rfl,hp,ht⟩:=y;refine⟨Same.refl _,?_⟩;have hk:=kv.keys;have e1:(vs.map (·.1))[i]?=we p.1:=by rw[bc,hp];rfl
 rw[hk,bc] at e1;obtain⟨q,e2,e3⟩:=aF e1;rw[bc,e2] at hd;cases hd;show Rep K ok _ _ (bZ q.1);rw[e3];exact .tup ⟨nw.okh.tp b _ ht,ht⟩ (zA p.1)
theorem Nw.thaw {K:aa}{a:af} (st1:Stt cls K ok1 H1 ω1) (e:ok1.al n=we a) (h:H1 a=we (.dT vs)) (nw:Nw cls K ok1 (upd H1 a (.frz oo (.dT vs))) ok H ω) (hc:ω[n]?=we (.dz kvs)):
  ∃ ws,H a=we (.frz oo (.dT ws))/\ws=vs/\Nw cls K ok1 H1 ok (upd H a (.dT vs)) (ω.set n (.dt kvs)):=by
 have hf:H a=we (.frz oo (.dT vs)):=nw.ex.frz _ _ _ aK;have ea:=nw.ex.ids n a e;obtain⟨b,e1,o',vs',e2,kv⟩:=nw.st.cell n _ hc;rw[ea] at e1;cases e1;rw[hf] at e2;cases e2;have na:¬ ok1.p a:=st1.nok n a e;have na':¬ ok.p a:=nw.st.nok n a ea;have dat:∀ b o,ok.p b->H b=we o->ok.p b/\upd H a (.dT vs) b=we o:=fun b o k z=>⟨k,by rw[aE (show b≠a from fun w=>na' (w ▸ k))];exact z⟩;refine⟨vs,hf,rfl,⟨⟨fun b o k z=> ?_,nw.ex.ids,fun b o z w=> ?_,fun m b z=> ?_,fun b z=> ?_,fun b k=> ?_,fun b x u z=> ?_⟩,⟨fun b z=> ?_,fun b xs z=> ?_⟩,fun m ob z=> ?_,fun m b z=>by rw[c9];exact nw.st.dom m b z,nw.st.inj,nw.st.nok⟩⟩
 ·have hb:b≠a:=fun w=>na (w ▸ k)
  have:=nw.ex.dat b o k (by rw[aE hb];exact z)
  exact⟨this.1,by rw[aE hb];exact this.2⟩
 ·have hb:b≠a:=fun q=>w n (q ▸ e);rw[aE hb];exact nw.ex.frm b o (by rw[aE hb];exact z) w
 ·rcases nw.ex.new m b z with w|w
  ·exact .inl w
  ·by_cases hb:b=a
   ·rw[hb,aK] at w;cases w
   ·rw[aE hb] at w;exact .inr w
 ·by_cases hb:b=a
  ·rw[hb,aK] at z;cases z
  ·rw[aE hb] at z
   have:=nw.ex.keep b z
   rw[aE hb] at this;exact this
 ·rcases nw.ex.sub b k with w|w
  ·exact .inl w
  ·by_cases hb:b=a
   ·rw[hb,aK] at w;cases w
   ·rw[aE hb] at w;exact .inr w
 ·have hb:b≠a:=fun w=>by rw[w,h] at z;cases z
  rw[aE hb];exact nw.ex.frz b x u (by rw[aE hb];exact z)
 ·by_cases hb:b=a
  ·rw[hb,aK] at z;cases z
  ·rw[aE hb] at z;exact nw.okh b z
 ·by_cases hb:b=a
  ·rw[hb,aK] at z;cases z
  ·rw[aE hb] at z;exact nw.okh.tp b xs z
 ·rcases rE z with⟨rfl,rfl⟩|⟨hm,z⟩
  ·exact⟨a,ea,vs,aK,kv.mono dat fun _ _ z=>z⟩
  ·obtain⟨b,e1,c1⟩:=nw.st.cell m ob z;refine⟨b,e1,c1.mono dat (fun _ _ z=>z) fun u q=> ?_⟩;rw[aE (show b≠a from fun w=>hm (nw.st.inj m n a (w ▸ e1) ea))];exact q
theorem JI (hc:X.calm=true) (ho:OE X.nox cls EF iter fo) (hg:PG X.nox tg (gR X.K bd)) (hb:OSs X.nox cls EF body F) (hs:∀ x,f7 iter X.env x=pure x:=by intro _;rfl):
  OSt X cls E (.For tg iter body [] pos) (sNx (Jh fo bd F)):=IG ((Jp (X:=X.nox) vp hc ho hg hb hs).imp fun D σ H ⟨ok,ρ,ω,oo,ω',P,e,q⟩=>by
 refine tO.thenS P e q fun d ω1 v ok1 H1 e1 n1 P1 r1 q1=> ?_;obtain⟨⟨n,kvs⟩,hd,e2⟩:=aN e1;obtain⟨rfl,e3⟩:=ET hd;obtain⟨a,rfl,e4,vs,e5,kv⟩:=P1.st.ref r1 e3;refine⟨a,vs,rfl,e5,fun o nf=> ?_⟩;have nf1:Nw cls X.K ok1 H1 ok1 (upd H1 a (.frz o (.dT vs))) (ω1.set n (.dz kvs)):=.freeze P1.okh P1.st e4 e5 kv;dsimp only at e2;split at e2
 ·rename_i ρ' ω2 hF
  obtain⟨hz,e6⟩:=bI e2;cases e6;refine Bu (D:=Lk X.H₀ D) (Pw e4 aK (kv.mono nf1.ex.dat nf1.ex.ids)) (P1.nw nf1) hF fun ok2 H2 σ2 nw2 env2 len2=> ?_;obtain⟨ws,w1,rfl,nw3⟩:=Nw.thaw P1.st e4 e5 nw2 (Hg hz);refine⟨a,o,ws,w1,nf,q1 ok2 _ σ2 nw3 ?_ len2⟩;intro j dj ej;obtain⟨u,z1,z2⟩:=env2 j dj ej;refine⟨u,z1,z2.mono (fun b u' k z=>⟨k,?_⟩) fun _ _ z=>z⟩;rw[aE (show b≠a from fun w=>nw2.st.nok n a (nw2.ex.ids n a e4) (w ▸ k))];exact z
 ·cases e2)
end
end L2.MB
end
section
namespace L2.MB
open PySem PySem.Spec PyProof.Rows PySem.Builtin
theorem nodup_ix {xs:List (α×β)} (h:(xs.map (·.1)).Nodup) {i j:Nat} (h1:xs[i]?=we (k,p)) (h2:xs[j]?=we (k,q)):i=j:=by
 have a1:(xs.map (·.1))[i]?=we k:=by rw[bc,h1];rfl
 have a2:(xs.map (·.1))[j]?=we k:=by rw[bc,h2];rfl
 exact(List.getElem?_inj (bi.mp a1).1 h).mp (a1.trans a2.symm)
theorem Dz (d b:af):MeetsIn P w («dict.pop» { pos:=[.ref d,.ref b] }) fun A R s=>
  A.units+1<dm/\∃(xs:List (List Key×af×ai)) (j:Nat) (p:af×ai),ig (bz (aI P w)) s.heap d xs/\xs.length<=sizeLine/\(bz (aI P w)).is s.heap k b/\xs[j]?=we (k,p)/\
   ∀ h' t,ig (bz (aI P w)) h' d (xs.eraseIdx j)->fg d s.heap h'->R (.ok (.ret p.2)) { s with heap:=h',toks:=t }:=by
 rintro A R s ⟨hu,xs,j,p,dd,hz,hk,hj,hR⟩;obtain⟨o,es,ep,h1,h2,h3,h4,h5,h6⟩:=dd;obtain⟨oc,od,odt,osl⟩:=o;obtain⟨q1,q2,q3⟩:=h2;dsimp only at q1 q2 q3 h3;subst q1 q2 q3 h3;have hne:es.isEmpty=false:=by
  have:es.toList≠[]:=by
   rw[h4];intro z;rw[List.map_eq_nil_iff] at z;rw[z] at hj;simp at hj
  cases q:es.isEmpty with
  |false=>rfl
  |true=>rw[mq] at q;rw[q] at this;exact absurd rfl this
 have hr:(bz (aI P w)).room A.in1:=j7 hu;have hes:es[j]?=we (f6 (bz (aI P w)) (k,p)):=by
  rw[<- gl,h4,bc,hj];rfl
 unfold «dict.pop» Dict.keyAndDefault
 repeat (first|with_reducible refine HeapKind.pyHash (bz (aI P w)) hr hk ?_|(with_reducible refine tm hr hk h1 rfl h4 h5 h6 (fun z=>absurd hj (z j p)) fun i q hi=> ?_)|wp_step)
 obtain rfl:=nodup_ix h6 hj hi;rw[hes]
 repeat (first|(with_reducible refine ss h1 rfl ?_ ?_ ?_)|wp_step)
 ·have sb:fg d s.heap (s.heap.update d (qp fun x=>x.eraseIdxIfInBounds j)):=⟨nh _ _ _,fun b hb=>d5 _ _ (cy hb)⟩;refine hR _ _ ⟨_,es.eraseIdxIfInBounds j,ep+1,gg _ h1 ?_,⟨rfl,rfl,rfl⟩,rfl,?_,fun x hx=>(bz (aI P w)).keeps (h5 x (List.mem_of_mem_eraseIdx hx)) h1 rfl sb,?_⟩ sb
  ·rfl
  ·have em:∀(l:List (List Key×af×ai)) (n:Nat),(l.eraseIdx n).map (f6 (bz (aI P w)))=(l.map (f6 (bz (aI P w)))).eraseIdx n:=fun l=>by
    induction l with
    |nil=>intro n;rfl
    |cons x r ih=>intro n;cases n with
     |zero=>rfl
     |succ n=>simp[ih n]
   rw[em,<- h4];unfold Array.eraseIdxIfInBounds;split
   ·simp
   ·rename_i hn
    rw[List.eraseIdx_of_length_le (by simpa using hn)]
  ·exact h6.sublist ((List.eraseIdx_sublist xs j).map _)
 ·have:=congrArg k7 h4
  rw[av,du] at this;rw[this];exact hz
 ·have:=PySem.size_eraseIdxIfInBounds_le es j
  omega
theorem mK {α β:Type} [DecidableEq α] {k:α}{p:β}:∀ {xs:List (α×β)}{j:Nat},(xs.map (·.1)).Nodup->xs[j]?=we (k,p)->xs.eraseIdx j=xs.filter fun x=>decide (x.1≠k)
 |[],j,_,h=>by simp at h
 |x::r,0,nd,h=>by
  have h':x=(k,p):=by simpa using h
  subst h';rw[bp,cg] at nd;rw[List.eraseIdx_cons_zero,eg (by simp)]
  symm
  rw[tq];intro a ha
  have:a.1≠k:=fun z=>nd.1 (az.mpr ⟨a,ha,z⟩)
  simpa using this
 |x::r,j+1,nd,h=>by
  rw[bp,cg] at nd;have h':r[j]?=we (k,p):=by simpa using h
  have hm:k∈r.map (·.1):=az.mpr ⟨_,fh h',rfl⟩;have hx:x.1≠k:=fun z=>nd.1 (z ▸ hm);rw[List.eraseIdx_cons_succ,en (by simpa using hx),mK nd.2 h']
theorem KT.drop (r:KT H kvs xs) (k:List Key):KT H (xI kvs k) (xs.filter fun x=>decide (x.1≠k)):=by
 induction r with
 |nil=>exact .nil
 |@cons p q ps qs h t ih=>
  unfold xI at ih ⊢
  by_cases e:p.1=k
  ·have e':q.1=k:=h.1.symm.trans e;rw[eg (by simp[e]),eg (by simp[e'])];exact ih
  ·have e':¬ q.1=k:=fun z=>e (h.1.trans z);rw[en (by simp[e]),en (by simp[e'])];exact .cons h ih
theorem Ig {k:List Key} (h:kr xs k=we p):∃ j:Nat,xs[j]?=we (k,p):=by
 unfold kr at h;obtain⟨q,e1,e2⟩:=aF h;have m:=px e1;have e3:=vt e1;obtain⟨j,hj⟩:=jp m;refine⟨j,?_⟩;rw[hj]
 have:q.1=k:=by simpa using e3
 rw[<- this,<- e2]
section
variable {X:Cx}{pins:List (af×Obj)}{σ:St}{H:Hp}{s:aq}{a b:af}{kvs:List (List Key×V)}{k:List Key}{A:dh}{E:ai->aq->Prop}
theorem Oh (hu:A.units+1<dm) (I:Inv X pins σ H s) (e:H a=we (.dT kvs)) (eb:H b=we (.tup (k.map kV))) (l:vJ kvs k=we v)
  (h:∀ w' s',Inv X pins σ (upd H a (.dT (xI kvs k))) s'->RelV v w'->Q w' s'):bf (model X.prog X.w) A (call (.builtin "dict.pop") [.ref a,.ref b]) Q E s:=by
 obtain⟨z,hd,xs,rel,dd⟩:=HS I.hok e;obtain⟨w',hw,rw'⟩:=RelO.some_of (v:=v) (o:=(kr xs k).map (·.2)) (by rw[<- l];exact rel.val k);obtain⟨p,hp,hp2⟩:=mw.mp hw;obtain⟨j,hj⟩:=Ig hp;have hz:xs.length<=sizeLine:=by rw[<- iz rel];exact z
 have nd:(xs.map (·.1)).Nodup:=by obtain⟨_,_,_,_,_,_,_,_,q⟩:=dd;exact q
 refine uk r9 dd.typeIs PySem.F.entry_dict_pop (PySem.F.args_dict_pop_2 _ _) (Dz (k:=k) a b) ⟨hu,xs,j,p,dd,hz,wP I.hok eb,hj,fun h' t dd' hs=>h p.2 _ ?_ (hp2 ▸ rw')⟩;rw[mK nd hj] at dd';obtain⟨q,es,ep,hq,h2,h3,h4,_,h5⟩:=dd';refine uF I (by rw[e];exact gs) hs ⟨q,hq⟩ ⟨ci (HV kvs k) z,hd,_,KT.keeps (KT.drop rel k) fun c ys ec=> ?_,q,es,ep,hq,h2,h3,h4,h5⟩;rw[aE (Kq ec e (fun z=>nomatch z))];exact ec
noncomputable def Md:V->List V->Hp->VK->Prop:=fun x xs H Q=>∃ a b kvs k v,x=.ref a/\xs=[.ref b]/\H a=we (.dT kvs)/\H b=we (.tup (k.map kV))/\vJ kvs k=we v/\Q v (upd H a (.dT (xI kvs k)))
theorem Ks (hu:X.A.units+1<dm):MtR X "dict.pop" Md:=by
 intro pins s σ H x xs v us Q I rx rs h;obtain⟨a,b,kvs,k,y,rfl,rfl,ha,hb,l,q⟩:=h;obtain⟨u,rfl,ru⟩:=lQ rs;cases rx;cases ru;exact Oh hu I ha hb l fun w' s' I' r=>⟨y,_,I',r,q⟩
end
section
variable {X:Cx}{cls exC:Nat->af}{E:XE}{e a b c o i value:bw}{es rest:List bw}{fa fb fc fo fi fv:OG D}{fl:OG (List D)}{ft ft':OG Bool}{pos p apos pos' cpos:Pos}{x m:Str}{st:cu}
noncomputable def Cm (ω:Om) (d:D):Bool:=match cellOf ω d with
 |some (.dt _)=>true
 |_=>false
theorem Eu (h:Cm ω d=true):∃ n kvs,d=.obj n/\ω[n]?=we (.dt kvs):=by
 unfold Cm at h;split at h
 ·obtain⟨n,rfl,e⟩:=dH ‹_›;exact⟨n,_,rfl,e⟩
 ·cases h
noncomputable def oK (g:Om->D->List D->Option (D×Om)) (fo:OG D) (fl:OG (List D)):OG D:=oB fo fun d ρ ω=>if Cm ω d=true then oB fl (fun ds _ ω=>oR (g ω d ds)) ρ ω else wf
theorem Nl {id:String} (slot:Slot "dict" m id) (hty:typeOf (.builtin id)=pure (.type "method_descriptor")) (hm:MtR X id r) (F:CO cls X.K r g) (ho:OE X cls E o fo) (ha:OA X cls E (e::es) fl)
  (hbase:gv o m X.env (eval o X.env)=eval o X.env:=by rfl)
  (hfew:((de cpos (ar (e::es) X.env)).all (fun x=> !x.1)&&(jk cpos (hV [] X.env)).all (fun x=>x.1.isSome)
   &&decide ((e::es).length+([]:List jf).length+(if([]:List jf).isEmpty then 0 else 1)<30))=true:=by rfl)
  (hline:(apos.endLine==cpos.line)=true:=by rfl) (hs:ar (e::es) X.env=(false,eval e X.env)::ar es X.env:=by rfl) (hplain:(de cpos (ar es X.env)).any (·.1)=false:=by rfl):
  OE X cls E (.Call (.Attribute o m apos) (e::es) [] cpos) (oK g fo fl):=
 (Mz qi slot hty hm ho ha hbase hfew hline hs hplain).imp fun σ H Q ⟨ok,ρ,ω,r,ω',P,e,q⟩=>by
  refine tO.then_ P e (fun c z=>by subst z;exact q) fun d ω1 v ok1 H1 e1 n1 P1 r1=> ?_;obtain⟨hi,e1⟩:=cL e1;obtain⟨n,ds0,rfl,e2⟩:=Eu hi;obtain⟨a,rfl,e4,xs,e5,rs⟩:=P1.st.ref r1 e2;refine⟨.inr (.inr (.inl ⟨rfl,.inr ⟨xs,e5⟩⟩)),?_⟩;refine tOA.then_ P1 e1 (fun c z=>by subst z;exact exR.nw q n1) fun ds ω2 us ok2 H2 e6 n2 P2 r2=> ?_;obtain⟨y,e7,rfl⟩:=cA e6;exact F ok2 H2 ω2 _ us _ ds y ω' Q P2.okh P2.st (r1.ex n2.ex) r2 e7 fun w ok3 H3 n3 r3=>q w ok3 H3 (n1.trans (n2.trans n3)) r3
noncomputable def EQ (ω:Om) (d:D) (as:List D):Option (D×Om):=match d,as with
 |.obj n,[y]=>match ω[n]? with
  |some (.dt kvs)=>(Db y).bind fun k=>(iH kvs k).map fun v=>(v,ω.set n (.dt (dQ kvs k)))
  |_=>wf
 |_,_=>wf
theorem HD {K:aa}:CO cls K Md EQ:=fun ok H ω x xs a as d ω' Q h1 st ra rs e k=>by
 unfold EQ at e;split at e
 ·rename_i n y
  split at e
  ·rename_i kvs hc
   obtain⟨ks,e8,e⟩:=aN e;obtain⟨v,e9,e10⟩:=aF e;cases e10;obtain⟨a1,rfl,e4,vs,e5,kv⟩:=st.ref ra hc;obtain⟨w,rfl,rw'⟩:=rs.one_inv;obtain⟨b,rfl,_,hb⟩:=toT'_rep e8 rw';obtain⟨u,l,ru⟩:=kv.val e9;refine⟨a1,b,vs,ks,u,rfl,rfl,e5,hb,l,?_⟩;have nw:=Nw.write (o:=.dT (xI vs ks)) (ob:=.dt (dQ kvs ks)) h1 st e4 e5 fun dat=>⟨_,aK,(KvR.drop (k:=ks) kv).mono dat fun _ _ z=>z⟩;exact k _ ok _ nw (ru.ex nw.ex)
  ·cases e
 ·cases e
theorem JW (hu:X.A.units+1<dm) (ho:OE X cls E o fo) (ha:OA X cls E [e] fl) (hbase:gv o "pop" X.env (eval o X.env)=eval o X.env:=by rfl)
  (hfew:((de cpos (ar [e] X.env)).all (fun x=> !x.1)&&(jk cpos (hV [] X.env)).all (fun x=>x.1.isSome)
   &&decide ([e].length+([]:List jf).length+(if([]:List jf).isEmpty then 0 else 1)<30))=true:=by rfl)
  (hline:(apos.endLine==cpos.line)=true:=by rfl) (hs:ar [e] X.env=(false,eval e X.env)::ar [] X.env:=by rfl) (hplain:(de cpos (ar [] X.env)).any (·.1)=false:=by rfl):
  OE X cls E (.Call (.Attribute o "pop" apos) [e] [] cpos) (oK EQ fo fl):=Nl r9 PySem.F.type_dict_pop (Ks hu) HD ho ha hbase hfew hline hs hplain
end
end L2.MB
end
section
namespace L2.MB
open PySem PySem.Spec PyProof.Rows PySem.Builtin
section
variable {P:da}{w:df}{K:Type} [DecidableEq K] {knd:HeapKind P w K}{A:dh}{E:ai->aq->Prop}{s:aq}{d a:af}{xs ys:List (K×af×ai)}{k:K}{v:ai}{Q:Unit->aq->Prop}
theorem sQ (h:∀(j:Nat) (p:af×ai),xs[j]?≠we (k,p)):kr xs k=wf:=by
 unfold kr;rw[Option.map_eq_none_iff,ul];intro x hx;obtain⟨j,hj⟩:=jp hx;intro z;have e:x.1=k:=by simpa using z
 exact h j x.2 (by rw[hj,<- e])
theorem CC {j:Nat} (h:xs[j]?=we (k,p)):(kr xs k).isSome=true:=by
 unfold kr;rw[pi,List.find?_isSome];exact⟨(k,p),fh h,by simp⟩
theorem BZ (nd:(xs.map (·.1)).Nodup) (h:xs[j]?=we (k,p)):(xs.map (f6 knd)).modify j (fun e=>{ hash:=e.hash,key:=e.key,val:=v })=(xs.map (qm k v)).map (f6 knd):=by
 apply ke;intro i;rw[List.getElem?_modify,bc,bc,bc];cases q:xs[i]? with
 |none=>rfl
 |some x=>
  show we _=we _
  by_cases e:j=i
  ·subst e;rw[h] at q;cases q;simp[qm,f6]
  ·have hx:x.1≠k:=fun z=>e (nodup_ix nd h (show xs[i]?=we (k,x.2) by rw[q,<- z]));simp[qm,e,hx]
theorem GZ:(xs.map (qm k v)).map (·.1)=xs.map (·.1):=by
 rw[gy];apply fy;intro x _;unfold qm
 show(if _ then _ else _:K×af×ai).1=_
 split <;> rfl
theorem FW (hr:knd.room A) (hk:knd.is s.heap k a) (hd:ig knd s.heap d xs) (hz:xs.length<=sizeLine) (h:∀ h',ig knd h' d (ji xs k a v)->fg d s.heap h'->Q () { s with heap:=h' }):
  bf (model P w) A (dictSetHashed d (.ref a) (knd.hash k) v) Q E s:=by
 obtain⟨o,es,ep,h1,h2,h3,h4,h5,h6⟩:=hd;obtain⟨oc,od,odt,osl⟩:=o;obtain⟨q1,q2,q3⟩:=h2;dsimp only at q1 q2 q3 h3;subst q1 q2 q3 h3;have hs:es.size=xs.length:=by
  have:=congrArg k7 h4
  rw[av,du] at this;exact this
 unfold dictSetHashed
 repeat (first|(with_reducible refine tm hr hk h1 rfl h4 h5 h6 (fun hn=> ?none) fun j p hj=> ?some)|(with_reducible refine ss h1 rfl ?main ?sz ?gr)|wp_step)
 case main=>
   have sb:fg d s.heap (s.heap.update d (qp fun x=>x.push { hash:=knd.hash k,key:=.ref a,val:=v })):=⟨nh _ _ _,fun b hb=>d5 _ _ (cy hb)⟩;have e1:ji xs k a v=xs++[(k,a,v)]:=by
    unfold ji;rw[sQ hn];rfl
   refine h _ ⟨_,es.push { hash:=knd.hash k,key:=.ref a,val:=v },ep+1,gg _ h1 rfl,⟨rfl,rfl,rfl⟩,rfl,?_,fun x hx=> ?_,?_⟩ sb
   ·rw[e1,Array.toList_push,h4,dr];rfl
   ·rw[e1] at hx;rcases c6.mp hx with hx|hx
    ·exact knd.keeps (h5 x hx) h1 rfl sb
    ·rw[fk] at hx;subst hx;exact knd.keeps hk h1 rfl sb
   ·rw[e1,dr];refine kh.mpr ⟨h6,by simp,fun x hx y hy z=> ?_⟩;have hy':y=k:=by simpa using hy
    rw[z,hy'] at hx;obtain⟨q,q1,q2⟩:=az.mp hx;obtain⟨j,hj⟩:=jp q1;exact hn j q.2 (by rw[hj,<- q2])
 case sz=>rw[hs];exact hz
 case gr=>simp
 case some=>
  have e1:ji xs k a v=xs.map (qm k v):=by
   unfold ji;rw[if_pos (CC hj)]
  repeat (first|(with_reducible refine wpAny_updateDict h1 rfl ?_ ?_)|wp_step)
  ·have sb:fg d s.heap (s.heap.update d (Obj.mapDict fun x=>x.modify j fun e=>{ hash:=e.hash,key:=e.key,val:=v })):=⟨nh _ _ _,fun b hb=>d5 _ _ (cy hb)⟩;refine h _ ⟨_,es.modify j fun e=>{ hash:=e.hash,key:=e.key,val:=v },ep,gg _ h1 rfl,⟨rfl,rfl,rfl⟩,rfl,?_,fun x hx=> ?_,?_⟩ sb
   ·rw[e1,Array.toList_modify,h4];exact BZ h6 hj
   ·rw[e1] at hx;obtain⟨q,q1,q2⟩:=az.mp hx;subst q2
    have:=knd.keeps (h5 q q1) h1 rfl sb
    unfold qm;split
    ·exact this
    ·exact this
   ·rw[e1,GZ];exact h6
  ·simp
end
section
variable {P:da}{w:df}{A:dh}{E:ai->aq->Prop}{s:aq}{d o:af}{xs ys:List (List Key×af×ai)}{k:List Key}{v:ai}{Q:Unit->aq->Prop}{id:String}
noncomputable def fK (xs ys:List (List Key×af×ai)):List (List Key×af×ai):=ys.foldl (fun acc y=>ji acc y.1 y.2.1 y.2.2) xs
theorem yM:(ji xs k a v).length<=xs.length+1:=by
 unfold ji;split
 ·rw[av];omega
 ·rw[b7,gk];omega
theorem oO:fK xs (ys++[y])=ji (fK xs ys) y.1 y.2.1 y.2.2:=by
 unfold fK;rw[List.foldl_append];rfl
theorem wL:∀ {ys xs:List (List Key×af×ai)},((xs++ys).map (·.1)).Nodup->fK xs ys=xs++ys
 |[],xs,_=>by rw[c7];rfl
 |y::r,xs,nd=>by
  have e1:fK xs (y::r)=fK (ji xs y.1 y.2.1 y.2.2) r:=rfl;have e2:ji xs y.1 y.2.1 y.2.2=xs++[y]:=by
   unfold ji;rw[sQ (fun j p hj=> ?_)]
   ·rfl
   ·have m1:y.1∈xs.map (·.1):=az.mpr ⟨_,fh hj,rfl⟩;rw[dr,kh] at nd;exact nd.2.2 _ m1 _ (az.mpr ⟨y,au,rfl⟩) rfl
  rw[e1,e2,wL (by rw[dy];exact nd),dy];rfl
theorem Eg (nd:(ys.map (·.1)).Nodup):fK [] ys=ys:=wL (by simpa using nd)
theorem jG (hne:d≠o) (hsys:(o==eu)=false) (hr:(bz (aI P w)).room A) (hd:ig (bz (aI P w)) s.heap d xs) (ho:ig (bz (aI P w)) s.heap o ys) (hz:xs.length+ys.length<=sizeLine)
  (hh:∀(i j:Nat) x y,ys[i]?=we x->ys[j]?=we y->(bz (aI P w)).hash x.1=(bz (aI P w)).hash y.1->i=j)
  (h:∀ h',ig (bz (aI P w)) h' d (fK xs ys)->fg d s.heap h'->Q () { s with heap:=h' }):bf (model P w) A (Dict.mergeDict id d o) Q E s:=by
 have hd0:=hd;obtain⟨o1,es,ep,h1,h2,h3,h4,h5,h6⟩:=hd;obtain⟨oc,od,odt,osl⟩:=o1;obtain⟨q1,q2,q3⟩:=h2;dsimp only at q1 q2 q3 h3;subst q1 q2 q3 h3;obtain⟨o2,fs,fp,g1,g2,g3,g4,g5,g6⟩:=ho;obtain⟨oc,od,odt,osl⟩:=o2;obtain⟨q1,q2,q3⟩:=g2;dsimp only at q1 q2 q3 g3;subst q1 q2 q3 g3;have hn:(d==o)=false:=by simpa using hne
 unfold Dict.mergeDict;simp only[tu];rw[hn];simp only[dn,if_false]
 repeat wp_step
 have fl:fs.size=ys.length:=by
  have:=congrArg k7 g4
  rw[av,du] at this;exact this
 have el:es.size=xs.length:=by
  have:=congrArg k7 h4
  rw[av,du] at this;exact this
 have few:(decide (fs.size<=8)&&fs.all fun e=>(keyPart e.key).isSome)=decide (ys=[]):=by
  rw[<- vd,g4];cases ys with
  |nil=>simp[fl]
  |cons y r=>simp[f6,keyPart]
 rw[few]
 by_cases hy:ys=[]
 ·rw[decide_eq_true hy];simp only[Bool.not_true,dn,if_false];have e0:db ([:fs.size]:jy).start ([:fs.size]:jy).size ([:fs.size]:jy).step=[]:=by rw[fl,hy];rfl
  subst hy
  repeat (first|(with_reducible refine qc _ (fun rest _ s'=>rest=[]/\s'=s) _ ?step ?fin _ _ ?init)|wp_step)
  case init=>exact⟨e0,rfl⟩
  case step=>rintro i rest b s' ⟨z,_⟩;cases z
  case fin=>
   rintro b s' ⟨_,rfl⟩
   repeat wp_step
   exact h _ hd0 ⟨rfl,fun _ _=>rfl⟩
 ·rw[decide_eq_false hy];simp only[v6,if_true]
  repeat wp_step
  by_cases hx:xs=[]
  ·have e0:es.isEmpty=true:=by
    rw[mq];apply Array.eq_empty_of_size_eq_zero;rw[el,hx];rfl
   rw[e0];simp only[if_true];unfold Dict.entriesForEmpty
   repeat (first|(with_reducible refine wpAny_forIn_array' _ (fun(rest:List ko) _ s'=>(∀ e∈rest,∃ i:Nat,fs[i]?=we e)/\s'=s) _ ?step ?fin _ _ ?init)|wp_step)
   case init=>exact⟨fun e he=>by obtain⟨i,hi⟩:=jp he;exact⟨i,by rw[<- gl];exact hi⟩,rfl⟩
   case step=>
    rintro e rest b s' ⟨hi,rfl⟩;obtain⟨i,hi0⟩:=hi e au;have hi1:(ys.map (f6 (bz (aI P w))))[i]?=we e:=by rw[<- g4,gl];exact hi0
    rw[bc] at hi1;obtain⟨y,hy1,rfl⟩:=aF hi1;obtain⟨ot,its,nt,t1,t2,t3,_⟩:=(show IsTupleKey (aI P w) s'.heap y.1 y.2.1 from g5 y (fh hy1));show bf _ _ (do let __do_lift <- Dict.quietEq (b9 y.2.1);_) _ _ _;unfold Dict.quietEq;have small:¬(Array.filter (fun x=>x.hash==(f6 (bz (aI P w)) y).hash) fs).size>1:=by
     have:(fs.filter (fun x=>x.hash==(f6 (bz (aI P w)) y).hash)).toList.length<=1:=by
      rw[Array.toList_filter,g4,List.filter_map,av];have nd:∀(l:List (List Key×af×ai)),(∀(i j:Nat) x y,l[i]?=we x->l[j]?=we y->(bz (aI P w)).hash x.1=(bz (aI P w)).hash y.1->i=j)->∀ c:Int,(l.filter ((fun x:ko=>x.hash==c)∘f6 (bz (aI P w)))).length<=1:=by
       intro l
       induction l with
       |nil=>intro _ _;simp
       |cons z r ih=>
        intro hl c;have ih':=ih (fun i j x y h1 h2 e=>by have:=hl (i+1) (j+1) x y (by simpa using h1) (by simpa using h2) e;omega) c
        by_cases hc:(bz (aI P w)).hash z.1=c
        ·rw[en (by simpa [f6] using hc)]
         have:r.filter ((fun x:ko=>x.hash==c)∘f6 (bz (aI P w)))=[]:=by
          rw[List.filter_eq_nil_iff];intro q hq z';obtain⟨j,hj⟩:=jp hq;have e:(bz (aI P w)).hash q.1=c:=by simpa [f6] using z'
          have:=hl 0 (j+1) z q (by simp) (by simpa using hj) (hc.trans e.symm)
          omega
         rw[this];simp
        ·rw[eg (by simpa [f6] using hc)];exact ih'
      exact nd ys hh _
     rw[du] at this;omega
    repeat wp_step
    rw[t2,show sf (jn "tuple") (jl "__eq__")=pure (we (.builtin "tuple.__eq__")) from PySem.F.slot_tuple_eq.lookup]
    repeat wp_step
    rw[if_neg small]
    repeat wp_step
    exact⟨fun e he=>hi e (aj _ he),rfl⟩
   case fin=>
    rintro b s' ⟨_,rfl⟩
    repeat wp_step
    have f0:fs.isEmpty=false:=by
     cases q:fs.isEmpty with
     |false=>rfl
     |true=>
      rw[mq] at q;rw[q] at fl;exact absurd (List.eq_nil_of_length_eq_zero fl.symm) hy
    rw[f0];simp only[v6,if_true];have sb:fg d s'.heap (s'.heap.update d (qp fun _=>fs)):=⟨nh _ _ _,fun b hb=>d5 _ _ (cy hb)⟩;have mg:fK xs ys=ys:=by
     rw[hx];exact Eg g6
    repeat (first|(with_reducible refine wpAny_updateDictKeysTo h1 rfl ?main ?sz)|wp_step)
    case sz=>show fs.size<=_;rw[fl];omega
    case main=>
     refine h _ ⟨_,fs,ep+1,gg _ h1 rfl,⟨rfl,rfl,rfl⟩,rfl,?_,fun x hx'=> ?_,?_⟩ sb
     ·rw[mg];exact g4
     ·rw[mg] at hx';exact(bz (aI P w)).keeps (g5 x hx') h1 rfl sb
     ·rw[mg];exact g6
  ·have e0:es.isEmpty=false:=by
    cases q:es.isEmpty with
    |false=>rfl
    |true=>
     rw[mq] at q;rw[q] at el;exact absurd (List.eq_nil_of_length_eq_zero el.symm) hx
   rw[e0];simp only[dn,if_false];have e1:db ([:fs.size]:jy).start ([:fs.size]:jy).size ([:fs.size]:jy).step=db 0 ys.length:=by
    rw[fl];simp[wd]
   have len:∀ n,n<=ys.length->(fK xs (ys.take n)).length<=xs.length+n:=fun n=>by
    induction n with
    |zero=>intro _;simp[fK]
    |succ n ih=>
     intro hn;have hn':n<ys.length:=hn;rw[ni hn',oO]
     have:=ih (ic hn')
     exact ci yM (by omega)
   repeat (first|(with_reducible refine qc _ (fun(rest:List Nat) _ s'=>∃(i:Nat) (h':cx),rest=db i (ys.length-i)/\i<=ys.length/\s'={ s with heap:=h' }/\ig (bz (aI P w)) h' d (fK xs (ys.take i))/\fg d s.heap h') _ ?step ?fin _ _ ?init)|wp_step)
   case init=>exact⟨0,s.heap,e1,ip _,rfl,hd0,⟨rfl,fun _ _=>rfl⟩⟩
   case step=>
    rintro i rest b s' ⟨j,h',e2,hj,rfl,dd,sb⟩;have hlt:j<ys.length:=by
     rcases me j ys.length with z|z
     ·exact z
     ·rw[Nat.sub_eq_zero_of_le z] at e2;cases e2
    have e3:ys.length-j=(ys.length-(j+1))+1:=by omega
    rw[e3,kt] at e2;cases e2;have go:h'.get? o=we { cls:=jn "dict",data:=v7 fs fp }:=(sb.2 o (cy hne)).trans g1;have hes:fs[i]?=we { hash:=(bz (aI P w)).hash ys[i].1,key:=.ref ys[i].2.1,val:=ys[i].2.2 }:=by
     rw[<- gl,g4,bc,aw hlt];rfl
    have hk:(bz (aI P w)).is h' ys[i].1 ys[i].2.1:=(bz (aI P w)).keeps (g5 _ (gu hlt)) h1 rfl sb
    repeat wp_step
    rw[hes]
    repeat (first|(with_reducible refine FW hr hk dd (ci (len i (ic hlt)) (by omega)) fun h2 dd2 sb2=> ?_)|wp_step)
    have go2:h2.get? o=we { cls:=jn "dict",data:=v7 fs fp }:=(sb2.2 o (cy hne)).trans go
    repeat (first|(with_reducible refine pj go2 ?_)|wp_step)
    simp only[bne_self_eq_false,dn,if_false]
    repeat wp_step
    refine⟨i+1,h2,rfl,hlt,rfl,?_,sb.trans sb2⟩;rw[ni hlt,oO];exact dd2
   case fin=>
    rintro b s' ⟨j,h',e2,hj,rfl,dd,sb⟩
    have:j=ys.length:=by
     have:=congrArg k7 e2
     simp at this;omega
    subst this;rw[List.take_length] at dd
    repeat wp_step
    exact h h' dd sb
end
end L2.MB
end
section
namespace L2.MB
open PySem PySem.Spec PyProof.Rows PySem.Builtin
theorem CV (d b:af) (hne:d≠b) (hsys:(b==eu)=false):MeetsIn P w («dict.update» { pos:=[.ref d,.ref b] }) fun A R s=>
  A.units+1<dm/\∃ xs ys:List (List Key×af×ai),ig (bz (aI P w)) s.heap d xs/\ig (bz (aI P w)) s.heap b ys/\xs.length+ys.length<=sizeLine/\
   (∀(i j:Nat) x y,ys[i]?=we x->ys[j]?=we y->(bz (aI P w)).hash x.1=(bz (aI P w)).hash y.1->i=j)/\
   ∀ h',ig (bz (aI P w)) h' d (fK xs ys)->fg d s.heap h'->R (.ok (.ret .none)) { s with heap:=h' }:=by
 rintro A R s ⟨hu,xs,ys,hd,ho,hz,hh,hR⟩;have hr:(bz (aI P w)).room A.in1:=j7 hu;have hd0:=hd;have ho0:=ho;obtain⟨o1,es,ep,h1,h2,h3,h4,h5,h6⟩:=hd;obtain⟨oc,od,odt,osl⟩:=o1;obtain⟨q1,q2,q3⟩:=h2;dsimp only at q1 q2 q3 h3;subst q1 q2 q3 h3;obtain⟨o2,fs,fp,g1,g2,g3,g4,g5,g6⟩:=ho;obtain⟨oc,od,odt,osl⟩:=o2;obtain⟨q1,q2,q3⟩:=g2;dsimp only at q1 q2 q3 g3;subst q1 q2 q3 g3;unfold «dict.update» Dict.selfAndRest
 repeat (first|(with_reducible refine jG hne hsys hr hd0 ho0 hz hh fun h' dd sb=> ?_)|wp_step)
 simp only[bne_self_eq_false,dn,if_false]
 repeat (first|(with_reducible refine jG hne hsys hr hd0 ho0 hz hh fun h' dd sb=> ?_)|wp_step)
 rw[PySem.isSubtype_dict_dict]
 repeat (first|(with_reducible refine jG hne hsys hr hd0 ho0 hz hh fun h' dd sb=> ?_)|wp_step)
 rw[show sf (jn "dict") (jl "__iter__")=pure (we (.builtin "dict.__iter__")) from my.lookup]
 repeat (first|(with_reducible refine jG hne hsys hr hd0 ho0 hz hh fun h' dd sb=> ?_)|wp_step)
 exact hR h' dd sb
noncomputable def KA:List Key->Option (List Int)
 |[]=>we []
 |.inl i::r=>(KA r).map fun is=>i::is
 |.inr _::_=>wf
noncomputable def eQ (k:List Key):Option Int:=(KA k).map fun is=>reduceHash (pz (is.map hashInt))
theorem wV:∀ {k:List Key}{is:List Int},KA k=we is->k=is.map nr
 |[],_,h=>by cases h;rfl
 |.inl i::r,_,h=>by
  obtain⟨js,e,rfl⟩:=aF h;rw[wV e];rfl
 |.inr _::_,_,h=>nomatch h
theorem Bm (h:eQ k=we c):(bz (aI P w)).hash k=c:=by
 obtain⟨is,e,rfl⟩:=aF h;rw[wV e];show reduceHash (pz ((is.map nr).map (aI P w).hash))=_;rw[gy];rfl
noncomputable def eP:List (List Key)->Bool
 |[]=>true
 |k::r=>(eQ k).isSome&&r.all (fun k'=>match eQ k,eQ k' with
  |some a,we b=>decide (a≠b)
  |_,_=>false)&&eP r
theorem rY:∀ {ks:List (List Key)},eP ks=true->∀(i j:Nat) x y,ks[i]?=we x->ks[j]?=we y->(bz (aI P w)).hash x=(bz (aI P w)).hash y->i=j
 |[],_,i,j,x,y,h1,_,_=>by simp at h1
 |k::r,h,i,j,x,y,h1,h2,e=>by
  have h':((eQ k).isSome&&r.all (fun k'=>match eQ k,eQ k' with
   |some a,we b=>decide (a≠b)
   |_,_=>false)&&eP r)=true:=h
  rw[bu,bu] at h';obtain⟨⟨_,ha⟩,hr⟩:=h';have main:∀ y,y∈r->(bz (aI P w)).hash k=(bz (aI P w)).hash y->False:=fun y hy e=>by
   have:=d6.mp ha y hy
   split at this
   ·rename_i a b e1 e2
    rw[Bm e1,Bm e2] at e;simp at this;exact this e
   ·cases this
  cases i with
  |zero=>
   cases j with
   |zero=>rfl
   |succ j=>
    simp at h1 h2;subst h1;exact(main y (fh h2) e).elim
  |succ i=>
   cases j with
   |zero=>
    simp at h1 h2;subst h2;exact(main x (fh h1) e.symm).elim
   |succ j=>
    simp at h1 h2;rw[rY hr i j x y h1 h2 e]
noncomputable def mE (kvs more:List (List Key×V)):List (List Key×V):=more.foldl (fun acc p=>qG acc p.1 p.2) kvs
noncomputable def oQ (kvs more:List (List Key×D)):List (List Key×D):=more.foldl (fun acc p=>iI acc p.1 p.2) kvs
theorem KT.merge:∀ {ms:List (List Key×V)}{ys:List (List Key×af×ai)},KT H ms ys->∀ {kvs:List (List Key×V)}{xs:List (List Key×af×ai)},KT H kvs xs->KT H (mE kvs ms) (fK xs ys)
 |_,_,.nil,_,_,r=>r
 |_,_,.cons (a:=p) (b:=q) h t,kvs,xs,r=>by
  obtain⟨h1,h2,h3⟩:=h;have r':=r.put p.1 h2 h3;rw[h1] at r'
  have:=KT.merge t r'
  rw[<- h1] at this;show KT H (mE (qG kvs p.1 p.2) _) (fK (ji xs q.1 q.2.1 q.2.2) _);rw[<- h1];exact this
theorem KvR.mergeR {K:aa}:∀ {ms:List (List Key×V)}{ns:List (List Key×D)},KvR K ok H ms ns->∀ {vs:List (List Key×V)}{ds:List (List Key×D)},KvR K ok H vs ds->KvR K ok H (mE vs ms) (oQ ds ns)
 |_,_,.nil,_,_,r=>r
 |_,_,.cons h t,vs,ds,r=>KvR.mergeR t (r.put h)
theorem Gj {k:List Key}:(qG kvs k v).length<=kvs.length+1:=kA kvs k v
theorem rQ:∀ {ms kvs:List (List Key×V)},(mE kvs ms).length<=kvs.length+ms.length
 |[],_=>bj _
 |p::r,kvs=>by
  have:=rQ (ms:=r) (kvs:=qG kvs p.1 p.2)
  have:=Gj (kvs:=kvs) (k:=p.1) (v:=p.2)
  show(mE (qG kvs p.1 p.2) r).length<=kvs.length+(r.length+1)
  omega
section
variable {X:Cx}{pins:List (af×Obj)}{σ:St}{H:Hp}{s:aq}{a b:af}{kvs ms:List (List Key×V)}{A:dh}{E:ai->aq->Prop}
theorem Og (hu:A.units+1<dm) (I:Inv X pins σ H s) (ea:H a=we (.dT kvs)) (eb:H b=we (.dT ms)) (hne:a≠b) (hl:kvs.length+ms.length<=sizeLine) (hh:eP (ms.map (·.1))=true)
  (h:∀ s',Inv X pins σ (upd H a (.dT (mE kvs ms))) s'->Q .none s'):bf (model X.prog X.w) A (call (.builtin "dict.update") [.ref a,.ref b]) Q E s:=by
 obtain⟨z,hd,xs,rel,dd⟩:=HS I.hok ea;obtain⟨z2,hd2,ys,rel2,dd2⟩:=HS I.hok eb;have lx:kvs.length=xs.length:=iz rel;have ly:ms.length=ys.length:=iz rel2;have keys:ms.map (·.1)=ys.map (·.1):=by
  clear dd2 ly z2 hl hh eb h
  induction rel2 with
  |nil=>rfl
  |cons h t ih=>rw[bp,bp,ih,h.1]
 rw[keys] at hh;refine uk qg dd.typeIs PySem.F.entry_dict_update (PySem.F.args_dict_update_2 _ _) (CV a b hne hd2) ⟨hu,xs,ys,dd,dd2,by omega,fun i j x y h1 h2 e=> ?_,fun h' dd' hs=>h _ ?_⟩
 ·exact rY hh i j x.1 y.1 (by rw[bc,h1];rfl) (by rw[bc,h2];rfl) e
 ·obtain⟨q,es,ep,hq,h2,h3,h4,_,h5⟩:=dd';refine uF I (by rw[ea];exact gs) hs ⟨q,hq⟩ ⟨ci rQ hl,hd,_,KT.keeps (KT.merge rel2 rel) fun c ws ec=> ?_,q,es,ep,hq,h2,h3,h4,h5⟩;rw[aE (Kq ec ea (fun z=>nomatch z))];exact ec
noncomputable def Ma:V->List V->Hp->VK->Prop:=fun x xs H Q=>∃ a b kvs ms,x=.ref a/\xs=[.ref b]/\H a=we (.dT kvs)/\H b=we (.dT ms)/\a≠b/\kvs.length+ms.length<=sizeLine/\eP (ms.map (·.1))=true/\Q .non (upd H a (.dT (mE kvs ms)))
theorem Kr (hu:X.A.units+1<dm):MtR X "dict.update" Ma:=by
 intro pins s σ H x xs v us Q I rx rs h;obtain⟨a,b,kvs,ms,rfl,rfl,ha,hb,hne,hl,hh,q⟩:=h;obtain⟨u,rfl,ru⟩:=lQ rs;cases rx;cases ru;exact Og hu I ha hb hne hl hh fun s' I'=>⟨.non,_,I',rfl,q⟩
end
section
variable {X:Cx}{cls exC:Nat->af}{E:XE}{e a b c o i value:bw}{es rest:List bw}{fa fb fc fo fi fv:OG D}{fl:OG (List D)}{ft ft':OG Bool}{pos p apos pos' cpos:Pos}{x m:Str}{st:cu}
noncomputable def EJ (ω:Om) (d:D) (as:List D):Option (D×Om):=match d,as with
 |.obj n,[.obj m]=>match ω[n]?,ω[m]? with
  |some (.dt kvs),we (.dt ms)=>if n≠m/\kvs.length+ms.length<=sizeLine/\eP (ms.map (·.1))=true then we (.non,ω.set n (.dt (oQ kvs ms))) else wf
  |_,_=>wf
 |_,_=>wf
theorem Hz {K:aa}:CO cls K Ma EJ:=fun ok H ω x xs a as d ω' Q h1 st ra rs e k=>by
 unfold EJ at e;split at e
 ·rename_i n m
  split at e
  ·rename_i kvs ms hc hc2
   obtain⟨⟨hnm,hl,hh⟩,e3⟩:=bI e;cases e3;obtain⟨a1,rfl,e4,vs,e5,kv⟩:=st.ref ra hc;obtain⟨w,rfl,rw'⟩:=rs.one_inv;obtain⟨b1,rfl,e6,us,e7,kv2⟩:=st.ref rw' hc2;refine⟨a1,b1,vs,us,rfl,rfl,e5,e7,fun z=>hnm (st.inj n m a1 e4 (z ▸ e6)),by rw[kv.length,kv2.length];exact hl,by rw[kv2.keys];exact hh,?_⟩;have nw:=Nw.write (o:=.dT (mE vs us)) (ob:=.dt (oQ kvs ms)) h1 st e4 e5 fun dat=>⟨_,aK,(kv2.mergeR kv).mono dat fun _ _ z=>z⟩;exact k _ ok _ nw .non
  ·cases e
 ·cases e
theorem JS (hu:X.A.units+1<dm) (ho:OE X cls E o fo) (ha:OA X cls E [e] fl) (hbase:gv o "update" X.env (eval o X.env)=eval o X.env:=by rfl)
  (hfew:((de cpos (ar [e] X.env)).all (fun x=> !x.1)&&(jk cpos (hV [] X.env)).all (fun x=>x.1.isSome)
   &&decide ([e].length+([]:List jf).length+(if([]:List jf).isEmpty then 0 else 1)<30))=true:=by rfl)
  (hline:(apos.endLine==cpos.line)=true:=by rfl) (hs:ar [e] X.env=(false,eval e X.env)::ar [] X.env:=by rfl) (hplain:(de cpos (ar [] X.env)).any (·.1)=false:=by rfl):
  OE X cls E (.Call (.Attribute o "update" apos) [e] [] cpos) (oK EJ fo fl):=Nl qg PySem.F.type_dict_update (Kr hu) Hz ho ha hbase hfew hline hs hplain
end
end L2.MB
end
section
namespace L2.MB
theorem _root_.L2.Inv.movedN (I:Inv X pins σ H s) (k:∀ b o,b≠X.env.locals->s.heap.get? b=we o->h'.get? b=we o) (ns:∀ m,s.heap.Ns X.env.locals m->h'.Ns X.env.locals m)
  (old:∀ b o,s.heap.get? b=we o->H' b=H b) (sub:∀ b u,H b=we u->H' b=we u) (hok:HOk X.prog X.w H' h'):Inv X pins σ H' { s with heap:=h',toks:=t' }:=by
 obtain⟨m,hn,lk⟩:=I.loc;obtain⟨oL,esL,epL,hoL,hdL,rL⟩:=id hn;have nl:∀ {b:af}{o:Obj},X.s₀.heap.get? b=we o->b≠X.env.locals:=fun e z=>absurd (br e) (by rw[z];exact si.mpr I.ok.above);have nc:∀ {c:af}{v:Option ai}{o:Obj},s.heap.get? c=we o->o.data=.cell v->c≠X.env.locals:=fun {c v o} e1 e2 z=>by
  rw[z,hoL] at e1;cases e1;rw[hdL] at e2;cases e2
 have th:∀ b o,s.heap.get? b=we o->H b=wf->H' b=wf:=fun b o e n=>(old b o e).trans n;refine⟨I.ok,I.os,I.bare,⟨fun b o e n hb hx=>k b o (nl e) (I.base.keep b o e n hb hx),fun b o e n hb hx=> ?_,fun b o e n hx=> ?_,fun b o e hx=> ?_,fun b xs e=>sub _ _ (I.base.tups b xs e),fun b u v e=>sub _ _ (I.base.frzs b u v e),fun b ps e=> ?_⟩,⟨m,ns m hn,fun i x v e1 e2 e3=> ?_⟩,fun x c e=> ?_,th _ _ hoL I.free,fun x c e=> ?_,fun p hp=> ?_,hok,I.len⟩
 ·obtain⟨sl,z⟩:=I.base.slot b o e n hb hx;exact⟨sl,k b _ (nl e) z⟩
 ·obtain⟨o',z⟩:=I.base.there b o e hx;exact th b o' z (I.base.free b o e n hx)
 ·obtain⟨o',z⟩:=I.base.there b o e hx;exact⟨o',k b o' (nl e) z⟩
 ·obtain⟨m,z⟩:=I.base.tbls b ps e;exact⟨m,sub _ _ z⟩
 ·obtain⟨u,ru,z⟩:=lk i x v e1 e2 e3;refine⟨u,ru,?_⟩;rcases z with z|⟨q,c,e,oc,w1,w2⟩
  ·exact .inl z
  ·exact .inr ⟨q,c,e,oc,k c oc (nc w1 w2) w1,w2⟩
 ·obtain⟨v,oc,w1,w2⟩:=I.cell x c e;exact⟨v,oc,k c oc (nc w1 w2) w1,w2⟩
 ·obtain⟨v,oc,w1,w2⟩:=I.cell x c e;exact th c oc w1 (I.freeC x c e)
 ·obtain⟨z1,z2,z3,z4⟩:=I.pin p hp;exact⟨k p.1 p.2 z3 z1,th _ _ z1 z2,z3,z4⟩
theorem _root_.L2.Inv.moved (I:Inv X pins σ H s) (k:∀ b o,b≠X.env.locals->s.heap.get? b=we o->h'.get? b=we o) (ns:∀ m,s.heap.Ns X.env.locals m->h'.Ns X.env.locals m):Inv X pins σ H { s with heap:=h',toks:=t' }:=
 I.movedN k ns (fun _ _ _=>rfl) (fun _ _ e=>e) fun b u e=>by
  have nl:∀ {c:af}{o:HO},H c=we o->c≠X.env.locals:=fun e z=>by rw[z,I.free] at e;cases e
  refine(I.hok b u e).stay (fun c v hc q=> ?_) (fun _ q=>q) fun _ _ q=>q;rcases hc with rfl|hc
  ·exact k c v (nl e) q
  ·exact k c v (nl hc) q
noncomputable def Pv:List Int->List Int->Bool:=HT.lexLt
noncomputable def Hh:List D->Option (List Int)
 |[]=>we []
 |.int i::r=>(Hh r).map fun is=>i::is
 |_::_=>wf
noncomputable def fL (a b:D):Option Bool:=match a,b with
 |.int i,.int j=>we (decide (i<j))
 |.str x,.str y=>we (decide (x.cps.toList<y.cps.toList))
 |.tup xs,.tup ys=>(Hh xs).bind fun is=>(Hh ys).map fun js=>Pv is js
 |_,_=>wf
noncomputable def Ou (n:Nat):List D->List D->Bool->Option Bool
 |a::r,b::r',fin=>match eqD n a b with
  |some true=>Ou n r r' fin
  |some false=>fL a b
  |none=>wf
 |_,_,fin=>we fin
noncomputable def Ji {α:Type} (lt:Nat->Nat->Option Bool):wc α->Option α
 |.ret a=>we a
 |.ask i j k=>(lt i j).bind fun c=>Ji lt (k c)
theorem Ds (hc:∀ i j c C,lt i j=we c->C c s->cmp i j C s):∀ {t:wc α}{a:α},Ji lt t=we a->Q a s->PySem.W.KasT.kasWp cmp t Q s
 |.ret b,a,h,q=>by
  rw[PySem.W.KasT.kasWp.eq_1];cases h;exact q
 |.ask i j k,a,h,q=>by
  rw[PySem.W.KasT.kasWp.eq_2];obtain⟨c,e1,e2⟩:=aN (show(lt i j).bind _=_ from h);exact hc i j c _ e1 (Ds hc e2 q)
noncomputable def dP (n:Nat) (a b:D):Option Bool:=match a,b with
 |.tup xs,.tup ys=>Ou n xs ys (decide (xs.length<ys.length))
 |_,_=>wf
noncomputable def kB:D->Option Bool
 |.tup (.int _::_)=>we true
 |.tup (.str _::_)=>we false
 |_=>wf
noncomputable def iO (ds:List D):Bool:=ds.all (fun d=>kB d==we true)||ds.all (fun d=>kB d==we false)
noncomputable def eM (n:Nat) (ds:List D):Option (List D):=if ds.length<2 then we ds else if ds.length<64/\iO ds=true then
 (Ji (fun i j=>dP n (ds.getD i .non) (ds.getD j .non)) (PySem.W.kas_sort ds.length)).bind fun p=>if p.toList.length<=64 then we (p.toList.map fun i=>ds.getD i .non) else wf else wf
section
variable {X:Cx}{pins:List (af×Obj)}{σ:St}{H:Hp}{s:aq}{ok:Okk}{A:dh}{E:ai->aq->Prop}
theorem zE {K:aa}:∀ {ds:List D}{is:List Int}{xs:List V}{us:List ai},Hh ds=we is->Reps K ok H xs ds->Vals xs us->j5 us is
 |[],_,_,_,h,.nil,.nil=>by cases h;exact .nil
 |.int i::r,_,_,_,h,.cons rr rs,.cons v vs=>by
  obtain⟨js,e,rfl⟩:=aF h;obtain rfl:=rr.int_inv;obtain⟨t,rfl⟩:=v;exact .cons _ _ (zE e rs vs)
theorem Kx (I:Inv X pins σ H s) (f:Bool) (hf:f=true->kB (.tup [a])≠wf/\kB (.tup [b])≠wf) (ra:Rep X.K ok H x a) (rb:Rep X.K ok H y b) (rv:RelV x v) (ru:RelV y u) (e:fL a b=we k) (hu:A.units<dm) (q:Q k s):
  bf (model X.prog X.w) A (oneLt' f v u) Q E s:=by
 unfold fL at e;split at e
 ·cases e;obtain rfl:=ra.int_inv;obtain rfl:=rb.int_inv;obtain⟨t,rfl⟩:=rv;obtain⟨t',rfl⟩:=ru;cases f with
  |true=>exact PySem.W.kat_lt_int q
  |false=>exact qq _ _ (vg q)
 ·cases e;obtain rfl:=ra.str_inv;obtain rfl:=rb.str_inv;obtain⟨t,rfl⟩:=rv;obtain⟨t',rfl⟩:=ru;cases f with
  |true=>exact PySem.W.kas_lt_str q
  |false=>exact qq _ _ (lt_str q)
 ·obtain⟨is,e1,e⟩:=aN e;obtain⟨js,e2,rfl⟩:=aF e;cases f with
  |true=>exact absurd rfl (hf rfl).1
  |false=>
   obtain⟨p,xs,rfl,g,rs⟩:=ra.tup_inv;obtain⟨p',xs',rfl,g',rs'⟩:=rb.tup_inv;cases rv;cases ru;obtain⟨its,rr,pl,_⟩:=I.tuple g.sq;obtain⟨its',rr',pl',_⟩:=I.tuple g'.sq;exact qq _ _ (HT.lt_tupInts pl pl' (by simpa using zE e1 rs rr) (by simpa using zE e2 rs' rr') hu q)
 ·cases e
theorem IM (I:Inv X pins σ H s) (hu:A.units+n<dm) (q:Q k s):∀ {as bs:List D}{xs ys:List V}{vs us:List ai} (i:Nat),(i=0->kB (.tup as)≠wf/\kB (.tup bs)≠wf)->Reps X.K ok H xs as->Reps X.K ok H ys bs->Vals xs vs->Vals ys us->Ou n as bs fin=we k->
  PySem.W.KatLex X.prog X.w A true fin Q (vs.zip us) i s
 |[],bs,_,_,_,us,i,_,.nil,r2,.nil,v2,e=>by
  have e':we fin=we k:=e;cases e';exact vv q
 |a::as,[],_,_,_,_,i,_,.cons r1 rs1,.nil,.cons w1 ws1,.nil,e=>by
  have e':we fin=we k:=e;cases e';exact vv q
 |a::as,b::bs,_,_,_,_,i,hk,.cons r1 rs1,.cons r2 rs2,.cons w1 ws1,.cons w2 ws2,e=>by
  refine PySem.W.kat_cons ?_;have e':(match eqD n a b with
   |some true=>Ou n as bs fin
   |some false=>fL a b
   |none=>wf)=we k:=e
  cases hq:eqD n a b with
  |none=>rw[hq] at e';cases e'
  |some c=>
   rw[hq] at e';refine xG I n r1 r2 w1 w2 hq hu X.prog X.w _ _ ?_;cases c with
   |true=>exact PySem.W.kat_yes (IM I hu q (i+1) (fun z=>absurd z (Nat.succ_ne_zero i)) rs1 rs2 ws1 ws2 e')
   |false=>
    refine PySem.W.kat_no ?_;refine Kx I (true&&i==0) (fun hf=> ?_) r1 r2 w1 w2 e' (by omega) q;have hi:i=0:=by simpa using hf
    obtain⟨h1,h2⟩:=hk hi;constructor
    ·intro z;apply h1;cases a <;> first|rfl|cases z
    ·intro z;apply h2;cases b <;> first|rfl|cases z
theorem On (I:Inv X pins σ H s) (hu:A.units+n<dm) (h1:kB a≠wf) (h2:kB b≠wf) (ra:Rep X.K ok H x a) (rb:Rep X.K ok H y b) (rv:RelV x v) (ru:RelV y u) (e:dP n a b=we k) (q:Q k s):
  bf (model X.prog X.w) A (keyLt' (tuples' true) v u) Q E s:=by
 unfold dP at e;split at e
 ·rename_i as bs
  obtain⟨p,xs,rfl,g,rs⟩:=ra.tup_inv;obtain⟨p',xs',rfl,g',rs'⟩:=rb.tup_inv;cases rv;cases ru;obtain⟨its,rr,⟨o,t1,t2,m,t3⟩,_⟩:=I.tuple g.sq;obtain⟨its',rr',⟨o',t1',t2',m',t3'⟩,_⟩:=I.tuple g'.sq;refine PySem.W.kat_lt t1 t3 t1' t3' ?_;have l1:its.toArray.size=as.length:=by rw[bg,<- rr.length,rs.length]
  have l2:its'.toArray.size=bs.length:=by rw[bg,<- rr'.length,rs'.length]
  rw[l1,l2];simpa using IM I hu q 0 (fun _=>⟨h1,h2⟩) rs rs' rr rr' e
 ·cases e
theorem Vals.getD (r:Vals xs vs) (i:Nat):RelV (xs.getD i .non) (vs.getD i .none):=by
 rcases me i xs.length with h|h
 ·obtain⟨u,e,ru⟩:=r.get (i:=i) (x:=xs[i]) (by simp[h]);rw[am,am,e,aw h];exact ru
 ·rw[am,am,cz h,cz (by rw[<- r.length];exact h)];rfl
theorem Reps.getD {K:aa} (r:Reps K ok H xs ds) (i:Nat):Rep K ok H (xs.getD i .non) (ds.getD i .non):=by
 rcases me i ds.length with h|h
 ·obtain⟨v,e,rv⟩:=r.get (i:=i) (d:=ds[i]) (by simp[h]);rw[am,am,e,aw h];exact rv
 ·rw[am,am,cz h,cz (by rw[r.length];exact h)];exact .non
theorem Reps.pick {K:aa} (r:Reps K ok H xs ds):∀ is:List Nat,Reps K ok H (is.map fun i=>xs.getD i .non) (is.map fun i=>ds.getD i .non)
 |[]=>.nil
 |i::r'=>.cons (Reps.getD r i) (Reps.pick r r')
theorem Vals.pick (r:Vals xs vs):∀ is:List Nat,Vals (is.map fun i=>xs.getD i .non) (is.map fun i=>vs.getD i .none)
 |[]=>.nil
 |i::r'=>.cons (Vals.getD r i) (Vals.pick r r')
theorem xE (I:Inv X pins σ H s) (c:Bool):∀ {ds:List D}{xs:List V}{vs:List ai},ds.all (fun d=>kB d==we c)=true->Reps X.K ok H xs ds->Vals xs vs->∃ fs,PySem.W.KatTups s.heap vs fs/\fs.length=ds.length/\∀ v∈fs,PySem.W.Looks (model X.prog X.w) s.heap (typeOf v) (.type (if c then "int" else "str"))
 |[],_,_,_,.nil,.nil=>⟨[],by rw[PySem.W.KatTups.eq_1];trivial,rfl,fun v hv=>absurd hv (by simp)⟩
 |d::ds,_,_,h,.cons r rs,.cons w ws=>by
  rw[List.all_cons,bu] at h;obtain⟨fs,h1,h2,h3⟩:=xE I c h.2 rs ws;have hd:kB d=we c:=by simpa using h.1
  cases d with
  |tup as=>
   cases as with
   |nil=>cases hd
   |cons a as=>
    obtain⟨p,xs,rfl,g,rs'⟩:=r.tup_inv;cases w;cases rs' with
    |cons ra rs'=>
     obtain⟨its,rr,⟨o,t1,t2,m,t3⟩,_⟩:=I.tuple g.sq;cases rr with
     |cons wa rr=>
      rename_i u us
      refine⟨u::fs,?_,by simp[h2],fun v hv=> ?_⟩
      ·rw[PySem.W.KatTups.eq_2];exact⟨⟨p,o,_,m,rfl,t1,t2,t3,by simp⟩,h1⟩
      ·rcases ak.mp hv with rfl|hv
       ·cases a with
        |int i=>
         cases hd;obtain rfl:=ra.int_inv;obtain⟨t,rfl⟩:=wa;intro A Q E s' _ q;exact ao q
        |str i=>
         cases hd;obtain rfl:=ra.str_inv;obtain⟨t,rfl⟩:=wa;intro A Q E s' _ q;exact ao q
        |_=>cases hd
       ·exact h3 v hv
  |_=>cases hd
end
noncomputable def wJ (h h0:cx) (L a:af):List (af×Obj):=(bq h.objs.size).filterMap fun b=>if b=L∨b=a∨(h0.get? b).isSome=true then wf else(h.get? b).map fun o=>(b,o)
theorem Cb (e:h.get? b=we o) (h1:b≠L) (h2:b≠a) (h3:h0.get? b=wf):(b,o)∈wJ h h0 L a:=by
 unfold wJ;refine jb.mpr ⟨b,c5.mpr (br e),?_⟩;rw[if_neg (by simp[h1,h2,h3]),e];rfl
theorem oI (hp:p∈wJ h h0 L a):h.get? p.1=we p.2/\p.1≠L/\p.1≠a/\h0.get? p.1=wf:=by
 obtain⟨b,_,e⟩:=jb.mp hp
 by_cases hc:b=L∨b=a∨(h0.get? b).isSome=true
 ·rw[if_pos hc] at e;cases e
 ·rw[if_neg hc] at e;obtain⟨o,e1,e2⟩:=aF e;subst e2;refine⟨e1,fun z=>hc (.inl z),fun z=>hc (.inr (.inl z)),?_⟩;cases q:h0.get? b with
  |none=>rfl
  |some u=>exact absurd (.inr (.inr (by rw[q];rfl))) hc
theorem Nx {h:cx} (h1:h.Ns a m) (h2:h.Ns a m'):m=m':=by
 obtain⟨o,es,ep,e1,e2,_,e3⟩:=h1;obtain⟨o',es',ep',g1,g2,_,g3⟩:=h2;rw[e1] at g1;cases g1;rw[e2] at g2;cases g2
 funext x
 rw[<- e3,g3]
theorem DI:∀ {us:List ai},xs.length=us.length->(∀(j:Nat) x v,xs[j]?=we x->us[j]?=we v->RelV x v)->Vals xs us:=by
 induction xs with
 |nil=>
  intro us h _;cases us with
  |nil=>exact .nil
  |cons _ _=>cases h
 |cons x r ih=>
  intro us h g;cases us with
  |nil=>cases h
  |cons u us=>exact .cons (g 0 x u rfl rfl) (ih (by simpa using h) fun j y v e1 e2=>g (j+1) y v (by simpa using e1) (by simpa using e2))
section
variable {X:Cx}{pins:List (af×Obj)}{σ:St}{H:Hp}{s:aq}{ok:Okk}{A:dh}{E:ai->aq->Prop}
theorem Kw (hk:iO ds=true) (e:dP n (ds.getD i .non) (ds.getD j .non)=we c):kB (ds.getD i .non)≠wf/\kB (ds.getD j .non)≠wf:=by
 have inr:∀ i,ds.getD i .non≠ .non->kB (ds.getD i .non)≠wf:=fun i hi=>by
  have hlt:i<ds.length:=by
   rcases me i ds.length with h|h
   ·exact h
   ·rw[am,cz h] at hi;exact absurd rfl hi
  have hm:ds.getD i .non∈ds:=by
   rw[am,aw hlt];exact gu hlt
  unfold iO at hk;rw[ib] at hk;rcases hk with hk|hk
  ·have:=d6.mp hk _ hm
   intro z;rw[z] at this;cases this
  ·have:=d6.mp hk _ hm
   intro z;rw[z] at this;cases this
 refine⟨inr i fun z=> ?_,inr j fun z=> ?_⟩
 ·rw[z] at e;cases e
 ·rw[z] at e;unfold dP at e;split at e
  ·rename_i h2
   cases h2
  ·cases e
theorem nX (I:Inv X pins σ H s) (col:∀ {R:List ai->aq->Prop},(∀(h':cx) (tk:Nat) (acc:Array ai),(∀ b o,s.heap.get? b=we o->h'.get? b=we o)->ItemsOf P acc n->R acc.toList { s with heap:=h',toks:=tk })->bf (model X.prog X.w) A.in1 (collect (.ref r)) R E s) (hn2:2<=n) (hn:n<64) (hu:A.units+(m+2)<dm)
  (hx:xs.length=n) (hP:∀(j:Nat) v x,P j v->xs[j]?=we x->RelV x v) (rs:Reps X.K ok H xs ds) (hs:eM m ds=we out)
  (h:∀(h':cx) (tk:Nat) (ys:List V) (l:af),H l=wf->Inv X pins σ (upd H l (.lst ys)) { s with heap:=h',toks:=tk }->Reps X.K ok H ys out->Q (.ref l) { s with heap:=h',toks:=tk }):
  bf (model X.prog X.w) A (call (.builtin "sorted") [.ref r]) Q E s:=by
 have hl':ds.length=n:=by rw[<- rs.length];exact hx
 unfold eM at hs;rw[if_neg (by omega)] at hs;obtain⟨⟨_,hk⟩,hs⟩:=cL hs;obtain⟨p,hrun,hs⟩:=aN hs;obtain⟨hpl,hs⟩:=bI hs;refine pv kind_sorted plain_sorted entry_sorted (args_sorted1 _) ?_;unfold Builtin.«sorted»;refine ae (m:=checkCount "sorted" 1 1 _) (ao (ae (col fun h1 tk acc kp it=> ?_)));have hl:acc.toList.length=n:=by rw[du];exact it.1
 refine ae (s0 ?_ (by rw[hl,b8];omega));have o1:(h1.push (gx "list" acc.toList.toArray 0)).get? h1.objs.size=we (gx "list" acc.toList.toArray 0):=b0 _ rfl;have nw:s.heap.get? h1.objs.size=wf:=by
  cases q:s.heap.get? h1.objs.size with
  |none=>rfl
  |some u=>exact absurd (br (kp _ _ q)) (f9 _)
 have hH:H h1.objs.size=wf:=by
  cases q:H h1.objs.size with
  |none=>rfl
  |some u=>
   obtain⟨v,w⟩:=HOk.obj I.hok q;rw[nw] at w;cases w
 obtain⟨mL,hnL,_⟩:=I.loc;have kp2:∀ b o,s.heap.get? b=we o->(h1.push (gx "list" acc.toList.toArray 0)).get? b=we o:=fun b o e=>bh _ (kp b o e);have fr:Fr X.base X.env.locals (h1.push (gx "list" acc.toList.toArray 0)) mL:=⟨hnL.keeps kp2,fun b o e=>kp2 b o (I.bk b o e),ci I.ok.bsz I.ok.above⟩;have aL:h1.objs.size≠X.env.locals:=fun z=>by
  obtain⟨oL,_,_,hoL,_⟩:=id hnL;rw[<- z,nw] at hoL;cases hoL
 have hb0:X.base.get? h1.objs.size=wf:=by
  cases q:X.base.get? h1.objs.size with
  |none=>rfl
  |some u=>
   have:=I.bk _ _ q
   rw[nw] at this;cases this
 have rv:Vals xs acc.toList:=by
  refine DI (by rw[hx,hl]) fun j x v e1 e2=> ?_;exact hP j v x (it.2 j v (by rw[<- gl];exact e2)) e1
 refine ae (ij (g9 slot_list_sort ⟨_,o1,rfl⟩ entry_list_sort (PySem.W.kat_list_sort (s:={ s with heap:=h1.push (gx "list" acc.toList.toArray 0),toks:=tk }) (news:=wJ (h1.push (gx "list" acc.toList.toArray 0)) X.base X.env.locals h1.objs.size) fr (fun q hq=>let ⟨z1,z2,z3,z4⟩:=oI hq;⟨z1,z2,z4⟩) o1 aL hb0 (fun q hq=>(oI hq).2.2.1) (by rw[hl];exact hn2) (by rw[hl];exact hn) fun e1 h' fr' nw'=> ?_) (args_list_sort _)))
 -- the state in its midst
 have keep:∀ {h':cx},Fr X.base X.env.locals h' mL->News X.base X.env.locals h' (wJ (h1.push (gx "list" acc.toList.toArray 0)) X.base X.env.locals h1.objs.size)->∀ b o,b≠X.env.locals->s.heap.get? b=we o->h'.get? b=we o:=fun {h'} fr' nw' b o hb e=>by
  have hne:b≠h1.objs.size:=fun z=>by rw[z,nw] at e;cases e
  cases q:X.base.get? b with
  |some u=>
   have:=I.bk b u q
   rw[e] at this;cases this;exact fr'.keep b _ q
  |none=>exact(nw' _ (Cb (kp2 b o e) hb hne q)).1
 have nsk:∀ {h':cx},Fr X.base X.env.locals h' mL->∀ m,s.heap.Ns X.env.locals m->h'.Ns X.env.locals m:=fun {h'} fr' m hm=>by
  rw[Nx hm hnL];exact fr'.ns
 have I1:Inv X pins σ H { s with heap:=h',toks:=tk }:=I.moved (keep fr' fun q hq=>nw' q (aj _ hq)) (nsk fr');have hka:∃ c:Bool,ds.all (fun d=>kB d==we c)=true:=by
  unfold iO at hk;rw[ib] at hk;rcases hk with hk|hk
  ·exact⟨true,hk⟩
  ·exact⟨false,hk⟩
 obtain⟨c,hka⟩:=hka;obtain⟨fs,f1,f2,f3⟩:=xE I1 c hka rs rv;refine PySem.W.kat_kind f1 (by rw[f2];omega) f3 (by cases c <;> rfl) ?_;have hT:((jn (if c=true then "int" else "str")) !=jn "tuple")=true:=by cases c <;> rfl
 rw[hT,hl,<- hl'];refine Ds (fun i j c C e q=> ?_) hrun ?_
 ·obtain⟨k1,k2⟩:=Kw hk e;exact On I1 (eL (eL hu)) k1 k2 (Reps.getD rs i) (Reps.getD rs j) (Vals.getD rv i) (Vals.getD rv j) e q
 ·refine⟨_,_,fr',nw',.head (fun q hq=>(oI hq).2.2.1),fun h2 cc fr2 nw2=>⟨_,rfl,?_⟩⟩;have na2:h2.get? h1.objs.size=we (PySem.W.listOf (List.map (fun i=>acc.toList.getD i hW) p.toList).toArray cc):=(nw2 _ au).1;have I2:Inv X pins σ (upd H h1.objs.size (.lst (p.toList.map fun i=>xs.getD i .non))) { s with heap:=h2,toks:=tk }:=by
   have kk:=keep fr2 fun q hq=>nw2 q (aj _ hq);refine I.movedN kk (nsk fr2) (fun b o e=> ?_) (fun b u e=> ?_) fun b u e=> ?_
   ·rw[aE (fun z=>by rw[z,nw] at e;cases e)]
   ·rw[aE (aH e hH)];exact e
   ·by_cases hb:b=h1.objs.size
    ·subst hb;rw[aK] at e;cases e;refine⟨?_,_,cc,Vals.pick rv p.toList,na2⟩;rw[av,b8];omega
    ·rw[aE hb] at e;have nl:∀ {c:af}{o:HO},H c=we o->c≠X.env.locals:=fun e z=>by rw[z,I.free] at e;cases e
     refine(I.hok b u e).stay (fun c v hc q=> ?_) (fun c q=>by rw[aE (aH q hH)];exact q) fun c xs q=>by rw[aE (aH q hH)];exact q
     rcases hc with rfl|hc
     ·exact kk c v (nl e) q
     ·exact kk c v (nl hc) q
  cases hs;exact ao ⟨_,rfl,h h2 tk _ _ hH I2 (Reps.pick rs p.toList)⟩
theorem nV (I:Inv X pins σ H s) (K:o7 X.prog X.w T r d n P OK) (hh:A.handled=wf) (hok:OK s.heap) (hn2:2<=n) (hn:n<64) (hu:A.units+(m+2)<dm)
  (hx:xs.length=n) (hP:∀(j:Nat) v x,P j v->xs[j]?=we x->RelV x v) (rs:Reps X.K ok H xs ds) (hs:eM m ds=we out)
  (h:∀(h':cx) (tk:Nat) (ys:List V) (l:af),H l=wf->Inv X pins σ (upd H l (.lst ys)) { s with heap:=h',toks:=tk }->Reps X.K ok H ys out->Q (.ref l) { s with heap:=h',toks:=tk }):
  bf (model X.prog X.w) A (call (.builtin "sorted") [.ref r]) Q E s:=
 nX I (fun h=>tj (A:=A.in1) K hh hok (by rw[b8];omega) h) hn2 hn hu hx hP rs hs h
end
section
variable {X:Cx}{cls exC:Nat->af}{E:XE}{e a b c o i value:bw}{es rest:List bw}{fa fb fc fo fi fv:OG D}{fl:OG (List D)}{ft ft':OG Bool}{pos p apos pos' cpos:Pos}{x m:Str}{st:cu}
noncomputable def OY (K:aa) (n:Nat):List V->Hp->VK->Prop:=fun xs H Q=>∃ v d kvs ds out ok,xs=[.ref v]/\H v=we (Ly v d)/\H d=we (.dT kvs)/\Reps K ok H (kvs.map (·.2)) ds/\eM n ds=we out/\∀ l ys,H l=wf->Reps K ok H ys out->Q (.ref l) (upd H l (.lst ys))
theorem oA (h:eM n ds=we out) (hl:ds.length<2):out=ds:=by
 unfold eM at h;rw[if_pos hl] at h;cases h;rfl
theorem nZ (h:eM n ds=we out) (hl:¬ ds.length<2):ds.length<64:=by
 unfold eM at h;rw[if_neg hl] at h;exact(cL h).1.1
theorem Ft (hc:X.calm=true) (hu:X.A.units+(n+2)<dm):CallR X (.builtin "sorted") (OY X.K n):=by
 intro pins s σ H xs us Q I r h;obtain⟨v,d,kvs,ds,out,ok,rfl,hv,hd,rs,hs,q⟩:=h;have hlen:ds.length=kvs.length:=by rw[<- rs.length,av]
 by_cases hl:ds.length<2
 ·obtain rfl:=oA hs hl;exact xR hc pins s σ H _ us Q I r ⟨v,d,kvs,rfl,hv,hd,by omega,fun l nl=>q l _ nl rs⟩
 ·obtain⟨u,rfl,rx⟩:=lQ r;cases rx;obtain⟨lo,hz,es,ep,rd,sz,it⟩:=pP I (.inl hd);have vw:s.heap.IsValuesView v d:=(show ObjOk X.prog X.w H s.heap v (Ly v d) from I.hok v _ hv).1;have h64:=nZ hs hl;refine nV I (rC (d:=d) (es:=es) (ep:=ep)) (I.ok.hd hc) ⟨vw,rd⟩ (by omega) (by omega) hu (by rw[av,sz]) (fun j v x hp hx=> ?_) rs hs fun h' tk ys l nl I' rs'=>⟨.ref l,_,I',rfl,q l ys nl rs'⟩;obtain⟨y,y1,y2⟩:=hp;obtain⟨p,p1,p2,_⟩:=it j y y1;rw[bc,p1] at hx;cases hx;rw[y2];exact p2
noncomputable def EK (n:Nat) (ω:Om) (d:D):Option D:=match cellOf ω d with
 |some (.dt kvs)=>(eM n (kvs.map (·.2))).map D.lst
 |_=>wf
noncomputable def GH (n:Nat) (f:OG D):OG D:=oB f fun d _ ω=>oR (pu (EK n ω d) ω)
theorem JT (hu:X.A.units+(n+2)<dm) (hc:X.calm=true) (hg:Gl X "sorted") (hm:X.mg "sorted"=wf) (ho:OE X cls E o fo) (hbase:gv o "values" X.env (eval o X.env)=eval o X.env:=by rfl) (hline:(ap.endLine==cp.line)=true:=by rfl)
  (he:ar [.Call (.Attribute o "values" ap) [] [] cp] X.env=(false,eval (.Call (.Attribute o "values" ap) [] [] cp) X.env)::ar [] X.env:=by rfl) (hpl:(de pos (ar [] X.env)).any (·.1)=false:=by rfl):
  OE X cls E (.Call (.Name "sorted" p) [.Call (.Attribute o "values" ap) [] [] cp] [] pos) (GH n fo):=
 (nC (Ft hc hu) hg hm boot.sorted (gN (My qi qf PySem.F.type_dict_values Ef ho hbase hline) rM he) (by decide) (by decide) he hpl).imp fun σ H Q ⟨ok,ρ,ω,r,ω',P,e,q⟩=>by
  refine tO.then_ P e (fun c z=>by subst z;exact q) fun d ω1 v ok1 H1 e1 n1 P1 r1=> ?_;obtain⟨y,e3,rfl⟩:=cA e1;obtain⟨ue3,rfl⟩:=cK e3;unfold EK at ue3;split at ue3
  ·rename_i kvs hcell
   obtain⟨k,rfl,e4⟩:=dH hcell;obtain⟨out,e5,rfl⟩:=aF ue3;obtain⟨a,rfl,e6,vs,e7,kv⟩:=P1.st.ref r1 e4;refine⟨.inr (.inr (.inl ⟨rfl,.inr ⟨vs,e7⟩⟩)),a,vs,rfl,rfl,e7,fun w nw=> ?_⟩;have hne:a≠w:=aH e7 nw;have s2:=cC (o:=Ly w a) nw;refine⟨w,a,vs,_,out,ok1,rfl,aK,by rw[aE hne];exact e7,kv.vals.same s2,e5,fun l ys nl rs=> ?_⟩;have s3:=cC (o:=.lst ys) nl;exact q _ ok1 _ (n1.trans (.same P1.okh P1.st (s2.trans s3))) (.lst_new (P1.okh l (s2.free nl)) nl rs)
  ·cases ue3
noncomputable def Mc (K:aa) (n:Nat):List V->Hp->VK->Prop:=fun xs H Q=>∃ d kvs out ok,xs=[.ref d]/\H d=we (.dT kvs)/\OkH ok H/\eM n (kvs.map fun p=>bZ p.1)=we out/\∀ l ys,H l=wf->Reps K ok H ys out->Q (.ref l) (upd H l (.lst ys))
theorem wO {K:aa} (hok:OkH ok H):∀ {kvs:List (List Key×V)}{as:List af},as.length=kvs.length->(∀(j:Nat) p a,kvs[j]?=we p->as[j]?=we a->H a=we (.tup (p.1.map kV)))->Reps K ok H (as.map V.ref) (kvs.map fun p=>bZ p.1)
 |[],[],_,_=>.nil
 |p::kvs,a::as,hl,h=>by
  refine .cons ?_ (wO hok (by simpa using hl) fun j q b e1 e2=>h (j+1) q b (by simpa using e1) (by simpa using e2))
  have:=h 0 p a rfl rfl
  exact .tup ⟨hok.tp a _ this,this⟩ (zA p.1)
 |[],_::_,hl,_=>by cases hl
 |_::_,[],hl,_=>by cases hl
theorem Fv (hc:X.calm=true) (hu:X.A.units+(n+2)<dm):CallR X (.builtin "sorted") (Mc X.K n):=by
 intro pins s σ H xs us Q I r h;obtain⟨d,kvs,out,ok,rfl,hd,hok,hs,q⟩:=h;obtain⟨u,rfl,rx⟩:=lQ r;cases rx;obtain⟨lo,hz,es,ep,rd,sz,it⟩:=pP I (.inl hd)
 -- the keys' addresses
 have hex:∀ j,j<es.size->∃ a,∃ y p,es[j]?=we y/\kvs[j]?=we p/\y.key=.ref a/\H a=we (.tup (p.1.map kV)):=fun j hj=>by
  obtain⟨p,p1,_,a,p2,p3⟩:=it j es[j] (by simp[hj]);exact⟨a,_,p,by simp[hj],p1,p2,p3⟩
 have hass:∃ as:List af,as.length=kvs.length/\∀(j:Nat) a,as[j]?=we a->∃ y p,es[j]?=we y/\kvs[j]?=we p/\y.key=.ref a/\H a=we (.tup (p.1.map kV)):=by
  refine⟨(bq es.size).map fun j=>if hj:j<es.size then(hex j hj).choose else 0,by simp[sz],fun j a ha=> ?_⟩;rw[bc] at ha;obtain⟨j',e1,e2⟩:=aF ha;have hj0:j<es.size:=by
   rcases me j es.size with z|z
   ·exact z
   ·rw[cz (by simpa using z)] at e1;cases e1
  have hj:j<es.size/\j'=j:=by
   rw[fz hj0] at e1;cases e1;exact⟨hj0,rfl⟩
  obtain⟨hj,rfl⟩:=hj;rw[dif_pos hj] at e2;rw[<- e2];exact(hex _ hj).choose_spec
 obtain⟨as,al,ah⟩:=hass;have rs:Reps X.K ok H (as.map V.ref) (kvs.map fun p=>bZ p.1):=wO hok al fun j p a e1 e2=>by
  obtain⟨y,p',_,g2,_,g4⟩:=ah j a e2;rw[e1] at g2;cases g2;exact g4
 have hPP:∀(j:Nat) v x,(∃ e,es[j]?=we e/\v=e.key)->(as.map V.ref)[j]?=we x->RelV x v:=fun j v x ⟨e,e1,e2⟩ hx=>by
  rw[bc] at hx;obtain⟨a,a1,a2⟩:=aF hx;subst a2;obtain⟨y,p,g1,_,g3,_⟩:=ah j a a1;rw[e1] at g1;cases g1;rw[e2,g3];rfl
 by_cases hl:kvs.length<2
 ·obtain rfl:=oA hs (by simpa using hl);refine nW (AR (d:=d) (es:=es) (ep:=ep) lo) (I.ok.hd hc) rd (by rw[sz];exact hl) fun h' tk vs a c kp na hlen hP ha=> ?_;have rv:Vals (as.map V.ref) vs:=yI (by rw[hlen,sz,av,al]) fun j w hw=>by
   have hj:j<as.length:=by
    have:=(bi.mp hw).1
    rw[al,<- sz,<- hlen];exact this
   exact⟨.ref as[j],by rw[bc,aw hj];rfl,hPP j w _ (hP j w hw) (by rw[bc,aw hj];rfl)⟩
  obtain⟨hn,I'⟩:=I.laidN (t':=tk) kp na (tM (H:=upd H a (.lst (as.map V.ref))) rv (by rw[av,al];exact hz) ha);exact⟨.ref a,_,I',rfl,q a _ hn rs⟩
 ·have h64:=nZ hs (by simpa using hl);rw[av] at h64;exact nV I (AR (d:=d) (es:=es) (ep:=ep) lo) (I.ok.hd hc) rd (by omega) (by omega) hu (by rw[av,al,sz]) hPP rs hs fun h' tk ys l nl I' rs'=>⟨.ref l,_,I',rfl,q l ys nl rs'⟩
noncomputable def EM (n:Nat) (ω:Om) (ds:List D):Option (D×Om):=match ds with
 |[d]=>match cellOf ω d with
  |some (.dt kvs)=>(eM n (kvs.map fun p=>bZ p.1)).map fun out=>(.lst out,ω)
  |_=>wf
 |_=>wf
theorem HC {K:aa}:vC cls K (Mc K n) (EM n):=fun ok H ω xs as d ω' Q h1 st r e k=>by
 unfold EM at e;split at e
 ·split at e
  ·rename_i kvs hcell
   obtain⟨out,e5,e6⟩:=aF e;cases e6;obtain⟨n,rfl,e1⟩:=dH hcell;obtain⟨v,rfl,r1⟩:=r.one_inv;obtain⟨a,rfl,e6,vs,e7,kv⟩:=st.ref r1 e1;have hk:(vs.map fun p=>bZ p.1)=kvs.map fun p=>bZ p.1:=by
    have:=congrArg (List.map bZ) kv.keys
    rw[gy,gy] at this;exact this
   refine⟨a,vs,out,ok,rfl,e7,h1,?_,fun l ys nl rs=>k _ ok _ (.same h1 st (cC nl)) (.lst_new (h1 l nl) nl rs)⟩;rw[hk];exact e5
  ·cases e
 ·cases e
end
section
variable {X:Cx}{cls exC:Nat->af}{E:XE}{e a b c o i o2 i2 value:bw}{es rest:List bw}{fa fb fc fo fi fo2 fi2 fv:OG D}{fl:OG (List D)}{ft ft':OG Bool}{pos p apos pos' pos2 tp cpos:Pos}{x m:Str}{st:cu}
theorem Kk (ha:OE X cls E a fa) (hb:OE X cls E b fb):OE X cls E (.BinOp a .Add b pos) (MB.o2 (lf KR) fa fb):=tI BY (Fit2.lift (fun ok H x y a b d Q h1 ra rb e k=>by
 cases a with
 |str u=>cases b with
  |str v=>
   obtain⟨hz,rfl⟩:=bI (show(if u.length+v.length<=sizeLine then we (D.str (u++v)) else wf)=we d from e);exact⟨u,v,ra.str_inv,rb.str_inv,hz,k _ H (Same.refl H) (.str _)⟩
  |_=>cases e
 |_=>cases e)) ha hb
theorem JZ (ha:OE X cls E a fa) (hb:OE X cls E b fb):OE X cls E (.BinOp a .Mult b pos) (MB.o2 (lf KP) fa fb):=tI JO (Fit2.lift (fun ok H x y a b d Q h1 ra rb e k=>by
 cases a with
 |str u=>cases b with
  |int v=>
   obtain⟨hz,rfl⟩:=bI (show(if 0<=v/\v<=100000/\u.length<=100 then we (D.str (Ot u v)) else wf)=we d from e);exact⟨u,v,ra.str_inv,rb.int_inv,hz,k _ H (Same.refl H) (.str _)⟩
  |_=>cases e
 |_=>cases e)) ha hb
noncomputable def lI (ω:Om) (d:D):D:=match cV ω d with
 |some ds=>.lst ds
 |none=>d
theorem jK {K:aa} (t:Stt cls K ok H ω) (r:Rep K ok H v d):Rep K ⟨fun _=>True,ok.al⟩ H v (lI ω d):=by
 unfold lI;cases hs:cV ω d with
 |some ds=>exact oC t r hs
 |none=>exact r.wide
noncomputable def mI (n:Nat) (ω:Om) (a b:D):Option (D×Om):=pu (gEq n (lI ω a) (lI ω b)) ω
noncomputable def zU (n:Nat) (ω:Om) (a b:D):Option (D×Om):=pu (gNe n (lI ω a) (lI ω b)) ω
theorem EX {K:aa}:yC cls K (Qp K n) (mI n):=fun ok H ω x y a b d ω' Q h1 st ra rb e k=>by
 obtain⟨ue,rfl⟩:=cK e;obtain⟨c,e1,rfl⟩:=aF ue;exact⟨_,_,_,c,jK st ra,jK st rb,e1,k _ ok H (.refl h1 st) (.bl _)⟩
theorem KU {K:aa}:yC cls K (Qj K n) (zU n):=fun ok H ω x y a b d ω' Q h1 st ra rb e k=>by
 obtain⟨ue,rfl⟩:=cK e;obtain⟨c,e1,rfl⟩:=aF ue;exact⟨_,_,_,c,jK st ra,jK st rb,e1,k _ ok H (.refl h1 st) (.bl _)⟩
theorem Np (hu:Lx X n) (ha:OE X cls E a fa) (hb:OE X cls E b fb):OE X cls E (.Compare a [.Eq] [b] pos) (MB.o2 (mI n) fa fb):=Bc (II hu) EX ha hb (kY _)
theorem MJ (hu:Lx X n) (ha:OE X cls E a fa) (hb:OE X cls E b fb):OT X cls E (.Compare a [.Eq] [b] pos) (dG (MB.o2 (mI n) fa fb)):=rN (II hu) EX ha hb (kY _)
theorem MH (hu:Lx X n) (ha:OE X cls E a fa) (hb:OE X cls E b fb):OT X cls E (.Compare a [.NotEq] [b] pos) (dG (MB.o2 (zU n) fa fb)):=rN (MT hu) KU ha hb (kY _)
end
end L2.MB
end
section
namespace L2.MB
open PySem PySem.Spec PyProof.Rows PySem.W
noncomputable def Tree {α:Type} (n:Nat) (Q:α->Prop):KasT α->Prop
 |.ret a=>Q a
 |.ask i j k=>i<n/\j<n/\∀ b,Tree n Q (k b)
theorem Tree.bind {f:α->KasT β} (g:∀ a,Q a->Tree n R (f a)):∀ {t:KasT α},Tree n Q t->Tree n R (t.bind f)
 |.ret a,h=>by rw[KasT.bind.eq_1];exact g a h
 |.ask i j k,h=>by
  rw[KasT.bind.eq_2];exact⟨h.1,h.2.1,fun b=>Tree.bind g (h.2.2 b)⟩
theorem Tree.run (hl:∀ i j,i<n->j<n->∃ c,lt i j=we c):∀ {t:KasT α},Tree n Q t->∃ a,Ji lt t=we a/\Q a
 |.ret a,h=>⟨a,rfl,h⟩
 |.ask i j k,h=>by
  obtain⟨c,e⟩:=hl i j h.1 h.2.1;obtain⟨a,e2,q⟩:=Tree.run hl (h.2.2 c);refine⟨a,?_,q⟩
  show(lt i j).bind _=_
  rw[e];exact e2
noncomputable def Pm (n:Nat) (p:Array Nat):Prop:=p.Perm (bq n).toArray
theorem Pm.lt (h:Pm n p) (h0:0<n) (i:Nat):p.getD i 0<n:=by
 rw[cr];cases q:p[i]? with
 |none=>exact h0
 |some x=>
  have hm:x∈p:=Array.mem_of_getElem? q
  have:x∈(bq n).toArray:=(h.mem_iff).mp hm
  simpa using this
theorem Pm.rev (h:Pm n p) (i j:Nat):Pm n (kas_rev p i j):=(mirror_perm p i j _).trans h
theorem Pm.bub (h:Pm n p) (k d:Nat):Pm n (bubble p k d):=(bubble_perm p k d).trans h
section
variable {n:Nat} (h0:0<n)
include h0
theorem sV (hp:Pm n p):∀(f m:Nat),Tree n (fun _=>True) (kas_asc p f m)
 |0,m=>by rw[kas_asc.eq_def];trivial
 |f+1,m=>by
  rw[kas_asc.eq_def];refine⟨hp.lt h0 _,hp.lt h0 _,fun b=> ?_⟩;cases b with
  |true=>(dsimp only;rw[if_pos rfl]);trivial
  |false=>(dsimp only;rw[if_neg ck]);exact sV hp f (m+1)
theorem kL:∀(f:Nat) {p:Array Nat} (m q:Nat),Pm n p->Tree n (fun r:Array Nat×Nat×Nat=>Pm n r.1) (kas_desc f p m q)
 |0,p,m,q,hp=>by rw[kas_desc.eq_def];exact hp
 |f+1,p,m,q,hp=>by
  rw[kas_desc.eq_def];refine⟨hp.lt h0 _,hp.lt h0 _,fun b=> ?_⟩;cases b with
  |true=>
   (dsimp only;rw[if_pos rfl])
   by_cases hq:q>0
   ·rw[if_pos hq];exact kL f _ _ (hp.rev _ _)
   ·rw[if_neg hq];exact kL f _ _ hp
  |false=>
   (dsimp only;rw[if_neg ck])
   refine⟨hp.lt h0 _,hp.lt h0 _,fun b=> ?_⟩;cases b with
   |true=>(dsimp only;rw[if_pos rfl]);exact hp
   |false=>(dsimp only;rw[if_neg ck]);exact kL f _ _ hp
theorem vL (m r:Nat) (hp:Pm n p):Tree n (fun r:Nat×Array Nat=>Pm n r.2) (kas_tail3 m r p):=by
 unfold kas_tail3;refine Tree.bind (Q:=fun _=>True) (fun a _=> ?_) (sV h0 (hp.rev _ _) _ _);exact hp.rev _ _
theorem kK (m r:Nat) (hp:Pm n p):Tree n (fun r:Nat×Array Nat=>Pm n r.2) (kas_descPart m r p):=by
 unfold kas_descPart;refine(kL h0 _ _ _ hp).bind fun a ha=> ?_;split
 ·exact vL h0 _ _ (Pm.rev ha _ _)
 ·exact vL h0 _ _ ha
theorem BL (r:Nat) (hp:Pm n p):Tree n (fun r:Nat×Array Nat=>Pm n r.2) (kas_count r p):=by
 unfold kas_count;refine(sV h0 hp _ _).bind fun a _=> ?_;split
 ·exact hp
 ·split
  ·refine⟨hp.lt h0 _,hp.lt h0 _,fun b=> ?_⟩;cases b with
   |true=>(dsimp only;rw[if_pos rfl]);exact hp
   |false=>(dsimp only;rw[if_neg ck]);exact kK h0 _ _ (hp.rev _ _)
  ·exact kK h0 _ _ hp
theorem lS (hp:Pm n p) (k:Nat):∀(f l r:Nat),Tree n (fun _=>True) (kas_place p k f l r)
 |0,l,r=>by rw[kas_place.eq_def];trivial
 |f+1,l,r=>by
  rw[kas_place.eq_def];show Tree n _ (if l≥r then _ else _);split
  ·trivial
  ·refine⟨hp.lt h0 _,hp.lt h0 _,fun b=> ?_⟩;cases b with
   |true=>(dsimp only;rw[if_pos rfl]);exact lS hp k f _ _
   |false=>(dsimp only;rw[if_neg ck]);exact lS hp k f _ _
theorem AM:∀(f:Nat) {p:Array Nat} (k:Nat),Pm n p->Tree n (fun r:Array Nat=>Pm n r) (kas_bin f p k)
 |0,p,k,hp=>by rw[kas_bin.eq_def];exact hp
 |f+1,p,k,hp=>by
  rw[kas_bin.eq_def];exact(lS h0 hp k _ _ _).bind fun l _=>AM f _ (hp.bub _ _)
theorem vM:Tree n (fun r:Array Nat=>Pm n r) (kas_sort n):=by
 unfold kas_sort;refine(BL h0 _ (vx _)).bind fun r hr=> ?_;split
 ·exact AM h0 _ _ hr
 ·exact hr
end
theorem sY (h64:ds.length<64) (hk:iO ds=true) (hl:∀ a∈ds,∀ b∈ds,∃ c,dP m a b=we c):∃ out,eM m ds=we out/\out.Perm ds:=by
 unfold eM
 by_cases h2:ds.length<2
 ·rw[if_pos h2];exact⟨ds,rfl,.refl _⟩
 ·rw[if_neg h2,if_pos ⟨h64,hk⟩];have gm:∀ i,i<ds.length->ds.getD i .non∈ds:=fun i hi=>by
   rw[am,aw hi];exact gu hi
  obtain⟨p,e,hp⟩:=Tree.run (n:=ds.length) (lt:=fun i j=>dP m (ds.getD i .non) (ds.getD j .non)) (fun i j hi hj=>hl _ (gm i hi) _ (gm j hj)) (vM (n:=ds.length) (by omega));rw[e];have pl:p.toList.Perm (bq ds.length):=by
   have:=hp
   unfold Pm at this;rw[pe] at this;simpa using this
  have hl2:p.toList.length<=64:=by rw[pl.length_eq,iy];omega
  refine⟨_,by show(if p.toList.length<=64 then _ else wf)=_;rw[if_pos hl2],?_⟩;refine(pl.map _).trans ?_
  have:(bq ds.length).map (fun i=>ds.getD i .non)=ds:=by
   apply ke;intro i;rw[bc];rcases me i ds.length with h|h
   ·rw[fz h,aw h];show we (ds.getD i .non)=_;rw[am,aw h];rfl
   ·rw[cz h,cz (by simpa using h)];rfl
  rw[this]
noncomputable def TreeL {α:Type} (L:Nat->Nat->Bool) (Q:α->Prop):KasT α->Prop
 |.ret a=>Q a
 |.ask i j k=>TreeL L Q (k (L i j))
theorem TreeL.bind {f:α->KasT β} (g:∀ a,Q a->TreeL L R (f a)):∀ {t:KasT α},TreeL L Q t->TreeL L R (t.bind f)
 |.ret a,h=>by rw[KasT.bind.eq_1];exact g a h
 |.ask i j k,h=>by
  rw[KasT.bind.eq_2];exact TreeL.bind g h
theorem TreeL.run:∀ {t:KasT α}{a:α},TreeL (fun i j=>lt i j==we true) Q t->Ji lt t=we a->Q a
 |.ret a,_,h,e=>by cases e;exact h
 |.ask i j k,a,h,e=>by
  change TreeL _ Q (k (lt i j==we true)) at h
  change (lt i j).bind (fun c=>Ji lt (k c))=we a at e
  cases hq:lt i j with
  |none=>rw[hq] at e;cases e
  |some c=>
   rw[hq] at e h
   have:(we c==we true)=c:=by cases c <;> rfl
   rw[this] at h;exact TreeL.run h e
theorem Tree.run':∀ {t:KasT α}{a:α},Tree n Q t->Ji lt t=we a->Q a
 |.ret a,_,h,e=>by cases e;exact h
 |.ask i j k,a,h,e=>by
  obtain⟨c,e1,e2⟩:=aN (show(lt i j).bind _=_ from e);exact Tree.run' (h.2.2 c) e2
section
variable {n:Nat}{L:Nat->Nat->Bool} (ht:∀ i j,i<n->j<n->i≠j->L i j=false->L j i=true) (hr:∀ i j k,i<n->j<n->k<n->L i j=true->L j k=true->L i k=true)
noncomputable def Asc (L:Nat->Nat->Bool) (p:Array Nat) (m:Nat):Prop:=∀ i j,i<j->j<m->L (p.getD i 0) (p.getD j 0)=true
noncomputable def Dsc (L:Nat->Nat->Bool) (p:Array Nat) (m:Nat):Prop:=∀ i j,i<j->j<m->L (p.getD j 0) (p.getD i 0)=true
theorem Pm.size (h:Pm n p):p.size=n:=by
 have:=h.size_eq
 simpa using this
theorem Pm.ne (h:Pm n p) (hi:i<n) (hj:j<n) (hne:i≠j):p.getD i 0≠p.getD j 0:=by
 have pl:p.toList.Perm (bq n):=by
  have:=h
  unfold Pm at this;rw[pe] at this;simpa using this
 have nd:p.toList.Nodup:=pl.nodup_iff.mpr nj;have hs:=h.size;intro z;have gi:p.getD i 0=p.toList[i]'(by simp[hs,hi]):=by
  rw[cr,jq (by omega)];simp
 have gj:p.getD j 0=p.toList[j]'(by simp[hs,hj]):=by
  rw[cr,jq (by omega)];simp
 rw[gi,gj] at z;have pw:=jr.mp nd;rcases Nat.lt_or_gt_of_ne hne with q|q
 ·exact pw i j _ _ q z
 ·exact pw j i _ _ q z.symm
include ht hr in
theorem Ih {p:Array Nat} (h0:0<n) (hp:Pm n p) {m:Nat} (h1:1<=m) (hm:m<n) (a:Asc L p m) (c:L (p.getD m 0) (p.getD (m-1) 0)=false):Asc L p (m+1):=by
 have up:=ht _ _ (hp.lt h0 m) (hp.lt h0 (m-1)) (hp.ne hm (by omega) (by omega)) c;intro i j hij hj
 by_cases e:j=m
 ·subst e
  by_cases e2:i=j-1
  ·rw[e2];exact up
  ·exact hr _ _ _ (hp.lt h0 _) (hp.lt h0 _) (hp.lt h0 _) (a i (j-1) (by omega) (by omega)) up
 ·exact a i j hij (by omega)
include ht hr in
theorem yV {p:Array Nat} (h0:0<n) (hp:Pm n p):∀(f m:Nat),1<=m->m+f<=n->Asc L p m->TreeL L (fun q=>m<=q/\q<=m+f/\Asc L p q/\(q<m+f->L (p.getD q 0) (p.getD (q-1) 0)=true)) (kas_asc p f m)
 |0,m,h1,hm,a=>by
  rw[kas_asc.eq_def];exact⟨bj _,bj _,a,fun z=>by omega⟩
 |f+1,m,h1,hm,a=>by
  rw[kas_asc.eq_def];show TreeL L _ (if L (p.getD m 0) (p.getD (m-1) 0)=true then KasT.ret m else kas_asc p f (m+1));cases c:L (p.getD m 0) (p.getD (m-1) 0) with
  |true=>
   rw[if_pos rfl];exact⟨bj _,by omega,a,fun _=>c⟩
  |false=>
   rw[if_neg ck];have ih:=yV h0 hp f (m+1) (by omega) (by omega) (Ih ht hr h0 hp h1 (by omega) a c)
   have:m+1+f=m+(f+1):=by omega
   rw[this] at ih;have mono:∀ {t:KasT Nat},TreeL L (fun q=>m+1<=q/\q<=m+(f+1)/\Asc L p q/\(q<m+(f+1)->L (p.getD q 0) (p.getD (q-1) 0)=true)) t->TreeL L (fun q=>m<=q/\q<=m+(f+1)/\Asc L p q/\(q<m+(f+1)->L (p.getD q 0) (p.getD (q-1) 0)=true)) t:=by
    intro t
    induction t with
    |ret a=>exact fun h=>⟨by have:=h.1;omega,h.2⟩
    |ask i j k ih=>exact fun h=>ih _ h
   exact mono ih
include ht hr in
theorem Bb {p:Array Nat} (h0:0<n) (hp:Pm n p):∀(f m:Nat),1<=m->m+f<=n->Dsc L p m->TreeL L (fun r:Array Nat×Nat×Nat=>r.1=p/\r.2.2=0/\m<=r.2.1/\r.2.1<=m+f/\Dsc L p r.2.1) (kas_desc f p m 0)
 |0,m,h1,hm,a=>by
  rw[kas_desc.eq_def];exact⟨rfl,rfl,bj _,bj _,a⟩
 |f+1,m,h1,hm,a=>by
  rw[kas_desc.eq_def];show TreeL L _ (if L (p.getD m 0) (p.getD (m-1) 0)=true then(if 0>0 then kas_desc f (kas_rev p (m-(0+1)) m) (m+1) 0 else kas_desc f p (m+1) 0) else KasT.ask (p.getD (m-1) 0) (p.getD m 0) fun d=>if d=true then .ret (p,m,0) else kas_desc f p (m+1) (0+1));cases c:L (p.getD m 0) (p.getD (m-1) 0) with
  |true=>
   rw[if_pos rfl,if_neg (f9 0)];have a':Dsc L p (m+1):=by
    intro i j hij hj
    by_cases e:j=m
    ·subst e
     by_cases e2:i=j-1
     ·rw[e2];exact c
     ·exact hr _ _ _ (hp.lt h0 _) (hp.lt h0 _) (hp.lt h0 _) c (a i (j-1) (by omega) (by omega))
    ·exact a i j hij (by omega)
   have ih:=Bb h0 hp f (m+1) (by omega) (by omega) a';have mono:∀ {t:KasT (Array Nat×Nat×Nat)},TreeL L (fun r:Array Nat×Nat×Nat=>r.1=p/\r.2.2=0/\m+1<=r.2.1/\r.2.1<=m+1+f/\Dsc L p r.2.1) t->TreeL L (fun r:Array Nat×Nat×Nat=>r.1=p/\r.2.2=0/\m<=r.2.1/\r.2.1<=m+(f+1)/\Dsc L p r.2.1) t:=by
    intro t
    induction t with
    |ret a=>exact fun h=>⟨h.1,h.2.1,by have:=h.2.2.1;omega,by have:=h.2.2.2.1;omega,h.2.2.2.2⟩
    |ask i j k ih=>exact fun h=>ih _ h
   exact mono ih
  |false=>
   rw[if_neg ck];show TreeL L _ (if L (p.getD (m-1) 0) (p.getD m 0)=true then KasT.ret (p,m,0) else _);rw[if_pos (ht _ _ (hp.lt h0 _) (hp.lt h0 _) (hp.ne (by omega) (by omega) (by omega)) c)];exact⟨rfl,rfl,bj _,by show m<=m+(f+1);omega,a⟩
theorem Bp (hm:m<=p.size) (hk:k<m):(kas_rev p 0 m).getD k 0=p.getD (m-1-k) 0:=by
 unfold kas_rev;rw[cr,cr,getElem?_mirror_all hm,if_pos ⟨ip _,hk⟩,Nat.zero_add]
theorem Dsc.rev (hm:m<=p.size) (d:Dsc L p m):Asc L (kas_rev p 0 m) m:=fun i j hij hj=>by
 rw[Bp hm (by omega),Bp hm hj];exact d _ _ (by omega) (by omega)
include ht hr in
theorem DP {p:Array Nat} (h2:2<=n) (hp:Pm n p):TreeL L (fun r:Nat×Array Nat=>Pm n r.2/\1<=r.1/\r.1<=n/\Asc L r.2 r.1) (kas_count n p):=by
 have h0:0<n:=by omega
 unfold kas_count;refine(yV ht hr h0 hp (n-1) 1 (bj _) (by omega) fun i j hij hj=>by omega).bind fun q hq=> ?_;obtain⟨q1,q2,qa,qs⟩:=hq
 by_cases e:q=n
 ·rw[if_pos (by simpa using e)];exact⟨hp,q1,by omega,qa⟩
 ·rw[if_neg (by simpa using e)]
  by_cases h1:q>1
  ·rw[if_pos h1];show TreeL L _ (if L (p.getD 0 0) (p.getD (q-1) 0)=true then KasT.ret (q,p) else _);rw[if_pos (qa 0 (q-1) (by omega) (by omega))];exact⟨hp,q1,by omega,qa⟩
  ·rw[if_neg h1];have hq1:q=1:=by omega
   subst hq1;have c:=qs (by omega);unfold kas_descPart;refine(Bb ht hr h0 hp (n-(1+1)) (1+1) (by omega) (by omega) fun i j hij hj=> ?_).bind fun r hrr=> ?_
   ·have:i=0/\j=1:=by omega
    rw[this.1,this.2];exact c
   ·obtain⟨r1,r2,r3,r4,r5⟩:=hrr;rw[if_neg (by omega),r1];unfold kas_tail3;have hs:=hp.size;refine(yV ht hr h0 (hp.rev 0 r.2.1) (n-r.2.1) r.2.1 (by omega) (by omega) (r5.rev (by omega))).bind fun m hm=> ?_;exact⟨hp.rev _ _,by have:=hm.1;show 1<=m;omega,by have:=hm.2.1;show m<=n;omega,hm.2.2.1⟩
include ht hr in
theorem oH {p:Array Nat} (h0:0<n) (hp:Pm n p) {k:Nat} (hk:k<n) (a:Asc L p k):∀(f l r:Nat),l<=r->r<=k->r-l<=f->(∀ i,i<l->L (p.getD i 0) (p.getD k 0)=true)->(∀ i,r<=i->i<k->L (p.getD k 0) (p.getD i 0)=true)->TreeL L (fun q=>q<=k/\(∀ i,i<q->L (p.getD i 0) (p.getD k 0)=true)/\(∀ i,q<=i->i<k->L (p.getD k 0) (p.getD i 0)=true)) (kas_place p k f l r)
 |0,l,r,h1,h2,h3,h4,h5=>by
  rw[kas_place.eq_def]
  have:r=l:=by omega
  subst this;exact⟨h2,h4,h5⟩
 |f+1,l,r,h1,h2,h3,h4,h5=>by
  rw[kas_place.eq_def];show TreeL L _ (if l≥r then KasT.ret l else _)
  by_cases e:l≥r
  ·rw[if_pos e]
   have:r=l:=by omega
   subst this;exact⟨h2,h4,h5⟩
  ·rw[if_neg e];show TreeL L _ (if L (p.getD k 0) (p.getD ((l+r) / 2) 0)=true then kas_place p k f l ((l+r) / 2) else kas_place p k f ((l+r) / 2+1) r);cases c:L (p.getD k 0) (p.getD ((l+r) / 2) 0) with
   |true=>
    rw[if_pos rfl];refine oH h0 hp hk a f l ((l+r) / 2) (by omega) (by omega) (by omega) h4 fun i hi hik=> ?_
    by_cases e2:i=(l+r) / 2
    ·rw[e2];exact c
    ·exact hr _ _ _ (hp.lt h0 _) (hp.lt h0 _) (hp.lt h0 _) c (a _ _ (by omega) hik)
   |false=>
    rw[if_neg ck];have up:=ht _ _ (hp.lt h0 _) (hp.lt h0 _) (hp.ne hk (by omega) (by omega)) c;refine oH h0 hp hk a f ((l+r) / 2+1) r (by omega) (by omega) (by omega) (fun i hi=> ?_) h5
    by_cases e2:i=(l+r) / 2
    ·rw[e2];exact up
    ·exact hr _ _ _ (hp.lt h0 _) (hp.lt h0 _) (hp.lt h0 _) (a _ _ (by omega) (by omega)) up
theorem Bq (hk:k<p.size) (hl:l<=k):(bubble p k (k-l)).getD i 0=if i=l then p.getD k 0 else if l<i/\i<=k then p.getD (i-1) 0 else p.getD i 0:=by
 rw[cr,getElem?_bubble hk (k-l) (by omega)]
 have:k-(k-l)=l:=by omega
 rw[this]
 by_cases h1:i=l
 ·rw[if_pos h1,if_pos h1,cr]
 ·rw[if_neg h1,if_neg h1]
  by_cases h2:l<i/\i<=k
  ·rw[if_pos h2,if_pos h2,cr]
  ·rw[if_neg h2,if_neg h2,cr]
theorem Asc.bub (hk:k<p.size) (hl:l<=k) (a:Asc L p k) (h1:∀ i,i<l->L (p.getD i 0) (p.getD k 0)=true) (h2:∀ i,l<=i->i<k->L (p.getD k 0) (p.getD i 0)=true):Asc L (bubble p k (k-l)) (k+1):=by
 intro i j hij hj;rw[Bq hk hl,Bq hk hl]
 by_cases i1:i=l
 ·rw[if_pos i1,if_neg (by omega),if_pos (by omega)];exact h2 _ (by omega) (by omega)
 ·rw[if_neg i1]
  by_cases i2:l<i/\i<=k
  ·rw[if_pos i2,if_neg (by omega),if_pos (by omega)];exact a _ _ (by omega) (by omega)
  ·rw[if_neg i2]
   by_cases j1:j=l
   ·rw[if_pos j1];exact h1 _ (by omega)
   ·rw[if_neg j1]
    by_cases j2:l<j/\j<=k
    ·rw[if_pos j2];exact a _ _ (by omega) (by omega)
    ·rw[if_neg j2];exact a _ _ (by omega) (by omega)
include ht hr in
theorem DQ:∀(f:Nat) {p:Array Nat} (k:Nat),Pm n p->1<=k->k+f=n->Asc L p k->TreeL L (fun r:Array Nat=>Pm n r/\Asc L r n) (kas_bin f p k)
 |0,p,k,hp,_,hk,a=>by
  rw[kas_bin.eq_def]
  have:k=n:=by omega
  subst this;exact⟨hp,a⟩
 |f+1,p,k,hp,h1,hk,a=>by
  rw[kas_bin.eq_def];have hs:=hp.size;refine(oH ht hr (by omega) hp (by omega) a k 0 k (by omega) (bj _) (by omega) (fun i hi=>by omega) fun i hi hik=>by omega).bind fun l hl=> ?_;exact DQ f (k+1) (hp.bub _ _) (by omega) (by omega) (Asc.bub (by omega) hl.1 a hl.2.1 hl.2.2)
include ht hr in
theorem Gz (h2:2<=n):TreeL L (fun r:Array Nat=>Asc L r n) (kas_sort n):=by
 unfold kas_sort;refine(DP ht hr h2 (vx _)).bind fun r hrr=> ?_;obtain⟨r1,r2,r3,r4⟩:=hrr;have weak:∀ {t:KasT (Array Nat)},TreeL L (fun r:Array Nat=>Pm n r/\Asc L r n) t->TreeL L (fun r:Array Nat=>Asc L r n) t:=by
  intro t
  induction t with
  |ret a=>exact fun h=>h.2
  |ask i j k ih=>exact fun h=>ih _ h
 by_cases e:r.1<n
 ·rw[if_pos e,Nat.max_eq_left r2];exact weak (DQ ht hr (n-r.1) r.1 r1 r2 (by omega) r4)
 ·rw[if_neg e]
  have:r.1=n:=by omega
  rw[this] at r4;exact r4
end
theorem Df (hs:eM m ds=we out) (ht:∀ i j,i<ds.length->j<ds.length->i≠j->dP m (ds.getD i .non) (ds.getD j .non)=we true∨dP m (ds.getD j .non) (ds.getD i .non)=we true)
  (hr:∀ a∈ds,∀ b∈ds,∀ c∈ds,dP m a b=we true->dP m b c=we true->dP m a c=we true):out.Pairwise fun a b=>dP m a b=we true:=by
 unfold eM at hs
 by_cases h2:ds.length<2
 ·rw[if_pos h2] at hs;cases hs
  match ds,h2 with
  |[],_=>exact .nil
  |[a],_=>simp
 ·rw[if_neg h2] at hs;obtain⟨h64,hs⟩:=cL hs;obtain⟨p,e1,e2⟩:=aN hs;obtain⟨_,e3⟩:=cL e2;cases e3;have gm:∀ i,i<ds.length->ds.getD i .non∈ds:=fun i hi=>by
   rw[am,aw hi];exact gu hi
  have A:=TreeL.run (Gz (n:=ds.length) (L:=fun i j=>dP m (ds.getD i .non) (ds.getD j .non)==we true) (fun i j hi hj hne c=>by
   rcases ht i j hi hj hne with z|z
   ·rw[z] at c;cases c
   ·rw[z];rfl) (fun i j k hi hj hk a b=>by
   have a':dP m (ds.getD i .non) (ds.getD j .non)=we true:=by simpa using a
   have b':dP m (ds.getD j .non) (ds.getD k .non)=we true:=by simpa using b
   rw[hr _ (gm i hi) _ (gm j hj) _ (gm k hk) a' b'];rfl) (by omega)) e1
  have hp:Pm ds.length p:=by
   exact Tree.run' (vM (n:=ds.length) (by omega)) e1
  have sz:=hp.size;rw[mr,jr];intro i j hi hj hij;have hi':i<p.size:=by simpa using hi
  have hj':j<p.size:=by simpa using hj
  have:=A i j hij (by omega)
  rw[cr,jq hi',cr,jq hj'] at this;simpa using this
noncomputable def sLt (x y:Str):Prop:=x.cps.toList<y.cps.toList
theorem Dn (h1:sLt x y) (h2:sLt y z):sLt x z:=List.lt_trans h1 h2
theorem rH (x:Str):¬ sLt x x:=List.lt_irrefl _
theorem Do (h:x≠y):sLt x y∨sLt y x:=by
 by_cases q:x.cps.toList<y.cps.toList
 ·exact .inl q
 ·by_cases q2:y.cps.toList<x.cps.toList
  ·exact .inr q2
  ·exfalso
   apply h
   have:x.cps.toList=y.cps.toList:=List.le_antisymm (List.not_lt.mp q2) (List.not_lt.mp q)
   cases x;cases y;simp at this;simp[this]
noncomputable abbrev mLt (a b a' b':Int):Prop:=a<a'∨(a=a'/\b<b')
noncomputable def eLt (x:Str) (a b v:Int) (x':Str) (a' b' v':Int):Prop:=sLt x x'∨(x=x'/\(mLt a b a' b'∨(a=a'/\b=b'/\v<v')))
theorem GU (a b a' b':Int):Pv [a,b] [a',b']=decide (mLt a b a' b'):=by
 show(if a=a' then(if b=b' then false else decide (b<b')) else decide (a<a'))=_
 unfold mLt
 by_cases h:a=a'
 ·rw[if_pos h]
  by_cases h2:b=b'
  ·rw[if_pos h2];simp[h,h2]
  ·rw[if_neg h2];simp[h]
 ·rw[if_neg h];simp[h]
theorem HL (a b a' b':Int):eqD 4 (.tup [.int a,.int b]) (.tup [.int a',.int b'])=we (decide (a=a'/\b=b')):=by
 have:eqD 4 (.tup [.int a,.int b]) (.tup [.int a',.int b'])=we ((a==a'&&(b==b'&&true))&&true):=rfl
 rw[this]
 congr 1
 by_cases h:a=a' <;> by_cases h2:b=b' <;> simp[h,h2]
theorem Oa (n:Nat) (x y:Str):eqD n (.str x) (.str y)=we (decide (x=y)):=by cases n <;> rfl
theorem Bf (x:Str) (a b v:Int) (x':Str) (a' b' v':Int):dP 4 (.tup [.str x,.tup [.int a,.int b],.int v]) (.tup [.str x',.tup [.int a',.int b'],.int v'])=we true↔eLt x a b v x' a' b' v':=by
 show(match eqD 4 (.str x) (.str x') with
  |some true=>(match eqD 4 (.tup [.int a,.int b]) (.tup [.int a',.int b']) with
   |some true=>(match eqD 4 (.int v) (.int v') with
    |some true=>we (decide (3<3))
    |some false=>fL (.int v) (.int v')
    |none=>wf)
   |some false=>fL (.tup [.int a,.int b]) (.tup [.int a',.int b'])
   |none=>wf)
  |some false=>fL (.str x) (.str x')
  |none=>wf)=we true↔_
 rw[Oa,HL];have e3:eqD 4 (.int v) (.int v')=we (decide (v=v')):=rfl;rw[e3];unfold eLt
 by_cases hx:x=x'
 ·rw[decide_eq_true hx]
  show(match we (decide (a=a'/\b=b')) with
   |some true=>(match we (decide (v=v')) with
    |some true=>we (decide (3<3))
    |some false=>fL (.int v) (.int v')
    |none=>wf)
   |some false=>fL (.tup [.int a,.int b]) (.tup [.int a',.int b'])
   |none=>wf)=we true↔_
  have nx:¬ sLt x x':=by rw[hx];exact rH _
  by_cases hm:a=a'/\b=b'
  ·rw[decide_eq_true hm];have nm:¬ mLt a b a' b':=by unfold mLt;omega
   by_cases hv:v=v'
   ·rw[decide_eq_true hv];show we (decide (3<3))=we true↔_;constructor
    ·intro z;simp at z
    ·rintro(z|⟨_,z|z⟩)
     ·exact absurd z nx
     ·exact absurd z nm
     ·omega
   ·rw[decide_eq_false hv];show we (decide (v<v'))=we true↔_;constructor
    ·intro z;exact .inr ⟨hx,.inr ⟨hm.1,hm.2,by simpa using z⟩⟩
    ·rintro(z|⟨_,z|z⟩)
     ·exact absurd z nx
     ·exact absurd z nm
     ·simpa using z.2.2
  ·rw[decide_eq_false hm];show we (Pv [a,b] [a',b'])=we true↔_;rw[GU];constructor
   ·intro z;exact .inr ⟨hx,.inl (by simpa using z)⟩
   ·rintro(z|⟨_,z|z⟩)
    ·exact absurd z nx
    ·simpa using z
    ·exact absurd ⟨z.1,z.2.1⟩ hm
 ·rw[decide_eq_false hx];show we (decide (x.cps.toList<x'.cps.toList))=we true↔_;constructor
  ·intro z;exact .inl (by simpa [sLt] using z)
  ·rintro(z|⟨z,_⟩)
   ·simpa [sLt] using z
   ·exact absurd z hx
theorem Fc (h1:eLt x a b v x' a' b' v') (h2:eLt x' a' b' v' x2 a2 b2 v2):eLt x a b v x2 a2 b2 v2:=by
 unfold eLt at*;rcases h1 with h1|⟨rfl,h1⟩
 ·rcases h2 with h2|⟨rfl,h2⟩
  ·exact .inl (Dn h1 h2)
  ·exact .inl h1
 ·rcases h2 with h2|⟨rfl,h2⟩
  ·exact .inl h2
  ·refine .inr ⟨rfl,?_⟩;unfold mLt at*;omega
theorem mD {r:α->α->Prop} (ha:∀ a b,r a b->r b a->False):∀ {l m:List α},l.Perm m->l.Pairwise r->m.Pairwise r->l=m
 |[],m,h,_,_=>(List.nil_perm.mp h).symm
 |a::l,m,h,h1,h2=>by
  cases m with
  |nil=>exact absurd h.length_eq (by simp)
  |cons b m=>
   rw[List.pairwise_cons] at h1 h2;have e:a=b:=by
    have m1:a∈b::m:=h.mem_iff.mp au;have m2:b∈a::l:=h.mem_iff.mpr au;rcases ak.mp m1 with z|z
    ·exact z
    ·rcases ak.mp m2 with w|w
     ·exact w.symm
     ·exact(ha a b (h1.1 b w) (h2.1 a z)).elim
   subst e;rw[mD ha (List.Perm.cons_inv h) h1.2 h2.2]
section
variable {X:Cx}{cls exC:Nat->af}{E:XE}{e a b c o i value:bw}{es rest:List bw}{fa fb fc fo fi fv:OG D}{fl:OG (List D)}{pos p apos pos' cpos:Pos}{x m:Str}{st:cu}
theorem Bh {E:ai->aq->Prop}{vs:List ai} (hl:s.heap.IsList l vs.toArray) (hz:vs.length<=sizeLine)
  (h:∀(h':cx) (tk:Nat) (acc:Array ai),(∀ b o,s.heap.get? b=we o->h'.get? b=we o)->ItemsOf (fun j v=>vs[j]?=we v) acc vs.length->R acc.toList { s with heap:=h',toks:=tk }):bf (model prog w) A (collect (.ref l)) R E s:=by
 refine collect_list hl ?_ hz
 have:=h ((s.heap.push (gx "list" #[] 0)).update s.heap.objs.size (j6 (· ++vs.toArray))) s.toks vs.toArray (fun b o q=>by
  have hlt:b<s.heap.objs.size:=br q;rw[Heap.get?_update_ne _ _ _ _ (cj hlt),Heap.get?_push_ne _ _ _ (cj hlt)];exact q) ⟨by simp,fun j v q=>by simpa using q⟩
 simpa using this
noncomputable def Mb (K:aa) (n:Nat):List V->Hp->VK->Prop:=fun xs H Q=>∃ a ys ds out ok,xs=[.ref a]/\H a=we (.lst ys)/\Reps K ok H ys ds/\eM n ds=we out/\∀ l zs,H l=wf->Reps K ok H zs out->Q (.ref l) (upd H l (.lst zs))
theorem Fu (hu:X.A.units+(n+2)<dm):CallR X (.builtin "sorted") (Mb X.K n):=by
 intro pins s σ H xs us Q I r h;obtain⟨a,ys,ds,out,ok,rfl,ha,rs,hs,q⟩:=h;obtain⟨u,rfl,rx⟩:=lQ r;cases rx;obtain⟨hz,its,c,rv,hlen,eo⟩:=I.lstM ha;have hli:s.heap.IsList a its.toArray:=⟨_,eo,rfl,c,rfl⟩;have hPP:∀(j:Nat) v x,its[j]?=we v->ys[j]?=we x->RelV x v:=fun j v x e1 e2=>by
  obtain⟨v',e3,r3⟩:=rv.get e2;rw[e1] at e3;cases e3;exact r3
 have dl:ds.length=its.length:=by rw[<- rs.length,hlen]
 by_cases hl:ds.length<2
 ·obtain rfl:=oA hs hl;refine nY (fun h=>Bh hli (by omega) h) (by omega) fun h' tk vs l c kp na hvl hP ho=> ?_;have rv2:Vals ys vs:=yI (by omega) fun j w hw=>by
   have hj:j<ys.length:=by
    have:=(bi.mp hw).1
    omega
   exact⟨ys[j],aw hj,hPP j w _ (hP j w hw) (aw hj)⟩
  obtain⟨hn,I'⟩:=I.laidN (t':=tk) kp na (tM (H:=upd H l (.lst ys)) rv2 hz ho);exact⟨.ref l,_,I',rfl,q l _ hn rs⟩
 ·have h64:=nZ hs hl;exact nX I (fun h=>Bh hli (by omega) h) (by omega) (by omega) hu (by omega) hPP rs hs fun h' tk ys l nl I' rs'=>⟨.ref l,_,I',rfl,q l ys nl rs'⟩
noncomputable def EL (n:Nat) (ω:Om) (ds:List D):Option (D×Om):=match ds with
 |[d]=>match cV ω d with
  |some xs=>(eM n xs).map fun out=>(.lst out,ω)
  |none=>wf
 |_=>wf
theorem HB {K:aa}:vC cls K (Mb K n) (EL n):=fun ok H ω xs as d ω' Q h1 st r e k=>by
 unfold EL at e;split at e
 ·split at e
  ·rename_i ys hseq
   obtain⟨out,e5,e6⟩:=aF e;cases e6;obtain⟨v,rfl,r1⟩:=r.one_inv;obtain⟨a,xs,rfl,g,rs⟩:=fV st r1 hseq;exact⟨a,xs,ys,out,ok,rfl,g,rs,e5,fun l zs nl rz=>k _ ok _ (.same h1 st (cC nl)) (.lst_new (h1 l nl) nl rz)⟩
  ·cases e
 ·cases e
end
section
variable {X:Cx}{cls exC:Nat->af}{E:XE}{e a b c o i value:bw}{es rest:List bw}{fa fb fc fo fi fv:OG D}{fl:OG (List D)}{pos p apos pos' cpos:Pos}{x m:Str}{st:cu}
end
section
variable {P:da}{w:df}{K:aa}{mg:Str->Option ai}{base:cx}{cls exC:Nat->af}
noncomputable def Bod (P:da) (w:df) (K:aa) (mg:Str->Option ai) (base:cx) (cls exC:Nat->af) (k:Nat) (N:List Str) (q:Str) (st:cu) (G:OS):Prop:=∀(f:af) (cdv:ai) (A:dh) (outer:List Env) (s:aq) (H:Hp) (E:XK),Room k (A.deeper (jc q (aZ st) s.heap.objs.size f cdv))->(A.deeper (jc q (aZ st) s.heap.objs.size f cdv)).units+8<dm->(A.deeper (jc q (aZ st) s.heap.objs.size f cdv)).units+1<dm->(A.deeper (jc q (aZ st) s.heap.objs.size f cdv)).units+(4+2)<dm->
 Exc (Ai (CX1 P w exC) P w K mg base N q (aZ st) f cdv A outer s H E) exC (fun c H'=>E (.ref (exC c)) wf H')->OC (Ai (CX1 P w exC) P w K mg base N q (aZ st) f cdv A outer s H E) exC (fun c H'=>E (.ref (exC c)) wf H')->OSs (Ai (CX1 P w exC) P w K mg base N q (aZ st) f cdv A outer s H E) cls (fun c H'=>E (.ref (exC c)) wf H') (fQ st) G
theorem BC {x q:Str}{st:cu}{f:af}{fd:jj}{N ps:List Str}{k:Nat}{G:OS} (F:Fun K x q st f fd) (sc:kI N ps (aZ st)) (b:Bod P w K mg base cls exC k N q st G):rA P w K mg base (CX1 P w exC) (k+1) f fd ps (spO cls exC K (dW ps.length N G)):=
 Rg F sc fun cdv A outer s H E hr hE hR=>b f cdv A outer s H E hr (Fe hr) (PB hr) (by have h8:(A.deeper (jc q (aZ st) s.heap.objs.size f cdv)).units+8<dm:=Fe hr;omega) hE hR
noncomputable def All:Nat->(List ai->Prop)->Prop
 |0,Q=>Q []
 |n+1,Q=>∀ a,All n fun l=>Q (a::l)
theorem All.out:∀ {n:Nat}{Q:List ai->Prop},All n Q->∀ us:List ai,us.length=n->Q us
 |0,_,h,[],_=>h
 |_+1,_,h,a::_,e=>(h a).out _ (Nat.succ.inj e)
noncomputable def Bnd (x q:Str) (st:cu) (ps:List Str):Prop:=All ps.length fun us=>∀(kV doc pm:ai) (an:Option af) (cdv ct:ai),bindArgs (ie x q (gU st) (fQ st) (aZ st) .none kV doc pm an cdv ct) ⟨us,[]⟩=pure (ps.zip us)
theorem Bnd.out {x q:Str}{st:cu}{ps:List Str}{f:af}{fd:jj} (h:Bnd x q st ps) (F:Fun K x q st f fd):Binds K fd ps []:=F.binds fun _ _ _ _ _ _ us e=>All.out h us e _ _ _ _ _ _
theorem dfD {x:Str}{st:cu}{N ps:List Str}{k:Nat}{G:OS} (e:∃ f fd,OB K mg x st f fd) (b:Bod P w K mg base cls exC k N x st G) (sc:kI N ps (aZ st):=by constructor <;> first|rfl|decide+kernel) (hb:Bnd x x st ps:=by first|exact fun _ _ _ _ _ _ _=>rfl|exact fun _ _ _ _ _ _ _ _=>rfl|exact fun _ _ _ _ _ _ _ _ _=>rfl|exact fun _ _ _ _ _ _ _ _ _ _=>rfl):qE P w K mg base cls exC (k+1) x ps (dW ps.length N G):=
 let ⟨f,fd,F⟩:=e
 ⟨f,fd,BC F.fn sc b,F.at_,F.fn.kp,hb.out F.fn⟩
theorem dfM {x q:Str}{st:cu}{N ps:List Str}{k c:Nat}{G:OS} (e:∃ f fd,Fun K x q st f fd/\Iq K (cls c) x f) (hc:Cls K (cls c)) (b:Bod P w K mg base cls exC k N q st G) (sc:kI N ps (aZ st):=by constructor <;> first|rfl|decide+kernel) (hb:Bnd x q st ps:=by first|exact fun _ _ _ _ _ _ _=>rfl|exact fun _ _ _ _ _ _ _ _=>rfl|exact fun _ _ _ _ _ _ _ _ _=>rfl|exact fun _ _ _ _ _ _ _ _ _ _=>rfl):qF P w K mg base cls exC (k+1) c x ps (dW ps.length N G):=
 let ⟨f,fd,F,M⟩:=e
 ⟨⟨f,fd,BC F sc b,M,hb.out F⟩,hc⟩
theorem dfI {x q:Str}{st:cu}{N ps:List Str}{k c:Nat}{C:Str}{G:OS} (e:∃ f fd,Fun K x q st f fd/\Mk K (cls c) f) (hm:mg C=we (.ref (cls c))) (b:Bod P w K mg base cls exC k N q st G) (sc:kI N ps (aZ st):=by constructor <;> first|rfl|decide+kernel) (hb:Bnd x q st ps:=by first|exact fun _ _ _ _ _ _ _=>rfl|exact fun _ _ _ _ _ _ _ _=>rfl|exact fun _ _ _ _ _ _ _ _ _=>rfl|exact fun _ _ _ _ _ _ _ _ _ _=>rfl):Oz P w K mg base cls exC (k+1) c C ps (dW ps.length N G):=
 let ⟨f,fd,F,M⟩:=e
 ⟨⟨f,fd,BC F sc b,M,hb.out F⟩,hm⟩
end
noncomputable abbrev FF (K:aa) (mg:Str->Option ai) (x:Str) (st:cu):Prop:=∃ f fd,OB K mg x st f fd
noncomputable abbrev FM (K:aa) (C:af) (x q:Str) (st:cu):Prop:=∃ f fd,Fun K x q st f fd/\Iq K C x f
noncomputable abbrev FI (K:aa) (C:af) (x q:Str) (st:cu):Prop:=∃ f fd,Fun K x q st f fd/\Mk K C f
noncomputable def AllP (p:Str->Str->cu->Prop):List (Str×Str×cu)->Prop
 |[]=>True
 |(x,q,s)::r=>p x q s/\AllP p r
theorem AllP.imp {p p':Str->Str->cu->Prop} (f:∀ x q s,p x q s->p' x q s):∀ {l:List (Str×Str×cu)},AllP p l->AllP p' l
 |[],_=>trivial
 |(_,_,_)::_,⟨a,b⟩=>⟨f _ _ _ a,AllP.imp f b⟩
theorem AllP.get {p:Str->Str->cu->Prop}{x q:Str}{s:cu}:∀ {l:List (Str×Str×cu)} (_:AllP p l) (i:Nat) (_:l[i]?=we (x,q,s)),p x q s
 |(_,_,_)::_,⟨a,_⟩,0,e=>by cases e;exact a
 |(_,_,_)::_,⟨_,b⟩,i+1,e=>b.get i e
noncomputable def Qy (K:aa) (C:af) (m qual:Str) (st:cu) (f:af):Prop:=∃(oc:ai) (od an:Option af) (osl:Array (Option ai)) (kV doc pm cdv ct:ai),gz K (.ref C) m=we (we (.ref f))/\n8 K (.ref f)=true/\
 K.lookup f=we ⟨oc,od,.func (ie m qual (gU st) (fQ st) (aZ st) .none kV doc pm an cdv ct),osl⟩/\ju K cdv qual=true/\ga K (.ref f)=true
theorem mtIn_mk {K:aa}{C:af}{m qual:Str}{st:cu}{f:af}{oc:ai}{od an:Option af}{osl:Array (Option ai)}{kV doc pm cdv ct:ai} (a:gz K (.ref C) m=we (we (.ref f)))
  (l:K.lookup f=we ⟨oc,od,.func (ie m qual (gU st) (fQ st) (aZ st) .none kV doc pm an cdv ct),osl⟩) (b:n8 K (.ref f)=true) (c:ju K cdv qual=true) (k:ga K (.ref f)=true):Qy K C m qual st f:=
 ⟨oc,od,an,osl,kV,doc,pm,cdv,ct,a,b,l,c,k⟩
noncomputable def mtF (K:aa) (C:af) (m qual:Str) (st:cu):Prop:=∃ f,Qy K C m qual st f
theorem mtF.out {K:aa}{C:af}{m qual:Str}{st:cu} (h:mtF K C m qual st):∃ f fd,Fun K m qual st f fd/\Iq K C m f:=by
 obtain⟨f,oc,od,an,osl,kV,doc,pm,cdv,ct,a,b,l,c,k⟩:=h;exact⟨f,_,IR l c k,a,b,k⟩
noncomputable def clsIn (K:aa) (x:Str) (C:af):Prop:=cq K ca x=we (we (.ref C))
noncomputable def mkIn (K:aa) (C:af):Prop:=qk K C=true/\ga K (.ref C)=true
theorem mtF.mk {K:aa}{C:af}{qual:Str}{st:cu} (h:mtF K C "__init__" qual st) (k:mkIn K C):FI K C "__init__" qual st:=match h.out with|⟨f,fd,F,M⟩=>⟨f,fd,F,⟨k.1,M.at_,M.fn,k.2⟩⟩
theorem own_mk {K:aa}{C:af}{tl:List ai}{dd:Option af}{cd:ClassData}{k0 k1 k2 k3 k5:Option ai} (h1:K.lookup C=we ⟨.type "type",dd,.cls cd,#[k0,k1,k2,k3,we (.builtin "ValueError.__new__"),k5]⟩)
  (h2:cd.mro=.ref C::tl) (h3:cd.hasDel=false) (h4:mj K BJ tl=true) (h5:kj K cd.ns=true) (h6:cq K cd.ns "__init__"=we wf):ownIn K C tl:=⟨dd,cd,k0,k1,k2,k3,k5,h1,h2,h3,h4,h5,h6⟩
theorem nsOk_mk {K:aa}{N:af}{c:ai}{d:Option af}{es:Array ko}{ep:Nat}{sl:Array (Option ai)} (l:K.lookup N=we ⟨c,d,.dict es ep,sl⟩) (h:(es.toList.all fun e=>match e.key with|.str _ _=>true|_=>false)=true):kj K N=true:=by
 unfold kj;rw[l];exact vd.symm.trans h
theorem tail_mk {K:aa}{A:af}{r:List ai}{c:ai}{dd:Option af}{cd:ClassData}{sl:Array (Option ai)} (l:K.lookup A=we ⟨c,dd,.cls cd,sl⟩) (h1:kj K cd.ns=true) (h2:cq K cd.ns "__init__"=we wf) (h3:mj K BJ r=true):mj K BJ (.ref A::r)=true:=by
 rw[PySem.W.tailIn.eq_2,l]
 show(_||(kj K cd.ns&&cq K cd.ns _==we wf&&mj K BJ r))=true
 rw[h1,h3,show cq K cd.ns (jl "__init__")=we wf from h2];simp
noncomputable def nTg:bw->List Str
 |.Name x _=>[x]
 |.Tuple es _ _=>es.filterMap fun|.Name x _=>we x|_=>wf
 |_=>[]
noncomputable def Ee (N:List Str):List (Option Nat)->List Str->List Str
 |[],_=>[]
 |none::r,t::ts=>t::Ee N r ts
 |some i::r,ts=>N.getD i ""::Ee N r ts
 |none::r,[]=>Ee N r []
noncomputable def Pu (sc:j0) (x:Str):Bool:=sc.names.lookup x==we .local||sc.names.lookup x==we .cell
noncomputable def slB (N:List Str) (i:Nat) (x:Str):Bool:=decide (N[i]?=we x)
section
variable {X:Cx}{x y:Str}{i j:Nat}
theorem Ec:∀ {a b:Option g8},(a==b)=true->a=b:=by
 intro a b h;cases a with
 |none=>cases b with
  |none=>rfl
  |some _=>cases h
 |some a=>cases b with
  |none=>cases h
  |some b=>cases a <;> cases b <;> first|rfl|cases h
theorem Bg (h:Pu sc x=true):Loc sc x:=(Bool.or_eq_true_iff.mp h).imp Ec Ec
theorem yN {N:List Str} (h:slB N i x=true):N[i]?=we x:=of_decide_eq_true h
theorem dvk (h:(slB X.N i x&&(Pu X.env.scope x||X.env.scope.names.lookup x==we .free)&& !(x==("__debug__":Str))&& !(x==("__classdict__":Str)))=true):DE X (.Name x pos) (Lj i):=by
 simp only[bu,ib,ux] at h;refine dv i (yN h.1.1.1) ?_ h.1.2 h.2;rcases h.1.1.2 with z|z
 ·rcases Bg z with z|z
  ·exact .inl z
  ·exact .inr (.inl z)
 ·exact .inr (.inr (Ec z))
noncomputable def nsB (X:Cx) (x:Str) (i:Nat):Bool:=slB X.N i x&&Pu X.env.scope x&&decide X.N.Nodup&&(X.fn x||X.env.scope.names.lookup x==we .local)
theorem fI (h:nsB X x i=true):X.N.Nodup/\X.N[i]?=we x/\Loc X.env.scope x/\(X.fn x=true∨X.env.scope.names.lookup x=we .local):=by
 unfold nsB at h;simp only[bu,ib] at h;exact⟨of_decide_eq_true h.1.2,yN h.1.1.1,Bg h.1.1.2,h.2.imp id Ec⟩
theorem Ra (h:nsB X x i=true):PG X (.Name x tp) (gR X.K (aY i)):=let ⟨a,b,c,d⟩:=fI h;KL a b c d
theorem QZ (hc:X.calm=true) (h:nsB X x i=true) (h':nsB X y j=true):PG X (.Tuple [.Name x p1,.Name y p2] k tp) (gR X.K (uN i j)):=let ⟨a,b,c,d⟩:=fI h;let ⟨_,b',c',d'⟩:=fI h';KJ hc a b b' c c' d d'
theorem QX {z w:Str}{k l:Nat} (hc:X.calm=true) (h:nsB X x i=true) (h':nsB X y j=true) (h2:nsB X z k=true) (h3:nsB X w l=true):PG X (.Tuple [.Name x p1,.Name y p2,.Name z p3,.Name w p4] kk tp) (gR X.K (FB i j k l)):=
 let ⟨a,b,c,d⟩:=fI h
 let ⟨_,b',c',d'⟩:=fI h'
 let ⟨_,b2,c2,d2⟩:=fI h2
 let ⟨_,b3,c3,d3⟩:=fI h3
 KI hc a b b' b2 b3 c c' c2 c3 d d' d2 d3
theorem Ri {cls:Nat->af}{E:XE}{e:bw}{fa:OG D}{pos pos':Pos} (h:nsB X x i=true) (he:OE X cls E e fa) (hs:i9 e (we (.Name x pos')) pos.line X.env=pure false:=by rfl):OSt X cls E (.Assign [.Name x pos'] e pos) (aX i fa):=
 let ⟨a,b,c,d⟩:=fI h
 MQ a b c he hs (hf:=d)
theorem GF {cls:Nat->af}{E:XE}{tg iter elt:bw}{ifs:List bw}{scope:j0}{caps:List (Option Nat)}{fi:OI'}{bd:BR}{t:OG Bool}{f:OG D}{pos:Pos} (Fn:Fin fin) (h1:X.calm=true) (h2:scope.kind=.function) (h3:(Ak scope&&Fo X.env.scope scope&&mM X.N X.env.scope scope (Ee X.N caps (nTg tg)) caps)=true) (hi:OI X cls E tg iter fi)
  (hb:∀ cells C fp pins s₀ H₀,PG (blk X (Ee X.N caps (nTg tg)) scope cells C fp pins s₀ H₀) tg (gR X.K bd)/\Lv (blk X (Ee X.N caps (nTg tg)) scope cells C fp pins s₀ H₀) cls EF ifs t/\OE (blk X (Ee X.N caps (nTg tg)) scope cells C fp pins s₀ H₀) cls EF elt f)
  (hs:∀ x,f7 iter X.env x=pure x:=by intro _;rfl):OE X cls E (.ListComp elt [⟨tg,iter,ifs,0⟩] scope pos) (dO fin fi caps bd t f):=by
 simp only[bu] at h3;exact Ki Fn (xN h1 h2 h3.1.1 h3.1.2 h3.2) hi hb hs
theorem Gx {cls:Nat->af}{E:XE}{tg iter elt:bw}{ifs:List bw}{scope:j0}{caps:List (Option Nat)}{fi:OI'}{bd:BR}{t:OG Bool}{f:OG D}{pos spos py:Pos} (Fn:Fin fin) (h:(slB X.N i y&&(X.env.scope.names.lookup y==we .local)&&decide X.N.Nodup)=true) (h1:X.calm=true) (h2:scope.kind=.function) (h3:(Ak scope&&Fo X.env.scope scope&&mM X.N X.env.scope scope (Ee X.N caps (nTg tg)) caps)=true) (hi:OI X cls E tg iter fi)
  (hb:∀ cells C fp pins s₀ H₀,PG (blk X (Ee X.N caps (nTg tg)) scope cells C fp pins s₀ H₀) tg (gR X.K bd)/\Lv (blk X (Ee X.N caps (nTg tg)) scope cells C fp pins s₀ H₀) cls EF ifs t/\OE (blk X (Ee X.N caps (nTg tg)) scope cells C fp pins s₀ H₀) cls EF elt f)
  (hsw:i9 (.ListComp elt [⟨tg,iter,ifs,0⟩] scope pos) (we (.Name y py)) spos.line X.env=pure true:=by rfl)
  (hs:∀ x,f7 iter X.env x=pure x:=by intro _;rfl):OSt X cls E (.Assign [.Name y py] (.ListComp elt [⟨tg,iter,ifs,0⟩] scope pos) spos) (aX i (dO fin fi caps bd t f)):=by
 simp only[bu] at h h3;exact JM Fn (of_decide_eq_true h.2) (yN h.1.1) (Ec h.1.2) (xN h1 h2 h3.1.1 h3.1.2 h3.2) hi hb hsw hs
end
noncomputable abbrev zV (i:Nat):OG D:=oP (Lj i)
noncomputable abbrev zI (i:Int):OG D:=oP (dC (.int i))
noncomputable abbrev zS (x:Str):OG D:=oP (dC (.str x))
noncomputable abbrev zX (f g:OG D):OG D:=o2 (fun ω a b=>pu (vF ω a b) ω) f g
noncomputable abbrev zD (f g:OG D):OG D:=o2 (fun ω a b=>pu (uA ω a b) ω) f g
noncomputable abbrev zT (f:OG (List D)):OG D:=oL (fun ω ds=>pu (qN ds) ω) f
noncomputable abbrev zL (f:OG (List D)):OG D:=oL (fun ω ds=>pu (Hu ds) ω) f
noncomputable def zR (ω:Om) (d:D) (as:List D):Option (D×Om):=match d,as with
 |.obj n,[.int i]=>match ω[n]? with
  |some (.ml ds)=>if 0<=i/\i<1000 then(ds[i.toNat]?).map fun v=>(v,ω.set n (.ml (ds.eraseIdx i.toNat))) else wf
  |_=>wf
 |_,_=>wf
theorem ER {ω ω':Om}{d y:D}{as:List D} (h:zR ω d as=we (y,ω')):∃ n ds,∃ k:Nat,d=.obj n/\as=[.int (k:Int)]/\ω[n]?=we (.ml ds)/\k<1000/\ds[k]?=we y/\ω'=ω.set n (.ml (ds.eraseIdx k)):=by
 unfold zR at h;split at h
 ·split at h
  ·split at h
   ·rename_i n i ds e hz
    obtain⟨k,rfl⟩:=Int.eq_ofNat_of_zero_le hz.1;obtain⟨v,e4,e5⟩:=aF h;cases e5;exact⟨_,_,k,rfl,rfl,‹_›,by omega,e4,rfl⟩
   ·cases h
  ·cases h
 ·cases h
theorem Reps.eraseIdx {K:aa}{ok:Okk}{H:Hp}:∀ {vs:List V}{ds:List D} (i:Nat),Reps K ok H vs ds->Reps K ok H (vs.eraseIdx i) (ds.eraseIdx i)
 |_,_,_,.nil=>.nil
 |_,_,0,.cons _ t=>t
 |_,_,i+1,.cons r t=>.cons r (Reps.eraseIdx i t)
section
variable {X:Cx}{cls:Nat->af}{E:XE}{tg e o a b:bw}{fo:OG D}{fl:OG (List D)}{pos p apos cpos:Pos}
theorem HE {K:aa}:CO cls K Iw zR:=fun ok H ω x xs a as d ω' Q h1 st ra rs e k=>by
 obtain⟨n,ds,i,rfl,rfl,hc,hi,hy,rfl⟩:=ER e;obtain⟨a1,rfl,e4,us,e5,r5⟩:=st.ref ra hc;obtain⟨w,rfl,rw'⟩:=rs.one_inv;obtain rfl:=rw'.int_inv;have hl:i<ds.length:=(bi.mp hy).1;obtain⟨v,hv,rv⟩:=r5.get hy;have up:=Nw.write (o:=.lst (us.eraseIdx i)) (ob:=.ml (ds.eraseIdx i)) h1 st e4 e5 fun dat=>⟨_,aK,(r5.eraseIdx i).mono dat⟩;refine⟨a1,us,i,i,v,rfl,rfl,e5,by omega,by omega,?_,hv,k _ ok _ up (rv.ex up.ex)⟩;unfold ub;rw[r5.length];simp only[show ¬((i:Int)<0) by omega,if_false];simp;omega
theorem JX (ho:OE X cls E o fo) (ha:OA X cls E [e] fl) (hbase:gv o "pop" X.env (eval o X.env)=eval o X.env:=by rfl)
  (hfew:((de cpos (ar [e] X.env)).all (fun x=> !x.1)&&(jk cpos (hV [] X.env)).all (fun x=>x.1.isSome)
   &&decide ([e].length+([]:List jf).length+(if([]:List jf).isEmpty then 0 else 1)<30))=true:=by rfl)
  (hline:(apos.endLine==cpos.line)=true:=by rfl) (hs:ar [e] X.env=(false,eval e X.env)::ar [] X.env:=by rfl) (hplain:(de cpos (ar [] X.env)).any (·.1)=false:=by rfl):
  OE X cls E (.Call (.Attribute o "pop" apos) [e] [] cpos) (iD zR fo fl):=Nk ud PySem.F.type_list_pop (fun pins s σ H x xs v us Q=>GQ pins s σ H x xs v us Q) HE ho ha hbase hfew hline hs hplain
theorem DR (hg:Gl X "range") (hm:X.mg "range"=wf) (ha:OA X cls E [a,b] fl) (hs:ar [a,b] X.env=[(false,eval a X.env),(false,eval b X.env)]:=by rfl) (hs2:ar [b] X.env=[(false,eval b X.env)]:=by rfl):OI X cls E tg (.Call (.Name "range" p) [a,b] [] pos) (oIA Hr fl):=
 PI.imp (DC hg hm ha hs hs2) fun σ H R ⟨ok,ρ,ω,r,ω',P,e,q⟩=>by
  refine tOA.then_ P e (fun c z=>by subst z;exact q) fun ds ω1 vs ok1 H1 e1 n1 P1 r1=> ?_;obtain⟨⟨dz,chk⟩,e3,rfl⟩:=cA e1;obtain⟨ue3,rfl⟩:=cK e3;obtain⟨xs,e4,e5⟩:=aF ue3;cases e5;unfold Hr at e4;split at e4
  ·obtain⟨hl,rfl⟩:=bI e4;obtain⟨v,v',rfl,rv,rv'⟩:=r1.two_inv;obtain rfl:=rv.int_inv;obtain rfl:=rv'.int_inv;exact⟨_,_,rfl,⟨by omega,by omega,by omega,by omega⟩,q _ ok1 H1 n1 itD_range.toO⟩
  ·cases e4
noncomputable def Oy (i j k:Nat):BR:=fun d ρ=>match d with
 |.tup [x,y,z]=>we (((ρ.set i (we x)).set j (we y)).set k (we z))
 |_=>wf
theorem QY {x y z:Str}{i j k kk:Nat}{p1 p2 p3 tp:Pos} (hc:X.calm=true) (h:nsB X x i=true) (h':nsB X y j=true) (h2:nsB X z k=true):PG X (.Tuple [.Name x p1,.Name y p2,.Name z p3] kk tp) (gR X.K (Oy i j k)):=by
 obtain⟨a,b,c,d⟩:=fI h;obtain⟨_,b',c',d'⟩:=fI h';obtain⟨_,b2,c2,d2⟩:=fI h2;refine PG.imp (DG (n:=3) hc (eU (fX a b c d) (eU (fX a b' c' d') (eU (fX a b2 c2 d2) yR)))) fun v σ H Q ⟨ok,ρ,ρ',d,h1,h2,h3,h4,h5⟩=> ?_;unfold Oy at h4;split at h4
 ·cases h4;obtain⟨a,xs,rfl,g,r⟩:=h3.tup_inv;cases r with
  |cons r1 r=>cases r with
   |cons r2 r=>cases r with
    |cons r3 r=>cases r with
     |nil=>
      refine⟨a,_,rfl,g.sq,rfl,_,_,rfl,_,_,rfl,_,_,rfl,rfl,?_⟩;have e1:=h1.set h2 r1 i;have e2:=e1.set (by simpa using h2) r2 j;have e3:=e2.set (by simpa using h2) r3 k;exact h5 _ e3 (by simpa using h2)
 ·cases h4
end
end L2.MB
end
section
namespace L2.MB.Lw
open PySem PySem.Spec PyProof.Rows L2.MB
noncomputable abbrev CL:List Str:=["seen","mark"]
noncomputable abbrev CH:List Str:=["seen","mark"]
noncomputable abbrev Cs:OS:=(aU (o2 (lf gLe) (zX (zV 1) (zI 1)) (zX (zV 0) (zX (zV 1) (zI 0)))))
noncomputable def eZ:eB:=dW 2 CL Cs
noncomputable abbrev BH:List Str:=["one","other"]
noncomputable abbrev Io:List Str:=["one","other"]
noncomputable abbrev Hn:OS:=(aU (dO Lc (oIZ (aC (zV 0) (aC (zV 1) aJ))) [wf,wf] (uN 0 1) (oPT jN) (oL (lfL ES) (aC (zV 0) (aC (zV 1) aJ)))))
noncomputable def gP:eB:=dW 2 BH Hn
noncomputable abbrev uX:List Str:=["rows","least","row"]
noncomputable abbrev Ip:List Str:=["rows"]
noncomputable abbrev fM:OS:=(aX 1 (dO yE (oIZ (aC (zV 1) (aC (zV 2) aJ))) [wf,wf] (uN 0 1) (oPT jN) (oL (lfL Ht) (aC (zV 0) (aC (zV 1) aJ)))))
noncomputable abbrev Bs:OS:=(aG (aX 1 (oL gH (aC (zX (zV 0) (zI 0)) aJ))) (aG (sNx (bF (oIL (oSl (zV 0) (dSo (dC (.int 1))) dNo)) (aY 2) fM)) (aU (zV 1))))
noncomputable def nE:eB:=dW 1 uX Bs
noncomputable abbrev FJ:List Str:=["one","other"]
noncomputable abbrev Ls:List Str:=["one","other"]
noncomputable abbrev KO:OS:=(aU (oL (lfL Ov) (aC (dO yE (oIZ (aC (zV 0) (aC (zV 1) aJ))) [wf,wf] (uN 0 1) (oPT jN) (oL (lfL ES) (aC (o2 (lf gSub) (zV 1) (zV 0)) (aC (zI 0) aJ)))) aJ)))
noncomputable def yT:eB:=dW 2 FJ KO
noncomputable abbrev AC:List Str:=["self"]
noncomputable abbrev As:List Str:=["self"]
noncomputable abbrev zN:OS:=(aU (zX (fS 0 "knows" (zV 0)) (fS 0 "number" (zV 0))))
noncomputable def bM:eB:=dW 1 AC zN
noncomputable abbrev FK:List Str:=["entries","hand"]
noncomputable abbrev FE:List Str:=["entries","hand"]
noncomputable abbrev EG:OS:=(aU (dO yE (oIL (zV 0)) [wf,we 1] (aY 0) (oOr (dG (o2 (fun ω a b=>pu (LC ω a b) ω) (zX (zV 0) (zI 1)) (fS 0 "table" (zV 1)))) (gQ (fZ (bE eZ (aC (bC 0 "seen" bM (zV 1) aJ) (aC (zX (zV 0) (zI 1)) aJ)))))) (zV 0)))
noncomputable def kU:eB:=dW 2 FK EG
noncomputable abbrev uY:List Str:=["self","number","count"]
noncomputable abbrev uQ:List Str:=["self","number","count"]
noncomputable abbrev lF:OS:=(aG (mS 0 "number" (zV 0) (zV 1)) (aG (mS 0 "knows" (zV 0) (dO Lc (oIA jP (aC (zV 2) aJ)) [wf,we 2] (aY 0) (oPT jN) (o2 Hs (zL (aC (zI 0) aJ)) (zV 1)))) (aG (mS 0 "table" (zV 0) DY) (mS 0 "kept" (zV 0) DY))))
noncomputable def dL:eB:=dW 3 uY lF
noncomputable abbrev qZ:List Str:=["self"]
noncomputable abbrev qV:List Str:=["self"]
noncomputable abbrev qM:OS:=(aU (GH 4 (fS 0 "table" (zV 0))))
noncomputable def bL:eB:=dW 1 qZ qM
noncomputable abbrev yB:List Str:=["self"]
noncomputable abbrev xZ:List Str:=["self"]
noncomputable abbrev xB:OS:=(aU (dO yE (oIL (fS 0 "knows" (zV 0))) [wf] (aY 0) (oPT jN) (oL gH (aC (zV 0) aJ))))
noncomputable def fU:eB:=dW 1 yB xB
noncomputable abbrev qY:List Str:=["self"]
noncomputable abbrev qU:List Str:=["self"]
noncomputable abbrev qL:OS:=(aU (dO yE (oIL (oL (EM 4) (aC (fS 0 "kept" (zV 0)) aJ))) [wf,we 0] (aY 0) (oPT jN) (zT (aC (zV 0) (aC (oL gH (aC (zD (fS 0 "kept" (zV 1)) (zV 0)) aJ)) aJ)))))
noncomputable def eD:eB:=dW 1 qY qL
noncomputable abbrev qD:List Str:=["self","seen"]
noncomputable abbrev pZ:List Str:=["self"]
noncomputable abbrev iU:OS:=(aG (aX 1 (bC 0 "seen" bM (zV 0) aJ)) (aG (oG zQ (zV 1) (fS 0 "number" (zV 0)) (o2 (lf vG) (zX (zV 1) (fS 0 "number" (zV 0))) (zI 1))) (aU (zT (aC (fS 0 "number" (zV 0)) (aC (zX (zV 1) (fS 0 "number" (zV 0))) aJ))))))
noncomputable def cO:eB:=dW 1 qD iU
noncomputable abbrev CM:List Str:=["self","name","value","mark"]
noncomputable abbrev CI:List Str:=["self","name","value"]
noncomputable abbrev sD:OS:=(aG (aX 3 (bC 0 "new_mark" cO (zV 0) aJ)) (aG (oG tZ (fS 0 "table" (zV 0)) (zV 3) (zT (aC (zV 1) (aC (zV 3) (aC (zV 2) aJ))))) (aU (zV 3))))
noncomputable def dX:eB:=dW 3 CM sD
noncomputable abbrev iC:List Str:=["self","seen_by_all","kept","deed"]
noncomputable abbrev uR:List Str:=["self"]
noncomputable abbrev aQ:OS:=(dI (gQ (fZ (bE eZ (aC (zV 1) (aC (zV 3) aJ))))) (oG tZ (zV 2) (zV 3) (zD (fS 0 "kept" (zV 0)) (zV 3))) bH)
noncomputable abbrev gT:OS:=(aG (aX 1 (bE nE (aC (fS 0 "knows" (zV 0)) aJ))) (aG (aX 2 DY) (aG (sNx (Jh (fS 0 "kept" (zV 0)) (aY 3) aQ)) (mS 0 "kept" (zV 0) (zV 2)))))
noncomputable def eV:eB:=dW 1 iC gT
noncomputable abbrev jA:List Str:=["self","deed","marks","mark"]
noncomputable abbrev pY:List Str:=["self","deed","marks"]
noncomputable abbrev bT:OS:=(bX (oK EQ (fS 0 "table" (zV 0)) (aC (zV 3) aJ)))
noncomputable abbrev iT:OS:=(aG (sNx (bF (oIL (zV 2)) (aY 3) bT)) (aG (dI (fZ (zV 2)) (oG tZ (fS 0 "kept" (zV 0)) (zV 1) (oL zP (aC (zV 2) aJ))) bH) (bX (bC 0 "forget" eV (zV 0) aJ))))
noncomputable def cN:eB:=dW 3 jA iT
noncomputable abbrev jB:List Str:=["self","name"]
noncomputable abbrev qA:List Str:=["self","name"]
noncomputable abbrev pD:OS:=(aU (dO yE (oIL (bC 0 "entries" bL (zV 0) aJ)) [wf,we 1] (aY 0) (dG (o2 (mI 8) (zX (zV 0) (zI 0)) (zV 1))) (zX (zV 0) (zI 1))))
noncomputable def cP:eB:=dW 2 jB pD
noncomputable abbrev uZ:List Str:=["self","name","value","marks","mark"]
noncomputable abbrev uS:List Str:=["self","name","value"]
noncomputable abbrev lG:OS:=(aG (aX 3 (bC 0 "marks_of" cP (zV 0) (aC (zV 1) aJ))) (aG (aX 4 (bC 0 "put" dX (zV 0) (aC (zV 1) (aC (zV 2) aJ)))) (aG (bX (bC 0 "take_out" cN (zV 0) (aC (zV 4) (aC (zV 3) aJ)))) (aU (zV 4)))))
noncomputable def dM:eB:=dW 3 uZ lG
noncomputable abbrev AB:List Str:=["self","name","marks"]
noncomputable abbrev Ar:List Str:=["self","name"]
noncomputable abbrev kD:OS:=(aG (aX 2 (bC 0 "marks_of" cP (zV 0) (aC (zV 1) aJ))) (aG (dI (gQ (fZ (zV 2))) (aU (oP (dC .non))) bH) (aG (bX (bC 0 "take_out" cN (zV 0) (aC (bC 0 "new_mark" cO (zV 0) aJ) (aC (zV 2) aJ)))) (aU (zV 2)))))
noncomputable def fD:eB:=dW 2 AB kD
noncomputable abbrev AD:List Str:=["self","teller","many","seen","table","entry"]
noncomputable abbrev At:List Str:=["self","teller"]
noncomputable abbrev eJ:OS:=(oG tZ (zV 4) (zX (zV 5) (zI 1)) (zV 5))
noncomputable abbrev pE:OS:=(aG (aX 2 (bE yT (aC (bC 0 "seen" bM (zV 0) aJ) (aC (bC 0 "seen" bM (zV 1) aJ) aJ)))) (aG (aX 3 (bE gP (aC (bC 0 "seen" bM (zV 0) aJ) (aC (bC 0 "seen" bM (zV 1) aJ) aJ)))) (aG (aX 4 DY) (aG (sNx (bF (oIL (o2 NU (bE kU (aC (bC 0 "entries" bL (zV 0) aJ) (aC (zV 1) aJ))) (bE kU (aC (bC 0 "entries" bL (zV 1) aJ) (aC (zV 0) aJ))))) (aY 5) eJ)) (aG (mS 0 "table" (zV 0) (zV 4)) (aG (mS 0 "knows" (zV 0) (dO Lc (oIZ (aC (fS 0 "knows" (zV 0)) (aC (fS 0 "knows" (zV 1)) aJ))) [wf,wf] (uN 0 1) (oPT jN) (bE gP (aC (zV 0) (aC (zV 1) aJ))))) (aG (oG zQ (fS 0 "knows" (zV 0)) (fS 0 "number" (zV 0)) (zV 3)) (aG (bX (oK EJ (fS 0 "kept" (zV 0)) (aC (fS 0 "kept" (zV 1)) aJ))) (aG (bX (bC 0 "forget" eV (zV 0) aJ)) (aU (zV 2)))))))))))
noncomputable def cE:eB:=dW 2 AD pE
noncomputable abbrev vA:List Str:=["self","count"]
noncomputable abbrev uT:List Str:=["self","count"]
noncomputable abbrev lH:OS:=(mS 1 "hands" (zV 0) (dO yE (oIA jP (aC (zV 1) aJ)) [wf,we 1] (aY 0) (oPT jN) (qH 0 dL (aC (zV 0) (aC (zV 1) aJ)))))
noncomputable def eW:eB:=dW 2 vA lH
noncomputable abbrev AI:List Str:=["self","number"]
noncomputable abbrev Ay:List Str:=["self","number"]
noncomputable abbrev kG:OS:=(aG (dI (gQ (iP gLe gLt (zI 0) (zV 1) (oL cJ (aC (fS 1 "hands" (zV 0)) aJ)))) (AT 0 (dC (.str "there is no hand of that number"))) bH) (aU (zX (fS 1 "hands" (zV 0)) (zV 1))))
noncomputable def bG:eB:=dW 2 AI kG
noncomputable abbrev AG:List Str:=["self","one","other","hands"]
noncomputable abbrev Aw:List Str:=["self","one","other"]
noncomputable abbrev fN:OS:=(aG (aX 3 (zT (aC (bC 1 "hand" bG (zV 0) (aC (zV 1) aJ)) (aC (bC 1 "hand" bG (zV 0) (aC (zV 2) aJ)) aJ)))) (aG (dI (dG (o2 (mI 8) (zV 1) (zV 2))) (AT 1 (dC (.str "a hand can't tell or meet itself"))) bH) (aU (zV 3))))
noncomputable def bN:eB:=dW 3 AG fN
noncomputable abbrev CN:List Str:=["self","number","name","value"]
noncomputable abbrev CJ:List Str:=["self","number","name","value"]
noncomputable abbrev Ct:OS:=(aU (bC 0 "put" dX (bC 1 "hand" bG (zV 0) (aC (zV 1) aJ)) (aC (zV 2) (aC (zV 3) aJ))))
noncomputable def gD:eB:=dW 4 CN Ct
noncomputable abbrev vB:List Str:=["self","number","name","value"]
noncomputable abbrev uU:List Str:=["self","number","name","value"]
noncomputable abbrev tX:OS:=(aU (bC 0 "change" dM (bC 1 "hand" bG (zV 0) (aC (zV 1) aJ)) (aC (zV 2) (aC (zV 3) aJ))))
noncomputable def dN:eB:=dW 4 vB tX
noncomputable abbrev AF:List Str:=["self","number","name"]
noncomputable abbrev Av:List Str:=["self","number","name"]
noncomputable abbrev zO:OS:=(aU (bC 0 "take" fD (bC 1 "hand" bG (zV 0) (aC (zV 1) aJ)) (aC (zV 2) aJ)))
noncomputable def fF:eB:=dW 3 AF zO
noncomputable abbrev AE:List Str:=["self","one","other","hands"]
noncomputable abbrev Au:List Str:=["self","one","other"]
noncomputable abbrev kE:OS:=(aG (aX 3 (bC 1 "pair" bN (zV 0) (aC (zV 1) (aC (zV 2) aJ)))) (aU (bC 0 "hear" cE (zX (zV 3) (zI 1)) (aC (zX (zV 3) (zI 0)) aJ))))
noncomputable def fE:eB:=dW 3 AE kE
noncomputable abbrev AH:List Str:=["self","one","other","hands","many","gained"]
noncomputable abbrev Ax:List Str:=["self","one","other"]
noncomputable abbrev kF:OS:=(aG (aX 3 (bC 1 "pair" bN (zV 0) (aC (zV 1) (aC (zV 2) aJ)))) (aG (aX 4 (bC 0 "hear" cE (zX (zV 3) (zI 1)) (aC (zX (zV 3) (zI 0)) aJ))) (aG (aX 5 (zT (aC (bC 0 "hear" cE (zX (zV 3) (zI 0)) (aC (zX (zV 3) (zI 1)) aJ)) (aC (zV 4) aJ)))) (aG (bX (bC 0 "hear" cE (zX (zV 3) (zI 1)) (aC (zX (zV 3) (zI 0)) aJ))) (aU (zV 5))))))
noncomputable def fG:eB:=dW 3 AH kF
noncomputable abbrev Os:List Str:=["hall","deed","kind"]
noncomputable abbrev Oq:List Str:=["hall","deed"]
noncomputable abbrev sC:OS:=(aG (aX 2 (zX (zV 1) (zI 0))) (aG (dI (dG (o2 (mI 8) (zV 2) (zS "put"))) (aU (bC 1 "put" gD (zV 0) (aC (zX (zV 1) (zI 1)) (aC (zX (zV 1) (zI 2)) (aC (zX (zV 1) (zI 3)) aJ))))) bH) (aG (dI (dG (o2 (mI 8) (zV 2) (zS "change"))) (aU (bC 1 "change" dN (zV 0) (aC (zX (zV 1) (zI 1)) (aC (zX (zV 1) (zI 2)) (aC (zX (zV 1) (zI 3)) aJ))))) bH) (aG (dI (dG (o2 (mI 8) (zV 2) (zS "take"))) (aU (bC 1 "take" fF (zV 0) (aC (zX (zV 1) (zI 1)) (aC (zX (zV 1) (zI 2)) aJ)))) bH) (aG (dI (dG (o2 (mI 8) (zV 2) (zS "tell"))) (aU (bC 1 "tell" fE (zV 0) (aC (zX (zV 1) (zI 1)) (aC (zX (zV 1) (zI 2)) aJ)))) bH) (aU (bC 1 "meet" fG (zV 0) (aC (zX (zV 1) (zI 1)) (aC (zX (zV 1) (zI 2)) aJ)))))))))
noncomputable def jQ:eB:=dW 2 Os sC
noncomputable abbrev AA:List Str:=["hall","deed"]
noncomputable abbrev Aq:List Str:=["hall","deed"]
noncomputable abbrev gS:OS:=(vV (aU (bE jQ (aC (zV 0) (aC (zV 1) aJ)))) 0 (aU (zS "no hand")) 1 (aU (zS "same hand")))
noncomputable def bU:eB:=dW 2 AA gS
noncomputable abbrev yA:List Str:=["count","deeds","hall"]
noncomputable abbrev FH:List Str:=["count","deeds"]
noncomputable abbrev xA:OS:=(aG (aX 2 (qH 1 eW (aC (zV 0) aJ))) (aU (dO yE (oIL (zV 1)) [wf,we 2] (aY 0) (oPT jN) (bE bU (aC (zV 1) (aC (zV 0) aJ))))))
noncomputable def kW:eB:=dW 2 yA xA
noncomputable abbrev FN:List Str:=["count","deeds","hall","deed"]
noncomputable abbrev Lu:List Str:=["count","deeds"]
noncomputable abbrev eA:OS:=(bX (bE bU (aC (zV 2) (aC (zV 3) aJ))))
noncomputable abbrev EI:OS:=(aG (aX 2 (qH 1 eW (aC (zV 0) aJ))) (aG (sNx (bF (oIL (zV 1)) (aY 3) eA)) (aU (zT (aC (dO yE (oIL (fS 1 "hands" (zV 2))) [wf] (aY 0) (oPT jN) (bC 0 "entries" bL (zV 0) aJ)) (aC (dO yE (oIL (fS 1 "hands" (zV 2))) [wf] (aY 0) (oPT jN) (oL gH (aC (bC 0 "seen" bM (zV 0) aJ) aJ))) (aC (dO yE (oIL (fS 1 "hands" (zV 2))) [wf] (aY 0) (oPT jN) (bC 0 "known" fU (zV 0) aJ)) (aC (dO yE (oIL (fS 1 "hands" (zV 2))) [wf] (aY 0) (oPT jN) (bC 0 "in_mind" eD (zV 0) aJ)) aJ))))))))
noncomputable def yU:eB:=dW 2 FN EI
noncomputable abbrev BG:List Str:=["_law_found","_law_meant","_law_k"]
noncomputable abbrev BF:List Str:=["_law_found","_law_meant"]
noncomputable abbrev tQ (φ:eB):OS:=(aG (dI (dG (o2 (lf NT) (zV 1) (oP (dC .non)))) (aU (o2 (lf NT) (zV 0) (oP (dC .non)))) bH) (aG (dI (fZ (iJ "bool" (zV 1))) (aU (wI (iJ "bool" (zV 0)) (o2 (mI 8) (zV 0) (zV 1)))) bH) (aG (dI (fZ (iJ "int" (zV 1))) (aU (wI (iJ "int" (zV 0)) (wI (Km (iJ "bool" (zV 0))) (o2 (mI 8) (zV 0) (zV 1))))) bH) (aG (dI (fZ (iJ "str" (zV 1))) (aU (wI (iJ "str" (zV 0)) (o2 (mI 8) (zV 0) (zV 1)))) bH) (aG (dI (fZ (iJ "dict" (zV 1))) LU bH) (aG (dI (dG (o2 (zU 8) (iJ "tuple" (zV 1)) (iJ "tuple" (zV 0)))) (aU (oP (dC (.bl false)))) bH) (aG (dI (oOr (dG (o2 (zU 8) (iJ "list" (zV 1)) (iJ "list" (zV 0)))) (gQ (fZ (DZ (zV 1))))) (aU (oP (dC (.bl false)))) bH) (aG (dI (dG (o2 (zU 8) (oL cJ (aC (zV 0) aJ)) (oL cJ (aC (zV 1) aJ)))) (aU (oP (dC (.bl false)))) bH) (aG (sNx (bF (oIA jP (aC (oL cJ (aC (zV 1) aJ)) aJ)) (aY 2) (dI (gQ (fZ (bE φ (aC (zX (zV 0) (zV 2)) (aC (zX (zV 1) (zV 2)) aJ))))) (aU (oP (dC (.bl false)))) bH))) (aU (oP (dC (.bl true)))))))))))))
noncomputable def eC:Nat->eB
 |0=>fun _ _=>wf
 |n+1=>dW 2 BG (tQ (eC n))
noncomputable abbrev Az:List Str:=["_law_found"]
noncomputable abbrev Ao:List Str:=["_law_found"]
noncomputable abbrev zM:OS:=(aU (wI (iJ "int" (zV 0)) (Km (iJ "bool" (zV 0)))))
noncomputable def fC:eB:=dW 1 Az zM
noncomputable abbrev nN:List Str:=["_law_script","_law_k"]
noncomputable abbrev Im:List Str:=["_law_script","_law_k"]
noncomputable abbrev tW:OS:=(aG (dI (dG (o2 (lf gLt) (zV 1) (oL cJ (aC (zV 0) aJ)))) (aU (zX (zV 0) (zV 1))) bH) (aU (zI 0)))
noncomputable def nD:eB:=dW 2 nN tW
noncomputable abbrev qC:List Str:=["_law_count","_law_deeds","_law_handed","_law_found"]
noncomputable abbrev pX:List Str:=["_law_count","_law_deeds"]
noncomputable abbrev iS:OS:=(aG (aX 2 (oL gH (aC (zV 1) aJ))) (aG (aX 3 (bE yU (aC (zV 0) (aC (zV 2) aJ)))) (aG (dI (oOr (dG (o2 (zU 8) (zV 2) (zV 1))) (oOr (gQ (fZ (iJ "tuple" (zV 3)))) (dG (o2 (zU 8) (oL cJ (aC (zV 3) aJ)) (zI 4))))) (aU (zT (aC (oP (dC .non)) (aC (oP (dC .non)) (aC (oP (dC .non)) (aC (oP (dC .non)) aJ)))))) bH) (aU (zV 3)))))
noncomputable def dJ:eB:=dW 2 qC iS
noncomputable abbrev FL:List Str:=["_law_count","_law_large"]
noncomputable abbrev FG:List Str:=["_law_count"]
noncomputable abbrev EH:OS:=(aG (aX 1 (zI 100000000000000000000)) (aU (zL (aC (oP (d1 PF (dC (.int 1)))) (aC (zV 0) (aC (oP (d1 PF (dC (.int 2)))) (aC (o2 (lf gSub) (zI 0) (zV 0)) (aC (zV 1) (aC (o2 (lf gSub) (zI 0) (zV 1)) aJ)))))))))
noncomputable def eN:eB:=dW 1 FL EH
noncomputable abbrev CK:List Str:=["_law_j","_law_count"]
noncomputable abbrev CG:List Str:=["_law_j","_law_count"]
noncomputable abbrev Cr:OS:=(aG (dI (dG (o2 (mI 8) (o2 (lf cH) (zV 1) (zI 2)) (zI 0))) (aU (o2 (lf KR) (o2 (lf KR) (o2 (lf KP) (zS "o") (o2 (lf cH) (zV 1) (zI 5))) (zX (zS "abcd") (zV 0))) (o2 (lf KP) (zS "o") (o2 (lf gSub) (zI 5) (o2 (lf cH) (zV 1) (zI 5)))))) bH) (aU (zX (zL (aC (zS "oats") (aC (zS "oat") (aC (zS "") (aC (zS "oatsack") aJ))))) (zV 0))))
noncomputable def jE:eB:=dW 2 CK Cr
noncomputable abbrev lN:List Str:=["_law_cell","_law_k","_law_count","_law_way","_law_one","_law_other","_law_name","_law_values","_law_value"]
noncomputable abbrev uP:List Str:=["_law_cell","_law_k","_law_count"]
noncomputable abbrev tS:OS:=(aG (aX 3 (o2 (lf cH) (o2 (lf cH) (o2 (lf iF) (zV 0) (zI 48271)) (zI 1009)) (zI 16))) (aG (aX 4 (o2 (lf cH) (o2 (lf cH) (o2 (lf iF) (o2 (lf vG) (zV 0) (zV 1)) (zI 48271)) (zI 1013)) (zV 2))) (aG (aX 5 (zV 4)) (aG (dI (yD (dG (o2 (lf gGt) (zV 2) (zI 1))) (dG (o2 (lf gGt) (o2 (lf cH) (o2 (lf cH) (o2 (lf iF) (zV 0) (zI 48271)) (zI 1019)) (zI 19)) (zI 0)))) (aX 5 (o2 (lf cH) (o2 (lf vG) (o2 (lf vG) (zV 4) (zI 1)) (o2 (lf cH) (o2 (lf cH) (o2 (lf iF) (zV 0) (zI 48271)) (zI 1021)) (o2 (lf gSub) (zV 2) (zI 1)))) (zV 2))) bH) (aG (aX 6 (bE jE (aC (o2 (lf cH) (o2 (lf cH) (o2 (lf iF) (zV 0) (zI 48271)) (zI 1031)) (zI 4)) (aC (zV 2) aJ)))) (aG (aX 7 (zL (aC (o2 (lf gSub) (o2 (lf cH) (o2 (lf cH) (o2 (lf iF) (zV 0) (zI 48271)) (zI 1033)) (zI 9)) (zI 4)) (aC (o2 (lf gSub) (zI 0) (zV 1)) (aC (o2 (lf vG) (zI 100000000000000000000) (zV 1)) aJ))))) (aG (aX 8 (zX (zV 7) (o2 (lf cH) (o2 (lf cH) (o2 (lf iF) (zV 0) (zI 48271)) (zI 1039)) (zI 3)))) (aG (dI (dG (o2 (mI 8) (o2 (lf cH) (o2 (lf cH) (o2 (lf iF) (zV 0) (zI 48271)) (zI 1049)) (zI 31)) (zI 30))) (aX 4 (zX (bE eN (aC (zV 2) aJ)) (o2 (lf cH) (o2 (lf cH) (o2 (lf iF) (zV 0) (zI 48271)) (zI 1051)) (zI 6)))) bH) (aG (dI (dG (o2 (mI 8) (o2 (lf cH) (o2 (lf cH) (o2 (lf iF) (zV 0) (zI 48271)) (zI 1061)) (zI 31)) (zI 30))) (aX 5 (zX (bE eN (aC (zV 2) aJ)) (o2 (lf cH) (o2 (lf cH) (o2 (lf iF) (zV 0) (zI 48271)) (zI 1063)) (zI 6)))) bH) (aG (dI (dG (o2 (lf gLt) (zV 3) (zI 5))) (aU (zT (aC (zS "put") (aC (zV 4) (aC (zV 6) (aC (zV 8) aJ)))))) bH) (aG (dI (dG (o2 (lf gLt) (zV 3) (zI 7))) (aU (zT (aC (zS "take") (aC (zV 4) (aC (zV 6) aJ))))) bH) (aG (dI (dG (o2 (lf gLt) (zV 3) (zI 9))) (aU (zT (aC (zS "change") (aC (zV 4) (aC (zV 6) (aC (zV 8) aJ)))))) bH) (aU (zT (aC (zX (zL (aC (zS "tell") (aC (zS "meet") aJ))) (oL (lfL Ox) (aC (o2 (lf gGt) (zV 3) (zI 11)) aJ))) (aC (zV 4) (aC (zV 5) aJ)))))))))))))))))
noncomputable def gO:eB:=dW 3 lN tS
noncomputable abbrev qB:List Str:=["_law_cells","_law_count","_law_deeds","_law_k"]
noncomputable abbrev Ap:List Str:=["_law_cells","_law_count"]
noncomputable abbrev eI:OS:=(bX (iD mB (zV 2) (aC (bE gO (aC (o2 (lf vG) (zX (zV 0) (zV 3)) (o2 (lf iF) (zI 7) (zV 3))) (aC (zV 3) (aC (zV 1) aJ)))) aJ)))
noncomputable abbrev pC:OS:=(aG (aX 2 (oL NS aJ)) (aG (sNx (bF (oIA jP (aC (oL cJ (aC (zV 0) aJ)) aJ)) (aY 3) eI)) (aU (zV 2))))
noncomputable def jZ:eB:=dW 2 qB pC
noncomputable abbrev mX:List Str:=["_law_found","_law_count","_law_rows","_law_row"]
noncomputable abbrev mW:List Str:=["_law_found","_law_count"]
noncomputable abbrev dF:OS:=(aG (dI (oOr (gQ (fZ (iJ "tuple" (zV 3)))) (oOr (dG (o2 (zU 8) (oL cJ (aC (zV 3) aJ)) (zI 3))) (gQ (fZ (iJ "str" (zX (zV 3) (zI 0))))))) (aU (oP (dC (.bl false)))) bH) (aG (dI (oOr (gQ (fZ (iJ "tuple" (zX (zV 3) (zI 1))))) (oOr (dG (o2 (zU 8) (oL cJ (aC (zX (zV 3) (zI 1)) aJ)) (zI 2))) (gQ (fZ (bE fC (aC (zX (zV 3) (zI 2)) aJ)))))) (aU (oP (dC (.bl false)))) bH) (dI (oOr (gQ (fZ (bE fC (aC (zX (zX (zV 3) (zI 1)) (zI 0)) aJ)))) (gQ (fZ (bE fC (aC (zX (zX (zV 3) (zI 1)) (zI 1)) aJ))))) (aU (oP (dC (.bl false)))) bH)))
noncomputable abbrev cG:OS:=(aG (dI (gQ (fZ (iJ "list" (zV 2)))) (aU (oP (dC (.bl false)))) bH) (sNx (bF (oIL (zV 2)) (aY 3) dF)))
noncomputable abbrev iE:OS:=(aG (dI (oOr (gQ (fZ (iJ "list" (zV 0)))) (dG (o2 (zU 8) (oL cJ (aC (zV 0) aJ)) (zV 1)))) (aU (oP (dC (.bl false)))) bH) (aG (sNx (bF (oIL (zV 0)) (aY 2) cG)) (aU (oP (dC (.bl true))))))
noncomputable def dD:eB:=dW 2 mX iE
noncomputable abbrev qX:List Str:=["_law_found","_law_count","_law_row","_law_number"]
noncomputable abbrev qT:List Str:=["_law_found","_law_count"]
noncomputable abbrev gG:OS:=(dI (gQ (fZ (bE fC (aC (zV 3) aJ)))) (aU (oP (dC (.bl false)))) bH)
noncomputable abbrev cX:OS:=(aG (dI (oOr (gQ (fZ (iJ "list" (zV 2)))) (dG (o2 (zU 8) (oL cJ (aC (zV 2) aJ)) (zV 1)))) (aU (oP (dC (.bl false)))) bH) (sNx (bF (oIL (zV 2)) (aY 3) gG)))
noncomputable abbrev jS:OS:=(aG (dI (oOr (gQ (fZ (iJ "list" (zV 0)))) (dG (o2 (zU 8) (oL cJ (aC (zV 0) aJ)) (zV 1)))) (aU (oP (dC (.bl false)))) bH) (aG (sNx (bF (oIL (zV 0)) (aY 2) cX)) (aU (oP (dC (.bl true))))))
noncomputable def dA:eB:=dW 2 qX jS
noncomputable abbrev qW:List Str:=["_law_cell","_law_count","_law_rest","_law_order","_law_k"]
noncomputable abbrev qS:List Str:=["_law_cell","_law_count"]
noncomputable abbrev dZ:OS:=(bX (iD mB (zV 3) (aC (iD zR (zV 2) (aC (o2 (lf cH) (o2 (lf cH) (o2 (lf iF) (o2 (lf KQ) (zV 0) (o2 (lf vG) (zV 4) (zI 1))) (zI 48271)) (zI 1087)) (oL cJ (aC (zV 2) aJ))) aJ)) aJ)))
noncomputable abbrev qK:OS:=(aG (aX 2 (dO Lc (oIA jP (aC (zV 1) aJ)) [wf] (aY 0) (oPT jN) (zV 0))) (aG (aX 3 (oL NS aJ)) (aG (sNx (bF (oIA jP (aC (zV 1) aJ)) (aY 4) dZ)) (aU (zV 3)))))
noncomputable def fY:eB:=dW 2 qW qK
noncomputable abbrev uW:List Str:=["_law_deed","_law_order","_law_made","_law_k","_law_part"]
noncomputable abbrev uO:List Str:=["_law_deed","_law_order"]
noncomputable abbrev eR:OS:=(aG (aX 4 (zX (zV 0) (zV 3))) (aG (dI (yD (dG (o2 (lf gLt) (zV 3) (zI 3))) (yD (gQ (fZ (iJ "str" (zV 4)))) (iP gLe gLt (zI 0) (zV 4) (oL cJ (aC (zV 1) aJ))))) (aX 4 (zX (zV 1) (zV 4))) bH) (bX (iD mB (zV 2) (aC (zV 4) aJ)))))
noncomputable abbrev tR:OS:=(aG (aX 2 (oL NS (aC (zX (zV 0) (zI 0)) aJ))) (aG (sNx (bF (oIA Hr (aC (zI 1) (aC (oL cJ (aC (zV 0) aJ)) aJ))) (aY 3) eR)) (aU (oL zP (aC (zV 2) aJ)))))
noncomputable def cD:eB:=dW 2 uW tR
noncomputable abbrev Qc:List Str:=["_law_script","_law_count","_law_order","_law_deeds","_law_other","_law_left","_law_seen","_law_known","_law_kept","_law_right","_law_again","_law_found","_law_k","_law_rows","_law_name","_law_mark","_law_value","_law_j","_law_told","_law_turned"]
noncomputable abbrev PZ:List Str:=["_law_script"]
noncomputable abbrev tV:OS:=(dI (yD (dG (o2 (lf (gIn 7)) (zX (zX (zV 3) (zV 12)) (zI 0)) (zL (aC (zS "tell") (aC (zS "meet") aJ))))) (gQ (fZ (bE (eC 8) (aC (zX (zV 18) (zV 12)) (aC (zX (zV 19) (zV 12)) aJ)))))) (aU (oP (dC (.bl false)))) bH)
noncomputable abbrev tU:OS:=(dI (dG (o2 (zU 8) (zX (zX (zV 10) (zX (zV 2) (zV 12))) (zX (zV 2) (zV 17))) (zX (zX (zV 6) (zV 12)) (zV 17)))) (aU (oP (dC (.bl false)))) bH)
noncomputable abbrev nH:OS:=(bX (iD mB (zV 13) (aC (zT (aC (zV 14) (aC (zT (aC (zX (zV 2) (zX (zV 15) (zI 0))) (aC (zX (zV 15) (zI 1)) aJ))) (aC (zV 16) aJ)))) aJ)))
noncomputable abbrev tT:OS:=(aG (aX 13 (oL NS aJ)) (aG (sNx (bF (oIL (zX (zV 5) (zV 12))) (Oy 14 15 16) nH)) (aG (dI (gQ (fZ (bE (eC 8) (aC (zX (zV 9) (zX (zV 2) (zV 12))) (aC (oL (EL 4) (aC (zV 13) aJ)) aJ))))) (aU (oP (dC (.bl false)))) bH) (sNx (bF (oIA jP (aC (zV 1) aJ)) (aY 17) tU)))))
noncomputable abbrev Br:OS:=(dI (gQ (fZ (bE dD (aC (zV 11) (aC (zV 1) aJ))))) (aU (oP (dC (.bl false)))) bH)
noncomputable abbrev NN:OS:=(aG (aX 1 (zX (zL (aC (zI 1) (aC (zI 2) (aC (zI 3) (aC (zI 4) (aC (zI 5) (aC (zI 2) (aC (zI 3) (aC (zI 8) aJ))))))))) (o2 (lf cH) (o2 (lf cH) (o2 (lf iF) (bE nD (aC (zV 0) (aC (zI 0) aJ))) (zI 48271)) (zI 1069)) (zI 8)))) (aG (aX 2 (bE fY (aC (bE nD (aC (zV 0) (aC (zI 1) aJ))) (aC (zV 1) aJ)))) (aG (aX 3 (bE jZ (aC (oSl (zV 0) (dSo (dC (.int 2))) (dSo (dC (.int 26)))) (aC (zV 1) aJ)))) (aG (aX 4 (dO yE (oIL (zV 3)) [wf,we 2] (aY 0) (oPT jN) (bE cD (aC (zV 0) (aC (zV 1) aJ))))) (aG (Dp (FB 5 6 7 8) (bE dJ (aC (zV 1) (aC (zV 3) aJ)))) (aG (Dp (FB 9 10 7 8) (bE dJ (aC (zV 1) (aC (zV 4) aJ)))) (aG (sNx (bF (oIL (zL (aC (zV 5) (aC (zV 9) aJ)))) (aY 11) Br)) (aG (dI (oOr (gQ (fZ (bE dA (aC (zV 6) (aC (zV 1) aJ))))) (gQ (fZ (bE dA (aC (zV 10) (aC (zV 1) aJ)))))) (aU (oP (dC (.bl false)))) bH) (aG (sNx (bF (oIA jP (aC (zV 1) aJ)) (aY 12) tT)) (aG (aX 18 (bE kW (aC (zV 1) (aC (oL gH (aC (zV 3) aJ)) aJ)))) (aG (aX 19 (bE kW (aC (zV 1) (aC (oL gH (aC (zV 4) aJ)) aJ)))) (aG (dI (oOr (gQ (fZ (iJ "list" (zV 18)))) (gQ (fZ (iJ "list" (zV 19))))) (aU (oP (dC (.bl false)))) bH) (aG (sNx (bF (oIA jP (aC (oL cJ (aC (zV 3) aJ)) aJ)) (aY 12) tV)) (aU (wI (o2 (mI 8) (oL cJ (aC (zV 18) aJ)) (oL cJ (aC (zV 3) aJ))) (o2 (mI 8) (oL cJ (aC (zV 19) aJ)) (oL cJ (aC (zV 3) aJ))))))))))))))))))
noncomputable def p_law:eB:=dW 1 Qc NN
theorem gY (J:Rho->Prop) (hc:chk ω=true):∀ {ds:List D}{ρ:Rho},J ρ->(∀ d∈ds,∀ ρ,J ρ->∃ ρ1,bd d ρ=we ρ1/\J ρ1/\t ρ1 ω=we (.ok (p d),ω)/\(p d=true->f ρ1 ω=we (.ok (g d),ω)))->
  compLO bd chk t f ds ρ ω=we ((ds.filter p).map g,ω)
 |[],ρ,_,_=>by
  show(if chk ω=true then we ([],ω) else wf)=_
  rw[if_pos hc];rfl
 |d::ds,ρ,hJ,h=>by
  obtain⟨ρ1,h1,h2,h3,h4⟩:=h d au ρ hJ;have ih:=gY J hc h2 fun d' hd=>h d' (aj _ hd);unfold compLO;rw[if_pos hc,h1]
  show(match t ρ1 ω with
   |some (.ok k,ω1)=>_
   |_=>_)=_
  rw[h3];cases hp:p d with
  |true=>
   rw[en hp]
   show(if true=true then(match f ρ1 ω with
    |some (.ok y,ω2)=>_
    |_=>wf) else _)=_
   rw[if_pos rfl,h4 hp]
   show(compLO bd chk t f ds ρ1 ω).map _=_
   rw[ih];rfl
  |false=>
   rw[eg (by rw[hp];exact ck)];exact ih
theorem jL (J:Rho->Prop) (hc:chk ω=true) (hJ:J ρ) (h:∀ d∈ds,∀ ρ,J ρ->∃ ρ1,bd d ρ=we ρ1/\J ρ1/\f ρ1 ω=we (.ok (g d),ω)):
  compLO bd chk (oPT jN) f ds ρ ω=we (ds.map g,ω):=by
 have:=gY (t:=oPT jN) (p:=fun _=>true) (g:=g) J hc hJ fun d hd ρ hρ=>let ⟨ρ1,h1,h2,h3⟩:=h d hd ρ hρ;⟨ρ1,h1,h2,rfl,fun _=>h3⟩
 rw[this]
 congr 2
 rw[tq.mpr (fun _ _=>rfl)]
theorem gA (h1:fi ρ ω=we (.ok (ds,chk),ω1)) (hl:ds.length<=sizeLine) (h2:compLO bd chk t f ds (FQ caps ρ) ω1=we (out,ω2)):dO yE fi caps bd t f ρ ω=we (.ok (.lst out),ω2):=by
 unfold dO;rw[bA h1]
 show(if ds.length<=sizeLine then _ else wf)=_
 rw[if_pos hl]
 show(compLO bd chk t f ds (FQ caps ρ) ω1).bind _=_
 rw[h2];rfl
theorem tJ (h1:fi ρ ω=we (.ok (ds,chk),ω1)) (hl:ds.length<=sizeLine) (h2:compLO bd chk t f ds (FQ caps ρ) ω1=we (out,ω2)):dO Lc fi caps bd t f ρ ω=we (.ok (.obj ω2.length),ω2++[.ml out]):=by
 unfold dO;rw[bA h1]
 show(if ds.length<=sizeLine then _ else wf)=_
 rw[if_pos hl]
 show(compLO bd chk t f ds (FQ caps ρ) ω1).bind _=_
 rw[h2];rfl
theorem bW (hc:chk ω=true) (hb:bd d ρ=we ρ1) (hF:F ρ1 ω=we (.nx ρ2,ω2)):bY bd chk F (d::ds) ρ ω=bY bd chk F ds ρ2 ω2:=by
 show(if chk ω=true then(bd d ρ).bind (fun ρ1=>match F ρ1 ω with
  |none=>wf
  |some (.nx ρ2,ω2)=>bY bd chk F ds ρ2 ω2
  |some (.ct ρ2,ω2)=>bY bd chk F ds ρ2 ω2
  |some (.bk ρ2,ω2)=>we (.nx ρ2,ω2)
  |some (.rt d,ω2)=>we (.rt d,ω2)
  |some (.ex _,_)=>wf) else wf)=_
 rw[if_pos hc,hb]
 show(match F ρ1 ω with
  |none=>wf
  |some (.nx ρ2,ω2)=>bY bd chk F ds ρ2 ω2
  |some (.ct ρ2,ω2)=>bY bd chk F ds ρ2 ω2
  |some (.bk ρ2,ω2)=>we (.nx ρ2,ω2)
  |some (.rt d,ω2)=>we (.rt d,ω2)
  |some (.ex _,_)=>wf)=_
 rw[hF]
theorem xM (hc:chk ω=true) (hb:bd d ρ=we ρ1) (hf:f ρ1 ω=we (.ok y,ω2)):compLO bd chk (oPT jN) f (d::ds) ρ ω=(compLO bd chk (oPT jN) f ds ρ1 ω2).map fun r=>(y::r.1,r.2):=by
 rw[compLO.eq_2,if_pos hc,hb]
 show(match f ρ1 ω with
  |some (.ok y,ω2)=>(compLO bd chk (oPT jN) f ds ρ1 ω2).map fun r:List D×Om=>(y::r.1,r.2)
  |_=>wf)=_
 rw[hf]
mutual
theorem rG:∀ a:D,fA a a=true
 |.non=>by simp[fA]
 |.bl a=>by simp[fA]
 |.int a=>by simp[fA]
 |.str a=>by simp[fA]
 |.obj a=>by simp[fA]
 |.lst a=>by simpa [fA] using sameDs_refl a
 |.tup a=>by simpa [fA] using sameDs_refl a
 |.scr a=>by simpa [fA] using sameDs_refl a
theorem sameDs_refl:∀ a:List D,sameDs a a=true
 |[]=>by simp[sameDs]
 |a::as=>by simp[sameDs,rG a,sameDs_refl as]
end
noncomputable def iv (xs:List Int):List D:=xs.map D.int
noncomputable def RowV (ω:Om) (d:D) (xs:List Int):Prop:=cV ω d=we (iv xs)
theorem RowV.it (h:RowV ω d xs):∃ chk,sE ω d=we (iv xs,chk)/\chk ω=true:=by
 rcases kO h with rfl|⟨n,rfl,e⟩
 ·exact⟨bO,rfl,rfl⟩
 ·refine⟨mG n (iv xs),?_,?_⟩
  ·show(match ω[n]? with
    |some (.ml ds)=>we (ds,mG n ds)
    |_=>wf)=_
   rw[e]
  ·unfold mG;rw[e];exact sameDs_refl _
theorem lZ (e:ω[n]?=we (.ml ds)):vF ω (.obj n) (.int a)=atI ds a:=by
 simp only[vF,cellOf,e];rfl
theorem RowV.ix (h:RowV ω d xs) {a:Int} (h0:0<=a) (h1:a<xs.length):vF ω d (.int a)=we (.int (xs.getD a.toNat 0)):=by
 have key:atI (iv xs) a=we (.int (xs.getD a.toNat 0)):=by
  unfold atI ixN iv;have hl:a<((xs.map D.int).length:Int):=by simpa using h1
  rw[if_pos h0,if_pos hl]
  show(xs.map D.int)[a.toNat]?=_
  have:a.toNat<xs.length:=by omega
  rw[bc,aw this,am,aw this];rfl
 rcases kO h with rfl|⟨n,rfl,e⟩
 ·exact key
 ·rw[lZ e];exact key
theorem aP (e1:f ρ ω=we (.ok a,ω1)) (e2:h ρ ω1=we (.ok b,ω2)) (e3:vF ω2 a b=we d):zX f h ρ ω=we (.ok d,ω2):=iQ e1 e2 (by show pu (vF ω2 a b) ω2=_;rw[e3];rfl)
theorem oZ (h:RowV ω d xs) {a b:Int} (h0:0<=a) (h1:a<xs.length):eZ [d,.tup [.int a,.int b]] ω=we (.ok (.bl (decide (b<=xs.getD a.toNat 0))),ω):=by
 refine aV rfl (bB (fH (aP (aB (d:=.tup [.int a,.int b]) rfl) aW rfl) (aP (aB (d:=d) rfl) (aP (aB (d:=.tup [.int a,.int b]) rfl) aW rfl) (h.ix h0 h1)) rfl))
theorem CQ (e1:f ρ ω=we (.ok a,ω)) (e2:h ρ ω=we (.ok b,ω)) (h1:RowV ω a xs) (h2:RowV ω b ys):∃ chk,oIZ (aC f (aC h aJ)) ρ ω=we (.ok (yH (iv xs) (iv ys),chk),ω)/\chk ω=true:=by
 obtain⟨c1,g1,k1⟩:=h1.it;obtain⟨c2,g2,k2⟩:=h2.it;refine⟨fun ω=>c1 ω&&c2 ω,?_,by simp[k1,k2]⟩;unfold oIZ;rw[bA (aA e1 (aA e2 aD))];show oR (pu (Ow ω [a,b]) ω)=_;unfold Ow;show oR (pu ((sE ω a).bind _) ω)=_;rw[g1];show oR (pu ((sE ω b).map _) ω)=_;rw[g2];rfl
theorem sT (hG:∀ x y,G (.tup [.int x,.int y])=.int (g x y)):(yH (iv xs) (iv ys)).map G=iv (bt g xs ys):=by
 unfold yH iv;rw[ve]
 induction xs generalizing ys with
 |nil=>rfl
 |cons x r ih=>
  cases ys with
  |nil=>rfl
  |cons y r'=>simp only[ii,bp,hG,ih]
theorem yF (h:d∈yH (iv xs) (iv ys)):∃ x y,d=.tup [.int x,.int y]:=by
 unfold yH iv at h;rw[ve] at h
 induction xs generalizing ys with
 |nil=>simp at h
 |cons x r ih=>
  cases ys with
  |nil=>simp at h
  |cons y r'=>
   rw[ii] at h;rcases ak.mp h with h|h
   ·exact⟨x,y,h⟩
   ·exact ih h
theorem yG (h:xs.length<=sizeLine):(yH (iv xs) (iv ys)).length<=sizeLine:=by
 unfold yH iv;rw[d8,av,av];omega
noncomputable def D2 (g:Int->Int->Int):D->D
 |.tup [.int x,.int y]=>.int (g x y)
 |d=>d
noncomputable def mx (i j:Int):Int:=if j>i then j else i
noncomputable def mn (i j:Int):Int:=if j<i then j else i
theorem vP:∀ xs:List Int,nO (iv xs)=we xs
 |[]=>rfl
 |x::r=>by
  show(nO (iv r)).map _=_
  rw[vP r];rfl
theorem wQ (h1:RowV ω a xs) (h2:RowV ω b ys) (hl:xs.length<=sizeLine):gP [a,b] ω=we (.ok (.obj ω.length),ω++[.ml (iv (bt mx xs ys))]):=by
 obtain⟨chk,z1,z2⟩:=CQ (f:=zV 0) (h:=zV 1) (ρ:=cI BH [a,b]) (aB (d:=a) rfl) (aB (d:=b) rfl) h1 h2;refine aV rfl (bB (tJ z1 (yG hl) ?_));rw[<- sT (G:=D2 mx) (fun _ _=>rfl)];refine jL (fun ρ=>ρ.length=2) z2 rfl fun d hd ρ hρ=> ?_;obtain⟨x,y,rfl⟩:=yF hd
 match ρ,hρ with
 |[u,v],_=>exact⟨_,rfl,rfl,rfl⟩
theorem GO (h1:RowV ω a xs) (h2:RowV ω b ys) (hl:xs.length<=sizeLine):yT [a,b] ω=we (.ok (.int (bt (fun x y=>mx (y-x) 0) xs ys).sum),ω):=by
 obtain⟨chk,z1,z2⟩:=CQ (f:=zV 0) (h:=zV 1) (ρ:=cI FJ [a,b]) (aB (d:=a) rfl) (aB (d:=b) rfl) h1 h2;refine aV rfl (bB (dE (aA (gA (ω2:=ω) (out:=iv (bt (fun x y=>mx (y-x) 0) xs ys)) z1 (yG hl) ?_) aD) ?_))
 ·rw[<- sT (G:=D2 fun x y=>mx (y-x) 0) (fun _ _=>rfl)];refine jL (fun ρ=>ρ.length=2) z2 rfl fun d hd ρ hρ=> ?_;obtain⟨x,y,rfl⟩:=yF hd
  match ρ,hρ with
  |[u,v],_=>exact⟨_,rfl,rfl,rfl⟩
 ·show pu ((nO (iv _)).map _) ω=_;rw[vP];rfl
theorem Bt (R:α->Rho->Om->Prop) (st:α->D->α) (hc:∀ a ρ ω,R a ρ ω->chk ω=true):∀ {ds:List D}{a:α}{ρ:Rho}{ω:Om},R a ρ ω->(∀ d∈ds,∀ a ρ ω,R a ρ ω->∃ ρ1 ρ2 ω2,bd d ρ=we ρ1/\F ρ1 ω=we (.nx ρ2,ω2)/\R (st a d) ρ2 ω2)->
  ∃ ρ' ω',bY bd chk F ds ρ ω=we (.nx ρ',ω')/\R (ds.foldl st a) ρ' ω'
 |[],a,ρ,ω,h,_=>⟨ρ,ω,by show(if chk ω=true then _ else wf)=_;rw[if_pos (hc a ρ ω h)],h⟩
 |d::ds,a,ρ,ω,h,g=>by
  obtain⟨ρ1,ρ2,ω2,e1,e2,h2⟩:=g d au a ρ ω h;obtain⟨ρ',ω',e3,h3⟩:=Bt R st hc h2 fun d' hd=>g d' (aj _ hd);refine⟨ρ',ω',?_,h3⟩;exact(bW (hc a ρ ω h) e1 e2).trans e3
theorem dS (h:F ρ ω=we (.nx ρ',ω')):sNx F ρ ω=we (.nx ρ',ω'):=by
 unfold sNx;rw[h]
structure Hd where
 knows:List (List Int)
 table:List (List Key×D)
 kept:List (List Key×D)
noncomputable def RowsAt (ω:Om):List Nat->List (List Int)->Prop:=iq fun r xs=>ω[r]?=we (Ob.ml (iv xs))
structure HandAt (ω:Om) (h:Nat) (i:Int) (hd:Hd) (k t e:Nat) (rs:List Nat):Prop where
 obj:ω[h]?=we (.ins 0 [("number",.int i),("knows",.obj k),("table",.obj t),("kept",.obj e)])
 kn:ω[k]?=we (.ml (rs.map D.obj))
 rows:RowsAt ω rs hd.knows
 tb:ω[t]?=we (.dt hd.table)
 kp:ω[e]?=we (.dt hd.kept)
 nd:(h::k::t::e::rs).Nodup
theorem RowsAt.get (h:RowsAt ω rs kn) {j:Nat} (e:kn[j]?=we xs):∃ r,rs[j]?=we r/\ω[r]?=we (.ml (iv xs)):=by
 induction h generalizing j with
 |nil=>simp at e
 |cons hr _ ih=>
  cases j with
  |zero=>simp at e;subst e;exact⟨_,rfl,hr⟩
  |succ j=>simp at e;obtain⟨r,e1,e2⟩:=ih e;exact⟨r,by simpa using e1,e2⟩
theorem RowsAt.length (h:RowsAt ω rs kn):rs.length=kn.length:=iz h
theorem fO (e1:f ρ ω=we (.ok (.obj n),ω1)) (e2:ω1[n]?=we (.ins c fs)) (e3:fs.lookup x=we d):fS c x f ρ ω=we (.ok d,ω1):=by
 unfold fS;rw[bA e1];show oR (pu (LB c x ω1 (.obj n)) ω1)=_
 have:LB c x ω1 (.obj n)=we d:=by
  simp[LB,cellOf,e2,e3]
 rw[this];rfl
theorem bP (e1:fo ρ ω=we (.ok (.obj n),ω1)) (e2:ω1[n]?=we (.ins c fs)) (e3:fs.lookup m=wf) (e4:fl ρ ω1=we (.ok ds,ω2)) (e5:φ (.obj n::ds) ω2=we (r,ω3)):
  bC c m φ fo fl ρ ω=we (r,ω3):=by
 unfold bC;rw[bA e1]
 have:Cj c m ω1 (.obj n)=true:=by
  simp only[Cj,cellOf,e2,e3];simp
 show(if Cj c m ω1 (.obj n)=true then _ else wf)=_
 rw[if_pos this,bA e4];exact e5
section
variable {ω:Om}{h k t e:Nat}{i:Int}{hd:Hd}{rs:List Nat}{ρ:Rho}{f:OG D}
theorem HandAt.number (H:HandAt ω h i hd k t e rs) (ef:f ρ ω=we (.ok (.obj h),ω)):fS 0 "number" f ρ ω=we (.ok (.int i),ω):=fO ef H.obj rfl
theorem HandAt.knows (H:HandAt ω h i hd k t e rs) (ef:f ρ ω=we (.ok (.obj h),ω)):fS 0 "knows" f ρ ω=we (.ok (.obj k),ω):=fO ef H.obj rfl
theorem HandAt.table (H:HandAt ω h i hd k t e rs) (ef:f ρ ω=we (.ok (.obj h),ω)):fS 0 "table" f ρ ω=we (.ok (.obj t),ω):=fO ef H.obj rfl
theorem HandAt.kept (H:HandAt ω h i hd k t e rs) (ef:f ρ ω=we (.ok (.obj h),ω)):fS 0 "kept" f ρ ω=we (.ok (.obj e),ω):=fO ef H.obj rfl
noncomputable def Hd.seen (hd:Hd) (i:Nat):List Int:=hd.knows.getD i []
theorem jX {i:Nat} (H:HandAt ω h i hd k t e rs) (hr:rs[i]?=we r):bM [.obj h] ω=we (.ok (.obj r),ω):=by
 refine aV rfl (bB (aP (H.knows (aB rfl)) (H.number (aB rfl)) ?_));rw[lZ H.kn];have hl:i<rs.length:=(bi.mp hr).1;unfold atI ixN;rw[if_pos (je i),if_pos (by simpa using hl)]
 show(rs.map D.obj)[i]?=_
 rw[bc,hr];rfl
theorem HandAt.seenRow {i:Nat} (H:HandAt ω h i hd k t e rs) (hi:i<hd.knows.length):∃ r,rs[i]?=we r/\ω[r]?=we (.ml (iv (hd.seen i))):=by
 refine H.rows.get ?_;unfold Hd.seen;rw[am,aw hi];rfl
noncomputable def Hd.entries (hd:Hd):Option (List D):=eM 4 (hd.table.map (·.2))
theorem jJ (H:HandAt ω h i hd k t e rs) (hs:hd.entries=we out):bL [.obj h] ω=we (.ok (.lst out),ω):=by
 refine aV rfl (bB ?_);unfold GH;rw[bA (H.table (aB rfl))];show oR (pu (EK 4 ω (.obj t)) ω)=_
 have:EK 4 ω (.obj t)=we (.lst out):=by
  simp only[EK,cellOf,H.tb]
  show(hd.entries).map _=_
  rw[hs];rfl
 rw[this];rfl
theorem bS (e1:fo ρ ω=we (.ok (.obj n),ω1)) (e2:ω1[n]?=we (.ins c fs)) (e3:fs.lookup m=wf) (e5:φ [.obj n] ω1=we (r,ω3)):
  bC c m φ fo aJ ρ ω=we (r,ω3):=bP e1 e2 e3 aD e5
noncomputable def marksIn (name:D) (rows:List D):List D:=(rows.filter fun d=>match d with|.tup (a::_)=>(eqD 8 a name)==we true|_=>false).map fun d=>match d with|.tup (_::m::_)=>m|_=>.non
noncomputable def eT (d:D):Prop:=∃ x a b v,d=.tup [.str x,.tup [.int a,.int b],.int v]
theorem kH (n:Nat) (x y:Str):eqD n (.str x) (.str y)=we (decide (x=y)):=by cases n <;> rfl
theorem GS (H:HandAt ω h i hd k t e rs) (hs:hd.entries=we out) (he:∀ d∈out,eT d) (hl:out.length<=sizeLine) (y:Str):cP [.obj h,.str y] ω=we (.ok (.lst (marksIn (.str y) out)),ω):=by
 have e1:bC 0 "entries" bL (zV 0) aJ (cI jB [.obj h,.str y]) ω=we (.ok (.lst out),ω):=bS (aB rfl) H.obj rfl (jJ H hs);refine aV rfl (bB (gA (ds:=out) (chk:=bO) (ω1:=ω) ?_ hl ?_))
 ·unfold oIL;rw[bA e1];rfl
 ·unfold marksIn;refine gY (fun ρ=>∃ u,ρ=[u,we (.str y)]) rfl ⟨_,rfl⟩ fun d hd ρ hρ=> ?_;obtain⟨x,a,b,v,rfl⟩:=he d hd;obtain⟨u,rfl⟩:=hρ;refine⟨_,rfl,⟨_,rfl⟩,?_,fun _=>rfl⟩;refine cY (iQ (aP (aB rfl) aW rfl) (aB rfl) ?_);show pu ((eqD 8 (.str x) (.str y)).map D.bl) ω=_;rw[kH];show we (D.bl (decide (x=y)),ω)=we (D.bl (eqD 8 (.str x) (.str y)==we true),ω);rw[kH];cases decide (x=y) <;> rfl
theorem lU {o i v:D} (e1:fv ρ ω=we (.ok v,ω1)) (e2:fo ρ ω1=we (.ok o,ω2)) (e3:fi ρ ω2=we (.ok i,ω3)) (e4:g ω3 o i v=we ω4):oG g fo fi fv ρ ω=we (.nx ρ,ω4):=by
 unfold oG;rw[bR e1,bR e2,bR e3]
 show(g ω3 o i v).map _=_
 rw[e4];rfl
theorem Dj {j:Nat} (e:ω[n]?=we (.ml ds)) (hj:j<ds.length):zQ ω (.obj n) (.int j) v=we (ω.set n (.ml (ds.set j v))):=by
 simp only[zQ,e];unfold ixN;rw[if_pos (je j),if_pos (by simpa using hj)];simp
theorem aM (h:m≠n):(ω.set n ob)[m]?=ω[m]?:=hX (cy h)
theorem cB (h:ω[n]?=we ob'):(ω.set n ob)[n]?=we ob:=by
 have hl:n<ω.length:=(bi.mp h).1;simp[hl]
theorem RowsAt.mono (h:RowsAt ω rs kn) (k:∀ r∈rs,ω'[r]?=ω[r]?):RowsAt ω' rs kn:=by
 induction h with
 |nil=>exact .nil
 |cons hr _ ih=>exact .cons ((k _ au).trans hr) (ih fun r hr=>k r (aj _ hr))
theorem HandAt.mono (H:HandAt ω h i hd k t e rs) (g:∀ n∈h::k::t::e::rs,ω'[n]?=ω[n]?):HandAt ω' h i hd k t e rs:=
 ⟨(g h (by simp)).trans H.obj,(g k (by simp)).trans H.kn,H.rows.mono fun r hr=>g r (by simp[hr]),(g t (by simp)).trans H.tb,(g e (by simp)).trans H.kp,H.nd⟩
theorem RowsAt.set (h:RowsAt ω rs kn) (nd:rs.Nodup) (hr:rs[j]?=we r):RowsAt (ω.set r (.ml (iv xs))) rs (kn.set j xs):=by
 induction h generalizing j with
 |nil=>simp at hr
 |@cons r0 x0 rs' kn' h0 t ih=>
  rw[cg] at nd;cases j with
  |zero=>
   simp at hr;subst hr;rw[um];refine .cons (cB h0) (RowsAt.mono t fun q hq=>aM fun z=>nd.1 (z ▸ hq))
  |succ j=>
   simp at hr;rw[uo];refine .cons ?_ (ih nd.2 hr)
   show(ω.set r (.ml (iv xs)))[r0]?=_
   rw[aM (show r0≠r from fun z=>nd.1 (by rw[z];exact fh hr))];exact h0
noncomputable def Keep (fp:List Nat) (ω ω':Om):Prop:=ω.length<=ω'.length/\∀ n,n<ω.length->n∉fp->ω'[n]?=ω[n]?
theorem Keep.refl (fp:List Nat) (ω:Om):Keep fp ω ω:=⟨bj _,fun _ _ _=>rfl⟩
theorem Keep.trans (a:Keep fp ω ω1) (b:Keep fp ω1 ω2):Keep fp ω ω2:=⟨ci a.1 b.1,fun n h1 h2=>(b.2 n (bx h1 a.1) h2).trans (a.2 n h1 h2)⟩
theorem Keep.set (h:n∈fp):Keep fp ω (ω.set n ob):=⟨by simp,fun m _ hm=>aM fun z=>hm (z ▸ h)⟩
noncomputable def Hd.bump (hd:Hd) (i:Nat):Hd:={ hd with knows:=hd.knows.set i ((hd.seen i).set i ((hd.seen i).getD i 0+1)) }
theorem oM {i:Nat} (H:HandAt ω h i hd k t e rs) (hi:i<hd.knows.length) (hs:i<(hd.seen i).length):∃ ω',cO [.obj h] ω=we (.ok (.tup [.int i,.int ((hd.seen i).getD i 0+1)]),ω')/\HandAt ω' h i (hd.bump i) k t e rs/\Keep rs ω ω'/\ω'.length=ω.length:=by
 obtain⟨r,hr,er⟩:=H.seenRow hi;have hm:r∈rs:=fh hr;have nd:=H.nd;simp only[cg,ak,not_or] at nd;obtain⟨⟨h1,h2,h3,h4⟩,⟨h5,h6,h7⟩,⟨h8,h9⟩,h10,h11⟩:=nd;have ne:∀ {n:Nat},n∉rs->n≠r:=fun hn z=>hn (z ▸ hm);refine⟨ω.set r (.ml (iv ((hd.seen i).set i ((hd.seen i).getD i 0+1)))),?_,⟨?_,?_,H.rows.set h11 hr,?_,?_,H.nd⟩,Keep.set hm,by simp⟩
 ·have ix:vF ω (.obj r) (.int i)=we (.int ((hd.seen i).getD i 0)):=by
   have:=RowV.ix (ω:=ω) (d:=.obj r) (xs:=hd.seen i) (by unfold RowV cV;simp only[er]) (a:=i) (je i) (by simpa using hs)
   simpa using this
  refine aV rfl ?_;unfold iU;rw[aO (bS (aB rfl) H.obj rfl (jX H hr))];have e2:(ω.set r (.ml (iv ((hd.seen i).set i ((hd.seen i).getD i 0+1)))))[h]?=ω[h]?:=aM (ne h4);rw[bD (lU (fH (aP (aB (d:=.obj r) rfl) (H.number (aB rfl)) ix) aW rfl) (aB (d:=.obj r) rfl) (H.number (aB rfl)) (Dj er (by unfold iv;simpa using hs)))];have e3:(iv (hd.seen i)).set i (.int ((hd.seen i).getD i 0+1))=iv ((hd.seen i).set i ((hd.seen i).getD i 0+1)):=by
   unfold iv;rw[List.map_set]
  rw[e3];have H2:fS 0 "number" (zV 0) [we (.obj h),we (.obj r)] (ω.set r (.ml (iv ((hd.seen i).set i ((hd.seen i).getD i 0+1)))))=we (.ok (.int i),ω.set r (.ml (iv ((hd.seen i).set i ((hd.seen i).getD i 0+1))))):=fO (aB rfl) (e2.trans H.obj) rfl;have er2:=cB (ob:=.ml (iv ((hd.seen i).set i ((hd.seen i).getD i 0+1)))) er;refine bB (dE (aA H2 (aA (aP (d:=.int ((hd.seen i).getD i 0+1)) (aB (d:=.obj r) rfl) H2 ?_) aD)) rfl)
  have:=RowV.ix (ω:=ω.set r (.ml (iv ((hd.seen i).set i ((hd.seen i).getD i 0+1))))) (d:=.obj r) (xs:=(hd.seen i).set i ((hd.seen i).getD i 0+1)) (by unfold RowV cV;simp only[er2]) (a:=i) (je i) (by simpa using hs)
  rw[this];simp[hs]
 ·rw[aM (ne h4)];exact H.obj
 ·rw[aM (ne h7)];exact H.kn
 ·rw[aM (ne h9)];exact H.tb
 ·rw[aM (ne h10)];exact H.kp
end
section
variable {ω:Om}{h k t e:Nat}{i:Nat}{hd:Hd}{rs:List Nat}{ρ:Rho}{f:OG D}
theorem HandAt.ne (H:HandAt ω h i hd k t e rs):(h≠k/\h≠t/\h≠e/\h∉rs)/\(k≠t/\k≠e/\k∉rs)/\(t≠e/\t∉rs)/\e∉rs/\rs.Nodup:=by
 have nd:=H.nd;simp only[cg,ak,not_or] at nd;obtain⟨⟨h1,h2,h3,h4⟩,⟨h5,h6,h7⟩,⟨h8,h9⟩,h10,h11⟩:=nd;exact⟨⟨h1,h2,h3,h4⟩,⟨h5,h6,h7⟩,⟨h8,h9⟩,h10,h11⟩
theorem HandAt.setT (H:HandAt ω h i hd k t e rs) (T:List (List Key×D)):HandAt (ω.set t (.dt T)) h i { hd with table:=T } k t e rs:=by
 obtain⟨⟨h1,h2,h3,h4⟩,⟨h5,h6,h7⟩,⟨h8,h9⟩,h10,h11⟩:=H.ne;refine⟨?_,?_,H.rows.mono fun r hr=>aM fun z=>h9 (z ▸ hr),cB H.tb,?_,H.nd⟩
 ·rw[aM h2];exact H.obj
 ·rw[aM h5];exact H.kn
 ·rw[aM (cy h8)];exact H.kp
theorem HandAt.setE (H:HandAt ω h i hd k t e rs) (T:List (List Key×D)):HandAt (ω.set e (.dt T)) h i { hd with kept:=T } k t e rs:=by
 obtain⟨⟨h1,h2,h3,h4⟩,⟨h5,h6,h7⟩,⟨h8,h9⟩,h10,h11⟩:=H.ne;refine⟨?_,?_,H.rows.mono fun r hr=>aM fun z=>h10 (z ▸ hr),?_,cB H.kp,H.nd⟩
 ·rw[aM h3];exact H.obj
 ·rw[aM h6];exact H.kn
 ·rw[aM h8];exact H.tb
theorem HandAt.lt (H:HandAt ω h i hd k t e rs):∀ n∈h::k::t::e::rs,n<ω.length:=by
 intro n hn;have lt:∀ {m:Nat}{o:Ob},ω[m]?=we o->m<ω.length:=fun q=>(bi.mp q).1;rcases ak.mp hn with rfl|hn
 ·exact lt H.obj
 rcases ak.mp hn with rfl|hn
 ·exact lt H.kn
 rcases ak.mp hn with rfl|hn
 ·exact lt H.tb
 rcases ak.mp hn with rfl|hn
 ·exact lt H.kp
 ·have:∀ {rs:List Nat}{kn:List (List Int)},RowsAt ω rs kn->∀ n∈rs,n<ω.length:=by
   intro rs kn hR
   induction hR with
   |nil=>intro n hn;simp at hn
   |cons hr _ ih=>
    intro n hn;rcases ak.mp hn with rfl|hn
    ·exact lt hr
    ·exact ih n hn
  exact this H.rows n hn
noncomputable def gE (i:Nat) (b:Int):List Key:=[.inl (i:Int),.inl b]
noncomputable def mkD (i:Nat) (b:Int):D:=.tup [.int i,.int b]
noncomputable def Hd.next (hd:Hd) (i:Nat):Int:=(hd.seen i).getD i 0+1
noncomputable def Hd.put (hd:Hd) (i:Nat) (x:Str) (v:Int):Hd:={ hd.bump i with table:=iI hd.table (gE i (hd.next i)) (.tup [.str x,mkD i (hd.next i),.int v]) }
theorem uE (e:ω[n]?=we (.dt kvs)) (hk:Db y=we ks) (hl:kvs.length<sizeLine):tZ ω (.obj n) y v=we (ω.set n (.dt (iI kvs ks v))):=by
 simp only[tZ,e,hk]
 show(if kvs.length<sizeLine then _ else wf)=_
 rw[if_pos hl]
theorem Mg (H:HandAt ω h i hd k t e rs) (hi:i<hd.knows.length) (hs:i<(hd.seen i).length) (hl:hd.table.length<sizeLine) (x:Str) (v:Int):
  ∃ ω',dX [.obj h,.str x,.int v] ω=we (.ok (mkD i (hd.next i)),ω')/\HandAt ω' h i (hd.put i x v) k t e rs/\Keep (t::rs) ω ω'/\ω'.length=ω.length:=by
 obtain⟨ω1,e1,H1,K1,L1⟩:=oM H hi hs;have hb:(hd.bump i).table=hd.table:=rfl;refine⟨ω1.set t (.dt (iI hd.table (gE i (hd.next i)) (.tup [.str x,mkD i (hd.next i),.int v]))),?_,?_,⟨by simp[L1],fun n hn hm=> ?_⟩,by simp[L1]⟩
 ·refine aV rfl ?_;unfold sD;rw[aO (bS (aB rfl) H.obj rfl e1)];rw[bD (lU (dE (aA (aB (d:=.str x) rfl) (aA (aB (d:=mkD i (hd.next i)) rfl) (aA (aB (d:=.int v) rfl) aD))) rfl) (H1.table (aB rfl)) (aB (d:=mkD i (hd.next i)) rfl) (uE (ks:=gE i (hd.next i)) H1.tb rfl hl))];exact bB (aB rfl)
 ·exact H1.setT _
 ·rw[aM (fun z=>hm (by rw[z];simp))];exact K1.2 n hn fun z=>hm (aj _ z)
noncomputable def common:List (List Int)->List Int
 |[]=>[]
 |r::rest=>rest.foldl (bt mn) r
theorem Fl (hk:ω[k]?=we (.ml (rs.map D.obj))) (hr:RowsAt ω rs kn) (hne:kn≠[]) (hl:∀ xs∈kn,xs.length<=sizeLine):nE [.obj k] ω=we (.ok (.lst (iv (common kn))),ω):=by
 cases hr with
 |nil=>exact absurd rfl hne
 |@cons r0 x0 rs kn h0 ht=>
  refine aV rfl ?_;unfold Bs;have e0:vF ω (.obj k) (.int 0)=we (.obj r0):=by
   rw[lZ hk];unfold atI ixN;simp
  rw[aO (d:=.lst (iv x0)) (dE (aA (aP (aB (d:=.obj k) rfl) aW e0) aD) (by
   show(cQ ω (.obj r0)).map _=_
   have:cQ ω (.obj r0)=we (iv x0):=by simp only[cQ,cV,h0]
   rw[this];rfl))]
  have e1:oSl (zV 0) (dSo (dC (.int 1))) dNo ((cI uX [.obj k]).set 1 (we (.lst (iv x0)))) ω=we (.ok (.lst (rs.map D.obj)),ω):=by
   unfold oSl;rw[bA (aB (d:=.obj k) rfl)];show oR (pu (NO ω (.obj k) (we 1) wf) ω)=_
   have:NO ω (.obj k) (we 1) wf=we (.lst (CA ((r0::rs).map D.obj) (we 1) wf)):=by simp only[NO,cV,hk]
   rw[this];have c1:CA ((r0::rs).map D.obj) (we 1) wf=rs.map D.obj:=by
    simp only[CA,HT.sIx];simp[qy]
   rw[c1];rfl
  have hloop:∃ ρ' ω',bY (aY 2) bO fM (rs.map D.obj) ((cI uX [.obj k]).set 1 (we (.lst (iv x0)))) ω=we (.nx ρ',ω')/\(ω'=ω/\∃ v,ρ'=[we (.obj k),we (.lst (iv (kn.foldl (bt mn) x0))),v]):=by
   have gen:∀ {rs:List Nat}{kn:List (List Int)},RowsAt ω rs kn->(∀ xs∈kn,xs.length<=sizeLine)->∀(x0:List Int) (v:Option D),x0.length<=sizeLine->∃ ρ' ω',bY (aY 2) bO fM (rs.map D.obj) [we (.obj k),we (.lst (iv x0)),v] ω=we (.nx ρ',ω')/\(ω'=ω/\∃ v,ρ'=[we (.obj k),we (.lst (iv (kn.foldl (bt mn) x0))),v]):=by
    intro rs kn hR
    induction hR with
    |nil=>intro _ x0 v _;exact⟨_,_,rfl,rfl,_,rfl⟩
    |@cons r1 x1 rs kn h1 _ ih=>
     intro hl x0 v hx;obtain⟨ρ',ω',g1,g2,g3⟩:=ih (fun xs hxs=>hl xs (aj _ hxs)) (bt mn x0 x1) (we (.obj r1)) (by rw[d8];omega);refine⟨ρ',ω',?_,g2,g3⟩;rw[<- g1];have step:fM [we (.obj k),we (.lst (iv x0)),we (.obj r1)] ω=we (.nx [we (.obj k),we (.lst (iv (bt mn x0 x1))),we (.obj r1)],ω):=by
      obtain⟨chk,z1,z2⟩:=CQ (f:=zV 1) (h:=zV 2) (ρ:=[we (.obj k),we (.lst (iv x0)),we (.obj r1)]) (ω:=ω) (a:=.lst (iv x0)) (b:=.obj r1) (xs:=x0) (ys:=x1) (aB rfl) (aB rfl) rfl (by unfold RowV cV;simp only[h1]);unfold fM aX;rw[bR (gA (ω2:=ω) (out:=iv (bt mn x0 x1)) z1 (yG hx) (by
       rw[<- sT (G:=D2 mn) (fun _ _=>rfl)];refine jL (fun ρ=>ρ.length=2) z2 rfl fun d hd ρ hρ=> ?_;obtain⟨x,y,rfl⟩:=yF hd
       match ρ,hρ with
       |[u,v],_=>exact⟨_,rfl,rfl,rfl⟩))]
      rfl
     exact bW rfl rfl step
   exact gen ht (fun xs hxs=>hl xs (aj _ hxs)) x0 wf (hl x0 au)
  obtain⟨ρ',ω',g1,rfl,v,rfl⟩:=hloop;rw[bD (dS (by
   unfold bF oIL;rw[bR (bA e1)];exact g1))]
  exact bB (aB rfl)
end
theorem tE (hl:ds.length=n) (e:G (cI N ds) ω=we (.nx ρ1,ω1)):dW n N G ds ω=we (.ok .non,ω1):=by
 unfold dW;rw[if_pos hl,e]
theorem oF:∀ kvs:List (List Key×D),rF kvs kvs=true
 |[]=>rfl
 |a::r=>by simp[rF,rG,oF r]
theorem zC (h:ω[n]?=we (.dz kvs)):wU n kvs ω=true:=by
 unfold wU;rw[h];exact oF kvs
noncomputable def Qd (c:Nat) (k:List Key):Prop:=∃ a b:Int,k=[.inl a,.inl b]/\0<=a/\a<c
noncomputable def fR (xs:List Int):List Key->Bool
 |[.inl a,.inl b]=>decide (b<=xs.getD a.toNat 0)
 |_=>false
theorem CT (nd:(kvs.map (·.1)).Nodup) {kv:List Key×D} (h:kv∈kvs):iH kvs kv.1=we kv.2:=by
 induction kvs with
 |nil=>simp at h
 |cons p r ih=>
  rw[bp,cg] at nd;unfold iH;rcases ak.mp h with rfl|h
  ·simp[gn]
  ·have hne:p.1≠kv.1:=fun z=>nd.1 (z ▸ az.mpr ⟨kv,h,rfl⟩);rw[List.find?_cons_of_neg (by simpa using hne)];exact ih nd.2 h
theorem AZ {k:List Key} (h:k∉kvs.map (·.1)):iI kvs k v=kvs++[(k,v)]:=by
 unfold iI;rw[if_neg];simp only[nq,decide_eq_true_eq,not_exists,not_and];intro x hx z;exact h (az.mpr ⟨x,hx,z⟩)
section
variable {ω:Om}{h k t e:Nat}{i:Nat}{hd:Hd}{rs:List Nat}{ρ:Rho}{f:OG D}
noncomputable def Hd.forget (hd:Hd):Hd:={ hd with kept:=hd.kept.filter fun kv=> !fR (common hd.knows) kv.1 }
structure Hd.Ok (c:Nat) (hd:Hd):Prop where
 len:hd.knows.length=c
 row:∀ xs∈hd.knows,xs.length=c
 small:c<=8
 pos:0<c
 kk:∀ kv∈hd.kept,Qd c kv.1
 kn:(hd.kept.map (·.1)).Nodup
 kl:hd.kept.length<64
 tk:∀ kv∈hd.table,∃ a b:Int,0<=a/\a<c/\kv.1=[.inl a,.inl b]/\∃ x v,kv.2=.tup [.str x,.tup [.int a,.int b],.int v]
 tn:(hd.table.map (·.1)).Nodup
 tl:hd.table.length<64
theorem CB:∀ {kn:List (List Int)},kn≠[]->(∀ xs∈kn,xs.length=c)->(common kn).length=c
 |[],hne,_=>absurd rfl hne
 |r::rest,_,h=>by
  have gen:∀(rest:List (List Int)) (r:List Int),r.length=c->(∀ xs∈rest,xs.length=c)->(rest.foldl (bt mn) r).length=c:=by
   intro rest
   induction rest with
   |nil=>intro r hr _;exact hr
   |cons x rest ih=>
    intro r hr hx;refine ih _ ?_ fun xs hxs=>hx xs (aj _ hxs);rw[d8,hr,hx x au,iu]
  exact gen rest r (h r au) fun xs hxs=>h xs (aj _ hxs)
theorem xC (H:HandAt ω h i hd k t e rs) (W:hd.Ok c):∃ ω',eV [.obj h] ω=we (.ok .non,ω')/\HandAt ω' h i hd.forget k t ω.length rs/\Keep [h] ω ω':=by
 have hne:hd.knows≠[]:=fun z=>by have:=W.len;rw[z] at this;have:=W.pos;simp at*;omega
 have hcl:=CB hne W.row;obtain⟨⟨h1,h2,h3,h4⟩,⟨h5,h6,h7⟩,⟨h8,h9⟩,h10,h11⟩:=H.ne;have ltn:∀ {n:Nat},n∈h::k::t::e::rs->n≠ω.length:=fun hn z=>absurd (H.lt _ hn) (by rw[z];exact f9 _);have e1:bE nE (aC (fS 0 "knows" (zV 0)) aJ) (cI iC [.obj h]) ω=we (.ok (.lst (iv (common hd.knows))),ω):=aR (aA (H.knows (aB rfl)) aD) (Fl H.kn H.rows hne fun xs hx=>by rw[W.row xs hx,b8];have:=W.small;omega)
 -- the loop
 have loop:∀(post pre:List (List Key×D)) (v:Option D) (ω1:Om),hd.kept=pre++post->ω1[ω.length]?=we (.dt (pre.filter fun kv=> !fR (common hd.knows) kv.1))->ω1[e]?=we (.dz hd.kept)->(∀ n,n<ω.length->n≠e->ω1[n]?=ω[n]?)->ω1.length=ω.length+1->
   ∃ ρ' ω',bY (aY 3) (wU e hd.kept) aQ (post.map fun kv=>bZ kv.1) [we (.obj h),we (.lst (iv (common hd.knows))),we (.obj ω.length),v] ω1=we (.nx ρ',ω')/\(∃ v,ρ'=[we (.obj h),we (.lst (iv (common hd.knows))),we (.obj ω.length),v])/\
    ω'[ω.length]?=we (.dt (hd.kept.filter fun kv=> !fR (common hd.knows) kv.1))/\ω'[e]?=we (.dz hd.kept)/\(∀ n,n<ω.length->n≠e->ω'[n]?=ω[n]?)/\ω'.length=ω.length+1:=by
  intro post
  induction post with
  |nil=>
   intro pre v ω1 hp g1 g2 g3 g4;rw[c7] at hp;refine⟨_,ω1,by show(if wU e hd.kept ω1=true then _ else wf)=_;rw[if_pos (zC g2)],⟨v,rfl⟩,by rw[hp];exact g1,g2,g3,g4⟩
  |cons kv post ih=>
   intro pre v ω1 hp g1 g2 g3 g4;have hm:kv∈hd.kept:=by rw[hp];simp
   obtain⟨a,b,hk,ha0,ha1⟩:=W.kk kv hm;have hdk:bZ kv.1=.tup [.int a,.int b]:=by rw[hk];rfl
   have hseen:eZ [.lst (iv (common hd.knows)),.tup [.int a,.int b]] ω1=we (.ok (.bl (fR (common hd.knows) kv.1)),ω1):=by
    rw[hk];exact oZ (ω:=ω1) (d:=.lst (iv (common hd.knows))) (xs:=common hd.knows) (show cV ω1 (.lst (iv (common hd.knows)))=_ from rfl) ha0 (by rw[hcl];exact ha1)
   have hobj:ω1[h]?=we (.ins 0 [("number",.int i),("knows",.obj k),("table",.obj t),("kept",.obj e)]):=by rw[g3 h (H.lt h (by simp)) h3];exact H.obj
   have hp':hd.kept=(pre++[kv])++post:=by rw[dy];exact hp
   have first:∀ ω2,aQ [we (.obj h),we (.lst (iv (common hd.knows))),we (.obj ω.length),we (.tup [.int a,.int b])] ω1=we (.nx [we (.obj h),we (.lst (iv (common hd.knows))),we (.obj ω.length),we (.tup [.int a,.int b])],ω2)->
     bY (aY 3) (wU e hd.kept) aQ ((kv::post).map fun kv=>bZ kv.1) [we (.obj h),we (.lst (iv (common hd.knows))),we (.obj ω.length),v] ω1=bY (aY 3) (wU e hd.kept) aQ (post.map fun kv=>bZ kv.1) [we (.obj h),we (.lst (iv (common hd.knows))),we (.obj ω.length),we (.tup [.int a,.int b])] ω2:=fun ω2 q=>by
    rw[bp,hdk]
    show(if wU e hd.kept ω1=true then(match aQ [we (.obj h),we (.lst (iv (common hd.knows))),we (.obj ω.length),we (.tup [.int a,.int b])] ω1 with
     |none=>wf
     |some (.nx ρ2,ω2)=>bY (aY 3) (wU e hd.kept) aQ (post.map fun kv=>bZ kv.1) ρ2 ω2
     |some (.ct ρ2,ω2)=>bY (aY 3) (wU e hd.kept) aQ (post.map fun kv=>bZ kv.1) ρ2 ω2
     |some (.bk ρ2,ω2)=>we (.nx ρ2,ω2)
     |some (.rt d,ω2)=>we (.rt d,ω2)
     |some (.ex _,_)=>wf) else wf)=_
    rw[if_pos (zC g2),q]
   have tst:gQ (fZ (bE eZ (aC (zV 1) (aC (zV 3) aJ)))) [we (.obj h),we (.lst (iv (common hd.knows))),we (.obj ω.length),we (.tup [.int a,.int b])] ω1=we (.ok (!fR (common hd.knows) kv.1),ω1):=by
    unfold gQ fZ;rw[bA (bA (aR (aA (aB rfl) (aA (aB rfl) aD)) hseen))]
   cases hs:fR (common hd.knows) kv.1 with
   |true=>
    have b1:aQ [we (.obj h),we (.lst (iv (common hd.knows))),we (.obj ω.length),we (.tup [.int a,.int b])] ω1=we (.nx [we (.obj h),we (.lst (iv (common hd.knows))),we (.obj ω.length),we (.tup [.int a,.int b])],ω1):=by
     unfold aQ;rw[hs] at tst;rw[mR tst];rfl
    rw[first ω1 b1];refine ih (pre++[kv]) _ ω1 hp' ?_ g2 g3 g4;rw[uq,eg (by rw[hs];decide),vy,c7];exact g1
   |false=>
    have nin:kv.1∉(pre.filter fun kv=> !fR (common hd.knows) kv.1).map (·.1):=fun z=>by
     obtain⟨q,q1,q2⟩:=az.mp z;have nd:=W.kn;rw[hp,dr,kh] at nd;exact nd.2.2 _ (az.mpr ⟨q,(cf.mp q1).1,rfl⟩) _ (az.mpr ⟨kv,au,rfl⟩) q2
    have fl:(pre.filter fun kv=> !fR (common hd.knows) kv.1).length<sizeLine:=by
     have h1:=jh (fun kv:List Key×D=> !fR (common hd.knows) kv.1) pre;have h2:=W.kl;rw[hp,b7] at h2;rw[b8];omega
    have dg:uA ω1 (.obj e) (.tup [.int a,.int b])=we kv.2:=by
     have:iH hd.kept [.inl a,.inl b]=we kv.2:=by rw[<- hk];exact CT W.kn hm
     simp only[uA,Hy,cellOf,g2]
     show(((we [.inl a,.inl b]:Option (List Key)).map fun k=>iH hd.kept k)).join=_
     show(we (iH hd.kept [.inl a,.inl b])).join=_
     rw[this];rfl
    have b1:aQ [we (.obj h),we (.lst (iv (common hd.knows))),we (.obj ω.length),we (.tup [.int a,.int b])] ω1=we (.nx [we (.obj h),we (.lst (iv (common hd.knows))),we (.obj ω.length),we (.tup [.int a,.int b])],ω1.set ω.length (.dt ((pre.filter fun kv=> !fR (common hd.knows) kv.1)++[kv]))):=by
     unfold aQ;rw[hs] at tst;rw[vW tst];refine lU (v:=kv.2) (ω1:=ω1) (ω2:=ω1) (ω3:=ω1) (o:=.obj ω.length) (i:=.tup [.int a,.int b]) (iQ (fO (aB rfl) hobj rfl) (aB rfl) ?_) (aB rfl) (aB rfl) ?_
     ·show pu (uA ω1 (.obj e) (.tup [.int a,.int b])) ω1=_;rw[dg];rfl
     ·rw[uE (ks:=kv.1) g1 (by rw[hk];rfl) fl,AZ nin]
    rw[first _ b1];refine ih (pre++[kv]) _ _ hp' ?_ ?_ (fun n hn hne=> ?_) (by simp[g4])
    ·rw[cB g1,uq,en (by rw[hs];decide),vy]
    ·rw[aM (ltn (by simp))];exact g2
    ·rw[aM (by omega)];exact g3 n hn hne
 have ge:(ω++[Ob.dt []])[e]?=we (.dt hd.kept):=by rw[ay (H.lt e (by simp))];exact H.kp
 obtain⟨ρ',ω2,l1,⟨v,rfl⟩,l3,l4,l5,l6⟩:=loop hd.kept [] wf ((ω++[Ob.dt []]).set e (.dz hd.kept)) rfl (by rw[aM (cy (ltn (by simp)))];simp) (cB ge) (fun n hn hne=>by rw[aM hne,ay hn]) (by simp);have l3':(ω2.set e (.dt hd.kept))[ω.length]?=we (.dt (hd.kept.filter fun kv=> !fR (common hd.knows) kv.1)):=by rw[aM (cy (ltn (by simp)))];exact l3
 have ho:(ω2.set e (.dt hd.kept))[h]?=we (.ins 0 [("number",.int i),("knows",.obj k),("table",.obj t),("kept",.obj e)]):=by rw[aM h3,l5 h (H.lt h (by simp)) h3];exact H.obj
 refine⟨(ω2.set e (.dt hd.kept)).set h (.ins 0 [("number",.int i),("knows",.obj k),("table",.obj t),("kept",.obj ω.length)]),?_,⟨cB ho,?_,?_,?_,?_,?_⟩,⟨by simp[l6],fun n hn hm=> ?_⟩⟩
 ·have body:gT (cI iC [.obj h]) ω=we (.nx [we (.obj h),we (.lst (iv (common hd.knows))),we (.obj ω.length),v],(ω2.set e (.dt hd.kept)).set h (.ins 0 [("number",.int i),("knows",.obj k),("table",.obj t),("kept",.obj ω.length)])):=by
   unfold gT;rw[aO e1];rw[aO (d:=.obj ω.length) (ω1:=ω++[.dt []]) rfl];have ho1:(ω++[Ob.dt []])[h]?=we (.ins 0 [("number",.int i),("knows",.obj k),("table",.obj t),("kept",.obj e)]):=by rw[ay (H.lt h (by simp))];exact H.obj
   rw[bD (dS (by
    unfold Jh;rw[bR (fO (aB (d:=.obj h) rfl) ho1 rfl)]
    have:Cu (ω++[Ob.dt []]) (.obj e)=we (e,hd.kept):=by simp only[Cu,ge]
    show(Cu (ω++[Ob.dt []]) (.obj e)).bind _=_
    rw[this]
    show(match bY (aY 3) (wU e hd.kept) aQ (hd.kept.map fun kv=>bZ kv.1) [we (.obj h),we (.lst (iv (common hd.knows))),we (.obj ω.length),wf] ((ω++[Ob.dt []]).set e (.dz hd.kept)) with
     |some (.nx ρ',ω')=>if wU e hd.kept ω'=true then we (OOut.nx ρ',ω'.set e (.dt hd.kept)) else wf
     |_=>wf)=_
    rw[l1]
    show(if wU e hd.kept ω2=true then _ else wf)=_
    rw[if_pos (zC l4)]))]
   unfold mS;rw[bR (aB (d:=.obj ω.length) rfl),bR (aB (d:=.obj h) rfl)]
   have:tY 0 "kept" (ω2.set e (.dt hd.kept)) (.obj h) (.obj ω.length)=we ((ω2.set e (.dt hd.kept)).set h (.ins 0 [("number",.int i),("knows",.obj k),("table",.obj t),("kept",.obj ω.length)])):=by
    simp only[tY,ho];rfl
   show(tY 0 "kept" (ω2.set e (.dt hd.kept)) (.obj h) (.obj ω.length)).map _=_
   rw[this];rfl
  exact tE rfl body
 ·rw[aM (cy h1),aM h6,l5 k (H.lt k (by simp)) h6];exact H.kn
 ·refine H.rows.mono fun r hr=> ?_;rw[aM (show r≠h from fun z=>h4 (z ▸ hr)),aM (show r≠e from fun z=>h10 (z ▸ hr)),l5 r (H.lt r (by simp[hr])) (fun z=>h10 (z ▸ hr))]
 ·rw[aM (cy h2),aM h8,l5 t (H.lt t (by simp)) h8];exact H.tb
 ·rw[aM (cy (ltn (by simp)))];exact l3'
 ·have nn:∀ n∈h::k::t::rs,n≠ω.length:=fun n hn=>ltn (by
   simp only[ak] at hn ⊢;rcases hn with z|z|z|z
   ·exact .inl z
   ·exact .inr (.inl z)
   ·exact .inr (.inr (.inl z))
   ·exact .inr (.inr (.inr (.inr z))))
  simp only[cg,ak,not_or];exact⟨⟨h1,h2,nn h (by simp),h4⟩,⟨h5,nn k (by simp),h7⟩,⟨nn t (by simp),h9⟩,fun z=>nn _ (by simp[z]) rfl,h11⟩
 ·rw[aM (fun z=>hm (by rw[z];simp))]
  by_cases he:n=e
  ·subst he;rw[cB l4];exact H.kp.symm
  ·rw[aM he];exact l5 n hn he
end
theorem kN {ω:Om}{n:Nat}{ob:Ob} (h:ω[n]?=we ob):ω.set n ob=ω:=by
 apply ke;intro m
 by_cases hm:m=n
 ·subst hm;rw[cB h,h]
 ·rw[aM hm]
theorem LM (k:Key):toK (ofK k)=we k:=by cases k <;> rfl
theorem Dc:∀ ks:List Key,LL (ks.map ofK)=we ks
 |[]=>rfl
 |k::r=>by
  show(toK (ofK k)).bind _=_
  rw[LM]
  show(LL (r.map ofK)).map _=_
  rw[Dc r];rfl
theorem AN (k:List Key):Db (bZ k)=we k:=Dc k
theorem IS (ha:eT a) (hb:eT b):∃ c,dP 4 a b=we c:=by
 obtain⟨x,p,q,v,rfl⟩:=ha;obtain⟨x',p',q',v',rfl⟩:=hb;show ∃ c,(match eqD 4 (.str x) (.str x') with
  |some true=>(match eqD 4 (.tup [.int p,.int q]) (.tup [.int p',.int q']) with
   |some true=>(match eqD 4 (.int v) (.int v') with
    |some true=>we _
    |some false=>fL (.int v) (.int v')
    |none=>wf)
   |some false=>fL (.tup [.int p,.int q]) (.tup [.int p',.int q'])
   |none=>wf)
  |some false=>fL (.str x) (.str x')
  |none=>wf)=we c
 rw[kH];cases decide (x=x') with
 |false=>exact⟨_,rfl⟩
 |true=>
  have e2:∃ c,eqD 4 (.tup [.int p,.int q]) (.tup [.int p',.int q'])=we c:=⟨_,rfl⟩;obtain⟨c,e2⟩:=e2;rw[e2];cases c with
  |false=>exact⟨_,rfl⟩
  |true=>
   show ∃ c,(match eqD 4 (.int v) (.int v') with
    |some true=>we _
    |some false=>fL (.int v) (.int v')
    |none=>wf)=we c
   have e3:eqD 4 (.int v) (.int v')=we (decide (v=v')):=rfl;rw[e3];cases decide (v=v') with
   |false=>exact⟨_,rfl⟩
   |true=>exact⟨_,rfl⟩
theorem Bw (h:eT d):kB d=we false:=by
 obtain⟨x,a,b,v,rfl⟩:=h;rfl
section
variable {ω:Om}{h k t e:Nat}{i:Nat}{hd:Hd}{rs:List Nat}{ρ:Rho}{f:OG D}
theorem Hd.Ok.ent (W:hd.Ok c):∀ d∈hd.table.map (·.2),eT d:=fun d hd'=>by
 obtain⟨kv,h1,rfl⟩:=az.mp hd';obtain⟨a,b,_,_,_,x,v,e⟩:=W.tk kv h1;exact⟨x,a,b,v,e⟩
theorem Hd.Ok.sorts (W:hd.Ok c):∃ out,hd.entries=we out/\out.Perm (hd.table.map (·.2)):=by
 refine sY (by rw[av];exact W.tl) ?_ fun a ha b hb=>IS (W.ent a ha) (W.ent b hb);unfold iO;rw[ib];right;rw[d6];intro d hd';rw[Bw (W.ent d hd')];rfl
noncomputable def Hd.takeOut0 (hd:Hd) (mk:List Key) (ks:List (List Key)):Hd:={ hd with table:=ks.foldl dQ hd.table,kept:=if ks=[] then hd.kept else iI hd.kept mk (.tup (ks.map bZ)) }
noncomputable def Hd.takeOut (hd:Hd) (mk:List Key) (ks:List (List Key)):Hd:=(hd.takeOut0 mk ks).forget
theorem Be {g:Om->D->List D->Option (D×Om)}{fo:OG D}{fl:OG (List D)}{ρ:Rho}{ω ω1 ω2 ω3:Om}{n:Nat}{kvs:List (List Key×D)}{ds:List D}{r:D} (e1:fo ρ ω=we (.ok (.obj n),ω1)) (e2:ω1[n]?=we (.dt kvs)) (e3:fl ρ ω1=we (.ok ds,ω2)) (e4:g ω2 (.obj n) ds=we (r,ω3)):oK g fo fl ρ ω=we (.ok r,ω3):=by
 unfold oK;rw[bA e1]
 have:Cm ω1 (.obj n)=true:=by simp only[Cm,cellOf,e2]
 show(if Cm ω1 (.obj n)=true then _ else wf)=_
 rw[if_pos this,bA e3];show oR (g ω2 (.obj n) ds)=_;rw[e4];rfl
theorem Cv {kvs:List (List Key×D)}{q k:List Key} (h:q∈kvs.map (·.1)) (hn:q≠k):q∈(dQ kvs k).map (·.1):=by
 obtain⟨p,h1,rfl⟩:=az.mp h;exact az.mpr ⟨p,cf.mpr ⟨h1,by simpa using hn⟩,rfl⟩
theorem CU {kvs:List (List Key×D)}{k:List Key} (h:k∈kvs.map (·.1)):∃ v,iH kvs k=we v:=by
 obtain⟨p,h1,h2⟩:=az.mp h;unfold iH;cases q:kvs.find? fun kv=>decide (kv.1=k) with
 |some u=>exact⟨u.2,rfl⟩
 |none=>
  rw[ul] at q;exact absurd (by simpa using h2) (q p h1)
theorem Dy:∀ {ks:List (List Key)}{T:List (List Key×D)}{v:Option D}{ω:Om},ω[h]?=we (.ins 0 [("number",.int i),("knows",.obj k),("table",.obj t),("kept",.obj e)])->ω[t]?=we (.dt T)->h≠t->ks.Nodup->(∀ q∈ks,q∈T.map (·.1))->
  ∃ ρ',bY (aY 3) bO bT (ks.map bZ) [we (.obj h),we mk,we ms,v] ω=we (.nx ρ',ω.set t (.dt (ks.foldl dQ T)))/\∃ v,ρ'=[we (.obj h),we mk,we ms,v]
 |[],T,v,ω,_,ht,_,_,_=>⟨_,by
   show we (OOut.nx _,ω)=_
   congr 2
   exact(kN ht).symm,v,rfl⟩
 |q::ks,T,v,ω,ho,ht,hne,hk,hin=>by
  rw[cg] at hk;obtain⟨u,hu⟩:=CU (hin q au);have b1:bT [we (.obj h),we mk,we ms,we (bZ q)] ω=we (.nx [we (.obj h),we mk,we ms,we (bZ q)],ω.set t (.dt (dQ T q))):=by
   unfold bT bX;rw[bR (Be (r:=u) (ω3:=ω.set t (.dt (dQ T q))) (fO (aB rfl) ho rfl) ht (aA (aB rfl) aD) (by
    simp only[EQ,ht]
    show(Db (bZ q)).bind _=_
    rw[AN]
    show(iH T q).map _=_
    rw[hu];rfl))]
  obtain⟨ρ',g1,v',g2⟩:=Dy (mk:=mk) (ms:=ms) (ks:=ks) (T:=dQ T q) (v:=we (bZ q)) (ω:=ω.set t (.dt (dQ T q))) (by rw[aM hne];exact ho) (cB ht) hne hk.2 fun q' hq'=>Cv (hin q' (aj _ hq')) fun z=>hk.1 (z ▸ hq');refine⟨ρ',?_,v',g2⟩;rw[oa] at g1;rw[bp];refine(bW rfl rfl (b1)).trans ?_;exact g1
theorem yL (H:HandAt ω h i hd k t e rs) (hk:ks.Nodup) (hin:∀ q∈ks,q∈hd.table.map (·.1)) (hl:hd.kept.length<sizeLine) (W:(hd.takeOut0 mk ks).Ok c):
  ∃ ω' e',cN [.obj h,bZ mk,.lst (ks.map bZ)] ω=we (.ok .non,ω')/\HandAt ω' h i (hd.takeOut mk ks) k t e' rs/\Keep [h,t,e] ω ω'/\ω.length<=e':=by
 obtain⟨⟨h1,h2,h3,h4⟩,⟨h5,h6,h7⟩,⟨h8,h9⟩,h10,h11⟩:=H.ne;obtain⟨ρ1,g1,v,rfl⟩:=Dy (h:=h) (i:=i) (k:=k) (t:=t) (e:=e) (mk:=bZ mk) (ms:=.lst (ks.map bZ)) (ks:=ks) (T:=hd.table) (v:=wf) (ω:=ω) H.obj H.tb h2 hk hin;have H1:HandAt (ω.set t (.dt (ks.foldl dQ hd.table))) h i { hd with table:=ks.foldl dQ hd.table } k t e rs:=H.setT _;have l1:sNx (bF (oIL (zV 2)) (aY 3) bT) (cI jA [.obj h,bZ mk,.lst (ks.map bZ)]) ω=we (.nx [we (.obj h),we (bZ mk),we (.lst (ks.map bZ)),v],ω.set t (.dt (ks.foldl dQ hd.table))):=dS (by
  unfold bF oIL;rw[bR (bA (aB (d:=.lst (ks.map bZ)) rfl))];exact g1)
 have mid:∃ ω2,dI (fZ (zV 2)) (oG tZ (fS 0 "kept" (zV 0)) (zV 1) (oL zP (aC (zV 2) aJ))) bH [we (.obj h),we (bZ mk),we (.lst (ks.map bZ)),v] (ω.set t (.dt (ks.foldl dQ hd.table)))=we (.nx [we (.obj h),we (bZ mk),we (.lst (ks.map bZ)),v],ω2)/\HandAt ω2 h i (hd.takeOut0 mk ks) k t e rs/\Keep [t,e] ω ω2/\ω2.length=ω.length:=by
  cases hks:ks with
  |nil=>
   refine⟨ω.set t (.dt (([]:List (List Key)).foldl dQ hd.table)),?_,?_,Keep.set (by simp),by simp⟩
   ·rw[mR (ω1:=ω.set t (.dt (([]:List (List Key)).foldl dQ hd.table))) (by
     unfold fZ;rw[bA (aB (d:=.lst []) rfl)];rfl)]
    rfl
   ·subst hks;exact H1
  |cons q r=>
   have hks':ks≠[]:=by rw[hks];simp
   rw[<- hks];refine⟨(ω.set t (.dt (ks.foldl dQ hd.table))).set e (.dt (iI hd.kept mk (.tup (ks.map bZ)))),?_,?_,(Keep.set (by simp)).trans (Keep.set (by simp)),by simp⟩
   ·rw[vW (ω1:=ω.set t (.dt (ks.foldl dQ hd.table))) (by
     unfold fZ;rw[bA (aB (d:=.lst (ks.map bZ)) rfl)];rw[hks];rfl)]
    exact lU (dE (aA (aB (d:=.lst (ks.map bZ)) rfl) aD) rfl) (H1.kept (aB rfl)) (aB (d:=bZ mk) rfl) (uE (ks:=mk) H1.kp (AN mk) hl)
   ·have:=H1.setE (iI hd.kept mk (.tup (ks.map bZ)))
    have e0:hd.takeOut0 mk ks={ hd with table:=ks.foldl dQ hd.table,kept:=iI hd.kept mk (.tup (ks.map bZ)) }:=by
     unfold Hd.takeOut0;rw[if_neg hks']
    rw[e0];exact this
 obtain⟨ω2,m1,H2,K2,L2⟩:=mid;obtain⟨ω3,f1,H3,K3⟩:=xC H2 W;refine⟨ω3,ω2.length,?_,H3,⟨by rw[<- L2];exact K3.1,fun n hn hm=> ?_⟩,by rw[L2];exact bj _⟩
 ·refine tE (ρ1:=[we (.obj h),we (bZ mk),we (.lst (ks.map bZ)),v]) rfl ?_;unfold iT;rw[bD l1,bD m1];unfold bX;rw[bR (bS (aB rfl) H2.obj rfl f1)]
 ·simp only[ak,cm,or_false,not_or] at hm;rw[K3.2 n (by rw[L2];exact hn) (by simpa using hm.1)];exact K2.2 n hn (by simp[hm.2.1,hm.2.2])
end
noncomputable def aS:D->List Key
 |.tup [_,.tup [.int a,.int b],_]=>[.inl a,.inl b]
 |_=>[]
noncomputable def NI (y:Str):D->Bool
 |.tup [.str x,_,_]=>decide (x=y)
 |_=>false
noncomputable def Hd.ents (hd:Hd):List D:=hd.entries.getD []
noncomputable def Hd.marksK (hd:Hd) (y:Str):List (List Key):=(hd.ents.filter (NI y)).map aS
theorem rS:∀ {out:List D},(∀ d∈out,eT d)->marksIn (.str y) out=((out.filter (NI y)).map aS).map bZ
 |[],_=>rfl
 |d::r,h=>by
  have ih:=rS (y:=y) (out:=r) fun d hd=>h d (aj _ hd);obtain⟨x,a,b,v,rfl⟩:=h d au;unfold marksIn at ih ⊢;have e0:(eqD 8 (.str x) (.str y)==we true)=decide (x=y):=by rw[kH];cases decide (x=y) <;> rfl
  by_cases hx:x=y
  ·rw[en (by show(eqD 8 (.str x) (.str y)==we true)=true;rw[e0];exact decide_eq_true hx),en (by show decide (x=y)=true;exact decide_eq_true hx)];rw[bp,bp,bp,ih];rfl
  ·rw[eg (by show ¬(eqD 8 (.str x) (.str y)==we true)=true;rw[e0];simpa using hx),eg (by show ¬ decide (x=y)=true;simpa using hx)];exact ih
section
variable {ω ω1 ω2:Om}{h k t e:Nat}{i c:Nat}{hd hd1 hd2:Hd}{rs fp:List Nat}
theorem Hd.Ok.ents (W:hd.Ok c):hd.entries=we hd.ents/\hd.ents.Perm (hd.table.map (·.2)):=by
 obtain⟨out,e1,e2⟩:=W.sorts
 have:hd.ents=out:=by unfold Hd.ents;rw[e1];rfl
 rw[this];exact⟨e1,e2⟩
theorem Hd.Ok.entsEnt (W:hd.Ok c):∀ d∈hd.ents,eT d:=fun d hd'=>W.ent d (W.ents.2.mem_iff.mp hd')
theorem Hd.Ok.keys (W:hd.Ok c):(hd.table.map (·.2)).map aS=hd.table.map (·.1):=by
 rw[gy];apply fy;intro kv hkv;obtain⟨a,b,_,_,e1,x,v,e2⟩:=W.tk kv hkv;show aS kv.2=kv.1;rw[e2,e1];rfl
theorem Hd.Ok.entsKeys (W:hd.Ok c):(hd.ents.map aS).Perm (hd.table.map (·.1)):=by
 rw[<- W.keys];exact W.ents.2.map aS
theorem Hd.Ok.entsNodup (W:hd.Ok c):(hd.ents.map aS).Nodup:=W.entsKeys.nodup_iff.mpr W.tn
theorem Hd.Ok.entsLen (W:hd.Ok c):hd.ents.length<64:=by rw[W.ents.2.length_eq,av];exact W.tl
theorem Hd.Ok.marksNodup (W:hd.Ok c) (y:Str):(hd.marksK y).Nodup:=W.entsNodup.sublist (lj.map aS)
theorem Hd.Ok.marksIn (W:hd.Ok c) (y:Str):∀ q∈hd.marksK y,q∈hd.table.map (·.1):=fun q hq=>W.entsKeys.mem_iff.mp ((lj.map aS).subset hq)
theorem Hd.Ok.seenMem (W:hd.Ok c) (hi:i<c):hd.seen i∈hd.knows:=by
 unfold Hd.seen
 have:i<hd.knows.length:=by rw[W.len];exact hi
 rw[am,aw this];exact gu this
theorem Hd.Ok.seenLen (W:hd.Ok c) (hi:i<c):(hd.seen i).length=c:=W.row _ (W.seenMem hi)
theorem eY (h:n<64):n<sizeLine:=by rw[b8];omega
noncomputable def HandS (ω:Om) (h i:Nat) (hd:Hd) (fp:List Nat):Prop:=∃ k t e rs,HandAt ω h i hd k t e rs/\fp=h::k::t::e::rs
noncomputable def Did (ω:Om) (h i:Nat) (fp:List Nat) (ω':Om) (hd':Hd):Prop:=∃ fp',HandS ω' h i hd' fp'/\Keep fp ω ω'/\∀ n∈fp',n∈fp∨ω.length<=n
theorem HandS.obj (H:HandS ω h i hd fp):∃ k t e,ω[h]?=we (.ins 0 [("number",.int i),("knows",.obj k),("table",.obj t),("kept",.obj e)]):=by
 obtain⟨k,t,e,rs,H,_⟩:=H;exact⟨k,t,e,H.obj⟩
theorem HandS.lt (H:HandS ω h i hd fp):∀ n∈fp,n<ω.length:=by
 obtain⟨k,t,e,rs,H,rfl⟩:=H;exact H.lt
theorem HandS.mono (H:HandS ω h i hd fp) (g:∀ n∈fp,ω'[n]?=ω[n]?):HandS ω' h i hd fp:=by
 obtain⟨k,t,e,rs,H,rfl⟩:=H;exact⟨k,t,e,rs,H.mono g,rfl⟩
theorem Did.refl (H:HandS ω h i hd fp):Did ω h i fp ω hd:=⟨fp,H,Keep.refl _ _,fun n hn=>.inl hn⟩
theorem Did.trans (a:Did ω h i fp ω1 hd1) (b:∀ fp1,HandS ω1 h i hd1 fp1->Did ω1 h i fp1 ω2 hd2):Did ω h i fp ω2 hd2:=by
 obtain⟨fp1,H1,K1,F1⟩:=a;obtain⟨fp2,H2,K2,F2⟩:=b fp1 H1;refine⟨fp2,H2,⟨ci K1.1 K2.1,fun n hn hf=> ?_⟩,fun n hn=> ?_⟩
 ·rw[K2.2 n (bx hn K1.1) fun z=>(F1 n z).elim hf fun q=>absurd hn (si.mpr q)];exact K1.2 n hn hf
 ·rcases F2 n hn with z|z
  ·exact F1 n z
  ·exact .inr (ci K1.1 z)
theorem Keep.sub (a:Keep fp ω ω') (h:∀ n∈fp,n∈fq):Keep fq ω ω':=⟨a.1,fun n hn hf=>a.2 n hn fun z=>hf (h n z)⟩
theorem Qq (H:HandS ω h i hd fp) (W:hd.Ok c) (hi:i<c) (x:Str) (v:Int):∃ ω',dX [.obj h,.str x,.int v] ω=we (.ok (mkD i (hd.next i)),ω')/\Did ω h i fp ω' (hd.put i x v):=by
 obtain⟨k,t,e,rs,H,rfl⟩:=H;obtain⟨ω',e1,H',K,L⟩:=Mg H (by rw[W.len];exact hi) (by rw[W.seenLen hi];exact hi) (eY W.tl) x v;exact⟨ω',e1,_,⟨k,t,e,rs,H',rfl⟩,K.sub (fun n hn=>by simp only[ak] at hn ⊢;rcases hn with z|z <;> simp[z]),fun n hn=>.inl hn⟩
theorem Ed (H:HandS ω h i hd fp) (W:hd.Ok c) (hi:i<c):∃ ω',cO [.obj h] ω=we (.ok (mkD i (hd.next i)),ω')/\Did ω h i fp ω' (hd.bump i):=by
 obtain⟨k,t,e,rs,H,rfl⟩:=H;obtain⟨ω',e1,H',K,L⟩:=oM H (by rw[W.len];exact hi) (by rw[W.seenLen hi];exact hi);exact⟨ω',e1,_,⟨k,t,e,rs,H',rfl⟩,K.sub (fun n hn=>by simp[hn]),fun n hn=>.inl hn⟩
theorem IL (H:HandS ω h i hd fp) (W:hd.Ok c) (y:Str):cP [.obj h,.str y] ω=we (.ok (.lst ((hd.marksK y).map bZ)),ω):=by
 obtain⟨k,t,e,rs,H,rfl⟩:=H;rw[GS H W.ents.1 W.entsEnt (ic (eY W.entsLen)) y,rS W.entsEnt];rfl
theorem mZ {mk:List Key}{ks:List (List Key)} (H:HandS ω h i hd fp) (hk:ks.Nodup) (hin:∀ q∈ks,q∈hd.table.map (·.1)) (hl:hd.kept.length<64) (W:(hd.takeOut0 mk ks).Ok c):∃ ω',cN [.obj h,bZ mk,.lst (ks.map bZ)] ω=we (.ok .non,ω')/\Did ω h i fp ω' (hd.takeOut mk ks):=by
 obtain⟨k,t,e,rs,H,rfl⟩:=H;obtain⟨ω',e',e1,H',K,L⟩:=yL H hk hin (eY hl) W;refine⟨ω',e1,_,⟨k,t,e',rs,H',rfl⟩,K.sub (fun n hn=>by simp only[ak,cm,or_false] at hn ⊢;rcases hn with z|z|z <;> simp[z]),fun n hn=> ?_⟩;simp only[ak] at hn ⊢;rcases hn with z|z|z|z|z
 ·exact .inl (.inl z)
 ·exact .inl (.inr (.inl z))
 ·exact .inl (.inr (.inr (.inl z)))
 ·exact .inr (z ▸ L)
 ·exact .inl (.inr (.inr (.inr (.inr z))))
theorem wD {kvs:List (List Key×D)}{q k:List Key}{v:D} (h:q∈kvs.map (·.1)):q∈(iI kvs k v).map (·.1):=by
 unfold iI;split
 ·obtain⟨p,h1,h2⟩:=az.mp h;refine az.mpr ⟨if p.1=k then(p.1,v) else p,az.mpr ⟨p,h1,rfl⟩,?_⟩;split <;> exact h2
 ·rw[dr];exact d4 _ h
noncomputable def Hd.change (hd:Hd) (i:Nat) (x:Str) (v:Int):Hd:=(hd.put i x v).takeOut (gE i (hd.next i)) (hd.marksK x)
theorem Ln (H:HandS ω h i hd fp) (W:hd.Ok c) (hi:i<c) (x:Str) (v:Int) (W2:((hd.put i x v).takeOut0 (gE i (hd.next i)) (hd.marksK x)).Ok c):∃ ω',dM [.obj h,.str x,.int v] ω=we (.ok (mkD i (hd.next i)),ω')/\Did ω h i fp ω' (hd.change i x v):=by
 obtain⟨ω1,e1,D1⟩:=Qq H W hi x v;obtain⟨fp1,H1,K1,F1⟩:=id D1;obtain⟨ω2,e2,D2⟩:=mZ (mk:=gE i (hd.next i)) (ks:=hd.marksK x) H1 (W.marksNodup x) (fun q hq=>wD (W.marksIn x q hq)) W.kl W2;refine⟨ω2,?_,D1.trans fun fq Hq=> ?_⟩
 ·obtain⟨k0,t0,e0,ho⟩:=H.obj;obtain⟨k1,t1,e1',ho1⟩:=H1.obj;refine aV rfl ?_;unfold lG;rw[aO (bP (aB rfl) ho rfl (aA (aB rfl) aD) (IL H W x))];rw[aO (bP (aB (d:=.obj h) rfl) ho rfl (aA (aB (d:=.str x) rfl) (aA (aB (d:=.int v) rfl) aD)) e1)];rw[bD (ρ1:=[we (.obj h),we (.str x),we (.int v),we (.lst ((hd.marksK x).map bZ)),we (mkD i (hd.next i))]) (ω1:=ω2) (by
   unfold bX;rw[bR (bP (aB (d:=.obj h) rfl) ho1 rfl (aA (aB (d:=bZ (gE i (hd.next i))) rfl) (aA (aB (d:=.lst ((hd.marksK x).map bZ)) rfl) aD)) e2)];rfl)]
  exact bB (aB rfl)
 ·obtain⟨ωq,eq,Dq⟩:=mZ (mk:=gE i (hd.next i)) (ks:=hd.marksK x) Hq (W.marksNodup x) (fun q hq=>wD (W.marksIn x q hq)) W.kl W2;rw[e2] at eq;cases eq;exact Dq
noncomputable def Hd.take (hd:Hd) (i:Nat) (x:Str):Hd:=if hd.marksK x=[] then hd else(hd.bump i).takeOut (gE i (hd.next i)) (hd.marksK x)
noncomputable def Hd.takeA (hd:Hd) (x:Str):D:=if hd.marksK x=[] then .non else .lst ((hd.marksK x).map bZ)
theorem OD (H:HandS ω h i hd fp) (W:hd.Ok c) (hi:i<c) (x:Str) (W2:((hd.bump i).takeOut0 (gE i (hd.next i)) (hd.marksK x)).Ok c):∃ ω',fD [.obj h,.str x] ω=we (.ok (hd.takeA x),ω')/\Did ω h i fp ω' (hd.take i x):=by
 obtain⟨k0,t0,e0,ho⟩:=H.obj;unfold Hd.take Hd.takeA;have m1:=IL H W x;cases hm:hd.marksK x with
 |nil=>
  rw[if_pos rfl,if_pos rfl];refine⟨ω,?_,Did.refl H⟩;refine aV rfl ?_;unfold kD;rw[hm] at m1;rw[aO (bP (aB rfl) ho rfl (aA (aB rfl) aD) m1)];rfl
 |cons q r=>
  rw[if_neg (by simp),if_neg (by simp)];rw[hm] at m1 W2;obtain⟨ω1,e1,D1⟩:=Ed H W hi;obtain⟨fp1,H1,K1,F1⟩:=id D1;have nd:=W.marksNodup x;have mi:=W.marksIn x;rw[hm] at nd mi;obtain⟨ω2,e2,D2⟩:=mZ (mk:=gE i (hd.next i)) (ks:=q::r) H1 nd mi W.kl W2;refine⟨ω2,?_,D1.trans fun fq Hq=> ?_⟩
  ·obtain⟨k1,t1,e1',ho1⟩:=H1.obj;refine aV rfl ?_;unfold kD;rw[aO (bP (aB rfl) ho rfl (aA (aB rfl) aD) m1)];rw[bD (ρ1:=[we (.obj h),we (.str x),we (.lst ((q::r).map bZ))]) (ω1:=ω) rfl];rw[bD (ρ1:=[we (.obj h),we (.str x),we (.lst ((q::r).map bZ))]) (ω1:=ω2) (by
    unfold bX;rw[bR (bP (aB (d:=.obj h) rfl) ho rfl (aA (a:=bZ (gE i (hd.next i))) (bS (aB rfl) ho rfl e1) (aA (aB (d:=.lst ((q::r).map bZ)) rfl) aD)) e2)])]
   exact bB (aB rfl)
  ·obtain⟨ωq,eq,Dq⟩:=mZ (mk:=gE i (hd.next i)) (ks:=q::r) Hq nd mi W.kl W2;rw[e2] at eq;cases eq;exact Dq
end
theorem gK (er:ω[r]?=we (.ml (iv xs))):RowV ω (.obj r) xs:=by unfold RowV cV;simp only[er]
theorem gF {ω:Om} (h:ω[n]?=we o):n<ω.length:=(bi.mp h).1
theorem RowsAt.app (h:RowsAt ω rs kn) (obs:List Ob):RowsAt (ω++obs) rs kn:=by
 induction h with
 |nil=>exact .nil
 |cons hr _ ih=>exact .cons ((ay (gF hr)).trans hr) ih
theorem RowsAt.setAt (h:RowsAt ω rs kn) (hr:ω[r]?=we (.ml (iv xs))):RowsAt ω (rs.set j r) (kn.set j xs):=by
 induction h generalizing j with
 |nil=>exact .nil
 |cons h0 t ih=>
  cases j with
  |zero=>exact .cons hr t
  |succ j=>exact .cons h0 ih
theorem Eb {l:List Nat} (h:l.Nodup) (ha:a∉l) (j:Nat):(l.set j a).Nodup:=by
 induction l generalizing j with
 |nil=>exact h
 |cons x r ih=>
  rw[cg] at h;simp only[ak,not_or] at ha;cases j with
  |zero=>rw[um,cg];exact⟨ha.2,h.2⟩
  |succ j=>
   rw[uo,cg];refine⟨fun z=> ?_,ih h.2 ha.2 j⟩;rcases io z with z|z
   ·exact h.1 z
   ·exact ha.1 z.symm
noncomputable def Hd.leaves (tl:Hd) (j:Nat) (d:D):Bool:=(iH tl.table (aS d)).isSome|| !fR (tl.seen j) (aS d)
noncomputable def Qz (c:Nat) (d:D):Prop:=∃(x:Str) (a b:Int) (v:Int),d=.tup [.str x,.tup [.int a,.int b],.int v]/\0<=a/\a<c
section
variable {ω:Om}{h k t e h2 k2 t2 e2:Nat}{i j c:Nat}{hd tl:Hd}{rs rs2 fp:List Nat}
theorem rV (G:HandAt ω h2 j tl k2 t2 e2 rs2) (V:tl.Ok c) (hj:j<c) (ho:∀ d∈out,Qz c d) (hl:out.length<=sizeLine):kU [.lst out,.obj h2] ω=we (.ok (.lst (out.filter (tl.leaves j))),ω):=by
 obtain⟨r,hr,er⟩:=G.seenRow (by rw[V.len];exact hj);refine aV rfl (bB (gA (ds:=out) (chk:=bO) (ω1:=ω) ?_ hl ?_))
 ·unfold oIL;rw[bA (aB (d:=.lst out) rfl)];rfl
 ·have e0:out.filter (tl.leaves j)=(out.filter (tl.leaves j)).map fun d=>d:=by simp
  rw[e0];refine gY (fun ρ=>∃ u,ρ=[u,we (.obj h2)]) rfl ⟨_,rfl⟩ fun d hd ρ hρ=> ?_;obtain⟨x,a,b,v,rfl,ha0,ha1⟩:=ho d hd;obtain⟨u,rfl⟩:=hρ;refine⟨_,rfl,⟨_,rfl⟩,?_,fun _=>aB rfl⟩;have d1:dG (o2 (fun ω a b=>pu (LC ω a b) ω) (zX (zV 0) (zI 1)) (fS 0 "table" (zV 1))) [we (.tup [.str x,.tup [.int a,.int b],.int v]),we (.obj h2)] ω=we (.ok (iH tl.table [.inl a,.inl b]).isSome,ω):=
   cY (iQ (aP (aB (d:=.tup [.str x,.tup [.int a,.int b],.int v]) rfl) aW rfl) (G.table (aB rfl)) (by
    show pu (LC ω (.tup [.int a,.int b]) (.obj t2)) ω=_
    have:LC ω (.tup [.int a,.int b]) (.obj t2)=we (.bl (iH tl.table [.inl a,.inl b]).isSome):=by
     simp only[LC,Hy,cellOf,G.tb];rfl
    rw[this];rfl))
  have lv:tl.leaves j (.tup [.str x,.tup [.int a,.int b],.int v])=((iH tl.table [.inl a,.inl b]).isSome|| !decide (b<=(tl.seen j).getD a.toNat 0)):=rfl;rw[lv];show oOr _ _ _ _=_;unfold oOr;show oB _ _ [we (.tup [.str x,.tup [.int a,.int b],.int v]),we (.obj h2)] ω=_;rw[bA d1];cases hv:(iH tl.table [.inl a,.inl b]).isSome with
  |true=>rfl
  |false=>
   have s1:=oZ (ω:=ω) (d:=.obj r) (xs:=tl.seen j) (gK er) (a:=a) (b:=b) ha0 (by rw[V.seenLen hj];exact ha1);show gQ _ _ _=_;unfold gQ;rw[bA (x:=decide (b<=(tl.seen j).getD a.toNat 0)) (ω1:=ω) (by
    unfold fZ;rw[bA (aR (aA (bS (aB rfl) G.obj rfl (jX G hr)) (aA (aP (aB (d:=.tup [.str x,.tup [.int a,.int b],.int v]) rfl) aW rfl) aD)) s1)];rfl)]
   rfl
noncomputable def Kp (xs ys:List Int):Int:=(bt (fun x y=>mx (y-x) 0) xs ys).sum
noncomputable def nU (out:List D) (T:List (List Key×D)):List (List Key×D):=out.foldl (fun T d=>iI T (aS d) d) T
theorem Gk (kvs:List (List Key×D)) (k:List Key) (v:D):(iI kvs k v).length<=kvs.length+1:=by
 unfold iI;split
 ·simp
 ·simp
theorem wW {h h2 n0 n1:Nat}:∀ {out:List D}{T:List (List Key×D)}{v:Option D}{ω:Om},(∀ d∈out,eT d)->ω[n1]?=we (.dt T)->T.length+out.length<sizeLine->
  ∃ v',bY (aY 5) bO eJ out [we (.obj h),we (.obj h2),we m,we (.obj n0),we (.obj n1),v] ω=we (.nx [we (.obj h),we (.obj h2),we m,we (.obj n0),we (.obj n1),v'],ω.set n1 (.dt (nU out T)))
 |[],T,v,ω,_,ht,_=>⟨v,by
   show we (OOut.nx _,ω)=_;rw[show nU [] T=T from rfl,kN ht]⟩
 |d::out,T,v,ω,he,ht,hl=>by
  rw[bv] at hl;have hd:=he d au;obtain⟨x,a,b,w,rfl⟩:=hd;have b1:eJ [we (.obj h),we (.obj h2),we m,we (.obj n0),we (.obj n1),we (.tup [.str x,.tup [.int a,.int b],.int w])] ω=we (.nx [we (.obj h),we (.obj h2),we m,we (.obj n0),we (.obj n1),we (.tup [.str x,.tup [.int a,.int b],.int w])],ω.set n1 (.dt (iI T [.inl a,.inl b] (.tup [.str x,.tup [.int a,.int b],.int w])))):=by
   unfold eJ;exact lU (aB rfl) (aB (d:=.obj n1) rfl) (aP (aB (d:=.tup [.str x,.tup [.int a,.int b],.int w]) rfl) aW rfl) (uE (ks:=[.inl a,.inl b]) ht rfl (by omega))
  have hp:=Gk T [.inl a,.inl b] (.tup [.str x,.tup [.int a,.int b],.int w]);obtain⟨v',g1⟩:=wW (h:=h) (h2:=h2) (n0:=n0) (n1:=n1) (m:=m) (out:=out) (T:=iI T [.inl a,.inl b] (.tup [.str x,.tup [.int a,.int b],.int w])) (v:=we (.tup [.str x,.tup [.int a,.int b],.int w])) (ω:=ω.set n1 (.dt (iI T [.inl a,.inl b] (.tup [.str x,.tup [.int a,.int b],.int w])))) (fun d hd=>he d (aj _ hd)) (cB ht) (by omega);refine⟨v',?_⟩;rw[oa] at g1;refine(bW rfl rfl (b1)).trans ?_;exact g1
theorem Bj:∀ {rs1 rs2:List Nat}{kn1 kn2:List (List Int)}{ω:Om}{ρ:Rho},ρ.length=2->RowsAt ω rs1 kn1->RowsAt ω rs2 kn2->(∀ xs∈kn1,xs.length<=sizeLine)->(∀ obs,chk (ω++obs)=true)->
  compLO (uN 0 1) chk (oPT jN) (bE gP (aC (zV 0) (aC (zV 1) aJ))) (yH (rs1.map D.obj) (rs2.map D.obj)) ρ ω=we ((db ω.length (bt (bt mx) kn1 kn2).length).map D.obj,ω++(bt (bt mx) kn1 kn2).map fun xs=>Ob.ml (iv xs))
 |_,rs2,_,kn2,ω,ρ,hρ,.nil,_,_,hc=>by
  show(if chk ω=true then we ([],ω) else wf)=_
  rw[if_pos (by have:=hc [];rwa [c7] at this)];simp
 |_,_,_,_,ω,ρ,hρ,.cons _ _,.nil,_,hc=>by
  show(if chk ω=true then we ([],ω) else wf)=_
  rw[if_pos (by have:=hc [];rwa [c7] at this)];simp
 |_,_,_,_,ω,ρ,hρ,@Paired.cons _ _ _ r1 x1 rs1 kn1 a1 t1,@Paired.cons _ _ _ r2 x2 rs2 kn2 a2 t2,hl,hc=>by
  match ρ,hρ with
  |[u,v],_=>
   have j1:=wQ (ω:=ω) (gK a1) (gK a2) (hl x1 au);have ih:=Bj (chk:=chk) (ω:=ω++[.ml (iv (bt mx x1 x2))]) (ρ:=[we (.obj r1),we (.obj r2)]) rfl (RowsAt.app t1 _) (RowsAt.app t2 _) (fun xs hx=>hl xs (aj _ hx)) (fun obs=>by rw[dy];exact hc _)
   show(if chk ω=true then(match bE gP (aC (zV 0) (aC (zV 1) aJ)) [we (.obj r1),we (.obj r2)] ω with
    |some (.ok y,ω2)=>(compLO (uN 0 1) chk (oPT jN) (bE gP (aC (zV 0) (aC (zV 1) aJ))) (yH (rs1.map D.obj) (rs2.map D.obj)) [we (.obj r1),we (.obj r2)] ω2).map fun r=>(y::r.1,r.2)
    |_=>wf) else wf)=_
   rw[if_pos (by have:=hc [];rwa [c7] at this),aR (aA (aB (d:=.obj r1) rfl) (aA (aB (d:=.obj r2) rfl) aD)) j1]
   show(compLO _ _ _ _ _ _ _).map _=_
   rw[ih];rw[ii,bv,kt,bp,bp,b7];show we (_,_)=_;rw[dy];rfl
theorem lV:∀(kn:List (List Int)) (pre post:Om),RowsAt (pre++(kn.map fun xs=>Ob.ml (iv xs))++post) (db pre.length kn.length) kn
 |[],_,_=>.nil
 |x::r,pre,post=>by
  rw[bv,kt];refine .cons (by simp) ?_
  have:=lV r (pre++[.ml (iv x)]) post
  unfold RowsAt at this;simpa using this
theorem jW (e1:fv ρ ω=we (.ok v,ω1)) (e2:fo ρ ω1=we (.ok (.obj n),ω2)) (e3:ω2[n]?=we (.ins c fs)) (hl:fs.length<1000):mS c x fo fv ρ ω=we (.nx ρ,ω2.set n (.ins c (kS x v fs))):=by
 unfold mS;rw[bR e1,bR e2]
 have:tY c x ω2 (.obj n) v=we (ω2.set n (.ins c (kS x v fs))):=by
  simp only[tY,e3];rw[if_pos ⟨trivial,hl⟩]
 show(tY c x ω2 (.obj n) v).map _=_
 rw[this];rfl
noncomputable def Hd.hearT (hd:Hd) (i:Nat) (tl:Hd) (j:Nat):List D:=hd.ents.filter (tl.leaves j)++tl.ents.filter (hd.leaves i)
noncomputable def Hd.hear0 (hd:Hd) (i:Nat) (tl:Hd) (j:Nat):Hd:=⟨(bt (bt mx) hd.knows tl.knows).set i (bt mx (hd.seen i) (tl.seen j)),nU (hd.hearT i tl j) [],oQ hd.kept tl.kept⟩
noncomputable def Hd.hear (hd:Hd) (i:Nat) (tl:Hd) (j:Nat):Hd:=(hd.hear0 i tl j).forget
theorem Hd.Ok.entC (W:hd.Ok c):∀ d∈hd.ents,Qz c d:=fun d hd'=>by
 obtain⟨kv,h1,rfl⟩:=az.mp (W.ents.2.mem_iff.mp hd');obtain⟨a,b,ha0,ha1,_,x,v,e⟩:=W.tk kv h1;exact⟨x,a,b,v,e,ha0,ha1⟩
theorem KE (H:HandAt ω h i hd k t e rs) (G:HandAt ω h2 j tl k2 t2 e2 rs2) (hij:∀ n∈h::k::t::e::rs,n∉h2::k2::t2::e2::rs2) (W:hd.Ok c) (V:tl.Ok c) (hi:i<c) (hj:j<c) (hh:eP (tl.kept.map (·.1))=true) (W2:(hd.hear0 i tl j).Ok c):
  ∃ ω' k' t' e' rs',cE [.obj h,.obj h2] ω=we (.ok (.int (Kp (hd.seen i) (tl.seen j))),ω')/\HandAt ω' h i (hd.hear i tl j) k' t' e' rs'/\Keep [h,e] ω ω'/\∀ n∈k'::t'::e'::rs',ω.length<=n:=by
 obtain⟨r,hr,er⟩:=H.seenRow (by rw[W.len];exact hi);obtain⟨r2,hr2,er2⟩:=G.seenRow (by rw[V.len];exact hj);obtain⟨⟨h1,h2',h3,h4⟩,⟨h5,h6,h7⟩,⟨h8,h9⟩,h10,h11⟩:=H.ne;have ltH:=H.lt;have ltG:=G.lt;have c8:∀ {n:Nat},n=c->n<=sizeLine:=fun z=>by rw[z,b8];have:=W.small;omega
 have hs1:(hd.seen i).length<=sizeLine:=c8 (W.seenLen hi);have hh2:h2≠h:=fun z=>hij h (by simp) (by simp[z]);have he2:e2≠e:=fun z=>hij e (by simp) (by simp[z]);have hk2h:k2≠h:=fun z=>hij h (by simp) (by simp[z]);have he2h:e2≠h:=fun z=>hij h (by simp) (by simp[z]);have hrs2h:∀ r∈rs2,r≠h:=fun r hr z=>hij h (by simp) (by rw[<- z];simp[hr])
 -- the stages of the store
 obtain⟨s,hs⟩:∃ s,s=bt mx (hd.seen i) (tl.seen j):=⟨_,rfl⟩;obtain⟨ωa,hωa⟩:∃ ωa,ωa=ω++[Ob.ml (iv s)]:=⟨_,rfl⟩;obtain⟨ωb,hωb⟩:∃ ωb,ωb=ωa++[Ob.dt []]:=⟨_,rfl⟩;have la:ωa.length=ω.length+1:=by rw[hωa];simp
 have lb:ωb.length=ω.length+2:=by rw[hωb];simp[la]
 have gb:∀ n,n<ω.length->ωb[n]?=ω[n]?:=fun n hn=>by rw[hωb,ay (by omega),hωa,ay hn]
 have Hb:HandAt ωb h i hd k t e rs:=H.mono fun n hn=>gb n (ltH n hn);have Gb:HandAt ωb h2 j tl k2 t2 e2 rs2:=G.mono fun n hn=>gb n (ltG n hn);have nb:ωb[ωa.length]?=we (.dt []):=by rw[hωb];simp
 have sb:ωb[ω.length]?=we (.ml (iv s)):=by rw[hωb,ay (by omega),hωa];simp
 -- the table
 have l1:(hd.ents.filter (tl.leaves j)).length<64:=ma (jh ..) W.entsLen;have l2:(tl.ents.filter (hd.leaves i)).length<64:=ma (jh ..) V.entsLen;have lT:(hd.hearT i tl j).length<128:=by unfold Hd.hearT;rw[b7];omega
 have entT:∀ d∈hd.hearT i tl j,eT d:=fun d hd'=>by
  rcases c6.mp hd' with z|z
  ·exact W.entsEnt d (cf.mp z).1
  ·exact V.entsEnt d (cf.mp z).1
 obtain⟨v',loop⟩:=wW (h:=h) (h2:=h2) (n0:=ω.length) (n1:=ωa.length) (m:=.int (Kp (hd.seen i) (tl.seen j))) (out:=hd.hearT i tl j) (T:=[]) (v:=wf) (ω:=ωb) entT nb (by rw[b8];simp;omega);obtain⟨T,hT⟩:∃ T,T=nU (hd.hearT i tl j) []:=⟨_,rfl⟩;rw[<- hT] at loop;obtain⟨ωc,hωc⟩:∃ ωc,ωc=ωb.set ωa.length (.dt T):=⟨_,rfl⟩;rw[<- hωc] at loop;have lc:ωc.length=ω.length+2:=by rw[hωc];simp[lb]
 have gc:∀ n,n<ω.length->ωc[n]?=ω[n]?:=fun n hn=>by rw[hωc,aM (by omega)];exact gb n hn
 have tc:ωc[ωa.length]?=we (.dt T):=by rw[hωc];exact cB nb
 have sc:ωc[ω.length]?=we (.ml (iv s)):=by rw[hωc,aM (by omega)];exact sb
 have oc:ωc[h]?=we (.ins 0 [("number",.int i),("knows",.obj k),("table",.obj t),("kept",.obj e)]):=by rw[gc h (ltH h (by simp))];exact H.obj
 -- table set
 obtain⟨ωd,hωd⟩:∃ ωd,ωd=ωc.set h (.ins 0 [("number",.int i),("knows",.obj k),("table",.obj ωa.length),("kept",.obj e)]):=⟨_,rfl⟩;have ld:ωd.length=ω.length+2:=by rw[hωd];simp[lc]
 have hlt:=ltH h (by simp);have gd:∀ n,n<ω.length->n≠h->ωd[n]?=ω[n]?:=fun n hn hne=>by rw[hωd,aM hne];exact gc n hn
 have od:ωd[h]?=we (.ins 0 [("number",.int i),("knows",.obj k),("table",.obj ωa.length),("kept",.obj e)]):=by rw[hωd];exact cB oc
 have td:ωd[ωa.length]?=we (.dt T):=by rw[hωd,aM (by omega)];exact tc
 have sd:ωd[ω.length]?=we (.ml (iv s)):=by rw[hωd,aM (by omega)];exact sc
 have kd:ωd[k]?=we (.ml (rs.map D.obj)):=by rw[gd k (ltH k (by simp)) (cy h1)];exact H.kn
 have kd2:ωd[k2]?=we (.ml (rs2.map D.obj)):=by rw[gd k2 (ltG k2 (by simp)) hk2h];exact G.kn
 have od2:ωd[h2]?=_:=(gd h2 (ltG h2 (by simp)) hh2).trans G.obj;have rd:RowsAt ωd rs hd.knows:=H.rows.mono fun r hr=>gd r (ltH r (by simp[hr])) fun z=>h4 (z ▸ hr);have rd2:RowsAt ωd rs2 tl.knows:=G.rows.mono fun r hr=>gd r (ltG r (by simp[hr])) (hrs2h r hr)
 -- rows joined
 obtain⟨kn,hkn⟩:∃ kn,kn=bt (bt mx) hd.knows tl.knows:=⟨_,rfl⟩;have lkn:kn.length=c:=by rw[hkn,d8,W.len,V.len,iu]
 have joins:=Bj (chk:=fun ω=>mG k (rs.map D.obj) ω&&mG k2 (rs2.map D.obj) ω) (ω:=ωd) (ρ:=[wf,wf]) rfl rd rd2 (fun xs hx=>c8 (W.row xs hx)) (fun obs=>by
  rw[bu];constructor
  ·unfold mG;rw[ay (gF kd),kd];exact sameDs_refl _
  ·unfold mG;rw[ay (gF kd2),kd2];exact sameDs_refl _)
 rw[<- hkn] at joins;obtain⟨ωe,hωe⟩:∃ ωe,ωe=ωd++kn.map fun xs=>Ob.ml (iv xs):=⟨_,rfl⟩;rw[<- hωe] at joins;have le:ωe.length=ω.length+2+c:=by rw[hωe];simp[ld,lkn]
 obtain⟨ωf,hωf⟩:∃ ωf,ωf=ωe++[Ob.ml ((db ωd.length kn.length).map D.obj)]:=⟨_,rfl⟩;have lf:ωf.length=ω.length+3+c:=by rw[hωf];simp[le];omega
 have gf:∀ n,n<ω.length+2->ωf[n]?=ωd[n]?:=fun n hn=>by rw[hωf,ay (by omega),hωe,ay (by omega)]
 have kf:ωf[ωe.length]?=we (.ml ((db ωd.length kn.length).map D.obj)):=by rw[hωf];simp
 have rf:RowsAt ωf (db ωd.length kn.length) kn:=by rw[hωf,hωe];exact lV kn ωd _
 have of:ωf[h]?=we (.ins 0 [("number",.int i),("knows",.obj k),("table",.obj ωa.length),("kept",.obj e)]):=by rw[gf h (by omega)];exact od
 obtain⟨ωg,hωg⟩:∃ ωg,ωg=ωf.set h (.ins 0 [("number",.int i),("knows",.obj ωe.length),("table",.obj ωa.length),("kept",.obj e)]):=⟨_,rfl⟩;have og:ωg[h]?=we (.ins 0 [("number",.int i),("knows",.obj ωe.length),("table",.obj ωa.length),("kept",.obj e)]):=by rw[hωg];exact cB of
 have kg:ωg[ωe.length]?=we (.ml ((db ωd.length kn.length).map D.obj)):=by rw[hωg,aM (by omega)];exact kf
 obtain⟨rs',hrs'⟩:∃ rs',rs'=(db ωd.length kn.length).set i ω.length:=⟨_,rfl⟩;have hset:((db ωd.length kn.length).map D.obj).set i (.obj ω.length)=rs'.map D.obj:=by rw[hrs',List.map_set]
 obtain⟨ωh,hωh⟩:∃ ωh,ωh=ωg.set ωe.length (.ml (rs'.map D.obj)):=⟨_,rfl⟩;have elt:=ltH e (by simp);have oh:ωh[h]?=we (.ins 0 [("number",.int i),("knows",.obj ωe.length),("table",.obj ωa.length),("kept",.obj e)]):=by rw[hωh,aM (by omega)];exact og
 have gh:∀ n,n<ω.length+2->n≠h->ωh[n]?=ωd[n]?:=fun n hn hne=>by rw[hωh,aM (by omega),hωg,aM hne];exact gf n hn
 have eh:ωh[e]?=we (.dt hd.kept):=by rw[gh e (by omega) (cy h3),gd e elt (cy h3)];exact H.kp
 have eh2:ωh[e2]?=we (.dt tl.kept):=by rw[gh e2 (by have:=ltG e2 (by simp);omega) he2h,gd e2 (ltG e2 (by simp)) he2h];exact G.kp
 have oh2:ωh[h2]?=_:=(gh h2 (by have:=ltG h2 (by simp);omega) hh2).trans od2;obtain⟨ωi,hωi⟩:∃ ωi,ωi=ωh.set e (.dt (oQ hd.kept tl.kept)):=⟨_,rfl⟩;have li:ωi.length=ω.length+3+c:=by rw[hωi,hωh,hωg];simp[lf]
 have gi:∀ n,n<ω.length+2->n≠h->n≠e->ωi[n]?=ωd[n]?:=fun n hn hne hee=>by rw[hωi,aM hee];exact gh n hn hne
 have rin:∀ q∈db ωd.length kn.length,ω.length+2<=q/\q<ω.length+2+c:=fun q hq=>by
  rw[pk,ld,lkn] at hq;exact hq
 have rsin:∀ q∈rs',ω.length<=q/\q≠ωa.length/\q<ω.length+2+c:=fun q hq=>by
  rw[hrs'] at hq;rcases io hq with z|z
  ·have:=rin q z;omega
  ·omega
 have HI:HandAt ωi h i (hd.hear0 i tl j) ωe.length ωa.length e rs':=by
  refine⟨?_,?_,?_,?_,?_,?_⟩
  ·rw[hωi,aM h3];exact oh
  ·rw[hωi,aM (by omega),hωh];exact cB kg
  ·show RowsAt ωi rs' ((bt (bt mx) hd.knows tl.knows).set i (bt mx (hd.seen i) (tl.seen j)));rw[<- hkn,<- hs,hrs'];refine RowsAt.setAt (rf.mono fun q hq=> ?_) ?_
   ·have:=rin q hq
    rw[hωi,aM (by omega),hωh,aM (by omega),hωg,aM (by omega)]
   ·rw[gi _ (by omega) (by omega) (by omega)];exact sd
  ·show ωi[ωa.length]?=we (.dt (nU (hd.hearT i tl j) []));rw[gi _ (by omega) (by omega) (by omega),<- hT];exact td
  ·rw[hωi];exact cB eh
  ·have hnd:rs'.Nodup:=by
    rw[hrs'];exact Eb (uz) (fun z=>by have:=rin _ z;omega) i
   simp only[cg,ak,not_or];refine⟨⟨by omega,by omega,h3,fun z=>by have:=rsin _ z;omega⟩,⟨by omega,by omega,fun z=>by have:=rsin _ z;omega⟩,⟨by omega,fun z=>(rsin _ z).2.1 rfl⟩,fun z=>by have:=rsin _ z;omega,hnd⟩
 obtain⟨ω',f1,HF,KF⟩:=xC HI W2;refine⟨ω',ωe.length,ωa.length,ωi.length,rs',?_,HF,⟨?_,fun n hn hm=> ?_⟩,fun n hn=> ?_⟩
 ·refine aV rfl ?_;unfold pE;rw[aO (aR (aA (bS (aB rfl) H.obj rfl (jX H hr)) (aA (bS (aB rfl) G.obj rfl (jX G hr2)) aD)) (GO (gK er) (gK er2) hs1))];rw[aO (aR (aA (bS (aB rfl) H.obj rfl (jX H hr)) (aA (bS (aB rfl) G.obj rfl (jX G hr2)) aD)) (wQ (gK er) (gK er2) hs1))];rw[<- hs,<- hωa];rw[aO (d:=.obj ωa.length) (ω1:=ωb) (by rw[hωb];rfl)];rw[bD (dS (by
   unfold bF oIL;rw[bR (x:=(hd.hearT i tl j,bO)) (ω1:=ωb) (by
    rw[bA (x:=.lst (hd.hearT i tl j)) (ω1:=ωb) (iQ (aR (aA (bS (aB (d:=.obj h) rfl) Hb.obj rfl (jJ Hb W.ents.1)) (aA (aB (d:=.obj h2) rfl) aD)) (rV Gb V hj W.entC (ic (eY W.entsLen)))) (aR (aA (bS (aB (d:=.obj h2) rfl) Gb.obj rfl (jJ Gb V.ents.1)) (aA (aB (d:=.obj h) rfl) aD)) (rV Hb W hi V.entC (ic (eY V.entsLen)))) (by
     show(if(hd.ents.filter (tl.leaves j)).length+(tl.ents.filter (hd.leaves i)).length<=sizeLine then we (D.lst (hd.hearT i tl j),ωb) else wf)=_
     rw[if_pos (by rw[b8];omega)]))]
    rfl)]
   exact loop))]
  rw[bD (jW (aB (d:=.obj ωa.length) rfl) (aB (d:=.obj h) rfl) oc (by simp))];rw[show ωc.set h (.ins 0 (kS "table" (.obj ωa.length) [("number",.int i),("knows",.obj k),("table",.obj t),("kept",.obj e)]))=ωd from by rw[hωd];rfl];rw[bD (jW (tJ (ω1:=ωd) (ω2:=ωe) (ds:=yH (rs.map D.obj) (rs2.map D.obj)) (chk:=fun ω=>mG k (rs.map D.obj) ω&&mG k2 (rs2.map D.obj) ω) (by
    unfold oIZ;rw[bA (aA (fO (aB (d:=.obj h) rfl) od rfl) (aA (fO (aB (d:=.obj h2) rfl) od2 rfl) aD))];have z1:sE ωd (.obj k)=we (rs.map D.obj,mG k (rs.map D.obj)):=by simp only[sE,kd]
    have z2:sE ωd (.obj k2)=we (rs2.map D.obj,mG k2 (rs2.map D.obj)):=by simp only[sE,kd2]
    show oR (pu ((sE ωd (.obj k)).bind _) ωd)=_;rw[z1];show oR (pu ((sE ωd (.obj k2)).map _) ωd)=_;rw[z2];rfl) (by
     unfold yH;rw[d8,av,av,rd.length,rd2.length,W.len,V.len,iu];exact c8 rfl) joins) (by rw[<- hωf];exact aB (d:=.obj h) rfl) of (by simp))]
  rw[show ωf.set h (.ins 0 (kS "knows" (.obj ωe.length) [("number",.int i),("knows",.obj k),("table",.obj ωa.length),("kept",.obj e)]))=ωg from by rw[hωg];rfl];rw[bD (lU (aB (d:=.obj ω.length) rfl) (fO (aB (d:=.obj h) rfl) og rfl) (fO (aB (d:=.obj h) rfl) og rfl) (Dj kg (by rw[av,List.length_range',lkn];exact hi)))];rw[hset,<- hωh];rw[bD (ω1:=ωi) (by
   unfold bX;rw[bR (Be (r:=.non) (ω3:=ωi) (fO (aB (d:=.obj h) rfl) oh rfl) eh (aA (fO (aB (d:=.obj h2) rfl) oh2 rfl) aD) (by
    simp only[EJ,eh,eh2];rw[if_pos ⟨cy he2,by have:=W.kl;have:=V.kl;rw[b8];omega,hh⟩,<- hωi]))])]
  rw[bD (ω1:=ω') (by
   unfold bX;rw[bR (bS (aB (d:=.obj h) rfl) HI.obj rfl f1)])]
  exact bB (aB rfl)
 ·have:=KF.1;omega
 ·simp only[ak,cm,or_false,not_or] at hm;rw[KF.2 n (by omega) (by simpa using hm.1),gi n (by omega) hm.1 hm.2,gd n hn hm.1]
 ·simp only[ak] at hn;rcases hn with z|z|z|z
  ·omega
  ·omega
  ·omega
  ·exact(rsin n z).1
theorem PD (H:HandS ω h i hd fp) (G:HandS ω h2 j tl fq) (hij:∀ n∈fp,n∉fq) (W:hd.Ok c) (V:tl.Ok c) (hi:i<c) (hj:j<c) (hh:eP (tl.kept.map (·.1))=true) (W2:(hd.hear0 i tl j).Ok c):
  ∃ ω',cE [.obj h,.obj h2] ω=we (.ok (.int (Kp (hd.seen i) (tl.seen j))),ω')/\Did ω h i fp ω' (hd.hear i tl j):=by
 obtain⟨k,t,e,rs,H,rfl⟩:=H;obtain⟨k2,t2,e2,rs2,G,rfl⟩:=G;obtain⟨ω',k',t',e',rs',e1,H',K,F⟩:=KE H G hij W V hi hj hh W2;refine⟨ω',e1,_,⟨k',t',e',rs',H',rfl⟩,K.sub (fun n hn=>by simp only[ak,cm,or_false] at hn ⊢;rcases hn with z|z <;> simp[z]),fun n hn=> ?_⟩;rcases ak.mp hn with z|z
 ·exact .inl (by simp[z])
 ·exact .inr (F n z)
end
noncomputable def KeyIn (c:Nat) (own:Nat->Nat) (k:List Key):Prop:=∃ a b:Nat,a<c/\1<=b/\b<=own a/\k=gE a b
noncomputable def tot (c:Nat) (own:Nat->Nat):Nat:=((bq c).map own).sum
noncomputable def univ (c:Nat) (own:Nat->Nat):List (List Key):=(bq c).flatMap fun a=>(bq (own a)).map fun b=>gE a ((b+1:Nat):Int)
theorem AL (c:Nat) (own:Nat->Nat):(univ c own).length=tot c own:=by
 unfold univ tot;rw[List.length_flatMap]
 congr 1
 apply fy;intro a _;simp
theorem KeyIn.univ (h:KeyIn c own k):k∈univ c own:=by
 obtain⟨a,b,h1,h2,h3,rfl⟩:=h;unfold Lw.univ;rw[qh];refine⟨a,c5.mpr h1,az.mpr ⟨b-1,c5.mpr (by omega),?_⟩⟩;rw[Nat.sub_add_cancel h2]
theorem KeyIn.mono (h:KeyIn c own k) (le:∀ a,own a<=own' a):KeyIn c own' k:=by
 obtain⟨a,b,h1,h2,h3,e⟩:=h;exact⟨a,b,h1,h2,ci h3 (le a),e⟩
theorem tK {α:Type} [DecidableEq α]:∀ {l m:List α},l.Nodup->(∀ x∈l,x∈m)->l.length<=m.length
 |[],m,_,_=>ip _
 |a::r,m,h,hs=>by
  rw[cg] at h;have ha:=hs a au;have h1:=tK (l:=r) (m:=m.erase a) h.2 fun x hx=>(List.mem_erase_of_ne (fun z:x=a=>h.1 (z ▸ hx))).mpr (hs x (aj _ hx));rw[List.length_erase_of_mem ha] at h1;have h2:=List.length_pos_of_mem ha;rw[bv];omega
structure Hd.In (c:Nat) (own:Nat->Nat) (hd:Hd):Prop where
 len:hd.knows.length=c
 row:∀ xs∈hd.knows,xs.length=c
 kb:∀ xs∈hd.knows,∀ a,a<c->0<=xs.getD a 0/\xs.getD a 0<=own a
 kk:∀ kv∈hd.kept,KeyIn c own kv.1
 kn:(hd.kept.map (·.1)).Nodup
 kv:∀ kv∈hd.kept,∃ ks:List (List Key),kv.2=.tup (ks.map bZ)/\ks.length<64/\∀ q∈ks,KeyIn c own q
 tk:∀ kv∈hd.table,∃ a b:Nat,a<c/\1<=b/\b<=own a/\kv.1=gE a b/\∃(x:Str) (v:Int),kv.2=.tup [.str x,mkD a b,.int v]
 tn:(hd.table.map (·.1)).Nodup
section
variable {c:Nat}{own own':Nat->Nat}{hd tl:Hd}{i j:Nat}
theorem Hd.In.ok (W:hd.In c own) (c0:0<c) (c8:c<=8) (ht:tot c own<64):hd.Ok c where
 len:=W.len
 row:=W.row
 small:=c8
 pos:=c0
 kk:=fun kv h=>by
  obtain⟨a,b,h1,_,_,e⟩:=W.kk kv h;exact⟨a,b,e,by omega,by omega⟩
 kn:=W.kn
 kl:=by
  have:=tK W.kn (m:=univ c own) fun x hx=>by
   obtain⟨kv,h1,rfl⟩:=az.mp hx;exact(W.kk kv h1).univ
  rw[AL,av] at this;omega
 tk:=fun kv h=>by
  obtain⟨a,b,h1,_,_,e,x,v,e2⟩:=W.tk kv h;exact⟨a,b,by omega,by omega,e,x,v,e2⟩
 tn:=W.tn
 tl:=by
  have:=tK W.tn (m:=univ c own) fun x hx=>by
   obtain⟨kv,h1,rfl⟩:=az.mp hx;obtain⟨a,b,h2,h3,h4,e,_⟩:=W.tk kv h1;exact KeyIn.univ ⟨a,b,h2,h3,h4,e⟩
  rw[AL,av] at this;omega
theorem Hd.In.mono (W:hd.In c own) (le:∀ a,own a<=own' a):hd.In c own' where
 len:=W.len
 row:=W.row
 kb:=fun xs hx a ha=>⟨(W.kb xs hx a ha).1,Int.le_trans (W.kb xs hx a ha).2 (by have:=le a;omega)⟩
 kk:=fun kv h=>(W.kk kv h).mono le
 kn:=W.kn
 kv:=fun kv h=>by
  obtain⟨ks,e,hl,h2⟩:=W.kv kv h;exact⟨ks,e,hl,fun q hq=>(h2 q hq).mono le⟩
 tk:=fun kv h=>by
  obtain⟨a,b,h1,h2,h3,r⟩:=W.tk kv h;exact⟨a,b,h1,h2,ci h3 (le a),r⟩
 tn:=W.tn
theorem kT {p:List Key×D} (h:p∈iI kvs k v):p=(k,v)∨p∈kvs:=by
 unfold iI at h;split at h
 ·obtain⟨q,h1,h2⟩:=az.mp h
  by_cases hq:q.1=k
  ·rw[if_pos hq] at h2;exact .inl (by rw[<- h2,hq])
  ·rw[if_neg hq] at h2;exact .inr (h2 ▸ h1)
 ·rcases c6.mp h with z|z
  ·exact .inr z
  ·exact .inl (by simpa using z)
theorem jD {k:List Key} (h:(kvs.map (·.1)).Nodup):((iI kvs k v).map (·.1)).Nodup:=by
 unfold iI;split
 ·rw[gy];rw[show kvs.map ((·.1)∘fun kv=>if kv.1=k then(kv.1,v) else kv)=kvs.map (·.1) from fy fun kv _=>by
   show(if kv.1=k then(kv.1,v) else kv).1=kv.1
   split <;> rfl]
  exact h
 ·rename_i hn
  rw[dr,kh];refine⟨h,by simp,fun a ha b hb z=>hn ?_⟩;rw[nq];obtain⟨p,h1,h2⟩:=az.mp ha;refine⟨p,h1,decide_eq_true ?_⟩;have hb':b=k:=by simpa using hb
  rw[h2,z,hb']
theorem Fd (kvs:List (List Key×D)) (k:List Key):(dQ kvs k).Sublist kvs:=lj
theorem pF:∀(ks:List (List Key)) (kvs:List (List Key×D)),(ks.foldl dQ kvs).Sublist kvs
 |[],kvs=>List.Sublist.refl _
 |k::ks,kvs=>(pF ks (dQ kvs k)).trans (Fd kvs k)
theorem nQ:∀ {out:List D}{T:List (List Key×D)},(T.map (·.1)).Nodup->((nU out T).map (·.1)).Nodup
 |[],T,h=>h
 |d::out,T,h=>nQ (out:=out) (jD h)
theorem nR:∀ {out:List D}{T:List (List Key×D)}{p:List Key×D},p∈nU out T->p∈T∨∃ d∈out,p=(aS d,d)
 |[],T,p,h=>.inl h
 |d::out,T,p,h=>by
  rcases nR (out:=out) (T:=iI T (aS d) d) h with z|⟨d',h1,h2⟩
  ·rcases kT z with z|z
   ·exact .inr ⟨d,au,z⟩
   ·exact .inl z
  ·exact .inr ⟨d',aj _ h1,h2⟩
theorem mF:∀ {ms kvs:List (List Key×D)},(kvs.map (·.1)).Nodup->((oQ kvs ms).map (·.1)).Nodup
 |[],kvs,h=>h
 |d::ms,kvs,h=>mF (ms:=ms) (kvs:=iI kvs d.1 d.2) (jD h)
theorem lX:∀ {ms kvs:List (List Key×D)}{p:List Key×D},p∈oQ kvs ms->p∈kvs∨p∈ms
 |[],kvs,p,h=>.inl h
 |d::ms,kvs,p,h=>by
  rcases lX (ms:=ms) (kvs:=iI kvs d.1 d.2) h with z|z
  ·rcases kT z with z|z
   ·exact .inr (by rw[z];exact au)
   ·exact .inl z
  ·exact .inr (aj _ z)
theorem jI (xs:List Int) (i a:Nat) (v:Int) (hi:i<xs.length):(xs.set i v).getD a 0=if a=i then v else xs.getD a 0:=by
 rw[am,am,u0]
 by_cases h:a=i
 ·subst h;simp[hi]
 ·rw[if_neg (cy h),if_neg h]
theorem vH {f:Int->Int->Int}{xs ys:List Int}{a:Nat} (h1:a<xs.length) (h2:a<ys.length):(bt f xs ys).getD a 0=f (xs.getD a 0) (ys.getD a 0):=by
 simp[am,rn,aw h1,aw h2]
theorem IK {α β γ:Type}{f:α->β->γ}:∀ {xs:List α}{ys:List β}{z:γ},z∈bt f xs ys->∃ x∈xs,∃ y∈ys,z=f x y
 |[],_,_,h=>by simp at h
 |_::_,[],_,h=>by simp at h
 |x::xs,y::ys,z,h=>by
  rw[ii] at h;rcases ak.mp h with h|h
  ·exact⟨x,au,y,au,h⟩
  ·obtain⟨x',h1,y',h2,e⟩:=IK h;exact⟨x',aj _ h1,y',aj _ h2,e⟩
noncomputable def cU (own:Nat->Nat) (i:Nat):Nat->Nat:=fun a=>if a=i then own a+1 else own a
theorem iA (own:Nat->Nat) (i a:Nat):own a<=cU own i a:=by
 unfold cU;split <;> omega
theorem Hd.In.seenMem (W:hd.In c own) (hi:i<c):hd.seen i∈hd.knows:=by
 unfold Hd.seen
 have:i<hd.knows.length:=by rw[W.len];exact hi
 rw[am,aw this];exact gu this
theorem Hd.In.seenLen (W:hd.In c own) (hi:i<c):(hd.seen i).length=c:=W.row _ (W.seenMem hi)
theorem Hd.In.bump (W:hd.In c own) (hi:i<c) (hs:(hd.seen i).getD i 0=own i):(hd.bump i).In c (cU own i):=by
 have W':=W.mono (iA own i);refine⟨?_,?_,?_,W'.kk,W'.kn,W'.kv,W'.tk,W'.tn⟩
 ·show(hd.knows.set i _).length=c
  rw[c9];exact W.len
 ·intro xs hx;rcases io hx with z|z
  ·exact W.row xs z
  ·rw[z,c9];exact W.seenLen hi
 ·intro xs hx a ha;rcases io hx with z|z
  ·exact W'.kb xs z a ha
  ·rw[z,jI _ _ _ _ (by rw[W.seenLen hi];exact hi)]
   by_cases h:a=i
   ·rw[if_pos h,hs,h];unfold cU;rw[if_pos rfl];omega
   ·rw[if_neg h];exact W'.kb _ (W.seenMem hi) a ha
theorem jM (W:hd.In c own) (hi:i<c) (hs:(hd.seen i).getD i 0=own i):((hd.bump i).seen i).getD i 0=cU own i i:=by
 have:(hd.bump i).seen i=(hd.seen i).set i ((hd.seen i).getD i 0+1):=by
  show(hd.knows.set i _).getD i []=_
  rw[am,fm (by rw[W.len];exact hi)];rfl
 rw[this,jI _ _ _ _ (by rw[W.seenLen hi];exact hi),if_pos rfl,hs];unfold cU;rw[if_pos rfl];omega
theorem GM (hs:(hd.seen i).getD i 0=own i):hd.next i=((cU own i i:Nat):Int):=by
 unfold Hd.next cU;rw[hs,if_pos rfl];omega
theorem lA (hi:i<c) (hs:(hd.seen i).getD i 0=own i):KeyIn c (cU own i) (gE i (hd.next i)):=by
 rw[GM hs];refine⟨i,cU own i i,hi,?_,bj _,rfl⟩;unfold cU;rw[if_pos rfl];omega
theorem Hd.In.put (W:hd.In c own) (hi:i<c) (hs:(hd.seen i).getD i 0=own i) (x:Str) (v:Int):(hd.put i x v).In c (cU own i):=by
 have B:=W.bump hi hs;refine⟨B.len,B.row,B.kb,B.kk,B.kn,B.kv,?_,jD W.tn⟩;intro kv hkv;rcases kT hkv with z|z
 ·obtain⟨a,b,h1,h2,h3,e⟩:=lA hi hs;have hab:(i:Int)=a/\hd.next i=b:=by
   unfold gE at e;simp at e;omega
  refine⟨a,b,h1,h2,h3,by rw[z];exact e,x,v,?_⟩;rw[z];show D.tup [.str x,mkD i (hd.next i),.int v]=D.tup [.str x,mkD a b,.int v];unfold mkD;rw[hab.1,hab.2]
 ·exact B.tk kv z
theorem Hd.In.takeOut0 (W:hd.In c own) {mk:List Key} (hm:KeyIn c own mk) (hl:ks.length<64) (hk:∀ q∈ks,KeyIn c own q):(hd.takeOut0 mk ks).In c own:=by
 refine⟨W.len,W.row,W.kb,?_,?_,?_,fun kv h=>W.tk kv ((pF ks hd.table).subset h),?_⟩
 ·intro kv h
  change kv∈(if ks=[] then hd.kept else _) at h
  split at h
  ·exact W.kk kv h
  ·rcases kT h with z|z
   ·rw[z];exact hm
   ·exact W.kk kv z
 ·show((if ks=[] then hd.kept else _).map (·.1)).Nodup
  split
  ·exact W.kn
  ·exact jD W.kn
 ·intro kv h
  change kv∈(if ks=[] then hd.kept else _) at h
  split at h
  ·exact W.kv kv h
  ·rcases kT h with z|z
   ·rw[z];exact⟨ks,rfl,hl,hk⟩
   ·exact W.kv kv z
 ·exact W.tn.sublist ((pF ks hd.table).map _)
theorem Hd.In.forget (W:hd.In c own):hd.forget.In c own:=
 ⟨W.len,W.row,W.kb,fun kv h=>W.kk kv (cf.mp h).1,W.kn.sublist (lj.map _),fun kv h=>W.kv kv (cf.mp h).1,W.tk,W.tn⟩
theorem Hd.In.hear0 (W:hd.In c own) (V:tl.In c own) (Wo:hd.Ok c) (Vo:tl.Ok c) (hi:i<c) (hj:j<c):(hd.hear0 i tl j).In c own:=by
 have joinB:∀ xs ys:List Int,xs.length=c->ys.length=c->(∀ a,a<c->0<=xs.getD a 0/\xs.getD a 0<=own a)->(∀ a,a<c->0<=ys.getD a 0/\ys.getD a 0<=own a)->(bt mx xs ys).length=c/\∀ a,a<c->0<=(bt mx xs ys).getD a 0/\(bt mx xs ys).getD a 0<=own a:=by
  intro xs ys h1 h2 h3 h4;refine⟨by rw[d8,h1,h2,iu],fun a ha=> ?_⟩;rw[vH (by omega) (by omega)];unfold mx;split
  ·exact h4 a ha
  ·exact h3 a ha
 have rowsB:∀ zs∈(hd.hear0 i tl j).knows,zs.length=c/\∀ a,a<c->0<=zs.getD a 0/\zs.getD a 0<=own a:=by
  intro zs hz;rcases io hz with z|z
  ·obtain⟨x,hx,y,hy,rfl⟩:=IK z;exact joinB x y (W.row x hx) (V.row y hy) (W.kb x hx) (V.kb y hy)
  ·rw[z];exact joinB _ _ (W.seenLen hi) (V.seenLen hj) (W.kb _ (W.seenMem hi)) (V.kb _ (V.seenMem hj))
 have entT:∀ {hd:Hd},hd.In c own->hd.Ok c->∀ d∈hd.ents,∃ a b:Nat,a<c/\1<=b/\b<=own a/\aS d=gE a b/\∃(x:Str) (v:Int),d=.tup [.str x,mkD a b,.int v]:=by
  intro hd W Wo d hd';obtain⟨kv,h1,rfl⟩:=az.mp (Wo.ents.2.mem_iff.mp hd');obtain⟨a,b,h2,h3,h4,e,x,v,e2⟩:=W.tk kv h1;exact⟨a,b,h2,h3,h4,by rw[e2];rfl,x,v,e2⟩
 refine⟨?_,fun xs hx=>(rowsB xs hx).1,fun xs hx=>(rowsB xs hx).2,?_,mF W.kn,?_,?_,nQ (by simp)⟩
 ·show((bt (bt mx) hd.knows tl.knows).set i _).length=c
  rw[c9,d8,W.len,V.len,iu]
 ·intro kv h;rcases lX h with z|z
  ·exact W.kk kv z
  ·exact V.kk kv z
 ·intro kv h;rcases lX h with z|z
  ·exact W.kv kv z
  ·exact V.kv kv z
 ·intro kv h;rcases nR h with z|⟨d,hd',rfl⟩
  ·simp at z
  ·rcases c6.mp hd' with z|z
   ·exact entT W Wo d (cf.mp z).1
   ·exact entT V Vo d (cf.mp z).1
theorem Bl (W:hd.In c own) (V:tl.In c own) (hi:i<c) (hj:j<c) (hs:(hd.seen i).getD i 0=own i):((hd.hear i tl j).seen i).getD i 0=own i:=by
 have:(hd.hear i tl j).seen i=bt mx (hd.seen i) (tl.seen j):=by
  show((bt (bt mx) hd.knows tl.knows).set i _).getD i []=_
  rw[am,fm (by rw[d8,W.len,V.len,iu];exact hi)];rfl
 rw[this,vH (by rw[W.seenLen hi];exact hi) (by rw[V.seenLen hj];exact hi),hs]
 have:=(V.kb _ (V.seenMem hj) i hi).2
 unfold mx;rw[if_neg (by omega)]
theorem Hd.Ok.marksLen (Wo:hd.Ok c) (x:Str):(hd.marksK x).length<64:=by
 unfold Hd.marksK;rw[av];exact ma (jh ..) Wo.entsLen
theorem Hd.In.marks (W:hd.In c own) (Wo:hd.Ok c) (x:Str):∀ q∈hd.marksK x,KeyIn c own q:=fun q hq=>by
 obtain⟨kv,h1,rfl⟩:=az.mp (Wo.marksIn x q hq);obtain⟨a,b,h2,h3,h4,e,_⟩:=W.tk kv h1;exact⟨a,b,h2,h3,h4,e⟩
end
theorem oY:∀ {U:List (List Key)},eP U=true->(∀ k∈U,∃ a,eQ k=we a)/\∀ k∈U,∀ k'∈U,eQ k=eQ k'->k=k'
 |[],_=>⟨fun k h=>by simp at h,fun k h=>by simp at h⟩
 |k::r,h=>by
  have h':((eQ k).isSome&&r.all (fun k'=>match eQ k,eQ k' with
   |some a,we b=>decide (a≠b)
   |_,_=>false)&&eP r)=true:=h
  rw[bu,bu] at h';obtain⟨⟨h0,ha⟩,hr⟩:=h';obtain⟨i1,i2⟩:=oY hr;have main:∀ y∈r,eQ k=eQ y->False:=fun y hy e=>by
   have:=d6.mp ha y hy
   split at this
   ·rename_i a b e1 e2
    rw[e1,e2] at e;cases e;simp at this
   ·cases this
  refine⟨fun q hq=> ?_,fun q hq q' hq' e=> ?_⟩
  ·rcases ak.mp hq with rfl|hq
   ·exact l8.mp h0
   ·exact i1 q hq
  ·rcases ak.mp hq with z|hq1
   ·rcases ak.mp hq' with z'|hq2
    ·rw[z,z']
    ·rw[z] at e;exact(main q' hq2 e).elim
   ·rcases ak.mp hq' with z'|hq2
    ·rw[z'] at e;exact(main q hq1 e.symm).elim
    ·exact i2 q hq1 q' hq2 e
theorem mH (hU:eP U=true):∀ {ks:List (List Key)},(∀ k∈ks,k∈U)->ks.Nodup->eP ks=true
 |[],_,_=>rfl
 |k::r,hs,nd=>by
  rw[cg] at nd;obtain⟨s1,s2⟩:=oY hU;have hk:=hs k au;obtain⟨a,ea⟩:=s1 k hk
  show((eQ k).isSome&&r.all (fun k'=>match eQ k,eQ k' with
   |some a,we b=>decide (a≠b)
   |_,_=>false)&&eP r)=true
  rw[bu,bu];refine⟨⟨by rw[ea];rfl,?_⟩,mH hU (fun q hq=>hs q (aj _ hq)) nd.2⟩;rw[d6];intro k' hk';obtain⟨b,eb⟩:=s1 k' (hs k' (aj _ hk'));rw[ea,eb];show decide (a≠b)=true;refine decide_eq_true fun z=>nd.1 ?_;rw[s2 k hk k' (hs k' (aj _ hk')) (by rw[ea,eb,z])];exact hk'
theorem RowsAt.mem (h:RowsAt ω rs kn):∀ r∈rs,∃ xs,ω[r]?=we (.ml (iv xs)):=by
 induction h with
 |nil=>intro r hr;simp at hr
 |cons h0 _ ih=>
  intro r hr;rcases ak.mp hr with rfl|hr
  ·exact⟨_,h0⟩
  ·exact ih r hr
theorem BP (h:RowsAt ω rs kn):(rs.map D.obj).map (fun d=>D.lst ((cQ ω d).getD []))=kn.map fun xs=>D.lst (iv xs):=by
 induction h with
 |nil=>rfl
 |@cons r x rs kn h0 _ ih=>
  rw[bp,bp,bp,ih]
  have:cQ ω (.obj r)=we (iv x):=by simp only[cQ,cV,h0]
  rw[this];rfl
theorem zB (h:ω[n]?=we (.ml ds)):mG n ds ω=true:=by
 unfold mG;rw[h];exact sameDs_refl _
theorem NC (a b a' b':Int):∃ c,dP 4 (.tup [.int a,.int b]) (.tup [.int a',.int b'])=we c:=by
 show ∃ c,(match eqD 4 (.int a) (.int a') with
  |some true=>(match eqD 4 (.int b) (.int b') with
   |some true=>we _
   |some false=>fL (.int b) (.int b')
   |none=>wf)
  |some false=>fL (.int a) (.int a')
  |none=>wf)=we c
 have e1:eqD 4 (.int a) (.int a')=we (decide (a=a')):=rfl;have e2:eqD 4 (.int b) (.int b')=we (decide (b=b')):=rfl;rw[e1,e2];cases decide (a=a') with
 |false=>exact⟨_,rfl⟩
 |true=>
  cases decide (b=b') with
  |false=>exact⟨_,rfl⟩
  |true=>exact⟨_,rfl⟩
section
variable {ω:Om}{h k t e:Nat}{i c:Nat}{hd:Hd}{rs fp:List Nat}{own:Nat->Nat}
theorem GW (H:HandAt ω h i hd k t e rs) (hl:rs.length<=sizeLine):fU [.obj h] ω=we (.ok (.lst (hd.knows.map fun xs=>.lst (iv xs))),ω):=by
 refine aV rfl (bB (gA (ds:=rs.map D.obj) (chk:=mG k (rs.map D.obj)) (ω1:=ω) ?_ (by simpa using hl) ?_))
 ·unfold oIL;rw[bA (H.knows (aB rfl))]
  have:sE ω (.obj k)=we (rs.map D.obj,mG k (rs.map D.obj)):=by simp only[sE,H.kn]
  show oR (pu (sE ω (.obj k)) ω)=_;rw[this];rfl
 ·rw[<- BP H.rows];refine jL (fun ρ=>ρ.length=1) (zB H.kn) rfl fun d hd ρ hρ=> ?_;obtain⟨r,hr,rfl⟩:=az.mp hd;obtain⟨xs,ex⟩:=H.rows.mem r hr
  match ρ,hρ with
  |[u],_=>
   refine⟨_,rfl,rfl,dE (aA (aB (d:=.obj r) rfl) aD) ?_⟩
   have:cQ ω (.obj r)=we (iv xs):=by simp only[cQ,cV,ex]
   show(cQ ω (.obj r)).map _=_
   rw[this];rfl
theorem FX (H:HandAt ω h i hd k t e rs) (hi:i<hd.knows.length) (ef:f ρ ω=we (.ok (.obj h),ω)):oL gH (aC (bC 0 "seen" bM f aJ) aJ) ρ ω=we (.ok (.lst (iv (hd.seen i))),ω):=by
 obtain⟨r,hr,er⟩:=H.seenRow hi;refine dE (aA (bS ef H.obj rfl (jX H hr)) aD) ?_
 have:cQ ω (.obj r)=we (iv (hd.seen i)):=by simp only[cQ,cV,er]
 show(cQ ω (.obj r)).map _=_
 rw[this];rfl
noncomputable def Hd.mindK (hd:Hd):List D:=(eM 4 (hd.kept.map fun p=>bZ p.1)).getD []
noncomputable def Hd.mindV (hd:Hd) (q:D):D:=match Db q with
 |some k=>(match iH hd.kept k with
  |some (.tup ds)=>.lst ds
  |_=>.non)
 |none=>.non
noncomputable def Hd.mind (hd:Hd):List D:=hd.mindK.map fun q=>.tup [q,hd.mindV q]
theorem Hd.Ok.mindK (W:hd.Ok c):eM 4 (hd.kept.map fun p=>bZ p.1)=we hd.mindK/\hd.mindK.Perm (hd.kept.map fun p=>bZ p.1):=by
 have key:∀ d∈hd.kept.map fun p=>bZ p.1,∃ a b:Int,d=.tup [.int a,.int b]:=fun d hd'=>by
  obtain⟨kv,h1,rfl⟩:=az.mp hd';obtain⟨a,b,e,_⟩:=W.kk kv h1;exact⟨a,b,by show bZ kv.1=_;rw[e];rfl⟩
 obtain⟨out,e1,e2⟩:=sY (m:=4) (ds:=hd.kept.map fun p=>bZ p.1) (by rw[av];exact W.kl) (by
  unfold iO;rw[ib];left;rw[d6];intro d hd';obtain⟨a,b,rfl⟩:=key d hd';rfl) (fun x hx y hy=>by
  obtain⟨a,b,rfl⟩:=key x hx;obtain⟨a',b',rfl⟩:=key y hy;exact NC a b a' b')
 have:hd.mindK=out:=by unfold Hd.mindK;rw[e1];rfl
 rw[this];exact⟨e1,e2⟩
theorem GR (W:hd.In c own) (hq:q∈hd.kept):∃ ks:List (List Key),iH hd.kept q.1=we (.tup (ks.map bZ))/\hd.mindV (bZ q.1)=.lst (ks.map bZ)/\ks.length<64/\∀ x∈ks,KeyIn c own x:=by
 obtain⟨ks,e,hl,h2⟩:=W.kv q hq;have e1:=CT W.kn hq;rw[e] at e1;refine⟨ks,e1,?_,hl,h2⟩;unfold Hd.mindV;rw[AN]
 show(match iH hd.kept q.1 with
  |some (.tup ds)=>D.lst ds
  |_=>.non)=_
 rw[e1]
theorem Co (H:HandAt ω h i hd k t e rs) (W:hd.Ok c) (I:hd.In c own):eD [.obj h] ω=we (.ok (.lst hd.mind),ω):=by
 have hl:hd.mindK.length<64:=by rw[W.mindK.2.length_eq,av];exact W.kl
 refine aV rfl (bB (gA (ds:=hd.mindK) (chk:=bO) (ω1:=ω) ?_ (ic (eY hl)) ?_))
 ·unfold oIL;rw[bA (dE (d:=.lst hd.mindK) (ω2:=ω) (aA (H.kept (aB rfl)) aD) (by
   simp only[EM,cellOf,H.kp];rw[W.mindK.1];rfl))]
  rfl
 ·refine jL (fun ρ=>∃ u,ρ=[u,we (.obj h)]) rfl ⟨_,rfl⟩ fun d hd' ρ hρ=> ?_;obtain⟨q,hq,rfl⟩:=az.mp (W.mindK.2.mem_iff.mp hd');obtain⟨ks,e1,e2,_⟩:=GR I hq;obtain⟨u,rfl⟩:=hρ;refine⟨_,rfl,⟨_,rfl⟩,dE (aA (aB (d:=bZ q.1) rfl) (aA (dE (aA (iQ (d:=.tup (ks.map bZ)) (H.kept (aB rfl)) (aB (d:=bZ q.1) rfl) (by
   show pu (uA ω (.obj e) (bZ q.1)) ω=_
   have:uA ω (.obj e) (bZ q.1)=we (.tup (ks.map bZ)):=by
    simp only[uA,Hy,cellOf,H.kp,AN];rw[Option.map_some,e1];rfl
   rw[this];rfl)) aD) (d:=.lst (ks.map bZ)) rfl) aD)) ?_⟩
  show pu (qN [bZ q.1,.lst (ks.map bZ)]) ω=we (D.tup [bZ q.1,hd.mindV (bZ q.1)],ω);rw[e2];unfold qN;rw[if_pos (by rw[b8];simp)];rfl
end
noncomputable def Hd0 (c:Nat):Hd:=⟨ax c (ax c 0),[],[]⟩
theorem Bv:∀ c:Nat,(ax c [D.int 0]).flatten=iv (ax c 0)
 |0=>rfl
 |c+1=>by
  rw[d7,iw,Bv c];rfl
theorem EY {c:Nat} (c8:c<=8):∀(ds:List D) (u:Option D) (ω:Om),compLO (aY 0) bO (oPT jN) (o2 Hs (zL (aC (zI 0) aJ)) (zV 1)) ds [u,we (.int c)] ω=we ((db ω.length ds.length).map D.obj,ω++ax ds.length (.ml (iv (ax c 0))))
 |[],u,ω=>by
  show we ([],ω)=_;simp
 |d::ds,u,ω=>by
  have ih:=EY c8 ds (we d) (ω++[.ml (iv (ax c 0))]);have b1:o2 Hs (zL (aC (zI 0) aJ)) (zV 1) [we d,we (.int c)] ω=we (.ok (.obj ω.length),ω++[.ml (iv (ax c 0))]):=by
   refine iQ (ω1:=ω) (ω2:=ω) (a:=.lst [.int 0]) (b:=.int c) (dE (aA aW aD) ?_) (aB rfl) ?_
   ·show pu (Hu [.int 0]) ω=_;unfold Hu;rw[if_pos (by rw[b8];simp)];rfl
   ·show(if -1000000<=(c:Int)/\(c:Int)<=1000000/\1*(c:Int).toNat<=sizeLine then we (D.obj ω.length,ω++[.ml (ax (c:Int).toNat [D.int 0]).flatten]) else wf)=_
    rw[if_pos ⟨by omega,by omega,by rw[b8];omega⟩,d9,Bv]
  refine(xM rfl rfl (b1)).trans ?_;rw[ih,bv,kt,bp,d7,b7];show we (_,_)=_;rw[dy];rfl
theorem Ho {c:Nat} (c8:c<=1000):jP [.int (c:Int)]=we (jY 0 c):=by
 show(if -1000000000<=(c:Int)/\(c:Int)<=1000000000 then we (jY 0 (c:Int).toNat) else wf)=_
 rw[if_pos ⟨by omega,by omega⟩,d9]
theorem kP (e:f ρ ω=we (.ok (.int c),ω1)) (c8:c<=1000):oIA jP (aC f aJ) ρ ω=we (.ok (jY 0 c,bO),ω1):=by
 unfold oIA;rw[bA (aA e aD)];show oR (pu ((jP [.int (c:Int)]).map _) ω1)=_;rw[Ho c8];rfl
theorem EA {i c:Nat} (c8:c<=8):∃ ω' fp,dL [.obj ω.length,.int i,.int c] (ω++[.ins 0 []])=we (.ok .non,ω')/\HandS ω' ω.length i (Hd0 c) fp/\Keep [] ω ω'/\∀ n∈fp,ω.length<=n:=by
 obtain⟨ω1,hω1⟩:∃ ω1,ω1=(ω++[Ob.ins 0 []]).set ω.length (.ins 0 [("number",.int i)]):=⟨_,rfl⟩;have g0:(ω++[Ob.ins 0 []])[ω.length]?=we (.ins 0 []):=by simp
 have g1:ω1[ω.length]?=we (.ins 0 [("number",.int i)]):=by rw[hω1];exact cB g0
 have l1:ω1.length=ω.length+1:=by rw[hω1];simp
 have k1:∀ n,n<ω.length->ω1[n]?=ω[n]?:=fun n hn=>by rw[hω1,aM (by omega),ay hn]
 have fill:=EY c8 (jY 0 c) wf ω1;rw[kQ] at fill;obtain⟨ω2,hω2⟩:∃ ω2,ω2=ω1++ax c (Ob.ml (iv (ax c 0))):=⟨_,rfl⟩;rw[<- hω2] at fill;have l2:ω2.length=ω.length+1+c:=by rw[hω2];simp[l1]
 obtain⟨ω3,hω3⟩:∃ ω3,ω3=ω2++[Ob.ml ((db ω1.length c).map D.obj)]:=⟨_,rfl⟩;have l3:ω3.length=ω.length+2+c:=by rw[hω3];simp[l2];omega
 have k3:∀ n,n<ω.length+1->ω3[n]?=ω1[n]?:=fun n hn=>by rw[hω3,ay (by omega),hω2,ay (by omega)]
 have g3:ω3[ω.length]?=we (.ins 0 [("number",.int i)]):=by rw[k3 _ (by omega)];exact g1
 have r3:RowsAt ω3 (db ω1.length c) (ax c (ax c 0)):=by
  have:=lV (ax c (ax c 0)) ω1 [Ob.ml ((db ω1.length c).map D.obj)]
  rw[List.map_replicate,jg,<- hω2,<- hω3] at this;exact this
 have kk3:ω3[ω2.length]?=we (.ml ((db ω1.length c).map D.obj)):=by rw[hω3];simp
 obtain⟨ω4,hω4⟩:∃ ω4,ω4=ω3.set ω.length (.ins 0 [("number",.int i),("knows",.obj ω2.length)]):=⟨_,rfl⟩;have l4:ω4.length=ω.length+2+c:=by rw[hω4];simp[l3]
 have g4:ω4[ω.length]?=we (.ins 0 [("number",.int i),("knows",.obj ω2.length)]):=by rw[hω4];exact cB g3
 obtain⟨ω5,hω5⟩:∃ ω5,ω5=(ω4++[Ob.dt []]).set ω.length (.ins 0 [("number",.int i),("knows",.obj ω2.length),("table",.obj ω4.length)]):=⟨_,rfl⟩;have g4':(ω4++[Ob.dt []])[ω.length]?=we (.ins 0 [("number",.int i),("knows",.obj ω2.length)]):=by rw[ay (by omega)];exact g4
 have l5:ω5.length=ω.length+3+c:=by rw[hω5];simp[l4];omega
 have g5:ω5[ω.length]?=we (.ins 0 [("number",.int i),("knows",.obj ω2.length),("table",.obj ω4.length)]):=by rw[hω5];exact cB g4'
 have t5:ω5[ω4.length]?=we (.dt []):=by rw[hω5,aM (by omega)];simp
 obtain⟨ω6,hω6⟩:∃ ω6,ω6=(ω5++[Ob.dt []]).set ω.length (.ins 0 [("number",.int i),("knows",.obj ω2.length),("table",.obj ω4.length),("kept",.obj ω5.length)]):=⟨_,rfl⟩;have g5':(ω5++[Ob.dt []])[ω.length]?=we (.ins 0 [("number",.int i),("knows",.obj ω2.length),("table",.obj ω4.length)]):=by rw[ay (by omega)];exact g5
 have l6:ω6.length=ω.length+4+c:=by rw[hω6];simp[l5];omega
 have g6:∀ n,n<ω.length+2+c->n≠ω.length->ω6[n]?=ω3[n]?:=fun n hn hne=>by
  rw[hω6,aM hne,ay (by omega),hω5,aM hne,ay (by omega),hω4,aM hne]
 have rin:∀ q∈db ω1.length c,ω.length+1<=q/\q<ω.length+1+c:=fun q hq=>by
  rw[pk,l1] at hq;exact hq
 refine⟨ω6,ω.length::ω2.length::ω4.length::ω5.length::db ω1.length c,?_,⟨ω2.length,ω4.length,ω5.length,db ω1.length c,⟨?_,?_,?_,?_,?_,?_⟩,rfl⟩,⟨by omega,fun n hn _=> ?_⟩,fun n hn=> ?_⟩
 ·refine tE (ρ1:=[we (.obj ω.length),we (.int i),we (.int c)]) rfl ?_;unfold lF;rw[bD (jW (aB (d:=.int i) rfl) (aB (d:=.obj ω.length) rfl) g0 (by simp))];rw[show(ω++[Ob.ins 0 []]).set ω.length (.ins 0 (kS "number" (.int i) []))=ω1 from by rw[hω1];rfl];rw[bD (jW (tJ (ω2:=ω2) (kP (c:=c) (aB rfl) (by omega)) (by rw[kQ,b8];omega) fill) (by rw[<- hω3];exact aB (d:=.obj ω.length) rfl) g3 (by simp))];rw[show ω3.set ω.length (.ins 0 (kS "knows" (.obj ω2.length) [("number",.int i)]))=ω4 from by rw[hω4];rfl];rw[bD (jW (v:=.obj ω4.length) (ω1:=ω4++[.dt []]) rfl (aB (d:=.obj ω.length) rfl) g4' (by simp))];rw[show(ω4++[Ob.dt []]).set ω.length (.ins 0 (kS "table" (.obj ω4.length) [("number",.int i),("knows",.obj ω2.length)]))=ω5 from by rw[hω5];rfl];rw[jW (v:=.obj ω5.length) (ω1:=ω5++[.dt []]) rfl (aB (d:=.obj ω.length) rfl) g5' (by simp)];rw[show(ω5++[Ob.dt []]).set ω.length (.ins 0 (kS "kept" (.obj ω5.length) [("number",.int i),("knows",.obj ω2.length),("table",.obj ω4.length)]))=ω6 from by rw[hω6];rfl];rfl
 ·rw[hω6];exact cB g5'
 ·rw[g6 _ (by omega) (by omega)];exact kk3
 ·exact r3.mono fun q hq=>by have:=rin q hq;exact g6 q (by omega) (by omega)
 ·rw[hω6,aM (by omega),ay (by omega)];exact t5
 ·rw[hω6,aM (by omega)];simp[Hd0]
 ·simp only[cg,ak,not_or];refine⟨⟨by omega,by omega,by omega,fun z=>by have:=rin _ z;omega⟩,⟨by omega,by omega,fun z=>by have:=rin _ z;omega⟩,⟨by omega,fun z=>by have:=rin _ z;omega⟩,fun z=>by have:=rin _ z;omega,uz⟩
 ·rw[g6 n (by omega) (by omega),k3 n (by omega)];exact k1 n hn
 ·simp only[ak] at hn;rcases hn with z|z|z|z|z
  ·omega
  ·omega
  ·omega
  ·omega
  ·have:=rin n z;omega
theorem Ej (e1:fl ρ ω=we (.ok ds,ω1)) (e2:φ (.obj ω1.length::ds) (ω1++[.ins cl []])=we (.ok .non,ω2)):qH cl φ fl ρ ω=we (.ok (.obj ω1.length),ω2):=by
 unfold qH;rw[bA e1]
 show(match φ (.obj ω1.length::ds) (ω1++[.ins cl []]) with
  |some (.ok .non,ω')=>we (Rz.ok (D.obj ω1.length),ω')
  |some (.ex c,ω')=>we (.ex c,ω')
  |_=>wf)=_
 rw[e2]
theorem fB (s:Int) (m:Nat):jY s (m+1)=.int s::jY (s+1) m:=by
 unfold jY;rw[qx,bp,gy]
 congr 1
 ·simp
 ·apply fy;intro k _;show D.int (s+((k+1:Nat):Int))=D.int (s+1+(k:Int))
  congr 1
  omega
theorem Bo {c:Nat} (c8:c<=8):∀(m s:Nat) (u:Option D) (ω:Om),∃(ω':Om) (hs:Nat->Nat) (fp:Nat->List Nat),compLO (aY 0) bO (oPT jN) (qH 0 dL (aC (zV 0) (aC (zV 1) aJ))) (jY s m) [u,we (.int c)] ω=we ((db s m).map fun i=>D.obj (hs i),ω')/\
  (∀ i,s<=i->i<s+m->HandS ω' (hs i) i (Hd0 c) (fp i))/\(∀ i,s<=i->i<s+m->∀ n∈fp i,ω.length<=n)/\(∀ i,s<=i->i<s+m->∀ j,s<=j->j<s+m->i≠j->∀ n∈fp i,n∉fp j)/\Keep [] ω ω'
 |0,s,u,ω=>⟨ω,fun _=>0,fun _=>[],rfl,fun i h1 h2=>by omega,fun i h1 h2=>by omega,fun i h1 h2=>by omega,Keep.refl _ _⟩
 |m+1,s,u,ω=>by
  obtain⟨ω1,fp0,e1,H1,K1,F1⟩:=EA (ω:=ω) (i:=s) c8;obtain⟨ω2,hs,fp,e2,H2,F2,A2,K2⟩:=Bo c8 m (s+1) (we (.int s)) ω1;have ltH:=H1.lt;refine⟨ω2,fun i=>if i=s then ω.length else hs i,fun i=>if i=s then fp0 else fp i,?_,fun i h1 h2=> ?_,fun i h1 h2 n hn=> ?_,fun i h1 h2 j h3 h4 hne n hn=> ?_,⟨ci K1.1 K2.1,fun n hn _=> ?_⟩⟩
  ·rw[fB];have mk:qH 0 dL (aC (zV 0) (aC (zV 1) aJ)) [we (.int s),we (.int c)] ω=we (.ok (.obj ω.length),ω1):=Ej (aA (aB rfl) (aA (aB rfl) aD)) e1;refine(xM rfl rfl (mk)).trans ?_
   show(compLO _ _ _ _ (jY ((s+1:Nat):Int) m) _ _).map _=_
   rw[e2,kt,bp];show we (_::_,_)=_
   congr 3
   ·simp
   ·apply fy;intro i hi;rw[pk] at hi;show D.obj (hs i)=D.obj (if i=s then ω.length else hs i);rw[if_neg (by omega)]
  ·by_cases hi:i=s
   ·subst hi;simp only[if_pos];exact H1.mono fun n hn=>K2.2 n (ltH n hn) (by simp)
   ·simp only[if_neg hi];exact H2 i (by omega) (by omega)
  ·by_cases hi:i=s
   ·simp only[if_pos hi] at hn;exact F1 n hn
   ·simp only[if_neg hi] at hn;exact ci K1.1 (F2 i (by omega) (by omega) n hn)
  ·by_cases hi:i=s
   ·by_cases hj:j=s
    ·exact absurd (hi.trans hj.symm) hne
    ·simp only[if_pos hi] at hn;simp only[if_neg hj];intro z
     have:=F2 j (by omega) (by omega) n z
     have:=ltH n hn
     omega
   ·simp only[if_neg hi] at hn
    by_cases hj:j=s
    ·simp only[if_pos hj];intro z
     have:=F2 i (by omega) (by omega) n hn
     have:=ltH n z
     omega
    ·simp only[if_neg hj];exact A2 i (by omega) (by omega) j (by omega) (by omega) hne n hn
  ·rw[K2.2 n (bx hn K1.1) (by simp)];exact K1.2 n hn (by simp)
structure HallS (B ω:Om) (g c:Nat) (hs:Nat->Nat) (fp:Nat->List Nat) (S:Nat->Hd):Prop where
 obj:ω[g]?=we (.ins 1 [("hands",.lst ((bq c).map fun i=>.obj (hs i)))])
 hand:∀ i,i<c->HandS ω (hs i) i (S i) (fp i)
 apart:∀ i,i<c->∀ j,j<c->i≠j->∀ n∈fp i,n∉fp j
 out:∀ i,i<c->g∉fp i
 low:∀ i,i<c->∀ n∈fp i,B.length<=n
 bas:B.length<=ω.length/\∀ n,n<B.length->ω[n]?=B[n]?
theorem wX (c8:c<=8) (e:fl ρ ω=we (.ok [.int c],ω)):∃ ω' hs fp,qH 1 eW fl ρ ω=we (.ok (.obj ω.length),ω')/\HallS ω ω' ω.length c hs fp (fun _=>Hd0 c):=by
 obtain⟨ω1,hs,fp,e1,H1,F1,A1,K1⟩:=Bo c8 c 0 wf (ω++[Ob.ins 1 []]);have g0:(ω++[Ob.ins 1 []])[ω.length]?=we (.ins 1 []):=by simp
 have g1:ω1[ω.length]?=we (.ins 1 []):=(K1.2 _ (by simp) (by simp)).trans g0;have l1:=K1.1;rw[b7] at l1;have hl:[Ob.ins 1 []].length=1:=rfl;have f1:∀ i,i<c->∀ n∈fp i,n≠ω.length:=fun i hi n hn z=>by
  have:=F1 i (by omega) (by omega) n hn
  rw[b7] at this;omega
 refine⟨ω1.set ω.length (.ins 1 [("hands",.lst ((bq c).map fun i=>.obj (hs i)))]),hs,fp,Ej e ?_,⟨cB g1,fun i hi=> ?_,fun i hi j hj=>A1 i (by omega) (by omega) j (by omega) (by omega),fun i hi z=>f1 i hi _ z rfl,fun i hi n hn=> ?_,⟨by simp;omega,fun n hn=> ?_⟩⟩⟩
 ·refine tE (ρ1:=[we (.obj ω.length),we (.int c)]) rfl ?_;unfold lH;rw[jW (gA (ω2:=ω1) (kP (c:=c) (aB rfl) (by omega)) (by rw[kQ,b8];omega) e1) (aB (d:=.obj ω.length) rfl) g1 (by simp)];rw[<- List.range_eq_range'];rfl
 ·exact(H1 i (by omega) (by omega)).mono fun n hn=>aM (f1 i hi n hn)
 ·have:=F1 i (by omega) (by omega) n hn
  rw[b7] at this;omega
 ·rw[aM (by omega),K1.2 n (by simp;omega) (by simp),ay hn]
noncomputable def Lm:List (List Key)->Nat->Bool
 |[],_=>true
 |k::r,acc=>match eQ k with
  |some h=> !(acc.testBit (h % 4096).toNat)&&Lm r (acc|||(1<<<(h % 4096).toNat))
  |none=>false
theorem IV (acc i j:Nat):(acc|||(1<<<i)).testBit j=(acc.testBit j||decide (j=i)):=by
 rw[Nat.testBit_or,Nat.testBit_shiftLeft]
 congr 1
 by_cases h:j=i
 ·subst h;simp
 ·rw[decide_eq_false h]
  by_cases h2:j≥i
  ·have:j-i≠0:=by omega
   obtain⟨n,hn⟩:∃ n,j-i=n+1:=⟨j-i-1,by omega⟩;rw[hn,Nat.testBit_succ];simp
  ·simp[h2]
theorem xQ:∀ {l:List (List Key)}{acc:Nat},Lm l acc=true->∀ k∈l,∃ h,eQ k=we h/\acc.testBit (h % 4096).toNat=false
 |[],_,_,k,hk=>by simp at hk
 |k::r,acc,h,q,hq=>by
  unfold Lm at h;cases hh:eQ k with
  |none=>rw[hh] at h;cases h
  |some a=>
   rw[hh] at h;have h':(!(acc.testBit (a % 4096).toNat)&&Lm r (acc|||(1<<<(a % 4096).toNat)))=true:=h;rw[bu] at h';rcases ak.mp hq with rfl|hq
   ·exact⟨a,hh,by simpa using h'.1⟩
   ·obtain⟨b,e1,e2⟩:=xQ h'.2 q hq;rw[IV,Bool.or_eq_false_iff] at e2;exact⟨b,e1,e2.1⟩
theorem Fp:∀ {l:List (List Key)}{acc:Nat},Lm l acc=true->eP l=true
 |[],_,_=>rfl
 |k::r,acc,h=>by
  unfold Lm at h;cases hh:eQ k with
  |none=>rw[hh] at h;cases h
  |some a=>
   rw[hh] at h;have h':(!(acc.testBit (a % 4096).toNat)&&Lm r (acc|||(1<<<(a % 4096).toNat)))=true:=h;rw[bu] at h'
   show((eQ k).isSome&&r.all (fun k'=>match eQ k,eQ k' with
    |some a,we b=>decide (a≠b)
    |_,_=>false)&&eP r)=true
   rw[bu,bu];refine⟨⟨by rw[hh];rfl,?_⟩,Fp h'.2⟩;rw[d6];intro k' hk';obtain⟨b,e1,e2⟩:=xQ h'.2 k' hk';rw[hh,e1];refine decide_eq_true fun z=> ?_;rw[IV,<- z] at e2;simp at e2
theorem Ey:eP (univ 8 fun _=>63)=true:=Fp (acc:=0) (by decide+kernel)
noncomputable def jV (S:Nat->Hd) (i:Nat) (hd:Hd):Nat->Hd:=fun j=>if j=i then hd else S j
theorem iL:jV S i hd i=hd:=if_pos rfl
theorem iK (h:j≠i):jV S i hd j=S j:=if_neg h
inductive Deed where
 |put (a:Int) (x:Str) (v:Int)
 |change (a:Int) (x:Str) (v:Int)
 |take (a:Int) (x:Str)
 |tell (a b:Int)
 |meet (a b:Int)
noncomputable def Deed.d:Deed->D
 |.put a x v=>.tup [.str "put",.int a,.str x,.int v]
 |.change a x v=>.tup [.str "change",.int a,.str x,.int v]
 |.take a x=>.tup [.str "take",.int a,.str x]
 |.tell a b=>.tup [.str "tell",.int a,.int b]
 |.meet a b=>.tup [.str "meet",.int a,.int b]
noncomputable def gJ (S:Nat->Hd) (a b:Nat):Nat->Hd:=jV S b ((S b).hear b (S a) a)
noncomputable def iG (S:Nat->Hd) (a b:Nat):Int:=Kp ((S b).seen b) ((S a).seen a)
noncomputable def Eh (S:Nat->Hd) (a b:Nat):Nat->Hd:=gJ (gJ (gJ S a b) b a) a b
noncomputable def step (c:Nat) (S:Nat->Hd):Deed->D×(Nat->Hd)
 |.put a x v=>if 0<=a/\a<c then(mkD a.toNat ((S a.toNat).next a.toNat),jV S a.toNat ((S a.toNat).put a.toNat x v)) else(.str "no hand",S)
 |.change a x v=>if 0<=a/\a<c then(mkD a.toNat ((S a.toNat).next a.toNat),jV S a.toNat ((S a.toNat).change a.toNat x v)) else(.str "no hand",S)
 |.take a x=>if 0<=a/\a<c then((S a.toNat).takeA x,jV S a.toNat ((S a.toNat).take a.toNat x)) else(.str "no hand",S)
 |.tell a b=>if(0<=a/\a<c)/\(0<=b/\b<c) then(if a=b then(.str "same hand",S) else(.int (iG S a.toNat b.toNat),gJ S a.toNat b.toNat)) else(.str "no hand",S)
 |.meet a b=>if(0<=a/\a<c)/\(0<=b/\b<c) then(if a=b then(.str "same hand",S) else(.tup [.int (iG (gJ S a.toNat b.toNat) b.toNat a.toNat),.int (iG S a.toNat b.toNat)],Eh S a.toNat b.toNat)) else(.str "no hand",S)
noncomputable def HInv (c:Nat) (own:Nat->Nat) (S:Nat->Hd):Prop:=∀ a,a<c->(S a).In c own/\((S a).seen a).getD a 0=own a
theorem jC (own:Nat->Nat) (i:Nat):∀ c,tot c (cU own i)=tot c own+if i<c then 1 else 0
 |0=>rfl
 |c+1=>by
  have ih:=jC own i c;unfold tot at ih ⊢;rw[qr,dr,dr,oj,oj,ih];simp only[bp,ki,m5,List.sum_nil];unfold cU
  by_cases h1:i<c
  ·rw[if_pos h1,if_neg (by omega),if_pos (by omega)];omega
  ·rw[if_neg h1]
   by_cases h2:c=i
   ·rw[if_pos h2,if_pos (by omega)];omega
   ·rw[if_neg h2,if_neg (by omega)];omega
theorem IF (own:Nat->Nat) (a:Nat):∀ c,a<c->own a<=tot c own
 |0,h=>by omega
 |c+1,h=>by
  have ih:=IF own a c;unfold tot at ih ⊢;rw[qr,dr,oj];simp only[bp,ki,m5,List.sum_nil]
  by_cases h1:a<c
  ·have:=ih h1;omega
  ·have:a=c:=by omega
   subst this;omega
section
variable {B:Om}{c g i j:Nat}{own:Nat->Nat}{S:Nat->Hd}{ω ω':Om}{hs:Nat->Nat}{fp:Nat->List Nat}{hd':Hd}
theorem HInv.upd (I:HInv c own S) (W:hd'.In c own) (e:(hd'.seen i).getD i 0=own i):HInv c own (jV S i hd'):=fun a ha=>by
 by_cases h:a=i
 ·subst h;rw[iL];exact⟨W,e⟩
 ·rw[iK h];exact I a ha
theorem HInv.updB (I:HInv c own S) (W:hd'.In c (cU own i)) (e:(hd'.seen i).getD i 0=cU own i i):HInv c (cU own i) (jV S i hd'):=fun a ha=>by
 by_cases h:a=i
 ·subst h;rw[iL];exact⟨W,e⟩
 ·rw[iK h];refine⟨(I a ha).1.mono (iA own i),?_⟩;rw[(I a ha).2];unfold cU;rw[if_neg h]
theorem HallS.did (L:HallS B ω g c hs fp S) (hi:i<c) (D:Did ω (hs i) i (fp i) ω' hd'):∃ fp',HallS B ω' g c hs fp' (jV S i hd'):=by
 obtain⟨fi,H',K,F⟩:=D;refine⟨fun j=>if j=i then fi else fp j,⟨?_,fun j hj=> ?_,fun a ha b hb hne n hn=> ?_,fun j hj=> ?_,fun j hj n hn=> ?_,⟨ci L.bas.1 K.1,fun n hn=> ?_⟩⟩⟩
 ·rw[K.2 g (gF L.obj) (L.out i hi)];exact L.obj
 ·by_cases h:j=i
  ·subst h;rw[iL];simp only[if_pos];exact H'
  ·rw[iK h];simp only[if_neg h];exact(L.hand j hj).mono fun n hn=>K.2 n ((L.hand j hj).lt n hn) fun z=>L.apart j hj i hi h n hn z
 ·by_cases h1:a=i
  ·simp only[if_pos h1] at hn
   by_cases h2:b=i
   ·exact absurd (h1.trans h2.symm) hne
   ·simp only[if_neg h2];intro z;rcases F n hn with q|q
    ·exact L.apart i hi b hb (fun w=>h2 w.symm) n q z
    ·have:=(L.hand b hb).lt n z
     omega
  ·simp only[if_neg h1] at hn
   by_cases h2:b=i
   ·simp only[if_pos h2];intro z;rcases F n z with q|q
    ·exact L.apart a ha i hi h1 n hn q
    ·have:=(L.hand a ha).lt n hn
     omega
   ·simp only[if_neg h2];exact L.apart a ha b hb hne n hn
 ·by_cases h:j=i
  ·simp only[if_pos h];intro z;rcases F g z with q|q
   ·exact L.out i hi q
   ·have:=gF L.obj
    omega
  ·simp only[if_neg h];exact L.out j hj
 ·by_cases h:j=i
  ·simp only[if_pos h] at hn;rcases F n hn with q|q
   ·exact L.low i hi n q
   ·exact ci L.bas.1 q
  ·simp only[if_neg h] at hn;exact L.low j hj n hn
 ·rw[K.2 n (bx hn L.bas.1) fun z=>absurd hn (si.mpr (L.low i hi n z))];exact L.bas.2 n hn
end
section
variable {α β:Type}{f h fo:OG D}{fl:OG (List D)}{ρ:Rho}{ω ω1 ω2 ω3:Om}{a b d:D}{ds:List D}{F G:OS}{x:Nat}{r:Rz D}
theorem GI {f:OG α}{g:α->OG β} (e:f ρ ω=we (.ex x,ω1)):oB f g ρ ω=we (.ex x,ω1):=by unfold oB;rw[e]
theorem yZ (e:fo ρ ω=we (.ex x,ω1)):bC c m φ fo fl ρ ω=we (.ex x,ω1):=GI e
theorem wH (e:f ρ ω=we (.ex x,ω1)):aC f fl ρ ω=we (.ex x,ω1):=GI e
theorem Ea (e1:f ρ ω=we (.ok a,ω1)) (e2:fl ρ ω1=we (.ex x,ω2)):aC f fl ρ ω=we (.ex x,ω2):=by
 unfold aC;rw[bA e1,GI e2]
theorem Nv (e:fl ρ ω=we (.ex x,ω1)):oL g fl ρ ω=we (.ex x,ω1):=GI e
theorem DX {f:OG α} (e:f ρ ω=we (.ex x,ω1)):oX f g ρ ω=we (.ex x,ω1):=by unfold oX;rw[e]
noncomputable def LW:Rz D->OOut
 |.ok d=>.rt d
 |.ex c=>.ex c
theorem iM (e:f ρ ω=we (r,ω1)):aU f ρ ω=we (LW r,ω1):=by
 cases r with
 |ok d=>exact bB e
 |ex c=>exact DX e
theorem yO (e:F ρ ω=we (LW r,ω1)):aG F G ρ ω=we (LW r,ω1):=by
 unfold aG;rw[e];cases r <;> rfl
theorem dU (hl:ds.length=n) (e:G (cI N ds) ω=we (LW r,ω1)):dW n N G ds ω=we (r,ω1):=by
 unfold dW;rw[if_pos hl,e];cases r <;> rfl
end
section
variable {B:Om}{c g i j:Nat}{own:Nat->Nat}{S:Nat->Hd}{ω ω':Om}{hs:Nat->Nat}{fp:Nat->List Nat}{hd':Hd}
theorem pA (L:HallS B ω g c hs fp S) (ef:f ρ ω=we (.ok (.obj g),ω)):fS 1 "hands" f ρ ω=we (.ok (.lst ((bq c).map fun i=>.obj (hs i))),ω):=fO ef L.obj rfl
theorem lD (L:HallS B ω g c hs fp S) (a:Int):bG [.obj g,.int a] ω=if 0<=a/\a<c then we (.ok (.obj (hs a.toNat)),ω) else we (.ex 0,ω):=by
 have len:oL cJ (aC (fS 1 "hands" (zV 0)) aJ) [we (.obj g),we (.int a)] ω=we (.ok (.int c),ω):=dE (aA (pA L (aB rfl)) aD) (by
  show we (D.int (((bq c).map fun i=>D.obj (hs i)).length:Nat),ω)=_;rw[av,iy])
 have ch:iP gLe gLt (zI 0) (zV 1) (oL cJ (aC (fS 1 "hands" (zV 0)) aJ)) [we (.obj g),we (.int a)] ω=we (.ok (decide (0<=a/\a<c)),ω):=by
  unfold iP;rw[bA aW,bA (aB (d:=.int a) rfl)]
  show(match we (decide (0<=a)) with
   |none=>wf
   |some true=>oB _ (fun z _ ω=>oR (pu ((gLt (.int a) z).bind toB) ω)) [we (.obj g),we (.int a)] ω
   |some false=>we (Rz.ok false,ω))=_
  by_cases h0:0<=a
  ·rw[decide_eq_true h0];show oB _ (fun z _ ω=>oR (pu ((gLt (.int a) z).bind toB) ω)) [we (.obj g),we (.int a)] ω=_;rw[bA len];show we (Rz.ok (decide (a<(c:Int))),ω)=_;simp[h0]
  ·rw[decide_eq_false h0];simp[h0]
 have nt:gQ (iP gLe gLt (zI 0) (zV 1) (oL cJ (aC (fS 1 "hands" (zV 0)) aJ))) [we (.obj g),we (.int a)] ω=we (.ok (!decide (0<=a/\a<c)),ω):=by
  unfold gQ;rw[bA ch]
 by_cases h:0<=a/\a<c
 ·rw[if_pos h];rw[decide_eq_true h] at nt;refine aV rfl ?_;unfold kG;rw[bD (ρ1:=[we (.obj g),we (.int a)]) (ω1:=ω) (by
   show dI _ _ _ [we (.obj g),we (.int a)] ω=_;rw[mR nt];rfl)]
  refine bB (aP (pA L (aB rfl)) (aB (d:=.int a) rfl) ?_);show atI ((bq c).map fun i=>D.obj (hs i)) a=_;unfold atI ixN;rw[if_pos h.1,if_pos (by rw[av,iy];exact h.2)]
  show((bq c).map fun i=>D.obj (hs i))[a.toNat]?=_
  rw[bc,fz (by omega)];rfl
 ·rw[if_neg h];rw[decide_eq_false h] at nt;refine dU (r:=.ex 0) rfl ?_;unfold kG;refine yO (r:=.ex 0) ?_;show dI _ _ _ [we (.obj g),we (.int a)] ω=_;rw[vW nt];rfl
theorem NK (h1:ρ[k]?=we (we (.int a))) (h2:ρ[l]?=we (we (.int b))):dG (o2 (mI 8) (zV k) (zV l)) ρ ω=we (.ok (decide (a=b)),ω):=cY (iQ (aB h1) (aB h2) rfl)
theorem pB (L:HallS B ω g c hs fp S) (a b:Int):bN [.obj g,.int a,.int b] ω=if(0<=a/\a<c)/\(0<=b/\b<c) then(if a=b then we (.ex 1,ω) else we (.ok (.tup [.obj (hs a.toNat),.obj (hs b.toNat)]),ω)) else we (.ex 0,ω):=by
 have ha:=lD L a;have hb:=lD L b;have m1:∀ {r:Rz D}{fa:OG D}{n:Int},bG [.obj g,.int n] ω=we (r,ω)->fa [we (.obj g),we (.int a),we (.int b),wf] ω=we (.ok (.int n),ω)->bC 1 "hand" bG (zV 0) (aC fa aJ) [we (.obj g),we (.int a),we (.int b),wf] ω=we (r,ω):=fun e q=>bP (aB rfl) L.obj rfl (aA q aD) e
 by_cases h1:0<=a/\a<c
 ·rw[if_pos h1] at ha
  by_cases h2:0<=b/\b<c
  ·rw[if_pos h2] at hb;rw[if_pos ⟨h1,h2⟩];have tup:zT (aC (bC 1 "hand" bG (zV 0) (aC (zV 1) aJ)) (aC (bC 1 "hand" bG (zV 0) (aC (zV 2) aJ)) aJ)) [we (.obj g),we (.int a),we (.int b),wf] ω=we (.ok (.tup [.obj (hs a.toNat),.obj (hs b.toNat)]),ω):=dE (aA (m1 ha (aB rfl)) (aA (m1 hb (aB rfl)) aD)) (by
    show pu (qN _) ω=_;unfold qN;rw[if_pos (by rw[b8];simp)];rfl)
   by_cases h3:a=b
   ·rw[if_pos h3];refine dU (r:=.ex 1) rfl ?_;unfold fN;refine(aO tup).trans ?_;refine yO (r:=.ex 1) ?_;rw[vW (ω1:=ω) (by rw[NK (a:=a) (b:=b) rfl rfl,decide_eq_true h3])];rfl
   ·rw[if_neg h3];refine aV rfl ?_;unfold fN;refine(aO tup).trans ?_;rw[bD (ρ1:=[we (.obj g),we (.int a),we (.int b),we (.tup [.obj (hs a.toNat),.obj (hs b.toNat)])]) (ω1:=ω) (by
     rw[mR (ω1:=ω) (by rw[NK (a:=a) (b:=b) rfl rfl,decide_eq_false h3])];rfl)]
    exact bB (aB rfl)
  ·rw[if_neg h2] at hb;rw[if_neg (fun z=>h2 z.2)];refine dU (r:=.ex 0) rfl ?_;unfold fN;refine yO (r:=.ex 0) (DX (Nv (Ea (m1 ha (aB rfl)) (wH (m1 hb (aB rfl))))))
 ·rw[if_neg h1] at ha;rw[if_neg (fun z=>h1 z.1)];refine dU (r:=.ex 0) rfl ?_;unfold fN;refine yO (r:=.ex 0) (DX (Nv (wH (m1 ha (aB rfl)))))
end
end L2.MB.Lw
end
section
namespace L2.MB.Lw
open PySem PySem.Spec PyProof.Rows L2.MB
section
variable {B:Om}{c g i j:Nat}{own:Nat->Nat}{S:Nat->Hd}{ω ω':Om}{hs:Nat->Nat}{fp:Nat->List Nat}{hd hd':Hd}
theorem Hd.In.hash (W:hd.In c own) (c8:c<=8) (ht:tot c own<64):eP (hd.kept.map (·.1))=true:=mH Ey (fun k hk=>by
 obtain⟨kv,h1,rfl⟩:=az.mp hk;obtain⟨a,b,h2,h3,h4,e⟩:=W.kk kv h1
 have:=IF own a c h2
 exact KeyIn.univ (own:=fun _=>63) ⟨a,b,by omega,h3,(by show b<=63;omega),e⟩) W.kn
theorem Hk (L:HallS B ω g c hs fp S) (I:HInv c own S) (c0:0<c) (c8:c<=8) (ht:tot c own<64) (hi:i<c) (hj:j<c) (hne:i≠j):∃ ω' fp',cE [.obj (hs i),.obj (hs j)] ω=we (.ok (.int (iG S j i)),ω')/\HallS B ω' g c hs fp' (gJ S j i)/\HInv c own (gJ S j i):=by
 have Wi:=(I i hi).1;have Wj:=(I j hj).1;have Oi:=Wi.ok c0 c8 ht;have Oj:=Wj.ok c0 c8 ht;have H0:=Wi.hear0 Wj Oi Oj hi hj;obtain⟨ω',e,D⟩:=PD (L.hand i hi) (L.hand j hj) (fun n hn=>L.apart i hi j hj hne n hn) Oi Oj hi hj (Wj.hash c8 ht) (H0.ok c0 c8 ht);obtain⟨fp',L'⟩:=L.did hi D;exact⟨ω',fp',e,L',I.upd H0.forget (Bl Wi Wj hi hj (I i hi).2)⟩
theorem QS (L:HallS B ω g c hs fp S) (I:HInv c own S) (c0:0<c) (c8:c<=8) (ht:tot c own<63) (hi:i<c) (x:Str) (v:Int):∃ ω' fp',dX [.obj (hs i),.str x,.int v] ω=we (.ok (mkD i ((S i).next i)),ω')/\HallS B ω' g c hs fp' (jV S i ((S i).put i x v))/\HInv c (cU own i) (jV S i ((S i).put i x v)):=by
 have W:=(I i hi).1;have O:=W.ok c0 c8 (by omega);obtain⟨ω',e,D⟩:=Qq (L.hand i hi) O hi x v;obtain⟨fp',L'⟩:=L.did hi D;exact⟨ω',fp',e,L',I.updB (W.put hi (I i hi).2 x v) (jM W hi (I i hi).2)⟩
theorem vN (hi:i<c) (ht:tot c own<63):tot c (cU own i)<64:=by
 rw[jC,if_pos hi];omega
theorem Lo (L:HallS B ω g c hs fp S) (I:HInv c own S) (c0:0<c) (c8:c<=8) (ht:tot c own<63) (hi:i<c) (x:Str) (v:Int):∃ ω' fp',dM [.obj (hs i),.str x,.int v] ω=we (.ok (mkD i ((S i).next i)),ω')/\HallS B ω' g c hs fp' (jV S i ((S i).change i x v))/\HInv c (cU own i) (jV S i ((S i).change i x v)):=by
 have W:=(I i hi).1;have O:=W.ok c0 c8 (by omega);have P:=W.put hi (I i hi).2 x v;have T:=P.takeOut0 (mk:=gE i ((S i).next i)) (ks:=(S i).marksK x) (lA hi (I i hi).2) (O.marksLen x) fun q hq=>(W.marks O x q hq).mono (iA own i);obtain⟨ω',e,D⟩:=Ln (L.hand i hi) O hi x v (T.ok c0 c8 (vN hi ht));obtain⟨fp',L'⟩:=L.did hi D;exact⟨ω',fp',e,L',I.updB T.forget (jM W hi (I i hi).2)⟩
theorem OF (L:HallS B ω g c hs fp S) (I:HInv c own S) (c0:0<c) (c8:c<=8) (ht:tot c own<63) (hi:i<c) (x:Str):∃ ω' fp' own',fD [.obj (hs i),.str x] ω=we (.ok ((S i).takeA x),ω')/\HallS B ω' g c hs fp' (jV S i ((S i).take i x))/\HInv c own' (jV S i ((S i).take i x))/\tot c own'<=tot c own+1:=by
 have W:=(I i hi).1;have O:=W.ok c0 c8 (by omega);have P:=W.bump hi (I i hi).2;have T:=P.takeOut0 (mk:=gE i ((S i).next i)) (ks:=(S i).marksK x) (lA hi (I i hi).2) (O.marksLen x) fun q hq=>(W.marks O x q hq).mono (iA own i);obtain⟨ω',e,D⟩:=OD (L.hand i hi) O hi x (T.ok c0 c8 (vN hi ht));obtain⟨fp',L'⟩:=L.did hi D
 by_cases hm:(S i).marksK x=[]
 ·refine⟨ω',fp',own,e,L',?_,by omega⟩
  have:(S i).take i x=S i:=by unfold Hd.take;rw[if_pos hm]
  rw[this];exact I.upd W (I i hi).2
 ·refine⟨ω',fp',cU own i,e,L',?_,by rw[jC,if_pos hi];omega⟩
  have:(S i).take i x=((S i).bump i).takeOut (gE i ((S i).next i)) ((S i).marksK x):=by unfold Hd.take;rw[if_neg hm]
  rw[this];exact I.updB T.forget (jM W hi (I i hi).2)
theorem Bi (h:ρ[2]?=we (we (.str y))):dG (o2 (mI 8) (zV 2) (zS y)) ρ ω=we (.ok true,ω):=cY (iQ (aB h) aW (by
 show pu ((eqD 8 (.str y) (.str y)).map D.bl) ω=_;rw[kH,decide_eq_true rfl];rfl))
theorem jR (h:ρ[2]?=we (we (.str x))) (hne:x≠y):dG (o2 (mI 8) (zV 2) (zS y)) ρ ω=we (.ok false,ω):=cY (iQ (aB h) aW (by
 show pu ((eqD 8 (.str x) (.str y)).map D.bl) ω=_;rw[kH,decide_eq_false hne];rfl))
theorem skip (e:t ρ ω=we (.ok false,ω)):aG (dI t F bH) G ρ ω=G ρ ω:=bD (by rw[mR e];rfl)
theorem KD (e:t ρ ω=we (.ok true,ω)) (e2:f ρ ω=we (r,ω')):aG (dI t (aU f) bH) G ρ ω=we (LW r,ω'):=yO (by rw[vW e];exact iM e2)
variable {fs:List (Str×D)}{r:Rz D}{a b v:Int}{x:Str}
theorem Bx (ho:ω[g]?=we (.ins 1 fs)) (hf:fs.lookup ("put":Str)=wf) (e:gD [.obj g,.int a,.str x,.int v] ω=we (r,ω')):jQ [.obj g,(Deed.put a x v).d] ω=we (r,ω'):=by
 refine dU rfl ?_;unfold sC;rw[aO (d:=.str "put") (aP (aB (d:=(Deed.put a x v).d) rfl) aW rfl)];exact KD (Bi rfl) (bP (aB (d:=.obj g) rfl) ho hf (aA (aP (aB (d:=(Deed.put a x v).d) rfl) aW rfl) (aA (aP (aB (d:=(Deed.put a x v).d) rfl) aW rfl) (aA (aP (aB (d:=(Deed.put a x v).d) rfl) aW rfl) aD))) e)
theorem pI (ho:ω[g]?=we (.ins 1 fs)) (hf:fs.lookup ("change":Str)=wf) (e:dN [.obj g,.int a,.str x,.int v] ω=we (r,ω')):jQ [.obj g,(Deed.change a x v).d] ω=we (r,ω'):=by
 refine dU rfl ?_;unfold sC;rw[aO (d:=.str "change") (aP (aB (d:=(Deed.change a x v).d) rfl) aW rfl)];rw[skip (jR (x:="change") rfl (by decide))];exact KD (Bi rfl) (bP (aB (d:=.obj g) rfl) ho hf (aA (aP (aB (d:=(Deed.change a x v).d) rfl) aW rfl) (aA (aP (aB (d:=(Deed.change a x v).d) rfl) aW rfl) (aA (aP (aB (d:=(Deed.change a x v).d) rfl) aW rfl) aD))) e)
theorem xJ (ho:ω[g]?=we (.ins 1 fs)) (hf:fs.lookup ("take":Str)=wf) (e:fF [.obj g,.int a,.str x] ω=we (r,ω')):jQ [.obj g,(Deed.take a x).d] ω=we (r,ω'):=by
 refine dU rfl ?_;unfold sC;rw[aO (d:=.str "take") (aP (aB (d:=(Deed.take a x).d) rfl) aW rfl)];rw[skip (jR (x:="take") rfl (by decide)),skip (jR (x:="take") rfl (by decide))];exact KD (Bi rfl) (bP (aB (d:=.obj g) rfl) ho hf (aA (aP (aB (d:=(Deed.take a x).d) rfl) aW rfl) (aA (aP (aB (d:=(Deed.take a x).d) rfl) aW rfl) aD)) e)
theorem pG (ho:ω[g]?=we (.ins 1 fs)) (hf:fs.lookup ("tell":Str)=wf) (e:fE [.obj g,.int a,.int b] ω=we (r,ω')):jQ [.obj g,(Deed.tell a b).d] ω=we (r,ω'):=by
 refine dU rfl ?_;unfold sC;rw[aO (d:=.str "tell") (aP (aB (d:=(Deed.tell a b).d) rfl) aW rfl)];rw[skip (jR (x:="tell") rfl (by decide)),skip (jR (x:="tell") rfl (by decide)),skip (jR (x:="tell") rfl (by decide))];exact KD (Bi rfl) (bP (aB (d:=.obj g) rfl) ho hf (aA (aP (aB (d:=(Deed.tell a b).d) rfl) aW rfl) (aA (aP (aB (d:=(Deed.tell a b).d) rfl) aW rfl) aD)) e)
theorem pH (ho:ω[g]?=we (.ins 1 fs)) (hf:fs.lookup ("meet":Str)=wf) (e:fG [.obj g,.int a,.int b] ω=we (r,ω')):jQ [.obj g,(Deed.meet a b).d] ω=we (r,ω'):=by
 refine dU rfl ?_;unfold sC;rw[aO (d:=.str "meet") (aP (aB (d:=(Deed.meet a b).d) rfl) aW rfl)];rw[skip (jR (x:="meet") rfl (by decide)),skip (jR (x:="meet") rfl (by decide)),skip (jR (x:="meet") rfl (by decide)),skip (jR (x:="meet") rfl (by decide))];exact iM (bP (aB (d:=.obj g) rfl) ho hf (aA (aP (aB (d:=(Deed.meet a b).d) rfl) aW rfl) (aA (aP (aB (d:=(Deed.meet a b).d) rfl) aW rfl) aD)) e)
theorem HallS.handObj (L:HallS B ω g c hs fp S) (hi:i<c):∃ fs,ω[hs i]?=we (.ins 0 fs)/\fs.lookup ("put":Str)=wf/\fs.lookup ("change":Str)=wf/\fs.lookup ("take":Str)=wf/\fs.lookup ("hear":Str)=wf:=by
 obtain⟨k,t,e,h⟩:=(L.hand i hi).obj;exact⟨_,h,rfl,rfl,rfl,rfl⟩
theorem KH (L:HallS B ω g c hs fp S) (ef:f ρ ω=we (.ok (.obj g),ω)) (ea:fa ρ ω=we (.ok (.int a),ω)) (h:0<=a/\a<c):bC 1 "hand" bG f (aC fa aJ) ρ ω=we (.ok (.obj (hs a.toNat)),ω):=bP ef L.obj rfl (aA ea aD) (by rw[lD L a,if_pos h])
theorem KG (L:HallS B ω g c hs fp S) (ef:f ρ ω=we (.ok (.obj g),ω)) (ea:fa ρ ω=we (.ok (.int a),ω)) (h:¬(0<=a/\a<c)):bC 1 "hand" bG f (aC fa aJ) ρ ω=we (.ex 0,ω):=bP ef L.obj rfl (aA ea aD) (by rw[lD L a,if_neg h])
theorem Hl (L:HallS B ω g c hs fp S) (h:0<=a/\a<c) (e:dX [.obj (hs a.toNat),.str x,.int v] ω=we (r,ω')):gD [.obj g,.int a,.str x,.int v] ω=we (r,ω'):=by
 obtain⟨fs,ho,h1,_⟩:=L.handObj (i:=a.toNat) (by omega);exact dU rfl (iM (bP (KH L (aB rfl) (aB rfl) h) ho h1 (aA (aB rfl) (aA (aB rfl) aD)) e))
theorem ED (L:HallS B ω g c hs fp S) (h:¬(0<=a/\a<c)):gD [.obj g,.int a,.str x,.int v] ω=we (.ex 0,ω):=dU (r:=.ex 0) rfl (iM (yZ (KG (a:=a) L (aB rfl) (aB rfl) h)))
theorem zK (L:HallS B ω g c hs fp S) (h:0<=a/\a<c) (e:dM [.obj (hs a.toNat),.str x,.int v] ω=we (r,ω')):dN [.obj g,.int a,.str x,.int v] ω=we (r,ω'):=by
 obtain⟨fs,ho,_,h1,_⟩:=L.handObj (i:=a.toNat) (by omega);exact dU rfl (iM (bP (KH L (aB rfl) (aB rfl) h) ho h1 (aA (aB rfl) (aA (aB rfl) aD)) e))
theorem wY (L:HallS B ω g c hs fp S) (h:¬(0<=a/\a<c)):dN [.obj g,.int a,.str x,.int v] ω=we (.ex 0,ω):=dU (r:=.ex 0) rfl (iM (yZ (KG (a:=a) L (aB rfl) (aB rfl) h)))
theorem EC (L:HallS B ω g c hs fp S) (h:0<=a/\a<c) (e:fD [.obj (hs a.toNat),.str x] ω=we (r,ω')):fF [.obj g,.int a,.str x] ω=we (r,ω'):=by
 obtain⟨fs,ho,_,_,h1,_⟩:=L.handObj (i:=a.toNat) (by omega);exact dU rfl (iM (bP (KH L (aB rfl) (aB rfl) h) ho h1 (aA (aB rfl) aD) e))
theorem Cp (L:HallS B ω g c hs fp S) (h:¬(0<=a/\a<c)):fF [.obj g,.int a,.str x] ω=we (.ex 0,ω):=dU (r:=.ex 0) rfl (iM (yZ (KG (a:=a) L (aB rfl) (aB rfl) h)))
theorem Gw {p:Option (Rz D×Om)} (L:HallS B ω g c hs fp S) (ef:f ρ ω=we (.ok (.obj g),ω)) (ea:fa ρ ω=we (.ok (.int a),ω)) (eb:fb ρ ω=we (.ok (.int b),ω)) (e:bN [.obj g,.int a,.int b] ω=we (r,ω)):bC 1 "pair" bN f (aC fa (aC fb aJ)) ρ ω=we (r,ω):=bP ef L.obj rfl (aA ea (aA eb aD)) e
theorem ID (L:HallS B ω g c hs fp S) (h:(0<=a/\a<c)/\(0<=b/\b<c)) (hne:a≠b):bN [.obj g,.int a,.int b] ω=we (.ok (.tup [.obj (hs a.toNat),.obj (hs b.toNat)]),ω):=by rw[pB L,if_pos h,if_neg hne]
theorem IE (L:HallS B ω g c hs fp S) (h:(0<=a/\a<c)/\(0<=b/\b<c)) (hne:a=b):bN [.obj g,.int a,.int b] ω=we (.ex 1,ω):=by rw[pB L,if_pos h,if_pos hne]
theorem IC (L:HallS B ω g c hs fp S) (h:¬((0<=a/\a<c)/\(0<=b/\b<c))):bN [.obj g,.int a,.int b] ω=we (.ex 0,ω):=by rw[pB L,if_neg h]
theorem rZ (L:HallS B ω g c hs fp S) (e:bN [.obj g,.int a,.int b] ω=we (.ex n,ω)):fE [.obj g,.int a,.int b] ω=we (.ex n,ω):=by
 refine dU (r:=.ex n) rfl ?_;unfold kE;exact yO (r:=.ex n) (DX (Gw (p:=wf) L (aB rfl) (aB rfl) (aB rfl) e))
theorem sA (L:HallS B ω g c hs fp S) (e:bN [.obj g,.int a,.int b] ω=we (.ex n,ω)):fG [.obj g,.int a,.int b] ω=we (.ex n,ω):=by
 refine dU (r:=.ex n) rfl ?_;unfold kF;exact yO (r:=.ex n) (DX (Gw (p:=wf) L (aB rfl) (aB rfl) (aB rfl) e))
theorem EB (L:HallS B ω g c hs fp S) (h:(0<=a/\a<c)/\(0<=b/\b<c)) (hne:a≠b) (e:cE [.obj (hs b.toNat),.obj (hs a.toNat)] ω=we (r,ω')):fE [.obj g,.int a,.int b] ω=we (r,ω'):=by
 obtain⟨fs,ho,_,_,_,h1⟩:=L.handObj (i:=b.toNat) (by omega);refine dU rfl ?_;unfold kE;rw[aO (Gw (p:=wf) L (aB rfl) (aB rfl) (aB rfl) (ID L h hne))];exact iM (bP (aP (aB (d:=.tup [.obj (hs a.toNat),.obj (hs b.toNat)]) rfl) aW rfl) ho h1 (aA (aP (aB (d:=.tup [.obj (hs a.toNat),.obj (hs b.toNat)]) rfl) aW rfl) aD) e)
theorem EE (L:HallS B ω g c hs fp S) (I:HInv c own S) (c0:0<c) (c8:c<=8) (ht:tot c own<64) (h:(0<=a/\a<c)/\(0<=b/\b<c)) (hne:a≠b):∃ ω' fp',fG [.obj g,.int a,.int b] ω=we (.ok (.tup [.int (iG (gJ S a.toNat b.toNat) b.toNat a.toNat),.int (iG S a.toNat b.toNat)]),ω')/\HallS B ω' g c hs fp' (Eh S a.toNat b.toNat)/\HInv c own (Eh S a.toNat b.toNat):=by
 have ha:a.toNat<c:=by omega
 have hb:b.toNat<c:=by omega
 have hn:a.toNat≠b.toNat:=by omega
 obtain⟨ω1,fp1,e1,L1,I1⟩:=Hk L I c0 c8 ht hb ha (cy hn);obtain⟨ω2,fp2,e2,L2,I2⟩:=Hk L1 I1 c0 c8 ht ha hb hn;obtain⟨ω3,fp3,e3,L3,I3⟩:=Hk L2 I2 c0 c8 ht hb ha (cy hn);refine⟨ω3,fp3,?_,L3,I3⟩;obtain⟨fs0,ho0,_,_,_,h0⟩:=L.handObj hb;obtain⟨fs1,ho1,_,_,_,h1⟩:=L1.handObj ha;obtain⟨fs2,ho2,_,_,_,h2⟩:=L2.handObj hb;refine aV rfl ?_;unfold kF;rw[aO (Gw (p:=wf) L (aB rfl) (aB rfl) (aB rfl) (ID L h hne))];rw[aO (bP (aP (aB (d:=.tup [.obj (hs a.toNat),.obj (hs b.toNat)]) rfl) aW rfl) ho0 h0 (aA (aP (aB (d:=.tup [.obj (hs a.toNat),.obj (hs b.toNat)]) rfl) aW rfl) aD) e1)];rw[aO (d:=.tup [.int (iG (gJ S a.toNat b.toNat) b.toNat a.toNat),.int (iG S a.toNat b.toNat)]) (ω1:=ω2) (dE (aA (bP (aP (aB (d:=.tup [.obj (hs a.toNat),.obj (hs b.toNat)]) rfl) aW rfl) ho1 h1 (aA (aP (aB (d:=.tup [.obj (hs a.toNat),.obj (hs b.toNat)]) rfl) aW rfl) aD) e2) (aA (aB (d:=.int (iG S a.toNat b.toNat)) rfl) aD)) (by
  show pu (qN _) ω2=_;unfold qN;rw[if_pos (by rw[b8];simp)];rfl))]
 rw[bD (ω1:=ω3) (by
  unfold bX;rw[bR (bP (aP (aB (d:=.tup [.obj (hs a.toNat),.obj (hs b.toNat)]) rfl) aW rfl) ho2 h2 (aA (aP (aB (d:=.tup [.obj (hs a.toNat),.obj (hs b.toNat)]) rfl) aW rfl) aD) e3)])]
 exact bB (aB rfl)
theorem vK (e:jQ [.obj g,d] ω=we (.ok y,ω')):bU [.obj g,d] ω=we (.ok y,ω'):=aV rfl (by
 unfold gS vV;rw[bB (aR (aA (aB rfl) (aA (aB rfl) aD)) e)])
theorem Da (e:jQ [.obj g,d] ω=we (.ex 0,ω')):bU [.obj g,d] ω=we (.ok (.str "no hand"),ω'):=aV rfl (by
 unfold gS vV;rw[iM (r:=.ex 0) (aR (aA (aB rfl) (aA (aB rfl) aD)) e)];rfl)
theorem LJ (e:jQ [.obj g,d] ω=we (.ex 1,ω')):bU [.obj g,d] ω=we (.ok (.str "same hand"),ω'):=aV rfl (by
 unfold gS vV;rw[iM (r:=.ex 1) (aR (aA (aB rfl) (aA (aB rfl) aD)) e)];rfl)
theorem xY (L:HallS B ω g c hs fp S) (I:HInv c own S) (c0:0<c) (c8:c<=8) (ht:tot c own<63) (d:Deed):∃ ω' fp' own',bU [.obj g,d.d] ω=we (.ok (step c S d).1,ω')/\HallS B ω' g c hs fp' (step c S d).2/\HInv c own' (step c S d).2/\tot c own'<=tot c own+1:=by
 cases d with
 |put a x v=>
  show ∃ ω' fp' own',_=we (Rz.ok (if 0<=a/\a<(c:Int) then(_,_) else(_,_):D×(Nat->Hd)).1,ω')/\HallS B ω' g c hs fp' (if 0<=a/\a<(c:Int) then(_,_) else(_,_):D×(Nat->Hd)).2/\HInv c own' (if 0<=a/\a<(c:Int) then(_,_) else(_,_):D×(Nat->Hd)).2/\_
  by_cases h:0<=a/\a<c
  ·rw[if_pos h];obtain⟨ω',fp',e,L',I'⟩:=QS L I c0 c8 ht (i:=a.toNat) (by omega) x v;exact⟨ω',fp',_,vK (Bx L.obj rfl (Hl L h e)),L',I',by rw[jC,if_pos (by omega)];omega⟩
  ·rw[if_neg h];exact⟨ω,fp,own,Da (Bx L.obj rfl (ED L h)),L,I,by omega⟩
 |change a x v=>
  show ∃ ω' fp' own',_=we (Rz.ok (if 0<=a/\a<(c:Int) then(_,_) else(_,_):D×(Nat->Hd)).1,ω')/\HallS B ω' g c hs fp' (if 0<=a/\a<(c:Int) then(_,_) else(_,_):D×(Nat->Hd)).2/\HInv c own' (if 0<=a/\a<(c:Int) then(_,_) else(_,_):D×(Nat->Hd)).2/\_
  by_cases h:0<=a/\a<c
  ·rw[if_pos h];obtain⟨ω',fp',e,L',I'⟩:=Lo L I c0 c8 ht (i:=a.toNat) (by omega) x v;exact⟨ω',fp',_,vK (pI L.obj rfl (zK L h e)),L',I',by rw[jC,if_pos (by omega)];omega⟩
  ·rw[if_neg h];exact⟨ω,fp,own,Da (pI L.obj rfl (wY L h)),L,I,by omega⟩
 |take a x=>
  show ∃ ω' fp' own',_=we (Rz.ok (if 0<=a/\a<(c:Int) then(_,_) else(_,_):D×(Nat->Hd)).1,ω')/\HallS B ω' g c hs fp' (if 0<=a/\a<(c:Int) then(_,_) else(_,_):D×(Nat->Hd)).2/\HInv c own' (if 0<=a/\a<(c:Int) then(_,_) else(_,_):D×(Nat->Hd)).2/\_
  by_cases h:0<=a/\a<c
  ·rw[if_pos h];obtain⟨ω',fp',own',e,L',I',t'⟩:=OF L I c0 c8 ht (i:=a.toNat) (by omega) x;exact⟨ω',fp',own',vK (xJ L.obj rfl (EC L h e)),L',I',t'⟩
  ·rw[if_neg h];exact⟨ω,fp,own,Da (xJ L.obj rfl (Cp L h)),L,I,by omega⟩
 |tell a b=>
  show ∃ ω' fp' own',_=we (Rz.ok (if(0<=a/\a<(c:Int))/\(0<=b/\b<(c:Int)) then(if a=b then(_,_) else(_,_)) else(_,_):D×(Nat->Hd)).1,ω')/\HallS B ω' g c hs fp' (if(0<=a/\a<(c:Int))/\(0<=b/\b<(c:Int)) then(if a=b then(_,_) else(_,_)) else(_,_):D×(Nat->Hd)).2/\HInv c own' (if(0<=a/\a<(c:Int))/\(0<=b/\b<(c:Int)) then(if a=b then(_,_) else(_,_)) else(_,_):D×(Nat->Hd)).2/\_
  by_cases h:(0<=a/\a<(c:Int))/\(0<=b/\b<(c:Int))
  ·rw[if_pos h]
   by_cases hab:a=b
   ·rw[if_pos hab];exact⟨ω,fp,own,LJ (pG L.obj rfl (rZ L (IE L h hab))),L,I,by omega⟩
   ·rw[if_neg hab];obtain⟨ω',fp',e,L',I'⟩:=Hk L I c0 c8 (by omega) (i:=b.toNat) (j:=a.toNat) (by omega) (by omega) (by omega);exact⟨ω',fp',own,vK (pG L.obj rfl (EB L h hab e)),L',I',by omega⟩
  ·rw[if_neg h];exact⟨ω,fp,own,Da (pG L.obj rfl (rZ L (IC L h))),L,I,by omega⟩
 |meet a b=>
  show ∃ ω' fp' own',_=we (Rz.ok (if(0<=a/\a<(c:Int))/\(0<=b/\b<(c:Int)) then(if a=b then(_,_) else(_,_)) else(_,_):D×(Nat->Hd)).1,ω')/\HallS B ω' g c hs fp' (if(0<=a/\a<(c:Int))/\(0<=b/\b<(c:Int)) then(if a=b then(_,_) else(_,_)) else(_,_):D×(Nat->Hd)).2/\HInv c own' (if(0<=a/\a<(c:Int))/\(0<=b/\b<(c:Int)) then(if a=b then(_,_) else(_,_)) else(_,_):D×(Nat->Hd)).2/\_
  by_cases h:(0<=a/\a<(c:Int))/\(0<=b/\b<(c:Int))
  ·rw[if_pos h]
   by_cases hab:a=b
   ·rw[if_pos hab];exact⟨ω,fp,own,LJ (pH L.obj rfl (sA L (IE L h hab))),L,I,by omega⟩
   ·rw[if_neg hab];obtain⟨ω',fp',e,L',I'⟩:=EE L I c0 c8 (by omega) h hab;exact⟨ω',fp',own,vK (pH L.obj rfl e),L',I',by omega⟩
  ·rw[if_neg h];exact⟨ω,fp,own,Da (pH L.obj rfl (sA L (IC L h))),L,I,by omega⟩
end
noncomputable def Pl:Nat->D->Prop
 |_,.non=>True
 |_,.bl _=>True
 |_,.int _=>True
 |_,.str _=>True
 |n+1,.lst ds=>ds.length<=1000/\∀ d∈ds,Pl n d
 |n+1,.tup ds=>ds.length<=1000/\∀ d∈ds,Pl n d
 |_,_=>False
theorem Pl.int (n:Nat) (i:Int):Pl n (.int i):=by cases n <;> trivial
theorem Pl.str (n:Nat) (x:Str):Pl n (.str x):=by cases n <;> trivial
theorem Pl.non (n:Nat):Pl n .non:=by cases n <;> trivial
theorem Pl.tup2 (h1:Pl n a) (h2:Pl n b):Pl (n+1) (.tup [a,b]):=⟨by simp,fun d hd=>by
 simp only[ak,cm,or_false] at hd;rcases hd with rfl|rfl
 ·exact h1
 ·exact h2⟩
theorem Pl.mkD (n i:Nat) (b:Int):Pl (n+1) (mkD i b):=Pl.tup2 (Pl.int _ _) (Pl.int _ _)
theorem Pl.key (h:KeyIn c own k) (n:Nat):Pl (n+1) (bZ k):=by
 obtain⟨a,b,_,_,_,rfl⟩:=h;exact Pl.tup2 (Pl.int _ _) (Pl.int _ _)
theorem Pl.keys {ks:List (List Key)} (hl:ks.length<64) (h:∀ q∈ks,KeyIn c own q):Pl (n+2) (.lst (ks.map bZ)):=⟨by rw[av];omega,fun d hd=>by
 obtain⟨q,hq,rfl⟩:=az.mp hd;exact Pl.key (h q hq) n⟩
theorem Jd (I:HInv c own S) (c0:0<c) (c8:c<=8) (ht:tot c own<64) (d:Deed):Pl 2 (step c S d).1:=by
 cases d with
 |put a x v=>
  show Pl 2 (if 0<=a/\a<(c:Int) then(_,_) else(_,_):D×(Nat->Hd)).1;split
  ·exact Pl.mkD 1 _ _
  ·exact Pl.str _ _
 |change a x v=>
  show Pl 2 (if 0<=a/\a<(c:Int) then(_,_) else(_,_):D×(Nat->Hd)).1;split
  ·exact Pl.mkD 1 _ _
  ·exact Pl.str _ _
 |take a x=>
  show Pl 2 (if 0<=a/\a<(c:Int) then(_,_) else(_,_):D×(Nat->Hd)).1;split
  ·rename_i h
   show Pl 2 ((S a.toNat).takeA x);unfold Hd.takeA;split
   ·exact Pl.non _
   ·have W:=(I a.toNat (by omega)).1;have O:=W.ok c0 c8 ht;exact Pl.keys (O.marksLen x) (W.marks O x)
  ·exact Pl.str _ _
 |tell a b=>
  show Pl 2 (if(0<=a/\a<(c:Int))/\(0<=b/\b<(c:Int)) then(if a=b then(_,_) else(_,_)) else(_,_):D×(Nat->Hd)).1;split
  ·split
   ·exact Pl.str _ _
   ·exact Pl.int _ _
  ·exact Pl.str _ _
 |meet a b=>
  show Pl 2 (if(0<=a/\a<(c:Int))/\(0<=b/\b<(c:Int)) then(if a=b then(_,_) else(_,_)) else(_,_):D×(Nat->Hd)).1;split
  ·split
   ·exact Pl.str _ _
   ·exact Pl.tup2 (Pl.int _ _) (Pl.int _ _)
  ·exact Pl.str _ _
noncomputable def vD (c:Nat):List Deed->(Nat->Hd)->List D×(Nat->Hd)
 |[],S=>([],S)
 |d::r,S=>((step c S d).1::(vD c r (step c S d).2).1,(vD c r (step c S d).2).2)
noncomputable def kM (c:Nat) (ds:List Deed):List D:=(vD c ds fun _=>Hd0 c).1
noncomputable def bV (c:Nat) (ds:List Deed):Nat->Hd:=(vD c ds fun _=>Hd0 c).2
theorem tF (c:Nat):∀(ds:List Deed) (S:Nat->Hd),(vD c ds S).1.length=ds.length
 |[],_=>rfl
 |d::r,S=>by
  show((step c S d).1::(vD c r (step c S d).2).1).length=_
  rw[bv,bv,tF c r]
section
variable {B:Om}{c g i j:Nat}{own:Nat->Nat}{S:Nat->Hd}{ω ω':Om}{hs:Nat->Nat}{fp:Nat->List Nat}
theorem Ir (c:Nat):HInv c (fun _=>0) (fun _=>Hd0 c):=fun a ha=>by
 have hz:∀ n m:Nat,(ax n (0:Int)).getD m 0=0:=fun n m=>by
  rw[am,ee];split <;> rfl
 refine⟨⟨by simp[Hd0],fun xs hx=> ?_,fun xs hx b hb=> ?_,fun kv h=>by simp[Hd0] at h,by simp[Hd0],fun kv h=>by simp[Hd0] at h,fun kv h=>by simp[Hd0] at h,by simp[Hd0]⟩,?_⟩
 ·rw[(ur.mp hx).2,jg]
 ·rw[(ur.mp hx).2,hz];exact⟨k9 _,k9 _⟩
 ·show((ax c (ax c (0:Int))).getD a []).getD a 0=0
  have e1:(ax c (ax c (0:Int))).getD a []=ax c 0:=by
   rw[am,ee,if_pos ha];rfl
  rw[e1];exact hz c a
theorem LK:∀ c,tot c (fun _=>0)=0
 |0=>rfl
 |c+1=>by
  have ih:=LK c;unfold tot at ih ⊢;rw[qr,dr,oj,ih];rfl
theorem mO (c0:0<c) (c8:c<=8):∀(ds:List Deed) {u:Option D}{S:Nat->Hd}{ω:Om}{fp:Nat->List Nat}{own:Nat->Nat},HallS B ω g c hs fp S->HInv c own S->tot c own+ds.length<64->∃ ω' fp' own',compLO (aY 0) bO (oPT jN) (bE bU (aC (zV 1) (aC (zV 0) aJ))) (ds.map Deed.d) [u,we (.obj g)] ω=we ((vD c ds S).1,ω')/\HallS B ω' g c hs fp' (vD c ds S).2/\HInv c own' (vD c ds S).2/\tot c own'<64/\∀ x∈(vD c ds S).1,Pl 2 x
 |[],u,S,ω,fp,own,L,I,ht=>⟨ω,fp,own,rfl,L,I,by simpa using ht,fun x hx=>by simp[vD] at hx⟩
 |d::ds,u,S,ω,fp,own,L,I,ht=>by
  rw[bv] at ht;obtain⟨ω1,fp1,own1,e1,L1,I1,t1⟩:=xY L I c0 c8 (by omega) d;obtain⟨ω2,fp2,own2,e2,L2,I2,t2,p2⟩:=mO c0 c8 ds (u:=we d.d) L1 I1 (by omega);refine⟨ω2,fp2,own2,?_,L2,I2,t2,fun x hx=> ?_⟩
  rotate_left
  ·rcases ak.mp (show x∈(step c S d).1::(vD c ds (step c S d).2).1 from hx) with z|z
   ·rw[z];exact Jd I c0 c8 (by omega) d
   ·exact p2 x z
  show(match bE bU (aC (zV 1) (aC (zV 0) aJ)) [we d.d,we (.obj g)] ω with
   |some (.ok y,ω2)=>(compLO (aY 0) bO (oPT jN) (bE bU (aC (zV 1) (aC (zV 0) aJ))) (ds.map Deed.d) [we d.d,we (.obj g)] ω2).map fun r:List D×Om=>(y::r.1,r.2)
   |_=>wf)=_
  rw[aR (aA (aB rfl) (aA (aB rfl) aD)) e1]
  show(compLO _ _ _ _ _ _ _).map _=_
  rw[e2];rfl
theorem sS (c0:0<c) (c8:c<=8):∀(ds:List Deed) {u:Option D}{S:Nat->Hd}{ω:Om}{fp:Nat->List Nat}{own:Nat->Nat},HallS B ω g c hs fp S->HInv c own S->tot c own+ds.length<64->∃ v ω' fp' own',bY (aY 3) bO eA (ds.map Deed.d) [we n,we l,we (.obj g),u] ω=we (.nx [we n,we l,we (.obj g),v],ω')/\HallS B ω' g c hs fp' (vD c ds S).2/\HInv c own' (vD c ds S).2/\tot c own'<64
 |[],u,S,ω,fp,own,L,I,ht=>⟨u,ω,fp,own,rfl,L,I,by simpa using ht⟩
 |d::ds,u,S,ω,fp,own,L,I,ht=>by
  rw[bv] at ht;obtain⟨ω1,fp1,own1,e1,L1,I1,t1⟩:=xY L I c0 c8 (by omega) d;obtain⟨v,ω2,fp2,own2,e2,L2,I2,t2⟩:=sS c0 c8 ds (u:=we d.d) L1 I1 (by omega);refine⟨v,ω2,fp2,own2,?_,L2,I2,t2⟩;have b1:eA [we n,we l,we (.obj g),we d.d] ω=we (.nx [we n,we l,we (.obj g),we d.d],ω1):=by
   unfold eA bX;rw[bR (aR (aA (aB (d:=.obj g) rfl) (aA (aB (d:=d.d) rfl) aD)) e1)]
  show(match eA [we n,we l,we (.obj g),we d.d] ω with
   |none=>wf
   |some (.nx ρ2,ω2)=>bY (aY 3) bO eA (ds.map Deed.d) ρ2 ω2
   |some (.ct ρ2,ω2)=>bY (aY 3) bO eA (ds.map Deed.d) ρ2 ω2
   |some (.bk ρ2,ω2)=>we (.nx ρ2,ω2)
   |some (.rt d,ω2)=>we (.rt d,ω2)
   |some (.ex _,_)=>wf)=_
  rw[b1];exact e2
theorem sL:∀ {l:List Nat}{u:Option D},(∀ i∈l,F [we (.obj (hs i))] ω=we (.ok (R i),ω))->compLO (aY 0) bO (oPT jN) F (l.map fun i=>.obj (hs i)) [u] ω=we (l.map R,ω)
 |[],u,_=>rfl
 |i::l,u,h=>by
  have ih:=sL (F:=F) (R:=R) (l:=l) (u:=we (.obj (hs i))) fun j hj=>h j (aj _ hj)
  show(match F [we (.obj (hs i))] ω with
   |some (.ok y,ω2)=>(compLO (aY 0) bO (oPT jN) F (l.map fun i=>.obj (hs i)) [we (.obj (hs i))] ω2).map fun r:List D×Om=>(y::r.1,r.2)
   |_=>wf)=_
  rw[h i au]
  show(compLO _ _ _ _ _ _ _).map _=_
  rw[ih];rfl
theorem lL (L:HallS B ω g c hs fp S) (c8:c<=8) (ef:f ρ ω=we (.ok (.obj g),ω)) (h:∀ i,i<c->F [we (.obj (hs i))] ω=we (.ok (R i),ω)):dO yE (oIL (fS 1 "hands" f)) [wf] (aY 0) (oPT jN) F ρ ω=we (.ok (.lst ((bq c).map R)),ω):=by
 refine gA (ds:=(bq c).map fun i=>.obj (hs i)) (chk:=bO) (ω1:=ω) ?_ (by rw[av,iy,b8];omega) (sL fun i hi=>h i (c5.mp hi));unfold oIL;rw[bA (pA L ef)];rfl
noncomputable def gL (c:Nat) (S:Nat->Hd):D:=.lst ((bq c).map fun i=>.lst (S i).ents)
noncomputable def vE (c:Nat) (S:Nat->Hd):D:=.lst ((bq c).map fun i=>.lst (iv ((S i).seen i)))
noncomputable def Gf (c:Nat) (S:Nat->Hd):D:=.lst ((bq c).map fun i=>.lst ((S i).knows.map fun xs=>.lst (iv xs)))
noncomputable def Ge (c:Nat) (S:Nat->Hd):D:=.lst ((bq c).map fun i=>.lst (S i).mind)
theorem Il (c0:0<c) (c8:c<=8) (hl:ds.length<64) (ω:Om):∃ ω',yU [.int c,.lst (ds.map Deed.d)] ω=we (.ok (.tup [gL c (bV c ds),vE c (bV c ds),Gf c (bV c ds),Ge c (bV c ds)]),ω')/\Keep [] ω ω'/\∃ own,HInv c own (bV c ds)/\tot c own<64:=by
 obtain⟨ω1,hs,fp,e1,L1⟩:=wX (ω:=ω) c8 (fl:=aC (zV 0) aJ) (ρ:=cI FN [.int c,.lst (ds.map Deed.d)]) (aA (aB rfl) aD);obtain⟨v,ω2,fp2,own2,e2,L2,I2,t2⟩:=sS c0 c8 (n:=.int c) (l:=.lst (ds.map Deed.d)) ds (u:=wf) L1 (Ir c) (by rw[LK];omega);refine⟨ω2,?_,⟨L2.bas.1,fun n hn _=>L2.bas.2 n hn⟩,own2,I2,t2⟩;refine aV rfl ?_;unfold EI;rw[aO e1];rw[bD (dS (by
  unfold bF oIL;rw[bR (x:=(ds.map Deed.d,bO)) (ω1:=ω1) (by rw[bA (aB (d:=.lst (ds.map Deed.d)) rfl)];rfl)];exact e2))]
 have K:∀ i,i<c->(bV c ds i).Ok c:=fun i hi=>(I2 i hi).1.ok c0 c8 t2;have a1:=lL (ρ:=[we (.int c),we (.lst (ds.map Deed.d)),we (.obj ω.length),v]) (F:=bC 0 "entries" bL (zV 0) aJ) (R:=fun i=>.lst (bV c ds i).ents) (f:=zV 2) L2 c8 (aB rfl) fun i hi=>by
  obtain⟨k,t,e,rs,H,_⟩:=L2.hand i hi;exact bS (aB rfl) H.obj rfl (jJ H (K i hi).ents.1)
 have a2:=lL (ρ:=[we (.int c),we (.lst (ds.map Deed.d)),we (.obj ω.length),v]) (F:=oL gH (aC (bC 0 "seen" bM (zV 0) aJ) aJ)) (R:=fun i=>.lst (iv ((bV c ds i).seen i))) (f:=zV 2) L2 c8 (aB rfl) fun i hi=>by
  obtain⟨k,t,e,rs,H,_⟩:=L2.hand i hi;exact FX H (Nat.lt_of_lt_of_eq hi (K i hi).len.symm) (aB rfl)
 have a3:=lL (ρ:=[we (.int c),we (.lst (ds.map Deed.d)),we (.obj ω.length),v]) (F:=bC 0 "known" fU (zV 0) aJ) (R:=fun i=>.lst ((bV c ds i).knows.map fun xs=>.lst (iv xs))) (f:=zV 2) L2 c8 (aB rfl) fun i hi=>by
  obtain⟨k,t,e,rs,H,_⟩:=L2.hand i hi;exact bS (aB rfl) H.obj rfl (GW H (by rw[H.rows.length];have:=(K i hi).len;unfold bV at this;rw[this,b8];omega))
 have a4:=lL (ρ:=[we (.int c),we (.lst (ds.map Deed.d)),we (.obj ω.length),v]) (F:=bC 0 "in_mind" eD (zV 0) aJ) (R:=fun i=>.lst (bV c ds i).mind) (f:=zV 2) L2 c8 (aB rfl) fun i hi=>by
  obtain⟨k,t,e,rs,H,_⟩:=L2.hand i hi;exact bS (aB rfl) H.obj rfl (Co H (K i hi) (I2 i hi).1)
 refine bB (dE (aA a1 (aA a2 (aA a3 (aA a4 aD)))) ?_);show pu (qN _) ω2=_;unfold qN;rw[if_pos (by rw[b8];simp)];rfl
end
section
variable {B:Om}{c g i j:Nat}{own:Nat->Nat}{S:Nat->Hd}{ω ω':Om}{hs:Nat->Nat}{fp:Nat->List Nat}
theorem sR (c0:0<c) (c8:c<=8) {ds:List Deed} (hl:ds.length<64) (ω:Om):∃ ω',kW [.int c,.lst (ds.map Deed.d)] ω=we (.ok (.lst (kM c ds)),ω')/\Keep [] ω ω'/\∀ x∈kM c ds,Pl 2 x:=by
 obtain⟨ω1,hs,fp,e1,L1⟩:=wX (ω:=ω) c8 (fl:=aC (zV 0) aJ) (ρ:=cI yA [.int c,.lst (ds.map Deed.d)]) (aA (aB rfl) aD);obtain⟨ω2,fp2,own2,e2,L2,I2,t2,p2⟩:=mO c0 c8 ds (u:=wf) L1 (Ir c) (by rw[LK];omega);refine⟨ω2,?_,⟨L2.bas.1,fun n hn _=>L2.bas.2 n hn⟩,p2⟩;refine aV rfl ?_;unfold xA;rw[aO e1];refine bB (gA (ds:=ds.map Deed.d) (chk:=bO) (ω1:=ω1) ?_ (by rw[av,b8];omega) e2);unfold oIL;rw[bA (aB (d:=.lst (ds.map Deed.d)) rfl)];rfl
end
section
variable {c:Nat}{S S':Nat->Hd}{d x y:Deed}{a b n:Nat}
end
theorem pU:∀ {ds:List D},(∀ d∈ds,f d d=we true)->jU f ds ds=we true
 |[],_=>rfl
 |d::ds,h=>by
  show(f d d).bind _=_
  rw[h d au]
  show(jU f ds ds).map _=_
  rw[pU fun d' hd=>h d' (aj _ hd)];rfl
theorem nI:∀ {n:Nat}{d:D},Pl n d->eqD n d d=we true
 |n,.non,_=>by cases n <;> rfl
 |n,.bl b,_=>by cases n <;> cases b <;> rfl
 |n,.int i,_=>by
  have:eqD n (.int i) (.int i)=we (i==i):=by cases n <;> rfl
  rw[this];simp
 |n,.str x,_=>by
  rw[kH];simp
 |n+1,.lst ds,h=>by
  show(if ds.length=ds.length then jU (eqD n) ds ds else we false)=_
  rw[if_pos rfl];exact pU fun d hd=>nI (h.2 d hd)
 |n+1,.tup ds,h=>by
  show(jU (eqD n) ds ds).map (fun k=>k&&ds.length==ds.length)=_
  rw[pU fun d hd=>nI (h.2 d hd)];simp
 |0,.lst _,h=>h.elim
 |0,.tup _,h=>h.elim
 |0,.obj _,h=>h.elim
 |n+1,.obj _,h=>h.elim
 |0,.scr _,h=>h.elim
 |n+1,.scr _,h=>h.elim
theorem Pl.mono:∀ {n m:Nat}{d:D},Pl n d->n<=m->Pl m d
 |_,m,.non,_,_=>by cases m <;> trivial
 |_,m,.bl _,_,_=>by cases m <;> trivial
 |_,m,.int _,_,_=>by cases m <;> trivial
 |_,m,.str _,_,_=>by cases m <;> trivial
 |n+1,m+1,.lst ds,h,hm=>⟨h.1,fun d hd=>Pl.mono (h.2 d hd) (by omega)⟩
 |n+1,m+1,.tup ds,h,hm=>⟨h.1,fun d hd=>Pl.mono (h.2 d hd) (by omega)⟩
 |n+1,0,.lst ds,h,hm=>by omega
 |n+1,0,.tup ds,h,hm=>by omega
 |0,_,.lst _,h,_=>h.elim
 |0,_,.tup _,h,_=>h.elim
 |0,_,.obj _,h,_=>h.elim
 |n+1,_,.obj _,h,_=>h.elim
 |0,_,.scr _,h,_=>h.elim
 |n+1,_,.scr _,h,_=>h.elim
section
variable {ω:Om}{ρ:Rho}{f h:OG D}{d:D}
theorem cR (e:f ρ ω=we (.ok d,ω)) (h:lP T ω d=we k):iJ T f ρ ω=we (.ok (.bl k),ω):=by
 unfold iJ;rw[bA e];show oR (pu ((lP T ω d).map D.bl) ω)=_;rw[h];rfl
theorem tru_ok (e:f ρ ω=we (.ok (.bl k),ω)):fZ f ρ ω=we (.ok k,ω):=by
 unfold fZ;rw[bA e];rfl
theorem fJ (e:t ρ ω=we (.ok k,ω)):gQ t ρ ω=we (.ok (!k),ω):=by
 unfold gQ;rw[bA e]
theorem tG (e1:t ρ ω=we (.ok false,ω)) (e2:u ρ ω=we (.ok false,ω)):oOr t u ρ ω=we (.ok false,ω):=by
 unfold oOr;rw[bA e1];exact e2
theorem GP (e1:f ρ ω=we (.ok (.bl b),ω)) (e2:h ρ ω=we (.ok (.bl b),ω)):dG (o2 (zU 8) f h) ρ ω=we (.ok false,ω):=cY (iQ e1 e2 (by cases b <;> rfl))
theorem oN (e1:f ρ ω=we (.ok (.int a),ω)) (e2:h ρ ω=we (.ok (.int b),ω)) (hab:a=b):dG (o2 (zU 8) f h) ρ ω=we (.ok false,ω):=cY (iQ e1 e2 (by
 subst hab;show we (D.bl (!(a==a)),ω)=_;simp))
theorem Al {ds:List D} (hk:k<ds.length):atI ds (k:Int)=we ds[k]:=by
 unfold atI ixN;rw[if_pos (je k),if_pos (by omega)];show ds[(k:Int).toNat]?=_;rw[d9,aw hk]
theorem jT {k:Nat} (h:ds[k]?=we d):atI ds (k:Int)=we d:=by
 obtain⟨hk,e⟩:=bi.mp h;rw[Al hk,e]
theorem dY (e:f ρ ω=we (.ok d,ω)) (hd:d=.lst ds∨d=.tup ds):oL cJ (aC f aJ) ρ ω=we (.ok (.int ds.length),ω):=by
 refine dE (aA e aD) ?_;rcases hd with rfl|rfl <;> rfl
theorem IP {k:Nat} (e:f ρ ω=we (.ok d,ω)) (e2:h ρ ω=we (.ok (.int k),ω)) (hd:d=.lst ds∨d=.tup ds) (hk:k<ds.length):zX f h ρ ω=we (.ok ds[k],ω):=by
 refine aP e e2 ?_;rcases hd with rfl|rfl
 ·exact Al hk
 ·exact Al hk
end
theorem Jk (h:d∈jY s n):∃ k:Nat,k<n/\d=.int (s+k):=by
 unfold jY at h;obtain⟨k,hk,rfl⟩:=az.mp h;exact⟨k,c5.mp hk,rfl⟩
theorem Lr:dF [F,N,R,we (.tup [.str x,.tup [.int a,.int b],.int v])] ω=we (.nx [F,N,R,we (.tup [.str x,.tup [.int a,.int b],.int v])],ω):=by
 rfl
theorem BE:∀ {ds:List D}{u:Option D},(∀ d∈ds,eT d)->∃ v,bY (aY 3) bO dF ds [F,N,we R,u] ω=we (.nx [F,N,we R,v],ω)
 |[],u,_=>⟨u,rfl⟩
 |d::ds,u,h=>by
  obtain⟨x,a,b,w,rfl⟩:=h d au;obtain⟨v,e⟩:=BE (F:=F) (N:=N) (R:=R) (ω:=ω) (ds:=ds) (u:=we (.tup [.str x,.tup [.int a,.int b],.int w])) fun d hd=>h d (aj _ hd);refine⟨v,?_⟩;refine(bW rfl rfl (Lr)).trans ?_;exact e
theorem BD:∀ {ts:List (List D)}{u v:Option D},(∀ t∈ts,∀ d∈t,eT d)->∃ u' v',bY (aY 2) bO cG (ts.map D.lst) [F,N,u,v] ω=we (.nx [F,N,u',v'],ω)
 |[],u,v,_=>⟨u,v,rfl⟩
 |t::ts,u,v,h=>by
  obtain⟨w,e1⟩:=BE (F:=F) (N:=N) (R:=.lst t) (ω:=ω) (ds:=t) (u:=v) (h t au);obtain⟨u',v',e2⟩:=BD (F:=F) (N:=N) (ω:=ω) (ts:=ts) (u:=we (.lst t)) (v:=w) fun t' ht=>h t' (aj _ ht);refine⟨u',v',?_⟩;have b2:cG [F,N,we (.lst t),v] ω=we (.nx [F,N,we (.lst t),w],ω):=by
   unfold cG;rw[skip (fJ (k:=true) (tru_ok (cR (aB (d:=.lst t) rfl) (by simp[lP,cV,lC,dR]))))];refine dS ?_;unfold bF oIL;rw[bR (x:=(t,bO)) (ω1:=ω) (by rw[bA (aB (d:=.lst t) rfl)];rfl)];exact e1
  refine(bW rfl rfl (b2)).trans ?_;exact e2
theorem Oo {ts:List (List D)} (h:∀ t∈ts,∀ d∈t,eT d) (hc:ts.length=c) (ω:Om):dD [.lst (ts.map D.lst),.int c] ω=we (.ok (.bl true),ω):=by
 obtain⟨u,v,e⟩:=BD (F:=we (.lst (ts.map D.lst))) (N:=we (.int c)) (ω:=ω) (ts:=ts) (u:=wf) (v:=wf) h;refine aV rfl ?_;unfold iE;show aG _ _ [we (.lst (ts.map D.lst)),we (.int c),wf,wf] ω=_;rw[skip (tG (fJ (k:=true) (tru_ok (cR (aB (d:=.lst (ts.map D.lst)) rfl) (by simp[lP,cV,lC,dR])))) (oN (a:=((ts.map D.lst).length:Nat)) (b:=(c:Int)) (dY (aB (d:=.lst (ts.map D.lst)) rfl) (.inl rfl)) (aB rfl) (by rw[av,hc])))];rw[bD (dS (by
  unfold bF oIL;rw[bR (x:=(ts.map D.lst,bO)) (ω1:=ω) (by rw[bA (aB (d:=.lst (ts.map D.lst)) rfl)];rfl)];exact e))]
 rfl
theorem Dg {φ:eB}{d:D}{ds:List D}{ω:Om} (hd:d=.lst ds∨d=.tup ds) (hl:ds.length<=1000) (hφ:∀ x∈ds,φ [x,x] ω=we (.ok (.bl true),ω)):∃ v,sNx (bF (oIA jP (aC (oL cJ (aC (zV 1) aJ)) aJ)) (aY 2) (dI (gQ (fZ (bE φ (aC (zX (zV 0) (zV 2)) (aC (zX (zV 1) (zV 2)) aJ))))) (aU (oP (dC (.bl false)))) bH)) [we d,we d,wf] ω=we (.nx [we d,we d,v],ω):=by
 obtain⟨ρ',ω',e,rfl,v,rfl⟩:=Bt (bd:=aY 2) (chk:=bO) (F:=dI (gQ (fZ (bE φ (aC (zX (zV 0) (zV 2)) (aC (zX (zV 1) (zV 2)) aJ))))) (aU (oP (dC (.bl false)))) bH) (fun(_:Unit) ρ ω'=>ω'=ω/\∃ v,ρ=[we d,we d,v]) (fun _ _=>()) (fun _ _ _ _=>rfl) (ds:=jY 0 ds.length) (a:=()) (ρ:=[we d,we d,wf]) (ω:=ω) ⟨rfl,wf,rfl⟩ fun x hx _ ρ ω1 hR=>by
  obtain⟨rfl,v,rfl⟩:=hR;obtain⟨k,hk,rfl⟩:=Jk hx;rw[Int.zero_add];refine⟨[we d,we d,we (.int k)],[we d,we d,we (.int k)],ω1,rfl,?_,rfl,we (.int k),rfl⟩;rw[mR (ω1:=ω1) (by
   have:=fJ (tru_ok (k:=true) (aR (φ:=φ) (ρ:=[we d,we d,we (.int k)]) (aA (IP (f:=zV 0) (h:=zV 2) (k:=k) (aB rfl) (aB rfl) hd hk) (aA (IP (f:=zV 1) (h:=zV 2) (k:=k) (aB rfl) (aB rfl) hd hk) aD)) (hφ _ (gu hk))))
   exact this)]
  rfl
 refine⟨v,dS ?_⟩;unfold bF;rw[bR (kP (c:=ds.length) (dY (aB rfl) hd) hl)];exact e
theorem Je:∀ {n:Nat}{d:D},Pl n d->∀ ω,eC (n+1) [d,d] ω=we (.ok (.bl true),ω)
 |n,.non,_,ω=>rfl
 |n,.bl true,_,ω=>rfl
 |n,.bl false,_,ω=>rfl
 |n,.int i,_,ω=>by
  have e:eC (n+1) [.int i,.int i] ω=we (.ok (.bl (i==i)),ω):=rfl;rw[e];simp
 |n,.str x,_,ω=>by
  have e:eC (n+1) [.str x,.str x] ω=we (.ok (.bl (x==x)),ω):=rfl;rw[e];simp
 |n+1,.lst ds,h,ω=>by
  obtain⟨v,lp⟩:=Dg (φ:=eC (n+1)) (d:=.lst ds) (ds:=ds) (ω:=ω) (.inl rfl) h.1 fun x hx=>Je (h.2 x hx) ω;have v0:zV 0 [we (.lst ds),we (.lst ds),wf] ω=we (.ok (.lst ds),ω):=aB rfl;have v1:zV 1 [we (.lst ds),we (.lst ds),wf] ω=we (.ok (.lst ds),ω):=aB rfl;refine aV rfl ?_;unfold tQ;show aG _ _ [we (.lst ds),we (.lst ds),wf] ω=_;rw[skip (cY (fH v1 aW rfl)),skip (tru_ok (cR v1 (by simp[lP,cV,lC,dR]))),skip (tru_ok (cR v1 (by simp[lP,cV,lC,dR]))),skip (tru_ok (cR v1 (by simp[lP,cV,lC,dR]))),skip (tru_ok (cR v1 (by simp[lP,cV,lC,dR])))];rw[skip (GP (b:=false) (cR v1 (by simp[lP,cV,lC,dR])) (cR v0 (by simp[lP,cV,lC,dR])))];rw[skip (tG (GP (b:=true) (cR v1 (by simp[lP,cV,lC,dR])) (cR v0 (by simp[lP,cV,lC,dR]))) (fJ (k:=true) (tru_ok (by unfold DZ;rw[bA v1];rfl))))];rw[skip (oN (dY v0 (.inl rfl)) (dY v1 (.inl rfl)) rfl)];rw[bD lp];rfl
 |n+1,.tup ds,h,ω=>by
  obtain⟨v,lp⟩:=Dg (φ:=eC (n+1)) (d:=.tup ds) (ds:=ds) (ω:=ω) (.inr rfl) h.1 fun x hx=>Je (h.2 x hx) ω;have v0:zV 0 [we (.tup ds),we (.tup ds),wf] ω=we (.ok (.tup ds),ω):=aB rfl;have v1:zV 1 [we (.tup ds),we (.tup ds),wf] ω=we (.ok (.tup ds),ω):=aB rfl;refine aV rfl ?_;unfold tQ;show aG _ _ [we (.tup ds),we (.tup ds),wf] ω=_;rw[skip (cY (fH v1 aW rfl)),skip (tru_ok (cR v1 (by simp[lP,cV,lC,dR]))),skip (tru_ok (cR v1 (by simp[lP,cV,lC,dR]))),skip (tru_ok (cR v1 (by simp[lP,cV,lC,dR]))),skip (tru_ok (cR v1 (by simp[lP,cV,lC,dR])))];rw[skip (GP (b:=true) (cR v1 (by simp[lP,cV,lC,dR])) (cR v0 (by simp[lP,cV,lC,dR])))];rw[skip (tG (GP (b:=false) (cR v1 (by simp[lP,cV,lC,dR])) (cR v0 (by simp[lP,cV,lC,dR]))) (fJ (k:=true) (tru_ok (by unfold DZ;rw[bA v1];rfl))))];rw[skip (oN (dY v0 (.inr rfl)) (dY v1 (.inr rfl)) rfl)];rw[bD lp];rfl
 |0,.lst _,h,_=>h.elim
 |0,.tup _,h,_=>h.elim
 |0,.obj _,h,_=>h.elim
 |n+1,.obj _,h,_=>h.elim
 |0,.scr _,h,_=>h.elim
 |n+1,.scr _,h,_=>h.elim
theorem so8 {n:Nat}{d:D} (h:Pl n d) (hn:n<=7) (ω:Om):eC 8 [d,d] ω=we (.ok (.bl true),ω):=Je (n:=7) (h.mono hn) ω
section
variable {ω:Om}{ρ:Rho}{f h:OG D}{a b:Int}
theorem sG (e1:f ρ ω=we (.ok (.int a),ω)) (e2:h ρ ω=we (.ok (.int b),ω)):o2 (lf vG) f h ρ ω=we (.ok (.int (a+b)),ω):=fH e1 e2 rfl
theorem EZ (e1:f ρ ω=we (.ok (.int a),ω)) (e2:h ρ ω=we (.ok (.int b),ω)):o2 (lf gSub) f h ρ ω=we (.ok (.int (a-b)),ω):=fH e1 e2 rfl
theorem Fa (e1:f ρ ω=we (.ok (.int a),ω)) (e2:h ρ ω=we (.ok (.int b),ω)) (hb: -1000000000000000000<b/\b<1000000000000000000):o2 (lf iF) f h ρ ω=we (.ok (.int (a*b)),ω):=fH e1 e2 (NQ hb)
theorem xF (e1:f ρ ω=we (.ok (.int a),ω)) (e2:h ρ ω=we (.ok (.int b),ω)) (hb:0<b):o2 (lf cH) f h ρ ω=we (.ok (.int (a % b)),ω):=fH e1 e2 (NR hb)
theorem mT {p q:Int} (e1:f ρ ω=we (.ok (.int a),ω)) (e2:h ρ ω=we (.ok (.int q),ω)) (hp:0<p) (hq:0<q):o2 (lf cH) (o2 (lf cH) (o2 (lf iF) f (zI 48271)) (zI p)) h ρ ω=we (.ok (.int (a*48271 % p % q)),ω):=xF (xF (Fa e1 aW (by decide)) aW hp) e2 hq
theorem Ca {x q:Int} (hq:0<q):0<=x % q/\x % q<q:=⟨Int.emod_nonneg x (by omega),Int.emod_lt_of_pos x hq⟩
theorem NZ {z:Int} (e1:f ρ ω=we (.ok (.int a),ω)):dG (o2 (mI 8) f (zI z)) ρ ω=we (.ok (a==z),ω):=cY (iQ e1 aW rfl)
theorem mU {z:Int} (e1:f ρ ω=we (.ok (.int a),ω)):dG (o2 (lf gLt) f (zI z)) ρ ω=we (.ok (decide (a<z)),ω):=cY (fH e1 aW rfl)
theorem Ld {z:Int} (e1:f ρ ω=we (.ok (.int a),ω)):dG (o2 (lf gGt) f (zI z)) ρ ω=we (.ok (decide (z<a)),ω):=cY (fH e1 aW rfl)
theorem Er {xs:List Int} (e1:f ρ ω=we (.ok (.lst (iv xs)),ω)) (e2:h ρ ω=we (.ok (.int a),ω)) (h0:0<=a) (h1:a<xs.length):zX f h ρ ω=we (.ok (.int (xs.getD a.toNat 0)),ω):=aP e1 e2 (RowV.ix (ω:=ω) (d:=.lst (iv xs)) rfl h0 h1)
theorem FC {i:Nat}{d:D}{ω1:Om} (e:f ρ ω=we (.ok d,ω1)):aX i f ρ ω=we (.nx (ρ.set i (we d)),ω1):=by
 unfold aX;rw[bR e]
theorem ifI {t:OG Bool}{F:OS}{i:Nat}{a0 a1:Int}{k:Bool} (ht:t ρ ω=we (.ok k,ω)) (hF:F ρ ω=we (.nx (ρ.set i (we (.int a1))),ω)) (h0:ρ.set i (we (.int a0))=ρ):∃ a:Int,dI t F bH ρ ω=we (.nx (ρ.set i (we (.int a))),ω):=by
 cases k with
 |true=>exact⟨a1,by rw[vW ht];exact hF⟩
 |false=>exact⟨a0,by rw[mR ht,h0];rfl⟩
theorem Op {t u:OG Bool}{k l:Bool} (e1:t ρ ω=we (.ok k,ω)) (e2:u ρ ω=we (.ok l,ω)):yD t u ρ ω=we (.ok (k&&l),ω):=by
 unfold yD;rw[bA e1];cases k with
 |true=>exact e2
 |false=>rfl
end
theorem IY {j:Int}{c:Nat} (h0:0<=j) (h4:j<4) (c1:1<=c) (c8:c<=8) (ω:Om):∃ x,jE [.int j,.int c] ω=we (.ok (.str x),ω):=by
 have hj:j=0∨j=1∨j=2∨j=3:=by omega
 have hc:c=1∨c=2∨c=3∨c=4∨c=5∨c=6∨c=7∨c=8:=by omega
 rcases hj with rfl|rfl|rfl|rfl <;> rcases hc with rfl|rfl|rfl|rfl|rfl|rfl|rfl|rfl <;> exact⟨_,rfl⟩
theorem IJ (c:Nat) (ω:Om):eN [.int c] ω=we (.ok (.lst (iv [-1,c,-2,0-c,100000000000000000000,0-100000000000000000000])),ω):=rfl
theorem Cw (cell:Int) (k c:Nat) (c2:1<=c) (c8:c<=8) (ω:Om):∃ d:Deed,gO [.int cell,.int k,.int c] ω=we (.ok d.d,ω):=by
 have cpos:(0:Int)<c:=by omega
 obtain⟨way,hway⟩:∃ w,w=cell*48271 % 1009 % 16:=⟨_,rfl⟩;obtain⟨one,hone⟩:∃ w,w=(cell+k)*48271 % 1013 % c:=⟨_,rfl⟩;have q1:∃ a:Int,dI (yD (dG (o2 (lf gGt) (zV 2) (zI 1))) (dG (o2 (lf gGt) (o2 (lf cH) (o2 (lf cH) (o2 (lf iF) (zV 0) (zI 48271)) (zI 1019)) (zI 19)) (zI 0)))) (aX 5 (o2 (lf cH) (o2 (lf vG) (o2 (lf vG) (zV 4) (zI 1)) (o2 (lf cH) (o2 (lf cH) (o2 (lf iF) (zV 0) (zI 48271)) (zI 1021)) (o2 (lf gSub) (zV 2) (zI 1)))) (zV 2))) bH [we (.int cell),we (.int k),we (.int c),we (.int way),we (.int one),we (.int one),wf,wf,wf] ω=we (.nx [we (.int cell),we (.int k),we (.int c),we (.int way),we (.int one),we (.int a),wf,wf,wf],ω):=by
  by_cases c1:c=1
  ·refine⟨one,?_⟩;rw[mR (ω1:=ω) (by
    unfold yD;rw[bA (Ld (a:=c) (aB rfl)),decide_eq_false (by omega)];rfl)]
   rfl
  ·have cpos1:(0:Int)<c-1:=by omega
   exact ifI (ω:=ω) (i:=5) (ρ:=[we (.int cell),we (.int k),we (.int c),we (.int way),we (.int one),we (.int one),wf,wf,wf]) (a0:=one)
    (t:=yD (dG (o2 (lf gGt) (zV 2) (zI 1))) (dG (o2 (lf gGt) (o2 (lf cH) (o2 (lf cH) (o2 (lf iF) (zV 0) (zI 48271)) (zI 1019)) (zI 19)) (zI 0))))
    (F:=aX 5 (o2 (lf cH) (o2 (lf vG) (o2 (lf vG) (zV 4) (zI 1)) (o2 (lf cH) (o2 (lf cH) (o2 (lf iF) (zV 0) (zI 48271)) (zI 1021)) (o2 (lf gSub) (zV 2) (zI 1)))) (zV 2)))
    (Op (Ld (a:=c) (aB rfl)) (Ld (mT (a:=cell) (aB rfl) aW (by decide) (by decide))))
    (FC (xF (b:=c) (sG (sG (a:=one) (aB rfl) aW) (mT (a:=cell) (aB rfl) (EZ (a:=c) (aB rfl) aW) (by decide) cpos1)) (aB rfl) cpos)) rfl
 obtain⟨other,e1⟩:=q1;have r4:=Ca (x:=cell*48271 % 1031) (q:=4) (by decide);obtain⟨x,ex⟩:=IY r4.1 r4.2 (by omega:1<=c) c8 ω;obtain⟨vs,hvs⟩:∃ vs:List Int,vs=[cell*48271 % 1033 % 9-4,0-k,100000000000000000000+k]:=⟨_,rfl⟩;have r3:=Ca (x:=cell*48271 % 1039) (q:=3) (by decide);obtain⟨v,hv⟩:∃ v,v=vs.getD (cell*48271 % 1039 % 3).toNat 0:=⟨_,rfl⟩;have r6:=Ca (x:=cell*48271 % 1051) (q:=6) (by decide);have r6':=Ca (x:=cell*48271 % 1063) (q:=6) (by decide);have q2:=ifI (ω:=ω) (i:=4) (ρ:=[we (.int cell),we (.int k),we (.int c),we (.int way),we (.int one),we (.int other),we (.str x),we (.lst (iv vs)),we (.int v)]) (a0:=one)
  (t:=dG (o2 (mI 8) (o2 (lf cH) (o2 (lf cH) (o2 (lf iF) (zV 0) (zI 48271)) (zI 1049)) (zI 31)) (zI 30)))
  (F:=aX 4 (zX (bE eN (aC (zV 2) aJ)) (o2 (lf cH) (o2 (lf cH) (o2 (lf iF) (zV 0) (zI 48271)) (zI 1051)) (zI 6))))
  (NZ (mT (a:=cell) (aB rfl) aW (by decide) (by decide)))
  (FC (Er (aR (aA (aB rfl) aD) (IJ c ω)) (mT (a:=cell) (aB rfl) aW (by decide) (by decide)) r6.1 r6.2)) rfl
 obtain⟨one',e2⟩:=q2;have q3:=ifI (ω:=ω) (i:=5) (ρ:=[we (.int cell),we (.int k),we (.int c),we (.int way),we (.int one'),we (.int other),we (.str x),we (.lst (iv vs)),we (.int v)]) (a0:=other)
  (t:=dG (o2 (mI 8) (o2 (lf cH) (o2 (lf cH) (o2 (lf iF) (zV 0) (zI 48271)) (zI 1061)) (zI 31)) (zI 30)))
  (F:=aX 5 (zX (bE eN (aC (zV 2) aJ)) (o2 (lf cH) (o2 (lf cH) (o2 (lf iF) (zV 0) (zI 48271)) (zI 1063)) (zI 6))))
  (NZ (mT (a:=cell) (aB rfl) aW (by decide) (by decide)))
  (FC (Er (aR (aA (aB rfl) aD) (IJ c ω)) (mT (a:=cell) (aB rfl) aW (by decide) (by decide)) r6'.1 r6'.2)) rfl
 obtain⟨other',e3⟩:=q3;have main:∀ d:Deed,∀ G:OS,G [we (.int cell),we (.int k),we (.int c),we (.int way),we (.int one'),we (.int other'),we (.str x),we (.lst (iv vs)),we (.int v)] ω=we (.rt d.d,ω)->
   aG (aX 3 (o2 (lf cH) (o2 (lf cH) (o2 (lf iF) (zV 0) (zI 48271)) (zI 1009)) (zI 16))) (aG (aX 4 (o2 (lf cH) (o2 (lf cH) (o2 (lf iF) (o2 (lf vG) (zV 0) (zV 1)) (zI 48271)) (zI 1013)) (zV 2))) (aG (aX 5 (zV 4)) (aG (dI (yD (dG (o2 (lf gGt) (zV 2) (zI 1))) (dG (o2 (lf gGt) (o2 (lf cH) (o2 (lf cH) (o2 (lf iF) (zV 0) (zI 48271)) (zI 1019)) (zI 19)) (zI 0)))) (aX 5 (o2 (lf cH) (o2 (lf vG) (o2 (lf vG) (zV 4) (zI 1)) (o2 (lf cH) (o2 (lf cH) (o2 (lf iF) (zV 0) (zI 48271)) (zI 1021)) (o2 (lf gSub) (zV 2) (zI 1)))) (zV 2))) bH) (aG (aX 6 (bE jE (aC (o2 (lf cH) (o2 (lf cH) (o2 (lf iF) (zV 0) (zI 48271)) (zI 1031)) (zI 4)) (aC (zV 2) aJ)))) (aG (aX 7 (zL (aC (o2 (lf gSub) (o2 (lf cH) (o2 (lf cH) (o2 (lf iF) (zV 0) (zI 48271)) (zI 1033)) (zI 9)) (zI 4)) (aC (o2 (lf gSub) (zI 0) (zV 1)) (aC (o2 (lf vG) (zI 100000000000000000000) (zV 1)) aJ))))) (aG (aX 8 (zX (zV 7) (o2 (lf cH) (o2 (lf cH) (o2 (lf iF) (zV 0) (zI 48271)) (zI 1039)) (zI 3)))) (aG (dI (dG (o2 (mI 8) (o2 (lf cH) (o2 (lf cH) (o2 (lf iF) (zV 0) (zI 48271)) (zI 1049)) (zI 31)) (zI 30))) (aX 4 (zX (bE eN (aC (zV 2) aJ)) (o2 (lf cH) (o2 (lf cH) (o2 (lf iF) (zV 0) (zI 48271)) (zI 1051)) (zI 6)))) bH) (aG (dI (dG (o2 (mI 8) (o2 (lf cH) (o2 (lf cH) (o2 (lf iF) (zV 0) (zI 48271)) (zI 1061)) (zI 31)) (zI 30))) (aX 5 (zX (bE eN (aC (zV 2) aJ)) (o2 (lf cH) (o2 (lf cH) (o2 (lf iF) (zV 0) (zI 48271)) (zI 1063)) (zI 6)))) bH) G)))))))) (cI lN [.int cell,.int k,.int c]) ω=we (.rt d.d,ω):=by
  intro d G hG;refine(aO (mT (a:=cell) (aB rfl) aW (by decide) (by decide))).trans ?_;rw[<- hway];refine(aO (xF (b:=c) (xF (Fa (sG (a:=cell) (b:=k) (aB rfl) (aB rfl)) aW (by decide)) aW (by decide)) (aB rfl) cpos)).trans ?_;rw[<- hone];refine(aO (d:=.int one) (aB rfl)).trans ?_;refine(bD e1).trans ?_;refine(aO (d:=.str x) (ω1:=ω) (aR (aA (mT (a:=cell) (aB rfl) aW (by decide) (by decide)) (aA (aB (d:=.int c) rfl) aD)) ex)).trans ?_;refine(aO (d:=.lst (iv vs)) (ω1:=ω) (dE (aA (EZ (mT (a:=cell) (aB rfl) aW (by decide) (by decide)) aW) (aA (EZ (b:=k) aW (aB rfl)) (aA (sG (b:=k) aW (aB rfl)) aD))) (by rw[hvs];rfl))).trans ?_;refine(aO (Er (xs:=vs) (aB rfl) (mT (a:=cell) (aB rfl) aW (by decide) (by decide)) r3.1 (by rw[hvs];exact r3.2))).trans ?_;rw[<- hv];refine(bD e2).trans ?_;refine(bD e3).trans ?_;exact hG
 have vw:∀ ω,zV 3 [we (.int cell),we (.int k),we (.int c),we (.int way),we (.int one'),we (.int other'),we (.str x),we (.lst (iv vs)),we (.int v)] ω=we (.ok (.int way),ω):=fun ω=>aB rfl
 by_cases h5:way<5
 ·refine⟨.put one' x v,aV rfl (main _ _ ?_)⟩;exact KD (r:=.ok _) (by rw[mU (vw ω),decide_eq_true h5]) rfl
 by_cases h7:way<7
 ·refine⟨.take one' x,aV rfl (main _ _ ?_)⟩;rw[skip (by rw[mU (vw ω),decide_eq_false h5])];exact KD (r:=.ok _) (by rw[mU (vw ω),decide_eq_true h7]) rfl
 by_cases h9:way<9
 ·refine⟨.change one' x v,aV rfl (main _ _ ?_)⟩;rw[skip (by rw[mU (vw ω),decide_eq_false h5]),skip (by rw[mU (vw ω),decide_eq_false h7])];exact KD (r:=.ok _) (by rw[mU (vw ω),decide_eq_true h9]) rfl
 have gt:∀ q:Bool,decide (11<way)=q->o2 (lf gGt) (zV 3) (zI 11) [we (.int cell),we (.int k),we (.int c),we (.int way),we (.int one'),we (.int other'),we (.str x),we (.lst (iv vs)),we (.int v)] ω=we (.ok (.bl q),ω):=fun q hq=>by
  rw[<- hq];exact fH (vw ω) aW rfl
 by_cases h11:11<way
 ·refine⟨.meet one' other',aV rfl (main _ _ ?_)⟩;rw[skip (by rw[mU (vw ω),decide_eq_false h5]),skip (by rw[mU (vw ω),decide_eq_false h7]),skip (by rw[mU (vw ω),decide_eq_false h9])];refine bB (dE (aA (a:=.str "meet") (aP (a:=.lst [.str "tell",.str "meet"]) (b:=.int 1) rfl (dE (aA (gt true (decide_eq_true h11)) aD) rfl) rfl) (aA (aB rfl) (aA (aB rfl) aD))) rfl)
 ·refine⟨.tell one' other',aV rfl (main _ _ ?_)⟩;rw[skip (by rw[mU (vw ω),decide_eq_false h5]),skip (by rw[mU (vw ω),decide_eq_false h7]),skip (by rw[mU (vw ω),decide_eq_false h9])];refine bB (dE (aA (a:=.str "tell") (aP (a:=.lst [.str "tell",.str "meet"]) (b:=.int 0) rfl (dE (aA (gt false (decide_eq_false h11)) aD) rfl) rfl) (aA (aB rfl) (aA (aB rfl) aD))) rfl)
theorem lB (e1:fo ρ ω=we (.ok (.obj n),ω1)) (e2:ω1[n]?=we (.ml xs)) (e3:fl ρ ω1=we (.ok ds,ω2)) (e4:g ω2 (.obj n) ds=we (r,ω3)):iD g fo fl ρ ω=we (.ok r,ω3):=by
 unfold iD;rw[bA e1]
 have:Ci ω1 (.obj n)=true:=by simp only[Ci,cellOf,e2]
 show(if Ci ω1 (.obj n)=true then _ else wf)=_
 rw[if_pos this,bA e3];show oR (g ω2 (.obj n) ds)=_;rw[e4];rfl
theorem sH {c n:Nat} (c2:1<=c) (c8:c<=8) (hx:xs.length<=1000):∀(m s:Nat) (pre:List Deed) (v:Option D) (ω:Om),ω[n]?=we (.ml (pre.map Deed.d))->s+m=xs.length->pre.length=s->∃ v' post,post.length=m/\bY (aY 3) bO eI (jY s m) [we (.lst (iv xs)),we (.int c),we (.obj n),v] ω=we (.nx [we (.lst (iv xs)),we (.int c),we (.obj n),v'],ω.set n (.ml ((pre++post).map Deed.d)))
 |0,s,pre,v,ω,ht,_,_=>⟨v,[],rfl,by
   rw[c7,kN ht];rfl⟩
 |m+1,s,pre,v,ω,ht,hs,hp=>by
  obtain⟨d,ed⟩:=Cw (xs.getD (s:Int).toNat 0+7*s) s c c2 c8 ω;have b1:eI [we (.lst (iv xs)),we (.int c),we (.obj n),we (.int s)] ω=we (.nx [we (.lst (iv xs)),we (.int c),we (.obj n),we (.int s)],ω.set n (.ml ((pre++[d]).map Deed.d))):=by
   unfold eI bX;rw[bR (lB (r:=.non) (ω3:=ω.set n (.ml ((pre++[d]).map Deed.d))) (aB (d:=.obj n) rfl) ht (aA (aR (aA (sG (Er (xs:=xs) (a:=s) (aB rfl) (aB rfl) (by omega) (by omega)) (Fa (b:=s) aW (aB rfl) ⟨by omega,by omega⟩)) (aA (aB (d:=.int s) rfl) (aA (aB (d:=.int c) rfl) aD))) ed) aD) (by
    simp only[mB,ht];rw[if_pos (by rw[av,b8];omega),dr];rfl))]
  obtain⟨v',post,hl,e2⟩:=sH c2 c8 hx m (s+1) (pre++[d]) (we (.int s)) (ω.set n (.ml ((pre++[d]).map Deed.d))) (cB ht) (by omega) (by simp[hp]);refine⟨v',d::post,by simp[hl],?_⟩;rw[fB];refine(bW rfl rfl (b1)).trans ?_;rw[oa,dy] at e2;exact e2
theorem HW {c:Nat} (c2:1<=c) (c8:c<=8) (hx:xs.length<=1000) (ω:Om):∃ ds:List Deed,ds.length=xs.length/\jZ [.lst (iv xs),.int c] ω=we (.ok (.obj ω.length),ω++[.ml (ds.map Deed.d)]):=by
 have h0:(ω++[Ob.ml []])[ω.length]?=we (.ml (([]:List Deed).map Deed.d)):=by simp
 obtain⟨v',post,hl,e⟩:=sH c2 c8 hx xs.length 0 [] wf (ω++[Ob.ml []]) h0 (by omega) rfl;refine⟨post,hl,aV rfl ?_⟩;unfold pC;rw[aO (d:=.obj ω.length) (ω1:=ω++[.ml []]) rfl];rw[bD (dS (by
  unfold bF;rw[bR (kP (c:=xs.length) (by
   have:=dY (f:=zV 0) (ρ:=(cI qB [.lst (iv xs),.int c]).set 2 (we (.obj ω.length))) (ω:=ω++[.ml []]) (d:=.lst (iv xs)) (ds:=iv xs) (aB rfl) (.inl rfl)
   rw[show(iv xs).length=xs.length from by unfold iv;simp] at this;exact this) hx)]
  exact e))]
 refine(bB (aB (d:=.obj ω.length) rfl)).trans ?_;simp
theorem IW (ns:List Int) (k:Nat) (ω:Om):∃ x:Int,nD [.scr (ns.map D.int),.int k] ω=we (.ok (.int x),ω):=by
 have v0:∀ ω:Om,zV 0 (cI nN [.scr (ns.map D.int),.int k]) ω=we (.ok (.scr (ns.map D.int)),ω):=fun ω=>rfl;have v1:∀ ω:Om,zV 1 (cI nN [.scr (ns.map D.int),.int k]) ω=we (.ok (.int k),ω):=fun ω=>rfl;have t:∀ q:Bool,decide ((k:Int)<((ns.map D.int).length:Int))=q->dG (o2 (lf gLt) (zV 1) (oL cJ (aC (zV 0) aJ))) (cI nN [.scr (ns.map D.int),.int k]) ω=we (.ok q,ω):=fun q hq=>
  cY (fH (v1 ω) (dE (aA (v0 ω) aD) (show _=we (D.int ((ns.map D.int).length),ω) from rfl)) (show we (D.bl (decide ((k:Int)<((ns.map D.int).length:Int))))=_ by rw[hq]))
 by_cases h:k<ns.length
 ·refine⟨ns[k],aV rfl ?_⟩;have hd:decide ((k:Int)<((ns.map D.int).length:Int))=true:=by simp[h]
  unfold tW aG;rw[vW (t true hd),bB (iQ (v0 ω) (v1 ω) (show pu (atI (ns.map D.int) (k:Int)) ω=we (.int ns[k],ω) from ?_))];have e1:ixN (ns.map D.int).length (k:Int)=we k:=by
   unfold ixN;have hk:(k:Int)<((ns.map D.int).length:Int):=by simpa using hd
   rw[if_pos (je k),if_pos hk];simp
  unfold atI;rw[e1];simp[pu,h]
 ·refine⟨0,aV rfl ?_⟩;have hd:decide ((k:Int)<((ns.map D.int).length:Int))=false:=by simp;omega
  unfold tW aG;rw[mR (t false hd)];rfl
theorem Pl.lst (hl:ds.length<=1000) (h:∀ d∈ds,Pl n d):Pl (n+1) (.lst ds):=⟨hl,h⟩
theorem Pl.ent (h:eT d):Pl (n+2) d:=by
 obtain⟨x,a,b,v,rfl⟩:=h;refine⟨by simp,fun d hd=> ?_⟩;simp only[ak,cm,or_false] at hd;rcases hd with rfl|rfl|rfl
 ·exact Pl.str _ _
 ·exact Pl.tup2 (Pl.int _ _) (Pl.int _ _)
 ·exact Pl.int _ _
theorem Pl.deed (d:Deed):Pl 1 d.d:=by
 have two:∀(x:Str) (l:List D),l.length<=3->(∀ y∈l,Pl 0 y)->Pl 1 (.tup (.str x::l)):=fun x l h1 h2=>⟨by rw[bv];omega,fun y hy=>by
  rcases ak.mp hy with rfl|hy
  ·exact Pl.str _ _
  ·exact h2 y hy⟩
 cases d with
 |put a x v=>
  refine two _ _ (by simp) fun y hy=> ?_;simp only[ak,cm,or_false] at hy;rcases hy with rfl|rfl|rfl <;> trivial
 |change a x v=>
  refine two _ _ (by simp) fun y hy=> ?_;simp only[ak,cm,or_false] at hy;rcases hy with rfl|rfl|rfl <;> trivial
 |take a x=>
  refine two _ _ (by simp) fun y hy=> ?_;simp only[ak,cm,or_false] at hy;rcases hy with rfl|rfl <;> trivial
 |tell a b=>
  refine two _ _ (by simp) fun y hy=> ?_;simp only[ak,cm,or_false] at hy;rcases hy with rfl|rfl <;> trivial
 |meet a b=>
  refine two _ _ (by simp) fun y hy=> ?_;simp only[ak,cm,or_false] at hy;rcases hy with rfl|rfl <;> trivial
theorem Pl.deeds {ds:List Deed} (hl:ds.length<=1000):Pl 2 (.lst (ds.map Deed.d)):=Pl.lst (by rw[av];exact hl) fun d hd=>by
 obtain⟨x,_,rfl⟩:=az.mp hd;exact Pl.deed x
noncomputable def DeedsAt (ω:Om) (d:D) (ds:List Deed):Prop:=cV ω d=we (ds.map Deed.d)
theorem DeedsAt.keep (h:DeedsAt ω d ds) (K:Keep [] ω ω'):DeedsAt ω' d ds:=by
 rcases kO h with rfl|⟨n,rfl,e⟩
 ·rfl
 ·have e':=(K.2 n (gF e) (by simp)).trans e;unfold DeedsAt cV;simp only[e']
theorem DeedsAt.list (h:DeedsAt ω d ds) (e:f ρ ω=we (.ok d,ω)):oL gH (aC f aJ) ρ ω=we (.ok (.lst (ds.map Deed.d)),ω):=by
 refine dE (aA e aD) ?_
 have:cQ ω d=we (ds.map Deed.d):=by
  rcases kO h with rfl|⟨n,rfl,e2⟩
  ·rfl
  ·simp only[cQ,cV,e2]
 show(cQ ω d).map _=_
 rw[this];rfl
theorem mP {c:Nat} (c0:0<c) (c8:c<=8) (hl:ds.length<64) (h:DeedsAt ω d ds):∃ ω',dJ [.int c,d] ω=we (.ok (.tup [gL c (bV c ds),vE c (bV c ds),Gf c (bV c ds),Ge c (bV c ds)]),ω')/\Keep [] ω ω'/\∃ own,HInv c own (bV c ds)/\tot c own<64:=by
 obtain⟨ω',e1,K,I⟩:=Il c0 c8 hl ω;refine⟨ω',?_,K,I⟩;refine aV rfl ?_;unfold iS;rw[aO (h.list (aB rfl))];rw[aO (aR (aA (aB (d:=.int c) rfl) (aA (aB (d:=.lst (ds.map Deed.d)) rfl) aD)) e1)];rw[skip (tG (cY (iQ (aB (d:=.lst (ds.map Deed.d)) rfl) (aB (d:=d) rfl) (by
  have hd:=h.keep K
  have:lI ω' d=.lst (ds.map Deed.d):=by unfold lI;rw[hd]
  show pu ((eqD 8 (.lst (ds.map Deed.d)) (lI ω' d)).map fun k=>D.bl (!k)) ω'=_;rw[this,nI ((Pl.deeds (by omega)).mono (by decide))];rfl))) (tG (fJ (k:=true) (tru_ok (cR (aB rfl) (by simp[lP,cV,lC,dR])))) (oN (b:=4) (dY (aB rfl) (.inr rfl)) aW rfl)))]
 exact bB (aB rfl)
structure Rec where
 a:Nat
 b:Nat
 put:Option (Str×Int)
 outs:List (List Key)
noncomputable def Rec.key (r:Rec):List Key:=gE r.a r.b
noncomputable def Rec.ent (r:Rec):Option D:=r.put.map fun p=>.tup [.str p.1,mkD r.a r.b,.int p.2]
noncomputable def upF {α:Type} (f:Nat->α) (i:Nat) (x:α):Nat->α:=fun j=>if j=i then x else f j
theorem cM {x:α}:upF f i x i=x:=if_pos rfl
theorem cZ {x:α} (h:j≠i):upF f i x j=f j:=if_neg h
section
variable {B ω:Om}{c h dd oo kk:Nat}{ks:Nat->Nat}{rs:List Rec}{kn:Nat->Nat->List Int}{ρ:Rho}{f:OG D}
end
noncomputable def cW (row:List Int) (r:Rec):Bool:=decide ((r.b:Int)<=row.getD r.a 0)
noncomputable def NM (rs:List Rec) (row:List Int):List (List Key):=(rs.filter (cW row)).flatMap (·.outs)
noncomputable def Dd (rs:List Rec) (row:List Int):List D:=(rs.filter (cW row)).filterMap Rec.ent
noncomputable def Nz (q:List Key) (l:List (List Key)):Bool:=l.any fun k=>decide (k=q)
theorem memK_iff:Nz q l=true↔q∈l:=by
 unfold Nz;rw[nq];constructor
 ·rintro⟨k,hk,e⟩
  rw[<- of_decide_eq_true e];exact hk
 ·exact fun h=>⟨q,h,decide_eq_true rfl⟩
noncomputable def jO (rs:List Rec) (row:List Int):List D:=(Dd rs row).filter fun d=> !Nz (aS d) (NM rs row)
structure PY (c:Nat) (own:Nat->Nat) (rs:List Rec):Prop where
 keys:(rs.map Rec.key).Nodup
 inn:∀ r∈rs,r.a<c/\1<=r.b/\r.b<=own r.a
 outs:∀ r∈rs,r.outs.length<64/\∀ q∈r.outs,KeyIn c own q
section
variable {B ω:Om}{c h dd oo kk:Nat}{ks:Nat->Nat}{rs:List Rec}{kn:Nat->Nat->List Int}{own:Nat->Nat}
end
section
variable {B ω:Om}{c h dd oo kk:Nat}{ks:Nat->Nat}{rs:List Rec}{kn:Nat->Nat->List Int}{own:Nat->Nat}
end
noncomputable def mo (kn:Nat->Nat->List Int) (one other k j:Nat):Int:=if k=other then mx (mx ((kn one k).getD j 0) ((kn other k).getD j 0)) ((kn one one).getD j 0) else mx ((kn one k).getD j 0) ((kn other k).getD j 0)
noncomputable def moR (c:Nat) (kn:Nat->Nat->List Int) (one other k:Nat):List Int:=(bq c).map (mo kn one other k)
section
variable {B ω0:Om}{c h dd oo kk:Nat}{ks:Nat->Nat}{rs:List Rec}{kn:Nat->Nat->List Int}{one other:Nat}
end
theorem lW:∀ {l m:List α},l.Nodup->m.Nodup->(∀ x,x∈l↔x∈m)->l.Perm m
 |[],m,_,_,h=>by
  cases m with
  |nil=>exact .refl _
  |cons y m=>exact absurd ((h y).mpr au) (by simp)
 |x::l,m,h1,h2,h=>by
  obtain⟨s,t,rfl⟩:=List.append_of_mem ((h x).mp au);have nd:=h2;rw[cg] at h1;have pm:(s++x::t).Perm (x::(s++t)):=List.perm_middle;have nd2:=pm.nodup_iff.mp nd;rw[cg] at nd2;refine(List.Perm.cons x (lW h1.2 nd2.2 fun y=>⟨fun hy=> ?_,fun hy=> ?_⟩)).trans pm.symm
  ·have:y∈x::(s++t):=pm.mem_iff.mp ((h y).mp (aj _ hy))
   rcases ak.mp this with z|z
   ·exact absurd (z ▸ hy) h1.1
   ·exact z
  ·have:y∈x::l:=(h y).mpr (pm.mem_iff.mpr (aj _ hy))
   rcases ak.mp this with z|z
   ·exact absurd (z ▸ hy) nd2.1
   ·exact z
noncomputable def EntsOk (ds:List D):Prop:=(∀ d∈ds,eT d)/\(ds.map aS).Nodup
theorem Fb (ha:eT a) (hb:eT b) (h:aS a≠aS b):dP 4 a b=we true∨dP 4 b a=we true:=by
 obtain⟨x,p,q,v,rfl⟩:=ha;obtain⟨x',p',q',v',rfl⟩:=hb;rw[Bf,Bf];unfold eLt
 by_cases hx:x=x'
 ·have:¬(p=p'/\q=q'):=fun z=>h (by unfold aS;rw[z.1,z.2])
  subst hx
  have:mLt p q p' q'∨mLt p' q' p q:=by unfold mLt;omega
  rcases this with z|z
  ·exact .inl (.inr ⟨rfl,.inl z⟩)
  ·exact .inr (.inr ⟨rfl,.inl z⟩)
 ·rcases Do hx with z|z
  ·exact .inl (.inl z)
  ·exact .inr (.inl z)
theorem xH (ha:eT a) (hb:eT b) (hc:eT c) (h1:dP 4 a b=we true) (h2:dP 4 b c=we true):dP 4 a c=we true:=by
 obtain⟨x,p,q,v,rfl⟩:=ha;obtain⟨x',p',q',v',rfl⟩:=hb;obtain⟨x2,p2,q2,v2,rfl⟩:=hc;rw[Bf] at*;exact Fc h1 h2
theorem EntsOk.sorted (h:EntsOk ds) (hs:eM 4 ds=we out):out.Pairwise fun a b=>dP 4 a b=we true:=by
 have gm:∀ i,i<ds.length->ds.getD i .non∈ds/\ds[i]?=we (ds.getD i .non):=fun i hi=>by
  rw[am,aw hi];exact⟨gu hi,rfl⟩
 refine Df hs (fun i j hi hj hne=> ?_) fun a ha b hb c hc=>xH (h.1 a ha) (h.1 b hb) (h.1 c hc);refine Fb (h.1 _ (gm i hi).1) (h.1 _ (gm j hj).1) fun z=>hne ?_;have pw:=jr.mp h.2;have hi':i<(ds.map aS).length:=by simpa using hi
 have hj':j<(ds.map aS).length:=by simpa using hj
 have ei:(ds.map aS)[i]=aS (ds.getD i .non):=by
  rw[vf,am,aw hi];rfl
 have ej:(ds.map aS)[j]=aS (ds.getD j .non):=by
  rw[vf,am,aw hj];rfl
 rcases u3 i j with q|q|q
 ·exact absurd (by rw[ei,ej,z]) (pw i j hi' hj' q)
 ·exact q
 ·exact absurd (by rw[ei,ej,z]) (pw j i hj' hi' q)
theorem HQ (ha:eT a) (hb:eT b) (h1:dP 4 a b=we true) (h2:dP 4 b a=we true):False:=by
 have:=xH ha hb ha h1 h2
 obtain⟨x,p,q,v,rfl⟩:=ha;rw[Bf] at this;unfold eLt mLt at this;rcases this with z|⟨_,z⟩
 ·exact rH _ z
 ·omega
theorem De (h:EntsOk ds) (hp:ds.Perm ds') (hs:eM 4 ds=we o) (hs':eM 4 ds'=we o') (p1:o.Perm ds) (p2:o'.Perm ds'):o=o':=by
 have h':EntsOk ds':=⟨fun d hd=>h.1 d (hp.mem_iff.mpr hd),(hp.map aS).nodup_iff.mp h.2⟩;have s1:=h.sorted hs;have s2:=h'.sorted hs';have s1':o.Pairwise fun a b=>eT a/\eT b/\dP 4 a b=we true:=s1.imp_of_mem fun {a b} ha hb q=>⟨h.1 a (p1.mem_iff.mp ha),h.1 b (p1.mem_iff.mp hb),q⟩;have s2':o'.Pairwise fun a b=>eT a/\eT b/\dP 4 a b=we true:=s2.imp_of_mem fun {a b} ha hb q=>⟨h'.1 a (p2.mem_iff.mp ha),h'.1 b (p2.mem_iff.mp hb),q⟩;exact mD (fun a b x y=>HQ x.1 x.2.1 x.2.2 y.2.2) (p1.trans (hp.trans p2.symm)) s1' s2'
section
variable {c:Nat}{own:Nat->Nat}{rs:List Rec}{row:List Int}
theorem Hd.Ok.entsOk {hd:Hd} (W:hd.Ok c):EntsOk (hd.table.map (·.2)):=⟨W.ent,by rw[W.keys];exact W.tn⟩
theorem kZ {ds:List D} (h:(ds.map aS).Nodup):ds.Nodup:=by
 induction ds with
 |nil=>exact vz
 |cons d r ih=>
  rw[bp,cg] at h;rw[cg];exact⟨fun z=>h.1 (az.mpr ⟨d,z,rfl⟩),ih h.2⟩
end
theorem wC (f:Nat->α) (c i:Nat) (x:α):((bq c).map f).set i x=(bq c).map (upF f i x):=by
 apply ke;intro j
 by_cases h:j=i
 ·subst h
  by_cases hj:j<c
  ·rw[fm (by rw[av,iy];exact hj),bc,fz hj];show _=we (upF f j x j);rw[cM]
  ·rw[cz (by simp;omega),cz (by simp;omega)]
 ·rw[hX (cy h),bc,bc];cases hq:(bq c)[j]? with
  |none=>rfl
  |some k=>
   have hk:k=j:=by
    obtain⟨hlt,e⟩:=bi.mp hq;rw[ui] at e;exact e.symm
   subst hk;show we (f k)=we (upF f i x k);rw[cZ h]
theorem uD {xs ys:List Int} (h1:xs.length=c) (h2:ys.length=c) (h:∀ j,j<c->xs.getD j 0=ys.getD j 0):xs=ys:=by
 apply List.ext_getElem (by omega);intro j hj hj'
 have:=h j (by omega)
 rw[am,am,aw hj,aw hj'] at this;exact this
theorem lY {f:Nat->Int} (h:j<c):((bq c).map f).getD j 0=f j:=by
 rw[am,bc,fz h];rfl
theorem gB {r:Rec} (q:r.ent=we d):aS d=r.key:=by
 unfold Rec.ent at q;cases hp:r.put with
 |none=>rw[hp] at q;cases q
 |some p=>rw[hp] at q;cases q;rfl
structure Rel (c:Nat) (own:Nat->Nat) (S:Nat->Hd) (rs:List Rec) (kn:Nat->Nat->List Int):Prop where
 knows:∀ i,i<c->(S i).knows=(bq c).map (kn i)
 recs:PY c own rs
 tab:∀ i,i<c->∀ e,e∈(S i).table.map (·.2)↔e∈jO rs (kn i i)
 clo:∀ i,i<c->∀ r∈rs,cW (kn i i) r=true->∀ q∈r.outs,fR (kn i i) q=true
 le:∀ i j,i<c->j<c->∀ t,t<c->(kn i j).getD t 0<=(kn j j).getD t 0
section
variable {c:Nat}{own:Nat->Nat}{S:Nat->Hd}{rs:List Rec}{kn:Nat->Nat->List Int}{i j a:Nat}
theorem Rel.seen (Q:Rel c own S rs kn) (hi:i<c):(S i).seen i=kn i i:=by
 unfold Hd.seen;rw[Q.knows i hi,am,bc,fz hi];rfl
theorem Rel.row (Q:Rel c own S rs kn) (I:HInv c own S) (hi:i<c) (hj:j<c):kn i j∈(S i).knows/\(kn i j).length=c:=by
 have hm:kn i j∈(S i).knows:=by
  rw[Q.knows i hi];exact az.mpr ⟨j,c5.mpr hj,rfl⟩
 exact⟨hm,(I i hi).1.row _ hm⟩
theorem Rel.ownE (Q:Rel c own S rs kn) (I:HInv c own S) (hi:i<c):(kn i i).getD i 0=own i:=by rw[<- Q.seen hi];exact(I i hi).2
theorem mem_pres:e∈jO rs row↔(∃ r∈rs,cW row r=true/\r.ent=we e)/\∀ r∈rs,cW row r=true->aS e∉r.outs:=by
 unfold jO Dd NM;rw[cf];constructor
 ·rintro⟨h1,h2⟩
  obtain⟨r,hr,he⟩:=jb.mp h1;have hr':=cf.mp hr;refine⟨⟨r,hr'.1,hr'.2,he⟩,fun q hq hs z=> ?_⟩
  have:Nz (aS e) ((rs.filter (cW row)).flatMap (·.outs))=true:=memK_iff.mpr (qh.mpr ⟨q,cf.mpr ⟨hq,hs⟩,z⟩)
  rw[this] at h2;cases h2
 ·rintro⟨⟨r,hr,hs,he⟩,h2⟩
  refine⟨jb.mpr ⟨r,cf.mpr ⟨hr,hs⟩,he⟩,?_⟩;cases hm:Nz (aS e) ((rs.filter (cW row)).flatMap (·.outs)) with
  |false=>rfl
  |true=>
   obtain⟨q,hq,z⟩:=qh.mp (memK_iff.mp hm);have hq':=cf.mp hq;exact absurd z (h2 q hq'.1 hq'.2)
theorem Rel.note (Q:Rel c own S rs kn) (I:HInv c own S) (ha:a<c) (r1:r.a=a) (r2:r.b=own a+1) (ro:r.outs.length<64) (rk:∀ q∈r.outs,KeyIn c own q) (rs':∀ q∈r.outs,fR (kn a a) q=true)
  (k1:hd'.knows=(S a).knows.set a ((kn a a).set a r.b)) (t1:∀ e,e∈hd'.table.map (·.2)↔(e∈(S a).table.map (·.2)∨r.ent=we e)/\aS e∉r.outs):
  Rel c (cU own a) (jV S a hd') (rs++[r]) (upF kn a (upF (kn a) a ((kn a a).set a r.b))):=by
 have len:=(Q.row I ha ha).2;have oe:=Q.ownE I ha;have bo:cU own a a=own a+1:=by unfold cU;rw[if_pos rfl]
 have le':=iA own a
 -- what is seen
 have s1:∀ q∈rs,cW ((kn a a).set a r.b) q=cW (kn a a) q:=fun q hq=>by
  unfold cW;rw[jI _ _ _ _ (by omega)]
  by_cases h:q.a=a
  ·rw[if_pos h,h,oe]
   have:=Q.recs.inn q hq
   rw[h] at this;rw[decide_eq_true (by omega),decide_eq_true (by omega)]
  ·rw[if_neg h]
 have s2:cW ((kn a a).set a r.b) r=true:=by
  unfold cW;rw[jI _ _ _ _ (by omega),if_pos r1];exact decide_eq_true (k9 _)
 have s3:∀ i,i<c->i≠a->cW (kn i i) r=false:=fun i hi hne=>by
  unfold cW;refine decide_eq_false fun z=> ?_
  have:=((I i hi).1.kb _ (Q.row I hi hi).1 a ha).2
  rw[r1] at z;omega
 have sk:∀ q,fR (kn a a) q=true->fR ((kn a a).set a r.b) q=true:=fun q hq=>by
  unfold fR at hq ⊢;split at hq
  ·rename_i x y
   have hq':=of_decide_eq_true hq;refine decide_eq_true ?_;rw[jI _ _ _ _ (by omega)]
   by_cases h:x.toNat=a
   ·rw[if_pos h];rw[h,oe] at hq';omega
   ·rw[if_neg h];exact hq'
  ·cases hq
 have nk:r.key∉rs.map Rec.key:=fun z=>by
  obtain⟨q,hq,e⟩:=az.mp z
  have:=Q.recs.inn q hq
  unfold Rec.key gE at e;simp at e;have e1:q.a=a:=by omega
  rw[e1] at this;omega
 refine⟨fun i hi=> ?_,⟨?_,fun q hq=> ?_,fun q hq=> ?_⟩,fun i hi e=> ?_,fun i hi q hq hs x hx=> ?_,fun i j hi hj t ht=> ?_⟩
 ·by_cases h:i=a
  ·subst h;rw[iL,k1,Q.knows i hi,wC,cM]
  ·rw[iK h,cZ h];exact Q.knows i hi
 ·rw[dr,kh];refine⟨Q.recs.keys,by simp,fun x hx y hy z=>nk ?_⟩
  have:y=r.key:=by simpa using hy
  rw[<- this,<- z];exact hx
 ·rcases c6.mp hq with z|z
  ·have:=Q.recs.inn q z
   exact⟨this.1,this.2.1,ci this.2.2 (le' _)⟩
  ·rw[fk.mp z,r1,r2,bo];omega
 ·rcases c6.mp hq with z|z
  ·exact⟨(Q.recs.outs q z).1,fun x hx=>((Q.recs.outs q z).2 x hx).mono le'⟩
  ·rw[fk.mp z];exact⟨ro,fun x hx=>(rk x hx).mono le'⟩
 ·by_cases h:i=a
  ·subst h;rw[iL,cM,cM,t1,Q.tab i hi,mem_pres,mem_pres];constructor
   ·rintro⟨h1,h2⟩
    refine⟨?_,fun q hq hs=> ?_⟩
    ·rcases h1 with⟨⟨q,hq,hs,he⟩,_⟩|h1
     ·exact⟨q,d4 _ hq,by rw[s1 q hq];exact hs,he⟩
     ·exact⟨r,by simp,s2,h1⟩
    ·rcases c6.mp hq with z|z
     ·rcases h1 with⟨_,h3⟩|h1
      ·exact h3 q z (by rw[<- s1 q z];exact hs)
      ·intro w
       have:=((Q.recs.outs q z).2 _ w)
       rw[gB h1] at this;obtain⟨x,y,g1,g2,g3,e⟩:=this;unfold Rec.key gE at e;simp at e
       have:x=i:=by omega
       rw[this] at g3;omega
     ·rw[fk.mp z];exact h2
   ·rintro⟨⟨q,hq,hs,he⟩,h2⟩
    refine⟨?_,h2 r (by simp) s2⟩;rcases c6.mp hq with z|z
    ·exact .inl ⟨⟨q,z,by rw[<- s1 q z];exact hs,he⟩,fun p hp hps=>h2 p (d4 _ hp) (by rw[s1 p hp];exact hps)⟩
    ·rw[fk.mp z] at he;exact .inr he
  ·rw[iK h,cZ h,Q.tab i hi,mem_pres,mem_pres];constructor
   ·rintro⟨⟨q,hq,hs,he⟩,h2⟩
    refine⟨⟨q,d4 _ hq,hs,he⟩,fun p hp hps=> ?_⟩;rcases c6.mp hp with z|z
    ·exact h2 p z hps
    ·rw[fk.mp z,s3 i hi h] at hps;cases hps
   ·rintro⟨⟨q,hq,hs,he⟩,h2⟩
    refine⟨?_,fun p hp hps=>h2 p (d4 _ hp) hps⟩;rcases c6.mp hq with z|z
    ·exact⟨q,z,hs,he⟩
    ·rw[fk.mp z,s3 i hi h] at hs;cases hs
 ·by_cases h:i=a
  ·subst h;rw[cM,cM] at hs ⊢;rcases c6.mp hq with z|z
   ·exact sk _ (Q.clo i hi q z (by rw[<- s1 q z];exact hs) x hx)
   ·rw[fk.mp z] at hx;exact sk _ (rs' x hx)
  ·rw[cZ h] at hs ⊢;rcases c6.mp hq with z|z
   ·exact Q.clo i hi q z hs x hx
   ·rw[fk.mp z,s3 i hi h] at hs;cases hs
 ·have grow:∀ t,(kn a a).getD t 0<=((kn a a).set a (r.b:Int)).getD t 0:=fun t=>by
   rw[jI _ _ _ _ (by omega)]
   by_cases h:t=a
   ·rw[if_pos h,h,oe];omega
   ·rw[if_neg h];exact k9 _
  by_cases h:i=a
  ·subst h;rw[cM]
   by_cases h2:j=i
   ·subst h2;simp only[cM];exact k9 _
   ·rw[cZ h2,cZ h2];exact Q.le i j hi hj t ht
  ·rw[cZ h]
   by_cases h2:j=a
   ·subst h2;rw[cM,cM];exact Int.le_trans (Q.le i j hi hj t ht) (grow t)
   ·rw[cZ h2];exact Q.le i j hi hj t ht
end
theorem Gm {k:List Key}:(k,v)∈iI T k v:=by
 unfold iI;split
 ·rename_i h
  obtain⟨p,hp,e⟩:=nq.mp h;have e':=of_decide_eq_true e;exact az.mpr ⟨p,hp,by rw[if_pos e',e']⟩
 ·simp
theorem BV {p:List Key×D} (hp:p∈T) (h:p.1≠k∨p.2=v):p∈iI T k v:=by
 unfold iI;split
 ·refine az.mpr ⟨p,hp,?_⟩
  by_cases e:p.1=k
  ·rw[if_pos e];rcases h with z|z
   ·exact absurd e z
   ·rw[<- z]
  ·rw[if_neg e]
 ·exact d4 _ hp
theorem nS:∀ {out:List D}{T:List (List Key×D)}{d:D},(∀ d'∈out,aS d=aS d'->d=d')->(aS d,d)∈T->(aS d,d)∈nU out T
 |[],_,_,_,h=>h
 |x::out,T,d,hu,h=>by
  refine nS (out:=out) (fun d' hd'=>hu d' (aj _ hd')) (BV h ?_)
  by_cases e:aS d=aS x
  ·exact .inr (hu x au e)
  ·exact .inl e
theorem vQ:∀ {out:List D}{T:List (List Key×D)}{d:D},(∀ d'∈out,aS d=aS d'->d=d')->d∈out->(aS d,d)∈nU out T
 |[],_,_,_,h=>by simp at h
 |x::out,T,d,hu,h=>by
  rcases ak.mp h with rfl|h
  ·exact nS (out:=out) (fun d' hd'=>hu d' (aj _ hd')) Gm
  ·exact vQ (out:=out) (fun d' hd'=>hu d' (aj _ hd')) h
theorem BM (hu:∀ d∈out,∀ d'∈out,aS d=aS d'->d=d') (e:D):e∈(nU out []).map (·.2)↔e∈out:=by
 constructor
 ·intro h;obtain⟨p,hp,rfl⟩:=az.mp h;rcases nR hp with z|⟨d,hd,rfl⟩
  ·simp at z
  ·exact hd
 ·exact fun h=>az.mpr ⟨(aS e,e),vQ (hu e h) h,rfl⟩
section
variable {c:Nat}{own:Nat->Nat}{S:Nat->Hd}{rs:List Rec}{kn:Nat->Nat->List Int}{one other:Nat}
theorem AJ {f:List Int->List Int->List Int}:∀ l:List Nat,bt f (l.map p) (l.map q)=l.map fun k=>f (p k) (q k)
 |[]=>rfl
 |x::l=>by
  rw[bp,bp,ii,AJ l,bp]
theorem En:∀ {rs:List Rec}{r r':Rec},(rs.map Rec.key).Nodup->r∈rs->r'∈rs->r.key=r'.key->r=r'
 |[],_,_,_,hr,_,_=>by simp at hr
 |x::l,r,r',nd,hr,hr',hk=>by
  rw[bp,cg] at nd;rcases ak.mp hr with z|z
  ·rcases ak.mp hr' with w|w
   ·rw[z,w]
   ·exact absurd (az.mpr ⟨r',w,by rw[<- hk,z]⟩) nd.1
  ·rcases ak.mp hr' with w|w
   ·exact absurd (az.mpr ⟨r,z,by rw[hk,w]⟩) nd.1
   ·exact En nd.2 z w hk
theorem oE (row:List Int) (r:Rec):fR row r.key=cW row r:=by
 show decide ((r.b:Int)<=row.getD (r.a:Int).toNat 0)=_;rw[d9];rfl
theorem Rel.hear (Q:Rel c own S rs kn) (I:HInv c own S) (c0:0<c) (c8:c<=8) (ht:tot c own<64) (h1:one<c) (h2:other<c) (hne:one≠other):Rel c own (gJ S one other) rs (upF kn other (moR c kn one other)):=by
 have lenK:∀ i j,i<c->j<c->(kn i j).length=c:=fun i j hi hj=>(Q.row I hi hj).2;have moL:∀ k,(moR c kn one other k).length=c:=fun k=>by unfold moR;simp
 have moG:∀ k t,t<c->(moR c kn one other k).getD t 0=mo kn one other k t:=fun k t ht=>lY ht;have W1:=(I one h1).1;have W2:=(I other h2).1;have O1:=W1.ok c0 c8 ht;have O2:=W2.ok c0 c8 ht
 -- the row of what is seen
 have J:moR c kn one other other=bt mx (kn other other) (kn one one):=by
  refine uD (moL other) (by rw[d8,lenK _ _ h2 h2,lenK _ _ h1 h1,iu]) fun t htc=> ?_;rw[moG other t htc,vH (by rw[lenK _ _ h2 h2];exact htc) (by rw[lenK _ _ h1 h1];exact htc)]
  have:=Q.le one other h1 h2 t htc
  unfold mo;rw[if_pos rfl];unfold mx;omega
 have Jg:∀ t,t<c->(moR c kn one other other).getD t 0=mx ((kn other other).getD t 0) ((kn one one).getD t 0):=fun t htc=>by
  rw[J,vH (by rw[lenK _ _ h2 h2];exact htc) (by rw[lenK _ _ h1 h1];exact htc)]
 have sJ:∀ r∈rs,(cW (moR c kn one other other) r=true↔cW (kn other other) r=true∨cW (kn one one) r=true):=fun r hr=>by
  have hra:=(Q.recs.inn r hr).1;unfold cW;rw[Jg r.a hra];simp only[decide_eq_true_eq];unfold mx;omega
 have sKJ:∀ q,KeyIn c own q->(fR (moR c kn one other other) q=true↔fR (kn other other) q=true∨fR (kn one one) q=true):=fun q hq=>by
  obtain⟨x,y,g1,_,_,rfl⟩:=hq;show decide ((y:Int)<=(moR c kn one other other).getD (x:Int).toNat 0)=true↔decide ((y:Int)<=(kn other other).getD (x:Int).toNat 0)=true∨decide ((y:Int)<=(kn one one).getD (x:Int).toNat 0)=true;rw[d9,Jg x g1];simp only[decide_eq_true_eq];unfold mx;omega
 have uniq:∀ {r r':Rec}{e e':D},r∈rs->r'∈rs->r.ent=we e->r'.ent=we e'->aS e=aS e'->e=e':=fun {r r' e e'} hr hr' he he' hk=>by
  rw[gB he,gB he'] at hk
  have:r=r':=En Q.recs.keys hr hr' hk
  rw[this,he'] at he;cases he;rfl
 have pm1:∀ e,e∈(S one).ents↔e∈jO rs (kn one one):=fun e=>by rw[O1.ents.2.mem_iff];exact Q.tab one h1 e
 have pm2:∀ e,e∈(S other).ents↔e∈jO rs (kn other other):=fun e=>by rw[O2.ents.2.mem_iff];exact Q.tab other h2 e
 have lv:∀ i,i<c->(S i).Ok c->∀ {r:Rec}{e:D},r∈rs->r.ent=we e->((S i).leaves i e=true↔e∈jO rs (kn i i)∨cW (kn i i) r=false):=by
  intro i hi O r e hr he;unfold Hd.leaves;rw[Q.seen hi,gB he,oE,ib];have h3:(iH (S i).table r.key).isSome=true↔e∈jO rs (kn i i):=by
   constructor
   ·intro z;obtain⟨v,hv⟩:=l8.mp z;unfold iH at hv;obtain⟨p,hp,rfl⟩:=mw.mp hv;have hpm:=px hp;have hpk:p.1=r.key:=by
     have:=vt hp
     simpa using this
    have hv2:p.2∈jO rs (kn i i):=(Q.tab i hi p.2).mp (az.mpr ⟨p,hpm,rfl⟩);obtain⟨⟨r',hr',_,he'⟩,_⟩:=mem_pres.mp hv2;have hk2:aS p.2=p.1:=by
     obtain⟨x,y,_,_,_,e1,u,w,e2⟩:=(I i hi).1.tk p hpm;rw[e2,e1];rfl
    have:e=p.2:=uniq hr hr' he he' (by rw[gB he,hk2,hpk])
    rw[this];exact hv2
   ·intro z;obtain⟨p,hp,e2⟩:=az.mp ((Q.tab i hi e).mpr z);have hk2:aS p.2=p.1:=by
     obtain⟨x,y,_,_,_,e1,u,w,e2⟩:=(I i hi).1.tk p hp;rw[e2,e1];rfl
    have:r.key∈(S i).table.map (·.1):=az.mpr ⟨p,hp,by rw[<- hk2,e2,gB he]⟩
    obtain⟨v,hv⟩:=CU this;rw[hv];rfl
  rw[h3];cases cW (kn i i) r <;> simp
 refine⟨fun i hi=> ?_,Q.recs,fun i hi e=> ?_,fun i hi q hq hs x hx=> ?_,fun i j hi hj t htc=> ?_⟩
 ·by_cases h:i=other
  ·subst h;unfold gJ;rw[iL,cM]
   show(bt (bt mx) (S i).knows (S one).knows).set i (bt mx ((S i).seen i) ((S one).seen one))=_
   rw[Q.knows i hi,Q.knows one h1,AJ,wC,Q.seen hi,Q.seen h1];apply fy;intro k hk;have hkc:=c5.mp hk
   by_cases hki:k=i
   ·subst hki;rw[cM,J]
   ·rw[cZ hki];refine uD (by rw[d8,lenK _ _ hi hkc,lenK _ _ h1 hkc,iu]) (moL k) fun t htc=> ?_;rw[moG k t htc,vH (by rw[lenK _ _ hi hkc];exact htc) (by rw[lenK _ _ h1 hkc];exact htc)];unfold mo;rw[if_neg hki];unfold mx;omega
  ·unfold gJ;rw[iK h,cZ h];exact Q.knows i hi
 ·by_cases h:i=other
  ·subst h;unfold gJ;rw[iL,cM];show e∈(nU ((S i).hearT i (S one) one) []).map (·.2)↔_;have hrec:∀ d∈(S i).hearT i (S one) one,∃ r∈rs,r.ent=we d:=fun d hd=>by
    rcases c6.mp hd with z|z
    ·obtain⟨⟨r,hr,_,he⟩,_⟩:=mem_pres.mp ((pm2 d).mp (cf.mp z).1);exact⟨r,hr,he⟩
    ·obtain⟨⟨r,hr,_,he⟩,_⟩:=mem_pres.mp ((pm1 d).mp (cf.mp z).1);exact⟨r,hr,he⟩
   rw[BM fun d hd d' hd' hk=>by
    obtain⟨r,hr,he⟩:=hrec d hd;obtain⟨r',hr',he'⟩:=hrec d' hd';exact uniq hr hr' he he' hk]
   unfold Hd.hearT;rw[c6,cf,cf,pm1,pm2];constructor
   ·intro z
    -- e is a deed's entry
    have he:∃ r∈rs,r.ent=we e:=by
     rcases z with z|z
     ·obtain⟨⟨r,hr,_,he⟩,_⟩:=mem_pres.mp z.1;exact⟨r,hr,he⟩
     ·obtain⟨⟨r,hr,_,he⟩,_⟩:=mem_pres.mp z.1;exact⟨r,hr,he⟩
    obtain⟨r,hr,he⟩:=he;rw[lv one h1 O1 hr he,lv i hi O2 hr he] at z;rw[mem_pres];have sr:∀ {row:List Int},e∈jO rs row->cW row r=true:=fun {row} q=>by
     obtain⟨⟨r',hr',hs',he'⟩,_⟩:=mem_pres.mp q;have hk:r'.key=r.key:=by rw[<- gB he',gB he]
     rw[<- oE,<- hk,oE];exact hs'
    have both:(e∈jO rs (kn i i)/\e∈jO rs (kn one one))∨(e∈jO rs (kn i i)/\cW (kn one one) r=false)∨(e∈jO rs (kn one one)/\cW (kn i i) r=false):=by
     rcases z with⟨z1,z2|z2⟩|⟨z1,z2|z2⟩
     ·exact .inl ⟨z1,z2⟩
     ·exact .inr (.inl ⟨z1,z2⟩)
     ·exact .inl ⟨z2,z1⟩
     ·exact .inr (.inr ⟨z1,z2⟩)
    have clos:∀ k,k<c->cW (kn k k) r=false->∀ p∈rs,cW (kn k k) p=true->aS e∉p.outs:=fun k hk hs p hp hps w=>by
     have:=Q.clo k hk p hp hps _ w
     rw[gB he,oE,hs] at this;cases this
    refine⟨⟨r,hr,(sJ r hr).mpr ?_,he⟩,fun p hp hps=> ?_⟩
    ·rcases both with z|z|z
     ·exact .inl (sr z.1)
     ·exact .inl (sr z.1)
     ·exact .inr (sr z.1)
    ·rcases(sJ p hp).mp hps with w|w
     ·rcases both with z|z|z
      ·exact(mem_pres.mp z.1).2 p hp w
      ·exact(mem_pres.mp z.1).2 p hp w
      ·exact clos i hi z.2 p hp w
     ·rcases both with z|z|z
      ·exact(mem_pres.mp z.2).2 p hp w
      ·exact clos one h1 z.2 p hp w
      ·exact(mem_pres.mp z.1).2 p hp w
   ·intro z;obtain⟨⟨r,hr,hs,he⟩,hn⟩:=mem_pres.mp z;have inP:∀ k,k<c->(∀ p∈rs,cW (kn k k) p=true->cW (moR c kn one i i) p=true)->cW (kn k k) r=true->e∈jO rs (kn k k):=fun k hk hsub hks=>mem_pres.mpr ⟨⟨r,hr,hks,he⟩,fun p hp hps=>hn p hp (hsub p hp hps)⟩;have p2:=inP i hi fun p hp q=>(sJ p hp).mpr (.inl q);have p1:=inP one h1 fun p hp q=>(sJ p hp).mpr (.inr q);rw[lv one h1 O1 hr he,lv i hi O2 hr he]
    rcases(sJ r hr).mp hs with w|w
    ·cases hq:cW (kn one one) r with
     |true=>exact .inl ⟨p2 w,.inl (p1 hq)⟩
     |false=>exact .inl ⟨p2 w,.inr rfl⟩
    ·cases hq:cW (kn i i) r with
     |true=>exact .inr ⟨p1 w,.inl (p2 hq)⟩
     |false=>exact .inr ⟨p1 w,.inr rfl⟩
  ·unfold gJ;rw[iK h,cZ h];exact Q.tab i hi e
 ·by_cases h:i=other
  ·subst h;rw[cM] at hs ⊢;have kx:=(Q.recs.outs q hq).2 x hx
   rcases(sJ q hq).mp hs with w|w
   ·exact(sKJ x kx).mpr (.inl (Q.clo i hi q hq w x hx))
   ·exact(sKJ x kx).mpr (.inr (Q.clo one h1 q hq w x hx))
  ·rw[cZ h] at hs ⊢;exact Q.clo i hi q hq hs x hx
 ·by_cases h:i=other
  ·subst h;rw[cM]
   by_cases hji:j=i
   ·subst hji;rw[cM];exact k9 _
   ·rw[cZ hji,moG j t htc];have e1:=Q.le one j h1 hj t htc;have e2:=Q.le i j hi hj t htc;unfold mo;rw[if_neg hji];unfold mx;omega
  ·rw[cZ h]
   by_cases hji:j=other
   ·subst hji;rw[cM,Jg t htc];have e1:=Q.le i j hi hj t htc;unfold mx;omega
   ·rw[cZ hji];exact Q.le i j hi hj t htc
end
theorem drops_mem:∀ {ks:List (List Key)}{T:List (List Key×D)},p∈ks.foldl dQ T↔p∈T/\p.1∉ks
 |[],T=>by simp
 |k::ks,T=>by
  show p∈ks.foldl dQ (dQ T k)↔_;rw[drops_mem];unfold dQ;rw[cf,ak,not_or];constructor
  ·rintro⟨⟨h1,h2⟩,h3⟩
   exact⟨h1,by simpa using h2,h3⟩
  ·rintro⟨h1,h2,h3⟩
   exact⟨⟨h1,by simpa using h2⟩,h3⟩
section
variable {c:Nat}{own:Nat->Nat}{S:Nat->Hd}{rs:List Rec}{kn:Nat->Nat->List Int}{a:Nat}
theorem Hd.In.tkey {hd:Hd} (W:hd.In c own) (hp:p∈hd.table):aS p.2=p.1:=by
 obtain⟨x,y,_,_,_,e1,u,w,e2⟩:=W.tk p hp;rw[e2,e1];rfl
theorem GN (I:HInv c own S) (ha:a<c):(S a).next a=((own a+1:Nat):Int):=by
 unfold Hd.next;rw[(I a ha).2];omega
theorem Ko (I:HInv c own S) (ha:a<c):gE a ((own a+1:Nat):Int)∉(S a).table.map (·.1):=fun z=>by
 obtain⟨p,hp,e⟩:=az.mp z;obtain⟨x,y,_,_,g3,e1,_⟩:=(I a ha).1.tk p hp;rw[e1] at e;unfold gE at e;simp at e
 have:x=a:=by omega
 rw[this] at g3;omega
theorem mC (Q:Rel c own S rs kn) (I:HInv c own S) (ha:a<c):((S a).bump a).knows=(S a).knows.set a ((kn a a).set a ((own a+1:Nat):Int)):=by
 show(S a).knows.set a (((S a).seen a).set a (((S a).seen a).getD a 0+1))=_
 rw[(I a ha).2,Q.seen ha];rfl
theorem AY (I:HInv c own S) (ha:a<c) (x:Str) (v:Int) (e:D):e∈((S a).put a x v).table.map (·.2)↔e∈(S a).table.map (·.2)∨we (D.tup [.str x,mkD a ((own a+1:Nat):Int),.int v])=we e:=by
 show e∈(iI (S a).table (gE a ((S a).next a)) (.tup [.str x,mkD a ((S a).next a),.int v])).map (·.2)↔_;rw[GN I ha,AZ (Ko I ha),dr,c6];simp only[bp,ki,fk,Option.some.injEq];constructor
 ·rintro(z|z)
  ·exact .inl z
  ·exact .inr z.symm
 ·rintro(z|z)
  ·exact .inl z
  ·exact .inr z.symm
theorem Dt (Q:Rel c own S rs kn) (I:HInv c own S) (ha:a<c) (x:Str) (v:Int):HInv c (cU own a) (jV S a ((S a).put a x v))/\Rel c (cU own a) (jV S a ((S a).put a x v)) (rs++[⟨a,own a+1,we (x,v),[]⟩]) (upF kn a (upF (kn a) a ((kn a a).set a ((own a+1:Nat):Int)))):=by
 have W:=(I a ha).1;refine⟨I.updB (W.put ha (I a ha).2 x v) (jM W ha (I a ha).2),Q.note I ha (r:=⟨a,own a+1,we (x,v),[]⟩) rfl rfl (by simp) (fun q hq=>by simp at hq) (fun q hq=>by simp at hq) (mC Q I ha) fun e=> ?_⟩;rw[AY I ha x v e];show _↔(_∨we _=we e)/\_;simp
theorem rR (Q:Rel c own S rs kn) (I:HInv c own S) (O:(S a).Ok c) (ha:a<c) (x:Str):∀ q∈(S a).marksK x,fR (kn a a) q=true:=fun q hq=>by
 obtain⟨p,hp,rfl⟩:=az.mp (O.marksIn x q hq);have h1:p.2∈jO rs (kn a a):=(Q.tab a ha p.2).mp (az.mpr ⟨p,hp,rfl⟩);obtain⟨⟨r,hr,hs,he⟩,_⟩:=mem_pres.mp h1;rw[<- (I a ha).1.tkey hp,gB he,oE];exact hs
theorem rJ (Q:Rel c own S rs kn) (I:HInv c own S) (c0:0<c) (c8:c<=8) (ht:tot c own<63) (ha:a<c) (x:Str) (v:Int):HInv c (cU own a) (jV S a ((S a).change a x v))/\Rel c (cU own a) (jV S a ((S a).change a x v)) (rs++[⟨a,own a+1,we (x,v),(S a).marksK x⟩]) (upF kn a (upF (kn a) a ((kn a a).set a ((own a+1:Nat):Int)))):=by
 have W:=(I a ha).1;have O:=W.ok c0 c8 (by omega);have P:=W.put ha (I a ha).2 x v;have T:=P.takeOut0 (mk:=gE a ((S a).next a)) (ks:=(S a).marksK x) (lA ha (I a ha).2) (O.marksLen x) fun q hq=>(W.marks O x q hq).mono (iA own a);refine⟨I.updB T.forget (jM W ha (I a ha).2),Q.note I ha (r:=⟨a,own a+1,we (x,v),(S a).marksK x⟩) rfl rfl (O.marksLen x) (W.marks O x) (rR Q I O ha x) (mC Q I ha) fun e=> ?_⟩;show e∈(((S a).marksK x).foldl dQ ((S a).put a x v).table).map (·.2)↔(_∨we _=we e)/\_;rw[<- AY I ha x v e];constructor
 ·intro z;obtain⟨p,hp,rfl⟩:=az.mp z;have hp':=drops_mem.mp hp;exact⟨az.mpr ⟨p,hp'.1,rfl⟩,by rw[P.tkey hp'.1];exact hp'.2⟩
 ·rintro⟨z,w⟩
  obtain⟨p,hp,rfl⟩:=az.mp z;rw[P.tkey hp] at w;exact az.mpr ⟨p,drops_mem.mpr ⟨hp,w⟩,rfl⟩
theorem AV (Q:Rel c own S rs kn) (I:HInv c own S) (c0:0<c) (c8:c<=8) (ht:tot c own<63) (ha:a<c) (x:Str) (hm:(S a).marksK x≠[]):HInv c (cU own a) (jV S a ((S a).take a x))/\Rel c (cU own a) (jV S a ((S a).take a x)) (rs++[⟨a,own a+1,wf,(S a).marksK x⟩]) (upF kn a (upF (kn a) a ((kn a a).set a ((own a+1:Nat):Int)))):=by
 have W:=(I a ha).1;have O:=W.ok c0 c8 (by omega);have P:=W.bump ha (I a ha).2;have T:=P.takeOut0 (mk:=gE a ((S a).next a)) (ks:=(S a).marksK x) (lA ha (I a ha).2) (O.marksLen x) fun q hq=>(W.marks O x q hq).mono (iA own a);have et:(S a).take a x=((S a).bump a).takeOut (gE a ((S a).next a)) ((S a).marksK x):=by unfold Hd.take;rw[if_neg hm]
 rw[et];refine⟨I.updB T.forget (jM W ha (I a ha).2),Q.note I ha (r:=⟨a,own a+1,wf,(S a).marksK x⟩) rfl rfl (O.marksLen x) (W.marks O x) (rR Q I O ha x) (mC Q I ha) fun e=> ?_⟩;show e∈(((S a).marksK x).foldl dQ (S a).table).map (·.2)↔(_∨wf=we e)/\_;constructor
 ·intro z;obtain⟨p,hp,rfl⟩:=az.mp z;have hp':=drops_mem.mp hp;exact⟨.inl (az.mpr ⟨p,hp'.1,rfl⟩),by rw[W.tkey hp'.1];exact hp'.2⟩
 ·rintro⟨z|z,w⟩
  ·obtain⟨p,hp,rfl⟩:=az.mp z;rw[W.tkey hp] at w;exact az.mpr ⟨p,drops_mem.mpr ⟨hp,w⟩,rfl⟩
  ·cases z
theorem eO (I:HInv c own S) (c0:0<c) (c8:c<=8) (ht:tot c own<64) (hi:i<c) (hj:j<c):HInv c own (gJ S j i):=by
 have Wi:=(I i hi).1;have Wj:=(I j hj).1;have H0:=Wi.hear0 Wj (Wi.ok c0 c8 ht) (Wj.ok c0 c8 ht) hi hj;exact I.upd H0.forget (Bl Wi Wj hi hj (I i hi).2)
end
section
variable {c:Nat}{own:Nat->Nat}{S:Nat->Hd}{rs:List Rec}{kn:Nat->Nat->List Int}{a b i t:Nat}
theorem Ny {one other k j:Nat} (hj:j<c):(moR c kn one other k).getD j 0=mo kn one other k j:=lY hj
theorem Qv (c:Nat):Rel c (fun _=>0) (fun _=>Hd0 c) [] (fun _ _=>ax c 0) where
 knows:=fun i hi=>by
  show ax c (ax c (0:Int))=_;apply ke;intro j;rw[ee,bc]
  by_cases h:j<c
  ·rw[if_pos h,fz h];rfl
  ·rw[if_neg h,cz (by simp;omega)];rfl
 recs:=⟨by simp,fun r hr=>by simp at hr,fun r hr=>by simp at hr⟩
 tab:=fun i hi e=>by simp[Hd0,jO,Dd]
 clo:=fun i hi r hr=>by simp at hr
 le:=fun i j hi hj t ht=>k9 _
end
theorem EntsOk.sorts {ds:List D} (E:EntsOk ds) (hl:ds.length<64):∃ out,eM 4 ds=we out/\out.Perm ds:=by
 refine sY hl ?_ fun a ha b hb=>IS (E.1 a ha) (E.1 b hb);unfold iO;rw[ib];right;rw[d6];intro d hd;rw[Bw (E.1 d hd)];rfl
section
variable {c:Nat}{own:Nat->Nat}{S:Nat->Hd}{rs:List Rec}{kn:Nat->Nat->List Int}{a b i t:Nat}
end
structure Prm (c:Nat) (f:Nat->Nat):Prop where
 lt:∀ i,i<c->f i<c
 inj:∀ i j,i<c->j<c->f i=f j->i=j
 sur:∀ k,k<c->∃ i,i<c/\f i=k
noncomputable def Qw (c:Nat) (f:Nat->Nat) (r r':Rec):Prop:=r'.a=f r.a/\r'.b=r.b/\r'.put=r.put/\∀ a b:Nat,a<c->(gE a b∈r.outs↔gE (f a) b∈r'.outs)
theorem DK {α β:Type}{R:α->β->Prop}:∀ {l:List α}{m:List β}{a:α},iq R l m->a∈l->∃ b,b∈m/\R a b
 |_,_,_,.nil,h=>by cases h
 |_,_,a,.cons r t,h=>by
  rcases ak.mp h with rfl|h
  ·exact⟨_,au,r⟩
  ·obtain⟨b,h1,h2⟩:=DK t h;exact⟨b,aj _ h1,h2⟩
theorem DJ {α β:Type}{R:α->β->Prop}:∀ {l:List α}{m:List β}{b:β},iq R l m->b∈m->∃ a,a∈l/\R a b
 |_,_,_,.nil,h=>by cases h
 |_,_,b,.cons r t,h=>by
  rcases ak.mp h with rfl|h
  ·exact⟨_,au,r⟩
  ·obtain⟨a,h1,h2⟩:=DJ t h;exact⟨a,aj _ h1,h2⟩
theorem wF {α β:Type}{R:α->β->Prop}{a:α}{b:β} (h:R a b):∀ {l:List α}{m:List β},iq R l m->iq R (l++[a]) (m++[b])
 |_,_,.nil=>.cons h .nil
 |_,_,.cons r t=>.cons r (wF h t)
structure Ren (c:Nat) (f:Nat->Nat) (own:Nat->Nat) (rs:List Rec) (kn:Nat->Nat->List Int) (own':Nat->Nat) (rs':List Rec) (kn':Nat->Nat->List Int):Prop where
 own:∀ a,a<c->own' (f a)=own a
 kn:∀ i j t,i<c->j<c->t<c->(kn' (f i) (f j)).getD (f t) 0=(kn i j).getD t 0
 recs:iq (Qw c f) rs rs'
noncomputable def CP (f:Nat->Nat):D->D
 |.tup [.str x,.tup [.int a,.int b],.int v]=>.tup [.str x,.tup [.int (f a.toNat),.int b],.int v]
 |d=>d
section
variable {c:Nat}{f:Nat->Nat}{own own':Nat->Nat}{S S':Nat->Hd}{rs rs':List Rec}{kn kn':Nat->Nat->List Int}{i j n m t:Nat}
theorem nB (R:Ren c f own rs kn own' rs' kn') (hi:i<c) {r r':Rec} (hr:r.a<c) (q:Qw c f r r'):cW (kn' (f i) (f i)) r'=cW (kn i i) r:=by
 unfold cW;rw[q.1,q.2.1,R.kn i i r.a hi hi hr]
theorem sX (P:Prm c f) (R:Ren c f own rs kn own' rs' kn') (Q:Rel c own S rs kn) (Q':Rel c own' S' rs' kn') (hi:i<c) {a b:Nat} (ha:a<c) (x:Str) (v:Int):
  (D.tup [.str x,mkD a b,.int v]∈(S i).table.map (·.2)↔D.tup [.str x,mkD (f a) b,.int v]∈(S' (f i)).table.map (·.2)):=by
 rw[Q.tab i hi,Q'.tab (f i) (P.lt i hi),mem_pres,mem_pres];have ent:∀ {r:Rec}{a b:Nat},r.ent=we (D.tup [.str x,mkD a b,.int v])↔r.put=we (x,v)/\r.a=a/\r.b=b:=fun {r a b}=>by
  unfold Rec.ent mkD;cases hp:r.put with
  |none=>simp
  |some p=>
   obtain⟨y,w⟩:=p;constructor
   ·intro h;simp at h;obtain⟨h1,⟨h2,h3⟩,h4⟩:=h;exact⟨by rw[h1,h4],by omega,by omega⟩
   ·rintro⟨h1,h2,h3⟩
    cases h1;rw[<- h2,<- h3];rfl
 have k1:aS (D.tup [.str x,mkD a b,.int v])=gE a b:=rfl;have k2:aS (D.tup [.str x,mkD (f a) b,.int v])=gE (f a) b:=rfl;rw[k1,k2];constructor
 ·rintro⟨⟨r,hr,h1,h2⟩,h3⟩
  obtain⟨r',hr',q⟩:=DK R.recs hr;obtain⟨e1,e2,e3⟩:=ent.mp h2;refine⟨⟨r',hr',?_,ent.mpr ⟨by rw[q.2.2.1,e1],by rw[q.1,e2],by rw[q.2.1,e3]⟩⟩,fun s' hs' g1 g2=> ?_⟩
  ·rw[nB R hi (Q.recs.inn r hr).1 q];exact h1
  ·obtain⟨s,hs,qs⟩:=DJ R.recs hs';rw[nB R hi (Q.recs.inn s hs).1 qs] at g1;exact h3 s hs g1 ((qs.2.2.2 a b ha).mpr g2)
 ·rintro⟨⟨r',hr',h1,h2⟩,h3⟩
  obtain⟨r,hr,q⟩:=DJ R.recs hr';obtain⟨e1,e2,e3⟩:=ent.mp h2;have hra:=(Q.recs.inn r hr).1;refine⟨⟨r,hr,?_,ent.mpr ⟨by rw[<- q.2.2.1,e1],P.inj _ _ hra ha (by rw[<- q.1,e2]),by rw[<- q.2.1,e3]⟩⟩,fun s hs g1 g2=> ?_⟩
  ·rw[<- nB R hi hra q];exact h1
  ·obtain⟨s',hs',qs⟩:=DK R.recs hs;rw[<- nB R hi (Q.recs.inn s hs).1 qs] at g1;exact h3 s' hs' g1 ((qs.2.2.2 a b ha).mp g2)
theorem fP (I:HInv c own S) (c0:0<c) (c8:c<=8) (ht:tot c own<64) (hi:i<c) {d:D} (hd:d∈(S i).ents):∃(a b:Nat) (x:Str) (v:Int),a<c/\d=.tup [.str x,mkD a b,.int v]:=by
 have W:=(I i hi).1;have O:=W.ok c0 c8 ht;obtain⟨kv,h1,rfl⟩:=az.mp (O.ents.2.mem_iff.mp hd);obtain⟨a,b,ha,_,_,_,x,v,e⟩:=W.tk kv h1;exact⟨a,b,x,v,ha,e⟩
theorem HP (P:Prm c f) (R:Ren c f own rs kn own' rs' kn') (I:HInv c own S) (Q:Rel c own S rs kn) (I':HInv c own' S') (Q':Rel c own' S' rs' kn') (c0:0<c) (c8:c<=8) (ht:tot c own<64) (ht':tot c own'<64) (hi:i<c):(S' (f i)).ents.Perm ((S i).ents.map (CP f)):=by
 have O:=(I i hi).1.ok c0 c8 ht;have O':=(I' (f i) (P.lt i hi)).1.ok c0 c8 ht';refine lW (kZ O'.entsNodup) ?_ fun e=> ?_
 ·refine kZ ?_;rw[gy];refine(mr.mpr ((mr.mp O.entsNodup).imp_of_mem fun {d d'} hd hd' hne z=>hne ?_));obtain⟨a,b,x,v,ha,rfl⟩:=fP I c0 c8 ht hi hd;obtain⟨a',b',x',v',ha',rfl⟩:=fP I c0 c8 ht hi hd';have z':([.inl ((f a:Nat):Int),.inl (b:Int)]:List Key)=[.inl ((f a':Nat):Int),.inl (b':Int)]:=z;simp at z'
  have:=P.inj a a' ha ha' (by omega)
  show([.inl (a:Int),.inl (b:Int)]:List Key)=[.inl (a':Int),.inl (b':Int)]
  rw[this];simp;omega
 ·rw[O'.ents.2.mem_iff];constructor
  ·intro he;obtain⟨a',b,x,v,ha',rfl⟩:=fP I' c0 c8 ht' (P.lt i hi) (O'.ents.2.mem_iff.mpr he);obtain⟨a,ha,rfl⟩:=P.sur a' ha';exact az.mpr ⟨_,O.ents.2.mem_iff.mpr ((sX P R Q Q' hi ha x v).mpr he),rfl⟩
  ·intro he;obtain⟨d,hd,rfl⟩:=az.mp he;obtain⟨a,b,x,v,ha,rfl⟩:=fP I c0 c8 ht hi hd;exact(sX P R Q Q' hi ha x v).mp (O.ents.2.mem_iff.mp hd)
theorem Ei (P:Prm c f) (R:Ren c f own rs kn own' rs' kn') (I:HInv c own S) (Q:Rel c own S rs kn) (I':HInv c own' S') (Q':Rel c own' S' rs' kn') (c0:0<c) (c8:c<=8) (ht:tot c own<64) (ht':tot c own'<64) (hi:i<c) (x:Str) {a b:Nat} (ha:a<c):gE a b∈(S i).marksK x↔gE (f a) b∈(S' (f i)).marksK x:=by
 have O:=(I i hi).1.ok c0 c8 ht;have O':=(I' (f i) (P.lt i hi)).1.ok c0 c8 ht';unfold Hd.marksK;rw[az,az];constructor
 ·rintro⟨d,hd,e⟩
  obtain⟨h1,h2⟩:=cf.mp hd;obtain⟨a1,b1,y,v,ha1,rfl⟩:=fP I c0 c8 ht hi h1;have e':([.inl (a1:Int),.inl (b1:Int)]:List Key)=[.inl (a:Int),.inl (b:Int)]:=e;simp at e';obtain⟨rfl,rfl⟩:a1=a/\b1=b:=by omega
  exact⟨_,cf.mpr ⟨O'.ents.2.mem_iff.mpr ((sX P R Q Q' hi ha y v).mp (O.ents.2.mem_iff.mp h1)),h2⟩,rfl⟩
 ·rintro⟨d,hd,e⟩
  obtain⟨h1,h2⟩:=cf.mp hd;obtain⟨a1,b1,y,v,ha1,rfl⟩:=fP I' c0 c8 ht' (P.lt i hi) h1;have e':([.inl (a1:Int),.inl (b1:Int)]:List Key)=[.inl ((f a:Nat):Int),.inl (b:Int)]:=e;simp at e';obtain⟨rfl,rfl⟩:a1=f a/\b1=b:=by omega
  exact⟨_,cf.mpr ⟨O.ents.2.mem_iff.mpr ((sX P R Q Q' hi ha y v).mpr (O'.ents.2.mem_iff.mp h1)),h2⟩,rfl⟩
theorem wZ {xs:List Int}{k t:Nat}{v:Int} (hk:k<xs.length):(xs.set k v).getD t 0=if t=k then v else xs.getD t 0:=by
 rw[am,u0]
 by_cases h:k=t
 ·subst h;simp[hk]
 ·rw[if_neg h,if_neg (cy h),am]
theorem Ren.note (P:Prm c f) (R:Ren c f own rs kn own' rs' kn') (len:∀ i j,i<c->j<c->(kn i j).length=c) (len':∀ i j,i<c->j<c->(kn' i j).length=c) (hn:n<c) {p:Option (Str×Int)}{o o':List (List Key)} (ho:∀ a b:Nat,a<c->(gE a b∈o↔gE (f a) b∈o')):
  Ren c f (cU own n) (rs++[⟨n,own n+1,p,o⟩]) (upF kn n (upF (kn n) n ((kn n n).set n ((own n+1:Nat):Int)))) (cU own' (f n)) (rs'++[⟨f n,own' (f n)+1,p,o'⟩]) (upF kn' (f n) (upF (kn' (f n)) (f n) ((kn' (f n) (f n)).set (f n) ((own' (f n)+1:Nat):Int)))):=by
 have hfn:=P.lt n hn;refine⟨fun a ha=> ?_,fun i j t hi hj ht=> ?_,wF ⟨rfl,by show own' (f n)+1=own n+1;rw[R.own n hn],rfl,ho⟩ R.recs⟩
 ·unfold cU
  by_cases h:a=n
  ·rw[if_pos h,h,if_pos rfl,R.own n hn]
  ·rw[if_neg h,if_neg fun z=>h (P.inj _ _ ha hn z),R.own a ha]
 ·by_cases h:i=n
  ·subst h;rw[cM,cM]
   by_cases h2:j=i
   ·subst h2;rw[cM,cM,wZ (by rw[len' _ _ hfn hfn];exact hfn),wZ (by rw[len _ _ hn hn];exact hn),R.own j hn]
    by_cases h3:t=j
    ·rw[h3,if_pos rfl,if_pos rfl]
    ·rw[if_neg h3,if_neg fun z=>h3 (P.inj _ _ ht hn z)];exact R.kn j j t hn hn ht
   ·rw[cZ h2,cZ fun z=>h2 (P.inj _ _ hj hn z)];exact R.kn i j t hi hj ht
  ·rw[cZ h,cZ fun z=>h (P.inj _ _ hi hn z)];exact R.kn i j t hi hj ht
theorem Ren.hear (P:Prm c f) (R:Ren c f own rs kn own' rs' kn') (hn:n<c) (hm:m<c):Ren c f own rs (upF kn m (moR c kn n m)) own' rs' (upF kn' (f m) (moR c kn' (f n) (f m))):=by
 refine⟨R.own,fun i j t hi hj ht=> ?_,R.recs⟩
 by_cases h:i=m
 ·subst h;rw[cM,cM,Ny (P.lt t ht),Ny ht];unfold mo;rw[R.kn n j t hn hj ht,R.kn i j t hi hj ht,R.kn n n t hn hn ht]
  by_cases h2:j=i
  ·rw[h2,if_pos rfl,if_pos rfl]
  ·rw[if_neg h2,if_neg fun z=>h2 (P.inj _ _ hj hi z)]
 ·rw[cZ h,cZ fun z=>h (P.inj _ _ hi hm z)];exact R.kn i j t hi hj ht
end
noncomputable def gM (c:Nat) (f:Nat->Nat) (a:Int):Int:=if 0<=a/\a<c then(f a.toNat:Int) else a
noncomputable def Deed.ren (c:Nat) (f:Nat->Nat):Deed->Deed
 |.put a x v=>.put (gM c f a) x v
 |.change a x v=>.change (gM c f a) x v
 |.take a x=>.take (gM c f a) x
 |.tell a b=>.tell (gM c f a) (gM c f b)
 |.meet a b=>.meet (gM c f a) (gM c f b)
noncomputable def Deed.two:Deed->Bool
 |.tell _ _=>true
 |.meet _ _=>true
 |_=>false
theorem Gr:∀ {l m:List Int},l.Perm m->l.sum=m.sum:=fun h=>by
 induction h with
 |nil=>rfl
 |cons x _ ih=>rw[m5,m5,ih]
 |swap x y l=>simp only[m5];omega
 |trans _ _ a b=>exact a.trans b
theorem nL {c:Nat}{xs:List Int} (h:xs.length=c):xs=(bq c).map fun j=>xs.getD j 0:=uD h (by simp) fun j hj=>by rw[lY hj]
theorem zwI {g:Int->Int->Int}{p q:Nat->Int}:∀ l:List Nat,bt g (l.map p) (l.map q)=l.map fun k=>g (p k) (q k)
 |[]=>rfl
 |a::l=>by simp only[bp,ii,zwI l]
section
variable {c:Nat}{f:Nat->Nat}{own own':Nat->Nat}{S S':Nat->Hd}{rs rs':List Rec}{kn kn':Nat->Nat->List Int}{i j n m t:Nat}{a:Int}
theorem fT (hn:n<c):gM c f (n:Int)=((f n:Nat):Int):=by
 unfold gM;rw[if_pos ⟨by omega,by omega⟩];rfl
theorem iN (h:¬(0<=a/\a<(c:Int))):gM c f a=a:=if_neg h
theorem BX (P:Prm c f):((bq c).map f).Perm (bq c):=by
 refine lW ?_ nj fun x=> ?_
 ·refine mr.mpr (nj.imp_of_mem fun {a b} ha hb hne z=>hne (P.inj a b (c5.mp ha) (c5.mp hb) z))
 ·rw[az,c5];constructor
  ·rintro⟨k,hk,rfl⟩
   exact P.lt k (c5.mp hk)
  ·intro hx;obtain⟨k,hk,rfl⟩:=P.sur x hx;exact⟨k,c5.mpr hk,rfl⟩
theorem Kn (P:Prm c f) {xs ys xs' ys':List Int} (h1:xs.length=c) (h2:ys.length=c) (h3:xs'.length=c) (h4:ys'.length=c) (ex:∀ t,t<c->xs'.getD (f t) 0=xs.getD t 0) (ey:∀ t,t<c->ys'.getD (f t) 0=ys.getD t 0):Kp xs ys=Kp xs' ys':=by
 unfold Kp;rw[nL h1,nL h2,zwI];have e:(bt (fun x y=>mx (y-x) 0) xs' ys').sum=((bq c).map fun t=>mx (ys'.getD t 0-xs'.getD t 0) 0).sum:=by
  conv=>lhs;rw[nL h3,nL h4,zwI]
 rw[e,<- Gr ((BX P).map fun t=>mx (ys'.getD t 0-xs'.getD t 0) 0),gy]
 congr 1
 refine fy fun t ht=> ?_;have ht':=c5.mp ht;show _=mx (ys'.getD (f t) 0-xs'.getD (f t) 0) 0;rw[ex t ht',ey t ht']
theorem sW (P:Prm c f) (R:Ren c f own rs kn own' rs' kn') (I:HInv c own S) (Q:Rel c own S rs kn) (I':HInv c own' S') (Q':Rel c own' S' rs' kn') (hn:n<c) (hm:m<c):iG S n m=iG S' (f n) (f m):=by
 have hfn:=P.lt n hn;have hfm:=P.lt m hm;unfold iG;rw[Q.seen hm,Q.seen hn,Q'.seen hfm,Q'.seen hfn];exact Kn P (Q.row I hm hm).2 (Q.row I hn hn).2 (Q'.row I' hfm hfm).2 (Q'.row I' hfn hfn).2 (fun t ht=>R.kn m m t hm hm ht) fun t ht=>R.kn n n t hn hn ht
structure Two (c:Nat) (f:Nat->Nat) (S S':Nat->Hd) (k:Nat):Prop where
 ex:∃ own rs kn own' rs' kn',Ren c f own rs kn own' rs' kn'/\HInv c own S/\Rel c own S rs kn/\HInv c own' S'/\Rel c own' S' rs' kn'/\tot c own<=k/\tot c own'<=k
theorem FS (P:Prm c f) (c0:0<c) (c8:c<=8) {k:Nat} (hk:k<63) (T:Two c f S S' k) (d:Deed):Two c f (step c S d).2 (step c S' (d.ren c f)).2 (k+1)/\(d.two=true->(step c S d).1=(step c S' (d.ren c f)).1):=by
 obtain⟨own,rs,kn,own',rs',kn',R,I,Q,I',Q',t1,t2⟩:=T.ex;have same:Two c f S S' (k+1):=⟨own,rs,kn,own',rs',kn',R,I,Q,I',Q',by omega,by omega⟩;have len:∀ i j,i<c->j<c->(kn i j).length=c:=fun i j hi hj=>(Q.row I hi hj).2;have len':∀ i j,i<c->j<c->(kn' i j).length=c:=fun i j hi hj=>(Q'.row I' hi hj).2;have tb:∀ {o:Nat->Nat}{a:Nat},a<c->tot c o<=k->tot c (cU o a)<=k+1:=fun {o a} ha ho=>by rw[jC,if_pos ha];omega
 have out:∀ {n:Nat},n<c->∀ x,(∀ a b:Nat,a<c->(gE a b∈(S n).marksK x↔gE (f a) b∈(S' (f n)).marksK x)):=fun hn x a b ha=>Ei P R I Q I' Q' c0 c8 (by omega) (by omega) hn x ha;cases d with
 |put a x v=>
  refine⟨?_,fun z=>by cases z⟩
  by_cases hv:0<=a/\a<(c:Int)
  ·obtain⟨n,rfl⟩:=Int.eq_ofNat_of_zero_le hv.1;have hn:n<c:=by omega
   have hfn:=P.lt n hn;show Two c f (step c S (.put n x v)).2 (step c S' (.put (gM c f n) x v)).2 (k+1);rw[fT hn,show step c S (.put n x v)=(mkD n ((S n).next n),jV S n ((S n).put n x v)) from if_pos hv,show step c S' (.put (f n:Nat) x v)=(mkD (f n) ((S' (f n)).next (f n)),jV S' (f n) ((S' (f n)).put (f n) x v)) from if_pos ⟨by omega,by omega⟩];have A:=Dt Q I hn x v;have B:=Dt Q' I' hfn x v;exact⟨_,_,_,_,_,_,R.note P len len' hn (fun a b _=>by simp),A.1,A.2,B.1,B.2,tb hn t1,tb hfn t2⟩
  ·show Two c f (step c S (.put a x v)).2 (step c S' (.put (gM c f a) x v)).2 (k+1);rw[iN hv,show step c S (.put a x v)=(.str "no hand",S) from if_neg hv,show step c S' (.put a x v)=(.str "no hand",S') from if_neg hv];exact same
 |change a x v=>
  refine⟨?_,fun z=>by cases z⟩
  by_cases hv:0<=a/\a<(c:Int)
  ·obtain⟨n,rfl⟩:=Int.eq_ofNat_of_zero_le hv.1;have hn:n<c:=by omega
   have hfn:=P.lt n hn;show Two c f (step c S (.change n x v)).2 (step c S' (.change (gM c f n) x v)).2 (k+1);rw[fT hn,show step c S (.change n x v)=(mkD n ((S n).next n),jV S n ((S n).change n x v)) from if_pos hv,show step c S' (.change (f n:Nat) x v)=(mkD (f n) ((S' (f n)).next (f n)),jV S' (f n) ((S' (f n)).change (f n) x v)) from if_pos ⟨by omega,by omega⟩];have A:=rJ Q I c0 c8 (by omega) hn x v;have B:=rJ Q' I' c0 c8 (by omega) hfn x v;exact⟨_,_,_,_,_,_,R.note P len len' hn (out hn x),A.1,A.2,B.1,B.2,tb hn t1,tb hfn t2⟩
  ·show Two c f (step c S (.change a x v)).2 (step c S' (.change (gM c f a) x v)).2 (k+1);rw[iN hv,show step c S (.change a x v)=(.str "no hand",S) from if_neg hv,show step c S' (.change a x v)=(.str "no hand",S') from if_neg hv];exact same
 |take a x=>
  refine⟨?_,fun z=>by cases z⟩
  by_cases hv:0<=a/\a<(c:Int)
  ·obtain⟨n,rfl⟩:=Int.eq_ofNat_of_zero_le hv.1;have hn:n<c:=by omega
   have hfn:=P.lt n hn;show Two c f (step c S (.take n x)).2 (step c S' (.take (gM c f n) x)).2 (k+1);rw[fT hn,show step c S (.take n x)=((S n).takeA x,jV S n ((S n).take n x)) from if_pos hv,show step c S' (.take (f n:Nat) x)=((S' (f n)).takeA x,jV S' (f n) ((S' (f n)).take (f n) x)) from if_pos ⟨by omega,by omega⟩];have nil:(S n).marksK x=[]↔(S' (f n)).marksK x=[]:=by
    have W:=(I n hn).1;have W':=(I' (f n) hfn).1;constructor
    ·intro h;refine List.eq_nil_iff_forall_not_mem.mpr fun q hq=> ?_;obtain⟨a',b,ha',_,_,rfl⟩:=W'.marks (W'.ok c0 c8 (by omega)) x q hq;obtain⟨a,ha,rfl⟩:=P.sur a' ha'
     have:=(out hn x a b ha).mpr hq
     rw[h] at this;cases this
    ·intro h;refine List.eq_nil_iff_forall_not_mem.mpr fun q hq=> ?_;obtain⟨a,b,ha,_,_,rfl⟩:=W.marks (W.ok c0 c8 (by omega)) x q hq
     have:=(out hn x a b ha).mp hq
     rw[h] at this;cases this
   have keep:∀ {S:Nat->Hd}{n:Nat},(S n).marksK x=[]->jV S n ((S n).take n x)=S:=fun {S n} h=>by
    have et:(S n).take n x=S n:=by unfold Hd.take;rw[if_pos h]
    rw[et]
    funext j
    by_cases h:j=n
    ·rw[h,iL]
    ·rw[iK h]
   by_cases hm:(S n).marksK x=[]
   ·show Two c f (jV S n ((S n).take n x)) (jV S' (f n) ((S' (f n)).take (f n) x)) (k+1);rw[keep hm,keep (nil.mp hm)];exact same
   ·have A:=AV Q I c0 c8 (by omega) hn x hm;have B:=AV Q' I' c0 c8 (by omega) hfn x fun z=>hm (nil.mpr z);exact⟨_,_,_,_,_,_,R.note P len len' hn (out hn x),A.1,A.2,B.1,B.2,tb hn t1,tb hfn t2⟩
  ·show Two c f (step c S (.take a x)).2 (step c S' (.take (gM c f a) x)).2 (k+1);rw[iN hv,show step c S (.take a x)=(.str "no hand",S) from if_neg hv,show step c S' (.take a x)=(.str "no hand",S') from if_neg hv];exact same
 |tell a b=>
  show Two c f (step c S (.tell a b)).2 (step c S' (.tell (gM c f a) (gM c f b))).2 (k+1)/\(_->(step c S (.tell a b)).1=(step c S' (.tell (gM c f a) (gM c f b))).1)
  by_cases hv:(0<=a/\a<(c:Int))/\(0<=b/\b<(c:Int))
  ·obtain⟨n,rfl⟩:=Int.eq_ofNat_of_zero_le hv.1.1;obtain⟨m,rfl⟩:=Int.eq_ofNat_of_zero_le hv.2.1;have hn:n<c:=by omega
   have hm:m<c:=by omega
   have hfn:=P.lt n hn;have hfm:=P.lt m hm;have hv':(0<=((f n:Nat):Int)/\((f n:Nat):Int)<c)/\(0<=((f m:Nat):Int)/\((f m:Nat):Int)<c):=by omega
   rw[fT hn,fT hm]
   by_cases hnm:n=m
   ·subst hnm;rw[show step c S (.tell n n)=(.str "same hand",S) from(if_pos hv).trans (if_pos rfl),show step c S' (.tell (f n:Nat) (f n:Nat))=(.str "same hand",S') from(if_pos hv').trans (if_pos rfl)];exact⟨same,fun _=>rfl⟩
   ·have hf:f n≠f m:=fun z=>hnm (P.inj _ _ hn hm z);rw[show step c S (.tell n m)=(.int (iG S n m),gJ S n m) from(if_pos hv).trans (if_neg (by omega)),show step c S' (.tell (f n:Nat) (f m:Nat))=(.int (iG S' (f n) (f m)),gJ S' (f n) (f m)) from(if_pos hv').trans (if_neg (by omega))];exact⟨⟨_,_,_,_,_,_,R.hear P hn hm,eO I c0 c8 (by omega) hm hn,Q.hear I c0 c8 (by omega) hn hm hnm,eO I' c0 c8 (by omega) hfm hfn,Q'.hear I' c0 c8 (by omega) hfn hfm hf,by omega,by omega⟩,fun _=>by rw[sW P R I Q I' Q' hn hm]⟩
  ·have hv':¬((0<=gM c f a/\gM c f a<(c:Int))/\(0<=gM c f b/\gM c f b<(c:Int))):=fun z=>by
    by_cases ha:0<=a/\a<(c:Int)
    ·have hb:¬(0<=b/\b<(c:Int)):=fun y=>hv ⟨ha,y⟩;rw[iN hb] at z;exact hb z.2
    ·rw[iN ha] at z;exact ha z.1
   rw[show step c S (.tell a b)=(.str "no hand",S) from if_neg hv,show step c S' (.tell (gM c f a) (gM c f b))=(.str "no hand",S') from if_neg hv'];exact⟨same,fun _=>rfl⟩
 |meet a b=>
  show Two c f (step c S (.meet a b)).2 (step c S' (.meet (gM c f a) (gM c f b))).2 (k+1)/\(_->(step c S (.meet a b)).1=(step c S' (.meet (gM c f a) (gM c f b))).1)
  by_cases hv:(0<=a/\a<(c:Int))/\(0<=b/\b<(c:Int))
  ·obtain⟨n,rfl⟩:=Int.eq_ofNat_of_zero_le hv.1.1;obtain⟨m,rfl⟩:=Int.eq_ofNat_of_zero_le hv.2.1;have hn:n<c:=by omega
   have hm:m<c:=by omega
   have hfn:=P.lt n hn;have hfm:=P.lt m hm;have hv':(0<=((f n:Nat):Int)/\((f n:Nat):Int)<c)/\(0<=((f m:Nat):Int)/\((f m:Nat):Int)<c):=by omega
   rw[fT hn,fT hm]
   by_cases hnm:n=m
   ·subst hnm;rw[show step c S (.meet n n)=(.str "same hand",S) from(if_pos hv).trans (if_pos rfl),show step c S' (.meet (f n:Nat) (f n:Nat))=(.str "same hand",S') from(if_pos hv').trans (if_pos rfl)];exact⟨same,fun _=>rfl⟩
   ·have hf:f n≠f m:=fun z=>hnm (P.inj _ _ hn hm z);rw[show step c S (.meet n m)=(.tup [.int (iG (gJ S n m) m n),.int (iG S n m)],Eh S n m) from(if_pos hv).trans (if_neg (by omega)),show step c S' (.meet (f n:Nat) (f m:Nat))=(.tup [.int (iG (gJ S' (f n) (f m)) (f m) (f n)),.int (iG S' (f n) (f m))],Eh S' (f n) (f m)) from(if_pos hv').trans (if_neg (by omega))];have I1:=eO I c0 c8 (by omega) hm hn;have Q1:=Q.hear I c0 c8 (by omega) hn hm hnm;have I2:=eO I1 c0 c8 (by omega) hn hm;have Q2:=Q1.hear I1 c0 c8 (by omega) hm hn (cy hnm);have I1':=eO I' c0 c8 (by omega) hfm hfn;have Q1':=Q'.hear I' c0 c8 (by omega) hfn hfm hf;have I2':=eO I1' c0 c8 (by omega) hfn hfm;have Q2':=Q1'.hear I1' c0 c8 (by omega) hfm hfn (cy hf);exact⟨⟨_,_,_,_,_,_,((R.hear P hn hm).hear P hm hn).hear P hn hm,eO I2 c0 c8 (by omega) hm hn,Q2.hear I2 c0 c8 (by omega) hn hm hnm,eO I2' c0 c8 (by omega) hfm hfn,Q2'.hear I2' c0 c8 (by omega) hfn hfm hf,by omega,by omega⟩,fun _=>by rw[sW P R I Q I' Q' hn hm,sW P (R.hear P hn hm) I1 Q1 I1' Q1' hm hn]⟩
  ·have hv':¬((0<=gM c f a/\gM c f a<(c:Int))/\(0<=gM c f b/\gM c f b<(c:Int))):=fun z=>by
    by_cases ha:0<=a/\a<(c:Int)
    ·have hb:¬(0<=b/\b<(c:Int)):=fun y=>hv ⟨ha,y⟩;rw[iN hb] at z;exact hb z.2
    ·rw[iN ha] at z;exact ha z.1
   rw[show step c S (.meet a b)=(.str "no hand",S) from if_neg hv,show step c S' (.meet (gM c f a) (gM c f b))=(.str "no hand",S') from if_neg hv'];exact⟨same,fun _=>rfl⟩
theorem CW (P:Prm c f) (c0:0<c) (c8:c<=8):∀(ds:List Deed) {S S':Nat->Hd}{k:Nat},k+ds.length<64->Two c f S S' k->Two c f (vD c ds S).2 (vD c (ds.map (Deed.ren c f)) S').2 (k+ds.length)/\∀(n:Nat) (d:Deed),ds[n]?=we d->d.two=true->(vD c ds S).1[n]?=(vD c (ds.map (Deed.ren c f)) S').1[n]?
 |[],S,S',k,_,T=>⟨T,fun n d e=>by cases e⟩
 |d::ds,S,S',k,hk,T=>by
  rw[bv] at hk;obtain⟨T1,a1⟩:=FS P c0 c8 (by omega) T d;obtain⟨T2,a2⟩:=CW P c0 c8 ds (by omega) T1;refine⟨?_,fun n d' e h=> ?_⟩
  ·rw[bv,show k+(ds.length+1)=k+1+ds.length by omega];exact T2
  ·cases n with
   |zero=>
    simp at e;subst e;show we (step c S d).1=we (step c S' (d.ren c f)).1;rw[a1 h]
   |succ n=>exact a2 n d' (by simpa using e) h
theorem QA (P:Prm c f):Two c f (fun _=>Hd0 c) (fun _=>Hd0 c) 0:=
 ⟨fun _=>0,[],fun _ _=>ax c 0,fun _=>0,[],fun _ _=>ax c 0,⟨fun _ _=>rfl,fun i j t hi hj ht=>by
  have:∀ m:Nat,(ax c (0:Int)).getD m 0=0:=fun m=>by rw[am,ee];split <;> rfl
  rw[this,this],.nil⟩,Ir c,Qv c,Ir c,Qv c,by rw[LK];omega,by rw[LK];omega⟩
end
noncomputable def ni' (l:List Nat):List D:=l.map fun(k:Nat)=>.int (k:Int)
theorem wM {α β:Type} (g:α->β):∀(l:List α) (k:Nat),(l.map g).eraseIdx k=(l.eraseIdx k).map g
 |[],_=>rfl
 |_::_,0=>rfl
 |a::l,k+1=>by
  show g a::(l.map g).eraseIdx k=g a::(l.eraseIdx k).map g;rw[wM g l k]
theorem rK:∀(l:List Nat) (k:Nat) (h:k<l.length),l.Perm (l[k]::l.eraseIdx k)
 |a::l,0,_=>.refl _
 |a::l,k+1,h=>((rK l k (by simpa using h)).cons a).trans (.swap ..)
theorem Mo {ω:Om}{n:Nat}{ds:List D}{k:Nat}{v:D} (e:ω[n]?=we (.ml ds)) (hk:k<1000) (hv:ds[k]?=we v):zR ω (.obj n) [.int (k:Int)]=we (v,ω.set n (.ml (ds.eraseIdx k))):=by
 simp only[zR,e];rw[if_pos ⟨by omega,by omega⟩,d9,hv];rfl
theorem An {ω:Om}{n:Nat}{ds:List D}{v:D} (e:ω[n]?=we (.ml ds)) (hl:ds.length<1000):mB ω (.obj n) [v]=we (.non,ω.set n (.ml (ds++[v]))):=by
 simp only[mB,e];rw[if_pos (by rw[b8];omega)]
theorem rO {c n m:Nat} (c8:c<=8) (hnm:n≠m) {x:Int}:∀(r s:Nat) {ω:Om}{R O:List Nat}{v4:Option D},ω[n]?=we (.ml (ni' R))->ω[m]?=we (.ml (ni' O))->R.length=r->O.length+r<=8->s+r=c->
  ∃ ω' O' v4',bY (aY 4) bO dZ (jY s r) [we (.int x),we (.int c),we (.obj n),we (.obj m),v4] ω=we (.nx [we (.int x),we (.int c),we (.obj n),we (.obj m),v4'],ω')/\(R++O).Perm O'/\ω'[m]?=we (.ml (ni' O'))/\ω'.length=ω.length/\∀ k:Nat,k≠n->k≠m->ω'[k]?=ω[k]?
 |0,s,ω,R,O,v4,hR,hO,lR,lO,hs=>⟨ω,O,v4,rfl,by rw[List.eq_nil_of_length_eq_zero lR];exact .refl _,hO,rfl,fun _ _ _=>rfl⟩
 |r+1,s,ω,R,O,v4,hR,hO,lR,lO,hs=>by
  have hq:=Ca (x:=x / ((s:Int)+1)*48271 % 1087) (q:=(R.length:Int)) (by omega);obtain⟨k,hk⟩:=Int.eq_ofNat_of_zero_le hq.1;have hkR:k<R.length:=by omega
  have g1:(ni' R)[k]?=we (.int (R[k]:Int)):=by unfold ni';rw[bc,aw hkR];rfl
  have e1:=Mo hR (by omega) g1;have er:(ni' R).eraseIdx k=ni' (R.eraseIdx k):=by unfold ni';exact wM _ _ _
  rw[er] at e1;have hO1:(ω.set n (.ml (ni' (R.eraseIdx k))))[m]?=we (.ml (ni' O)):=by rw[aM (cy hnm)];exact hO
  have e2:=An (v:=.int (R[k]:Int)) hO1 (by unfold ni';rw[av];omega);have eo:ni' O++[.int (R[k]:Int)]=ni' (O++[R[k]]):=by unfold ni';rw[dr];rfl
  rw[eo] at e2;have hR2:((ω.set n (.ml (ni' (R.eraseIdx k)))).set m (.ml (ni' (O++[R[k]]))))[n]?=we (.ml (ni' (R.eraseIdx k))):=by rw[aM hnm];exact cB hR
  have hO2:((ω.set n (.ml (ni' (R.eraseIdx k)))).set m (.ml (ni' (O++[R[k]]))))[m]?=we (.ml (ni' (O++[R[k]]))):=cB hO1;obtain⟨ω',O',w4,e3,p3,h3,l3,k3⟩:=rO c8 hnm (x:=x) r (s+1) (v4:=we (.int (s:Int))) hR2 hO2 (by rw[List.length_eraseIdx_of_lt hkR];omega) (by rw[b7,gk];omega) (by omega);refine⟨ω',O',w4,?_,?_,h3,by rw[l3];simp,fun k hk1 hk2=>by rw[k3 k hk1 hk2,aM hk2,aM hk1]⟩
  ·rw[fB];refine(bW rfl rfl (ρ2:=[we (.int x),we (.int c),we (.obj n),we (.obj m),we (.int (s:Int))]) (ω2:=(ω.set n (.ml (ni' (R.eraseIdx k)))).set m (.ml (ni' (O++[R[k]])))) ?_).trans e3;have ei:o2 (lf cH) (o2 (lf cH) (o2 (lf iF) (o2 (lf KQ) (zV 0) (o2 (lf vG) (zV 4) (zI 1))) (zI 48271)) (zI 1087)) (oL cJ (aC (zV 2) aJ)) [we (.int x),we (.int c),we (.obj n),we (.obj m),we (.int (s:Int))] ω=we (.ok (.int (k:Int)),ω):=by
    rw[<- hk];refine mT (a:=x / ((s:Int)+1)) (q:=(R.length:Int)) (fH (aB (d:=.int x) rfl) (sG (aB (d:=.int (s:Int)) rfl) aW) ?_) ?_ (by decide) (by omega)
    ·show(if 0<(s:Int)+1/\(s:Int)+1<1073741824 then we (D.int (x / ((s:Int)+1))) else wf)=_
     rw[if_pos ⟨by omega,by omega⟩]
    ·refine dE (aA (aB (d:=.obj n) rfl) aD) ?_
     have:cV ω (.obj n)=we (ni' R):=by unfold cV;simp only[hR]
     simp only[cJ,this];unfold ni';rw[av]
   unfold dZ bX;exact(bR (lB (aB (d:=.obj m) rfl) hO (aA (lB (aB (d:=.obj n) rfl) hR (aA ei aD) e1) aD) e2)).trans rfl
  ·refine List.Perm.trans ?_ p3;rw[<- dy];exact((rK R k hkR).append_right O).trans (List.perm_append_singleton _ _).symm
theorem Gy {c:Nat} (c0:0<c) (c8:c<=8) (x:Int) (ω:Om):∃ ω' O,fY [.int x,.int c] ω=we (.ok (.obj (ω.length+1)),ω')/\O.Perm (bq c)/\ω'[ω.length+1]?=we (.ml (ni' O))/\ω.length<=ω'.length/\∀ k:Nat,k<ω.length->ω'[k]?=ω[k]?:=by
 obtain⟨ω1,hω1⟩:∃ ω1:Om,ω1=ω++[Ob.ml (ni' (bq c)),.ml []]:=⟨_,rfl⟩;have g0:ω1[ω.length]?=we (.ml (ni' (bq c))):=by rw[hω1];simp
 have g1:ω1[ω.length+1]?=we (.ml (ni' [])):=by rw[hω1];simp[ni']
 obtain⟨ω',O,v4,e,p,h,l,k⟩:=rO c8 (n:=ω.length) (m:=ω.length+1) (by omega) (x:=x) c 0 (v4:=wf) g0 g1 (by simp) (by simp;exact c8) (by omega);rw[c7] at p;refine⟨ω',O,?_,p.symm,h,by rw[l,hω1];simp,fun j hj=>by rw[k j (by omega) (by omega),hω1,ay hj]⟩;refine aV rfl ?_;have ec:dO Lc (oIA jP (aC (zV 1) aJ)) [wf] (aY 0) (oPT jN) (zV 0) [we (.int x),we (.int c),wf,wf,wf] ω=we (.ok (.obj ω.length),ω++[.ml (ni' (bq c))]):=by
  refine tJ (ds:=jY 0 c) (chk:=bO) (ω1:=ω) (kP (c:=c) (aB (d:=.int c) rfl) (by omega)) (by unfold jY;rw[av,iy,b8];omega) ?_;have e:ni' (bq c)=(jY 0 c).map fun d=>d:=by
   unfold ni' jY;rw[gy];refine fy fun k _=> ?_;show D.int (k:Int)=D.int (0+(k:Int));rw[Int.zero_add]
  rw[e];refine jL (fun ρ=>∃ u,ρ=[u]) rfl ⟨_,rfl⟩ fun d hd ρ hρ=> ?_;obtain⟨u,rfl⟩:=hρ;exact⟨_,rfl,⟨_,rfl⟩,rfl⟩
 refine(aO ec).trans ?_;refine(aO (d:=.obj (ω.length+1)) (ω1:=ω1) (by
  rw[hω1];show we (Rz.ok (D.obj (ω++[Ob.ml (ni' (bq c))]).length),(ω++[Ob.ml (ni' (bq c))])++[Ob.ml []])=_;simp)).trans ?_
 refine(bD (dS (by
  unfold bF;rw[bR (kP (c:=c) (aB (d:=.int c) rfl) (by omega))];exact e))).trans ?_
 exact bB (aB (d:=.obj (ω.length+1)) rfl)
theorem Mn {c:Nat}{O:List Nat} (p:O.Perm (bq c)):Prm c fun i=>O.getD i 0:=by
 have l:O.length=c:=by rw[p.length_eq];simp
 have nd:O.Nodup:=p.nodup_iff.mpr nj;have g:∀ i,(h:i<c)->O.getD i 0=O[i]'(by omega):=fun i h=>by rw[am,aw (by omega)];rfl
 refine⟨fun i hi=> ?_,fun i j hi hj e=> ?_,fun k hk=> ?_⟩
 ·show O.getD i 0<c;rw[g i hi];exact c5.mp (p.mem_iff.mp (gu _))
 ·have e':O.getD i 0=O.getD j 0:=e;rw[g i hi,g j hj] at e';have pw:=jr.mp nd;rcases u3 i j with q|q|q
  ·exact absurd e' (pw i j (by omega) (by omega) q)
  ·exact q
  ·exact absurd e'.symm (pw j i (by omega) (by omega) q)
 ·obtain⟨i,hi,e⟩:=List.mem_iff_getElem.mp (p.mem_iff.mpr (c5.mpr hk));exact⟨i,by omega,by show O.getD i 0=k;rw[g i (by omega)];exact e⟩
theorem Ik {t u:OG Bool}{ρ:Rho}{ω:Om} (e:t ρ ω=we (.ok false,ω)):yD t u ρ ω=we (.ok false,ω):=by
 unfold yD;rw[bA e];rfl
theorem Ij {t u:OG Bool}{ρ:Rho}{ω:Om}{r:Option (Rz Bool×Om)} (e:t ρ ω=we (.ok true,ω)) (e2:u ρ ω=r):yD t u ρ ω=r:=by
 unfold yD;rw[bA e];exact e2
theorem Ib {f g h:OG D}{ρ:Rho}{ω:Om}{a:Int}{c:Nat} (e1:f ρ ω=we (.ok (.int 0),ω)) (e2:g ρ ω=we (.ok (.int a),ω)) (e3:h ρ ω=we (.ok (.int c),ω)):iP gLe gLt f g h ρ ω=we (.ok (decide (0<=a/\a<c)),ω):=by
 unfold iP;rw[bA e1,bA e2]
 show(match we (decide (0<=a)) with
  |none=>wf
  |some true=>oB _ (fun z _ ω=>oR (pu ((gLt (.int a) z).bind toB) ω)) ρ ω
  |some false=>we (Rz.ok false,ω))=_
 by_cases h0:0<=a
 ·rw[decide_eq_true h0];show oB _ (fun z _ ω=>oR (pu ((gLt (.int a) z).bind toB) ω)) ρ ω=_;rw[bA e3];show we (Rz.ok (decide (a<(c:Int))),ω)=_;simp[h0]
 ·rw[decide_eq_false h0];simp[h0]
noncomputable def FP (c:Nat) (f:Nat->Nat) (k:Nat):D->D
 |.int a=>if k<3 then .int (gM c f a) else .int a
 |d=>d
noncomputable def Gg (c:Nat) (f:Nat->Nat):Nat->List D->List D
 |_,[]=>[]
 |k,p::ps=>FP c f k p::Gg c f (k+1) ps
section
variable {c n m:Nat}{O:List Nat}{ω:Om}{dd:D}
theorem LX (hn:ω[n]?=we (.ml (ni' O))) (lO:O.length=c) {ds:List D} (hm:ω[m]?=we (.ml ds)) (hl:ds.length<100) {k:Nat}{p:D} (hp:(∃ a,p=.int a)∨∃ x,p=.str x) (g0:vF ω dd (.int (k:Int))=we p) {v4:Option D}:
  eR [we dd,we (.obj n),we (.obj m),we (.int (k:Int)),v4] ω=we (.nx [we dd,we (.obj n),we (.obj m),we (.int (k:Int)),we (FP c (fun i=>O.getD i 0) k p)],ω.set m (.ml (ds++[FP c (fun i=>O.getD i 0) k p]))):=by
 refine(aO (aP (aB (d:=dd) rfl) (aB (d:=.int (k:Int)) rfl) g0)).trans ?_;have k3:dG (o2 (lf gLt) (zV 3) (zI 3)) [we dd,we (.obj n),we (.obj m),we (.int (k:Int)),we p] ω=we (.ok (decide ((k:Int)<3)),ω):=cY (fH (aB (d:=.int (k:Int)) rfl) aW rfl);have fin:∀ {q:D},bX (iD mB (zV 2) (aC (zV 4) aJ)) [we dd,we (.obj n),we (.obj m),we (.int (k:Int)),we q] ω=we (.nx [we dd,we (.obj n),we (.obj m),we (.int (k:Int)),we q],ω.set m (.ml (ds++[q]))):=fun {q}=>by
  unfold bX;exact(bR (lB (aB (d:=.obj m) rfl) hm (aA (aB (d:=q) rfl) aD) (An hm (by omega)))).trans rfl
 have skp:∀ {t:OG Bool}{F:OS},t [we dd,we (.obj n),we (.obj m),we (.int (k:Int)),we p] ω=we (.ok false,ω)->FP c (fun i=>O.getD i 0) k p=p->aG (dI t F bH) (bX (iD mB (zV 2) (aC (zV 4) aJ))) [we dd,we (.obj n),we (.obj m),we (.int (k:Int)),we p] ω=we (.nx [we dd,we (.obj n),we (.obj m),we (.int (k:Int)),we (FP c (fun i=>O.getD i 0) k p)],ω.set m (.ml (ds++[FP c (fun i=>O.getD i 0) k p]))):=fun e er=>by
  rw[er];exact(skip e).trans fin
 rcases hp with⟨a,rfl⟩|⟨x,rfl⟩
 ·by_cases hk:k<3
  ·have len:oL cJ (aC (zV 1) aJ) [we dd,we (.obj n),we (.obj m),we (.int (k:Int)),we (.int a)] ω=we (.ok (.int c),ω):=dE (aA (aB (d:=.obj n) rfl) aD) (by
    have:cV ω (.obj n)=we (ni' O):=by unfold cV;simp only[hn]
    simp only[cJ,this];unfold ni';rw[av,lO])
   have tst:=Ij (u:=yD (gQ (fZ (iJ "str" (zV 4)))) (iP gLe gLt (zI 0) (zV 4) (oL cJ (aC (zV 1) aJ)))) (k3.trans (by rw[decide_eq_true (by omega)])) (Ij (u:=iP gLe gLt (zI 0) (zV 4) (oL cJ (aC (zV 1) aJ))) (ω:=ω) (t:=gQ (fZ (iJ "str" (zV 4)))) rfl (Ib aW (aB (d:=.int a) rfl) len))
   by_cases ha:0<=a/\a<(c:Int)
   ·rw[decide_eq_true ha] at tst;obtain⟨j,rfl⟩:=Int.eq_ofNat_of_zero_le ha.1;have er:FP c (fun i=>O.getD i 0) k (.int (j:Int))=.int ((O.getD j 0:Nat):Int):=by
     show(if k<3 then D.int (gM c _ (j:Int)) else _)=_
     rw[if_pos hk,fT (by omega)]
    rw[er];refine(bD (ρ1:=[we dd,we (.obj n),we (.obj m),we (.int (k:Int)),we (.int ((O.getD j 0:Nat):Int))]) (ω1:=ω) ((vW tst).trans ?_)).trans fin
    have:zX (zV 1) (zV 4) [we dd,we (.obj n),we (.obj m),we (.int (k:Int)),we (.int (j:Int))] ω=we (.ok (.int ((O.getD j 0:Nat):Int)),ω):=aP (aB (d:=.obj n) rfl) (aB (d:=.int (j:Int)) rfl) (by
     rw[lZ hn];exact jT (by
      unfold ni';rw[bc,am,aw (by omega)];rfl))
    unfold aX;exact(bR this).trans rfl
   ·rw[decide_eq_false ha] at tst;exact skp tst (by show(if k<3 then D.int (gM c _ a) else _)=_;rw[if_pos hk,iN ha])
  ·exact skp (Ik (k3.trans (by rw[decide_eq_false (by omega)]))) (if_neg hk)
 ·refine skp ?_ rfl
  by_cases hk:k<3
  ·exact Ij (k3.trans (by rw[decide_eq_true (by omega)])) (Ik rfl)
  ·exact Ik (k3.trans (by rw[decide_eq_false (by omega)]))
theorem AU (hnm:n≠m) (lO:O.length=c):∀(ps pre:List D) {ω:Om}{ds:List D}{v3 v4:Option D},ω[n]?=we (.ml (ni' O))->ω[m]?=we (.ml ds)->ds.length+ps.length<100->(∀ p∈ps,(∃ a,p=.int a)∨∃ x,p=.str x)->dd=.tup (pre++ps)->
  ∃ w3 w4,bY (aY 3) bO eR (jY pre.length ps.length) [we dd,we (.obj n),we (.obj m),v3,v4] ω=we (.nx [we dd,we (.obj n),we (.obj m),w3,w4],ω.set m (.ml (ds++Gg c (fun i=>O.getD i 0) pre.length ps)))
 |[],pre,ω,ds,v3,v4,hn,hm,hl,hp,hd=>⟨v3,v4,by
   show we (OOut.nx _,ω)=_;rw[show Gg c (fun i=>O.getD i 0) pre.length []=[] from rfl,c7,kN hm]⟩
 |p::ps,pre,ω,ds,v3,v4,hn,hm,hl,hp,hd=>by
  rw[bv] at hl ⊢;have b:=LX (c:=c) (dd:=dd) hn lO hm (by omega) (k:=pre.length) (hp p au) (v4:=v4) (by
   subst hd;show atI (pre++p::ps) (pre.length:Int)=_;exact jT (by rw[im (bj _)];simp))
  obtain⟨w3,w4,e⟩:=AU hnm lO ps (pre++[p]) (ω:=ω.set m (.ml (ds++[FP c (fun i=>O.getD i 0) pre.length p]))) (ds:=ds++[FP c (fun i=>O.getD i 0) pre.length p]) (v3:=we (.int (pre.length:Int))) (v4:=we (FP c (fun i=>O.getD i 0) pre.length p)) (by rw[aM hnm];exact hn) (cB hm) (by rw[b7,gk];omega) (fun q hq=>hp q (aj _ hq)) (by rw[hd,dy];rfl);refine⟨w3,w4,?_⟩;rw[fB];rw[b7,gk,oa,dy] at e;exact(bW rfl rfl b).trans e
theorem BQ (hn:ω[n]?=we (.ml (ni' O))) (lO:O.length=c) (d:Deed):cD [d.d,.obj n] ω=we (.ok (d.ren c fun i=>O.getD i 0).d,ω++[.ml (match (d.ren c fun i=>O.getD i 0).d with|.tup ds=>ds|_=>[])]):=by
 obtain⟨kd,ps,e1,e2,e3,e4⟩:∃ kd ps,d.d=.tup (kd::ps)/\(∀ p∈ps,(∃ a,p=.int a)∨∃ x,p=D.str x)/\ps.length<=3/\(d.ren c fun i=>O.getD i 0).d=.tup (kd::Gg c (fun i=>O.getD i 0) 1 ps):=by
  cases d with
  |put a x v=>exact⟨_,_,rfl,by simp,by simp,rfl⟩
  |change a x v=>exact⟨_,_,rfl,by simp,by simp,rfl⟩
  |take a x=>exact⟨_,_,rfl,by simp,by simp,rfl⟩
  |tell a b=>exact⟨_,_,rfl,by simp,by simp,rfl⟩
  |meet a b=>exact⟨_,_,rfl,by simp,by simp,rfl⟩
 rw[e1,e4];have ln:n<ω.length:=gF hn;obtain⟨w3,w4,e⟩:=AU (n:=n) (m:=ω.length) (dd:=.tup (kd::ps)) (by omega) lO ps [kd] (ω:=ω++[.ml [kd]]) (ds:=[kd]) (v3:=wf) (v4:=wf) (by rw[ay ln];exact hn) (by simp) (by simp;omega) e2 rfl;have es:(ω++[Ob.ml [kd]]).set ω.length (.ml ([kd]++Gg c (fun i=>O.getD i 0) [kd].length ps))=ω++[.ml (kd::Gg c (fun i=>O.getD i 0) 1 ps)]:=by simp
 rw[es] at e;refine aV rfl ?_;refine(aO (d:=.obj ω.length) (ω1:=ω++[.ml [kd]]) (dE (aA (aP (aB (d:=.tup (kd::ps)) rfl) aW (show vF ω (.tup (kd::ps)) (.int 0)=we kd from jT (ds:=kd::ps) (k:=0) rfl)) aD) rfl)).trans ?_;have er:oIA Hr (aC (zI 1) (aC (oL cJ (aC (zV 0) aJ)) aJ)) [we (.tup (kd::ps)),we (.obj n),we (.obj ω.length),wf,wf] (ω++[Ob.ml [kd]])=we (.ok (jY 1 ps.length,bO),ω++[Ob.ml [kd]]):=by
  unfold oIA;rw[bA (aA (a:=.int 1) (ω1:=ω++[Ob.ml [kd]]) rfl (aA (dY (aB (d:=.tup (kd::ps)) rfl) (.inr rfl)) aD))];show oR (pu ((if -1000000000<=(1:Int)/\(1:Int)<=1000000000/\ -1000000000<=(((kd::ps).length:Nat):Int)/\(((kd::ps).length:Nat):Int)<=1000000000 then we (jY 1 ((((kd::ps).length:Nat):Int)-1).toNat) else wf).map fun xs=>(xs,bO)) _)=_;rw[bv,if_pos ⟨by decide,by decide,by omega,by omega⟩,show(((ps.length+1:Nat):Int)-1).toNat=ps.length by omega];rfl
 refine(bD (ρ1:=[we (.tup (kd::ps)),we (.obj n),we (.obj ω.length),w3,w4]) (ω1:=ω++[Ob.ml (kd::Gg c (fun i=>O.getD i 0) 1 ps)]) (dS (by
  unfold bF;exact(bR er).trans e))).trans ?_
 refine bB (dE (aA (aB (d:=.obj ω.length) rfl) aD) ?_);have sq:cV (ω++[Ob.ml (kd::Gg c (fun i=>O.getD i 0) 1 ps)]) (.obj ω.length)=we (kd::Gg c (fun i=>O.getD i 0) 1 ps):=by unfold cV;simp
 simp only[zP,sq];rfl
theorem wG {q:Nat}{all:List D} (lO:O.length=c):∀(ds:List Deed) {ω:Om}{u:Option D},ω[n]?=we (.ml (ni' O))->ω[q]?=we (.ml all)->∃ ω',compLO (aY 0) (mG q all) (oPT jN) (bE cD (aC (zV 0) (aC (zV 1) aJ))) (ds.map Deed.d) [u,we (.obj n)] ω=we ((ds.map (Deed.ren c fun i=>O.getD i 0)).map Deed.d,ω')/\Keep [] ω ω'
 |[],ω,u,hn,hq=>⟨ω,by
   show(if mG q all ω=true then we ([],ω) else wf)=_
   rw[if_pos (zB hq)];rfl,⟨bj _,fun _ _ _=>rfl⟩⟩
 |d::ds,ω,u,hn,hq=>by
  obtain⟨ω1,hω1⟩:∃ ω1:Om,ω1=ω++[.ml (match (d.ren c fun i=>O.getD i 0).d with|.tup ds=>ds|_=>[])]:=⟨_,rfl⟩;have e1:=BQ (c:=c) hn lO d;rw[<- hω1] at e1;have k1:∀ j:Nat,j<ω.length->ω1[j]?=ω[j]?:=fun j hj=>by rw[hω1,ay hj]
  obtain⟨ω2,e2,K2⟩:=wG (q:=q) (all:=all) lO ds (ω:=ω1) (u:=we d.d) (by rw[k1 n (gF hn)];exact hn) (by rw[k1 q (gF hq)];exact hq);have ll:ω.length<=ω1.length:=by rw[hω1];simp
  refine⟨ω2,?_,⟨ci ll K2.1,fun j hj hm=>by rw[K2.2 j (bx hj ll) hm,k1 j hj]⟩⟩;rw[bp,bp,bp];unfold compLO;rw[if_pos (zB hq)]
  show(match bE cD (aC (zV 0) (aC (zV 1) aJ)) [we d.d,we (.obj n)] ω with
   |some (.ok y,ω2)=>(compLO (aY 0) (mG q all) (oPT jN) (bE cD (aC (zV 0) (aC (zV 1) aJ))) (ds.map Deed.d) [we d.d,we (.obj n)] ω2).map fun r:List D×Om=>(y::r.1,r.2)
   |_=>wf)=_
  rw[aR (aA (aB (d:=d.d) rfl) (aA (aB (d:=.obj n) rfl) aD)) e1]
  show(compLO (aY 0) (mG q all) (oPT jN) (bE cD (aC (zV 0) (aC (zV 1) aJ))) (ds.map Deed.d) [we d.d,we (.obj n)] ω1).map _=_
  rw[e2];rfl
end
theorem vY:∀ {xs:List Int}{u:Option D},∃ v,bY (aY 3) bO gG (iv xs) [F,N,R,u] ω=we (.nx [F,N,R,v],ω)
 |[],u=>⟨u,rfl⟩
 |x::xs,u=>by
  obtain⟨v,e⟩:=vY (F:=F) (N:=N) (R:=R) (ω:=ω) (xs:=xs) (u:=we (.int x));exact⟨v,e⟩
theorem vX:∀ {ts:List (List Int)}{u v:Option D},(∀ t∈ts,t.length=c)->∃ u' v',bY (aY 2) bO cX (ts.map fun xs=>D.lst (iv xs)) [F,we (.int c),u,v] ω=we (.nx [F,we (.int c),u',v'],ω)
 |[],u,v,_=>⟨u,v,rfl⟩
 |t::ts,u,v,h=>by
  obtain⟨w,e1⟩:=vY (F:=F) (N:=we (.int c)) (R:=we (.lst (iv t))) (ω:=ω) (xs:=t) (u:=v);obtain⟨u',v',e2⟩:=vX (F:=F) (c:=c) (ω:=ω) (ts:=ts) (u:=we (.lst (iv t))) (v:=w) fun t' ht=>h t' (aj _ ht);refine⟨u',v',?_⟩;have b2:cX [F,we (.int c),we (.lst (iv t)),v] ω=we (.nx [F,we (.int c),we (.lst (iv t)),w],ω):=by
   unfold cX;rw[skip (tG (fJ (k:=true) (tru_ok (cR (aB (d:=.lst (iv t)) rfl) (by simp[lP,cV,lC,dR])))) (oN (a:=((iv t).length:Nat)) (b:=(c:Int)) (dY (aB (d:=.lst (iv t)) rfl) (.inl rfl)) (aB rfl) (by unfold iv;rw[av,h t au])))];refine dS ?_;unfold bF oIL;rw[bR (x:=(iv t,bO)) (ω1:=ω) (by rw[bA (aB (d:=.lst (iv t)) rfl)];rfl)];exact e1
  refine(bW rfl rfl (b2)).trans ?_;exact e2
theorem Jj {ts:List (List Int)} (h:∀ t∈ts,t.length=c) (hc:ts.length=c) (ω:Om):dA [.lst (ts.map fun xs=>D.lst (iv xs)),.int c] ω=we (.ok (.bl true),ω):=by
 obtain⟨u,v,e⟩:=vX (F:=we (.lst (ts.map fun xs=>D.lst (iv xs)))) (c:=c) (ω:=ω) (ts:=ts) (u:=wf) (v:=wf) h;refine aV rfl ?_;unfold jS;refine(skip (tG (fJ (k:=true) (tru_ok (cR (aB (d:=.lst (ts.map fun xs=>D.lst (iv xs))) rfl) (by simp[lP,cV,lC,dR])))) (oN (a:=((ts.map fun xs=>D.lst (iv xs)).length:Nat)) (b:=(c:Int)) (dY (aB (d:=.lst (ts.map fun xs=>D.lst (iv xs))) rfl) (.inl rfl)) (aB rfl) (by rw[av,hc])))).trans ?_;refine(bD (dS (by
  unfold bF oIL;rw[bR (x:=(ts.map fun xs=>D.lst (iv xs),bO)) (ω1:=ω) (by rw[bA (aB (d:=.lst (ts.map fun xs=>D.lst (iv xs))) rfl)];rfl)];exact e))).trans ?_
 rfl
noncomputable abbrev wR (sc:D) (c q:Nat) (oth L Sn K1 K2 R Ag:D) (v11 v12 v13 v14 v15 v16 v17 v18 v19:Option D):Rho:=[we sc,we (.int c),we (.obj 1),we (.obj q),we oth,we L,we Sn,we K1,we K2,we R,we Ag,v11,v12,v13,v14,v15,v16,v17,v18,v19]
section
variable {c q m:Nat}{O:List Nat}{sc oth L Sn K1 K2 R Ag:D}{v11 v12 v17 v18 v19:Option D}{ω:Om}
theorem nG (h1:ω[1]?=we (.ml (ni' O))) {i:Nat} (hi:i<O.length):vF ω (.obj 1) (.int (i:Int))=we (.int ((O.getD i 0:Nat):Int)):=by
 rw[lZ h1];exact jT (by
  unfold ni';rw[bc,am,aw hi];rfl)
theorem vZ (lO:O.length=c) (m1:m≠1):∀(es:List D) {ω:Om}{ds:List D}{v14 v15 v16:Option D},ω[1]?=we (.ml (ni' O))->ω[m]?=we (.ml ds)->ds.length+es.length<100->(∀ d∈es,∃(a b:Nat) (x:Str) (v:Int),a<c/\d=.tup [.str x,mkD a b,.int v])->
  ∃ w14 w15 w16,bY (Oy 14 15 16) bO nH es (wR sc c q oth L Sn K1 K2 R Ag v11 v12 (we (.obj m)) v14 v15 v16 v17 v18 v19) ω=we (.nx (wR sc c q oth L Sn K1 K2 R Ag v11 v12 (we (.obj m)) w14 w15 w16 v17 v18 v19),ω.set m (.ml (ds++es.map (CP fun i=>O.getD i 0))))
 |[],ω,ds,v14,v15,v16,h1,hm,hl,he=>⟨v14,v15,v16,by
   show we (OOut.nx _,ω)=_;rw[ki,c7,kN hm]⟩
 |e::es,ω,ds,v14,v15,v16,h1,hm,hl,he=>by
  rw[bv] at hl;obtain⟨a,b,x,v,ha,rfl⟩:=he e au;have b3:nH (wR sc c q oth L Sn K1 K2 R Ag v11 v12 (we (.obj m)) (we (.str x)) (we (mkD a b)) (we (.int v)) v17 v18 v19) ω=we (.nx (wR sc c q oth L Sn K1 K2 R Ag v11 v12 (we (.obj m)) (we (.str x)) (we (mkD a b)) (we (.int v)) v17 v18 v19),ω.set m (.ml (ds++[CP (fun i=>O.getD i 0) (.tup [.str x,mkD a b,.int v])]))):=by
   unfold nH bX;refine(bR (lB (aB (d:=.obj m) rfl) hm (aA (a:=CP (fun i=>O.getD i 0) (.tup [.str x,mkD a b,.int v])) (ω1:=ω) ?_ aD) (An hm (by omega)))).trans rfl;refine dE (aA (aB (d:=.str x) rfl) (aA (dE (aA (aP (aB (d:=.obj 1) rfl) (aP (aB (d:=mkD a b) rfl) aW (d:=.int (a:Int)) rfl) (nG h1 (by omega))) (aA (aP (aB (d:=mkD a b) rfl) aW (d:=.int (b:Int)) rfl) aD)) rfl) (aA (aB (d:=.int v) rfl) aD))) ?_;rfl
  obtain⟨w14,w15,w16,e2⟩:=vZ lO m1 es (ω:=ω.set m (.ml (ds++[CP (fun i=>O.getD i 0) (.tup [.str x,mkD a b,.int v])]))) (ds:=ds++[CP (fun i=>O.getD i 0) (.tup [.str x,mkD a b,.int v])]) (v14:=we (.str x)) (v15:=we (mkD a b)) (v16:=we (.int v)) (by rw[aM (cy m1)];exact h1) (cB hm) (by rw[b7,gk];omega) fun d hd=>he d (aj _ hd);refine⟨w14,w15,w16,?_⟩;rw[oa,dy] at e2;exact(bW rfl rfl b3).trans e2
theorem vT {sn:List (List Int)}{ag:List (List Int)} (lO:O.length=c) {k:Nat} (hk:k<c) (h1:ω[1]?=we (.ml (ni' O))) {v13 v14 v15 v16:Option D} (P:Prm c fun i=>O.getD i 0) (ls:∀ i,i<c->∃ r,sn[i]?=we r/\r.length=c) (la:∀ i,i<c->∃ r,ag[i]?=we r/\r.length=c) (he:∀ t,t<c->(ag.getD (O.getD k 0) []).getD (O.getD t 0) 0=(sn.getD k []).getD t 0):∀(r s:Nat) {v17:Option D},s+r=c->
  ∃ w17,bY (aY 17) bO tU (jY s r) (wR sc c q oth L (.lst (sn.map fun xs=>.lst (iv xs))) K1 K2 R (.lst (ag.map fun xs=>.lst (iv xs))) v11 (we (.int (k:Int))) v13 v14 v15 v16 v17 v18 v19) ω=we (.nx (wR sc c q oth L (.lst (sn.map fun xs=>.lst (iv xs))) K1 K2 R (.lst (ag.map fun xs=>.lst (iv xs))) v11 (we (.int (k:Int))) v13 v14 v15 v16 w17 v18 v19),ω)
 |0,s,v17,hs=>⟨v17,rfl⟩
 |r+1,s,v17,hs=>by
  have hsc:s<c:=by omega
  obtain⟨w17,e2⟩:=vT lO hk h1 P ls la he r (s+1) (v17:=we (.int (s:Int))) (by omega);refine⟨w17,?_⟩;rw[fB];obtain⟨rs,g1,l1⟩:=ls k hk;obtain⟨ra,g2,l2⟩:=la (O.getD k 0) (P.lt k hk);have hf:=P.lt s hsc;have x1:∀ {xs:List Int}{i:Nat},i<xs.length->vF ω (.lst (iv xs)) (.int (i:Int))=we (.int (xs.getD i 0)):=fun {xs i} hi=>by
   show atI (iv xs) (i:Int)=_;exact jT (by unfold iv;rw[bc,aw hi,am,aw hi];rfl)
  have x2:∀ {ts:List (List Int)}{i:Nat}{r:List Int},ts[i]?=we r->vF ω (.lst (ts.map fun xs=>.lst (iv xs))) (.int (i:Int))=we (.lst (iv r)):=fun {ts i r} h=>by
   show atI (ts.map fun xs=>D.lst (iv xs)) (i:Int)=_;exact jT (by rw[bc,h];rfl)
  have ev:ra.getD (O.getD s 0) 0=rs.getD s 0:=by
   have:=he s hsc
   rw[am (l:=ag),g2,am (l:=sn),g1] at this;exact this
  have b2:tU (wR sc c q oth L (.lst (sn.map fun xs=>.lst (iv xs))) K1 K2 R (.lst (ag.map fun xs=>.lst (iv xs))) v11 (we (.int (k:Int))) v13 v14 v15 v16 (we (.int (s:Int))) v18 v19) ω=we (.nx (wR sc c q oth L (.lst (sn.map fun xs=>.lst (iv xs))) K1 K2 R (.lst (ag.map fun xs=>.lst (iv xs))) v11 (we (.int (k:Int))) v13 v14 v15 v16 (we (.int (s:Int))) v18 v19),ω):=by
   refine(mR (ω1:=ω) (oN (a:=ra.getD (O.getD s 0) 0) (b:=rs.getD s 0) (aP (aP (aB (d:=.lst (ag.map fun xs=>.lst (iv xs))) rfl) (aP (aB (d:=.obj 1) rfl) (aB (d:=.int (k:Int)) rfl) (nG h1 (by omega))) (x2 g2)) (aP (aB (d:=.obj 1) rfl) (aB (d:=.int (s:Int)) rfl) (nG h1 (by omega))) (x1 (by rw[l2];exact hf))) (aP (aP (aB (d:=.lst (sn.map fun xs=>.lst (iv xs))) rfl) (aB (d:=.int (k:Int)) rfl) (x2 g1)) (aB (d:=.int (s:Int)) rfl) (x1 (by rw[l1];exact hsc))) ev)).trans ?_;rfl
  exact(bW rfl rfl b2).trans e2
theorem IN {S S':Nat->Hd}{sn ag:List (List Int)} (c8:c<=8) (lO:O.length=c) (P:Prm c fun i=>O.getD i 0) (ls:∀ i,i<c->∃ r,sn[i]?=we r/\r.length=c) (la:∀ i,i<c->∃ r,ag[i]?=we r/\r.length=c) (he:∀ k,k<c->∀ t,t<c->(ag.getD (O.getD k 0) []).getD (O.getD t 0) 0=(sn.getD k []).getD t 0)
  (hE:∀ k,k<c->(∀ d∈(S k).ents,∃(a b:Nat) (x:Str) (v:Int),a<c/\d=.tup [.str x,mkD a b,.int v])/\(S k).ents.length<64/\eM 4 ((S k).ents.map (CP fun i=>O.getD i 0))=we (S' (O.getD k 0)).ents/\Pl 3 (.lst (S' (O.getD k 0)).ents)):
  ∀(r s:Nat) {ω:Om}{v12 v13 v14 v15 v16 v17:Option D},ω[1]?=we (.ml (ni' O))->s+r=c->∃ ω' w12 w13 w14 w15 w16 w17,bY (aY 12) bO tT (jY s r) (wR sc c q oth (gL c S) (.lst (sn.map fun xs=>.lst (iv xs))) K1 K2 (gL c S') (.lst (ag.map fun xs=>.lst (iv xs))) v11 v12 v13 v14 v15 v16 v17 v18 v19) ω=we (.nx (wR sc c q oth (gL c S) (.lst (sn.map fun xs=>.lst (iv xs))) K1 K2 (gL c S') (.lst (ag.map fun xs=>.lst (iv xs))) v11 w12 w13 w14 w15 w16 w17 v18 v19),ω')/\ω.length<=ω'.length/\∀ j:Nat,j<ω.length->ω'[j]?=ω[j]?
 |0,s,ω,v12,v13,v14,v15,v16,v17,h1,hs=>⟨ω,v12,v13,v14,v15,v16,v17,rfl,bj _,fun _ _=>rfl⟩
 |r+1,s,ω,v12,v13,v14,v15,v16,v17,h1,hs=>by
  have hsc:s<c:=by omega
  have l1:=gF h1;obtain⟨eE,lE,srt,pl⟩:=hE s hsc;have m1:(ω++[Ob.ml []])[1]?=we (.ml (ni' O)):=by rw[ay l1];exact h1
  obtain⟨w14,w15,w16,e3⟩:=vZ (c:=c) (q:=q) (sc:=sc) (oth:=oth) (L:=gL c S) (Sn:=.lst (sn.map fun xs=>.lst (iv xs))) (K1:=K1) (K2:=K2) (R:=gL c S') (Ag:=.lst (ag.map fun xs=>.lst (iv xs))) (v11:=v11) (v12:=we (.int (s:Int))) (v17:=v17) (v18:=v18) (v19:=v19) lO (m:=ω.length) (by omega) (S s).ents (ω:=ω++[Ob.ml []]) (ds:=[]) (v14:=v14) (v15:=v15) (v16:=v16) m1 (by simp) (by simp;omega) eE;obtain⟨ω2,hω2⟩:∃ ω2:Om,ω2=(ω++[Ob.ml []]).set ω.length (.ml ([]++(S s).ents.map (CP fun i=>O.getD i 0))):=⟨_,rfl⟩;rw[<- hω2] at e3;have k2:∀ j:Nat,j<ω.length->ω2[j]?=ω[j]?:=fun j hj=>by rw[hω2,aM (by omega),ay hj]
  have l2:ω.length<=ω2.length:=by rw[hω2];simp
  have h2:ω2[1]?=we (.ml (ni' O)):=by rw[k2 1 l1];exact h1
  have r2:ω2[ω.length]?=we (.ml ((S s).ents.map (CP fun i=>O.getD i 0))):=by rw[hω2];simp
  obtain⟨w17,e4⟩:=vT (c:=c) (q:=q) (sc:=sc) (oth:=oth) (L:=gL c S) (K1:=K1) (K2:=K2) (R:=gL c S') (v11:=v11) (v18:=v18) (v19:=v19) (ω:=ω2) lO hsc h2 (v13:=we (.obj ω.length)) (v14:=w14) (v15:=w15) (v16:=w16) P ls la (he s hsc) c 0 (v17:=v17) (by omega);obtain⟨ω',z12,z13,z14,z15,z16,z17,e5,l5,k5⟩:=IN c8 lO P ls la he hE r (s+1) (ω:=ω2) (v12:=we (.int (s:Int))) (v13:=we (.obj ω.length)) (v14:=w14) (v15:=w15) (v16:=w16) (v17:=w17) h2 (by omega);refine⟨ω',z12,z13,z14,z15,z16,z17,?_,ci l2 l5,fun j hj=>by rw[k5 j (bx hj l2),k2 j hj]⟩;have xT:∀ {S:Nat->Hd}{i:Nat} (ω:Om),i<c->vF ω (gL c S) (.int (i:Int))=we (.lst (S i).ents):=fun {S i} ω hi=>by
   show atI _ (i:Int)=_;exact jT (by rw[bc,fz hi];rfl)
  have b4:tT (wR sc c q oth (gL c S) (.lst (sn.map fun xs=>.lst (iv xs))) K1 K2 (gL c S') (.lst (ag.map fun xs=>.lst (iv xs))) v11 (we (.int (s:Int))) v13 v14 v15 v16 v17 v18 v19) ω=we (.nx (wR sc c q oth (gL c S) (.lst (sn.map fun xs=>.lst (iv xs))) K1 K2 (gL c S') (.lst (ag.map fun xs=>.lst (iv xs))) v11 (we (.int (s:Int))) (we (.obj ω.length)) w14 w15 w16 w17 v18 v19),ω2):=by
   refine(aO (d:=.obj ω.length) (ω1:=ω++[Ob.ml []]) rfl).trans ?_;refine(bD (ρ1:=wR sc c q oth (gL c S) (.lst (sn.map fun xs=>.lst (iv xs))) K1 K2 (gL c S') (.lst (ag.map fun xs=>.lst (iv xs))) v11 (we (.int (s:Int))) (we (.obj ω.length)) w14 w15 w16 v17 v18 v19) (ω1:=ω2) (dS (by
    unfold bF oIL;refine(bR (x:=((S s).ents,bO)) (ω1:=ω++[Ob.ml []]) ?_).trans e3;rw[bA (aP (aB (d:=gL c S) rfl) (aB (d:=.int (s:Int)) rfl) (xT _ hsc))];rfl))).trans ?_
   refine(skip (fJ (k:=true) (tru_ok (aR (aA (aP (aB (d:=gL c S') rfl) (aP (aB (d:=.obj 1) rfl) (aB (d:=.int (s:Int)) rfl) (nG h2 (by omega))) (xT _ (P.lt s hsc))) (aA (dE (aA (aB (d:=.obj ω.length) rfl) aD) (d:=.lst (S' (O.getD s 0)).ents) (ω2:=ω2) (by
    have:cV ω2 (.obj ω.length)=we ((S s).ents.map (CP fun i=>O.getD i 0)):=by unfold cV;simp only[r2]
    simp only[EL,this,srt];rfl)) aD)) (so8 pl (by decide) ω2))))).trans ?_
   refine dS ?_;unfold bF;exact(bR (kP (c:=c) (aB rfl) (by omega))).trans e4
  rw[fB];exact(bW rfl rfl b4).trans e5
theorem GY (d:Deed) (ω:Om):∃ kd,vF ω d.d (.int 0)=we kd/\gIn 7 kd (.lst [.str "tell",.str "meet"])=we (.bl d.two):=by
 cases d <;> exact⟨_,rfl,rfl⟩
theorem vO {T T':List D}{all:List Deed} (hq:ω[q]?=we (.ml (all.map Deed.d))) (lT:T.length=all.length) (lT':T'.length=all.length) (pT:∀ d∈T,Pl 2 d) (hh:∀(n:Nat) (d:Deed),all[n]?=we d->d.two=true->T[n]?=T'[n]?) {v13 v14 v15 v16:Option D}:∀(r s:Nat) {v12:Option D},s+r=all.length->∃ w12,bY (aY 12) bO tV (jY s r) (wR sc c q oth L Sn K1 K2 R Ag v11 v12 v13 v14 v15 v16 v17 (we (.lst T)) (we (.lst T'))) ω=we (.nx (wR sc c q oth L Sn K1 K2 R Ag v11 w12 v13 v14 v15 v16 v17 (we (.lst T)) (we (.lst T'))),ω)
 |0,s,v12,hs=>⟨v12,rfl⟩
 |r+1,s,v12,hs=>by
  obtain⟨w12,e2⟩:=vO hq lT lT' pT hh (v13:=v13) (v14:=v14) (v15:=v15) (v16:=v16) r (s+1) (v12:=we (.int (s:Int))) (by omega);refine⟨w12,?_⟩;rw[fB];obtain⟨d,hd⟩:∃ d,all[s]?=we d:=⟨all[s],aw (by omega)⟩;obtain⟨kd,k1,k2⟩:=GY d ω;have tst:dG (o2 (lf (gIn 7)) (zX (zX (zV 3) (zV 12)) (zI 0)) (zL (aC (zS "tell") (aC (zS "meet") aJ)))) (wR sc c q oth L Sn K1 K2 R Ag v11 (we (.int (s:Int))) v13 v14 v15 v16 v17 (we (.lst T)) (we (.lst T'))) ω=we (.ok d.two,ω):=cY (fH (aP (aP (aB (d:=.obj q) rfl) (aB (d:=.int (s:Int)) rfl) (by
   rw[lZ hq];exact jT (by rw[bc,hd];rfl))) aW k1) (b:=.lst [.str "tell",.str "meet"]) (ω2:=ω) rfl k2)
  have b1:tV (wR sc c q oth L Sn K1 K2 R Ag v11 (we (.int (s:Int))) v13 v14 v15 v16 v17 (we (.lst T)) (we (.lst T'))) ω=we (.nx (wR sc c q oth L Sn K1 K2 R Ag v11 (we (.int (s:Int))) v13 v14 v15 v16 v17 (we (.lst T)) (we (.lst T'))),ω):=by
   refine(mR (ω1:=ω) ?_).trans rfl;cases hd2:d.two with
   |false=>rw[hd2] at tst;exact Ik tst
   |true=>
    rw[hd2] at tst;refine Ij tst ?_;have g1:T[s]?=we (T[s]'(by omega)):=aw (by omega);have g2:=(hh s d hd hd2).symm.trans g1;exact fJ (k:=true) (tru_ok (aR (aA (aP (aB (d:=.lst T) rfl) (aB (d:=.int (s:Int)) rfl) (show atI T (s:Int)=_ from jT g1)) (aA (aP (aB (d:=.lst T') rfl) (aB (d:=.int (s:Int)) rfl) (show atI T' (s:Int)=_ from jT g2)) aD)) (so8 (pT _ (gu _)) (by decide) ω)))
  exact(bW rfl rfl b1).trans e2
end
theorem FU {c:Nat}{f:Nat->Nat}{own own':Nat->Nat}{S S':Nat->Hd}{rs rs':List Rec}{kn kn':Nat->Nat->List Int}{i:Nat} (P:Prm c f) (R:Ren c f own rs kn own' rs' kn') (I:HInv c own S) (Q:Rel c own S rs kn) (I':HInv c own' S') (Q':Rel c own' S' rs' kn') (c0:0<c) (c8:c<=8) (ht:tot c own<64) (ht':tot c own'<64) (hi:i<c):eM 4 ((S i).ents.map (CP f))=we (S' (f i)).ents:=by
 have O:=(I i hi).1.ok c0 c8 ht;have O':=(I' (f i) (P.lt i hi)).1.ok c0 c8 ht';have p:=HP P R I Q I' Q' c0 c8 ht ht' hi;have E:EntsOk ((S i).ents.map (CP f)):=⟨fun d hd=>O'.entsEnt d (p.mem_iff.mpr hd),(p.map aS).nodup_iff.mp O'.entsNodup⟩;obtain⟨out,e1,p1⟩:=E.sorts (by rw[av];exact O.entsLen);rw[e1,De O'.entsOk (O'.ents.2.symm.trans p) O'.ents.1 e1 O'.ents.2 p1]
theorem Dh {ns:List Int}{i j:Nat}{f:OG D}{l u:DO}{ρ:Rho}{ω:Om} (e:f ρ ω=we (.ok (.scr (ns.map D.int)),ω)) (hl:l ρ=we (we (i:Int))) (hu:u ρ=we (we (j:Int))):∃ xs:List Int,oSl f l u ρ ω=we (.ok (.lst (iv xs)),ω)/\xs.length<=j-i:=by
 have h1:CA (ns.map D.int) (we (i:Int)) (we (j:Int))=iv ((ns.drop (min i ns.length)).take (min j ns.length-min i ns.length)):=by
  unfold CA;rw[HT.sIx_nat,HT.sIx_nat,av];unfold iv;rw[List.map_take,List.map_drop]
 refine⟨(ns.drop (min i ns.length)).take (min j ns.length-min i ns.length),?_,?_⟩
 ·unfold oSl;rw[bA e]
  show(l ρ).bind _=_
  rw[hl]
  show(u ρ).bind _=_
  rw[hu];show oR (pu (we (D.lst (CA (ns.map D.int) (we (i:Int)) (we (j:Int))))) ω)=_;rw[h1];rfl
 ·rw[m9];omega
theorem law_true (ns:List Int) (hns:ns.length<=63):∃ ω',p_law [.scr (ns.map D.int)] []=we (.ok (.bl true),ω'):=by
 obtain⟨x0,e0⟩:=IW ns 0 [];obtain⟨x1,e1⟩:=IW ns 1 [];have r8:=Ca (x:=x0*48271 % 1069) (q:=8) (by decide);obtain⟨c,hc,c0,c8⟩:∃ c:Nat,([1,2,3,4,5,2,3,8]:List Int).getD (x0*48271 % 1069 % 8).toNat 0=(c:Int)/\0<c/\c<=8:=by
  generalize x0*48271 % 1069 % 8=r at r8
  have hr:r=0∨r=1∨r=2∨r=3∨r=4∨r=5∨r=6∨r=7:=by omega
  rcases hr with rfl|rfl|rfl|rfl|rfl|rfl|rfl|rfl
  ·exact⟨1,rfl,by decide,by decide⟩
  ·exact⟨2,rfl,by decide,by decide⟩
  ·exact⟨3,rfl,by decide,by decide⟩
  ·exact⟨4,rfl,by decide,by decide⟩
  ·exact⟨5,rfl,by decide,by decide⟩
  ·exact⟨2,rfl,by decide,by decide⟩
  ·exact⟨3,rfl,by decide,by decide⟩
  ·exact⟨8,rfl,by decide,by decide⟩
 obtain⟨ω1,O,eo,pO,h1,_,_⟩:=Gy c0 c8 x1 [];have lO:O.length=c:=by rw[pO.length_eq];simp
 have P:=Mn pO;obtain⟨f,hf⟩:∃ f:Nat->Nat,f=fun i=>O.getD i 0:=⟨_,rfl⟩;have h1:ω1[1]?=we (.ml (ni' O)):=h1;obtain⟨xs,es,hxs⟩:=Dh (f:=zV 0) (ρ:=[we (.scr (ns.map D.int)),we (.int c),we (.obj 1),wf,wf,wf,wf,wf,wf,wf,wf,wf,wf,wf,wf,wf,wf,wf,wf,wf]) (ω:=ω1) (ns:=ns) (i:=2) (j:=26) (l:=dSo (dC (.int 2))) (u:=dSo (dC (.int 26))) (aB rfl) rfl rfl;obtain⟨ds,hds,ed⟩:=HW (xs:=xs) (show 1<=c from c0) c8 (by omega) ω1;obtain⟨q,hq⟩:∃ q:Nat,q=ω1.length:=⟨_,rfl⟩;obtain⟨ω2,hω2⟩:∃ ω2:Om,ω2=ω1++[Ob.ml (ds.map Deed.d)]:=⟨_,rfl⟩;rw[<- hω2,<- hq] at ed;have q2:ω2[q]?=we (.ml (ds.map Deed.d)):=by rw[hω2,hq];simp
 have h2:ω2[1]?=we (.ml (ni' O)):=by rw[hω2,ay (gF h1)];exact h1
 have hl:ds.length<64:=by omega
 obtain⟨ω3,eot,K3⟩:=wG (c:=c) (q:=q) (all:=ds.map Deed.d) lO ds (ω:=ω2) (u:=wf) h2 q2;obtain⟨ds',hds'⟩:∃ ds':List Deed,ds'=ds.map (Deed.ren c fun i=>O.getD i 0):=⟨_,rfl⟩;rw[<- hds'] at eot;have l':ds'.length=ds.length:=by rw[hds',av]
 have K3':∀ j:Nat,j<ω2.length->ω3[j]?=ω2[j]?:=fun j hj=>K3.2 j hj (by simp);have q3:ω3[q]?=we (.ml (ds.map Deed.d)):=by rw[K3' q (gF q2)];exact q2
 have h3:ω3[1]?=we (.ml (ni' O)):=by rw[K3' 1 (gF h2)];exact h2
 have D3:DeedsAt ω3 (.obj q) ds:=by unfold DeedsAt cV;simp only[q3]
 obtain⟨ω4,ea,K4,o4,J4,u4⟩:=mP c0 c8 hl D3;obtain⟨ω5,eb,K5,o5,J5,u5⟩:=mP c0 c8 (ds:=ds') (by omega) (ω:=ω4) (d:=.lst (ds'.map Deed.d)) rfl;have q5:ω5[q]?=we (.ml (ds.map Deed.d)):=by rw[K5.2 q (bx (gF q3) K4.1) (by simp),K4.2 q (gF q3) (by simp)];exact q3
 have h5:ω5[1]?=we (.ml (ni' O)):=by rw[K5.2 1 (bx (gF h3) K4.1) (by simp),K4.2 1 (gF h3) (by simp)];exact h3
 -- the two halls
 obtain⟨T2,aT⟩:=CW P c0 c8 ds (S:=fun _=>Hd0 c) (S':=fun _=>Hd0 c) (k:=0) (by omega) (QA P);rw[<- hds'] at T2 aT;obtain⟨own,rs,kn,own',rs',kn',R,I,Q,I',Q',t1,t2⟩:=T2.ex;have I:HInv c own (bV c ds):=I;have Q:Rel c own (bV c ds) rs kn:=Q;have I':HInv c own' (bV c ds'):=I';have Q':Rel c own' (bV c ds') rs' kn':=Q';have tabs:∀ {ds:List Deed}{o:Nat->Nat} (ω),HInv c o (bV c ds)->tot c o<64->dD [gL c (bV c ds),.int c] ω=we (.ok (.bl true),ω):=fun {ds o} ω J u=>by
  have:=Oo (ts:=(bq c).map fun i=>(bV c ds i).ents) (c:=c) (fun t ht d hd=>by
   obtain⟨i,hi,rfl⟩:=az.mp ht;exact((J i (c5.mp hi)).1.ok c0 c8 u).entsEnt d hd) (by simp) ω
  rw[gy] at this;exact this
 have rows:∀ {ds:List Deed}{o:Nat->Nat} (ω),HInv c o (bV c ds)->dA [vE c (bV c ds),.int c] ω=we (.ok (.bl true),ω):=fun {ds o} ω J=>by
  have:=Jj (ts:=(bq c).map fun i=>(bV c ds i).seen i) (c:=c) (fun t ht=>by
   obtain⟨i,hi,rfl⟩:=az.mp ht;exact(J i (c5.mp hi)).1.seenLen (c5.mp hi)) (by simp) ω
  rw[gy] at this;exact this
 have eS:∀ ds:List Deed,vE c (bV c ds)=.lst (((bq c).map fun i=>(bV c ds i).seen i).map fun xs=>.lst (iv xs)):=fun ds=>by
  unfold vE;rw[gy];rfl
 have row:∀ {ds:List Deed}{i:Nat},i<c->((bq c).map fun i=>(bV c ds i).seen i)[i]?=we ((bV c ds i).seen i):=fun hi=>by rw[bc,fz hi];rfl
 obtain⟨ω6,w12,w13,w14,w15,w16,w17,e6,l6,k6⟩:=IN (c:=c) (q:=q) (O:=O) (sc:=.scr (ns.map D.int)) (oth:=.lst (ds'.map Deed.d)) (K1:=Gf c (bV c ds')) (K2:=Ge c (bV c ds')) (v11:=we (gL c (bV c ds'))) (v18:=wf) (v19:=wf) (S:=bV c ds) (S':=bV c ds') (sn:=(bq c).map fun i=>(bV c ds i).seen i) (ag:=(bq c).map fun i=>(bV c ds' i).seen i) c8 lO P
  (fun i hi=>⟨_,row hi,(I i hi).1.seenLen hi⟩) (fun i hi=>⟨_,row hi,(I' i hi).1.seenLen hi⟩) (fun k hk t ht=>by
   have hfk:=P.lt k hk;rw[am (l:=(bq c).map fun i=>(bV c ds' i).seen i),row hfk,am (l:=(bq c).map fun i=>(bV c ds i).seen i),row hk]
   show((bV c ds' (O.getD k 0)).seen (O.getD k 0)).getD (O.getD t 0) 0=((bV c ds k).seen k).getD t 0
   rw[Q.seen hk,Q'.seen hfk];exact R.kn k k t hk hk ht)
  (fun k hk=>by
   have Ok:=(I k hk).1.ok c0 c8 (by omega);have Ok':=(I' _ (P.lt k hk)).1.ok c0 c8 (by omega);exact⟨fun d hd=>fP I c0 c8 (by omega) hk hd,Ok.entsLen,FU P R I Q I' Q' c0 c8 (by omega) (by omega) hk,Pl.lst (n:=2) (ic (bx Ok'.entsLen (by decide))) fun d hd=>Pl.ent (Ok'.entsEnt d hd)⟩) c 0 (v12:=wf) (v13:=wf) (v14:=wf) (v15:=wf) (v16:=wf) (v17:=wf) h5 (by omega)
 rw[<- eS ds,<- eS ds'] at e6;have q6:ω6[q]?=we (.ml (ds.map Deed.d)):=by rw[k6 q (gF q5)];exact q5
 have D6:DeedsAt ω6 (.obj q) ds:=by unfold DeedsAt cV;simp only[q6]
 obtain⟨ω7,ec,K7,P7⟩:=sR c0 c8 hl ω6;obtain⟨ω8,ef,K8,P8⟩:=sR c0 c8 (ds:=ds') (by omega) ω7;have q8:ω8[q]?=we (.ml (ds.map Deed.d)):=by rw[K8.2 q (bx (gF q6) K7.1) (by simp),K7.2 q (gF q6) (by simp)];exact q6
 have D8:DeedsAt ω8 (.obj q) ds:=by unfold DeedsAt cV;simp only[q8]
 have tl:(kM c ds).length=ds.length:=by unfold kM;rw[tF]
 have tl':(kM c ds').length=ds.length:=by unfold kM;rw[tF,l']
 obtain⟨z12,e8⟩:=vO (c:=c) (q:=q) (sc:=.scr (ns.map D.int)) (oth:=.lst (ds'.map Deed.d)) (L:=gL c (bV c ds)) (Sn:=vE c (bV c ds)) (K1:=Gf c (bV c ds')) (K2:=Ge c (bV c ds')) (R:=gL c (bV c ds')) (Ag:=vE c (bV c ds')) (v11:=we (gL c (bV c ds'))) (v17:=w17) (ω:=ω8) (T:=kM c ds) (T':=kM c ds') q8 tl tl' P7 aT (v13:=w13) (v14:=w14) (v15:=w15) (v16:=w16) ds.length 0 (v12:=w12) (by omega);refine⟨ω8,aV rfl ?_⟩;unfold NN;refine(aO (d:=.int c) (ω1:=[]) (by
  rw[<- hc];exact Er (xs:=[1,2,3,4,5,2,3,8]) rfl (mT (a:=x0) (aR (aA (aB (d:=.scr (ns.map D.int)) rfl) (aA aW aD)) e0) aW (by decide) (by decide)) r8.1 r8.2)).trans ?_
 refine(aO (aR (aA (aR (aA (aB (d:=.scr (ns.map D.int)) rfl) (aA aW aD)) e1) (aA (aB (d:=.int c) rfl) aD)) eo)).trans ?_;refine(aO (aR (aA es (aA (aB (d:=.int c) rfl) aD)) ed)).trans ?_;refine(aO (d:=.lst (ds'.map Deed.d)) (ω1:=ω3) (gA (ds:=ds.map Deed.d) (chk:=mG q (ds.map Deed.d)) (ω1:=ω2) (by
  unfold oIL;rw[bA (aB (d:=.obj q) rfl)]
  have:sE ω2 (.obj q)=we (ds.map Deed.d,mG q (ds.map Deed.d)):=by simp only[sE,q2]
  show oR (pu (sE ω2 (.obj q)) ω2)=_;rw[this];rfl) (by rw[av,b8];omega) eot)).trans ?_
 refine(bD (ρ1:=[we (.scr (ns.map D.int)),we (.int c),we (.obj 1),we (.obj q),we (.lst (ds'.map Deed.d)),we (gL c (bV c ds)),we (vE c (bV c ds)),we (Gf c (bV c ds)),we (Ge c (bV c ds)),wf,wf,wf,wf,wf,wf,wf,wf,wf,wf,wf]) (ω1:=ω4) (by
  unfold Dp;exact(bR (aR (aA (aB (d:=.int c) rfl) (aA (aB (d:=.obj q) rfl) aD)) ea)).trans rfl)).trans ?_
 refine(bD (ρ1:=wR (.scr (ns.map D.int)) c q (.lst (ds'.map Deed.d)) (gL c (bV c ds)) (vE c (bV c ds)) (Gf c (bV c ds')) (Ge c (bV c ds')) (gL c (bV c ds')) (vE c (bV c ds')) wf wf wf wf wf wf wf wf wf) (ω1:=ω5) (by
  unfold Dp;exact(bR (aR (aA (aB (d:=.int c) rfl) (aA (aB (d:=.lst (ds'.map Deed.d)) rfl) aD)) eb)).trans rfl)).trans ?_
 have b5:∀ {ds1:List Deed}{o:Nat->Nat}{u:Option D},HInv c o (bV c ds1)->tot c o<64->Br (wR (.scr (ns.map D.int)) c q (.lst (ds'.map Deed.d)) (gL c (bV c ds)) (vE c (bV c ds)) (Gf c (bV c ds')) (Ge c (bV c ds')) (gL c (bV c ds')) (vE c (bV c ds')) (we (gL c (bV c ds1))) wf wf wf wf wf wf wf wf) ω5=we (.nx (wR (.scr (ns.map D.int)) c q (.lst (ds'.map Deed.d)) (gL c (bV c ds)) (vE c (bV c ds)) (Gf c (bV c ds')) (Ge c (bV c ds')) (gL c (bV c ds')) (vE c (bV c ds')) (we (gL c (bV c ds1))) wf wf wf wf wf wf wf wf),ω5):=fun {ds1 o u} J t=>(mR (ω1:=ω5) (fJ (k:=true) (tru_ok (aR (aA (aB (d:=gL c (bV c ds1)) rfl) (aA (aB (d:=.int c) rfl) aD)) (tabs ω5 J t))))).trans rfl;refine(bD (ρ1:=wR (.scr (ns.map D.int)) c q (.lst (ds'.map Deed.d)) (gL c (bV c ds)) (vE c (bV c ds)) (Gf c (bV c ds')) (Ge c (bV c ds')) (gL c (bV c ds')) (vE c (bV c ds')) (we (gL c (bV c ds'))) wf wf wf wf wf wf wf wf) (ω1:=ω5) (dS (by
  unfold bF oIL;refine(bR (x:=([gL c (bV c ds),gL c (bV c ds')],bO)) (ω1:=ω5) rfl).trans ?_;exact(bW rfl rfl (b5 (u:=wf) J4 u4)).trans ((bW rfl rfl (b5 (u:=wf) J5 u5)).trans rfl)))).trans ?_
 refine(skip (tG (fJ (k:=true) (tru_ok (aR (aA (aB (d:=vE c (bV c ds)) rfl) (aA (aB (d:=.int c) rfl) aD)) (rows ω5 J4)))) (fJ (k:=true) (tru_ok (aR (aA (aB (d:=vE c (bV c ds')) rfl) (aA (aB (d:=.int c) rfl) aD)) (rows ω5 J5)))))).trans ?_;refine(bD (dS (by
  unfold bF;exact(bR (kP (c:=c) (aB rfl) (by omega))).trans e6))).trans ?_
 refine(aO (aR (aA (aB (d:=.int c) rfl) (aA (D6.list (aB rfl)) aD)) ec)).trans ?_;refine(aO (aR (aA (aB (d:=.int c) rfl) (aA (DeedsAt.list (ω:=ω7) (d:=.lst (ds'.map Deed.d)) (ds:=ds') rfl (aB rfl)) aD)) ef)).trans ?_;refine(skip (tG (fJ (k:=true) (tru_ok (cR (aB (d:=.lst (kM c ds)) rfl) (by simp[lP,cV,lC,dR])))) (fJ (k:=true) (tru_ok (cR (aB (d:=.lst (kM c ds')) rfl) (by simp[lP,cV,lC,dR])))))).trans ?_;have len0:∀ {ρ:Rho},ρ[3]?=we (we (.obj q))->oL cJ (aC (zV 3) aJ) ρ ω8=we (.ok (.int ds.length),ω8):=fun {ρ} h=>dE (aA (aB (d:=.obj q) h) aD) (by
  have:cV ω8 (.obj q)=we (ds.map Deed.d):=D8
  simp only[cJ,this,av])
 refine(bD (dS (by
  unfold bF;exact(bR (kP (c:=ds.length) (len0 rfl) (by omega))).trans e8))).trans ?_
 have eqn:∀ {a b:Int}{ρ:Rho}{f g:OG D},f ρ ω8=we (.ok (.int a),ω8)->g ρ ω8=we (.ok (.int b),ω8)->a=b->o2 (mI 8) f g ρ ω8=we (.ok (.bl true),ω8):=fun {a b ρ f g} h1 h2 h3=>iQ h1 h2 (by
  subst h3;show pu ((eqD 8 (.int a) (.int a)).map D.bl) ω8=_;rw[nI (Pl.int 8 a)];rfl)
 refine bB ?_;unfold wI;refine(bA (eqn (a:=((kM c ds).length:Int)) (dY (aB (d:=.lst (kM c ds)) rfl) (.inl rfl)) (len0 rfl) (by rw[tl]))).trans ?_;exact eqn (a:=((kM c ds').length:Int)) (dY (aB (d:=.lst (kM c ds')) rfl) (.inl rfl)) (len0 rfl) (by rw[tl'])
noncomputable def top (i:Nat):cu:=PySem.Challenge.pw_meetbook_k09_whole_hands_renumbered.main.body.getD i (.Pass ⟨0,0,0,0⟩)
noncomputable abbrev lfs:List (Str×Str×cu):=[("has_seen","",top 5),("joined","",top 6),("common","",top 7),("newer","",top 8),("left_by","",top 10),("done","",top 15),("answer_to","",top 16),("answers","",top 17),("after","",top 18),("_law_so","",top 20),("_law_whole","",top 21),("_law_at","",top 22),("_law_all_after","",top 23),("_law_odd","",top 24),("_law_word","",top 25),("_law_deed_of","",top 26),("_law_drawn","",top 27),("_law_are_tables","",top 28),("_law_are_rows","",top 29),("_law_order_of","",top 30),("_law_renamed","",top 31)]
noncomputable abbrev Qt:List (Str×Str×cu):=[("seen","Hand.seen",bQ (top 11) 1),("entries","Hand.entries",bQ (top 11) 2),("known","Hand.known",bQ (top 11) 3),("in_mind","Hand.in_mind",bQ (top 11) 4),("new_mark","Hand.new_mark",bQ (top 11) 9),("put","Hand.put",bQ (top 11) 5),("forget","Hand.forget",bQ (top 11) 12),("take_out","Hand.take_out",bQ (top 11) 11),("marks_of","Hand.marks_of",bQ (top 11) 10),("change","Hand.change",bQ (top 11) 6),("take","Hand.take",bQ (top 11) 7),("hear","Hand.hear",bQ (top 11) 8)]
noncomputable abbrev Qs:List (Str×Str×cu):=[("hand","Hall.hand",bQ (top 13) 1),("pair","Hall.pair",bQ (top 13) 2),("put","Hall.put",bQ (top 13) 3),("change","Hall.change",bQ (top 13) 4),("take","Hall.take",bQ (top 13) 5),("tell","Hall.tell",bQ (top 13) 6),("meet","Hall.meet",bQ (top 13) 7)]
structure Txt (K:aa) (mg:Str->Option ai) (cls exC:Nat->af):Prop where
 bn:Bn mg
 dict:mg "dict"=wf
 c0:Cls K (cls 0)
 m0:mg "Hand"=we (.ref (cls 0))
 c1:Cls K (cls 1)
 m1:mg "Hall"=we (.ref (cls 1))
 a0_kept:NoAttr K (cls 0) "kept"
 a0_knows:NoAttr K (cls 0) "knows"
 a0_number:NoAttr K (cls 0) "number"
 a0_table:NoAttr K (cls 0) "table"
 a1_hands:NoAttr K (cls 1) "hands"
 x0:mg "NoHand"=we (.ref (exC 0))
 x1:mg "SameHand"=we (.ref (exC 1))
 exs:∃ tl1 tl2,ownIn K (exC 0) tl1/\ownIn K (exC 1) tl2/\(b9 (exC 1)::tl2).contains (.ref (exC 0))=false
 fn:AllP (fun x _ s=>FF K mg x s) lfs
 mt0:AllP (FM K (cls 0)) Qt
 in0:FI K (cls 0) "__init__" "Hand.__init__" (bQ (top 11) 0)
 mt1:AllP (FM K (cls 1)) Qs
 in1:FI K (cls 1) "__init__" "Hall.__init__" (bQ (top 13) 0)
set_option compiler.extract_closed false
local macro_rules
 | `(tactic|apply_rules [$ts,*])=>do
 let [hu,hu1,hu6,hr,hE,hR,T]:=[`hu,`hu1,`hu6,`hr,`hE,`hR,`T].map Lean.mkIdent|o9
 let R <- `(tactic|apply_rules [$ts,*])
 let hm <- `(by first|exact $hr|exact($hr).mono (by decide))
 let hp <- `(by first|exact Ph|exact($hE).pas)
 let cs <- ts.getElems.mapM fun u=>let t:Lean.TSyntax `term:=⟨u.raw[0]⟩;`(tactic|first|(refine GE $t $hm $hp ?_) <;> $R|(refine Kc $t $hm $hp ?_ ?_) <;> $R|(refine GG $t $hm ?_ $hp ?_) <;> $R|(refine Ke $t $hm ?_ $hp ?_) <;> $R)
 `(tactic|first
  |(with_reducible apply JV);first|with_reducible exact By|with_reducible exact Ff|with_reducible exact Oe|with_reducible exact PQ|with_reducible exact IT By|exact dvk (by kernel_rfl)
  |with_reducible exact Nu
  |with_reducible exact Lf
  |with_reducible exact JY
  |with_reducible exact GB
  |with_reducible exact MN
  |with_reducible exact JH
  |with_reducible exact PM
  |with_reducible exact PL
  |(with_reducible apply Kl) <;> $R
  |(with_reducible apply Pr) <;> $R
  |(with_reducible apply Kh) <;> $R
  |(with_reducible apply No) <;> $R
  |(with_reducible apply Nt) <;> $R
  |(with_reducible apply Nf) <;> $R
  |(with_reducible apply Ni) <;> $R
  |(with_reducible apply Nj) <;> $R
  |(with_reducible apply Kg) <;> $R
  |(with_reducible apply Kk) <;> $R
  |(with_reducible apply JZ) <;> $R
  |(with_reducible apply JU) <;> $R
  |(with_reducible apply Nq) <;> $R
  |(with_reducible apply Pq) <;> $R
  |(with_reducible apply Ps) <;> $R
  |(with_reducible apply Nn) <;> $R
  |(with_reducible apply Pj) <;> $R
  |(with_reducible apply Pn) <;> $R
  |(with_reducible apply MI) <;> $R
  |(with_reducible apply Np) <;> $R
  |(with_reducible apply MJ) <;> $R
  |(with_reducible apply MH) <;> $R
  |(with_reducible apply Pk) <;> $R
  |(with_reducible apply MK) <;> $R
  |(with_reducible apply JE) <;> $R
  |(with_reducible apply Nh) <;> $R
  |(with_reducible apply Nr) <;> $R
  |(with_reducible apply Ng) <;> $R
  |(with_reducible apply GC) <;> $R
  |(with_reducible apply Ka) <;> $R
  |(with_reducible apply Nm) <;> $R
  |(with_reducible apply Nd) <;> $R
  |(with_reducible apply DV) <;> $R
  |(with_reducible apply JX) <;> $R
  |(with_reducible apply JW) <;> $R
  |(with_reducible apply JS) <;> $R
  |(with_reducible apply DT) <;> $R
  |(with_reducible apply DR) <;> $R
  |(with_reducible apply Nc) <;> $R
  |(with_reducible apply JQ) <;> $R
  |(with_reducible apply GA) <;> $R
  |(with_reducible apply ME) <;> $R
  |(with_reducible apply JD) <;> $R
  |(with_reducible apply Pi) <;> $R
  |(with_reducible apply MD) <;> $R
  |(with_reducible apply MG) <;> $R
  |(with_reducible apply MF) <;> $R
  |(with_reducible apply QT) <;> $R
  |(with_reducible apply JL) <;> $R
  |(with_reducible apply MM) <;> $R
  |(with_reducible apply ML) <;> $R
  |(with_reducible apply Po) <;> $R
  |(with_reducible apply JJ) <;> $R
  |(with_reducible apply MP) <;> $R
  |(with_reducible apply JK) <;> $R
  |(with_reducible apply JG) <;> $R
  |(with_reducible apply MO) <;> $R
  |(with_reducible apply JI) <;> $R
  |(with_reducible apply JN) <;> $R
  |(with_reducible apply Le) <;> $R
  |(with_reducible show OE _ _ _ _ (oL (lfL Ht) _));(refine jF (Fw rfl) (FitL.lift HG) ?_ ($T).bn.min boot.min ?_) <;> $R
  |(with_reducible show OE _ _ _ _ (oL (lfL ES) _));(refine jF (Fx rfl) (FitL.lift HH) ?_ ($T).bn.max boot.max ?_) <;> $R
  |(with_reducible show OE _ _ _ _ (oL (lfL Ov) _));(refine jF (Fs rfl) (FitL.lift KS) ?_ ($T).bn.sum boot.sum ?_) <;> $R
  |(with_reducible show OE _ _ _ _ (oL (EL _) _));(refine jF (Fu $hu6) HB ?_ ($T).bn.sorted boot.sorted ?_) <;> $R
  |(with_reducible show OE _ _ _ _ (oL (EM _) _));(refine jF (Fv rfl $hu6) HC ?_ ($T).bn.sorted boot.sorted ?_) <;> $R
  |(with_reducible show OE _ _ _ _ (oL cJ _));(refine jF Ic HJ ?_ ($T).bn.len boot.len ?_) <;> $R
  |(with_reducible show OE _ _ _ _ (oL (lfL Ox) _));(refine oJ FA (FitL.lift KZ) ?_ ($T).bn.int boot.int ?_) <;> $R
  |(with_reducible show OE _ _ _ _ (oL gH _));(refine oJ xS EV ?_ ($T).bn.list boot.list ?_) <;> $R
  |(with_reducible show OE _ _ _ _ (oL zP _));(refine oJ uM HA ?_ ($T).bn.tuple boot.tuple ?_) <;> $R
  |(with_reducible show OE _ _ _ _ (GH _ _));(refine JT $hu6 rfl ?_ ($T).bn.sorted ?_) <;> $R
  |(with_reducible show OE _ _ _ _ (iJ "str" _));(refine rP ?_ ?_ ($T).bn.isinstance ?_ ($T).bn.str boot.str) <;> $R
  |(with_reducible show OE _ _ _ _ (iJ "int" _));(refine rP ?_ ?_ ($T).bn.isinstance ?_ ($T).bn.int boot.int) <;> $R
  |(with_reducible show OE _ _ _ _ (iJ "bool" _));(refine rP ?_ ?_ ($T).bn.isinstance ?_ ($T).bn.bool boot.bool) <;> $R
  |(with_reducible show OE _ _ _ _ (iJ "list" _));(refine rP ?_ ?_ ($T).bn.isinstance ?_ ($T).bn.list boot.list) <;> $R
  |(with_reducible show OE _ _ _ _ (iJ "tuple" _));(refine rP ?_ ?_ ($T).bn.isinstance ?_ ($T).bn.tuple boot.tuple) <;> $R
  |(with_reducible show OE _ _ _ _ (iJ "dict" _));(refine rP ?_ ?_ ($T).bn.isinstance ?_ ($T).dict boot.dict) <;> $R
  |(with_reducible show OE _ _ _ _ (DZ _));(refine Kf ?_ ?_ ($T).bn.isinstance ?_ ($T).bn.list ?_ ($T).bn.tuple) <;> $R
  |(with_reducible show OE _ _ _ _ (dO _ _ _ _ _ _));(refine GF ?_ rfl rfl (by kernel_rfl) ?_ (fun _ _ _ _ _ _=>⟨?_,?_,?_⟩)) <;> $R
  |(with_reducible show OSt _ _ _ _ (vV _ _ _ _ _));(obtain⟨_,_,o0,o1,hne⟩:=($T).exs;refine JF ($hE).ex rfl rfl ⟨_,rfl⟩ ?_ ?_ ($T).x0 ($T).x1 o0 o1 hne (fun _ _ _ $hE=> ?_) (fun _=> ?_) (fun _=> ?_)) <;> $R
  |with_reducible exact By
  |with_reducible exact IT By
  |(with_reducible show DE _ (.Name _ _) _);exact dvk (by kernel_rfl)
  |(with_reducible show PG _ (.Name _ _) _);exact Ra (by kernel_rfl)
  |(with_reducible show PG _ (.Tuple [_,_] _ _) _);exact QZ rfl (by kernel_rfl) (by kernel_rfl)
  |(with_reducible show PG _ (.Tuple [_,_,_] _ _) _);exact QY rfl (by kernel_rfl) (by kernel_rfl) (by kernel_rfl)
  |(with_reducible show PG _ (.Tuple [_,_,_,_] _ _) _);exact QX rfl (by kernel_rfl) (by kernel_rfl) (by kernel_rfl) (by kernel_rfl)
  |(with_reducible show Gl _ _);unfold Gl;kernel_rfl
  |(with_reducible show OSt _ _ _ _ (aX _ _));(refine Ri (by kernel_rfl) ?_) <;> $R
  |(with_reducible show OSt _ _ _ _ (aX _ _));(refine Gx ?_ (by kernel_rfl) rfl rfl (by kernel_rfl) ?_ (fun _ _ _ _ _ _=>⟨?_,?_,?_⟩)) <;> $R
  |(with_reducible show OSt _ _ _ _ (AT _ _));obtain⟨_,_,o0,o1,hne⟩:=($T).exs;first|exact Ba rfl $hR (by rfl) ($T).x0 o0 Ff|exact Ba rfl $hR (by rfl) ($T).x1 o1 Ff
  |exact rfl
  |(intro _;exact rfl)
  |(intro _ _;exact rfl)
  |exact($T).bn.range
  |exact($T).bn.zip
  |exact($T).c0
  |exact($T).c1
  |exact($T).a0_kept
  |exact($T).a0_knows
  |exact($T).a0_number
  |exact($T).a0_table
  |exact($T).a1_hands
  |exact $hu
  |exact $hu1
  |exact $hu6
  |with_unfolding_all rfl
  |decide
  $[| $cs:tactic]*)
set_option compiler.extract_closed false
local macro_rules
 | `(tactic|solve_by_elim [$ts,*])=>do
 let [hu,hu1,hu6,hr,hE,hR]:=[`hu,`hu1,`hu6,`hr,`hE,`hR].map Lean.mkIdent|o9
 `(tactic|(intro _ _ _ _ _ _ _ $hr $hu $hu1 $hu6 $hE $hR;conv=>(arg 4;whnf));apply_rules [$ts,*])
section
seal PE PT PA PS PSs PI PG PW Lv PO
variable {P:da}{w:df}{K:aa}{mg:Str->Option ai}{base:cx}{cls exC:Nat->af} (T:Txt K mg cls exC)
include T
theorem sI:qE P w K mg base cls exC 1 "has_seen" CH eZ:=dfD (T.fn.get 0 rfl) (by solve_by_elim [])
theorem HZ:qE P w K mg base cls exC 1 "joined" Io gP:=dfD (T.fn.get 1 rfl) (by solve_by_elim [])
theorem Ia:qE P w K mg base cls exC 1 "common" Ip nE:=dfD (T.fn.get 2 rfl) (by solve_by_elim [])
theorem Lh:qE P w K mg base cls exC 1 "newer" Ls yT:=dfD (T.fn.get 3 rfl) (by solve_by_elim [])
theorem gW:qF P w K mg base cls exC 1 0 "seen" As bM:=dfM (T.mt0.get 0 rfl) T.c0 (by solve_by_elim [])
theorem Fh:qE P w K mg base cls exC 2 "left_by" FE kU:=dfD (T.fn.get 4 rfl) (by solve_by_elim [gW T,sI T])
theorem uI:Oz P w K mg base cls exC 1 0 "Hand" uQ dL:=dfI T.in0 T.m0 (by solve_by_elim [])
theorem gC:qF P w K mg base cls exC 1 0 "entries" qV bL:=dfM (T.mt0.get 1 rfl) T.c0 (by solve_by_elim [])
theorem xK:qF P w K mg base cls exC 1 0 "known" xZ fU:=dfM (T.mt0.get 2 rfl) T.c0 (by solve_by_elim [])
theorem qR:qF P w K mg base cls exC 1 0 "in_mind" qU eD:=dfM (T.mt0.get 3 rfl) T.c0 (by solve_by_elim [])
theorem iW:qF P w K mg base cls exC 2 0 "new_mark" pZ cO:=dfM (T.mt0.get 4 rfl) T.c0 (by solve_by_elim [gW T])
theorem sK:qF P w K mg base cls exC 3 0 "put" CI dX:=dfM (T.mt0.get 5 rfl) T.c0 (by solve_by_elim [iW T])
theorem lJ:qF P w K mg base cls exC 2 0 "forget" uR eV:=dfM (T.mt0.get 6 rfl) T.c0 (by solve_by_elim [sI T,Ia T])
theorem iV:qF P w K mg base cls exC 3 0 "take_out" pY cN:=dfM (T.mt0.get 7 rfl) T.c0 (by solve_by_elim [lJ T])
theorem iX:qF P w K mg base cls exC 2 0 "marks_of" qA cP:=dfM (T.mt0.get 8 rfl) T.c0 (by solve_by_elim [gC T])
theorem uJ:qF P w K mg base cls exC 4 0 "change" uS dM:=dfM (T.mt0.get 9 rfl) T.c0 (by solve_by_elim [iV T,sK T,iX T])
theorem Ad:qF P w K mg base cls exC 4 0 "take" Ar fD:=dfM (T.mt0.get 10 rfl) T.c0 (by solve_by_elim [iV T,iW T,iX T])
theorem pM:qF P w K mg base cls exC 3 0 "hear" At cE:=dfM (T.mt0.get 11 rfl) T.c0 (by solve_by_elim [lJ T,HZ T,gC T,Fh T,gW T,Lh T])
theorem lK:Oz P w K mg base cls exC 3 1 "Hall" uT eW:=dfI T.in1 T.m1 (by solve_by_elim [uI T])
theorem gX:qF P w K mg base cls exC 1 1 "hand" Ay bG:=dfM (T.mt1.get 0 rfl) T.c1 (by solve_by_elim [])
theorem pN:qF P w K mg base cls exC 2 1 "pair" Aw bN:=dfM (T.mt1.get 1 rfl) T.c1 (by solve_by_elim [gX T])
theorem Cz:qF P w K mg base cls exC 4 1 "put" CJ gD:=dfM (T.mt1.get 2 rfl) T.c1 (by solve_by_elim [gX T,sK T])
theorem uK:qF P w K mg base cls exC 5 1 "change" uU dN:=dfM (T.mt1.get 3 rfl) T.c1 (by solve_by_elim [gX T,uJ T])
theorem Af:qF P w K mg base cls exC 5 1 "take" Av fF:=dfM (T.mt1.get 4 rfl) T.c1 (by solve_by_elim [gX T,Ad T])
theorem Ae:qF P w K mg base cls exC 4 1 "tell" Au fE:=dfM (T.mt1.get 5 rfl) T.c1 (by solve_by_elim [pM T,pN T])
theorem Ah:qF P w K mg base cls exC 4 1 "meet" Ax fG:=dfM (T.mt1.get 6 rfl) T.c1 (by solve_by_elim [pM T,pN T])
theorem Ol:qE P w K mg base cls exC 6 "done" Oq jQ:=dfD (T.fn.get 5 rfl) (by solve_by_elim [Ah T,Ae T,Af T,uK T,Cz T])
theorem pL:qE P w K mg base cls exC 7 "answer_to" Aq bU:=dfD (T.fn.get 6 rfl) (by solve_by_elim [Ol T])
theorem Fk:qE P w K mg base cls exC 8 "answers" FH kW:=dfD (T.fn.get 7 rfl) (by solve_by_elim [pL T,lK T])
theorem Li:qE P w K mg base cls exC 8 "after" Lu yU:=dfD (T.fn.get 8 rfl) (by solve_by_elim [qR T,xK T,gW T,gC T,pL T,lK T])
theorem Bz:∀ n:Nat,qE P w K mg base cls exC n "_law_so" BF (eC n)
 |0=>match (T.fn.get 9 rfl) with|⟨f,fd,F⟩=>⟨f,fd,⟨(fun _ _ _ _ ⟨_,_,_,_,_,_,_,_,z,_⟩=>nomatch z),(fun _ _ _ _ _ _ _ _ _ _ _ _ _ ⟨_,_,_,_,_,_,_,_,z,_⟩=>nomatch z)⟩,F.at_,F.fn.kp,Bnd.out (show Bnd _ _ _ BF from fun _ _ _ _ _ _ _ _=>rfl) F.fn⟩
 |n+1=>dfD (T.fn.get 9 rfl) (k:=n) (N:=BG) (by have D:=Bz n;solve_by_elim [D])
theorem pJ:qE P w K mg base cls exC 1 "_law_whole" Ao fC:=dfD (T.fn.get 10 rfl) (by solve_by_elim [])
theorem HY:qE P w K mg base cls exC 1 "_law_at" Im nD:=dfD (T.fn.get 11 rfl) (by solve_by_elim [])
theorem pK:qE P w K mg base cls exC 9 "_law_all_after" pX dJ:=dfD (T.fn.get 12 rfl) (by solve_by_elim [Li T])
theorem Fi:qE P w K mg base cls exC 1 "_law_odd" FG eN:=dfD (T.fn.get 13 rfl) (by solve_by_elim [])
theorem Cy:qE P w K mg base cls exC 1 "_law_word" CG jE:=dfD (T.fn.get 14 rfl) (by solve_by_elim [])
theorem uH:qE P w K mg base cls exC 2 "_law_deed_of" uP gO:=dfD (T.fn.get 15 rfl) (by solve_by_elim [Fi T,Cy T])
theorem Ac:qE P w K mg base cls exC 3 "_law_drawn" Ap jZ:=dfD (T.fn.get 16 rfl) (by solve_by_elim [uH T])
theorem mV:qE P w K mg base cls exC 2 "_law_are_tables" mW dD:=dfD (T.fn.get 17 rfl) (by solve_by_elim [pJ T])
theorem qQ:qE P w K mg base cls exC 2 "_law_are_rows" qT dA:=dfD (T.fn.get 18 rfl) (by solve_by_elim [pJ T])
theorem qP:qE P w K mg base cls exC 1 "_law_order_of" qS fY:=dfD (T.fn.get 19 rfl) (by solve_by_elim [])
theorem uG:qE P w K mg base cls exC 1 "_law_renamed" uO cD:=dfD (T.fn.get 20 rfl) (by solve_by_elim [])
theorem PR {f:af}{fd:jj} (F:OB K mg "law" (top 32) f fd):rA P w K mg base (CX1 P w exC) 10 f fd PZ (spO cls exC K p_law):=BC F.fn (by constructor <;> first|rfl|decide+kernel) (by solve_by_elim [Bz T 8,Fk T,qQ T,mV T,pK T,uG T,Ac T,HY T,qP T])
end
noncomputable abbrev cs:List Str:=["Hand","Hall"]
noncomputable abbrev xs:List Str:=["NoHand","SameHand"]
theorem all_mk {P:da}{w:df}{K:aa}{h:cx}{mg:Str->Option ai}{fa C0 C1 E0 E1:af}{tl0 tl1:List ai} (X:K.In h) (G:h.Ns ca mg) (hfa:mg "law"=we (.ref fa))
  (T:Bn mg)
  (hdict:cq K ca "dict"=we wf)
  (n0:clsIn K "Hand" C0) (c0:Cls K C0) (mk0:mkIn K C0)
  (a0_kept:NoAttr K C0 "kept")
  (a0_knows:NoAttr K C0 "knows")
  (a0_number:NoAttr K C0 "number")
  (a0_table:NoAttr K C0 "table")
  (n1:clsIn K "Hall" C1) (c1:Cls K C1) (mk1:mkIn K C1)
  (a1_hands:NoAttr K C1 "hands")
  (e0:clsIn K "NoHand" E0) (o0:ownIn K E0 tl0)
  (e1:clsIn K "SameHand" E1) (o1:ownIn K E1 tl1)
  (hne:(b9 E1::tl1).contains (.ref E0)=false)
  (If:AllP (fun x _ s=>FnIn K x s) lfs) (I:FnIn K "law" (top 32))
  (M0:AllP (mtF K C0) Qt) (i0:mtF K C0 "__init__" "Hand.__init__" (bQ (top 11) 0))
  (M1:AllP (mtF K C1) Qs) (i1:mtF K C1 "__init__" "Hall.__init__" (bQ (top 13) 0))
  :∃ fd:jj,(∀(s:aq) (v:ai),rg s fd ⟨[v],[]⟩ [("_law_script",v)])/\∀ base:cx,K.In base->base.Ns ca mg->rA P w K mg base (CX1 P w (iZ K xs)) 10 fa fd ["_law_script"] (spO (iZ K cs) (iZ K xs) K p_law):=by
 have q0:iZ K cs 0=C0:=nM rfl n0;subst q0;have q1:iZ K cs 1=C1:=nM rfl n1;subst q1;have r0:iZ K xs 0=E0:=nM rfl e0;subst r0;have r1:iZ K xs 1=E1:=nM rfl e1;subst r1;have TT:Txt K mg (iZ K cs) (iZ K xs):=⟨T,c4 X G hdict,c0,mz X G n0,c1,mz X G n1,a0_kept,a0_knows,a0_number,a0_table,a1_hands,mz X G e0,mz X G e1,⟨tl0,tl1,o0,o1,hne⟩,If.imp fun _ _ _ h=>h.fnAt X G,M0.imp fun _ _ _ h=>h.out,i0.mk mk0,M1.imp fun _ _ _ h=>h.out,i1.mk mk1⟩;obtain⟨a_law,fd_law,F_law⟩:=I.fnAt X G;obtain rfl:a_law=fa:=by
  have e:=hfa.symm.trans F_law.at_;cases e;rfl
 refine⟨fd_law,fun s v=> ?_,fun base kb nb=>PR TT F_law⟩;obtain⟨oc,od,kV,doc,pm,an,cdv,ct,osl,rfl,_,_⟩:=F_law.fn.ex;exact .of_eq rfl
end L2.MB.Lw
open PySem PySem.W PyProof.Rows
set_option maxRecDepth 100000 in
set_option maxHeartbeats 0 in
theorem PySem.Challenge.cw_meetbook_k09_whole_hands_renumbered_holds : PySem.Challenge.rw_meetbook_k09_whole_hands_renumbered.Holds := by
 refine Hq0.tpQ ?_
 k_fill
 refine L2.MB.law_walkO (l:=PySem.Challenge.rw_meetbook_k09_whole_hands_renumbered) (k:=10) (x:="_law_script") (φ:=L2.MB.Lw.p_law) (cs:=L2.MB.Lw.cs) (es:=L2.MB.Lw.xs) rfl rfl ⟨rfl,by decide,by decide⟩ (fun w h Y=>PySem.W.kIn_of Y) (fun ns h=>L2.MB.Lw.law_true ns h) ?F
 case F=>
  intro w mg fa h KX G hmg;have T:L2.MB.Bn mg:=by
   refine' L2.MB.bn_mk KX G ?_ ?_ ?_ ?_ ?_ ?_ ?_ ?_ ?_ ?_ ?_ ?_ ?_ ?_ <;> k_is
  refine' L2.MB.Lw.all_mk KX G hmg T ?_ ?_ ?_ ?_ ?_ ?_ ?_ ?_ ?_ ?_ ?_ ?_ ?_ ?_ ?_ ?_ ?_ ?_ ?_ ?_ ?_ ?_ ?_
  any_goals (with_reducible show L2.MB.clsIn _ _ _);unfold L2.MB.clsIn;k_is
  any_goals (with_reducible show L2.Cls _ _);refine' ⟨?_,?_,?_,?_⟩ <;> k_is
  any_goals (with_reducible show L2.MB.mkIn _ _);refine' ⟨?_,?_⟩ <;> k_is
  any_goals (with_reducible show L2.NoAttr _ _ _);unfold L2.NoAttr;k_is
  any_goals (with_reducible show L2.MB.ownIn _ _ _);(refine' L2.MB.own_mk ?p1 ?p2 ?p3 ?p4 ?p5 ?p6;(case p1=>k_is);(case p2=>rfl);(case p3=>rfl);(case p4=>(refine' L2.MB.tail_mk ?q1 ?q2 ?q3 ?q4;(case q1=>k_is);(case q2=>(refine' L2.MB.nsOk_mk ?l ?h;(case l=>k_is);(case h=>rfl)));(case q3=>k_is);(case q4=>rfl)));(case p5=>(refine' L2.MB.nsOk_mk ?l ?h;(case l=>k_is);(case h=>rfl)));(case p6=>k_is))
  any_goals (with_reducible show L2.MB.AllP _ _);dsimp only[L2.MB.AllP];(repeat' with_reducible apply And.intro)
  all_goals first|k_is|exact rfl|exact trivial|(refine' L2.MB.fnIn_mk ?z1 ?z2 ?z3 ?z4;(case z1=>k_is);(case z2=>k_is);(case z3=>k_is);(case z4=>k_is))|(refine' ⟨_,L2.MB.mtIn_mk ?z1 ?z2 ?z3 ?z4 ?z5⟩;(case z1=>k_is);(case z2=>k_is);(case z3=>k_is);(case z4=>k_is);(case z5=>k_is))
end
