import PyProof.Rows.All
import Wide.All
import OpenK.AllK
import Wide.FinOn
import Lean
import PyProof.EqAt
import PyProof.EqKinds
import PyProof.TupleCall
import PyProof.NeKinds
import PyProof.StationsW
import PyProof.ExcBaseAll.ValueError
import KE.KSortTup
import PySem.Challenge.RW_meetbook_k06_whole_never_comes_back
set_option compiler.extract_closed false
section
set_option Elab.async false
open PySem PySem.W PyProof.Rows
def Hq0.vwQ : Program := { PySem.Challenge.pw_meetbook_k06_whole_never_comes_back with main := { PySem.Challenge.pw_meetbook_k06_whole_never_comes_back.main with body := [1, 2, 3, 5, 6, 7, 8, 10, 11, 13, 15, 16, 17, 18, 20, 21, 22, 23, 24, 25, 26, 27, 28, 29].filterMap fun i => PySem.Challenge.pw_meetbook_k06_whole_never_comes_back.main.body[i]? } }
local macro_rules
 | `(tactic| o_head $H) => `(tactic| (refine holds_open (q := Hq0.vwQ) (loose := []) (Xt := fun s => xlAt Hq0.vwQ [] s && recOk [] s) (XP := XL Hq0.vwQ []) (Yf := Hook.obs $H) (Ya := Hook.val $H) (YP := Hook.says $H) (N := 4674) ?hl (Hook.of $H) (Hook.keeps $H) (fun s e => xl_of s (Bool.and_eq_true_iff.mp e).1) XL.keeps (by rfl) (by rfl) (by rfl) (fun s e => recFacts_of (Bool.and_eq_true_iff.mp e).2) (by rfl) (by first | assumption | decide +kernel) (by decide +kernel) ⟨rfl, rfl, rfl, rfl, rfl, by decide +kernel⟩ ?hw ?hc; (case hl => (intro w; kernel_rfl))))
set_option maxRecDepth 100000 in
set_option maxHeartbeats 0 in
open_top Hq0.tpQ for PySem.Challenge.rw_meetbook_k06_whole_never_comes_back
end
open PySem.W renaming Frag→aa, nsIn→cy, mg_none_of→db, hideAll→ga, hideAll_none→gg, keepIn→hV, findIn→ie, emptyDict→ij, fnOf→i5, instObj→jf, codeIn→kr, hideAll_get→k8, kia_one→lr, kia_tup→lw, nsOkIn→l9, of_hideAll→n8, tailIn→o8, mg_of→pj, plainGet→pq, isFn→qk, plainGet_of→qr, lookIn→qu, KdlSrc→rc, callWith_K→rj, methodObj→sg, hasDictIn→sh, takerIn→uo, makesIn→uq, kat_one→uv, cellsFrom_some→uy, methodCall_KW→u9, kdu_collect→wk, kitx_tuple→wz, kas_lt_str→xj, plainOver→xq, kitx_none→xr, kitx_bool→xt, kitx_list→xu, handedIn→x9, kitx_int→yb, kitx_str→yc, kas_sort→yj, OpenLaw→yu, kat_nil→y0, listOf→zb, WalkO→ze, KasT→zi
open PySem renaming wpAny_bind→ae, Value→af, Addr→ag, wpAny_pure→ai, Shared→ao, starEach→ar, wpAny→au, sizeLine_eq→bz, Expr→b0, tupleKind→b3, mainGlobals→b8, Program→cj, Heap→cm, World→cz, Stmt→c9, Around→df, wpAny_newObj_type→di, backTo→dq, bootBuiltins→dy, wpAny_call_entry→eu, wpAny_truthy_bool→ff, wpAny_holding→fh, cLine→fj, sysModules→f9, wpAny_mono→gk, compareOp→gx, mem_of_lookup→gy, entryOfKey→gz, foldedSetIterable→g7, attributeBase→g9, cellsFrom→hZ, keywordEach→ig, wpAny_setState_of→ik, NameKind→im, wpAny_callSpecial?_slot→iw, Paired→ja, SetTable→jj, Keyword→jk, behindInMarks→jn, wpAny_typeNameOfWhole_valiter→jo, wpAny_typeNameOfWhole_keyiter→jp, rawInt→jq, backToKw→jt, swapsWith→jw, wpAny_setField_rec→j3, storedH→j6, FuncData→j7, pyNext→ka, wpAny_dictEntries→kc, codeAny→kq, wpAny_typeNameOf_valiter→kz, wpAny_typeNameOf_keyiter→k6, Scope→k9, tupleKind_room_in1→lq, wpAny_dictEpoch→ls, codeAny_builtin→lz, binaryOp→l7, codeAny_mono→l8, wpAny_fieldsOf→md, firstArgMember→me, DictEntry→mh, atKey→mr, sliceBounds→ng, wpAny_of_eq→nh, wpAny_passesOwn→nq, wpAny_ite_split→nv, getMethod→oj, wpAny_Call_Name_kw→om, assignEach→o6, standAt→o7, wpAny_pyIter_slot→pe, wpAny_attempt→pk, plainId_quiet→pp, wpAny_isInstance→pz, strKind_is→qc, wpAny_isOneOf_valiter→qh, wpAny_execs_nil→qi, letOwnedTupleGo→qj, getItem→qv, callerA→qw, intText?→qx, setField→qy, wpAny_setField→qz, scanBound→rm, wpAny_newList→se, wpAny_loadPart_at→su, typeLookup→s0, call_meets→tf, wpAny_rule→tw, valueAt→t6, callWith→t8, wpAny_forIn_list→t9, IsPart→ua, wpAny_comprehension_free→ub, relayAll→uf, wpAny_askSetting→ug, putAt→ut, pickOrder→uw, wpAny_field→uz, wpAny_isTrue_Compare1→u6, pyIter→u7, BindsTo→u8, newFunctionEnv→vc, wpAny_notOrdered_dict→ve, newExc→vf, isSubtype_stop→vg, wpAny_isOneOf_keyiter→vh, builtinLookup_eq_fast→vm, isSubtype_type→vn, raiseNew→vv, wpAny_pyIter_keyiter→vx, wpAny_updateDictKeys→vy, isInstance→vz, wpAny_standAt→wc, wpAny_handled→wf, wpAny_isSubtype_exc→wj, wpAny_dictFind_heap→wl, Within→wo, wpAny_typeOf→ww, seqIndex_neg→wx, noteFrame→w8, setFlight→xb, call_meetsIn→xc, seqIndex_of→x5, wpAny_throw→x6, call→yt
open List renaming mem_cons→aj, mem_cons_of_mem→ak, length_map→am, mem_cons_self→av, range→aw, getD_eq_getElem?_getD→ax, mem_map→ay, replicate→az, getElem?_append_left→bc, getElem?_map→bg, size_toArray→bh, getElem?_eq_getElem→bi, length_append→bq, map_cons→bu, length_cons→bv, zipWith→bw, getElem?_eq_some_iff→bx, map_append→b4, getElem?_eq_none→b7, not_mem_nil→cq, mem_filter→cr, nodup_cons→cx, mem_append→c4, mem_append_left→c5, mem_append_right→dh, mem_range→dn, append_nil→dr, length_set→du, range'→dw, mem_singleton→d9, length_range→fg, mem_of_getElem?→fk, replicate_succ→fu, getElem?_range→fw, length_zipWith→fx, append_assoc→fz, filter_cons_of_neg→f6, filter_cons_of_pos→f7, map_map→gp, getElem?_set_self→gq, lookup_cons→gu, all_eq_true→gv, getElem_mem→gw, find?_cons→hW, range_succ→hX, getElem?_replicate→ia, length_filter_le→io, getElem?_set_ne→ir, ext_getElem?→iy, map_congr_left→iz, take_of_length_le→i6, length_take→i9, mem_filterMap→jb, length_singleton→jd, mem_or_eq_of_mem_set→je, flatten_cons→jl, zipWith_cons_cons→jv, length_replicate→j5, getElem?_append_right→j8, nodup_append→ke, getElem?_of_mem→ki, lookup→km, filterMap_cons→lh, pairwise_cons→l0, length_drop→mq, range'_succ→mw, mem_flatMap→my, any_cons→mz, length→m9, filter_sublist→nj, length_nil→nr, map_nil→ou, set_set→oz, filter_cons→px, take_succ_eq_append_getElem→p8, any_eq_true→qd, sum_append→qo, flatMap_append→qt, length_eraseIdx_of_lt→sf, mem_range'_1→sy, drop_eq_getElem_cons→tj, mem_of_find?_eq_some→tm, pairwise_iff_getElem→tu, length_eq_zero_iff→ul, of_mem_zip→ur, range_succ_eq_map→u4, length_pos_of_mem→u5, getElem?_zipWith→vd, mem_iff_getElem→v4, map_take→wg, filter_eq_self→wm, zip_cons_cons→wv, getElem_range→xa, find?_eq_none→xi, set_cons_zero→xm, set_cons_succ→xn, filter_append→xo, mem_replicate→xp, getElem?_inj→xw, nodup_range'→xz, drop_length→ye, map_snd_zip→yh, getElem_map→yk, zipWith_map→yl, foldl→yp, foldl_cons→yq, nil_append→yr, find?_some→yz, filter_nil→y6, forIn_nil→y9
open PySem.Heap renaming get?_push_of_some→aq, lt_size→bj, get?_push_size→br, get?_update_other→dc, SameBut→d4, get?_update_self→ee, size_push→f8, DictOfH→i7, size_update→p7
open Nat renaming le_refl→bp, ne_of_lt→cf, lt_of_lt_of_le→ck, le_trans→cu, lt_irrefl→d5, zero_le→i4, le_of_lt→jg, lt_of_le_of_lt→jy, min_self→jz, lt_succ_self→mm, lt_or_ge→oy, ne_of_gt→t7, min_eq_left→ux, not_lt→vt, le_of_eq→wq, lt_succ_of_lt→xx, le_succ→x4
open Bool renaming and_eq_true→bt, false_ne_true→cg, false_eq_true→d7, or_eq_true→ji, not_eq_true'→ss, or_false→we, and_false→y8, not_false→za
open PySem.Value renaming ref→b9, none→eg, type→fm, str→ip, int→qf, isStrOf_shape→qq, bool→vp, isStrOf→wb
open Array renaming length_toList→ca, getD_eq_getD_getElem?→ci, getElem?_eq_getElem→c7, getElem?_toList→fy, getElem?_eq_none→ii, getElem?_eq_some_iff→m5, perm_iff_toList_perm→m8, isEmpty_iff→pf, toList_push→sv, toList_map→yf, toList_zip→yg, all_toList→yi, ext'→yy
open Option.some renaming inj→ce
open Ne renaming symm→cw
open Int renaming toNat_natCast→da, natCast_nonneg→j4, le_refl→ko
open PySem.NameKind renaming cell→de, free→ic
open PyProof.Rows renaming seqObj→d8, slot_tuple_getitem→ju, envOfC→jx, IntsAre→lm, sortedHeap→lu, callWith_type1→mf, get?_update_seq→ny, AllBare→o5, entry_list_sort→qm, slot_list_sort→rg, args_list_sort→rh, subscriptTail_builtinR→u0, subscriptTail→wd, plain_sorted→xf, entry_sorted→xg, args_sorted1→xh, kind_sorted→x8, lt_int→yn
open PySem.F renaming slot_dict_valueiterator_next→gn, slot_dict_keyiterator_next→g8, called_set→iq, args_dict_valueiterator_next_1→ni, entry_dict_valueiterator_next→n6, args_dict_keyiterator_next_1→ox, entry_dict_keyiterator_next→o9, slot_dict_iter→pi, slot_dict_values_iter→qp, plain_extend_loop→tz, slot_dict_values→uc, slot_dict_update→ud, slot_list_insert→ui, plainAttrs_dict→uj, plain_list_iadd→um, slot_list_append→va, slot_list_extend→vb, slot_dict_pop→vj, plain_set_new→vk, slot_set_iter→vo
open True renaming intro→ib
open PySem.Builtin.Dict_items renaming ownsTuple→iu, newIterator→yx, dictOf→zh
open False renaming elim→i8
open PySem.Str renaming ofString→jc
open PySem.Obj renaming mapSeq→jh, data_mapFields→j0, mapFields→m7, isFreed_of_fields→qg, mapDictKeys→uu, cls_mapFields→xv, putSet→y4
open PySem.Paired renaming length→jm
open PySem.Heap.SameBut renaming update→jr
open PySem.Builtin.List renaming listFitsIndex→j9, listTooLong→ky, listExtendWith→mj, listLengthHint→rn, listSameRef→uh
open PySem.Builtin.Slice renaming slicePlaces→kh, sliceAdjust→nu, sliceApplied→r9
open PySem.Around renaming under_plainId→kj, under→wt
open PySem.SetTable renaming below→kt, grown→pb, orStandIn→xk, fits→zg
open PySem.Builtin.Tuple renaming tupleExact→ku, tupleHashOf→tq
open Std.Legacy renaming Range→k7
open Classical renaming propDecidable→lj
open PySem.Builtin.Dict renaming showsAll→ma
open PySem.Calls renaming call_function_entry→n5, Name_function_global→rq, callWith_builtin→u3, evalArgs_plain→vq
open Option renaming isSome_iff_exists→oq, map_eq_some_iff→ph, isSome_map→sj, isSome_some→wy, getD_none→ya, bind_some→ym, some→zn, none→zo
open PyProof.Rows.F renaming plain_set_update_loop→pc, entry_set_update_loop→uk
open Sum renaming inl→qe, inr→t4
open ForInStep renaming yield→ql
open Lean.Macro renaming throwUnsupported→rp
open Std.Legacy.Range renaming forIn_eq_forIn_range'→wn, size→zm
open PySem.Data renaming cell→wp, dict→zd
open PySem.Code renaming isFrame→wu
open PySem.SetTable.below renaming go→xy
open PySem.SeqAt renaming EqAt→yo
open PySem.PassesOwn renaming never→yw
open Array.Perm renaming refl→y3
open PySem.Builtin.Frozenset renaming updateFrom→zc, newClass→zf, sizeOf→zk, slot0→zl
open PySem.pickOrder renaming go→zj
open PySem PySem.Spec PyProof.Rows
set_option Elab.async false
set_option linter.all false
set_option maxRecDepth 100000
set_option maxHeartbeats 4000000
section
namespace L2
abbrev Key:=Sum Int Str
noncomputable def BO:Key->af->Bool
 |.inl k,v=>Value.isInt k v
 |.inr x,v=>wb x v
noncomputable def Rk (w:cz):Key->Int
 |.inl k=>hashInt k
 |.inr x=>hashStr w x
theorem bZ:∀ {k:Key}{v:af},BO k v=true->(∃ i t,k=qe i/\v=qf i t)∨(∃ x t,k=t4 x/\v=ip x t)
 |.inl i,v,h=>by
  obtain⟨t,e⟩:=Value.isInt_shape (k:=i) (v:=v) h;exact .inl ⟨i,t,rfl,e⟩
 |.inr x,v,h=>by
  obtain⟨t,e⟩:=qq (x:=x) (v:=v) h;exact .inr ⟨x,t,rfl,e⟩
theorem Ec (i:Int) (t:Tok):BO (.inl i) (.int i t)=true:=by simp[BO,Value.isInt]
theorem Eb (x:Str) (t:Tok):BO (.inr x) (.str x t)=true:=by simp[BO,wb]
theorem NL (a b:Int):decide ((qe a:Key)=qe b)=(a==b):=by
 by_cases e:a=b
 ·subst e;simp
 ·have h:¬(qe a:Key)=qe b:=fun q=>e (Sum.inl.inj q);rw[decide_eq_false h];exact(beq_eq_false_iff_ne.mpr e).symm
theorem NH (a b:Str):decide ((t4 a:Key)=t4 b)=decide (a=b):=by
 by_cases e:a=b
 ·subst e;simp
 ·have h:¬(t4 a:Key)=t4 b:=fun q=>e (Sum.inr.inj q);rw[decide_eq_false h,decide_eq_false e]
theorem NK (a:Int) (b:Str):decide ((qe a:Key)=t4 b)=false:=decide_eq_false (fun q=>nomatch q)
theorem NI (a:Str) (b:Int):decide ((t4 a:Key)=qe b)=false:=decide_eq_false (fun q=>nomatch q)
noncomputable def aI (prog:cj) (w:cz):PySem.KeyKind prog w Key where
 is:=BO
 hash:=Rk w
 inj:=fun v a b ha hb=>by
  rcases bZ ha with⟨i,t,rfl,rfl⟩|⟨x,t,rfl,rfl⟩
  ·rcases bZ hb with⟨j,u,rfl,e⟩|⟨y,u,rfl,e⟩
   ·injection e with e1 _;rw[e1]
   ·exact nomatch e
  ·rcases bZ hb with⟨j,u,rfl,e⟩|⟨y,u,rfl,e⟩
   ·exact nomatch e
   ·injection e with e1 _;rw[e1]
 byValue:=fun k v h=>by
  rcases bZ h with⟨i,t,rfl,rfl⟩|⟨x,t,rfl,rfl⟩ <;> rfl
 pyHash:=fun hv h=>by
  rcases bZ hv with⟨i,t,rfl,rfl⟩|⟨x,t,rfl,rfl⟩
  ·exact wpAny_pyHash_int h
  ·exact wpAny_pyHash_str h
 eqBool:=fun hu hv h=>by
  rcases bZ hu with⟨i,t,rfl,rfl⟩|⟨x,t,rfl,rfl⟩
  ·rcases bZ hv with⟨j,u,rfl,rfl⟩|⟨y,u,rfl,rfl⟩
   ·rw[NL] at h;exact wpAny_eqBool_int h
   ·rw[NK] at h;exact SeqAt.EqAt.int_str i t y u _ _ _ _ h
  ·rcases bZ hv with⟨j,u,rfl,rfl⟩|⟨y,u,rfl,rfl⟩
   ·rw[NI] at h;exact SeqAt.EqAt.str_int x t j u _ _ _ _ h
   ·rw[NH] at h;exact wpAny_eqBool_str h
 «strs» :=fun k x t v h=>by
  rcases bZ h with⟨i,u,rfl,e⟩|⟨y,u,rfl,e⟩
  ·exact nomatch e
  ·injection e with e1 _
   subst e1;cases v <;> rfl
theorem yD (prog:cj) (w:cz) (i:Int) (t:Tok):(aI prog w).is (.inl i) (.int i t)=true:=Ec i t
theorem yC (prog:cj) (w:cz) (x:Str) (t:Tok):(aI prog w).is (.inr x) (.str x t)=true:=Eb x t
end L2
namespace L2
inductive V where
 |non|bl (b:Bool)|int (i:Int)|str (x:Str)|byt (b:Array UInt8)|flt (b:UInt64)|ref (a:ag)|ty (n:String)
 deriving DecidableEq
def RelV:V->af->Prop
 |.non,u=>u=eg
 |.bl b,u=>u=vp b
 |.int i,u=>∃ t,u=qf i t
 |.str x,u=>∃ t,u=ip x t
 |.byt b,u=>∃ t,u=Value.bytes b t
 |.flt b,u=>∃ t,u=Value.float b t
 |.ref a,u=>u=b9 a
 |.ty n,u=>u=fm n
abbrev Vals:List V->List af->Prop:=ja RelV
theorem Vals.length (r:Vals xs us):xs.length=us.length:=jm r
theorem Vals.get:∀ {xs:List V}{us:List af}{i:Nat}{x:V},Vals xs us->xs[i]?=zn x->∃ u,us[i]?=zn u/\RelV x u
 |_,_,_,_,.nil,e=>by simp at e
 |_,_,0,_,.cons r _,e=>by simp at e;subst e;exact⟨_,rfl,r⟩
 |_,_,i+1,x,.cons _ t,e=>by
  obtain⟨u,h1,h2⟩:=Vals.get (i:=i) (x:=x) t (by simpa using e);exact⟨u,by simpa using h1,h2⟩
theorem Vals.set (r:RelV x u):∀ {xs:List V}{us:List af} (i:Nat),Vals xs us->Vals (xs.set i x) (us.set i u)
 |_,_,_,.nil=>.nil
 |_,_,0,.cons _ t=>.cons r t
 |_,_,i+1,.cons q t=>.cons q (Vals.set r i t)
theorem Vals.append:∀ {xs ys:List V}{us ws:List af},Vals xs us->Vals ys ws->Vals (xs++ys) (us++ws)
 |_,_,_,_,.nil,s=>s
 |_,_,_,_,.cons r t,s=>.cons r (Vals.append t s)
theorem Vals.take:∀ {xs:List V}{us:List af} (n:Nat),Vals xs us->Vals (xs.take n) (us.take n)
 |_,_,0,_=>.nil
 |_,_,_+1,.nil=>.nil
 |_,_,n+1,.cons r t=>.cons r (Vals.take n t)
theorem Vals.drop:∀ {xs:List V}{us:List af} (n:Nat),Vals xs us->Vals (xs.drop n) (us.drop n)
 |_,_,0,r=>r
 |_,_,_+1,.nil=>.nil
 |_,_,n+1,.cons _ t=>Vals.drop n t
def RelO:Option V->Option af->Prop
 |some v,zn u=>RelV v u
 |none,zo=>True
 |_,_=>False
def KV {κ:Type}:List (κ×V)->List (κ×af)->Prop:=ja fun(p:κ×V) (q:κ×af)=>p.1=q.1/\RelV p.2 q.2
noncomputable def kV:Key->V
 |.inl i=>.int i
 |.inr x=>.str x
inductive HO where
 /-- a list -/
 |lst (xs:List V)
 /-- a tuple (never changes) -/
 |tup (xs:List V)
 /-- a dict whose keys are ints and texts;one whose keys are tuples of ints and texts (the empty one is both) -/
 |dK (kvs:List (Key×V))|dT (kvs:List (List Key×V))
 /-- a set of ints:its members,its size -/
 |set (S:Int->Bool) (n:Nat)
 /-- an instance of the class at C,its dict at dx,its attributes -/
 |ins (C dx:ag) (fs:List (Str×V))
 /-- the dict of the instance at x -/
 |own (x:ag)
 /-- the dict of an exception -/
 |xd (fs:List (Str×V))
 /-- a bound method,f of x -/
 |met (f x:ag)
 /-- a range object lo,lo+1,.. below hi -/
 |rng (lo hi:Int)
 /-- a thing that is known to the object (the script;a dict while a loop walks it):read,never written while it is so -/
 |frz (o:Obj) (u:HO)
 /-- a code object's table -/
 |tbl (ps:Array af)
 /-- any other thing,by what is true of its one object (a def of one's own:SetO a S n:=HO.ext fun h=> ..) -/
 |ext (φ:cm->Prop)
abbrev Hp:=ag->Option HO
noncomputable def upd (H:Hp) (a:ag) (o:HO):Hp:=fun b=>if b=a then zn o else H b
theorem aJ:upd H a o a=zn o:=by unfold upd;rw[if_pos rfl]
theorem aE (h:b≠a):upd H a o b=H b:=by unfold upd;rw[if_neg h]
theorem Kp {H:Hp} (h:H a=zn o) (h':H b=zn u) (d:o≠u):a≠b:=by
 intro e;subst e;rw[h] at h';exact d (ce h')
theorem aG {H:Hp} (h:H a=zn o) (h':H b=zo):a≠b:=by
 intro e;subst e;rw[h] at h';cases h'
section
variable (P:cj) (w:cz)
def ObjOk (H:Hp) (h:cm) (a:ag):HO->Prop
 |.lst xs=>xs.length<=sizeLine/\∃(its:List af) (n:Nat),Vals xs its/\h.get? a=zn { cls:=.type "list",data:=.seq its.toArray n }
 |.tup xs=>xs.length<=sizeLine/\∃ its:List af,Vals xs its/\IsTup h a its.toArray
 |.dK kvs=>kvs.length<=sizeLine/\(a==f9)=false/\∃ vs,KV kvs vs/\h.DictOf (aI P w) a vs
 |.dT kvs=>kvs.length<=sizeLine/\(a==f9)=false/\∃ xs:List (List Key×ag×af),
   ja (fun(p:List Key×V) (q:List Key×ag×af)=>p.1=q.1/\H q.2.1=zn (.tup (p.1.map kV))/\RelV p.2 q.2.2) kvs xs/\
   ∃ o es ep,h.get? a=zn o/\o.ExactDict/\o.data=.dict es ep/\es.toList=xs.map (gz (b3 (aI P w)))/\(xs.map (·.1)).Nodup
 |.set S n=>h.SetOf (intKind P w) a S n
 |.ins C dx fs=>H dx=zn (.own a)/\fs.length<=1000/\dx≠a/\h.get? a=zn (jf C dx)/\
   ∃ mA,h.Ns1 dx mA/\(∀ f,RelO (fs.lookup f) (mA f))/\wo mA (fs.map (·.1))
 |.own _=>∃ o,h.get? a=zn o
 |.xd fs=>∃ mA,h.Ns1 a mA/\∀ f,RelO (fs.lookup f) (mA f)
 |.rng lo hi=>∃ t u v,h.get? a=zn { cls:=.type "range",data:=.fields #[.int lo t,.int hi u,.int 1 v] }
 |.frz o u=>h.get? a=zn o/\ObjOk H h a u
 |.tbl ps=>h.get? a=zn { cls:=.none,data:=.fields ps }
 |.met f x=>h.get? a=zn (sg (.ref f) (.ref x))
 |.ext φ=>φ h/\(∃ o,h.get? a=zn o)/\∀ h1 h2:cm,φ h1->(∀ o,h1.get? a=zn o->h2.get? a=zn o)->φ h2
def HOk (H:Hp) (h:cm):Prop:=∀ a o,H a=zn o->ObjOk P w H h a o
end
section
variable {P:cj}{w:cz}{H H':Hp}{h h':cm}{a:ag}{o:HO}
theorem ObjOk.lt (x:ObjOk P w H h a o):a<h.objs.size:=by
 cases o with
 |lst xs=>obtain⟨_,_,_,_,e⟩:=x;exact bj e
 |tup xs=>obtain⟨_,_,_,p⟩:=x;exact p.lt
 |dK kvs=>obtain⟨_,_,_,_,o,_,_,e,_⟩:=x;exact bj e
 |dT kvs=>obtain⟨_,_,_,_,o,_,_,e,_⟩:=x;exact bj e
 |set S n=>obtain⟨o,_,_,_,e,_⟩:=x;exact bj e
 |ins C dx fs=>obtain⟨_,_,_,e,_⟩:=x;exact bj e
 |own y=>obtain⟨_,e⟩:=x;exact bj e
 |xd fs=>obtain⟨_,⟨_,_,_,e,_⟩,_⟩:=x;exact bj e
 |rng lo hi=>obtain⟨_,_,_,e⟩:=x;exact bj e
 |frz ob u=>obtain⟨e,_⟩:=x;exact bj e
 |tbl ps=>exact bj (show h.get? a=zn _ from x)
 |met f y=>exact bj (show h.get? a=zn _ from x)
 |ext φ=>obtain⟨_,⟨_,e⟩,_⟩:=x;exact bj e
theorem ja.mapP:∀ {l₁:List α}{l₂:List β},ja F l₁ l₂->(∀ a b,F a b->G a b)->ja G l₁ l₂
 |_,_,.nil,_=>.nil
 |_,_,.cons r t,f=>.cons (f _ _ r) (ja.mapP t f)
theorem ObjOk.stay (x:ObjOk P w H h a o) (k:∀ b u,(b=a∨H b=zn (.own a))->h.get? b=zn u->h'.get? b=zn u)
  (ho:∀ b,H b=zn (.own a)->H' b=zn (.own a)) (ht:∀ b xs,H b=zn (.tup xs)->H' b=zn (.tup xs)):ObjOk P w H' h' a o:=by
 induction o with
 |lst xs=>obtain⟨z,its,n,r,e⟩:=x;exact⟨z,its,n,r,k _ _ (.inl rfl) e⟩
 |tup xs=>obtain⟨z,its,r,ob,e,c⟩:=x;exact⟨z,its,r,ob,k _ _ (.inl rfl) e,c⟩
 |dK kvs=>obtain⟨z,y,vs,r,ob,es,ep,e,c⟩:=x;exact⟨z,y,vs,r,ob,es,ep,k _ _ (.inl rfl) e,c⟩
 |dT kvs=>
  obtain⟨z,y,xs,r,ob,es,ep,e,c⟩:=x;exact⟨z,y,xs,ja.mapP r fun p q z=>⟨z.1,ht _ _ z.2.1,z.2.2⟩,ob,es,ep,k _ _ (.inl rfl) e,c⟩
 |set S n=>obtain⟨ob,es,ep,t,e,c⟩:=x;exact⟨ob,es,ep,t,k _ _ (.inl rfl) e,c⟩
 |ins C dx fs=>
  obtain⟨d,z,ne,e,mA,⟨od,es,ep,e2,c⟩,r⟩:=x;exact⟨ho _ d,z,ne,k _ _ (.inl rfl) e,mA,⟨od,es,ep,k _ _ (.inr d) e2,c⟩,r⟩
 |own y=>obtain⟨ob,e⟩:=x;exact⟨ob,k _ _ (.inl rfl) e⟩
 |xd fs=>obtain⟨mA,⟨od,es,ep,e,c⟩,r⟩:=x;exact⟨mA,⟨od,es,ep,k _ _ (.inl rfl) e,c⟩,r⟩
 |rng lo hi=>obtain⟨t,u,v,e⟩:=x;exact⟨t,u,v,k _ _ (.inl rfl) e⟩
 |frz ob u ih=>obtain⟨e,q⟩:=x;exact⟨k _ _ (.inl rfl) e,ih q⟩
 |tbl ps=>
  have e:h.get? a=zn { cls:=.none,data:=.fields ps }:=x;show h'.get? a=zn { cls:=.none,data:=.fields ps };exact k a _ (.inl rfl) e
 |met f y=>
  have e:h.get? a=zn (sg (.ref f) (.ref y)):=x;show h'.get? a=zn (sg (.ref f) (.ref y));exact k a _ (.inl rfl) e
 |ext φ=>obtain⟨p,⟨o,e⟩,st⟩:=x;exact⟨st _ _ p fun o q=>k _ _ (.inl rfl) q,⟨o,k _ _ (.inl rfl) e⟩,st⟩
theorem HOk.lt (x:HOk P w H h) (e:H a=zn o):a<h.objs.size:=(x a o e).lt
theorem HOk.fresh (x:HOk P w H h) (e:h.objs.size<=a):H a=zo:=by
 cases q:H a with
 |none=>rfl
 |some u=>exact absurd (ck (x.lt q) e) (d5 _)
theorem HOk.kept (x:HOk P w H h) (k:∀ b u,h.get? b=zn u->h'.get? b=zn u):HOk P w H h':=fun a o e=>
 (x a o e).stay (fun b u _ q=>k b u q) (fun _ q=>q) fun _ _ q=>q
theorem HOk.laid (x:HOk P w H h) (k:∀ b u,h.get? b=zn u->h'.get? b=zn u) (hp:h.objs.size<=a) (new:ObjOk P w (upd H a o) h' a o):HOk P w (upd H a o) h':=fun b u e=>by
 have hn:=x.fresh hp
 by_cases hb:b=a
 ·subst hb;rw[aJ] at e;cases e;exact new
 ·rw[aE hb] at e;exact(x b u e).stay (fun c v _ q=>k c v q) (fun c q=>by rw[aE (aG q hn)];exact q) fun c xs q=>by rw[aE (aG q hn)];exact q
end
def Rd (H:Hp) (a:ag) (u:HO):Prop:=H a=zn u∨∃ o,H a=zn (.frz o u)
theorem Rd.ok (r:Rd H a u) (x:HOk P w H h):ObjOk P w H h a u:=by
 rcases r with r|⟨o,r⟩
 ·exact x a u r
 ·obtain⟨_,q⟩:=x a _ r;exact q
def Mut:Option HO->Prop
 |some (.lst _)=>True
 |some (.dK _)=>True
 |some (.dT _)=>True
 |some (.set _ _)=>True
 |some (.ins _ _ _)=>True
 |some (.ext _)=>True
 |_=>False
section
variable {P:cj}{w:cz}{H:Hp}{h h':cm}{x e:ag}{o':HO}
theorem HOk.write (ok:HOk P w H h) (mu:Mut (H x)) (he:e=x∨H e=zn (.own x)) (k:∀ b u,b≠e->h.get? b=zn u->h'.get? b=zn u) (heo:∃ u,h'.get? e=zn u)
  (new:ObjOk P w (upd H x o') h' x o'):HOk P w (upd H x o') h':=fun b u q=>by
 have nown:∀ c y,H c=zn (.own y)->c≠x:=fun c y r z=>by subst z;rw[r] at mu;exact mu
 have ntup:∀ c xs,H c=zn (.tup xs)->c≠x:=fun c xs r z=>by subst z;rw[r] at mu;exact mu
 by_cases hb:b=x
 ·subst hb;rw[aJ] at q;cases q;exact new
 ·rw[aE hb] at q
  by_cases hbe:b=e
  ·have q':H b=zn (.own x):=by
    rcases he with z|z
    ·exact absurd (hbe.trans z) hb
    ·rw[hbe];exact z
   rw[q] at q';cases q';obtain⟨v,hv⟩:=heo;exact⟨v,by rw[hbe];exact hv⟩
  ·refine(ok b u q).stay (fun c v hc r=>k c v ?_ r) (fun c r=>by rw[aE (nown c b r)];exact r) fun c xs r=>by rw[aE (ntup c xs r)];exact r
   rcases hc with rfl|hc
   ·exact hbe
   ·rintro rfl;rcases he with z|z
    ·exact nown c b hc z
    ·rw[hc] at z;cases z;exact hb rfl
end
structure Un (fs ex:List ag) (H H':Hp) (h h':cm):Prop where
 keep:∀ b o,h.get? b=zn o->H b=zo->b∉fs->b∉ex->h'.get? b=zn o
 slot:∀ b o,h.get? b=zn o->H b=zo->b∈fs->b∉ex->∃ sl,h'.get? b=zn { o with slots:=sl }
 free:∀ b o,h.get? b=zn o->H b=zo->b∉ex->H' b=zo
 there:∀ b o,h.get? b=zn o->b∉ex->∃ o',h'.get? b=zn o'
 tups:∀ b xs,H b=zn (.tup xs)->H' b=zn (.tup xs)
 frzs:∀ b o u,H b=zn (.frz o u)->H' b=zn (.frz o u)
 tbls:∀ b ps,H b=zn (.tbl ps)->∃ more,H' b=zn (.tbl (ps++more))
section
variable {fs fs' ex ex':List ag}{H H1 H2:Hp}{h h1 h2 h':cm}{a x e:ag}{o:HO}
theorem Un.any (u:Un fs ex H H1 h h1) (q:h.get? b=zn ob) (n:H b=zo) (hx:b∉ex):∃ sl,h1.get? b=zn { ob with slots:=sl }:=by
 by_cases hb:b∈fs
 ·exact u.slot b ob q n hb hx
 ·exact⟨ob.slots,u.keep b ob q n hb hx⟩
theorem Un.kept (k:∀ b u,h.get? b=zn u->h'.get? b=zn u):Un fs ex H H h h':=
 ⟨fun b ob q _ _ _=>k b ob q,fun b ob q _ _ _=>⟨ob.slots,k b ob q⟩,fun _ _ _ n _=>n,fun b ob q _=>⟨ob,k b ob q⟩,fun _ _ q=>q,fun _ _ _ q=>q,fun _ ps q=>⟨#[],by rw[q];simp⟩⟩
theorem Un.refl:Un fs ex H H h h:=Un.kept fun _ _ q=>q
theorem Un.laid (k:∀ b u,h.get? b=zn u->h'.get? b=zn u) (hp:h.objs.size<=a) (hn:H a=zo):Un fs ex H (upd H a o) h h' where
 keep:=fun b u q _ _ _=>k b u q
 slot:=fun b u q _ _ _=>⟨u.slots,k b u q⟩
 free:=fun b u q n _=>by rw[aE (cf (ck (bj q) hp))];exact n
 there:=fun b u q _=>⟨u,k b u q⟩
 tups:=fun b xs q=>by rw[aE (aG q hn)];exact q
 frzs:=fun b u xs q=>by rw[aE (aG q hn)];exact q
 tbls:=fun b ps q=>⟨#[],by rw[aE (aG q hn),q];simp⟩
theorem Un.write (mu:Mut (H x)) (he:e=x∨H e=zn (.own x)) (k:∀ b u,b≠e->h.get? b=zn u->h'.get? b=zn u) (heo:∃ u,h'.get? e=zn u):Un fs ex H (upd H x o) h h':=by
 have hx:∀ b,H b=zo->b≠x:=fun b n z=>by subst z;rw[n] at mu;exact mu
 have hb:∀ b,H b=zo->b≠e:=fun b n z=>by
  subst z;rcases he with r|r
  ·exact hx b n r
  ·rw[n] at r;cases r
 have hm:∀ b u,H b=zn u->¬ Mut (zn u)->b≠x:=fun b u q nm z=>by subst z;rw[q] at mu;exact nm mu
 refine⟨fun b u q n _ _=>k b u (hb b n) q,fun b u q n _ _=>⟨u.slots,k b u (hb b n) q⟩,fun b u q n _=>by rw[aE (hx b n)];exact n,fun b u q _=> ?_,
  fun b xs q=>by rw[aE (hm b _ q fun z=>z)];exact q,fun b u xs q=>by rw[aE (hm b _ q fun z=>z)];exact q,fun b ps q=>⟨#[],by rw[aE (hm b _ q fun z=>z),q];simp⟩⟩
 by_cases hbe:b=e
 ·subst hbe;exact heo
 ·exact⟨u,k b u hbe q⟩
end
noncomputable def trk (h:cm) (H:Hp):List ag:=(aw h.objs.size).filter fun a=>(H a).isSome
noncomputable def Hu (h:cm) (H:Hp):cm:=ga h (trk h H)
theorem Er (h:cm) (H:Hp):(Hu h H).objs.size=h.objs.size:=PySem.W.hideAll_size _ _
theorem Ht (e:h.get? b=zn o) (n:H b=zo):(Hu h H).get? b=zn o:=
 k8 _ e fun hm=>by
  have q:(H b).isSome=true:=(cr.mp hm).2;rw[n] at q;simp at q
theorem JP (e:(Hu h H).get? b=zn o):h.get? b=zn o/\H b=zo:=by
 have e':h.get? b=zn o:=n8 (trk h H) e;refine⟨e',?_⟩;cases q:H b with
 |none=>rfl
 |some x=>
  have hm:b∈trk h H:=cr.mpr ⟨dn.mpr (bj e'),by simp[q]⟩;have z:(Hu h H).get? b=zo:=gg (trk h H) hm;rw[z] at e;cases e
end L2
namespace L2
structure Mod (K:aa) (mg:Str->Option af) (base:cm):Prop where
 kin:K.In base
 glob:base.Ns b8 mg
 blt:∃ mb,base.Ns builtinsNs mb/\∀ x:Str,x≠"__name__"->mb x=dy x
 nolimit:base.NoLimit
structure Cx where
 prog:cj
 w:cz
 K:aa
 mg:Str->Option af
 base:cm
 A:df
 N:List Str
 s₀:ao
 H₀:Hp
 env:Env
 outer:List Env
 stack:List Env
 ex:List ag
 fn:Str->Bool
 calm:Bool
 pn:List (ag×Obj)
 xe:af->ao->Prop
noncomputable def frs (l:List Env):List ag:=l.filterMap (·.frame)
noncomputable abbrev Cx.fs (X:Cx):List ag:=frs X.outer
def Vis (sc:k9) (x:Str):Prop:=sc.names.lookup x=zn .local∨sc.names.lookup x=zn .cell∨sc.names.lookup x=zn .free
def Loc (sc:k9) (x:Str):Prop:=sc.names.lookup x=zn .local∨sc.names.lookup x=zn .cell
def RA (env:Env) (h:cm) (m:Str->Option af) (x:Str) (u:af):Prop:=
 (env.kindOf x=zn .local/\m x=zn u)∨((env.kindOf x=zn .cell∨env.kindOf x=zn .free)/\∃ c,env.cells.lookup x=zn c/\h.IsCell c (zn u))
structure Cx.Ok (X:Cx):Prop where
 mod:Mod X.K X.mg X.base
 kind:X.env.scope.kind=.function
 glob:X.env.globals=b8
 blt:X.env.builtins=builtinsNs
 above:X.s₀.heap.objs.size<=X.env.locals
 inj:∀ x y c,X.env.cells.lookup x=zn c->X.env.cells.lookup y=zn c->x=y
 has:∀ x,(X.env.kindOf x=zn .cell∨X.env.kindOf x=zn .free)->∃ c,X.env.cells.lookup x=zn c
 cab:∀ x c,X.fn x=true->X.env.cells.lookup x=zn c->X.s₀.heap.objs.size<=c
 hd:X.calm=true->X.A.handled=zo
 frames:X.A.frames=zn X.stack
 stk:X.stack=X.outer∨(X.stack=X.env::X.outer/\X.env.frame=zn X.env.locals)
 exf:∀ b∈X.ex,b≠X.env.locals/\∀ x c,X.env.cells.lookup x=zn c->c≠b
 bs:∀ b o,X.base.get? b=zn o->X.s₀.heap.get? b=zn o/\X.H₀ b=zo
 bsz:X.base.objs.size<=X.s₀.heap.objs.size
 noex:∀ b o,X.base.get? b=zn o->b∉X.ex
 exfs:∀ b∈X.ex,b∉X.fs
 funs:X.s₀.heap.FunFrames X.base X.outer
 frf:∀ b∈X.fs,X.H₀ b=zo
structure Inv (X:Cx) (pins:List (ag×Obj)) (σ:List (Option V)) (H:Hp) (s:ao):Prop where
 ok:X.Ok
 os:s.os=X.s₀.os
 bare:o5 s.gens
 base:Un X.fs X.ex X.H₀ H X.s₀.heap s.heap
 loc:∃ m,s.heap.Ns X.env.locals m/\∀(i:Nat) (x:Str) (v:V),X.N[i]?=zn x->σ[i]?=zn (zn v)->Vis X.env.scope x->∃ u,RelV v u/\RA X.env s.heap m x u
 cell:∀ x c,X.env.cells.lookup x=zn c->∃ v,s.heap.IsCell c v
 free:H X.env.locals=zo
 freeC:∀ x c,X.env.cells.lookup x=zn c->H c=zo
 pin:∀ p∈X.pn++pins,s.heap.get? p.1=zn p.2/\H p.1=zo/\p.1≠X.env.locals/\p.1∉X.fs/\∀ v,p.2.data≠ .cell v
 hok:HOk X.prog X.w H s.heap
 len:σ.length=X.N.length
section
variable {X:Cx}{pins:List (ag×Obj)}{σ:List (Option V)}{H H':Hp}{s:ao}{h':cm}
theorem Cx.Ok.nofr (ok:X.Ok) (e:X.base.get? b=zn o):b∉X.fs:=fun hb=>by
 have:=(ok.funs.mem hb).1
 rw[e] at this;cases this
theorem Inv.bs (I:Inv X pins σ H s):∀ b o,X.base.get? b=zn o->s.heap.get? b=zn o/\H b=zo:=fun b o e=>
 ⟨I.base.keep b o (I.ok.bs b o e).1 (I.ok.bs b o e).2 (I.ok.nofr e) (I.ok.noex b o e),I.base.free b o (I.ok.bs b o e).1 (I.ok.bs b o e).2 (I.ok.noex b o e)⟩
theorem Inv.bk (I:Inv X pins σ H s):∀ b o,X.base.get? b=zn o->s.heap.get? b=zn o:=fun b o e=>(I.bs b o e).1
theorem Inv.mod (I:Inv X pins σ H s):Mod X.K X.mg X.base:=I.ok.mod
theorem Inv.kIn (I:Inv X pins σ H s):X.K.In s.heap:=I.ok.mod.kin.keeps I.bk
theorem Inv.lt (I:Inv X pins σ H s):X.env.locals<s.heap.objs.size:=let ⟨_,hn,_⟩:=I.loc;hn.lt
theorem Inv.sz (I:Inv X pins σ H s):X.s₀.heap.objs.size<=s.heap.objs.size:=cu I.ok.above (jg I.lt)
theorem Inv.nofs (I:Inv X pins σ H s) (h:s.heap.objs.size<=a):a∉X.fs:=fun hb=>by
 obtain⟨_,o,ho,_⟩:=I.ok.funs.mem hb;exact absurd (ck (bj ho) (cu I.sz h)) (d5 _)
theorem Inv.cne (I:Inv X pins σ H s):∀ x c,X.env.cells.lookup x=zn c->c≠X.env.locals:=fun x c e z=>by
 obtain⟨v,o,ho,hd⟩:=I.cell x c e;obtain⟨m,⟨o',es,ep,ho',hd',_⟩,_⟩:=I.loc;rw[z,ho'] at ho;cases ho;rw[hd'] at hd;cases hd
theorem Inv.funs (I:Inv X pins σ H s):s.heap.FunFrames X.base X.outer:=by
 have all:∀(l:List Env),(∀ b∈frs l,b∈X.fs)->X.s₀.heap.FunFrames X.base l->s.heap.FunFrames X.base l:=by
  intro l
  induction l with
  |nil=>intro _ _;trivial
  |cons env r ih=>
   intro hs hl;obtain⟨hk,⟨L,o,hf,hn,ho,hd⟩,hr⟩:=hl;have hL:L∈X.fs:=hs L (by unfold frs;rw[lh,hf];exact av);obtain⟨sl,e⟩:=I.base.slot L o ho (I.ok.frf L hL) hL fun z=>I.ok.exfs L z hL;exact⟨hk,⟨L,_,hf,hn,e,hd⟩,ih (fun b hb=>hs b (by unfold frs;rw[lh,hf];exact ak _ hb)) hr⟩
 exact all X.outer (fun _ hb=>hb) I.ok.funs
theorem Inv.stack (I:Inv X pins σ H s):s.heap.FunFrames X.base X.stack:=by
 rcases I.ok.stk with e|⟨e,hf⟩
 ·rw[e];exact I.funs
 ·rw[e];obtain⟨m,hn,_⟩:=I.loc;refine .cons (by rw[I.ok.kind];decide) hf hn ?_ I.funs;exact Heap.get?_none_of_le (cu I.ok.bsz I.ok.above)
theorem Inv.stkSub (I:Inv X pins σ H s):∀ b∈frs X.stack,b∈X.env.locals::X.fs:=fun b hb=>by
 rcases I.ok.stk with e|⟨e,hf⟩
 ·rw[e] at hb;exact ak _ hb
 ·rw[e] at hb;unfold frs at hb;rw[lh,hf] at hb;exact hb
theorem Inv.stkFree (I:Inv X pins σ H s):∀ b∈frs X.stack,H b=zo:=fun b hb=>by
 rcases aj.mp (I.stkSub b hb) with e|hb
 ·rw[e];exact I.free
 ·obtain⟨_,o,ho,_⟩:=I.ok.funs.mem hb;exact I.base.free b o ho (I.ok.frf b hb) fun z=>I.ok.exfs b z hb
theorem Inv.step {ch:List ag} (I:Inv X pins σ H s)
  (hch:∀ b∈ch,(b∈X.ex∨X.s₀.heap.objs.size<=b)/\b≠X.env.locals/\(∀ x c,X.env.cells.lookup x=zn c->c≠b)/\∀ p∈X.pn++pins,p.1≠b)
  (keep:∀ b o,b≠X.env.locals->b∉X.fs->b∉ch->s.heap.get? b=zn o->H b=zo->h'.get? b=zn o)
  (slot:∀ b o,b≠X.env.locals->b∈X.fs->b∉ch->s.heap.get? b=zn o->H b=zo->∃ sl,h'.get? b=zn { o with slots:=sl }) (free:∀ b o,b∉ch->s.heap.get? b=zn o->H b=zo->H' b=zo)
  (there:∀ b o,b∉ch->s.heap.get? b=zn o->∃ o',h'.get? b=zn o')
  (tups:∀ b xs,H b=zn (.tup xs)->H' b=zn (.tup xs)) (frzs:∀ b o u,H b=zn (.frz o u)->H' b=zn (.frz o u)) (tbls:∀ b ps,H b=zn (.tbl ps)->∃ more,H' b=zn (.tbl (ps++more)))
  (ns:∀ m,s.heap.Ns X.env.locals m->h'.Ns X.env.locals m) (hok:HOk X.prog X.w H' h') (hg:o5 g'):
  Inv X pins σ H' { s with heap:=h',gens:=g',drawn:=d',toks:=t' }:=by
 have neL:∀ b o,X.s₀.heap.get? b=zn o->b≠X.env.locals:=fun b o e=>cf (ck (bj e) I.ok.above);have neC:∀ b o,X.s₀.heap.get? b=zn o->b∉X.ex->b∉ch:=fun b o e hx hb=>by
  rcases(hch b hb).1 with z|z
  ·exact hx z
  ·exact absurd (ck (bj e) z) (d5 _)
 have cellK:∀ x c,X.env.cells.lookup x=zn c->∀ v,s.heap.IsCell c v->h'.IsCell c v:=fun x c e v ⟨o,ho,hd⟩=>by
  have nch:c∉ch:=fun z=>(hch c z).2.2.1 x c e rfl
  by_cases hc:c∈X.fs
  ·obtain⟨sl,q⟩:=slot c o (I.cne x c e) hc nch ho (I.freeC x c e);exact⟨_,q,hd⟩
  ·exact⟨o,keep c o (I.cne x c e) hc nch ho (I.freeC x c e),hd⟩
 refine⟨I.ok,I.os,hg,⟨fun b o e n hb hx=> ?_,fun b o e n hb hx=> ?_,fun b o e n hx=> ?_,fun b o e hx=> ?_,fun b xs e=>tups b xs (I.base.tups b xs e),fun b o xs e=>frzs b o xs (I.base.frzs b o xs e),fun b ps e=> ?_⟩,?_,fun x c e=> ?_,?_,fun x c e=> ?_,fun p hp=> ?_,hok,I.len⟩
 ·exact keep b o (neL b o e) hb (neC b o e hx) (I.base.keep b o e n hb hx) (I.base.free b o e n hx)
 ·obtain⟨sl,e1⟩:=I.base.slot b o e n hb hx;obtain⟨sl',e2⟩:=slot b _ (neL b o e) hb (neC b o e hx) e1 (I.base.free b o e n hx);exact⟨sl',e2⟩
 ·obtain⟨o',e1⟩:=I.base.there b o e hx;exact free b o' (neC b o e hx) e1 (I.base.free b o e n hx)
 ·obtain⟨o',e1⟩:=I.base.there b o e hx;exact there b o' (neC b o e hx) e1
 ·obtain⟨m1,e1⟩:=I.base.tbls b ps e;obtain⟨m2,e2⟩:=tbls b _ e1;exact⟨m1++m2,by rw[e2,Array.append_assoc]⟩
 ·obtain⟨m,hn,hl⟩:=I.loc;refine⟨m,ns m hn,fun i x v e1 e2 e3=> ?_⟩;obtain⟨u,r,l⟩:=hl i x v e1 e2 e3;refine⟨u,r,?_⟩;rcases l with l|⟨k,c,e,z⟩
  ·exact .inl l
  ·exact .inr ⟨k,c,e,cellK x c e _ z⟩
 ·obtain⟨v,z⟩:=I.cell x c e;exact⟨v,cellK x c e v z⟩
 ·obtain⟨m,⟨o,_,_,ho,_⟩,_⟩:=I.loc;exact free _ o (fun z=>(hch _ z).2.1 rfl) ho I.free
 ·obtain⟨v,o,ho,hd⟩:=I.cell x c e;exact free c o (fun z=>(hch c z).2.2.1 x c e rfl) ho (I.freeC x c e)
 ·obtain⟨e,n,ne,nf,d⟩:=I.pin p hp;have nch:p.1∉ch:=fun z=>(hch p.1 z).2.2.2 p hp rfl;exact⟨keep p.1 p.2 ne nf nch e n,free p.1 p.2 nch e n,ne,nf,d⟩
theorem Inv.un (I:Inv X pins σ H s) (u:Un X.fs [] H H' s.heap h') (hok:HOk X.prog X.w H' h'):Inv X pins σ H' { s with heap:=h',toks:=t' }:=by
 obtain⟨m,⟨o,es,ep,ho,r⟩,_⟩:=id I.loc;obtain⟨sl,hL⟩:=u.any ho I.free (by simp);exact I.step (g':=s.gens) (d':=s.drawn) (ch:=[]) (fun _ z=>nomatch z) (fun b o _ hb _ e n=>u.keep b o e n hb (by simp)) (fun b o _ hb _ e n=>u.slot b o e n hb (by simp)) (fun b o _ e n=>u.free b o e n (by simp)) (fun b o _ e=>u.there b o e (by simp)) u.tups u.frzs u.tbls (fun m' hm=>by
  obtain⟨o',es',ep',ho',r'⟩:=hm;rw[ho] at ho';cases ho';exact⟨_,es',ep',hL,r'⟩) hok I.bare
theorem Inv.call (I:Inv X pins σ H s) (u:Un (frs X.stack) ch H H' s.heap h') (hok:HOk X.prog X.w H' h') (hg:o5 g')
  (hch:∀ b∈ch,(b∈X.ex∨X.s₀.heap.objs.size<=b)/\b≠X.env.locals/\(∀ x c,X.env.cells.lookup x=zn c->c≠b)/\∀ p∈X.pn++pins,p.1≠b):
  Inv X pins σ H' { s with heap:=h',gens:=g',drawn:=d',toks:=t' }:=by
 obtain⟨m,⟨o,es,ep,ho,r⟩,_⟩:=id I.loc;obtain⟨sl,hL⟩:=u.any ho I.free fun z=>(hch _ z).2.1 rfl;exact I.step (ch:=ch) hch (fun b o hL hb hc e n=>u.keep b o e n (fun z=>(aj.mp (I.stkSub b z)).elim hL hb) hc) (fun b o _ _ hc e n=>u.any e n hc) (fun b o hc e n=>u.free b o e n hc) (fun b o hc e=>u.there b o e hc) u.tups u.frzs u.tbls (fun m' hm=>by
  obtain⟨o',es',ep',ho',r'⟩:=hm;rw[ho] at ho';cases ho';exact⟨_,es',ep',hL,r'⟩) hok hg
theorem Inv.turned (I:Inv X pins σ H s) (k:∀ b o,b≠it->s.heap.get? b=zn o->h'.get? b=zn o) (hn:H it=zo) (hL:it≠X.env.locals)
  (h1:it∈X.ex∨X.s₀.heap.objs.size<=it) (h2:∀ x c,X.env.cells.lookup x=zn c->c≠it) (h3:∀ p∈X.pn++pins,p.1≠it):Inv X pins σ H { s with heap:=h',toks:=t' }:=by
 have nit:∀ b u,H b=zn u->b≠it:=fun b u e z=>by rw[z,hn] at e;cases e
 refine I.step (g':=s.gens) (d':=s.drawn) (ch:=[it]) (fun b hb=> ?_) (fun b o _ _ hc e _=>k b o (fun z=>hc (by simp[z])) e) (fun b o _ _ hc e _=>⟨o.slots,k b o (fun z=>hc (by simp[z])) e⟩) (fun _ _ _ _ n=>n)
  (fun b o hc e=>⟨o,k b o (fun z=>hc (by simp[z])) e⟩) (fun _ _ e=>e) (fun _ _ _ e=>e) (fun b ps e=>⟨#[],by rw[e];simp⟩) (fun m hm=> ?_) (fun b u e=> ?_) I.bare
 ·have e:b=it:=by simpa using hb
  subst e;exact⟨h1,hL,h2,h3⟩
 ·obtain⟨o,es,ep,ho,r⟩:=hm;exact⟨o,es,ep,k _ o (cw hL) ho,r⟩
 ·refine(I.hok b u e).stay (fun c v hc q=>k c v ?_ q) (fun _ q=>q) fun _ _ q=>q;rcases hc with z|z
  ·rw[z];exact nit b u e
  ·exact nit c _ z
theorem Inv.tok (I:Inv X pins σ H s) (t:Nat):Inv X pins σ H { s with toks:=t }:=I.un (h':=s.heap) (t':=t) Un.refl I.hok
theorem Inv.kept (I:Inv X pins σ H s) (k:∀ b u,s.heap.get? b=zn u->h'.get? b=zn u):Inv X pins σ H { s with heap:=h',toks:=t' }:=I.un (Un.kept k) (I.hok.kept k)
theorem Inv.laid (I:Inv X pins σ H s) (k:∀ b u,s.heap.get? b=zn u->h'.get? b=zn u) (hp:s.heap.objs.size<=a) (new:ObjOk X.prog X.w (upd H a o) h' a o):
  Inv X pins σ (upd H a o) { s with heap:=h',toks:=t' }:=I.un (Un.laid k hp (I.hok.fresh hp)) (I.hok.laid k hp new)
theorem Inv.write (I:Inv X pins σ H s) (mu:Mut (H x)) (he:e=x∨H e=zn (.own x)) (k:∀ b u,b≠e->s.heap.get? b=zn u->h'.get? b=zn u) (heo:∃ u,h'.get? e=zn u)
  (new:ObjOk X.prog X.w (upd H x o) h' x o):Inv X pins σ (upd H x o) { s with heap:=h',toks:=t' }:=I.un (Un.write mu he k heo) (I.hok.write mu he k heo new)
theorem Inv.weak (I:Inv X pins σ H s) (hl:σ'.length=σ.length) (w:∀(i:Nat) v,σ'[i]?=zn (zn v)->σ[i]?=zn (zn v)):Inv X pins σ' H s:=
 ⟨I.ok,I.os,I.bare,I.base,let ⟨m,hn,hl'⟩:=I.loc;⟨m,hn,fun i x v e1 e2 e3=>hl' i x v e1 (w i v e2) e3⟩,I.cell,I.free,I.freeC,I.pin,I.hok,hl.trans I.len⟩
theorem Inv.pins_of (I:Inv X pins σ H s) (h:∀ p∈pins',s.heap.get? p.1=zn p.2/\H p.1=zo/\p.1≠X.env.locals/\p.1∉X.fs/\∀ v,p.2.data≠ .cell v):Inv X pins' σ H s:=
 ⟨I.ok,I.os,I.bare,I.base,I.loc,I.cell,I.free,I.freeC,fun p hp=>(c4.mp hp).elim (fun z=>I.pin p (c5 _ z)) (h p),I.hok,I.len⟩
theorem nodup_ix {N:List Str} (hN:N.Nodup) {i j:Nat} (a:N[i]?=zn x) (b:N[j]?=zn x):i=j:=by
 obtain⟨h1,e1⟩:=bx.mp a;obtain⟨h2,e2⟩:=bx.mp b;exact(List.getElem_inj hN).mp (e1.trans e2.symm)
theorem uP (I:Inv X pins σ H s) (hN:X.N.Nodup) (hi:X.N[i]?=zn x) (hx:Loc X.env.scope x) (r:RelV v u)
  (h:∀ s',Inv X pins (σ.set i (zn v)) H s'->(∃ a,d4 a s.heap s'.heap/\(a=X.env.locals∨X.env.cells.lookup x=zn a))->Q () s') (hf:X.fn x=true∨X.env.scope.names.lookup x=zn .local:=by first|exact .inl rfl|exact .inr rfl|assumption):au M A (storeName X.env x u) Q E s:=by
 obtain⟨m,hn,hl⟩:=id I.loc;have hcls:(X.env.scope.kind== .class||(X.env.scope.kind== .module&&X.env.locals !=X.env.globals))=false:=by rw[I.ok.kind];rfl
 have hiσ:i<σ.length:=by rw[I.len];exact(bx.mp hi).1
 have cne:=I.cne;have tracked:∀ {a:ag}{h':cm},(∃ o,s.heap.get? a=zn o/\H a=zo)->d4 a s.heap h'->HOk X.prog X.w H h':=fun {a h'} ha hs b ob e=>by
  obtain⟨_,_,hfree⟩:=ha;refine(I.hok b ob e).stay (fun c w' hc q=>(hs.2 c ?_).trans q) (fun _ q=>q) fun _ _ q=>q;rintro rfl;rcases hc with rfl|hc
  ·rw[hfree] at e;cases e
  ·rw[hfree] at hc;cases hc
 rcases hx with hk|hk
 ·refine wpAny_storeName_local hk hn (fun h' hn' hs=> ?_) hcls;obtain⟨oL,_,_,hoL,_⟩:=id hn;refine h _ ⟨I.ok,I.os,I.bare,⟨fun b o e n hb hx=> ?_,fun b o e n hb hx=> ?_,I.base.free,fun b o e hx=> ?_,I.base.tups,I.base.frzs,I.base.tbls⟩,⟨_,hn',fun j y v' e1 e2 e3=> ?_⟩,fun y c e=> ?_,I.free,I.freeC,fun p hp=> ?_,tracked ⟨oL,hoL,I.free⟩ hs,by simpa using I.len⟩ ⟨_,hs,.inl rfl⟩
  ·exact(hs.2 b (cf (ck (bj e) I.ok.above))).trans (I.base.keep b o e n hb hx)
  ·obtain⟨sl,e1⟩:=I.base.slot b o e n hb hx;exact⟨sl,(hs.2 b (cf (ck (bj e) I.ok.above))).trans e1⟩
  ·obtain⟨o',e1⟩:=I.base.there b o e hx;exact⟨o',(hs.2 b (cf (ck (bj e) I.ok.above))).trans e1⟩
  ·by_cases hj:j=i
   ·subst hj;rw[hi] at e1;cases e1;rw[gq hiσ] at e2;cases e2;exact⟨u,r,.inl ⟨hk,by simp⟩⟩
   ·rw[ir (cw hj)] at e2;obtain⟨u',r',q⟩:=hl j y v' e1 e2 e3;refine⟨u',r',?_⟩;rcases q with⟨k,e⟩|⟨k,c,e,z⟩
    ·refine .inl ⟨k,?_⟩
     have:y≠x:=fun e=>hj (nodup_ix hN e1 (e ▸ hi))
     simp[this,e]
    ·exact .inr ⟨k,c,e,z.sameBut hs (cne y c e)⟩
  ·obtain⟨w',z⟩:=I.cell y c e;exact⟨w',z.sameBut hs (cne y c e)⟩
  ·obtain⟨e,n,ne,nf,d⟩:=I.pin p hp;exact⟨(hs.2 p.1 ne).trans e,n,ne,nf,d⟩
 ·have hfn:X.fn x=true:=by
   rcases hf with z|z
   ·exact z
   ·rw[z] at hk;cases hk
  obtain⟨c,hc⟩:=I.ok.has x (.inl hk);obtain⟨w',z⟩:=I.cell x c hc;refine wpAny_storeName_cell I.ok.kind hk hc z (fun h' hc' hs=> ?_);obtain⟨oc,hoc,hocd⟩:=id z;refine h { s with heap:=h' } ⟨I.ok,I.os,I.bare,⟨fun b o e n hb hx=> ?_,fun b o e n hb hx=> ?_,I.base.free,fun b o e hx=> ?_,I.base.tups,I.base.frzs,I.base.tbls⟩,⟨m,hn.sameBut hs (cw (cne x c hc)),fun j y v' e1 e2 e3=> ?_⟩,fun y c' e=> ?_,I.free,I.freeC,fun p hp=> ?_,tracked ⟨oc,hoc,I.freeC x c hc⟩ hs,by simpa using I.len⟩ ⟨c,hs,.inr hc⟩
  ·exact(hs.2 b (cf (ck (bj e) (I.ok.cab x c hfn hc)))).trans (I.base.keep b o e n hb hx)
  ·obtain⟨sl,e1⟩:=I.base.slot b o e n hb hx;exact⟨sl,(hs.2 b (cf (ck (bj e) (I.ok.cab x c hfn hc)))).trans e1⟩
  ·obtain⟨o',e1⟩:=I.base.there b o e hx;exact⟨o',(hs.2 b (cf (ck (bj e) (I.ok.cab x c hfn hc)))).trans e1⟩
  ·by_cases hj:j=i
   ·subst hj;rw[hi] at e1;cases e1;rw[gq hiσ] at e2;cases e2;exact⟨u,r,.inr ⟨.inl hk,c,hc,hc'⟩⟩
   ·rw[ir (cw hj)] at e2;obtain⟨u',r',q⟩:=hl j y v' e1 e2 e3;refine⟨u',r',?_⟩;rcases q with q|⟨k,c',e,z'⟩
    ·exact .inl q
    ·refine .inr ⟨k,c',e,z'.sameBut hs ?_⟩;rintro rfl;exact hj (nodup_ix hN e1 (I.ok.inj _ _ _ e hc ▸ hi))
  ·by_cases hcc:c'=c
   ·subst hcc;exact⟨_,hc'⟩
   ·obtain⟨w2,z2⟩:=I.cell y c' e;exact⟨w2,z2.sameBut hs hcc⟩
  ·obtain⟨e,n,ne,nf,d⟩:=I.pin p hp;refine⟨(hs.2 p.1 ?_).trans e,n,ne,nf,d⟩;intro q;rw[q,hoc] at e;have q':oc=p.2:=ce e;exact d w' (by rw[<- q'];exact hocd)
theorem As (I:Inv X pins σ H s) (hN:X.N.Nodup) (hi:X.N[i]?=zn x) (hx:Loc X.env.scope x) (r:RelV v u)
  (h:∀ s',Inv X pins (σ.set i (zn v)) H s'->Q () s') (hf:X.fn x=true∨X.env.scope.names.lookup x=zn .local:=by first|exact .inl rfl|exact .inr rfl|assumption):au M A (storeName X.env x u) Q E s:=
 uP I hN hi hx r (fun s' I' _=>h s' I') hf
theorem Inv.call' (I:Inv X pins σ H s) (ho:s'.os=s.os) (u:Un (frs X.stack) ch H H' s.heap s'.heap) (hok:HOk X.prog X.w H' s'.heap) (hg:o5 s'.gens)
  (hch:∀ b∈ch,(b∈X.ex∨X.s₀.heap.objs.size<=b)/\b≠X.env.locals/\(∀ x c,X.env.cells.lookup x=zn c->c≠b)/\∀ p∈X.pn++pins,p.1≠b):Inv X pins σ H' s':=by
 obtain⟨h',g',d',t',o'⟩:=s';have e:o'=s.os:=ho;subst e;exact I.call (g':=g') (t':=t') (d':=d') u hok hg hch
end
abbrev XK:=af->Option ag->Hp->Prop
abbrev St:=List (Option V)
abbrev VK:=V->Hp->Prop
abbrev TE:=St->Hp->VK->Prop
abbrev TT:=St->Hp->(Bool->Hp->Prop)->Prop
abbrev TA:=St->Hp->(List V->Hp->Prop)->Prop
structure Bt where
 nx:St->Hp->Prop
 rt:VK
 bk:St->Hp->Prop:=fun _ _=>False
 ct:St->Hp->Prop:=fun _ _=>False
abbrev TS:=Bt->St->Hp->Prop
def EP (X:Cx) (pins:List (ag×Obj)) (σ:St) (Q:VK) (u:af) (s':ao):Prop:=∃ v H',Inv X pins σ H' s'/\RelV v u/\Q v H'
def TP (X:Cx) (pins:List (ag×Obj)) (σ:St) (Q:Bool->Hp->Prop) (b:Bool) (s':ao):Prop:=∃ H',Inv X pins σ H' s'/\Q b H'
def AP (X:Cx) (pins:List (ag×Obj)) (σ:St) (Q:List V->Hp->Prop) (us:List af) (s':ao):Prop:=∃ vs H',Inv X pins σ H' s'/\Vals vs us/\Q vs H'
def SP (X:Cx) (pins:List (ag×Obj)) (D:Bt) (f:Flow) (s':ao):Prop:=
 match f with
 |.next=>∃ σ' H',Inv X pins σ' H' s'/\D.nx σ' H'
 |.brk=>∃ σ' H',Inv X pins σ' H' s'/\D.bk σ' H'
 |.cont=>∃ σ' H',Inv X pins σ' H' s'/\D.ct σ' H'
 |.ret u=>∃ v σ' H',Inv X pins σ' H' s'/\RelV v u/\D.rt v H'
def PE (X:Cx) (e:b0) (t:TE):Prop:=
 ∀(pins:List (ag×Obj)) (s:ao) (σ:St) (H:Hp) (Q:VK),Inv X pins σ H s->t σ H Q->au (model X.prog X.w) X.A (eval e X.env) (EP X pins σ Q) X.xe s
def PT (X:Cx) (e:b0) (t:TT):Prop:=
 ∀(pins:List (ag×Obj)) (s:ao) (σ:St) (H:Hp) (Q:Bool->Hp->Prop),Inv X pins σ H s->t σ H Q->au (model X.prog X.w) X.A (isTrue e X.env (eval e X.env)) (TP X pins σ Q) X.xe s
def PW (X:Cx) (e:b0) (t:TT):Prop:=
 ∀(whole:Sem af) (pins:List (ag×Obj)) (s:ao) (σ:St) (H:Hp) (Q:Bool->Hp->Prop),Inv X pins σ H s->t σ H Q->au (model X.prog X.w) X.A (isTrue e X.env whole) (TP X pins σ Q) X.xe s
theorem PW.pt (h:PW X e t):PT X e t:=h _
def PA (X:Cx) (es:List b0) (t:TA):Prop:=
 ∀(pos:Pos) (pins:List (ag×Obj)) (s:ao) (σ:St) (H:Hp) (Q:List V->Hp->Prop),Inv X pins σ H s->t σ H Q->au (model X.prog X.w) X.A (spliced (dq pos (ar es X.env))) (AP X pins σ Q) X.xe s
def PS (X:Cx) (st:c9) (t:TS):Prop:=
 ∀(pins:List (ag×Obj)) (s:ao) (σ:St) (H:Hp) (D:Bt),Inv X pins σ H s->t D σ H->au (model X.prog X.w) X.A (exec st X.env) (SP X pins D) X.xe s
def PSs (X:Cx) (st:List c9) (t:TS):Prop:=
 ∀(pins:List (ag×Obj)) (s:ao) (σ:St) (H:Hp) (D:Bt),Inv X pins σ H s->t D σ H->au (model X.prog X.w) X.A (execs st X.env) (SP X pins D) X.xe s
theorem thn {Q Q':α->ao->Prop} (h:au M A t Q E s) (hQ:∀ a s,Q a s->Q' a s):au M A t Q' E s:=gk h hQ fun _ _ x=>x
end L2
namespace L2
section
variable {X:Cx}
def Qs (i:Nat):TE:=fun σ H Q=>∃ v,σ[i]?=zn (zn v)/\Q v H
def tC (v:V):TE:=fun _ H Q=>Q v H
theorem MA (hN:X.N[i]?=zn x) (hv:Vis X.env.scope x) (hd:(x==("__debug__":Str))=false:=by decide) (hcd:(x==("__classdict__":Str))=false:=by decide):PE X (.Name x pos) (Qs i):=by
 intro pins s σ H Q I h;obtain⟨v,e,h⟩:=h;obtain⟨m,hn,hl⟩:=I.loc;obtain⟨u,r,l⟩:=hl i x v hN e hv;have fin:EP X pins σ Q u s:=⟨v,H,I,r,h⟩;rcases l with⟨hk,hm⟩|⟨hk,c,hc,hcell⟩
 ·exact wpAny_Name (wpAny_loadName_local I.ok.kind hk hn hm fin) hd
 ·rcases hk with hk|hk
  ·exact wpAny_Name (wpAny_loadName_cell I.ok.kind hk hc hcell fin) hd
  ·exact wpAny_Name (wpAny_loadName_free I.ok.kind hk hc hcell fin hcd) hd
theorem MG:PE X (.Constant (.int i) j pos) (tC (.int i)):=fun _ _ _ H _ I h=>wpAny_Constant_int ⟨.int i,H,I.tok _,⟨_,rfl⟩,h⟩
theorem Pt:PE X (.Constant (.bool b) j pos) (tC (.bl b)):=fun _ _ _ H _ I h=>Constant_bool ⟨.bl b,H,I,rfl,h⟩
theorem MF:PE X (.Constant .none j pos) (tC .non):=fun _ _ _ H _ I h=>Constant_none ⟨.non,H,I,rfl,h⟩
theorem MC:PE X (.Constant (.str x) j pos) (tC (.str x)):=fun _ _ _ H _ I h=>Calls.Constant_str ⟨.str x,H,I.tok _,⟨_,rfl⟩,h⟩
def Gl (X:Cx) (x:Str):Prop:=X.env.kindOf x=zn .globalImplicit
theorem sL (I:Inv X pins σ H s) (hg:Gl X x) (hm:X.mg x=zn u) (h:Q u s)
  (hd:(x==("__debug__":Str))=false:=by decide):au (model X.prog X.w) X.A (eval (.Name x pos) X.env) Q E s:=
 rq I.ok.kind hg (Calls.loadGlobal_global (by rw[I.ok.glob];exact I.mod.glob.keeps I.bk) hm h) hd
theorem vP (I:Inv X pins σ H s) (hg:Gl X x) (hm:X.mg x=zo) (hv:dy x=zn u) (h:Q u s)
  (hn:x≠"__name__":=by decide) (hd:(x==("__debug__":Str))=false:=by decide):au (model X.prog X.w) X.A (eval (.Name x pos) X.env) Q E s:=by
 obtain⟨mb,h1,h2⟩:=I.mod.blt;exact rq I.ok.kind hg (Calls.loadGlobal_builtin (by rw[I.ok.glob];exact I.mod.glob.keeps I.bk) hm (by rw[I.ok.blt];exact h1.keeps I.bk) ((h2 x hn).trans hv) h) hd
theorem xU (hg:Gl X x) (hm:X.mg x=zo) (hv:dy x=zn u) (r:RelV v u) (hn:x≠"__name__":=by decide) (hd:(x==("__debug__":Str))=false:=by decide):PE X (.Name x pos) (tC v):=
 fun _ _ _ H _ I h=>vP I hg hm hv ⟨v,H,I,r,h⟩ hn hd
variable {a b:b0}{ta tb:TE}{pos:Pos}
def PC (X:Cx) (op:CmpOp) (a b:b0) (t:TE):Prop:=
 ∀(pins:List (ag×Obj)) (s:ao) (σ:St) (H:Hp) (Q:VK),Inv X pins σ H s->t σ H Q->
  au (model X.prog X.w) X.A (eval a X.env) (fun v s₁=>au (model X.prog X.w) X.A (eval b X.env) (fun u s₂=>au (model X.prog X.w) X.A (gx op v u) (EP X pins σ Q) X.xe s₂) X.xe s₁) X.xe s
def tB (t:TE):TT:=fun σ H Q=>t σ H fun x H1=>∃ c,x=.bl c/\Q c H1
theorem Ms (h:PC X op a b t) (h1:jn op b=false:=by first|exact nobehind _ (by decide) (by decide)|rfl):PT X (.Compare a [op] [b] pos) (tB t):=by
 intro pins s σ H Q I hw;refine u6 (thn (h pins s σ H _ I hw) fun v s1 h1=>thn h1 fun u s2 h2=>thn h2 fun c s3 ⟨x,H1,I1,r1,q1⟩=> ?_) h1;obtain⟨d,rfl,q⟩:=q1;cases r1;exact ff ⟨H1,I1,q⟩
variable {tA tB':TT}{rest:List b0}
def QX (t u:TT):TT:=fun σ H Q=>t σ H fun c H1=>if c=true then u σ H1 Q else Q false H1
def tOr (t u:TT):TT:=fun σ H Q=>t σ H fun c H1=>if c=true then Q true H1 else u σ H1 Q
def QR (t:TT):TT:=fun σ H Q=>t σ H fun c H1=>Q (!c) H1
theorem Jl (ha:PT X a tA):PW X (.BoolOp .And [a] pos) tA:=by
 intro wh pins s σ H Q I h;refine isTrue_and (thn (ha pins s σ H Q I h) fun c s1 e=> ?_);cases c with
 |true=>exact isTrue_and_nil e
 |false=>exact e
theorem Mn (ha:PT X a tA):PW X (.BoolOp .Or [a] pos) tA:=by
 intro wh pins s σ H Q I h;refine isTrue_or (thn (ha pins s σ H Q I h) fun c s1 e=> ?_);cases c with
 |false=>exact isTrue_or_nil e
 |true=>exact e
theorem Mo (ha:PT X a tA) (hb:PW X (.BoolOp .And (b::rest) pos) tB'):PW X (.BoolOp .And (a::b::rest) pos) (QX tA tB'):=by
 intro wh pins s σ H Q I h;refine isTrue_and (thn (ha pins s σ H _ I h) fun c s1 ⟨H1,I1,q1⟩=> ?_);cases c with
 |true=>exact hb wh pins s1 σ H1 Q I1 q1
 |false=>exact⟨H1,I1,q1⟩
theorem Po (ha:PT X a tA) (hb:PW X (.BoolOp .Or (b::rest) pos) tB'):PW X (.BoolOp .Or (a::b::rest) pos) (tOr tA tB'):=by
 intro wh pins s σ H Q I h;refine isTrue_or (thn (ha pins s σ H _ I h) fun c s1 ⟨H1,I1,q1⟩=> ?_);cases c with
 |true=>exact⟨H1,I1,q1⟩
 |false=>exact hb wh pins s1 σ H1 Q I1 q1
theorem Mr (ha:PT X a tA):PT X (.UnaryOp .Not a pos) (QR tA):=by
 intro pins s σ H Q I h;exact isTrue_not (ha pins s σ H (fun c H1=>Q (!c) H1) I h)
def Pg (ta tb:TE):TE:=fun σ H Q=>ta σ H fun x H1=>∃ c,x=.bl c/\if c=true then tb σ H1 Q else Q (.bl false) H1
def OY (ta:TE):TE:=fun σ H Q=>ta σ H fun x H1=>∃ c,x=.bl c/\Q (.bl (!c)) H1
theorem MD (h:PE X a t):PE X (.BoolOp op [a] pos) t:=fun pins s σ H Q I hw=>BoolOp_one (h pins s σ H Q I hw)
theorem MK (ha:PE X a ta) (hb:PE X (.BoolOp .And (b::rest) pos) tb):PE X (.BoolOp .And (a::b::rest) pos) (Pg ta tb):=by
 intro pins s σ H Q I h;refine BoolOp_and (thn (ha pins s σ H _ I h) fun v s1 ⟨x,H1,I1,r1,q1⟩=> ?_);obtain⟨c,rfl,q1⟩:=q1;cases r1;refine ff ?_;cases c with
 |true=>exact hb pins s1 σ H1 Q I1 q1
 |false=>exact⟨.bl false,H1,I1,rfl,q1⟩
theorem ME (ha:PE X a ta):PE X (.UnaryOp .Not a pos) (OY ta):=by
 intro pins s σ H Q I h;refine UnaryOp_ (thn (ha pins s σ H _ I h) fun v s1 ⟨x,H1,I1,r1,q1⟩=> ?_);obtain⟨c,rfl,q1⟩:=q1;cases r1;exact not_of (ff ⟨.bl (!c),H1,I1,rfl,q1⟩)
end
end L2
namespace L2
def SqL (K:aa) (H:Hp) (a:ag) (xs:List V):Prop:=
 Rd H a (.lst xs)∨
  ∃(o:Obj) (its:Array af) (n:Nat),K.lookup a=zn o/\o.cls=.type "list"/\o.dict=zo/\o.data=.seq its n/\its.size<=sizeLine/\Vals xs its.toList
def SqT (K:aa) (H:Hp) (a:ag) (xs:List V):Prop:=
 Rd H a (.tup xs)∨
  ∃(o:Obj) (its:Array af) (n:Nat),K.lookup a=zn o/\o.cls=.type "tuple"/\o.data=.seq its n/\its.size<=sizeLine/\Vals xs its.toList
noncomputable def Rw:af->Option V
 |.none=>zn .non
 |.bool b=>zn (.bl b)
 |.int i _=>zn (.int i)
 |.str x _=>zn (.str x)
 |.bytes b _=>zn (.byt b)
 |.float b _=>zn (.flt b)
 |.ref a=>zn (.ref a)
 |.type n=>zn (.ty n)
 |_=>zo
theorem RelV.abs (r:RelV x u):Rw u=zn x:=by
 cases x with
 |non=>cases r;rfl
 |bl _=>cases r;rfl
 |int _=>obtain⟨t,rfl⟩:=r;rfl
 |str _=>obtain⟨t,rfl⟩:=r;rfl
 |byt _=>obtain⟨t,rfl⟩:=r;rfl
 |flt _=>obtain⟨t,rfl⟩:=r;rfl
 |ref _=>cases r;rfl
 |ty _=>cases r;rfl
theorem RelV.inj (r:RelV x u) (q:RelV y u):x=y:=ce (r.abs.symm.trans q.abs)
theorem Vals.inj:∀ {xs ys:List V}{us:List af},Vals xs us->Vals ys us->xs=ys
 |_,_,_,.nil,.nil=>rfl
 |_,_,_,.cons r t,.cons r' t'=>by rw[r.inj r',Vals.inj t t']
section
variable {X:Cx}{pins:List (ag×Obj)}{σ:St}{H:Hp}{s:ao}{a:ag}{xs ys:List V}
theorem SqL.of {K:aa} (h:H a=zn (.lst xs)):SqL K H a xs:=.inl (.inl h)
theorem Inv.list (I:Inv X pins σ H s) (h:SqL X.K H a xs):∃ its:List af,Vals xs its/\PlainL s.heap a its.toArray/\xs.length<=sizeLine:=by
 rcases h with h|⟨o,its,n,hk,hc,hd,hs,hz,r⟩
 ·obtain⟨z,its,n,r,e⟩:=h.ok I.hok;exact⟨its,r,⟨_,n,e,rfl,rfl,rfl⟩,z⟩
 ·refine⟨its.toList,r,⟨o,n,I.kIn a o hk,hc,hd,by simpa using hs⟩,?_⟩;have e:=r.length;simp only[ca] at e;omega
theorem Inv.tuple (I:Inv X pins σ H s) (h:SqT X.K H a xs):∃ its:List af,Vals xs its/\IsTup s.heap a its.toArray/\xs.length<=sizeLine:=by
 rcases h with h|⟨o,its,n,hk,hc,hs,hz,r⟩
 ·obtain⟨z,its,r,p⟩:=h.ok I.hok;exact⟨its,r,p,z⟩
 ·refine⟨its.toList,r,⟨o,I.kIn a o hk,hc,n,by simpa using hs⟩,?_⟩;have e:=r.length;simp only[ca] at e;omega
theorem Inv.list_inj (I:Inv X pins σ H s) (h:SqL X.K H a xs) (h':SqL X.K H a ys):xs=ys:=by
 obtain⟨its,r,⟨o,n,e,_,_,d⟩,_⟩:=I.list h;obtain⟨its',r',⟨o',n',e',_,_,d'⟩,_⟩:=I.list h';rw[e] at e';cases e';rw[d] at d';injection d' with d1 _
 have:its=its':=by simpa using congrArg Array.toList d1
 subst this;exact r.inj r'
theorem Inv.tuple_inj (I:Inv X pins σ H s) (h:SqT X.K H a xs) (h':SqT X.K H a ys):xs=ys:=by
 obtain⟨its,r,⟨o,e,_,n,d⟩,_⟩:=I.tuple h;obtain⟨its',r',⟨o',e',_,n',d'⟩,_⟩:=I.tuple h';rw[e] at e';cases e';rw[d] at d';injection d' with d1 _
 have:its=its':=by simpa using congrArg Array.toList d1
 subst this;exact r.inj r'
end
noncomputable abbrev Cx.wish (X:Cx) (E:af->ao->Prop):Cx:={ X with xe:=E }
noncomputable abbrev Cx.nox (X:Cx):Cx:=X.wish fun _ _=>False
theorem Cx.Ok.wish {X:Cx} (ok:X.Ok) (E:af->ao->Prop):(X.wish E).Ok:=
 ⟨ok.mod,ok.kind,ok.glob,ok.blt,ok.above,ok.inj,ok.has,ok.cab,ok.hd,ok.frames,ok.stk,ok.exf,ok.bs,ok.bsz,ok.noex,ok.exfs,ok.funs,ok.frf⟩
theorem Cx.Ok.unwish {X:Cx} (ok:(X.wish E).Ok):X.Ok:=
 ⟨ok.mod,ok.kind,ok.glob,ok.blt,ok.above,ok.inj,ok.has,ok.cab,ok.hd,ok.frames,ok.stk,ok.exf,ok.bs,ok.bsz,ok.noex,ok.exfs,ok.funs,ok.frf⟩
section
variable {X:Cx}{pins:List (ag×Obj)}{σ:St}{H:Hp}{s:ao}{E:af->ao->Prop}
theorem Inv.wish (I:Inv X pins σ H s) (E:af->ao->Prop):Inv (X.wish E) pins σ H s:=⟨I.ok.wish E,I.os,I.bare,I.base,I.loc,I.cell,I.free,I.freeC,I.pin,I.hok,I.len⟩
theorem Inv.unwish (I:Inv (X.wish E) pins σ H s):Inv X pins σ H s:=⟨I.ok.unwish,I.os,I.bare,I.base,I.loc,I.cell,I.free,I.freeC,I.pin,I.hok,I.len⟩
theorem SP.unwish (h:SP (X.wish E) pins D f s'):SP X pins D f s':=by
 cases f with
 |next=>obtain⟨σ',H',I,q⟩:=h;exact⟨σ',H',I.unwish,q⟩
 |brk=>obtain⟨σ',H',I,q⟩:=h;exact⟨σ',H',I.unwish,q⟩
 |cont=>obtain⟨σ',H',I,q⟩:=h;exact⟨σ',H',I.unwish,q⟩
 |ret u=>obtain⟨v,σ',H',I,r,q⟩:=h;exact⟨v,σ',H',I.unwish,r,q⟩
end
section
variable {X:Cx}{st:c9}{rest:List c9}{t u:TS}{e:b0}{te:TE}{pos:Pos}
def OZ:TS:=fun D σ H=>D.nx σ H
def QP (t u:TS):TS:=fun D σ H=>t { D with nx:=u D } σ H
theorem Jo:PSs X [] OZ:=fun _ _ σ H _ I h=>qi ⟨σ,H,I,h⟩
theorem GG (h1:PS X st t) (h2:PSs X rest u):PSs X (st::rest) (QP t u):=by
 intro pins s σ H D I h;refine wpAny_execs_cons (thn (h1 pins s σ H { D with nx:=u D } I h) fun f s1 q=> ?_);cases f with
 |next=>
  obtain⟨σ',H',I',q⟩:=q;exact h2 pins s1 σ' H' D I' q
 |ret v=>exact q
 |brk=>exact q
 |cont=>exact q
theorem Jn (h1:PS X st t):PSs X [st] t:=by
 intro pins s σ H D I h;refine wpAny_execs_cons (thn (h1 pins s σ H D I h) fun f s1 q=> ?_);cases f with
 |next=>exact qi q
 |ret v=>exact q
 |brk=>exact q
 |cont=>exact q
theorem Inv.quiet (I:Inv X pins σ H s):interactive X.env=false:=by simp[interactive,I.ok.kind]
def Pc (te:TE):TS:=fun D σ H=>te σ H fun _ H1=>D.nx σ H1
theorem Jq (he:PE X e te) (hs:jw e zo pos.line X.env=pure false:=by rfl):PS X (.Expr e pos) (Pc te):=by
 intro pins s σ H D I h;exact wpAny_Expr_any (thn (he pins s σ H _ I h) fun v s1 ⟨x,H1,I1,r1,q1⟩=>⟨σ,H1,I1,q1⟩) I.quiet hs
def QQ (te:TE):TS:=fun D σ H=>te σ H D.rt
theorem Mu (he:PE X e te):PS X (.Return (zn e) pos) (QQ te):=by
 intro pins s σ H D I h;exact wpAny_Return_some (thn (he pins s σ H _ I h) fun v s1 ⟨x,H1,I1,r1,q1⟩=>⟨x,σ,H1,I1,r1,q1⟩)
def QT (c:TT) (t u:TS):TS:=fun D σ H=>c σ H fun b H1=>if b=true then t D σ H1 else u D σ H1
theorem Pp (hc:PT X c tc) (ha:PSs X a t) (hb:PSs X b u):PS X (.If c a b pos) (QT tc t u):=by
 intro pins s σ H D I h;refine wpAny_If (thn (hc pins s σ H _ I h) fun d s1 ⟨H1,I1,q1⟩=> ?_);cases d with
 |true=>exact ha pins s1 σ H1 D I1 q1
 |false=>exact hb pins s1 σ H1 D I1 q1
end
abbrev TG:=V->St->Hp->(St->Hp->Prop)->Prop
abbrev TGs:=List V->St->Hp->(St->Hp->Prop)->Prop
def PG (X:Cx) (target:b0) (t:TG):Prop:=
 ∀(pins:List (ag×Obj)) (s:ao) (σ:St) (H:Hp) (v:V) (u:af) (Q:St->Hp->Prop),Inv X pins σ H s->RelV v u->t v σ H Q->
  au (model X.prog X.w) X.A (assign target X.env u) (fun _ s'=>∃ σ' H',Inv X pins σ' H' s'/\Q σ' H') X.xe s
def PGs (X:Cx) (ts:List b0) (t:TGs):Prop:=
 ∀(pins:List (ag×Obj)) (s:ao) (σ:St) (H:Hp) (vs:List V) (us:List af) (Q:St->Hp->Prop),Inv X pins σ H s->Vals vs us->t vs σ H Q->
  au (model X.prog X.w) X.A (assignInOrder ((o6 ts X.env).map (·.2)) us) (fun _ s'=>∃ σ' H',Inv X pins σ' H' s'/\Q σ' H') X.xe s
abbrev QJ:=V->V->V->Hp->(Hp->Prop)->Prop
def QK (X:Cx) (t:QJ):Prop:=
 ∀(pins:List (ag×Obj)) (s:ao) (σ:St) (H:Hp) (o i v:V) (ov iv u:af) (Q:Hp->Prop),Inv X pins σ H s->RelV o ov->RelV i iv->RelV v u->t o i v H Q->
  au (model X.prog X.w) X.A (setItem ov iv u) (fun _ s'=>∃ H',Inv X pins σ H' s'/\Q H') X.xe s
section
variable {X:Cx}{pos:Pos}
def NV (i:Nat):TG:=fun v σ H Q=>Q (σ.set i (zn v)) H
theorem xT (hN:X.N.Nodup) (hi:X.N[i]?=zn x) (hx:Loc X.env.scope x) (hf:X.fn x=true∨X.env.scope.names.lookup x=zn .local:=by first|exact .inl rfl|exact .inr rfl|assumption):PG X (.Name x pos) (NV i):=by
 intro pins s σ H v u Q I r h;exact wpAny_assign_Name (As I hN hi hx r (fun s' I'=>⟨_,H,I',h⟩) hf)
noncomputable def Rq:TGs:=fun vs σ H Q=>vs=[]/\Q σ H
noncomputable def PZ (t:TG) (u:TGs):TGs:=fun vs σ H Q=>∃ v r,vs=v::r/\t v σ H fun σ' H'=>u r σ' H' Q
theorem Jv:PGs X [] Rq:=by
 intro pins s σ H vs us Q I r h;obtain⟨e,h⟩:=h;subst e;cases r;exact assignInOrder_nil ⟨σ,H,I,h⟩
theorem AD (h1:PG X e t) (h2:PGs X es u)
  (hs:(o6 (e::es) X.env).map (·.2)=assign e X.env::(o6 es X.env).map (·.2):=by rfl):PGs X (e::es) (PZ t u):=by
 intro pins s σ H vs us Q I r h;obtain⟨v,vr,e1,h⟩:=h;subst e1;cases r with
 |cons r rr=>
  rw[hs];refine assignInOrder_cons (thn (h1 pins s σ H _ _ _ I r h) fun _ s1 ⟨σ1,H1,I1,q1⟩=> ?_);exact h2 pins s1 σ1 H1 _ _ Q I1 rr q1
def Ro (K:aa) (n:Nat) (t:TGs):TG:=fun v σ H Q=>∃ a xs,v=.ref a/\SqT K H a xs/\xs.length=n/\t xs σ H Q
theorem My (hc:X.calm=true) (h:PGs X es t)
  (hn:(o6 es X.env).length=n:=by rfl) (hst:(o6 es X.env).findIdx? (·.1)=zo:=by rfl):PG X (.Tuple es k pos) (Ro X.K n t):=by
 intro pins s σ H v u Q I r hw;obtain⟨a,xs,e1,hq,hl,hw⟩:=hw;subst e1;cases r;obtain⟨its,rv,ht,hz⟩:=I.tuple hq;refine assign_Tuple_tuple (I.ok.hd hc) ht (by simp[hn,<- hl,rv.length]) hst fun h' hx=> ?_;have I1:Inv X pins σ H { s with heap:=h' }:=I.kept (t':=s.toks) fun b o e=>hx b o (cf (bj e)) e;exact h pins _ σ H xs _ Q I1 (by simpa using rv) hw
def gSub (to ti:TE) (t:QJ):TG:=fun v σ H Q=>to σ H fun o H1=>ti σ H1 fun i H2=>t o i v H2 fun H3=>Q σ H3
theorem Mz (ho:PE X o to) (hi:PE X i ti) (hs:QK X t)
  (ha:∀ v,assign (.Subscript o i pos) X.env v=(do
   let ov <- holding [v] (eval o X.env)
   let iv <- holding [v,ov] (eval i X.env)
   o7 pos
   holding [v,ov,iv] (setItem ov iv v)
   release [v,ov,iv] []):=by intro _;rfl):PG X (.Subscript o i pos) (gSub to ti t):=by
 intro pins s σ H v u Q I r h;rw[ha];refine ae (fh (thn (ho pins s σ H _ I h) fun ov s1 ⟨x,H1,I1,r1,q1⟩=> ?_));refine ae (fh (thn (hi pins s1 σ H1 _ I1 q1) fun iv s2 ⟨y,H2,I2,r2,q2⟩=> ?_));refine ae (wc (ae (fh (thn (hs pins s2 σ H2 x y v ov iv u _ I2 r1 r2 r q2) fun _ s3 ⟨H3,I3,q3⟩=> ?_))));exact wpAny_release ⟨σ,H3,I3,q3⟩
def Qu (te:TE) (g:TG):TS:=fun D σ H=>te σ H fun x H1=>g x σ H1 D.nx
theorem Mw (he:PE X e te) (hg:PG X tg g) (hs:swapsWithSole [tg] e pos.line X.env=pure false:=by rfl) (hw:swappedStores [tg] e X.env=pure zo:=by rfl)
  (h1:(o6 [tg] X.env).map (·.2)=[assign tg X.env]:=by rfl):PS X (.Assign [tg] e pos) (Qu te g):=by
 intro pins s σ H D I h;refine wpAny_Assign_stores (thn (he pins s σ H _ I h) fun v s1 ⟨x,H1,I1,r1,q1⟩=> ?_) hs hw;rw[h1];exact thn (hg pins s1 σ H1 x v _ I1 r1 q1) fun _ s2 q=>q
theorem Mt (hN:X.N.Nodup) (hi:X.N[i]?=zn x) (hx:Loc X.env.scope x) (he:PE X e te) (hs:jw e (zn (.Name x pos')) pos.line X.env=pure false:=by rfl) (hf:X.fn x=true∨X.env.scope.names.lookup x=zn .local:=by first|exact .inl rfl|exact .inr rfl|assumption):
  PS X (.Assign [.Name x pos'] e pos) (Qu te (NV i)):=by
 intro pins s σ H D I h;refine wpAny_Assign_Name (thn (he pins s σ H _ I h) fun v s1 ⟨y,H1,I1,r1,q1⟩=> ?_) hs;exact As I1 hN hi hx r1 (fun s2 I2=>⟨_,H1,I2,q1⟩) hf
end
section
variable {X:Cx}{pos:Pos}
end
structure It where
 go:Nat->Hp->Prop
 yld:Nat->Hp->V->Hp->Prop
 stop:Nat->Hp->Prop
def IW (X:Cx) (pins:List (ag×Obj)) (H:Hp) (b:ag):Prop:=
 H b=zo/\b≠X.env.locals/\b∉X.fs/\(b∈X.ex∨X.s₀.heap.objs.size<=b)/\(∀ x c,X.env.cells.lookup x=zn c->c≠b)/\∀ p∈X.pn++pins,p.1≠b
theorem Inv.fpOk (I:Inv X pins σ H s) (hb:s.heap.objs.size<=b) (hn:H' b=zo):IW X pins H' b:=by
 refine⟨hn,t7 (ck I.lt hb),I.nofs hb,.inr (cu I.sz hb),fun x c e z=> ?_,fun p hp z=> ?_⟩
 ·obtain⟨v,q⟩:=I.cell x c e;exact absurd (ck q.lt (by rw[z];exact hb)) (d5 _)
 ·exact absurd (ck (bj (I.pin p hp).1) (by rw[z];exact hb)) (d5 _)
structure LL (P:cj) (w:cz) (K:aa) (tg:b0) (J:It) (fp:List ag) (it:ag) (tn:Nat->cm->Prop):Prop where
 mem:it∈fp
 obj:∀ i h,tn i h->∀ b∈fp,∃ o,h.get? b=zn o/\∀ v,o.data≠ .cell v
 keep:∀ i h h',tn i h->(∀ b∈fp,∀ o,h.get? b=zn o->h'.get? b=zn o)->tn i h'
 item:∀(X:Cx),X.prog=P->X.w=w->X.K=K->X.calm=true->∀(i:Nat) (pins:List (ag×Obj)) (s:ao) (σ:St) (H:Hp) (E:af->ao->Prop),Inv X pins σ H s->(∀ b∈fp,IW X pins H b)->tn i s.heap->J.go i H->
  au (model P w) X.A (ka (.ref it)) (fun r s1=>∃ u,r=zn u/\
   au (model P w) X.A (qj tg (.ref it) u) (fun _ s2=>∃ x H',Inv X pins σ H' s2/\RelV x u/\J.yld i H x H'/\tn (i+1) s2.heap/\∀ b∈fp,H' b=zo) E s1) E s
 done:∀(X:Cx),X.prog=P->X.w=w->X.K=K->X.calm=true->∀(i:Nat) (pins:List (ag×Obj)) (s:ao) (σ:St) (H:Hp) (E:af->ao->Prop),Inv X pins σ H s->(∀ b∈fp,IW X pins H b)->tn i s.heap->J.stop i H->
  au (model P w) X.A (ka (.ref it)) (fun r s1=>r=zo/\Inv X pins σ H s1) E s
 self:∀(A:df) (i:Nat) (s:ao) (Q:af->ao->Prop) (E:af->ao->Prop),tn i s.heap->Q (.ref it) s->au (model P w) A (u7 (.ref it)) Q E s
abbrev TI:=St->Hp->(It->Hp->Prop)->Prop
def PIE (X:Cx) (pins:List (ag×Obj)) (σ:St) (tg:b0) (R:It->Hp->Prop) (itv:af) (s2:ao):Prop:=
 ∃(it:ag) (fp:List ag) (tn:Nat->cm->Prop) (J:It) (H':Hp),itv=.ref it/\Inv X pins σ H' s2/\LL X.prog X.w X.K tg J fp it tn/\tn 0 s2.heap/\(∀ b∈fp,IW X pins H' b)/\R J H'
def PI (X:Cx) (tg iter:b0) (wi:TI):Prop:=
 ∀(pins:List (ag×Obj)) (s:ao) (σ:St) (H:Hp) (R:It->Hp->Prop),Inv X pins σ H s->wi σ H R->
  au (model X.prog X.w) X.A (eval iter X.env) (fun v s1=>au (model X.prog X.w) X.A (u7 v) (PIE X pins σ tg R) X.xe s1) X.xe s
theorem KO (ho:s.heap.get? it=zn o) (hc:o.cls=.type n) (hd:o.data=.fields vs)
  (hn:["enumerate","zip","dict_itemiterator","dict_reverseitemiterator","odict_iterator","itertools.zip_longest","itertools.pairwise"].contains n=false) (hQ:Q () s):au M A (qj tg (.ref it) u) Q E s:=by
 unfold qj;cases tg <;> first
  |exact ai hQ
  |(cases u <;> first
    |exact ai hQ
    |(refine ae (wpAny_load ho ?_)
      rw[hc,hd];show au M A (if(["enumerate","zip","dict_itemiterator","dict_reverseitemiterator","odict_iterator","itertools.zip_longest","itertools.pairwise"].contains n&&vs[0]?==zn (jq _))=true then _ else _) Q E s;rw[if_neg (by intro h;rw[hn,Bool.false_and] at h;cases h)];exact ai hQ))
noncomputable def Itl (K:aa) (a:ag):It:=
 ⟨fun i H=>∃ xs x,SqL K H a xs/\xs[i]?=zn x,fun i H x H'=>H'=H/\∀ xs,SqL K H a xs->xs[i]?=zn x,fun i H=>∃ xs,SqL K H a xs/\xs.length<=i⟩
noncomputable def Itr (lo:Int) (n:Nat):It:=⟨fun i _=>i<n,fun i H x H'=>H'=H/\x=.int (lo+i),fun i _=>n<=i⟩
theorem CJ {K:aa} (a it:ag):LL P w K tg (Itl K a) [it] it (fun i h=>h.IsListIter it a i) where
 mem:=by simp
 obj:=fun i h st b hb=>by
  have e:b=it:=by simpa using hb
  subst e;obtain⟨o,e,c,d⟩:=st;exact⟨o,e,fun v z=>by rw[d] at z;cases z⟩
 keep:=fun i h h' st k=>st.at fun o e=>k it (by simp) o e
 item:=by
  intro X hP hw hK hc i pins s σ H E I hf st hg;subst hP hw hK;obtain⟨xs,x,hq,hx⟩:=hg;obtain⟨its,rv,p,hz⟩:=I.list hq;obtain⟨u,hu,ru⟩:=rv.get hx;obtain⟨f0,f1,f2,f3,f4,f5⟩:=hf it (by simp);refine wpAny_pyNext_list_item st p.isList (x:=u) (by simpa using hu) fun h' st' sb=> ?_;have I1:Inv X pins σ H { s with heap:=h' }:=I.turned (t':=s.toks) (fun b o hb e=>(sb.2 b hb).trans e) f0 f1 f3 f4 f5;obtain⟨o,e,c,d⟩:=id st';exact⟨u,rfl,KO (s:={ s with heap:=h' }) e c d (by decide) ⟨x,H,I1,ru,⟨rfl,fun ys hy=>by rw[I.list_inj hy hq];exact hx⟩,st',fun b hb=>(hf b hb).1⟩⟩
 done:=by
  intro X hP hw hK hc i pins s σ H E I hf st hg;subst hP hw hK;obtain⟨xs,hq,hx⟩:=hg;obtain⟨its,rv,p,hz⟩:=I.list hq;obtain⟨f0,f1,f2,f3,f4,f5⟩:=hf it (by simp);have hl:=rv.length;exact wpAny_pyNext_list_end (I.ok.hd hc) st p.isList (by simp;omega) fun h' eb=>⟨rfl,I.turned (t':=s.toks) (fun b o hb e=>eb b o hb e) f0 f1 f3 f4 f5⟩
 self:=fun _ _ _ _ _ st h=>wpAny_pyIter_listiter st h
theorem Bv {K:aa} (it:ag) (lo:Int) (n:Nat):LL P w K tg (Itr lo n) [it] it (fun i h=>IsRangeIter h it (lo+(i:Nat)*1) ((n:Int)-(i:Nat)) 1) where
 mem:=by simp
 obj:=fun i h st b hb=>by
  have e:b=it:=by simpa using hb
  subst e;exact⟨_,st,fun v z=>by
   have z':Data.fields _=wp v:=z;cases z'⟩
 keep:=fun i h h' st k=>k it (by simp) _ st
 item:=by
  intro X hP hw hK hc i pins s σ H E I hf st hg;subst hP hw hK;obtain⟨f0,f1,f2,f3,f4,f5⟩:=hf it (by simp);have W:=Walks.range (prog:=X.prog) (w:=X.w) (I.ok.hd hc) it lo 1 n;refine W.item i s _ _ hg st fun v h' tk hv st' kk=> ?_;obtain⟨t,rfl⟩:=hv;have I1:Inv X pins σ H { s with heap:=h',toks:=tk }:=I.turned (fun b o hb e=>kk b o (by simpa using hb) e) f0 f1 f3 f4 f5;refine⟨_,rfl,KO (s:={ s with heap:=h',toks:=tk }) (n:="range_iterator") st' rfl rfl (by decide) ⟨.int (lo+i),H,I1,⟨t,?_⟩,⟨rfl,rfl⟩,st',fun b hb=>(hf b hb).1⟩⟩;rw[Int.mul_one]
 done:=by
  intro X hP hw hK hc i pins s σ H E I hf st hg;subst hP hw hK;obtain⟨f0,f1,f2,f3,f4,f5⟩:=hf it (by simp);exact wpAny_pyNext_range_end (I.ok.hd hc) st (by have:n<=i:=hg;omega) fun h' eb=>⟨rfl,I.turned (t':=s.toks) (fun b o hb e=>eb b o hb e) f0 f1 f3 f4 f5⟩
 self:=fun _ _ _ _ _ st h=>wpAny_pyIter_rangeiter st h
end L2
namespace L2
section
variable {X:Cx}{tg:b0}
def PU (K:aa) (tl:TE):TI:=fun σ H R=>tl σ H fun x H1=>∃ a,x=.ref a/\(∃ xs,SqL K H1 a xs)/\R (Itl K a) H1
theorem Jt (hl:PE X l tl):PI X tg l (PU X.K tl):=by
 intro pins s σ H R I h;refine thn (hl pins s σ H _ I h) fun v s1 ⟨x,H1,I1,r1,q1⟩=> ?_;obtain⟨a,e,⟨xs,hq⟩,q⟩:=q1;subst e;cases r1;obtain⟨its,rv,p,hz⟩:=I1.list hq;refine wpAny_pyIter_list p.isList ?_;refine⟨s1.heap.objs.size,[s1.heap.objs.size],_,_,H1,rfl,I1.kept (t':=s1.toks) fun b o e=>aq _ e,CJ a _,⟨_,br _ rfl,rfl,rfl⟩,fun b hb=> ?_,q⟩;have e:b=s1.heap.objs.size:=by simpa using hb
 subst e;exact I1.fpOk (bp _) (I1.hok.fresh (bp _))
theorem GA {lo hi:Int} (I:Inv X pins σ H s) (h1: -(2 ^ 62)<=lo) (h2:lo<2 ^ 62) (h3: -(2 ^ 62)<=hi) (h4:hi<2 ^ 62)
  (q:R (Itr lo (hi-lo).toNat) H):au (model X.prog X.w) X.A (u7 (.ref s.heap.objs.size)) (PIE X pins σ tg R) E { s with heap:=s.heap.push { cls:=.type "range",data:=.fields #[.int lo t,.int hi u,.int 1 v] },toks:=tk }:=by
 refine wpAny_pyIter_range (IsRange.new ..) (small_one h1 h2 h3 h4) ?_;have I1:Inv X pins σ H { s with heap:=s.heap.push { cls:=.type "range",data:=.fields #[.int lo t,.int hi u,.int 1 v] },toks:=tk }:=I.kept fun b o e=>aq _ e;refine⟨(s.heap.push { cls:=.type "range",data:=.fields #[.int lo t,.int hi u,.int 1 v] }).objs.size,[(s.heap.push { cls:=.type "range",data:=.fields #[.int lo t,.int hi u,.int 1 v] }).objs.size],_,_,H,rfl,
  I1.kept (t':=tk) fun b o e=>aq _ e,Bv _ lo (hi-lo).toNat,?_,fun b hb=> ?_,q⟩
 ·have e1:lo+((0:Nat):Int)*1=lo:=by simp
  have e2:(((hi-lo).toNat:Nat):Int)-((0:Nat):Int)=Builtin.Range.rangeSize lo hi 1:=by rw[rangeSize_one];split <;> omega
  show IsRangeIter _ _ (lo+((0:Nat):Int)*1) ((((hi-lo).toNat:Nat):Int)-((0:Nat):Int)) 1;rw[e1,e2];exact br _ rfl
 ·have e:b=(s.heap.push { cls:=.type "range",data:=.fields #[.int lo t,.int hi u,.int 1 v] }).objs.size:=by simpa using hb
  subst e;exact I1.fpOk (bp _) (I1.hok.fresh (bp _))
def PR (ta:TA):TI:=fun σ H R=>ta σ H fun vs H1=>∃ j:Int,vs=[.int j]/\ -(2 ^ 62)<=j/\j<2 ^ 62/\R (Itr 0 j.toNat) H1
theorem Dp (hg:Gl X "range") (hm:X.mg "range"=zo) (ha:PA X [a] ta) (hs:ar [a] X.env=[(false,eval a X.env)]:=by rfl):PI X tg (.Call (.Name "range" p) [a] [] pos) (PR ta):=by
 intro pins s σ H R I h;refine Call_ (vP I hg hm boot_range (mf (thn (ha pos pins s σ H _ I h) fun us s1 ⟨vs,H1,I1,r1,q1⟩=> ?_) hs rfl));obtain⟨j,e,q1,q2,q⟩:=q1;subst e;cases r1 with
 |cons r rr=>
  cases rr;obtain⟨t,rfl⟩:=r;exact call_range_1 (GA I1 (by omega) (by omega) q1 q2 (by simpa using q))
def Pb (wi:TI) (g:TG) (tb:TS):TS:=fun D σ H=>wi σ H fun J H1=>∃ W:Nat->Nat->St->Hp->Prop,(∃ m,W 0 m σ H1)/\∀ i m σ H,W i m σ H->
 (J.stop i H/\D.nx σ H)∨(J.go i H/\∃ N:St->Hp->Prop,(∀ σ' H',N σ' H'->∃ m',m'<m/\W (i+1) m' σ' H')/\∀ x H',J.yld i H x H'->g x σ H' fun σ2 H2=>tb { D with nx:=N,ct:=N,bk:=D.nx } σ2 H2)
noncomputable def vE (fp:List ag) (h:cm):List (ag×Obj):=fp.filterMap fun b=>(h.get? b).map fun o=>(b,o)
theorem iN (hb:b∈fp) (e:h.get? b=zn o):(b,o)∈vE fp h:=jb.mpr ⟨b,hb,by rw[e];rfl⟩
theorem Dy (hp:p∈vE fp h):p.1∈fp/\h.get? p.1=zn p.2:=by
 obtain⟨b,hb,e⟩:=jb.mp hp;cases q:h.get? b with
 |none=>rw[q] at e;cases e
 |some o=>
  rw[q] at e;have e':(b,o)=p:=ce e;subst e';exact⟨hb,q⟩
theorem Inv.pinned (I:Inv X pins σ H s) (hf:∀ b∈fp,IW X pins H b) (ho:∀ b∈fp,∃ o,s.heap.get? b=zn o/\∀ v,o.data≠ .cell v):Inv X (pins++vE fp s.heap) σ H s:=
 I.pins_of fun p hp=>(c4.mp hp).elim (fun z=>I.pin p (dh _ z)) fun z=>by
  obtain⟨hb,e⟩:=Dy z;obtain⟨f0,f1,f2,_⟩:=hf p.1 hb;obtain⟨o,e',d⟩:=ho p.1 hb;rw[e] at e';cases e';exact⟨e,f0,f1,f2,d⟩
theorem Inv.unpinned (I:Inv X (pins++pl) σ H s):Inv X pins σ H s:=I.pins_of fun p hp=>I.pin p (dh _ (c5 _ hp))
theorem Iw (hp:PassesOwn (model X.prog X.w) X.A X.env X.xe) (hc:X.calm=true) (hi:PI X tg iter wi) (hg:PG X tg g) (hb:PSs X body tb)
  (hs:∀ x,g7 iter X.env x=pure x:=by intro _;rfl):PS X (.For tg iter body [] pos) (Pb wi g tb):=by
 intro pins s σ H D I h;refine wpAny_For (thn (hi pins s σ H _ I h) fun v s1 h1=>thn h1 fun itv s2 h2=> ?_) hs;obtain⟨it,fp,tn,J,H2,e,I2,T,st2,f2,W,⟨m0,w0⟩,turn⟩:=h2;subst e
 -- what stays true of the iterator's objects through the loop
 have stat:∀ {H':Hp},(∀ b∈fp,H' b=zo)->∀ b∈fp,IW X pins H' b:=fun hn b hb=>⟨hn b hb,(f2 b hb).2⟩;refine codeAny_forLoop_any (fun n s'=>∃ i σ' H',Inv X pins σ' H' s'/\tn i s'.heap/\(∀ b∈fp,H' b=zo)/\W i n σ' H') ?_ m0 ⟨0,σ,H2,I2,st2,fun b hb=>(f2 b hb).1,w0⟩;rintro n s3 ⟨i,σ3,H3,I3,st3,fr3,w3⟩;rcases turn i n σ3 H3 w3 with⟨stop,qn⟩|⟨go,N,hN,step⟩
 ·refine nq hp (thn (T.done X rfl rfl rfl hc i pins s3 σ3 H3 X.xe I3 (stat fr3) st3 stop) fun r s4 ⟨hr,I4⟩=> ?_);subst hr;exact qi ⟨σ3,H3,I4,qn⟩
 ·refine nq hp (thn (T.item X rfl rfl rfl hc i pins s3 σ3 H3 X.xe I3 (stat fr3) st3 go) fun r s4 ⟨u,hr,h4⟩=> ?_);subst hr;refine nq hp (thn h4 fun _ s5 ⟨x,H5,I5,r5,y5,st5,fr5⟩=> ?_);have I5':=I5.pinned (stat fr5) (T.obj _ _ st5);refine nq hp (thn (hg _ s5 σ3 H5 x u _ I5' r5 (step x H5 y5)) fun _ s6 ⟨σ6,H6,I6,q6⟩=> ?_);refine nq hp (thn (hb _ s6 σ6 H6 _ I6 q6) fun f s7 q7=> ?_);have again:∀ {σ7:St}{H7:Hp},Inv X (pins++vE fp s5.heap) σ7 H7 s7->N σ7 H7->∃ m,m<n/\∃ i σ' H',Inv X pins σ' H' s7/\tn i s7.heap/\(∀ b∈fp,H' b=zo)/\W i m σ' H':=fun {σ7 H7} I7 n7=>by
   obtain⟨m',hm,w7⟩:=hN σ7 H7 n7;refine⟨m',hm,i+1,σ7,H7,I7.unpinned,T.keep _ _ _ st5 fun b hb o e=>(I7.pin (b,o) (dh _ (dh _ (iN hb e)))).1,fun b hb=> ?_,w7⟩;obtain⟨o,e,d⟩:=T.obj _ _ st5 b hb;exact(I7.pin (b,o) (dh _ (dh _ (iN hb e)))).2.1
  cases f with
  |next=>obtain⟨σ7,H7,I7,n7⟩:=q7;exact again I7 n7
  |cont=>obtain⟨σ7,H7,I7,n7⟩:=q7;exact again I7 n7
  |brk=>obtain⟨σ7,H7,I7,q7⟩:=q7;exact⟨σ7,H7,I7.unpinned,q7⟩
  |ret v=>obtain⟨x7,σ7,H7,I7,r7,q7⟩:=q7;exact⟨x7,σ7,H7,I7.unpinned,r7,q7⟩
end
end L2
namespace L2
abbrev R2:=V->V->Hp->VK->Prop
def OpR (X:Cx) (f:af->af->Sem af) (r:R2):Prop:=
 ∀(pins:List (ag×Obj)) (s:ao) (σ:St) (H:Hp) (x y:V) (v u:af) (Q:VK),Inv X pins σ H s->RelV x v->RelV y u->r x y H Q->
  au (model X.prog X.w) X.A (f v u) (EP X pins σ Q) X.xe s
def UnR (X:Cx) (f:af->Sem af) (r:V->Hp->VK->Prop):Prop:=
 ∀(pins:List (ag×Obj)) (s:ao) (σ:St) (H:Hp) (x:V) (v:af) (Q:VK),Inv X pins σ H s->RelV x v->r x H Q->
  au (model X.prog X.w) X.A (f v) (EP X pins σ Q) X.xe s
def CallR (X:Cx) (f:af) (r:List V->Hp->VK->Prop):Prop:=
 ∀(pins:List (ag×Obj)) (s:ao) (σ:St) (H:Hp) (xs:List V) (us:List af) (Q:VK),Inv X pins σ H s->Vals xs us->r xs H Q->
  au (model X.prog X.w) X.A (call f us) (EP X pins σ Q) X.xe s
def Rx (X:Cx) (r:V->Hp->(Bool->Hp->Prop)->Prop):Prop:=
 ∀(pins:List (ag×Obj)) (s:ao) (σ:St) (H:Hp) (x:V) (v:af) (Q:Bool->Hp->Prop),Inv X pins σ H s->RelV x v->r x H Q->
  au (model X.prog X.w) X.A (truthy v) (TP X pins σ Q) X.xe s
def tOp (r:R2) (ta tb:TE):TE:=fun σ H Q=>ta σ H fun x H1=>tb σ H1 fun y H2=>r x y H2 Q
def tUn (r:V->Hp->VK->Prop) (ta:TE):TE:=fun σ H Q=>ta σ H fun x H1=>r x H1 Q
noncomputable def rI (C:Int->Int->Prop) (g:Int->Int->V):R2:=fun x y H Q=>∃ i j,x=.int i/\y=.int j/\C i j/\Q (g i j) H
noncomputable def rI0 (g:Int->Int->V):R2:=fun x y H Q=>∃ i j,x=.int i/\y=.int j/\Q (g i j) H
def rU (g:Int->V):V->Hp->VK->Prop:=fun x H Q=>∃ i,x=.int i/\Q (g i) H
section
variable {X:Cx}{a b c:b0}{ta tb tc:TE}{pos:Pos}
theorem Qi (ha:PE X a ta) (hb:PE X b tb) {R:V->V->Hp->Prop} (I:Inv X pins σ H s)
  (h:ta σ H fun x H1=>tb σ H1 fun y H2=>R x y H2) {f:af->af->Sem af}
  (hf:∀ v u s2 x y H2,Inv X pins σ H2 s2->RelV x v->RelV y u->R x y H2->au (model X.prog X.w) X.A (f v u) Q X.xe s2):
  au (model X.prog X.w) X.A (eval a X.env) (fun v s₁=>au (model X.prog X.w) X.A (eval b X.env) (fun u s₂=>au (model X.prog X.w) X.A (f v u) Q X.xe s₂) X.xe s₁) X.xe s:=by
 refine thn (ha pins s σ H _ I h) fun v s1 ⟨x,H1,I1,r1,q1⟩=> ?_;refine thn (hb pins s1 σ H1 _ I1 q1) fun u s2 ⟨y,H2,I2,r2,q2⟩=> ?_;exact hf v u s2 x y H2 I2 r1 r2 q2
theorem Pr (ho:OpR X (l7 op) r) (ha:PE X a ta) (hb:PE X b tb):PE X (.BinOp a op b pos) (tOp r ta tb):=by
 intro pins s σ H Q I h;exact wpAny_BinOp (Qi ha hb I h fun v u s2 x y H2 I2 rx ry q=>ho pins s2 σ H2 x y v u Q I2 rx ry q)
theorem Pq (ho:UnR X (unaryOp op) r) (ha:PE X a ta):PE X (.UnaryOp op a pos) (tUn r ta):=by
 intro pins s σ H Q I h;exact UnaryOp_ (thn (ha pins s σ H _ I h) fun v s1 ⟨x,H1,I1,r1,q1⟩=>ho pins s1 σ H1 x v Q I1 r1 q1)
theorem opI {g:Int->Int->Int}
  (rule:∀(i j:Int) (t u:Tok) (s:ao) (Q:af->ao->Prop) (E:af->ao->Prop),C i j->Q (.int (g i j) s.toks) { s with toks:=s.toks+1 }->au (model X.prog X.w) X.A (f (.int i t) (.int j u)) Q E s):
  OpR X f (rI C fun i j=>.int (g i j)):=by
 intro pins s σ H x y v u Q I rx ry h;obtain⟨i,j,rfl,rfl,hc,q⟩:=h;obtain⟨t,rfl⟩:=rx;obtain⟨t',rfl⟩:=ry;exact rule i j t t' s _ _ hc ⟨.int (g i j),H,I.tok _,⟨_,rfl⟩,q⟩
theorem QG {g:Int->Int->Int}
  (rule:∀(i j:Int) (t u:Tok) (s:ao) (Q:af->ao->Prop) (E:af->ao->Prop),Q (.int (g i j) s.toks) { s with toks:=s.toks+1 }->au (model X.prog X.w) X.A (f (.int i t) (.int j u)) Q E s):
  OpR X f (rI0 fun i j=>.int (g i j)):=by
 intro pins s σ H x y v u Q I rx ry h;obtain⟨i,j,rfl,rfl,q⟩:=h;obtain⟨t,rfl⟩:=rx;obtain⟨t',rfl⟩:=ry;exact rule i j t t' s _ _ ⟨.int (g i j),H,I.tok _,⟨_,rfl⟩,q⟩
theorem PB {g:Int->Int->Bool}
  (rule:∀(i j:Int) (t u:Tok) (s:ao) (Q:af->ao->Prop) (E:af->ao->Prop),Q (.bool (g i j)) s->au (model X.prog X.w) X.A (f (.int i t) (.int j u)) Q E s):
  OpR X f (rI0 fun i j=>.bl (g i j)):=by
 intro pins s σ H x y v u Q I rx ry h;obtain⟨i,j,rfl,rfl,q⟩:=h;obtain⟨t,rfl⟩:=rx;obtain⟨t',rfl⟩:=ry;exact rule i j t t' s _ _ ⟨.bl (g i j),H,I,rfl,q⟩
def RD (i j:Int):Prop:=0<j/\j<1073741824
def CMul (i j:Int):Prop:=(-(2 ^ 64)<i/\i<2 ^ 64)∨(-(2 ^ 64)<j/\j<2 ^ 64)
theorem CMul.ok (h:CMul i j):IntMulOk i j:=by
 rcases h with⟨h1,h2⟩|⟨h1,h2⟩
 ·exact .of_left (intBits_le_64 h1 h2)
 ·exact .of_right (intBits_le_64 h1 h2)
theorem Nk:OpR X (l7 .Add) (rI0 fun i j=>.int (i+j)):=QG fun _ _ _ _ _ _ _ q=>add_int q
theorem Na:OpR X (l7 .Sub) (rI0 fun i j=>.int (i-j)):=QG fun _ _ _ _ _ _ _ q=>sub_int q
theorem Nc:OpR X (l7 .Mult) (rI CMul fun i j=>.int (i*j)):=opI fun _ _ _ _ _ _ _ hc q=>mul_int q hc.ok
theorem JN:OpR X (l7 .FloorDiv) (rI RD fun i j=>.int (i / j)):=opI fun i j _ _ _ _ _ hc q=>by
 have h1:(0:Int)<j:=hc.1;have h2:j<1073741824:=hc.2;exact floordiv_int (by omega) (by rw[Int.fdiv_eq_ediv_of_nonneg i (by omega)];exact q) (.inl (PyProof.noPylong_small (by omega)))
theorem Nd:OpR X (l7 .Mod) (rI (fun _ j=>0<j) fun i j=>.int (i % j)):=opI fun i j _ _ _ _ _ hc q=>by
 have h1:(0:Int)<j:=hc;exact mod_int' (by omega) (by rw[Int.fmod_eq_emod_of_nonneg i (by omega)];exact q)
theorem unI {g:Int->Int}
  (rule:∀(i:Int) (t:Tok) (s:ao) (Q:af->ao->Prop) (E:af->ao->Prop),Q (.int (g i) s.toks) { s with toks:=s.toks+1 }->au (model X.prog X.w) X.A (f (.int i t)) Q E s):
  UnR X f (rU fun i=>.int (g i)):=by
 intro pins s σ H x v Q I rx h;obtain⟨i,rfl,q⟩:=h;obtain⟨t,rfl⟩:=rx;exact rule i t s _ _ ⟨.int (g i),H,I.tok _,⟨_,rfl⟩,q⟩
theorem LP:UnR X (unaryOp .USub) (rU fun i=>.int (-i)):=unI fun _ _ _ _ _ q=>neg_int q
end
section
variable {X:Cx}{a b c:b0}{ta tb tc:TE}{pos:Pos}
theorem Og (I:Inv X pins σ H s) (q:Q (.bl k) H) (e:k=k'):EP X pins σ Q (.bool k') s:=by
 subst e;exact⟨.bl k,H,I,rfl,q⟩
theorem Nf:OpR X (gx .Lt) (rI0 fun i j=>.bl (decide (i<j))):=PB fun _ _ _ _ _ _ _ q=>yn q
theorem Ng:OpR X (gx .LtE) (rI0 fun i j=>.bl (decide (i<=j))):=PB fun _ _ _ _ _ _ _ q=>le_int q
theorem Ni:OpR X (gx .Gt) (rI0 fun i j=>.bl (decide (j<i))):=PB fun _ _ _ _ _ _ _ q=>gt_int q
theorem IG:OpR X (gx .Is) (fun x y H Q=>y=.non/\Q (.bl (decide (x=.non))) H):=by
 intro pins s σ H x y v u Q I rx ry h;obtain⟨rfl,q⟩:=h;cases ry;refine is_none_gen (Og I q ?_);cases x <;> first
  |(cases rx;rfl)
  |(obtain⟨t,rfl⟩:=rx;rfl)
theorem iZ (b:b0) (h:op≠ .In:=by decide) (h2:op≠ .NotIn:=by decide):jn op b=false:=by
 have e1:(op==CmpOp.In)=false:=by cases op <;> first|rfl|exact absurd rfl h
 have e2:(op==CmpOp.NotIn)=false:=by cases op <;> first|rfl|exact absurd rfl h2
 cases b <;> simp[jn,e1,e2]
theorem JA (ho:OpR X (gx op) r) (ha:PE X a ta) (hb:PE X b tb) (hm:jn op b=false):PE X (.Compare a [op] [b] pos) (tOp r ta tb):=by
 intro pins s σ H Q I h;exact wpAny_Compare1 (Qi ha hb I h fun v u s2 x y H2 I2 rx ry q=>ho pins s2 σ H2 x y v u Q I2 rx ry q) hm
def LW (t:TE):TT:=fun σ H Q=>t σ H fun x H'=>∃ k,x=.bl k/\Q k H'
theorem Jm (ho:OpR X (gx op) r) (ha:PE X a ta) (hb:PE X b tb) (hm:jn op b=false):PT X (.Compare a [op] [b] pos) (LW (tOp r ta tb)):=by
 intro pins s σ H Q I h;refine u6 (thn (ha pins s σ H _ I h) fun v s1 ⟨x,H1,I1,r1,q1⟩=>thn (hb pins s1 σ H1 _ I1 q1) fun u s2 ⟨y,H2,I2,r2,q2⟩=>
  thn (ho pins s2 σ H2 x y v u _ I2 r1 r2 q2) fun c s3 ⟨z,H3,I3,r3,k,e,q3⟩=> ?_) hm
 subst e;cases r3;exact ff ⟨H3,I3,q3⟩
def Ma (r r':R2) (ta tb tc:TE):TE:=fun σ H Q=>ta σ H fun x H1=>tb σ H1 fun y H2=>r x y H2 fun z H3=>∃ k,z=.bl k/\
 (if k=true then tc σ H3 fun w' H4=>r' y w' H4 Q else Q (.bl false) H3)
theorem GF (ho:OpR X (gx op) r) (ho':OpR X (gx op') r') (ha:PE X a ta) (hb:PE X b tb) (hc:PE X c tc)
  (hm:lastMarks [op,op'] [b,c]=false:=by with_unfolding_all rfl):PT X (.Compare a [op,op'] [b,c] pos) (LW (Ma r r' ta tb tc)):=by
 intro pins s σ H Q I h;refine isTrue_chain (thn (ha pins s σ H _ I h) fun v s1 ⟨x,H1,I1,r1,q1⟩=>test_link (thn (hb pins s1 σ H1 _ I1 q1) fun u s2 ⟨y,H2,I2,r2,q2⟩=>
  thn (ho pins s2 σ H2 x y v u _ I2 r1 r2 q2) fun d s3 ⟨z,H3,I3,r3,k,e,q3⟩=> ?_)) hm
 subst e;cases r3;refine ff ?_;cases k with
 |false=>
  obtain⟨k',e',q'⟩:=q3;cases e';exact ite_ff ⟨H3,I3,q'⟩
 |true=>
  refine ite_tt (test_last (thn (hc pins s3 σ H3 _ I3 q3) fun w' s4 ⟨z',H4,I4,r4,q4⟩=>thn (ho' pins s4 σ H4 y z' u w' _ I4 r2 r4 q4) fun d' s5 ⟨z2,H5,I5,r5,k2,e2,q5⟩=> ?_));subst e2;cases r5;exact ff ⟨H5,I5,q5⟩
def Qj (K:aa) (x:V) (H:Hp) (k:Bool):Prop:=
 match x with
 |.non=>k=false
 |.bl b=>k=b
 |.int i=>k=(i !=0)
 |.str y=>y.length<=sizeLine/\k=((y.length:Int) !=0)
 |.byt y=>y.size<=sizeLine/\k=((y.size:Int) !=0)
 |.ref p=>(∃ xs,SqL K H p xs/\k= !xs.isEmpty)∨(∃ xs,SqT K H p xs/\k= !xs.isEmpty)∨∃ kvs,H p=zn (.dK kvs)/\k= !kvs.isEmpty
 |_=>False
theorem BU {vs:List (κ×af)} (r:KV kvs vs):(!vs.isEmpty)= !kvs.isEmpty:=by
 cases r <;> rfl
theorem qV (r:Vals xs its):(!its.toArray.isEmpty)= !xs.isEmpty:=by
 cases r <;> simp
theorem qR:(sizeLine:Nat)<2 ^ 63:=by rw[bz];decide
theorem tru_ok:Rx X (fun x H Q=>∃ k,Qj X.K x H k/\Q k H):=by
 intro pins s σ H x v Q I rx h;obtain⟨k,e,q⟩:=h;have hl:=qR;have hs:sizeLine=16777216:=bz;cases x with
 |non=>
  cases rx;have e':k=false:=e;subst e';exact truthy_none ⟨H,I,q⟩
 |bl b=>
  cases rx;have e':k=b:=e;subst e';exact ff ⟨H,I,q⟩
 |int i=>
  obtain⟨t,rfl⟩:=rx;have e':k=(i !=0):=e;subst e';exact PySem.P.truthy_int ⟨H,I,q⟩
 |str y=>
  obtain⟨t,rfl⟩:=rx;obtain⟨hy,e'⟩:y.length<=sizeLine/\k=((y.length:Int) !=0):=e;subst e';exact PySem.P.truthy_str (by omega) ⟨H,I.tok _,q⟩
 |byt y=>
  obtain⟨t,rfl⟩:=rx;obtain⟨hy,e'⟩:y.size<=sizeLine/\k=((y.size:Int) !=0):=e;subst e';exact PySem.W.truthy_bytes (by omega) ⟨H,I.tok _,q⟩
 |ref p=>
  cases rx;have e':(∃ xs,SqL X.K H p xs/\k= !xs.isEmpty)∨(∃ xs,SqT X.K H p xs/\k= !xs.isEmpty)∨∃ kvs,H p=zn (.dK kvs)/\k= !kvs.isEmpty:=e;rcases e' with⟨xs,hx,e'⟩|⟨xs,hx,e'⟩|⟨kvs,hx,e'⟩
  ·subst e';obtain⟨its,r,pl,hz⟩:=I.list hx;have hlen:=r.length;exact wpAny_truthy_list pl.isList (by simp only[bh];omega) ⟨H,I.tok _,by rw[qV r];exact q⟩
  ·subst e';obtain⟨its,r,pl,hz⟩:=I.tuple hx;have hlen:=r.length;exact truthy_tuple pl (by simp only[bh];omega) ⟨H,I.tok _,by rw[qV r];exact q⟩
  ·subst e';obtain⟨hz,hS,vs,r,m⟩:kvs.length<=sizeLine/\(p==f9)=false/\∃ vs,KV kvs vs/\s.heap.DictOf (aI X.prog X.w) p vs:=I.hok p _ hx;have hlen:kvs.length=vs.length:=jm r;exact wpAny_truthy_dict hS m (by omega) ⟨H,I.tok _,by rw[BU r];exact q⟩
 |_=>exact(show False from e).elim
theorem GE (ha:PE X a ta) (he:∀ whole,isTrue a X.env whole=(do let v <- whole;o7 a.pos;holding [v] (truthy v))):
  PT X a (fun σ H Q=>ta σ H fun x H'=>∃ k,Qj X.K x H' k/\Q k H'):=by
 intro pins s σ H Q I h;exact isTrue_plain (thn (ha pins s σ H _ I h) fun v s1 ⟨x,H1,I1,r1,q1⟩=>tru_ok pins s1 σ H1 x v Q I1 r1 q1) (he _)
theorem BF:OpR X (l7 .Add) (fun x y H Q=>∃ i j,x=.str i/\y=.str j/\i.length+j.length<=sizeLine/\Q (.str (i++j)) H):=by
 intro pins s σ H x y v u Q I rx ry h;obtain⟨i,j,rfl,rfl,hz,q⟩:=h;obtain⟨t,rfl⟩:=rx;obtain⟨t',rfl⟩:=ry;exact add_str (fun t' tk=>⟨.str (i++j),H,I.tok _,⟨_,rfl⟩,q⟩) hz
theorem jR (r:Vals [x] us):∃ u,us=[u]/\RelV x u:=by
 cases r with
 |cons r1 r2=>cases r2;exact⟨_,rfl,r1⟩
theorem CF (r:Vals [x,y] us):∃ u w',us=[u,w']/\RelV x u/\RelV y w':=by
 cases r with
 |cons r1 r2=>
  cases r2 with
  |cons r3 r4=>cases r4;exact⟨_,_,rfl,r1,r3⟩
theorem FE (hc:X.calm=true):CallR X (.builtin "max") (fun xs H Q=>∃ i j,xs=[.int i,.int j]/\Q (.int (if j>i then j else i)) H):=by
 intro pins s σ H xs us Q I r h;obtain⟨i,j,rfl,q⟩:=h;obtain⟨u,w',rfl,⟨t,rfl⟩,⟨t',rfl⟩⟩:=CF r;refine max_two_ints (I.ok.hd hc) fun h' tk k=>⟨_,H,I.kept k,?_,q⟩
 by_cases hj:j>i
 ·rw[if_pos hj,if_pos hj];exact⟨_,rfl⟩
 ·rw[if_neg hj,if_neg hj];exact⟨_,rfl⟩
theorem FD (hc:X.calm=true):CallR X (.builtin "min") (fun xs H Q=>∃ i j,xs=[.int i,.int j]/\Q (.int (if j<i then j else i)) H):=by
 intro pins s σ H xs us Q I r h;obtain⟨i,j,rfl,q⟩:=h;obtain⟨u,w',rfl,⟨t,rfl⟩,⟨t',rfl⟩⟩:=CF r;refine min_two_ints (I.ok.hd hc) fun h' tk k=>⟨_,H,I.kept k,?_,q⟩
 by_cases hj:j<i
 ·rw[if_pos hj,if_pos hj];exact⟨_,rfl⟩
 ·rw[if_neg hj,if_neg hj];exact⟨_,rfl⟩
theorem call_int1:CallR X (.type "int") (fun xs H Q=>(∃ i,xs=[.int i]/\Q (.int i) H)∨∃ k,xs=[.bl k]/\Q (.int (if k then 1 else 0)) H):=by
 intro pins s σ H xs us Q I r h;rcases h with⟨i,rfl,q⟩|⟨k,rfl,q⟩
 ·obtain⟨u,rfl,t,rfl⟩:=jR r;exact call_int_int ⟨.int i,H,I,⟨_,rfl⟩,q⟩
 ·obtain⟨u,rfl,r1⟩:=jR r;cases r1;exact call_int_bool ⟨.int (if k then 1 else 0),H,I.tok _,⟨_,rfl⟩,q⟩
def Qq (K:aa) (x:V) (H:Hp) (n:Nat):Prop:=
 match x with
 |.str y=>y.length<=sizeLine/\n=y.length
 |.byt y=>y.size<=sizeLine/\n=y.size
 |.ref p=>(∃ xs,SqL K H p xs/\n=xs.length)∨∃ xs,SqT K H p xs/\n=xs.length
 |_=>False
theorem Ii:CallR X (.builtin "len") (fun xs H Q=>∃ x n,xs=[x]/\Qq X.K x H n/\Q (.int n) H):=by
 intro pins s σ H xs us Q I r h;obtain⟨x,n,rfl,e,q⟩:=h;obtain⟨u,rfl,rx⟩:=jR r;have hl:=qR;have hs:sizeLine=16777216:=bz;cases x with
 |str y=>
  obtain⟨t,rfl⟩:=rx;obtain⟨hy,e'⟩:y.length<=sizeLine/\n=y.length:=e;subst e';exact len_str (by omega) ⟨.int _,H,I.tok _,⟨_,rfl⟩,q⟩
 |byt y=>
  obtain⟨t,rfl⟩:=rx;obtain⟨hy,e'⟩:y.size<=sizeLine/\n=y.size:=e;subst e';exact PySem.W.len_bytes (by omega) ⟨.int _,H,I.tok _,⟨_,rfl⟩,q⟩
 |ref p=>
  cases rx;have e':(∃ xs,SqL X.K H p xs/\n=xs.length)∨∃ xs,SqT X.K H p xs/\n=xs.length:=e;rcases e' with⟨xs,hx,e'⟩|⟨xs,hx,e'⟩
  ·subst e';obtain⟨its,r',pl,hz⟩:=I.list hx;have hlen:=r'.length;exact Calls.call_len_list pl.isList (by simp only[bh];omega) ⟨.int xs.length,H,I.tok _,⟨_,by simp only[bh];rw[hlen]⟩,q⟩
  ·subst e';obtain⟨its,r',pl,hz⟩:=I.tuple hx;have hlen:=r'.length;exact len_tuple pl (by simp only[bh];omega) ⟨.int xs.length,H,I.tok _,⟨_,by simp only[bh];rw[hlen]⟩,q⟩
 |_=>exact(show False from e).elim
end
end L2
namespace L2
structure ObjM (h:cm) (x dx C:ag) (mA:Str->Option af):Prop where
 obj:h.get? x=zn (jf C dx)
 ns:h.Ns1 dx mA
 ne:dx≠x
theorem DX {h:cm} (n:h.Ns1 dx mA):∃ od,h.get? dx=zn od/\∀ name,qu name od=zn (mA name):=by
 obtain⟨o,es,ep,ho,hd,hk,_,hm⟩:=n;refine⟨o,ho,fun name=> ?_⟩;have e:=hm name;unfold nsFind findBy at e;rw[<- Array.find?_toList] at e;unfold qu;rw[hd];dsimp only;split
 ·rename_i y q
  rw[q] at e;exact congrArg zn e
 ·rename_i q
  rw[q] at e;have a:es.toList.any (·.refKey)=false:=by
   rw[List.any_eq_false];intro y hy;obtain⟨z,t,hkey⟩:=hk y (Array.mem_toList_iff.mp hy);simp[DictEntry.refKey,hkey]
  have a':¬ es.toList.any (·.refKey)=true:=by rw[a];exact cg
  rw[if_neg a'];exact congrArg zn e
theorem ObjM.look (I:ObjM h x dx C mA):∃ od,PySem.W.InstAt h x (jf C dx) C (zn od)/\∀ name,qu name od=zn (mA name):=
 let ⟨od,ho,hl⟩:=DX I.ns
 ⟨od,⟨I.obj,rfl,rfl,ho⟩,hl⟩
section
variable {prog:cj}{w:cz}{A:df}{E:af->ao->Prop}{s:ao}{K:aa}{x dx C f:ag}{mA:Str->Option af}{name:Str}{v:af}
theorem KR (X:K.In s.heap) (I:ObjM s.heap x dx C mA) (hg:pq K C name=true) (hh:sh K C=true)
  (ha:ie K (.ref C) name=zn zo) (hv:mA name=zn v) (hv':x9 v=true) (h:Q v { s with toks:=s.toks+1 }):
  au (model prog w) A (getAttr (.ref x) name expr) Q E s:=by
 obtain⟨od,J,hl⟩:=I.look;exact PySem.W.get_value X J (qr hg).1 (PySem.W.findObj_own hh ha rfl (by rw[hl,hv])) hv' h
theorem Hz (X:K.In s.heap) (I:ObjM s.heap x dx C mA) (hg:pq K C name=true)
  (hf:ie K (.ref C) name=zn (zn (.ref f))) (ht:qk K (.ref f)=true) (hv:mA name=zo) (h:Q (.ref f,[.ref x]) s):
  au (model prog w) A (oj (.ref x) name pl) Q E s:=by
 obtain⟨od,J,hl⟩:=I.look;exact PySem.W.method_fn X J (qr hg).1 (qr hg).2 hf (beq_iff_eq.mp ht) (by show(qu name od).map (·.isSome)=zn false;rw[hl,hv];rfl) h
theorem Jf (X:K.In s.heap) (I:ObjM s.heap x dx C mA)
  (hs:ie K (.ref C) "__setattr__"=zn (zn (.builtin "object.__setattr__"))) (hp:xq K C=true) (ht:uo K C name=zn zo) (hh:sh K C=true)
  (hw:wo mA ns) (hsz:ns.length<=sizeLine)
  (h:∀ h',ObjM h' x dx C (fun y=>if y=name then zn v else mA y)->d4 dx s.heap h'->Q () { s with heap:=h',toks:=s.toks+2 }):
  au (model prog w) A (setAttr (.ref x) name v) Q E s:=by
 obtain⟨od,J,hl⟩:=I.look;refine PySem.W.set_plain X J hs (PySem.W.osa_open (s:={ s with toks:=s.toks+1 }) (r:=zo) X J hp ht fun b=> ?_);obtain⟨cd,hc,hd'⟩:=PySem.W.any_some hh;have hx:s.heap.get? x=zn ⟨.ref C,zn dx,.plain,#[]⟩:=I.obj;refine ae (ai (ae (ae (wpAny_loadPart hx (ae (PySem.W.Looks.here (s:={ s with toks:=s.toks+1 }) (PySem.W.looks_clsIn X hc) ?_))))));rw[hd'];refine ai (a:=zn dx) (ae (ai (ae ?_)));refine wpAny_nsSet1 (s:={ s with toks:=s.toks+1 }) I.ns fun h' hn2 hs2=> ?_;obtain⟨oD,esD,epD,hoD,hdD,hcD⟩:=hn2.count (PySem.Within.cons name v hw);refine ae (wpAny_lookBehind hoD (by rw[hdD];exact pastItsLine_dict (cu hcD (by rw[bv];omega))) ?_);exact ai (h _ ⟨(hs2.2 _ (cw I.ne)).trans I.obj,hn2,I.ne⟩ hs2)
theorem Hh (X:K.In s.heap) (hm:uq K C=true)
  (hi:ie K (.ref C) "__init__"=zn (zn (.ref f))) (hf:PySem.W.typeIn K (.ref f)=zn (.type "function"))
  (h:kq (model prog w) (A.under (.builtin "type.__call__" ⟨.ref C::vs,kw⟩)) (.call (.ref f) ⟨.ref (s.heap.objs.size+1)::vs,kw⟩) (PySem.W.InitBack (s.heap.objs.size+1) R)
   { s with heap:=(s.heap.push ij).push (jf C s.heap.objs.size) }):
  kq (model prog w) A (.call (.ref C) ⟨vs,kw⟩) R s:=by
 obtain⟨hh,g,d,t,os⟩:=s;exact PySem.W.make_core (PySem.W.makes_of X hm) (PySem.W.looks_findIn X hi) (fun self=>PySem.W.bind_fn X self hf) (.inl rfl) h
end
noncomputable def putF (f:Str) (v:V):List (Str×V)->List (Str×V)
 |[]=>[(f,v)]
 |(g,x)::r=>if g=f then(g,v)::r else(g,x)::putF f v r
theorem nQ (f g:Str) (v:V):∀ fs:List (Str×V),(putF f v fs).lookup g=if g=f then zn v else fs.lookup g
 |[]=>by
  show km g [(f,v)]=_
  by_cases h:g=f
  ·have hb:(g==f)=true:=beq_iff_eq.mpr h;simp only[km,hb,if_pos h]
  ·have hb:(g==f)=false:=beq_eq_false_iff_ne.mpr h;simp only[km,hb,if_neg h]
 |(k,x)::r=>by
  have ih:=nQ f g v r;rw[show putF f v ((k,x)::r)=(if k=f then(k,v)::r else(k,x)::putF f v r) from rfl]
  by_cases hk:k=f
  ·rw[if_pos hk]
   by_cases h:g=k
   ·have hb:(g==k)=true:=beq_iff_eq.mpr h;simp only[km,hb,if_pos (h.trans hk)]
   ·have hb:(g==k)=false:=beq_eq_false_iff_ne.mpr h;simp only[km,hb,if_neg (fun e:g=f=>h (e.trans hk.symm))]
  ·rw[if_neg hk]
   by_cases h:g=k
   ·have hb:(g==k)=true:=beq_iff_eq.mpr h;simp only[km,hb,if_neg (fun e:g=f=>hk (h.symm.trans e))]
   ·have hb:(g==k)=false:=beq_eq_false_iff_ne.mpr h;simp only[km,hb];exact ih
theorem nS (f:Str) (v:V):∀ fs:List (Str×V),f∈(putF f v fs).map (·.1)/\∀ g,g∈fs.map (·.1)->g∈(putF f v fs).map (·.1)
 |[]=>⟨by simp[putF],fun g h=>by simp at h⟩
 |(k,x)::r=>by
  obtain⟨i1,i2⟩:=nS f v r;rw[show putF f v ((k,x)::r)=(if k=f then(k,v)::r else(k,x)::putF f v r) from rfl]
  by_cases hk:k=f
  ·rw[if_pos hk];subst hk;exact⟨by simp,fun g h=>by simpa using h⟩
  ·rw[if_neg hk];refine⟨?_,fun g h=> ?_⟩
   ·rw[bu];exact ak _ i1
   ·rw[bu] at h ⊢;rcases aj.mp h with e|e
    ·exact aj.mpr (.inl e)
    ·exact ak _ (i2 g e)
theorem nR (f:Str) (v:V):∀ fs:List (Str×V),(putF f v fs).length<=fs.length+1
 |[]=>by simp[putF]
 |(k,x)::r=>by
  have ih:=nR f v r;rw[show putF f v ((k,x)::r)=(if k=f then(k,v)::r else(k,x)::putF f v r) from rfl]
  by_cases hk:k=f
  ·rw[if_pos hk,bv,bv];omega
  ·rw[if_neg hk,bv,bv];omega
theorem RelO.some_of (r:RelO (zn v) o):∃ u,o=zn u/\RelV v u:=by
 cases o with
 |none=>exact(show False from r).elim
 |some u=>exact⟨u,rfl,r⟩
theorem RelO.none_of (r:RelO zo o):o=zo:=by
 cases o with
 |none=>rfl
 |some u=>exact(show False from r).elim
theorem Et (r:RelV v u):x9 u=true:=by
 cases v with
 |non=>cases (show u=eg from r);rfl
 |bl b=>cases (show u=vp b from r);rfl
 |int i=>obtain⟨t,e⟩:=(show ∃ t,u=qf i t from r);cases e;rfl
 |str x=>obtain⟨t,e⟩:=(show ∃ t,u=ip x t from r);cases e;rfl
 |byt b=>obtain⟨t,e⟩:=(show ∃ t,u=Value.bytes b t from r);cases e;rfl
 |flt b=>obtain⟨t,e⟩:=(show ∃ t,u=Value.float b t from r);cases e;rfl
 |ref a=>cases (show u=b9 a from r);rfl
 |ty n=>cases (show u=fm n from r);rfl
section
variable {P:cj}{w:cz}{H H':Hp}{h h':cm}{a C dx:ag}{fs fs':List (Str×V)}
theorem yK (hok:HOk P w H h) (e:H a=zn (.ins C dx fs)):∃ mA,ObjM h a dx C mA/\(∀ f,RelO (fs.lookup f) (mA f))/\wo mA (fs.map (·.1))/\fs.length<=1000/\H dx=zn (.own a):=by
 obtain⟨d,z,ne,ob,mA,n,r,q⟩:=(show ObjOk P w H h a (.ins C dx fs) from hok a _ e);exact⟨mA,⟨ob,n,ne⟩,r,q,z,d⟩
end
structure Cls (K:aa) (C:ag):Prop where
 pg:pq K C Str.empty=true
 hd:sh K C=true
 po:xq K C=true
 sa:ie K (.ref C) "__setattr__"=zn (zn (.builtin "object.__setattr__"))
theorem Cls.get {K:aa} (c:Cls K C) (f:Str):pq K C f=true:=c.pg
def NoAttr (K:aa) (C:ag) (f:Str):Prop:=ie K (.ref C) f=zn zo
theorem NoAttr.taker {K:aa} (n:NoAttr K C f):uo K C f=zn zo:=by
 unfold uo;rw[show ie K (.ref C) f=zn zo from n];rfl
structure Iu (K:aa) (C:ag) (m:Str) (f:ag):Prop where
 at_:ie K (.ref C) m=zn (zn (.ref f))
 fn:qk K (.ref f)=true
 kp:hV K (.ref f)=true
section
variable {X:Cx}{pins:List (ag×Obj)}{σ:St}{H:Hp}{s:ao}{a C dx:ag}{fs:List (Str×V)}{f:Str}{v:V}{A:df}{E:af->ao->Prop}
theorem BZ (I:Inv X pins σ H s) (e:H a=zn (.ins C dx fs)) (c:Cls X.K C) (n:NoAttr X.K C f) (l:fs.lookup f=zn v)
  (h:∀ u s',Inv X pins σ H s'->RelV v u->Q u s'):au (model X.prog X.w) A (getAttr (.ref a) f b) Q E s:=by
 obtain⟨mA,O,r,_,_,_⟩:=yK I.hok e;obtain⟨u,hu,ru⟩:=RelO.some_of (v:=v) (o:=mA f) (by rw[<- l];exact r f);exact KR I.kIn O (c.get f) c.hd n hu (Et ru) (h u _ (I.tok _) ru)
theorem qZ (I:Inv X pins σ H s) (e:H a=zn (.ins C dx fs)) (c:Cls X.K C) (k:Iu X.K C m g) (l:fs.lookup m=zo)
  (h:Q (.ref g,[.ref a]) s):au (model X.prog X.w) A (oj (.ref a) m pl) Q E s:=by
 obtain⟨mA,O,r,_,_,_⟩:=yK I.hok e;have hn:mA m=zo:=RelO.none_of (by rw[<- l];exact r m);exact Hz I.kIn O (c.get m) k.at_ k.fn hn h
theorem Bz (I:Inv X pins σ H s) (e:H a=zn (.ins C dx fs)) (c:Cls X.K C) (n:NoAttr X.K C f) (hl:fs.length<1000) (ry:RelV y u)
  (h:∀ s',Inv X pins σ (upd H a (.ins C dx (putF f y fs))) s'->Q () s'):au (model X.prog X.w) A (setAttr (.ref a) f u) Q E s:=by
 obtain⟨mA,O,r,wi,_,ho⟩:=yK I.hok e;have hz:(fs.map (·.1)).length<=sizeLine:=by rw[am,bz];omega
 refine Jf I.kIn O c.sa c.po n.taker c.hd wi hz fun h' O' sb=>h _ ?_;have hd:∃ o,h'.get? dx=zn o:=let ⟨o,_,_,e',_⟩:=O'.ns;⟨o,e'⟩;refine I.write (x:=a) (e:=dx) (by rw[e];exact ib) (.inr ho) (fun b q hb z=>(sb.2 b hb).trans z) hd ?_;refine⟨by rw[aE O.ne];exact ho,?_,O.ne,O'.obj,_,O'.ns,fun g=> ?_,fun g hg=> ?_⟩
 ·have:=nR f y fs;omega
 ·show RelO ((putF f y fs).lookup g) (if g=f then zn u else mA g);rw[nQ]
  by_cases q:g=f
  ·rw[if_pos q,if_pos q];exact ry
  ·rw[if_neg q,if_neg q];exact r g
 ·by_cases q:g=f
  ·rw[q];exact(nS f y fs).1
  ·refine(nS f y fs).2 g (wi g fun z=>hg ?_)
   show(if g=f then zn u else mA g)=zo
   rw[if_neg q];exact z
theorem Inv.made (I:Inv X pins σ H s):Inv X pins σ (upd (upd H s.heap.objs.size (.own (s.heap.objs.size+1))) (s.heap.objs.size+1) (.ins C s.heap.objs.size []))
  { s with heap:=(s.heap.push ij).push (jf C s.heap.objs.size) }:=by
 have e1:(s.heap.push ij).get? s.heap.objs.size=zn ij:=br s.heap rfl;have e2:((s.heap.push ij).push (jf C s.heap.objs.size)).get? (s.heap.objs.size+1)=zn (jf C s.heap.objs.size):=by
  have:=br (s.heap.push ij) (o:=jf C s.heap.objs.size) rfl
  rwa [f8] at this
 have e3:(s.heap.push ij).Ns s.heap.objs.size (fun _=>zo):=⟨ij,#[],_,e1,rfl,(fun e he=>absurd he (by simp)),fun _=>rfl⟩;have I1:=I.laid (a:=s.heap.objs.size) (o:=.own (s.heap.objs.size+1)) (h':=s.heap.push ij) (t':=s.toks) (fun b u q=>aq _ q) (bp _) ⟨_,e1⟩;refine I1.laid (a:=s.heap.objs.size+1) (o:=.ins C s.heap.objs.size []) (t':=s.toks) (fun b u q=>aq _ q) (wq (f8 _ _)) ?_;have ne:s.heap.objs.size≠s.heap.objs.size+1:=cf (mm _);refine⟨by rw[aE ne,aJ],i4 _,ne,e2,fun _=>zo,(Heap.Ns1.of_empty e3).at fun o q=>aq _ q,fun _=>ib,fun y hy=>absurd rfl hy⟩
theorem Lv (hb:g9 e f env (eval e env)=eval e env)
  (h:au (model prog w) A (eval e env) (fun o s₁=>au (model prog w) A (getAttr o f true) Q E s₁) E s):au (model prog w) A (eval (.Attribute e f pos) env) Q E s:=
 Attribute_any_ h (by rw[arm_eval_Attribute,hb])
end
def QU (K:aa) (ta:TE) (f:Str):TE:=fun σ H Q=>ta σ H fun x H1=>∃ a C dx fs v,x=.ref a/\H1 a=zn (.ins C dx fs)/\Cls K C/\NoAttr K C f/\fs.lookup f=zn v/\Q v H1
def QY (K:aa) (ta tv:TE) (f:Str):TS:=fun D σ H=>tv σ H fun y H1=>ta σ H1 fun x H2=>∃ a C dx fs,x=.ref a/\H2 a=zn (.ins C dx fs)/\Cls K C/\NoAttr K C f/\fs.length<1000/\
 D.nx σ (upd H2 a (.ins C dx (putF f y fs)))
section
variable {X:Cx}{o e value:b0}{f:Str}{pos pos' tpos:Pos}{ta tv:TE}
theorem MH (he:PE X e ta) (hb:g9 e f X.env (eval e X.env)=eval e X.env):PE X (.Attribute e f pos) (QU X.K ta f):=by
 intro pins s σ H Q I h;refine Lv hb (thn (he pins s σ H _ I h) fun u s1 ⟨x,H1,I1,rx,a,C,dx,fs,v,ex,ea,c,n,l,q⟩=> ?_);subst ex;obtain rfl:u=b9 a:=rx;exact BZ I1 ea c n l fun u' s2 I2 ru=>⟨v,H1,I2,ru,q⟩
theorem Mv (ha:PE X o ta) (hv:PE X value tv) (hs:jw value (zn (.Attribute o f pos')) pos.line X.env=pure false):PS X (.Assign [.Attribute o f pos'] value pos) (QY X.K ta tv f):=by
 intro pins s σ H D I h;refine plainObj_wpAny_Assign_Attribute (thn (hv pins s σ H _ I h) fun u s1 ⟨y,H1,I1,ry,q⟩=>thn (ha pins s1 σ H1 _ I1 q) fun ov s2 ⟨x,H2,I2,rx,a,C,dx,fs,ex,ea,c,n,l,q2⟩=> ?_) hs;subst ex;obtain rfl:ov=b9 a:=rx;exact Bz I2 ea c n l ry fun s3 I3=>⟨σ,_,I3,q2⟩
end
section
variable {X:Cx}{pins:List (ag×Obj)}{σ:St}{H:Hp}{s:ao}{A:df}{E:af->ao->Prop}{Q:af->ao->Prop}{c:af}{b:Bool}
end
end L2
namespace L2
structure Room (k:Nat) (A:df):Prop where
 hd:A.handled=zo
 dp:A.depth+3*k+5<recursionLimit
 un:A.units+16*k+200<fj
theorem Room.mono (r:Room k A) (h:j<=k):Room j A:=⟨r.hd,by have:=r.dp;omega,by have:=r.un;omega⟩
theorem Room.deeper (r:Room (k+1) A) (env:Env):Room k (A.deeper env):=
 ⟨r.hd,by have:=r.dp;show A.depth+1+3*k+5<_;omega,by have:=r.un;show A.units+3+16*k+200<_;omega⟩
theorem BM {A:df}:(A.under (.builtin "type.__call__" ⟨.ref C::us,kw⟩)).depth=A.depth+1:=by
 first|rfl|simp[wt,Code.weight,Code.isCreation,Code.isGuard,Code.isCaller,Code.frames,wu,guardIds]
theorem BL {A:df}:(A.under (.builtin "type.__call__" ⟨.ref C::us,kw⟩)).units=A.units+1:=by
 first|rfl|simp[wt,Code.cUnits,Code.frames,wu]
theorem Room.make (r:Room (k+1) A) (C:ag) (us:List af) (kw:List (Str×af)):Room k (A.under (.builtin "type.__call__" ⟨.ref C::us,kw⟩)):=
 ⟨r.hd,by have:=r.dp;rw[BM];omega,by have:=r.un;rw[BL];omega⟩
theorem Room.depth (r:Room k A):A.depth<recursionLimit:=by have:=r.dp;omega
theorem Room.units (r:Room k A):A.units+64<fj:=by have:=r.un;omega
def Qt:TA:=fun _ H Q=>Q [] H
def Pe (ta:TE) (tr:TA):TA:=fun σ H Q=>ta σ H fun x H1=>tr σ H1 fun xs H2=>Q (x::xs) H2
section
variable {X:Cx}{e:b0}{es:List b0}{te:TE}{t:TA}{pos:Pos}
theorem lF:PA X [] Qt:=fun _ _ _ _ H Q I h=>Calls.spliced_nil ⟨[],H,I,.nil,h⟩
theorem eW (ha:PE X e te) (hr:PA X es t) (hs:ar (e::es) X.env=(false,eval e X.env)::ar es X.env:=by rfl):PA X (e::es) (Pe te t):=by
 intro pos pins s σ H Q I h;rw[hs];show au _ _ (spliced ((false,eval e X.env)::dq pos (ar es X.env))) _ _ s;refine Calls.spliced_cons (thn (ha pins s σ H _ I h) fun u s1 ⟨x,H1,I1,r1,q1⟩=> ?_);exact thn (hr pos pins s1 σ H1 _ I1 q1) fun us s2 ⟨xs,H2,I2,r2,q2⟩=>⟨x::xs,H2,I2,.cons r1 r2,q2⟩
def QO (t:TA):TE:=fun σ H Q=>t σ H fun xs H1=>xs.length<=sizeLine/\∀ p,H1 p=zo->Q (.ref p) (upd H1 p (.tup xs))
def QS (t:TA):TE:=fun σ H Q=>t σ H fun xs H1=>xs.length<=sizeLine/\∀ p,H1 p=zo->Q (.ref p) (upd H1 p (.lst xs))
theorem Ix (h:PA X es t):PE X (.Tuple es x1 pos) (QO t):=by
 intro pins s σ H Q I hq;refine wpAny_Tuple_spliced (thn (h pos pins s σ H _ I hq) fun us s1 ⟨xs,H1,I1,r,z,q⟩=>⟨by rw[<- r.length];exact z,?_⟩);have hf:H1 s1.heap.objs.size=zo:=I1.hok.fresh (bp _);refine⟨.ref s1.heap.objs.size,upd H1 s1.heap.objs.size (.tup xs),I1.laid (t':=s1.toks) (fun b u e=>aq _ e) (bp _) ?_,rfl,q _ hf⟩;exact⟨z,us,r,⟨_,br _ rfl,rfl,_,rfl⟩⟩
theorem Iy (h:PA X es t):PE X (.List es pos) (QS t):=by
 intro pins s σ H Q I hq;refine wpAny_List_spliced (thn (h pos pins s σ H _ I hq) fun us s1 ⟨xs,H1,I1,r,z,q⟩=>⟨by rw[<- r.length];exact z,?_⟩);have hf:H1 s1.heap.objs.size=zo:=I1.hok.fresh (bp _);refine⟨.ref s1.heap.objs.size,upd H1 s1.heap.objs.size (.lst xs),I1.laid (t':=s1.toks) (fun b u e=>aq _ e) (bp _) ?_,rfl,q _ hf⟩;exact⟨z,us,0,r,br _ rfl⟩
end
abbrev Sp:=List V->Hp->VK->XK->Prop
abbrev CXT:=List Env->Hp->ao->XK->af->ao->Prop
structure Env0 (P:cj) (w:cz) (K:aa) (mg:Str->Option af) (base:cm) (A:df) (outer:List Env) (s:ao) (H:Hp):Prop where
 frames:A.frames=zn outer
 mod:Mod K mg base
 bs:∀ b o,base.get? b=zn o->s.heap.get? b=zn o/\H b=zo
 bsz:base.objs.size<=s.heap.objs.size
 funs:s.heap.FunFrames base outer
 frf:∀ b∈frs outer,H b=zo
 hok:HOk P w H s.heap
 bare:o5 s.gens
def CE (outer:List Env) (P:cj) (w:cz) (H:Hp) (s:ao) (Q:VK) (u:af) (s':ao):Prop:=
 ∃ v H',s'.os=s.os/\o5 s'.gens/\Un (frs outer) [] H H' s.heap s'.heap/\HOk P w H' s'.heap/\RelV v u/\Q v H'
def CR (CX:CXT) (outer:List Env) (P:cj) (w:cz) (H:Hp) (s:ao) (Q:VK) (E:XK) (r:Result) (s':ao):Prop:=
 match r with
 |.ok (.ret u)=>CE outer P w H s Q u s'
 |.ok _=>False
 |.error e=>CX outer H s E e s'
structure pX (P:cj) (w:cz) (K:aa) (mg:Str->Option af) (base:cm) (CX:CXT) (k:Nat) (f:ag) (fd:j7) (ps:List Str) (sp:Sp):Prop where
 len:∀ vs H Q E,sp vs H Q E->vs.length=ps.length
 run:∀(A:df) (outer:List Env) (s:ao) (H:Hp) (args:Args) (us:List af) (vs:List V) (Q:VK) (E:XK),Room k A->Env0 P w K mg base A outer s H->u8 s fd args (ps.zip us)->Vals vs us->sp vs H Q E->
  kq (model P w) A (.call (.ref f) args) (CR CX outer P w H s Q E) s
theorem Env0.make {K:aa} (e:Env0 P w K mg base A outer s H) (C:ag) (us:List af) (kw:List (Str×af)):
  Env0 P w K mg base (A.under (.builtin "type.__call__" ⟨.ref C::us,kw⟩)) outer s H:=⟨by first|exact e.frames|(simpa [wt,Code.envs,wu,pushEnvs] using e.frames),e.mod,e.bs,e.bsz,e.funs,e.frf,e.hok,e.bare⟩
section
variable {X:Cx}{pins:List (ag×Obj)}{σ:St}{H:Hp}{s s':ao}
theorem Inv.env0 (I:Inv X pins σ H s):Env0 X.prog X.w X.K X.mg X.base X.A X.stack s H:=
 ⟨I.ok.frames,I.ok.mod,I.bs,cu I.ok.bsz I.sz,I.stack,I.stkFree,I.hok,I.bare⟩
theorem Inv.after (I:Inv X pins σ H s) (h:CE X.stack X.prog X.w H s Q u s'):EP X pins σ Q u s':=by
 obtain⟨v,H',os,bare,un,hok,r,q⟩:=h;obtain⟨hh,g,d,t,os'⟩:=s';obtain rfl:os'=s.os:=os;exact⟨v,H',I.call (h':=hh) (g':=g) (d':=d) (t':=t) (ch:=[]) un hok bare (fun b z=>absurd z (by simp)),r,q⟩
end
def Pf (sp:Sp) (dvs:List V) (E:XK) (t:TA):TE:=fun σ H Q=>t σ H fun vs H1=>sp (vs++dvs) H1 Q E
def LX (C:ag) (m:Str) (sp:Sp) (dvs:List V) (E:XK) (ta:TE) (t:TA):TE:=fun σ H Q=>ta σ H fun x H1=>∃ a dx fs,x=.ref a/\H1 a=zn (.ins C dx fs)/\fs.lookup m=zo/\
 t σ H1 fun vs H2=>sp (x::(vs++dvs)) H2 Q E
def Pa (C:ag) (sp:Sp) (dvs:List V) (E:XK) (t:TA):TE:=fun σ H Q=>t σ H fun vs H1=>∀ x dx,H1 x=zo->H1 dx=zo->dx≠x->
 sp (.ref x::(vs++dvs)) (upd (upd H1 dx (.own x)) x (.ins C dx [])) (fun v H2=>v=.non/\Q (.ref x) H2) E
def Binds (K:aa) (fd:j7) (ps:List Str) (ds:List af):Prop:=
 ∀(s:ao) (us:List af),K.In s.heap->(us++ds).length=ps.length->u8 s fd ⟨us,[]⟩ (ps.zip (us++ds))
theorem Binds.all {K:aa} (h:∀ us:List af,us.length=ps.length->bindArgs fd ⟨us,[]⟩=pure (ps.zip us)):Binds K fd ps []:=fun s us _ hl=>by
 rw[dr] at hl ⊢;exact .of_eq (h us hl)
def oZ (CX:CXT) (X:Cx) (E:XK):Prop:=∀(pins:List (ag×Obj)) (σ:St) (H:Hp) (s:ao) (e:af) (s':ao),Inv X pins σ H s->CX X.stack H s E e s'->X.xe e s'
section
variable {X:Cx}{CX:CXT}{k:Nat}{f C:ag}{fd:j7}{ps:List Str}{sp:Sp}{dvs:List V}{ds:List af}{E:XK}{x m:Str}{p pos apos:Pos}{e o:b0}{es:List b0}{ta:TE}{t:TA}
theorem CZ (F:pX X.prog X.w X.K X.mg X.base CX k f fd ps sp) (hr:Room k X.A) (hb:Binds X.K fd ps ds) (hd:Vals dvs ds) (hx:oZ CX X E)
  (I:Inv X pins σ H s) (r:Vals vs us) (h:sp (vs++dvs) H Q E):au (model X.prog X.w) X.A (call (.ref f) us) (EP X pins σ Q) X.xe s:=by
 have r2:Vals (vs++dvs) (us++ds):=r.append hd;have hl:(us++ds).length=ps.length:=by rw[<- r2.length];exact F.len _ _ _ _ h
 refine wpAny_call (l8 (F.run X.A X.stack s H ⟨us,[]⟩ (us++ds) (vs++dvs) Q E hr I.env0 (hb s us I.kIn hl) r2 h) fun r s' hq=> ?_);cases r with
 |error e=>exact hx pins σ H s e s' I hq
 |ok fl=>
  cases fl with
  |ret u=>exact I.after hq
  |next=>exact i8 hq
  |brk=>exact i8 hq
  |cont=>exact i8 hq
theorem JB (F:pX X.prog X.w X.K X.mg X.base CX k f fd ps sp) (hr:Room k X.A) (hg:Gl X x) (hm:X.mg x=zn (.ref f)) (hk:hV X.K (.ref f)=true) (hb:Binds X.K fd ps ds) (hd:Vals dvs ds) (hx:oZ CX X E)
  (ha:PA X (e::es) t) (hdb:(x==("__debug__":Str))=false:=by decide) (he:ar (e::es) X.env=(false,eval e X.env)::ar es X.env:=by rfl) (hpl:(dq pos (ar es X.env)).any (·.1)=false:=by rfl):
  PE X (.Call (.Name x p) (e::es) [] pos) (Pf sp dvs E t):=by
 intro pins s σ H Q I h;refine om (sL I hg hm ?_ hdb);refine rj (h₀:=X.base) I.ok.mod.kin hk (thn (ha pos pins s σ H _ I h) fun us s1 ⟨vs,H1,I1,r,q⟩=>⟨I1.kIn,?_⟩) he hpl;exact CZ F hr hb hd hx I1 r q
theorem Jw (he:PE X o ta) (c:Cls X.K C) (hm:Iu X.K C m f) (F:pX X.prog X.w X.K X.mg X.base CX k f fd ps sp) (hr:Room k X.A) (hb:Binds X.K fd ps ds) (hd:Vals dvs ds) (hx:oZ CX X E) (ha:PA X (e::es) t)
  (hst:ar (e::es) X.env=(false,eval e X.env)::ar es X.env:=by rfl) (hpl:(dq pos (ar es X.env)).any (·.1)=false:=by rfl)
  (ht:eval (.Call (.Attribute o m apos) (e::es) [] pos) X.env=(do
   let ov <- eval o X.env
   o7 apos.atName
   let (f,first) <- holding [ov] (oj ov m pl)
   t8 pos f first (dq pos (ar (e::es) X.env)) (jt pos (ig [] X.env))):=by rfl):
  PE X (.Call (.Attribute o m apos) (e::es) [] pos) (LX C m sp dvs E ta t):=by
 intro pins s σ H Q I h;refine u9 (pl:=pl) (thn (he pins s σ H _ I h) fun u s1 ⟨x,H1,I1,rx,a,dx,fs,ex,ea,l,q⟩=> ?_) ht;subst ex;obtain rfl:u=b9 a:=rx;refine qZ I1 ea c hm l ?_;refine rj (first:=[.ref a]) (h₀:=X.base) I.ok.mod.kin hm.kp (thn (ha pos pins s1 σ H1 _ I1 q) fun us s2 ⟨vs,H2,I2,r,q2⟩=>⟨I2.kIn,?_⟩) hst hpl;exact CZ (us:=.ref a::us) (vs:=.ref a::vs) F hr hb hd hx I2 (.cons rfl r) q2
theorem GI (he:PE X o ta) (c:Cls X.K C) (hm:Iu X.K C m f) (F:pX X.prog X.w X.K X.mg X.base CX k f fd ps sp) (hr:Room k X.A) (hb:Binds X.K fd ps ds) (hd:Vals dvs ds) (hx:oZ CX X E)
  (ht:eval (.Call (.Attribute o m apos) [] [] pos) X.env=(do
   let ov <- eval o X.env
   o7 apos.atName
   let (f,first) <- holding [ov] (oj ov m pl)
   t8 pos f first (dq pos (ar [] X.env)) (jt pos (ig [] X.env))):=by rfl):
  PE X (.Call (.Attribute o m apos) [] [] pos) (LX C m sp dvs E ta Qt):=by
 intro pins s σ H Q I h;refine u9 (pl:=pl) (thn (he pins s σ H _ I h) fun u s1 ⟨x,H1,I1,rx,a,dx,fs,ex,ea,l,q⟩=> ?_) ht;subst ex;obtain rfl:u=b9 a:=rx;refine qZ I1 ea c hm l ?_;exact PySem.W.callWith_K0 (first:=[.ref a]) I1.kIn hm.kp (CZ (us:=[.ref a]) (vs:=[.ref a]) F hr hb hd hx I1 (.cons rfl .nil) q)
structure Mk (K:aa) (C f:ag):Prop where
 makes:uq K C=true
 init:ie K (.ref C) "__init__"=zn (zn (.ref f))
 fn:qk K (.ref f)=true
 kp:hV K (.ref C)=true
theorem Go (M:Mk X.K C f) (F:pX X.prog X.w X.K X.mg X.base CX k f fd ps sp) (hr:Room (k+1) X.A) (hb:Binds X.K fd ps ds) (hd:Vals dvs ds)
  (hx:oZ CX X E) (I:Inv X pins σ H s) (r:Vals vs us)
  (h:∀ x dx,H x=zo->H dx=zo->dx≠x->sp (.ref x::(vs++dvs)) (upd (upd H dx (.own x)) x (.ins C dx [])) (fun v H2=>v=.non/\Q (.ref x) H2) E):
  au (model X.prog X.w) X.A (call (.ref C) us) (EP X pins σ Q) X.xe s:=by
 have hq:=h (s.heap.objs.size+1) s.heap.objs.size (I.hok.fresh (x4 _)) (I.hok.fresh (bp _)) (cf (mm _));have I2:=Inv.made (C:=C) I;have r2:Vals (V.ref (s.heap.objs.size+1)::(vs++dvs)) (b9 (s.heap.objs.size+1)::(us++ds)):=.cons rfl (r.append hd);have hl:(b9 (s.heap.objs.size+1)::us++ds).length=ps.length:=by
  have e:=r2.length;rw[F.len _ _ _ _ hq] at e;exact e.symm
 refine wpAny_call (Hh (f:=f) I.kIn M.makes M.init (beq_iff_eq.mp M.fn) (l8 (F.run _ X.stack _ _ ⟨b9 (s.heap.objs.size+1)::us,[]⟩ (b9 (s.heap.objs.size+1)::(us++ds)) _ _ E (hr.make C us [])
  (I2.env0.make C us []) (hb _ (b9 (s.heap.objs.size+1)::us) I2.kIn hl) r2 hq) fun r s' hq'=> ?_))
 cases r with
 |error e=>exact hx pins σ _ _ e s' I2 hq'
 |ok fl=>
  cases fl with
  |ret u=>
   obtain⟨v,H',I3,rv,ev,q3⟩:=I2.after hq';subst ev;exact⟨rv,⟨V.ref (s.heap.objs.size+1),H',I3,rfl,q3⟩⟩
  |next=>exact i8 hq'
  |brk=>exact i8 hq'
  |cont=>exact i8 hq'
theorem Jx (M:Mk X.K C f) (F:pX X.prog X.w X.K X.mg X.base CX k f fd ps sp) (hr:Room (k+1) X.A) (hg:Gl X x) (hm:X.mg x=zn (.ref C)) (hb:Binds X.K fd ps ds) (hd:Vals dvs ds) (hx:oZ CX X E)
  (ha:PA X (e::es) t) (hdb:(x==("__debug__":Str))=false:=by decide) (he:ar (e::es) X.env=(false,eval e X.env)::ar es X.env:=by rfl) (hpl:(dq pos (ar es X.env)).any (·.1)=false:=by rfl):
  PE X (.Call (.Name x p) (e::es) [] pos) (Pa C sp dvs E t):=by
 intro pins s σ H Q I h;refine om (sL I hg hm ?_ hdb);refine rj (h₀:=X.base) I.ok.mod.kin M.kp (thn (ha pos pins s σ H _ I h) fun us s1 ⟨vs,H1,I1,r,q⟩=>⟨I1.kIn,?_⟩) he hpl;exact Go M F hr hb hd hx I1 r q
end
section
variable {X:Cx}{CX:CXT}{k:Nat}{f C:ag}{fd:j7}{ps ks:List Str}{sp:Sp}{E:XK}{x m:Str}{p pos apos kpos:Pos}{e o:b0}{es:List b0}{kws:List jk}{te ta:TE}{t tk:TA}{nm:Option Str}
variable {g:List af->List af->List af}{gV:List V->List V->List V}
end
structure jP (N P:List Str) (sc:k9):Prop where
 kind:sc.kind=.function
 co:sc.isCoroutine=false
 gen:sc.isGenerator=false
 nd:N.Nodup
 pre:N.take P.length=P
 par:∀ x∈P,sc.names.lookup x=zn .local∨sc.names.lookup x=zn .cell
 nofree:∀ y∈sc.names,y.2≠ .free
theorem wS {kindOf:Str->Option im}:∀ {binds:List (Str×af)}{m:Str->Option af},(∀ v,(x,v)∉binds)->bindL kindOf binds m x=m x
 |[],_,_=>rfl
 |(n,v)::r,m,h=>by
  unfold bindL;rw[wS fun w hw=>h w (ak _ hw)];split
  ·have:x≠n:=by rintro rfl;exact h v av
   simp[this]
  ·rfl
theorem wU {kindOf:Str->Option im}:∀ {binds:List (Str×af)}{m:Str->Option af},(∀ v,(x,v)∉binds)->bindC kindOf binds m x=m x
 |[],_,_=>rfl
 |(n,v)::r,m,h=>by
  unfold bindC;rw[wU fun w hw=>h w (ak _ hw)];split
  ·rfl
  ·have:x≠n:=by rintro rfl;exact h v av
   simp[this]
theorem wT {kindOf:Str->Option im}:∀ {P:List Str}{vs:List af}{i:Nat}{m:Str->Option af},P.Nodup->P[i]?=zn x->vs[i]?=zn v->kindOf x=zn .local->
  bindL kindOf (P.zip vs) m x=zn v
 |[],_,_,_,_,h,_,_=>by simp at h
 |_::_,[],_,_,_,_,h,_=>by simp at h
 |p::P,w::vs,0,m,nd,h1,h2,hk=>by
  simp at h1 h2;subst h1;subst h2;show bindL kindOf ((p,w)::P.zip vs) m p=_;unfold bindL;rw[wS fun v hv=>(cx.mp nd).1 (ur hv).1,if_pos hk];simp
 |p::P,w::vs,i+1,m,nd,h1,h2,hk=>by
  show bindL kindOf ((p,w)::P.zip vs) m x=_;unfold bindL;exact wT (i:=i) (cx.mp nd).2 (by simpa using h1) (by simpa using h2) hk
theorem wV {kindOf:Str->Option im}:∀ {P:List Str}{vs:List af}{i:Nat}{m:Str->Option af},P.Nodup->P[i]?=zn x->vs[i]?=zn v->kindOf x≠zn .local->
  bindC kindOf (P.zip vs) m x=zn v
 |[],_,_,_,_,h,_,_=>by simp at h
 |_::_,[],_,_,_,_,h,_=>by simp at h
 |p::P,w::vs,0,m,nd,h1,h2,hk=>by
  simp at h1 h2;subst h1;subst h2;show bindC kindOf ((p,w)::P.zip vs) m p=_;unfold bindC;rw[wU fun v hv=>(cx.mp nd).1 (ur hv).1,if_neg hk];simp
 |p::P,w::vs,i+1,m,nd,h1,h2,hk=>by
  show bindC kindOf ((p,w)::P.zip vs) m x=_;unfold bindC;exact wV (i:=i) (cx.mp nd).2 (by simpa using h1) (by simpa using h2) hk
noncomputable def start (N:List Str) (vs:List V):St:=vs.map zn++az (N.length-vs.length) zo
noncomputable def zG (CX:CXT) (P:cj) (w:cz) (K:aa) (mg:Str->Option af) (base:cm) (N:List Str) (qual:Str) (scope:k9) (f:ag) (cd:af) (A:df) (outer:List Env) (s:ao) (H:Hp) (E:XK):Cx where
 prog:=P
 w:=w
 K:=K
 mg:=mg
 base:=base
 A:=A.deeper (jx qual scope s.heap.objs.size f cd)
 N:=N
 s₀:=s
 H₀:=H
 env:=jx qual scope s.heap.objs.size f cd
 outer:=outer
 stack:=jx qual scope s.heap.objs.size f cd::outer
 ex:=[]
 calm:=true
 fn:=fun _=>true
 pn:=[]
 xe:=fun e s'=>au (model P w) (A.deeper (jx qual scope s.heap.objs.size f cd)) (leaving (jx qual scope s.heap.objs.size f cd) e) (fun _ s''=>CX outer H s E e s'') (fun e' s''=>CX outer H s E e' s'') s'
theorem Bj {sc:k9} (h:sc.names.lookup x=zn .cell):∃ c,(hZ n sc.names []).lookup x=zn c:=by
 have q:=uy sc.names n [] (.inl h);exact oq.mp q
theorem Em {K:aa}
  (S:jP N ps scope) (hd:A.handled=zo) (e0:Env0 P w K mg base A outer s H) (hl:vs.length=ps.length) (r:Vals vs us)
  (x:InCallC s s.heap.objs.size (bindL (jx qual scope s.heap.objs.size f cd).kindOf (ps.zip us) fun _=>zo) (hZ (s.heap.objs.size+1) scope.names []) (bindC (jx qual scope s.heap.objs.size f cd).kindOf (ps.zip us) fun _=>zo) s1):
  Inv (zG CX P w K mg base N qual scope f cd A outer s H E) [] (start N vs) H s1:=by
 have hpl:ps.length<=N.length:=by have:=congrArg m9 S.pre;rw[i9] at this;omega
 obtain⟨h1,tk,rfl,hk⟩:=x.done;have noA:∀ b:ag,b∉(zG CX P w K mg base N qual scope f cd A outer s H E).ex:=fun b z=>absurd (show b∈([]:List ag) from z) (by simp);refine⟨⟨e0.mod,S.kind,rfl,rfl,bp _,fun y z c h1 h2=> ?_,fun y hy=> ?_,fun y c _ h=> ?_,fun _=>hd,Around.frames_deeper e0.frames,.inr ⟨rfl,rfl⟩,fun b z=>absurd z (noA b),e0.bs,e0.bsz,fun b _ _=>noA b,fun b z=>absurd z (noA b),e0.funs,e0.frf⟩,
  rfl,e0.bare,Un.kept hk,⟨_,x.toInCall.ns,fun i y v h1 h2 h3=> ?_⟩,fun y c h=>⟨_,x.cell y c h⟩,e0.hok.fresh (bp _),fun y c h=> ?_,fun p hp=>absurd (show p∈([]:List (ag×Obj)) from hp) (by simp),e0.hok.kept hk,?_⟩
 ·exact name_of_addr x.apart (gy h1) (gy h2)
 ·have hy:scope.names.lookup y=zn .cell∨scope.names.lookup y=zn .free:=hy;rcases hy with hy|hy
  ·exact Bj hy
  ·exact absurd rfl (S.nofree _ (gy hy))
 ·exact jg (x.above y c (gy h))
 ·have hi:i<vs.length:=by
   unfold start at h2
   by_cases hi:i<vs.length
   ·exact hi
   ·rw[j8 (by simpa using hi)] at h2;rw[ia] at h2;split at h2 <;> cases h2
  have ha:vs[i]?=zn v:=by
   unfold start at h2;rw[bc (by simpa using hi),bg] at h2;cases e:vs[i]? with
   |none=>rw[e] at h2;cases h2
   |some a=>rw[e] at h2;cases h2;rfl
  obtain⟨u,hu,rv⟩:=r.get ha;have hp:ps[i]?=zn y:=by
   rw[<- S.pre,List.getElem?_take_of_lt (by omega)];exact h1
  have ndP:ps.Nodup:=by rw[<- S.pre];exact S.nd.sublist (List.take_sublist _ _)
  refine⟨u,rv,?_⟩;rcases S.par y (fk hp) with k|k
  ·exact .inl ⟨k,wT ndP hp hu k⟩
  ·obtain⟨c,e⟩:=Bj (n:=s.heap.objs.size+1) k;refine .inr ⟨.inl k,c,e,?_⟩;have q:=x.cell y c e;rw[wV ndP hp hu (by show scope.names.lookup y≠_;rw[k];decide)] at q;exact q
 ·exact e0.hok.fresh (jg (x.above y c (gy h)))
 ·unfold start;show _=N.length;rw[bq,am,j5];omega
theorem Qa {K:aa}{dV kV doc pm cdv ct oc:af}
    (lk:K.lookup f=zn ⟨oc,od,.func (i5 name qual params body scope dV kV doc pm an cdv ct),osl⟩) (hcd:kr K cdv qual=true) (S:jP N ps scope)
  (len:∀ vs H Q E,sp vs H Q E->vs.length=ps.length)
  (hbody:∀(A:df) (outer:List Env) (s:ao) (H:Hp) (vs:List V) (Q:VK) (E:XK),Room k (A.deeper (jx qual scope s.heap.objs.size f cdv))->sp vs H Q E->
   ∃ t,PSs (zG CX P w K mg base N qual scope f cdv A outer s H E) body t/\t { nx:=fun _ H'=>Q .non H',rt:=Q } (start N vs) H):
  pX P w K mg base CX (k+1) f (i5 name qual params body scope dV kV doc pm an cdv ct) ps sp:=by
 refine⟨len,fun A outer s H args us vs Q E hr e0 hb r hsp=> ?_⟩;have hl:=len _ _ _ _ hsp;have KX:K.In s.heap:=e0.mod.kin.keeps fun b o e=>(e0.bs b o e).1;have lim:s.heap.NoLimit:=e0.mod.nolimit.keeps fun b o e=>(e0.bs b o e).1;have hkind:∀ y∈ps.zip us,scope.names.lookup y.1=zn .local∨(scope.names.lookup y.1=zn .cell/\((hZ (s.heap.objs.size+1) scope.names []).lookup y.1).isSome=true):=fun⟨n,v⟩ hy=>by
  rcases S.par n (ur hy).1 with q|q
  ·exact .inl q
  ·exact .inr ⟨q,uy _ _ _ (.inl q)⟩
 refine codeAny_call_function hr.depth (KX _ _ lk) rfl S.co S.gen rfl (PySem.W.codeRec_of KX hcd) (hb _ _ _ _ ?_);refine wpAny_newFunctionEnv_cells S.kind hkind fun env he s1 x=> ?_;subst he;refine⟨lim.keeps x.toInCall.keep,codeAny_func ?_⟩;obtain⟨t,ht,hq⟩:=hbody A outer s H vs Q E (hr.deeper _) hsp;have I:Inv (zG CX P w K mg base N qual scope f cdv A outer s H E) [] (start N vs) H s1:=Em S hr.hd e0 hl r x;refine gk (ht [] s1 (start N vs) H _ I hq) (fun fl s' hs=> ?_) fun e s' hs=>hs;have fin:∀ {σ':St}{H':Hp}{v:V}{u:af},Inv (zG CX P w K mg base N qual scope f cdv A outer s H E) [] σ' H' s'->RelV v u->Q v H'->CE outer P w H s Q u s':=
  fun {σ' H' v u} J rv q=>⟨v,H',J.os,J.bare,J.base,J.hok,rv,q⟩
 cases fl with
 |ret u=>
  obtain⟨v,σ',H',J,rv,q⟩:=hs;exact fin J rv q
 |next=>
  obtain⟨σ',H',J,q⟩:=hs;exact fin (v:=V.non) (u:=eg) J rfl q
 |brk=>
  obtain⟨_,_,_,q⟩:=hs;exact i8 q
 |cont=>
  obtain⟨_,_,_,q⟩:=hs;exact i8 q
end L2
namespace L2
section
variable {X:Cx}{x:Str}{p pos:Pos}{e:b0}{es:List b0}{t:TA}{id T:String}{r:List V->Hp->VK->Prop}
def tCB (r:List V->Hp->VK->Prop) (t:TA):TE:=fun σ H Q=>t σ H fun vs H1=>r vs H1 Q
theorem kC (hc:CallR X (.builtin id) r) (hg:Gl X x) (hm:X.mg x=zo) (hv:dy x=zn (.builtin id)) (ha:PA X (e::es) t) (hn:x≠"__name__":=by decide) (hdb:(x==("__debug__":Str))=false:=by decide)
  (he:ar (e::es) X.env=(false,eval e X.env)::ar es X.env:=by rfl) (hpl:(dq pos (ar es X.env)).any (·.1)=false:=by rfl):PE X (.Call (.Name x p) (e::es) [] pos) (tCB r t):=by
 intro pins s σ H Q I h;refine om (vP I hg hm hv ?_ hn hdb);exact PyProof.Rows.callWith_builtin1 (thn (ha pos pins s σ H _ I h) fun us s1 ⟨vs,H1,I1,r1,q1⟩=>hc pins s1 σ H1 vs us Q I1 r1 q1) he hpl
theorem vG (hc:CallR X (.type T) r) (hg:Gl X x) (hm:X.mg x=zo) (hv:dy x=zn (.type T)) (ha:PA X (e::es) t) (hn:x≠"__name__":=by decide) (hdb:(x==("__debug__":Str))=false:=by decide)
  (he:ar (e::es) X.env=(false,eval e X.env)::ar es X.env:=by rfl) (hpl:(dq pos (ar es X.env)).any (·.1)=false:=by rfl):PE X (.Call (.Name x p) (e::es) [] pos) (tCB r t):=by
 intro pins s σ H Q I h;refine om (vP I hg hm hv ?_ hn hdb);exact mf (thn (ha pos pins s σ H _ I h) fun us s1 ⟨vs,H1,I1,r1,q1⟩=>hc pins s1 σ H1 vs us Q I1 r1 q1) he hpl
end
end L2
namespace HT
open PySem PyProof.Rows
noncomputable def lexLt:List Int->List Int->Bool
 |[],[]=>false
 |[],_::_=>true
 |_::_,[]=>false
 |x::xs,y::ys=>if x=y then lexLt xs ys else decide (x<y)
theorem BN (x y:Int) (xs ys:List Int):lexLt (x::xs) (y::ys)=if x=y then lexLt xs ys else decide (x<y):=rfl
theorem sK:lexLt [] []=false:=rfl
theorem pL (y:Int) (ys:List Int):lexLt [] (y::ys)=true:=rfl
theorem pM (x:Int) (xs:List Int):lexLt (x::xs) []=false:=rfl
theorem HW (A:df) (s:ao) (a:Int) (t:Tok) (c:Int) (u:Tok):∃ e,yo A s (.int a t) (.int c u) e/\(e=true↔a=c):=
 ⟨(a==c),SeqAt.EqAt.int_int a t c u,by simp⟩
theorem Gy (A:df) (s:ao) (a:Int) (t:Tok) (c:Int) (u:Tok) (prog:cj) (w:cz) (E:af->ao->Prop) (Q:af->ao->Prop) (h:Q (.bool (decide (a<c))) s):
  au (model prog w) A (richCompare .Lt (.int a t) (.int c u)) Q E s:=
 (yn h:au (model prog w) A (gx .Lt (.int a t) (.int c u)) Q E s)
section
open PySem.SeqAt
open PySem.AutoSeq1 (wpAny_loadPart')
open PySem.MeetsSeq PySem.MeetsSeq2 PySem.MeetsSeq3
theorem rW (l b:ag) (items items2:Array af) (n n2:Nat) (dd dd2:Option ag) (sl sl2:Array (Option af)) (ns ms:List Int) (hi:lm items.toList ns) (hj:lm items2.toList ms):
  Meets (Builtin.«tuple.__lt__» ⟨[.ref l,.ref b],[]⟩)
   (fun _ R s=>s.heap.get? l=zn { cls:=.type "tuple",dict:=dd,data:=.seq items n,slots:=sl }/\s.heap.get? b=zn { cls:=.type "tuple",dict:=dd2,data:=.seq items2 n2,slots:=sl2 }/\
    R (.ok (.ret (.bool (lexLt ns ms)))) s):=
 .of_wp fun prog w A R s h=>by
  obtain⟨hp,g,d,tk,os⟩:=s;obtain⟨hl,hb,h⟩:=h;have f2:=AutoSeq1.sub_tuple_tuple;have z1:items.size=ns.length:=by rw[<- hi.length];simp
  have z2:items2.size=ms.length:=by rw[<- hj.length];simp
  wp_walk using wpAny_loadPart' hl,wpAny_loadPart' hb,t9 _ (fun rest b s'=>b.1=zo/\s'=⟨hp,g,d,tk,os⟩/\∃(vs ws:List af) (ns' ms':List Int),rest=vs.zip ws/\
   lm vs ns'/\lm ws ms'/\ns'.length+items2.size=ms'.length+items.size/\R (.ok (.ret (.bool (lexLt ns' ms')))) ⟨hp,g,d,tk,os⟩) _
  case turn=>
   rintro⟨y,x⟩ rest b s' ⟨hb',rfl,vs,ws,ns',ms',hz,hvi,hwi,hlen,hR⟩
   cases hvi with
   |nil=>rw[List.zip_nil_left] at hz;cases hz
   |cons a t hvi'=>
    cases hwi with
    |nil=>rw[List.zip_nil_right] at hz;cases hz
    |cons c u hwi'=>
     rw[wv] at hz;injection hz with hyx hrest
     injection hyx with hy hx
     subst hy hx;rw[BN] at hR;simp only[bv] at hlen;obtain⟨e,he,hiff⟩:=HW A.in1 ⟨hp,g,d,tk,os⟩ a t c u;refine ae (he prog w _ _ ?_);cases e with
     |true=>
      rw[if_pos (hiff.mp rfl)] at hR
      wp_walk
      exact⟨rfl,rfl,_,_,_,_,hrest,hvi',hwi',by omega,hR⟩
     |false=>
      rw[if_neg (fun q=>absurd (hiff.mpr q) cg)] at hR;have hri:=Gy A.in1 ⟨hp,g,d,tk,os⟩ a t c u prog w
      wp_walk using hri
      exact⟨_,rfl,by simpa using hR⟩
  case fin=>
   rintro⟨b1,b2⟩ s' ⟨hb',rfl,vs,ws,ns',ms',hz,hvi,hwi,hlen,hR⟩
   simp only at hb';subst hb';have hv:lexLt ns' ms'=decide (items.size<items2.size):=by
    cases hvi with
    |nil=>
     cases hwi with
     |nil=>
      simp only[nr] at hlen;rw[sK];exact(decide_eq_false (by omega)).symm
     |cons c u hw=>
      simp only[nr,bv] at hlen;rw[pL];exact(decide_eq_true (by omega)).symm
    |cons a t hv=>
     cases hwi with
     |nil=>
      simp only[nr,bv] at hlen;rw[pM];exact(decide_eq_false (by omega)).symm
     |cons c u hw=>
      rw[wv] at hz;cases hz
   rw[hv] at hR
   wp_walk
   exact⟨_,rfl,by simpa [Builtin.Tuple.tupleCompareSizes] using hR⟩
  case h=>
   exact⟨rfl,rfl,items.toList,items2.toList,ns,ms,rfl,hi,hj,by omega,h⟩
end
section
variable {prog:cj}{w:cz}{A:df}{E:af->ao->Prop}{s:ao}
theorem lt_tupInts (hl:IsTup s.heap l items) (hb:IsTup s.heap b items2) (hi:lm items.toList ns) (hj:lm items2.toList ms)
  (hu:A.units<fj) (h:Q (.bool (lexLt ns ms)) s):au (model prog w) A (gx .Lt (.ref l) (.ref b)) Q E s:=by
 obtain⟨⟨cls,dd,data,sl⟩,ho,hc,n,hd⟩:=id hl;obtain⟨⟨cls2,dd2,data2,sl2⟩,ho2,hc2,n2,hd2⟩:=id hb;simp only at hc hd hc2 hd2;subst hc hd hc2 hd2;exact richCompare_meets_room (op:=.Lt) ⟨_,ho,rfl⟩ ⟨_,ho2,rfl⟩ PySem.F.slot_tuple_lt PySem.F.entry_tuple_lt (PySem.F.args_tuple_lt_2 _ _) (rW l b items items2 n n2 dd dd2 sl sl2 ns ms hi hj)
  ⟨ho,ho2,show vp (lexLt ns ms)≠Value.notImplemented/\Q (.bool (lexLt ns ms)) s from⟨(fun x=>nomatch x),h⟩⟩ hu
noncomputable def sIx (n d:Nat):Option Int->Nat
 |none=>d
 |some v=>if v<0 then(v+(n:Int)).toNat else min v.toNat n
theorem sIx_none (n d:Nat):sIx n d zo=d:=rfl
theorem sIx_nat (n d k:Nat):sIx n d (zn (k:Int))=min k n:=by
 show(if(k:Int)<0 then((k:Int)+(n:Int)).toNat else min (k:Int).toNat n)=min k n
 rw[if_neg (by omega),da]
theorem Mg (n d:Nat) (hd:d<=n) (o:Option Int):sIx n d o<=n:=by
 cases o with
 |none=>exact hd
 |some v=>
  show(if v<0 then(v+(n:Int)).toNat else min v.toNat n)<=n
  by_cases hv:v<0
  ·rw[if_pos hv];omega
  ·rw[if_neg hv];exact Nat.min_le_right _ _
theorem Ft (v:Int) (n d:Nat):(if v<0 then max (v+(n:Int)) 0 else min v (n:Int))=((sIx n d (zn v):Nat):Int):=by
 show(if v<0 then max (v+(n:Int)) 0 else min v (n:Int))=(((if v<0 then(v+(n:Int)).toNat else min v.toNat n):Nat):Int)
 by_cases hv:v<0
 ·simp only[if_pos hv];omega
 ·simp only[if_neg hv];omega
theorem Co (lo hi:Option Int) (n:Nat):nu lo hi 1 (n:Int)=(((sIx n 0 lo:Nat):Int),((sIx n n hi:Nat):Int)):=by
 have h1:¬((1:Int)<0):=by omega
 unfold nu;simp only[h1,if_false];refine Prod.ext ?_ ?_
 ·cases lo with
  |none=>rfl
  |some v=>exact Ft v n 0
 ·cases hi with
  |none=>rfl
  |some v=>exact Ft v n n
theorem BE (i j:Nat):kh (i:Int) (j:Int) 1=j-i:=by
 unfold kh;have h1:(1:Int)>0:=by omega
 simp only[h1,if_true,Int.ediv_one];split <;> omega
theorem qC (p:ua v o) (h:Q o s):au (model prog w) A (Builtin.Slice.slicePartIndex v) Q E s:=by
 cases p with
 |none=>exact slicePart_none h
 |int i t=>exact slicePart_int h
theorem lS {lo hi:Option Int}{Q:Int×Int×Nat->ao->Prop} (hs:s.heap.IsSliceOf sl vl vu .none) (pl:ua vl lo) (pu:ua vu hi)
  (h:Q (((sIx n 0 lo:Nat):Int),1,sIx n n hi-sIx n 0 lo) s):au (model prog w) A (r9 (.ref sl) (pure (n:Int))) Q E s:=by
 obtain⟨os,hos,hcs,hds⟩:=id hs;unfold r9 Builtin.Slice.sliceFields;refine ae (ae (uz hos hds (x:=vl) rfl (ae (uz hos hds (x:=vu) rfl (ae (uz hos hds (x:=.none) rfl (ai ?_)))))));refine ae (slicePart_none ?_);show au _ _ (if((1:Int)==0)=true then _ else _) _ _ s;rw[if_neg (by decide)];refine ae (qC pl (ae (qC pu (ae (ai ?_)))));show au _ _ (match nu lo hi 1 (n:Int) with|(lo,hi)=>pure (lo,(1:Int),kh lo hi 1)) _ _ s;rw[Co lo hi n];show au _ _ (pure (((sIx n 0 lo:Nat):Int),(1:Int),kh ((sIx n 0 lo:Nat):Int) ((sIx n n hi:Nat):Int) 1)) _ _ s;rw[BE];exact ai h
theorem GH (xs:Array af) (i k:Nat):((aw k).filterMap fun(m:Nat)=>xs[((i:Int)+(m:Int)*1).toNat]?).toArray=((xs.toList.drop i).take k).toArray:=by
 have e:(fun(m:Nat)=>xs[((i:Int)+(m:Int)*1).toNat]?)=fun m=>xs[i+m]?:=by
  funext m
  have:((i:Int)+(m:Int)*1).toNat=i+m:=by omega
  rw[this]
 rw[e]
 have:=pick_run xs i k
 rw[List.filterMap_map] at this;have e2:((fun x=>xs[x]?)∘fun x=>i+x)=fun m=>xs[i+m]?:=rfl;rw[e2] at this;rw[this]
theorem getItem_tuple_cut {lo hi:Option Int} (ht:IsTup s.heap t items) (hs:s.heap.IsSliceOf sl vl vu .none) (pl:ua vl lo) (pu:ua vu hi)
  (hw:¬(sIx items.size 0 lo=0/\sIx items.size items.size hi=items.size))
  (h:Q (.ref s.heap.objs.size) { s with heap:=s.heap.push { cls:=.type "tuple",data:=.seq ((items.toList.drop (sIx items.size 0 lo)).take (sIx items.size items.size hi-sIx items.size 0 lo)).toArray } })
  (hsz:items.size<=sizeLine):au (model prog w) A (qv (.ref t) (.ref sl)) Q E s:=by
 have htake:sizeOk (.seq ((items.toList.drop (sIx items.size 0 lo)).take (sIx items.size items.size hi-sIx items.size 0 lo)).toArray):=by
  show((items.toList.drop (sIx items.size 0 lo)).take (sIx items.size items.size hi-sIx items.size 0 lo)).toArray.size<=sizeLine
  rw[bh,i9,mq,ca];omega
 have hj:sIx items.size items.size hi<=items.size:=Mg _ _ (bp _) hi;obtain⟨os,hos,hcs,hds⟩:=id hs;have hTs:s.TypeIs (.ref sl) "slice":=⟨os,hos,hcs⟩;unfold qv
 try with_reducible refine fh ?_
 first|refine ae (ai ?_)|skip
 refine ae (wpAny_sequenceKey ht.typeIs (by decide) ?_);refine ae (iw (name:=jc "__getitem__") ht.typeIs ju
  (eu ju ht.typeIs entry_tuple_getitem ?_ (args_tuple_getitem _ _)))
 show au _ _ (Builtin.Tuple.tupleItemsOf (.ref t) >>= _) _ _ s;refine ae (tupleItemsOf_ ht ?_);refine ae (ww hTs ?_);rw[if_pos (by decide)];refine ae (lS hs pl pu ?_);have hno:¬((((sIx items.size 0 lo:Nat):Int)==0&&(1:Int)==1&&(sIx items.size items.size hi-sIx items.size 0 lo)==items.size)=true):=by
  intro q;rw[bt,bt] at q;have q1:((sIx items.size 0 lo:Nat):Int)=0:=eq_of_beq q.1.1;have q2:sIx items.size items.size hi-sIx items.size 0 lo=items.size:=eq_of_beq q.2;exact hw ⟨by omega,by omega⟩
 show au _ _ (if(((sIx items.size 0 lo:Nat):Int)==0&&(1:Int)==1&&(sIx items.size items.size hi-sIx items.size 0 lo)==items.size)=true then _ else _) _ _ s;rw[if_neg hno,GH]
 first
  |exact ae (m:=ku _) (di (ai ⟨_,rfl,ai h⟩) htake)
  |exact ae (m:=ku _) (di (ae (ai (ai ⟨_,rfl,ai h⟩))) htake)
  |exact ae (ae (m:=ku _) (di (ai (ai ⟨_,rfl,ai h⟩)) htake))
  |exact ae (ae (m:=ku _) (di (ai ⟨_,rfl,ai h⟩) htake))
end
end HT
namespace L2
abbrev TO:=St->Hp->(Option Int->Hp->Prop)->Prop
def PO (X:Cx) (e:Option b0) (t:TO):Prop:=
 ∀(pins:List (ag×Obj)) (s:ao) (σ:St) (H:Hp) (Q:Option Int->Hp->Prop),Inv X pins σ H s->t σ H Q->
  au (model X.prog X.w) X.A (evalPart e X.env) (fun u s'=>∃ o H',Inv X pins σ H' s'/\ua u o/\Q o H') X.xe s
noncomputable def IZ:TO:=fun _ H Q=>Q zo H
noncomputable def OX (t:TE):TO:=fun σ H Q=>t σ H fun x H1=>∃ i,x=.int i/\Q (zn i) H1
theorem BW:∀ {us:List af},Vals (ns.map V.int) us->lm us ns:=by
 induction ns with
 |nil=>intro us r;rw[ou] at r;cases r;exact .nil
 |cons n ns ih=>
  intro us r;rw[bu] at r;cases r with
  |cons r1 r2=>
   obtain⟨t,e⟩:=r1;subst e;exact .cons n t (ih r2)
section
variable {X:Cx}{e:b0}{te:TE}{lo hi:Option b0}{tl th:TO}{pos p2:Pos}
theorem Dm:PO X zo IZ:=by
 intro pins s σ H Q I h;rw[evalPart_none];exact ai ⟨zo,H,I,.none,h⟩
theorem Dl (h:PE X e te):PO X (zn e) (OX te):=by
 intro pins s σ H Q I hw;rw[evalPart_some];refine thn (h pins s σ H _ I hw) fun u s1 ⟨x,H1,I1,r1,q1⟩=> ?_;obtain⟨i,rfl,q⟩:=q1;obtain⟨t,rfl⟩:=r1;exact⟨zn i,H1,I1,.int i t,q⟩
def SlR (X:Cx) (r:V->Option Int->Option Int->Hp->VK->Prop):Prop:=
 ∀(pins:List (ag×Obj)) (s:ao) (σ:St) (H:Hp) (x:V) (v vl vu:af) (lo hi:Option Int) (sl:ag) (Q:VK),Inv X pins σ H s->RelV x v->s.heap.IsSliceOf sl vl vu .none->ua vl lo->ua vu hi->r x lo hi H Q->
  ∃ T id,s0 (.type T) "__getitem__"=pure (zn (.builtin id))/\s.TypeIs v T/\au (model X.prog X.w) X.A (qv v (.ref sl)) (EP X pins σ Q) X.xe s
theorem SlR.or (h:SlR X r) (h':SlR X r'):SlR X (fun x lo hi H Q=>r x lo hi H Q∨r' x lo hi H Q):=by
 intro pins s σ H x v vl vu lo hi sl Q I rx hs pl pu q;rcases q with q|q
 ·exact h pins s σ H x v vl vu lo hi sl Q I rx hs pl pu q
 ·exact h' pins s σ H x v vl vu lo hi sl Q I rx hs pl pu q
def tSl (r:V->Option Int->Option Int->Hp->VK->Prop) (te:TE) (tl th:TO):TE:=fun σ H Q=>te σ H fun x H1=>tl σ H1 fun l H2=>th σ H2 fun u H3=>r x l u H3 Q
theorem AE (hr:SlR X r) (he:PE X e te) (hl:PO X lo tl) (hu:PO X hi th):PE X (.Subscript e (.Slice lo hi zo p2) pos) (tSl r te tl th):=by
 intro pins s σ H Q I h;refine Subscript_ (thn (he pins s σ H _ I h) fun v s1 ⟨x,H1,I1,r1,q1⟩=> ?_);refine wpAny_Slice (thn (hl pins s1 σ H1 _ I1 q1) fun vl s2 ⟨l,H2,I2,pl,q2⟩=>thn (hu pins s2 σ H2 _ I2 q2) fun vu s3 ⟨u,H3,I3,pu,q3⟩=> ?_);rw[evalPart_none];refine ai ?_;have I4:Inv X pins σ H3 { s3 with heap:=s3.heap.push { cls:=.type "slice",data:=.fields #[vl,vu,.none] } }:=I3.kept (t':=s3.toks) fun b ob q=>aq _ q;obtain⟨T,id,hT,ht,hg⟩:=hr pins { s3 with heap:=s3.heap.push { cls:=.type "slice",data:=.fields #[vl,vu,.none] } } σ H3 x v vl vu l u s3.heap.objs.size Q I4 r1 (Heap.IsSliceOf.new ..) pl pu q3;show au (model X.prog X.w) X.A (wd e (.Slice lo hi zo p2) v (.ref s3.heap.objs.size)) (EP X pins σ Q) X.xe { s3 with heap:=s3.heap.push { cls:=.type "slice",data:=.fields #[vl,vu,.none] } };exact tail_any (ops:=[.ref s3.heap.objs.size,v]) ht hT hg (by with_unfolding_all rfl)
noncomputable def IU (xs:List V) (lo hi:Option Int):List V:=(xs.drop (HT.sIx xs.length 0 lo)).take (HT.sIx xs.length xs.length hi-HT.sIx xs.length 0 lo)
theorem oQ (xs:List V) (lo hi:Option Int):(IU xs lo hi).length<=xs.length:=by
 unfold IU;rw[i9,mq];omega
def QZ (K:aa):V->Option Int->Option Int->Hp->VK->Prop:=fun x lo hi H Q=>∃ a xs,x=.ref a/\SqT K H a xs/\
 ¬(HT.sIx xs.length 0 lo=0/\HT.sIx xs.length xs.length hi=xs.length)/\∀ p,H p=zo->Q (.ref p) (upd H p (.tup (IU xs lo hi)))
theorem Md:SlR X (QZ X.K):=by
 intro pins s σ H x v vl vu lo hi sl Q I rx hs pl pu h;obtain⟨a,xs,rfl,hx,hw,q⟩:=h;cases rx;obtain⟨its,r,ht,hz⟩:=I.tuple hx;have hlen:its.toArray.size=xs.length:=by rw[bh];exact r.length.symm
 refine⟨"tuple",_,ju.lookup,ht.typeIs,?_⟩;refine HT.getItem_tuple_cut ht hs pl pu (by rw[hlen];exact hw) ?_ (by rw[hlen];exact hz);rw[hlen];refine⟨.ref s.heap.objs.size,_,I.laid (t':=s.toks) (o:=.tup (IU xs lo hi)) (fun b ob q=>aq _ q) (bp _) ?_,rfl,q _ (I.hok.fresh (bp _))⟩;exact⟨cu (oQ xs lo hi) hz,_,(r.drop (HT.sIx xs.length 0 lo)).take (HT.sIx xs.length xs.length hi-HT.sIx xs.length 0 lo),IsTup.new _ _⟩
end
end L2
namespace L2
noncomputable def ixN (n:Nat) (i:Int):Option Nat:=if 0<=i then(if i<n then zn i.toNat else zo) else if -(n:Int)<=i then zn (i+n).toNat else zo
noncomputable def atI {α:Type} (xs:List α) (i:Int):Option α:=(ixN xs.length i).bind fun j=>xs[j]?
theorem Ef (h:ixN n i=zn j):seqIndex? i n=zn j/\j<n/\ -(n:Int)<=i/\i<n:=by
 unfold ixN at h
 by_cases h0:0<=i
 ·rw[if_pos h0] at h
  by_cases h1:i<n
  ·rw[if_pos h1] at h;have e:i.toNat=j:=ce h;exact⟨by rw[x5 h0 h1,e],by omega,by omega,h1⟩
  ·rw[if_neg h1] at h;cases h
 ·rw[if_neg h0] at h
  by_cases h1: -(n:Int)<=i
  ·rw[if_pos h1] at h;have e:(i+n).toNat=j:=ce h;exact⟨by rw[wx (by omega) h1,e],by omega,h1,by omega⟩
  ·rw[if_neg h1] at h;cases h
theorem zK {v:α} (h:atI xs i=zn v):∃ j,seqIndex? i xs.length=zn j/\xs[j]?=zn v/\j<xs.length/\ -(xs.length:Int)<=i/\i<xs.length:=by
 unfold atI at h;cases e:ixN xs.length i with
 |none=>rw[e] at h;cases h
 |some j=>
  rw[e] at h;obtain⟨h1,h2,h3,h4⟩:=Ef e;exact⟨j,h1,h,h2,h3,h4⟩
def FO (b:b0):Prop:=∀ o i,subscripted b false o i=operate [o,i] (qv o i)
def IxR (X:Cx) (r:R2):Prop:=
 ∀(value slice:b0) (pins:List (ag×Obj)) (s:ao) (σ:St) (H:Hp) (x y:V) (v u:af) (Q:VK),Inv X pins σ H s->RelV x v->RelV y u->r x y H Q->
  subscripted slice false v u=operate [v,u] (qv v u)->au (model X.prog X.w) X.A (wd value slice v u) (EP X pins σ Q) X.xe s
def MtR (X:Cx) (id:String) (r:V->List V->Hp->VK->Prop):Prop:=
 ∀(pins:List (ag×Obj)) (s:ao) (σ:St) (H:Hp) (x:V) (xs:List V) (v:af) (us:List af) (Q:VK),Inv X pins σ H s->RelV x v->Vals xs us->r x xs H Q->
  au (model X.prog X.w) X.A (call (.builtin id) (v::us)) (EP X pins σ Q) X.xe s
section
variable {X:Cx}{a b:b0}{ta tb:TE}{pos:Pos}
theorem IxR.or (h:IxR X r) (h':IxR X r'):IxR X (fun x y H Q=>r x y H Q∨r' x y H Q):=by
 intro value slice pins s σ H x y v u Q I rx ry q hs;rcases q with q|q
 ·exact h value slice pins s σ H x y v u Q I rx ry q hs
 ·exact h' value slice pins s σ H x y v u Q I rx ry q hs
theorem Ps (hr:IxR X r) (ha:PE X a ta) (hb:PE X b tb) (hs:FO b):PE X (.Subscript a b pos) (tOp r ta tb):=by
 intro pins s σ H Q I h;exact Subscript_ (Qi ha hb I h fun v u s2 x y H2 I2 rx ry q=>hr a b pins s2 σ H2 x y v u Q I2 rx ry q (hs _ _))
noncomputable def QB (K:aa):R2:=fun x y H Q=>∃ p xs i v,x=.ref p/\y=.int i/\SqL K H p xs/\atI xs i=zn v/\Q v H
noncomputable def Qz (K:aa):R2:=fun x y H Q=>∃ p xs i v,x=.ref p/\y=.int i/\SqT K H p xs/\atI xs i=zn v/\Q v H
noncomputable def QA:R2:=fun x y H Q=>∃ z i c,x=.str z/\y=.int i/\z.length<=sizeLine/\atI z.cps.toList i=zn c/\Q (.str ⟨#[c]⟩) H
theorem ix_list:IxR X (QB X.K):=by
 intro value slice pins s σ H x y v u Q I rx ry h hs;obtain⟨p,xs,i,z,rfl,rfl,hq,he,q⟩:=h;cases rx;obtain⟨t,rfl⟩:=ry;obtain⟨its,r,pl,hz⟩:=I.list hq;obtain⟨j,h1,h2,h3,h4,h5⟩:=zK he;obtain⟨w,ew,rw'⟩:=r.get h2;have hl:=r.length;have hn:=qR;have fin:EP X pins σ Q w s:=⟨z,H,I,rw',q⟩
 by_cases h0:0<=i
 ·have hj:i.toNat=j:=by
   rw[x5 h0 h5] at h1;exact ce h1
  exact item_listR pl.isList h0 (by omega) (by rw[hj];simpa using ew) fin hs
 ·have hj:(i+(its.toArray.size:Int)).toNat=j:=by
   rw[wx (by omega) h4] at h1;rw[bh,<- hl];exact ce h1
  exact u0 (x:=w) pl.isList.typeIs slot_list_getitem.lookup
   (wpAny_getItem_list_neg (Q:=fun r s'=>r=w/\EP X pins σ Q r s') pl.isList (by omega) (by rw[bh] <;> omega) (by omega) (by rw[hj];simpa using ew) ⟨rfl,fin⟩) hs
theorem ix_tup:IxR X (Qz X.K):=by
 intro value slice pins s σ H x y v u Q I rx ry h hs;obtain⟨p,xs,i,z,rfl,rfl,hq,he,q⟩:=h;cases rx;obtain⟨t,rfl⟩:=ry;obtain⟨its,r,pl,hz⟩:=I.tuple hq;obtain⟨j,h1,h2,h3,h4,h5⟩:=zK he;obtain⟨w,ew,rw'⟩:=r.get h2;have hl:=r.length;have hn:=qR;have fin:EP X pins σ Q w s:=⟨z,H,I,rw',q⟩;exact u0 (x:=w) pl.typeIs ju.lookup
  (getItem_tuple (j:=j) (Q:=fun r s'=>r=w/\EP X pins σ Q r s') pl (by omega) (by omega) (by rw[bh,<- hl];exact h1) (by simpa using ew) ⟨rfl,fin⟩) hs
theorem NN:IxR X QA:=by
 intro value slice pins s σ H x y v u Q I rx ry h hs;obtain⟨z,i,c,rfl,rfl,hz,he,q⟩:=h;obtain⟨t,rfl⟩:=rx;obtain⟨t',rfl⟩:=ry;obtain⟨j,h1,h2,h3,h4,h5⟩:=zK he;have hl:z.cps.toList.length=z.length:=by simp[Str.length]
 rw[hl] at h1 h4 h5;have hn:=qR;exact tail_any (typeIs_str s z t) slot_str_getitem.lookup (getItem_str (c:=c) (by
  have e1:decide (i< -(2 ^ 63:Int))=false:=decide_eq_false (by omega);have e2:decide (i≥2 ^ 63)=false:=decide_eq_false (by omega);rw[e1,e2,we]) (by rw[h1];simpa using h2) ⟨.str ⟨#[c]⟩,H,I.tok _,⟨_,rfl⟩,q⟩) hs
noncomputable def rIx (K:aa):R2:=fun x y H Q=>QB K x y H Q∨Qz K x y H Q∨QA x y H Q
theorem NO:IxR X (rIx X.K):=ix_list.or (ix_tup.or NN)
theorem BK (its:List af) (n j:Nat) (u:af):jh (·.setIfInBounds j u) { cls:=.type "list",data:=.seq its.toArray n }={ cls:=.type "list",data:=.seq (its.set j u).toArray n }:=by
 simp[jh]
theorem Inv.lst (I:Inv X pins σ H s) (h:H p=zn (.lst xs)):
  ∃(its:List af) (n:Nat),Vals xs its/\s.heap.get? p=zn { cls:=.type "list",data:=.seq its.toArray n }/\xs.length<=sizeLine:=by
 obtain⟨z,its,n,r,e⟩:=I.hok p _ h;exact⟨its,n,r,e,z⟩
theorem Inv.lstUpd {its its':List af} (I:Inv X pins σ H s) (h:H p=zn (.lst xs))
  (ho:s.heap.get? p=zn { cls:=.type "list",data:=.seq its.toArray n }) (hf:f { cls:=.type "list",data:=.seq its.toArray n }={ cls:=.type "list",data:=.seq its'.toArray n' }) (r:Vals ys its') (hz:ys.length<=sizeLine) (t:Nat):
  Inv X pins σ (upd H p (.lst ys)) { s with heap:=s.heap.update p f,toks:=t }:=by
 have e:(s.heap.update p f).get? p=zn { cls:=.type "list",data:=.seq its'.toArray n' }:=by
  rw[ee f ho (by rw[hf] <;> rfl),hf]
 refine I.write (x:=p) (e:=p) (by rw[h];trivial) (.inl rfl) (fun b u hb q=>(dc _ _ (cw hb)).trans q) ⟨_,e⟩ ?_;exact⟨hz,its',n',r,e⟩
def Pk:V->V->V->Hp->(Hp->Prop)->Prop:=fun o i v H Q=>∃ p xs k j,o=.ref p/\i=.int k/\H p=zn (.lst xs)/\ixN xs.length k=zn j/\Q (upd H p (.lst (xs.set j v)))
theorem Gd:QK X Pk:=by
 intro pins s σ H o i v ov iv u Q I ro ri rv h;obtain⟨p,xs,k,j,rfl,rfl,hp,hj,q⟩:=h;cases ro;obtain⟨t,rfl⟩:=ri;obtain⟨its,n,r,ho,hz⟩:=I.lst hp;obtain⟨h1,h2,h3,h4⟩:=Ef hj;have hl:=r.length;have hn:=qR;have I':Inv X pins σ (upd H p (.lst (xs.set j v))) { s with heap:=s.heap.update p (jh (·.setIfInBounds j u)) }:=
  I.lstUpd hp ho (BK its n j u) (r.set rv j) (by rw[du];exact hz) s.toks
 by_cases h0:0<=k
 ·have hk:k.toNat=j:=by
   rw[x5 h0 h4] at h1;exact ce h1
  exact PySem.W.ki_setAt ho h0 (by omega) (by rw[bh,<- hl];exact h4) (by rw[hk];exact⟨_,I',q⟩)
 ·have hk:(k+(its.toArray.size:Int)).toNat=j:=by
   rw[wx (by omega) h3] at h1;rw[bh,<- hl];exact ce h1
  exact PySem.W.ki_setBack ho (by omega) (by rw[bh,<- hl];exact h3) (by omega) (by rw[hk];exact⟨_,I',q⟩)
theorem uV (lo hi:Option Int) (n:Nat):(ng lo hi zo n).1=((HT.sIx n 0 lo:Nat):Int)/\(ng lo hi zo n).2.1=((HT.sIx n n hi:Nat):Int)/\(ng lo hi zo n).2.2=1:=by
 refine⟨?_,?_,rfl⟩
 ·cases lo with
  |none=>simp[ng,HT.sIx]
  |some i=>
   simp only[ng,HT.sIx,ya,show(1:Int)>0 by decide,if_true]
   by_cases h:i<0
   ·simp only[h,if_true] <;> omega
   ·simp only[h,if_false] <;> omega
 ·cases hi with
  |none=>simp[ng,HT.sIx]
  |some i=>
   simp only[ng,HT.sIx,ya,show(1:Int)>0 by decide,if_true]
   by_cases h:i<0
   ·simp only[h,if_true] <;> omega
   ·simp only[h,if_false] <;> omega
theorem rY (its:List af) (lo hi:Option Int):slicePick its.toArray lo hi zo=((its.drop (HT.sIx its.length 0 lo)).take (HT.sIx its.length its.length hi-HT.sIx its.length 0 lo)).toArray:=by
 obtain⟨h1,h2,h3⟩:=uV lo hi its.toArray.size;unfold slicePick;rw[h1,h2,h3];simp only[sliceRange_one,pick_run,bh] <;> rfl
def Ra (K:aa):V->Option Int->Option Int->Hp->VK->Prop:=fun x lo hi H Q=>∃ a xs,x=.ref a/\SqL K H a xs/\∀ p,H p=zo->Q (.ref p) (upd H p (.lst (IU xs lo hi)))
theorem sl_list:SlR X (Ra X.K):=by
 intro pins s σ H x v vl vu lo hi sl Q I rx hs pl pu h;obtain⟨a,xs,rfl,hx,q⟩:=h;cases rx;obtain⟨its,r,ht,hz⟩:=I.list hx;have hlen:=r.length;refine⟨"list",_,slot_list_getitem.lookup,ht.isList.typeIs,?_⟩;refine wpAny_getItem_list_slice ht.isList hs pl pu .none (by simp) ?_ (by rw[bh] <;> omega);rw[rY,<- hlen];refine⟨.ref s.heap.objs.size,_,I.laid (t':=s.toks) (o:=.lst (IU xs lo hi)) (fun b ob q=>aq _ q) (bp _) ?_,rfl,q _ (I.hok.fresh (bp _))⟩;exact⟨cu (oQ xs lo hi) hz,_,0,(r.drop (HT.sIx xs.length 0 lo)).take (HT.sIx xs.length xs.length hi-HT.sIx xs.length 0 lo),br _ rfl⟩
theorem CallR.or (h:CallR X f r) (h':CallR X f r'):CallR X f (fun xs H Q=>r xs H Q∨r' xs H Q):=by
 intro pins s σ H xs us Q I rs q;rcases q with q|q
 ·exact h pins s σ H xs us Q I rs q
 ·exact h' pins s σ H xs us Q I rs q
theorem lP:CallR X (.type "list") (fun xs H Q=>∃ p ys,xs=[.ref p]/\(SqL X.K H p ys∨SqT X.K H p ys)/\∀ l,H l=zo->Q (.ref l) (upd H l (.lst ys))):=by
 intro pins s σ H xs us Q I r h;obtain⟨p,ys,rfl,hq,q⟩:=h;obtain⟨u,rfl,rx⟩:=jR r;cases rx;have fin:∀(its:List af),Vals ys its->ys.length<=sizeLine->∀(h':cm) (c':Nat),(∀ b o',s.heap.get? b=zn o'->h'.get? b=zn o')->
   h'.get? s.heap.objs.size=zn { cls:=.type "list",dict:=zo,data:=.seq its.toArray c',slots:= #[] }->EP X pins σ Q (.ref s.heap.objs.size) { s with heap:=h' }:=fun its r' hz h' c' kp e=>
  ⟨.ref s.heap.objs.size,_,I.laid (t':=s.toks) kp (bp _) (show ObjOk X.prog X.w _ h' _ (.lst ys) from⟨hz,its,c',r',e⟩),rfl,q _ (I.hok.fresh (bp _))⟩
 rcases hq with hq|hq
 ·obtain⟨its,r',pl,hz⟩:=I.list hq;have hlen:=r'.length;obtain⟨o,ho,hc,n,hd⟩:=pl.isList;exact call_list_seq p (.inl rfl) ho hc hd (fun h' c' kp e=>fin its r' hz h' c' kp e) (by simp only[bh] <;> omega)
 ·obtain⟨its,r',pl,hz⟩:=I.tuple hq;have hlen:=r'.length;obtain⟨o,ho,hc,n,hd⟩:=pl;exact call_list_seq p (.inr rfl) ho hc hd (fun h' c' kp e=>fin its r' hz h' c' kp e) (by simp only[bh] <;> omega)
theorem tP:CallR X (.type "tuple") (fun xs H Q=>∃ p ys,xs=[.ref p]/\((SqL X.K H p ys/\∀ l,H l=zo->Q (.ref l) (upd H l (.tup ys)))∨(SqT X.K H p ys/\Q (.ref p) H))):=by
 intro pins s σ H xs us Q I r h;obtain⟨p,ys,rfl,h⟩:=h;obtain⟨u,rfl,rx⟩:=jR r;cases rx;rcases h with⟨hq,q⟩|⟨hq,q⟩
 ·obtain⟨its,r',pl,hz⟩:=I.list hq;have hlen:=r'.length;refine call_tuple_list pl.isList (fun h' kp=> ?_) (by simp only[bh] <;> omega);have I1:Inv X pins σ H { s with heap:=h' }:=I.kept (t':=s.toks) kp;have I2:Inv X pins σ (upd H h'.objs.size (.tup ys)) { s with heap:=h'.push { cls:=.type "tuple",data:=.seq its.toArray } }:=
   I1.laid (t':=s.toks) (fun b o e=>aq _ e) (bp _) (show ObjOk X.prog X.w _ _ _ (.tup ys) from⟨hz,its,r',IsTup.new _ _⟩)
  exact⟨.ref h'.objs.size,_,I2,rfl,q _ (I1.hok.fresh (bp _))⟩
 ·obtain⟨its,r',pl,hz⟩:=I.tuple hq;exact call_tuple_same pl ⟨.ref p,H,I,rfl,q⟩
def tyV (K:aa) (T:String) (x:V) (H:Hp):Prop:=match x with
 |.str _=>T="str"
 |.int _=>T="int"
 |.ref p=>(T="list"/\∃ xs,SqL K H p xs)∨(T="tuple"/\∃ o,K.lookup p=zn o/\o.cls=.type "tuple"/\o.dict=zo)∨
   (T="dict"/\((∃ kvs,H p=zn (.dK kvs))∨∃ kvs,H p=zn (.dT kvs)))∨(T="set"/\∃ S n,H p=zn (.set S n))
 |_=>False
theorem Iv (I:Inv X pins σ H s) (r:RelV x v) (ty:tyV X.K T x H):
  s.TypeIs v T/\∀ a,v=.ref a->∃ ob,s.heap.get? a=zn ob/\ob.dict=zo:=by
 cases x with
 |str z=>
  obtain⟨t,rfl⟩:=r;cases (show T="str" from ty);exact⟨typeIs_str s z t,fun _ e=>nomatch e⟩
 |int i=>
  obtain⟨t,rfl⟩:=r;cases (show T="int" from ty);exact⟨typeIs_int s i t,fun _ e=>nomatch e⟩
 |ref p=>
  cases r;rcases ty with⟨rfl,xs,hq⟩|⟨rfl,o,hk,hc,hd⟩|⟨rfl,hk⟩|⟨rfl,S,n,hk⟩
  ·obtain⟨its,_,pl,_⟩:=I.list hq;refine⟨pl.isList.typeIs,fun a e=> ?_⟩;cases e;obtain⟨o,n,e,c,hd,_⟩:=pl;exact⟨o,e,hd⟩
  ·refine⟨⟨o,I.kIn p o hk,hc⟩,fun a e=> ?_⟩;cases e;exact⟨o,I.kIn _ o hk,hd⟩
  ·have z:∃ o,s.heap.get? p=zn o/\o.ExactDict:=by
    rcases hk with⟨kvs,hk⟩|⟨kvs,hk⟩
    ·obtain⟨_,_,_,_,o,_,_,e,ex,_⟩:=I.hok p _ hk;exact⟨o,e,ex⟩
    ·obtain⟨_,_,_,_,o,_,_,e,ex,_⟩:=I.hok p _ hk;exact⟨o,e,ex⟩
   obtain⟨o,e,ex⟩:=z;refine⟨⟨o,e,ex.1⟩,fun a e2=> ?_⟩;cases e2;exact⟨o,e,ex.2.1⟩
  ·obtain⟨o,_,_,_,e,ex,_⟩:=I.hok p _ hk;refine⟨⟨o,e,ex.1⟩,fun a e2=> ?_⟩;cases e2;exact⟨o,e,ex.2.1⟩
 |_=>exact i8 ty
def QW (K:aa) (T:String) (r:V->List V->Hp->VK->Prop) (to:TE):TE:=fun σ H Q=>to σ H fun x H1=>tyV K T x H1/\r x [] H1 Q
def tBM (K:aa) (T:String) (r:V->List V->Hp->VK->Prop) (to:TE) (t:TA):TE:=fun σ H Q=>to σ H fun x H1=>tyV K T x H1/\t σ H1 fun xs H2=>r x xs H2 Q
variable {o e:b0}{es:List b0}{to:TE}{t:TA}{name:Str}{apos cpos:Pos}{T id:String}{r:V->List V->Hp->VK->Prop}
theorem MI (pa:PlainAttrs T) (slot:Slot T name id) (hty:typeOf (.builtin id)=pure (.type "method_descriptor")) (hm:MtR X id r) (ho:PE X o to)
  (hbase:g9 o name X.env (eval o X.env)=eval o X.env:=by rfl) (hline:(apos.endLine==cpos.line)=true:=by rfl):PE X (.Call (.Attribute o name apos) [] [] cpos) (QW X.K T r to):=by
 intro pins s σ H Q I h;refine wpAny_Call_method0_late hbase hline (thn (ho pins s σ H _ I h) fun v s1 ⟨x,H1,I1,r1,ty,q1⟩=> ?_);obtain⟨h1,h2⟩:=Iv I1 r1 ty;exact⟨T,id,pa,slot,hty,h1,h2,u3 rfl (PySem.evalArgs_none (hm pins s1 σ H1 x [] v [] Q I1 r1 .nil q1))⟩
theorem MJ (pa:PlainAttrs T) (slot:Slot T name id) (hty:typeOf (.builtin id)=pure (.type "method_descriptor")) (hm:MtR X id r) (ho:PE X o to) (ha:PA X (e::es) t)
  (hbase:g9 o name X.env (eval o X.env)=eval o X.env:=by rfl)
  (hfew:((dq cpos (ar (e::es) X.env)).all (fun x=> !x.1)&&(jt cpos (ig [] X.env)).all (fun x=>x.1.isSome)
   &&decide ((e::es).length+([]:List jk).length+(if([]:List jk).isEmpty then 0 else 1)<30))=true:=by rfl)
  (hline:(apos.endLine==cpos.line)=true:=by rfl) (hs:ar (e::es) X.env=(false,eval e X.env)::ar es X.env:=by rfl) (hplain:(dq cpos (ar es X.env)).any (·.1)=false:=by rfl):
  PE X (.Call (.Attribute o name apos) (e::es) [] cpos) (tBM X.K T r to t):=by
 intro pins s σ H Q I h;refine wpAny_Call_method_late hbase hfew hline rfl (thn (ho pins s σ H _ I h) fun v s1 ⟨x,H1,I1,r1,ty,q1⟩=> ?_);obtain⟨h1,h2⟩:=Iv I1 r1 ty;refine⟨T,id,pa,slot,hty,h1,h2,?_⟩;have hA:=ha cpos pins s1 σ H1 _ I1 q1;rw[hs] at hA ⊢;refine u3 (by show(false||(dq cpos (ar es X.env)).any (·.1))=false;rw[hplain] <;> rfl) (vq ?_);exact thn hA fun us s2 ⟨vs,H2,I2,r2,q2⟩=>hm pins s2 σ H2 x vs v us Q I2 r1 r2 q2
end
end L2
namespace L2
def MtM (X:Cx) (id:String) (r:V->List V->Hp->VK->Prop):Prop:=
 ∀(pins:List (ag×Obj)) (s:ao) (σ:St) (H:Hp) (x:V) (xs:List V) (v:af) (us:List af) (Q:VK),Inv X pins σ H s->RelV x v->Vals xs us->r x xs H Q->
  au (model X.prog X.w) X.A (call (.builtin id) (v::us)) (EP X pins σ Q) X.xe s
theorem Vals.one {x:V}{us:List af} (h:Vals [x] us):∃ u,us=[u]/\RelV x u:=by
 cases h with|cons r t=>cases t;exact⟨_,rfl,r⟩
theorem Vals.two {x y:V}{us:List af} (h:Vals [x,y] us):∃ u v,us=[u,v]/\RelV x u/\RelV y v:=by
 cases h with|cons r t=>obtain⟨v,rfl,q⟩:=Vals.one t;exact⟨_,v,rfl,r,q⟩
theorem Vals.rep (h:Vals xs us):∀ k:Nat,Vals (az k xs).flatten (az k us).flatten
 |0=>.nil
 |k+1=>by
  rw[fu,fu,jl,jl];exact Vals.append h (Vals.rep h k)
theorem wF (its:List af):∀(k:Nat) (acc:List af),
  yp (fun x1 x2=>x1++x2) acc.toArray (az k its.toArray)=(acc++(az k its).flatten).toArray
 |0,acc=>by simp
 |k+1,acc=>by
  have e:acc.toArray++its.toArray=(acc++its).toArray:=by simp
  have e2:(acc++its)++(az k its).flatten=acc++(az (k+1) its).flatten:=by
   rw[fu,jl,fz]
  rw[<- e2,<- wF its k (acc++its),<- e,fu,yq]
section
variable {X:Cx}{pins:List (ag×Obj)}{σ:St}{H:Hp}{s:ao}{l b:ag}{xs ys zs:List V}
theorem Inv.lset {its its':List af} (I:Inv X pins σ H s) (hH:H l=zn (.lst xs))
  (e:s.heap.get? l=zn { cls:=.type "list",data:=.seq its.toArray n }) (hf:f its.toArray=its'.toArray) (hv:Vals ys its') (hz:ys.length<=sizeLine):
  Inv X pins σ (upd H l (.lst ys)) { s with heap:=s.heap.update l (jh f),toks:=t' }:=by
 have q:=PySem.IsL.update e f;rw[hf] at q;refine I.write (x:=l) (e:=l) (by rw[hH];exact trivial) (.inl rfl) (fun b' u hb hu=>(dc s.heap (jh f) (cw hb)).trans hu) ⟨_,q⟩ ?_;exact⟨hz,its',_,hv,q⟩
theorem Inv.lnew (I:Inv X pins σ H s) (hv:Vals ys its) (hz:ys.length<=sizeLine):
  Inv X pins σ (upd H s.heap.objs.size (.lst ys)) { s with heap:=s.heap.push { cls:=.type "list",data:=.seq its.toArray },toks:=t' }:=
 I.laid (fun _ _ q=>aq _ q) (bp _) ⟨hz,its,0,hv,br _ rfl⟩
theorem Inv.fresh (I:Inv X pins σ H s):H s.heap.objs.size=zo:=I.hok.fresh (bp _)
theorem Inv.lstM (I:Inv X pins σ H s) (hH:H l=zn (.lst xs)):xs.length<=sizeLine/\∃(its:List af) (n:Nat),Vals xs its/\xs.length=its.length/\s.heap.get? l=zn { cls:=.type "list",data:=.seq its.toArray n }:=by
 obtain⟨z,its,n,r,e⟩:=I.hok l _ hH;exact⟨z,its,n,r,r.length,e⟩
theorem AI (h:n<=sizeLine):ky n=false:=by
 unfold ky;exact decide_eq_false (by omega)
end
section
variable {X:Cx}
def Dh:V->List V->Hp->VK->Prop:=fun x vs H Q=>∃ l xs y,x=.ref l/\vs=[y]/\H l=zn (.lst xs)/\xs.length<sizeLine/\Q .non (upd H l (.lst (xs++[y])))
theorem vM:MtM X "list.append" Dh:=by
 intro pins s σ H x vs v us Q I rx rv h;obtain⟨l,xs,y,rfl,rfl,hH,hz,q⟩:=h;cases rx;obtain⟨u,rfl,ru⟩:=rv.one;obtain⟨z,its,n,r,hl,e⟩:=I.lstM hH;refine tf va ⟨_,e,rfl⟩ F.entry_list_append (F.args_list_append_2 _ _) (PySem.list_append l its.toArray n u (by rw[bh];omega)) ⟨e,?_⟩;refine⟨.non,_,I.lset (its':=its++[u]) hH e (by simp) (r.append (.cons ru .nil)) ?_,rfl,q⟩;rw[bq,jd];omega
def Dg:V->List V->Hp->VK->Prop:=fun x vs H Q=>∃ l b xs zs,x=.ref l/\vs=[.ref b]/\H l=zn (.lst xs)/\H b=zn (.lst zs)/\xs.length+zs.length<=sizeLine/\Q .non (upd H l (.lst (xs++zs)))
theorem DU:MtM X "list.extend" Dg:=by
 intro pins s σ H x vs v us Q I rx rv h;obtain⟨l,b,xs,zs,rfl,rfl,hH,hB,hz,q⟩:=h;cases rx;obtain⟨u,rfl,ru⟩:=rv.one;cases ru;obtain⟨z,its,n,r,hl,e⟩:=I.lstM hH;obtain⟨z2,its2,n2,r2,hl2,e2⟩:=I.lstM hB;have hsz:its.toArray.size+its2.toArray.size<=sizeLine:=by rw[bh,bh];omega
 have hlong:¬(!its.toArray.isEmpty&&ky (its.toArray.size+its2.toArray.size))=true:=by
  rw[AI hsz,y8];exact cg
 refine tf vb ⟨_,e,rfl⟩ F.entry_list_extend (F.args_list_extend_2 _ _)
  (AutoSeq1.list_extend_list_list_0 l its.toArray n b its2.toArray n2 hlong (by rw[bh];omega) (by omega)) ⟨e,e2,?_⟩
 refine⟨.non,_,I.lset (its':=its++its2) hH e (by simp) (r.append r2) ?_,rfl,q⟩;rw[bq];omega
noncomputable def Rf:R2:=fun x y H Q=>∃ l b xs zs,x=.ref l/\y=.ref b/\H l=zn (.lst xs)/\H b=zn (.lst zs)/\xs.length+zs.length<=sizeLine/\∀ p,H p=zo->Q (.ref p) (upd H p (.lst (xs++zs)))
theorem Nj:OpR X (l7 .Add) Rf:=by
 intro pins s σ H x y v u Q I rx ry h;obtain⟨l,b,xs,zs,rfl,rfl,hH,hB,hz,q⟩:=h;cases rx;cases ry;obtain⟨z,its,n,r,hl,e⟩:=I.lstM hH;obtain⟨z2,its2,n2,r2,hl2,e2⟩:=I.lstM hB;refine PySem.P.add_list e e2 ?_ (by rw[bh,bh];omega);have ea:its.toArray++its2.toArray=(its++its2).toArray:=by simp
 rw[ea];exact⟨.ref _,_,I.lnew (t':=s.toks) (r.append r2) (by rw[bq];omega),rfl,q _ I.fresh⟩
noncomputable def Rc:R2:=fun x y H Q=>∃ l k xs,x=.ref l/\y=.int k/\H l=zn (.lst xs)/\ -(2 ^ 63)<=k/\k<2 ^ 63/\xs.length*k.toNat<=sizeLine/\
 ∀ p,H p=zo->Q (.ref p) (upd H p (.lst (az k.toNat xs).flatten))
theorem Ks (xs:List α) (k:Nat):(az k xs).flatten.length=k*xs.length:=by
 induction k with
 |zero=>simp
 |succ k ih=>rw[fu,jl,bq,ih,Nat.succ_mul,Nat.add_comm]
theorem Nb:OpR X (l7 .Mult) Rc:=by
 intro pins s σ H x y v u Q I rx ry h;obtain⟨l,k,xs,rfl,rfl,hH,h1,h2,hz,q⟩:=h;cases rx;obtain⟨t,rfl⟩:=ry;obtain⟨z,its,n,r,hl,e⟩:=I.lstM hH;have hlen:its.toArray.size*k.toNat<=sizeLine:=by rw[bh,<- hl];exact hz
 have hcap:¬ its.toArray.size*k.toNat>(2 ^ 63-1) / 8:=by
  have:(sizeLine:Nat)<=(2 ^ 63-1) / 8:=by decide
  omega
 have hfit:¬(!j9 k)=true:=by
  rw[fitsIndex_both h1 h2];exact cg
 have hlong:¬ ky (its.toArray.size*k.toNat)=true:=by
  rw[AI hlen];exact cg
 have hnew:yp (fun x1 x2=>x1++x2) #[] (az (if its.toArray.isEmpty=true then 0 else k.toNat) its.toArray)=(az k.toNat its).flatten.toArray:=by
  have f0:∀ m:Nat,yp (fun x1 x2=>x1++x2) #[] (az m its.toArray)=(az m its).flatten.toArray:=fun m=>by
   have:=wF its m []
   rw[yr] at this;exact this
  rw[f0];cases its with
  |nil=>simp
  |cons a r'=>rw[if_neg (by simp)]
 refine wpAny_binaryOp_repeat_ref (T:="list") (U:="int") (by decide) ⟨_,e,rfl⟩ (fun s'=>typeIs_int s' k t) noFill_list_mul F.fills_int_mul F.slot_int_rmul repeat_list F.slot_int_index.lookup
  (tf F.slot_int_rmul (typeIs_int s k t) F.entry_int_rmul (F.args_int_rmul_2 _ _) (int___rmul___int_list k t l its.toArray n)
   ⟨e,rfl,⟨_,e,rfl⟩,tf F.slot_list_mul ⟨_,e,rfl⟩ F.entry_list_mul (F.args_list_mul_2 _ _) (AutoListH.list___mul___list_int_3 l its.toArray n k t hfit hcap hlong) ⟨e,?_⟩⟩)
 rw[hnew];exact⟨.ref _,_,I.lnew (t':=s.toks) (r.rep k.toNat) (by rw[Ks,Nat.mul_comm];exact hz),rfl,q _ I.fresh⟩
end
section
variable {prog:cj}{w:cz}{A:df}{E:af->ao->Prop}{s:ao}
set_option maxRecDepth 100000 in
end
section
variable {X:Cx}
end
end L2
namespace Att
open PySem PySem.W PySem.Calls PyProof.Rows
theorem nU:∀(ns:List Int) (vs:List af),WellAll P h vs (ns.map WData.int)->lm vs ns:=by
 intro ns
 induction ns with
 |nil=>
  intro vs w;rw[ou] at w;cases w;exact .nil
 |cons n ns ih=>
  intro vs w;rw[bu] at w;cases w with
  |cons a b=>
   cases a;exact .cons _ _ (ih _ b)
theorem CV {l:OpenLaw} (hn:l.most=zn n)
  (hpre:l.row.toRowW.claim.pre args=true) (hwl:WellAll P h vals args):
  ∃ a vs ns,vals=[b9 a]/\args=[WData.list (ns.map WData.int)]/\h.get? a=zn { cls:=.type "list",data:=.seq vs.toArray }/\lm vs ns/\ns.length<=n:=by
 have hsh:WShape.hasAll [] args [.list .int]=true:=(pre_splitW hpre).1;have hc:l.pre.holds [] { args:=args }=true:=(pre_splitW hpre).2;obtain⟨d,r,rfl,h1,h2⟩:=hasAllW_cons hsh;obtain rfl:=hasAllW_nil h2;obtain⟨xs,rfl,h3⟩:=hasW_list h1;obtain⟨ns,rfl⟩:=items_int h3;have hlen:ns.length<=n:=by
  unfold OpenLaw.pre at hc;have h4:(WTm.not (.lt (.lit (.int (n:Int))) (.len (.arg 0)))).holds [] { args:=[.list (ns.map .int)] }=true:=by
   have h4:=(holds_andW hc).1;rw[hn] at h4;exact h4
  have h5:=condW_of h4 (w_not (w_lt w_lit (w_len_list (w_arg rfl))));rw[am] at h5;refine Nat.le_of_not_lt fun q=> ?_;have q':(n:Int)<((ns.length:Nat):Int):=by omega
  first
   |(rw[decide_eq_true q'] at h5;exact absurd h5 (by decide))
   |(simp at h5;omega)
 cases hwl with
 |cons w1 w2=>
  cases w2;cases w1 with
  |list ho hall=>exact⟨_,_,ns,rfl,rfl,ho,nU ns _ hall,hlen⟩
theorem Di (l:OpenLaw) (args:List WData):l.row.toRowW.claim.post args (.bool true) args=true:=
 postW_of (r:=l.row.toRowW) (X:=(true==true))
  (show WShape.has [] (.bool true) .bool=true by first|rfl|decide|simp[WShape.has,WShape.arms,WShape.armsAll])
  (show(WTm.eq .res (.lit (.bool true))).value [] { args:=args,res:=zn (.bool true),after:=args }=zn (.bool (true==true)) from w_eq_bool (w_res rfl) w_lit) rfl
theorem attach_call {l:OpenLaw}
  (hn:l.most=zn n) (hdf:d.params.defaults=[])
  (call:∀(w:cz) (s₀ s₁:ao) (mg mb:Str->Option af) (fa:ag) (o:Obj) (pm cd doc:af) (a:ag) (vs:List af) (ns:List Int),
   Ground q loose [] XP w s₀ mg mb s₁.heap->YP w s₁.heap->
   s₁.heap.get? fa=zn o->o.data=.func (docDef d.name d.params d.body d.scope pm cd doc)->s₁.heap.CodeRec cd d.name->mg d.name=zn (.ref fa)->
   s₁.heap.get? a=zn { cls:=.type "list",data:=.seq vs.toArray }->lm vs ns->ns.length<=n->s₁.gens= #[]->
   kq (model l.prog w) qw (.call (.ref fa) ⟨[.ref a],[]⟩) (fun r s'=>r=.ok (.ret (.bool true))/\OldK s₁.heap s'.heap/\s'.os=s₁.os/\o5 s'.gens) s₁):
  WalkO q loose XP YP l.row.toRowW d [] (fun f vs=>yt f vs):=by
 intro w s₀ s₁ mg mb G Y fa o pm cd doc dV kV ho hd hcd hD hmg hg args vals as hpre hlay hrd hwl hlo;obtain rfl:dV=.none:=Dflts.none hD hdf;obtain rfl:kV=.none:=Dflts.noKw hD;obtain⟨a,vs,ns,rfl,rfl,hobj,hints,hlen⟩:=CV hn hpre hwl;refine enter_call (l8 (call w s₀ s₁ mg mb fa o pm cd doc a vs ns G Y ho (fd_plain hd) hcd hmg hobj hints hlen hg) fun r s' hq=> ?_);obtain⟨rfl,h2,h3,h4⟩:=hq;exact⟨.inl ⟨.bool true,.bool true,[],rfl,fun _=>rfl,.bool true,Di l _,fun _=>⟨List.Pairwise.nil,fun _ hm=>(nomatch hm)⟩⟩,h2,h3,h4⟩
section
variable {prog:cj}{w:cz}{A:df}{E:af->ao->Prop}{s:ao}{K:Frag}
end
end Att
namespace L2
theorem uH:∀ {vs:List af}{ns:List Int},lm vs ns->Vals (ns.map V.int) vs
 |_,_,.nil=>.nil
 |_,_,.cons n t h=>.cons ⟨t,rfl⟩ (uH h)
def Ql (H:Hp):Prop:=∀ b,H b=zo∨∃ o xs,H b=zn (.frz o (.lst xs))
theorem Hi {K:aa}
  (KX:K.In s₁.heap) (hns:s₁.heap.Ns b8 mg) (hb:s₁.heap.Ns builtinsNs mb) (hbb:∀ x:Str,x≠"__name__"->mb x=dy x) (hlim:s₁.heap.NoLimit) (hg:s₁.gens= #[])
  (ha:s₁.heap.get? a=zn { cls:=.type "list",data:=.seq vs.toArray }) (hi:lm vs ns) (hl:ns.length<=sizeLine) (hr:Room k qw)
  (F:∀ base:cm,K.In base->base.Ns b8 mg->pX P w K mg base CX k fa fd [x] sp) (hbind:∀(s:ao) (u:af),u8 s fd ⟨[u],[]⟩ [(x,u)])
  (hsp:∀ H:Hp,Ql H->SqL K H a (ns.map V.int)->sp [.ref a] H (fun v _=>v=.bl true) fun _ _ _=>False)
  (hCX:∀ H e s',CX [] H s₁ (fun _ _ _=>False) e s'->False):
  kq (model P w) qw (.call (.ref fa) ⟨[.ref a],[]⟩) (fun r s'=>r=.ok (.ret (.bool true))/\OldK s₁.heap s'.heap/\s'.os=s₁.os/\o5 s'.gens) s₁:=by
 have rv:=uH hi;have lenV:=hi.length
 -- from an abstract heap in which nothing but the script may be tracked
 have core:∀ H:Hp,Ql H->SqL K H a (ns.map V.int)->HOk P w H s₁.heap->(∀ b,H b≠zo->b=a)->(H a≠zo->K.lookup a=zo)->
   kq (model P w) qw (.call (.ref fa) ⟨[.ref a],[]⟩) (fun r s'=>r=.ok (.ret (.bool true))/\OldK s₁.heap s'.heap/\s'.os=s₁.os/\o5 s'.gens) s₁:=by
  intro H hO hS hok hA hK;have base_of:∀ {b:ag}{o:Obj},s₁.heap.get? b=zn o->H b=zo->(Hu s₁.heap H).get? b=zn o:=fun e n=>Ht e n;have noA:∀ {b:ag}{o:Obj}{es:Array mh}{ep:Nat},s₁.heap.get? b=zn o->o.data=.dict es ep->H b=zo:=fun {b o es ep} e d=>by
   cases q:H b with
   |none=>rfl
   |some u=>
    have e':b=a:=hA b (by rw[q];simp);subst e';rw[ha] at e;cases e;have d':Data.seq vs.toArray _=zd es ep:=d;cases d'
  have nsK:∀ {b:ag}{m:Str->Option af},s₁.heap.Ns b m->(Hu s₁.heap H).Ns b m:=fun {b m} ⟨o,es,ep,e,d,r⟩=>⟨o,es,ep,base_of e (noA e d),d,r⟩;have hKb:K.In (Hu s₁.heap H):=fun b o e=>base_of (KX b o e) (by
   cases q:H b with
   |none=>rfl
   |some u=>
    have e':b=a:=hA b (by rw[q];simp);subst e';rw[hK (by rw[q];simp)] at e;cases e)
  have hM:Mod K mg (Hu s₁.heap H):=⟨hKb,nsK hns,⟨mb,nsK hb,hbb⟩,let ⟨mc,h1,h2⟩:=hlim;⟨mc,nsK h1,h2⟩⟩;have e0:Env0 P w K mg (Hu s₁.heap H) qw [] s₁ H:=⟨rfl,hM,fun b o e=>JP e,wq (Er _ _),trivial,fun b hb=>absurd (show b∈([]:List ag) from hb) (by simp),hok,.of_eq hg⟩;refine l8 ((F _ hKb (nsK hns)).run qw [] s₁ H ⟨[.ref a],[]⟩ [.ref a] [.ref a] _ _ hr e0 (hbind s₁ (.ref a)) (.cons rfl .nil) (hsp H hO hS)) fun r s' h=> ?_;cases r with
  |error e=>exact(hCX H e s' h).elim
  |ok fl=>
   cases fl with
   |next=>exact i8 h
   |brk=>exact i8 h
   |cont=>exact i8 h
   |ret u=>
    obtain⟨v,H',os,bare,un,hok',r',q⟩:=h;have q':v=.bl true:=q;subst q';obtain rfl:u=vp true:=r';refine⟨rfl,OldK.of_keep fun b o e=> ?_,os,bare⟩;cases q:H b with
    |none=>exact un.keep b o e q (by intro z;exact absurd (show b∈([]:List ag) from z) (by simp)) (by simp)
    |some u=>
     rcases hO b with z|⟨ob,xs,z⟩
     ·rw[q] at z;cases z
     ·have z2:=un.frzs b ob _ z;obtain⟨e1,_⟩:=hok b _ z;obtain⟨e2,_⟩:=hok' b _ z2;rw[e] at e1;cases e1;exact e2
 cases hk:K.lookup a with
 |some o=>
  -- the script is one of the module's own objects
  have e:=KX a o hk;rw[ha] at e;cases e;refine core (fun _=>zo) (fun _=>.inl rfl) (.inr ⟨_,vs.toArray,_,hk,rfl,rfl,rfl,by rw[bh,lenV];exact hl,by simpa using rv⟩) (fun b u z=>by have z':(zo:Option HO)=zn u:=z;cases z') (fun b z=>absurd rfl z) fun z=>absurd rfl z
 |none=>
  refine core (fun b=>if b=a then zn (.frz { cls:=.type "list",data:=.seq vs.toArray } (.lst (ns.map V.int))) else zo) (fun b=> ?_) (.inl (.inr ⟨{ cls:=.type "list",data:=.seq vs.toArray },if_pos rfl⟩)) (fun b u z=> ?_) (fun b z=> ?_) fun _=>hk
  ·by_cases hb:b=a
   ·exact .inr ⟨_,_,if_pos hb⟩
   ·exact .inl (if_neg hb)
  ·by_cases hb:b=a
   ·have z':=(if_pos hb).symm.trans z;cases z';subst hb;exact⟨ha,by rw[am];exact hl,vs,_,rv,ha⟩
   ·have z':=(if_neg hb).symm.trans z;cases z'
  ·by_cases hb:b=a
   ·exact hb
   ·exact absurd (if_neg hb) z
end L2
namespace L2
theorem walk_of {l:yu}{K:Params->aa}{CX:cz->CXT}{sp:cz->Sp}
  (hn:l.most=zn n) (hn2:n<=sizeLine) (hdf:d.params.defaults=[]) (hr:Room k qw)
  (hY:∀(w:cz) (h:cm),YP w h->(K w.params).In h)
  (F:∀(w:cz) (mg:Str->Option af) (fa:ag) (h:cm),(K w.params).In h->h.Ns b8 mg->mg d.name=zn (.ref fa)->
   ∃ fd:j7,(∀(s:ao) (u:af),u8 s fd ⟨[u],[]⟩ [(x,u)])/\
    ∀ base:cm,(K w.params).In base->base.Ns b8 mg->pX l.prog w (K w.params) mg base (CX w) k fa fd [x] (sp w))
  (hsp:∀(w:cz) (H:Hp) (a:ag) (ns:List Int),ns.length<=n->Ql H->SqL (K w.params) H a (ns.map V.int)->sp w [.ref a] H (fun v _=>v=.bl true) fun _ _ _=>False)
  (hCX:∀(w:cz) (H:Hp) (s:ao) (e:af) (s':ao),CX w [] H s (fun _ _ _=>False) e s'->False):
  ze q loose XP YP l.row.toRowW d [] (fun f vs=>yt f vs):=by
 refine Att.attach_call hn hdf fun w s₀ s₁ mg mb fa o pm cd doc a vs ns G Y ho hd hcd hmg hobj hints hlen hg=> ?_;have KX:=hY w _ Y;obtain⟨fd,hb,hF⟩:=F w mg fa _ KX G.T.g hmg;exact Hi KX G.T.g G.T.b G.T.builtins G.T.nolimit hg hobj hints (cu hlen hn2) hr hF hb (fun H hO hS=>hsp w H a ns hlen hO hS) fun H e s'=>hCX w H s₁ e s'
end L2
namespace L2
noncomputable def bN (s:c9) (j:Nat):c9:=match s with
 |.ClassDef _ _ _ body _ _ _ _ _ _ _=>body.getD j (.Pass ⟨0,0,0,0⟩)
 |_=>.Pass ⟨0,0,0,0⟩
noncomputable def gD (s:c9):Arguments:=match s with
 |.FunctionDef _ a _ _ _ _ _ _ _ _=>a
 |_=>{ posonlyargs:=[],args:=[],vararg:=zo,kwonlyargs:=[],kw_defaults:=[],kwarg:=zo,defaults:=[] }
noncomputable def fH (s:c9):List c9:=match s with
 |.FunctionDef _ _ b _ _ _ _ _ _ _=>b
 |_=>[]
noncomputable def aX (s:c9):k9:=match s with
 |.FunctionDef _ _ _ _ _ _ sc _ _ _=>sc
 |_=>{ kind:=.function,names:=[],isGenerator:=false,isCoroutine:=false }
structure Fun (K:aa) (x qual:Str) (st:c9) (f:ag) (fd:j7):Prop where
 ex:∃(oc:af) (od:Option ag) (kV doc pm:af) (an:Option ag) (cdv ct:af) (osl:Array (Option af)),
  fd=i5 x qual (gD st) (fH st) (aX st) .none kV doc pm an cdv ct/\K.lookup f=zn ⟨oc,od,.func fd,osl⟩/\kr K cdv qual=true
 kp:hV K (.ref f)=true
section
variable {P:cj}{w:cz}{K:aa}{mg:Str->Option af}{base:cm}
theorem Fun.binds {st:c9} (F:Fun K x qual st f fd)
  (h:∀(kV doc pm:af) (an:Option ag) (cdv ct:af) (us:List af),us.length=ps.length->bindArgs (i5 x qual (gD st) (fH st) (aX st) .none kV doc pm an cdv ct) ⟨us,[]⟩=pure (ps.zip us)):Binds K fd ps []:=by
 obtain⟨oc,od,kV,doc,pm,an,cdv,ct,osl,rfl,lk,hcd⟩:=F.ex;exact .all (h kV doc pm an cdv ct)
theorem IS {st:c9}{kV doc pm cdv ct:af} (l:K.lookup f=zn ⟨oc,od,.func (i5 x qual (gD st) (fH st) (aX st) .none kV doc pm an cdv ct),osl⟩)
  (c:kr K cdv qual=true) (k:hV K (.ref f)=true):Fun K x qual st f (i5 x qual (gD st) (fH st) (aX st) .none kV doc pm an cdv ct):=⟨⟨oc,od,kV,doc,pm,an,cdv,ct,osl,rfl,l,c⟩,k⟩
end
theorem PV (hr:Room k A):A.units+1<fj:=jy (Nat.add_le_add_left (by decide:1<=64) _) hr.units
section
variable {X:Cx}
end
theorem LH {A B:Prop} (h:B):if false=true then A else B:=by
 rw[if_neg cg];exact h
theorem LG {A B:Prop} (h:A):if true=true then A else B:=by
 rw[if_pos rfl];exact h
def Same (H H':Hp):Prop:=∀ b o,H b=zn o->H' b=zn o
theorem Same.refl (H:Hp):Same H H:=fun _ _ h=>h
theorem Same.trans (a:Same H H1) (b:Same H1 H2):Same H H2:=fun c o h=>b c o (a c o h)
theorem Same.free (e:Same H H') (h:H' l=Option.none):H l=Option.none:=by
 cases q:H l with
 |none=>rfl
 |some o=>
  rw[e l o q] at h;cases h
end L2
end
section
namespace L2
section
variable {κ:Type} [DecidableEq κ]
noncomputable def uI (kvs:List (κ×V)) (k:κ):Option V:=(kvs.find? fun kv=>decide (kv.1=k)).map (·.2)
noncomputable def pJ (kvs:List (κ×V)) (k:κ) (v:V):List (κ×V):=
 if(kvs.any fun kv=>decide (kv.1=k))=true then kvs.map (fun kv=>if kv.1=k then(kv.1,v) else kv) else kvs++[(k,v)]
noncomputable def wH (kvs:List (κ×V)) (k:κ):List (κ×V):=kvs.filter fun kv=>decide (kv.1≠k)
theorem lZ {k:κ} (e:p.1=k):uI (p::r) k=zn p.2:=by simp[uI,hW,e]
theorem jS {k:κ} (e:¬ p.1=k):uI (p::r) k=uI r k:=by simp[uI,hW,e]
theorem An (k:κ):∀ kvs:List (κ×V),(kvs.any fun kv=>decide (kv.1=k))=(uI kvs k).isSome
 |[]=>rfl
 |p::r=>by
  rw[mz]
  by_cases e:p.1=k
  ·simp only[lZ e,decide_eq_true e,Bool.true_or,wy]
  ·rw[jS e,decide_eq_false e,Bool.false_or];exact An k r
theorem jH (kvs:List (κ×V)) (k:κ) (v:V):(pJ kvs k v).length<=kvs.length+1:=by
 unfold pJ;split
 ·rw[am];omega
 ·rw[bq,bv,nr];omega
theorem RelO.isSome_eq (r:RelO o u):o.isSome=u.isSome:=by
 cases o with
 |none=>cases u with
  |none=>rfl
  |some _=>exact(show False from r).elim
 |some _=>cases u with
  |none=>exact(show False from r).elim
  |some _=>rfl
theorem KV.val (r:KV kvs vs) (k:κ):RelO (uI kvs k) (t6 vs k):=by
 unfold KV at r
 induction r with
 |nil=>exact ib
 |@cons p q ps qs h t ih=>
  obtain⟨h1,h2⟩:=h
  by_cases e:p.1=k
  ·have e':q.1=k:=h1.symm.trans e;have b:t6 (q::qs) k=zn q.2:=by simp[t6,hW,e']
   rw[lZ e,b];exact h2
  ·have e':¬ q.1=k:=fun z=>e (h1.trans z);have b:t6 (q::qs) k=t6 qs k:=by simp[t6,hW,e']
   rw[jS e,b];exact ih
theorem KV.any (r:KV kvs vs) (k:κ):(kvs.any fun kv=>decide (kv.1=k))=vs.any fun kv=>decide (kv.1=k):=by
 unfold KV at r
 induction r with
 |nil=>rfl
 |cons h t ih=>rw[mz,mz,ih,h.1]
theorem KV.repl (r:KV kvs vs) (k:κ) (ry:RelV y u):
  KV (kvs.map fun kv=>if kv.1=k then(kv.1,y) else kv) (vs.map fun kv=>if kv.1=k then(kv.1,u) else kv):=by
 unfold KV at r ⊢
 induction r with
 |nil=>exact .nil
 |@cons p q ps qs h t ih=>
  rw[bu,bu];refine .cons ?_ ih;obtain⟨h1,h2⟩:=h
  by_cases e:p.1=k
  ·rw[if_pos e,if_pos (h1.symm.trans e)];exact⟨h1,ry⟩
  ·rw[if_neg e,if_neg (fun z=>e (h1.trans z))];exact⟨h1,h2⟩
theorem KV.put (r:KV kvs vs) (k:κ) (ry:RelV y u):KV (pJ kvs k y) (stored vs k u):=by
 unfold pJ stored;rw[r.any k]
 by_cases e:(vs.any fun kv=>decide (kv.1=k))=true
 ·rw[if_pos e,if_pos e];exact r.repl k ry
 ·rw[if_neg e,if_neg e];exact Paired.snoc r ⟨rfl,ry⟩
theorem KV.length {vs:List (κ×af)} (r:KV kvs vs):kvs.length=vs.length:=jm r
theorem Ib (kvs:List (κ×V)) (k:κ):(wH kvs k).length<=kvs.length:=io _ _
end
theorem Hm (r:RelV (kV k) u):(aI P w).is k u=true:=by
 cases k with
 |inl i=>obtain⟨t,e⟩:=(show ∃ t,u=qf i t from r);subst e;exact yD P w i t
 |inr x=>obtain⟨t,e⟩:=(show ∃ t,u=ip x t from r);subst e;exact yC P w x t
theorem vT:∀ {ks:List Key}{us:List af},Vals (ks.map kV) us->ItemsAre (aI P w) ks us
 |[],_,r=>by rw[ou] at r;cases r;exact .nil
 |k::ks,_,r=>by
  rw[bu] at r;cases r with
  |cons h t=>exact .cons (Hm h) (vT t)
abbrev KT (H:Hp):List (List Key×V)->List (List Key×ag×af)->Prop:=ja fun p q=>p.1=q.1/\H q.2.1=zn (.tup (p.1.map kV))/\RelV p.2 q.2.2
theorem KT.val (r:KT H kvs xs) (k:List Key):RelO (uI kvs k) ((mr xs k).map (·.2)):=by
 induction r with
 |nil=>exact ib
 |@cons p q ps qs h t ih=>
  obtain⟨h1,_,h2⟩:=h
  by_cases e:p.1=k
  ·have e':q.1=k:=h1.symm.trans e;have b:mr (q::qs) k=zn q.2:=by simp[mr,hW,e']
   rw[lZ e,b];exact h2
  ·have e':¬ q.1=k:=fun z=>e (h1.trans z);have b:mr (q::qs) k=mr qs k:=by simp[mr,hW,e']
   rw[jS e,b];exact ih
theorem KT.repl (r:KT H kvs xs) (k:List Key) (ry:RelV y u):
  KT H (kvs.map fun kv=>if kv.1=k then(kv.1,y) else kv) (xs.map (ut k u)):=by
 induction r with
 |nil=>exact .nil
 |@cons p q ps qs h t ih=>
  rw[bu,bu];refine .cons ?_ ih;obtain⟨h1,h2,h3⟩:=h;unfold ut
  by_cases e:p.1=k
  ·rw[if_pos e,if_pos (h1.symm.trans e)];exact⟨h1,h2,ry⟩
  ·rw[if_neg e,if_neg (fun z=>e (h1.trans z))];exact⟨h1,h2,h3⟩
theorem KT.put (r:KT H kvs xs) (k:List Key) (hb:H b=zn (.tup (k.map kV))) (ry:RelV y u):
  KT H (pJ kvs k y) (j6 xs k b u):=by
 have e:(kvs.any fun kv=>decide (kv.1=k))=(mr xs k).isSome:=by
  rw[An,(r.val k).isSome_eq,sj]
 unfold pJ j6;rw[e]
 by_cases q:(mr xs k).isSome=true
 ·rw[if_pos q,if_pos q];exact r.repl k ry
 ·rw[if_neg q,if_neg q];exact Paired.snoc r ⟨rfl,hb,ry⟩
theorem KT.keeps (r:KT H kvs xs) (ht:∀ b ys,H b=zn (.tup ys)->H' b=zn (.tup ys)):KT H' kvs xs:=
 ja.mapP r fun _ _ z=>⟨z.1,ht _ _ z.2.1,z.2.2⟩
section
variable {P:cj}{w:cz}{H:Hp}{h:cm}{a:ag}
theorem Mi (ok:HOk P w H h) (e:Rd H a u):ObjOk P w H h a u:=e.ok ok
theorem Ic (ok:HOk P w H h) (e:Rd H a (.dK kvs)):kvs.length<=sizeLine/\(a==f9)=false/\∃ vs,KV kvs vs/\h.DictOf (aI P w) a vs:=
 show ObjOk P w H h a (.dK kvs) from Mi ok e
theorem Qd (ok:HOk P w H h) (e:H a=zn (.dK kvs)):kvs.length<=sizeLine/\(a==f9)=false/\∃ vs,KV kvs vs/\h.DictOf (aI P w) a vs:=Ic ok (.inl e)
theorem vR (ok:HOk P w H h) (e:H a=zn (.tup (ks.map kV))):(b3 (aI P w)).is h ks a:=by
 obtain⟨_,its,r,o,h1,h2,n,h3⟩:=(show ObjOk P w H h a (.tup (ks.map kV)) from ok a _ e);exact⟨o,its.toArray,n,h1,h2,h3,by simpa using vT r⟩
theorem HY (ok:HOk P w H h) (e:Rd H a (.dT kvs)):kvs.length<=sizeLine/\(a==f9)=false/\
  ∃ xs,KT H kvs xs/\h.DictOfH (b3 (aI P w)) a xs:=by
 obtain⟨z,y,xs,r,o,es,ep,h1,h2,h3,h4,h5⟩:=(show ObjOk P w H h a (.dT kvs) from Mi ok e);refine⟨z,y,xs,r,o,es,ep,h1,h2,h3,h4,fun x hx=> ?_,h5⟩;have all:∀ {l:List (List Key×V)}{m:List (List Key×ag×af)},KT H l m->∀ x∈m,(b3 (aI P w)).is h x.1 x.2.1:=by
  intro l m q
  induction q with
  |nil=>intro x hx;exact nomatch hx
  |@cons p q ps qs hq t ih=>
   intro x hx;rcases aj.mp hx with e|hx
   ·subst e;exact vR ok (by rw[<- hq.1];exact hq.2.1)
   ·exact ih x hx
 exact all r x hx
theorem HZ (ok:HOk P w H h) (e:H a=zn (.dT kvs)):kvs.length<=sizeLine/\(a==f9)=false/\
  ∃ xs,KT H kvs xs/\h.DictOfH (b3 (aI P w)) a xs:=HY ok (.inl e)
end
def DGet (H:Hp) (a:ag) (y:V) (r:Option V):Prop:=
 (∃ kvs k,Rd H a (.dK kvs)/\y=kV k/\r=uI kvs k)∨∃ kvs k b,Rd H a (.dT kvs)/\y=.ref b/\H b=zn (.tup (k.map kV))/\r=uI kvs k
def DPut (H:Hp) (a:ag) (y v:V) (H':Hp):Prop:=
 (∃ kvs k,H a=zn (.dK kvs)/\y=kV k/\kvs.length<sizeLine/\H'=upd H a (.dK (pJ kvs k v)))∨
 ∃ kvs k b,H a=zn (.dT kvs)/\y=.ref b/\H b=zn (.tup (k.map kV))/\kvs.length<sizeLine/\H'=upd H a (.dT (pJ kvs k v))
theorem DGet.k {k:Key} (e:H a=zn (.dK kvs)):DGet H a (kV k) (uI kvs k):=.inl ⟨kvs,k,.inl e,rfl,rfl⟩
theorem DGet.t {k:List Key} (e:H a=zn (.dT kvs)) (eb:H b=zn (.tup (k.map kV))):DGet H a (.ref b) (uI kvs k):=.inr ⟨kvs,k,b,.inl e,rfl,eb,rfl⟩
theorem DPut.k {k:Key} (e:H a=zn (.dK kvs)) (hl:kvs.length<sizeLine):DPut H a (kV k) v (upd H a (.dK (pJ kvs k v))):=.inl ⟨kvs,k,e,rfl,hl,rfl⟩
theorem DPut.t {k:List Key} (e:H a=zn (.dT kvs)) (eb:H b=zn (.tup (k.map kV))) (hl:kvs.length<sizeLine):
  DPut H a (.ref b) v (upd H a (.dT (pJ kvs k v))):=.inr ⟨kvs,k,b,e,rfl,eb,hl,rfl⟩
section
variable {X:Cx}{pins:List (ag×Obj)}{σ:St}{H:Hp}{s:ao}{a:ag}{y v:V}{u r:af}{o:Option V}{A:df}{E:af->ao->Prop}
theorem Inv.big (I:Inv X pins σ H s):f9<s.heap.objs.size:=by
 have h:b8<s.heap.objs.size:=(I.mod.glob.keeps I.bk).lt;exact Nat.lt_trans (by decide) h
theorem Fm (hu:A.units+1<fj) (I:Inv X pins σ H s) (g:DGet H a y (zn v)) (ry:RelV y u) (h:∀ w' s',Inv X pins σ H s'->RelV v w'->Q w' s'):
  au (model X.prog X.w) A (qv (.ref a) u) Q E s:=by
 rcases g with⟨kvs,k,e,ey,l⟩|⟨kvs,k,b,e,ey,eb,l⟩
 ·subst ey;obtain⟨z,hd,vs,rel,dd⟩:=Ic I.hok e;obtain⟨w',hw,rw'⟩:=RelO.some_of (v:=v) (o:=t6 vs k) (by rw[l];exact rel.val k);exact wpAny_getItem_of (Hm ry) dd.mapOf hw (h w' _ (I.tok _) rw')
 ·subst ey;cases (show u=b9 b from ry);obtain⟨z,hd,xs,rel,dd⟩:=HY I.hok e;obtain⟨w',hw,rw'⟩:=RelO.some_of (v:=v) (o:=(mr xs k).map (·.2)) (by rw[l];exact rel.val k);obtain⟨p,hp,hp2⟩:=ph.mp hw;refine wpAny_getItem_heap (lq hu) (vR I.hok eb) dd hp ?_;rw[hp2];exact h w' _ (I.tok _) rw'
theorem Ru (hu:A.units+1<fj) (I:Inv X pins σ H s) (g:DGet H a y o) (ry:RelV y u) (h:∀ s',Inv X pins σ H s'->Q (.bool o.isSome) s'):
  au (model X.prog X.w) A (gx .In u (.ref a)) Q E s:=by
 rcases g with⟨kvs,k,e,ey,l⟩|⟨kvs,k,b,e,ey,eb,l⟩
 ·subst ey;obtain⟨z,hd,vs,rel,dd⟩:=Ic I.hok e;refine wpAny_in_of (Hm ry) hd dd.mapOf ?_;rw[<- (rel.val k).isSome_eq,<- l];exact h _ (I.tok _)
 ·subst ey;cases (show u=b9 b from ry);obtain⟨z,hd,xs,rel,dd⟩:=HY I.hok e;refine wpAny_in_heap (lq hu) (vR I.hok eb) hd dd ?_;have q:=(rel.val k).isSome_eq;rw[sj] at q;rw[<- q,<- l];exact h _ (I.tok _)
theorem tH (I:Inv X pins σ H s) (mu:Mut (H a)) (hs:d4 a s.heap h') (he:∃ q,h'.get? a=zn q) (new:ObjOk X.prog X.w (upd H a ob) h' a ob):
  Inv X pins σ (upd H a ob) { s with heap:=h',toks:=t' }:=
 I.write (x:=a) (e:=a) mu (.inl rfl) (fun b q hb z=>(hs.2 b hb).trans z) he new
theorem Oo (z:kvs.length<=sizeLine) (hd:(a==f9)=false) (rel:KV kvs vs) (dd:h'.DictOf (aI P w) a vs):
  ObjOk P w H' h' a (.dK kvs):=⟨z,hd,vs,rel,dd⟩
theorem Fj (hu:A.units+1<fj) (I:Inv X pins σ H s) (g:DPut H a y v H') (ry:RelV y u) (rv:RelV v r) (h:∀ s',Inv X pins σ H' s'->Q () s'):
  au (model X.prog X.w) A (setItem (.ref a) u r) Q E s:=by
 rcases g with⟨kvs,k,e,ey,l,eH⟩|⟨kvs,k,b,e,ey,eb,l,eH⟩
 ·subst ey eH;obtain⟨z,hd,vs,rel,dd⟩:=Qd I.hok e;have hz:vs.length<=sizeLine:=by rw[<- rel.length];exact z
  have hl:(pJ kvs k v).length<=sizeLine:=by have:=jH kvs k v;omega
  refine wpAny_setItem_pairs (hsz:=hz) (Hm ry) dd fun h' dd' hs=>h _ ?_;have he:∃ q,h'.get? a=zn q:=let ⟨q,_,_,hq,_⟩:=dd';⟨q,hq⟩;exact tH I (by rw[e];exact ib) hs he (Oo hl hd (rel.put k rv) dd')
 ·subst ey eH;cases (show u=b9 b from ry);obtain⟨z,hd,xs,rel,dd⟩:=HZ I.hok e;have hz:xs.length<=sizeLine:=by rw[<- jm rel];exact z
  have hl:(pJ kvs k v).length<=sizeLine:=by have:=jH kvs k v;omega
  refine wpAny_setItem_heap (hsz:=hz) (lq hu) (vR I.hok eb) dd fun h' dd' hs=>h _ ?_;obtain⟨q,es,ep,hq,h2,h3,h4,_,h5⟩:=dd';refine tH I (by rw[e];exact ib) hs ⟨q,hq⟩ ⟨hl,hd,_,(rel.put k eb rv).keeps fun c ys ec=> ?_,q,es,ep,hq,h2,h3,h4,h5⟩;rw[aE (Kp ec e (fun z=>nomatch z))];exact ec
end
section
variable {X:Cx}{pins:List (ag×Obj)}{σ:St}{H:Hp}{s:ao}{a:ag}{kvs:List (Key×V)}{k:Key}{u:af}{A:df}{E:af->ao->Prop}
end
def Qm (i:b0):Prop:=∀ ov iv,subscripted i false ov iv=operate [ov,iv] (qv ov iv)
theorem Jb {T id:String}
  (hl:s0 (.type T) "__getitem__"=pure (zn (.builtin id))) (hs:Qm slice)
  (h:au (model prog w) A (eval value env) (fun o s₁=>au (model prog w) A (eval slice env) (fun i s₂=>s₂.TypeIs o T/\au (model prog w) A (qv o i) Q E s₂) E s₁) E s):
  au (model prog w) A (eval (.Subscript value slice pos) env) Q E s:=by
 refine Subscript_ (gk h (fun o s₁ h₁=>gk h₁ (fun i s₂ h₂=> ?_) fun _ _ x=>x) fun _ _ x=>x);obtain⟨hT,h₂⟩:=h₂;unfold wd;refine ae ?_;rw[getitemInPython_of_ne hT.not_modules];refine ae (wpAny_specialOf hT hl ?_);have fin:au (model prog w) A (subscripted slice false o i) (fun r s₃=>au (model prog w) A (letTemporaryGo value o r >>= fun _=>pure r) Q E s₃) E s₂:=by
  rw[hs o i];exact wpAny_operating (gk h₂ (fun r s₃ h₃=>ae (wpAny_letTemporaryGo (ai h₃))) fun _ _ x=>x)
 first
  |exact ai (ae fin)
  |exact ae (ai (ae fin))
  |exact ae fin
theorem yY (I:Inv X pins σ H s) (g:DGet H a y o):s.TypeIs (.ref a) "dict":=by
 rcases g with⟨kvs,k,e,_,_⟩|⟨kvs,k,b,e,_,_,_⟩
 ·obtain⟨_,_,vs,_,dd⟩:=Ic I.hok e;exact dd.typeIs
 ·obtain⟨_,_,xs,_,dd⟩:=HY I.hok e;exact dd.typeIs
def Pd (td ty:TE):TE:=fun σ H Q=>td σ H fun x H1=>ty σ H1 fun y H2=>∃ a v,x=.ref a/\DGet H2 a y (zn v)/\Q v H2
def QV (ty td:TE):TE:=fun σ H Q=>ty σ H fun y H1=>td σ H1 fun x H2=>∃ a o,x=.ref a/\DGet H2 a y o/\Q (.bl o.isSome) H2
def Ph (td ty tv:TE):TS:=fun D σ H=>tv σ H fun v H1=>td σ H1 fun x H2=>ty σ H2 fun y H3=>∃ a H4,x=.ref a/\DPut H3 a y v H4/\D.nx σ H4
section
variable {X:Cx}{o i e value:b0}{pos pos' tpos:Pos}{td ty tv:TE}
theorem Jy (hu:X.A.units+1<fj) (ho:PE X o td) (hi:PE X i ty) (hs:Qm i):PE X (.Subscript o i pos) (Pd td ty):=by
 intro pins s σ H Q I h;refine Jb PySem.F.slot_dict_getitem.lookup hs (thn (ho pins s σ H _ I h) fun u s1 ⟨x,H1,I1,rx,q1⟩=>thn (hi pins s1 σ H1 _ I1 q1) fun iv s2 ⟨y,H2,I2,ry,a,v,ex,g,q2⟩=> ?_);subst ex;obtain rfl:u=b9 a:=rx;exact⟨yY I2 g,Fm hu I2 g ry fun w' s3 I3 rw'=>⟨v,H2,I3,rw',q2⟩⟩
theorem ML (hu:X.A.units+1<fj) (hi:PE X i ty) (ho:PE X o td):PC X .In i o (QV ty td):=by
 intro pins s σ H Q I h;refine thn (hi pins s σ H _ I h) fun iv s1 ⟨y,H1,I1,ry,q1⟩=>thn (ho pins s1 σ H1 _ I1 q1) fun u s2 ⟨x,H2,I2,rx,a,ov,ex,g,q2⟩=> ?_;subst ex;obtain rfl:u=b9 a:=rx;exact Ru hu I2 g ry fun s3 I3=>⟨.bl ov.isSome,H2,I3,rfl,q2⟩
theorem Jr (hu:X.A.units+1<fj) (ho:PE X o td) (hi:PE X i ty) (hv:PE X value tv) (hs:jw value (zn (.Subscript o i pos')) pos.line X.env=pure false):
  PS X (.Assign [.Subscript o i pos'] value pos) (Ph td ty tv):=by
 intro pins s σ H D I h;refine wpAny_Assign_Subscript (thn (hv pins s σ H _ I h) fun r s1 ⟨v,H1,I1,rv,q1⟩=>thn (ho pins s1 σ H1 _ I1 q1) fun u s2 ⟨x,H2,I2,rx,q2⟩=>thn (hi pins s2 σ H2 _ I2 q2) fun iv s3 ⟨y,H3,I3,ry,a,H4,ex,g,q3⟩=> ?_) hs;subst ex;obtain rfl:u=b9 a:=rx;exact Fj hu I3 g ry rv fun s4 I4=>⟨σ,H4,I4,q3⟩
end
theorem Ia (h:cm) (hb:f9<h.objs.size):ObjOk P w H (h.push { cls:=.type "dict",data:=.dict #[] }) h.objs.size (.dT []):=
 ⟨i4 _,beq_eq_false_iff_ne.mpr (cw (cf hb)),[],.nil,_,#[],0,br _ rfl,⟨rfl,rfl,rfl⟩,rfl,rfl,List.nodup_nil⟩
def LY:TE:=fun _ H Q=>∀ p,H p=zo->Q (.ref p) (upd H p (.dT []))
section
variable {X:Cx}{pos:Pos}
theorem GJ:PE X (.Dict [] [] pos) LY:=fun pins s σ H Q I h=>
 wpAny_Dict_empty ⟨.ref s.heap.objs.size,_,I.laid (a:=s.heap.objs.size) (o:=.dT []) (t':=s.toks) (fun _ _ q=>aq _ q) (bp _) (Ia s.heap I.big),rfl,h _ (I.hok.fresh (bp _))⟩
end
section
variable {X:Cx}{pins:List (ag×Obj)}{σ:St}{H:Hp}{s:ao}{a:ag}{y d:V}{u r:af}{o:Option V}{A:df}{E:af->ao->Prop}
end
section
variable {X:Cx}{o e f:b0}{apos cpos:Pos}{td ty tx:TE}
end
section
variable {X:Cx}{pins:List (ag×Obj)}{σ:St}{H:Hp}{s:ao}{a:ag}{kvs:List (Key×V)}{A:df}{E:af->ao->Prop}
end
section
variable {X:Cx}{pins:List (ag×Obj)}{σ:St}{H:Hp}{s:ao}{a:ag}{y:V}{u:af}{A:df}{E:af->ao->Prop}
end
end L2
namespace L2
section
variable {κ:Type} [DecidableEq κ]
end
end L2
end
section
namespace L2.MB
inductive D where
 |non|bl (b:Bool)|int (i:Int)|str (x:Str)|lst (ds:List D)|tup (ds:List D)
 /-- an object that is told by its number -/
 |obj (n:Nat)
 /-- a list that is handed in and only read -/
 |scr (ds:List D)
 deriving Inhabited
structure Okk where
 p:ag->Prop
 al:Nat->Option ag
instance:CoeFun Okk (fun _=>ag->Prop):=⟨Okk.p⟩
instance:Coe Okk (ag->Prop):=⟨Okk.p⟩
noncomputable def Okk.all:Okk:=⟨fun _=>True,fun _=>zo⟩
def RL (K:aa) (ok:Okk) (H:Hp) (a:ag) (xs:List V):Prop:=ok a/\H a=zn (.lst xs)
def RC (K:aa) (ok:Okk) (H:Hp) (a:ag) (xs:List V):Prop:=
 (ok a/\Rd H a (.lst xs))∨
  ∃(o:Obj) (its:Array af) (n:Nat),K.lookup a=zn o/\o.cls=.type "list"/\o.dict=zo/\o.data=.seq its n/\its.size<=sizeLine/\Vals xs its.toList
def RT (K:aa) (ok:Okk) (H:Hp) (a:ag) (xs:List V):Prop:=ok a/\H a=zn (.tup xs)
section
variable {K:aa}{ok ok':Okk}{H H':Hp}{a:ag}{xs:List V}
theorem RL.sq (h:RL K ok H a xs):SqL K H a xs:=.inl (.inl h.2)
theorem RC.sq (h:RC K ok H a xs):SqL K H a xs:=h.elim (fun z=>.inl z.2) .inr
theorem RT.sq (h:RT K ok H a xs):SqT K H a xs:=.inl (.inl h.2)
theorem Rd.mono (f:∀ b o,ok b->H b=zn o->ok' b/\H' b=zn o) (k:ok a) (h:Rd H a u):ok' a/\Rd H' a u:=by
 rcases h with h|⟨o,h⟩
 ·exact⟨(f _ _ k h).1,.inl (f _ _ k h).2⟩
 ·exact⟨(f _ _ k h).1,.inr ⟨o,(f _ _ k h).2⟩⟩
theorem RL.mono (f:∀ b o,ok b->H b=zn o->ok' b/\H' b=zn o) (h:RL K ok H a xs):RL K ok' H' a xs:=f _ _ h.1 h.2
theorem RC.mono (f:∀ b o,ok b->H b=zn o->ok' b/\H' b=zn o) (h:RC K ok H a xs):RC K ok' H' a xs:=
 h.elim (fun z=>.inl (Rd.mono f z.1 z.2)) .inr
theorem RT.mono (f:∀ b o,ok b->H b=zn o->ok' b/\H' b=zn o) (h:RT K ok H a xs):RT K ok' H' a xs:=f _ _ h.1 h.2
end
mutual
inductive Rep (K:aa) (ok:Okk) (H:Hp):V->D->Prop
 |non:Rep K ok H .non .non
 |bl (b:Bool):Rep K ok H (.bl b) (.bl b)
 |int (i:Int):Rep K ok H (.int i) (.int i)
 |str (x:Str):Rep K ok H (.str x) (.str x)
 |lst {a:ag}{xs:List V}{ds:List D}:RL K ok H a xs->Reps K ok H xs ds->Rep K ok H (.ref a) (.lst ds)
 |tup {a:ag}{xs:List V}{ds:List D}:RT K ok H a xs->Reps K ok H xs ds->Rep K ok H (.ref a) (.tup ds)
 |obj {n:Nat}{a:ag}:ok.al n=zn a->Rep K ok H (.ref a) (.obj n)
 |scr {a:ag}{xs:List V}{ds:List D}:RC K ok H a xs->Reps K ok H xs ds->Rep K ok H (.ref a) (.scr ds)
inductive Reps (K:aa) (ok:Okk) (H:Hp):List V->List D->Prop
 |nil:Reps K ok H [] []
 |cons {v:V}{d:D}{vs:List V}{ds:List D}:Rep K ok H v d->Reps K ok H vs ds->Reps K ok H (v::vs) (d::ds)
end
section
variable {K:aa}{ok ok':Okk}{H H':Hp}
mutual
theorem Rep.mono (f:∀ b o,ok b->H b=zn o->ok' b/\H' b=zn o) (g:∀ n a,ok.al n=zn a->ok'.al n=zn a:=by exact fun _ _ h=>h):∀ {v:V}{d:D},Rep K ok H v d->Rep K ok' H' v d
 |_,_,.non=>.non
 |_,_,.bl b=>.bl b
 |_,_,.int i=>.int i
 |_,_,.str x=>.str x
 |_,_,.lst h r=>.lst (h.mono f) (Reps.mono f g r)
 |_,_,.tup h r=>.tup (h.mono f) (Reps.mono f g r)
 |_,_,.obj e=>.obj (g _ _ e)
 |_,_,.scr h r=>.scr (h.mono f) (Reps.mono f g r)
theorem Reps.mono (f:∀ b o,ok b->H b=zn o->ok' b/\H' b=zn o) (g:∀ n a,ok.al n=zn a->ok'.al n=zn a:=by exact fun _ _ h=>h):∀ {vs:List V}{ds:List D},Reps K ok H vs ds->Reps K ok' H' vs ds
 |_,_,.nil=>.nil
 |_,_,.cons h r=>.cons (Rep.mono f g h) (Reps.mono f g r)
end
theorem Rep.same {v:V}{d:D} (e:Same H H') (h:Rep K ok H v d):Rep K ok H' v d:=h.mono fun b o k q=>⟨k,e b o q⟩
theorem Reps.same {vs:List V}{ds:List D} (e:Same H H') (h:Reps K ok H vs ds):Reps K ok H' vs ds:=h.mono fun b o k q=>⟨k,e b o q⟩
theorem Rep.non_inv (h:Rep K ok H v .non):v=.non:=by cases h;rfl
theorem Rep.bl_inv (h:Rep K ok H v (.bl b)):v=.bl b:=by cases h;rfl
theorem Rep.int_inv (h:Rep K ok H v (.int i)):v=.int i:=by cases h;rfl
theorem Rep.str_inv (h:Rep K ok H v (.str x)):v=.str x:=by cases h;rfl
theorem Rep.lst_inv (h:Rep K ok H v (.lst ds)):∃ a xs,v=.ref a/\RL K ok H a xs/\Reps K ok H xs ds:=by cases h;exact⟨_,_,rfl,‹_›,‹_›⟩
theorem Rep.tup_inv (h:Rep K ok H v (.tup ds)):∃ a xs,v=.ref a/\RT K ok H a xs/\Reps K ok H xs ds:=by cases h;exact⟨_,_,rfl,‹_›,‹_›⟩
theorem Rep.scr_inv (h:Rep K ok H v (.scr ds)):∃ a xs,v=.ref a/\RC K ok H a xs/\Reps K ok H xs ds:=by cases h;exact⟨_,_,rfl,‹_›,‹_›⟩
theorem Rep.obj_inv (h:Rep K ok H v (.obj n)):∃ a,v=.ref a/\ok.al n=zn a:=by cases h;exact⟨_,rfl,‹_›⟩
theorem Reps.length:∀ {vs:List V}{ds:List D},Reps K ok H vs ds->vs.length=ds.length
 |_,_,.nil=>rfl
 |_,_,.cons _ r=>by rw[bv,bv,Reps.length r]
theorem Reps.get:∀ {vs:List V}{ds:List D}{i:Nat}{d:D},Reps K ok H vs ds->ds[i]?=zn d->∃ v,vs[i]?=zn v/\Rep K ok H v d
 |_,_,_,_,.nil,e=>by simp at e
 |_,_,0,_,.cons h _,e=>by
  simp at e;subst e;exact⟨_,rfl,h⟩
 |_,_,i+1,d,.cons _ r,e=>by
  obtain⟨v,h1,h2⟩:=Reps.get (i:=i) (d:=d) r (by simpa using e);exact⟨v,by simpa using h1,h2⟩
theorem Reps.getV:∀ {vs:List V}{ds:List D}{i:Nat}{v:V},Reps K ok H vs ds->vs[i]?=zn v->∃ d,ds[i]?=zn d/\Rep K ok H v d
 |_,_,_,_,.nil,e=>by simp at e
 |_,_,0,_,.cons h _,e=>by
  simp at e;subst e;exact⟨_,rfl,h⟩
 |_,_,i+1,v,.cons _ r,e=>by
  obtain⟨d,h1,h2⟩:=Reps.getV (i:=i) (v:=v) r (by simpa using e);exact⟨d,by simpa using h1,h2⟩
theorem Reps.append:∀ {vs ws:List V}{ds es:List D},Reps K ok H vs ds->Reps K ok H ws es->Reps K ok H (vs++ws) (ds++es)
 |_,_,_,_,.nil,s=>s
 |_,_,_,_,.cons h r,s=>.cons h (Reps.append r s)
theorem Reps.snoc (h:Reps K ok H vs ds) (q:Rep K ok H v d):Reps K ok H (vs++[v]) (ds++[d]):=h.append (.cons q .nil)
theorem Reps.take:∀ {vs:List V}{ds:List D} (n:Nat),Reps K ok H vs ds->Reps K ok H (vs.take n) (ds.take n)
 |_,_,0,_=>.nil
 |_,_,_+1,.nil=>.nil
 |_,_,n+1,.cons h r=>.cons h (Reps.take n r)
theorem Reps.drop:∀ {vs:List V}{ds:List D} (n:Nat),Reps K ok H vs ds->Reps K ok H (vs.drop n) (ds.drop n)
 |_,_,0,r=>r
 |_,_,_+1,.nil=>.nil
 |_,_,n+1,.cons _ r=>Reps.drop n r
theorem Reps.set (q:Rep K ok H v d):∀ {vs:List V}{ds:List D} (i:Nat),Reps K ok H vs ds->Reps K ok H (vs.set i v) (ds.set i d)
 |_,_,_,.nil=>.nil
 |_,_,0,.cons _ r=>.cons q r
 |_,_,i+1,.cons h r=>.cons h (Reps.set q i r)
theorem Reps.ints:∀(ns:List Int),Reps K ok H (ns.map V.int) (ns.map D.int)
 |[]=>.nil
 |n::ns=>.cons (.int n) (Reps.ints ns)
theorem Reps.of_ints:∀ {ns:List Int}{vs:List V},Reps K ok H vs (ns.map D.int)->vs=ns.map V.int
 |[],_,.nil=>rfl
 |n::ns,_,.cons h r=>by
  cases h;rw[Reps.of_ints r];rfl
theorem Rep.lst_new {p:ag}{xs:List V}{ds:List D} (k:ok p) (n:H p=zo) (r:Reps K ok H xs ds):Rep K ok (upd H p (.lst xs)) (.ref p) (.lst ds):=
 .lst ⟨k,aJ⟩ (r.mono fun b o q e=>⟨q,by rw[aE (aG e n)];exact e⟩)
theorem Rep.tup_new {p:ag}{xs:List V}{ds:List D} (k:ok p) (n:H p=zo) (r:Reps K ok H xs ds):Rep K ok (upd H p (.tup xs)) (.ref p) (.tup ds):=
 .tup ⟨k,aJ⟩ (r.mono fun b o q e=>⟨q,by rw[aE (aG e n)];exact e⟩)
end
theorem bO {H:Hp}{p:ag}{o:HO} (n:H p=zo):Same H (upd H p o):=fun b u e=>by
 rw[aE (aG e n)];exact e
abbrev Rho:=List (Option D)
abbrev DF:=Rho->Option D
abbrev DB:=Rho->Option Bool
abbrev DL:=Rho->Option (List D)
structure OkH (ok:Okk) (H:Hp):Prop where
 fn:∀ b,H b=zo->ok b
 tp:∀ b xs,H b=zn (.tup xs)->ok b
instance {ok:Okk}{H:Hp}:CoeFun (OkH ok H) (fun _=>∀ b,H b=zo->ok b):=⟨OkH.fn⟩
theorem OkH.same {ok:Okk}{H H':Hp} (h:OkH ok H) (e:Same H H'):OkH ok H':=⟨fun b n=>h b (e.free n),fun b xs q=>by
 cases z:H b with
 |none=>exact h b z
 |some o=>
  rw[e b o z] at q;cases q;exact h.tp b xs z⟩
def EnvR (K:aa) (ok:Okk) (H:Hp) (σ:St) (ρ:Rho):Prop:=∀(i:Nat) (d:D),ρ[i]?=zn (zn d)->∃ v,σ[i]?=zn (zn v)/\Rep K ok H v d
theorem EnvR.same {K:aa}{ok:Okk}{H H':Hp}{σ:St}{ρ:Rho} (h:EnvR K ok H σ ρ) (e:Same H H'):EnvR K ok H' σ ρ:=fun i d q=>
 let ⟨v,a,b⟩:=h i d q
 ⟨v,a,b.same e⟩
def tD (K:aa) (f:DF):TE:=fun σ H Q=>∃(ok:Okk) (ρ:Rho) (d:D),OkH ok H/\EnvR K ok H σ ρ/\f ρ=zn d/\∀ v H',Same H H'->Rep K ok H' v d->Q v H'
def tDA (K:aa) (f:DL):TA:=fun σ H Q=>∃(ok:Okk) (ρ:Rho) (ds:List D),OkH ok H/\EnvR K ok H σ ρ/\f ρ=zn ds/\∀ vs H',Same H H'->Reps K ok H' vs ds->Q vs H'
abbrev DE (X:Cx) (e:b0) (f:DF):Prop:=PE X e (tD X.K f)
abbrev DA (X:Cx) (es:List b0) (f:DL):Prop:=PA X es (tDA X.K f)
theorem _root_.L2.PE.imp {X:Cx}{e:b0}{t t':TE} (h:PE X e t) (f:∀ σ H Q,t' σ H Q->t σ H Q):PE X e t':=fun pins s σ H Q I q=>h pins s σ H Q I (f _ _ _ q)
theorem _root_.L2.PT.imp {X:Cx}{e:b0}{t t':TT} (h:PT X e t) (f:∀ σ H Q,t' σ H Q->t σ H Q):PT X e t':=fun pins s σ H Q I q=>h pins s σ H Q I (f _ _ _ q)
theorem _root_.L2.PA.imp {X:Cx}{e:List b0}{t t':TA} (h:PA X e t) (f:∀ σ H Q,t' σ H Q->t σ H Q):PA X e t':=fun p pins s σ H Q I q=>h p pins s σ H Q I (f _ _ _ q)
theorem _root_.L2.PS.imp {X:Cx}{e:c9}{t t':TS} (h:PS X e t) (f:∀ D σ H,t' D σ H->t D σ H):PS X e t':=fun pins s σ H D I q=>h pins s σ H D I (f _ _ _ q)
theorem _root_.L2.PSs.imp {X:Cx}{e:List c9}{t t':TS} (h:PSs X e t) (f:∀ D σ H,t' D σ H->t D σ H):PSs X e t':=fun pins s σ H D I q=>h pins s σ H D I (f _ _ _ q)
noncomputable def Fp (i:Nat):DF:=fun ρ=>ρ[i]?.join
noncomputable def dC (d:D):DF:=fun _=>zn d
noncomputable def d1 (g:D->Option D) (f:DF):DF:=fun ρ=>(f ρ).bind g
noncomputable def Qh:DL:=fun _=>zn []
noncomputable def Lp (f:DF) (r:DL):DL:=fun ρ=>(f ρ).bind fun d=>(r ρ).map fun ds=>d::ds
theorem bind_some {α β:Type}{o:Option α}{f:α->Option β}{b:β} (h:o.bind f=zn b):∃ a,o=zn a/\f a=zn b:=by
 cases o with
 |none=>cases h
 |some a=>exact⟨a,rfl,h⟩
section
variable {X:Cx}{e a b:b0}{es:List b0}{f fa fb:DF}{fl:DL}{pos:Pos}
theorem Op (h:PE X (.Name x pos) (Qs i)):DE X (.Name x pos) (Fp i):=h.imp fun σ H Q ⟨ok,ρ,d,h1,h2,h3,h4⟩=>by
 have e:ρ[i]?=zn (zn d):=by
  unfold Fp at h3;cases q:ρ[i]? with
  |none=>rw[q] at h3;cases h3
  |some o=>rw[q] at h3;cases o with
   |none=>cases h3
   |some d'=>cases h3;rfl
 obtain⟨v,e1,e2⟩:=h2 i d e;exact⟨v,e1,h4 v H (Same.refl H) e2⟩
theorem dv (i:Nat) (hN:X.N[i]?=zn x:=by rfl) (hv:Vis X.env.scope x:=by first|exact Or.inl rfl|exact Or.inr (Or.inl rfl)|exact Or.inr (Or.inr rfl)) (hd:(x==("__debug__":Str))=false:=by decide)
  (hcd:(x==("__classdict__":Str))=false:=by decide):DE X (.Name x pos) (Fp i):=Op (MA hN hv hd hcd)
theorem mG (h:PE X e (tC v)) (r:∀ K ok H,Rep K ok H v d):DE X e (dC d):=h.imp fun σ H Q ⟨ok,ρ,d',h1,h2,h3,h4⟩=>by
 cases h3;exact h4 v H (Same.refl H) (r _ _ _)
theorem Bh:DE X (.Constant (.int i) j pos) (dC (.int i)):=mG MG fun _ _ _=>.int i
theorem Qf {b j pos}:DE X (.Constant (.bool b) j pos) (dC (.bl b)):=mG Pt fun _ _ _=>.bl b
theorem Oq:DE X (.Constant .none j pos) (dC .non):=mG MF fun _ _ _=>.non
theorem Fi:DE X (.Constant (.str x) j pos) (dC (.str x)):=mG MC fun _ _ _=>.str x
def Fit2 (K:aa) (r:R2) (g:D->D->Option D):Prop:=∀(ok:Okk) (H:Hp) (x y:V) (a b d:D) (Q:VK),OkH ok H->Rep K ok H x a->Rep K ok H y b->g a b=zn d->(∀ v H',Same H H'->Rep K ok H' v d->Q v H')->r x y H Q
def RB (K:aa) (r:V->Hp->VK->Prop) (g:D->Option D):Prop:=∀(ok:Okk) (H:Hp) (x:V) (a d:D) (Q:VK),OkH ok H->Rep K ok H x a->g a=zn d->(∀ v H',Same H H'->Rep K ok H' v d->Q v H')->r x H Q
def FitL (K:aa) (r:List V->Hp->VK->Prop) (g:List D->Option D):Prop:=∀(ok:Okk) (H:Hp) (xs:List V) (as:List D) (d:D) (Q:VK),OkH ok H->Reps K ok H xs as->g as=zn d->(∀ v H',Same H H'->Rep K ok H' v d->Q v H')->r xs H Q
noncomputable def toB:D->Option Bool
 |.bl b=>zn b
 |_=>zo
theorem mP (h:toB d=zn k):d=.bl k:=by
 cases d with
 |bl b=>cases h;rfl
 |_=>cases h
theorem Qe (ho:UnR X (unaryOp op) r) (F:RB X.K r g) (ha:DE X a fa):DE X (.UnaryOp op a pos) (d1 g fa):=
 (Pq ho ha).imp fun σ H Q ⟨ok,ρ,d,h1,h2,h3,h4⟩=>by
  obtain⟨x,e1,h3⟩:=bind_some h3;exact⟨ok,ρ,x,h1,h2,e1,fun v H1 s1 r1=>F ok H1 v x d Q (h1.same s1) r1 h3 fun w H3 s3 r3=>h4 w H3 (s1.trans s3) r3⟩
theorem Os:DA X [] Qh:=(PA.imp lF) fun σ H Q ⟨ok,ρ,d,h1,h2,h3,h4⟩=>by
 cases h3;exact h4 [] H (Same.refl H) .nil
theorem Ll (ha:DE X e f) (hr:DA X es fl) (hs:ar (e::es) X.env=(false,eval e X.env)::ar es X.env:=by rfl):DA X (e::es) (Lp f fl):=
 (eW ha hr hs).imp fun σ H Q ⟨ok,ρ,ds,h1,h2,h3,h4⟩=>by
  obtain⟨x,e1,h3⟩:=bind_some h3;cases e2:fl ρ with
  |none=>rw[e2] at h3;cases h3
  |some r=>
   rw[e2] at h3;cases h3;exact⟨ok,ρ,x,h1,h2,e1,fun v H1 s1 r1=>⟨ok,ρ,r,h1.same s1,h2.same s1,e2,fun vs H2 s2 r2=>h4 (v::vs) H2 (s1.trans s2) (.cons (r1.same s2) r2)⟩⟩
noncomputable def pP (ds:List D):Option D:=if ds.length<=sizeLine then zn (.tup ds) else zo
noncomputable def HE (ds:List D):Option D:=if ds.length<=sizeLine then zn (.lst ds) else zo
theorem bA {α:Type}{c:Prop} [Decidable c] {a b:α} (h:(if c then zn a else zo)=zn b):c/\a=b:=by
 by_cases hc:c
 ·rw[if_pos hc] at h;exact⟨hc,ce h⟩
 ·rw[if_neg hc] at h;cases h
end
end L2.MB
end
section
namespace L2.MB
noncomputable def gI (g:Int->Int->Option D) (a b:D):Option D:=match a,b with
 |.int i,.int j=>g i j
 |_,_=>zo
theorem IR (h:gI g a b=zn d):∃ i j,a=.int i/\b=.int j/\g i j=zn d:=by
 unfold gI at h;split at h
 ·exact⟨_,_,rfl,rfl,h⟩
 ·cases h
noncomputable abbrev wD:=gI fun i j=>zn (.int (i+j))
noncomputable abbrev gSub:=gI fun i j=>zn (.int (i-j))
noncomputable abbrev gM:=gI fun i j=>if(-1000000000000000000<i/\i<1000000000000000000)∨(-1000000000000000000<j/\j<1000000000000000000) then zn (.int (i*j)) else zo
noncomputable abbrev cC:=gI fun i j=>if 0<j then zn (.int (i % j)) else zo
noncomputable abbrev Oc:=gI fun i j=>if 0<j/\j<1073741824 then zn (.int (i / j)) else zo
noncomputable abbrev gLt:=gI fun i j=>zn (.bl (decide (i<j)))
noncomputable abbrev gLe:=gI fun i j=>zn (.bl (decide (i<=j)))
noncomputable abbrev gGt:=gI fun i j=>zn (.bl (decide (j<i)))
theorem lM {K:aa}{g':Int->Int->D} (r:∀ i j ok H,Rep K ok H (g i j) (g' i j)):Fit2 K (rI0 g) (gI fun i j=>zn (g' i j)):=fun ok H x y a b d Q h1 ra rb e k=>by
 obtain⟨i,j,rfl,rfl,e⟩:=IR e;cases e;exact⟨i,j,ra.int_inv,rb.int_inv,k _ H (Same.refl H) (r i j ok H)⟩
theorem Lh {K:aa}{C C':Int->Int->Prop} [∀ i j,Decidable (C' i j)] {g:Int->Int->V}{g':Int->Int->D} (hC:∀ i j,C' i j->C i j) (r:∀ i j ok H,Rep K ok H (g i j) (g' i j)):
  Fit2 K (rI C g) (gI fun i j=>if C' i j then zn (g' i j) else zo):=fun ok H x y a b d Q h1 ra rb e k=>by
 obtain⟨i,j,rfl,rfl,e⟩:=IR e;obtain⟨hc,rfl⟩:=bA e;exact⟨i,j,ra.int_inv,rb.int_inv,hC i j hc,k _ H (Same.refl H) (r i j ok H)⟩
section
variable {X:Cx}{e a b c:b0}{es:List b0}{f fa fb fc:DF}{fl:DL}{pos:Pos}
noncomputable def PY (a:D):Option D:=match a with
 |.int i=>zn (.int (-i))
 |_=>zo
theorem IT (ha:DE X a fa):DE X (.UnaryOp .USub a pos) (d1 PY fa):=Qe LP (fun ok H x a d Q h1 r e k=>by
 cases a with
 |int i=>cases e;exact⟨i,r.int_inv,k _ H (Same.refl H) (.int _)⟩
 |_=>cases e) ha
noncomputable def Qr:D->Option Bool
 |.non=>zn false
 |.bl b=>zn b
 |.int i=>zn (i !=0)
 |.str x=>if x.length<=sizeLine then zn ((x.length:Int) !=0) else zo
 |.lst ds=>zn (!ds.isEmpty)
 |.tup ds=>zn (!ds.isEmpty)
 |.obj _=>zo
 |.scr ds=>zn (!ds.isEmpty)
theorem Reps.isEmpty {K:aa} (h:Reps K ok H vs ds):vs.isEmpty=ds.isEmpty:=by cases h <;> rfl
theorem IY {K:aa} (h:Rep K ok H v d) (e:Qr d=zn k):Qj K v H k:=by
 cases h with
 |non=>cases e;exact rfl
 |bl b=>cases e;exact rfl
 |int i=>cases e;exact rfl
 |str x=>
  obtain⟨hz,rfl⟩:=bA e;exact⟨hz,rfl⟩
 |lst h r=>
  cases e;exact .inl ⟨_,h.sq,by rw[r.isEmpty]⟩
 |tup h r=>
  cases e;exact .inr (.inl ⟨_,h.sq,by rw[r.isEmpty]⟩)
 |obj _=>cases e
 |scr h r=>
  cases e;exact .inl ⟨_,h.sq,by rw[r.isEmpty]⟩
theorem _root_.L2.PW.imp {X:Cx}{e:b0}{t t':TT} (h:PW X e t) (f:∀ σ H Q,t' σ H Q->t σ H Q):PW X e t':=fun wh pins s σ H Q I q=>h wh pins s σ H Q I (f _ _ _ q)
variable {ba bb:DB}{rest:List b0}
noncomputable def Rp (a:D):Option D:=(toB a).map fun k=>.bl (!k)
noncomputable def KZ (a b:D):Option D:=match a,b with
 |.str x,.str y=>if x.length+y.length<=sizeLine then zn (.str (x++y)) else zo
 |_,_=>zo
noncomputable def gIx (a b:D):Option D:=match a,b with
 |.lst ds,.int i=>atI ds i
 |.scr ds,.int i=>atI ds i
 |.tup ds,.int i=>atI ds i
 |.str x,.int i=>if x.length<=sizeLine then(atI x.cps.toList i).map fun c=>.str ⟨#[c]⟩ else zo
 |_,_=>zo
theorem Reps.atI {K:aa} (h:Reps K ok H vs ds) (e:L2.atI ds i=zn d):∃ v,L2.atI vs i=zn v/\Rep K ok H v d:=by
 unfold L2.atI at e ⊢;rw[h.length];cases q:ixN ds.length i with
 |none=>rw[q] at e;cases e
 |some j=>
  rw[q] at e;exact h.get e
noncomputable def tM (ds:List D) (lo hi:Option Int):List D:=(ds.drop (HT.sIx ds.length 0 lo)).take (HT.sIx ds.length ds.length hi-HT.sIx ds.length 0 lo)
theorem Reps.cut {K:aa} (h:Reps K ok H vs ds) (lo hi:Option Int):Reps K ok H (IU vs lo hi) (tM ds lo hi):=by
 unfold IU tM;rw[h.length];exact(h.drop _).take _
abbrev DO:=Rho->Option (Option Int)
noncomputable def tDO (K:aa) (f:DO):TO:=fun σ H Q=>∃(ok:Okk) (ρ:Rho) (o:Option Int),OkH ok H/\EnvR K ok H σ ρ/\f ρ=zn o/\∀ H',Same H H'->Q o H'
theorem _root_.L2.PO.imp {X:Cx}{e:Option b0}{t t':TO} (h:PO X e t) (f:∀ σ H Q,t' σ H Q->t σ H Q):PO X e t':=fun pins s σ H Q I q=>h pins s σ H Q I (f _ _ _ q)
abbrev DOp (X:Cx) (e:Option b0) (f:DO):Prop:=PO X e (tDO X.K f)
noncomputable def dNo:DO:=fun _=>zn zo
noncomputable def toI:D->Option Int
 |.int i=>zn i
 |_=>zo
theorem xI (h:toI d=zn i):d=.int i:=by
 cases d with
 |int b=>cases h;rfl
 |_=>cases h
noncomputable def dSo (f:DF):DO:=fun ρ=>(f ρ).bind fun d=>(toI d).map zn
theorem Lk:DOp X zo dNo:=PO.imp Dm fun σ H Q ⟨ok,ρ,o,h1,h2,h3,h4⟩=>by
 cases h3;exact h4 H (Same.refl H)
theorem Lj (h:DE X e f):DOp X (zn e) (dSo f):=PO.imp (Dl h) fun σ H Q ⟨ok,ρ,o,h1,h2,h3,h4⟩=>by
 obtain⟨d,e1,e2⟩:=bind_some h3;cases e3:toI d with
 |none=>rw[e3] at e2;cases e2
 |some i=>
  rw[e3] at e2;cases e2;obtain rfl:=xI e3;exact⟨ok,ρ,_,h1,h2,e1,fun v H1 s1 r1=>⟨i,r1.int_inv,h4 H1 s1⟩⟩
noncomputable def gSl (a:D) (lo hi:Option Int):Option D:=match a with
 |.lst ds=>zn (.lst (tM ds lo hi))
 |.scr ds=>zn (.lst (tM ds lo hi))
 |.tup ds=>if HT.sIx ds.length 0 lo=0/\HT.sIx ds.length ds.length hi=ds.length then zo else zn (.tup (tM ds lo hi))
 |_=>zo
noncomputable def NY (ds:List D):Option D:=match ds with
 |[.lst xs]=>zn (.int xs.length)
 |[.scr xs]=>zn (.int xs.length)
 |[.tup xs]=>zn (.int xs.length)
 |[.str x]=>if x.length<=sizeLine then zn (.int x.length) else zo
 |_=>zo
theorem Reps.one_inv {K:aa} (h:Reps K ok H vs [d]):∃ v,vs=[v]/\Rep K ok H v d:=by
 cases h with
 |cons a r=>cases r;exact⟨_,rfl,a⟩
theorem Reps.two_inv {K:aa} (h:Reps K ok H vs [d,d']):∃ v v',vs=[v,v']/\Rep K ok H v d/\Rep K ok H v' d':=by
 cases h with
 |cons a r=>
  obtain⟨v',rfl,b⟩:=r.one_inv;exact⟨_,_,rfl,a,b⟩
theorem Lb {K:aa}:FitL K (fun xs H Q=>∃ x n,xs=[x]/\Qq K x H n/\Q (.int n) H) NY:=fun ok H xs as d Q h1 r e k=>by
 unfold NY at e;split at e
 ·cases e;obtain⟨v,rfl,r1⟩:=r.one_inv;obtain⟨p,ys,rfl,g,r2⟩:=r1.lst_inv;exact⟨_,_,rfl,.inl ⟨_,g.sq,r2.length.symm⟩,k _ H (Same.refl H) (.int _)⟩
 ·cases e;obtain⟨v,rfl,r1⟩:=r.one_inv;obtain⟨p,ys,rfl,g,r2⟩:=r1.scr_inv;exact⟨_,_,rfl,.inl ⟨_,g.sq,r2.length.symm⟩,k _ H (Same.refl H) (.int _)⟩
 ·cases e;obtain⟨v,rfl,r1⟩:=r.one_inv;obtain⟨p,ys,rfl,g,r2⟩:=r1.tup_inv;exact⟨_,_,rfl,.inr ⟨_,g.sq,r2.length.symm⟩,k _ H (Same.refl H) (.int _)⟩
 ·obtain⟨hz,rfl⟩:=bA e;obtain⟨v,rfl,r1⟩:=r.one_inv;obtain rfl:=r1.str_inv;exact⟨_,_,rfl,⟨hz,rfl⟩,k _ H (Same.refl H) (.int _)⟩
 ·cases e
end
noncomputable def kU (f:D->D->Option Bool):List D->List D->Option Bool
 |[],_=>zn true
 |_::_,[]=>zn true
 |x::xs,y::ys=>(f x y).bind fun b=>(kU f xs ys).map fun c=>b&&c
noncomputable def eqS:D->D->Bool
 |.non,.non=>true
 |.bl a,.bl b=>a==b
 |.bl a,.int b=>(if a then 1 else 0)==b
 |.int a,.bl b=>a==(if b then 1 else 0)
 |.int a,.int b=>a==b
 |.str a,.str b=>a==b
 |_,_=>false
noncomputable def eqD:Nat->D->D->Option Bool
 |n+1,.lst xs,.lst ys=>if xs.length=ys.length then kU (eqD n) xs ys else zn false
 |n+1,.tup xs,.tup ys=>(kU (eqD n) xs ys).map fun k=>k&&xs.length==ys.length
 |0,.lst _,.lst _=>zo
 |0,.tup _,.tup _=>zo
 |_,.obj _,_=>zo
 |_,_,.obj _=>zo
 |_,.scr _,_=>zo
 |_,_,.scr _=>zo
 |_,a,b=>zn (eqS a b)
noncomputable def eAt (f:D->D->Option Bool) (xs ys:List D) (j:Nat):Bool:=match xs[j]?,ys[j]? with
 |some x,zn y=>(f x y).getD false
 |_,_=>false
theorem kT:∀ {xs ys:List D}{k:Bool}{j:Nat}{x y:D},kU f xs ys=zn k->xs[j]?=zn x->ys[j]?=zn y->f x y=zn (eAt f xs ys j)
 |[],_,_,_,_,_,_,h,_=>by simp at h
 |_::_,[],_,_,_,_,_,_,h=>by simp at h
 |x'::xs,y'::ys,k,j,x,y,h,h1,h2=>by
  obtain⟨b,e1,e2⟩:=bind_some h;cases q:kU f xs ys with
  |none=>rw[q] at e2;cases e2
  |some c=>
   cases j with
   |zero=>
    simp at h1 h2;subst h1 h2;simp[eAt,e1]
   |succ j=>
    simp at h1 h2
    have:=kT q h1 h2
    simpa [eAt] using this
theorem tR:∀ {xs ys:List D}{k:Bool},kU f xs ys=zn k->k=(aw (min xs.length ys.length)).all (eAt f xs ys)
 |[],ys,k,h=>by
  cases h;simp
 |_::_,[],k,h=>by
  cases h;simp
 |x::xs,y::ys,k,h=>by
  obtain⟨b,e1,e2⟩:=bind_some h;cases q:kU f xs ys with
  |none=>rw[q] at e2;cases e2
  |some c=>
   rw[q] at e2;cases e2;have ih:=tR q;have em:min (x::xs).length (y::ys).length=min xs.length ys.length+1:=by
    rw[bv,bv];omega
   rw[em,u4,List.all_cons,List.all_map];have e0:eAt f (x::xs) (y::ys) 0=b:=by simp[eAt,e1]
   have e3:(eAt f (x::xs) (y::ys)∘Nat.succ)=eAt f xs ys:=by
    funext j
    simp[eAt]
   rw[e0,e3,ih]
theorem cU (n m:Nat) (b:D):eqD n (.obj m) b=zo:=by cases n <;> cases b <;> rfl
theorem cT (n m:Nat) (a:D):eqD n a (.obj m)=zo:=by cases n <;> cases a <;> rfl
theorem cS (n:Nat) (m:List D) (b:D):eqD n (.scr m) b=zo:=by cases n <;> cases b <;> rfl
theorem cR (n:Nat) (m:List D) (a:D):eqD n a (.scr m)=zo:=by cases n <;> cases a <;> rfl
section
variable {X:Cx}{pins:List (ag×Obj)}{σ:St}{H:Hp}{s:ao}{ok ok':Okk}
theorem fS {A:df} (h:A.units+(n+1)<fj):A.in1.units+n<fj:=by
 show A.units+1+n<fj;omega
theorem gX (I:Inv X pins σ H s) (h:RL X.K ok H a xs) (g:RT X.K ok' H a ys):False:=by
 obtain⟨_,_,⟨o,n,e,c,_,_⟩,_⟩:=I.list h.sq;obtain⟨_,_,⟨o',e',c',_⟩,_⟩:=I.tuple g.sq;rw[e] at e';cases e';rw[c] at c';exact absurd c' (by decide)
theorem oV (ih:∀ {v:V}{a b:D}{k:Bool},Rep X.K ok H v a->Rep X.K ok' H v b->eqD n a b=zn k->k=true):∀ {vs:List V}{ds es:List D}{k:Bool},Reps X.K ok H vs ds->Reps X.K ok' H vs es->kU (eqD n) ds es=zn k->k=true
 |_,_,_,_,.nil,.nil,h=>by cases h;rfl
 |_,_,_,_,.cons r rs,.cons q qs,h=>by
  obtain⟨b,e1,e2⟩:=bind_some h;cases z:kU (eqD n) _ _ with
  |none=>rw[z] at e2;cases e2
  |some c=>
   rw[z] at e2;cases e2;rw[ih r q e1,oV ih rs qs z];rfl
theorem HU (I:Inv X pins σ H s):∀(n:Nat) {v:V}{a b:D}{k:Bool},Rep X.K ok H v a->Rep X.K ok' H v b->eqD n a b=zn k->k=true:=by
 intro n
 induction n with
 |zero=>
  intro v a b k ra rb e;cases ra with
  |lst g r=>cases rb with
   |lst g' r'=>cases e
   |tup g' r'=>exact(gX I g g').elim
   |obj _=>rw[cT] at e;cases e
   |scr _ _=>rw[cR] at e;cases e
  |tup g r=>cases rb with
   |tup g' r'=>cases e
   |lst g' r'=>exact(gX I g' g).elim
   |obj _=>rw[cT] at e;cases e
   |scr _ _=>rw[cR] at e;cases e
  |obj _=>rw[cU] at e;cases e
  |scr _ _=>rw[cS] at e;cases e
  |_=>cases rb;cases e;simp[eqS]
 |succ n ih=>
  intro v a b k ra rb e;cases ra with
  |@lst p xs ds g r=>cases rb with
   |@lst _ xs' ds' g' r'=>
    obtain rfl:=I.list_inj g.sq g'.sq;have e':(if ds.length=ds'.length then kU (eqD n) ds ds' else zn false)=zn k:=e;rw[if_pos (by rw[<- r.length,<- r'.length])] at e';exact oV ih r r' e'
   |tup g' r'=>exact(gX I g g').elim
   |obj _=>rw[cT] at e;cases e
   |scr _ _=>rw[cR] at e;cases e
  |@tup p xs ds g r=>cases rb with
   |@tup _ xs' ds' g' r'=>
    obtain rfl:=I.tuple_inj g.sq g'.sq;have e':((kU (eqD n) ds ds').map fun k=>k&&ds.length==ds'.length)=zn k:=e;have hl:ds.length=ds'.length:=by rw[<- r.length,<- r'.length]
    cases q:kU (eqD n) ds ds' with
    |none=>rw[q] at e';cases e'
    |some c=>
     rw[q] at e';cases e';rw[oV ih r r' q,hl];simp
   |lst g' r'=>exact(gX I g' g).elim
   |obj _=>rw[cT] at e;cases e
   |scr _ _=>rw[cR] at e;cases e
  |obj _=>rw[cU] at e;cases e
  |scr _ _=>rw[cS] at e;cases e
  |_=>cases rb;cases e;simp[eqS]
theorem oY (ih:∀ {v:V}{a b c:D}{k k':Bool},Rep X.K ok H v a->Rep X.K ok' H v b->eqD n a c=zn k->eqD n b c=zn k'->k=k'):∀ {vs:List V}{ds es as:List D}{k k':Bool},Reps X.K ok H vs ds->Reps X.K ok' H vs es->kU (eqD n) ds as=zn k->kU (eqD n) es as=zn k'->k=k'
 |_,_,_,_,_,_,.nil,.nil,h,h'=>by cases h;cases h';rfl
 |_,_,_,[],_,_,.cons r rs,.cons q qs,h,h'=>by cases h;cases h';rfl
 |_,_,_,a::as,_,_,.cons r rs,.cons q qs,h,h'=>by
  obtain⟨b,e1,e2⟩:=bind_some h;obtain⟨b',e1',e2'⟩:=bind_some h';cases z:kU (eqD n) _ as with
  |none=>rw[z] at e2;cases e2
  |some c=>
   rw[z] at e2;cases e2;cases z':kU (eqD n) _ as with
   |none=>rw[z'] at e2';cases e2'
   |some c'=>
    rw[z'] at e2';cases e2';rw[ih r q e1 e1',oY ih rs qs z z']
theorem HV (I:Inv X pins σ H s):∀(n:Nat) {v:V}{a b c:D}{k k':Bool},Rep X.K ok H v a->Rep X.K ok' H v b->eqD n a c=zn k->eqD n b c=zn k'->k=k':=by
 intro n
 induction n with
 |zero=>
  intro v a b c k k' ra rb e e';cases ra with
  |lst g r=>cases rb with
   |lst g' r'=>cases c <;> first|(cases e;done)|(cases e;cases e';rfl)
   |tup g' r'=>exact(gX I g g').elim
   |obj _=>rw[cU] at e';cases e'
   |scr _ _=>rw[cS] at e';cases e'
  |tup g r=>cases rb with
   |tup g' r'=>cases c <;> first|(cases e;done)|(cases e;cases e';rfl)
   |lst g' r'=>exact(gX I g' g).elim
   |obj _=>rw[cU] at e';cases e'
   |scr _ _=>rw[cS] at e';cases e'
  |obj _=>rw[cU] at e;cases e
  |scr _ _=>rw[cS] at e;cases e
  |_=>cases rb;rw[e] at e';cases e';rfl
 |succ n ih=>
  intro v a b c k k' ra rb e e';cases ra with
  |@lst p xs ds g r=>cases rb with
   |@lst _ xs' ds' g' r'=>
    obtain rfl:=I.list_inj g.sq g'.sq;have hl:ds.length=ds'.length:=by rw[<- r.length,<- r'.length]
    cases c with
    |lst cs=>
     have e1:(if ds.length=cs.length then kU (eqD n) ds cs else zn false)=zn k:=e;have e2:(if ds'.length=cs.length then kU (eqD n) ds' cs else zn false)=zn k':=e';rw[<- hl] at e2
     by_cases z:ds.length=cs.length
     ·rw[if_pos z] at e1 e2;exact oY ih r r' e1 e2
     ·rw[if_neg z] at e1 e2;cases e1;cases e2;rfl
    |_=>first|(cases e;done)|(cases e;cases e';rfl)
   |tup g' r'=>exact(gX I g g').elim
   |obj _=>rw[cU] at e';cases e'
   |scr _ _=>rw[cS] at e';cases e'
  |@tup p xs ds g r=>cases rb with
   |@tup _ xs' ds' g' r'=>
    obtain rfl:=I.tuple_inj g.sq g'.sq;have hl:ds.length=ds'.length:=by rw[<- r.length,<- r'.length]
    cases c with
    |tup cs=>
     have e1:((kU (eqD n) ds cs).map fun k=>k&&ds.length==cs.length)=zn k:=e;have e2:((kU (eqD n) ds' cs).map fun k=>k&&ds'.length==cs.length)=zn k':=e';rw[<- hl] at e2;cases q:kU (eqD n) ds cs with
     |none=>rw[q] at e1;cases e1
     |some x=>
      cases q':kU (eqD n) ds' cs with
      |none=>rw[q'] at e2;cases e2
      |some x'=>
       rw[q] at e1;rw[q'] at e2;cases e1;cases e2;rw[oY ih r r' q q']
    |_=>first|(cases e;done)|(cases e;cases e';rfl)
   |lst g' r'=>exact(gX I g' g).elim
   |obj _=>rw[cU] at e';cases e'
   |scr _ _=>rw[cS] at e';cases e'
  |obj _=>rw[cU] at e;cases e
  |scr _ _=>rw[cS] at e;cases e
  |_=>cases rb;rw[e] at e';cases e';rfl
theorem yW (I:Inv X pins σ H s) (n:Nat) (ra:Rep X.K ok H x a) (rb:Rep X.K ok' H y b) (rv:RelV x v) (ru:RelV y u) (e:eqD n a b=zn k) (hrc:SeqAt.RcAt A s v u k):yo A s v u k:=by
 by_cases hs:v=u
 ·subst hs;obtain rfl:=rv.inj ru;rw[HU I n ra rb e];exact SeqAt.EqAt.same v
 ·intro prog w E Q hq;unfold eqBool;refine fh ?_;refine nv (fun hab=>absurd (eq_of_beq hab) hs) (fun _=> ?_);cases ra with
  |non=>cases rv;exact ae (hrc prog w E _ (ff hq))
  |bl b=>cases rv;exact ae (hrc prog w E _ (ff hq))
  |int i=>obtain⟨t,rfl⟩:=rv;exact ae (hrc prog w E _ (ff hq))
  |str z=>obtain⟨t,rfl⟩:=rv;exact ae (hrc prog w E _ (ff hq))
  |lst _ _=>cases rv;exact ae (hrc prog w E _ (ff hq))
  |tup _ _=>cases rv;exact ae (hrc prog w E _ (ff hq))
  |obj _=>rw[cU] at e;cases e
  |scr _ _=>rw[cS] at e;cases e
theorem both {P Q R:Prop} (h:P) (f:P->Q) (g:P->R):Q/\R:=⟨f h,g h⟩
theorem Dd (I:Inv X pins σ H s) (n:Nat):∀ {A:df}{a b:D}{x y:V}{v u:af}{k:Bool},Rep X.K ok H x a->Rep X.K ok' H y b->RelV x v->RelV y u->eqD n a b=zn k->A.units+n<fj->SeqAt.RcAt A s v u k/\SeqAt.RcNeAt A s v u (!k):=by
 induction n using Nat.strongRecOn with
 |_ n ih=>
  intro A a b x y v u k ra rb rv ru e hu;have hu0:A.units<fj:=by omega
  cases ra with
  |non=>
   cases rv;cases rb with
   |non=>cases ru;cases n <;> cases e <;> exact⟨.none_none,.none_none⟩
   |obj _=>rw[cT] at e;cases e
   |scr _ _=>rw[cR] at e;cases e
   |bl b=>cases ru;cases n <;> cases e <;> exact⟨.none_bool b,.none_bool b⟩
   |int b=>obtain⟨t,rfl⟩:=ru;cases n <;> cases e <;> exact⟨.none_int b t,.none_int b t⟩
   |str b=>obtain⟨t,rfl⟩:=ru;cases n <;> cases e <;> exact⟨.none_str b t,.none_str b t⟩
   |lst g r=>cases ru;obtain⟨its,_,pl,_⟩:=I.list g.sq;cases n <;> cases e <;> exact⟨.none_list pl.isList hu0,.none_list pl.isList hu0⟩
   |tup g r=>cases ru;obtain⟨its,_,pl,_⟩:=I.tuple g.sq;cases n <;> cases e <;> exact⟨.none_tuple pl hu0,.none_tuple pl hu0⟩
  |bl a=>
   cases rv;cases rb with
   |non=>cases ru;cases n <;> cases e <;> exact⟨.bool_none a,.bool_none a⟩
   |obj _=>rw[cT] at e;cases e
   |scr _ _=>rw[cR] at e;cases e
   |bl b=>cases ru;cases n <;> cases e <;> exact⟨.bool_bool a b,.bool_bool a b⟩
   |int b=>obtain⟨t,rfl⟩:=ru;cases n <;> cases e <;> exact⟨.bool_int a b t,.bool_int a b t⟩
   |str b=>obtain⟨t,rfl⟩:=ru;cases n <;> cases e <;> exact⟨.bool_str a b t,.bool_str a b t⟩
   |lst g r=>cases ru;obtain⟨its,_,pl,_⟩:=I.list g.sq;cases n <;> cases e <;> exact⟨.bool_list a pl.isList hu0,.bool_list a pl.isList hu0⟩
   |tup g r=>cases ru;obtain⟨its,_,pl,_⟩:=I.tuple g.sq;cases n <;> cases e <;> exact⟨.bool_tuple a pl hu0,.bool_tuple a pl hu0⟩
  |int a=>
   obtain⟨t',rfl⟩:=rv;cases rb with
   |non=>cases ru;cases n <;> cases e <;> exact⟨.int_none a t',.int_none a t'⟩
   |obj _=>rw[cT] at e;cases e
   |scr _ _=>rw[cR] at e;cases e
   |bl b=>cases ru;cases n <;> cases e <;> exact⟨.int_bool a t' b,.int_bool a t' b⟩
   |int b=>obtain⟨t,rfl⟩:=ru;cases n <;> cases e <;> exact⟨.int_int a t' b t,.int_int a t' b t⟩
   |str b=>obtain⟨t,rfl⟩:=ru;cases n <;> cases e <;> exact⟨.int_str a t' b t,.int_str a t' b t⟩
   |lst g r=>cases ru;obtain⟨its,_,pl,_⟩:=I.list g.sq;cases n <;> cases e <;> exact⟨.int_list a t' pl.isList hu0,.int_list a t' pl.isList hu0⟩
   |tup g r=>cases ru;obtain⟨its,_,pl,_⟩:=I.tuple g.sq;cases n <;> cases e <;> exact⟨.int_tuple a t' pl hu0,.int_tuple a t' pl hu0⟩
  |str a=>
   obtain⟨t',rfl⟩:=rv;cases rb with
   |non=>cases ru;cases n <;> cases e <;> exact⟨.str_none a t',.str_none a t'⟩
   |obj _=>rw[cT] at e;cases e
   |scr _ _=>rw[cR] at e;cases e
   |bl b=>cases ru;cases n <;> cases e <;> exact⟨.str_bool a t' b,.str_bool a t' b⟩
   |int b=>obtain⟨t,rfl⟩:=ru;cases n <;> cases e <;> exact⟨.str_int a t' b t,.str_int a t' b t⟩
   |str b=>obtain⟨t,rfl⟩:=ru;cases n <;> cases e <;> exact⟨.str_str a t' b t,.str_str a t' b t⟩
   |lst g r=>cases ru;obtain⟨its,_,pl,_⟩:=I.list g.sq;cases n <;> cases e <;> exact⟨.str_list a t' pl.isList hu0,.str_list a t' pl.isList hu0⟩
   |tup g r=>cases ru;obtain⟨its,_,pl,_⟩:=I.tuple g.sq;cases n <;> cases e <;> exact⟨.str_tuple a t' pl hu0,.str_tuple a t' pl hu0⟩
  |obj _=>rw[cU] at e;cases e
  |scr _ _=>rw[cS] at e;cases e
  |@lst p xs ds g r=>
   cases rv;obtain⟨its,rr,pl,_⟩:=I.list g.sq;cases rb with
   |non=>cases ru;cases n <;> cases e <;> exact⟨.list_none pl.isList hu0,.list_none pl.isList hu0⟩
   |obj _=>rw[cT] at e;cases e
   |scr _ _=>rw[cR] at e;cases e
   |bl b=>cases ru;cases n <;> cases e <;> exact⟨.list_bool b pl.isList hu0,.list_bool b pl.isList hu0⟩
   |int b=>obtain⟨t,rfl⟩:=ru;cases n <;> cases e <;> exact⟨.list_int b t pl.isList hu0,.list_int b t pl.isList hu0⟩
   |str b=>obtain⟨t,rfl⟩:=ru;cases n <;> cases e <;> exact⟨.list_str b t pl.isList hu0,.list_str b t pl.isList hu0⟩
   |tup g' r'=>cases ru;obtain⟨its',_,pl',_⟩:=I.tuple g'.sq;cases n <;> cases e <;> exact⟨.list_tuple pl.isList pl' hu0,.list_tuple pl.isList pl' hu0⟩
   |@lst p' xs' ds' g' r'=>
    cases ru;obtain⟨its',rr',pl',_⟩:=I.list g'.sq;have l1:its.toArray.size=ds.length:=by rw[bh,<- rr.length,r.length]
    have l2:its'.toArray.size=ds'.length:=by rw[bh,<- rr'.length,r'.length]
    cases n with
    |zero=>cases e
    |succ n=>
     have e':(if ds.length=ds'.length then kU (eqD n) ds ds' else zn false)=zn k:=e
     by_cases hl:ds.length=ds'.length
     ·rw[if_pos hl] at e';have hk:k=(aw its.toArray.size).all (eAt (eqD n) ds ds'):=by
       rw[tR e',l1,<- hl,jz]
      rw[hk];have z:=l1.trans (hl.trans l2.symm);refine both ?_ (SeqAt.RcAt.lists pl.isList pl'.isList z hu0) (SeqAt.RcNeAt.lists pl.isList pl'.isList z hu0);intro j h1 h2;obtain⟨d,hd,rd⟩:=r.getV (i:=j) (v:=xs[j]'(by rw[r.length,<- l1];exact h1)) (by simp);obtain⟨d',hd',rd'⟩:=r'.getV (i:=j) (v:=xs'[j]'(by rw[r'.length,<- l2];exact h2)) (by simp);obtain⟨w,hw,rw1⟩:=rr.get (i:=j) (x:=xs[j]'(by rw[r.length,<- l1];exact h1)) (by simp);obtain⟨w',hw',rw2⟩:=rr'.get (i:=j) (x:=xs'[j]'(by rw[r'.length,<- l2];exact h2)) (by simp);have ew:its.toArray[j]=w:=by
       obtain⟨_,q⟩:=bx.mp hw;simpa using q
      have ew':its'.toArray[j]=w':=by
       obtain⟨_,q⟩:=bx.mp hw';simpa using q
      rw[ew,ew'];exact yW I n rd rd' rw1 rw2 (kT e' hd hd') ((ih n (mm n) rd rd' rw1 rw2 (kT e' hd hd') (fS hu)).1)
     ·rw[if_neg hl] at e';cases e';have z:(its.toArray.size !=its'.toArray.size)=true:=by rw[l1,l2];simpa using hl
      exact⟨.lists_lengths pl.isList pl'.isList z hu0,.lists_lengths pl.isList pl'.isList z hu0⟩
  |@tup p xs ds g r=>
   cases rv;obtain⟨its,rr,pl,_⟩:=I.tuple g.sq;cases rb with
   |non=>cases ru;cases n <;> cases e <;> exact⟨.tuple_none pl hu0,.tuple_none pl hu0⟩
   |obj _=>rw[cT] at e;cases e
   |scr _ _=>rw[cR] at e;cases e
   |bl b=>cases ru;cases n <;> cases e <;> exact⟨.tuple_bool b pl hu0,.tuple_bool b pl hu0⟩
   |int b=>obtain⟨t,rfl⟩:=ru;cases n <;> cases e <;> exact⟨.tuple_int b t pl hu0,.tuple_int b t pl hu0⟩
   |str b=>obtain⟨t,rfl⟩:=ru;cases n <;> cases e <;> exact⟨.tuple_str b t pl hu0,.tuple_str b t pl hu0⟩
   |lst g' r'=>cases ru;obtain⟨its',_,pl',_⟩:=I.list g'.sq;cases n <;> cases e <;> exact⟨.tuple_list pl pl'.isList hu0,.tuple_list pl pl'.isList hu0⟩
   |@tup p' xs' ds' g' r'=>
    cases ru;obtain⟨its',rr',pl',_⟩:=I.tuple g'.sq;have l1:its.toArray.size=ds.length:=by rw[bh,<- rr.length,r.length]
    have l2:its'.toArray.size=ds'.length:=by rw[bh,<- rr'.length,r'.length]
    cases n with
    |zero=>cases e
    |succ n=>
     have e':((kU (eqD n) ds ds').map fun k=>k&&ds.length==ds'.length)=zn k:=e;cases q:kU (eqD n) ds ds' with
     |none=>rw[q] at e';cases e'
     |some c=>
      rw[q] at e';cases e';have hk:(c&&ds.length==ds'.length)=((aw (min its.toArray.size its'.toArray.size)).all (eAt (eqD n) ds ds')&&its.toArray.size==its'.toArray.size):=by
       rw[tR q,l1,l2]
      dsimp only;rw[hk];refine both ?_ (SeqAt.RcAt.tuples pl pl' hu0) (SeqAt.RcNeAt.tuples pl pl' hu0);intro j h1 h2;obtain⟨d,hd,rd⟩:=r.getV (i:=j) (v:=xs[j]'(by rw[r.length,<- l1];exact h1)) (by simp);obtain⟨d',hd',rd'⟩:=r'.getV (i:=j) (v:=xs'[j]'(by rw[r'.length,<- l2];exact h2)) (by simp);obtain⟨w,hw,rw1⟩:=rr.get (i:=j) (x:=xs[j]'(by rw[r.length,<- l1];exact h1)) (by simp);obtain⟨w',hw',rw2⟩:=rr'.get (i:=j) (x:=xs'[j]'(by rw[r'.length,<- l2];exact h2)) (by simp);have ew:its.toArray[j]=w:=by
       obtain⟨_,q⟩:=bx.mp hw;simpa using q
      have ew':its'.toArray[j]=w':=by
       obtain⟨_,q⟩:=bx.mp hw';simpa using q
      rw[ew,ew'];exact yW I n rd rd' rw1 rw2 (kT q hd hd') ((ih n (mm n) rd rd' rw1 rw2 (kT q hd hd') (fS hu)).1)
theorem Fd (I:Inv X pins σ H s) (n:Nat) (ra:Rep X.K ok H x a) (rb:Rep X.K ok' H y b) (rv:RelV x v) (ru:RelV y u) (e:eqD n a b=zn k) (hu:A.units+n<fj):yo A s v u k:=
 yW I n ra rb rv ru e (Dd I n ra rb rv ru e hu).1
end
section
variable {X:Cx}{pins:List (ag×Obj)}{σ:St}{H:Hp}{s:ao}{ok ok':Okk}
end
noncomputable def QE (K:aa) (n:Nat):R2:=fun x y H Q=>∃ ok a b k,Rep K ok H x a/\Rep K ok H y b/\eqD n a b=zn k/\Q (.bl k) H
noncomputable def Qy (K:aa) (n:Nat):R2:=fun x y H Q=>∃ ok a b k,Rep K ok H x a/\Rep K ok H y b/\eqD n a b=zn k/\Q (.bl (!k)) H
noncomputable def gEq (n:Nat) (a b:D):Option D:=(eqD n a b).map D.bl
noncomputable def gNe (n:Nat) (a b:D):Option D:=(eqD n a b).map fun k=>D.bl (!k)
theorem aF {f:α->β} (h:o.map f=zn b):∃ a,o=zn a/\f a=b:=by
 cases o with
 |none=>cases h
 |some a=>exact⟨a,rfl,ce h⟩
abbrev IX (X:Cx) (n:Nat):Prop:=X.A.units+n<fj
section
variable {X:Cx}{e a b c:b0}{es:List b0}{f fa fb fc:DF}{fl:DL}{pos:Pos}
theorem IH (hu:IX X n):OpR X (gx .Eq) (QE X.K n):=by
 intro pins s σ H x y v u Q I rx ry h;obtain⟨ok,a,b,k,ra,rb,e,q⟩:=h;exact(Dd I n ra rb rx ry e hu).1 X.prog X.w X.xe _ ⟨.bl k,H,I,rfl,q⟩
theorem IF (hu:IX X n):OpR X (gx .NotEq) (Qy X.K n):=by
 intro pins s σ H x y v u Q I rx ry h;obtain⟨ok,a,b,k,ra,rb,e,q⟩:=h;exact(Dd I n ra rb rx ry e hu).2 X.prog X.w X.xe _ ⟨.bl (!k),H,I,rfl,q⟩
noncomputable def isN:D->Bool
 |.non=>true
 |_=>false
noncomputable def NZ (a b:D):Option D:=match b with
 |.non=>zn (.bl (isN a))
 |_=>zo
theorem NP {K:aa} (h:Rep K ok H v d):decide (v=.non)=isN d:=by
 cases h <;> simp[isN]
theorem EW {K:aa}:Fit2 K (fun x y H Q=>y=.non/\Q (.bl (decide (x=.non))) H) NZ:=fun ok H x y a b d Q h1 ra rb e k=>by
 cases b with
 |non=>
  cases e;refine⟨rb.non_inv,?_⟩;rw[NP ra];exact k _ H (Same.refl H) (.bl _)
 |_=>cases e
noncomputable def inO (f:D->Option Bool):List D->Option Bool
 |[]=>zn false
 |x::xs=>(f x).bind fun b=>(inO f xs).map fun c=>b||c
noncomputable def inD (n:Nat) (a b:D):Option Bool:=match b with
 |.lst ds=>inO (fun d=>eqD n d a) ds
 |.tup ds=>inO (fun d=>eqD n d a) ds
 |_=>zo
noncomputable def Cn (K:aa) (ok:Okk) (H:Hp) (n:Nat) (a:D) (u:af):Bool:=
 @decide (∃ x d,RelV x u/\Rep K ok H x d/\eqD n d a=zn true) (lj _)
theorem Im {a d:D} (I:Inv X pins σ H s) (r:RelV x u) (q:Rep X.K ok H x d) (e:eqD n d a=zn k):Cn X.K ok H n a u=k:=by
 unfold Cn;cases k with
 |true=>exact @decide_eq_true _ (lj _) ⟨x,d,r,q,e⟩
 |false=>
  refine @decide_eq_false _ (lj _) ?_
  rintro⟨x',d',r',q',e'⟩
  obtain rfl:=r.inj r';exact nomatch HV I n q q' e e'
theorem yL {a:D} (I:Inv X pins σ H s):∀ {xs:List V}{us:List af}{ds:List D}{k:Bool},Vals xs us->Reps X.K ok H xs ds->inO (fun d=>eqD n d a) ds=zn k->
  us.any (Cn X.K ok H n a)=k/\∀ u∈us,∃ x d,RelV x u/\Rep X.K ok H x d/\eqD n d a=zn (Cn X.K ok H n a u)
 |_,_,_,_,.nil,.nil,h=>by
  cases h;exact⟨rfl,fun u hu=>by cases hu⟩
 |_,_,_,k,.cons r rs,.cons q qs,h=>by
  obtain⟨b,e1,e2⟩:=bind_some h;obtain⟨c,e3,rfl⟩:=aF e2;obtain⟨h1,h2⟩:=yL I rs qs e3;have hb:=Im I r q e1;refine⟨by rw[mz,hb,h1],fun u hu=> ?_⟩;rcases aj.mp hu with rfl|hu
  ·exact⟨_,_,r,q,by rw[hb];exact e1⟩
  ·exact h2 u hu
noncomputable def QD (K:aa) (n:Nat):R2:=fun x y H Q=>∃ ok a b k,Rep K ok H x a/\Rep K ok H y b/\inD n a b=zn k/\Q (.bl k) H
theorem Nh (hu:IX X (n+1)):OpR X (gx .In) (QD X.K n):=by
 intro pins s σ H x y v u Q I rx ry h;obtain⟨ok,a,b,k,ra,rb,e,q⟩:=h;cases rb with
 |lst g r=>
  cases ry;obtain⟨its,rr,pl,_⟩:=I.list g.sq;obtain⟨h1,h2⟩:=yL I rr r e;refine SeqAt.in_listAt (Cn X.K ok H n a) pl.isList (fun w hw=> ?_) ⟨.bl k,H,I,?_,q⟩
  ·obtain⟨x',d',r',q',e'⟩:=h2 w (by simpa using hw);exact Fd I n q' ra r' rx e' (fS hu)
  ·rw[<- h1];simp[RelV]
 |tup g r=>
  cases ry;obtain⟨its,rr,pl,_⟩:=I.tuple g.sq;obtain⟨h1,h2⟩:=yL I rr r e;refine SeqAt.in_tupleAt (Cn X.K ok H n a) pl (fun w hw=> ?_) ⟨.bl k,H,I,?_,q⟩
  ·obtain⟨x',d',r',q',e'⟩:=h2 w (by simpa using hw);exact Fd I n q' ra r' rx e' (fS hu)
  ·rw[<- h1];simp[RelV]
 |_=>cases e
noncomputable def gIn (n:Nat) (a b:D):Option D:=(inD n a b).map D.bl
theorem Of {K:aa}:Fit2 K (QD K n) (gIn n):=fun ok H x y a b d Q h1 ra rb e k=>by
 obtain⟨c,e1,rfl⟩:=aF e;exact⟨ok,a,b,c,ra,rb,e1,k _ H (Same.refl H) (.bl _)⟩
noncomputable def tyD:D->String
 |.non=>"NoneType"
 |.bl _=>"bool"
 |.int _=>"int"
 |.str _=>"str"
 |.lst _=>"list"
 |.tup _=>"tuple"
 |.obj _=>"object"
 |.scr _=>"object"
noncomputable def Ei:D->Bool
 |.obj _=>true
 |.scr _=>true
 |_=>false
noncomputable def KB (T:String) (d:D):Option Bool:=
 if Ei d=true then zo else if T="int" then zn (match d with|.int _=>true|.bl _=>true|_=>false)
 else if T="bool" then zn (match d with|.bl _=>true|_=>false)
 else if T="str" then zn (match d with|.str _=>true|_=>false)
 else if T="list" then zn (match d with|.lst _=>true|_=>false)
 else if T="tuple" then zn (match d with|.tup _=>true|_=>false)
 else if T="dict" then zn false
 else zo
theorem Kw {K:aa} (h:KB T d=zn k):PySem.W.kitOne K (.type (tyD d)) (.type T)=zn k:=by
 unfold KB at h;split at h
 ·cases h
 rename_i hob
 split at h
 ·subst_vars;cases h;cases d <;> first|rfl|exact absurd rfl hob
 ·split at h
  ·subst_vars;cases h;cases d <;> first|rfl|exact absurd rfl hob
  ·split at h
   ·subst_vars;cases h;cases d <;> first|rfl|exact absurd rfl hob
   ·split at h
    ·subst_vars;cases h;cases d <;> first|rfl|exact absurd rfl hob
    ·split at h
     ·subst_vars;cases h;cases d <;> first|rfl|exact absurd rfl hob
     ·split at h
      ·subst_vars;cases h;cases d <;> first|rfl|exact absurd rfl hob
      ·cases h
def Re (K:aa):List V->Hp->VK->Prop:=fun xs H Q=>∃ x T d ok k,xs=[x,.ty T]/\Rep K ok H x d/\KB T d=zn k/\Q (.bl k) H
theorem Ij:CallR X (.builtin "isinstance") (Re X.K):=by
 intro pins s σ H xs us Q I r h;obtain⟨x,T,d,ok,k,rfl,q,e,hq⟩:=h;obtain⟨u,w',rfl,ru,rw'⟩:=CF r;cases rw';have fin:∀ tk,EP X pins σ Q (.bool k) { s with toks:=tk }:=fun tk=>⟨.bl k,H,I.tok _,rfl,hq⟩;have ek:=Kw (K:=X.K) e;cases q with
 |non=>cases ru;exact lr xr I.kIn ib ek (fun z=>nomatch z) fin
 |bl b=>cases ru;exact lr xt I.kIn ib ek (fun z=>nomatch z) fin
 |int i=>obtain⟨t,rfl⟩:=ru;exact lr yb I.kIn ib ek (fun z=>nomatch z) fin
 |str z=>obtain⟨t,rfl⟩:=ru;exact lr yc I.kIn ib ek (fun z=>nomatch z) fin
 |lst g r=>
  cases ru;obtain⟨its,_,⟨o,n,e1,c1,_,_⟩,_⟩:=I.list g.sq;exact lr xu I.kIn ⟨o,e1,c1⟩ ek (fun z=>nomatch z) fin
 |tup g r=>
  cases ru;obtain⟨its,_,⟨o,e1,c1,_⟩,_⟩:=I.tuple g.sq;exact lr wz I.kIn ⟨o,e1,c1⟩ ek (fun z=>nomatch z) fin
 |obj _=>exact nomatch e
 |scr _ _=>exact nomatch e
end
local macro_rules| `(tactic|walk_at "adr")=> `(tactic|((try unfold ag at*);omega))
noncomputable def rN (env:Env):List (Str×im)->List (Str×ag)->List (Str×ag)
 |[],acc=>acc
 |(n,k)::r,acc=>if k== .free then rN env r ((n,(env.cells.lookup n).getD 0)::acc) else rN env r acc
theorem sZ (f:Str×im->List (Str×ag)->Sem (ForInStep (List (Str×ag))))
  (hf:∀ name kind cs,f (name,kind) cs=if kind== .free then(do let c <- cellOf env name;pure (.yield ((name,c)::cs))) else pure (.yield cs)):
  ∀(names:List (Str×im)) (acc:List (Str×ag)),(∀ y∈names,y.2=.free->∃ c,env.cells.lookup y.1=zn c)->(forIn names acc f:Sem _)=pure (rN env names acc)
 |[],acc,_=>by rw[y9];rfl
 |(n,k)::r,acc,h=>by
  rw[List.forIn_cons,hf];have hr:∀ y∈r,y.2=.free->∃ c,env.cells.lookup y.1=zn c:=fun y hy=>h y (ak _ hy);unfold rN
  by_cases hk:(k==ic)=true
  ·rw[if_pos hk,if_pos hk];obtain⟨c,hc⟩:=h (n,k) av (by simpa using hk);have e:(cellOf env n:Sem ag)=pure c:=by unfold cellOf;rw[hc]
   rw[e,hc];simp only[pure_bind,Option.getD_some];exact sZ f hf r _ hr
  ·rw[if_neg hk,if_neg hk];simp only[pure_bind];exact sZ f hf r _ hr
theorem rM (h:∀ y∈scope.names,y.2=.free->∃ c,env.cells.lookup y.1=zn c):closureFor scope env=pure (rN env scope.names []):=by
 simp only[closureFor];rw[sZ (env:=env) _ (fun name kind cs=>by cases hk:kind==ic <;> simp[hk]) scope.names [] h];rfl
theorem mH:∀ {names:List (Str×im)}{acc:List (Str×ag)}{c:ag},(rN env names acc).lookup x=zn c->acc.lookup x=zn c∨((x,ic)∈names/\c=(env.cells.lookup x).getD 0)
 |[],acc,c,h=>.inl h
 |(n,k)::r,acc,c,h=>by
  unfold rN at h
  by_cases hk:(k==ic)=true
  ·rw[if_pos hk] at h;rcases mH h with q|⟨q1,q2⟩
   ·rw[gu] at q;cases hx:x==n with
    |true=>
     rw[hx] at q;obtain rfl:x=n:=by simpa using hx
     have hk':k=.free:=by simpa using hk
     subst hk';exact .inr ⟨av,by cases q;rfl⟩
    |false=>
     rw[hx] at q;exact .inl q
   ·exact .inr ⟨ak _ q1,q2⟩
  ·rw[if_neg hk] at h;rcases mH h with q|⟨q1,q2⟩
   ·exact .inl q
   ·exact .inr ⟨ak _ q1,q2⟩
theorem oS:∀ {names:List (Str×im)}{acc:List (Str×ag)},(∃ c,acc.lookup x=zn c)->∃ c,(rN env names acc).lookup x=zn c
 |[],acc,h=>h
 |(n,k)::r,acc,h=>by
  unfold rN;split
  ·refine oS ?_;rw[gu];cases hx:x==n with
   |true=>exact⟨_,rfl⟩
   |false=>exact h
  ·exact oS h
theorem tN:∀ {names:List (Str×im)}{acc:List (Str×ag)},(x,ic)∈names->∃ c,(rN env names acc).lookup x=zn c
 |(n,k)::r,acc,h=>by
  unfold rN;rcases aj.mp h with e|h
  ·cases e;rw[if_pos (by rfl)];exact oS ⟨_,by rw[gu,beq_self_eq_true]⟩
  ·split
   ·exact tN h
   ·exact tN h
theorem eN:∀ {names:List (Str×im)}{n:Nat}{acc:List (Str×ag)}{c:ag},(hZ n names acc).lookup x=zn c->acc.lookup x=zn c∨((x,de)∈names/\n<=c)
 |[],n,acc,c,h=>.inl h
 |(y,k)::r,n,acc,c,h=>by
  unfold hZ at h
  by_cases hk:(k==de)=true
  ·rw[if_pos hk] at h;rcases eN h with q|⟨q1,q2⟩
   ·rw[gu] at q;cases hx:x==y with
    |true=>
     rw[hx] at q;obtain rfl:x=y:=by simpa using hx
     have hk':k=.cell:=by simpa using hk
     subst hk';cases q;exact .inr ⟨av,bp _⟩
    |false=>
     rw[hx] at q;exact .inl q
   ·exact .inr ⟨ak _ q1,by walk_at "adr"⟩
  ·rw[if_neg hk] at h;rcases eN h with q|⟨q1,q2⟩
   ·exact .inl q
   ·exact .inr ⟨ak _ q1,q2⟩
theorem gG:∀ {names:List (Str×im)}{n:Nat}{acc:List (Str×ag)},(x,de)∉names->(hZ n names acc).lookup x=acc.lookup x
 |[],n,acc,_=>rfl
 |(y,k)::r,n,acc,h=>by
  have hr:(x,de)∉r:=fun z=>h (ak _ z);unfold hZ
  by_cases hk:(k==de)=true
  ·rw[if_pos hk,gG hr,gu];have hk':k=.cell:=by simpa using hk
   subst hk';cases hx:x==y with
   |true=>
    obtain rfl:x=y:=by simpa using hx
    exact absurd av h
   |false=>rfl
  ·rw[if_neg hk,gG hr]
theorem dW:∀ {names:List (Str×im)}{n:Nat}{acc:List (Str×ag)},(∃ c,acc.lookup x=zn c)->∃ c,(hZ n names acc).lookup x=zn c
 |[],n,acc,h=>h
 |(y,k)::r,n,acc,h=>by
  unfold hZ;split
  ·refine dW ?_;rw[gu];cases hx:x==y with
   |true=>exact⟨_,rfl⟩
   |false=>exact h
  ·exact dW h
theorem iF:∀ {names:List (Str×im)}{n:Nat}{acc:List (Str×ag)},(x,de)∈names->∃ c,(hZ n names acc).lookup x=zn c
 |(y,k)::r,n,acc,h=>by
  unfold hZ;rcases aj.mp h with e|h
  ·cases e;rw[if_pos (by rfl)];exact dW ⟨_,by rw[gu,beq_self_eq_true]⟩
  ·split
   ·exact iF h
   ·exact iF h
structure tZ (h:cm) (n:Nat) (acc cs:List (Str×ag)):Prop where
 cell:∀ x c,(x,c)∈cs->(x,c)∈acc∨(h.IsCell c zo/\n<=c)
 apart:∀ x y c,(x,c)∈cs->(y,c)∈cs->n<=c->x=y
theorem sG:∀(names:List (Str×im)) (h:cm) (n:Nat) (acc0 acc:List (Str×ag)),n<=h.objs.size->tZ h n acc0 acc->(∀ x c,(x,c)∈acc->c<h.objs.size)->tZ (pushCells h names) n acc0 (hZ h.objs.size names acc)
 |[],h,n,acc0,acc,_,N,_=>N
 |(y,k)::r,h,n,acc0,acc,hn,N,hlt=>by
  unfold pushCells hZ;split
  ·have:=sG r (h.push { cls:=.type "cell",data:=.cell zo }) n acc0 ((y,h.objs.size)::acc) (by rw[f8];walk_at "adr")
    ⟨fun x c hm=>by
     rcases aj.mp hm with e|hm
     ·cases e;exact .inr ⟨⟨_,br _ rfl,rfl⟩,hn⟩
     ·rcases N.cell x c hm with q|⟨q1,q2⟩
      ·exact .inl q
      ·exact .inr ⟨q1.keeps fun b o e=>aq _ e,q2⟩,
    fun x z c h1 h2 h3=>by
     rcases aj.mp h1 with e1|h1 <;> rcases aj.mp h2 with e2|h2
     ·cases e1;cases e2;rfl
     ·cases e1;exact absurd (hlt z _ h2) (d5 _)
     ·cases e2;exact absurd (hlt x _ h1) (d5 _)
     ·exact N.apart x z c h1 h2 h3⟩
    (fun x c hm=>by
     rw[f8];rcases aj.mp hm with e|hm
     ·cases e;walk_at "adr"
     ·have:=hlt x c hm;walk_at "adr")
   rw[f8] at this;exact this
  ·exact sG r h n acc0 acc hn N hlt
theorem GX
  (h:∀ h':cm,(∀ b o,s.heap.get? b=zn o->h'.get? b=zn o)->h'.Ns s.heap.objs.size (fun _=>zo)->tZ h' (s.heap.objs.size+1) cl (hZ (s.heap.objs.size+1) scope.names cl)->
   Q { scope:=scope,locals:=s.heap.objs.size,globals:=globals,cells:=hZ (s.heap.objs.size+1) scope.names cl,qual:=qual,func:=zo,code:=env.code,frame:=env.frame,builtins:=env.builtins } { s with heap:=h' })
  (hlt:∀ x c,(x,c)∈cl->c<s.heap.objs.size):au M A (vc scope globals cl [] qual zo .none (zn env)) Q E s:=by
 simp only[vc,wy,if_true];refine ae (wpAny_alloc ?_);refine ae (wpAny_layCells _ (fun name kind cells=>by cases hkc:kind==de <;> simp[hkc]) _ _ _ _ ?_);rw[show({ s with heap:=s.heap.push { cls:=.type "dict",data:=.dict #[] } }:ao).heap.objs.size=s.heap.objs.size+1 from f8 ..];rw[y9];refine ae (ai (ai (h _ (fun b o e=>pushCells_keeps _ _ b o (aq _ e)) ((Heap.Ns.new s.heap (.type "dict")).keeps (pushCells_keeps _ _)) ?_)))
 have:=sG scope.names (s.heap.push { cls:=.type "dict",data:=.dict #[] }) (s.heap.objs.size+1) cl cl (by rw[f8];walk_at "adr")
  ⟨fun x c hm=>.inl hm,fun x y c h1 h2 h3=>absurd (hlt x c h1) (by walk_at "adr")⟩ (fun x c hm=>by rw[f8];have:=hlt x c hm;walk_at "adr")
 rw[f8] at this;exact this
theorem wN (I:Nat->ao->Prop)
  (turn:∀ n s,I n s->au (model prog w) A (ka it) (fun r s₁=>match r with
   |none=>R (.ok .next) s₁
   |some v=>au (model prog w) A (qj target it v) (fun _ s₁'=>au (model prog w) A (assign target env v) (fun _ s₂=>
     au (model prog w) A (forIn ifs true fun c r=>if r=true then do let ok <- isTrue c env (eval c env);pure (ql ok) else pure (ql r)) (fun ok s₃=>
      if ok=true then au (model prog w) A (eval elt env) (fun x s₄=>
       au (model prog w) A (call (.builtin "list.append") [acc,x]) (fun _ s₅=>∃ m,m<n/\I m s₅) (fun _ _=>False) s₄) (fun _ _=>False) s₃
      else ∃ m,m<n/\I m s₃) (fun _ _=>False) s₂) (fun _ _=>False) s₁') (fun _ _=>False) s₁) (fun _ _=>False) s)
  (n:Nat) (h:I n s):kq (model prog w) A (.compLoop (.ListComp elt [⟨target,iter,ifs,0⟩] scope pos) 0 it acc env) R s:=by
 refine codeAny_loop rfl I (fun n s hI=> ?_) n h;show au _ A ((compTurn (.ListComp elt [⟨target,iter,ifs,0⟩] scope pos) 0 it acc env).onRaise (fun x=>do w8 x env;theTreesLotGoes x)) _ _ s;refine wpAny_noted ?_;rw[compTurn_list];refine ae (wc (ae (gk (turn n s hI) (fun r s₁ h₁=> ?_) fun _ _ h'=>h'.elim)));cases r with
 |none=>exact ai h₁
 |some v=>
  refine ae (gk h₁ (fun _ s₁' h₁'=> ?_) fun _ _ h'=>h'.elim);refine ae (gk h₁' (fun _ s₂ h₂=>ae (gk h₂ (fun ok s₃ h₃=> ?_) fun _ _ h'=>h'.elim)) fun _ _ h'=>h'.elim);cases ok with
  |false=>exact ai ⟨rfl,h₃⟩
  |true=>
   exact ae (ae (gk h₃ (fun x s₄ h₄=>ae (gk h₄ (fun _ s₅ h₅=>ai (ai ⟨rfl,h₅⟩)) fun _ _ h'=>h'.elim)) fun _ _ h'=>h'.elim))
noncomputable def blk (X:Cx) (N':List Str) (scope:k9) (cells:List (Str×ag)) (C:ag) (fp:List ag) (pins:List (ag×Obj)) (s₀:ao) (H₀:Hp):Cx where
 prog:=X.prog
 w:=X.w
 K:=X.K
 mg:=X.mg
 base:=X.base
 A:=X.A
 N:=N'
 s₀:=s₀
 H₀:=H₀
 env:=compEnvC scope cells C X.env
 outer:=X.stack
 stack:=X.stack
 ex:=fp
 fn:=fun x=>scope.names.lookup x==zn .cell
 calm:=X.calm
 pn:=X.pn++pins
 xe:=fun _ _=>False
def LM (X:Cx) (ifs:List b0) (tt:TT):Prop:=
 ∀(pins:List (ag×Obj)) (s:ao) (σ:St) (H:Hp) (Q:Bool->Hp->Prop),Inv X pins σ H s->tt σ H Q->
  au (model X.prog X.w) X.A (forIn ifs true fun c r=>if r=true then do let ok <- isTrue c X.env (eval c X.env);pure (ql ok) else pure (ql r)) (TP X pins σ Q) X.xe s
def QN:TT:=fun _ H Q=>Q true H
theorem KG:LM X [] QN:=fun _ _ _ H _ I h=>wpAny_tests_nil ⟨H,I,h⟩
theorem KE (h:PT X c tt):LM X [c] tt:=fun pins s σ H Q I q=>wpAny_tests_one (h pins s σ H Q I q)
noncomputable def Fx (caps:List (Option Nat)) (σ:St):St:=caps.map fun o=>o.bind fun j=>(σ[j]?).join
def Bk (X:Cx) (scope:k9) (N':List Str) (caps:List (Option Nat)):Prop:=
 caps.length=N'.length/\∀(i j:Nat),caps[i]?=zn (zn j)->∃ x,N'[i]?=zn x/\X.N[j]?=zn x/\scope.names.lookup x=zn .free/\(x,de)∉scope.names/\(X.env.scope.names.lookup x=zn .cell∨X.env.scope.names.lookup x=zn .free)
def Ja (wi:TI) (caps:List (Option Nat)) (g:TG) (tt:TT) (te:TE):TE:=fun σ H Q=>wi σ H fun J H1=>∀ D,H1 D=zo->∃ W:Nat->Nat->St->Hp->Prop,(∃ m,W 0 m (Fx caps σ) (upd H1 D (.lst [])))/\
 ∀ i m σ' H,W i m σ' H->(J.stop i H/\Q (.ref D) H)∨(J.go i H/\∀ x H',J.yld i H x H'->g x σ' H' fun σ2 H2=>tt σ2 H2 fun b H3=>
  if b=true then te σ2 H3 fun y H4=>∃ ys m',H4 D=zn (.lst ys)/\ys.length<sizeLine/\m'<m/\W (i+1) m' σ2 (upd H4 D (.lst (ys++[y]))) else ∃ m',m'<m/\W (i+1) m' σ2 H3)
section
variable {X:Cx}{elt iter tg:b0}{ifs:List b0}{scope:k9}{pos:Pos}{N':List Str}{caps:List (Option Nat)}{wi:TI}{g:TG}{tt:TT}{te:TE}
theorem fP (h:(relabel scope env).names.lookup x=zn k):scope.names.lookup x=zn k∨(k=.cell/\scope.names.lookup x=zn .free):=by
 have aux:∀(names:List (Str×im)),(names.map fun(n,k)=>if(k==ic&&env.scope.kind== .function&&env.kindOf n==zn .cell) then(n,de) else(n,k)).lookup x=zn k->
   names.lookup x=zn k∨(k=.cell/\names.lookup x=zn .free):=by
  intro names
  induction names with
  |nil=>intro h;cases h
  |cons p r ih=>
   obtain⟨n,kk⟩:=p;intro h;rw[bu] at h
   by_cases hc:(kk==ic&&env.scope.kind== .function&&env.kindOf n==zn .cell)=true
   ·have h':km x ((n,de)::(r.map fun(n,k)=>if(k==ic&&env.scope.kind== .function&&env.kindOf n==zn .cell) then(n,de) else(n,k)))=zn k:=by
     have e:(if(kk==ic&&env.scope.kind== .function&&env.kindOf n==zn .cell)=true then(n,de) else(n,kk))=(n,de):=if_pos hc;rw[<- e];exact h
    rw[gu] at h' ⊢;cases hx:x==n with
    |true=>
     rw[hx] at h';cases h';have hk:kk=.free:=by
      rw[bt,bt] at hc;simpa using hc.1.1
     exact .inr ⟨rfl,by rw[hk]⟩
    |false=>
     rw[hx] at h';exact ih h'
   ·have h':km x ((n,kk)::(r.map fun(n,k)=>if(k==ic&&env.scope.kind== .function&&env.kindOf n==zn .cell) then(n,de) else(n,k)))=zn k:=by
     have e:(if(kk==ic&&env.scope.kind== .function&&env.kindOf n==zn .cell)=true then(n,de) else(n,kk))=(n,kk):=if_neg hc;rw[<- e];exact h
    rw[gu] at h' ⊢;cases hx:x==n with
    |true=>
     rw[hx] at h';exact .inl h'
    |false=>
     rw[hx] at h';exact ih h'
 exact aux scope.names h
theorem cQ {l:List (Str×im)} (h:l.lookup x=zn k):(x,k)∈l:=gy h
theorem wK {Qn:V->Hp->Prop}{RR:af->ag->Result->ao->Prop}
  (hc:X.calm=true) (hkind:scope.kind=.function)
  (hfree:∀ y∈scope.names,y.2=.free->X.env.scope.names.lookup y.1=zn .cell∨X.env.scope.names.lookup y.1=zn .free) (huniq:∀ y∈scope.names,y.2=.free->(y.1,de)∉scope.names)
  (hcap:Bk X scope N' caps)
  (hb:∀ cells C fp pins s₀ H₀,PG (blk X N' scope cells C fp pins s₀ H₀) tg g/\LM (blk X N' scope cells C fp pins s₀ H₀) ifs tt/\PE (blk X N' scope cells C fp pins s₀ H₀) elt te)
  (I2:Inv X pins σ H2 s2) (T:LL X.prog X.w X.K tg J fp it tn) (st2:tn 0 s2.heap) (f2:∀ b∈fp,IW X pins H2 b)
  (q:∀ D,H2 D=zo->∃ W:Nat->Nat->St->Hp->Prop,(∃ m,W 0 m (Fx caps σ) (upd H2 D (.lst [])))/\
   ∀ i m σ' H,W i m σ' H->(J.stop i H/\Qn (.ref D) H)∨(J.go i H/\∀ x H',J.yld i H x H'->g x σ' H' fun σ2 H2=>tt σ2 H2 fun b H3=>
    if b=true then te σ2 H3 fun y H4=>∃ ys m',H4 D=zn (.lst ys)/\ys.length<sizeLine/\m'<m/\W (i+1) m' σ2 (upd H4 D (.lst (ys++[y]))) else ∃ m',m'<m/\W (i+1) m' σ2 H3))
  (hfin:∀(C D:ag) (s6:ao) (H6:Hp),Inv X pins σ H6 s6->Qn (.ref D) H6->(∃ m,s6.heap.Ns C m)->H6 C=zo->C≠X.env.locals->X.s₀.heap.objs.size<=C->(∀ x c,X.env.cells.lookup x=zn c->c≠C)->(∀ p∈X.pn++pins,p.1≠C)->RR (.ref D) C (.ok .next) s6):
  au (model X.prog X.w) X.A (newList []) (fun acc s₃=>au (model X.prog X.w) X.A (vc scope X.env.globals (rN X.env scope.names []) [] X.env.qual zo .none (zn X.env)) (fun cenv s₄=>
   kq (model X.prog X.w) X.A (.compStart (.ListComp elt [⟨tg,iter,ifs,0⟩] scope pos) 0 (.ref it) acc { cenv with scope:=relabel scope X.env }) (RR acc cenv.locals) s₄) E s₃) E s2:=by
 have hcells:∀ y∈scope.names,y.2=.free->∃ c,X.env.cells.lookup y.1=zn c:=fun y hy hf=>I2.ok.has y.1 (hfree y hy hf);have hD:H2 s2.heap.objs.size=zo:=I2.hok.fresh (bp _);obtain⟨W,⟨m0,w0⟩,turn⟩:=q s2.heap.objs.size hD;refine di ?_ (i4 _)
 generalize hs3:({ s2 with heap:=s2.heap.push { cls:=.type "list",dict:=zo,data:=.seq ([]:List af).toArray } }:ao)=s3
 have I3:Inv X pins σ (upd H2 s2.heap.objs.size (.lst [])) s3:=by
  subst hs3;exact I2.laid (t':=s2.toks) (fun b u e=>aq _ e) (bp _) ⟨i4 _,[],0,.nil,br _ rfl⟩
 have sz3:s3.heap.objs.size=s2.heap.objs.size+1:=by rw[<- hs3];exact f8 ..
 have k23:∀ b o,s2.heap.get? b=zn o->s3.heap.get? b=zn o:=fun b o e=>by rw[<- hs3];exact aq _ e
 generalize hH3:upd H2 s2.heap.objs.size (.lst [])=H3 at I3 w0
 have clLook:∀ x c,(rN X.env scope.names []).lookup x=zn c->X.env.cells.lookup x=zn c:=fun x c e=>by
  rcases mH e with z|⟨z1,z2⟩
  ·cases z
  ·obtain⟨c',hc'⟩:=hcells (x,.free) z1 rfl;rw[hc'] at z2 ⊢;rw[z2];rfl
 have clMem:∀ x c,(x,c)∈rN X.env scope.names []->∃ c',X.env.cells.lookup x=zn c'/\c=c':=by
  have aux:∀(names:List (Str×im)) (acc:List (Str×ag)),(∀ y∈names,y.2=.free->∃ c,X.env.cells.lookup y.1=zn c)->(∀ x c,(x,c)∈acc->∃ c',X.env.cells.lookup x=zn c'/\c=c')->
    ∀ x c,(x,c)∈rN X.env names acc->∃ c',X.env.cells.lookup x=zn c'/\c=c':=by
   intro names
   induction names with
   |nil=>intro acc _ h x c hm;exact h x c hm
   |cons p r ih=>
    obtain⟨n,k⟩:=p;intro acc hn h x c hm;unfold rN at hm;have hr:∀ y∈r,y.2=.free->∃ c,X.env.cells.lookup y.1=zn c:=fun y hy=>hn y (ak _ hy);split at hm
    ·rename_i hk
     refine ih _ hr (fun x c hm=> ?_) x c hm;rcases aj.mp hm with e|hm
     ·cases e;obtain⟨c',hc'⟩:=hn (n,k) av (by simpa using hk);exact⟨c',hc',by rw[hc'];rfl⟩
     ·exact h x c hm
    ·exact ih _ hr h x c hm
  exact aux scope.names [] hcells (fun x c hm=>by cases hm)
 have cellLt:∀ x c,X.env.cells.lookup x=zn c->c<s2.heap.objs.size:=fun x c e=>by
  obtain⟨v,z⟩:=I2.cell x c e;exact z.lt
 have hltc:∀ x c,(x,c)∈rN X.env scope.names []->c<s3.heap.objs.size:=fun x c hm=>by
  obtain⟨c',hc',rfl⟩:=clMem x c hm
  have:=cellLt x c hc'
  walk_at "adr"
 refine GX (fun h4 k34 ns4 nc=> ?_) hltc
 generalize hC:s3.heap.objs.size=C at ns4 nc
 generalize hcs:hZ (C+1) scope.names (rN X.env scope.names [])=cells at nc
 -- the block's own invariant
 have cellOld:∀ x c,cells.lookup x=zn c->c<C->X.env.cells.lookup x=zn c:=fun x c e hlt=>by
  rw[<- hcs] at e;rcases eN e with z|⟨_,z⟩
  ·exact clLook x c z
  ·walk_at "adr"
 have cellNew:∀ x c,cells.lookup x=zn c->¬ c<C->h4.IsCell c zo/\C+1<=c:=fun x c e hge=>by
  rcases nc.cell x c (gy e) with z|z
  ·obtain⟨c',hc',rfl⟩:=clMem x c z
   have:=cellLt x c hc'
   walk_at "adr"
  ·exact z
 have sz4:C<=h4.objs.size:=jg ns4.lt;have okB:(blk X N' scope cells C fp pins s3 H3).Ok:=by
  refine⟨I3.ok.mod,hkind,I3.ok.glob,I3.ok.blt,wq hC,fun x y c h1 h2=> ?_,fun x hx=> ?_,fun x c hf hx=> ?_,I3.ok.hd,I3.ok.frames,.inl rfl,fun b hb=>⟨?_,fun x c hx=> ?_⟩,I3.bs,cu I3.ok.bsz I3.sz,fun b o e hb=> ?_,fun b hb=> ?_,I3.stack,I3.stkFree⟩
  ·by_cases hlt:c<C
   ·exact I3.ok.inj x y c (cellOld x c h1 hlt) (cellOld y c h2 hlt)
   ·exact nc.apart x y c (gy h1) (gy h2) (cellNew x c h1 hlt).2
  ·show ∃ c,cells.lookup x=zn c;rw[<- hcs];have hx':(relabel scope X.env).names.lookup x=zn .cell∨(relabel scope X.env).names.lookup x=zn .free:=hx;have fromFree:(x,ic)∈scope.names->∃ c,(hZ (C+1) scope.names (rN X.env scope.names [])).lookup x=zn c:=fun hm=>dW (tN hm);rcases hx' with hx'|hx'
   ·rcases fP hx' with z|⟨_,z⟩
    ·exact iF (cQ z)
    ·exact fromFree (cQ z)
   ·rcases fP hx' with z|⟨z,_⟩
    ·exact fromFree (cQ z)
    ·cases z
  ·have hf':(x,de)∈scope.names:=cQ (by simpa using (show(scope.names.lookup x==zn .cell)=true from hf))
   by_cases hlt:c<C
   ·exfalso
    have e:(hZ (C+1) scope.names (rN X.env scope.names [])).lookup x=zn c:=by rw[hcs];exact hx
    rcases eN e with z|⟨_,z⟩
    ·rcases mH z with z|⟨z1,_⟩
     ·cases z
     ·exact huniq (x,.free) z1 rfl hf'
    ·walk_at "adr"
   ·show s3.heap.objs.size<=c
    have:=(cellNew x c hx hlt).2
    walk_at "adr"
  ·have:=(f2 b hb)
   obtain⟨o,e,_⟩:=T.obj 0 _ st2 b hb
   have:=bj e
   show b≠C
   walk_at "adr"
  ·obtain⟨o,e,hcell⟩:=T.obj 0 _ st2 b hb;have hlt':=bj e;intro z
   by_cases hlt:c<C
   ·exact(f2 b hb).2.2.2.2.1 x c (cellOld x c hx hlt) z
   ·have:=(cellNew x c hx hlt).2
    walk_at "adr"
  ·rcases(f2 b hb).2.2.2.1 with z|z
   ·exact I2.ok.noex b o e z
   ·have q1:=bj e;have q2:=I2.ok.bsz;have q3:=I2.sz;exact absurd (ck q1 (cu q2 z)) (d5 _)
  ·intro z;rcases aj.mp (I3.stkSub b z) with z|z
   ·exact(f2 b hb).2.1 z
   ·exact(f2 b hb).2.2.1 z
 have hfpC:∀ b∈fp,b<C:=fun b hb=>by
  obtain⟨o,e,_⟩:=T.obj 0 _ st2 b hb
  have:=bj e
  walk_at "adr"
 have Hnew:∀ b,C<=b->H3 b=zo:=fun b hb=>by
  cases z:H3 b with
  |none=>rfl
  |some o=>
   have:=I3.hok.lt z
   walk_at "adr"
 have IB:Inv (blk X N' scope cells C fp pins s3 H3) [] (Fx caps σ) H3 { s3 with heap:=h4 }:=by
  refine⟨okB,rfl,I3.bare,Un.kept k34,⟨_,ns4,fun i x v e1 e2 e3=> ?_⟩,fun x c hx=> ?_,Hnew C (bp _),fun x c hx=> ?_,fun p hp=> ?_,I3.hok.kept k34,?_⟩
  ·-- a captured name
   have e2':(Fx caps σ)[i]?=zn (zn v):=e2;unfold Fx at e2';rw[bg] at e2';cases hci:caps[i]? with
   |none=>rw[hci] at e2';cases e2'
   |some o=>
    rw[hci] at e2';cases o with
    |none=>cases e2'
    |some j=>
     obtain⟨x',hx1,hx2,hx3,hx4,hx5⟩:=hcap.2 i j hci;have ex:x=x':=by
      have e1':N'[i]?=zn x:=e1;rw[hx1] at e1';exact(ce e1').symm
     subst ex;have hσ:σ[j]?=zn (zn v):=by
      have z:(σ[j]?).join=zn v:=ce e2';cases hj:σ[j]? with
      |none=>rw[hj] at z;cases z
      |some o=>
       rw[hj] at z;cases o with
       |none=>cases z
       |some v'=>cases z;rfl
     obtain⟨m,hn,hl⟩:=I3.loc;obtain⟨u,r,l⟩:=hl j x v hx2 hσ (hx5.elim (fun z=>.inr (.inl z)) fun z=>.inr (.inr z));refine⟨u,r,?_⟩;rcases l with⟨k,_⟩|⟨_,c,hcx,hcell⟩
     ·have k':X.env.scope.names.lookup x=zn .local:=k;rcases hx5 with z|z
      ·rw[k'] at z;cases z
      ·rw[k'] at z;cases z
     ·have hlk:cells.lookup x=zn c:=by
       rw[<- hcs,gG hx4];obtain⟨c',hc'⟩:=tN (env:=X.env) (acc:=[]) (cQ hx3);rw[hc',<- clLook x c' hc',hcx]
      have e3':(relabel scope X.env).names.lookup x=zn .local∨(relabel scope X.env).names.lookup x=zn .cell∨(relabel scope X.env).names.lookup x=zn .free:=e3;rcases e3' with z|z|z
      ·exfalso
       rcases fP z with z|⟨z,_⟩
       ·rw[hx3] at z;cases z
       ·cases z
      ·exact .inr ⟨.inl z,c,hlk,hcell.keeps k34⟩
      ·exact .inr ⟨.inr z,c,hlk,hcell.keeps k34⟩
  ·by_cases hlt:c<C
   ·obtain⟨v,z⟩:=I3.cell x c (cellOld x c hx hlt);exact⟨v,z.keeps k34⟩
   ·exact⟨zo,(cellNew x c hx hlt).1⟩
  ·by_cases hlt:c<C
   ·exact I3.freeC x c (cellOld x c hx hlt)
   ·exact Hnew c (by walk_at "adr")
  ·have hp':p∈X.pn++pins:=by
    have hp'':p∈(X.pn++pins)++[]:=hp;rwa [dr] at hp''
   obtain⟨e,n,ne,nf,d⟩:=I3.pin p hp';refine⟨k34 _ _ e,n,?_,fun z=> ?_,d⟩
   ·show p.1≠C
    have:=bj e
    walk_at "adr"
   ·rcases aj.mp (I3.stkSub p.1 z) with z|z
    ·exact ne z
    ·exact nf z
  ·show(Fx caps σ).length=N'.length
   unfold Fx;rw[am];exact hcap.1
 have tn4:tn 0 h4:=T.keep 0 _ _ st2 fun b hb o e=>k34 b o (k23 b o e);have fr3:∀ b∈fp,H3 b=zo:=fun b hb=>by
  obtain⟨o,e,_⟩:=T.obj 0 _ st2 b hb;rw[<- hH3,aE (cf (bj e))];exact(f2 b hb).1
 have stat:∀ {H':Hp},(∀ b∈fp,H' b=zo)->∀ b∈fp,IW (blk X N' scope cells C fp pins s3 H3) [] H' b:=fun hn b hb=>
  ⟨hn b hb,cf (hfpC b hb),fun z=>okB.exfs b hb z,.inl hb,fun x c hx=>(okB.exf b hb).2 x c hx,fun p hp=>by
   have hp':p∈X.pn++pins:=by
    have hp'':p∈(X.pn++pins)++[]:=hp;rwa [dr] at hp''
   exact(f2 b hb).2.2.2.2.2 p hp'⟩
 obtain⟨hG,hT,hE⟩:=hb cells C fp pins s3 H3;have loop:kq (model X.prog X.w) X.A (.compLoop (.ListComp elt [⟨tg,iter,ifs,0⟩] scope pos) 0 (.ref it) (.ref s2.heap.objs.size) (compEnvC scope cells C X.env)) (RR (.ref s2.heap.objs.size) C) { s3 with heap:=h4 }:=by
  refine wN (fun n s'=>∃ i σ' H',Inv (blk X N' scope cells C fp pins s3 H3) [] σ' H' s'/\tn i s'.heap/\(∀ b∈fp,H' b=zo)/\W i n σ' H') ?_ m0 ⟨0,_,_,IB,tn4,fr3,w0⟩;rintro n s5 ⟨i,σ5,H5,I5,st5,fr5,w5⟩;rcases turn i n σ5 H5 w5 with⟨stop,qn⟩|⟨go,step⟩
  ·refine thn (T.done (blk X N' scope cells C fp pins s3 H3) rfl rfl rfl hc i [] s5 σ5 H5 _ I5 (stat fr5) st5 stop) fun r s6 ⟨hr,I6⟩=> ?_;subst hr;obtain⟨m6,ns6,_⟩:=I6.loc;have un7:Un (frs X.stack) fp H3 H5 s3.heap s6.heap:=I6.base;have I8:Inv X pins σ H5 s6:=by
    refine I3.call' (ch:=fp) I6.os un7 I6.hok I6.bare fun b hb=>⟨?_,(f2 b hb).2.1,(f2 b hb).2.2.2.2.1,(f2 b hb).2.2.2.2.2⟩;exact(f2 b hb).2.2.2.1
   refine hfin C s2.heap.objs.size s6 H5 I8 qn ⟨m6,ns6⟩ I6.free ?_ (by have:=I3.sz;walk_at "adr") (fun x c e=> ?_) fun p hp=> ?_
   ·have:=I3.lt
    walk_at "adr"
   ·have:=cellLt x c e
    walk_at "adr"
   ·have:=bj (I3.pin p hp).1
    walk_at "adr"
  ·refine thn (T.item (blk X N' scope cells C fp pins s3 H3) rfl rfl rfl hc i [] s5 σ5 H5 _ I5 (stat fr5) st5 go) fun r s6 ⟨u,hr,h6⟩=> ?_;subst hr;refine thn h6 fun _ s7 ⟨x,H7,I7,r7,y7,st7,fr7⟩=> ?_;have I7':=I7.pinned (stat fr7) (T.obj _ _ st7);have keepTn:∀ {σ':St}{H':Hp}{s':ao},Inv (blk X N' scope cells C fp pins s3 H3) ([]++vE fp s7.heap) σ' H' s'->tn (i+1) s'.heap/\∀ b∈fp,H' b=zo:=fun {σ' H' s'} I'=>by
    refine⟨T.keep _ _ _ st7 fun b hb o e=>(I'.pin (b,o) (dh _ (dh _ (iN hb e)))).1,fun b hb=> ?_⟩;obtain⟨o,e,d⟩:=T.obj _ _ st7 b hb;exact(I'.pin (b,o) (dh _ (dh _ (iN hb e)))).2.1
   refine thn (hG _ s7 σ5 H7 x u _ I7' r7 (step x H7 y7)) fun _ s8 ⟨σ8,H8,I8,q8⟩=> ?_;refine thn (hT _ s8 σ8 H8 _ I8 q8) fun b s9 ⟨H9,I9,q9⟩=> ?_;cases b with
   |false=>
    rw[if_neg cg] at q9 ⊢;obtain⟨m',hm,w9⟩:=q9;exact⟨m',hm,i+1,σ8,H9,I9.unpinned,(keepTn I9).1,(keepTn I9).2,w9⟩
   |true=>
    rw[if_pos rfl] at q9 ⊢;refine thn (hE _ s9 σ8 H9 _ I9 q9) fun y s10 ⟨yv,H10,I10,r10,q10⟩=> ?_;obtain⟨ys,m',hy,hz,hm,w10⟩:=q10;refine thn (vM _ s10 σ8 H10 (.ref s2.heap.objs.size) [yv] (.ref s2.heap.objs.size) [y] (fun _ H'=>H'=upd H10 s2.heap.objs.size (.lst (ys++[yv]))) I10 rfl (.cons r10 .nil) ⟨_,ys,yv,rfl,rfl,hy,hz,rfl⟩) fun _ s11 ⟨_,H11,I11,_,e11⟩=> ?_;subst e11;exact⟨m',hm,i+1,σ8,_,I11.unpinned,(keepTn I11).1,(keepTn I11).2,w10⟩
 exact codeAny_compStart_list loop (T.self X.A 0 _ _ _ tn4 loop)
theorem Jz (hc:X.calm=true) (hkind:scope.kind=.function) (hnames:∀ x∈scope.names,x.2=.local->scope.names.lookup x.1=zn .local)
  (hfree:∀ y∈scope.names,y.2=.free->X.env.scope.names.lookup y.1=zn .cell∨X.env.scope.names.lookup y.1=zn .free) (huniq:∀ y∈scope.names,y.2=.free->(y.1,de)∉scope.names)
  (hcap:Bk X scope N' caps) (hi:PI X tg iter wi)
  (hb:∀ cells C fp pins s₀ H₀,PG (blk X N' scope cells C fp pins s₀ H₀) tg g/\LM (blk X N' scope cells C fp pins s₀ H₀) ifs tt/\PE (blk X N' scope cells C fp pins s₀ H₀) elt te)
  (hs:∀ x,g7 iter X.env x=pure x:=by intro _;rfl):PE X (.ListComp elt [⟨tg,iter,ifs,0⟩] scope pos) (Ja wi caps g tt te):=by
 intro pins s σ H Q I h;have hclos:=rM (scope:=scope) (env:=X.env) fun y hy hf=>I.ok.has y.1 (hfree y hy hf);rw[eval_ListComp];refine ub (use:=zo) rfl hs hclos hkind hnames (thn (hi pins s σ H _ I h) fun v s1 h1=>thn h1 fun itv s2 h2=> ?_);obtain⟨it,fp,tn,J,H2,e,I2,T,st2,f2,q⟩:=h2;subst e;refine wK (RR:=fun acc C=>compPost (model X.prog X.w) X.A X.xe zo (EP X pins σ Q) acc C) (Qn:=fun v H=>∀ a,v=.ref a->Q (.ref a) H) hc hkind hfree huniq hcap hb I2 T st2 f2 (fun D hD=> ?_) fun C D s6 H6 I6 q6 ⟨m6,ns6⟩ hC h1 h2 h3 h4=> ?_
 ·obtain⟨W,w0,turn⟩:=q D hD;refine⟨W,w0,fun i m σ' H w=> ?_⟩;rcases turn i m σ' H w with⟨a,b⟩|z
  ·exact .inl ⟨a,fun c hc=>by cases hc;exact b⟩
  ·exact .inr z
 ·refine⟨m6,ns6,fun h7 sb=> ?_⟩;have I8:Inv X pins σ H6 { s6 with heap:=h7 }:=I6.turned (t':=s6.toks) (fun b o hb e=>(sb.2 b hb).trans e) hC h1 (.inr h2) h3 h4;exact⟨.ref D,H6,I8,rfl,q6 D rfl⟩
def LZ (wi:TI) (caps:List (Option Nat)) (g:TG) (tt:TT) (te:TE) (i:Nat):TS:=fun D σ H=>Ja wi caps g tt te σ H fun x H1=>D.nx (σ.set i (zn x)) H1
theorem Js (hN:X.N.Nodup) (hiy:X.N[i]?=zn y) (hy:X.env.scope.names.lookup y=zn .local) (hc:X.calm=true) (hkind:scope.kind=.function) (hnames:∀ x∈scope.names,x.2=.local->scope.names.lookup x.1=zn .local)
  (hfree:∀ y∈scope.names,y.2=.free->X.env.scope.names.lookup y.1=zn .cell∨X.env.scope.names.lookup y.1=zn .free) (huniq:∀ y∈scope.names,y.2=.free->(y.1,de)∉scope.names)
  (hcap:Bk X scope N' caps) (hi:PI X tg iter wi)
  (hb:∀ cells C fp pins s₀ H₀,PG (blk X N' scope cells C fp pins s₀ H₀) tg g/\LM (blk X N' scope cells C fp pins s₀ H₀) ifs tt/\PE (blk X N' scope cells C fp pins s₀ H₀) elt te)
  (hsw:jw (.ListComp elt [⟨tg,iter,ifs,0⟩] scope pos) (zn (.Name y py)) spos.line X.env=pure true:=by rfl)
  (hs:∀ x,g7 iter X.env x=pure x:=by intro _;rfl):PS X (.Assign [.Name y py] (.ListComp elt [⟨tg,iter,ifs,0⟩] scope pos) spos) (LZ wi caps g tt te i):=by
 intro pins s σ H D I h;have hclos:=rM (scope:=scope) (env:=X.env) fun y hy hf=>I.ok.has y.1 (hfree y hy hf);rw[exec_Assign_Name_used _ _ _ _ hsw];refine ae (wc (ae ?_));show au _ X.A (do let _ <- comprehension (.ListComp elt [⟨tg,iter,ifs,0⟩] scope pos) scope X.env _ (newList []) false (eval iter X.env) (zn (assign (.Name y py) X.env))) _ _ s;refine ae (gk (ub (use:=zn (assign (.Name y py) X.env)) (Q:=fun _ s'=>SP X pins D .next s') rfl hs hclos hkind hnames
  (thn (hi pins s σ H _ I h) fun v s1 h1=>thn h1 fun itv s2 h2=> ?_)) (fun _ s' hq=>ai (ai hq)) fun _ _ e=>e)
 obtain⟨it,fp,tn,J,H2,e,I2,T,st2,f2,q⟩:=h2;subst e;refine wK (RR:=fun acc C=>compPost (model X.prog X.w) X.A X.xe (zn (assign (.Name y py) X.env)) (fun _ s'=>SP X pins D .next s') acc C) (Qn:=fun v H=>∀ a,v=.ref a->D.nx (σ.set i (zn (.ref a))) H) hc hkind hfree huniq hcap hb I2 T st2 f2 (fun D' hD=> ?_) fun C D' s6 H6 I6 q6 ⟨m6,ns6⟩ hC h1 h2 h3 h4=> ?_
 ·obtain⟨W,w0,turn⟩:=q D' hD;refine⟨W,w0,fun i m σ' H w=> ?_⟩;rcases turn i m σ' H w with⟨a,b⟩|z
  ·exact .inl ⟨a,fun c hc=>by cases hc;exact b⟩
  ·exact .inr z
 ·show au _ X.A (assign (.Name y py) X.env (.ref D')) _ _ _;refine wpAny_assign_Name (uP I6 hN hiy (.inl hy) (v:=.ref D') (u:=.ref D') rfl (fun s7 I7 ⟨a,sb,ha⟩=> ?_) (.inr hy));have hCa:C≠a:=by
   rcases ha with rfl|ha
   ·exact h1
   ·exact fun z=>h3 y a ha z.symm
  refine⟨m6,ns6.sameBut sb hCa,fun h8 sb8=> ?_⟩;have I8:Inv X pins (σ.set i (zn (.ref D'))) H6 { s7 with heap:=h8 }:=I7.turned (t':=s7.toks) (fun b o hb e=>(sb8.2 b hb).trans e) hC h1 (.inr h2) h3 h4;exact⟨_,H6,I8,q6 D' rfl⟩
end
local macro_rules| `(tactic|walk_at "adr")=> `(tactic|((try unfold ag at*);omega))
noncomputable def Itz (K:aa) (l1 l2:ag):It:=
 ⟨fun i H=>∃ xs ys x y,SqL K H l1 xs/\SqL K H l2 ys/\xs[i]?=zn x/\ys[i]?=zn y,
  fun i H v H'=>∃ T x y,v=.ref T/\H T=zo/\(∀ xs,SqL K H l1 xs->xs[i]?=zn x)/\(∀ ys,SqL K H l2 ys->ys[i]?=zn y)/\H'=upd H T (.tup [x,y]),
  fun i H=>∃ xs ys,SqL K H l1 xs/\SqL K H l2 ys/\(xs.length<=i∨ys.length<=i)⟩
theorem FZ {K:aa}{z TI TO i1 i2 l1 l2:ag} (D:ZipApart z TI TO i1 i2 l1 l2):LL P w K (.Tuple es k pos) (Itz K l1 l2) [z,TI,TO,i1,i2] z
  (fun i h=>IsZip h z TI TO .none/\IsPair h TI (.ref i1) (.ref i2)/\(∃ a b,IsPair h TO a b)/\h.IsListIter i1 l1 i/\h.IsListIter i2 l2 i) where
 mem:=by simp
 obj:=fun i h st b hb=>by
  obtain⟨hz,hTI,⟨a,b',hTO⟩,⟨o1,e1,c1,d1⟩,⟨o2,e2,c2,d2⟩⟩:=st;simp only[aj,cq,or_false] at hb;rcases hb with rfl|rfl|rfl|rfl|rfl
  ·exact⟨_,hz,fun v q=>by cases (show Data.fields _=wp v from q)⟩
  ·exact⟨_,hTI,fun v q=>by cases (show Data.seq _ _=wp v from q)⟩
  ·exact⟨_,hTO,fun v q=>by cases (show Data.seq _ _=wp v from q)⟩
  ·exact⟨o1,e1,fun v q=>by rw[d1] at q;cases q⟩
  ·exact⟨o2,e2,fun v q=>by rw[d2] at q;cases q⟩
 keep:=fun i h h' st kp=>by
  obtain⟨hz,hTI,⟨a,b',hTO⟩,h1,h2⟩:=st;exact⟨kp z (by simp) _ hz,kp TI (by simp) _ hTI,⟨a,b',kp TO (by simp) _ hTO⟩,h1.at fun o e=>kp i1 (by simp) o e,h2.at fun o e=>kp i2 (by simp) o e⟩
 item:=by
  intro X hP hw hK hc i pins s σ H E I hf st hg;subst hP hw hK;obtain⟨hz,hTI,⟨a,b',hTO⟩,h1,h2⟩:=st;obtain⟨xs,ys,x,y,hq1,hq2,hx,hy⟩:=hg;obtain⟨its1,rv1,p1,hz1⟩:=I.list hq1;obtain⟨its2,rv2,p2,hz2⟩:=I.list hq2;obtain⟨u1,hu1,ru1⟩:=rv1.get hx;obtain⟨u2,hu2,ru2⟩:=rv2.get hy;have lt:∀ {c:ag}{o:Obj},s.heap.get? c=zn o->c<s.heap.objs.size:=fun e=>bj e;refine wpAny_pyNext_zip_item D hz hTI hTO h1 h2 p1.isList p2.isList (x:=u1) (y:=u2) (by simpa using hu1) (by simpa using hu2) fun h' a1 a2 a3 a4 a5 a6 hk=> ?_;refine⟨_,rfl,wpAny_letOwnedTupleGo_zip (s:={ s with heap:=h' }) a1 fun h'' z1 sb=> ?_⟩;have hTf:H s.heap.objs.size=zo:=I.hok.fresh (bp _);have hzlt:=lt hz;have up:∀ b o,b≠z->b≠TO->b≠i1->b≠i2->s.heap.get? b=zn o->h''.get? b=zn o:=fun b o n1 n2 n3 n4 e=>(sb.2 b n1).trans (hk b o n1 n2 n3 n4 e);have fpb:∀ b,b=z∨b=TO∨b=i1∨b=i2->b∈[z,TI,TO,i1,i2]:=fun b hb=>by
   rcases hb with rfl|rfl|rfl|rfl <;> simp
  have nT:∀ b,b∈[z,TI,TO,i1,i2]->b≠s.heap.objs.size:=fun b hb=>by
   obtain⟨o1,e1,_⟩:=h1;obtain⟨o2,e2,_⟩:=h2;simp only[aj,cq,or_false] at hb;rcases hb with rfl|rfl|rfl|rfl|rfl
   ·exact cf (lt hz)
   ·exact cf (lt hTI)
   ·exact cf (lt hTO)
   ·exact cf (lt e1)
   ·exact cf (lt e2)
  have trk:∀ b u,H b=zn u->b∉[z,TI,TO,i1,i2]:=fun b u e hb=>by
   rw[(hf b hb).1] at e;cases e
  have upH:∀ b u o,H b=zn u->s.heap.get? b=zn o->h''.get? b=zn o:=fun b u o e q=>
   up b o (fun w=>trk b u e (fpb b (.inl w))) (fun w=>trk b u e (fpb b (.inr (.inl w)))) (fun w=>trk b u e (fpb b (.inr (.inr (.inl w))))) (fun w=>trk b u e (fpb b (.inr (.inr (.inr w))))) q
  have hTup:IsTup h'' s.heap.objs.size #[u1,u2]:=⟨_,(sb.2 _ (t7 hzlt)).trans a5,rfl,_,rfl⟩;have hok:HOk X.prog X.w (upd H s.heap.objs.size (.tup [x,y])) h'':=fun b u e=>by
   by_cases hb:b=s.heap.objs.size
   ·subst hb;rw[aJ] at e;cases e;exact⟨by show 2<=sizeLine;decide,[u1,u2],.cons ru1 (.cons ru2 .nil),hTup⟩
   ·rw[aE hb] at e;refine(I.hok b u e).stay (fun c v hcb q=> ?_) (fun c q=>by rw[aE (aG q hTf)];exact q) fun c zs q=>by rw[aE (aG q hTf)];exact q
    rcases hcb with rfl|hcb
    ·exact upH _ _ v e q
    ·exact upH _ _ v hcb q
  have I2:Inv X pins σ (upd H s.heap.objs.size (.tup [x,y])) { s with heap:=h'' }:=by
   refine I.step (g':=s.gens) (d':=s.drawn) (t':=s.toks) (ch:=[z,TO,i1,i2]) (fun b hb=> ?_) (fun b o hL hb hcb e n=> ?_) (fun b o hL hb hcb e n=>⟨o.slots,?_⟩) (fun b o hcb e n=> ?_) (fun b o hcb e=>⟨o,?_⟩)
    (fun b zs e=>by rw[aE (aG e hTf)];exact e) (fun b ob zs e=>by rw[aE (aG e hTf)];exact e) (fun b ps e=>⟨#[],by rw[aE (aG e hTf),e];simp⟩) (fun m hm=> ?_) hok I.bare
   ·have hb':b∈[z,TI,TO,i1,i2]:=by
     simp only[aj,cq,or_false] at hb;exact fpb b hb
    obtain⟨f0,f1,f2,f3,f4,f5⟩:=hf b hb';exact⟨f3,f1,f4,f5⟩
   ·simp only[aj,cq,or_false,not_or] at hcb;exact up b o hcb.1 hcb.2.1 hcb.2.2.1 hcb.2.2.2 e
   ·simp only[aj,cq,or_false,not_or] at hcb;exact up b o hcb.1 hcb.2.1 hcb.2.2.1 hcb.2.2.2 e
   ·rw[aE (cf (lt e))];exact n
   ·simp only[aj,cq,or_false,not_or] at hcb;exact up b o hcb.1 hcb.2.1 hcb.2.2.1 hcb.2.2.2 e
   ·obtain⟨o,es',ep,ho,r⟩:=hm;exact⟨o,es',ep,up _ o (fun q=>(hf z (by simp)).2.1 q.symm) (fun q=>(hf TO (by simp)).2.1 q.symm) (fun q=>(hf i1 (by simp)).2.1 q.symm) (fun q=>(hf i2 (by simp)).2.1 q.symm) ho,r⟩
  refine⟨.ref s.heap.objs.size,_,I2,rfl,⟨s.heap.objs.size,x,y,rfl,hTf,fun zs q=>by rw[I.list_inj q hq1];exact hx,fun zs q=>by rw[I.list_inj q hq2];exact hy,rfl⟩,?_,fun b hb=> ?_⟩
  ·exact⟨z1,(sb.2 _ D.TIz).trans (hk _ _ D.TIz D.TITO D.TIi1 D.TIi2 hTI),⟨_,_,(sb.2 _ D.TOz).trans a2⟩,a3.at fun o e=>(sb.2 _ D.i1z).trans e,a4.at fun o e=>(sb.2 _ D.i2z).trans e⟩
  ·rw[aE (nT b hb)];exact(hf b hb).1
 done:=by
  intro X hP hw hK hc i pins s σ H E I hf st hg;subst hP hw hK;obtain⟨hz,hTI,⟨a,b',hTO⟩,h1,h2⟩:=st;obtain⟨xs,ys,hq1,hq2,hx⟩:=hg;obtain⟨its1,rv1,p1,hz1⟩:=I.list hq1;obtain⟨its2,rv2,p2,hz2⟩:=I.list hq2;have hl1:=rv1.length;have hl2:=rv2.length;refine wpAny_pyNext_zip_end (I.ok.hd hc) D hz hTI hTO h1 h2 p1.isList p2.isList ?_ fun h' hk=>⟨rfl,?_⟩
  ·rcases hx with hx|hx
   ·exact .inl (by simp;omega)
   ·exact .inr (by simp;omega)
  ·have trk:∀ b u,H b=zn u->b∉[z,TI,TO,i1,i2]:=fun b u e hb=>by
    rw[(hf b hb).1] at e;cases e
   have up:∀ b o,b∉[z,TO,i1,i2]->s.heap.get? b=zn o->h'.get? b=zn o:=fun b o hb e=>by
    simp only[aj,cq,or_false,not_or] at hb;exact hk b o hb.1 hb.2.1 hb.2.2.1 hb.2.2.2 e
   have sub:∀ b,b∈[z,TO,i1,i2]->b∈[z,TI,TO,i1,i2]:=fun b hb=>by
    simp only[aj,cq,or_false] at hb ⊢;rcases hb with rfl|rfl|rfl|rfl <;> simp
   refine I.step (g':=s.gens) (d':=s.drawn) (t':=s.toks) (ch:=[z,TO,i1,i2]) (fun b hb=> ?_) (fun b o hL hb hcb e n=>up b o hcb e) (fun b o hL hb hcb e n=>⟨o.slots,up b o hcb e⟩) (fun b o hcb e n=>n) (fun b o hcb e=>⟨o,up b o hcb e⟩)
    (fun b zs e=>e) (fun b ob zs e=>e) (fun b ps e=>⟨#[],by rw[e];simp⟩) (fun m hm=> ?_) (fun b u e=> ?_) I.bare
   ·obtain⟨f0,f1,f2,f3,f4,f5⟩:=hf b (sub b hb);exact⟨f3,f1,f4,f5⟩
   ·obtain⟨o,es',ep,ho,r⟩:=hm;exact⟨o,es',ep,up _ o (fun q=>(hf _ (sub _ q)).2.1 rfl) ho,r⟩
   ·refine(I.hok b u e).stay (fun c v hcb q=>up c v (fun w=> ?_) q) (fun _ q=>q) fun _ _ q=>q;rcases hcb with rfl|hcb
    ·exact trk _ _ e (sub _ w)
    ·exact trk _ _ hcb (sub _ w)
 self:=fun _ _ _ _ _ st h=>wpAny_pyIter_zip st.1 h
def Rl (K:aa) (ta:TA):TI:=fun σ H R=>ta σ H fun vs H1=>∃ a b,vs=[.ref a,.ref b]/\(∃ xs,SqL K H1 a xs)/\(∃ ys,SqL K H1 b ys)/\R (Itz K a b) H1
section
variable {X:Cx}
theorem Mx (hg:Gl X "zip") (hm:X.mg "zip"=zo) (ha:PA X [a,b] ta) (hs:ar [a,b] X.env=[(false,eval a X.env),(false,eval b X.env)]:=by rfl) (hs2:ar [b] X.env=[(false,eval b X.env)]:=by rfl):
  PI X (.Tuple es k tp) (.Call (.Name "zip" p) [a,b] [] pos) (Rl X.K ta):=by
 intro pins s σ H R I h;refine Call_ (vP I hg hm PyProof.Rows.boot_zip (mf (thn (ha pos pins s σ H _ I h) fun us s1 ⟨vs,H1,I1,r1,q1⟩=> ?_) (by rw[hs,hs2]) (by rw[hs2];rfl)));obtain⟨a1,b1,e,⟨xs,hx⟩,⟨ys,hy⟩,q⟩:=q1;subst e;obtain⟨u1,u2,rfl,ru1,ru2⟩:=CF r1;cases ru1;cases ru2;obtain⟨its1,rv1,p1,hz1⟩:=I1.list hx;obtain⟨its2,rv2,p2,hz2⟩:=I1.list hy;have lt1:a1<s1.heap.objs.size:=by obtain⟨o,_,e,_⟩:=p1;exact bj e
 have lt2:b1<s1.heap.objs.size:=by obtain⟨o,_,e,_⟩:=p2;exact bj e
 refine call_zip_2 p1.isList p2.isList fun h' hz hTI hTO hi1 hi2 hsz hk=> ?_;have I2:Inv X pins σ H1 { s1 with heap:=h' }:=I1.kept (t':=s1.toks) hk;refine wpAny_pyIter_zip (s:={ s1 with heap:=h' }) hz ?_;refine⟨_,[_,_,_,_,_],_,_,H1,rfl,I2,FZ (zipApart_new lt1 lt2),⟨hz,hTI,⟨_,_,hTO⟩,hi1,hi2⟩,fun b hb=> ?_,q⟩;have hb':s1.heap.objs.size<=b:=by
  simp only[aj,cq,or_false] at hb;rcases hb with rfl|rfl|rfl|rfl|rfl <;> walk_at "adr"
 exact I1.fpOk hb' (I1.hok.fresh hb')
end
noncomputable def Gu (ok:Okk) (H:Hp):Hp:=fun b=>@ite _ (ok b) (lj _) (H b) zo
theorem Gr (h:ok b):Gu ok H b=H b:=by unfold Gu;rw[if_pos h]
theorem Gs (h:¬ ok b):Gu ok H b=zo:=by unfold Gu;rw[if_neg h]
theorem jZ (h:Gu ok H b=zn o):ok b/\H b=zn o:=by
 by_cases k:ok b
 ·rw[Gr k] at h;exact⟨k,h⟩
 ·rw[Gs k] at h;cases h
structure ItD (K:aa) (al:Nat->Option ag) (H0:Hp) (J:It) (ds:List D):Prop where
 go:∀ i H,Same H0 H->i<ds.length->J.go i H
 yld:∀ i H x H' d,Same H0 H->J.yld i H x H'->ds[i]?=zn d->Same H H'/\Rep K ⟨fun b=>H0 b≠zo∨H b=zo,al⟩ H' x d
 stop:∀ i H,Same H0 H->ds.length<=i->J.stop i H
theorem _root_.L2.PI.imp (h:PI X tg e t) (f:∀ σ H R,t' σ H R->t σ H R):PI X tg e t':=fun pins s σ H R I q=>h pins s σ H R I (f _ _ _ q)
section
variable {X:Cx}{tg e a b c:b0}{f fa fb fc:DF}{fl:DL}{pos p:Pos}
noncomputable def pI (lo:Int) (n:Nat):List D:=(aw n).map fun k=>D.int (lo+(k:Nat))
theorem jY (lo:Int) (n:Nat):(pI lo n).length=n:=by simp[pI]
theorem Gp {lo:Int} (h:(pI lo n)[i]?=zn d):i<n/\d=.int (lo+(i:Nat)):=by
 unfold pI at h;rw[bg] at h;obtain⟨k,e,rfl⟩:=aF h;obtain⟨hi,e'⟩:=bx.mp e;rw[fg] at hi;rw[xa] at e';subst e';exact⟨hi,rfl⟩
theorem itD_range {K:aa}{lo:Int}:ItD K al H0 (Itr lo n) (pI lo n):=
 ⟨fun i H _ hi=>by rw[jY] at hi;exact hi,fun i H x H' d _ y hd=>by
  obtain⟨rfl,rfl⟩:=y;obtain⟨_,rfl⟩:=Gp hd;exact⟨Same.refl _,.int _⟩,fun i H _ hi=>by rw[jY] at hi;exact hi⟩
noncomputable def oE (ds:List D):Option (List D):=match ds with
 |[.int j]=>if -1000000000<=j/\j<=1000000000 then zn (pI 0 j.toNat) else zo
 |_=>zo
noncomputable def xE (xs ys:List D):List D:=bw (fun x y=>D.tup [x,y]) xs ys
abbrev BR:=D->Rho->Option Rho
def gR (K:aa) (bd:BR):TG:=fun v σ H Q=>∃(ok:Okk) (ρ ρ':Rho) (d:D),EnvR K ok H σ ρ/\σ.length=ρ.length/\Rep K ok H v d/\bd d ρ=zn ρ'/\∀ σ',EnvR K ok H σ' ρ'->σ'.length=ρ'.length->Q σ' H
noncomputable def aZ (i:Nat):BR:=fun d ρ=>zn (ρ.set i (zn d))
theorem _root_.L2.PG.imp (h:PG X tg t) (f:∀ v σ H Q,t' v σ H Q->t v σ H Q):PG X tg t':=fun pins s σ H v u Q I r q=>h pins s σ H v u Q I r (f _ _ _ _ q)
theorem EnvR.set {K:aa} (h:EnvR K ok H σ ρ) (hl:σ.length=ρ.length) (r:Rep K ok H v d) (i:Nat):EnvR K ok H (σ.set i (zn v)) (ρ.set i (zn d)):=fun j e hj=>by
 by_cases hij:i=j
 ·subst hij
  by_cases hi:i<ρ.length
  ·rw[gq hi] at hj;cases hj;exact⟨v,by rw[gq (by omega)],r⟩
  ·rw[b7 (by rw[du];omega)] at hj;cases hj
 ·rw[ir hij] at hj;obtain⟨w,a,b⟩:=h j e hj;exact⟨w,by rw[ir hij];exact a,b⟩
theorem KN (hN:X.N.Nodup) (hi:X.N[i]?=zn x) (hx:Loc X.env.scope x) (hf:X.fn x=true∨X.env.scope.names.lookup x=zn .local:=by first|exact .inl rfl|exact .inr rfl|assumption):PG X (.Name x tp) (gR X.K (aZ i)):=
 PG.imp (xT hN hi hx hf) fun v σ H Q ⟨ok,ρ,ρ',d,h1,h2,h3,h4,h5⟩=>by
  cases h4;exact h5 _ (h1.set h2 h3 i) (by rw[du,du];exact h2)
noncomputable def tQ (i j:Nat):BR:=fun d ρ=>match d with
 |.tup [x,y]=>zn ((ρ.set i (zn x)).set j (zn y))
 |_=>zo
theorem KM (hc:X.calm=true) (hN:X.N.Nodup) (hi:X.N[i]?=zn x) (hj:X.N[j]?=zn y) (hx:Loc X.env.scope x) (hy:Loc X.env.scope y)
  (hf:X.fn x=true∨X.env.scope.names.lookup x=zn .local:=by first|exact .inl rfl|exact .inr rfl|assumption) (hf2:X.fn y=true∨X.env.scope.names.lookup y=zn .local:=by first|exact .inl rfl|exact .inr rfl|assumption):
  PG X (.Tuple [.Name x p1,.Name y p2] k tp) (gR X.K (tQ i j)):=
 PG.imp (My (n:=2) hc (AD (xT hN hi hx hf) (AD (xT hN hj hy hf2) Jv))) fun v σ H Q ⟨ok,ρ,ρ',d,h1,h2,h3,h4,h5⟩=>by
  unfold tQ at h4;split at h4
  ·cases h4;obtain⟨a,xs,rfl,g,r⟩:=h3.tup_inv;obtain⟨v1,v2,rfl,r1,r2⟩:=r.two_inv;refine⟨a,_,rfl,g.sq,rfl,v1,_,rfl,v2,_,rfl,rfl,?_⟩;refine h5 _ ((h1.set h2 r1 i).set (by rw[du,du];exact h2) r2 j) ?_;simp only[du];exact h2
  ·cases h4
noncomputable def CA (caps:List (Option Nat)) (ρ:Rho):Rho:=caps.map fun o=>o.bind fun j=>(ρ[j]?).join
noncomputable def jQ:DB:=fun _=>zn true
theorem EnvR.cap {K:aa} (h:EnvR K ok H σ ρ) (caps:List (Option Nat)):EnvR K ok H (Fx caps σ) (CA caps ρ):=fun i d e=>by
 unfold CA at e;rw[bg] at e;obtain⟨o,e1,e2⟩:=aF e;cases o with
 |none=>cases e2
 |some j=>
  have e3:(ρ[j]?).join=zn d:=e2;have e4:ρ[j]?=zn (zn d):=by
   cases q:ρ[j]? with
   |none=>rw[q] at e3;cases e3
   |some o=>
    rw[q] at e3;cases o with
    |none=>cases e3
    |some d'=>cases e3;rfl
  obtain⟨v,a,b⟩:=h j d e4;refine⟨v,?_,b⟩;unfold Fx;rw[bg,e1];show zn ((σ[j]?).join)=_;rw[a];rfl
theorem Lu (caps:List (Option Nat)) (σ:St) (ρ:Rho):(Fx caps σ).length=(CA caps ρ).length:=by simp[Fx,CA]
variable {elt iter:b0}{ifs:List b0}{scope:k9}{N':List Str}{caps:List (Option Nat)}{fi:DL}{bd:BR}{t:DB}
structure FW (X:Cx) (scope:k9) (N':List Str) (caps:List (Option Nat)):Prop where
 calm:X.calm=true
 kind:scope.kind=.function
 names:∀ x∈scope.names,x.2=.local->scope.names.lookup x.1=zn .local
 free:∀ y∈scope.names,y.2=.free->X.env.scope.names.lookup y.1=zn .cell∨X.env.scope.names.lookup y.1=zn .free
 uniq:∀ y∈scope.names,y.2=.free->(y.1,de)∉scope.names
 cap:Bk X scope N' caps
end
section
variable {K:aa}{ok0:Okk}{H0 H H':Hp}{σ:St}{ρ:Rs}{A:Nat->Option ag}
theorem CT {l:List α} (h:(l.set i a)[j]?=zn b):(j=i/\i<l.length/\b=a)∨(j≠i/\l[j]?=zn b):=by
 by_cases e:i=j
 ·subst e
  by_cases hi:i<l.length
  ·rw[gq hi] at h;exact .inl ⟨rfl,hi,(ce h).symm⟩
  ·rw[b7 (by rw[du];omega)] at h;cases h
 ·rw[ir e] at h;exact .inr ⟨fun z=>e z.symm,h⟩
end
section
variable {X:Cx}{st:c9}{rest body els:List c9}{tg e a b c iter:b0}{es:List b0}{f fa fb:DF}{fl fi:DL}{t:DB}{F G:DS}{bd:BS}{pos p:Pos}{M:List Nat}
end
theorem Fh (hr:Room k A) (h:n<=200:=by decide):A.units+n<fj:=by
 have:=hr.un
 omega
end L2.MB
end
section
namespace L2.MB
noncomputable def mO:List D->Option (List Int)
 |[]=>zn []
 |.int i::ds=>(mO ds).map fun ns=>i::ns
 |_::_=>zo
theorem pZ:∀ {ds:List D}{ns:List Int},mO ds=zn ns->ds=ns.map D.int
 |[],ns,h=>by cases h;rfl
 |.int i::ds,ns,h=>by
  have h':(mO ds).map (fun ns=>i::ns)=zn ns:=h;obtain⟨ms,e,rfl⟩:=aF h';rw[pZ e];rfl
 |.non::_,_,h=>nomatch h
 |.bl _::_,_,h=>nomatch h
 |.str _::_,_,h=>nomatch h
 |.lst _::_,_,h=>nomatch h
 |.tup _::_,_,h=>nomatch h
section
variable {X:Cx}{e a b c:b0}{es:List b0}{f fa fb fc:DF}{fl:DL}{pos p:Pos}
theorem yJ (h:Vals (ns.map V.int) its):∃ xs:Array (Int×Tok),its.toArray=intItems xs/\xs.toList.map (·.1)=ns:=by
 have hi:=BW h;obtain⟨xs,e⟩:=(hi.allInts).items;refine⟨xs,e,?_⟩;rw[<- nums_intItems,<- e];exact hi.numsOf
theorem Fy (hc:X.calm=true):CallR X (.builtin "sum") (fun xs H Q=>∃(p:ag) (ns:List Int),xs=[.ref p]/\SqL X.K H p (ns.map V.int)/\Q (.int ns.sum) H):=by
 intro pins s σ H xs us Q I r h;obtain⟨p,ns,rfl,hq,q⟩:=h;obtain⟨u,rfl,rx⟩:=jR r;cases rx;obtain⟨its,r',pl,hz⟩:=I.list hq;obtain⟨ys,e1,e2⟩:=yJ r';refine sum_intListG (I.ok.hd hc) (by rw[<- e1];exact pl.isList) fun h' tk t' k=> ?_;rw[preSum_eq,i6 (by simp),e2];exact⟨.int ns.sum,H,I.kept k,⟨_,rfl⟩,q⟩
noncomputable def OM (ds:List D):Option D:=match ds with
 |[.lst xs]=>(mO xs).map fun ns=>.int ns.sum
 |_=>zo
noncomputable def EL (ds:List D):Option D:=match ds with
 |[.int i,.int j]=>zn (.int (if j>i then j else i))
 |_=>zo
noncomputable def HD (ds:List D):Option D:=match ds with
 |[.int i,.int j]=>zn (.int (if j<i then j else i))
 |_=>zo
noncomputable def Oa (ds:List D):Option D:=match ds with
 |[.int i]=>zn (.int i)
 |[.bl k]=>zn (.int (if k then 1 else 0))
 |[.str x]=>if x.length<=640 then(qx x).map D.int else zo
 |_=>zo
theorem Ri {K:aa} (r:Reps K ok H vs [.lst xs]):∃ p ys,vs=[.ref p]/\RL K ok H p ys/\Reps K ok H ys xs:=by
 obtain⟨v,rfl,r1⟩:=r.one_inv;obtain⟨p,ys,rfl,g,r2⟩:=r1.lst_inv;exact⟨p,ys,rfl,g,r2⟩
theorem La {K:aa}:FitL K (fun xs H Q=>∃(p:ag) (ns:List Int),xs=[.ref p]/\SqL K H p (ns.map V.int)/\Q (.int ns.sum) H) OM:=fun ok H xs as d Q h1 r e k=>by
 unfold OM at e;split at e
 ·obtain⟨ns,e1,rfl⟩:=aF e;obtain rfl:=pZ e1;obtain⟨p,ys,rfl,g,r2⟩:=Ri r;obtain rfl:=r2.of_ints;exact⟨p,ns,rfl,g.sq,k _ H (Same.refl H) (.int _)⟩
 ·cases e
theorem HQ {K:aa}:FitL K (fun xs H Q=>∃ i j,xs=[.int i,.int j]/\Q (.int (if j>i then j else i)) H) EL:=fun ok H xs as d Q h1 r e k=>by
 unfold EL at e;split at e
 ·cases e;obtain⟨v,v',rfl,r1,r2⟩:=r.two_inv;obtain rfl:=r1.int_inv;obtain rfl:=r2.int_inv;exact⟨_,_,rfl,k _ H (Same.refl H) (.int _)⟩
 ·cases e
theorem HP {K:aa}:FitL K (fun xs H Q=>∃ i j,xs=[.int i,.int j]/\Q (.int (if j<i then j else i)) H) HD:=fun ok H xs as d Q h1 r e k=>by
 unfold HD at e;split at e
 ·cases e;obtain⟨v,v',rfl,r1,r2⟩:=r.two_inv;obtain rfl:=r1.int_inv;obtain rfl:=r2.int_inv;exact⟨_,_,rfl,k _ H (Same.refl H) (.int _)⟩
 ·cases e
theorem FH:CallR X (.type "int") (fun xs H Q=>∃ x n,xs=[.str x]/\x.length<=640/\qx x=zn n/\Q (.int n) H):=by
 intro pins s σ H xs us Q I r h;obtain⟨x,n,rfl,hz,hn,q⟩:=h;obtain⟨u,rfl,t,rfl⟩:=jR r;exact PySem.W.KIN.call_text hn hz ⟨.int n,H,I.tok _,⟨_,rfl⟩,q⟩
theorem Ld {K:aa}:FitL K (fun xs H Q=>((∃ i,xs=[.int i]/\Q (.int i) H)∨∃ k,xs=[.bl k]/\Q (.int (if k then 1 else 0)) H)∨∃ x n,xs=[.str x]/\x.length<=640/\qx x=zn n/\Q (.int n) H) Oa:=fun ok H xs as d Q h1 r e k=>by
 unfold Oa at e;split at e
 ·cases e;obtain⟨v,rfl,r1⟩:=r.one_inv;obtain rfl:=r1.int_inv;exact .inl (.inl ⟨_,rfl,k _ H (Same.refl H) (.int _)⟩)
 ·cases e;obtain⟨v,rfl,r1⟩:=r.one_inv;obtain rfl:=r1.bl_inv;exact .inl (.inr ⟨_,rfl,k _ H (Same.refl H) (.int _)⟩)
 ·rename_i x
  by_cases hz:x.length<=640
  ·rw[if_pos hz] at e;obtain⟨n,e1,rfl⟩:=aF e;obtain⟨v,rfl,r1⟩:=r.one_inv;obtain rfl:=r1.str_inv;exact .inr ⟨x,n,rfl,hz,e1,k _ H (Same.refl H) (.int _)⟩
  ·rw[if_neg hz] at e;cases e
 ·cases e
theorem FJ:CallR X (.type "int") (fun xs H Q=>((∃ i,xs=[.int i]/\Q (.int i) H)∨∃ k,xs=[.bl k]/\Q (.int (if k then 1 else 0)) H)∨∃ x n,xs=[.str x]/\x.length<=640/\qx x=zn n/\Q (.int n) H):=call_int1.or FH
theorem rD (a:Array Nat):∀(k:Nat) (acc:Array Nat),((az k a).foldl (· ++·) acc).size=acc.size+k*a.size
 |0,acc=>by simp
 |k+1,acc=>by
  rw[fu,yq,rD a k,Array.size_append,Nat.succ_mul];omega
noncomputable def OJ (x:Str) (n:Int):Str:=if n<1 then Str.empty else if(n==1||x.length==0)=true then x else⟨(az n.toNat x.cps).foldl (· ++·) #[]⟩
noncomputable def KY (a b:D):Option D:=match a,b with
 |.str x,.int n=>if 0<=n/\n<=100000/\x.length<=100 then zn (.str (OJ x n)) else zo
 |_,_=>zo
theorem JM:OpR X (l7 .Mult) (fun x y H Q=>∃ z n,x=.str z/\y=.int n/\(0<=n/\n<=100000/\z.length<=100)/\Q (.str (OJ z n)) H):=by
 intro pins s σ H x y v u Q I rx ry h;obtain⟨z,n,rfl,rfl,⟨h0,h1,h2⟩,q⟩:=h;obtain⟨t,rfl⟩:=rx;obtain⟨t',rfl⟩:=ry;refine PySem.P.mul_str ?_ (fun hn _=> ?_) (fun hn _=> ?_) ?_
 ·have e1:decide (n< -(2 ^ 63:Int))=false:=decide_eq_false (by omega);have e2:decide (n≥2 ^ 63)=false:=decide_eq_false (by omega);rw[e1,e2,we]
 ·have h3:n<=100000:=h1
  have:(100:Int)<=(2 ^ 63-1) / n:=by
   refine(Int.le_ediv_iff_mul_le (by omega)).mpr ?_;omega
  have h4:(z.length:Int)<=100:=by omega
  omega
 ·have hle:z.length*n.toNat<=100*100000:=Nat.mul_le_mul h2 (by omega);have hs:=bz
  first|exact decide_eq_false (by omega)|(simp[Builtin.Str.tooLong];omega)|(simp[tooLong];omega)
 ·unfold OJ at q;split
  ·rename_i hn
   rw[if_pos hn] at q;exact⟨by show 0<=sizeLine;exact i4 _,.str _,H,I.tok _,⟨_,rfl⟩,q⟩
  ·rename_i hn
   rw[if_neg hn] at q;split
   ·rename_i hz
    rw[if_pos hz] at q;exact⟨.str _,H,I,⟨_,rfl⟩,q⟩
   ·rename_i hz
    rw[if_neg hz] at q;refine⟨?_,.str _,H,I.tok _,⟨_,rfl⟩,q⟩
    show((az n.toNat z.cps).foldl (· ++·) #[]).size<=sizeLine
    rw[rD,bz];have hle:n.toNat*z.cps.size<=100000*100:=Nat.mul_le_mul (by omega) h2;simp only[bh,nr];omega
end
section
variable {X:Cx}{tg e a b c:b0}{f fa fb fc:DF}{fl:DL}{pos p:Pos}
end
noncomputable def zJ (scope:k9):Bool:=scope.names.all fun y=> !(y.2== .local)||scope.names.lookup y.1==zn .local
noncomputable def Fu (out scope:k9):Bool:=scope.names.all fun y=> !(y.2== .free)||((out.names.lookup y.1==zn .cell||out.names.lookup y.1==zn .free)&& !(scope.names.contains (y.1,de)))
noncomputable def wO (N:List Str) (out scope:k9) (x:Str):Option Nat->Bool
 |none=>true
 |some j=>N[j]?==zn x&&scope.names.lookup x==zn .free&& !(scope.names.contains (x,de))&&(out.names.lookup x==zn .cell||out.names.lookup x==zn .free)
noncomputable def lO (N:List Str) (out scope:k9):List Str->List (Option Nat)->Bool
 |[],[]=>true
 |x::xs,c::cs=>wO N out scope x c&&lO N out scope xs cs
 |_,_=>false
theorem rO:∀ {xs:List Str}{cs:List (Option Nat)},lO N out scope xs cs=true->cs.length=xs.length
 |[],[],_=>rfl
 |x::xs,c::cs,h=>by
  have h':(wO N out scope x c&&lO N out scope xs cs)=true:=h;rw[bt] at h';simp[rO h'.2]
 |[],_::_,h=>nomatch h
 |_::_,[],h=>nomatch h
theorem rP:∀ {xs:List Str}{cs:List (Option Nat)}{i j:Nat},lO N out scope xs cs=true->cs[i]?=zn (zn j)->∃ x,xs[i]?=zn x/\wO N out scope x (zn j)=true
 |[],[],i,j,_,h=>by simp at h
 |x::xs,c::cs,i,j,h,h2=>by
  have h':(wO N out scope x c&&lO N out scope xs cs)=true:=h;rw[bt] at h';cases i with
  |zero=>
   simp at h2;subst h2;exact⟨x,rfl,h'.1⟩
  |succ i=>
   simp at h2;obtain⟨y,e,q⟩:=rP (i:=i) h'.2 h2;exact⟨y,by simpa using e,q⟩
 |[],_::_,_,_,h,_=>nomatch h
 |_::_,[],_,_,h,_=>nomatch h
theorem wM (h1:X.calm=true) (h2:scope.kind=.function) (h3:zJ scope=true) (h4:Fu X.env.scope scope=true) (h5:lO X.N X.env.scope scope N' caps=true):FW X scope N' caps:=by
 refine⟨h1,h2,fun x hx hl=> ?_,fun y hy hf=> ?_,fun y hy hf hm=> ?_,rO h5,fun i j hij=> ?_⟩
 ·have:=gv.mp h3 x hx
  rw[hl] at this;simpa using this
 ·have:=gv.mp h4 y hy
  rw[hf] at this;simp at this;exact this.1
 ·have:=gv.mp h4 y hy
  rw[hf] at this;simp at this;exact this.2 hm
 ·obtain⟨x,e,q⟩:=rP h5 hij;unfold wO at q;simp only[bt,ji,beq_iff_eq,ss,List.contains_eq_mem,decide_eq_false_iff_not] at q;exact⟨x,e,q.1.1.1,q.1.1.2,q.1.2,q.2⟩
namespace boot
theorem len:dy "len"=zn (.builtin "len"):=by decide+kernel
theorem sum:dy "sum"=zn (.builtin "sum"):=by decide+kernel
theorem min:dy "min"=zn (.builtin "min"):=by decide+kernel
theorem max:dy "max"=zn (.builtin "max"):=by decide+kernel
theorem sorted:dy "sorted"=zn (.builtin "sorted"):=by decide+kernel
theorem list:dy "list"=zn (.type "list"):=by decide+kernel
theorem tuple:dy "tuple"=zn (.type "tuple"):=by decide+kernel
theorem int:dy "int"=zn (.type "int"):=by decide+kernel
theorem bool:dy "bool"=zn (.type "bool"):=by decide+kernel
theorem str:dy "str"=zn (.type "str"):=by decide+kernel
end boot
structure Bn (mg:Str->Option af):Prop where
 len:mg "len"=zo
 range:mg "range"=zo
 zip:mg "zip"=zo
 sum:mg "sum"=zo
 all:mg "all"=zo
 min:mg "min"=zo
 max:mg "max"=zo
 sorted:mg "sorted"=zo
 isinstance:mg "isinstance"=zo
 list:mg "list"=zo
 tuple:mg "tuple"=zo
 int:mg "int"=zo
 bool:mg "bool"=zo
 str:mg "str"=zo
theorem bn_mk {K:aa} (X:K.In h) (G:h.Ns b8 mg) (h1:cy K b8 "len"=zn zo) (h2:cy K b8 "range"=zn zo) (h3:cy K b8 "zip"=zn zo)
  (h4:cy K b8 "sum"=zn zo) (h5:cy K b8 "all"=zn zo) (h6:cy K b8 "min"=zn zo) (h7:cy K b8 "max"=zn zo) (h8:cy K b8 "sorted"=zn zo)
  (h9:cy K b8 "isinstance"=zn zo) (h10:cy K b8 "list"=zn zo) (h11:cy K b8 "tuple"=zn zo) (h12:cy K b8 "int"=zn zo) (h13:cy K b8 "bool"=zn zo)
  (h14:cy K b8 "str"=zn zo):Bn mg:=
 ⟨db X G h1,db X G h2,db X G h3,db X G h4,db X G h5,db X G h6,db X G h7,db X G h8,db X G h9,db X G h10,db X G h11,db X G h12,
  db X G h13,db X G h14⟩
def FnIn (K:aa) (x:Str) (st:c9):Prop:=∃(f:ag) (oc:af) (od an:Option ag) (osl:Array (Option af)) (kV doc pm cdv ct:af),cy K b8 x=zn (zn (.ref f))/\
 K.lookup f=zn ⟨oc,od,.func (i5 x x (gD st) (fH st) (aX st) .none kV doc pm an cdv ct),osl⟩/\kr K cdv x=true/\hV K (.ref f)=true
theorem fnIn_mk {K:aa}{st:c9}{kV doc pm cdv ct:af} (a:cy K b8 x=zn (zn (.ref f)))
  (l:K.lookup f=zn ⟨oc,od,.func (i5 x x (gD st) (fH st) (aX st) .none kV doc pm an cdv ct),osl⟩) (c:kr K cdv x=true) (k:hV K (.ref f)=true):FnIn K x st:=
 ⟨f,oc,od,an,osl,kV,doc,pm,cdv,ct,a,l,c,k⟩
structure OQ (K:aa) (mg:Str->Option af) (x:Str) (st:c9) (f:ag) (fd:j7):Prop where
 fn:Fun K x x st f fd
 at_:mg x=zn (.ref f)
theorem FnIn.fnAt {K:aa}{st:c9} (I:FnIn K x st) (X:K.In h) (G:h.Ns b8 mg):∃ f fd,OQ K mg x st f fd:=by
 obtain⟨f,oc,od,an,osl,kV,doc,pm,cdv,ct,a,l,c,k⟩:=I;exact⟨f,_,IS l c k,pj X G a⟩
inductive Ob where
 /-- an instance of the c-th class;a list;a dict by tuples;a dict by texts and ints -/
 |ins (c:Nat) (fs:List (Str×D))|ml (ds:List D)|dt (kvs:List (List Key×D))|dk (kvs:List (Key×D))
 /-- a dict by tuples while a loop walks it -/
 |dz (kvs:List (List Key×D))
abbrev Om:=List Ob
inductive KvR {κ:Type} (K:aa) (ok:Okk) (H:Hp):List (κ×V)->List (κ×D)->Prop
 |nil:KvR K ok H [] []
 |cons {k:κ}{v:V}{d:D}{vs:List (κ×V)}{ds:List (κ×D)}:Rep K ok H v d->KvR K ok H vs ds->KvR K ok H ((k,v)::vs) ((k,d)::ds)
section
variable {κ:Type}{K:aa}{ok ok':Okk}{H H':Hp}
theorem KvR.mono (f:∀ b o,ok b->H b=zn o->ok' b/\H' b=zn o) (g:∀ n a,ok.al n=zn a->ok'.al n=zn a):∀ {vs:List (κ×V)}{ds:List (κ×D)},KvR K ok H vs ds->KvR K ok' H' vs ds
 |_,_,.nil=>.nil
 |_,_,.cons r rs=>.cons (r.mono f g) (KvR.mono f g rs)
theorem KvR.length:∀ {vs:List (κ×V)}{ds:List (κ×D)},KvR K ok H vs ds->vs.length=ds.length
 |_,_,.nil=>rfl
 |_,_,.cons _ rs=>by rw[bv,bv,KvR.length rs]
theorem KvR.keys:∀ {vs:List (κ×V)}{ds:List (κ×D)},KvR K ok H vs ds->vs.map (·.1)=ds.map (·.1)
 |_,_,.nil=>rfl
 |_,_,.cons _ rs=>by rw[bu,bu,KvR.keys rs]
theorem KvR.vals:∀ {vs:List (κ×V)}{ds:List (κ×D)},KvR K ok H vs ds->Reps K ok H (vs.map (·.2)) (ds.map (·.2))
 |_,_,.nil=>.nil
 |_,_,.cons r rs=>.cons r (KvR.vals rs)
end
section
variable {K:aa}{ok ok':Okk}{H H':Hp}
theorem KvR.look:∀ {vs:List (Str×V)}{ds:List (Str×D)},KvR K ok H vs ds->ds.lookup x=zn d->∃ v,vs.lookup x=zn v/\Rep K ok H v d
 |_,_,.nil,e=>by cases e
 |_,_,@KvR.cons _ _ _ _ k v d' vs ds r rs,e=>by
  rw[gu] at e ⊢;cases q:x==k with
  |true=>
   rw[q] at e;cases e;exact⟨v,rfl,r⟩
  |false=>
   rw[q] at e;exact KvR.look rs e
theorem KvR.look_none:∀ {vs:List (Str×V)}{ds:List (Str×D)},KvR K ok H vs ds->ds.lookup x=zo->vs.lookup x=zo
 |_,_,.nil,e=>rfl
 |_,_,@KvR.cons _ _ _ _ k v d' vs ds r rs,e=>by
  rw[gu] at e ⊢;cases q:x==k with
  |true=>rw[q] at e;cases e
  |false=>rw[q] at e;exact KvR.look_none rs e
end
def CellR (cls:Nat->ag) (K:aa) (ok:Okk) (H:Hp) (a:ag):Ob->Prop
 |.ins c fs=>∃ dx vs,H a=zn (.ins (cls c) dx vs)/\KvR K ok H vs fs
 |.ml ds=>∃ xs,H a=zn (.lst xs)/\Reps K ok H xs ds
 |.dt kvs=>∃ vs,H a=zn (.dT vs)/\KvR K ok H vs kvs
 |.dk kvs=>∃ vs,H a=zn (.dK vs)/\KvR K ok H vs kvs
 |.dz kvs=>∃ o vs,H a=zn (.frz o (.dT vs))/\KvR K ok H vs kvs
theorem CellR.mono {K:aa} (f:∀ b o,ok b->H b=zn o->ok' b/\H' b=zn o) (g:∀ n a,ok.al n=zn a->ok'.al n=zn a) (e:∀ o,H a=zn o->H' a=zn o)
  (h:CellR cls K ok H a ob):CellR cls K ok' H' a ob:=by
 cases ob with
 |ins c fs=>obtain⟨dx,vs,h1,h2⟩:=h;exact⟨dx,vs,e _ h1,h2.mono f g⟩
 |ml ds=>obtain⟨xs,h1,h2⟩:=h;exact⟨xs,e _ h1,h2.mono f g⟩
 |dt kvs=>obtain⟨xs,h1,h2⟩:=h;exact⟨xs,e _ h1,h2.mono f g⟩
 |dk kvs=>obtain⟨xs,h1,h2⟩:=h;exact⟨xs,e _ h1,h2.mono f g⟩
 |dz kvs=>obtain⟨o,xs,h1,h2⟩:=h;exact⟨o,xs,e _ h1,h2.mono f g⟩
theorem CellR.there {K:aa} (h:CellR cls K ok H a ob):∃ o,H a=zn o/\True:=by
 cases ob with
 |ins c fs=>obtain⟨dx,vs,h1,h2⟩:=h;exact⟨_,h1,trivial⟩
 |ml ds=>obtain⟨xs,h1,h2⟩:=h;exact⟨_,h1,trivial⟩
 |dt kvs=>obtain⟨xs,h1,h2⟩:=h;exact⟨_,h1,trivial⟩
 |dk kvs=>obtain⟨xs,h1,h2⟩:=h;exact⟨_,h1,trivial⟩
 |dz kvs=>obtain⟨o,xs,h1,h2⟩:=h;exact⟨_,h1,trivial⟩
structure Stt (cls:Nat->ag) (K:aa) (ok:Okk) (H:Hp) (ω:Om):Prop where
 cell:∀ n ob,ω[n]?=zn ob->∃ a,ok.al n=zn a/\CellR cls K ok H a ob
 dom:∀ n a,ok.al n=zn a->n<ω.length
 inj:∀ n m a,ok.al n=zn a->ok.al m=zn a->n=m
 nok:∀ n a,ok.al n=zn a->¬ ok.p a
structure Ex (ok:Okk) (H:Hp) (ok':Okk) (H':Hp):Prop where
 dat:∀ b o,ok b->H b=zn o->ok' b/\H' b=zn o
 ids:∀ n a,ok.al n=zn a->ok'.al n=zn a
 frm:∀ b o,H b=zn o->(∀ n,ok.al n≠zn b)->H' b=zn o
 new:∀ n a,ok'.al n=zn a->ok.al n=zn a∨H a=zo
 keep:∀ b,H' b=zo->H b=zo
 sub:∀ b,ok' b->ok b∨H b=zo
 /-- what a loop walks stands still -/
 frz:∀ b o u,H b=zn (.frz o u)->H' b=zn (.frz o u)
structure Nw (cls:Nat->ag) (K:aa) (ok:Okk) (H:Hp) (ok':Okk) (H':Hp) (ω':Om):Prop where
 ex:Ex ok H ok' H'
 okh:OkH ok' H'
 st:Stt cls K ok' H' ω'
section
variable {cls:Nat->ag}{K:aa}{ok ok' ok2:Okk}{H H' H2:Hp}{ω ω' ω2:Om}{σ:St}{ρ:Rho}{a:ag}{n:Nat}
theorem Stt.at_ (h:Stt cls K ok H ω) (e:ok.al n=zn a):∃ ob,ω[n]?=zn ob/\CellR cls K ok H a ob:=by
 have hn:=h.dom n a e;obtain⟨b,e1,c⟩:=h.cell n ω[n] (by simp[hn]);rw[e] at e1;cases e1;exact⟨_,by simp[hn],c⟩
theorem Ex.same (s:Same H H'):Ex ok H ok H':=⟨fun b o k e=>⟨k,s b o e⟩,fun _ _ e=>e,fun b o e _=>s b o e,fun _ _ e=>.inl e,fun _ e=>s.free e,fun _ e=>.inl e,fun b o u e=>s b _ e⟩
theorem Ex.trans (x:Ex ok H ok' H') (y:Ex ok' H' ok2 H2):Ex ok H ok2 H2 where
 dat:=fun b o k e=>let ⟨k',e'⟩:=x.dat b o k e;y.dat b o k' e'
 ids:=fun n a e=>y.ids n a (x.ids n a e)
 frm:=fun b o e h=>y.frm b o (x.frm b o e h) fun n z=>by
  rcases x.new n b z with z|z
  ·exact h n z
  ·rw[e] at z;cases z
 new:=fun n a e=>by
  rcases y.new n a e with z|z
  ·exact x.new n a z
  ·exact .inr (x.keep a z)
 keep:=fun b e=>x.keep b (y.keep b e)
 sub:=fun b e=>by
  rcases y.sub b e with z|z
  ·exact x.sub b z
  ·exact .inr (x.keep b z)
 frz:=fun b o u e=>y.frz b o u (x.frz b o u e)
theorem Nw.trans (x:Nw cls K ok H ok' H' ω') (y:Nw cls K ok' H' ok2 H2 ω2):Nw cls K ok H ok2 H2 ω2:=⟨x.ex.trans y.ex,y.okh,y.st⟩
theorem Stt.same (h:Stt cls K ok H ω) (s:Same H H'):Stt cls K ok H' ω:=
 ⟨fun n ob e=>let ⟨a,e1,c⟩:=h.cell n ob e;⟨a,e1,c.mono (fun b o k e=>⟨k,s b o e⟩) (fun _ _ e=>e) fun o e=>s a o e⟩,h.dom,h.inj,h.nok⟩
theorem Nw.same (h:OkH ok H) (t:Stt cls K ok H ω) (s:Same H H'):Nw cls K ok H ok H' ω:=⟨.same s,h.same s,t.same s⟩
theorem Nw.refl (h:OkH ok H) (t:Stt cls K ok H ω):Nw cls K ok H ok H ω:=.same h t (Same.refl H)
theorem Rep.ex (x:Ex ok H ok' H') (h:Rep K ok H v d):Rep K ok' H' v d:=h.mono x.dat x.ids
theorem Reps.ex (x:Ex ok H ok' H') (h:Reps K ok H v d):Reps K ok' H' v d:=h.mono x.dat x.ids
theorem EnvR.ex (x:Ex ok H ok' H') (h:EnvR K ok H σ ρ):EnvR K ok' H' σ ρ:=fun i d e=>let ⟨v,a,r⟩:=h i d e;⟨v,a,r.ex x⟩
theorem qD {l:List Ob}{a b:Ob} (h:(l.set i a)[j]?=zn b):(j=i/\b=a)∨(j≠i/\l[j]?=zn b):=by
 rcases CT h with⟨h1,_,h3⟩|h
 ·exact .inl ⟨h1,h3⟩
 ·exact .inr h
theorem Nw.write (h:OkH ok H) (t:Stt cls K ok H ω) (e:ok.al n=zn a) (h0:H a=zn o0) (c:(∀ b u,ok b->H b=zn u->ok b/\upd H a o b=zn u)->CellR cls K ok (upd H a o) a ob) (nt:∀ xs,o≠ .tup xs:=by intro _ z;cases z) (nz:∀ x u,o0≠ .frz x u:=by intro _ _ z;cases z):Nw cls K ok H ok (upd H a o) (ω.set n ob):=by
 have dat:∀ b u,ok b->H b=zn u->ok b/\upd H a o b=zn u:=fun b u k q=>⟨k,by rw[aE (show b≠a from fun z=>t.nok n a e (z ▸ k))];exact q⟩;refine⟨⟨dat,fun _ _ z=>z,fun b u q z=>by rw[aE (show b≠a from fun w=>z n (w ▸ e))];exact q,fun _ _ z=>.inl z,fun b q=> ?_,fun _ z=>.inl z,fun b x u z=>by rw[aE (show b≠a from fun w=>nz x u (ce ((h0.symm.trans (w ▸ z)))))];exact z⟩,⟨fun b q=> ?_,fun b xs q=> ?_⟩,fun m ob' q=> ?_,fun m b q=> ?_,t.inj,t.nok⟩
 ·by_cases hb:b=a
  ·rw[hb,aJ] at q;cases q
  ·rw[aE hb] at q;exact q
 ·by_cases hb:b=a
  ·rw[hb,aJ] at q;cases q
  ·rw[aE hb] at q;exact h b q
 ·by_cases hb:b=a
  ·rw[hb,aJ] at q;exact absurd (ce q) (nt xs)
  ·rw[aE hb] at q;exact h.tp b xs q
 ·rcases qD q with⟨rfl,rfl⟩|⟨hm,q⟩
  ·exact⟨a,e,c dat⟩
  ·obtain⟨b,e1,c1⟩:=t.cell m ob' q;refine⟨b,e1,c1.mono dat (fun _ _ z=>z) fun u z=> ?_⟩;rw[aE (show b≠a from fun w=>hm (t.inj m n a (w ▸ e1) e))];exact z
 ·rw[du];exact t.dom m b q
noncomputable def okN (ok:Okk) (n:Nat) (p:ag):Okk:=⟨fun b=>ok b/\b≠p,fun m=>if m=n then zn p else ok.al m⟩
theorem sC (t:Stt cls K ok H ω) (m:Nat) (b:ag) (e:ok.al m=zn b):(okN ok ω.length p).al m=zn b:=by
 have hm:=t.dom m b e
 show(if m=ω.length then zn p else ok.al m)=zn b
 rw[if_neg (cf hm)];exact e
theorem xZ (np:H p=zo) (b:ag) (u:HO) (k:ok b) (e:H b=zn u):okN ok n p b/\upd H p o b=zn u:=
 ⟨⟨k,aG e np⟩,by rw[aE (aG e np)];exact e⟩
theorem Nw.make (h:OkH ok H) (t:Stt cls K ok H ω) (np:H p=zo) (c:CellR cls K (okN ok ω.length p) (upd H p o) p ob) (nt:∀ xs,o≠ .tup xs:=by intro _ z;cases z):Nw cls K ok H (okN ok ω.length p) (upd H p o) (ω++[ob]):=by
 have al:∀ m b,(okN ok ω.length p).al m=zn b->(m=ω.length/\b=p)∨(m≠ω.length/\ok.al m=zn b):=fun m b q=>by
  have q':(if m=ω.length then zn p else ok.al m)=zn b:=q
  by_cases hm:m=ω.length
  ·rw[if_pos hm] at q';exact .inl ⟨hm,(ce q').symm⟩
  ·rw[if_neg hm] at q';exact .inr ⟨hm,q'⟩
 have tr:∀ m b,ok.al m=zn b->b≠p:=fun m b q=>by
  obtain⟨_,_,c1⟩:=t.at_ q;obtain⟨_,z,_⟩:=c1.there;exact aG z np
 refine⟨⟨fun b u k e=>xZ np b u k e,fun m b q=>sC t m b q,fun b u q z=>by rw[aE (aG q np)];exact q,fun m b q=> ?_,fun b q=> ?_,fun b k=>.inl k.1,fun b x u z=>by rw[aE (aG z np)];exact z⟩,⟨fun b q=> ?_,fun b xs q=> ?_⟩,fun m ob' q=> ?_,fun m b q=> ?_,fun m m' b q q'=> ?_,fun m b q k=> ?_⟩
 ·rcases al m b q with⟨_,rfl⟩|⟨_,q⟩
  ·exact .inr np
  ·exact .inl q
 ·by_cases hb:b=p
  ·rw[hb];exact np
  ·rw[aE hb] at q;exact q
 ·have hb:b≠p:=fun z=>by rw[z,aJ] at q;cases q
  rw[aE hb] at q;exact⟨h b q,hb⟩
 ·have hb:b≠p:=fun z=>by rw[z,aJ] at q;exact nt xs (ce q)
  rw[aE hb] at q;exact⟨h.tp b xs q,hb⟩
 ·by_cases hm:m<ω.length
  ·rw[bc hm] at q;obtain⟨b,e1,c1⟩:=t.cell m ob' q;exact⟨b,sC t m b e1,c1.mono (fun b u k e=>xZ np b u k e) (fun m b q=>sC t m b q) fun u z=>by rw[aE (aG z np)];exact z⟩
  ·have hm':m=ω.length:=by
    have:=(bx.mp q).1
    simp at this;omega
   subst hm';rw[j8 (bp _)] at q;simp at q;subst q;exact⟨p,by show(if ω.length=ω.length then zn p else _)=_;rw[if_pos rfl],c⟩
 ·rw[bq,jd];rcases al m b q with⟨rfl,_⟩|⟨_,q⟩
  ·omega
  ·have:=t.dom m b q
   omega
 ·rcases al m b q with⟨rfl,rfl⟩|⟨_,q⟩ <;> rcases al m' b q' with⟨rfl,w⟩|⟨_,q'⟩
  ·rfl
  ·exact absurd rfl (tr m' b q')
  ·exact absurd w (tr m b q)
  ·exact t.inj m m' b q q'
 ·rcases al m b q with⟨_,rfl⟩|⟨_,q⟩
  ·exact k.2 rfl
  ·exact t.nok m b q k.1
theorem Rep.new_obj:Rep K (okN ok n p) H (.ref p) (.obj n):=.obj (by show(if n=n then zn p else _)=_;rw[if_pos rfl])
end
inductive Rz (α:Type) where
 |ok (a:α)|ex (c:Nat)
abbrev OG (α:Type):=Rho->Om->Option (Rz α×Om)
abbrev XE:=Nat->Hp->Prop
structure Pre (cls:Nat->ag) (K:aa) (ok:Okk) (H:Hp) (ω:Om) (σ:St) (ρ:Rho):Prop where
 okh:OkH ok H
 st:Stt cls K ok H ω
 env:EnvR K ok H σ ρ
 len:σ.length=ρ.length
theorem Pre.nw {K:aa} (p:Pre cls K ok H ω σ ρ) (x:Nw cls K ok H ok' H' ω'):Pre cls K ok' H' ω' σ ρ:=⟨x.okh,x.st,p.env.ex x.ex,p.len⟩
def exR (cls:Nat->ag) (K:aa) (ok:Okk) (H:Hp) (ω':Om) (E:XE) (c:Nat):Prop:=∀ ok' H',Nw cls K ok H ok' H' ω'->E c H'
def tO (cls:Nat->ag) (K:aa) (f:OG D) (E:XE):TE:=fun σ H Q=>∃(ok:Okk) (ρ:Rho) (ω:Om) (r:Rz D) (ω':Om),Pre cls K ok H ω σ ρ/\f ρ ω=zn (r,ω')/\match r with
 |.ok d=>∀ v ok' H',Nw cls K ok H ok' H' ω'->Rep K ok' H' v d->Q v H'
 |.ex c=>exR cls K ok H ω' E c
def tOT (cls:Nat->ag) (K:aa) (f:OG Bool) (E:XE):TT:=fun σ H Q=>∃(ok:Okk) (ρ:Rho) (ω:Om) (r:Rz Bool) (ω':Om),Pre cls K ok H ω σ ρ/\f ρ ω=zn (r,ω')/\match r with
 |.ok b=>∀ ok' H',Nw cls K ok H ok' H' ω'->Q b H'
 |.ex c=>exR cls K ok H ω' E c
def tOA (cls:Nat->ag) (K:aa) (f:OG (List D)) (E:XE):TA:=fun σ H Q=>∃(ok:Okk) (ρ:Rho) (ω:Om) (r:Rz (List D)) (ω':Om),Pre cls K ok H ω σ ρ/\f ρ ω=zn (r,ω')/\match r with
 |.ok ds=>∀ vs ok' H',Nw cls K ok H ok' H' ω'->Reps K ok' H' vs ds->Q vs H'
 |.ex c=>exR cls K ok H ω' E c
abbrev OE (X:Cx) (cls:Nat->ag) (E:XE) (e:b0) (f:OG D):Prop:=PE X e (tO cls X.K f E)
abbrev OT (X:Cx) (cls:Nat->ag) (E:XE) (e:b0) (f:OG Bool):Prop:=PT X e (tOT cls X.K f E)
abbrev OA (X:Cx) (cls:Nat->ag) (E:XE) (es:List b0) (f:OG (List D)):Prop:=PA X es (tOA cls X.K f E)
noncomputable def oB {α β:Type} (f:OG α) (g:α->OG β):OG β:=fun ρ ω=>match f ρ ω with
 |none=>zo
 |some (.ex c,ω1)=>zn (.ex c,ω1)
 |some (.ok a,ω1)=>g a ρ ω1
theorem kH {g:α->OG β} (h:oB f g ρ ω=zn (r,ω')):(∃ c,f ρ ω=zn (.ex c,ω')/\r=.ex c)∨∃ a ω1,f ρ ω=zn (.ok a,ω1)/\g a ρ ω1=zn (r,ω'):=by
 unfold oB at h;split at h
 ·cases h
 ·cases h;exact .inl ⟨_,‹_›,rfl⟩
 ·exact .inr ⟨_,_,‹_›,h⟩
noncomputable def oR {α:Type} (o:Option (α×Om)):Option (Rz α×Om):=o.map fun p=>(.ok p.1,p.2)
theorem bX {r:Rz α} (h:oR o=zn (r,ω')):∃ a,o=zn (a,ω')/\r=.ok a:=by
 obtain⟨⟨a,w⟩,e1,e2⟩:=aF h;cases e2;exact⟨a,e1,rfl⟩
noncomputable def oP (f:DF):OG D:=fun ρ ω=>oR ((f ρ).map fun d=>(d,ω))
noncomputable def oPT (f:DB):OG Bool:=fun ρ ω=>oR ((f ρ).map fun d=>(d,ω))
noncomputable def pu {α:Type} (o:Option α) (ω:Om):Option (α×Om):=o.map fun d=>(d,ω)
theorem cJ {a:α} (h:pu o ω=zn (a,ω')):o=zn a/\ω'=ω:=by
 obtain⟨b,e1,e2⟩:=aF h;cases e2;exact⟨e1,rfl⟩
section
variable {X:Cx}{cls:Nat->ag}{E:XE}{e a b c:b0}{es:List b0}{f:DF}{fa fb:OG D}{fl:OG (List D)}{ft ft':OG Bool}{pos p:Pos}
theorem JT (h:DE X e f):OE X cls E e (oP f):=h.imp fun σ H Q ⟨ok,ρ,ω,r,ω',P,h3,h4⟩=>by
 obtain⟨d,e1,rfl⟩:=bX h3;obtain⟨e2,rfl⟩:=cJ e1;exact⟨ok,ρ,d,P.okh,P.env,e2,fun v H' s r=>h4 v ok H' (.same P.okh P.st s) r⟩
theorem tO.then_ {K:aa}{r:Rz α} (P:Pre cls K ok H ω σ ρ) (e:oB fa g ρ ω=zn (r,ω')) (hx:∀ c,r=.ex c->exR cls K ok H ω' E c)
  (h:∀ d ω1 v ok1 H1,g d ρ ω1=zn (r,ω')->Nw cls K ok H ok1 H1 ω1->Pre cls K ok1 H1 ω1 σ ρ->Rep K ok1 H1 v d->Q v H1):tO cls K fa E σ H Q:=by
 rcases kH e with⟨c,e1,rfl⟩|⟨d,ω1,e1,e2⟩
 ·exact⟨ok,ρ,ω,.ex c,ω',P,e1,hx c rfl⟩
 ·exact⟨ok,ρ,ω,.ok d,ω1,P,e1,fun v ok1 H1 n r1=>h d ω1 v ok1 H1 e2 n (P.nw n) r1⟩
theorem tOA.then_ {K:aa}{r:Rz α} (P:Pre cls K ok H ω σ ρ) (e:oB fl g ρ ω=zn (r,ω')) (hx:∀ c,r=.ex c->exR cls K ok H ω' E c)
  (h:∀ d ω1 v ok1 H1,g d ρ ω1=zn (r,ω')->Nw cls K ok H ok1 H1 ω1->Pre cls K ok1 H1 ω1 σ ρ->Reps K ok1 H1 v d->Q v H1):tOA cls K fl E σ H Q:=by
 rcases kH e with⟨c,e1,rfl⟩|⟨d,ω1,e1,e2⟩
 ·exact⟨ok,ρ,ω,.ex c,ω',P,e1,hx c rfl⟩
 ·exact⟨ok,ρ,ω,.ok d,ω1,P,e1,fun v ok1 H1 n r1=>h d ω1 v ok1 H1 e2 n (P.nw n) r1⟩
theorem tOT.then_ {K:aa}{r:Rz α} (P:Pre cls K ok H ω σ ρ) (e:oB ft g ρ ω=zn (r,ω')) (hx:∀ c,r=.ex c->exR cls K ok H ω' E c)
  (h:∀ d ω1 ok1 H1,g d ρ ω1=zn (r,ω')->Nw cls K ok H ok1 H1 ω1->Pre cls K ok1 H1 ω1 σ ρ->Q d H1):tOT cls K ft E σ H Q:=by
 rcases kH e with⟨c,e1,rfl⟩|⟨d,ω1,e1,e2⟩
 ·exact⟨ok,ρ,ω,.ex c,ω',P,e1,hx c rfl⟩
 ·exact⟨ok,ρ,ω,.ok d,ω1,P,e1,fun ok1 H1 n=>h d ω1 ok1 H1 e2 n (P.nw n)⟩
theorem exR.nw {K:aa}{c:Nat} (h:exR cls K ok H ω' E c) (n:Nw cls K ok H ok' H' ω1):exR cls K ok' H' ω' E c:=fun ok2 H2 m=>h ok2 H2 (n.trans m)
def xB (cls:Nat->ag) (K:aa) (r:R2) (g:Om->D->D->Option (D×Om)):Prop:=∀(ok:Okk) (H:Hp) (ω:Om) (x y:V) (a b d:D) (ω':Om) (Q:VK),OkH ok H->Stt cls K ok H ω->Rep K ok H x a->Rep K ok H y b->g ω a b=zn (d,ω')->
 (∀ v ok' H',Nw cls K ok H ok' H' ω'->Rep K ok' H' v d->Q v H')->r x y H Q
def uF (cls:Nat->ag) (K:aa) (r:List V->Hp->VK->Prop) (g:Om->List D->Option (D×Om)):Prop:=∀(ok:Okk) (H:Hp) (ω:Om) (xs:List V) (as:List D) (d:D) (ω':Om) (Q:VK),OkH ok H->Stt cls K ok H ω->Reps K ok H xs as->g ω as=zn (d,ω')->
 (∀ v ok' H',Nw cls K ok H ok' H' ω'->Rep K ok' H' v d->Q v H')->r xs H Q
theorem Fit2.lift {K:aa} (F:Fit2 K r g):xB cls K r fun ω a b=>pu (g a b) ω:=fun ok H ω x y a b d ω' Q h1 st ra rb e k=>by
 obtain⟨ue,rfl⟩:=cJ e;exact F ok H x y a b d Q h1 ra rb ue fun v H' s r=>k v ok H' (.same h1 st s) r
theorem FitL.lift {K:aa} (F:FitL K r g):uF cls K r fun ω a=>pu (g a) ω:=fun ok H ω x a d ω' Q h1 st ra e k=>by
 obtain⟨ue,rfl⟩:=cJ e;exact F ok H x a d Q h1 ra ue fun v H' s r=>k v ok H' (.same h1 st s) r
noncomputable def o2 (g:Om->D->D->Option (D×Om)) (f h:OG D):OG D:=oB f fun a=>oB h fun b _ ω=>oR (g ω a b)
noncomputable def oL (g:Om->List D->Option (D×Om)) (f:OG (List D)):OG D:=oB f fun as _ ω=>oR (g ω as)
theorem tO.op {K:aa} (F:xB cls K r g) (h:tO cls K (o2 g fa fb) E σ H Q):tOp r (tO cls K fa E) (tO cls K fb E) σ H Q:=by
 obtain⟨ok,ρ,ω,rz,ω',P,e,q⟩:=h;refine tO.then_ P e (fun c z=>by subst z;exact q) fun a ω1 v ok1 H1 e1 n1 P1 r1=> ?_;refine tO.then_ P1 e1 (fun c z=>by subst z;exact exR.nw q n1) fun b ω2 u ok2 H2 e2 n2 P2 r2=> ?_;obtain⟨d,e3,rfl⟩:=bX e2;exact F ok2 H2 ω2 v u a b d ω' Q P2.okh P2.st (r1.ex n2.ex) r2 e3 fun w ok3 H3 n3 r3=>q w ok3 H3 (n1.trans (n2.trans n3)) r3
theorem sD (ho:OpR X (l7 op) r) (F:xB cls X.K r g) (ha:OE X cls E a fa) (hb:OE X cls E b fb):OE X cls E (.BinOp a op b pos) (o2 g fa fb):=
 (Pr ho ha hb).imp fun _ _ _ h=>tO.op F h
theorem vH (ho:OpR X (gx op) r) (F:xB cls X.K r g) (ha:OE X cls E a fa) (hb:OE X cls E b fb) (hm:jn op b=false):OE X cls E (.Compare a [op] [b] pos) (o2 g fa fb):=
 (JA ho ha hb hm).imp fun _ _ _ h=>tO.op F h
noncomputable def dG (f:OG D):OG Bool:=oB f fun d _ ω=>oR (pu (toB d) ω)
theorem qJ (ho:OpR X (gx op) r) (F:xB cls X.K r g) (ha:OE X cls E a fa) (hb:OE X cls E b fb) (hm:jn op b=false):OT X cls E (.Compare a [op] [b] pos) (dG (o2 g fa fb)):=
 (Jm ho ha hb hm).imp fun σ H Q ⟨ok,ρ,ω,r,ω',P,e,q⟩=>by
  refine tO.op F ?_;refine tO.then_ P e (fun c z=>by subst z;exact q) fun d ω1 v ok1 H1 e1 n1 P1 r1=> ?_;obtain⟨k,e3,rfl⟩:=bX e1;obtain⟨ue3,rfl⟩:=cJ e3;obtain rfl:=mP ue3;exact⟨k,r1.bl_inv,q ok1 H1 n1⟩
noncomputable def gU (f:OG D):OG Bool:=oB f fun d _ ω=>oR (pu (Qr d) ω)
theorem MO (h:OE X cls E e fa) (he:∀ whole,isTrue e X.env whole=(do let v <- whole;o7 e.pos;holding [v] (truthy v)):=by intro _;rfl):OT X cls E e (gU fa):=(GE h he).imp fun σ H Q ⟨ok,ρ,ω,r,ω',P,e,q⟩=>by
 refine tO.then_ P e (fun c z=>by subst z;exact q) fun d ω1 v ok1 H1 e1 n1 P1 r1=> ?_;obtain⟨k,e3,rfl⟩:=bX e1;obtain⟨ue3,rfl⟩:=cJ e3;exact⟨k,IY r1 ue3,q ok1 H1 n1⟩
noncomputable def jF (f:OG Bool):OG Bool:=oB f fun k _ ω=>zn (.ok (!k),ω)
theorem MP (h:OT X cls E a ft):OT X cls E (.UnaryOp .Not a pos) (jF ft):=(Mr h).imp fun σ H Q ⟨ok,ρ,ω,r,ω',P,e,q⟩=>by
 refine tOT.then_ P e (fun c z=>by subst z;exact q) fun d ω1 ok1 H1 e1 n1 P1=> ?_;cases e1;exact q ok1 H1 n1
abbrev OW (X:Cx) (cls:Nat->ag) (E:XE) (e:b0) (f:OG Bool):Prop:=PW X e (tOT cls X.K f E)
noncomputable def IJ (f g:OG Bool):OG Bool:=oB f fun k ρ ω=>if k=true then g ρ ω else zn (.ok false,ω)
noncomputable def oOr (f g:OG Bool):OG Bool:=oB f fun k ρ ω=>if k=true then zn (.ok true,ω) else g ρ ω
variable {rest:List b0}
theorem JC (ha:OT X cls E a ft):OW X cls E (.BoolOp .And [a] pos) ft:=Jl ha
theorem MM (ha:OT X cls E a ft):OW X cls E (.BoolOp .Or [a] pos) ft:=Mn ha
theorem MN (ha:OT X cls E a ft) (hb:OW X cls E (.BoolOp .And (b::rest) pos) ft'):OW X cls E (.BoolOp .And (a::b::rest) pos) (IJ ft ft'):=PW.imp (Mo ha hb) fun σ H Q ⟨ok,ρ,ω,r,ω',P,e,q⟩=>by
 refine tOT.then_ P e (fun c z=>by subst z;exact q) fun d ω1 ok1 H1 e1 n1 P1=> ?_;cases d with
 |true=>
  refine LG ⟨ok1,ρ,ω1,r,ω',P1,e1,?_⟩;cases r with
  |ok b=>exact fun ok2 H2 n2=>q ok2 H2 (n1.trans n2)
  |ex c=>exact exR.nw q n1
 |false=>
  cases e1;exact LH (q ok1 H1 n1)
theorem Pv (ha:OT X cls E a ft) (hb:OW X cls E (.BoolOp .Or (b::rest) pos) ft'):OW X cls E (.BoolOp .Or (a::b::rest) pos) (oOr ft ft'):=PW.imp (Po ha hb) fun σ H Q ⟨ok,ρ,ω,r,ω',P,e,q⟩=>by
 refine tOT.then_ P e (fun c z=>by subst z;exact q) fun d ω1 ok1 H1 e1 n1 P1=> ?_;cases d with
 |false=>
  refine LH ⟨ok1,ρ,ω1,r,ω',P1,e1,?_⟩;cases r with
  |ok b=>exact fun ok2 H2 n2=>q ok2 H2 (n1.trans n2)
  |ex c=>exact exR.nw q n1
 |true=>
  cases e1;exact LG (q ok1 H1 n1)
theorem Rh (h:OW X cls E e ft):OT X cls E e ft:=PW.pt h
noncomputable def aK:OG (List D):=fun _ ω=>zn (.ok [],ω)
noncomputable def aC (f:OG D) (g:OG (List D)):OG (List D):=oB f fun d=>oB g fun ds _ ω=>zn (.ok (d::ds),ω)
theorem ND:OA X cls E [] aK:=(PA.imp lF) fun σ H Q ⟨ok,ρ,ω,r,ω',P,e,q⟩=>by
 cases e;exact q [] ok H (.refl P.okh P.st) .nil
theorem Km (ha:OE X cls E e fa) (hr:OA X cls E es fl) (hs:ar (e::es) X.env=(false,eval e X.env)::ar es X.env:=by rfl):OA X cls E (e::es) (aC fa fl):=
 (eW ha hr hs).imp fun σ H Q ⟨ok,ρ,ω,r,ω',P,e,q⟩=>by
  refine tO.then_ P e (fun c z=>by subst z;exact q) fun d ω1 v ok1 H1 e1 n1 P1 r1=> ?_;refine tOA.then_ P1 e1 (fun c z=>by subst z;exact exR.nw q n1) fun ds ω2 vs ok2 H2 e2 n2 P2 r2=> ?_;cases e2;exact q (v::vs) ok2 H2 (n1.trans n2) (.cons (r1.ex n2.ex) r2)
theorem Nm (h:OA X cls E es fl):OE X cls E (.Tuple es x1 pos) (oL (fun ω ds=>pu (pP ds) ω) fl):=(Ix h).imp fun σ H Q ⟨ok,ρ,ω,r,ω',P,e,q⟩=>by
 refine tOA.then_ P e (fun c z=>by subst z;exact q) fun ds ω1 vs ok1 H1 e1 n1 P1 r1=> ?_;obtain⟨d,e3,rfl⟩:=bX e1;obtain⟨ue3,rfl⟩:=cJ e3;obtain⟨hz,rfl⟩:=bA ue3;refine⟨by rw[r1.length];exact hz,fun p n=> ?_⟩;exact q _ ok1 _ (n1.trans (.same P1.okh P1.st (bO n))) (.tup_new (P1.okh p n) n r1)
theorem Nv (h:OA X cls E es fl):OE X cls E (.List es pos) (oL (fun ω ds=>pu (HE ds) ω) fl):=(Iy h).imp fun σ H Q ⟨ok,ρ,ω,r,ω',P,e,q⟩=>by
 refine tOA.then_ P e (fun c z=>by subst z;exact q) fun ds ω1 vs ok1 H1 e1 n1 P1 r1=> ?_;obtain⟨d,e3,rfl⟩:=bX e1;obtain⟨ue3,rfl⟩:=cJ e3;obtain⟨hz,rfl⟩:=bA ue3;refine⟨by rw[r1.length];exact hz,fun p n=> ?_⟩;exact q _ ok1 _ (n1.trans (.same P1.okh P1.st (bO n))) (.lst_new (P1.okh p n) n r1)
noncomputable def ON (ω:Om) (ds:List D):Option (D×Om):=if ds.length<=sizeLine then zn (.obj ω.length,ω++[.ml ds]) else zo
theorem Nw.ml {K:aa}{p:ag} (h:OkH ok H) (t:Stt cls K ok H ω) (np:H p=zo) (r:Reps K ok H xs ds):Nw cls K ok H (okN ok ω.length p) (upd H p (.lst xs)) (ω++[.ml ds]):=
 Nw.make h t np ⟨xs,aJ,r.mono (fun b u k e=>xZ np b u k e) fun m b q=>sC t m b q⟩
theorem JX (h:OA X cls E es fl):OE X cls E (.List es pos) (oL ON fl):=(Iy h).imp fun σ H Q ⟨ok,ρ,ω,r,ω',P,e,q⟩=>by
 refine tOA.then_ P e (fun c z=>by subst z;exact q) fun ds ω1 vs ok1 H1 e1 n1 P1 r1=> ?_;obtain⟨d,e3,rfl⟩:=bX e1;obtain⟨hz,e4⟩:=bA e3;cases e4;refine⟨by rw[r1.length];exact hz,fun p n=> ?_⟩;exact q _ _ _ (n1.trans (.ml P1.okh P1.st n r1)) .new_obj
theorem tO.cb {K:aa} (F:uF cls K r g) (h:tO cls K (oL g fl) E σ H Q):tCB r (tOA cls K fl E) σ H Q:=by
 obtain⟨ok,ρ,ω,rz,ω',P,e,q⟩:=h;refine tOA.then_ P e (fun c z=>by subst z;exact q) fun ds ω1 vs ok1 H1 e1 n1 P1 r1=> ?_;obtain⟨d,e3,rfl⟩:=bX e1;exact F ok1 H1 ω1 vs ds d ω' Q P1.okh P1.st r1 e3 fun w ok3 H3 n3 r3=>q w ok3 H3 (n1.trans n3) r3
theorem kG {id:String} (hc:CallR X (.builtin id) r) (F:uF cls X.K r g) (hg:Gl X x) (hm:X.mg x=zo) (hv:dy x=zn (.builtin id)) (ha:OA X cls E (e::es) fl)
  (hn:x≠"__name__":=by decide) (hdb:(x==("__debug__":Str))=false:=by decide)
  (he:ar (e::es) X.env=(false,eval e X.env)::ar es X.env:=by rfl) (hpl:(dq pos (ar es X.env)).any (·.1)=false:=by rfl):OE X cls E (.Call (.Name x p) (e::es) [] pos) (oL g fl):=
 (kC hc hg hm hv ha hn hdb he hpl).imp fun _ _ _ h=>tO.cb F h
theorem kF (hc:CallR X (.type T) r) (F:uF cls X.K r g) (hg:Gl X x) (hm:X.mg x=zo) (hv:dy x=zn (.type T)) (ha:OA X cls E (e::es) fl)
  (hn:x≠"__name__":=by decide) (hdb:(x==("__debug__":Str))=false:=by decide)
  (he:ar (e::es) X.env=(false,eval e X.env)::ar es X.env:=by rfl) (hpl:(dq pos (ar es X.env)).any (·.1)=false:=by rfl):OE X cls E (.Call (.Name x p) (e::es) [] pos) (oL g fl):=
 (vG hc hg hm hv ha hn hdb he hpl).imp fun _ _ _ h=>tO.cb F h
end
end L2.MB
end
section
namespace L2.MB
mutual
noncomputable def eU:D->D->Bool
 |.non,.non=>true
 |.bl a,.bl b=>a==b
 |.int a,.int b=>a==b
 |.str a,.str b=>decide (a=b)
 |.lst a,.lst b=>sameDs a b
 |.tup a,.tup b=>sameDs a b
 |.obj a,.obj b=>a==b
 |.scr a,.scr b=>sameDs a b
 |_,_=>false
noncomputable def sameDs:List D->List D->Bool
 |[],[]=>true
 |a::as,b::bs=>eU a b&&sameDs as bs
 |_,_=>false
end
mutual
theorem Av:∀(a b:D),eU a b=true->a=b
 |.non,b,h=>by cases b <;> first|rfl|(simp[eU] at h)
 |.bl a,b,h=>by cases b <;> simp[eU] at h;rw[h]
 |.int a,b,h=>by cases b <;> simp[eU] at h;rw[h]
 |.str a,b,h=>by cases b <;> simp[eU] at h;rw[h]
 |.obj a,b,h=>by cases b <;> simp[eU] at h;rw[h]
 |.lst a,b,h=>by
  cases b with
  |lst b=>rw[sameDs_eq a b (by simpa [eU] using h)]
  |_=>simp[eU] at h
 |.scr a,b,h=>by
  cases b with
  |scr b=>rw[sameDs_eq a b (by simpa [eU] using h)]
  |_=>simp[eU] at h
 |.tup a,b,h=>by
  cases b with
  |tup b=>rw[sameDs_eq a b (by simpa [eU] using h)]
  |_=>simp[eU] at h
theorem sameDs_eq:∀(a b:List D),sameDs a b=true->a=b
 |[],[],_=>rfl
 |[],_::_,h=>by simp[sameDs] at h
 |_::_,[],h=>by simp[sameDs] at h
 |a::as,b::bs,h=>by
  simp only[sameDs,bt] at h;rw[Av a b h.1,sameDs_eq as bs h.2]
end
noncomputable def cellOf (ω:Om):D->Option Ob
 |.obj n=>ω[n]?
 |_=>zo
theorem cX (h:cellOf ω d=zn ob):∃ n,d=.obj n/\ω[n]?=zn ob:=by
 cases d with
 |obj n=>exact⟨n,rfl,h⟩
 |_=>cases h
theorem Stt.ref {K:aa} (t:Stt cls K ok H ω) (r:Rep K ok H v (.obj n)) (e:ω[n]?=zn ob):∃ a,v=.ref a/\ok.al n=zn a/\CellR cls K ok H a ob:=by
 obtain⟨a,rfl,e1⟩:=r.obj_inv;obtain⟨b,e2,c⟩:=t.cell n ob e;rw[e1] at e2;cases e2;exact⟨a,rfl,e1,c⟩
noncomputable def LJ (c:Nat) (x:Str) (ω:Om) (d:D):Option D:=match cellOf ω d with
 |some (.ins c' fs)=>if c'=c then fs.lookup x else zo
 |_=>zo
theorem HH (h:LJ c x ω d=zn y):∃ n fs,d=.obj n/\ω[n]?=zn (.ins c fs)/\fs.lookup x=zn y:=by
 unfold LJ at h;split at h
 ·rename_i c' fs hc
  obtain⟨n,rfl,e⟩:=cX hc
  by_cases hcc:c'=c
  ·subst hcc;rw[if_pos rfl] at h;exact⟨n,fs,rfl,e,h⟩
  ·rw[if_neg hcc] at h;cases h
 ·cases h
noncomputable def fK (c:Nat) (x:Str) (f:OG D):OG D:=oB f fun d _ ω=>oR (pu (LJ c x ω d) ω)
section
variable {X:Cx}{cls:Nat->ag}{E:XE}{e a b c o i value:b0}{es:List b0}{f:DF}{fa fb fo fi fv:OG D}{fl:OG (List D)}{ft ft':OG Bool}{pos p apos pos':Pos}{x m:Str}{cn:Nat}
theorem Ny (hc:Cls X.K (cls cn)) (hn:NoAttr X.K (cls cn) x) (he:OE X cls E e fa) (hb:g9 e x X.env (eval e X.env)=eval e X.env:=by rfl):OE X cls E (.Attribute e x pos) (fK cn x fa):=(MH he hb).imp fun σ H Q ⟨ok,ρ,ω,r,ω',P,e,q⟩=>by
 refine tO.then_ P e (fun c z=>by subst z;exact q) fun d ω1 v ok1 H1 e1 n1 P1 r1=> ?_;obtain⟨y,e3,rfl⟩:=bX e1;obtain⟨ue3,rfl⟩:=cJ e3;obtain⟨n,fs,rfl,e4,e5⟩:=HH ue3;obtain⟨a,rfl,e6,dx,vs,e7,kv⟩:=P1.st.ref r1 e4;obtain⟨u,e8,ru⟩:=kv.look e5;exact⟨a,_,dx,vs,u,rfl,e7,hc,hn,e8,q u ok1 H1 n1 ru⟩
noncomputable def Cd (ω:Om) (a b:D):Option D:=match cellOf ω a with
 |some (.ml ds)=>(toI b).bind fun i=>atI ds i
 |some _=>zo
 |none=>gIx a b
theorem Lc {K:aa}:xB cls K (fun x y H Q=>(∃ p xs i v,x=.ref p/\y=.int i/\SqL K H p xs/\atI xs i=zn v/\Q v H)∨(∃ p xs i v,x=.ref p/\y=.int i/\SqT K H p xs/\atI xs i=zn v/\Q v H)∨
  ∃ z i c,x=.str z/\y=.int i/\z.length<=sizeLine/\atI z.cps.toList i=zn c/\Q (.str ⟨#[c]⟩) H) fun ω a b=>pu (Cd ω a b) ω:=fun ok H ω x y a b d ω' Q h1 st ra rb e k=>by
 obtain⟨ue,rfl⟩:=cJ e;clear e;unfold Cd at ue;cases hc:cellOf ω' a with
 |some ob=>
  rw[hc] at ue;obtain⟨n,rfl,e1⟩:=cX hc;cases ob with
  |ml ds=>
   obtain⟨i,e0,ue⟩:=bind_some (show(toI b).bind _=zn d from ue);obtain rfl:=xI e0;obtain⟨p,rfl,e2,xs,e3,r⟩:=st.ref ra e1;obtain rfl:=rb.int_inv;obtain⟨v,e4,rv⟩:=r.atI ue;exact .inl ⟨p,xs,i,v,rfl,rfl,SqL.of e3,e4,k v ok H (.refl h1 st) rv⟩
  |_=>cases ue
 |none=>
  rw[hc] at ue;have ue':gIx a b=zn d:=ue;have k':∀ v H',Same H H'->Rep K ok H' v d->Q v H':=fun v H' s r=>k v ok H' (.same h1 st s) r;cases b with
  |int i=>
   obtain rfl:=rb.int_inv;cases a with
   |lst ds=>
    obtain⟨p,xs,rfl,h,r⟩:=ra.lst_inv;obtain⟨v,e1,r1⟩:=r.atI ue';exact .inl ⟨p,xs,i,v,rfl,rfl,h.sq,e1,k' v H (Same.refl H) r1⟩
   |scr ds=>
    obtain⟨p,xs,rfl,h,r⟩:=ra.scr_inv;obtain⟨v,e1,r1⟩:=r.atI ue';exact .inl ⟨p,xs,i,v,rfl,rfl,h.sq,e1,k' v H (Same.refl H) r1⟩
   |tup ds=>
    obtain⟨p,xs,rfl,h,r⟩:=ra.tup_inv;obtain⟨v,e1,r1⟩:=r.atI ue';exact .inr (.inl ⟨p,xs,i,v,rfl,rfl,h.sq,e1,k' v H (Same.refl H) r1⟩)
   |str z=>
    obtain rfl:=ra.str_inv;have e':(if z.length<=sizeLine then(L2.atI z.cps.toList i).map fun c=>D.str ⟨#[c]⟩ else zo)=zn d:=ue'
    by_cases hz:z.length<=sizeLine
    ·rw[if_pos hz] at e';cases q:L2.atI z.cps.toList i with
     |none=>rw[q] at e';cases e'
     |some c=>
      rw[q] at e';cases e';exact .inr (.inr ⟨z,i,c,rfl,rfl,hz,q,k' _ H (Same.refl H) (.str _)⟩)
    ·rw[if_neg hz] at e';cases e'
   |_=>cases ue'
  |_=>cases a <;> cases ue'
theorem PF (ha:OE X cls E a fa) (hb:OE X cls E b fb) (hs:FO b:=by intro _ _;rfl):OE X cls E (.Subscript a b pos) (o2 (fun ω a b=>pu (Cd ω a b) ω) fa fb):=(Ps NO ha hb hs).imp fun _ _ _ h=>tO.op Lc h
noncomputable def toK:D->Option Key
 |.int i=>zn (.inl i)
 |.str x=>zn (.inr x)
 |_=>zo
noncomputable def LS:List D->Option (List Key)
 |[]=>zn []
 |d::ds=>(toK d).bind fun k=>(LS ds).map fun ks=>k::ks
noncomputable def ofK:Key->D
 |.inl i=>.int i
 |.inr x=>.str x
theorem xH {K:aa} (h:toK d=zn k) (r:Rep K ok H v d):v=kV k:=by
 cases d with
 |int i=>cases h;exact r.int_inv
 |str x=>cases h;exact r.str_inv
 |_=>cases h
theorem Aq {K:aa}:∀ {vs:List V}{ds:List D}{ks:List Key},LS ds=zn ks->Reps K ok H vs ds->vs=ks.map kV
 |_,_,_,h,.nil=>by cases h;rfl
 |_,_,_,h,.cons r rs=>by
  obtain⟨k,e1,h⟩:=bind_some h;obtain⟨ks,e2,rfl⟩:=aF h;rw[xH e1 r,Aq e2 rs];rfl
noncomputable def CM:D->Option (List Key)
 |.tup ds=>LS ds
 |_=>zo
theorem toT'_rep {K:aa} (h:CM d=zn ks) (r:Rep K ok H v d):∃ b,v=.ref b/\ok b/\H b=zn (.tup (ks.map kV)):=by
 cases d with
 |tup ds=>
  obtain⟨b,xs,rfl,g,rs⟩:=r.tup_inv;rw[Aq h rs] at g;exact⟨b,rfl,g.1,g.2⟩
 |_=>cases h
section
variable {κ:Type} [DecidableEq κ]
noncomputable def gP (kvs:List (κ×D)) (k:κ):Option D:=(kvs.find? fun kv=>decide (kv.1=k)).map (·.2)
noncomputable def gQ (kvs:List (κ×D)) (k:κ) (v:D):List (κ×D):=if(kvs.any fun kv=>decide (kv.1=k))=true then kvs.map (fun kv=>if kv.1=k then(kv.1,v) else kv) else kvs++[(k,v)]
noncomputable def dJ (kvs:List (κ×D)) (k:κ):List (κ×D):=kvs.filter fun kv=>decide (kv.1≠k)
variable {K:aa}{ok:Okk}{H:Hp}
theorem KvR.val:∀ {vs:List (κ×V)}{ds:List (κ×D)}{d:D},KvR K ok H vs ds->gP ds k=zn d->∃ v,uI vs k=zn v/\Rep K ok H v d
 |_,_,_,.nil,e=>by cases e
 |_,_,d,@KvR.cons _ _ _ _ k' v d' vs ds r rs,e=>by
  by_cases q:k'=k
  ·have e':gP ((k',d')::ds) k=zn d':=by simp[gP,hW,q]
   rw[e'] at e;cases e;exact⟨v,lZ (p:=(k',v)) q,r⟩
  ·have e':gP ((k',d')::ds) k=gP ds k:=by simp[gP,hW,q]
   rw[e'] at e;obtain⟨u,e1,ru⟩:=KvR.val rs e;exact⟨u,by rw[jS (p:=(k',v)) q];exact e1,ru⟩
theorem KvR.val_none:∀ {vs:List (κ×V)}{ds:List (κ×D)},KvR K ok H vs ds->gP ds k=zo->uI vs k=zo
 |_,_,.nil,e=>rfl
 |_,_,@KvR.cons _ _ _ _ k' v d' vs ds r rs,e=>by
  by_cases q:k'=k
  ·have e':gP ((k',d')::ds) k=zn d':=by simp[gP,hW,q]
   rw[e'] at e;cases e
  ·have e':gP ((k',d')::ds) k=gP ds k:=by simp[gP,hW,q]
   rw[e'] at e;rw[jS (p:=(k',v)) q];exact KvR.val_none rs e
theorem KvR.any:∀ {vs:List (κ×V)}{ds:List (κ×D)},KvR K ok H vs ds->(vs.any fun kv=>decide (kv.1=k))=ds.any fun kv=>decide (kv.1=k)
 |_,_,.nil=>rfl
 |_,_,.cons _ rs=>by rw[mz,mz,KvR.any rs]
theorem KvR.rep1 (q:Rep K ok H v d):∀ {vs:List (κ×V)}{ds:List (κ×D)},KvR K ok H vs ds->KvR K ok H (vs.map fun kv=>if kv.1=k then(kv.1,v) else kv) (ds.map fun kv=>if kv.1=k then(kv.1,d) else kv)
 |_,_,.nil=>.nil
 |_,_,@KvR.cons _ _ _ _ k' v' d' vs ds r rs=>by
  rw[bu,bu]
  by_cases z:k'=k
  ·rw[if_pos z,if_pos z];exact .cons q (KvR.rep1 q rs)
  ·rw[if_neg z,if_neg z];exact .cons r (KvR.rep1 q rs)
theorem KvR.snoc (q:Rep K ok H v d):∀ {vs:List (κ×V)}{ds:List (κ×D)},KvR K ok H vs ds->KvR K ok H (vs++[(k,v)]) (ds++[(k,d)])
 |_,_,.nil=>.cons q .nil
 |_,_,.cons r rs=>.cons r (KvR.snoc q rs)
theorem KvR.put {ds:List (κ×D)} (h:KvR K ok H vs ds) (q:Rep K ok H v d):KvR K ok H (pJ vs k v) (gQ ds k d):=by
 unfold pJ gQ;rw[h.any];split
 ·exact h.rep1 q
 ·exact h.snoc q
theorem KvR.drop:∀ {vs:List (κ×V)}{ds:List (κ×D)},KvR K ok H vs ds->KvR K ok H (wH vs k) (dJ ds k)
 |_,_,.nil=>.nil
 |_,_,@KvR.cons _ _ _ _ k' v' d' vs ds r rs=>by
  unfold wH dJ
  by_cases z:k'=k
  ·rw[px,px];simp only[z,ne_eq,not_true_eq_false,decide_false,d7,if_false];exact KvR.drop rs
  ·rw[px,px];simp only[z,ne_eq,not_false_eq_true,decide_true,if_true];exact .cons r (KvR.drop rs)
end
noncomputable def HJ (ω:Om) (d y:D):Option (Option D):=match cellOf ω d with
 |some (.dt kvs)=>(CM y).map fun k=>gP kvs k
 |some (.dz kvs)=>(CM y).map fun k=>gP kvs k
 |some (.dk kvs)=>(toK y).map fun k=>gP kvs k
 |_=>zo
def ResR (K:aa) (ok:Okk) (H:Hp):Option D->Option V->Prop
 |some z,u=>∃ v,u=zn v/\Rep K ok H v z
 |none,u=>u=zo
theorem ResR.isSome {K:aa} (h:ResR K ok H r u):u.isSome=r.isSome:=by
 cases r with
 |none=>rw[show u=zo from h];rfl
 |some z=>obtain⟨v,rfl,_⟩:=h;rfl
theorem KvR.res {κ:Type} [DecidableEq κ] {K:aa}{ok:Okk}{H:Hp}{k:κ}{vs:List (κ×V)}{ds:List (κ×D)} (h:KvR K ok H vs ds):ResR K ok H (gP ds k) (uI vs k):=by
 cases q:gP ds k with
 |none=>exact h.val_none q
 |some z=>exact h.val q
theorem DGet.of {K:aa}{x y:V} (t:Stt cls K ok H ω) (rx:Rep K ok H x d) (ry:Rep K ok H y k) (e:HJ ω d k=zn r):∃ a u,x=.ref a/\DGet H a y u/\ResR K ok H r u:=by
 unfold HJ at e;cases hc:cellOf ω d with
 |none=>rw[hc] at e;cases e
 |some ob=>
  rw[hc] at e;obtain⟨n,rfl,e1⟩:=cX hc;cases ob with
  |dt kvs=>
   obtain⟨a,rfl,e2,vs,e3,kv⟩:=t.ref rx e1;obtain⟨ks,e4,e5⟩:=aF (show(CM k).map _=zn r from e);subst e5;obtain⟨b,rfl,_,hb⟩:=toT'_rep e4 ry;exact⟨a,_,rfl,DGet.t e3 hb,kv.res⟩
  |dz kvs=>
   obtain⟨a,rfl,e2,ob,vs,e3,kv⟩:=t.ref rx e1;obtain⟨ks,e4,e5⟩:=aF (show(CM k).map _=zn r from e);subst e5;obtain⟨b,rfl,_,hb⟩:=toT'_rep e4 ry;exact⟨a,_,rfl,.inr ⟨vs,ks,b,.inr ⟨ob,e3⟩,rfl,hb,rfl⟩,kv.res⟩
  |dk kvs=>
   obtain⟨a,rfl,e2,vs,e3,kv⟩:=t.ref rx e1;obtain⟨ks,e4,e5⟩:=aF (show(toK k).map _=zn r from e);subst e5;obtain rfl:=xH e4 ry;exact⟨a,_,rfl,DGet.k e3,kv.res⟩
  |_=>cases e
noncomputable def sX (ω:Om) (d y:D):Option D:=(HJ ω d y).join
theorem Ki (hu:X.A.units+1<fj) (ho:OE X cls E o fo) (hi:OE X cls E i fi) (hs:Qm i:=by intro _ _;rfl):OE X cls E (.Subscript o i pos) (o2 (fun ω a b=>pu (sX ω a b) ω) fo fi):=(Jy hu ho hi hs).imp fun σ H Q ⟨ok,ρ,ω,r,ω',P,e,q⟩=>by
 refine tO.then_ P e (fun c z=>by subst z;exact q) fun d ω1 v ok1 H1 e1 n1 P1 r1=> ?_;refine tO.then_ P1 e1 (fun c z=>by subst z;exact exR.nw q n1) fun y ω2 u ok2 H2 e2 n2 P2 r2=> ?_;obtain⟨z,e3,rfl⟩:=bX e2;obtain⟨ue3,rfl⟩:=cJ e3;have e4:HJ ω' d y=zn (zn z):=by
  unfold sX at ue3;cases q:HJ ω' d y with
  |none=>rw[q] at ue3;cases ue3
  |some w=>rw[q] at ue3;cases w with
   |none=>cases ue3
   |some w=>cases ue3;rfl
 obtain⟨a,w,rfl,g,w2⟩:=DGet.of P2.st (r1.ex n2.ex) r2 e4;obtain⟨v',rfl,rv⟩:=w2;exact⟨a,v',rfl,g,q v' ok2 H2 (n1.trans n2) rv⟩
noncomputable def LK (ω:Om) (y d:D):Option D:=(HJ ω d y).map fun r=>.bl r.isSome
theorem MT (hu:X.A.units+1<fj) (hi:OE X cls E i fi) (ho:OE X cls E o fo) (hm:jn .In o=false:=by with_unfolding_all rfl):OT X cls E (.Compare i [.In] [o] pos) (dG (o2 (fun ω a b=>pu (LK ω a b) ω) fi fo)):=
 (Ms (ML hu hi ho) hm).imp fun σ H Q ⟨ok,ρ,ω,r,ω',P,e,q⟩=>by
 rcases kH e with⟨c,e1,rfl⟩|⟨dd,ωd,e0,e5⟩
 ·rcases kH e1 with⟨c',e2,e3⟩|⟨y,ω1,e2,e3⟩
  ·cases e3;exact⟨ok,ρ,ω,.ex c,ω',P,e2,q⟩
  ·refine⟨ok,ρ,ω,.ok y,ω1,P,e2,fun v ok1 H1 n1 r1=> ?_⟩;rcases kH e3 with⟨c',e4,e6⟩|⟨z,ω2,e4,e6⟩
   ·cases e6;exact⟨ok1,ρ,ω1,.ex c,ω',P.nw n1,e4,exR.nw q n1⟩
   ·obtain⟨_,_,w⟩:=bX e6;cases w
 ·rcases kH e0 with⟨c',e2,e3⟩|⟨y,ω1,e2,e3⟩
  ·cases e3
  ·refine⟨ok,ρ,ω,.ok y,ω1,P,e2,fun v ok1 H1 n1 r1=> ?_⟩;rcases kH e3 with⟨c',e4,e6⟩|⟨z,ω2,e4,e6⟩
   ·cases e6
   ·refine⟨ok1,ρ,ω1,.ok z,ω2,P.nw n1,e4,fun u ok2 H2 n2 r2=> ?_⟩;obtain⟨w,e7,w'⟩:=bX e6;cases w';obtain⟨ue7,rfl⟩:=cJ e7;obtain⟨ro,e8,rfl⟩:=aF ue7;obtain⟨k,e9,rfl⟩:=bX e5;obtain⟨ue9,rfl⟩:=cJ e9;cases ue9;obtain⟨a,w,rfl,g,w2⟩:=DGet.of n2.st r2 (r1.ex n2.ex) e8;exact⟨a,w,rfl,g,ro.isSome,by rw[w2.isSome],q ok2 H2 (n1.trans n2)⟩
noncomputable def DK:OG D:=fun _ ω=>zn (.ok (.obj ω.length),ω++[.dt []])
theorem JV:OE X cls E (.Dict [] [] pos) DK:=(PE.imp GJ) fun σ H Q ⟨ok,ρ,ω,r,ω',P,e,q⟩=>by
 cases e;exact fun p n=>q _ _ _ (Nw.make (o:=.dT []) P.okh P.st n ⟨[],aJ,.nil⟩) .new_obj
end
end L2.MB
end
section
namespace L2.MB
inductive OOut where
 |nx (ρ:Rho)|rt (d:D)|bk (ρ:Rho)|ct (ρ:Rho)|ex (c:Nat)
abbrev OS:=Rho->Om->Option (OOut×Om)
def nxR (cls:Nat->ag) (K:aa) (ok:Okk) (H:Hp) (ω':Om) (ρ:Rho) (N:St->Hp->Prop):Prop:=∀ ok' H' σ',Nw cls K ok H ok' H' ω'->EnvR K ok' H' σ' ρ->σ'.length=ρ.length->N σ' H'
def outO (cls:Nat->ag) (K:aa) (ok:Okk) (H:Hp) (ω':Om) (E:XE) (D:Bt):OOut->Prop
 |.nx ρ=>nxR cls K ok H ω' ρ D.nx
 |.bk ρ=>nxR cls K ok H ω' ρ D.bk
 |.ct ρ=>nxR cls K ok H ω' ρ D.ct
 |.rt d=>∀ v ok' H',Nw cls K ok H ok' H' ω'->Rep K ok' H' v d->D.rt v H'
 |.ex c=>exR cls K ok H ω' E c
def tOS (cls:Nat->ag) (K:aa) (F:OS) (E:XE):TS:=fun D σ H=>∃(ok:Okk) (ρ:Rho) (ω:Om) (o:OOut) (ω':Om),Pre cls K ok H ω σ ρ/\F ρ ω=zn (o,ω')/\outO cls K ok H ω' E D o
abbrev OSt (X:Cx) (cls:Nat->ag) (E:XE) (st:c9) (F:OS):Prop:=PS X st (tOS cls X.K F E)
abbrev OSs (X:Cx) (cls:Nat->ag) (E:XE) (st:List c9) (F:OS):Prop:=PSs X st (tOS cls X.K F E)
theorem nxR.nw {K:aa} (h:nxR cls K ok H ω' ρ N) (n:Nw cls K ok H ok' H' ω1):nxR cls K ok' H' ω' ρ N:=fun ok2 H2 σ2 m e l=>h ok2 H2 σ2 (n.trans m) e l
theorem outO.nw {K:aa}{D:Bt} (h:outO cls K ok H ω' E D o) (n:Nw cls K ok H ok' H' ω1):outO cls K ok' H' ω' E D o:=by
 cases o with
 |nx ρ=>exact nxR.nw h n
 |bk ρ=>exact nxR.nw h n
 |ct ρ=>exact nxR.nw h n
 |rt d=>exact fun v ok2 H2 m r=>h v ok2 H2 (n.trans m) r
 |ex c=>exact exR.nw h n
noncomputable def oX {α:Type} (f:OG α) (g:α->Rho->Om->Option (OOut×Om)):OS:=fun ρ ω=>match f ρ ω with
 |none=>zo
 |some (.ex c,ω1)=>zn (.ex c,ω1)
 |some (.ok a,ω1)=>g a ρ ω1
theorem DI {g:α->Rho->Om->Option (OOut×Om)} (h:oX f g ρ ω=zn (o,ω')):(∃ c,f ρ ω=zn (.ex c,ω')/\o=.ex c)∨∃ a ω1,f ρ ω=zn (.ok a,ω1)/\g a ρ ω1=zn (o,ω'):=by
 unfold oX at h;split at h
 ·cases h
 ·cases h;exact .inl ⟨_,‹_›,rfl⟩
 ·exact .inr ⟨_,_,‹_›,h⟩
noncomputable def bI:OS:=fun ρ ω=>zn (.nx ρ,ω)
noncomputable def aH (F G:OS):OS:=fun ρ ω=>match F ρ ω with
 |none=>zo
 |some (.nx ρ1,ω1)=>G ρ1 ω1
 |some (o,ω1)=>zn (o,ω1)
theorem CW (h:aH F G ρ ω=zn (o,ω')):(∃ ρ1 ω1,F ρ ω=zn (.nx ρ1,ω1)/\G ρ1 ω1=zn (o,ω'))∨(F ρ ω=zn (o,ω')/\∀ ρ1,o≠ .nx ρ1):=by
 unfold aH at h;split at h
 ·cases h
 ·exact .inl ⟨_,_,‹_›,h⟩
 ·rename_i o1 ω1 hn q
  cases h;exact .inr ⟨q,fun ρ1 z=>hn ρ1 z⟩
noncomputable def aU (i:Nat) (f:OG D):OS:=oX f fun d ρ ω=>zn (.nx (ρ.set i (zn d)),ω)
noncomputable def bV (f:OG D):OS:=oX f fun _ ρ ω=>zn (.nx ρ,ω)
noncomputable def dN (t:OG Bool) (F G:OS):OS:=oX t fun k ρ ω=>if k=true then F ρ ω else G ρ ω
noncomputable def aS (f:OG D):OS:=oX f fun d _ ω=>zn (.rt d,ω)
section
variable {X:Cx}{cls:Nat->ag}{E:XE}{st:c9}{rest body els:List c9}{tg e a b c o i iter value:b0}{es:List b0}{f:DF}{fa fb fo fi fv:OG D}{fl:OG (List D)}{ft ft':OG Bool}{F G:OS}{pos p apos pos':Pos}{x m:Str}{cn:Nat}
theorem tO.thenS {K:aa}{o:OOut}{D:Bt} (P:Pre cls K ok H ω σ ρ) (e:oX fa g ρ ω=zn (o,ω')) (hx:outO cls K ok H ω' E D o)
  (h:∀ d ω1 v ok1 H1,g d ρ ω1=zn (o,ω')->Nw cls K ok H ok1 H1 ω1->Pre cls K ok1 H1 ω1 σ ρ->Rep K ok1 H1 v d->outO cls K ok1 H1 ω' E D o->Q v H1):tO cls K fa E σ H Q:=by
 rcases DI e with⟨c,e1,rfl⟩|⟨d,ω1,e1,e2⟩
 ·exact⟨ok,ρ,ω,.ex c,ω',P,e1,hx⟩
 ·exact⟨ok,ρ,ω,.ok d,ω1,P,e1,fun v ok1 H1 n r1=>h d ω1 v ok1 H1 e2 n (P.nw n) r1 (hx.nw n)⟩
theorem MW:OSs X cls E [] bI:=(PSs.imp Jo) fun D σ H ⟨ok,ρ,ω,o,ω',P,e,q⟩=>by
 cases e;exact q ok H σ (.refl P.okh P.st) P.env P.len
theorem JK (h1:OSt X cls E st F) (h2:OSs X cls E rest G):OSs X cls E (st::rest) (aH F G):=(GG h1 h2).imp fun D σ H ⟨ok,ρ,ω,o,ω',P,e,q⟩=>by
 rcases CW e with⟨ρ1,ω1,e1,e2⟩|⟨e1,hn⟩
 ·exact⟨ok,ρ,ω,_,ω1,P,e1,fun ok1 H1 σ1 n1 r1 l1=>⟨ok1,ρ1,ω1,o,ω',⟨n1.okh,n1.st,r1,l1⟩,e2,q.nw n1⟩⟩
 ·refine⟨ok,ρ,ω,o,ω',P,e1,?_⟩;cases o with
  |nx ρ1=>exact absurd rfl (hn ρ1)
  |_=>exact q
theorem MV (h1:OSt X cls E st F):OSs X cls E [st] F:=Jn h1
theorem MZ {i:Nat} (hN:X.N.Nodup) (hi:X.N[i]?=zn x) (hx:Loc X.env.scope x) (he:OE X cls E e fa) (hs:jw e (zn (.Name x pos')) pos.line X.env=pure false:=by rfl)
  (hf:X.fn x=true∨X.env.scope.names.lookup x=zn .local:=by first|exact .inl rfl|exact .inr rfl|assumption):OSt X cls E (.Assign [.Name x pos'] e pos) (aU i fa):=
 (Mt hN hi hx he hs hf).imp fun D σ H ⟨ok,ρ,ω,o,ω',P,e,q⟩=>by
  refine tO.thenS P e q fun d ω1 v ok1 H1 e1 n1 P1 r1 q1=> ?_;cases e1;exact q1 ok1 H1 _ (.refl P1.okh P1.st) (P1.env.set P1.len r1 i) (by rw[du,du];exact P1.len)
theorem JI (he:OE X cls E e fa) (hs:jw e zo pos.line X.env=pure false:=by rfl):OSt X cls E (.Expr e pos) (bV fa):=
 (Jq he hs).imp fun D σ H ⟨ok,ρ,ω,o,ω',P,e,q⟩=>by
  refine tO.thenS P e q fun d ω1 v ok1 H1 e1 n1 P1 r1 q1=> ?_;cases e1;exact q1 ok1 H1 σ (.refl P1.okh P1.st) P1.env P1.len
theorem Pz (hc:OT X cls E c ft) (ha:OSs X cls E body F) (hb:OSs X cls E els G):OSt X cls E (.If c body els pos) (dN ft F G):=(Pp hc ha hb).imp fun D σ H ⟨ok,ρ,ω,o,ω',P,e,q⟩=>by
 rcases DI e with⟨c,e1,rfl⟩|⟨k,ω1,e1,e2⟩
 ·exact⟨ok,ρ,ω,.ex c,ω',P,e1,q⟩
 ·refine⟨ok,ρ,ω,.ok k,ω1,P,e1,fun ok1 H1 n1=> ?_⟩;cases k with
  |true=>exact LG ⟨ok1,ρ,ω1,o,ω',P.nw n1,e2,q.nw n1⟩
  |false=>exact LH ⟨ok1,ρ,ω1,o,ω',P.nw n1,e2,q.nw n1⟩
theorem MU (he:OE X cls E e fa):OSt X cls E (.Return (zn e) pos) (aS fa):=(Mu he).imp fun D σ H ⟨ok,ρ,ω,o,ω',P,e,q⟩=>by
 refine tO.thenS P e q fun d ω1 v ok1 H1 e1 n1 P1 r1 q1=> ?_;cases e1;exact q1 v ok1 H1 (.refl P1.okh P1.st) r1
noncomputable def kA (f:Str) (v:D):List (Str×D)->List (Str×D)
 |[]=>[(f,v)]
 |(g,x)::r=>if g=f then(g,v)::r else(g,x)::kA f v r
theorem KvR.putF {K:aa} (q:Rep K ok H v d):∀ {vs:List (Str×V)}{ds:List (Str×D)},KvR K ok H vs ds->KvR K ok H (L2.putF x v vs) (kA x d ds)
 |_,_,.nil=>.cons q .nil
 |_,_,@KvR.cons _ _ _ _ k v' d' vs ds r rs=>by
  show KvR K ok H (if k=x then(k,v)::vs else(k,v')::L2.putF x v vs) (if k=x then(k,d)::ds else(k,d')::kA x d ds)
  by_cases z:k=x
  ·rw[if_pos z,if_pos z];exact .cons q rs
  ·rw[if_neg z,if_neg z];exact .cons r (KvR.putF q rs)
noncomputable def sU (c:Nat) (x:Str) (ω:Om) (o v:D):Option Om:=match o with
 |.obj n=>match ω[n]? with
  |some (.ins c' fs)=>if c'=c/\fs.length<1000 then zn (ω.set n (.ins c (kA x v fs))) else zo
  |_=>zo
 |_=>zo
theorem EJ {c:Nat}{o v:D} (h:sU c x ω o v=zn ω'):∃ n fs,o=.obj n/\ω[n]?=zn (.ins c fs)/\fs.length<1000/\ω'=ω.set n (.ins c (kA x v fs)):=by
 unfold sU at h;split at h
 ·split at h
  ·obtain⟨⟨rfl,hl⟩,rfl⟩:=bA h;exact⟨_,_,rfl,‹_›,hl,rfl⟩
  ·cases h
 ·cases h
noncomputable def lU (c:Nat) (x:Str) (fo fv:OG D):OS:=oX fv fun v=>oX fo fun o ρ ω=>(sU c x ω o v).map fun ω'=>(.nx ρ,ω')
theorem MY (hc:Cls X.K (cls cn)) (hn:NoAttr X.K (cls cn) x) (ho:OE X cls E o fo) (hv:OE X cls E value fv) (hs:jw value (zn (.Attribute o x pos')) pos.line X.env=pure false:=by rfl):OSt X cls E (.Assign [.Attribute o x pos'] value pos) (lU cn x fo fv):=
 (Mv ho hv hs).imp fun D σ H ⟨ok,ρ,ω,oo,ω',P,e,q⟩=>by
  refine tO.thenS P e q fun dv ω1 v ok1 H1 e1 n1 P1 r1 q1=> ?_;refine tO.thenS P1 e1 q1 fun d ω2 u ok2 H2 e2 n2 P2 r2 q2=> ?_;obtain⟨ω3,e3,e4⟩:=aF e2;cases e4;obtain⟨n,fs,rfl,e5,hl,rfl⟩:=EJ e3;obtain⟨a,rfl,e6,dx,vs,e7,kv⟩:=P2.st.ref r2 e5;refine⟨a,_,dx,vs,rfl,e7,hc,hn,by rw[kv.length];exact hl,?_⟩;have nw:=Nw.write (o:=.ins (cls cn) dx (L2.putF x v vs)) (ob:=.ins cn (kA x dv fs)) P2.okh P2.st e6 e7 fun dat=>⟨dx,_,aJ,((kv.mono dat fun _ _ z=>z).putF ((r1.ex n2.ex).mono dat))⟩;exact q2 ok2 _ σ nw (P2.env.ex nw.ex) P2.len
noncomputable def yR (ω:Om) (o i v:D):Option Om:=match o,i with
 |.obj n,.int k=>match ω[n]? with
  |some (.ml ds)=>(ixN ds.length k).map fun j=>ω.set n (.ml (ds.set j v))
  |_=>zo
 |_,_=>zo
theorem EI {o i v:D} (h:yR ω o i v=zn ω'):∃ n k ds j,o=.obj n/\i=.int k/\ω[n]?=zn (.ml ds)/\ixN ds.length k=zn j/\ω'=ω.set n (.ml (ds.set j v)):=by
 unfold yR at h;split at h
 ·split at h
  ·obtain⟨j,e1,rfl⟩:=aF h;exact⟨_,_,_,j,rfl,rfl,‹_›,e1,rfl⟩
  ·cases h
 ·cases h
noncomputable def nC (g:Om->D->D->D->Option Om) (fo fi fv:OG D):OS:=oX fv fun v=>oX fo fun o=>oX fi fun i ρ ω=>(g ω o i v).map fun ω'=>(.nx ρ,ω')
theorem JF (ho:OE X cls E o fo) (hi:OE X cls E i fi) (hv:OE X cls E value fv) (hs:swapsWithSole [.Subscript o i pos'] value pos.line X.env=pure false:=by rfl) (hw:swappedStores [.Subscript o i pos'] value X.env=pure zo:=by rfl)
  (h1:(o6 [.Subscript o i pos'] X.env).map (·.2)=[assign (.Subscript o i pos') X.env]:=by rfl)
  (ha:∀ v,assign (.Subscript o i pos') X.env v=(do
   let ov <- holding [v] (eval o X.env)
   let iv <- holding [v,ov] (eval i X.env)
   o7 pos'
   holding [v,ov,iv] (setItem ov iv v)
   release [v,ov,iv] []):=by intro _;rfl):OSt X cls E (.Assign [.Subscript o i pos'] value pos) (nC yR fo fi fv):=
 (Mw hv (Mz ho hi Gd ha) hs hw h1).imp fun D σ H ⟨ok,ρ,ω,oo,ω',P,e,q⟩=>by
  refine tO.thenS P e q fun dv ω1 v ok1 H1 e1 n1 P1 r1 q1=> ?_;refine tO.thenS P1 e1 q1 fun d ω2 u ok2 H2 e2 n2 P2 r2 q2=> ?_;refine tO.thenS P2 e2 q2 fun y ω3 w ok3 H3 e3 n3 P3 r3 q3=> ?_;obtain⟨ω4,e4,e5⟩:=aF e3;cases e5;obtain⟨n,k,ds,j,rfl,rfl,e5,hj,rfl⟩:=EI e4;obtain⟨a,rfl,e6,xs,e7,rs⟩:=P3.st.ref (r2.ex n3.ex) e5;obtain rfl:=r3.int_inv;refine⟨a,xs,k,j,rfl,rfl,e7,by rw[rs.length];exact hj,?_⟩;have nw:=Nw.write (o:=.lst (xs.set j v)) (ob:=.ml (ds.set j dv)) P3.okh P3.st e6 e7 fun dat=>⟨_,aJ,(rs.mono dat).set ((r1.ex (n2.ex.trans n3.ex)).mono dat) j⟩;exact q3 ok3 _ σ nw (P3.env.ex nw.ex) P3.len
noncomputable def sV (ω:Om) (o i v:D):Option Om:=match o with
 |.obj n=>match ω[n]? with
  |some (.dt kvs)=>(CM i).bind fun k=>if kvs.length<sizeLine then zn (ω.set n (.dt (gQ kvs k v))) else zo
  |some (.dk kvs)=>(toK i).bind fun k=>if kvs.length<sizeLine then zn (ω.set n (.dk (gQ kvs k v))) else zo
  |_=>zo
 |_=>zo
theorem JJ (hu:X.A.units+1<fj) (ho:OE X cls E o fo) (hi:OE X cls E i fi) (hv:OE X cls E value fv) (hs:jw value (zn (.Subscript o i pos')) pos.line X.env=pure false:=by rfl):
  OSt X cls E (.Assign [.Subscript o i pos'] value pos) (nC sV fo fi fv):=
 (Jr hu ho hi hv hs).imp fun D σ H ⟨ok,ρ,ω,oo,ω',P,e,q⟩=>by
  refine tO.thenS P e q fun dv ω1 v ok1 H1 e1 n1 P1 r1 q1=> ?_;refine tO.thenS P1 e1 q1 fun d ω2 u ok2 H2 e2 n2 P2 r2 q2=> ?_;refine tO.thenS P2 e2 q2 fun y ω3 w ok3 H3 e3 n3 P3 r3 q3=> ?_;obtain⟨ω4,e4,e5⟩:=aF e3;cases e5;have rv:=r1.ex (n2.ex.trans n3.ex);unfold sV at e4;split at e4
  ·split at e4
   ·rename_i n kvs e5
    obtain⟨ks,e8,e9⟩:=bind_some e4;obtain⟨hl,rfl⟩:=bA e9;obtain⟨a,rfl,e6,vs,e7,kv⟩:=P3.st.ref (r2.ex n3.ex) e5;obtain⟨b,rfl,_,hb⟩:=toT'_rep e8 r3;refine⟨a,_,rfl,DPut.t e7 hb (by rw[kv.length];exact hl),?_⟩;have nw:=Nw.write (o:=.dT (pJ vs ks v)) (ob:=.dt (gQ kvs ks dv)) P3.okh P3.st e6 e7 fun dat=>⟨_,aJ,(kv.mono dat fun _ _ z=>z).put (rv.mono dat)⟩;exact q3 ok3 _ σ nw (P3.env.ex nw.ex) P3.len
   ·rename_i n kvs e5
    obtain⟨ks,e8,e9⟩:=bind_some e4;obtain⟨hl,rfl⟩:=bA e9;obtain⟨a,rfl,e6,vs,e7,kv⟩:=P3.st.ref (r2.ex n3.ex) e5;obtain rfl:=xH e8 r3;refine⟨a,_,rfl,DPut.k e7 (by rw[kv.length];exact hl),?_⟩;have nw:=Nw.write (o:=.dK (pJ vs ks v)) (ob:=.dk (gQ kvs ks dv)) P3.okh P3.st e6 e7 fun dat=>⟨_,aJ,(kv.mono dat fun _ _ z=>z).put (rv.mono dat)⟩;exact q3 ok3 _ σ nw (P3.env.ex nw.ex) P3.len
   ·cases e4
  ·cases e4
structure ItO (cls:Nat->ag) (K:aa) (ok1:Okk) (H1:Hp) (C:Om->Bool) (J:It) (ds:List D):Prop where
 go:∀ i ok H ω,Nw cls K ok1 H1 ok H ω->C ω=true->i<ds.length->J.go i H
 yld:∀ i ok H ω x H' d,Nw cls K ok1 H1 ok H ω->C ω=true->J.yld i H x H'->ds[i]?=zn d->Same H H'/\Rep K ok H' x d
 stop:∀ i ok H ω,Nw cls K ok1 H1 ok H ω->C ω=true->ds.length<=i->J.stop i H
abbrev OI':=OG (List D×(Om->Bool))
def tOI (cls:Nat->ag) (K:aa) (f:OI') (E:XE):TI:=fun σ H R=>∃(ok:Okk) (ρ:Rho) (ω:Om) (r:Rz (List D×(Om->Bool))) (ω':Om),Pre cls K ok H ω σ ρ/\f ρ ω=zn (r,ω')/\match r with
 |.ok p=>∀ J ok' H',Nw cls K ok H ok' H' ω'->ItO cls K ok' H' p.2 J p.1->R J H'
 |.ex c=>exR cls K ok H ω' E c
abbrev OI (X:Cx) (cls:Nat->ag) (E:XE) (tg e:b0) (f:OI'):Prop:=PI X tg e (tOI cls X.K f E)
noncomputable def bT:Om->Bool:=fun _=>true
theorem ItD.toO {K:aa} (h:ItD K ok1.al (Gu ok1 H1) J ds):ItO cls K ok1 H1 bT J ds:=by
 have sm:∀ {ok:Okk}{H:Hp}{ω:Om},Nw cls K ok1 H1 ok H ω->Same (Gu ok1 H1) H:=fun n b u z=>(n.ex.dat b u (jZ z).1 (jZ z).2).2;refine⟨fun i ok H ω n _ hi=>h.go i H (sm n) hi,fun i ok H ω x H' d n _ y hd=> ?_,fun i ok H ω n _ hi=>h.stop i H (sm n) hi⟩;obtain⟨s,r⟩:=h.yld i H x H' d (sm n) y hd;refine⟨s,Rep.mono (ok:=⟨fun b=>Gu ok1 H1 b≠zo∨H b=zo,ok1.al⟩) (fun b u z w=>⟨?_,w⟩) (fun m a z=>n.ex.ids m a z) r⟩;rcases z with z|z
 ·cases q:Gu ok1 H1 b with
  |none=>exact absurd q z
  |some u'=>exact(n.ex.dat b u' (jZ q).1 (jZ q).2).1
 ·exact n.okh b z
noncomputable def qU (n:Nat) (ds:List D) (ω:Om):Bool:=match ω[n]? with
 |some (.ml ds')=>sameDs ds' ds
 |_=>false
theorem Ho (h:qU n ds ω=true):ω[n]?=zn (.ml ds):=by
 unfold qU at h;split at h
 ·rename_i ds' e
  rw[sameDs_eq ds' ds h] at e;exact e
 ·cases h
noncomputable def wC (ω:Om) (d:D):Option (List D×(Om->Bool)):=match d with
 |.lst ds=>zn (ds,bT)
 |.obj n=>match ω[n]? with
  |some (.ml ds)=>zn (ds,qU n ds)
  |_=>zo
 |_=>zo
theorem HG (h:wC ω d=zn (ds,chk)):(d=.lst ds/\chk=bT)∨∃ n,d=.obj n/\ω[n]?=zn (.ml ds)/\chk=qU n ds:=by
 cases d with
 |lst xs=>cases h;exact .inl ⟨rfl,rfl⟩
 |obj n=>
  have h':(match ω[n]? with
   |some (.ml ds)=>zn (ds,qU n ds)
   |_=>zo)=zn (ds,chk):=h
  split at h'
  ·rename_i xs e
   cases h';exact .inr ⟨n,rfl,e,rfl⟩
  ·cases h'
 |_=>cases h
theorem yS {K:aa} (e:wC ω1 d=zn (ds,chk)) (st:Stt cls K ok1 H1 ω1) (r:Rep K ok1 H1 v d):
  ∃ a,v=.ref a/\(∃ xs,SqL K H1 a xs)/\∀ ok H ω,Nw cls K ok1 H1 ok H ω->chk ω=true->∃ xs,SqL K H a xs/\Reps K ok H xs ds:=by
 rcases HG e with⟨rfl,rfl⟩|⟨n,rfl,e1,rfl⟩
 ·obtain⟨a,xs,rfl,g,rs⟩:=r.lst_inv;refine⟨a,rfl,⟨xs,g.sq⟩,fun ok H ω n _=>⟨xs,(g.mono n.ex.dat).sq,rs.ex n.ex⟩⟩
 ·obtain⟨a,rfl,e2,xs,e3,rs⟩:=st.ref r e1;refine⟨a,rfl,⟨xs,SqL.of e3⟩,fun ok H ω nw hc=> ?_⟩;obtain⟨b,e4,xs',e5,rs'⟩:=nw.st.cell n _ (Ho hc)
  have:=nw.ex.ids n a e2
  rw[e4] at this;cases this;exact⟨xs',SqL.of e5,rs'⟩
noncomputable def oIL (f:OG D):OI':=oB f fun d _ ω=>oR (pu (wC ω d) ω)
theorem JO (h:OE X cls E e fa):OI X cls E tg e (oIL fa):=PI.imp (Jt h) fun σ H R ⟨ok,ρ,ω,r,ω',P,e,q⟩=>by
 refine tO.then_ P e (fun c z=>by subst z;exact q) fun d ω1 v ok1 H1 e1 n1 P1 r1=> ?_;obtain⟨⟨ds,chk⟩,e3,rfl⟩:=bX e1;obtain⟨ue3,rfl⟩:=cJ e3;obtain⟨a,rfl,hx,at_⟩:=yS ue3 P1.st r1;refine⟨a,rfl,hx,q _ ok1 H1 n1 ⟨fun i ok H ω n c hi=> ?_,fun i ok H ω x H' d n c y hd=> ?_,fun i ok H ω n c hi=> ?_⟩⟩
 ·obtain⟨xs,s1,rs⟩:=at_ ok H ω n c;have hi':i<xs.length:=by rw[rs.length];exact hi
  exact⟨xs,xs[i],s1,by simp[hi']⟩
 ·obtain⟨xs,s1,rs⟩:=at_ ok H ω n c;obtain⟨rfl,y⟩:=y;obtain⟨w,z1,z2⟩:=rs.get hd;rw[y xs s1] at z1;cases z1;exact⟨Same.refl _,z2⟩
 ·obtain⟨xs,s1,rs⟩:=at_ ok H ω n c;exact⟨xs,s1,by rw[rs.length];exact hi⟩
noncomputable def OO (ω:Om) (ds:List D):Option (List D×(Om->Bool)):=match ds with
 |[a,b]=>(wC ω a).bind fun p=>(wC ω b).map fun q=>(xE p.1 q.1,fun ω=>p.2 ω&&q.2 ω)
 |_=>zo
noncomputable def oIZ (f:OG (List D)):OI':=oB f fun ds _ ω=>oR (pu (OO ω ds) ω)
theorem Nl (hg:Gl X "zip") (hm:X.mg "zip"=zo) (ha:OA X cls E [a,b] fl) (hs:ar [a,b] X.env=[(false,eval a X.env),(false,eval b X.env)]:=by rfl) (hs2:ar [b] X.env=[(false,eval b X.env)]:=by rfl):
  OI X cls E (.Tuple ts k tp) (.Call (.Name "zip" p) [a,b] [] pos) (oIZ fl):=PI.imp (Mx hg hm ha hs hs2) fun σ H R ⟨ok,ρ,ω,r,ω',P,e,q⟩=>by
 refine tOA.then_ P e (fun c z=>by subst z;exact q) fun ds ω1 vs ok1 H1 e1 n1 P1 r1=> ?_;obtain⟨⟨dz,chk⟩,e3,rfl⟩:=bX e1;obtain⟨ue3,rfl⟩:=cJ e3;unfold OO at ue3;split at ue3
 ·obtain⟨⟨d1,c1⟩,e4,e5⟩:=bind_some ue3;obtain⟨⟨d2,c2⟩,e6,e7⟩:=aF e5;cases e7;obtain⟨v,v',rfl,ra,rb⟩:=r1.two_inv;obtain⟨a1,rfl,hx,at1⟩:=yS e4 P1.st ra;obtain⟨b1,rfl,hy,at2⟩:=yS e6 P1.st rb;have hl:(xE d1 d2).length=min d1.length d2.length:=by simp[xE]
  refine⟨a1,b1,rfl,hx,hy,q _ ok1 H1 n1 ⟨fun i ok H ω n c hi=> ?_,fun i ok H ω x H' d n c y hd=> ?_,fun i ok H ω n c hi=> ?_⟩⟩
  ·obtain⟨xs,s1,rs⟩:=at1 ok H ω n (bt _ _ ▸ c).1;obtain⟨ys,s2,rs2⟩:=at2 ok H ω n (bt _ _ ▸ c).2;rw[hl] at hi;have hi1:i<xs.length:=by rw[rs.length];omega
   have hi2:i<ys.length:=by rw[rs2.length];omega
   exact⟨xs,ys,xs[i],ys[i],s1,s2,by simp[hi1],by simp[hi2]⟩
  ·obtain⟨xs,s1,rs⟩:=at1 ok H ω n (bt _ _ ▸ c).1;obtain⟨ys,s2,rs2⟩:=at2 ok H ω n (bt _ _ ▸ c).2;obtain⟨T,x1,y1,rfl,hT,hx,hy,rfl⟩:=y;have hx':=hx xs s1;have hy':=hy ys s2;unfold xE at hd;rw[vd] at hd;cases q1:d1[i]? with
   |none=>rw[q1] at hd;cases hd
   |some u1=>
    cases q2:d2[i]? with
    |none=>rw[q1,q2] at hd;cases hd
    |some u2=>
     rw[q1,q2] at hd;cases hd;obtain⟨w1,z1,z2⟩:=rs.get q1;rw[hx'] at z1;cases z1;obtain⟨w2,z3,z4⟩:=rs2.get q2;rw[hy'] at z3;cases z3;exact⟨bO hT,.tup_new (n.okh T hT) hT (.cons z2 (.cons z4 .nil))⟩
  ·obtain⟨xs,s1,rs⟩:=at1 ok H ω n (bt _ _ ▸ c).1;obtain⟨ys,s2,rs2⟩:=at2 ok H ω n (bt _ _ ▸ c).2;rw[hl] at hi;refine⟨xs,ys,s1,s2,?_⟩;rw[rs.length,rs2.length];omega
 ·cases ue3
noncomputable abbrev EF:XE:=fun _ _=>False
noncomputable def cH (bd:BR) (chk:Om->Bool) (F:OS):List D->OS
 |[],ρ,ω=>if chk ω=true then zn (.nx ρ,ω) else zo
 |d::ds,ρ,ω=>if chk ω=true then(bd d ρ).bind fun ρ1=>match F ρ1 ω with
  |none=>zo
  |some (.nx ρ2,ω2)=>cH bd chk F ds ρ2 ω2
  |some (.ct ρ2,ω2)=>cH bd chk F ds ρ2 ω2
  |some (.bk ρ2,ω2)=>zn (.nx ρ2,ω2)
  |some (.rt d,ω2)=>zn (.rt d,ω2)
  |some (.ex _,_)=>zo else zo
noncomputable def bJ (fi:OI') (bd:BR) (F:OS):OS:=oX fi fun p ρ ω=>cH bd p.2 F p.1 ρ ω
theorem cV {α:Type}{c:Prop} [Decidable c] {a:Option α}{b:α} (h:(if c then a else zo)=zn b):c/\a=zn b:=by
 by_cases hc:c
 ·rw[if_pos hc] at h;exact⟨hc,h⟩
 ·rw[if_neg hc] at h;cases h
def Rr (g:TG) (tb:TS) (D:Bt) (σ:St) (J:It) (H1:Hp):Prop:=∃ W:Nat->Nat->St->Hp->Prop,(∃ m,W 0 m σ H1)/\∀ i m σ H,W i m σ H->
 (J.stop i H/\D.nx σ H)∨(J.go i H/\∃ N:St->Hp->Prop,(∀ σ' H',N σ' H'->∃ m',m'<m/\W (i+1) m' σ' H')/\∀ x H',J.yld i H x H'->g x σ H' fun σ2 H2=>tb { D with nx:=N,ct:=N,bk:=D.nx } σ2 H2)
theorem Ba {K:aa}{D:Bt}{o:OOut} (it:ItO cls K ok1 H1 chk J ds) (P1:Pre cls K ok1 H1 ω1 σ ρ) (e2':cH bd chk F ds ρ ω1=zn (o,ω')) (q1:outO cls K ok1 H1 ω' EF D o):
  Rr (gR K bd) (tOS cls K F EF) D σ J H1:=by
 refine⟨fun i m σ' H'=>∃ ok' ωc ρ',m=ds.length-i/\i<=ds.length/\Nw cls K ok1 H1 ok' H' ωc/\EnvR K ok' H' σ' ρ'/\σ'.length=ρ'.length/\cH bd chk F (ds.drop i) ρ' ωc=zn (o,ω'),
  ⟨ds.length,ok1,ω1,ρ,by simp,i4 _,.refl P1.okh P1.st,P1.env,P1.len,by simpa using e2'⟩,?_⟩
 rintro i m σ' H' ⟨ok',ωc,ρ',rfl,hi,n2,env,len,ef⟩
 by_cases hlt:i<ds.length
 ·have hdrop:ds.drop i=ds[i]::ds.drop (i+1):=tj hlt;rw[hdrop] at ef;have ef':(if chk ωc=true then(bd ds[i] ρ').bind fun ρ1=>(match F ρ1 ωc with
   |none=>zo
   |some (.nx ρ2,ω2)=>cH bd chk F (ds.drop (i+1)) ρ2 ω2
   |some (.ct ρ2,ω2)=>cH bd chk F (ds.drop (i+1)) ρ2 ω2
   |some (.bk ρ2,ω2)=>zn (.nx ρ2,ω2)
   |some (.rt d,ω2)=>zn (.rt d,ω2)
   |some (.ex _,_)=>zo) else zo)=zn (o,ω'):=ef
  obtain⟨hc,ef'⟩:=cV ef';obtain⟨ρ1,e3,e4⟩:=bind_some ef';refine .inr ⟨it.go i ok' H' ωc n2 hc hlt,fun σ2 H2=>∃ ok2 ω2 ρ2,Nw cls K ok1 H1 ok2 H2 ω2/\EnvR K ok2 H2 σ2 ρ2/\σ2.length=ρ2.length/\cH bd chk F (ds.drop (i+1)) ρ2 ω2=zn (o,ω'),
   fun σ2 H2 ⟨ok2,ω2,ρ2,z1,z2,z3,z4⟩=>⟨ds.length-(i+1),by omega,ok2,ω2,ρ2,rfl,hlt,z1,z2,z3,z4⟩,fun x H'' y=> ?_⟩
  obtain⟨s2,rx⟩:=it.yld i ok' H' ωc x H'' ds[i] n2 hc y (by simp[hlt]);have n3:Nw cls K ok1 H1 ok' H'' ωc:=n2.trans (.same n2.okh n2.st s2);refine⟨ok',ρ',ρ1,ds[i],env.same s2,len,rx,e3,fun σ2 env2 len2=> ?_⟩;cases eF:F ρ1 ωc with
  |none=>rw[eF] at e4;cases e4
  |some p=>
   obtain⟨o1,ω2⟩:=p;rw[eF] at e4;refine⟨ok',ρ1,ωc,o1,ω2,⟨n3.okh,n3.st,env2,len2⟩,eF,?_⟩;cases o1 with
   |nx ρ2=>exact fun ok3 H3 σ3 m3 r3 l3=>⟨ok3,ω2,ρ2,n3.trans m3,r3,l3,e4⟩
   |ct ρ2=>exact fun ok3 H3 σ3 m3 r3 l3=>⟨ok3,ω2,ρ2,n3.trans m3,r3,l3,e4⟩
   |bk ρ2=>
    cases e4;exact fun ok3 H3 σ3 m3 r3 l3=>q1 ok3 H3 σ3 (n3.trans m3) r3 l3
   |rt d=>
    cases e4;exact fun v ok3 H3 m3 r3=>q1 v ok3 H3 (n3.trans m3) r3
   |ex c=>cases e4
 ·have ei:i=ds.length:=by omega
  subst ei;rw[ye] at ef;have ef':(if chk ωc=true then zn (OOut.nx ρ',ωc) else zo)=zn (o,ω'):=ef;obtain⟨hc,ef'⟩:=bA ef';cases ef';exact .inl ⟨it.stop _ ok' H' _ n2 hc (bp _),q1 ok' H' σ' n2 env len⟩
theorem tOS.for_ {K:aa}{fi:OI'}{D:Bt} (h:tOS cls K (bJ fi bd F) EF D σ H):Pb (tOI cls K fi EF) (gR K bd) (tOS cls K F EF) D σ H:=by
 obtain⟨ok,ρ,ω,o,ω',P,e,q⟩:=h;rcases DI e with⟨c,e1,rfl⟩|⟨⟨ds,chk⟩,ω1,e1,e2⟩
 ·exact⟨ok,ρ,ω,.ex c,ω',P,e1,q⟩
 ·exact⟨ok,ρ,ω,.ok (ds,chk),ω1,P,e1,fun J ok1 H1 n1 it=>Ba it (P.nw n1) e2 (q.nw n1)⟩
noncomputable def sNx (F:OS):OS:=fun ρ ω=>match F ρ ω with
 |some (.ex _,_)=>zo
 |r=>r
theorem CY {o:OOut} (h:sNx F ρ ω=zn (o,ω')):F ρ ω=zn (o,ω')/\∀ c,o≠ .ex c:=by
 unfold sNx at h;split at h
 ·cases h
 ·rename_i hn
  exact⟨h,fun c z=>by subst z;exact hn c ω' h⟩
theorem _root_.L2.PS.nox (h:PS X.nox st t):PS X st t:=fun pins s σ H D I hw=>
 gk (h pins s σ H D (I.wish _) hw) (fun _ _ q=>q.unwish) fun _ _ z=>i8 z
theorem IE (h:OSt X.nox cls EF st F):OSt X cls E st (sNx F):=(PS.nox h).imp fun D σ H ⟨ok,ρ,ω,o,ω',P,e,q⟩=>by
 obtain⟨e,hn⟩:=CY e;refine⟨ok,ρ,ω,o,ω',P,e,?_⟩;cases o with
 |ex c=>exact absurd rfl (hn c)
 |_=>exact q
theorem MX {fi:OI'} (hc:X.calm=true) (hi:OI X.nox cls EF tg iter fi) (hg:PG X.nox tg (gR X.K bd)) (hb:OSs X.nox cls EF body F) (hs:∀ x,g7 iter X.env x=pure x:=by intro _;rfl):
  OSt X cls E (.For tg iter body [] pos) (sNx (bJ fi bd F)):=IE ((Iw (X:=X.nox) yw hc hi hg hb hs).imp fun D σ H h=>tOS.for_ h)
end
noncomputable def compLO (bd:BR) (chk:Om->Bool) (t:OG Bool) (f:OG D):List D->Rho->Om->Option (List D×Om)
 |[],_,ω=>if chk ω=true then zn ([],ω) else zo
 |d::ds,ρ,ω=>if chk ω=true then(bd d ρ).bind fun ρ1=>match t ρ1 ω with
  |some (.ok k,ω1)=>if k=true then(match f ρ1 ω1 with
   |some (.ok y,ω2)=>(compLO bd chk t f ds ρ1 ω2).map fun r=>(y::r.1,r.2)
   |_=>zo) else compLO bd chk t f ds ρ1 ω1
  |_=>zo else zo
noncomputable def cY (fin:Om->List D->Option (D×Om)) (fi:OI') (caps:List (Option Nat)) (bd:BR) (t:OG Bool) (f:OG D):OG D:=oB fi fun p ρ ω=>if p.1.length<=sizeLine then(compLO bd p.2 t f p.1 (CA caps ρ) ω).bind fun r=>oR (fin r.2 r.1) else zo
noncomputable def tE (ω:Om) (ds:List D):Option (D×Om):=zn (.lst ds,ω)
noncomputable def Oh (ω:Om) (ds:List D):Option (D×Om):=zn (.obj ω.length,ω++[.ml ds])
def Fin (fin:Om->List D->Option (D×Om)):Prop:=∀(cls:Nat->ag) (K:aa) (ok1 ok:Okk) (H1 H:Hp) (ω ω':Om) (P:ag) (vs:List V) (ds:List D) (d:D),Nw cls K ok1 H1 ok H ω->H1 P=zo->H P=zn (.lst vs)->¬ ok.p P->(∀ n,ok.al n≠zn P)->Reps K ok H vs ds->fin ω ds=zn (d,ω')->
 ∃ ok',Nw cls K ok1 H1 ok' H ω'/\Rep K ok' H (.ref P) d
theorem Qc:Fin tE:=fun cls K ok1 ok H1 H ω ω' P vs ds d nw h1 hP np na rs e=>by
 cases e;have dat:∀ b o,ok.p b->H b=zn o->(ok.p b∨b=P)/\H b=zn o:=fun b o k e=>⟨.inl k,e⟩;refine⟨⟨fun b=>ok.p b∨b=P,ok.al⟩,⟨⟨fun b o k e=>⟨.inl (nw.ex.dat b o k e).1,(nw.ex.dat b o k e).2⟩,nw.ex.ids,nw.ex.frm,nw.ex.new,nw.ex.keep,fun b k=> ?_,nw.ex.frz⟩,⟨fun b e=>.inl (nw.okh b e),fun b xs e=>.inl (nw.okh.tp b xs e)⟩,fun n ob e=> ?_,nw.st.dom,nw.st.inj,fun n a e k=> ?_⟩,.lst ⟨.inr rfl,hP⟩ (rs.mono dat)⟩
 ·rcases k with k|rfl
  ·exact nw.ex.sub b k
  ·exact .inr h1
 ·obtain⟨a,e1,c⟩:=nw.st.cell n ob e;exact⟨a,e1,c.mono dat (fun _ _ z=>z) fun _ z=>z⟩
 ·rcases k with k|rfl
  ·exact nw.st.nok n a e k
  ·exact na n e
theorem Qb:Fin Oh:=fun cls K ok1 ok H1 H ω ω' P vs ds d nw h1 hP np na rs e=>by
 cases e;have al:∀ m b,(if m=ω.length then zn P else ok.al m)=zn b->(m=ω.length/\b=P)∨(m≠ω.length/\ok.al m=zn b):=fun m b q=>by
  by_cases hm:m=ω.length
  ·rw[if_pos hm] at q;exact .inl ⟨hm,(ce q).symm⟩
  ·rw[if_neg hm] at q;exact .inr ⟨hm,q⟩
 have ids:∀ m b,ok.al m=zn b->(if m=ω.length then zn P else ok.al m)=zn b:=fun m b q=>by
  rw[if_neg (cf (nw.st.dom m b q))];exact q
 have dat:∀ b o,ok.p b->H b=zn o->ok.p b/\H b=zn o:=fun b o k e=>⟨k,e⟩;refine⟨⟨ok.p,fun m=>if m=ω.length then zn P else ok.al m⟩,⟨⟨nw.ex.dat,fun m b q=>ids m b (nw.ex.ids m b q),nw.ex.frm,fun m b q=> ?_,nw.ex.keep,nw.ex.sub,nw.ex.frz⟩,⟨nw.okh.fn,nw.okh.tp⟩,fun m ob q=> ?_,fun m b q=> ?_,fun m m' b q q'=> ?_,fun m b q k=> ?_⟩,.obj (by show(if ω.length=ω.length then zn P else _)=_;rw[if_pos rfl])⟩
 ·rcases al m b q with⟨_,rfl⟩|⟨_,q⟩
  ·exact .inr h1
  ·exact nw.ex.new m b q
 ·by_cases hm:m<ω.length
  ·rw[bc hm] at q;obtain⟨b,e1,c⟩:=nw.st.cell m ob q;exact⟨b,ids m b e1,c.mono dat ids fun _ z=>z⟩
  ·have hm':m=ω.length:=by
    have:=(bx.mp q).1
    simp at this;omega
   subst hm';rw[j8 (bp _)] at q;simp at q;subst q;exact⟨P,by show(if ω.length=ω.length then zn P else _)=_;rw[if_pos rfl],vs,hP,Reps.mono (ok':=⟨ok.p,fun m=>if m=ω.length then zn P else ok.al m⟩) dat ids rs⟩
 ·rw[bq,jd];rcases al m b q with⟨rfl,_⟩|⟨_,q⟩
  ·omega
  ·have:=nw.st.dom m b q
   omega
 ·rcases al m b q with⟨rfl,rfl⟩|⟨_,qa⟩ <;> rcases al m' b q' with⟨rfl,w⟩|⟨_,qb⟩
  ·rfl
  ·exact absurd qb (na m')
  ·rw[w] at qa;exact absurd qa (na m)
  ·exact nw.st.inj m m' b qa qb
 ·rcases al m b q with⟨_,rfl⟩|⟨_,q⟩
  ·exact np k
  ·exact nw.st.nok m b q k
theorem zH (h:compLO bd chk t f (d::ds) ρ ω=zn (ys,ω')):
  chk ω=true/\∃ ρ1 k ω1,bd d ρ=zn ρ1/\t ρ1 ω=zn (.ok k,ω1)/\((k=true/\∃ y zs ω2,f ρ1 ω1=zn (.ok y,ω2)/\compLO bd chk t f ds ρ1 ω2=zn (zs,ω')/\ys=y::zs)∨(k=false/\compLO bd chk t f ds ρ1 ω1=zn (ys,ω'))):=by
 obtain⟨hc,h⟩:=cV (show(if chk ω=true then _ else zo)=_ from h);obtain⟨ρ1,e1,h⟩:=bind_some h;refine⟨hc,ρ1,?_⟩;split at h
 ·rename_i k ω1 e2
  refine⟨k,ω1,e1,e2,?_⟩;cases k with
  |true=>
   rw[if_pos rfl] at h;split at h
   ·rename_i y ω2 e3
    obtain⟨⟨zs,ω3⟩,e4,e5⟩:=aF h;cases e5;exact .inl ⟨rfl,y,zs,ω2,e3,e4,rfl⟩
   ·cases h
  |false=>
   rw[if_neg cg] at h;exact .inr ⟨rfl,h⟩
 ·cases h
section
variable {X:Cx}{cls:Nat->ag}{E:XE}{tg iter elt:b0}{ifs:List b0}{scope:k9}{N':List Str}{caps:List (Option Nat)}{fi:OI'}{bd:BR}{t:OG Bool}{f:OG D}{pos:Pos}{fin:Om->List D->Option (D×Om)}
theorem tO.comp {K:aa} (Fn:Fin fin) (h:tO cls K (cY fin fi caps bd t f) E σ H Q):Ja (tOI cls K fi E) caps (gR K bd) (tOT cls K t EF) (tO cls K f EF) σ H Q:=by
 obtain⟨ok,ρ,ω,r,ω',P,e,q⟩:=h;rcases kH e with⟨c,e1,rfl⟩|⟨⟨ds,chk⟩,ω1,e1,e2⟩
 ·exact⟨ok,ρ,ω,.ex c,ω',P,e1,q⟩
 ·refine⟨ok,ρ,ω,.ok (ds,chk),ω1,P,e1,fun J ok1 H1 n1 it A hA=> ?_⟩;have P1:=P.nw n1;obtain⟨hz,e2⟩:=cV (show(if ds.length<=sizeLine then _ else zo)=_ from e2);obtain⟨⟨out,ωf⟩,e3,e4⟩:=bind_some e2;obtain⟨d,e5,rfl⟩:=bX e4
  -- ahead of the first turn:the list that is filled stands apart
  have start:Nw cls K ok1 H1 ⟨fun b=>ok1 b/\b≠A,ok1.al⟩ (upd H1 A (.lst [])) ω1:=by
   have dat:∀ b o,ok1.p b->H1 b=zn o->(ok1.p b/\b≠A)/\upd H1 A (.lst []) b=zn o:=fun b o k e=>⟨⟨k,aG e hA⟩,by rw[aE (aG e hA)];exact e⟩;refine⟨⟨dat,fun _ _ z=>z,fun b o z _=>by rw[aE (aG z hA)];exact z,fun _ _ z=>.inl z,fun b z=> ?_,fun b k=>.inl k.1,fun b x u z=>by rw[aE (aG z hA)];exact z⟩,⟨fun b z=> ?_,fun b xs z=> ?_⟩,fun n ob z=> ?_,P1.st.dom,P1.st.inj,fun n a z k=>P1.st.nok n a z k.1⟩
   ·by_cases hb:b=A
    ·rw[hb];exact hA
    ·rw[aE hb] at z;exact z
   ·have hb:b≠A:=fun w=>by rw[w,aJ] at z;cases z
    rw[aE hb] at z;exact⟨P1.okh b z,hb⟩
   ·have hb:b≠A:=fun w=>by rw[w,aJ] at z;cases z
    rw[aE hb] at z;exact⟨P1.okh.tp b xs z,hb⟩
   ·obtain⟨a,z1,c⟩:=P1.st.cell n ob z;exact⟨a,z1,c.mono dat (fun _ _ z=>z) fun o w=>by rw[aE (aG w hA)];exact w⟩
  refine⟨fun i m σ' H'=>∃ ok' ωc ρ' vs acc rest,m=ds.length-i/\i<=ds.length/\Nw cls K ok1 H1 ok' H' ωc/\¬ ok'.p A/\(∀ n,ok'.al n≠zn A)/\H' A=zn (.lst vs)/\Reps K ok' H' vs acc/\EnvR K ok' H' σ' ρ'/\σ'.length=ρ'.length/\
   compLO bd chk t f (ds.drop i) ρ' ωc=zn (rest,ωf)/\acc++rest=out/\acc.length<=i,
   ⟨ds.length,_,ω1,CA caps ρ,[],[],out,by simp,i4 _,start,fun k=>k.2 rfl,fun n z=> ?_,aJ,.nil,(P1.env.ex start.ex).cap caps,Lu _ _ _,by simpa using e3,by simp,i4 _⟩,?_⟩
  ·obtain⟨_,_,c⟩:=P1.st.at_ (show ok1.al n=zn A from z);obtain⟨_,w,_⟩:=c.there;rw[hA] at w;cases w
  ·rintro i m σ' H' ⟨ok',ωc,ρ',vs,acc,rest,rfl,hi,nw,np,na,hv,ra,re,rl,ec,ea,hal⟩
   by_cases hlt:i<ds.length
   ·have hdrop:ds.drop i=ds[i]::ds.drop (i+1):=tj hlt;rw[hdrop] at ec;obtain⟨hc,ρ1,k,ω2,b1,b2,hk⟩:=zH ec;refine .inr ⟨it.go i ok' H' ωc nw hc hlt,fun x H'' y=> ?_⟩;obtain⟨s2,rx⟩:=it.yld i ok' H' ωc x H'' ds[i] nw hc y (by simp[hlt]);have nw2:Nw cls K ok' H' ok' H'' ωc:=.same nw.okh nw.st s2;refine⟨ok',ρ',ρ1,ds[i],re.same s2,rl,rx,b1,fun σ2 re2 rl2=> ?_⟩;refine⟨ok',ρ1,ωc,.ok k,ω2,⟨nw2.okh,nw2.st,re2,rl2⟩,b2,fun ok3 H3 nw3=> ?_⟩
    -- the list that is filled stays apart
    have apart:∀ {okx:Okk}{Hx:Hp}{ωx:Om},Nw cls K ok' H' okx Hx ωx->¬ okx.p A/\(∀ n,okx.al n≠zn A)/\Hx A=zn (.lst vs):=by
     intro okx Hx ωx nx;refine⟨fun z=> ?_,fun n z=> ?_,nx.ex.frm A _ hv na⟩
     ·rcases nx.ex.sub A z with z|z
      ·exact np z
      ·rw[hv] at z;cases z
     ·rcases nx.ex.new n A z with z|z
      ·exact na n z
      ·rw[hv] at z;cases z
    rcases hk with⟨rfl,yd,zs,ω4,b5,b6,rfl⟩|⟨rfl,b6⟩
    ·refine LG ⟨ok3,ρ1,ω2,.ok yd,ω4,⟨nw3.okh,nw3.st,re2.ex nw3.ex,rl2⟩,b5,fun yv ok4 H4 nw4 ry=> ?_⟩;have nx:=nw2.trans (nw3.trans nw4);obtain⟨np4,na4,hv4⟩:=apart nx;have hvl:vs.length<sizeLine:=by
      rw[ra.length];omega
     have keep:∀ b o,ok4.p b->H4 b=zn o->ok4.p b/\upd H4 A (.lst (vs++[yv])) b=zn o:=fun b o k e=>⟨k,by rw[aE (show b≠A from fun w=>np4 (w ▸ k))];exact e⟩;have nwf:=nw.trans nx;refine⟨vs,ds.length-(i+1),hv4,hvl,by omega,ok4,ω4,ρ1,vs++[yv],acc++[yd],zs,rfl,hlt,?_,np4,na4,aJ,?_,?_,rl2,b6,by simpa using ea,by simp;omega⟩
     ·have nA:∀ {b:ag}{o:HO},H1 b=zn o->b≠A:=fun z=>aG z hA;refine⟨⟨fun b o k e=>⟨(nwf.ex.dat b o k e).1,by rw[aE (nA e)];exact(nwf.ex.dat b o k e).2⟩,nwf.ex.ids,fun b o e z=>by rw[aE (nA e)];exact nwf.ex.frm b o e z,nwf.ex.new,fun b e=> ?_,nwf.ex.sub,fun b x u z=>by rw[aE (nA z)];exact nwf.ex.frz b x u z⟩,⟨fun b e=> ?_,fun b xs e=> ?_⟩,fun n ob e=> ?_,nwf.st.dom,nwf.st.inj,nwf.st.nok⟩
      ·by_cases hb:b=A
       ·rw[hb];exact hA
       ·rw[aE hb] at e;exact nwf.ex.keep b e
      ·have hb:b≠A:=fun w=>by rw[w,aJ] at e;cases e
       rw[aE hb] at e;exact nwf.okh b e
      ·have hb:b≠A:=fun w=>by rw[w,aJ] at e;cases e
       rw[aE hb] at e;exact nwf.okh.tp b xs e
      ·obtain⟨a,z1,c⟩:=nwf.st.cell n ob e;exact⟨a,z1,c.mono keep (fun _ _ z=>z) fun o w=>by rw[aE (show a≠A from fun w'=>na4 n (w' ▸ z1))];exact w⟩
     ·exact((ra.ex nx.ex).snoc ry).mono keep
     ·intro j dj ej;obtain⟨w,a,r⟩:=(re2.ex (nw3.trans nw4).ex) j dj ej;exact⟨w,a,r.mono keep⟩
    ·have nx:=nw2.trans nw3;obtain⟨np4,na4,hv4⟩:=apart nx;exact LH ⟨ds.length-(i+1),by omega,ok3,ω2,ρ1,vs,acc,rest,rfl,hlt,nw.trans nx,np4,na4,hv4,ra.ex nx.ex,re2.ex nw3.ex,rl2,b6,ea,by omega⟩
   ·have ei:i=ds.length:=by omega
    subst ei;rw[ye] at ec;obtain⟨hc,ec⟩:=bA (show(if chk ωc=true then zn ([],ωc) else zo)=_ from ec);cases ec;rw[dr] at ea;subst ea;refine .inl ⟨it.stop _ ok' H' _ nw hc (bp _),?_⟩;obtain⟨ok2,nw2,rr⟩:=Fn cls K ok1 ok' H1 H' _ ω' A vs acc d nw hA hv np na ra e5;exact q _ ok2 H' (n1.trans nw2) rr
def LC (X:Cx) (cls:Nat->ag) (E:XE) (ifs:List b0) (t:OG Bool):Prop:=LM X ifs (tOT cls X.K t E)
theorem GO:LC X cls E [] (oPT jQ):=fun pins s σ H Q I ⟨ok,ρ,ω,r,ω',P,e,q⟩=>by
 cases e;exact KG pins s σ H Q I (q ok H (.refl P.okh P.st))
theorem GN (h:OT X cls E c t):LC X cls E [c] t:=KE h
theorem Kj (Fn:Fin fin) (C:FW X scope N' caps) (hi:OI X cls E tg iter fi)
  (hb:∀ cells C fp pins s₀ H₀,PG (blk X N' scope cells C fp pins s₀ H₀) tg (gR X.K bd)/\LC (blk X N' scope cells C fp pins s₀ H₀) cls EF ifs t/\OE (blk X N' scope cells C fp pins s₀ H₀) cls EF elt f)
  (hs:∀ x,g7 iter X.env x=pure x:=by intro _;rfl):OE X cls E (.ListComp elt [⟨tg,iter,ifs,0⟩] scope pos) (cY fin fi caps bd t f):=
 (Jz C.calm C.kind C.names C.free C.uniq C.cap hi hb hs).imp fun _ _ _ h=>tO.comp Fn h
theorem JL (Fn:Fin fin) (hN:X.N.Nodup) (hiy:X.N[i]?=zn y) (hy:X.env.scope.names.lookup y=zn .local) (C:FW X scope N' caps) (hi:OI X cls E tg iter fi)
  (hb:∀ cells C fp pins s₀ H₀,PG (blk X N' scope cells C fp pins s₀ H₀) tg (gR X.K bd)/\LC (blk X N' scope cells C fp pins s₀ H₀) cls EF ifs t/\OE (blk X N' scope cells C fp pins s₀ H₀) cls EF elt f)
  (hsw:jw (.ListComp elt [⟨tg,iter,ifs,0⟩] scope pos) (zn (.Name y py)) spos.line X.env=pure true:=by rfl)
  (hs:∀ x,g7 iter X.env x=pure x:=by intro _;rfl):OSt X cls E (.Assign [.Name y py] (.ListComp elt [⟨tg,iter,ifs,0⟩] scope pos) spos) (aU i (cY fin fi caps bd t f)):=
 (Js hN hiy hy C.calm C.kind C.names C.free C.uniq C.cap hi hb hsw hs).imp fun D σ H ⟨ok,ρ,ω,o,ω',P,e,q⟩=>by
  refine tO.comp (fi:=fi) (caps:=caps) (bd:=bd) (t:=t) (f:=f) (E:=E) Fn ?_;refine tO.thenS P e q fun d ω1 v ok1 H1 e1 n1 P1 r1 q1=> ?_;cases e1;exact q1 ok1 H1 _ (.refl P1.okh P1.st) (P1.env.set P1.len r1 i) (by rw[du,du];exact P1.len)
end
structure FlyT (exC:Nat->ag) (c:Nat) (ea:ag) (T:ag) (h0:cm) (H:Hp) (h:cm):Prop where
 tr:∃(oe oT:Obj) (vs ts:Array af) (a0:af),h.get? ea=zn oe/\oe.cls=.ref (exC c)/\oe.data=.fields vs/\vs[0]?=zn a0/\vs[1]?=zn (.ref T)/\T≠ea/\h.get? T=zn oT/\oT.data=.fields ts/\ts[3]?=zn .none
 h0e:h0.get? ea=zo
 h0T:h0.get? T=zo
 He:H ea=zo
 HT:H T=zo
structure Raw (exC:Nat->ag) (c:Nat) (ea:ag) (h0:cm) (H:Hp) (h:cm):Prop where
 at_:∃ t,h.get? ea=zn { cls:=.ref (exC c),data:=.fields #[.ref t,.none,.none,.none,.bool false,.none] }
 h0e:h0.get? ea=zo
 He:H ea=zo
noncomputable def CX1 (P:cj) (w:cz) (exC:Nat->ag):CXT:=fun outer H s E e s'=>∃ c ea T H',e=.ref ea/\s'.os=s.os/\o5 s'.gens/\Un (frs outer) [] H H' s.heap s'.heap/\HOk P w H' s'.heap/\FlyT exC c ea T s.heap H' s'.heap/\E (.ref (exC c)) zo H'
noncomputable def exK (exC:Nat->ag) (E:XE):XK:=fun cv _ H'=>∃ c,cv=.ref (exC c)/\E c H'
structure Exc (X:Cx) (exC:Nat->ag) (E:XE):Prop where
 fly:∀ c ea T H' pins σ' s',Inv X pins σ' H' s'->FlyT exC c ea T X.s₀.heap H' s'.heap->(∀ p∈X.pn,p.1≠ea/\p.1≠T)->E c H'->X.xe (.ref ea) s'
 ex:X.ex=[]
structure OR (X:Cx) (exC:Nat->ag) (E:XE):Prop where
 raw:∀ c ea H' pins σ' s',Inv X pins σ' H' s'->Raw exC c ea X.s₀.heap H' s'.heap->E c H'->X.xe (.ref ea) s'
 ex:X.ex=[]
abbrev Pas (X:Cx) (exC:Nat->ag) (E:XE):Prop:=oZ (CX1 X.prog X.w exC) X (exK exC E)
theorem Pu:Pas X exC EF:=fun _ _ _ _ _ _ _ ⟨_,_,_,_,_,_,_,_,_,_,_,_,z⟩=>z.elim
theorem _root_.L2.Inv.pers (I:Inv X pins σ H s) (hx:X.ex=[]) (e:s.heap.get? b=zo):X.s₀.heap.get? b=zo:=by
 cases q:X.s₀.heap.get? b with
 |none=>rfl
 |some o=>
  obtain⟨o',z⟩:=I.base.there b o q (by rw[hx];simp);rw[e] at z;cases z
theorem Exc.pas (h:Exc X exC E):Pas X exC E:=fun pins σ H s e s' I ⟨c,ea,T,H',e1,os,bare,un,hok,fl,c',hc,hE⟩=>by
 subst e1;have I':Inv X pins σ H' s':=I.call' (ch:=[]) os un hok bare (fun b z=>absurd z (by simp));obtain⟨oe,oT,vs,ts,a0,g1,g2,g3⟩:=fl.tr;refine h.fly c' ea T H' pins σ s' I' ⟨⟨oe,oT,vs,ts,a0,g1,by rw[g2,hc],g3⟩,I.pers h.ex fl.h0e,I.pers h.ex fl.h0T,fl.He,fl.HT⟩ (fun p hp=> ?_) hE;obtain⟨w,_⟩:=I.pin p (c5 _ hp);exact⟨fun z=>(by rw[z,fl.h0e] at w;cases w),fun z=>(by rw[z,fl.h0T] at w;cases w)⟩
abbrev eC:=List D->Om->Option (Rz D×Om)
noncomputable def spO (cls exC:Nat->ag) (K:aa) (φ:eC):Sp:=fun vs H Q E=>∃(ok:Okk) (ω:Om) (ds:List D) (r:Rz D) (ω':Om),OkH ok H/\Stt cls K ok H ω/\Reps K ok H vs ds/\φ ds ω=zn (r,ω')/\match r with
 |.ok d=>∀ v ok' H',Nw cls K ok H ok' H' ω'->Rep K ok' H' v d->Q v H'
 |.ex c=>∀ ok' H',Nw cls K ok H ok' H' ω'->E (.ref (exC c)) zo H'
section
variable {X:Cx}{cls exC:Nat->ag}{E:XE}{e a b c o i value:b0}{es:List b0}{fa fb fo fi fv:OG D}{fl:OG (List D)}{pos p apos pos':Pos}{x m:Str}{cn k:Nat}{fn C:ag}{fd:j7}{ps:List Str}{φ:eC}
theorem spO.at {K:aa} (h1:OkH ok H) (st:Stt cls K ok H ω) (rs:Reps K ok H vs ds) (e:φ ds ω=zn (r,ω'))
  (hq:∀ d,r=.ok d->∀ v ok' H',Nw cls K ok H ok' H' ω'->Rep K ok' H' v d->Q v H') (hx:∀ c,r=.ex c->exR cls K ok H ω' E c):spO cls exC K φ vs H Q (exK exC E):=by
 refine⟨ok,ω,ds,r,ω',h1,st,rs,e,?_⟩;cases r with
 |ok d=>exact hq d rfl
 |ex c=>exact fun ok' H' n=>⟨c,rfl,hx c rfl ok' H' n⟩
noncomputable def bG (φ:eC) (fl:OG (List D)):OG D:=oB fl fun ds _ ω=>φ ds ω
theorem xR {K:aa}{r:Rz D}{Q:VK} (n1:Nw cls K ok H ok1 H1 ω1) (q:match r with
  |.ok d=>∀ v ok' H',Nw cls K ok H ok' H' ω'->Rep K ok' H' v d->Q v H'
  |.ex c=>exR cls K ok H ω' E c):∀ d,r=.ok d->∀ v ok' H',Nw cls K ok1 H1 ok' H' ω'->Rep K ok' H' v d->Q v H':=fun d z v ok' H' n r=>by
 subst z;exact q v ok' H' (n1.trans n) r
theorem xS {K:aa}{r:Rz D}{Q:VK} (n1:Nw cls K ok H ok1 H1 ω1) (q:match r with
  |.ok d=>∀ v ok' H',Nw cls K ok H ok' H' ω'->Rep K ok' H' v d->Q v H'
  |.ex c=>exR cls K ok H ω' E c):∀ c,r=.ex c->exR cls K ok1 H1 ω' E c:=fun c z=>by
 subst z;exact exR.nw q n1
theorem Kk (F:pX X.prog X.w X.K X.mg X.base (CX1 X.prog X.w exC) k fn fd ps (spO cls exC X.K φ)) (hr:Room k X.A) (hg:Gl X x) (hm:X.mg x=zn (.ref fn)) (hk:hV X.K (.ref fn)=true)
  (hb:Binds X.K fd ps []) (hx:Pas X exC E) (ha:OA X cls E (e::es) fl) (hdb:(x==("__debug__":Str))=false:=by decide) (he:ar (e::es) X.env=(false,eval e X.env)::ar es X.env:=by rfl) (hpl:(dq pos (ar es X.env)).any (·.1)=false:=by rfl):
  OE X cls E (.Call (.Name x p) (e::es) [] pos) (bG φ fl):=
 (JB F hr hg hm hk hb .nil hx ha hdb he hpl).imp fun σ H Q ⟨ok,ρ,ω,r,ω',P,e,q⟩=>by
  refine tOA.then_ P e (fun c z=>by subst z;exact q) fun ds ω1 vs ok1 H1 e1 n1 P1 r1=> ?_;rw[dr];exact spO.at P1.okh P1.st r1 e1 (xR n1 q) (xS (Q:=Q) n1 q)
noncomputable def BQ (c:Nat) (m:Str) (ω:Om) (d:D):Bool:=match cellOf ω d with
 |some (.ins c' fs)=>c'==c&&(fs.lookup m).isNone
 |_=>false
theorem vU {c:Nat} (h:BQ c m ω d=true):∃ n fs,d=.obj n/\ω[n]?=zn (.ins c fs)/\fs.lookup m=zo:=by
 unfold BQ at h;split at h
 ·rename_i c' fs hc
  obtain⟨n,rfl,e⟩:=cX hc;simp only[bt,beq_iff_eq,Option.isNone_iff_eq_none] at h;obtain⟨rfl,h⟩:=h;exact⟨n,fs,rfl,e,h⟩
 ·cases h
noncomputable def bB (c:Nat) (m:Str) (φ:eC) (fo:OG D) (fl:OG (List D)):OG D:=oB fo fun d ρ ω=>if BQ c m ω d=true then oB fl (fun ds _ ω=>φ (d::ds) ω) ρ ω else zo
theorem JZ (ho:OE X cls E o fo) (hc:Cls X.K (cls cn)) (hm:Iu X.K (cls cn) m fn) (F:pX X.prog X.w X.K X.mg X.base (CX1 X.prog X.w exC) k fn fd ps (spO cls exC X.K φ)) (hr:Room k X.A) (hb:Binds X.K fd ps []) (hx:Pas X exC E) (ha:OA X cls E (e::es) fl)
  (hst:ar (e::es) X.env=(false,eval e X.env)::ar es X.env:=by rfl) (hpl:(dq pos (ar es X.env)).any (·.1)=false:=by rfl)
  (ht:eval (.Call (.Attribute o m apos) (e::es) [] pos) X.env=(do
   let ov <- eval o X.env
   o7 apos.atName
   let (f,first) <- holding [ov] (oj ov m pl)
   t8 pos f first (dq pos (ar (e::es) X.env)) (jt pos (ig [] X.env))):=by rfl):
  OE X cls E (.Call (.Attribute o m apos) (e::es) [] pos) (bB cn m φ fo fl):=
 (Jw (pl:=pl) ho hc hm F hr hb .nil hx ha hst hpl ht).imp fun σ H Q ⟨ok,ρ,ω,r,ω',P,e,q⟩=>by
  refine tO.then_ P e (fun c z=>by subst z;exact q) fun d ω1 v ok1 H1 e1 n1 P1 r1=> ?_;obtain⟨hi,e1⟩:=cV e1;obtain⟨n,fs,rfl,e2,e3⟩:=vU hi;obtain⟨a,rfl,e4,dx,vs,e5,kv⟩:=P1.st.ref r1 e2;refine⟨a,dx,vs,rfl,e5,kv.look_none e3,?_⟩;refine tOA.then_ P1 e1 (fun c z=>by subst z;exact exR.nw q n1) fun ds ω2 us ok2 H2 e6 n2 P2 r2=> ?_;rw[dr];exact spO.at P2.okh P2.st (.cons (r1.ex n2.ex) r2) e6 (xR (n1.trans n2) q) (xS (Q:=Q) (n1.trans n2) q)
theorem GQ (ho:OE X cls E o fo) (hc:Cls X.K (cls cn)) (hm:Iu X.K (cls cn) m fn) (F:pX X.prog X.w X.K X.mg X.base (CX1 X.prog X.w exC) k fn fd ps (spO cls exC X.K φ)) (hr:Room k X.A) (hb:Binds X.K fd ps []) (hx:Pas X exC E)
  (ht:eval (.Call (.Attribute o m apos) [] [] pos) X.env=(do
   let ov <- eval o X.env
   o7 apos.atName
   let (f,first) <- holding [ov] (oj ov m pl)
   t8 pos f first (dq pos (ar [] X.env)) (jt pos (ig [] X.env))):=by rfl):
  OE X cls E (.Call (.Attribute o m apos) [] [] pos) (bB cn m φ fo aK):=
 (GI (pl:=pl) ho hc hm F hr hb .nil hx ht).imp fun σ H Q ⟨ok,ρ,ω,r,ω',P,e,q⟩=>by
  refine tO.then_ P e (fun c z=>by subst z;exact q) fun d ω1 v ok1 H1 e1 n1 P1 r1=> ?_;obtain⟨hi,e1⟩:=cV e1;obtain⟨n,fs,rfl,e2,e3⟩:=vU hi;obtain⟨a,rfl,e4,dx,vs,e5,kv⟩:=P1.st.ref r1 e2;refine⟨a,dx,vs,rfl,e5,kv.look_none e3,?_⟩;have e6:φ [.obj n] ω1=zn (r,ω'):=e1;exact spO.at P1.okh P1.st (.cons r1 .nil) e6 (xR n1 q) (xS (Q:=Q) n1 q)
noncomputable def pK (c:Nat) (φ:eC) (fl:OG (List D)):OG D:=oB fl fun ds _ ω=>match φ (.obj ω.length::ds) (ω++[.ins c []]) with
 |some (.ok .non,ω')=>zn (.ok (.obj ω.length),ω')
 |some (.ex c,ω')=>zn (.ex c,ω')
 |_=>zo
theorem Ke (M:Mk X.K (cls cn) fn) (F:pX X.prog X.w X.K X.mg X.base (CX1 X.prog X.w exC) k fn fd ps (spO cls exC X.K φ)) (hr:Room (k+1) X.A) (hg:Gl X x) (hm:X.mg x=zn (.ref (cls cn))) (hb:Binds X.K fd ps []) (hx:Pas X exC E)
  (ha:OA X cls E (e::es) fl) (hdb:(x==("__debug__":Str))=false:=by decide) (he:ar (e::es) X.env=(false,eval e X.env)::ar es X.env:=by rfl) (hpl:(dq pos (ar es X.env)).any (·.1)=false:=by rfl):
  OE X cls E (.Call (.Name x p) (e::es) [] pos) (pK cn φ fl):=
 (Jx M F hr hg hm hb .nil hx ha hdb he hpl).imp fun σ H Q ⟨ok,ρ,ω,r,ω',P,e,q⟩=>by
  refine tOA.then_ P e (fun c z=>by subst z;exact q) fun ds ω1 vs ok1 H1 e1 n1 P1 r1=> ?_;intro a dx na ndx hne;rw[dr];have n2:Nw cls X.K ok1 H1 ok1 (upd H1 dx (.own a)) ω1:=.same P1.okh P1.st (bO ndx);have n3:Nw cls X.K ok1 (upd H1 dx (.own a)) (okN ok1 ω1.length a) (upd (upd H1 dx (.own a)) a (.ins (cls cn) dx [])) (ω1++[.ins cn []]):=
   Nw.make n2.okh n2.st (by rw[aE (cw hne)];exact na) ⟨dx,[],aJ,.nil⟩
  have n4:=n1.trans (n2.trans n3);have rs:Reps X.K (okN ok1 ω1.length a) (upd (upd H1 dx (.own a)) a (.ins (cls cn) dx [])) (.ref a::vs) (.obj ω1.length::ds):=.cons .new_obj ((r1.ex n2.ex).ex n3.ex);cases eφ:φ (.obj ω1.length::ds) (ω1++[.ins cn []]) with
  |none=>rw[eφ] at e1;cases e1
  |some pr=>
   obtain⟨rz,ω2⟩:=pr;rw[eφ] at e1;refine⟨_,_,_,rz,ω2,n3.okh,n3.st,rs,eφ,?_⟩;cases rz with
   |ex c=>
    cases e1;exact fun ok' H' n=>⟨c,rfl,q ok' H' (n4.trans n)⟩
   |ok d=>
    cases d with
    |non=>
     cases e1;refine fun v ok' H' n rv=>⟨rv.non_inv,q _ ok' H' (n4.trans n) (.obj (n.ex.ids _ _ ?_))⟩
     show(if ω1.length=ω1.length then zn a else _)=_
     rw[if_pos rfl]
    |_=>cases e1
end
theorem _root_.L2.HOk.obj (x:HOk P w H h) (e:H a=zn o):∃ u,h.get? a=zn u:=by
 have z:=x a o e;cases o with
 |lst xs=>obtain⟨_,_,_,_,e⟩:=z;exact⟨_,e⟩
 |tup xs=>obtain⟨_,_,_,o,e,_⟩:=z;exact⟨_,e⟩
 |dK kvs=>obtain⟨_,_,_,_,o,_,_,e,_⟩:=z;exact⟨_,e⟩
 |dT kvs=>obtain⟨_,_,_,_,o,_,_,e,_⟩:=z;exact⟨_,e⟩
 |set S n=>obtain⟨o,_,_,_,e,_⟩:=z;exact⟨_,e⟩
 |ins C dx fs=>obtain⟨_,_,_,e,_⟩:=z;exact⟨_,e⟩
 |own y=>exact z
 |xd fs=>obtain⟨_,⟨_,_,_,e,_⟩,_⟩:=z;exact⟨_,e⟩
 |rng lo hi=>obtain⟨_,_,_,e⟩:=z;exact⟨_,e⟩
 |frz ob u=>obtain⟨e,_⟩:=z;exact⟨_,e⟩
 |tbl ps=>exact⟨_,show h.get? a=zn _ from z⟩
 |met f y=>exact⟨_,show h.get? a=zn _ from z⟩
 |ext φ=>exact z.2.1
structure Pass (fs:List ag) (ea T:ag) (h h':cm):Prop where
 keep:∀ b o,h.get? b=zn o->b∉fs->b≠ea->b≠T->h'.get? b=zn o
 slot:∀ b o,h.get? b=zn o->b∈fs->∃ sl,h'.get? b=zn { o with slots:=sl }
theorem sY {h base base':cm}:∀ {l:List Env},h.FunFrames base l->(∀ b∈frs l,base'.get? b=zo)->h.FunFrames base' l
 |[],_,_=>trivial
 |env::r,⟨hk,⟨L,o,hf,hn,ho,hd⟩,hr⟩,n=>by
  refine⟨hk,⟨L,o,hf,n L ?_,ho,hd⟩,sY hr fun b hb=>n b ?_⟩
  ·unfold frs;rw[lh,hf];exact av
  ·unfold frs at hb ⊢;rw[lh,hf];exact ak _ hb
section
variable {M:Model}{A:df}{E:af->ao->Prop}{s:ao}{env:Env}{outer:List Env}{base h0:cm}{H:Hp}{exC:Nat->ag}{c:Nat}{ea T L:ag}{Q:Unit->ao->Prop}{P:cj}{w:cz}
theorem yU (hok:HOk P w H s.heap) (h0p:∀ b,s.heap.get? b=zo->h0.get? b=zo) (hb:∀ b,base'.get? b=zo->b=ea∨b=T∨b∈frs l∨s.heap.get? b=zo)
  (hl:h'.FunFrames base' l) (tr:h'.TracedW base' ea cls a0) (hc:cls=.ref (exC c)) (n1:h0.get? ea=zo) (n2:H ea=zo) (n3:h0.get? T=zo) (n4:H T=zo):∃ T',FlyT exC c ea T' h0 H h'/\(T'=T∨s.heap.get? T'=zo):=by
 obtain⟨oe,vs,T',oT,ts,e1,⟨e2,e3⟩,e4,e5,e6,e7,e8,e9,e10⟩:=tr;have hT:T'=T∨s.heap.get? T'=zo:=by
  rcases hb T' e6 with z|z|z|z
  ·exact absurd z e7
  ·exact .inl z
  ·obtain⟨_,o,q1,q2⟩:=hl.mem z;rw[e8] at q1;cases q1;exact absurd e9 (q2 ts)
  ·exact .inr z
 refine⟨T',⟨⟨oe,oT,vs,ts,a0,e1,by rw[e2,hc],e4,e3,e5,e7,e8,e9,e10⟩,n1,?_,n2,?_⟩,hT⟩
 ·rcases hT with rfl|z
  ·exact n3
  ·exact h0p _ z
 ·rcases hT with rfl|z
  ·exact n4
  ·cases q:H T' with
   |none=>rfl
   |some o=>
    obtain⟨u,w⟩:=hok.obj q;rw[z] at w;cases w
theorem yM (e:(ga h l).get? b=zo):b∈l∨h.get? b=zo:=by
 by_cases hb:b∈l
 ·exact .inl hb
 ·right;cases q:h.get? b with
  |none=>rfl
  |some o=>
   rw[k8 l q hb] at e;cases e
theorem DZ (hfr:A.frames=zn (env::outer)) (hf:env.frame=zn L) (funs:s.heap.FunFrames base (env::outer)) (hok:HOk P w H s.heap) (h0p:∀ b,s.heap.get? b=zo->h0.get? b=zo) (fl:FlyT exC c ea T h0 H s.heap)
  (hQ:∀ h' T',Pass (frs (env::outer)) ea T s.heap h'->FlyT exC c ea T' h0 H h'->(T'=T∨s.heap.get? T'=zo)->Q () { s with heap:=h' }):au M A (leaving env (.ref ea)) Q E s:=by
 obtain⟨oe,oT,vs,ts,a0,e1,e2,e3,e4,e5,e6,e7,e8,e9⟩:=fl.tr;have nF:∀ b∈frs (env::outer),(ga s.heap (ea::T::frs (env::outer))).get? b=zo:=fun b hb=>gg _ (ak _ (ak _ hb));have hb0:∀ b,(ga s.heap (ea::T::frs (env::outer))).get? b=zo->b=ea∨b=T∨b∈frs (env::outer)∨s.heap.get? b=zo:=fun b z=>by
  rcases yM z with z|z
  ·rcases aj.mp z with z|z
   ·exact .inl z
   ·rcases aj.mp z with z|z
    ·exact .inr (.inl z)
    ·exact .inr (.inr (.inl z))
  ·exact .inr (.inr (.inr z))
 refine wpAny_leaving_nextW (base:=ga s.heap (ea::T::frs (env::outer))) (cls:=.ref (exC c)) (a0:=a0) hfr (sY funs nF) hf ?_ (fun b o z=>n8 _ z) (gg _ av) fun h' hL=> ?_
 ·exact⟨oe,vs,T,oT,ts,e1,⟨e2,e4⟩,e3,e5,gg _ (ak _ av),e6,e7,e8,e9⟩
 ·obtain⟨k1,k2,k3,k4⟩:=hL;obtain⟨T',f1,f2⟩:=yU (T:=T) hok h0p hb0 k2 k3 rfl fl.h0e fl.He fl.h0T fl.HT;refine hQ h' T' ⟨fun b o z n1 n2 n3=>k1 b o (k8 _ z ?_),fun b o z hb=> ?_⟩ f1 f2
  ·intro hm;rcases aj.mp hm with hm|hm
   ·exact n2 hm
   ·rcases aj.mp hm with hm|hm
    ·exact n3 hm
    ·exact n1 hm
  ·obtain⟨_,o',q1,q2⟩:=funs.mem hb;rw[z] at q1;cases q1;exact k4 b o z q2
theorem DY (hfr:A.frames=zn (env::outer)) (hf:env.frame=zn L) (funs:s.heap.FunFrames base (env::outer)) (hok:HOk P w H s.heap) (h0p:∀ b,s.heap.get? b=zo->h0.get? b=zo) (fl:Raw exC c ea h0 H s.heap)
  (hQ:∀ h' T',Pass (frs (env::outer)) ea ea s.heap h'->FlyT exC c ea T' h0 H h'->s.heap.get? T'=zo->Q () { s with heap:=h' }):au M A (leaving env (.ref ea)) Q E s:=by
 obtain⟨t,e1⟩:=fl.at_;have nF:∀ b∈frs (env::outer),(ga s.heap (ea::frs (env::outer))).get? b=zo:=fun b hb=>gg _ (ak _ hb);have hb0:∀ b,(ga s.heap (ea::frs (env::outer))).get? b=zo->b=ea∨b=ea∨b∈frs (env::outer)∨s.heap.get? b=zo:=fun b z=>by
  rcases yM z with z|z
  ·rcases aj.mp z with z|z
   ·exact .inl z
   ·exact .inr (.inr (.inl z))
  ·exact .inr (.inr (.inr z))
 refine wpAny_leaving_firstW (base:=ga s.heap (ea::frs (env::outer))) (a0:=.ref t) hfr (sY funs nF) hf e1 (fun b o z=>n8 _ z) (gg _ av) rfl rfl rfl fun h' hL=> ?_;obtain⟨k1,k2,k3,k4⟩:=hL;obtain⟨T',f1,f2⟩:=yU (T:=ea) (c:=c) (exC:=exC) hok h0p hb0 k2 k3 rfl fl.h0e fl.He fl.h0e fl.He;have hTe:T'≠ea:=by obtain⟨_,_,_,_,_,_,_,_,_,_,z,_⟩:=f1.tr;exact z
 refine hQ h' T' ⟨fun b o z n1 n2 n3=>k1 b o (k8 _ z ?_),fun b o z hb=> ?_⟩ f1 (f2.resolve_left hTe)
 ·intro hm;rcases aj.mp hm with hm|hm
  ·exact n2 hm
  ·exact n1 hm
 ·obtain⟨_,o',q1,q2⟩:=funs.mem hb;rw[z] at q1;cases q1;exact k4 b o z q2
end
theorem exc_def {K:aa}:
  Exc (zG (CX1 P w exC) P w K mg base N qual scope f cd A outer s H E) exC (fun c H'=>E (.ref (exC c)) zo H')/\OR (zG (CX1 P w exC) P w K mg base N qual scope f cd A outer s H E) exC (fun c H'=>E (.ref (exC c)) zo H'):=by
 have main:∀ {pins:List (ag×Obj)}{σ':St}{H':Hp}{s':ao}{c:Nat}{ea T T':ag}{h'':cm},Inv (zG (CX1 P w exC) P w K mg base N qual scope f cd A outer s H E) pins σ' H' s'->
   s.heap.get? ea=zo->s.heap.get? T=zo->H' ea=zo->H' T=zo->Pass (frs (jx qual scope s.heap.objs.size f cd::outer)) ea T s'.heap h''->FlyT exC c ea T' s.heap H' h''->E (.ref (exC c)) zo H'->
   CX1 P w exC outer H s E (.ref ea) { s' with heap:=h'' }:=fun {pins σ' H' s' c ea T T' h''} I n1 n2 n3 n4 ps fl hE=>by
  have nofr:∀ b u,H' b=zn u->b∉frs (jx qual scope s.heap.objs.size f cd::outer):=fun b u e z=>by
   have:=I.stkFree b z
   rw[e] at this;cases this
  have kb:∀ b u v,H' b=zn u->s'.heap.get? b=zn v->h''.get? b=zn v:=fun b u v e z=>ps.keep b v z (nofr b u e) (fun q=>by rw[q,n3] at e;cases e) fun q=>by rw[q,n4] at e;cases e
  have old:∀ {b:ag}{o:Obj},s.heap.get? b=zn o->b≠ea/\b≠T:=fun {b o} z=>⟨fun q=>(by rw[q,n1] at z;cases z),fun q=>(by rw[q,n2] at z;cases z)⟩;have fr1:∀ b,b∈frs (jx qual scope s.heap.objs.size f cd::outer)->b=s.heap.objs.size∨b∈frs outer:=fun b hb=>by
   have hb':b∈s.heap.objs.size::frs outer:=hb;exact aj.mp hb'
  have nx:∀ b:ag,b∉(zG (CX1 P w exC) P w K mg base N qual scope f cd A outer s H E).ex:=fun b z=>absurd (show b∈([]:List ag) from z) (by simp);refine⟨c,ea,T',H',rfl,I.os,I.bare,⟨fun b o e n hb _=> ?_,fun b o e n hb _=> ?_,fun b o e n _=>I.base.free b o e n (nx b),fun b o e _=> ?_,I.base.tups,I.base.frzs,I.base.tbls⟩,fun b u e=> ?_,fl,hE⟩
  ·have z:=I.base.keep b o e n hb (nx b);refine ps.keep b o z (fun hm=> ?_) (old e).1 (old e).2;rcases fr1 b hm with q|q
   ·exact absurd (bj e) (by rw[q];exact d5 _)
   ·exact hb q
  ·obtain⟨sl,z⟩:=I.base.slot b o e n hb (nx b);obtain⟨sl2,z2⟩:=ps.slot b _ z (show b∈s.heap.objs.size::frs outer from ak _ hb);exact⟨sl2,z2⟩
  ·obtain⟨o',z⟩:=I.base.there b o e (nx b)
   by_cases hm:b∈frs (jx qual scope s.heap.objs.size f cd::outer)
   ·obtain⟨sl2,z2⟩:=ps.slot b _ z hm;exact⟨_,z2⟩
   ·exact⟨_,ps.keep b o' z hm (old e).1 (old e).2⟩
  ·refine(I.hok b u e).stay (fun c v hc q=> ?_) (fun _ q=>q) fun _ _ q=>q;rcases hc with rfl|hc
   ·exact kb c u v e q
   ·exact kb c _ v hc q
 refine⟨⟨fun c ea T H' pins σ' s' I fl _ hE=> ?_,rfl⟩,⟨fun c ea H' pins σ' s' I fl hE=> ?_,rfl⟩⟩
 ·exact DZ (L:=s.heap.objs.size) I.ok.frames rfl I.stack I.hok (fun b z=>I.pers rfl z) fl fun h'' T' ps fl' _=>main I fl.h0e fl.h0T fl.He fl.HT ps fl' hE
 ·exact DY (L:=s.heap.objs.size) I.ok.frames rfl I.stack I.hok (fun b z=>I.pers rfl z) fl fun h'' T' ps fl' _=>main I fl.h0e fl.h0e fl.He fl.He ps fl' hE
noncomputable def cE (N:List Str) (ds:List D):Rho:=ds.map zn++az (N.length-ds.length) zo
theorem By {K:aa} (r:Reps K ok H vs ds):EnvR K ok H (start N vs) (cE N ds)/\(start N vs).length=(cE N ds).length:=by
 refine⟨fun i d e=> ?_,?_⟩
 ·unfold cE at e
  by_cases hi:i<ds.length
  ·rw[bc (by simpa using hi),bg] at e;obtain⟨d',e1,e2⟩:=aF e;cases e2;obtain⟨v,e3,r'⟩:=r.get e1;have hv:i<vs.length:=(bx.mp e3).1;refine⟨v,?_,r'⟩;unfold start;rw[bc (by simpa using hv),bg,e3];rfl
  ·rw[j8 (by simpa using hi),ia] at e;split at e <;> cases e
 ·unfold start cE;rw[bq,bq,am,am,j5,j5,r.length]
noncomputable def eB (n:Nat) (N:List Str) (G:OS):eC:=fun ds ω=>if ds.length=n then(match G (cE N ds) ω with
 |some (.rt d,ω')=>zn (.ok d,ω')
 |some (.nx _,ω')=>zn (.ok .non,ω')
 |some (.ex c,ω')=>zn (.ex c,ω')
 |_=>zo) else zo
theorem Rt {K:aa}{st:c9} (F:Fun K x qual st f fd) (S:jP N ps (aX st))
  (hbody:∀(cdv:af) (A:df) (outer:List Env) (s:ao) (H:Hp) (E:XK),Room k (A.deeper (jx qual (aX st) s.heap.objs.size f cdv))->Exc (zG (CX1 P w exC) P w K mg base N qual (aX st) f cdv A outer s H E) exC (fun c H'=>E (.ref (exC c)) zo H')->OR (zG (CX1 P w exC) P w K mg base N qual (aX st) f cdv A outer s H E) exC (fun c H'=>E (.ref (exC c)) zo H')->
   OSs (zG (CX1 P w exC) P w K mg base N qual (aX st) f cdv A outer s H E) cls (fun c H'=>E (.ref (exC c)) zo H') (fH st) G):pX P w K mg base (CX1 P w exC) (k+1) f fd ps (spO cls exC K (eB ps.length N G)):=by
 obtain⟨oc,od,kV,doc,pm,an,cdv,ct,osl,rfl,lk,hcd⟩:=F.ex;have len:∀ vs H Q E,spO cls exC K (eB ps.length N G) vs H Q E->vs.length=ps.length:=fun vs H Q E ⟨ok,ω,ds,r,ω',h1,h2,h3,h4,h5⟩=>by
  rw[h3.length];exact(cV (show(if ds.length=ps.length then _ else zo)=_ from h4)).1
 refine Qa lk hcd S len fun A outer s H vs Q E hr hsp=> ?_;obtain⟨ok,ω,ds,r,ω',h1,h2,h3,h4,h5⟩:=hsp;refine⟨_,hbody cdv A outer s H E hr exc_def.1 exc_def.2,?_⟩;obtain⟨_,h4⟩:=cV (show(if ds.length=ps.length then _ else zo)=_ from h4);obtain⟨e1,e2⟩:=By (N:=N) h3;cases q:G (cE N ds) ω with
 |none=>rw[q] at h4;cases h4
 |some pr=>
  obtain⟨o,ω2⟩:=pr;rw[q] at h4;refine⟨ok,cE N ds,ω,o,ω2,⟨h1,h2,e1,e2⟩,q,?_⟩;cases o with
  |rt d=>cases h4;exact fun v ok' H' n rv=>h5 v ok' H' n rv
  |nx ρ=>cases h4;exact fun ok' H' σ' n _ _=>h5 .non ok' H' n .non
  |ex c=>cases h4;exact fun ok' H' n=>h5 ok' H' n
  |bk ρ=>cases h4
  |ct ρ=>cases h4
noncomputable abbrev Bu:List af:=[.type "ValueError",.type "Exception",.type "BaseException",.type "object"]
def ownIn (K:aa) (C:ag) (tl:List af):Prop:=∃(dd:Option ag) (cd:ClassData) (k0 k1 k2 k3 k5:Option af),K.lookup C=zn ⟨.type "type",dd,.cls cd,#[k0,k1,k2,k3,zn (.builtin "ValueError.__new__"),k5]⟩/\
 cd.mro=.ref C::tl/\cd.hasDel=false/\o8 K Bu tl=true/\l9 K cd.ns=true/\cy K cd.ns "__init__"=zn zo
theorem Ds {K:aa} (X:K.In h) (q:ownIn K C tl):∃(nm qn:Str) (N:ag) (bs:List af) (hdct:Bool) (sn:List Str) (sub:List af) (ab:Bool) (col:Option Bool) (dd:Option ag) (k0 k1 k2 k3 k5:Option af) (mN:Str->Option af),
  h.get? C=zn (excClassObj nm qn C N bs tl hdct sn sub ab col dd k0 k1 k2 k3 k5 "ValueError.__new__")/\h.Ns N mN/\mN "__init__"=zo/\OwnTail h Bu tl:=by
 obtain⟨dd,cd,k0,k1,k2,k3,k5,hl,hm,hd,ht,hn,hi⟩:=q;obtain⟨a1,a2,a3,a4,a5,a6,a7,a8,a9,b1,b2⟩:=cd;dsimp only at hm hd hn hi;subst hm hd;exact⟨a1,a5,a4,a2,a6,a7,a8,a9,b1,dd,k0,k1,k2,k3,k5,_,X _ _ hl,.of_isNs (PySem.W.isNs_of_in X hn),PySem.W.nsMap_none_of_in X hn hi,PySem.W.tail_of_in X ht⟩
noncomputable def Aw (c:Nat) (f:DF):OS:=fun ρ ω=>(f ρ).map fun _=>(.ex c,ω)
section
variable {X:Cx}{cls exC:Nat->ag}{E:XE}{e:b0}{f:DF}{pos np cpos:Pos}{x:Str}{c:Nat}{tl:List af}
theorem AF (hc:X.calm=true) (hx:OR X exC E) (hg:Gl X x) (hm:X.mg x=zn (.ref (exC c))) (hq:ownIn X.K (exC c) tl) (he:DE X e f) (hdb:(x==("__debug__":Str))=false:=by decide)
  (hst:ar [e] X.env=(false,eval e X.env)::ar [] X.env:=by rfl) (hpl:(dq cpos (ar [e] X.env)).any (·.1)=false:=by rfl):
  OSt X cls E (.Raise (zn (.Call (.Name x np) [e] [] cpos)) zo pos) (Aw c f):=by
 rintro pins s σ H D I ⟨ok,ρ,ω,o,ω',P,e0,q⟩;obtain⟨d,e1,e2⟩:=aF e0;cases e2;obtain⟨nm,qn,N,bs,hdct,sn,sub,ab,col,dd,k0,k1,k2,k3,k5,mN,hC,hN,hni,T⟩:=Ds I.mod.kin hq;refine wpAny_Raise_call_subT (C:=exC c) (N:=N) (bm:=tl) (hdct:=hdct) (sn:=sn) (sub:=sub) (ab:=ab) (col:=col) (dd:=dd) (k0:=k0) (k1:=k1) (k2:=k2) (k3:=k3) (k5:=k5) (nm:=nm) (q:=qn) (bs:=bs)
  PySem.F.excBase_ValueError (mN:=mN) (T.hasType rfl) (I.ok.hd hc) hpl hni (sL I hg hm ⟨rfl,?_⟩ hdb)
 have ha:=(Ll he Os hst:DA X [e] (Lp f Qh)) cpos pins s σ H (fun vs H'=>vs.length<=sizeLine/\Same H H') I
  ⟨ok,ρ,[d],P.okh,P.env,by unfold Lp Qh;rw[e1];rfl,fun vs H' s' r=>⟨by rw[r.length];show 1<=sizeLine;decide,s'⟩⟩
 rw[hst] at ha ⊢;refine vq (thn ha fun us s2 ⟨vs,H2,I2,rv,hl,sm⟩=>⟨rfl,by show us.length<=_;rw[<- rv.length];exact hl,I2.bk _ _ hC,hN.keeps I2.bk,T.keeps I2.bk,fun h' ea hm'=> ?_⟩);have I3:Inv X pins σ H2 { s2 with heap:=h' }:=I2.kept (t':=s2.toks) hm'.keeps;obtain⟨t,z1,z2,z3⟩:=hm'.there;refine hx.raw c ea H2 pins σ _ I3 ⟨⟨t,z1⟩,I2.pers hx.ex hm'.new,?_⟩ (q ok H2 (.same P.okh P.st sm));cases w:H2 ea with
 |none=>rfl
 |some u=>
  obtain⟨u',w'⟩:=HOk.obj I2.hok w;rw[hm'.new] at w';cases w'
theorem _root_.L2.Inv.passed (I:Inv X pins σ H s) (hx:X.ex=[]) (ps:Pass (frs X.stack) ea T s.heap h') (n1:X.s₀.heap.get? ea=zo) (n2:X.s₀.heap.get? T=zo) (n3:H ea=zo) (n4:H T=zo)
  (hp:∀ p∈X.pn++pins,p.1≠ea/\p.1≠T) (hf:∀ b,(b=ea∨b=T)->∃ o vs,s.heap.get? b=zn o/\o.data=.fields vs):Inv X pins σ H { s with heap:=h' }:=by
 have nofr:∀ b u,H b=zn u->b∉frs X.stack:=fun b u e z=>by
  have:=I.stkFree b z
  rw[e] at this;cases this
 have any:∀ b o,s.heap.get? b=zn o->(∀ vs,o.data≠ .fields vs)->∃ sl,h'.get? b=zn { o with slots:=sl }:=fun b o e nf=>by
  by_cases hb:b∈frs X.stack
  ·exact ps.slot b o e hb
  ·refine⟨o.slots,ps.keep b o e hb (fun z=> ?_) fun z=> ?_⟩
   ·obtain⟨o',vs,w1,w2⟩:=hf b (.inl z);rw[e] at w1;cases w1;exact nf vs w2
   ·obtain⟨o',vs,w1,w2⟩:=hf b (.inr z);rw[e] at w1;cases w1;exact nf vs w2
 have kb:∀ b u v,H b=zn u->s.heap.get? b=zn v->h'.get? b=zn v:=fun b u v e z=>ps.keep b v z (nofr b u e) (fun q=>by rw[q,n3] at e;cases e) fun q=>by rw[q,n4] at e;cases e
 have old:∀ {b:ag}{o:Obj},X.s₀.heap.get? b=zn o->b≠ea/\b≠T:=fun {b o} z=>⟨fun q=>(by rw[q,n1] at z;cases z),fun q=>(by rw[q,n2] at z;cases z)⟩;have locf:∀ b,b∈frs X.stack->b=X.env.locals∨b∈X.fs:=fun b hb=>aj.mp (I.stkSub b hb);obtain⟨m,⟨oL,es,ep,hoL,hdL,rL⟩,lk⟩:=id I.loc;obtain⟨slL,hL⟩:=any _ oL hoL fun vs z=>by rw[hdL] at z;cases z
 refine⟨I.ok,I.os,I.bare,⟨fun b o e n hb hxx=> ?_,fun b o e n hb hxx=> ?_,I.base.free,fun b o e hxx=> ?_,I.base.tups,I.base.frzs,I.base.tbls⟩,⟨m,⟨_,es,ep,hL,hdL,rL⟩,fun i x v e1 e2 e3=> ?_⟩,fun x c e=> ?_,I.free,I.freeC,fun p hpp=> ?_,fun b u e=> ?_,I.len⟩
 ·have z:=I.base.keep b o e n hb hxx;refine ps.keep b o z (fun hm=> ?_) (old e).1 (old e).2;rcases locf b hm with q|q
  ·exact absurd (bj e) (by rw[q];exact vt.mpr I.ok.above)
  ·exact hb q
 ·obtain⟨sl,z⟩:=I.base.slot b o e n hb hxx
  by_cases hm:b∈frs X.stack
  ·obtain⟨sl2,z2⟩:=ps.slot b _ z hm;exact⟨sl2,z2⟩
  ·exact⟨sl,ps.keep b _ z hm (old e).1 (old e).2⟩
 ·obtain⟨o',z⟩:=I.base.there b o e hxx
  by_cases hm:b∈frs X.stack
  ·obtain⟨sl2,z2⟩:=ps.slot b _ z hm;exact⟨_,z2⟩
  ·exact⟨_,ps.keep b o' z hm (old e).1 (old e).2⟩
 ·obtain⟨u,ru,z⟩:=lk i x v e1 e2 e3;refine⟨u,ru,?_⟩;rcases z with z|⟨k,c,e,oc,w1,w2⟩
  ·exact .inl z
  ·obtain⟨sl,w3⟩:=any c oc w1 fun vs q=>by rw[w2] at q;cases q
   exact .inr ⟨k,c,e,_,w3,w2⟩
 ·obtain⟨v,oc,w1,w2⟩:=I.cell x c e;obtain⟨sl,w3⟩:=any c oc w1 fun vs q=>by rw[w2] at q;cases q
  exact⟨v,_,w3,w2⟩
 ·obtain⟨e,n,ne,nf,d⟩:=I.pin p hpp;refine⟨ps.keep p.1 p.2 e (fun hm=> ?_) (hp p hpp).1 (hp p hpp).2,n,ne,nf,d⟩;rcases locf p.1 hm with q|q
  ·exact ne q
  ·exact nf q
 ·refine(I.hok b u e).stay (fun c v hc q=> ?_) (fun _ q=>q) fun _ _ q=>q;rcases hc with rfl|hc
  ·exact kb c u v e q
  ·exact kb c _ v hc q
end
theorem pR {K:aa} (X:K.In s.heap) (q:ownIn K C tl) (q':ownIn K C' tl') (he:s.heap.get? ea=zn oe) (hc:oe.cls=.ref C)
  (h:Q ((b9 C::tl).contains (.ref C')) s):au M A (excMatches (.ref ea) (.ref C')) Q E s:=by
 obtain⟨nm,qn,N,bs,hdct,sn,sub,ab,col,dd,k0,k1,k2,k3,k5,mN,hC,hN,hni,T⟩:=Ds X q;obtain⟨nm',qn',N',bs',hdct',sn',sub',ab',col',dd',k0',k1',k2',k3',k5',mN',hC',hN',hni',T'⟩:=Ds X q';have hB:(b9 C'::tl').contains (.type "BaseException")=true:=by rw[List.contains_cons,T'.hasType (X:="BaseException") (b:=true) rfl,Bool.or_true]
 have f:=tc_notTuple;obtain⟨hp,g,d,tk,os⟩:=s;unfold excMatches
 generalize hb:(b9 C::tl).contains (.ref C')=b at h
 repeat (first|(with_reducible refine su he ?_;rw[hc])|with_reducible refine su hC' ?_|(with_reducible refine wj hC' ?_;rw[hB])|(with_reducible refine wj hC ?_;rw[hb])|wp_step)
 cases b <;> (wp_walk;exact h)
section
variable {M:Model}{A:df}{E:af->ao->Prop}{s:ao}{env:Env}{outer:List Env}{base h0:cm}{H:Hp}{exC:Nat->ag}{c:Nat}{ea T L:ag}{Q:Unit->ao->Prop}{P:cj}{w:cz}
theorem GW (hfr:A.frames=zn (env::outer)) (hf:env.frame=zn L) (funs:s.heap.FunFrames base (env::outer)) (hok:HOk P w H s.heap) (h0p:∀ b,s.heap.get? b=zo->h0.get? b=zo) (fl:FlyT exC c ea T h0 H s.heap)
  (hQ:∀ h' T',Pass (frs (env::outer)) ea T s.heap h'->FlyT exC c ea T' h0 H h'->(T'=T∨s.heap.get? T'=zo)->Q () { s with heap:=h' }):
  au M A (w8 (.ref ea) env) (fun _ s₂=>au M A (xb (.ref ea) zo) Q E s₂) E s:=by
 obtain⟨oe,oT,vs,ts,a0,e1,e2,e3,e4,e5,e6,e7,e8,e9⟩:=fl.tr;have nF:∀ b∈frs (env::outer),(ga s.heap (ea::T::frs (env::outer))).get? b=zo:=fun b hb=>gg _ (ak _ (ak _ hb));have hb0:∀ b,(ga s.heap (ea::T::frs (env::outer))).get? b=zo->b=ea∨b=T∨b∈frs (env::outer)∨s.heap.get? b=zo:=fun b z=>by
  rcases yM z with z|z
  ·rcases aj.mp z with z|z
   ·exact .inl z
   ·rcases aj.mp z with z|z
    ·exact .inr (.inl z)
    ·exact .inr (.inr (.inl z))
  ·exact .inr (.inr (.inr z))
 refine wpAny_noteFrame_onW (base:=ga s.heap (ea::T::frs (env::outer))) (cls:=.ref (exC c)) (a0:=a0) hfr (sY funs nF) hf ?_ (fun b o z=>n8 _ z) (gg _ av) fun h' hN=> ?_
 ·exact⟨oe,vs,T,oT,ts,e1,⟨e2,e4⟩,e3,e5,gg _ (ak _ av),e6,e7,e8,e9⟩
 ·obtain⟨k1,k2,k3,k4⟩:=hN;refine wpAny_setFlight_noneW (base:=ga s.heap (ea::T::frs (env::outer))) (l:=env::outer) k1 k2 k3 fun h'' m1 m2 m3 m4=> ?_;obtain⟨T',f1,f2⟩:=yU (T:=T) (s:=s) hok h0p hb0 m2 m3 rfl fl.h0e fl.He fl.h0T fl.HT;refine hQ h'' T' ⟨fun b o z n1 n2 n3=>m1 b o (k8 _ z ?_),fun b o z hb=> ?_⟩ f1 f2
  ·intro hm;rcases aj.mp hm with hm|hm
   ·exact n2 hm
   ·rcases aj.mp hm with hm|hm
    ·exact n3 hm
    ·exact n1 hm
  ·obtain⟨_,o',q1,q2⟩:=funs.mem hb;rw[z] at q1;cases q1;obtain⟨sl,w1⟩:=k4 b o z q2;exact⟨sl,m4 b _ w1 q2⟩
theorem yV (funs:s.heap.FunFrames base outer) (fl:FlyT exC c ea T h0 H s.heap) (hQ:∀ h',Pass (frs outer) ea T s.heap h'->FlyT exC c ea T h0 H h'->Q () { s with heap:=h' }):au M A (xb (.ref ea) zo) Q E s:=by
 obtain⟨oe,oT,vs,ts,a0,e1,e2,e3,e4,e5,e6,e7,e8,e9⟩:=fl.tr;have hz:3<ts.size:=(m5.mp e9).1;have oth:∀ b,b≠T->(s.heap.update T (m7 (·.setIfInBounds 3 .none))).get? b=s.heap.get? b:=fun b hb=>dc _ _ (cw hb);refine wpAny_setFlight_none e1 e3 e5 e7 e8 hz (hQ _ ⟨fun b o z _ _ n3=>(oth b n3).trans z,fun b o z hb=>⟨o.slots,(oth b fun q=> ?_).trans z⟩⟩ ⟨⟨oe,_,vs,_,a0,(oth ea (cw e6)).trans e1,e2,e3,e4,e5,e6,ee _ e7 (qg (j0 e8 _)),j0 e8 _,by simp[hz]⟩,fl.h0e,fl.h0T,fl.He,fl.HT⟩);obtain⟨_,o',q1,q2⟩:=funs.mem hb;rw[q,e7] at q1;cases q1;exact q2 ts e8
end
noncomputable abbrev Xm (X:Cx) (ea:ag):Cx:={ X with A:=X.A.mark (zn (.ref ea)),calm:=false,xe:=fun _ _=>False }
noncomputable abbrev Xp (X:Cx) (pn:List (ag×Obj)) (xe:af->ao->Prop):Cx:={ X with pn:=pn,xe:=xe }
section
variable {X:Cx}{pins pins':List (ag×Obj)}{σ:St}{H:Hp}{s:ao}{xe:af->ao->Prop}
theorem _root_.L2.Inv.marked (I:Inv X pins σ H s) (ea:ag):Inv (Xm X ea) pins σ H s:=
 ⟨⟨I.ok.mod,I.ok.kind,I.ok.glob,I.ok.blt,I.ok.above,I.ok.inj,I.ok.has,I.ok.cab,(fun z=>nomatch z),I.ok.frames,I.ok.stk,I.ok.exf,I.ok.bs,I.ok.bsz,I.ok.noex,I.ok.exfs,I.ok.funs,I.ok.frf⟩,I.os,I.bare,I.base,I.loc,I.cell,I.free,I.freeC,I.pin,I.hok,I.len⟩
theorem _root_.L2.Inv.unmarked (k:X.calm=true->X.A.handled=zo) (I:Inv (Xm X ea) pins σ H s):Inv X pins σ H s:=
 ⟨⟨I.ok.mod,I.ok.kind,I.ok.glob,I.ok.blt,I.ok.above,I.ok.inj,I.ok.has,I.ok.cab,k,I.ok.frames,I.ok.stk,I.ok.exf,I.ok.bs,I.ok.bsz,I.ok.noex,I.ok.exfs,I.ok.funs,I.ok.frf⟩,I.os,I.bare,I.base,I.loc,I.cell,I.free,I.freeC,I.pin,I.hok,I.len⟩
theorem _root_.L2.Inv.pned (I:Inv X pins σ H s):Inv (Xp X (X.pn++pins) xe) [] σ H s:=
 ⟨⟨I.ok.mod,I.ok.kind,I.ok.glob,I.ok.blt,I.ok.above,I.ok.inj,I.ok.has,I.ok.cab,I.ok.hd,I.ok.frames,I.ok.stk,I.ok.exf,I.ok.bs,I.ok.bsz,I.ok.noex,I.ok.exfs,I.ok.funs,I.ok.frf⟩,I.os,I.bare,I.base,I.loc,I.cell,I.free,I.freeC,fun p hp=>I.pin p (by simpa using hp),I.hok,I.len⟩
theorem _root_.L2.Inv.unpned (I:Inv (Xp X (X.pn++pins) xe) pins' σ H s):Inv X pins σ H s:=
 ⟨⟨I.ok.mod,I.ok.kind,I.ok.glob,I.ok.blt,I.ok.above,I.ok.inj,I.ok.has,I.ok.cab,I.ok.hd,I.ok.frames,I.ok.stk,I.ok.exf,I.ok.bs,I.ok.bsz,I.ok.noex,I.ok.exfs,I.ok.funs,I.ok.frf⟩,I.os,I.bare,I.base,I.loc,I.cell,I.free,I.freeC,fun p hp=>I.pin p (c5 _ hp),I.hok,I.len⟩
theorem SP.unpned {D:Bt} (h:SP (Xp X (X.pn++pins) xe) [] D f s):SP X pins D f s:=by
 cases f with
 |next=>obtain⟨σ',H',I,q⟩:=h;exact⟨σ',H',I.unpned,q⟩
 |brk=>obtain⟨σ',H',I,q⟩:=h;exact⟨σ',H',I.unpned,q⟩
 |cont=>obtain⟨σ',H',I,q⟩:=h;exact⟨σ',H',I.unpned,q⟩
 |ret u=>obtain⟨v,σ',H',I,r,q⟩:=h;exact⟨v,σ',H',I.unpned,r,q⟩
theorem SP.unmarked {D:Bt} (k:X.calm=true->X.A.handled=zo) (h:SP (Xm X ea) pins D f s):SP X pins D f s:=by
 cases f with
 |next=>obtain⟨σ',H',I,q⟩:=h;exact⟨σ',H',I.unmarked k,q⟩
 |brk=>obtain⟨σ',H',I,q⟩:=h;exact⟨σ',H',I.unmarked k,q⟩
 |cont=>obtain⟨σ',H',I,q⟩:=h;exact⟨σ',H',I.unmarked k,q⟩
 |ret u=>obtain⟨v,σ',H',I,r,q⟩:=h;exact⟨v,σ',H',I.unmarked k,r,q⟩
variable {exC:Nat->ag}{c c':Nat}{ea T:ag}{x:Str}{np pos:Pos}{b₀:c9}{suite:List c9}{rest:List ExceptHandler}{tl tl':List af}{Q:Flow->ao->Prop}{E:af->ao->Prop}
theorem FlyT.fields (fl:FlyT exC c ea T X.s₀.heap H s.heap):∀ b,(b=ea∨b=T)->∃ o vs,s.heap.get? b=zn o/\o.data=.fields vs:=fun b hb=>by
 obtain⟨oe,oT,vs,ts,a0,e1,e2,e3,e4,e5,e6,e7,e8,e9⟩:=fl.tr;rcases hb with rfl|rfl
 ·exact⟨_,_,e1,e3⟩
 ·exact⟨_,_,e7,e8⟩
theorem jJ (I:Inv X pins σ H s) (hex:X.ex=[]) (fl:FlyT exC c ea T X.s₀.heap H s.heap) (hp:∀ p∈X.pn++pins,p.1≠ea/\p.1≠T) (hg:Gl X x) (hm:X.mg x=zn (.ref (exC c'))) (ho:ownIn X.K (exC c) tl) (ho':ownIn X.K (exC c') tl')
  (hit:(b9 (exC c)::tl).contains (.ref (exC c'))=true->∀ s',Inv (Xm X ea) pins σ H s'->au (model X.prog X.w) (Xm X ea).A (execs (b₀::suite) X.env) Q (fun _ _=>False) s')
  (miss:(b9 (exC c)::tl).contains (.ref (exC c'))=false->au (model X.prog X.w) X.A (handleBy (.ref ea) X.env rest) Q E s) (hdb:(x==("__debug__":Str))=false:=by decide):
  au (model X.prog X.w) X.A (handleBy (.ref ea) X.env (.ExceptHandler (zn (.Name x np)) zo (b₀::suite) pos::rest)) Q E s:=by
 obtain⟨oe,oT,vs,ts,a0,e1,e2,_⟩:=fl.tr;refine wpAny_handleBy_cons (codeAny_handlers_test (sL (I.marked ea) hg hm ?_ hdb)) (fun z=>nomatch z);refine pR (K:=X.K) (C:=exC c) (C':=exC c') I.kIn ho ho' e1 e2 ?_;cases hb:(b9 (exC c)::tl).contains (.ref (exC c')) with
 |false=>exact miss hb
 |true=>
  refine codeAny_handlers_suite (yV I.stack fl fun h' ps fl'=> ?_);have I':Inv X pins σ H { s with heap:=h' }:=I.passed hex ps fl.h0e fl.h0T fl.He fl.HT hp fl.fields;exact gk (hit hb _ (I'.marked ea)) (fun _ _ q=>q) fun _ _ z=>z.elim
end
noncomputable def uY (F:OS) (c1:Nat) (G1:OS) (c2:Nat) (G2:OS):OS:=fun ρ ω=>match F ρ ω with
 |some (.ex c,ω1)=>if c=c1 then sNx G1 (az ρ.length zo) ω1 else if c=c2 then sNx G2 (az ρ.length zo) ω1 else zo
 |r=>r
section
variable {X:Cx}{cls exC:Nat->ag}{E:XE}{body:List c9}{F G1 G2:OS}{c1 c2:Nat}{x1 x2:Str}{np1 np2 p1 p2 pos:Pos}{b1 b2:c9}{r1 r2:List c9}{tl1 tl2:List af}
theorem FX (I:Inv X pins σ H s):Inv X pins (az σ.length zo) H s:=I.weak (by simp) fun i v e=>by
 rw[ia] at e;split at e <;> cases e
theorem JE (hex:X.ex=[]) (hc:X.calm=true) (hs:X.stack=X.env::X.outer) (hf:∃ L,X.env.frame=zn L) (hg1:Gl X x1) (hg2:Gl X x2) (hm1:X.mg x1=zn (.ref (exC c1))) (hm2:X.mg x2=zn (.ref (exC c2))) (ho1:ownIn X.K (exC c1) tl1) (ho2:ownIn X.K (exC c2) tl2)
  (hne:(b9 (exC c2)::tl2).contains (.ref (exC c1))=false)
  (hb:∀ pn xe E',Exc (Xp X pn xe) exC E'->OSs (Xp X pn xe) cls E' body F) (h1:∀ ea,OSs (Xm X ea) cls EF (b1::r1) G1) (h2:∀ ea,OSs (Xm X ea) cls EF (b2::r2) G2)
  (hd1:(x1==("__debug__":Str))=false:=by decide) (hd2:(x2==("__debug__":Str))=false:=by decide):
  OSt X cls E (.Try body [.ExceptHandler (zn (.Name x1 np1)) zo (b1::r1) p1,.ExceptHandler (zn (.Name x2 np2)) zo (b2::r2) p2] [] [] pos) (uY F c1 G1 c2 G2):=by
 rintro pins s σ H D I ⟨ok,ρ,ω,o,ω',P,e,q⟩;obtain⟨L,hL⟩:=hf
 -- what the body wants
 cases eF:F ρ ω with
 |none=>unfold uY at e;rw[eF] at e;cases e
 |some pr=>
  obtain⟨o1,ω1⟩:=pr;unfold uY at e;rw[eF] at e;refine wpAny_Try_except ?_
  -- the wish within
  have main:∀(E':XE),(∀ c H',E' c H'->∃ ok',Nw cls X.K ok H ok' H' ω1/\∃ z,o1=.ex z/\c=z)->outO cls X.K ok H ω1 E' D o1->
    au (model X.prog X.w) X.A (execs body X.env) (fun f s₁=>match f with|.next=>au (model X.prog X.w) X.A (execs [] X.env) (SP X pins D) X.xe s₁|f=>SP X pins D f s₁)
     (fun e s₁=>au (model X.prog X.w) X.A (w8 e X.env) (fun _ s₂=>au (model X.prog X.w) X.A (xb e zo) (fun _ s₃=>au (model X.prog X.w) X.A (handleBy e X.env [.ExceptHandler (zn (.Name x1 np1)) zo (b1::r1) p1,.ExceptHandler (zn (.Name x2 np2)) zo (b2::r2) p2]) (SP X pins D) X.xe s₃) X.xe s₂) X.xe s₁) s:=by
   intro E' hE' hout;have ex:Exc (Xp X (X.pn++pins) fun e s₁=>au (model X.prog X.w) X.A (w8 e X.env) (fun _ s₂=>au (model X.prog X.w) X.A (xb e zo) (fun _ s₃=>au (model X.prog X.w) X.A (handleBy e X.env [.ExceptHandler (zn (.Name x1 np1)) zo (b1::r1) p1,.ExceptHandler (zn (.Name x2 np2)) zo (b2::r2) p2]) (SP X pins D) X.xe s₃) X.xe s₂) X.xe s₁) exC E':=by
    refine⟨fun c ea T H' pins' σ' s' I' fl hpn hE=> ?_,hex⟩;have I1:Inv X pins σ' H' s':=I'.unpned;obtain⟨ok',nw,z,ez,rfl⟩:=hE' c H' hE;subst ez;refine GW (L:=L) (outer:=X.outer) (P:=X.prog) (w:=X.w) (by rw[I1.ok.frames,hs]) hL (by rw[<- hs];exact I1.stack) I1.hok (fun b w=>I1.pers hex w) fl fun h' T' ps fl' hT=> ?_;have hpT:∀ p∈X.pn++pins,p.1≠ea/\p.1≠T':=fun p hp=>⟨(hpn p hp).1,fun w=>by
     rcases hT with rfl|hT
     ·exact(hpn p hp).2 w
     ·have:=(I1.pin p hp).1
      rw[w,hT] at this;cases this⟩
    have I2:Inv X pins σ' H' { s' with heap:=h' }:=I1.passed hex (by rw[hs];exact ps) fl.h0e fl.h0T fl.He fl.HT hpn fl.fields;have I3:=FX I2;have run:∀ {G:OS}{b:c9}{r:List c9}{s4:ao},OSs (Xm X ea) cls EF (b::r) G->sNx G (az ρ.length zo) ω1=zn (o,ω')->Inv (Xm X ea) pins (az σ'.length zo) H' s4->au (model X.prog X.w) (Xm X ea).A (execs (b::r) X.env) (SP X pins D) (fun _ _=>False) s4:=fun {G b r s4} hG eG I4=>by
     obtain⟨eG,hn⟩:=CY eG;have hlen:σ'.length=ρ.length:=by rw[I1.len,<- I.len,P.len]
     refine gk (hG pins s4 _ H' D I4 ⟨ok',_,ω1,o,ω',⟨nw.okh,nw.st,fun i d w=> ?_,by simp[hlen]⟩,eG,?_⟩) (fun _ _ z=>SP.unmarked I.ok.hd z) fun _ _ z=>z
     ·rw[ia] at w;split at w <;> cases w
     ·have q':=q.nw nw;cases o with
      |ex c=>exact absurd rfl (hn c)
      |_=>exact q'
    have e0:(if c=c1 then sNx G1 (az ρ.length zo) ω1 else if c=c2 then sNx G2 (az ρ.length zo) ω1 else zo)=zn (o,ω'):=e
    by_cases hz1:c=c1
    ·subst hz1;have e':sNx G1 (az ρ.length zo) ω1=zn (o,ω'):=by
      rw[if_pos rfl] at e0;exact e0
     refine jJ I3 hex fl' hpT hg1 hm1 ho1 ho1 (fun _ s4 I4=>run (h1 ea) e' I4) (fun w=> ?_) hd1;exact absurd w (by simp)
    ·have e2:(if c=c2 then sNx G2 (az ρ.length zo) ω1 else zo)=zn (o,ω'):=by
      rw[if_neg hz1] at e0;exact e0
     obtain⟨hz2,e3⟩:=cV e2;subst hz2;refine jJ I3 hex fl' hpT hg1 hm1 ho2 ho1 (fun w=> ?_) (fun _=> ?_) hd1
     ·rw[hne] at w;cases w
     ·refine jJ I3 hex fl' hpT hg2 hm2 ho2 ho2 (fun _ s4 I4=>run (h2 ea) e3 I4) (fun w=> ?_) hd2;exact absurd w (by simp)
   refine gk (hb _ _ E' ex [] s σ H D I.pned ⟨ok,ρ,ω,o1,ω1,P,eF,hout⟩) (fun f s₁ z=> ?_) fun _ _ z=>z;have z':=SP.unpned z;cases f with
   |next=>
    obtain⟨σ',H',I',q'⟩:=z';exact qi ⟨σ',H',I',q'⟩
   |_=>exact z'
  cases o1 with
  |ex c=>exact main (fun c' H'=>(∃ ok',Nw cls X.K ok H ok' H' ω1)/\c'=c) (fun c' H' ⟨⟨ok',n⟩,ez⟩=>⟨ok',n,c,rfl,ez⟩) fun ok' H' n=>⟨⟨ok',n⟩,rfl⟩
  |nx ρ1=>cases e;exact main (fun _ _=>False) (fun _ _ z=>z.elim) q
  |rt d=>cases e;exact main (fun _ _=>False) (fun _ _ z=>z.elim) q
  |bk ρ1=>cases e;exact main (fun _ _=>False) (fun _ _ z=>z.elim) q
  |ct ρ1=>cases e;exact main (fun _ _=>False) (fun _ _ z=>z.elim) q
end
def RawD (h:cm) (d:ag) (es:Array mh) (ep:Nat):Prop:=∃ o,h.get? d=zn o/\o.ExactDict/\o.data=.dict es ep
theorem RawD.at (x:RawD h d es ep) (k:∀ o,h.get? d=zn o->h'.get? d=zn o):RawD h' d es ep:=let ⟨o,e,r⟩:=x;⟨o,k o e,r⟩
theorem RawD.typeIs {s:ao} (x:RawD s.heap d es ep):s.TypeIs (.ref d) "dict":=let ⟨o,e,c,_⟩:=x;⟨o,e,c.1⟩
theorem RawD.lt (x:RawD h d es ep):d<h.objs.size:=let ⟨_,e,_⟩:=x;bj e
section
variable {prog:cj}{w:cz}{A:df}{E:af->ao->Prop}{s:ao}{d v it:ag}{es:Array mh}{ep i:Nat}
theorem BC (lo:(d==f9)=false) (r:RawD s.heap d es ep) (q:Q (.ref s.heap.objs.size) { s with heap:=s.heap.push { cls:=.type "dict_values",data:=.fields #[.ref d] } }):
  au (model prog w) A (call (.builtin "dict.values") [.ref d]) Q E s:=by
 refine xc (prog:=prog) (w:=w) uc r.typeIs PySem.F.entry_dict_values (PySem.F.args_dict_values_1 _) (S:=fun _ R t=>RawD t.heap d es ep/\R (.ok (.ret (.ref t.heap.objs.size))) { t with heap:=t.heap.push { cls:=.type "dict_values",data:=.fields #[.ref d] } }) (.of_wp fun B R t z=> ?_) ⟨r,q⟩;obtain⟨r1,q1⟩:=z;refine ae ?_;unfold Builtin.Dict.noArgs;refine ae (ve r1.typeIs ?_);show au _ _ (pure d) _ _ t;refine ai ?_;show au _ _ (ma d >>= _) _ _ t;unfold ma;rw[if_neg (show ¬((d==f9)=true) by rw[lo];exact cg)];exact ae (ai (ae (di (ai ⟨_,rfl,q1⟩))))
theorem Df (vw:s.heap.IsValuesView v d) (r:RawD s.heap d es ep)
  (q:Q (.ref s.heap.objs.size) { s with heap:=s.heap.push { cls:=.type "dict_valueiterator",data:=.fields #[.ref d,.int 0 0,.int es.size 0,.int ep 0] } }):au (model prog w) A (u7 (.ref v)) Q E s:=by
 obtain⟨ov,v1,v2,v3⟩:=id vw;obtain⟨o,r1,r2,r3⟩:=id r;refine pe vw.typeIs qp (eu qp vw.typeIs PySem.F.entry_dict_values_iter ?_ (PySem.F.args_dict_values_iter_1 _));unfold Builtin.«dict_values.__iter__»;refine ae (ai (ae ?_));unfold zh;refine ae (uz v1 v3 (x:=.ref d) rfl (ai (ae ?_)));unfold yx;refine ae (kc r1 r3 (ae (ls r1 r3 ?_)));have own:iu "dict_valueiterator"=false:=by decide
 simp only[own,d7,ite_false];refine di (ai ⟨_,rfl,"dict_valueiterator",_,⟨_,br _ rfl,rfl⟩,gn.lookup,?_⟩);simpa [jq] using q
theorem De (vi:s.heap.IsValIter it d i es.size ep) (r:RawD s.heap d es ep) (hx:es[i]?=zn e)
  (q:∀ h',h'.IsValIter it d (i+1) es.size ep->d4 it s.heap h'->Q (zn e.val) { s with heap:=h' }):au (model prog w) A (ka (.ref it)) Q E s:=by
 obtain⟨o,i1,i2,i3⟩:=id vi;obtain⟨od,r1,r2,r3⟩:=id r;have lt:i<es.size:=(m5.mp hx).1;have own:iu "dict_valueiterator"=false:=by decide
 unfold ka;refine ae (pk (iw (name:=jc "__next__") vi.typeIs gn (eu gn vi.typeIs n6 ?_ (ni _))));refine ae (ai (ae (ae ?_)))
 first|refine ae (jo vi.typeIs (ai ?_))|refine ae (kz vi.typeIs (ai ?_))
 refine ae (md i1 i3 ?_);simp only[own,d7,ite_false];show au _ _ (if(b9 d==eg)=true then _ else _) _ _ s;rw[if_neg (show ¬((b9 d==eg)=true) from fun z=>nomatch z)];refine ae (ai (ae (kc r1 r3 ?_)));rw[if_neg (by simp:¬ _)];refine ae (ai (ae (ls r1 r3 ?_)));rw[if_neg (by simp:¬ _)];refine ai ?_;simp only[show ¬((i:Int)<0) by omega,ite_false,da,hx];refine ae ?_
 first|refine ae (jo vi.typeIs (ai ?_))|refine ae (kz vi.typeIs (ai ?_))
 refine ae (qh vi.typeIs ?_);show au _ _ (qy (.ref it) 1 (jq ((i:Int)+1)) >>= _) _ _ s;refine ae (qz i1 i3 (by simp) ?_);have vi2:(s.heap.update it (m7 (·.setIfInBounds 1 (jq ((i:Int)+1))))).IsValIter it d (i+1) es.size ep:=⟨_,ee _ i1 (qg (j0 i3 _)),(xv ..).trans i2,by rw[j0 i3];simp[jq]⟩;refine ae (fh (ae (qh (s:={ s with heap:=s.heap.update it (m7 (·.setIfInBounds 1 (jq ((i:Int)+1)))) }) vi2.typeIs ?_)));refine ae (qh (s:={ s with heap:=s.heap.update it (m7 (·.setIfInBounds 1 (jq ((i:Int)+1)))) }) vi2.typeIs ?_);exact ai (ai ⟨_,rfl,ai (q _ vi2 (jr ..))⟩)
theorem Gz (hh:A.handled=zo) (vi:s.heap.IsValIter it d i es.size ep) (r:RawD s.heap d es ep) (hx:es.size<=i) (q:∀ h',Heap.ExtBut it s.heap h'->Q zo { s with heap:=h' }):au (model prog w) A (ka (.ref it)) Q E s:=by
 obtain⟨o,i1,i2,i3⟩:=id vi;obtain⟨od,r1,r2,r3⟩:=id r;have own:iu "dict_valueiterator"=false:=by decide
 unfold ka;refine ae (pk (iw (name:=jc "__next__") vi.typeIs gn (eu gn vi.typeIs n6 ?_ (ni _))));refine ae (ai (ae (ae ?_)))
 first|refine ae (jo vi.typeIs (ai ?_))|refine ae (kz vi.typeIs (ai ?_))
 refine ae (md i1 i3 ?_);simp only[own,d7,ite_false];show au _ _ (if(b9 d==eg)=true then _ else _) _ _ s;rw[if_neg (show ¬((b9 d==eg)=true) from fun z=>nomatch z)];refine ae (ai (ae (kc r1 r3 ?_)));rw[if_neg (by simp:¬ _)];refine ae (ai (ae (ls r1 r3 ?_)));rw[if_neg (by simp:¬ _)];refine ai ?_;simp only[show ¬((i:Int)<0) by omega,ite_false,da,ii hx];refine ae ?_
 first|refine ae (jo vi.typeIs (ai ?_))|refine ae (kz vi.typeIs (ai ?_))
 show au _ _ (qy (.ref it) 0 .none >>= _) _ _ s;refine ae (qz i1 i3 (by simp) ?_);show au _ _ (vf (.type "StopIteration") [] >>= _) _ _ _;refine ae ?_;simp only[vf,newTuple];refine ae (di (ae (m:=me _ _) (nh (a:=eg) (by first|rfl|(simp only[me];rfl)) ?_)) (by size_fits));refine di ?_ (by size_fits);simp only[vv];refine ae (wf ?_);rw[show A.in1.handled=zo from hh];refine ae (ai (x6 ?_));refine ae (pz (T:="StopIteration") (b:=true) ⟨_,(br _ rfl),rfl⟩ vg ?_);exact ai (q _ (((jr ..).extBut.push _).push _))
theorem LN (hh:A.handled=zo) (I:ag) (hne:d≠I):Walks prog w A I [I,d] [I] es.size (fun i v=>∃ e,es[i]?=zn e/\v=e.val) (fun i h=>h.IsValIter I d i es.size ep/\RawD h d es ep) where
 sub:=fun b hb=>by simp at hb;simp[hb]
 frame:=fun _ _ _ st hk=>⟨let ⟨o,e,z⟩:=st.1;⟨o,hk I (by simp) o e,z⟩,st.2.at fun o e=>hk d (by simp) o e⟩
 item:=fun i s Q E hi st hQ=>De (e:=es[i]) st.1 st.2 (by simp[hi]) fun h' st' sb=>hQ _ h' s.toks ⟨es[i],by simp[hi],rfl⟩ ⟨st',st.2.at fun o e=>(sb.2 d hne).trans e⟩ fun b o hb e=>(sb.2 b fun z=>hb (by simp[z])).trans e
 done:=fun s Q E st hQ=>Gz hh st.1 st.2 (bp _) fun h' eb=>hQ h' s.toks fun b o hb e=>eb b o (fun z=>hb (by simp[z])) e
 self:=fun _ _ _ _ st hQ=>wpAny_pyIter_valiter st.1 hQ
theorem qB:rc prog w "dict_values" v d es.size (fun i x=>∃ e,es[i]?=zn e/\x=e.val) (fun h=>h.IsValuesView v d/\RawD h d es ep) where
 type:=fun _ z=>z.1.typeIs
 there:=fun _ z=>⟨let ⟨_,e,_⟩:=z.1;bj e,z.2.lt⟩
 keep:=fun _ _ z hk=>⟨let ⟨o,e,x⟩:=z.1;⟨o,hk v (.inl rfl) o e,x⟩,z.2.at fun o e=>hk d (.inr rfl) o e⟩
 notList:=by decide
 notTuple:=by decide
 hint:=fun _ _ _ _ z hq=>PySem.W.kdl_hint_values z.1.typeIs hq
 iter:=fun _ _ hh z=>⟨_,_,(fun _ _ hq=>Df z.1 z.2 hq),LN hh _ (cf z.2.lt),⟨⟨_,br _ rfl,rfl,rfl⟩,z.2.at fun o e=>aq _ e⟩⟩
theorem vB (lo:(d==f9)=false) (r:RawD s.heap d es ep)
  (q:Q (.ref s.heap.objs.size) { s with heap:=s.heap.push { cls:=.type "dict_keyiterator",data:=.fields #[.ref d,.int 0 0,.int es.size 0,.int ep 0] } }):au (model prog w) A (u7 (.ref d)) Q E s:=by
 obtain⟨o,r1,r2,r3⟩:=id r;refine pe r.typeIs pi (eu pi r.typeIs PySem.F.entry_dict_iter ?_ (PySem.F.args_dict_iter_1 _));unfold Builtin.«dict.__iter__»;refine ae ?_;unfold Builtin.Dict.dictSlotNone;refine ae (ve r.typeIs ?_);show au _ _ (pure (b9 d)) _ _ s;refine ai ?_;show au _ _ (ma d >>= _) _ _ s;unfold ma;rw[if_neg (show ¬((d==f9)=true) by rw[lo];exact cg)];refine ae (ai (ae (kc r1 r3 (ae (ls r1 r3 ?_)))));refine ae (di (ai ⟨_,rfl,"dict_keyiterator",_,⟨_,br _ rfl,rfl⟩,g8.lookup,?_⟩));simpa [jq] using q
theorem vA (vi:s.heap.IsKeyIter it d i es.size ep) (r:RawD s.heap d es ep) (hx:es[i]?=zn e)
  (q:∀ h',h'.IsKeyIter it d (i+1) es.size ep->d4 it s.heap h'->Q (zn e.key) { s with heap:=h' }):au (model prog w) A (ka (.ref it)) Q E s:=by
 obtain⟨o,i1,i2,i3⟩:=id vi;obtain⟨od,r1,r2,r3⟩:=id r;have lt:i<es.size:=(m5.mp hx).1;have own:iu "dict_keyiterator"=false:=by decide
 unfold ka;refine ae (pk (iw (name:=jc "__next__") vi.typeIs g8 (eu g8 vi.typeIs o9 ?_ (ox _))));refine ae (ai (ae (ae ?_)))
 first|refine ae (jp vi.typeIs (ai ?_))|refine ae (k6 vi.typeIs (ai ?_))
 refine ae (md i1 i3 ?_);simp only[own,d7,ite_false];show au _ _ (if(b9 d==eg)=true then _ else _) _ _ s;rw[if_neg (show ¬((b9 d==eg)=true) from fun z=>nomatch z)];refine ae (ai (ae (kc r1 r3 ?_)));rw[if_neg (by simp:¬ _)];refine ae (ai (ae (ls r1 r3 ?_)));rw[if_neg (by simp:¬ _)];refine ai ?_;simp only[show ¬((i:Int)<0) by omega,ite_false,da,hx];refine ae ?_
 first|refine ae (jp vi.typeIs (ai ?_))|refine ae (k6 vi.typeIs (ai ?_))
 refine ae (vh vi.typeIs ?_);show au _ _ (qy (.ref it) 1 (jq ((i:Int)+1)) >>= _) _ _ s;refine ae (qz i1 i3 (by simp) ?_);have vi2:(s.heap.update it (m7 (·.setIfInBounds 1 (jq ((i:Int)+1))))).IsKeyIter it d (i+1) es.size ep:=⟨_,ee _ i1 (qg (j0 i3 _)),(xv ..).trans i2,by rw[j0 i3];simp[jq]⟩;refine ae (fh (ae (vh (s:={ s with heap:=s.heap.update it (m7 (·.setIfInBounds 1 (jq ((i:Int)+1)))) }) vi2.typeIs ?_)));exact ai (ai ⟨_,rfl,ai (q _ vi2 (jr ..))⟩)
theorem AA (hh:A.handled=zo) (vi:s.heap.IsKeyIter it d i es.size ep) (r:RawD s.heap d es ep) (hx:es.size<=i) (q:∀ h',Heap.ExtBut it s.heap h'->Q zo { s with heap:=h' }):au (model prog w) A (ka (.ref it)) Q E s:=by
 obtain⟨o,i1,i2,i3⟩:=id vi;obtain⟨od,r1,r2,r3⟩:=id r;have own:iu "dict_keyiterator"=false:=by decide
 unfold ka;refine ae (pk (iw (name:=jc "__next__") vi.typeIs g8 (eu g8 vi.typeIs o9 ?_ (ox _))));refine ae (ai (ae (ae ?_)))
 first|refine ae (jp vi.typeIs (ai ?_))|refine ae (k6 vi.typeIs (ai ?_))
 refine ae (md i1 i3 ?_);simp only[own,d7,ite_false];show au _ _ (if(b9 d==eg)=true then _ else _) _ _ s;rw[if_neg (show ¬((b9 d==eg)=true) from fun z=>nomatch z)];refine ae (ai (ae (kc r1 r3 ?_)));rw[if_neg (by simp:¬ _)];refine ae (ai (ae (ls r1 r3 ?_)));rw[if_neg (by simp:¬ _)];refine ai ?_;simp only[show ¬((i:Int)<0) by omega,ite_false,da,ii hx];refine ae ?_
 first|refine ae (jp vi.typeIs (ai ?_))|refine ae (k6 vi.typeIs (ai ?_))
 show au _ _ (qy (.ref it) 0 .none >>= _) _ _ s;refine ae (qz i1 i3 (by simp) ?_);show au _ _ (vf (.type "StopIteration") [] >>= _) _ _ _;refine ae ?_;simp only[vf,newTuple];refine ae (di (ae (m:=me _ _) (nh (a:=eg) (by first|rfl|(simp only[me];rfl)) ?_)) (by size_fits));refine di ?_ (by size_fits);simp only[vv];refine ae (wf ?_);rw[show A.in1.handled=zo from hh];refine ae (ai (x6 ?_));refine ae (pz (T:="StopIteration") (b:=true) ⟨_,(br _ rfl),rfl⟩ vg ?_);exact ai (q _ (((jr ..).extBut.push _).push _))
theorem LO (hh:A.handled=zo) (I:ag) (hne:d≠I):Walks prog w A I [I,d] [I] es.size (fun i v=>∃ e,es[i]?=zn e/\v=e.key) (fun i h=>h.IsKeyIter I d i es.size ep/\RawD h d es ep) where
 sub:=fun b hb=>by simp at hb;simp[hb]
 frame:=fun _ _ _ st hk=>⟨let ⟨o,e,z⟩:=st.1;⟨o,hk I (by simp) o e,z⟩,st.2.at fun o e=>hk d (by simp) o e⟩
 item:=fun i s Q E hi st hQ=>vA (e:=es[i]) st.1 st.2 (by simp[hi]) fun h' st' sb=>hQ _ h' s.toks ⟨es[i],by simp[hi],rfl⟩ ⟨st',st.2.at fun o e=>(sb.2 d hne).trans e⟩ fun b o hb e=>(sb.2 b fun z=>hb (by simp[z])).trans e
 done:=fun s Q E st hQ=>AA hh st.1 st.2 (bp _) fun h' eb=>hQ h' s.toks fun b o hb e=>eb b o (fun z=>hb (by simp[z])) e
 self:=fun _ _ _ _ st hQ=>vx st.1 hQ
theorem At (lo:(d==f9)=false):rc prog w "dict" d d es.size (fun i x=>∃ e,es[i]?=zn e/\x=e.key) (fun h=>RawD h d es ep) where
 type:=fun _ z=>z.typeIs
 there:=fun _ z=>⟨z.lt,z.lt⟩
 keep:=fun _ _ z hk=>z.at fun o e=>hk d (.inl rfl) o e
 notList:=by decide
 notTuple:=by decide
 hint:=fun _ _ _ _ z hq=>PySem.W.kdl_hint_dict z.typeIs hq
 iter:=fun _ _ hh z=>⟨_,_,(fun _ _ hq=>vB lo z hq),LO hh _ (cf z.lt),⟨⟨_,br _ rfl,rfl,rfl⟩,z.at fun o e=>aq _ e⟩⟩
end
theorem _root_.L2.Inv.laidN (I:Inv X pins σ H s) (k:∀ b u,s.heap.get? b=zn u->h'.get? b=zn u) (n:s.heap.get? a=zo) (new:ObjOk X.prog X.w (upd H a o) h' a o):
  H a=zo/\Inv X pins σ (upd H a o) { s with heap:=h',toks:=t' }:=by
 have hn:H a=zo:=by
  cases q:H a with
  |none=>rfl
  |some u=>
   obtain⟨v,w⟩:=HOk.obj I.hok q;rw[n] at w;cases w
 have ne:∀ {b:ag}{u:Obj},s.heap.get? b=zn u->b≠a:=fun e z=>by rw[z,n] at e;cases e
 refine⟨hn,I.un ⟨fun b u e _ _ _=>k b u e,fun b u e _ _ _=>⟨u.slots,k b u e⟩,fun b u e q _=>by rw[aE (ne e)];exact q,fun b u e _=>⟨u,k b u e⟩,fun b xs e=>by rw[aE (aG e hn)];exact e,fun b u v e=>by rw[aE (aG e hn)];exact e,fun b ps e=>⟨#[],by rw[aE (aG e hn),e];simp⟩⟩ fun b u e=> ?_⟩
 by_cases hb:b=a
 ·subst hb;rw[aJ] at e;cases e;exact new
 ·rw[aE hb] at e;exact(I.hok b u e).stay (fun c v _ q=>k c v q) (fun c q=>by rw[aE (aG q hn)];exact q) fun c xs q=>by rw[aE (aG q hn)];exact q
section
variable {prog:cj}{w:cz}{A:df}{E:af->ao->Prop}{s:ao}
theorem Mb (ho:s.heap.get? a=zn (d8 "list" vs.toArray n)) (h1:vs.length<2)
  (h:P (.done (.ret .none)) { s with heap:=lu s.heap a vs ((vs.toArray.zip vs.toArray).map (·.2)) }):au (model prog w) A (Builtin.«list.sort» ⟨[.ref a],[]⟩) P E s:=by
 have la:a<s.heap.objs.size:=bj ho;have z:vs.toArray.size<2:=by rw[bh];exact h1
 obtain⟨e1,o1⟩:∃ e1,(s.heap.update a (jh fun _=> #[])).get? a=zn (d8 "list" #[] e1):=⟨_,ny ho (fun _=> #[])⟩;have o2:(((s.heap.update a (jh fun _=> #[])).push (d8 "tuple" vs.toArray 0)).push (d8 "list" #[] 0)).get? a=zn (d8 "list" #[] e1):=aq _ (aq _ o1);rw[list_sort_plain];refine ae (listItems_at ho rfl (ae (listUpdate_at ho rfl (ae (seqEpoch_at o1 rfl (ae (wpAny_newTuple (ae (se (fh ?_))))))))));show au (model prog w) A _ P E { s with heap:=((s.heap.update a (jh fun _=> #[])).push (d8 "tuple" vs.toArray 0)).push (d8 "list" #[] 0) };dsimp only;rw[if_pos z,if_pos z];refine ae (ai ?_);rw[StateT.run_pure];refine ae (ai ?_);dsimp only;refine ae (seqEpoch_at o2 rfl (ae (listUpdate_at o2 rfl ?_ (hsz2:=by rw[Array.size_map];show(vs.toArray.zip vs.toArray).size<=_;rw[Array.size_zip,bh,bz];omega))));simp only[bne_self_eq_false,d7,ite_false];exact ai h
theorem xM (col:∀ {R:List af->ao->Prop},(∀(h':cm) (tk:Nat) (acc:Array af),(∀ b o,s.heap.get? b=zn o->h'.get? b=zn o)->ItemsOf P acc n->R acc.toList { s with heap:=h',toks:=tk })->au (model prog w) A.in1 (collect (.ref r)) R E s) (hn:n<2)
  (h:∀(h':cm) (tk:Nat) (vs:List af) (a:ag) (c:Nat),(∀ b o,s.heap.get? b=zn o->h'.get? b=zn o)->s.heap.get? a=zo->vs.length=n->(∀(j:Nat) (v:af),vs[j]?=zn v->P j v)->h'.get? a=zn (d8 "list" vs.toArray c)->Q (.ref a) { s with heap:=h',toks:=tk }):
  au (model prog w) A (call (.builtin "sorted") [.ref r]) Q E s:=by
 refine n5 x8 xf xg (xh _) ?_;unfold Builtin.«sorted»;refine ae (m:=checkCount "sorted" 1 1 _) (ai (ae (col fun h1 tk acc kp it=> ?_)));have hl:acc.toList.length=n:=by rw[ca];exact it.1
 refine ae (se ?_ (by rw[hl,bz];omega));have o1:(h1.push (d8 "list" acc.toList.toArray 0)).get? h1.objs.size=zn (d8 "list" acc.toList.toArray 0):=br _ rfl;refine ae (fh (eu rg ⟨_,o1,rfl⟩ qm (Mb (s:={ s with heap:=h1.push (d8 "list" acc.toList.toArray 0),toks:=tk }) o1 (by rw[hl];exact hn) ⟨_,rfl,?_⟩) (rh _)));have nw:s.heap.get? h1.objs.size=zo:=by
  cases q:s.heap.get? h1.objs.size with
  |none=>rfl
  |some u=>exact absurd (bj (kp _ _ q)) (d5 _)
 have ez:(acc.toList.toArray.zip acc.toList.toArray).map (·.2)=acc.toList.toArray:=by
  apply yy;rw[yf,yg];simp[yh]
 have ne:∀ b,b≠h1.objs.size->∀ o,h1.get? b=zn o->(lu (h1.push (d8 "list" acc.toList.toArray 0)) h1.objs.size acc.toList ((acc.toList.toArray.zip acc.toList.toArray).map (·.2))).get? b=zn o:=fun b hb o e=>by
  unfold lu;rw[dc _ _ (cw hb)];refine aq _ (aq _ ?_);rw[dc _ _ (cw hb)];exact aq _ e
 have o2:=ny o1 (fun _=> #[]);have o3:=ny (aq (d8 "list" #[] 0) (aq (d8 "tuple" acc.toList.toArray 0) o2)) (fun _=>(acc.toList.toArray.zip acc.toList.toArray).map (·.2));have o4:∃ c,(lu (h1.push (d8 "list" acc.toList.toArray 0)) h1.objs.size acc.toList ((acc.toList.toArray.zip acc.toList.toArray).map (·.2))).get? h1.objs.size=zn (d8 "list" acc.toList.toArray c):=by
  unfold lu;rw[ez] at o3 ⊢;exact⟨_,o3⟩
 obtain⟨c,o4⟩:=o4;exact ai ⟨_,rfl,h _ tk acc.toList h1.objs.size c (fun b o e=>ne b (fun z=>by rw[z,nw] at e;cases e) o (kp b o e)) nw hl (fun j v e=>it.2 j v (by rw[<- fy];exact e)) o4⟩
theorem mX (K:rc prog w T r d n P OK) (hh:A.handled=zo) (hok:OK s.heap) (hn:n<2)
  (h:∀(h':cm) (tk:Nat) (vs:List af) (a:ag) (c:Nat),(∀ b o,s.heap.get? b=zn o->h'.get? b=zn o)->s.heap.get? a=zo->vs.length=n->(∀(j:Nat) (v:af),vs[j]?=zn v->P j v)->h'.get? a=zn (d8 "list" vs.toArray c)->Q (.ref a) { s with heap:=h',toks:=tk }):
  au (model prog w) A (call (.builtin "sorted") [.ref r]) Q E s:=
 xM (fun h=>wk (A:=A.in1) K hh hok (by rw[bz];omega) h) hn h
end
noncomputable abbrev lf (g:D->D->Option D):Om->D->D->Option (D×Om):=fun ω a b=>pu (g a b) ω
noncomputable abbrev lfL (g:List D->Option D):Om->List D->Option (D×Om):=fun ω a=>pu (g a) ω
noncomputable def Mf:OS:=fun _ _=>zo
noncomputable def dX (ω:Om) (d:D):Option (List D):=match d with
 |.lst ds=>zn ds
 |.obj n=>match ω[n]? with
  |some (.ml ds)=>zn ds
  |_=>zo
 |_=>zo
theorem jV (h:dX ω d=zn ds):d=.lst ds∨∃ n,d=.obj n/\ω[n]?=zn (.ml ds):=by
 cases d with
 |lst xs=>cases h;exact .inl rfl
 |obj n=>
  have h':(match ω[n]? with
   |some (.ml ds)=>zn ds
   |_=>zo)=zn ds:=h
  split at h'
  ·cases h';exact .inr ⟨n,rfl,‹_›⟩
  ·cases h'
 |_=>cases h
theorem eE {K:aa} (t:Stt cls K ok H ω) (r:Rep K ok H v d) (e:dX ω d=zn ds):∃ a xs,v=.ref a/\H a=zn (.lst xs)/\Reps K ok H xs ds:=by
 rcases jV e with rfl|⟨n,rfl,e1⟩
 ·obtain⟨a,xs,rfl,g,rs⟩:=r.lst_inv;exact⟨a,xs,rfl,g.2,rs⟩
 ·obtain⟨a,rfl,e2,xs,e3,rs⟩:=t.ref r e1;exact⟨a,xs,rfl,e3,rs⟩
section
variable {X:Cx}{cls exC:Nat->ag}{E:XE}{e a b c o i value:b0}{es rest:List b0}{fa fb fc fo fi fv:OG D}{fl:OG (List D)}{ft ft':OG Bool}{pos p apos pos':Pos}{x m:Str}{st:c9}
theorem JG:OSt X cls E st Mf:=fun _ _ _ _ _ _ ⟨_,_,_,_,_,_,z,_⟩=>nomatch z
theorem NC (ha:OE X cls E a fa) (hb:OE X cls E b fb):OE X cls E (.BinOp a .Add b pos) (o2 (lf wD) fa fb):=sD Nk (Fit2.lift (lM fun _ _ _ _=>.int _)) ha hb
theorem Nn (ha:OE X cls E a fa) (hb:OE X cls E b fb):OE X cls E (.BinOp a .Sub b pos) (o2 (lf gSub) fa fb):=sD Na (Fit2.lift (lM fun _ _ _ _=>.int _)) ha hb
theorem Nr (ha:OE X cls E a fa) (hb:OE X cls E b fb):OE X cls E (.BinOp a .Mult b pos) (o2 (lf gM) fa fb):=sD Nc (Fit2.lift (Lh (fun i j h=>by unfold CMul;omega) fun _ _ _ _=>.int _)) ha hb
theorem Nt (ha:OE X cls E a fa) (hb:OE X cls E b fb):OE X cls E (.BinOp a .Mod b pos) (o2 (lf cC) fa fb):=sD Nd (Fit2.lift (Lh (fun _ _ h=>h) fun _ _ _ _=>.int _)) ha hb
theorem Kh (ha:OE X cls E a fa) (hb:OE X cls E b fb):OE X cls E (.BinOp a .FloorDiv b pos) (o2 (lf Oc) fa fb):=sD JN (Fit2.lift (Lh (fun _ _ h=>h) fun _ _ _ _=>.int _)) ha hb
theorem PD (ha:OE X cls E a fa) (hb:OE X cls E b fb):OE X cls E (.Compare a [.LtE] [b] pos) (o2 (lf gLe) fa fb):=vH Ng (Fit2.lift (lM fun _ _ _ _=>.bl _)) ha hb (iZ _)
theorem PH (ha:OE X cls E a fa) (hb:OE X cls E b fb):OE X cls E (.Compare a [.Gt] [b] pos) (o2 (lf gGt) fa fb):=vH Ni (Fit2.lift (lM fun _ _ _ _=>.bl _)) ha hb (iZ _)
theorem Pw (ha:OE X cls E a fa) (hb:OE X cls E b fb):OT X cls E (.Compare a [.Lt] [b] pos) (dG (o2 (lf gLt) fa fb)):=qJ Nf (Fit2.lift (lM fun _ _ _ _=>.bl _)) ha hb (iZ _)
theorem Py (ha:OE X cls E a fa) (hb:OE X cls E b fb):OT X cls E (.Compare a [.Gt] [b] pos) (dG (o2 (lf gGt) fa fb)):=qJ Ni (Fit2.lift (lM fun _ _ _ _=>.bl _)) ha hb (iZ _)
theorem Nx (ha:OE X cls E a fa) (hb:OE X cls E b fb):OE X cls E (.Compare a [.Is] [b] pos) (o2 (lf NZ) fa fb):=vH IG (Fit2.lift EW) ha hb (iZ _)
theorem MR (ha:OE X cls E a fa) (hb:OE X cls E b fb):OT X cls E (.Compare a [.Is] [b] pos) (dG (o2 (lf NZ) fa fb)):=qJ IG (Fit2.lift EW) ha hb (iZ _)
theorem Px (hu:IX X (n+1)) (ha:OE X cls E a fa) (hb:OE X cls E b fb) (hm:jn .In b=false:=by with_unfolding_all rfl):OT X cls E (.Compare a [.In] [b] pos) (dG (o2 (lf (gIn n)) fa fb)):=qJ (Nh hu) (Fit2.lift Of) ha hb hm
noncomputable def qL (g g':D->D->Option D) (fa fb fc:OG D):OG Bool:=oB fa fun x=>oB fb fun y ρ ω=>match (g x y).bind toB with
 |none=>zo
 |some true=>oB fc (fun z _ ω=>oR (pu ((g' y z).bind toB) ω)) ρ ω
 |some false=>zn (.ok false,ω)
theorem Dt (ho:OpR X (gx op) r) (F:Fit2 X.K r g) (ho':OpR X (gx op') r') (F':Fit2 X.K r' g') (ha:OE X cls E a fa) (hb:OE X cls E b fb) (hc:OE X cls E c fc)
  (hm:lastMarks [op,op'] [b,c]=false:=by with_unfolding_all rfl):OT X cls E (.Compare a [op,op'] [b,c] pos) (qL g g' fa fb fc):=(GF ho ho' ha hb hc hm).imp fun σ H Q ⟨ok,ρ,ω,rz,ω',P,e,q⟩=>by
 refine tO.then_ P e (fun c z=>by subst z;exact q) fun x ω1 v ok1 H1 e1 n1 P1 r1=> ?_;refine tO.then_ P1 e1 (fun c z=>by subst z;exact exR.nw q n1) fun y ω2 u ok2 H2 e2 n2 P2 r2=> ?_;cases hg:(g x y).bind toB with
 |none=>rw[hg] at e2;cases e2
 |some k=>
  rw[hg] at e2;obtain⟨dk,g1,g2⟩:=bind_some hg;obtain rfl:=mP g2;refine F ok2 H2 v u x y _ _ P2.okh (r1.ex n2.ex) r2 g1 fun w H3 s3 r3=>⟨k,r3.bl_inv,?_⟩;have n3:Nw cls X.K ok2 H2 ok2 H3 ω2:=.same P2.okh P2.st s3;cases k with
  |false=>
   cases e2;exact LH ⟨false,rfl,q ok2 H3 (n1.trans (n2.trans n3))⟩
  |true=>
   refine LG (tO.then_ (P2.nw n3) e2 (fun c z=>by subst z;exact exR.nw q (n1.trans (n2.trans n3))) fun z ω4 w4 ok4 H4 e4 n4 P4 r4=> ?_);obtain⟨k',e5,rfl⟩:=bX e4;obtain⟨ue5,rfl⟩:=cJ e5;obtain⟨dk',g3,g4⟩:=bind_some ue5;obtain rfl:=mP g4;exact F' ok4 H4 u w4 y z _ _ P4.okh ((r2.ex n3.ex).ex n4.ex) r4 g3 fun w5 H5 s5 r5=>⟨k',r5.bl_inv,q ok4 H5 (n1.trans (n2.trans (n3.trans (n4.trans (.same P4.okh P4.st s5)))))⟩
theorem Oe {K:aa}:Fit2 K (rI0 fun i j=>.bl (decide (i<=j))) gLe:=lM fun _ _ _ _=>.bl _
theorem Od {K:aa}:Fit2 K (rI0 fun i j=>.bl (decide (i<j))) gLt:=lM fun _ _ _ _=>.bl _
theorem JD (ha:OE X cls E a fa) (hb:OE X cls E b fb) (hc:OE X cls E c fc) (hm:lastMarks [.LtE,.Lt] [b,c]=false:=by with_unfolding_all rfl):OT X cls E (.Compare a [.LtE,.Lt] [b,c] pos) (qL gLe gLt fa fb fc):=Dt Ng Oe Nf Od ha hb hc hm
noncomputable def BH (f g:OG D):OG D:=oB f fun d ρ ω=>match toB d with
 |none=>zo
 |some true=>g ρ ω
 |some false=>zn (.ok (.bl false),ω)
noncomputable def Kn (f:OG D):OG D:=oB f fun d _ ω=>oR (pu (Rp d) ω)
theorem No (h:OE X cls E a fa):OE X cls E (.BoolOp op [a] pos) fa:=MD h
theorem NB (ha:OE X cls E a fa) (hb:OE X cls E (.BoolOp .And (b::rest) pos) fb):OE X cls E (.BoolOp .And (a::b::rest) pos) (BH fa fb):=(MK ha hb).imp fun σ H Q ⟨ok,ρ,ω,r,ω',P,e,q⟩=>by
 refine tO.then_ P e (fun c z=>by subst z;exact q) fun d ω1 v ok1 H1 e1 n1 P1 r1=> ?_;cases hd:toB d with
 |none=>rw[hd] at e1;cases e1
 |some k=>
  rw[hd] at e1;obtain rfl:=mP hd;refine⟨k,r1.bl_inv,?_⟩;cases k with
  |true=>exact LG ⟨ok1,ρ,ω1,r,ω',P1,e1,by
   cases r with
   |ok d=>exact fun v ok' H' n r=>q v ok' H' (n1.trans n) r
   |ex c=>exact exR.nw q n1⟩
  |false=>
   cases e1;exact LH (q _ ok1 H1 n1 (.bl false))
theorem Np (ha:OE X cls E a fa):OE X cls E (.UnaryOp .Not a pos) (Kn fa):=(ME ha).imp fun σ H Q ⟨ok,ρ,ω,r,ω',P,e,q⟩=>by
 refine tO.then_ P e (fun c z=>by subst z;exact q) fun d ω1 v ok1 H1 e1 n1 P1 r1=> ?_;obtain⟨y,e3,rfl⟩:=bX e1;obtain⟨ue3,rfl⟩:=cJ e3;obtain⟨k,e4,rfl⟩:=aF (show(toB d).map _=zn y from ue3);obtain rfl:=mP e4;exact⟨k,r1.bl_inv,q _ ok1 H1 n1 (.bl _)⟩
noncomputable def yT (ω:Om) (a b:D):Option (D×Om):=(dX ω a).bind fun xs=>(dX ω b).bind fun ys=>if xs.length+ys.length<=sizeLine then zn (.lst (xs++ys),ω) else zo
theorem NA (ha:OE X cls E a fa) (hb:OE X cls E b fb):OE X cls E (.BinOp a .Add b pos) (o2 yT fa fb):=sD Nj (fun ok H ω x y a b d ω' Q h1 st ra rb e k=>by
 obtain⟨xs,e1,e⟩:=bind_some e;obtain⟨ys,e2,e⟩:=bind_some e;obtain⟨hz,e3⟩:=bA e;cases e3;obtain⟨a1,us,rfl,g1,r1⟩:=eE st ra e1;obtain⟨b1,ws,rfl,g2,r2⟩:=eE st rb e2;exact⟨a1,b1,us,ws,rfl,rfl,g1,g2,by rw[r1.length,r2.length];exact hz,fun p n=>k _ ok _ (.same h1 st (bO n)) (.lst_new (h1 p n) n (r1.append r2))⟩) ha hb
theorem Reps.rep {K:aa} (h:Reps K ok H vs ds):∀ k:Nat,Reps K ok H (az k vs).flatten (az k ds).flatten
 |0=>.nil
 |k+1=>by
  rw[fu,fu,jl,jl];exact h.append (Reps.rep h k)
noncomputable def HC (ω:Om) (a b:D):Option (D×Om):=(dX ω a).bind fun xs=>(toI b).bind fun k=>if -1000000<=k/\k<=1000000/\xs.length*k.toNat<=sizeLine then zn (.obj ω.length,ω++[.ml (az k.toNat xs).flatten]) else zo
theorem JS (ha:OE X cls E a fa) (hb:OE X cls E b fb):OE X cls E (.BinOp a .Mult b pos) (o2 HC fa fb):=sD Nb (fun ok H ω x y a b d ω' Q h1 st ra rb e k=>by
 obtain⟨xs,e1,e⟩:=bind_some e;obtain⟨kk,e2,e⟩:=bind_some e;obtain⟨hz,e3⟩:=bA e;cases e3;obtain rfl:=xI e2;obtain⟨a1,us,rfl,g1,r1⟩:=eE st ra e1;exact⟨a1,kk,us,rfl,rb.int_inv,g1,by omega,by omega,by rw[r1.length];exact hz.2.2,fun p n=>k _ _ _ (.ml h1 st n (r1.rep kk.toNat)) .new_obj⟩) ha hb
noncomputable def dQ (ω:Om) (ds:List D):Option (D×Om):=match ds with
 |[d]=>match dX ω d with
  |some xs=>zn (.int xs.length,ω)
  |none=>pu (NY [d]) ω
 |_=>zo
theorem HR {K:aa}:uF cls K (fun xs H Q=>∃ x n,xs=[x]/\Qq K x H n/\Q (.int n) H) dQ:=fun ok H ω xs as d ω' Q h1 st r e k=>by
 unfold dQ at e;split at e
 ·split at e
  ·rename_i d0 ys hs
   cases e;obtain⟨v,rfl,r1⟩:=r.one_inv;obtain⟨a,us,rfl,g,rs⟩:=eE st r1 hs;exact⟨_,_,rfl,.inl ⟨_,SqL.of g,rs.length.symm⟩,k _ ok H (.refl h1 st) (.int _)⟩
  ·exact FitL.lift (cls:=cls) Lb ok H ω xs _ d ω' Q h1 st r e k
 ·cases e
noncomputable def bU (ω:Om) (d:D):Option (List D):=match d with
 |.tup ds=>zn ds
 |d=>dX ω d
theorem qT {K:aa} (t:Stt cls K ok H ω) (r:Rep K ok H v d) (e:bU ω d=zn ds):∃ a xs,v=.ref a/\(SqL K H a xs∨SqT K H a xs)/\Reps K ok H xs ds:=by
 cases d with
 |tup xs=>
  cases e;obtain⟨a,ys,rfl,g,rs⟩:=r.tup_inv;exact⟨a,ys,rfl,.inr g.sq,rs⟩
 |lst xs=>
  obtain⟨a,ys,rfl,g,rs⟩:=eE t r (show dX ω (.lst xs)=zn ds from e);exact⟨a,ys,rfl,.inl (SqL.of g),rs⟩
 |obj n=>
  obtain⟨a,ys,rfl,g,rs⟩:=eE t r (show dX ω (.obj n)=zn ds from e);exact⟨a,ys,rfl,.inl (SqL.of g),rs⟩
 |_=>cases e
noncomputable def gN (ω:Om) (ds:List D):Option (D×Om):=match ds with
 |[d]=>(bU ω d).map fun xs=>(.lst xs,ω)
 |_=>zo
theorem EU {K:aa}:uF cls K (fun xs H Q=>∃ p ys,xs=[.ref p]/\(SqL K H p ys∨SqT K H p ys)/\∀ l,H l=zo->Q (.ref l) (upd H l (.lst ys))) gN:=fun ok H ω xs as d ω' Q h1 st r e k=>by
 unfold gN at e;split at e
 ·obtain⟨ys,e1,e2⟩:=aF e;cases e2;obtain⟨v,rfl,r1⟩:=r.one_inv;obtain⟨a,us,rfl,g,rs⟩:=qT st r1 e1;exact⟨a,us,rfl,g,fun l n=>k _ ok _ (.same h1 st (bO n)) (.lst_new (h1 l n) n rs)⟩
 ·cases e
noncomputable def AY (ω:Om) (ds:List D):Option (D×Om):=match ds with
 |[d]=>(bU ω d).map fun xs=>(.obj ω.length,ω++[.ml xs])
 |_=>zo
theorem EV {K:aa}:uF cls K (fun xs H Q=>∃ p ys,xs=[.ref p]/\(SqL K H p ys∨SqT K H p ys)/\∀ l,H l=zo->Q (.ref l) (upd H l (.lst ys))) AY:=fun ok H ω xs as d ω' Q h1 st r e k=>by
 unfold AY at e;split at e
 ·obtain⟨ys,e1,e2⟩:=aF e;cases e2;obtain⟨v,rfl,r1⟩:=r.one_inv;obtain⟨a,us,rfl,g,rs⟩:=qT st r1 e1;exact⟨a,us,rfl,g,fun l n=>k _ _ _ (.ml h1 st n rs) .new_obj⟩
 ·cases e
noncomputable def EE (ω:Om) (ds:List D):Option (D×Om):=match ds with
 |[d]=>(dX ω d).map fun xs=>(.tup xs,ω)
 |_=>zo
theorem HL {K:aa}:uF cls K (fun xs H Q=>∃ p ys,xs=[.ref p]/\((SqL K H p ys/\∀ l,H l=zo->Q (.ref l) (upd H l (.tup ys)))∨(SqT K H p ys/\Q (.ref p) H))) EE:=fun ok H ω xs as d ω' Q h1 st r e k=>by
 unfold EE at e;split at e
 ·obtain⟨ys,e1,e2⟩:=aF e;cases e2;obtain⟨v,rfl,r1⟩:=r.one_inv;obtain⟨a,us,rfl,g,rs⟩:=eE st r1 e1;exact⟨a,us,rfl,.inl ⟨SqL.of g,fun l n=>k _ ok _ (.same h1 st (bO n)) (.tup_new (h1 l n) n rs)⟩⟩
 ·cases e
noncomputable def KW (ω:Om) (a:D) (lo hi:Option Int):Option D:=match dX ω a with
 |some ds=>zn (.lst (tM ds lo hi))
 |none=>gSl a lo hi
noncomputable def oSl (f:OG D) (l u:DO):OG D:=oB f fun a ρ ω=>(l ρ).bind fun lo=>(u ρ).bind fun hi=>oR (pu (KW ω a lo hi) ω)
theorem GP {lo hi:Option b0} (he:OE X cls E e fa) (hl:DOp X lo l) (hu:DOp X hi u):OE X cls E (.Subscript e (.Slice lo hi zo p2) pos) (oSl fa l u):=(AE (sl_list.or Md) he hl hu).imp fun σ H Q ⟨ok,ρ,ω,r,ω',P,e,q⟩=>by
 refine tO.then_ P e (fun c z=>by subst z;exact q) fun a ω1 v ok1 H1 e1 n1 P1 r1=> ?_;obtain⟨il,g1,e1⟩:=bind_some e1;obtain⟨ih,g2,e1⟩:=bind_some e1;obtain⟨d,e3,rfl⟩:=bX e1;obtain⟨ue3,rfl⟩:=cJ e3;refine⟨ok1,ρ,il,P1.okh,P1.env,g1,fun H2 s2=>⟨ok1,ρ,ih,P1.okh.same s2,P1.env.same s2,g2,fun H3 s3=> ?_⟩⟩;have sx:=s2.trans s3;have ra:=r1.same sx;have st3:=P1.st.same sx;have okh:=P1.okh.same sx;have q':∀ v H',Same H3 H'->Rep X.K ok1 H' v d->Q v H':=fun v H' s r=>q v ok1 H' (n1.trans (.same P1.okh P1.st (sx.trans s))) r;unfold KW at ue3;cases hs:dX ω' a with
 |some ds=>
  rw[hs] at ue3;cases ue3;obtain⟨p,xs,rfl,g,rs⟩:=eE st3 ra hs;exact .inl ⟨p,xs,rfl,SqL.of g,fun p' n=>q' _ _ (bO n) (.lst_new (okh p' n) n (rs.cut il ih))⟩
 |none=>
  rw[hs] at ue3;have ue4:gSl a il ih=zn d:=ue3;cases a with
  |lst ds=>cases hs
  |scr ds=>
   cases ue4;obtain⟨p,xs,rfl,g,rs⟩:=ra.scr_inv;exact .inl ⟨p,xs,rfl,g.sq,fun p' n=>q' _ _ (bO n) (.lst_new (okh p' n) n (rs.cut il ih))⟩
  |tup ds=>
   have h3':(if HT.sIx ds.length 0 il=0/\HT.sIx ds.length ds.length ih=ds.length then zo else zn (D.tup (tM ds il ih)))=zn d:=ue4;obtain⟨p,xs,rfl,g,rs⟩:=ra.tup_inv
   by_cases hw:HT.sIx ds.length 0 il=0/\HT.sIx ds.length ds.length ih=ds.length
   ·rw[if_pos hw] at h3';cases h3'
   ·rw[if_neg hw] at h3';cases h3';exact .inr ⟨p,xs,rfl,g.sq,by rw[rs.length];exact hw,fun p' n=>q' _ _ (bO n) (.tup_new (okh p' n) n (rs.cut il ih))⟩
  |_=>cases ue4
end
noncomputable def LI (T:String) (ω:Om) (d:D):Option Bool:=match dX ω d with
 |some ds=>KB T (.lst ds)
 |none=>KB T d
noncomputable def Eh (ω:Om) (d:D):Option Bool:=match dX ω d with
 |some _=>zn true
 |none=>if Ei d=true then zo else zn (match d with|.tup _=>true|_=>false)
theorem Hk {K:aa} (h:Ei d=false):PySem.W.kitAny K (.type (tyD d)) [.type "list",.type "tuple"]=zn (match d with|.lst _=>true|.tup _=>true|_=>false):=by
 cases d <;> first|rfl|cases h
theorem Rep.wide {K:aa} (r:Rep K ok H v d):Rep K ⟨fun _=>True,ok.al⟩ H v d:=Rep.mono (ok:=ok) (ok':=⟨fun _=>True,ok.al⟩) (fun _ _ _ e=>⟨trivial,e⟩) (fun _ _ h=>h) r
theorem Reps.wide {K:aa} (r:Reps K ok H v d):Reps K ⟨fun _=>True,ok.al⟩ H v d:=Reps.mono (ok:=ok) (ok':=⟨fun _=>True,ok.al⟩) (fun _ _ _ e=>⟨trivial,e⟩) (fun _ _ h=>h) r
theorem mY {K:aa} (t:Stt cls K ok H ω) (r:Rep K ok H v d) (e:dX ω d=zn ds):Rep K ⟨fun _=>True,ok.al⟩ H v (.lst ds):=by
 obtain⟨a,xs,rfl,g,rs⟩:=eE t r e;exact .lst ⟨trivial,g⟩ rs.wide
section
variable {X:Cx}{cls exC:Nat->ag}{E:XE}{e a b c o i value:b0}{es rest:List b0}{fa fb fc fo fi fv:OG D}{fl:OG (List D)}{ft ft':OG Bool}{pos p apos pos' cpos:Pos}{x m:Str}{st:c9}
noncomputable def jG (T:String) (f:OG D):OG D:=oB f fun d _ ω=>oR (pu ((LI T ω d).map D.bl) ω)
theorem KA {K:aa} (t:Stt cls K ok H ω) (r:Rep K ok H v d) (e:LI T ω d=zn k):∃ d',Rep K ⟨fun _=>True,ok.al⟩ H v d'/\KB T d'=zn k:=by
 unfold LI at e;cases hs:dX ω d with
 |some ds=>rw[hs] at e;exact⟨_,mY t r hs,e⟩
 |none=>rw[hs] at e;exact⟨d,r.wide,e⟩
theorem qK (he:OE X cls E e fa) (hg:Gl X "isinstance") (hm:X.mg "isinstance"=zo) (hgT:Gl X T) (hmT:X.mg T=zo) (hv:dy T=zn (.type Tn)) (hn:T≠"__name__":=by decide) (hdb:(T==("__debug__":Str))=false:=by decide)
  (h1:ar [e,.Name T p2] X.env=(false,eval e X.env)::ar [.Name T p2] X.env:=by rfl) (h2:ar [.Name T p2] X.env=(false,eval (.Name T p2) X.env)::ar [] X.env:=by rfl) (hpl:(dq pos (ar [.Name T p2] X.env)).any (·.1)=false:=by rfl):
  OE X cls E (.Call (.Name "isinstance" p) [e,.Name T p2] [] pos) (jG Tn fa):=
 (kC Ij hg hm (by decide+kernel) (eW he (eW (xU (v:=.ty Tn) hgT hmT hv rfl hn hdb) lF h2) h1) (by decide) (by decide) h1 hpl).imp fun σ H Q ⟨ok,ρ,ω,r,ω',P,e,q⟩=>by
  refine tO.then_ P e (fun c z=>by subst z;exact q) fun d ω1 v ok1 H1 e1 n1 P1 r1=> ?_;obtain⟨y,e3,rfl⟩:=bX e1;obtain⟨ue3,rfl⟩:=cJ e3;obtain⟨k,e4,rfl⟩:=aF ue3;obtain⟨d',rd,e5⟩:=KA P1.st r1 e4;exact⟨v,Tn,d',_,k,rfl,rd,e5,q _ ok1 H1 n1 (.bl _)⟩
def Pn (K:aa):List V->Hp->VK->Prop:=fun xs H Q=>∃ x t d ok,xs=[x,.ref t]/\H t=zn (.tup [.ty "list",.ty "tuple"])/\Rep K ok H x d/\Ei d=false/\Q (.bl (match d with|.lst _=>true|.tup _=>true|_=>false)) H
theorem FG:CallR X (.builtin "isinstance") (Pn X.K):=by
 intro pins s σ H xs us Q I r h;obtain⟨x,t,d,ok,rfl,ht,q,e,hq⟩:=h;obtain⟨u,w',rfl,ru,rw'⟩:=CF r;cases rw';obtain⟨its,rt,⟨ot,t1,t2,n,t3⟩,_⟩:=I.tuple (show SqT X.K H t _ from .inl (.inl ht));have hit:its=[fm "list",fm "tuple"]:=by
  cases rt with
  |cons a1 b1=>cases b1 with
   |cons a2 b2=>cases b2;cases a1;cases a2;rfl
 subst hit;obtain⟨oc,od,odt,osl⟩:=ot;dsimp only at t2 t3;subst t2 t3;have fin:∀ tk,EP X pins σ Q (.bool (match d with|.lst _=>true|.tup _=>true|_=>false)) { s with toks:=tk }:=fun tk=>⟨.bl _,H,I.tok _,rfl,hq⟩;have ek:=Hk (K:=X.K) e;cases q with
 |non=>cases ru;exact lw xr I.kIn ib t1 ek (fun z=>nomatch z) fin
 |bl b=>cases ru;exact lw xt I.kIn ib t1 ek (fun z=>nomatch z) fin
 |int i=>obtain⟨t',rfl⟩:=ru;exact lw yb I.kIn ib t1 ek (fun z=>nomatch z) fin
 |str z=>obtain⟨t',rfl⟩:=ru;exact lw yc I.kIn ib t1 ek (fun z=>nomatch z) fin
 |lst g r=>
  cases ru;obtain⟨its,_,⟨o,n,e1,c1,_,_⟩,_⟩:=I.list g.sq;exact lw xu I.kIn ⟨o,e1,c1⟩ t1 ek (fun z=>nomatch z) fin
 |tup g r=>
  cases ru;obtain⟨its,_,⟨o,e1,c1,_⟩,_⟩:=I.tuple g.sq;exact lw wz I.kIn ⟨o,e1,c1⟩ t1 ek (fun z=>nomatch z) fin
 |obj _=>cases e
 |scr _ _=>cases e
noncomputable def BG (f:OG D):OG D:=oB f fun d _ ω=>oR (pu ((Eh ω d).map D.bl) ω)
theorem Hn {K:aa} (t:Stt cls K ok H ω) (r:Rep K ok H v d) (e:Eh ω d=zn k):∃ d',Rep K ⟨fun _=>True,ok.al⟩ H v d'/\Ei d'=false/\(match d' with|.lst _=>true|.tup _=>true|_=>false)=k:=by
 unfold Eh at e;cases hs:dX ω d with
 |some ds=>rw[hs] at e;cases e;exact⟨_,mY t r hs,rfl,rfl⟩
 |none=>
  rw[hs] at e;cases d with
  |lst ds=>cases hs
  |obj n=>cases e
  |scr n=>cases e
  |non=>cases e;exact⟨_,r.wide,rfl,rfl⟩
  |bl z=>cases e;exact⟨_,r.wide,rfl,rfl⟩
  |int z=>cases e;exact⟨_,r.wide,rfl,rfl⟩
  |str z=>cases e;exact⟨_,r.wide,rfl,rfl⟩
  |tup z=>cases e;exact⟨_,r.wide,rfl,rfl⟩
theorem Kg (he:OE X cls E e fa) (hg:Gl X "isinstance") (hm:X.mg "isinstance"=zo) (hgL:Gl X "list") (hmL:X.mg "list"=zo) (hgT:Gl X "tuple") (hmT:X.mg "tuple"=zo)
  (h1:ar [e,.Tuple [.Name "list" p2,.Name "tuple" p3] k4 p4] X.env=(false,eval e X.env)::ar [.Tuple [.Name "list" p2,.Name "tuple" p3] k4 p4] X.env:=by rfl)
  (h2:ar [.Tuple [.Name "list" p2,.Name "tuple" p3] k4 p4] X.env=(false,eval (.Tuple [.Name "list" p2,.Name "tuple" p3] k4 p4) X.env)::ar [] X.env:=by rfl)
  (h3:ar [.Name "list" p2,.Name "tuple" p3] X.env=(false,eval (.Name "list" p2) X.env)::ar [.Name "tuple" p3] X.env:=by rfl) (h4:ar [.Name "tuple" p3] X.env=(false,eval (.Name "tuple" p3) X.env)::ar [] X.env:=by rfl)
  (hpl:(dq pos (ar [.Tuple [.Name "list" p2,.Name "tuple" p3] k4 p4] X.env)).any (·.1)=false:=by rfl):
  OE X cls E (.Call (.Name "isinstance" p) [e,.Tuple [.Name "list" p2,.Name "tuple" p3] k4 p4] [] pos) (BG fa):=
 (kC FG hg hm (by decide+kernel) (eW he (eW (Ix (eW (xU (v:=.ty "list") hgL hmL boot.list rfl) (eW (xU (v:=.ty "tuple") hgT hmT boot.tuple rfl) lF h4) h3)) lF h2) h1) (by decide) (by decide) h1 hpl).imp fun σ H Q ⟨ok,ρ,ω,r,ω',P,e,q⟩=>by
  refine tO.then_ P e (fun c z=>by subst z;exact q) fun d ω1 v ok1 H1 e1 n1 P1 r1=> ?_;obtain⟨y,e3,rfl⟩:=bX e1;obtain⟨ue3,rfl⟩:=cJ e3;obtain⟨k,e4,rfl⟩:=aF ue3;refine⟨by show 2<=sizeLine;decide,fun t n=> ?_⟩;have n2:Nw cls X.K ok1 H1 ok1 (upd H1 t (.tup [.ty "list",.ty "tuple"])) ω':=.same P1.okh P1.st (bO n);obtain⟨d',rd,e5,e6⟩:=Hn n2.st (r1.ex n2.ex) e4;refine⟨v,t,d',_,rfl,aJ,rd,e5,?_⟩;rw[e6];exact q _ ok1 _ (n1.trans n2) (.bl _)
noncomputable def BP (ω:Om) (d:D):Bool:=match cellOf ω d with
 |some (.ml _)=>true
 |_=>false
theorem Ek (h:BP ω d=true):∃ n ds,d=.obj n/\ω[n]?=zn (.ml ds):=by
 unfold BP at h;split at h
 ·obtain⟨n,rfl,e⟩:=cX ‹_›;exact⟨n,_,rfl,e⟩
 ·cases h
noncomputable def gW (g:Om->D->List D->Option (D×Om)) (fo:OG D) (fl:OG (List D)):OG D:=oB fo fun d ρ ω=>if BP ω d=true then oB fl (fun ds _ ω=>oR (g ω d ds)) ρ ω else zo
def Al (cls:Nat->ag) (K:aa) (r:V->List V->Hp->VK->Prop) (g:Om->D->List D->Option (D×Om)):Prop:=∀(ok:Okk) (H:Hp) (ω:Om) (x:V) (xs:List V) (a:D) (as:List D) (d:D) (ω':Om) (Q:VK),OkH ok H->Stt cls K ok H ω->Rep K ok H x a->Reps K ok H xs as->g ω a as=zn (d,ω')->
 (∀ v ok' H',Nw cls K ok H ok' H' ω'->Rep K ok' H' v d->Q v H')->r x xs H Q
theorem JY {id:String} (slot:Slot "list" m id) (hty:typeOf (.builtin id)=pure (.type "method_descriptor")) (hm:MtR X id r) (F:Al cls X.K r g) (ho:OE X cls E o fo) (ha:OA X cls E (e::es) fl)
  (hbase:g9 o m X.env (eval o X.env)=eval o X.env:=by rfl)
  (hfew:((dq cpos (ar (e::es) X.env)).all (fun x=> !x.1)&&(jt cpos (ig [] X.env)).all (fun x=>x.1.isSome)
   &&decide ((e::es).length+([]:List jk).length+(if([]:List jk).isEmpty then 0 else 1)<30))=true:=by rfl)
  (hline:(apos.endLine==cpos.line)=true:=by rfl) (hs:ar (e::es) X.env=(false,eval e X.env)::ar es X.env:=by rfl) (hplain:(dq cpos (ar es X.env)).any (·.1)=false:=by rfl):
  OE X cls E (.Call (.Attribute o m apos) (e::es) [] cpos) (gW g fo fl):=
 (MJ PySem.F.plainAttrs_list slot hty hm ho ha hbase hfew hline hs hplain).imp fun σ H Q ⟨ok,ρ,ω,r,ω',P,e,q⟩=>by
  refine tO.then_ P e (fun c z=>by subst z;exact q) fun d ω1 v ok1 H1 e1 n1 P1 r1=> ?_;obtain⟨hi,e1⟩:=cV e1;obtain⟨n,ds0,rfl,e2⟩:=Ek hi;obtain⟨a,rfl,e4,xs,e5,rs⟩:=P1.st.ref r1 e2;refine⟨.inl ⟨rfl,xs,SqL.of e5⟩,?_⟩;refine tOA.then_ P1 e1 (fun c z=>by subst z;exact exR.nw q n1) fun ds ω2 us ok2 H2 e6 n2 P2 r2=> ?_;obtain⟨y,e7,rfl⟩:=bX e6;exact F ok2 H2 ω2 _ us _ ds y ω' Q P2.okh P2.st (r1.ex n2.ex) r2 e7 fun w ok3 H3 n3 r3=>q w ok3 H3 (n1.trans (n2.trans n3)) r3
noncomputable def pQ (ω:Om) (d:D) (as:List D):Option (D×Om):=match d,as with
 |.obj n,[v]=>match ω[n]? with
  |some (.ml ds)=>if ds.length<sizeLine then zn (.non,ω.set n (.ml (ds++[v]))) else zo
  |_=>zo
 |_,_=>zo
theorem ES (h:pQ ω d as=zn (y,ω')):∃ n v ds,d=.obj n/\as=[v]/\ω[n]?=zn (.ml ds)/\ds.length<sizeLine/\y=.non/\ω'=ω.set n (.ml (ds++[v])):=by
 unfold pQ at h;split at h
 ·split at h
  ·obtain⟨hz,e3⟩:=bA h;cases e3;exact⟨_,_,_,rfl,rfl,‹_›,hz,rfl,rfl⟩
  ·cases h
 ·cases h
theorem Lg {K:aa}:Al cls K Dh pQ:=fun ok H ω x xs a as d ω' Q h1 st ra rs e k=>by
 obtain⟨n,v,ds,rfl,rfl,hc,hz,rfl,rfl⟩:=ES e;obtain⟨a1,rfl,e4,us,e5,r5⟩:=st.ref ra hc;obtain⟨w,rfl,rw'⟩:=rs.one_inv;refine⟨a1,us,w,rfl,rfl,e5,by rw[r5.length];exact hz,?_⟩;exact k _ ok _ (Nw.write (o:=.lst (us++[w])) (ob:=.ml (ds++[v])) h1 st e4 e5 fun dat=>⟨_,aJ,(r5.snoc rw').mono dat⟩) .non
theorem DH (ho:OE X cls E o fo) (ha:OA X cls E [e] fl) (hbase:g9 o "append" X.env (eval o X.env)=eval o X.env:=by rfl)
  (hfew:((dq cpos (ar [e] X.env)).all (fun x=> !x.1)&&(jt cpos (ig [] X.env)).all (fun x=>x.1.isSome)
   &&decide ([e].length+([]:List jk).length+(if([]:List jk).isEmpty then 0 else 1)<30))=true:=by rfl)
  (hline:(apos.endLine==cpos.line)=true:=by rfl) (hs:ar [e] X.env=(false,eval e X.env)::ar [] X.env:=by rfl) (hplain:(dq cpos (ar [] X.env)).any (·.1)=false:=by rfl):
  OE X cls E (.Call (.Attribute o "append" apos) [e] [] cpos) (gW pQ fo fl):=JY va PySem.F.type_list_append (fun pins s σ H x xs v us Q=>vM pins s σ H x xs v us Q) Lg ho ha hbase hfew hline hs hplain
noncomputable def ER (ω:Om) (d:D) (as:List D):Option (D×Om):=match d,as with
 |.obj n,[v]=>match ω[n]? with
  |some (.ml ds)=>(dX ω v).bind fun ys=>if ds.length+ys.length<=sizeLine then zn (.non,ω.set n (.ml (ds++ys))) else zo
  |_=>zo
 |_,_=>zo
theorem EQ (h:ER ω d as=zn (y,ω')):∃ n v ds ys,d=.obj n/\as=[v]/\ω[n]?=zn (.ml ds)/\dX ω v=zn ys/\ds.length+ys.length<=sizeLine/\y=.non/\ω'=ω.set n (.ml (ds++ys)):=by
 unfold ER at h;split at h
 ·split at h
  ·obtain⟨ys,e6,h⟩:=bind_some h;obtain⟨hz,e3⟩:=bA h;cases e3;exact⟨_,_,_,ys,rfl,rfl,‹_›,e6,hz,rfl,rfl⟩
  ·cases h
 ·cases h
theorem Lf {K:aa}:Al cls K Dg ER:=fun ok H ω x xs a as d ω' Q h1 st ra rs e k=>by
 obtain⟨n,v,ds,ys,rfl,rfl,hc,e6,hz,rfl,rfl⟩:=EQ e;obtain⟨a1,rfl,e4,us,e5,r5⟩:=st.ref ra hc;obtain⟨w,rfl,rw'⟩:=rs.one_inv;obtain⟨b1,ws,rfl,g2,r2⟩:=eE st rw' e6;refine⟨a1,b1,us,ws,rfl,rfl,e5,g2,by rw[r5.length,r2.length];exact hz,?_⟩;exact k _ ok _ (Nw.write (o:=.lst (us++ws)) (ob:=.ml (ds++ys)) h1 st e4 e5 fun dat=>⟨_,aJ,(r5.append r2).mono dat⟩) .non
theorem DG (ho:OE X cls E o fo) (ha:OA X cls E [e] fl) (hbase:g9 o "extend" X.env (eval o X.env)=eval o X.env:=by rfl)
  (hfew:((dq cpos (ar [e] X.env)).all (fun x=> !x.1)&&(jt cpos (ig [] X.env)).all (fun x=>x.1.isSome)
   &&decide ([e].length+([]:List jk).length+(if([]:List jk).isEmpty then 0 else 1)<30))=true:=by rfl)
  (hline:(apos.endLine==cpos.line)=true:=by rfl) (hs:ar [e] X.env=(false,eval e X.env)::ar [] X.env:=by rfl) (hplain:(dq cpos (ar [] X.env)).any (·.1)=false:=by rfl):
  OE X cls E (.Call (.Attribute o "extend" apos) [e] [] cpos) (gW ER fo fl):=JY vb PySem.F.type_list_extend (fun pins s σ H x xs v us Q=>DU pins s σ H x xs v us Q) Lf ho ha hbase hfew hline hs hplain
end
theorem ja.get2:∀ {l:List α}{l':List β}{i:Nat}{b:β},ja F l l'->l'[i]?=zn b->∃ a,l[i]?=zn a/\F a b
 |_,_,_,_,.nil,e=>by simp at e
 |_,_,0,_,.cons r _,e=>by simp at e;subst e;exact⟨_,rfl,r⟩
 |_,_,i+1,b,.cons _ t,e=>by
  obtain⟨a,h1,h2⟩:=ja.get2 (i:=i) (b:=b) t (by simpa using e);exact⟨a,by simpa using h1,h2⟩
section
variable {X:Cx}{pins:List (ag×Obj)}{σ:St}{H:Hp}{s:ao}{d:ag}{kvs:List (List Key×V)}
theorem oO (I:Inv X pins σ H s) (e:Rd H d (.dT kvs)):(d==f9)=false/\kvs.length<=sizeLine/\∃ es ep,RawD s.heap d es ep/\es.size=kvs.length/\
  ∀(i:Nat) (y:mh),es[i]?=zn y->∃ p,kvs[i]?=zn p/\RelV p.2 y.val/\∃ a,y.key=.ref a/\H a=zn (.tup (p.1.map kV)):=by
 obtain⟨z,lo,xs,pr,o,es,ep,h1,h2,h3,h4,h5⟩:=(show ObjOk X.prog X.w H s.heap d (.dT kvs) from e.ok I.hok);have hl:es.size=kvs.length:=by
  have:=congrArg m9 h4
  rw[am,ca] at this;rw[this,<- jm pr]
 refine⟨lo,z,es,ep,⟨o,h1,h2,h3⟩,hl,fun i y hy=> ?_⟩;have hy':(xs.map (gz (b3 (aI X.prog X.w))))[i]?=zn y:=by rw[<- h4,fy];exact hy
 rw[bg] at hy';obtain⟨q,q1,q2⟩:=aF hy';obtain⟨p,p1,p2,p3,p4⟩:=ja.get2 pr q1;subst q2;exact⟨p,p1,p4,q.2.1,rfl,p3⟩
end
noncomputable def LF (v d:ag):HO:=.ext fun h=>h.IsValuesView v d
section
variable {X:Cx}{cls exC:Nat->ag}{E:XE}{e a b c o i value:b0}{es rest:List b0}{fa fb fc fo fi fv:OG D}{fl:OG (List D)}{ft ft':OG Bool}{pos p apos pos' cpos:Pos}{x m:Str}{st:c9}
theorem DT:MtR X "dict.values" fun x xs H Q=>∃ d kvs,x=.ref d/\xs=[]/\H d=zn (.dT kvs)/\∀ p,H p=zo->Q (.ref p) (upd H p (LF p d)):=by
 intro pins s σ H x xs v us Q I rx rs h;obtain⟨d,kvs,rfl,rfl,hd,q⟩:=h;cases rx;cases rs;obtain⟨lo,_,es,ep,r,_,_⟩:=oO I (.inl hd);refine BC lo r ?_;have e1:(s.heap.push { cls:=.type "dict_values",data:=.fields #[.ref d] }).get? s.heap.objs.size=zn { cls:=.type "dict_values",data:=.fields #[.ref d] }:=br _ rfl;refine⟨.ref _,_,I.laid (t':=s.toks) (fun b u q=>aq _ q) (bp _) ?_,rfl,q _ (I.hok.fresh (bp _))⟩;exact⟨⟨_,e1,rfl,rfl⟩,⟨_,e1⟩,fun h1 h2 z k=>let ⟨o,y1,y2⟩:=z;⟨o,k o y1,y2⟩⟩
theorem sI {a:ag}{c:Nat} (r:Vals xs vs) (hz:xs.length<=sizeLine) (e:h.get? a=zn (d8 "list" vs.toArray c)):ObjOk P w H h a (.lst xs):=⟨hz,vs,c,r,e⟩
theorem CD (hl:vs.length=xs.length) (h:∀(j:Nat) (v:af),vs[j]?=zn v->∃ x,xs[j]?=zn x/\RelV x v):Vals xs vs:=by
 induction vs generalizing xs with
 |nil=>
  cases xs with
  |nil=>exact .nil
  |cons _ _=>cases hl
 |cons v vs ih=>
  cases xs with
  |nil=>cases hl
  |cons x xs=>
   obtain⟨y,e,r⟩:=h 0 v rfl;simp at e;subst e;exact .cons r (ih (by simpa using hl) fun j u hu=>by simpa using h (j+1) u (by simpa using hu))
theorem wQ (hc:X.calm=true):CallR X (.builtin "sorted") (fun xs H Q=>∃ v d kvs,xs=[.ref v]/\H v=zn (LF v d)/\H d=zn (.dT kvs)/\kvs.length<2/\∀ l,H l=zo->Q (.ref l) (upd H l (.lst (kvs.map (·.2))))):=by
 intro pins s σ H xs us Q I r h;obtain⟨v,d,kvs,rfl,hv,hd,hl,q⟩:=h;obtain⟨u,rfl,rx⟩:=jR r;cases rx;obtain⟨lo,hz,es,ep,rd,sz,it⟩:=oO I (.inl hd);have vw:s.heap.IsValuesView v d:=(show ObjOk X.prog X.w H s.heap v (LF v d) from I.hok v _ hv).1;refine mX (qB (d:=d) (es:=es) (ep:=ep)) (I.ok.hd hc) ⟨vw,rd⟩ (by rw[sz];exact hl) fun h' tk vs a c kp na hlen hP ha=> ?_;have rv:Vals (kvs.map (·.2)) vs:=CD (by rw[hlen,sz,am]) fun j w hw=>by
  obtain⟨y,y1,y2⟩:=hP j w hw;obtain⟨p,p1,p2,_⟩:=it j y y1;exact⟨p.2,by rw[bg,p1];rfl,by rw[y2];exact p2⟩
 obtain⟨hn,I'⟩:=I.laidN (t':=tk) kp na (sI (H:=upd H a (.lst (kvs.map (·.2)))) rv (by rw[am];exact hz) ha);exact⟨.ref a,_,I',rfl,q a hn⟩
end
section
variable {X:Cx}{pins:List (ag×Obj)}{σ:St}{H:Hp}{s:ao}{d:ag}{kvs:List (List Key×V)}{o:Obj}
theorem AQ (x:HOk P w H h) (hd:H d=zn u) (h1:∀ y,u≠ .own y) (h2:∀ ys,u≠ .tup ys) (new:ObjOk P w (upd H d u') h d u'):HOk P w (upd H d u') h:=fun b v e=>by
 by_cases hb:b=d
 ·subst hb;rw[aJ] at e;cases e;exact new
 ·rw[aE hb] at e;exact(x b v e).stay (fun c q _ z=>z) (fun c q=>by rw[aE (fun z=>by rw[z,hd] at q;exact h1 _ (ce q))];exact q) fun c xs q=>by rw[aE (fun z=>by rw[z,hd] at q;exact h2 _ (ce q))];exact q
theorem AH (x:ObjOk P w H h b v) (hd:H d=zn u) (h1:∀ y,u≠ .own y) (h2:∀ ys,u≠ .tup ys):ObjOk P w (upd H d u') h b v:=
 x.stay (fun c q _ z=>z) (fun c q=>by rw[aE (fun z=>by rw[z,hd] at q;exact h1 _ (ce q))];exact q) fun c xs q=>by rw[aE (fun z=>by rw[z,hd] at q;exact h2 _ (ce q))];exact q
theorem _root_.L2.Inv.frozen (I:Inv X pins σ H s) (hd:H d=zn (.dT kvs)) (ho:s.heap.get? d=zn o):Inv X pins σ (upd H d (.frz o (.dT kvs))) s:=by
 have nn:∀ b,H b=zo->upd H d (.frz o (.dT kvs)) b=zo:=fun b e=>by rw[aE (fun z=>by rw[z,hd] at e;cases e)];exact e
 refine⟨I.ok,I.os,I.bare,⟨I.base.keep,I.base.slot,fun b u e n x=>nn b (I.base.free b u e n x),I.base.there,fun b xs e=> ?_,fun b u v e=> ?_,fun b ps e=> ?_⟩,I.loc,I.cell,nn _ I.free,fun x c e=>nn _ (I.freeC x c e),fun p hp=> ?_,AQ I.hok hd (fun _ z=>nomatch z) (fun _ z=>nomatch z) ⟨ho,AH (I.hok d _ hd) hd (fun _ z=>nomatch z) (fun _ z=>nomatch z)⟩,I.len⟩
 ·have z:=I.base.tups b xs e;rw[aE (fun q=>by rw[q,hd] at z;cases z)];exact z
 ·have z:=I.base.frzs b u v e;rw[aE (fun q=>by rw[q,hd] at z;cases z)];exact z
 ·obtain⟨m,z⟩:=I.base.tbls b ps e;exact⟨m,by rw[aE (fun q=>by rw[q,hd] at z;cases z)];exact z⟩
 ·obtain⟨z1,z2,z3⟩:=I.pin p hp;exact⟨z1,nn _ z2,z3⟩
theorem _root_.L2.Inv.thawed (I:Inv X pins σ H s) (hd:H d=zn (.frz o (.dT kvs))) (hn:∀ o u,X.H₀ d≠zn (.frz o u)):Inv X pins σ (upd H d (.dT kvs)) s:=by
 have nn:∀ b,H b=zo->upd H d (.dT kvs) b=zo:=fun b e=>by rw[aE (fun z=>by rw[z,hd] at e;cases e)];exact e
 refine⟨I.ok,I.os,I.bare,⟨I.base.keep,I.base.slot,fun b u e n x=>nn b (I.base.free b u e n x),I.base.there,fun b xs e=> ?_,fun b u v e=> ?_,fun b ps e=> ?_⟩,I.loc,I.cell,nn _ I.free,fun x c e=>nn _ (I.freeC x c e),fun p hp=> ?_,AQ I.hok hd (fun _ z=>nomatch z) (fun _ z=>nomatch z) (AH (show ObjOk X.prog X.w H s.heap d (.dT kvs) from(I.hok d _ hd).2) hd (fun _ z=>nomatch z) (fun _ z=>nomatch z)),I.len⟩
 ·have z:=I.base.tups b xs e;rw[aE (fun q=>by rw[q,hd] at z;cases z)];exact z
 ·have z:=I.base.frzs b u v e;rw[aE (fun q=>hn u v (by rw[<- q];exact e))];exact z
 ·obtain⟨m,z⟩:=I.base.tbls b ps e;exact⟨m,by rw[aE (fun q=>by rw[q,hd] at z;cases z)];exact z⟩
 ·obtain⟨z1,z2,z3⟩:=I.pin p hp;exact⟨z1,nn _ z2,z3⟩
end
noncomputable def Itk (d:ag) (o:Obj) (kvs:List (List Key×V)):It:=
 ⟨fun i H=>H d=zn (.frz o (.dT kvs))/\i<kvs.length,fun i H x H'=>H'=H/\∃ b p,x=.ref b/\kvs[i]?=zn p/\H b=zn (.tup (p.1.map kV)),fun i H=>H d=zn (.frz o (.dT kvs))/\kvs.length<=i⟩
theorem CK {K:aa} (d it:ag) (o:Obj) (kvs:List (List Key×V)) (es:Array mh) (ep:Nat) (hod:o.data=.dict es ep) (hsz:es.size=kvs.length):LL P w K tg (Itk d o kvs) [it] it (fun i h=>h.IsKeyIter it d i es.size ep) where
 mem:=by simp
 obj:=fun i h st b hb=>by
  have e:b=it:=by simpa using hb
  subst e;obtain⟨o,e,c,d⟩:=st;exact⟨o,e,fun v z=>by rw[d] at z;cases z⟩
 keep:=fun i h h' st k=>let ⟨o,e,z⟩:=st;⟨o,k it (by simp) o e,z⟩
 item:=by
  intro X hP hw hK hc i pins s σ H E I hf st hg;subst hP hw hK;obtain⟨hd,hi⟩:=hg;obtain⟨f0,f1,f2,f3,f4,f5⟩:=hf it (by simp);obtain⟨lo,_,es',ep',⟨o',r1,r2,r3⟩,sz,its⟩:=oO I (.inr ⟨o,hd⟩);have ho:s.heap.get? d=zn o:=(I.hok d _ hd).1;rw[ho] at r1;cases r1;rw[hod] at r3;cases r3;have hi':i<es.size:=by rw[hsz];exact hi
  obtain⟨p,p1,_,a,p2,p3⟩:=its i es[i] (by simp[hi']);refine vA (e:=es[i]) st ⟨o,ho,r2,hod⟩ (by simp[hi']) fun h' st' sb=> ?_;have I1:Inv X pins σ H { s with heap:=h' }:=I.turned (t':=s.toks) (fun b o hb e=>(sb.2 b hb).trans e) f0 f1 f3 f4 f5;obtain⟨oi,e1,c1,d1⟩:=id st';exact⟨_,rfl,KO (s:={ s with heap:=h' }) e1 c1 d1 (by decide) ⟨.ref a,H,I1,p2,⟨rfl,a,p,rfl,p1,p3⟩,st',fun b hb=>(hf b hb).1⟩⟩
 done:=by
  intro X hP hw hK hc i pins s σ H E I hf st hg;subst hP hw hK;obtain⟨hd,hi⟩:=hg;obtain⟨f0,f1,f2,f3,f4,f5⟩:=hf it (by simp);obtain⟨lo,_,es',ep',⟨o',r1,r2,r3⟩,sz,its⟩:=oO I (.inr ⟨o,hd⟩);have ho:s.heap.get? d=zn o:=(I.hok d _ hd).1;rw[ho] at r1;cases r1;exact AA (I.ok.hd hc) st ⟨o,ho,r2,hod⟩ (by rw[hsz];exact hi) fun h' eb=>⟨rfl,I.turned (t':=s.toks) (fun b o hb e=>eb b o hb e) f0 f1 f3 f4 f5⟩
 self:=fun _ _ _ _ _ st h=>vx st h
def NR (H₀:Hp) (to:TE):TI:=fun σ H R=>to σ H fun x H1=>∃ d kvs,x=.ref d/\H1 d=zn (.dT kvs)/\∀ o,(∀ o' u,H₀ d≠zn (.frz o' u))->R (Itk d o kvs) (upd H1 d (.frz o (.dT kvs)))
section
variable {X:Cx}{cls exC:Nat->ag}{E:XE}{e a b c o i value tg iter:b0}{es rest:List b0}{fa fb fc fo fi fv:OG D}{fl:OG (List D)}{ft ft':OG Bool}{pos p apos pos' cpos:Pos}{x m:Str}{st:c9}{body:List c9}{F:OS}
theorem Ju (ho:PE X iter to):PI X tg iter (NR X.H₀ to):=by
 intro pins s σ H R I h;refine thn (ho pins s σ H _ I h) fun v s1 ⟨x,H1,I1,rx,d,kvs,ex,hd,q⟩=> ?_;subst ex;cases rx;obtain⟨lo,_,es,ep,⟨o,r1,r2,r3⟩,sz,its⟩:=oO I1 (.inl hd);have nf:∀ o' u,X.H₀ d≠zn (.frz o' u):=fun o' u z=>by
  have:=I1.base.frzs d o' u z
  rw[hd] at this;cases this
 have I2:=I1.frozen hd r1;refine vB lo ⟨o,r1,r2,r3⟩ ?_;have nd:d≠s1.heap.objs.size:=cf (bj r1);have hn:upd H1 d (.frz o (.dT kvs)) s1.heap.objs.size=zo:=by rw[aE (cw nd)];exact I1.hok.fresh (bp _)
 refine⟨s1.heap.objs.size,[s1.heap.objs.size],_,Itk d o kvs,_,rfl,I2.kept (t':=s1.toks) (fun b u e=>aq _ e),CK d _ o kvs es ep r3 sz,⟨_,br _ rfl,rfl,rfl⟩,fun b hb=> ?_,q o nf⟩;have e:b=s1.heap.objs.size:=by simpa using hb
 subst e;exact(I1.fpOk (bp _) hn)
noncomputable def Lo (H₀:Hp) (D:Bt):Bt:={ nx:=fun σ H=>∃ d o kvs,H d=zn (.frz o (.dT kvs))/\(∀ o' u,H₀ d≠zn (.frz o' u))/\D.nx σ (upd H d (.dT kvs)),rt:=fun _ _=>False }
theorem Jp (hp:PassesOwn (model X.prog X.w) X.A X.env X.xe) (hc:X.calm=true) (ho:PE X iter to) (hg:PG X tg g) (hb:PSs X body tb) (hs:∀ x,g7 iter X.env x=pure x:=by intro _;rfl):
  PS X (.For tg iter body [] pos) (fun D σ H=>Pb (NR X.H₀ to) g tb (Lo X.H₀ D) σ H):=fun pins s σ H D I h=>by
 refine thn (Iw (pos:=pos) hp hc (Ju ho) hg hb hs pins s σ H (Lo X.H₀ D) I h) fun f s' z=> ?_;cases f with
 |next=>
  obtain⟨σ',H',I',d,o,kvs,h1,h2,h3⟩:=z;exact⟨σ',_,I'.thawed h1 h2,h3⟩
 |brk=>obtain⟨_,_,_,q⟩:=z;exact q.elim
 |cont=>obtain⟨_,_,_,q⟩:=z;exact q.elim
 |ret u=>obtain⟨_,_,_,_,_,q⟩:=z;exact q.elim
noncomputable def bE (k:List Key):D:=.tup (k.map ofK)
noncomputable def qE:List (List Key×D)->List (List Key×D)->Bool
 |[],[]=>true
 |a::as,b::bs=>decide (a.1=b.1)&&eU a.2 b.2&&qE as bs
 |_,_=>false
theorem uX:∀ {a b:List (List Key×D)},qE a b=true->a=b
 |[],[],_=>rfl
 |[],_::_,h=>nomatch h
 |_::_,[],h=>nomatch h
 |a::as,b::bs,h=>by
  simp only[qE,bt,decide_eq_true_eq] at h;rw[uX h.2,show a=b from Prod.ext h.1.1 (Av _ _ h.1.2)]
noncomputable def vV (n:Nat) (kvs:List (List Key×D)) (ω:Om):Bool:=match ω[n]? with
 |some (.dz k)=>qE k kvs
 |_=>false
theorem Hr (h:vV n kvs ω=true):ω[n]?=zn (.dz kvs):=by
 unfold vV at h;split at h
 ·rename_i k e
  rw[uX h] at e;exact e
 ·cases h
noncomputable def Ce (ω:Om) (d:D):Option (Nat×List (List Key×D)):=match d with
 |.obj n=>match ω[n]? with
  |some (.dt kvs)=>zn (n,kvs)
  |_=>zo
 |_=>zo
theorem EO (h:Ce ω d=zn (n,kvs)):d=.obj n/\ω[n]?=zn (.dt kvs):=by
 unfold Ce at h;split at h
 ·split at h
  ·cases h;exact⟨rfl,‹_›⟩
  ·cases h
 ·cases h
noncomputable def Ji (fo:OG D) (bd:BR) (F:OS):OS:=oX fo fun d ρ ω=>(Ce ω d).bind fun p=>match cH bd (vV p.1 p.2) F (p.2.map fun kv=>bE kv.1) ρ (ω.set p.1 (.dz p.2)) with
 |some (.nx ρ',ω')=>if vV p.1 p.2 ω'=true then zn (.nx ρ',ω'.set p.1 (.dt p.2)) else zo
 |_=>zo
theorem NM {K:aa} (k:Key):Rep K ok H (kV k) (ofK k):=by
 cases k with
 |inl i=>exact .int i
 |inr x=>exact .str x
theorem yH {K:aa}:∀ ks:List Key,Reps K ok H (ks.map kV) (ks.map ofK)
 |[]=>.nil
 |k::ks=>.cons (NM k) (yH ks)
end
section
variable {X:Cx}{cls exC:Nat->ag}{E:XE}{e a b c o i value tg iter:b0}{es rest:List b0}{fa fb fc fo fi fv:OG D}{fl:OG (List D)}{ft ft':OG Bool}{pos p apos pos' cpos:Pos}{x m:Str}{st:c9}{body:List c9}{F:OS}
noncomputable def oIA (g:List D->Option (List D)) (f:OG (List D)):OI':=oB f fun ds _ ω=>oR (pu ((g ds).map fun xs=>(xs,bT)) ω)
theorem Dx (hg:Gl X "range") (hm:X.mg "range"=zo) (ha:OA X cls E [a] fl) (hs:ar [a] X.env=[(false,eval a X.env)]:=by rfl):OI X cls E tg (.Call (.Name "range" p) [a] [] pos) (oIA oE fl):=
 PI.imp (Dp hg hm ha hs) fun σ H R ⟨ok,ρ,ω,r,ω',P,e,q⟩=>by
  refine tOA.then_ P e (fun c z=>by subst z;exact q) fun ds ω1 vs ok1 H1 e1 n1 P1 r1=> ?_;obtain⟨⟨dz,chk⟩,e3,rfl⟩:=bX e1;obtain⟨ue3,rfl⟩:=cJ e3;obtain⟨xs,e4,e5⟩:=aF ue3;cases e5;unfold oE at e4;split at e4
  ·obtain⟨⟨hl,hh⟩,rfl⟩:=bA e4;obtain⟨v,rfl,rv⟩:=r1.one_inv;obtain rfl:=rv.int_inv;exact⟨_,rfl,by omega,by omega,q _ ok1 H1 n1 itD_range.toO⟩
  ·cases e4
end
noncomputable def iG (K:aa) (ns:List Str) (n:Nat):ag:=match cy K b8 (ns.getD n "") with
 |some (zn (.ref a))=>a
 |_=>0
theorem mI {K:aa} (hx:ns.getD n ""=x) (h:cy K b8 x=zn (zn (.ref a))):iG K ns n=a:=by
 unfold iG;rw[hx,h]
structure rS (P:cj) (w:cz) (K:aa) (mg:Str->Option af) (base:cm) (cls exC:Nat->ag) (k:Nat) (x:Str) (ps:List Str) (φ:eC):Prop where
 ex:∃ f fd,pX P w K mg base (CX1 P w exC) k f fd ps (spO cls exC K φ)/\mg x=zn (.ref f)/\hV K (.ref f)=true/\Binds K fd ps []
structure pH (P:cj) (w:cz) (K:aa) (mg:Str->Option af) (base:cm) (cls exC:Nat->ag) (k c:Nat) (m:Str) (ps:List Str) (φ:eC):Prop where
 ex:∃ f fd,pX P w K mg base (CX1 P w exC) k f fd ps (spO cls exC K φ)/\Iu K (cls c) m f/\Binds K fd ps []
 cl:Cls K (cls c)
structure OP (P:cj) (w:cz) (K:aa) (mg:Str->Option af) (base:cm) (cls exC:Nat->ag) (k c:Nat) (x:Str) (ps:List Str) (φ:eC):Prop where
 ex:∃ f fd,pX P w K mg base (CX1 P w exC) k f fd ps (spO cls exC K φ)/\Mk K (cls c) f/\Binds K fd ps []
 at_:mg x=zn (.ref (cls c))
section
variable {X:Cx}{cls exC:Nat->ag}{E:XE}{e a b c o i value:b0}{es:List b0}{fa fb fo fi fv:OG D}{fl:OG (List D)}{pos p apos pos':Pos}{x m:Str}{cn k:Nat}{ps:List Str}{φ:eC}
theorem GT (F:rS X.prog X.w X.K X.mg X.base cls exC k x ps φ) (hr:Room k X.A) (hg:Gl X x) (hx:Pas X exC E) (ha:OA X cls E (e::es) fl) (hdb:(x==("__debug__":Str))=false:=by decide)
  (he:ar (e::es) X.env=(false,eval e X.env)::ar es X.env:=by rfl) (hpl:(dq pos (ar es X.env)).any (·.1)=false:=by rfl):OE X cls E (.Call (.Name x p) (e::es) [] pos) (bG φ fl):=by
 obtain⟨f,fd,h1,h2,h3,h4⟩:=F.ex;exact Kk h1 hr hg h2 h3 h4 hx ha hdb he hpl
theorem Ka (F:pH X.prog X.w X.K X.mg X.base cls exC k cn m ps φ) (hr:Room k X.A) (hx:Pas X exC E) (ho:OE X cls E o fo) (ha:OA X cls E (e::es) fl)
  (hst:ar (e::es) X.env=(false,eval e X.env)::ar es X.env:=by rfl) (hpl:(dq pos (ar es X.env)).any (·.1)=false:=by rfl)
  (ht:eval (.Call (.Attribute o m apos) (e::es) [] pos) X.env=(do
   let ov <- eval o X.env
   o7 apos.atName
   let (f,first) <- holding [ov] (oj ov m pl)
   t8 pos f first (dq pos (ar (e::es) X.env)) (jt pos (ig [] X.env))):=by rfl):
  OE X cls E (.Call (.Attribute o m apos) (e::es) [] pos) (bB cn m φ fo fl):=by
 obtain⟨f,fd,h1,h2,h4⟩:=F.ex;exact JZ (pl:=pl) ho F.cl h2 h1 hr h4 hx ha hst hpl ht
theorem GR (F:pH X.prog X.w X.K X.mg X.base cls exC k cn m ps φ) (hr:Room k X.A) (hx:Pas X exC E) (ho:OE X cls E o fo)
  (ht:eval (.Call (.Attribute o m apos) [] [] pos) X.env=(do
   let ov <- eval o X.env
   o7 apos.atName
   let (f,first) <- holding [ov] (oj ov m pl)
   t8 pos f first (dq pos (ar [] X.env)) (jt pos (ig [] X.env))):=by rfl):
  OE X cls E (.Call (.Attribute o m apos) [] [] pos) (bB cn m φ fo aK):=by
 obtain⟨f,fd,h1,h2,h4⟩:=F.ex;exact GQ (pl:=pl) ho F.cl h2 h1 hr h4 hx ht
theorem Kf (F:OP X.prog X.w X.K X.mg X.base cls exC k cn x ps φ) (hr:Room (k+1) X.A) (hg:Gl X x) (hx:Pas X exC E) (ha:OA X cls E (e::es) fl) (hdb:(x==("__debug__":Str))=false:=by decide)
  (he:ar (e::es) X.env=(false,eval e X.env)::ar es X.env:=by rfl) (hpl:(dq pos (ar es X.env)).any (·.1)=false:=by rfl):OE X cls E (.Call (.Name x p) (e::es) [] pos) (pK cn φ fl):=by
 obtain⟨f,fd,h1,h2,h3⟩:=F.ex;exact Ke h2 h1 hr hg F.at_ h3 hx ha hdb he hpl
end
theorem boot.dict:dy "dict"=zn (.type "dict"):=by decide+kernel
theorem Kt {K:aa}{ns:List Int} (h:φ [.scr (ns.map D.int)] []=zn (.ok (.bl true),ω')) (hS:SqL K H a (ns.map V.int)):spO cls exC K φ [.ref a] H (fun v _=>v=.bl true) fun _ _ _=>False:=by
 refine⟨Okk.all,[],[.scr (ns.map D.int)],.ok (.bl true),ω',⟨fun _ _=>trivial,fun _ _ _=>trivial⟩,⟨fun n ob e=>by simp at e,(fun _ _ e=>nomatch e),(fun _ _ _ e=>nomatch e),(fun _ _ e=>nomatch e)⟩,.cons (.scr ?_ (Reps.ints ns)) .nil,h,fun v ok' H' _ r=>r.bl_inv⟩;rcases hS with h|h
 ·exact .inl ⟨trivial,h⟩
 ·exact .inr h
theorem law_walkO {l:yu}{K:Params->aa} (hn:l.most=zn 63) (hdf:d.params.defaults=[]) (hr:Room k qw)
  (hY:∀(w:cz) (h:cm),YP w h->(K w.params).In h) (hφ:∀ ns:List Int,ns.length<=63->∃ ω',φ [.scr (ns.map D.int)] []=zn (.ok (.bl true),ω'))
  (F:∀(w:cz) (mg:Str->Option af) (fa:ag) (h:cm),(K w.params).In h->h.Ns b8 mg->mg d.name=zn (.ref fa)->
   ∃ fd:j7,(∀(s:ao) (u:af),u8 s fd ⟨[u],[]⟩ [(x,u)])/\∀ base:cm,(K w.params).In base->base.Ns b8 mg->pX l.prog w (K w.params) mg base (CX1 l.prog w (iG (K w.params) es)) k fa fd [x] (spO (iG (K w.params) cs) (iG (K w.params) es) (K w.params) φ)):
  ze q loose XP YP l.row.toRowW d [] (fun f vs=>yt f vs):=
 L2.walk_of (n:=63) (k:=k) (x:=x) (CX:=fun w=>CX1 l.prog w (iG (K w.params) es)) (sp:=fun w=>spO (iG (K w.params) cs) (iG (K w.params) es) (K w.params) φ) hn (by decide) hdf hr hY F (fun _ _ a ns hl _ hS=>let ⟨_,h⟩:=hφ ns hl;Kt h hS) fun _ _ _ _ _ ⟨_,_,_,_,_,_,_,_,_,_,z⟩=>z
section
variable {α β:Type}{f h:OG D}{fl:OG (List D)}{ρ:Rho}{ω ω1 ω2 ω3:Om}{a b d:D}{ds:List D}{F G:OS}
theorem aY {f:OG α}{g:α->OG β} (e:f ρ ω=zn (.ok x,ω1)):oB f g ρ ω=g x ρ ω1:=by unfold oB;rw[e]
theorem bW {f:OG α} (e:f ρ ω=zn (.ok x,ω1)):oX f g ρ ω=g x ρ ω1:=by unfold oX;rw[e]
theorem PK {f:DF} (e:f ρ=zn d):oP f ρ ω=zn (.ok d,ω):=by unfold oP;rw[e];rfl
theorem aB (e:ρ[i]?=zn (zn d)):oP (Fp i) ρ ω=zn (.ok d,ω):=PK (by unfold Fp;rw[e];rfl)
theorem aQ:oP (dC d) ρ ω=zn (.ok d,ω):=rfl
theorem gO (e1:f ρ ω=zn (.ok a,ω1)) (e2:h ρ ω1=zn (.ok b,ω2)) (e3:g ω2 a b=zn (d,ω3)):o2 g f h ρ ω=zn (.ok d,ω3):=by
 unfold o2;rw[aY e1,aY e2];show oR (g ω2 a b)=_;rw[e3];rfl
theorem fC (e1:f ρ ω=zn (.ok a,ω1)) (e2:h ρ ω1=zn (.ok b,ω2)) (e3:g a b=zn d):o2 (lf g) f h ρ ω=zn (.ok d,ω2):=gO e1 e2 (by show pu (g a b) ω2=_;rw[e3];rfl)
theorem aD:aK ρ ω=zn (.ok [],ω):=rfl
theorem aA (e1:f ρ ω=zn (.ok a,ω1)) (e2:fl ρ ω1=zn (.ok ds,ω2)):aC f fl ρ ω=zn (.ok (a::ds),ω2):=by
 unfold aC;rw[aY e1,aY e2]
theorem dH (e1:fl ρ ω=zn (.ok ds,ω1)) (e2:g ω1 ds=zn (d,ω2)):oL g fl ρ ω=zn (.ok d,ω2):=by
 unfold oL;rw[aY e1];show oR (g ω1 ds)=_;rw[e2];rfl
theorem aP (e1:fl ρ ω=zn (.ok ds,ω1)) (e2:φ ds ω1=zn (r,ω2)):bG φ fl ρ ω=zn (r,ω2):=by
 unfold bG;rw[aY e1];exact e2
theorem aN (e:f ρ ω=zn (.ok d,ω1)):aH (aU i f) G ρ ω=G (ρ.set i (zn d)) ω1:=by
 unfold aH aU;rw[bW e]
theorem bF (e:F ρ ω=zn (.nx ρ1,ω1)):aH F G ρ ω=G ρ1 ω1:=by
 unfold aH;rw[e]
theorem cN (e:f ρ ω=zn (.ok (.bl k),ω1)):dG f ρ ω=zn (.ok k,ω1):=by
 unfold dG;rw[aY e];rfl
theorem xP (e:t ρ ω=zn (.ok true,ω1)):dN t F G ρ ω=F ρ ω1:=by unfold dN;rw[bW e];rfl
theorem nE (e:t ρ ω=zn (.ok false,ω1)):dN t F G ρ ω=G ρ ω1:=by unfold dN;rw[bW e];rfl
theorem bC (e:f ρ ω=zn (.ok d,ω1)):aS f ρ ω=zn (.rt d,ω1):=by unfold aS;rw[bW e]
theorem aR (hl:ds.length=n) (e:G (cE N ds) ω=zn (.rt d,ω1)):eB n N G ds ω=zn (.ok d,ω1):=by
 unfold eB;rw[if_pos hl,e]
theorem NW (h: -1000000000000000000<j/\j<1000000000000000000):gM (.int i) (.int j)=zn (.int (i*j)):=by
 show(if _ then _ else _)=_
 rw[if_pos (.inr h)]
theorem NX (h:0<j):cC (.int i) (.int j)=zn (.int (i % j)):=by
 show(if _ then _ else _)=_
 rw[if_pos h]
end
section
variable {X:Cx}{cls exC:Nat->ag}{E:XE}{e a b c o i value tg iter:b0}{es rest:List b0}{fa fb fc fo fi fv:OG D}{fl:OG (List D)}{ft ft':OG Bool}{pos p apos pos' cpos:Pos}{x m:Str}{st:c9}{body:List c9}{F:OS}
theorem Nw.freeze {K:aa}{a:ag} (P:OkH ok H) (st:Stt cls K ok H ω) (e:ok.al n=zn a) (h:H a=zn (.dT vs)) (kv:KvR K ok H vs kvs):
  Nw cls K ok H ok (upd H a (.frz oo (.dT vs))) (ω.set n (.dz kvs)):=Nw.write P st e h fun dat=>⟨oo,vs,aJ,kv.mono dat fun _ _ z=>z⟩
theorem PQ {K:aa}{a:ag} (e:ok1.al n=zn a) (h:H1 a=zn (.frz oo (.dT vs))) (kv:KvR K ok1 H1 vs kvs):
  ItO cls K ok1 H1 (vV n kvs) (Itk a oo vs) (kvs.map fun kv=>bE kv.1):=by
 refine⟨fun i ok H ω nw _ hi=>⟨nw.ex.frz _ _ _ h,by rw[kv.length];simpa using hi⟩,fun i ok H ω x H' d nw _ y hd=> ?_,fun i ok H ω nw _ hi=>⟨nw.ex.frz _ _ _ h,by rw[kv.length];simpa using hi⟩⟩;obtain⟨rfl,b,p,rfl,hp,ht⟩:=y;refine⟨Same.refl _,?_⟩;have hk:=kv.keys;have e1:(vs.map (·.1))[i]?=zn p.1:=by rw[bg,hp];rfl
 rw[hk,bg] at e1;obtain⟨q,e2,e3⟩:=aF e1;rw[bg,e2] at hd;cases hd;show Rep K ok _ _ (bE q.1);rw[e3];exact .tup ⟨nw.okh.tp b _ ht,ht⟩ (yH p.1)
theorem Nw.thaw {K:aa}{a:ag} (st1:Stt cls K ok1 H1 ω1) (e:ok1.al n=zn a) (h:H1 a=zn (.dT vs)) (nw:Nw cls K ok1 (upd H1 a (.frz oo (.dT vs))) ok H ω) (hc:ω[n]?=zn (.dz kvs)):
  ∃ ws,H a=zn (.frz oo (.dT ws))/\ws=vs/\Nw cls K ok1 H1 ok (upd H a (.dT vs)) (ω.set n (.dt kvs)):=by
 have hf:H a=zn (.frz oo (.dT vs)):=nw.ex.frz _ _ _ aJ;have ea:=nw.ex.ids n a e;obtain⟨b,e1,o',vs',e2,kv⟩:=nw.st.cell n _ hc;rw[ea] at e1;cases e1;rw[hf] at e2;cases e2;have na:¬ ok1.p a:=st1.nok n a e;have na':¬ ok.p a:=nw.st.nok n a ea;have dat:∀ b o,ok.p b->H b=zn o->ok.p b/\upd H a (.dT vs) b=zn o:=fun b o k z=>⟨k,by rw[aE (show b≠a from fun w=>na' (w ▸ k))];exact z⟩;refine⟨vs,hf,rfl,⟨⟨fun b o k z=> ?_,nw.ex.ids,fun b o z w=> ?_,fun m b z=> ?_,fun b z=> ?_,fun b k=> ?_,fun b x u z=> ?_⟩,⟨fun b z=> ?_,fun b xs z=> ?_⟩,fun m ob z=> ?_,fun m b z=>by rw[du];exact nw.st.dom m b z,nw.st.inj,nw.st.nok⟩⟩
 ·have hb:b≠a:=fun w=>na (w ▸ k)
  have:=nw.ex.dat b o k (by rw[aE hb];exact z)
  exact⟨this.1,by rw[aE hb];exact this.2⟩
 ·have hb:b≠a:=fun q=>w n (q ▸ e);rw[aE hb];exact nw.ex.frm b o (by rw[aE hb];exact z) w
 ·rcases nw.ex.new m b z with w|w
  ·exact .inl w
  ·by_cases hb:b=a
   ·rw[hb,aJ] at w;cases w
   ·rw[aE hb] at w;exact .inr w
 ·by_cases hb:b=a
  ·rw[hb,aJ] at z;cases z
  ·rw[aE hb] at z
   have:=nw.ex.keep b z
   rw[aE hb] at this;exact this
 ·rcases nw.ex.sub b k with w|w
  ·exact .inl w
  ·by_cases hb:b=a
   ·rw[hb,aJ] at w;cases w
   ·rw[aE hb] at w;exact .inr w
 ·have hb:b≠a:=fun w=>by rw[w,h] at z;cases z
  rw[aE hb];exact nw.ex.frz b x u (by rw[aE hb];exact z)
 ·by_cases hb:b=a
  ·rw[hb,aJ] at z;cases z
  ·rw[aE hb] at z;exact nw.okh b z
 ·by_cases hb:b=a
  ·rw[hb,aJ] at z;cases z
  ·rw[aE hb] at z;exact nw.okh.tp b xs z
 ·rcases qD z with⟨rfl,rfl⟩|⟨hm,z⟩
  ·exact⟨a,ea,vs,aJ,kv.mono dat fun _ _ z=>z⟩
  ·obtain⟨b,e1,c1⟩:=nw.st.cell m ob z;refine⟨b,e1,c1.mono dat (fun _ _ z=>z) fun u q=> ?_⟩;rw[aE (show b≠a from fun w=>hm (nw.st.inj m n a (w ▸ e1) ea))];exact q
theorem JH (hc:X.calm=true) (ho:OE X.nox cls EF iter fo) (hg:PG X.nox tg (gR X.K bd)) (hb:OSs X.nox cls EF body F) (hs:∀ x,g7 iter X.env x=pure x:=by intro _;rfl):
  OSt X cls E (.For tg iter body [] pos) (sNx (Ji fo bd F)):=IE ((Jp (X:=X.nox) yw hc ho hg hb hs).imp fun D σ H ⟨ok,ρ,ω,oo,ω',P,e,q⟩=>by
 refine tO.thenS P e q fun d ω1 v ok1 H1 e1 n1 P1 r1 q1=> ?_;obtain⟨⟨n,kvs⟩,hd,e2⟩:=bind_some e1;obtain⟨rfl,e3⟩:=EO hd;obtain⟨a,rfl,e4,vs,e5,kv⟩:=P1.st.ref r1 e3;refine⟨a,vs,rfl,e5,fun o nf=> ?_⟩;have nf1:Nw cls X.K ok1 H1 ok1 (upd H1 a (.frz o (.dT vs))) (ω1.set n (.dz kvs)):=.freeze P1.okh P1.st e4 e5 kv;dsimp only at e2;split at e2
 ·rename_i ρ' ω2 hF
  obtain⟨hz,e6⟩:=bA e2;cases e6;refine Ba (D:=Lo X.H₀ D) (PQ e4 aJ (kv.mono nf1.ex.dat nf1.ex.ids)) (P1.nw nf1) hF fun ok2 H2 σ2 nw2 env2 len2=> ?_;obtain⟨ws,w1,rfl,nw3⟩:=Nw.thaw P1.st e4 e5 nw2 (Hr hz);refine⟨a,o,ws,w1,nf,q1 ok2 _ σ2 nw3 ?_ len2⟩;intro j dj ej;obtain⟨u,z1,z2⟩:=env2 j dj ej;refine⟨u,z1,z2.mono (fun b u' k z=>⟨k,?_⟩) fun _ _ z=>z⟩;rw[aE (show b≠a from fun w=>nw2.st.nok n a (nw2.ex.ids n a e4) (w ▸ k))];exact z
 ·cases e2)
end
end L2.MB
end
section
namespace L2.MB
open PySem PySem.Spec PyProof.Rows PySem.Builtin
theorem nodup_ix {xs:List (α×β)} (h:(xs.map (·.1)).Nodup) {i j:Nat} (h1:xs[i]?=zn (k,p)) (h2:xs[j]?=zn (k,q)):i=j:=by
 have a1:(xs.map (·.1))[i]?=zn k:=by rw[bg,h1];rfl
 have a2:(xs.map (·.1))[j]?=zn k:=by rw[bg,h2];rfl
 exact(xw (bx.mp a1).1 h).mp (a1.trans a2.symm)
theorem Dk (d b:ag):MeetsIn P w («dict.pop» { pos:=[.ref d,.ref b] }) fun A R s=>
  A.units+1<fj/\∃(xs:List (List Key×ag×af)) (j:Nat) (p:ag×af),i7 (b3 (aI P w)) s.heap d xs/\xs.length<=sizeLine/\(b3 (aI P w)).is s.heap k b/\xs[j]?=zn (k,p)/\
   ∀ h' t,i7 (b3 (aI P w)) h' d (xs.eraseIdx j)->d4 d s.heap h'->R (.ok (.ret p.2)) { s with heap:=h',toks:=t }:=by
 rintro A R s ⟨hu,xs,j,p,dd,hz,hk,hj,hR⟩;obtain⟨o,es,ep,h1,h2,h3,h4,h5,h6⟩:=dd;obtain⟨oc,od,odt,osl⟩:=o;obtain⟨q1,q2,q3⟩:=h2;dsimp only at q1 q2 q3 h3;subst q1 q2 q3 h3;have hne:es.isEmpty=false:=by
  have:es.toList≠[]:=by
   rw[h4];intro z;rw[List.map_eq_nil_iff] at z;rw[z] at hj;simp at hj
  cases q:es.isEmpty with
  |false=>rfl
  |true=>rw[pf] at q;rw[q] at this;exact absurd rfl this
 have hr:(b3 (aI P w)).room A.in1:=lq hu;have hes:es[j]?=zn (gz (b3 (aI P w)) (k,p)):=by
  rw[<- fy,h4,bg,hj];rfl
 unfold «dict.pop» Dict.keyAndDefault
 repeat (first|with_reducible refine HeapKind.pyHash (b3 (aI P w)) hr hk ?_|(with_reducible refine wl hr hk h1 rfl h4 h5 h6 (fun z=>absurd hj (z j p)) fun i q hi=> ?_)|wp_step)
 obtain rfl:=nodup_ix h6 hj hi;rw[hes]
 repeat (first|(with_reducible refine vy h1 rfl ?_ ?_ ?_)|wp_step)
 ·have sb:d4 d s.heap (s.heap.update d (uu fun x=>x.eraseIdxIfInBounds j)):=⟨p7 _ _ _,fun b hb=>dc _ _ (cw hb)⟩;refine hR _ _ ⟨_,es.eraseIdxIfInBounds j,ep+1,ee _ h1 ?_,⟨rfl,rfl,rfl⟩,rfl,?_,fun x hx=>(b3 (aI P w)).keeps (h5 x (List.mem_of_mem_eraseIdx hx)) h1 rfl sb,?_⟩ sb
  ·rfl
  ·have em:∀(l:List (List Key×ag×af)) (n:Nat),(l.eraseIdx n).map (gz (b3 (aI P w)))=(l.map (gz (b3 (aI P w)))).eraseIdx n:=fun l=>by
    induction l with
    |nil=>intro n;rfl
    |cons x r ih=>intro n;cases n with
     |zero=>rfl
     |succ n=>simp[ih n]
   rw[em,<- h4];unfold Array.eraseIdxIfInBounds;split
   ·simp
   ·rename_i hn
    rw[List.eraseIdx_of_length_le (by simpa using hn)]
  ·exact h6.sublist ((List.eraseIdx_sublist xs j).map _)
 ·have:=congrArg m9 h4
  rw[am,ca] at this;rw[this];exact hz
 ·have:=PySem.size_eraseIdxIfInBounds_le es j
  omega
theorem lN {α β:Type} [DecidableEq α] {k:α}{p:β}:∀ {xs:List (α×β)}{j:Nat},(xs.map (·.1)).Nodup->xs[j]?=zn (k,p)->xs.eraseIdx j=xs.filter fun x=>decide (x.1≠k)
 |[],j,_,h=>by simp at h
 |x::r,0,nd,h=>by
  have h':x=(k,p):=by simpa using h
  subst h';rw[bu,cx] at nd;rw[List.eraseIdx_cons_zero,f6 (by simp)]
  symm
  rw[wm];intro a ha
  have:a.1≠k:=fun z=>nd.1 (ay.mpr ⟨a,ha,z⟩)
  simpa using this
 |x::r,j+1,nd,h=>by
  rw[bu,cx] at nd;have h':r[j]?=zn (k,p):=by simpa using h
  have hm:k∈r.map (·.1):=ay.mpr ⟨_,fk h',rfl⟩;have hx:x.1≠k:=fun z=>nd.1 (z ▸ hm);rw[List.eraseIdx_cons_succ,f7 (by simpa using hx),lN nd.2 h']
theorem KT.drop (r:KT H kvs xs) (k:List Key):KT H (wH kvs k) (xs.filter fun x=>decide (x.1≠k)):=by
 induction r with
 |nil=>exact .nil
 |@cons p q ps qs h t ih=>
  unfold wH at ih ⊢
  by_cases e:p.1=k
  ·have e':q.1=k:=h.1.symm.trans e;rw[f6 (by simp[e]),f6 (by simp[e'])];exact ih
  ·have e':¬ q.1=k:=fun z=>e (h.1.trans z);rw[f7 (by simp[e]),f7 (by simp[e'])];exact .cons h ih
theorem Ik {k:List Key} (h:mr xs k=zn p):∃ j:Nat,xs[j]?=zn (k,p):=by
 unfold mr at h;obtain⟨q,e1,e2⟩:=aF h;have m:=tm e1;have e3:=yz e1;obtain⟨j,hj⟩:=ki m;refine⟨j,?_⟩;rw[hj]
 have:q.1=k:=by simpa using e3
 rw[<- this,<- e2]
section
variable {X:Cx}{pins:List (ag×Obj)}{σ:St}{H:Hp}{s:ao}{a b:ag}{kvs:List (List Key×V)}{k:List Key}{A:df}{E:af->ao->Prop}
theorem Ou (hu:A.units+1<fj) (I:Inv X pins σ H s) (e:H a=zn (.dT kvs)) (eb:H b=zn (.tup (k.map kV))) (l:uI kvs k=zn v)
  (h:∀ w' s',Inv X pins σ (upd H a (.dT (wH kvs k))) s'->RelV v w'->Q w' s'):au (model X.prog X.w) A (call (.builtin "dict.pop") [.ref a,.ref b]) Q E s:=by
 obtain⟨z,hd,xs,rel,dd⟩:=HZ I.hok e;obtain⟨w',hw,rw'⟩:=RelO.some_of (v:=v) (o:=(mr xs k).map (·.2)) (by rw[<- l];exact rel.val k);obtain⟨p,hp,hp2⟩:=ph.mp hw;obtain⟨j,hj⟩:=Ik hp;have hz:xs.length<=sizeLine:=by rw[<- jm rel];exact z
 have nd:(xs.map (·.1)).Nodup:=by obtain⟨_,_,_,_,_,_,_,_,q⟩:=dd;exact q
 refine xc vj dd.typeIs PySem.F.entry_dict_pop (PySem.F.args_dict_pop_2 _ _) (Dk (k:=k) a b) ⟨hu,xs,j,p,dd,hz,vR I.hok eb,hj,fun h' t dd' hs=>h p.2 _ ?_ (hp2 ▸ rw')⟩;rw[lN nd hj] at dd';obtain⟨q,es,ep,hq,h2,h3,h4,_,h5⟩:=dd';refine tH I (by rw[e];exact ib) hs ⟨q,hq⟩ ⟨cu (Ib kvs k) z,hd,_,KT.keeps (KT.drop rel k) fun c ys ec=> ?_,q,es,ep,hq,h2,h3,h4,h5⟩;rw[aE (Kp ec e (fun z=>nomatch z))];exact ec
def Mm:V->List V->Hp->VK->Prop:=fun x xs H Q=>∃ a b kvs k v,x=.ref a/\xs=[.ref b]/\H a=zn (.dT kvs)/\H b=zn (.tup (k.map kV))/\uI kvs k=zn v/\Q v (upd H a (.dT (wH kvs k)))
theorem Kr (hu:X.A.units+1<fj):MtR X "dict.pop" Mm:=by
 intro pins s σ H x xs v us Q I rx rs h;obtain⟨a,b,kvs,k,y,rfl,rfl,ha,hb,l,q⟩:=h;obtain⟨u,rfl,ru⟩:=jR rs;cases rx;cases ru;exact Ou hu I ha hb l fun w' s' I' r=>⟨y,_,I',r,q⟩
end
section
variable {X:Cx}{cls exC:Nat->ag}{E:XE}{e a b c o i value:b0}{es rest:List b0}{fa fb fc fo fi fv:OG D}{fl:OG (List D)}{ft ft':OG Bool}{pos p apos pos' cpos:Pos}{x m:Str}{st:c9}
noncomputable def BV (ω:Om) (d:D):Bool:=match cellOf ω d with
 |some (.dt _)=>true
 |_=>false
theorem El (h:BV ω d=true):∃ n kvs,d=.obj n/\ω[n]?=zn (.dt kvs):=by
 unfold BV at h;split at h
 ·obtain⟨n,rfl,e⟩:=cX ‹_›;exact⟨n,_,rfl,e⟩
 ·cases h
noncomputable def nL (g:Om->D->List D->Option (D×Om)) (fo:OG D) (fl:OG (List D)):OG D:=oB fo fun d ρ ω=>if BV ω d=true then oB fl (fun ds _ ω=>oR (g ω d ds)) ρ ω else zo
theorem Nu {id:String} (slot:Slot "dict" m id) (hty:typeOf (.builtin id)=pure (.type "method_descriptor")) (hm:MtR X id r) (F:Al cls X.K r g) (ho:OE X cls E o fo) (ha:OA X cls E (e::es) fl)
  (hbase:g9 o m X.env (eval o X.env)=eval o X.env:=by rfl)
  (hfew:((dq cpos (ar (e::es) X.env)).all (fun x=> !x.1)&&(jt cpos (ig [] X.env)).all (fun x=>x.1.isSome)
   &&decide ((e::es).length+([]:List jk).length+(if([]:List jk).isEmpty then 0 else 1)<30))=true:=by rfl)
  (hline:(apos.endLine==cpos.line)=true:=by rfl) (hs:ar (e::es) X.env=(false,eval e X.env)::ar es X.env:=by rfl) (hplain:(dq cpos (ar es X.env)).any (·.1)=false:=by rfl):
  OE X cls E (.Call (.Attribute o m apos) (e::es) [] cpos) (nL g fo fl):=
 (MJ uj slot hty hm ho ha hbase hfew hline hs hplain).imp fun σ H Q ⟨ok,ρ,ω,r,ω',P,e,q⟩=>by
  refine tO.then_ P e (fun c z=>by subst z;exact q) fun d ω1 v ok1 H1 e1 n1 P1 r1=> ?_;obtain⟨hi,e1⟩:=cV e1;obtain⟨n,ds0,rfl,e2⟩:=El hi;obtain⟨a,rfl,e4,xs,e5,rs⟩:=P1.st.ref r1 e2;refine⟨.inr (.inr (.inl ⟨rfl,.inr ⟨xs,e5⟩⟩)),?_⟩;refine tOA.then_ P1 e1 (fun c z=>by subst z;exact exR.nw q n1) fun ds ω2 us ok2 H2 e6 n2 P2 r2=> ?_;obtain⟨y,e7,rfl⟩:=bX e6;exact F ok2 H2 ω2 _ us _ ds y ω' Q P2.okh P2.st (r1.ex n2.ex) r2 e7 fun w ok3 H3 n3 r3=>q w ok3 H3 (n1.trans (n2.trans n3)) r3
noncomputable def EK (ω:Om) (d:D) (as:List D):Option (D×Om):=match d,as with
 |.obj n,[y]=>match ω[n]? with
  |some (.dt kvs)=>(CM y).bind fun k=>(gP kvs k).map fun v=>(v,ω.set n (.dt (dJ kvs k)))
  |_=>zo
 |_,_=>zo
theorem HN {K:aa}:Al cls K Mm EK:=fun ok H ω x xs a as d ω' Q h1 st ra rs e k=>by
 unfold EK at e;split at e
 ·rename_i n y
  split at e
  ·rename_i kvs hc
   obtain⟨ks,e8,e⟩:=bind_some e;obtain⟨v,e9,e10⟩:=aF e;cases e10;obtain⟨a1,rfl,e4,vs,e5,kv⟩:=st.ref ra hc;obtain⟨w,rfl,rw'⟩:=rs.one_inv;obtain⟨b,rfl,_,hb⟩:=toT'_rep e8 rw';obtain⟨u,l,ru⟩:=kv.val e9;refine⟨a1,b,vs,ks,u,rfl,rfl,e5,hb,l,?_⟩;have nw:=Nw.write (o:=.dT (wH vs ks)) (ob:=.dt (dJ kvs ks)) h1 st e4 e5 fun dat=>⟨_,aJ,(KvR.drop (k:=ks) kv).mono dat fun _ _ z=>z⟩;exact k _ ok _ nw (ru.ex nw.ex)
  ·cases e
 ·cases e
theorem JU (hu:X.A.units+1<fj) (ho:OE X cls E o fo) (ha:OA X cls E [e] fl) (hbase:g9 o "pop" X.env (eval o X.env)=eval o X.env:=by rfl)
  (hfew:((dq cpos (ar [e] X.env)).all (fun x=> !x.1)&&(jt cpos (ig [] X.env)).all (fun x=>x.1.isSome)
   &&decide ([e].length+([]:List jk).length+(if([]:List jk).isEmpty then 0 else 1)<30))=true:=by rfl)
  (hline:(apos.endLine==cpos.line)=true:=by rfl) (hs:ar [e] X.env=(false,eval e X.env)::ar [] X.env:=by rfl) (hplain:(dq cpos (ar [] X.env)).any (·.1)=false:=by rfl):
  OE X cls E (.Call (.Attribute o "pop" apos) [e] [] cpos) (nL EK fo fl):=Nu vj PySem.F.type_dict_pop (Kr hu) HN ho ha hbase hfew hline hs hplain
end
end L2.MB
end
section
namespace L2.MB
open PySem PySem.Spec PyProof.Rows PySem.Builtin
section
variable {P:cj}{w:cz}{K:Type} [DecidableEq K] {knd:HeapKind P w K}{A:df}{E:af->ao->Prop}{s:ao}{d a:ag}{xs ys:List (K×ag×af)}{k:K}{v:af}{Q:Unit->ao->Prop}
theorem rQ (h:∀(j:Nat) (p:ag×af),xs[j]?≠zn (k,p)):mr xs k=zo:=by
 unfold mr;rw[Option.map_eq_none_iff,xi];intro x hx;obtain⟨j,hj⟩:=ki hx;intro z;have e:x.1=k:=by simpa using z
 exact h j x.2 (by rw[hj,<- e])
theorem Cj {j:Nat} (h:xs[j]?=zn (k,p)):(mr xs k).isSome=true:=by
 unfold mr;rw[sj,List.find?_isSome];exact⟨(k,p),fk h,by simp⟩
theorem BJ (nd:(xs.map (·.1)).Nodup) (h:xs[j]?=zn (k,p)):(xs.map (gz knd)).modify j (fun e=>{ hash:=e.hash,key:=e.key,val:=v })=(xs.map (ut k v)).map (gz knd):=by
 apply iy;intro i;rw[List.getElem?_modify,bg,bg,bg];cases q:xs[i]? with
 |none=>rfl
 |some x=>
  show zn _=zn _
  by_cases e:j=i
  ·subst e;rw[h] at q;cases q;simp[ut,gz]
  ·have hx:x.1≠k:=fun z=>e (nodup_ix nd h (show xs[i]?=zn (k,x.2) by rw[q,<- z]));simp[ut,e,hx]
theorem Hl:(xs.map (ut k v)).map (·.1)=xs.map (·.1):=by
 rw[gp];apply iz;intro x _;unfold ut
 show(if _ then _ else _:K×ag×af).1=_
 split <;> rfl
theorem Gh (hr:knd.room A) (hk:knd.is s.heap k a) (hd:i7 knd s.heap d xs) (hz:xs.length<=sizeLine) (h:∀ h',i7 knd h' d (j6 xs k a v)->d4 d s.heap h'->Q () { s with heap:=h' }):
  au (model P w) A (dictSetHashed d (.ref a) (knd.hash k) v) Q E s:=by
 obtain⟨o,es,ep,h1,h2,h3,h4,h5,h6⟩:=hd;obtain⟨oc,od,odt,osl⟩:=o;obtain⟨q1,q2,q3⟩:=h2;dsimp only at q1 q2 q3 h3;subst q1 q2 q3 h3;have hs:es.size=xs.length:=by
  have:=congrArg m9 h4
  rw[am,ca] at this;exact this
 unfold dictSetHashed
 repeat (first|(with_reducible refine wl hr hk h1 rfl h4 h5 h6 (fun hn=> ?none) fun j p hj=> ?some)|(with_reducible refine vy h1 rfl ?main ?sz ?gr)|wp_step)
 case main=>
   have sb:d4 d s.heap (s.heap.update d (uu fun x=>x.push { hash:=knd.hash k,key:=.ref a,val:=v })):=⟨p7 _ _ _,fun b hb=>dc _ _ (cw hb)⟩;have e1:j6 xs k a v=xs++[(k,a,v)]:=by
    unfold j6;rw[rQ hn];rfl
   refine h _ ⟨_,es.push { hash:=knd.hash k,key:=.ref a,val:=v },ep+1,ee _ h1 rfl,⟨rfl,rfl,rfl⟩,rfl,?_,fun x hx=> ?_,?_⟩ sb
   ·rw[e1,sv,h4,b4];rfl
   ·rw[e1] at hx;rcases c4.mp hx with hx|hx
    ·exact knd.keeps (h5 x hx) h1 rfl sb
    ·rw[d9] at hx;subst hx;exact knd.keeps hk h1 rfl sb
   ·rw[e1,b4];refine ke.mpr ⟨h6,by simp,fun x hx y hy z=> ?_⟩;have hy':y=k:=by simpa using hy
    rw[z,hy'] at hx;obtain⟨q,q1,q2⟩:=ay.mp hx;obtain⟨j,hj⟩:=ki q1;exact hn j q.2 (by rw[hj,<- q2])
 case sz=>rw[hs];exact hz
 case gr=>simp
 case some=>
  have e1:j6 xs k a v=xs.map (ut k v):=by
   unfold j6;rw[if_pos (Cj hj)]
  repeat (first|(with_reducible refine wpAny_updateDict h1 rfl ?_ ?_)|wp_step)
  ·have sb:d4 d s.heap (s.heap.update d (Obj.mapDict fun x=>x.modify j fun e=>{ hash:=e.hash,key:=e.key,val:=v })):=⟨p7 _ _ _,fun b hb=>dc _ _ (cw hb)⟩;refine h _ ⟨_,es.modify j fun e=>{ hash:=e.hash,key:=e.key,val:=v },ep,ee _ h1 rfl,⟨rfl,rfl,rfl⟩,rfl,?_,fun x hx=> ?_,?_⟩ sb
   ·rw[e1,Array.toList_modify,h4];exact BJ h6 hj
   ·rw[e1] at hx;obtain⟨q,q1,q2⟩:=ay.mp hx;subst q2
    have:=knd.keeps (h5 q q1) h1 rfl sb
    unfold ut;split
    ·exact this
    ·exact this
   ·rw[e1,Hl];exact h6
  ·simp
end
section
variable {P:cj}{w:cz}{A:df}{E:af->ao->Prop}{s:ao}{d o:ag}{xs ys:List (List Key×ag×af)}{k:List Key}{v:af}{Q:Unit->ao->Prop}{id:String}
noncomputable def fD (xs ys:List (List Key×ag×af)):List (List Key×ag×af):=ys.foldl (fun acc y=>j6 acc y.1 y.2.1 y.2.2) xs
theorem xK:(j6 xs k a v).length<=xs.length+1:=by
 unfold j6;split
 ·rw[am];omega
 ·rw[bq,jd];omega
theorem nO:fD xs (ys++[y])=j6 (fD xs ys) y.1 y.2.1 y.2.2:=by
 unfold fD;rw[List.foldl_append];rfl
theorem vN:∀ {ys xs:List (List Key×ag×af)},((xs++ys).map (·.1)).Nodup->fD xs ys=xs++ys
 |[],xs,_=>by rw[dr];rfl
 |y::r,xs,nd=>by
  have e1:fD xs (y::r)=fD (j6 xs y.1 y.2.1 y.2.2) r:=rfl;have e2:j6 xs y.1 y.2.1 y.2.2=xs++[y]:=by
   unfold j6;rw[rQ (fun j p hj=> ?_)]
   ·rfl
   ·have m1:y.1∈xs.map (·.1):=ay.mpr ⟨_,fk hj,rfl⟩;rw[b4,ke] at nd;exact nd.2.2 _ m1 _ (ay.mpr ⟨y,av,rfl⟩) rfl
  rw[e1,e2,vN (by rw[fz];exact nd),fz];rfl
theorem DV (nd:(ys.map (·.1)).Nodup):fD [] ys=ys:=vN (by simpa using nd)
theorem iM (hne:d≠o) (hsys:(o==f9)=false) (hr:(b3 (aI P w)).room A) (hd:i7 (b3 (aI P w)) s.heap d xs) (ho:i7 (b3 (aI P w)) s.heap o ys) (hz:xs.length+ys.length<=sizeLine)
  (hh:∀(i j:Nat) x y,ys[i]?=zn x->ys[j]?=zn y->(b3 (aI P w)).hash x.1=(b3 (aI P w)).hash y.1->i=j)
  (h:∀ h',i7 (b3 (aI P w)) h' d (fD xs ys)->d4 d s.heap h'->Q () { s with heap:=h' }):au (model P w) A (Dict.mergeDict id d o) Q E s:=by
 have hd0:=hd;obtain⟨o1,es,ep,h1,h2,h3,h4,h5,h6⟩:=hd;obtain⟨oc,od,odt,osl⟩:=o1;obtain⟨q1,q2,q3⟩:=h2;dsimp only at q1 q2 q3 h3;subst q1 q2 q3 h3;obtain⟨o2,fs,fp,g1,g2,g3,g4,g5,g6⟩:=ho;obtain⟨oc,od,odt,osl⟩:=o2;obtain⟨q1,q2,q3⟩:=g2;dsimp only at q1 q2 q3 g3;subst q1 q2 q3 g3;have hn:(d==o)=false:=by simpa using hne
 unfold Dict.mergeDict;simp only[wn];rw[hn];simp only[d7,if_false]
 repeat wp_step
 have fl:fs.size=ys.length:=by
  have:=congrArg m9 g4
  rw[am,ca] at this;exact this
 have el:es.size=xs.length:=by
  have:=congrArg m9 h4
  rw[am,ca] at this;exact this
 have few:(decide (fs.size<=8)&&fs.all fun e=>(keyPart e.key).isSome)=decide (ys=[]):=by
  rw[<- yi,g4];cases ys with
  |nil=>simp[fl]
  |cons y r=>simp[gz,keyPart]
 rw[few]
 by_cases hy:ys=[]
 ·rw[decide_eq_true hy];simp only[Bool.not_true,d7,if_false];have e0:dw ([:fs.size]:k7).start ([:fs.size]:k7).size ([:fs.size]:k7).step=[]:=by rw[fl,hy];rfl
  subst hy
  repeat (first|(with_reducible refine t9 _ (fun rest _ s'=>rest=[]/\s'=s) _ ?step ?fin _ _ ?init)|wp_step)
  case init=>exact⟨e0,rfl⟩
  case step=>rintro i rest b s' ⟨z,_⟩;cases z
  case fin=>
   rintro b s' ⟨_,rfl⟩
   repeat wp_step
   exact h _ hd0 ⟨rfl,fun _ _=>rfl⟩
 ·rw[decide_eq_false hy];simp only[za,if_true]
  repeat wp_step
  by_cases hx:xs=[]
  ·have e0:es.isEmpty=true:=by
    rw[pf];apply Array.eq_empty_of_size_eq_zero;rw[el,hx];rfl
   rw[e0];simp only[if_true];unfold Dict.entriesForEmpty
   repeat (first|(with_reducible refine wpAny_forIn_array' _ (fun(rest:List mh) _ s'=>(∀ e∈rest,∃ i:Nat,fs[i]?=zn e)/\s'=s) _ ?step ?fin _ _ ?init)|wp_step)
   case init=>exact⟨fun e he=>by obtain⟨i,hi⟩:=ki he;exact⟨i,by rw[<- fy];exact hi⟩,rfl⟩
   case step=>
    rintro e rest b s' ⟨hi,rfl⟩;obtain⟨i,hi0⟩:=hi e av;have hi1:(ys.map (gz (b3 (aI P w))))[i]?=zn e:=by rw[<- g4,fy];exact hi0
    rw[bg] at hi1;obtain⟨y,hy1,rfl⟩:=aF hi1;obtain⟨ot,its,nt,t1,t2,t3,_⟩:=(show IsTupleKey (aI P w) s'.heap y.1 y.2.1 from g5 y (fk hy1));show au _ _ (do let __do_lift <- Dict.quietEq (b9 y.2.1);_) _ _ _;unfold Dict.quietEq;have small:¬(Array.filter (fun x=>x.hash==(gz (b3 (aI P w)) y).hash) fs).size>1:=by
     have:(fs.filter (fun x=>x.hash==(gz (b3 (aI P w)) y).hash)).toList.length<=1:=by
      rw[Array.toList_filter,g4,List.filter_map,am];have nd:∀(l:List (List Key×ag×af)),(∀(i j:Nat) x y,l[i]?=zn x->l[j]?=zn y->(b3 (aI P w)).hash x.1=(b3 (aI P w)).hash y.1->i=j)->∀ c:Int,(l.filter ((fun x:mh=>x.hash==c)∘gz (b3 (aI P w)))).length<=1:=by
       intro l
       induction l with
       |nil=>intro _ _;simp
       |cons z r ih=>
        intro hl c;have ih':=ih (fun i j x y h1 h2 e=>by have:=hl (i+1) (j+1) x y (by simpa using h1) (by simpa using h2) e;omega) c
        by_cases hc:(b3 (aI P w)).hash z.1=c
        ·rw[f7 (by simpa [gz] using hc)]
         have:r.filter ((fun x:mh=>x.hash==c)∘gz (b3 (aI P w)))=[]:=by
          rw[List.filter_eq_nil_iff];intro q hq z';obtain⟨j,hj⟩:=ki hq;have e:(b3 (aI P w)).hash q.1=c:=by simpa [gz] using z'
          have:=hl 0 (j+1) z q (by simp) (by simpa using hj) (hc.trans e.symm)
          omega
         rw[this];simp
        ·rw[f6 (by simpa [gz] using hc)];exact ih'
      exact nd ys hh _
     rw[ca] at this;omega
    repeat wp_step
    rw[t2,show s0 (fm "tuple") (jc "__eq__")=pure (zn (.builtin "tuple.__eq__")) from PySem.F.slot_tuple_eq.lookup]
    repeat wp_step
    rw[if_neg small]
    repeat wp_step
    exact⟨fun e he=>hi e (ak _ he),rfl⟩
   case fin=>
    rintro b s' ⟨_,rfl⟩
    repeat wp_step
    have f0:fs.isEmpty=false:=by
     cases q:fs.isEmpty with
     |false=>rfl
     |true=>
      rw[pf] at q;rw[q] at fl;exact absurd (List.eq_nil_of_length_eq_zero fl.symm) hy
    rw[f0];simp only[za,if_true];have sb:d4 d s'.heap (s'.heap.update d (uu fun _=>fs)):=⟨p7 _ _ _,fun b hb=>dc _ _ (cw hb)⟩;have mg:fD xs ys=ys:=by
     rw[hx];exact DV g6
    repeat (first|(with_reducible refine wpAny_updateDictKeysTo h1 rfl ?main ?sz)|wp_step)
    case sz=>show fs.size<=_;rw[fl];omega
    case main=>
     refine h _ ⟨_,fs,ep+1,ee _ h1 rfl,⟨rfl,rfl,rfl⟩,rfl,?_,fun x hx'=> ?_,?_⟩ sb
     ·rw[mg];exact g4
     ·rw[mg] at hx';exact(b3 (aI P w)).keeps (g5 x hx') h1 rfl sb
     ·rw[mg];exact g6
  ·have e0:es.isEmpty=false:=by
    cases q:es.isEmpty with
    |false=>rfl
    |true=>
     rw[pf] at q;rw[q] at el;exact absurd (List.eq_nil_of_length_eq_zero el.symm) hx
   rw[e0];simp only[d7,if_false];have e1:dw ([:fs.size]:k7).start ([:fs.size]:k7).size ([:fs.size]:k7).step=dw 0 ys.length:=by
    rw[fl];simp[zm]
   have len:∀ n,n<=ys.length->(fD xs (ys.take n)).length<=xs.length+n:=fun n=>by
    induction n with
    |zero=>intro _;simp[fD]
    |succ n ih=>
     intro hn;have hn':n<ys.length:=hn;rw[p8 hn',nO]
     have:=ih (jg hn')
     exact cu xK (by omega)
   repeat (first|(with_reducible refine t9 _ (fun(rest:List Nat) _ s'=>∃(i:Nat) (h':cm),rest=dw i (ys.length-i)/\i<=ys.length/\s'={ s with heap:=h' }/\i7 (b3 (aI P w)) h' d (fD xs (ys.take i))/\d4 d s.heap h') _ ?step ?fin _ _ ?init)|wp_step)
   case init=>exact⟨0,s.heap,e1,i4 _,rfl,hd0,⟨rfl,fun _ _=>rfl⟩⟩
   case step=>
    rintro i rest b s' ⟨j,h',e2,hj,rfl,dd,sb⟩;have hlt:j<ys.length:=by
     rcases oy j ys.length with z|z
     ·exact z
     ·rw[Nat.sub_eq_zero_of_le z] at e2;cases e2
    have e3:ys.length-j=(ys.length-(j+1))+1:=by omega
    rw[e3,mw] at e2;cases e2;have go:h'.get? o=zn { cls:=fm "dict",data:=zd fs fp }:=(sb.2 o (cw hne)).trans g1;have hes:fs[i]?=zn { hash:=(b3 (aI P w)).hash ys[i].1,key:=.ref ys[i].2.1,val:=ys[i].2.2 }:=by
     rw[<- fy,g4,bg,bi hlt];rfl
    have hk:(b3 (aI P w)).is h' ys[i].1 ys[i].2.1:=(b3 (aI P w)).keeps (g5 _ (gw hlt)) h1 rfl sb
    repeat wp_step
    rw[hes]
    repeat (first|(with_reducible refine Gh hr hk dd (cu (len i (jg hlt)) (by omega)) fun h2 dd2 sb2=> ?_)|wp_step)
    have go2:h2.get? o=zn { cls:=fm "dict",data:=zd fs fp }:=(sb2.2 o (cw hne)).trans go
    repeat (first|(with_reducible refine su go2 ?_)|wp_step)
    simp only[bne_self_eq_false,d7,if_false]
    repeat wp_step
    refine⟨i+1,h2,rfl,hlt,rfl,?_,sb.trans sb2⟩;rw[p8 hlt,nO];exact dd2
   case fin=>
    rintro b s' ⟨j,h',e2,hj,rfl,dd,sb⟩
    have:j=ys.length:=by
     have:=congrArg m9 e2
     simp at this;omega
    subst this;rw[List.take_length] at dd
    repeat wp_step
    exact h h' dd sb
end
end L2.MB
end
section
namespace L2.MB
open PySem PySem.Spec PyProof.Rows PySem.Builtin
theorem CI (d b:ag) (hne:d≠b) (hsys:(b==f9)=false):MeetsIn P w («dict.update» { pos:=[.ref d,.ref b] }) fun A R s=>
  A.units+1<fj/\∃ xs ys:List (List Key×ag×af),i7 (b3 (aI P w)) s.heap d xs/\i7 (b3 (aI P w)) s.heap b ys/\xs.length+ys.length<=sizeLine/\
   (∀(i j:Nat) x y,ys[i]?=zn x->ys[j]?=zn y->(b3 (aI P w)).hash x.1=(b3 (aI P w)).hash y.1->i=j)/\
   ∀ h',i7 (b3 (aI P w)) h' d (fD xs ys)->d4 d s.heap h'->R (.ok (.ret .none)) { s with heap:=h' }:=by
 rintro A R s ⟨hu,xs,ys,hd,ho,hz,hh,hR⟩;have hr:(b3 (aI P w)).room A.in1:=lq hu;have hd0:=hd;have ho0:=ho;obtain⟨o1,es,ep,h1,h2,h3,h4,h5,h6⟩:=hd;obtain⟨oc,od,odt,osl⟩:=o1;obtain⟨q1,q2,q3⟩:=h2;dsimp only at q1 q2 q3 h3;subst q1 q2 q3 h3;obtain⟨o2,fs,fp,g1,g2,g3,g4,g5,g6⟩:=ho;obtain⟨oc,od,odt,osl⟩:=o2;obtain⟨q1,q2,q3⟩:=g2;dsimp only at q1 q2 q3 g3;subst q1 q2 q3 g3;unfold «dict.update» Dict.selfAndRest
 repeat (first|(with_reducible refine iM hne hsys hr hd0 ho0 hz hh fun h' dd sb=> ?_)|wp_step)
 simp only[bne_self_eq_false,d7,if_false]
 repeat (first|(with_reducible refine iM hne hsys hr hd0 ho0 hz hh fun h' dd sb=> ?_)|wp_step)
 rw[PySem.isSubtype_dict_dict]
 repeat (first|(with_reducible refine iM hne hsys hr hd0 ho0 hz hh fun h' dd sb=> ?_)|wp_step)
 rw[show s0 (fm "dict") (jc "__iter__")=pure (zn (.builtin "dict.__iter__")) from pi.lookup]
 repeat (first|(with_reducible refine iM hne hsys hr hd0 ho0 hz hh fun h' dd sb=> ?_)|wp_step)
 exact hR h' dd sb
noncomputable def KD:List Key->Option (List Int)
 |[]=>zn []
 |.inl i::r=>(KD r).map fun is=>i::is
 |.inr _::_=>zo
noncomputable def eI (k:List Key):Option Int:=(KD k).map fun is=>reduceHash (tq (is.map hashInt))
theorem vW:∀ {k:List Key}{is:List Int},KD k=zn is->k=is.map qe
 |[],_,h=>by cases h;rfl
 |.inl i::r,_,h=>by
  obtain⟨js,e,rfl⟩:=aF h;rw[vW e];rfl
 |.inr _::_,_,h=>nomatch h
theorem AS (h:eI k=zn c):(b3 (aI P w)).hash k=c:=by
 obtain⟨is,e,rfl⟩:=aF h;rw[vW e];show reduceHash (tq ((is.map qe).map (aI P w).hash))=_;rw[gp];rfl
noncomputable def eA:List (List Key)->Bool
 |[]=>true
 |k::r=>(eI k).isSome&&r.all (fun k'=>match eI k,eI k' with
  |some a,zn b=>decide (a≠b)
  |_,_=>false)&&eA r
theorem qW:∀ {ks:List (List Key)},eA ks=true->∀(i j:Nat) x y,ks[i]?=zn x->ks[j]?=zn y->(b3 (aI P w)).hash x=(b3 (aI P w)).hash y->i=j
 |[],_,i,j,x,y,h1,_,_=>by simp at h1
 |k::r,h,i,j,x,y,h1,h2,e=>by
  have h':((eI k).isSome&&r.all (fun k'=>match eI k,eI k' with
   |some a,zn b=>decide (a≠b)
   |_,_=>false)&&eA r)=true:=h
  rw[bt,bt] at h';obtain⟨⟨_,ha⟩,hr⟩:=h';have main:∀ y,y∈r->(b3 (aI P w)).hash k=(b3 (aI P w)).hash y->False:=fun y hy e=>by
   have:=gv.mp ha y hy
   split at this
   ·rename_i a b e1 e2
    rw[AS e1,AS e2] at e;simp at this;exact this e
   ·cases this
  cases i with
  |zero=>
   cases j with
   |zero=>rfl
   |succ j=>
    simp at h1 h2;subst h1;exact(main y (fk h2) e).elim
  |succ i=>
   cases j with
   |zero=>
    simp at h1 h2;subst h2;exact(main x (fk h1) e.symm).elim
   |succ j=>
    simp at h1 h2;rw[qW hr i j x y h1 h2 e]
noncomputable def lI (kvs more:List (List Key×V)):List (List Key×V):=more.foldl (fun acc p=>pJ acc p.1 p.2) kvs
noncomputable def nP (kvs more:List (List Key×D)):List (List Key×D):=more.foldl (fun acc p=>gQ acc p.1 p.2) kvs
theorem KT.merge:∀ {ms:List (List Key×V)}{ys:List (List Key×ag×af)},KT H ms ys->∀ {kvs:List (List Key×V)}{xs:List (List Key×ag×af)},KT H kvs xs->KT H (lI kvs ms) (fD xs ys)
 |_,_,.nil,_,_,r=>r
 |_,_,.cons (a:=p) (b:=q) h t,kvs,xs,r=>by
  obtain⟨h1,h2,h3⟩:=h;have r':=r.put p.1 h2 h3;rw[h1] at r'
  have:=KT.merge t r'
  rw[<- h1] at this;show KT H (lI (pJ kvs p.1 p.2) _) (fD (j6 xs q.1 q.2.1 q.2.2) _);rw[<- h1];exact this
theorem KvR.mergeR {K:aa}:∀ {ms:List (List Key×V)}{ns:List (List Key×D)},KvR K ok H ms ns->∀ {vs:List (List Key×V)}{ds:List (List Key×D)},KvR K ok H vs ds->KvR K ok H (lI vs ms) (nP ds ns)
 |_,_,.nil,_,_,r=>r
 |_,_,.cons h t,vs,ds,r=>KvR.mergeR t (r.put h)
theorem GB {k:List Key}:(pJ kvs k v).length<=kvs.length+1:=jH kvs k v
theorem qN:∀ {ms kvs:List (List Key×V)},(lI kvs ms).length<=kvs.length+ms.length
 |[],_=>bp _
 |p::r,kvs=>by
  have:=qN (ms:=r) (kvs:=pJ kvs p.1 p.2)
  have:=GB (kvs:=kvs) (k:=p.1) (v:=p.2)
  show(lI (pJ kvs p.1 p.2) r).length<=kvs.length+(r.length+1)
  omega
section
variable {X:Cx}{pins:List (ag×Obj)}{σ:St}{H:Hp}{s:ao}{a b:ag}{kvs ms:List (List Key×V)}{A:df}{E:af->ao->Prop}
theorem Ot (hu:A.units+1<fj) (I:Inv X pins σ H s) (ea:H a=zn (.dT kvs)) (eb:H b=zn (.dT ms)) (hne:a≠b) (hl:kvs.length+ms.length<=sizeLine) (hh:eA (ms.map (·.1))=true)
  (h:∀ s',Inv X pins σ (upd H a (.dT (lI kvs ms))) s'->Q .none s'):au (model X.prog X.w) A (call (.builtin "dict.update") [.ref a,.ref b]) Q E s:=by
 obtain⟨z,hd,xs,rel,dd⟩:=HZ I.hok ea;obtain⟨z2,hd2,ys,rel2,dd2⟩:=HZ I.hok eb;have lx:kvs.length=xs.length:=jm rel;have ly:ms.length=ys.length:=jm rel2;have keys:ms.map (·.1)=ys.map (·.1):=by
  clear dd2 ly z2 hl hh eb h
  induction rel2 with
  |nil=>rfl
  |cons h t ih=>rw[bu,bu,ih,h.1]
 rw[keys] at hh;refine xc ud dd.typeIs PySem.F.entry_dict_update (PySem.F.args_dict_update_2 _ _) (CI a b hne hd2) ⟨hu,xs,ys,dd,dd2,by omega,fun i j x y h1 h2 e=> ?_,fun h' dd' hs=>h _ ?_⟩
 ·exact qW hh i j x.1 y.1 (by rw[bg,h1];rfl) (by rw[bg,h2];rfl) e
 ·obtain⟨q,es,ep,hq,h2,h3,h4,_,h5⟩:=dd';refine tH I (by rw[ea];exact ib) hs ⟨q,hq⟩ ⟨cu qN hl,hd,_,KT.keeps (KT.merge rel2 rel) fun c ws ec=> ?_,q,es,ep,hq,h2,h3,h4,h5⟩;rw[aE (Kp ec ea (fun z=>nomatch z))];exact ec
def Mj:V->List V->Hp->VK->Prop:=fun x xs H Q=>∃ a b kvs ms,x=.ref a/\xs=[.ref b]/\H a=zn (.dT kvs)/\H b=zn (.dT ms)/\a≠b/\kvs.length+ms.length<=sizeLine/\eA (ms.map (·.1))=true/\Q .non (upd H a (.dT (lI kvs ms)))
theorem Kq (hu:X.A.units+1<fj):MtR X "dict.update" Mj:=by
 intro pins s σ H x xs v us Q I rx rs h;obtain⟨a,b,kvs,ms,rfl,rfl,ha,hb,hne,hl,hh,q⟩:=h;obtain⟨u,rfl,ru⟩:=jR rs;cases rx;cases ru;exact Ot hu I ha hb hne hl hh fun s' I'=>⟨.non,_,I',rfl,q⟩
end
section
variable {X:Cx}{cls exC:Nat->ag}{E:XE}{e a b c o i value:b0}{es rest:List b0}{fa fb fc fo fi fv:OG D}{fl:OG (List D)}{ft ft':OG Bool}{pos p apos pos' cpos:Pos}{x m:Str}{st:c9}
noncomputable def ED (ω:Om) (d:D) (as:List D):Option (D×Om):=match d,as with
 |.obj n,[.obj m]=>match ω[n]?,ω[m]? with
  |some (.dt kvs),zn (.dt ms)=>if n≠m/\kvs.length+ms.length<=sizeLine/\eA (ms.map (·.1))=true then zn (.non,ω.set n (.dt (nP kvs ms))) else zo
  |_,_=>zo
 |_,_=>zo
theorem HK {K:aa}:Al cls K Mj ED:=fun ok H ω x xs a as d ω' Q h1 st ra rs e k=>by
 unfold ED at e;split at e
 ·rename_i n m
  split at e
  ·rename_i kvs ms hc hc2
   obtain⟨⟨hnm,hl,hh⟩,e3⟩:=bA e;cases e3;obtain⟨a1,rfl,e4,vs,e5,kv⟩:=st.ref ra hc;obtain⟨w,rfl,rw'⟩:=rs.one_inv;obtain⟨b1,rfl,e6,us,e7,kv2⟩:=st.ref rw' hc2;refine⟨a1,b1,vs,us,rfl,rfl,e5,e7,fun z=>hnm (st.inj n m a1 e4 (z ▸ e6)),by rw[kv.length,kv2.length];exact hl,by rw[kv2.keys];exact hh,?_⟩;have nw:=Nw.write (o:=.dT (lI vs us)) (ob:=.dt (nP kvs ms)) h1 st e4 e5 fun dat=>⟨_,aJ,(kv2.mergeR kv).mono dat fun _ _ z=>z⟩;exact k _ ok _ nw .non
  ·cases e
 ·cases e
theorem JQ (hu:X.A.units+1<fj) (ho:OE X cls E o fo) (ha:OA X cls E [e] fl) (hbase:g9 o "update" X.env (eval o X.env)=eval o X.env:=by rfl)
  (hfew:((dq cpos (ar [e] X.env)).all (fun x=> !x.1)&&(jt cpos (ig [] X.env)).all (fun x=>x.1.isSome)
   &&decide ([e].length+([]:List jk).length+(if([]:List jk).isEmpty then 0 else 1)<30))=true:=by rfl)
  (hline:(apos.endLine==cpos.line)=true:=by rfl) (hs:ar [e] X.env=(false,eval e X.env)::ar [] X.env:=by rfl) (hplain:(dq cpos (ar [] X.env)).any (·.1)=false:=by rfl):
  OE X cls E (.Call (.Attribute o "update" apos) [e] [] cpos) (nL ED fo fl):=Nu ud PySem.F.type_dict_update (Kq hu) HK ho ha hbase hfew hline hs hplain
end
end L2.MB
end
section
namespace L2.MB
theorem _root_.L2.Inv.movedN (I:Inv X pins σ H s) (k:∀ b o,b≠X.env.locals->s.heap.get? b=zn o->h'.get? b=zn o) (ns:∀ m,s.heap.Ns X.env.locals m->h'.Ns X.env.locals m)
  (old:∀ b o,s.heap.get? b=zn o->H' b=H b) (sub:∀ b u,H b=zn u->H' b=zn u) (hok:HOk X.prog X.w H' h'):Inv X pins σ H' { s with heap:=h',toks:=t' }:=by
 obtain⟨m,hn,lk⟩:=I.loc;obtain⟨oL,esL,epL,hoL,hdL,rL⟩:=id hn;have nl:∀ {b:ag}{o:Obj},X.s₀.heap.get? b=zn o->b≠X.env.locals:=fun e z=>absurd (bj e) (by rw[z];exact vt.mpr I.ok.above);have nc:∀ {c:ag}{v:Option af}{o:Obj},s.heap.get? c=zn o->o.data=.cell v->c≠X.env.locals:=fun {c v o} e1 e2 z=>by
  rw[z,hoL] at e1;cases e1;rw[hdL] at e2;cases e2
 have th:∀ b o,s.heap.get? b=zn o->H b=zo->H' b=zo:=fun b o e n=>(old b o e).trans n;refine⟨I.ok,I.os,I.bare,⟨fun b o e n hb hx=>k b o (nl e) (I.base.keep b o e n hb hx),fun b o e n hb hx=> ?_,fun b o e n hx=> ?_,fun b o e hx=> ?_,fun b xs e=>sub _ _ (I.base.tups b xs e),fun b u v e=>sub _ _ (I.base.frzs b u v e),fun b ps e=> ?_⟩,⟨m,ns m hn,fun i x v e1 e2 e3=> ?_⟩,fun x c e=> ?_,th _ _ hoL I.free,fun x c e=> ?_,fun p hp=> ?_,hok,I.len⟩
 ·obtain⟨sl,z⟩:=I.base.slot b o e n hb hx;exact⟨sl,k b _ (nl e) z⟩
 ·obtain⟨o',z⟩:=I.base.there b o e hx;exact th b o' z (I.base.free b o e n hx)
 ·obtain⟨o',z⟩:=I.base.there b o e hx;exact⟨o',k b o' (nl e) z⟩
 ·obtain⟨m,z⟩:=I.base.tbls b ps e;exact⟨m,sub _ _ z⟩
 ·obtain⟨u,ru,z⟩:=lk i x v e1 e2 e3;refine⟨u,ru,?_⟩;rcases z with z|⟨q,c,e,oc,w1,w2⟩
  ·exact .inl z
  ·exact .inr ⟨q,c,e,oc,k c oc (nc w1 w2) w1,w2⟩
 ·obtain⟨v,oc,w1,w2⟩:=I.cell x c e;exact⟨v,oc,k c oc (nc w1 w2) w1,w2⟩
 ·obtain⟨v,oc,w1,w2⟩:=I.cell x c e;exact th c oc w1 (I.freeC x c e)
 ·obtain⟨z1,z2,z3,z4⟩:=I.pin p hp;exact⟨k p.1 p.2 z3 z1,th _ _ z1 z2,z3,z4⟩
theorem _root_.L2.Inv.moved (I:Inv X pins σ H s) (k:∀ b o,b≠X.env.locals->s.heap.get? b=zn o->h'.get? b=zn o) (ns:∀ m,s.heap.Ns X.env.locals m->h'.Ns X.env.locals m):Inv X pins σ H { s with heap:=h',toks:=t' }:=
 I.movedN k ns (fun _ _ _=>rfl) (fun _ _ e=>e) fun b u e=>by
  have nl:∀ {c:ag}{o:HO},H c=zn o->c≠X.env.locals:=fun e z=>by rw[z,I.free] at e;cases e
  refine(I.hok b u e).stay (fun c v hc q=> ?_) (fun _ q=>q) fun _ _ q=>q;rcases hc with rfl|hc
  ·exact k c v (nl e) q
  ·exact k c v (nl hc) q
noncomputable def Rj:List Int->List Int->Bool:=HT.lexLt
noncomputable def Hs:List D->Option (List Int)
 |[]=>zn []
 |.int i::r=>(Hs r).map fun is=>i::is
 |_::_=>zo
noncomputable def jA (a b:D):Option Bool:=match a,b with
 |.int i,.int j=>zn (decide (i<j))
 |.str x,.str y=>zn (decide (x.cps.toList<y.cps.toList))
 |.tup xs,.tup ys=>(Hs xs).bind fun is=>(Hs ys).map fun js=>Rj is js
 |_,_=>zo
noncomputable def OL (n:Nat):List D->List D->Bool->Option Bool
 |a::r,b::r',fin=>match eqD n a b with
  |some true=>OL n r r' fin
  |some false=>jA a b
  |none=>zo
 |_,_,fin=>zn fin
noncomputable def Jj {α:Type} (lt:Nat->Nat->Option Bool):zi α->Option α
 |.ret a=>zn a
 |.ask i j k=>(lt i j).bind fun c=>Jj lt (k c)
theorem xQ (hc:∀ i j c C,lt i j=zn c->C c s->cmp i j C s):∀ {t:zi α}{a:α},Jj lt t=zn a->Q a s->PySem.W.KasT.kasWp cmp t Q s
 |.ret b,a,h,q=>by
  rw[PySem.W.KasT.kasWp.eq_1];cases h;exact q
 |.ask i j k,a,h,q=>by
  rw[PySem.W.KasT.kasWp.eq_2];obtain⟨c,e1,e2⟩:=bind_some (show(lt i j).bind _=_ from h);exact hc i j c _ e1 (xQ hc e2 q)
noncomputable def sH (n:Nat) (a b:D):Option Bool:=match a,b with
 |.tup xs,.tup ys=>OL n xs ys (decide (xs.length<ys.length))
 |_,_=>zo
noncomputable def jI:D->Option Bool
 |.tup (.int _::_)=>zn true
 |.tup (.str _::_)=>zn false
 |_=>zo
noncomputable def jE (ds:List D):Bool:=ds.all (fun d=>jI d==zn true)||ds.all (fun d=>jI d==zn false)
noncomputable def iU (n:Nat) (ds:List D):Option (List D):=if ds.length<2 then zn ds else if ds.length<64/\jE ds=true then
 (Jj (fun i j=>sH n (ds.getD i .non) (ds.getD j .non)) (yj ds.length)).bind fun p=>if p.toList.length<=64 then zn (p.toList.map fun i=>ds.getD i .non) else zo else zo
section
variable {X:Cx}{pins:List (ag×Obj)}{σ:St}{H:Hp}{s:ao}{ok:Okk}{A:df}{E:af->ao->Prop}
theorem En {K:aa}:∀ {ds:List D}{is:List Int}{xs:List V}{us:List af},Hs ds=zn is->Reps K ok H xs ds->Vals xs us->lm us is:=by
 intro ds
 induction ds with
 |nil=>intro is xs us h r v;cases h;cases r;cases v;exact .nil
 |cons d ds ih=>
  intro is xs us h r v;cases r with|cons rr rs=>
  cases v with|cons v vs=>
  cases d with
  |int i=>
   obtain⟨js,e,rfl⟩:=aF h;obtain rfl:=rr.int_inv;obtain⟨t,rfl⟩:=v;exact .cons _ _ (ih e rs vs)
  |_=>cases h
theorem Kz (I:Inv X pins σ H s) (f:Bool) (hf:f=true->jI (.tup [a])≠zo/\jI (.tup [b])≠zo) (ra:Rep X.K ok H x a) (rb:Rep X.K ok H y b) (rv:RelV x v) (ru:RelV y u) (e:jA a b=zn k) (hu:A.units<fj) (q:Q k s):
  au (model X.prog X.w) A (oneLt' f v u) Q E s:=by
 unfold jA at e;split at e
 ·cases e;obtain rfl:=ra.int_inv;obtain rfl:=rb.int_inv;obtain⟨t,rfl⟩:=rv;obtain⟨t',rfl⟩:=ru;cases f with
  |true=>exact PySem.W.kat_lt_int q
  |false=>exact uv _ _ (yn q)
 ·cases e;obtain rfl:=ra.str_inv;obtain rfl:=rb.str_inv;obtain⟨t,rfl⟩:=rv;obtain⟨t',rfl⟩:=ru;cases f with
  |true=>exact xj q
  |false=>exact uv _ _ (lt_str q)
 ·obtain⟨is,e1,e⟩:=bind_some e;obtain⟨js,e2,rfl⟩:=aF e;cases f with
  |true=>exact absurd rfl (hf rfl).1
  |false=>
   obtain⟨p,xs,rfl,g,rs⟩:=ra.tup_inv;obtain⟨p',xs',rfl,g',rs'⟩:=rb.tup_inv;cases rv;cases ru;obtain⟨its,rr,pl,_⟩:=I.tuple g.sq;obtain⟨its',rr',pl',_⟩:=I.tuple g'.sq;exact uv _ _ (HT.lt_tupInts pl pl' (by simpa using En e1 rs rr) (by simpa using En e2 rs' rr') hu q)
 ·cases e
theorem NG (I:Inv X pins σ H s) (hu:A.units+n<fj) (q:Q k s):∀ {as bs:List D}{xs ys:List V}{vs us:List af} (i:Nat),(i=0->jI (.tup as)≠zo/\jI (.tup bs)≠zo)->Reps X.K ok H xs as->Reps X.K ok H ys bs->Vals xs vs->Vals ys us->OL n as bs fin=zn k->
  PySem.W.KatLex X.prog X.w A true fin Q (vs.zip us) i s:=by
 intro as
 induction as with
 |nil=>
  intro bs xs ys vs us i _ r1 r2 v1 v2 e;cases r1;cases v1;cases (show zn fin=zn k from e);exact y0 q
 |cons a as ih=>
  intro bs xs ys vs us i hk r1 r2 v1 v2 e;cases r1 with|cons r1 rs1=>
  cases v1 with|cons w1 ws1=>
  cases r2 with
  |nil=>
  cases v2;cases (show zn fin=zn k from e);exact y0 q
  |@cons _ b _ bs r2 rs2=>
  cases v2 with|cons w2 ws2=>
  refine PySem.W.kat_cons ?_;have e':(match eqD n a b with
   |some true=>OL n as bs fin
   |some false=>jA a b
   |none=>zo)=zn k:=e
  cases hq:eqD n a b with
  |none=>rw[hq] at e';cases e'
  |some c=>
   rw[hq] at e';refine Fd I n r1 r2 w1 w2 hq hu X.prog X.w _ _ ?_;cases c with
   |true=>exact PySem.W.kat_yes (ih (i+1) (fun z=>absurd z (Nat.succ_ne_zero i)) rs1 rs2 ws1 ws2 e')
   |false=>
    refine PySem.W.kat_no ?_;refine Kz I (true&&i==0) (fun hf=> ?_) r1 r2 w1 w2 e' (by omega) q;have hi:i=0:=by simpa using hf
    obtain⟨h1,h2⟩:=hk hi;constructor
    ·intro z;apply h1;cases a <;> first|rfl|cases z
    ·intro z;apply h2;cases b <;> first|rfl|cases z
theorem Oy (I:Inv X pins σ H s) (hu:A.units+n<fj) (h1:jI a≠zo) (h2:jI b≠zo) (ra:Rep X.K ok H x a) (rb:Rep X.K ok H y b) (rv:RelV x v) (ru:RelV y u) (e:sH n a b=zn k) (q:Q k s):
  au (model X.prog X.w) A (keyLt' (tuples' true) v u) Q E s:=by
 unfold sH at e;split at e
 ·rename_i as bs
  obtain⟨p,xs,rfl,g,rs⟩:=ra.tup_inv;obtain⟨p',xs',rfl,g',rs'⟩:=rb.tup_inv;cases rv;cases ru;obtain⟨its,rr,⟨o,t1,t2,m,t3⟩,_⟩:=I.tuple g.sq;obtain⟨its',rr',⟨o',t1',t2',m',t3'⟩,_⟩:=I.tuple g'.sq;refine PySem.W.kat_lt t1 t3 t1' t3' ?_;have l1:its.toArray.size=as.length:=by rw[bh,<- rr.length,rs.length]
  have l2:its'.toArray.size=bs.length:=by rw[bh,<- rr'.length,rs'.length]
  rw[l1,l2];simpa using NG I hu q 0 (fun _=>⟨h1,h2⟩) rs rs' rr rr' e
 ·cases e
theorem Vals.getD (r:Vals xs vs) (i:Nat):RelV (xs.getD i .non) (vs.getD i .none):=by
 rcases oy i xs.length with h|h
 ·obtain⟨u,e,ru⟩:=r.get (i:=i) (x:=xs[i]) (by simp[h]);rw[ax,ax,e,bi h];exact ru
 ·rw[ax,ax,b7 h,b7 (by rw[<- r.length];exact h)];rfl
theorem Reps.getD {K:aa} (r:Reps K ok H xs ds) (i:Nat):Rep K ok H (xs.getD i .non) (ds.getD i .non):=by
 rcases oy i ds.length with h|h
 ·obtain⟨v,e,rv⟩:=r.get (i:=i) (d:=ds[i]) (by simp[h]);rw[ax,ax,e,bi h];exact rv
 ·rw[ax,ax,b7 h,b7 (by rw[r.length];exact h)];exact .non
theorem Reps.pick {K:aa} (r:Reps K ok H xs ds):∀ is:List Nat,Reps K ok H (is.map fun i=>xs.getD i .non) (is.map fun i=>ds.getD i .non)
 |[]=>.nil
 |i::r'=>.cons (Reps.getD r i) (Reps.pick r r')
theorem Vals.pick (r:Vals xs vs):∀ is:List Nat,Vals (is.map fun i=>xs.getD i .non) (is.map fun i=>vs.getD i .none)
 |[]=>.nil
 |i::r'=>.cons (Vals.getD r i) (Vals.pick r r')
theorem EY (I:Inv X pins σ H s) (c:Bool):∀ {ds:List D}{xs:List V}{vs:List af},ds.all (fun d=>jI d==zn c)=true->Reps X.K ok H xs ds->Vals xs vs->∃ fs,PySem.W.KatTups s.heap vs fs/\fs.length=ds.length/\∀ v∈fs,PySem.W.Looks (model X.prog X.w) s.heap (typeOf v) (.type (if c then "int" else "str")):=by
 intro ds
 induction ds with
 |nil=>intro xs vs _ r w;cases r;cases w;exact⟨[],by rw[PySem.W.KatTups.eq_1];trivial,rfl,fun v hv=>absurd hv (by simp)⟩
 |cons d ds ih=>
  intro xs vs h r w;cases r with|cons r rs=>
  cases w with|cons w ws=>
  rw[List.all_cons,bt] at h;obtain⟨fs,h1,h2,h3⟩:=ih h.2 rs ws;have hd:jI d=zn c:=by simpa using h.1
  cases d with
  |tup as=>
   cases as with
   |nil=>cases hd
   |cons a as=>
    obtain⟨p,xs,rfl,g,rs'⟩:=r.tup_inv;cases w;cases rs' with
    |cons ra rs'=>
     obtain⟨its,rr,⟨o,t1,t2,m,t3⟩,_⟩:=I.tuple g.sq;cases rr with
     |cons wa rr=>
      rename_i u us
      refine⟨u::fs,?_,by simp[h2],fun v hv=> ?_⟩
      ·rw[PySem.W.KatTups.eq_2];exact⟨⟨p,o,_,m,rfl,t1,t2,t3,by simp⟩,h1⟩
      ·rcases aj.mp hv with rfl|hv
       ·cases a with
        |int i=>
         cases hd;obtain rfl:=ra.int_inv;obtain⟨t,rfl⟩:=wa;intro A Q E s' _ q;exact ai q
        |str i=>
         cases hd;obtain rfl:=ra.str_inv;obtain⟨t,rfl⟩:=wa;intro A Q E s' _ q;exact ai q
        |_=>cases hd
       ·exact h3 v hv
  |_=>cases hd
end
noncomputable def nM (h h0:cm) (L a:ag):List (ag×Obj):=(aw h.objs.size).filterMap fun b=>if b=L∨b=a∨(h0.get? b).isSome=true then zo else(h.get? b).map fun o=>(b,o)
theorem qO (e:h.get? b=zn o) (h1:b≠L) (h2:b≠a) (h3:h0.get? b=zo):(b,o)∈nM h h0 L a:=by
 unfold nM;refine jb.mpr ⟨b,dn.mpr (bj e),?_⟩;rw[if_neg (by simp[h1,h2,h3]),e];rfl
theorem fU (hp:p∈nM h h0 L a):h.get? p.1=zn p.2/\p.1≠L/\p.1≠a/\h0.get? p.1=zo:=by
 obtain⟨b,_,e⟩:=jb.mp hp
 by_cases hc:b=L∨b=a∨(h0.get? b).isSome=true
 ·rw[if_pos hc] at e;cases e
 ·rw[if_neg hc] at e;obtain⟨o,e1,e2⟩:=aF e;subst e2;refine⟨e1,fun z=>hc (.inl z),fun z=>hc (.inr (.inl z)),?_⟩;cases q:h0.get? b with
  |none=>rfl
  |some u=>exact absurd (.inr (.inr (by rw[q];rfl))) hc
theorem IK {h:cm} (h1:h.Ns a m) (h2:h.Ns a m'):m=m':=by
 obtain⟨o,es,ep,e1,e2,_,e3⟩:=h1;obtain⟨o',es',ep',g1,g2,_,g3⟩:=h2;rw[e1] at g1;cases g1;rw[e2] at g2;cases g2
 funext x
 rw[<- e3,g3]
theorem Dr:∀ {us:List af},xs.length=us.length->(∀(j:Nat) x v,xs[j]?=zn x->us[j]?=zn v->RelV x v)->Vals xs us:=by
 induction xs with
 |nil=>
  intro us h _;cases us with
  |nil=>exact .nil
  |cons _ _=>cases h
 |cons x r ih=>
  intro us h g;cases us with
  |nil=>cases h
  |cons u us=>exact .cons (g 0 x u rfl rfl) (ih (by simpa using h) fun j y v e1 e2=>g (j+1) y v (by simpa using e1) (by simpa using e2))
section
variable {X:Cx}{pins:List (ag×Obj)}{σ:St}{H:Hp}{s:ao}{ok:Okk}{A:df}{E:af->ao->Prop}
theorem Kx (hk:jE ds=true) (e:sH n (ds.getD i .non) (ds.getD j .non)=zn c):jI (ds.getD i .non)≠zo/\jI (ds.getD j .non)≠zo:=by
 have inr:∀ i,ds.getD i .non≠ .non->jI (ds.getD i .non)≠zo:=fun i hi=>by
  have hlt:i<ds.length:=by
   rcases oy i ds.length with h|h
   ·exact h
   ·rw[ax,b7 h] at hi;exact absurd rfl hi
  have hm:ds.getD i .non∈ds:=by
   rw[ax,bi hlt];exact gw hlt
  unfold jE at hk;rw[ji] at hk;rcases hk with hk|hk
  ·have:=gv.mp hk _ hm
   intro z;rw[z] at this;cases this
  ·have:=gv.mp hk _ hm
   intro z;rw[z] at this;cases this
 refine⟨inr i fun z=> ?_,inr j fun z=> ?_⟩
 ·rw[z] at e;cases e
 ·rw[z] at e;unfold sH at e;split at e
  ·rename_i h2
   cases h2
  ·cases e
theorem xL (I:Inv X pins σ H s) (col:∀ {R:List af->ao->Prop},(∀(h':cm) (tk:Nat) (acc:Array af),(∀ b o,s.heap.get? b=zn o->h'.get? b=zn o)->ItemsOf P acc n->R acc.toList { s with heap:=h',toks:=tk })->au (model X.prog X.w) A.in1 (collect (.ref r)) R E s) (hn2:2<=n) (hn:n<64) (hu:A.units+(m+2)<fj)
  (hx:xs.length=n) (hP:∀(j:Nat) v x,P j v->xs[j]?=zn x->RelV x v) (rs:Reps X.K ok H xs ds) (hs:iU m ds=zn out)
  (h:∀(h':cm) (tk:Nat) (ys:List V) (l:ag),H l=zo->Inv X pins σ (upd H l (.lst ys)) { s with heap:=h',toks:=tk }->Reps X.K ok H ys out->Q (.ref l) { s with heap:=h',toks:=tk }):
  au (model X.prog X.w) A (call (.builtin "sorted") [.ref r]) Q E s:=by
 have hl':ds.length=n:=by rw[<- rs.length];exact hx
 unfold iU at hs;rw[if_neg (by omega)] at hs;obtain⟨⟨_,hk⟩,hs⟩:=cV hs;obtain⟨p,hrun,hs⟩:=bind_some hs;obtain⟨hpl,hs⟩:=bA hs;refine n5 x8 xf xg (xh _) ?_;unfold Builtin.«sorted»;refine ae (m:=checkCount "sorted" 1 1 _) (ai (ae (col fun h1 tk acc kp it=> ?_)));have hl:acc.toList.length=n:=by rw[ca];exact it.1
 refine ae (se ?_ (by rw[hl,bz];omega));have o1:(h1.push (d8 "list" acc.toList.toArray 0)).get? h1.objs.size=zn (d8 "list" acc.toList.toArray 0):=br _ rfl;have nw:s.heap.get? h1.objs.size=zo:=by
  cases q:s.heap.get? h1.objs.size with
  |none=>rfl
  |some u=>exact absurd (bj (kp _ _ q)) (d5 _)
 have hH:H h1.objs.size=zo:=by
  cases q:H h1.objs.size with
  |none=>rfl
  |some u=>
   obtain⟨v,w⟩:=HOk.obj I.hok q;rw[nw] at w;cases w
 obtain⟨mL,hnL,_⟩:=I.loc;have kp2:∀ b o,s.heap.get? b=zn o->(h1.push (d8 "list" acc.toList.toArray 0)).get? b=zn o:=fun b o e=>aq _ (kp b o e);have fr:Fr X.base X.env.locals (h1.push (d8 "list" acc.toList.toArray 0)) mL:=⟨hnL.keeps kp2,fun b o e=>kp2 b o (I.bk b o e),cu I.ok.bsz I.ok.above⟩;have aL:h1.objs.size≠X.env.locals:=fun z=>by
  obtain⟨oL,_,_,hoL,_⟩:=id hnL;rw[<- z,nw] at hoL;cases hoL
 have hb0:X.base.get? h1.objs.size=zo:=by
  cases q:X.base.get? h1.objs.size with
  |none=>rfl
  |some u=>
   have:=I.bk _ _ q
   rw[nw] at this;cases this
 have rv:Vals xs acc.toList:=by
  refine Dr (by rw[hx,hl]) fun j x v e1 e2=> ?_;exact hP j v x (it.2 j v (by rw[<- fy];exact e2)) e1
 refine ae (fh (eu rg ⟨_,o1,rfl⟩ qm (PySem.W.kat_list_sort (s:={ s with heap:=h1.push (d8 "list" acc.toList.toArray 0),toks:=tk }) (news:=nM (h1.push (d8 "list" acc.toList.toArray 0)) X.base X.env.locals h1.objs.size) fr (fun q hq=>let ⟨z1,z2,z3,z4⟩:=fU hq;⟨z1,z2,z4⟩) o1 aL hb0 (fun q hq=>(fU hq).2.2.1) (by rw[hl];exact hn2) (by rw[hl];exact hn) fun e1 h' fr' nw'=> ?_) (rh _)))
 -- the state in its midst
 have keep:∀ {h':cm},Fr X.base X.env.locals h' mL->News X.base X.env.locals h' (nM (h1.push (d8 "list" acc.toList.toArray 0)) X.base X.env.locals h1.objs.size)->∀ b o,b≠X.env.locals->s.heap.get? b=zn o->h'.get? b=zn o:=fun {h'} fr' nw' b o hb e=>by
  have hne:b≠h1.objs.size:=fun z=>by rw[z,nw] at e;cases e
  cases q:X.base.get? b with
  |some u=>
   have:=I.bk b u q
   rw[e] at this;cases this;exact fr'.keep b _ q
  |none=>exact(nw' _ (qO (kp2 b o e) hb hne q)).1
 have nsk:∀ {h':cm},Fr X.base X.env.locals h' mL->∀ m,s.heap.Ns X.env.locals m->h'.Ns X.env.locals m:=fun {h'} fr' m hm=>by
  rw[IK hm hnL];exact fr'.ns
 have I1:Inv X pins σ H { s with heap:=h',toks:=tk }:=I.moved (keep fr' fun q hq=>nw' q (ak _ hq)) (nsk fr');have hka:∃ c:Bool,ds.all (fun d=>jI d==zn c)=true:=by
  unfold jE at hk;rw[ji] at hk;rcases hk with hk|hk
  ·exact⟨true,hk⟩
  ·exact⟨false,hk⟩
 obtain⟨c,hka⟩:=hka;obtain⟨fs,f1,f2,f3⟩:=EY I1 c hka rs rv;refine PySem.W.kat_kind f1 (by rw[f2];omega) f3 (by cases c <;> rfl) ?_;have hT:((fm (if c=true then "int" else "str")) !=fm "tuple")=true:=by cases c <;> rfl
 rw[hT,hl,<- hl'];refine xQ (fun i j c C e q=> ?_) hrun ?_
 ·obtain⟨k1,k2⟩:=Kx hk e;exact Oy I1 (fS (fS hu)) k1 k2 (Reps.getD rs i) (Reps.getD rs j) (Vals.getD rv i) (Vals.getD rv j) e q
 ·refine⟨_,_,fr',nw',.head (fun q hq=>(fU hq).2.2.1),fun h2 cc fr2 nw2=>⟨_,rfl,?_⟩⟩;have na2:h2.get? h1.objs.size=zn (zb (List.map (fun i=>acc.toList.getD i eg) p.toList).toArray cc):=(nw2 _ av).1;have I2:Inv X pins σ (upd H h1.objs.size (.lst (p.toList.map fun i=>xs.getD i .non))) { s with heap:=h2,toks:=tk }:=by
   have kk:=keep fr2 fun q hq=>nw2 q (ak _ hq);refine I.movedN kk (nsk fr2) (fun b o e=> ?_) (fun b u e=> ?_) fun b u e=> ?_
   ·rw[aE (fun z=>by rw[z,nw] at e;cases e)]
   ·rw[aE (aG e hH)];exact e
   ·by_cases hb:b=h1.objs.size
    ·subst hb;rw[aJ] at e;cases e;refine⟨?_,_,cc,Vals.pick rv p.toList,na2⟩;rw[am,bz];omega
    ·rw[aE hb] at e;have nl:∀ {c:ag}{o:HO},H c=zn o->c≠X.env.locals:=fun e z=>by rw[z,I.free] at e;cases e
     refine(I.hok b u e).stay (fun c v hc q=> ?_) (fun c q=>by rw[aE (aG q hH)];exact q) fun c xs q=>by rw[aE (aG q hH)];exact q
     rcases hc with rfl|hc
     ·exact kk c v (nl e) q
     ·exact kk c v (nl hc) q
  cases hs;exact ai ⟨_,rfl,h h2 tk _ _ hH I2 (Reps.pick rs p.toList)⟩
theorem mW (I:Inv X pins σ H s) (K:rc X.prog X.w T r d n P OK) (hh:A.handled=zo) (hok:OK s.heap) (hn2:2<=n) (hn:n<64) (hu:A.units+(m+2)<fj)
  (hx:xs.length=n) (hP:∀(j:Nat) v x,P j v->xs[j]?=zn x->RelV x v) (rs:Reps X.K ok H xs ds) (hs:iU m ds=zn out)
  (h:∀(h':cm) (tk:Nat) (ys:List V) (l:ag),H l=zo->Inv X pins σ (upd H l (.lst ys)) { s with heap:=h',toks:=tk }->Reps X.K ok H ys out->Q (.ref l) { s with heap:=h',toks:=tk }):
  au (model X.prog X.w) A (call (.builtin "sorted") [.ref r]) Q E s:=
 xL I (fun h=>wk (A:=A.in1) K hh hok (by rw[bz];omega) h) hn2 hn hu hx hP rs hs h
end
section
variable {X:Cx}{cls exC:Nat->ag}{E:XE}{e a b c o i value:b0}{es rest:List b0}{fa fb fc fo fi fv:OG D}{fl:OG (List D)}{ft ft':OG Bool}{pos p apos pos' cpos:Pos}{x m:Str}{st:c9}
def Pi (K:aa) (n:Nat):List V->Hp->VK->Prop:=fun xs H Q=>∃ v d kvs ds out ok,xs=[.ref v]/\H v=zn (LF v d)/\H d=zn (.dT kvs)/\Reps K ok H (kvs.map (·.2)) ds/\iU n ds=zn out/\∀ l ys,H l=zo->Reps K ok H ys out->Q (.ref l) (upd H l (.lst ys))
theorem uT (h:iU n ds=zn out) (hl:ds.length<2):out=ds:=by
 unfold iU at h;rw[if_pos hl] at h;cases h;rfl
theorem uS (h:iU n ds=zn out) (hl:¬ ds.length<2):ds.length<64:=by
 unfold iU at h;rw[if_neg hl] at h;exact(cV h).1.1
theorem Fz (hc:X.calm=true) (hu:X.A.units+(n+2)<fj):CallR X (.builtin "sorted") (Pi X.K n):=by
 intro pins s σ H xs us Q I r h;obtain⟨v,d,kvs,ds,out,ok,rfl,hv,hd,rs,hs,q⟩:=h;have hlen:ds.length=kvs.length:=by rw[<- rs.length,am]
 by_cases hl:ds.length<2
 ·obtain rfl:=uT hs hl;exact wQ hc pins s σ H _ us Q I r ⟨v,d,kvs,rfl,hv,hd,by omega,fun l nl=>q l _ nl rs⟩
 ·obtain⟨u,rfl,rx⟩:=jR r;cases rx;obtain⟨lo,hz,es,ep,rd,sz,it⟩:=oO I (.inl hd);have vw:s.heap.IsValuesView v d:=(show ObjOk X.prog X.w H s.heap v (LF v d) from I.hok v _ hv).1;have h64:=uS hs hl;refine mW I (qB (d:=d) (es:=es) (ep:=ep)) (I.ok.hd hc) ⟨vw,rd⟩ (by omega) (by omega) hu (by rw[am,sz]) (fun j v x hp hx=> ?_) rs hs fun h' tk ys l nl I' rs'=>⟨.ref l,_,I',rfl,q l ys nl rs'⟩;obtain⟨y,y1,y2⟩:=hp;obtain⟨p,p1,p2,_⟩:=it j y y1;rw[bg,p1] at hx;cases hx;rw[y2];exact p2
noncomputable def EG (n:Nat) (ω:Om) (d:D):Option D:=match cellOf ω d with
 |some (.dt kvs)=>(iU n (kvs.map (·.2))).map D.lst
 |_=>zo
noncomputable def GU (n:Nat) (f:OG D):OG D:=oB f fun d _ ω=>oR (pu (EG n ω d) ω)
theorem JR (hu:X.A.units+(n+2)<fj) (hc:X.calm=true) (hg:Gl X "sorted") (hm:X.mg "sorted"=zo) (ho:OE X cls E o fo) (hbase:g9 o "values" X.env (eval o X.env)=eval o X.env:=by rfl) (hline:(ap.endLine==cp.line)=true:=by rfl)
  (he:ar [.Call (.Attribute o "values" ap) [] [] cp] X.env=(false,eval (.Call (.Attribute o "values" ap) [] [] cp) X.env)::ar [] X.env:=by rfl) (hpl:(dq pos (ar [] X.env)).any (·.1)=false:=by rfl):
  OE X cls E (.Call (.Name "sorted" p) [.Call (.Attribute o "values" ap) [] [] cp] [] pos) (GU n fo):=
 (kC (Fz hc hu) hg hm boot.sorted (eW (MI uj uc PySem.F.type_dict_values DT ho hbase hline) lF he) (by decide) (by decide) he hpl).imp fun σ H Q ⟨ok,ρ,ω,r,ω',P,e,q⟩=>by
  refine tO.then_ P e (fun c z=>by subst z;exact q) fun d ω1 v ok1 H1 e1 n1 P1 r1=> ?_;obtain⟨y,e3,rfl⟩:=bX e1;obtain⟨ue3,rfl⟩:=cJ e3;unfold EG at ue3;split at ue3
  ·rename_i kvs hcell
   obtain⟨k,rfl,e4⟩:=cX hcell;obtain⟨out,e5,rfl⟩:=aF ue3;obtain⟨a,rfl,e6,vs,e7,kv⟩:=P1.st.ref r1 e4;refine⟨.inr (.inr (.inl ⟨rfl,.inr ⟨vs,e7⟩⟩)),a,vs,rfl,rfl,e7,fun w nw=> ?_⟩;have hne:a≠w:=aG e7 nw;have s2:=bO (o:=LF w a) nw;refine⟨w,a,vs,_,out,ok1,rfl,aJ,by rw[aE hne];exact e7,kv.vals.same s2,e5,fun l ys nl rs=> ?_⟩;have s3:=bO (o:=.lst ys) nl;exact q _ ok1 _ (n1.trans (.same P1.okh P1.st (s2.trans s3))) (.lst_new (P1.okh l (s2.free nl)) nl rs)
  ·cases ue3
def Ml (K:aa) (n:Nat):List V->Hp->VK->Prop:=fun xs H Q=>∃ d kvs out ok,xs=[.ref d]/\H d=zn (.dT kvs)/\OkH ok H/\iU n (kvs.map fun p=>bE p.1)=zn out/\∀ l ys,H l=zo->Reps K ok H ys out->Q (.ref l) (upd H l (.lst ys))
theorem vQ {K:aa} (hok:OkH ok H):∀ {kvs:List (List Key×V)}{as:List ag},as.length=kvs.length->(∀(j:Nat) p a,kvs[j]?=zn p->as[j]?=zn a->H a=zn (.tup (p.1.map kV)))->Reps K ok H (as.map V.ref) (kvs.map fun p=>bE p.1)
 |[],[],_,_=>.nil
 |p::kvs,a::as,hl,h=>by
  refine .cons ?_ (vQ hok (by simpa using hl) fun j q b e1 e2=>h (j+1) q b (by simpa using e1) (by simpa using e2))
  have:=h 0 p a rfl rfl
  exact .tup ⟨hok.tp a _ this,this⟩ (yH p.1)
 |[],_::_,hl,_=>by cases hl
 |_::_,[],hl,_=>by cases hl
theorem FB (hc:X.calm=true) (hu:X.A.units+(n+2)<fj):CallR X (.builtin "sorted") (Ml X.K n):=by
 intro pins s σ H xs us Q I r h;obtain⟨d,kvs,out,ok,rfl,hd,hok,hs,q⟩:=h;obtain⟨u,rfl,rx⟩:=jR r;cases rx;obtain⟨lo,hz,es,ep,rd,sz,it⟩:=oO I (.inl hd)
 -- the keys' addresses
 have hex:∀ j,j<es.size->∃ a,∃ y p,es[j]?=zn y/\kvs[j]?=zn p/\y.key=.ref a/\H a=zn (.tup (p.1.map kV)):=fun j hj=>by
  obtain⟨p,p1,_,a,p2,p3⟩:=it j es[j] (by simp[hj]);exact⟨a,_,p,by simp[hj],p1,p2,p3⟩
 have hass:∃ as:List ag,as.length=kvs.length/\∀(j:Nat) a,as[j]?=zn a->∃ y p,es[j]?=zn y/\kvs[j]?=zn p/\y.key=.ref a/\H a=zn (.tup (p.1.map kV)):=by
  refine⟨(aw es.size).map fun j=>if hj:j<es.size then(hex j hj).choose else 0,by simp[sz],fun j a ha=> ?_⟩;rw[bg] at ha;obtain⟨j',e1,e2⟩:=aF ha;have hj0:j<es.size:=by
   rcases oy j es.size with z|z
   ·exact z
   ·rw[b7 (by simpa using z)] at e1;cases e1
  have hj:j<es.size/\j'=j:=by
   rw[fw hj0] at e1;cases e1;exact⟨hj0,rfl⟩
  obtain⟨hj,rfl⟩:=hj;rw[dif_pos hj] at e2;rw[<- e2];exact(hex _ hj).choose_spec
 obtain⟨as,al,ah⟩:=hass;have rs:Reps X.K ok H (as.map V.ref) (kvs.map fun p=>bE p.1):=vQ hok al fun j p a e1 e2=>by
  obtain⟨y,p',_,g2,_,g4⟩:=ah j a e2;rw[e1] at g2;cases g2;exact g4
 have hPP:∀(j:Nat) v x,(∃ e,es[j]?=zn e/\v=e.key)->(as.map V.ref)[j]?=zn x->RelV x v:=fun j v x ⟨e,e1,e2⟩ hx=>by
  rw[bg] at hx;obtain⟨a,a1,a2⟩:=aF hx;subst a2;obtain⟨y,p,g1,_,g3,_⟩:=ah j a a1;rw[e1] at g1;cases g1;rw[e2,g3];rfl
 by_cases hl:kvs.length<2
 ·obtain rfl:=uT hs (by simpa using hl);refine mX (At (d:=d) (es:=es) (ep:=ep) lo) (I.ok.hd hc) rd (by rw[sz];exact hl) fun h' tk vs a c kp na hlen hP ha=> ?_;have rv:Vals (as.map V.ref) vs:=CD (by rw[hlen,sz,am,al]) fun j w hw=>by
   have hj:j<as.length:=by
    have:=(bx.mp hw).1
    rw[al,<- sz,<- hlen];exact this
   exact⟨.ref as[j],by rw[bg,bi hj];rfl,hPP j w _ (hP j w hw) (by rw[bg,bi hj];rfl)⟩
  obtain⟨hn,I'⟩:=I.laidN (t':=tk) kp na (sI (H:=upd H a (.lst (as.map V.ref))) rv (by rw[am,al];exact hz) ha);exact⟨.ref a,_,I',rfl,q a _ hn rs⟩
 ·have h64:=uS hs (by simpa using hl);rw[am] at h64;exact mW I (At (d:=d) (es:=es) (ep:=ep) lo) (I.ok.hd hc) rd (by omega) (by omega) hu (by rw[am,al,sz]) hPP rs hs fun h' tk ys l nl I' rs'=>⟨.ref l,_,I',rfl,q l ys nl rs'⟩
noncomputable def EH (n:Nat) (ω:Om) (ds:List D):Option (D×Om):=match ds with
 |[d]=>match cellOf ω d with
  |some (.dt kvs)=>(iU n (kvs.map fun p=>bE p.1)).map fun out=>(.lst out,ω)
  |_=>zo
 |_=>zo
theorem HM {K:aa}:uF cls K (Ml K n) (EH n):=fun ok H ω xs as d ω' Q h1 st r e k=>by
 unfold EH at e;split at e
 ·split at e
  ·rename_i kvs hcell
   obtain⟨out,e5,e6⟩:=aF e;cases e6;obtain⟨n,rfl,e1⟩:=cX hcell;obtain⟨v,rfl,r1⟩:=r.one_inv;obtain⟨a,rfl,e6,vs,e7,kv⟩:=st.ref r1 e1;have hk:(vs.map fun p=>bE p.1)=kvs.map fun p=>bE p.1:=by
    have:=congrArg (List.map bE) kv.keys
    rw[gp,gp] at this;exact this
   refine⟨a,vs,out,ok,rfl,e7,h1,?_,fun l ys nl rs=>k _ ok _ (.same h1 st (bO nl)) (.lst_new (h1 l nl) nl rs)⟩;rw[hk];exact e5
  ·cases e
 ·cases e
end
section
variable {X:Cx}{cls exC:Nat->ag}{E:XE}{e a b c o i o2 i2 value:b0}{es rest:List b0}{fa fb fc fo fi fo2 fi2 fv:OG D}{fl:OG (List D)}{ft ft':OG Bool}{pos p apos pos' pos2 tp cpos:Pos}{x m:Str}{st:c9}
theorem Kl (ha:OE X cls E a fa) (hb:OE X cls E b fb):OE X cls E (.BinOp a .Add b pos) (MB.o2 (lf KZ) fa fb):=sD BF (Fit2.lift (fun ok H x y a b d Q h1 ra rb e k=>by
 cases a with
 |str u=>cases b with
  |str v=>
   obtain⟨hz,rfl⟩:=bA (show(if u.length+v.length<=sizeLine then zn (D.str (u++v)) else zo)=zn d from e);exact⟨u,v,ra.str_inv,rb.str_inv,hz,k _ H (Same.refl H) (.str _)⟩
  |_=>cases e
 |_=>cases e)) ha hb
theorem JW (ha:OE X cls E a fa) (hb:OE X cls E b fb):OE X cls E (.BinOp a .Mult b pos) (MB.o2 (lf KY) fa fb):=sD JM (Fit2.lift (fun ok H x y a b d Q h1 ra rb e k=>by
 cases a with
 |str u=>cases b with
  |int v=>
   obtain⟨hz,rfl⟩:=bA (show(if 0<=v/\v<=100000/\u.length<=100 then zn (D.str (OJ u v)) else zo)=zn d from e);exact⟨u,v,ra.str_inv,rb.int_inv,hz,k _ H (Same.refl H) (.str _)⟩
  |_=>cases e
 |_=>cases e)) ha hb
noncomputable def kP (ω:Om) (d:D):D:=match dX ω d with
 |some ds=>.lst ds
 |none=>d
theorem iP {K:aa} (t:Stt cls K ok H ω) (r:Rep K ok H v d):Rep K ⟨fun _=>True,ok.al⟩ H v (kP ω d):=by
 unfold kP;cases hs:dX ω d with
 |some ds=>exact mY t r hs
 |none=>exact r.wide
noncomputable def lL (n:Nat) (ω:Om) (a b:D):Option (D×Om):=pu (gEq n (kP ω a) (kP ω b)) ω
noncomputable def AX (n:Nat) (ω:Om) (a b:D):Option (D×Om):=pu (gNe n (kP ω a) (kP ω b)) ω
theorem EX {K:aa}:xB cls K (QE K n) (lL n):=fun ok H ω x y a b d ω' Q h1 st ra rb e k=>by
 obtain⟨ue,rfl⟩:=cJ e;obtain⟨c,e1,rfl⟩:=aF ue;exact⟨_,_,_,c,iP st ra,iP st rb,e1,k _ ok H (.refl h1 st) (.bl _)⟩
theorem ET {K:aa}:xB cls K (Qy K n) (AX n):=fun ok H ω x y a b d ω' Q h1 st ra rb e k=>by
 obtain⟨ue,rfl⟩:=cJ e;obtain⟨c,e1,rfl⟩:=aF ue;exact⟨_,_,_,c,iP st ra,iP st rb,e1,k _ ok H (.refl h1 st) (.bl _)⟩
theorem Nz (hu:IX X n) (ha:OE X cls E a fa) (hb:OE X cls E b fb):OE X cls E (.Compare a [.Eq] [b] pos) (MB.o2 (lL n) fa fb):=vH (IH hu) EX ha hb (iZ _)
theorem Nq (hu:IX X n) (ha:OE X cls E a fa) (hb:OE X cls E b fb):OE X cls E (.Compare a [.NotEq] [b] pos) (MB.o2 (AX n) fa fb):=vH (IF hu) ET ha hb (iZ _)
theorem MS (hu:IX X n) (ha:OE X cls E a fa) (hb:OE X cls E b fb):OT X cls E (.Compare a [.Eq] [b] pos) (dG (MB.o2 (lL n) fa fb)):=qJ (IH hu) EX ha hb (iZ _)
theorem MQ (hu:IX X n) (ha:OE X cls E a fa) (hb:OE X cls E b fb):OT X cls E (.Compare a [.NotEq] [b] pos) (dG (MB.o2 (AX n) fa fb)):=qJ (IF hu) ET ha hb (iZ _)
end
end L2.MB
end
section
namespace L2.MB
open PySem PySem.Spec PyProof.Rows PySem.W
def Tree {α:Type} (n:Nat) (Q:α->Prop):KasT α->Prop
 |.ret a=>Q a
 |.ask i j k=>i<n/\j<n/\∀ b,Tree n Q (k b)
theorem Tree.bind {f:α->KasT β} (g:∀ a,Q a->Tree n R (f a)):∀ {t:KasT α},Tree n Q t->Tree n R (t.bind f)
 |.ret a,h=>by rw[KasT.bind.eq_1];exact g a h
 |.ask i j k,h=>by
  rw[KasT.bind.eq_2];exact⟨h.1,h.2.1,fun b=>Tree.bind g (h.2.2 b)⟩
theorem Tree.run (hl:∀ i j,i<n->j<n->∃ c,lt i j=zn c):∀ {t:KasT α},Tree n Q t->∃ a,Jj lt t=zn a/\Q a
 |.ret a,h=>⟨a,rfl,h⟩
 |.ask i j k,h=>by
  obtain⟨c,e⟩:=hl i j h.1 h.2.1;obtain⟨a,e2,q⟩:=Tree.run hl (h.2.2 c);refine⟨a,?_,q⟩
  show(lt i j).bind _=_
  rw[e];exact e2
def Pm (n:Nat) (p:Array Nat):Prop:=p.Perm (aw n).toArray
theorem Pm.lt (h:Pm n p) (h0:0<n) (i:Nat):p.getD i 0<n:=by
 rw[ci];cases q:p[i]? with
 |none=>exact h0
 |some x=>
  have hm:x∈p:=Array.mem_of_getElem? q
  have:x∈(aw n).toArray:=(h.mem_iff).mp hm
  simpa using this
theorem Pm.rev (h:Pm n p) (i j:Nat):Pm n (kas_rev p i j):=(mirror_perm p i j _).trans h
theorem Pm.bub (h:Pm n p) (k d:Nat):Pm n (bubble p k d):=(bubble_perm p k d).trans h
section
variable {n:Nat} (h0:0<n)
include h0
theorem rX (hp:Pm n p):∀(f m:Nat),Tree n (fun _=>True) (kas_asc p f m)
 |0,m=>by rw[kas_asc.eq_def];trivial
 |f+1,m=>by
  rw[kas_asc.eq_def];refine⟨hp.lt h0 _,hp.lt h0 _,fun b=> ?_⟩;cases b with
  |true=>(dsimp only;rw[if_pos rfl]);trivial
  |false=>(dsimp only;rw[if_neg cg]);exact rX hp f (m+1)
theorem jU:∀(f:Nat) {p:Array Nat} (m q:Nat),Pm n p->Tree n (fun r:Array Nat×Nat×Nat=>Pm n r.1) (kas_desc f p m q)
 |0,p,m,q,hp=>by rw[kas_desc.eq_def];exact hp
 |f+1,p,m,q,hp=>by
  rw[kas_desc.eq_def];refine⟨hp.lt h0 _,hp.lt h0 _,fun b=> ?_⟩;cases b with
  |true=>
   (dsimp only;rw[if_pos rfl])
   by_cases hq:q>0
   ·rw[if_pos hq];exact jU f _ _ (hp.rev _ _)
   ·rw[if_neg hq];exact jU f _ _ hp
  |false=>
   (dsimp only;rw[if_neg cg])
   refine⟨hp.lt h0 _,hp.lt h0 _,fun b=> ?_⟩;cases b with
   |true=>(dsimp only;rw[if_pos rfl]);exact hp
   |false=>(dsimp only;rw[if_neg cg]);exact jU f _ _ hp
theorem uK (m r:Nat) (hp:Pm n p):Tree n (fun r:Nat×Array Nat=>Pm n r.2) (kas_tail3 m r p):=by
 unfold kas_tail3;refine Tree.bind (Q:=fun _=>True) (fun a _=> ?_) (rX h0 (hp.rev _ _) _ _);exact hp.rev _ _
theorem jT (m r:Nat) (hp:Pm n p):Tree n (fun r:Nat×Array Nat=>Pm n r.2) (kas_descPart m r p):=by
 unfold kas_descPart;refine(jU h0 _ _ _ hp).bind fun a ha=> ?_;split
 ·exact uK h0 _ _ (Pm.rev ha _ _)
 ·exact uK h0 _ _ ha
theorem Bw (r:Nat) (hp:Pm n p):Tree n (fun r:Nat×Array Nat=>Pm n r.2) (kas_count r p):=by
 unfold kas_count;refine(rX h0 hp _ _).bind fun a _=> ?_;split
 ·exact hp
 ·split
  ·refine⟨hp.lt h0 _,hp.lt h0 _,fun b=> ?_⟩;cases b with
   |true=>(dsimp only;rw[if_pos rfl]);exact hp
   |false=>(dsimp only;rw[if_neg cg]);exact jT h0 _ _ (hp.rev _ _)
  ·exact jT h0 _ _ hp
theorem kX (hp:Pm n p) (k:Nat):∀(f l r:Nat),Tree n (fun _=>True) (kas_place p k f l r)
 |0,l,r=>by rw[kas_place.eq_def];trivial
 |f+1,l,r=>by
  rw[kas_place.eq_def];show Tree n _ (if l≥r then _ else _);split
  ·trivial
  ·refine⟨hp.lt h0 _,hp.lt h0 _,fun b=> ?_⟩;cases b with
   |true=>(dsimp only;rw[if_pos rfl]);exact kX hp k f _ _
   |false=>(dsimp only;rw[if_neg cg]);exact kX hp k f _ _
theorem Ao:∀(f:Nat) {p:Array Nat} (k:Nat),Pm n p->Tree n (fun r:Array Nat=>Pm n r) (kas_bin f p k)
 |0,p,k,hp=>by rw[kas_bin.eq_def];exact hp
 |f+1,p,k,hp=>by
  rw[kas_bin.eq_def];exact(kX h0 hp k _ _ _).bind fun l _=>Ao f _ (hp.bub _ _)
theorem uL:Tree n (fun r:Array Nat=>Pm n r) (kas_sort n):=by
 unfold kas_sort;refine(Bw h0 _ (y3 _)).bind fun r hr=> ?_;split
 ·exact Ao h0 _ _ hr
 ·exact hr
end
theorem Au (h64:ds.length<64) (hk:jE ds=true) (hl:∀ a∈ds,∀ b∈ds,∃ c,sH m a b=zn c):∃ out,iU m ds=zn out/\out.Perm ds:=by
 unfold iU
 by_cases h2:ds.length<2
 ·rw[if_pos h2];exact⟨ds,rfl,.refl _⟩
 ·rw[if_neg h2,if_pos ⟨h64,hk⟩];have gm:∀ i,i<ds.length->ds.getD i .non∈ds:=fun i hi=>by
   rw[ax,bi hi];exact gw hi
  obtain⟨p,e,hp⟩:=Tree.run (n:=ds.length) (lt:=fun i j=>sH m (ds.getD i .non) (ds.getD j .non)) (fun i j hi hj=>hl _ (gm i hi) _ (gm j hj)) (uL (n:=ds.length) (by omega));rw[e];have pl:p.toList.Perm (aw ds.length):=by
   have:=hp
   unfold Pm at this;rw[m8] at this;simpa using this
  have hl2:p.toList.length<=64:=by rw[pl.length_eq,fg];omega
  refine⟨_,by show(if p.toList.length<=64 then _ else zo)=_;rw[if_pos hl2],?_⟩;refine(pl.map _).trans ?_
  have:(aw ds.length).map (fun i=>ds.getD i .non)=ds:=by
   apply iy;intro i;rw[bg];rcases oy i ds.length with h|h
   ·rw[fw h,bi h];show zn (ds.getD i .non)=_;rw[ax,bi h];rfl
   ·rw[b7 h,b7 (by simpa using h)];rfl
  rw[this]
def TreeL {α:Type} (L:Nat->Nat->Bool) (Q:α->Prop):KasT α->Prop
 |.ret a=>Q a
 |.ask i j k=>TreeL L Q (k (L i j))
theorem TreeL.bind {f:α->KasT β} (g:∀ a,Q a->TreeL L R (f a)):∀ {t:KasT α},TreeL L Q t->TreeL L R (t.bind f)
 |.ret a,h=>by rw[KasT.bind.eq_1];exact g a h
 |.ask i j k,h=>by
  rw[KasT.bind.eq_2];exact TreeL.bind g h
theorem TreeL.run:∀ {t:KasT α}{a:α},TreeL (fun i j=>lt i j==zn true) Q t->Jj lt t=zn a->Q a
 |.ret a,_,h,e=>by cases e;exact h
 |.ask i j k,a,h,e=>by
  change TreeL _ Q (k (lt i j==zn true)) at h
  change (lt i j).bind (fun c=>Jj lt (k c))=zn a at e
  cases hq:lt i j with
  |none=>rw[hq] at e;cases e
  |some c=>
   rw[hq] at e h
   have:(zn c==zn true)=c:=by cases c <;> rfl
   rw[this] at h;exact TreeL.run h e
section
variable {n:Nat}{L:Nat->Nat->Bool} (ht:∀ i j,i<n->j<n->i≠j->L i j=false->L j i=true) (hr:∀ i j k,i<n->j<n->k<n->L i j=true->L j k=true->L i k=true)
def Asc (L:Nat->Nat->Bool) (p:Array Nat) (m:Nat):Prop:=∀ i j,i<j->j<m->L (p.getD i 0) (p.getD j 0)=true
def Dsc (L:Nat->Nat->Bool) (p:Array Nat) (m:Nat):Prop:=∀ i j,i<j->j<m->L (p.getD j 0) (p.getD i 0)=true
theorem Pm.size (h:Pm n p):p.size=n:=by
 have:=h.size_eq
 simpa using this
theorem Pm.ne (h:Pm n p) (hi:i<n) (hj:j<n) (hne:i≠j):p.getD i 0≠p.getD j 0:=by
 have pl:p.toList.Perm (aw n):=by
  have:=h
  unfold Pm at this;rw[m8] at this;simpa using this
 have nd:p.toList.Nodup:=pl.nodup_iff.mpr List.nodup_range;have hs:=h.size;intro z;have gi:p.getD i 0=p.toList[i]'(by simp[hs,hi]):=by
  rw[ci,c7 (by omega)];simp
 have gj:p.getD j 0=p.toList[j]'(by simp[hs,hj]):=by
  rw[ci,c7 (by omega)];simp
 rw[gi,gj] at z;have pw:=tu.mp nd;rcases Nat.lt_or_gt_of_ne hne with q|q
 ·exact pw i j _ _ q z
 ·exact pw j i _ _ q z.symm
include ht hr in
theorem Il {p:Array Nat} (h0:0<n) (hp:Pm n p) {m:Nat} (h1:1<=m) (hm:m<n) (a:Asc L p m) (c:L (p.getD m 0) (p.getD (m-1) 0)=false):Asc L p (m+1):=by
 have up:=ht _ _ (hp.lt h0 m) (hp.lt h0 (m-1)) (hp.ne hm (by omega) (by omega)) c;intro i j hij hj
 by_cases e:j=m
 ·subst e
  by_cases e2:i=j-1
  ·rw[e2];exact up
  ·exact hr _ _ _ (hp.lt h0 _) (hp.lt h0 _) (hp.lt h0 _) (a i (j-1) (by omega) (by omega)) up
 ·exact a i j hij (by omega)
include ht hr in
theorem xX {p:Array Nat} (h0:0<n) (hp:Pm n p):∀(f m:Nat),1<=m->m+f<=n->Asc L p m->TreeL L (fun q=>m<=q/\q<=m+f/\Asc L p q/\(q<m+f->L (p.getD q 0) (p.getD (q-1) 0)=true)) (kas_asc p f m)
 |0,m,h1,hm,a=>by
  rw[kas_asc.eq_def];exact⟨bp _,bp _,a,fun z=>by omega⟩
 |f+1,m,h1,hm,a=>by
  rw[kas_asc.eq_def];show TreeL L _ (if L (p.getD m 0) (p.getD (m-1) 0)=true then KasT.ret m else kas_asc p f (m+1));cases c:L (p.getD m 0) (p.getD (m-1) 0) with
  |true=>
   rw[if_pos rfl];exact⟨bp _,by omega,a,fun _=>c⟩
  |false=>
   rw[if_neg cg];have ih:=xX h0 hp f (m+1) (by omega) (by omega) (Il ht hr h0 hp h1 (by omega) a c)
   have:m+1+f=m+(f+1):=by omega
   rw[this] at ih;have mono:∀ {t:KasT Nat},TreeL L (fun q=>m+1<=q/\q<=m+(f+1)/\Asc L p q/\(q<m+(f+1)->L (p.getD q 0) (p.getD (q-1) 0)=true)) t->TreeL L (fun q=>m<=q/\q<=m+(f+1)/\Asc L p q/\(q<m+(f+1)->L (p.getD q 0) (p.getD (q-1) 0)=true)) t:=by
    intro t
    induction t with
    |ret a=>exact fun h=>⟨by have:=h.1;omega,h.2⟩
    |ask i j k ih=>exact fun h=>ih _ h
   exact mono ih
include ht hr in
theorem AG {p:Array Nat} (h0:0<n) (hp:Pm n p):∀(f m:Nat),1<=m->m+f<=n->Dsc L p m->TreeL L (fun r:Array Nat×Nat×Nat=>r.1=p/\r.2.2=0/\m<=r.2.1/\r.2.1<=m+f/\Dsc L p r.2.1) (kas_desc f p m 0)
 |0,m,h1,hm,a=>by
  rw[kas_desc.eq_def];exact⟨rfl,rfl,bp _,bp _,a⟩
 |f+1,m,h1,hm,a=>by
  rw[kas_desc.eq_def];show TreeL L _ (if L (p.getD m 0) (p.getD (m-1) 0)=true then(if 0>0 then kas_desc f (kas_rev p (m-(0+1)) m) (m+1) 0 else kas_desc f p (m+1) 0) else KasT.ask (p.getD (m-1) 0) (p.getD m 0) fun d=>if d=true then .ret (p,m,0) else kas_desc f p (m+1) (0+1));cases c:L (p.getD m 0) (p.getD (m-1) 0) with
  |true=>
   rw[if_pos rfl,if_neg (d5 0)];have a':Dsc L p (m+1):=by
    intro i j hij hj
    by_cases e:j=m
    ·subst e
     by_cases e2:i=j-1
     ·rw[e2];exact c
     ·exact hr _ _ _ (hp.lt h0 _) (hp.lt h0 _) (hp.lt h0 _) c (a i (j-1) (by omega) (by omega))
    ·exact a i j hij (by omega)
   have ih:=AG h0 hp f (m+1) (by omega) (by omega) a';have mono:∀ {t:KasT (Array Nat×Nat×Nat)},TreeL L (fun r:Array Nat×Nat×Nat=>r.1=p/\r.2.2=0/\m+1<=r.2.1/\r.2.1<=m+1+f/\Dsc L p r.2.1) t->TreeL L (fun r:Array Nat×Nat×Nat=>r.1=p/\r.2.2=0/\m<=r.2.1/\r.2.1<=m+(f+1)/\Dsc L p r.2.1) t:=by
    intro t
    induction t with
    |ret a=>exact fun h=>⟨h.1,h.2.1,by have:=h.2.2.1;omega,by have:=h.2.2.2.1;omega,h.2.2.2.2⟩
    |ask i j k ih=>exact fun h=>ih _ h
   exact mono ih
  |false=>
   rw[if_neg cg];show TreeL L _ (if L (p.getD (m-1) 0) (p.getD m 0)=true then KasT.ret (p,m,0) else _);rw[if_pos (ht _ _ (hp.lt h0 _) (hp.lt h0 _) (hp.ne (by omega) (by omega) (by omega)) c)];exact⟨rfl,rfl,bp _,by show m<=m+(f+1);omega,a⟩
theorem AU (hm:m<=p.size) (hk:k<m):(kas_rev p 0 m).getD k 0=p.getD (m-1-k) 0:=by
 unfold kas_rev;rw[ci,ci,getElem?_mirror_all hm,if_pos ⟨i4 _,hk⟩,Nat.zero_add]
theorem Dsc.rev (hm:m<=p.size) (d:Dsc L p m):Asc L (kas_rev p 0 m) m:=fun i j hij hj=>by
 rw[AU hm (by omega),AU hm hj];exact d _ _ (by omega) (by omega)
include ht hr in
theorem Dv {p:Array Nat} (h2:2<=n) (hp:Pm n p):TreeL L (fun r:Nat×Array Nat=>Pm n r.2/\1<=r.1/\r.1<=n/\Asc L r.2 r.1) (kas_count n p):=by
 have h0:0<n:=by omega
 unfold kas_count;refine(xX ht hr h0 hp (n-1) 1 (bp _) (by omega) fun i j hij hj=>by omega).bind fun q hq=> ?_;obtain⟨q1,q2,qa,qs⟩:=hq
 by_cases e:q=n
 ·rw[if_pos (by simpa using e)];exact⟨hp,q1,by omega,qa⟩
 ·rw[if_neg (by simpa using e)]
  by_cases h1:q>1
  ·rw[if_pos h1];show TreeL L _ (if L (p.getD 0 0) (p.getD (q-1) 0)=true then KasT.ret (q,p) else _);rw[if_pos (qa 0 (q-1) (by omega) (by omega))];exact⟨hp,q1,by omega,qa⟩
  ·rw[if_neg h1];have hq1:q=1:=by omega
   subst hq1;have c:=qs (by omega);unfold kas_descPart;refine(AG ht hr h0 hp (n-(1+1)) (1+1) (by omega) (by omega) fun i j hij hj=> ?_).bind fun r hrr=> ?_
   ·have:i=0/\j=1:=by omega
    rw[this.1,this.2];exact c
   ·obtain⟨r1,r2,r3,r4,r5⟩:=hrr;rw[if_neg (by omega),r1];unfold kas_tail3;have hs:=hp.size;refine(xX ht hr h0 (hp.rev 0 r.2.1) (n-r.2.1) r.2.1 (by omega) (by omega) (r5.rev (by omega))).bind fun m hm=> ?_;exact⟨hp.rev _ _,by have:=hm.1;show 1<=m;omega,by have:=hm.2.1;show m<=n;omega,hm.2.2.1⟩
include ht hr in
theorem nJ {p:Array Nat} (h0:0<n) (hp:Pm n p) {k:Nat} (hk:k<n) (a:Asc L p k):∀(f l r:Nat),l<=r->r<=k->r-l<=f->(∀ i,i<l->L (p.getD i 0) (p.getD k 0)=true)->(∀ i,r<=i->i<k->L (p.getD k 0) (p.getD i 0)=true)->TreeL L (fun q=>q<=k/\(∀ i,i<q->L (p.getD i 0) (p.getD k 0)=true)/\(∀ i,q<=i->i<k->L (p.getD k 0) (p.getD i 0)=true)) (kas_place p k f l r)
 |0,l,r,h1,h2,h3,h4,h5=>by
  rw[kas_place.eq_def]
  have:r=l:=by omega
  subst this;exact⟨h2,h4,h5⟩
 |f+1,l,r,h1,h2,h3,h4,h5=>by
  rw[kas_place.eq_def];show TreeL L _ (if l≥r then KasT.ret l else _)
  by_cases e:l≥r
  ·rw[if_pos e]
   have:r=l:=by omega
   subst this;exact⟨h2,h4,h5⟩
  ·rw[if_neg e];show TreeL L _ (if L (p.getD k 0) (p.getD ((l+r) / 2) 0)=true then kas_place p k f l ((l+r) / 2) else kas_place p k f ((l+r) / 2+1) r);cases c:L (p.getD k 0) (p.getD ((l+r) / 2) 0) with
   |true=>
    rw[if_pos rfl];refine nJ h0 hp hk a f l ((l+r) / 2) (by omega) (by omega) (by omega) h4 fun i hi hik=> ?_
    by_cases e2:i=(l+r) / 2
    ·rw[e2];exact c
    ·exact hr _ _ _ (hp.lt h0 _) (hp.lt h0 _) (hp.lt h0 _) c (a _ _ (by omega) hik)
   |false=>
    rw[if_neg cg];have up:=ht _ _ (hp.lt h0 _) (hp.lt h0 _) (hp.ne hk (by omega) (by omega)) c;refine nJ h0 hp hk a f ((l+r) / 2+1) r (by omega) (by omega) (by omega) (fun i hi=> ?_) h5
    by_cases e2:i=(l+r) / 2
    ·rw[e2];exact up
    ·exact hr _ _ _ (hp.lt h0 _) (hp.lt h0 _) (hp.lt h0 _) (a _ _ (by omega) (by omega)) up
theorem AV (hk:k<p.size) (hl:l<=k):(bubble p k (k-l)).getD i 0=if i=l then p.getD k 0 else if l<i/\i<=k then p.getD (i-1) 0 else p.getD i 0:=by
 rw[ci,getElem?_bubble hk (k-l) (by omega)]
 have:k-(k-l)=l:=by omega
 rw[this]
 by_cases h1:i=l
 ·rw[if_pos h1,if_pos h1,ci]
 ·rw[if_neg h1,if_neg h1]
  by_cases h2:l<i/\i<=k
  ·rw[if_pos h2,if_pos h2,ci]
  ·rw[if_neg h2,if_neg h2,ci]
theorem Asc.bub (hk:k<p.size) (hl:l<=k) (a:Asc L p k) (h1:∀ i,i<l->L (p.getD i 0) (p.getD k 0)=true) (h2:∀ i,l<=i->i<k->L (p.getD k 0) (p.getD i 0)=true):Asc L (bubble p k (k-l)) (k+1):=by
 intro i j hij hj;rw[AV hk hl,AV hk hl]
 by_cases i1:i=l
 ·rw[if_pos i1,if_neg (by omega),if_pos (by omega)];exact h2 _ (by omega) (by omega)
 ·rw[if_neg i1]
  by_cases i2:l<i/\i<=k
  ·rw[if_pos i2,if_neg (by omega),if_pos (by omega)];exact a _ _ (by omega) (by omega)
  ·rw[if_neg i2]
   by_cases j1:j=l
   ·rw[if_pos j1];exact h1 _ (by omega)
   ·rw[if_neg j1]
    by_cases j2:l<j/\j<=k
    ·rw[if_pos j2];exact a _ _ (by omega) (by omega)
    ·rw[if_neg j2];exact a _ _ (by omega) (by omega)
include ht hr in
theorem Dw:∀(f:Nat) {p:Array Nat} (k:Nat),Pm n p->1<=k->k+f=n->Asc L p k->TreeL L (fun r:Array Nat=>Pm n r/\Asc L r n) (kas_bin f p k)
 |0,p,k,hp,_,hk,a=>by
  rw[kas_bin.eq_def]
  have:k=n:=by omega
  subst this;exact⟨hp,a⟩
 |f+1,p,k,hp,h1,hk,a=>by
  rw[kas_bin.eq_def];have hs:=hp.size;refine(nJ ht hr (by omega) hp (by omega) a k 0 k (by omega) (bp _) (by omega) (fun i hi=>by omega) fun i hi hik=>by omega).bind fun l hl=> ?_;exact Dw f (k+1) (hp.bub _ _) (by omega) (by omega) (Asc.bub (by omega) hl.1 a hl.2.1 hl.2.2)
include ht hr in
theorem GM (h2:2<=n):TreeL L (fun r:Array Nat=>Asc L r n) (kas_sort n):=by
 unfold kas_sort;refine(Dv ht hr h2 (y3 _)).bind fun r hrr=> ?_;obtain⟨r1,r2,r3,r4⟩:=hrr;have weak:∀ {t:KasT (Array Nat)},TreeL L (fun r:Array Nat=>Pm n r/\Asc L r n) t->TreeL L (fun r:Array Nat=>Asc L r n) t:=by
  intro t
  induction t with
  |ret a=>exact fun h=>h.2
  |ask i j k ih=>exact fun h=>ih _ h
 by_cases e:r.1<n
 ·rw[if_pos e,Nat.max_eq_left r2];exact weak (Dw ht hr (n-r.1) r.1 r1 r2 (by omega) r4)
 ·rw[if_neg e]
  have:r.1=n:=by omega
  rw[this] at r4;exact r4
end
def sLt (x y:Str):Prop:=x.cps.toList<y.cps.toList
theorem nD (h1:sLt x y) (h2:sLt y z):sLt x z:=List.lt_trans h1 h2
theorem iK (x:Str):¬ sLt x x:=List.lt_irrefl _
theorem uZ (h:x≠y):sLt x y∨sLt y x:=by
 by_cases q:x.cps.toList<y.cps.toList
 ·exact .inl q
 ·by_cases q2:y.cps.toList<x.cps.toList
  ·exact .inr q2
  ·exfalso
   apply h
   have:x.cps.toList=y.cps.toList:=List.le_antisymm (List.not_lt.mp q2) (List.not_lt.mp q)
   cases x;cases y;simp at this;simp[this]
section
variable {X:Cx}{cls exC:Nat->ag}{E:XE}{e a b c o i value:b0}{es rest:List b0}{fa fb fc fo fi fv:OG D}{fl:OG (List D)}{pos p apos pos' cpos:Pos}{x m:Str}{st:c9}
end
section
variable {X:Cx}{cls exC:Nat->ag}{E:XE}{e a b c o i value:b0}{es rest:List b0}{fa fb fc fo fi fv:OG D}{fl:OG (List D)}{pos p apos pos' cpos:Pos}{x m:Str}{st:c9}
end
section
variable {P:cj}{w:cz}{K:aa}{mg:Str->Option af}{base:cm}{cls exC:Nat->ag}
def Bod (P:cj) (w:cz) (K:aa) (mg:Str->Option af) (base:cm) (cls exC:Nat->ag) (k:Nat) (N:List Str) (q:Str) (st:c9) (G:OS):Prop:=∀(f:ag) (cdv:af) (A:df) (outer:List Env) (s:ao) (H:Hp) (E:XK),Room k (A.deeper (jx q (aX st) s.heap.objs.size f cdv))->(A.deeper (jx q (aX st) s.heap.objs.size f cdv)).units+8<fj->(A.deeper (jx q (aX st) s.heap.objs.size f cdv)).units+1<fj->(A.deeper (jx q (aX st) s.heap.objs.size f cdv)).units+(4+2)<fj->
 Exc (zG (CX1 P w exC) P w K mg base N q (aX st) f cdv A outer s H E) exC (fun c H'=>E (.ref (exC c)) zo H')->OR (zG (CX1 P w exC) P w K mg base N q (aX st) f cdv A outer s H E) exC (fun c H'=>E (.ref (exC c)) zo H')->OSs (zG (CX1 P w exC) P w K mg base N q (aX st) f cdv A outer s H E) cls (fun c H'=>E (.ref (exC c)) zo H') (fH st) G
theorem Bl {x q:Str}{st:c9}{f:ag}{fd:j7}{N ps:List Str}{k:Nat}{G:OS} (F:Fun K x q st f fd) (sc:jP N ps (aX st)) (b:Bod P w K mg base cls exC k N q st G):pX P w K mg base (CX1 P w exC) (k+1) f fd ps (spO cls exC K (eB ps.length N G)):=
 Rt F sc fun cdv A outer s H E hr hE hR=>b f cdv A outer s H E hr (Fh hr) (PV hr) (by have h8:(A.deeper (jx q (aX st) s.heap.objs.size f cdv)).units+8<fj:=Fh hr;omega) hE hR
def All:Nat->(List af->Prop)->Prop
 |0,Q=>Q []
 |n+1,Q=>∀ a,All n fun l=>Q (a::l)
theorem All.out:∀ {n:Nat}{Q:List af->Prop},All n Q->∀ us:List af,us.length=n->Q us
 |0,_,h,[],_=>h
 |_+1,_,h,a::_,e=>(h a).out _ (Nat.succ.inj e)
def Bnd (x q:Str) (st:c9) (ps:List Str):Prop:=All ps.length fun us=>∀(kV doc pm:af) (an:Option ag) (cdv ct:af),bindArgs (i5 x q (gD st) (fH st) (aX st) .none kV doc pm an cdv ct) ⟨us,[]⟩=pure (ps.zip us)
theorem Bnd.out {x q:Str}{st:c9}{ps:List Str}{f:ag}{fd:j7} (h:Bnd x q st ps) (F:Fun K x q st f fd):Binds K fd ps []:=F.binds fun _ _ _ _ _ _ us e=>All.out h us e _ _ _ _ _ _
theorem dfD {x:Str}{st:c9}{N ps:List Str}{k:Nat}{G:OS} (e:∃ f fd,OQ K mg x st f fd) (b:Bod P w K mg base cls exC k N x st G) (sc:jP N ps (aX st):=by constructor <;> first|rfl|decide+kernel) (hb:Bnd x x st ps:=by first|exact fun _ _ _ _ _ _ _=>rfl|exact fun _ _ _ _ _ _ _ _=>rfl|exact fun _ _ _ _ _ _ _ _ _=>rfl|exact fun _ _ _ _ _ _ _ _ _ _=>rfl):rS P w K mg base cls exC (k+1) x ps (eB ps.length N G):=
 let ⟨f,fd,F⟩:=e
 ⟨f,fd,Bl F.fn sc b,F.at_,F.fn.kp,hb.out F.fn⟩
theorem dfM {x q:Str}{st:c9}{N ps:List Str}{k c:Nat}{G:OS} (e:∃ f fd,Fun K x q st f fd/\Iu K (cls c) x f) (hc:Cls K (cls c)) (b:Bod P w K mg base cls exC k N q st G) (sc:jP N ps (aX st):=by constructor <;> first|rfl|decide+kernel) (hb:Bnd x q st ps:=by first|exact fun _ _ _ _ _ _ _=>rfl|exact fun _ _ _ _ _ _ _ _=>rfl|exact fun _ _ _ _ _ _ _ _ _=>rfl|exact fun _ _ _ _ _ _ _ _ _ _=>rfl):pH P w K mg base cls exC (k+1) c x ps (eB ps.length N G):=
 let ⟨f,fd,F,M⟩:=e
 ⟨⟨f,fd,Bl F sc b,M,hb.out F⟩,hc⟩
theorem dfI {x q:Str}{st:c9}{N ps:List Str}{k c:Nat}{C:Str}{G:OS} (e:∃ f fd,Fun K x q st f fd/\Mk K (cls c) f) (hm:mg C=zn (.ref (cls c))) (b:Bod P w K mg base cls exC k N q st G) (sc:jP N ps (aX st):=by constructor <;> first|rfl|decide+kernel) (hb:Bnd x q st ps:=by first|exact fun _ _ _ _ _ _ _=>rfl|exact fun _ _ _ _ _ _ _ _=>rfl|exact fun _ _ _ _ _ _ _ _ _=>rfl|exact fun _ _ _ _ _ _ _ _ _ _=>rfl):OP P w K mg base cls exC (k+1) c C ps (eB ps.length N G):=
 let ⟨f,fd,F,M⟩:=e
 ⟨⟨f,fd,Bl F sc b,M,hb.out F⟩,hm⟩
end
abbrev FF (K:aa) (mg:Str->Option af) (x:Str) (st:c9):Prop:=∃ f fd,OQ K mg x st f fd
abbrev FM (K:aa) (C:ag) (x q:Str) (st:c9):Prop:=∃ f fd,Fun K x q st f fd/\Iu K C x f
abbrev FI (K:aa) (C:ag) (x q:Str) (st:c9):Prop:=∃ f fd,Fun K x q st f fd/\Mk K C f
def AllP (p:Str->Str->c9->Prop):List (Str×Str×c9)->Prop
 |[]=>True
 |(x,q,s)::r=>p x q s/\AllP p r
theorem AllP.imp {p p':Str->Str->c9->Prop} (f:∀ x q s,p x q s->p' x q s):∀ {l:List (Str×Str×c9)},AllP p l->AllP p' l
 |[],_=>trivial
 |(_,_,_)::_,⟨a,b⟩=>⟨f _ _ _ a,AllP.imp f b⟩
theorem AllP.get {p:Str->Str->c9->Prop}{x q:Str}{s:c9}:∀ {l:List (Str×Str×c9)} (_:AllP p l) (i:Nat) (_:l[i]?=zn (x,q,s)),p x q s
 |(_,_,_)::_,⟨a,_⟩,0,e=>by cases e;exact a
 |(_,_,_)::_,⟨_,b⟩,i+1,e=>b.get i e
def QL (K:aa) (C:ag) (m qual:Str) (st:c9) (f:ag):Prop:=∃(oc:af) (od an:Option ag) (osl:Array (Option af)) (kV doc pm cdv ct:af),ie K (.ref C) m=zn (zn (.ref f))/\qk K (.ref f)=true/\
 K.lookup f=zn ⟨oc,od,.func (i5 m qual (gD st) (fH st) (aX st) .none kV doc pm an cdv ct),osl⟩/\kr K cdv qual=true/\hV K (.ref f)=true
theorem mtIn_mk {K:aa}{C:ag}{m qual:Str}{st:c9}{f:ag}{oc:af}{od an:Option ag}{osl:Array (Option af)}{kV doc pm cdv ct:af} (a:ie K (.ref C) m=zn (zn (.ref f)))
  (l:K.lookup f=zn ⟨oc,od,.func (i5 m qual (gD st) (fH st) (aX st) .none kV doc pm an cdv ct),osl⟩) (b:qk K (.ref f)=true) (c:kr K cdv qual=true) (k:hV K (.ref f)=true):QL K C m qual st f:=
 ⟨oc,od,an,osl,kV,doc,pm,cdv,ct,a,b,l,c,k⟩
def mtF (K:aa) (C:ag) (m qual:Str) (st:c9):Prop:=∃ f,QL K C m qual st f
theorem mtF.out {K:aa}{C:ag}{m qual:Str}{st:c9} (h:mtF K C m qual st):∃ f fd,Fun K m qual st f fd/\Iu K C m f:=by
 obtain⟨f,oc,od,an,osl,kV,doc,pm,cdv,ct,a,b,l,c,k⟩:=h;exact⟨f,_,IS l c k,a,b,k⟩
def clsIn (K:aa) (x:Str) (C:ag):Prop:=cy K b8 x=zn (zn (.ref C))
def mkIn (K:aa) (C:ag):Prop:=uq K C=true/\hV K (.ref C)=true
theorem mtF.mk {K:aa}{C:ag}{qual:Str}{st:c9} (h:mtF K C "__init__" qual st) (k:mkIn K C):FI K C "__init__" qual st:=match h.out with|⟨f,fd,F,M⟩=>⟨f,fd,F,⟨k.1,M.at_,M.fn,k.2⟩⟩
theorem own_mk {K:aa}{C:ag}{tl:List af}{dd:Option ag}{cd:ClassData}{k0 k1 k2 k3 k5:Option af} (h1:K.lookup C=zn ⟨.type "type",dd,.cls cd,#[k0,k1,k2,k3,zn (.builtin "ValueError.__new__"),k5]⟩)
  (h2:cd.mro=.ref C::tl) (h3:cd.hasDel=false) (h4:o8 K Bu tl=true) (h5:l9 K cd.ns=true) (h6:cy K cd.ns "__init__"=zn zo):ownIn K C tl:=⟨dd,cd,k0,k1,k2,k3,k5,h1,h2,h3,h4,h5,h6⟩
theorem nsOk_mk {K:aa}{N:ag}{c:af}{d:Option ag}{es:Array mh}{ep:Nat}{sl:Array (Option af)} (l:K.lookup N=zn ⟨c,d,.dict es ep,sl⟩) (h:(es.toList.all fun e=>match e.key with|.str _ _=>true|_=>false)=true):l9 K N=true:=by
 unfold l9;rw[l];exact yi.symm.trans h
theorem tail_mk {K:aa}{A:ag}{r:List af}{c:af}{dd:Option ag}{cd:ClassData}{sl:Array (Option af)} (l:K.lookup A=zn ⟨c,dd,.cls cd,sl⟩) (h1:l9 K cd.ns=true) (h2:cy K cd.ns "__init__"=zn zo) (h3:o8 K Bu r=true):o8 K Bu (.ref A::r)=true:=by
 rw[PySem.W.tailIn.eq_2,l]
 show(_||(l9 K cd.ns&&cy K cd.ns _==zn zo&&o8 K Bu r))=true
 rw[h1,h3,show cy K cd.ns (jc "__init__")=zn zo from h2];simp
noncomputable def nTg:b0->List Str
 |.Name x _=>[x]
 |.Tuple es _ _=>es.filterMap fun|.Name x _=>zn x|_=>zo
 |_=>[]
noncomputable def DR (N:List Str):List (Option Nat)->List Str->List Str
 |[],_=>[]
 |none::r,t::ts=>t::DR N r ts
 |some i::r,ts=>N.getD i ""::DR N r ts
 |none::r,[]=>DR N r []
noncomputable def PP (sc:k9) (x:Str):Bool:=sc.names.lookup x==zn .local||sc.names.lookup x==zn .cell
noncomputable def slB (N:List Str) (i:Nat) (x:Str):Bool:=decide (N[i]?=zn x)
section
variable {X:Cx}{x y:Str}{i j:Nat}
theorem DP:∀ {a b:Option im},(a==b)=true->a=b:=by
 intro a b h;cases a with
 |none=>cases b with
  |none=>rfl
  |some _=>cases h
 |some a=>cases b with
  |none=>cases h
  |some b=>cases a <;> cases b <;> first|rfl|cases h
theorem AL (h:PP sc x=true):Loc sc x:=(Bool.or_eq_true_iff.mp h).imp DP DP
theorem xN {N:List Str} (h:slB N i x=true):N[i]?=zn x:=of_decide_eq_true h
theorem dvk (h:(slB X.N i x&&(PP X.env.scope x||X.env.scope.names.lookup x==zn .free)&& !(x==("__debug__":Str))&& !(x==("__classdict__":Str)))=true):DE X (.Name x pos) (Fp i):=by
 simp only[bt,ji,ss] at h;refine dv i (xN h.1.1.1) ?_ h.1.2 h.2;rcases h.1.1.2 with z|z
 ·rcases AL z with z|z
  ·exact .inl z
  ·exact .inr (.inl z)
 ·exact .inr (.inr (DP z))
noncomputable def nsB (X:Cx) (x:Str) (i:Nat):Bool:=slB X.N i x&&PP X.env.scope x&&decide X.N.Nodup&&(X.fn x||X.env.scope.names.lookup x==zn .local)
theorem sF (h:nsB X x i=true):X.N.Nodup/\X.N[i]?=zn x/\Loc X.env.scope x/\(X.fn x=true∨X.env.scope.names.lookup x=zn .local):=by
 unfold nsB at h;simp only[bt,ji] at h;exact⟨of_decide_eq_true h.1.2,xN h.1.1.1,AL h.1.1.2,h.2.imp id DP⟩
theorem Rn (h:nsB X x i=true):PG X (.Name x tp) (gR X.K (aZ i)):=let ⟨a,b,c,d⟩:=sF h;KN a b c d
theorem Rm (hc:X.calm=true) (h:nsB X x i=true) (h':nsB X y j=true):PG X (.Tuple [.Name x p1,.Name y p2] k tp) (gR X.K (tQ i j)):=let ⟨a,b,c,d⟩:=sF h;let ⟨_,b',c',d'⟩:=sF h';KM hc a b b' c c' d d'
theorem Rv {cls:Nat->ag}{E:XE}{e:b0}{fa:OG D}{pos pos':Pos} (h:nsB X x i=true) (he:OE X cls E e fa) (hs:jw e (zn (.Name x pos')) pos.line X.env=pure false:=by rfl):OSt X cls E (.Assign [.Name x pos'] e pos) (aU i fa):=
 let ⟨a,b,c,d⟩:=sF h
 MZ a b c he hs (hf:=d)
theorem GS {cls:Nat->ag}{E:XE}{tg iter elt:b0}{ifs:List b0}{scope:k9}{caps:List (Option Nat)}{fi:OI'}{bd:BR}{t:OG Bool}{f:OG D}{pos:Pos} (Fn:Fin fin) (h1:X.calm=true) (h2:scope.kind=.function) (h3:(zJ scope&&Fu X.env.scope scope&&lO X.N X.env.scope scope (DR X.N caps (nTg tg)) caps)=true) (hi:OI X cls E tg iter fi)
  (hb:∀ cells C fp pins s₀ H₀,PG (blk X (DR X.N caps (nTg tg)) scope cells C fp pins s₀ H₀) tg (gR X.K bd)/\LC (blk X (DR X.N caps (nTg tg)) scope cells C fp pins s₀ H₀) cls EF ifs t/\OE (blk X (DR X.N caps (nTg tg)) scope cells C fp pins s₀ H₀) cls EF elt f)
  (hs:∀ x,g7 iter X.env x=pure x:=by intro _;rfl):OE X cls E (.ListComp elt [⟨tg,iter,ifs,0⟩] scope pos) (cY fin fi caps bd t f):=by
 simp only[bt] at h3;exact Kj Fn (wM h1 h2 h3.1.1 h3.1.2 h3.2) hi hb hs
theorem GL {cls:Nat->ag}{E:XE}{tg iter elt:b0}{ifs:List b0}{scope:k9}{caps:List (Option Nat)}{fi:OI'}{bd:BR}{t:OG Bool}{f:OG D}{pos spos py:Pos} (Fn:Fin fin) (h:(slB X.N i y&&(X.env.scope.names.lookup y==zn .local)&&decide X.N.Nodup)=true) (h1:X.calm=true) (h2:scope.kind=.function) (h3:(zJ scope&&Fu X.env.scope scope&&lO X.N X.env.scope scope (DR X.N caps (nTg tg)) caps)=true) (hi:OI X cls E tg iter fi)
  (hb:∀ cells C fp pins s₀ H₀,PG (blk X (DR X.N caps (nTg tg)) scope cells C fp pins s₀ H₀) tg (gR X.K bd)/\LC (blk X (DR X.N caps (nTg tg)) scope cells C fp pins s₀ H₀) cls EF ifs t/\OE (blk X (DR X.N caps (nTg tg)) scope cells C fp pins s₀ H₀) cls EF elt f)
  (hsw:jw (.ListComp elt [⟨tg,iter,ifs,0⟩] scope pos) (zn (.Name y py)) spos.line X.env=pure true:=by rfl)
  (hs:∀ x,g7 iter X.env x=pure x:=by intro _;rfl):OSt X cls E (.Assign [.Name y py] (.ListComp elt [⟨tg,iter,ifs,0⟩] scope pos) spos) (aU i (cY fin fi caps bd t f)):=by
 simp only[bt] at h h3;exact JL Fn (of_decide_eq_true h.2) (xN h.1.1) (DP h.1.2) (wM h1 h2 h3.1.1 h3.1.2 h3.2) hi hb hsw hs
end
noncomputable abbrev zV (i:Nat):OG D:=oP (Fp i)
noncomputable abbrev zI (i:Int):OG D:=oP (dC (.int i))
noncomputable abbrev zS (x:Str):OG D:=oP (dC (.str x))
noncomputable abbrev zX (f g:OG D):OG D:=o2 (fun ω a b=>pu (Cd ω a b) ω) f g
noncomputable abbrev zD (f g:OG D):OG D:=o2 (fun ω a b=>pu (sX ω a b) ω) f g
noncomputable abbrev zT (f:OG (List D)):OG D:=oL (fun ω ds=>pu (pP ds) ω) f
noncomputable abbrev zL (f:OG (List D)):OG D:=oL (fun ω ds=>pu (HE ds) ω) f
section
variable {X:Cx}{cls:Nat->ag}{E:XE}{e u:b0}{fa g:OG D}{pos:Pos}
end
def Kps (t t':jj):Prop:=t'.led=t.led/\(t.plain=false->t'.plain=false)
theorem Kps.stand (t:jj) (n:Nat):Kps t (t.standIn n):=⟨rfl,fun _=>rfl⟩
theorem Kps.trans {t t' u:jj} (x:Kps t t') (y:Kps t' u):Kps t u:=⟨y.1.trans x.1,fun z=>y.2 (x.2 z)⟩
theorem Ku (t:jj) (es:Array (Int×af)) (k:Int) (x:af):Kps t (layNew t es k x).2.1:=by
 unfold layNew;split
 ·show Kps t (xk _ _);unfold xk;split
  ·exact⟨rfl,fun z=>z⟩
  ·exact Kps.trans (t':=(t.put _).1) ⟨rfl,fun z=>z⟩ (.stand _ _)
 ·exact .stand _ _
theorem Kv (t:jj) (es:Array (Int×af)) (n:Nat):Kps t (uf t es n).2.1:=by
 unfold uf;split
 ·rename_i u order hu
  dsimp only;split
  ·unfold SetTable.relaid SetTable.laid at hu;obtain⟨ow,_,e⟩:=Option.bind_eq_some_iff.mp hu;cases e;exact⟨rfl,fun z=>z⟩
  ·exact .stand _ _
 ·exact .stand _ _
section
variable {prog:cj}{w:cz}{A:df}{E:af->ao->Prop}{s:ao}{a:ag}{o:Obj}{es:Array (Int×af)}{ep:Nat}{t:jj}
noncomputable abbrev SK (prog:cj) (w:cz):KeyKind prog w Str:=PySem.strKind prog w
theorem Bp {g:Bool->Sem Unit} (hg:∀(b:Bool) (s1:ao) (Q:Unit->ao->Prop),Q () s1->au (model prog w) A (g b) Q E s1) (ho:s.heap.get? a=zn o) (hd:o.data=.set es ep t)
  {es1:Array (Int×af)}{t2:jj} (hb:es1.size<rm) (hf:t2.fits es1.size=true) {dm:Bool}{R:Option Bool->ao->Prop}
  (h:∀ h' es' ep' t',d4 a s.heap h'->h'.get? a=zn { o with data:=.set es' ep' t' }->es'.toList.Perm es1.toList->t'.fits es'.size=true->Kps t2 t'->R (zn true) { s with heap:=h' }):
  au (model prog w) A (do
   storeSet a es1 t2
   if(!dm&&t2.tooFull)=true then do
     g (uf t2 es1 (pb es1.size)).2.2
     storeSet a (uf t2 es1 (pb es1.size)).1 (uf t2 es1 (pb es1.size)).2.1
     pure (zn true)
    else pure (zn true)) R E s:=by
 have upd1:∀ {hp:cm}{ob:Obj}{e0:Array (Int×af)}{p0:Nat}{t0:jj} (e1:Array (Int×af)) (u1:jj),hp.get? a=zn ob->ob.data=.set e0 p0 t0->(hp.update a (y4 e1 u1)).get? a=zn { ob with data:=.set e1 (p0+1) u1 }:=fun {hp ob e0 p0 t0} e1 u1 q1 q2=>by
  have:=ee (y4 e1 u1) q1 (by rw[putSet_of e1 u1 q2];rfl)
  rw[putSet_of e1 u1 q2] at this;exact this
 refine ae (wpAny_storeSet_of ho hd ?_ (fits_of_scanBound hb));have o1:=upd1 es1 t2 ho hd;have sb:=jr s.heap a (y4 es1 t2);split
 ·have p:=relayAll_perm t2 es1 (pb es1.size);have sz:(uf t2 es1 (pb es1.size)).1.size=es1.size:=by rw[<- ca,p.length_eq,ca]
  refine ae (hg _ _ _ (ae (wpAny_storeSet_of o1 rfl ?_ (fits_of_scanBound (by rw[sz];exact hb)))));exact ai (h _ _ _ _ (sb.trans (jr _ a _)) (upd1 (ob:={ o with data:=.set es1 (ep+1) t2 }) _ _ o1 rfl) p (relayAll_fits ..) (Kv ..))
 ·exact ai (h _ _ _ _ sb o1 .rfl hf ⟨rfl,fun z=>z⟩)
theorem Ly {x:Str}{u:Tok}{Q:Bool->ao->Prop} (ho:s.heap.get? a=zn o) (hd:o.data=.set es ep t) (hel:ElemsOf (SK prog w) es.toList) (hb:es.size+1<rm) (hf:t.fits es.size=true)
  (old:(∃ e∈es.toList,(SK prog w).is x e.2=true)->Q false s)
  (new:(∀ e∈es.toList,(SK prog w).is x e.2=false)->∀ h' es' ep' t',d4 a s.heap h'->h'.get? a=zn { o with data:=.set es' ep' t' }->es'.toList.Perm (es.toList++[((SK prog w).hash x,.str x u)])->t'.fits es'.size=true->t'.led=t.led->t'.plain=false->Q true { s with heap:=h' }):
  au (model prog w) A (setAddHashed a (.str x u) ((SK prog w).hash x)) Q E s:=by
 have is:(SK prog w).is x (.str x u)=true:=qc _ _ _ _;have sc:(ip x u).scannable=true:=rfl;unfold setAddHashed setAddHashedIn;refine fh (ae (ik ho hd hf ?_));dsimp only;rw[byScan_of sc (by omega) hel];simp only[↓reduceIte];unfold setAddByScan;refine ae (ae (tw (ae (wpAny_setScan_of is ho hd hf hel ?_))));cases hr:List.findIdx? (fun e=>(SK prog w).is x e.2) es.toList with
 |some j=>
  dsimp only;obtain⟨hj,q,_⟩:=List.findIdx?_eq_some_iff_getElem.mp hr;exact ai (ai (old ⟨_,gw hj,q⟩))
 |none=>
  dsimp only;have no:∀ e∈es.toList,(SK prog w).is x e.2=false:=fun e he=>by simpa using List.findIdx?_eq_none_iff.mp hr e he
  have pm:=layNew_perm t es ((SK prog w).hash x) (.str x u);have ft:=layNew_fits t es ((SK prog w).hash x) (.str x u);have kp:=Ku t es ((SK prog w).hash x) (.str x u)
  generalize layNew t es ((SK prog w).hash x) (.str x u)=L at pm ft kp ⊢
  obtain⟨es1,t1,dm,gave⟩:=L;dsimp only at pm ft kp ⊢;rw[sv] at pm;have b1:es1.size<rm:=by
   rw[<- ca,pm.length_eq,bq,ca];simpa using hb
  refine ae (show au (model prog w) A (match gave with|true=>rule "set.scan.the-table-gave-way"|false=>pure ()) _ E s from by
   cases gave <;> first|refine ai ?_|refine tw ?_
   all_goals
    split
    ·refine ae ?_;rw[hashByValue_scannable 8 sc];refine ai ?_;refine Bp ?_ ho hd b1 ?_ ?_
     ·intro b s1 P hq;cases b <;> first|exact ai hq|exact tw hq
     ·exact SetTable.fits_plain_off ft
     ·intro h' es' ep' t' sb g' p' f' k';exact ai (new no h' es' ep' t' sb g' (p'.trans pm) f' (k'.1.trans kp.1) (k'.2 rfl))
    ·rename_i hp
     refine ae (ai ?_);simp only[↓reduceIte];refine Bp ?_ ho hd b1 ft ?_
     ·intro b s1 P hq;cases b <;> first|exact ai hq|exact tw hq
     ·intro h' es' ep' t' sb g' p' f' k';exact ai (new no h' es' ep' t' sb g' (p'.trans pm) f' (k'.1.trans kp.1) (k'.2 (by simpa using hp))))
end
noncomputable def xG:af->Str
 |.str x _=>x
 |_=>""
noncomputable def lH (es:Array (Int×af)):List Str:=es.toList.map fun e=>xG e.2
def FN (prog:cj) (w:cz) (o:Obj) (es:Array (Int×af)) (ep:Nat) (t:jj):Prop:=o.ExactSet/\o.data=.set es ep t/\ElemsOf (SK prog w) es.toList/\(lH es).Nodup/\t.fits es.size=true/\t.led=(!w.params.followText "set-order")/\(es.size=0∨t.plain=false)
def TxtSet (prog:cj) (w:cz) (h:cm) (S:ag) (xs:List Str):Prop:=∃ o es ep t,h.get? S=zn o/\FN prog w o es ep t/\(∀ x,x∈lH es↔x∈xs)/\es.size<=xs.length
theorem TxtSet.same {prog:cj}{w:cz}{h h':cm}{S:ag}{xs:List Str} (x:TxtSet prog w h S xs) (k:∀ o,h.get? S=zn o->h'.get? S=zn o):TxtSet prog w h' S xs:=by
 obtain⟨o,es,ep,t,ho,r⟩:=x;exact⟨o,es,ep,t,k o ho,r⟩
theorem Be {prog:cj}{w:cz}{es:List (Int×af)} (h:ElemsOf (SK prog w) es) {e:Int×af} (he:e∈es):∃ x u,e.2=.str x u:=by
 obtain⟨⟨k,hk,_⟩,_⟩:=h e he;obtain⟨u,hu⟩:=qq hk;exact⟨k,u,hu⟩
section
variable {prog:cj}{w:cz}{A:df}{R:Result->ao->Prop}{I:ag}{fp wr:List ag}{G:Array GenState->Array GenState->Prop}{n:Nat}{P:Nat->af->Prop}{St:Nat->ao->Prop}
theorem Gc (W:WalksS prog w A.in1 I fp wr G n P St) (S:ag) (hS:S∉fp) (f:Nat->Str) (hf:∀ i v,P i v->∃ t,v=.str (f i) t) (hb:n+1<rm):
  ∀(k i:Nat) (s:ao),i+k=n->St i s->TxtSet prog w s.heap S ((aw i).map f)->(∀ s',Moved (S::wr) G s s'->TxtSet prog w s'.heap S ((aw n).map f)->R (.ok (.ret .none)) s')->
   kq (model prog w) A (.builtin "set.update.loop" ⟨[.ref S,.ref I],[]⟩) R s:=by
 have hw:S∉wr:=fun z=>hS (W.sub _ z);have up:∀ b∈wr,b∈S::wr:=fun b z=>.tail _ z;intro k
 induction k with
 |zero=>
  intro i s hk st ts back;obtain rfl:i=n:=by omega
  refine lz uk ?_;rw[kj pc _];show au _ A.in1 (ka (.ref I) >>= _) _ _ s;refine ae (W.done s _ _ st fun s1 mv=> ?_);exact ai (back s1 (mv.mono up) (ts.same fun o e=>mv.heap S _ hw e))
 |succ k ih=>
  intro i s hk st ts back;refine lz uk ?_;rw[kj pc _];show au _ A.in1 (ka (.ref I) >>= _) _ _ s;refine ae (W.item i s _ _ (by omega) st fun v s1 pv st1 mv=> ?_);obtain⟨t,rfl⟩:=hf i v pv;obtain⟨o,es,ep,tb,ho,⟨ex,hd,hel,nd,ft,ld,pl⟩,mem,hz⟩:TxtSet prog w s1.heap S ((aw i).map f):=ts.same fun o e=>mv.heap S _ hw e;rw[am,fg] at hz;show au _ A.in1 (holding [ip (f i) t] (setAdd S (.str (f i) t)) >>= _) _ _ s1;refine ae (fh ?_);unfold setAdd;refine fh (ae ((SK prog w).pyHash (k:=f i) (qc _ _ _ _) ?_));have isIff:∀ e∈es.toList,((SK prog w).is (f i) e.2=true↔xG e.2=f i):=fun e he=>by
   obtain⟨x,u,e1⟩:=Be hel he;rw[e1];show wb (f i) (.str x u)=true↔x=f i;constructor
   ·intro z;obtain⟨u',z⟩:=qq z;cases z;rfl
   ·rintro rfl;exact qc prog w (f i) u
  -- the rest of the walk
  have go:∀(h2:cm) (tk:Nat),s1.toks<=tk->d4 S s1.heap h2->TxtSet prog w h2 S ((aw (i+1)).map f)->Code.quiet (.builtin "set.update.loop" ⟨[.ref S,.ref I],[]⟩)=true/\kq (model prog w) A (.builtin "set.update.loop" ⟨[.ref S,.ref I],[]⟩) R { s1 with heap:=h2,toks:=tk }:=fun h2 tk htk sb ts2=>by
   refine⟨pp pc _,ih (i+1) _ (by omega) (W.frame _ s1 _ _ st1 htk fun b z o e=> ?_) ts2 fun s3 mv3 ts3=> ?_⟩
   ·rw[sb.2 b (fun q:b=S=>hS (q ▸ z))];exact e
   ·refine back s3 (Moved.trans W.gtrans ((mv.mono up).then_heap htk fun b o z e=> ?_) mv3) ts3;rw[sb.2 b (fun q:b=S=>z (by rw[q];exact .head _))];exact e
  have rng:∀ x,x∈(aw (i+1)).map f↔x∈(aw i).map f∨x=f i:=fun x=>by
   rw[hX,b4,c4];simp
  refine Ly (s:={ s1 with toks:=s1.toks+1 }) ho hd hel (by omega) ft (fun z=>ai ?_) fun z h' es' ep' t' sb g' pm ft' ld' pl'=>ai ?_
  ·refine go s1.heap (s1.toks+1) (x4 _) (Heap.SameBut.refl S s1.heap) ⟨o,es,ep,tb,ho,⟨ex,hd,hel,nd,ft,ld,pl⟩,fun x=> ?_,by rw[am,fg];omega⟩;obtain⟨e,he,q⟩:=z
   have:f i∈lH es:=ay.mpr ⟨e,he,(isIff e he).mp q⟩
   rw[rng,mem];exact⟨.inl,fun y=>y.elim id fun y=>by rw[y,<- mem];exact this⟩
  ·have pn:(lH es').Perm (lH es++[f i]):=by
    have:=pm.map fun e=>xG e.2
    rw[b4] at this;exact this
   have no:f i∉lH es:=fun y=>by
    obtain⟨e,he,q⟩:=ay.mp y
    have:=(isIff e he).mpr q
    rw[z e he] at this;cases this
   have sz:es'.size=es.size+1:=by rw[<- ca,pm.length_eq,bq,ca];rfl
   refine go h' (s1.toks+1) (x4 _) sb ⟨_,es',ep',t',g',⟨ex,rfl,(hel.push (qc _ _ _ _) rfl).perm pm,?_,ft',ld'.trans ld,.inr pl'⟩,fun x=> ?_,by rw[am,fg];omega⟩
   ·rw[pn.nodup_iff,ke];exact⟨nd,by simp,fun x hx y hy q=>no (by rw[<- d9.mp hy,<- q];exact hx)⟩
   ·rw[rng,pn.mem_iff,c4,mem];simp
end
section
variable {prog:cj}{w:cz}{A:df}{E:af->ao->Prop}{s:ao}
noncomputable abbrev Gk (w:cz):Obj:={ cls:=.type "set",dict:=zo,data:=.set #[] 0 (.fresh 0 0 (!w.params.followText "set-order")) }
theorem Je (x:af) {Q:af->ao->Prop} (h:Q (.ref s.heap.objs.size) { s with heap:=s.heap.push (Gk w) }):kq (model prog w) A (.call (.builtin "set.__new__") ⟨[.type "set",x],[]⟩) (wants Q E) s:=by
 refine codeAny_of_tree ?_;show au _ A.in1 (do checkBuiltinCall "set.__new__" ⟨[.type "set",x],[]⟩;again (.builtin "set.__new__" ⟨[.type "set",x],[]⟩)) _ _ s;refine ae (nh (PySem.F.newCall_set_1 x) (ai ⟨pp vk _,lz PySem.F.entry_set_new ?_⟩));rw[kj vk _];unfold Builtin.«set.__new__» zf;have q:=sub_set_self;obtain⟨hp,g,d,tk,os⟩:=s;dsimp only
 wp_walk
 refine ug (ai ?_);dsimp only;simp only[newObj];exact ae (wpAny_alloc (ai (ai h)))
end
end L2.MB
end
section
namespace L2.MB
section
variable {prog:cj}{w:cz}{A:df}{E:af->ao->Prop}{s:ao}
theorem Gj {l:ag}{items:Array af}{f:Nat->Str}{Q:af->ao->Prop} (hh:A.handled=zo) (hl:s.heap.IsList l items) (hi:∀(i:Nat) (v:af),items[i]?=zn v->∃ t,v=ip (f i) t) (hb:items.size+1<rm)
  (h:∀(h':cm) (tk:Nat),TxtSet prog w h' s.heap.objs.size ((aw items.size).map f)->(∀ b o,s.heap.get? b=zn o->h'.get? b=zn o)->Q (.ref s.heap.objs.size) { s with heap:=h',toks:=tk }):
  au (model prog w) A (call (.type "set") [.ref l]) Q E s:=by
 obtain⟨c,tl,e1⟩:=iq.mro;have e2:=iq.made;have e3:=iq.sub;refine wpAny_call (codeAny_of_tree ?_);show au _ _ (callAny (.type "set") _) _ _ _;refine ai ⟨Code.quiet_builtin _ (by decide+kernel),lz PySem.F.entry_type_call ?_⟩;rw[Around.under_plain (weight_type_call_type "set" [.ref l] []) rfl];have e4:=iq.notType;have e5:=iq.canCreate;have e6:=PySem.F.typeCall_set_1 (.ref l)
 repeat (any_goals (first|assumption|wp_step))
 refine l8 (Je (.ref l) (E:=E) (Q:=fun x s1=>x=.ref s.heap.objs.size/\s1={ s with heap:=s.heap.push (Gk w) }) ⟨rfl,rfl⟩) fun r s1 hr=> ?_;cases r with
 |error x=>exact hr
 |ok fl=>
  cases fl with
  |ret x=>
   obtain⟨rfl,rfl⟩:=hr;have g:(s.heap.push (Gk w)).get? s.heap.objs.size=zn (Gk w):=br _ rfl;have ty:Shared.TypeIs { s with heap:=s.heap.push (Gk w) } (.ref s.heap.objs.size) "set":=⟨_,g,rfl⟩;have e7:=iq.init.lookup;have e8:=iq.init.bind (.ref s.heap.objs.size)
   repeat (any_goals (first|assumption|wp_step))
   refine l8 (codeAny_call_builtin (R:=wants (fun r s2=>r=.none/\∃ h' tk,s2={ s with heap:=h',toks:=tk }/\TxtSet prog w h' s.heap.objs.size ((aw items.size).map f)/\∀ b o,s.heap.get? b=zn o->h'.get? b=zn o) E) iq.init.plain PySem.F.entry_set_init (check_set_init_1 ty ?_)) fun r s2 hr=> ?_
   ·obtain⟨ol,hol,c1,nl,c2⟩:=hl;obtain⟨oc,od,oa,os⟩:=ol;simp only at c1 c2;subst c1;subst c2;have hol2:(s.heap.push (Gk w)).get? l=zn { cls:=.type "list",dict:=od,data:=.seq items nl,slots:=os }:=aq _ hol;have q1:=PySem.F.sub_list_set;have q2:=PySem.F.sub_list_frozenset;have q3:(fm "list"==fm "dict")=false:=by decide
    have hl2:(s.heap.push (Gk w)).IsList l items:=⟨_,hol2,rfl,nl,rfl⟩;unfold Builtin.«set.__init__» noKeywords zc
    generalize hp:u7=PI
    wp_walk
    subst hp;refine wpAny_pyIter_list hl2 (ae (wpAny_runValue ?_));have lt:l<s.heap.objs.size:=bj hol;have hh3:A.in1.in1.in1.handled=zo:=by simp[hh]
    have n1:l≠(s.heap.push (Gk w)).objs.size:=by rw[f8];exact cf (xx lt)
    have n2:s.heap.objs.size∉[(s.heap.push (Gk w)).objs.size,l]:=by
     rw[f8];simp only[aj,cq,or_false,not_or];exact⟨cf (mm _),t7 lt⟩
    refine Gc ((Walks.list hh3 _ l n1 items).toS) s.heap.objs.size n2 f hi hb items.size 0 _ (by omega) ⟨⟨_,br _ rfl,rfl,rfl⟩,hl2.push _⟩ ?_ ?_
    ·exact⟨_,#[],0,_,aq _ g,⟨⟨rfl,rfl,rfl⟩,rfl,fun e he=>by simp at he,by simp[lH],rfl,rfl,.inl rfl⟩,fun x=>by simp[lH],by simp⟩
    ·intro s3 mv ts;obtain⟨h3,g3,d3,t3,o3⟩:=s3;obtain rfl:g3=s.gens:=mv.gens;obtain rfl:d3=s.drawn:=mv.drawn;obtain rfl:o3=s.os:=mv.os;show au _ _ _ _ _ _;refine ai ?_;show au _ _ (ret eg) _ _ _;refine ai ⟨rfl,h3,t3,rfl,ts,fun b o e=> ?_⟩;have hlt:=bj e;refine mv.heap b o ?_ (aq _ (aq _ e));rw[f8];simp only[aj,cq,or_false,not_or];exact⟨cf hlt,cf (xx hlt)⟩
   ·cases r with
    |error x=>exact hr
    |ok fl=>
     cases fl with
     |ret r=>
      obtain⟨rfl,h',tk,rfl,ts,kp⟩:=hr
      repeat (any_goals (first|assumption|wp_step))
      exact h _ _ ts kp
     |_=>exact hr.elim
  |_=>exact hr.elim
end
section
variable {M:Model}{A:df}{E:af->ao->Prop}
theorem Ck {src:Source}{n:Nat}{Q:Nat->ao->Prop}{s:ao} (hn:n≠0) (h:∀ k d,k<n->Q k { s with drawn:=d }):au M A (choose src n) Q E s:=fun Γ p hΓ=>⟨hn,h _ _ (Nat.mod_lt _ (Nat.pos_of_ne_zero hn))⟩
theorem lD {α:Type}:∀ {xs:List α}{k:Nat} (h:k<xs.length),(xs[k]::xs.eraseIdx k).Perm xs
 |x::xs,0,_=>.refl _
 |x::xs,k+1,h=>(List.Perm.swap x _ _).trans ((lD (xs:=xs) (k:=k) (by simpa using h)).cons x)
theorem Fg {α:Type} (n:Nat):∀(xs:List α) {Q:List α->ao->Prop}{s:ao},xs.length=n->(∀ ys d,ys.Perm xs->Q ys { s with drawn:=d })->au M A (drawOrder n xs) Q E s:=by
 induction n with
 |zero=>
  intro xs Q s hn h;obtain rfl:=ul.mp hn;unfold drawOrder;exact ai (h [] s.drawn .nil)
 |succ n ih=>
  intro xs Q s hn h;cases xs with
  |nil=>cases hn
  |cons x xs=>
   unfold drawOrder;refine ae (Ck (by simp) fun k d hk=> ?_);rw[bi hk];refine ae (ih _ (by rw[sf hk];omega) fun ys d2 hp=>ai ?_);exact h _ d2 ((hp.cons _).trans (lD hk))
end
namespace F
theorem slot_next:Slot "set_iterator" "__next__" "set_iterator.__next__":=
 .of (owner:="set_iterator") (n:="__next__") (by rw[typeLookup_type,vm];kernel_rfl) (by decide+kernel) (by decide+kernel) (by decide+kernel) (.inl (by decide+kernel)) (by rw[vn];kernel_rfl)
theorem entry_next:entryFor table "set_iterator.__next__"=zn Builtin.«set_iterator.__next__» :=entryFor_of_tree (by kernel_rfl)
theorem args_next (a:af):argsOk "set_iterator.__next__" ⟨[a],[]⟩:=by unfold argsOk;kernel_rfl
theorem entry_iter:entryFor table "set.__iter__"=zn Builtin.«frozenset.__iter__» :=entryFor_alias (id':="frozenset.__iter__") (by kernel_rfl) rfl (by decide+kernel) (by kernel_rfl)
end F
noncomputable abbrev Eg (first:af) (S:ag) (i n ep:Nat):Obj:={ cls:=.type "set_iterator",data:=.fields #[first,.int i 0,.ref S,.int n 0,.int ep 0] }
def FirstIs (w:cz) (h:cm) (S:ag) (es:Array (Int×af)) (ep:Nat) (t:jj) (first:af) (i:Nat) (vs:List af) (T:ag):Prop:=
 (w.params.followText "set-order"=true/\first=.int 0 0/\vs=(uw (w.params.setOrder S ep) es).toList.map (·.2))∨
 (w.params.followText "set-order"=false/\∃ π:List Nat,first=.ref T/\(∃ n,h.get? T=zn (d8 "tuple" (π.map fun i:Nat=>qf i 0).toArray n))/\π.Perm (aw es.size)/\vs=π.map fun p=>(es.getD p (0,.none)).2)∨
 (w.params.followText "set-order"=false/\es.size<=1/\vs=es.toList.map (·.2)/\first=.int (if i=0 then 0 else t.place.getD 0 0+1:Nat) 0)
theorem Do {α:Type} (next:Nat->Nat):∀(n k:Nat) (left:List α) (out:Array α),left.length=n->(zj next n k left out).toList.Perm (out.toList++left)
 |0,k,left,out,h=>by
  obtain rfl:=ul.mp h;rw[dr];exact .refl _
 |n+1,k,left,out,h=>by
  have hk:next k % left.length<left.length:=Nat.mod_lt _ (by omega);unfold zj;rw[bi hk];refine(Do next n (k+1) _ _ (by rw[sf hk];omega)).trans ?_;rw[sv,fz];exact(lD hk).append_left _
theorem Dn {α:Type} (next:Nat->Nat) (xs:Array α):(uw next xs).toList.Perm xs.toList:=by
 unfold uw
 have:=Do next xs.size 0 xs.toList #[] (by simp)
 simpa using this
section
variable {prog:cj}{w:cz}{A:df}{E:af->ao->Prop}{s:ao}{S:ag}{o:Obj}{es:Array (Int×af)}{ep:Nat}{t:jj}
theorem iS {Q:Bool->ao->Prop} (h:Q (w.params.followText "set-order") s):au (model prog w) A setsByText Q E s:=by
 unfold setsByText;exact ae (ug (ai h))
theorem Ge {Q:af->ao->Prop} (ho:s.heap.get? S=zn o) (si:FN prog w o es ep t) (hz:es.size<=900)
  (h:∀(h':cm) (d:Drawn) (I T:ag) (first:af) (vs:List af),(∀ b ob,s.heap.get? b=zn ob->h'.get? b=zn ob)->s.heap.get? I=zo->s.heap.get? T=zo∨T=S->T≠I->h'.get? I=zn (Eg first S 0 es.size ep)->FirstIs w h' S es ep t first 0 vs T->vs.Perm (es.toList.map (·.2))->Q (.ref I) { s with heap:=h',drawn:=d }):
  au (model prog w) A (u7 (.ref S)) Q E s:=by
 obtain⟨⟨c1,c2,c3⟩,hd,hel,nd,ft,ld,pl⟩:=id si;refine pe (T:="set") ⟨o,ho,c1⟩ vo (eu vo ⟨o,ho,c1⟩ F.entry_iter ?_ (PySem.F.args_set_iter_1 _));unfold Builtin.«frozenset.__iter__»;refine ae (m:=zl "__iter__" ⟨[.ref S],[]⟩) (nh (a:=S) rfl ?_);refine ae ?_;unfold zk setEntries;refine ae (ae (ik ho hd ft (ai (ai ?_))));refine ae ?_;unfold setDrawn;refine ae (ik ho hd ft (ae (iS (ai ?_))));have fin:∀(s1:ao) (first:af) (T:ag) (vs:List af),(∃ d,s1={ s with heap:=s1.heap,drawn:=d })->(∀ b ob,s.heap.get? b=zn ob->s1.heap.get? b=zn ob)->s.heap.get? T=zo∨T=S->(∃ ob,s1.heap.get? T=zn ob)->(∀ h',(∀ b ob,s1.heap.get? b=zn ob->h'.get? b=zn ob)->FirstIs w h' S es ep t first 0 vs T)->vs.Perm (es.toList.map (·.2))->au (model prog w) A.in1 (do
   let e <- setEpoch S
   let r <- newFields "set_iterator" [first,jq 0,b9 S,jq es.size,jq e]
   ret r) (fun fin s'=>∃ v,fin=Fin.done (Flow.ret v)/\∃ T' r,s'.TypeIs v T'/\s0 (fm T') (jc "__next__")=pure (zn r)/\Q v s') E s1:=fun s1 first T vs hs kp hT hT2 hF hp=>by
  refine ae (wpAny_setEpoch_of (kp S o ho) hd ft ?_);refine ae (di (ai ⟨_,rfl,"set_iterator",_,⟨_,br _ rfl,rfl⟩,F.slot_next.lookup,?_⟩));obtain⟨d,hd1⟩:=hs
  have:=h (s1.heap.push (Eg first S 0 es.size ep)) d s1.heap.objs.size T first vs (fun b ob e=>aq _ (kp b ob e)) (by
   cases q:s.heap.get? s1.heap.objs.size with
   |none=>rfl
   |some u=>exact absurd (bj (kp _ _ q)) (d5 _)) hT (fun z=>by
   obtain⟨ob,e⟩:=hT2;rw[z] at e;exact d5 _ (bj e)) (br _ rfl) (hF _ fun b ob e=>aq _ e) hp
  rw[hd1];exact this
 split
 ·rename_i hc
  have hc:(!w.params.followText "set-order"&&(!t.plain&&decide (es.size>1)))=true:=hc;simp only[bt,ss,decide_eq_true_eq] at hc;refine ae (Fg _ _ (by simp) fun π d hp=> ?_);have hp:π.Perm (aw es.size):=hp;have hl:π.length=es.size:=by rw[hp.length_eq,fg]
  refine ae (wpAny_newTuple ?_ ?_)
  ·refine fin _ _ s.heap.objs.size (π.map fun p=>(es.getD p (0,.none)).2) ⟨d,rfl⟩ (fun b ob e=>aq _ e) (.inl ?_) ⟨_,br _ rfl⟩ (fun h' kp=>.inr (.inl ⟨hc.1,π,rfl,⟨0,kp _ _ (br _ rfl)⟩,hp,rfl⟩)) ?_
   ·cases q:s.heap.get? s.heap.objs.size with
    |none=>rfl
    |some u=>exact absurd (bj q) (d5 _)
   ·refine(hp.map _).trans (List.Perm.of_eq ?_);apply iy;intro j;rw[bg,bg,fy (xs:=es)]
    by_cases hj:j<es.size
    ·rw[fw hj,c7 hj];show zn (es.getD j (0,.none)).2=zn es[j].2;rw[ci,c7 hj];rfl
    ·rw[b7 (by simp;omega),ii (by omega)];rfl
  ·rw[am,hl,bz];omega
 ·rename_i hc
  have hc:¬(!w.params.followText "set-order"&&(!t.plain&&decide (es.size>1)))=true:=hc;refine ae (ai ?_);cases hw:w.params.followText "set-order" with
  |true=>
   refine fin s (jq 0) S _ ⟨s.drawn,rfl⟩ (fun b ob e=>e) (.inr rfl) ⟨o,ho⟩ (fun h' kp=>.inl ⟨hw,rfl,rfl⟩) ((Dn _ es).map _)
  |false=>
   refine fin s (jq 0) S _ ⟨s.drawn,rfl⟩ (fun b ob e=>e) (.inr rfl) ⟨o,ho⟩ (fun h' kp=>.inr (.inr ⟨hw,?_,rfl,rfl⟩)) (.refl _);rw[hw] at hc;rcases pl with z|z
   ·omega
   ·rw[z] at hc;simpa using hc
end
def wX (prog:cj) (w:cz) (S I T:ag) (o:Obj) (es:Array (Int×af)) (ep:Nat) (t:jj) (vs:List af) (i:Nat) (h:cm):Prop:=
 h.get? S=zn o/\FN prog w o es ep t/\vs.length=es.size/\∃ first,h.get? I=zn (Eg first S i es.size ep)/\FirstIs w h S es ep t first i vs T
section
variable {prog:cj}{w:cz}{A:df}{E:af->ao->Prop}{s:ao}{S I T:ag}{o:Obj}{es:Array (Int×af)}{ep:Nat}{t:jj}{vs:List af}{i:Nat}
theorem FirstIs.same {h h':cm}{first:af} (f:FirstIs w h S es ep t first i vs T) (k:∀ ob,h.get? T=zn ob->h'.get? T=zn ob):FirstIs w h' S es ep t first i vs T:=by
 rcases f with f|⟨a,π,b,⟨n,c⟩,d⟩|f
 ·exact .inl f
 ·exact .inr (.inl ⟨a,π,b,⟨n,k _ c⟩,d⟩)
 ·exact .inr (.inr f)
theorem vK {Q:Option af->ao->Prop} (st:wX prog w S I T o es ep t vs i s.heap)
  (h:∀ first,s.heap.get? I=zn (Eg first S i es.size ep)->FirstIs w s.heap S es ep t first i vs T->au (model prog w) A.in1 (Builtin.«set_iterator.__next__» ⟨[.ref I],[]⟩) (fun fin s'=>∃ v,fin=.done (.ret v)/\Q (zn v) s') (fun e s'=>au (model prog w) A (do if <- vz e (.type "StopIteration") then pure zo else throw e) Q E s') s):
  au (model prog w) A (ka (.ref I)) Q E s:=by
 obtain⟨g,si,hl,first,gi,fi⟩:=st;have ty:s.TypeIs (.ref I) "set_iterator":=⟨_,gi,rfl⟩;unfold ka;refine ae (pk (iw (name:=jc "__next__") ty F.slot_next (eu F.slot_next ty F.entry_next ?_ (F.args_next _))));refine gk (h first gi fi) (fun fin s' x=> ?_) fun e s' x=>x;obtain⟨v,rfl,q⟩:=x;exact⟨v,rfl,ai q⟩
theorem vJ {slot k:Nat}{Q:Option (af×Nat)->ao->Prop} (g:s.heap.get? S=zn o) (si:FN prog w o es ep t) (hw:w.params.followText "set-order"=true) (h:Q (((uw (w.params.setOrder S ep) es)[k]?).map fun e=>(e.2,slot)) s):au (model prog w) A (setNext S slot k ep) Q E s:=by
 obtain⟨_,hd,_,_,ft,_⟩:=si;unfold setNext;refine ae (ik g hd ft (ae (iS ?_)));dsimp only;rw[hw,if_pos rfl,if_neg (by simp)];refine ae ?_;unfold setWalk;refine ae (ik g hd ft (ae (iS ?_)));rw[hw,if_pos rfl];exact ae (ug (ai (ai h)))
theorem AJ {slot k:Nat}{Q:Option (af×Nat)->ao->Prop} (g:s.heap.get? S=zn o) (si:FN prog w o es ep t) (hw:w.params.followText "set-order"=false) (hz:es.size<=1) (h:Q (match es[kt t.place slot]?,t.place[kt t.place slot]? with
  |some (_,x),zn j=>zn (x,j+1)
  |_,_=>zo) s):au (model prog w) A (setNext S slot k ep) Q E s:=by
 obtain⟨_,hd,_,_,ft,ld,_⟩:=si;rw[hw] at ld;unfold setNext;refine ae (ik g hd ft (ae (iS ?_)));dsimp only;rw[hw,if_neg cg];have h1:(!t.plain&&decide (es.size>1))=false:=by rw[decide_eq_false (by omega),y8]
 refine nv (fun z=> ?_) fun _=> ?_
 ·have z:(!t.plain&&decide (es.size>1))=true:=z;rw[h1] at z;cases z
 ·refine ae (m:=(if(!t.led&& !es.isEmpty)=true then unsupported "set:maker-not-led" else pure ():Sem Unit)) ?_;rw[ld];exact ai (ai h)
theorem Gf {Q:Option af->ao->Prop} (st:wX prog w S I T o es ep t vs i s.heap) (hSI:S≠I) (hTI:T≠I) (hi:i<vs.length) (h:∀ h',d4 I s.heap h'->wX prog w S I T o es ep t vs (i+1) h'->Q (zn vs[i]) { s with heap:=h' }):au (model prog w) A (ka (.ref I)) Q E s:=by
 refine vK st fun first gi fi=> ?_;obtain⟨g,si,hl,_⟩:=st;obtain⟨⟨c1,c2,c3⟩,hd,hel,nd,ft,ld,pl⟩:=id si;unfold Builtin.«set_iterator.__next__»;refine ae (m:=slotArgs "__next__" 0 ⟨[.ref I],[]⟩) (nh (a:=(.ref I,[])) rfl ?_);refine ae (md gi rfl ?_);dsimp only;refine ae ?_;unfold setEntries;refine ae (ik g hd ft (ai ?_));dsimp only;rw[if_neg (by simp)]
 -- the iterator behind the step
 have adv:∀(f2:af) (h':cm),d4 I s.heap h'->h'.get? I=zn (Eg f2 S (i+1) es.size ep)->FirstIs w s.heap S es ep t f2 (i+1) vs T->wX prog w S I T o es ep t vs (i+1) h':=fun f2 h' sb e f=>⟨by rw[sb.2 S hSI];exact g,si,hl,f2,e,f.same fun ob q=>by rw[sb.2 T hTI];exact q⟩;have tail:∀(n2:Nat) (x:af),x=vs[i]->FirstIs w s.heap S es ep t (.int n2 0) (i+1) vs T->au (model prog w) A.in1 (do
   qy (b9 I) 0 (jq n2)
   qy (b9 I) 1 (jq (i+1))
   ret x) (fun fin s'=>∃ v,fin=Fin.done (Flow.ret v)/\Q (zn v) s') (fun e s'=>au (model prog w) A (do if <- vz e (.type "StopIteration") then pure zo else throw e) Q E s') s:=fun n2 x hx f=>by
  refine ae (j3 gi (by simp) fun h1 e1 sb1=> ?_);refine ae (j3 e1 (by simp) fun h2 e2 sb2=> ?_);exact ai ⟨x,rfl,by rw[hx];exact h h2 (sb1.trans sb2) (adv _ h2 (sb1.trans sb2) (by rw[e2];rfl) f)⟩
 rcases fi with⟨hw,rfl,rfl⟩|⟨hw,π,rfl,⟨n,gt⟩,hp,rfl⟩|⟨hw,hz,rfl,rfl⟩
 ·simp only[da];refine ae (vJ g si hw ?_);have hi2:i<(uw (w.params.setOrder S ep) es).size:=by simpa using hi
  rw[c7 hi2];exact tail 0 _ (by simp) (.inl ⟨hw,rfl,rfl⟩)
 ·dsimp only;refine ae (wpAny_seqItems gt rfl ?_);dsimp only;have hi2:i<π.length:=by simpa using hi
  have hpi:π[i]<es.size:=dn.mp (hp.mem_iff.mp (gw hi2));have e1:(π.map fun i:Nat=>qf i 0).toArray[(i:Int).toNat]?=zn (qf π[i] 0):=by simp[hi2]
  rw[e1];dsimp only;refine ae ?_;unfold setNextDrawn;refine ae (ik g hd ft ?_);dsimp only;rw[if_neg (by simp),da,c7 hpi];refine ai ?_;refine ae (j3 gi (by simp) fun h1 e1 sb1=> ?_);refine ai ⟨_,rfl,?_⟩;have ev:(π.map fun p=>(es.getD p (0,eg)).2)[i]=es[π[i]].2:=by
   rw[yk,ci,c7 hpi];rfl
  have:=h h1 sb1 (adv (.ref T) h1 sb1 (by rw[e1];rfl) (.inr (.inl ⟨hw,π,rfl,⟨n,gt⟩,hp,rfl⟩)))
  rw[ev] at this;exact this
 ·dsimp only;have h0:i=0:=by
   have:i<es.size:=by simpa using hi
   omega
  subst h0;have hz1:es.size=1:=by
   have:0<es.size:=by simpa using hi
   omega
  have hp1:t.place.size=1:=by
   unfold zg at ft;simp at ft;omega
  obtain⟨j,hj⟩:∃ j,t.place= #[j]:=by
   have:t.place= #[t.place[0]]:=by
    apply Array.ext
    ·simpa using hp1
    ·intro k h1 h2
     have:k=0:=by omega
     subst this;rfl
   exact⟨_,this⟩
  have hb:kt t.place 0=0:=by
   rw[hj];simp[kt,xy]
  refine ae (AJ g si hw hz ?_);rw[show(((if(0:Nat)=0 then 0 else t.place.getD 0 0+1:Nat):Int)).toNat=0 from rfl,hb,hj,c7 (by omega)];exact tail (j+1) _ (by simp) (.inr (.inr ⟨hw,hz,rfl,by rw[hj];rfl⟩))
theorem uQ {P:PySem.Fin->ao->Prop}{Q:Option af->ao->Prop} (hh:A.handled=zo) (h:∀ h',(∀ b ob,s.heap.get? b=zn ob->h'.get? b=zn ob)->Q zo { s with heap:=h' }):au (model prog w) A.in1 (do
  let e <- vf (fm "StopIteration") []
  vv e) P (fun e s'=>au (model prog w) A (do if <- vz e (.type "StopIteration") then pure zo else throw e) Q E s') s:=by
 refine ae ?_;simp only[vf,newTuple];refine ae (di ?_ (by size_fits));refine ae (m:=me _ _) (nh (a:=eg) (by first|rfl|(simp only[me];rfl)) ?_);refine di ?_ (by size_fits);simp only[vv];refine ae (wf ?_);rw[show A.in1.handled=zo from hh];refine ae (ai (x6 ?_));refine ae (pz (T:="StopIteration") (b:=true) ⟨_,br _ rfl,rfl⟩ vg ?_);exact ai (h _ fun b ob e=>aq _ (aq _ e))
theorem Gi {Q:Option af->ao->Prop} (hh:A.handled=zo) (st:wX prog w S I T o es ep t vs vs.length s.heap) (h:∀ h',(∀ b ob,b≠I->s.heap.get? b=zn ob->h'.get? b=zn ob)->Q zo { s with heap:=h' }):au (model prog w) A (ka (.ref I)) Q E s:=by
 refine vK st fun first gi fi=> ?_;obtain⟨g,si,hl,_⟩:=st;obtain⟨⟨c1,c2,c3⟩,hd,hel,nd,ft,ld,pl⟩:=id si;unfold Builtin.«set_iterator.__next__»;refine ae (m:=slotArgs "__next__" 0 ⟨[.ref I],[]⟩) (nh (a:=(.ref I,[])) rfl ?_);refine ae (md gi rfl ?_);dsimp only;refine ae ?_;unfold setEntries;refine ae (ik g hd ft (ai ?_));dsimp only;rw[if_neg (by simp)];have last:au (model prog w) A.in1 (do
   qy (b9 I) 2 eg
   let e <- vf (fm "StopIteration") []
   vv e) (fun fin s'=>∃ v,fin=Fin.done (Flow.ret v)/\Q (zn v) s') (fun e s'=>au (model prog w) A (do if <- vz e (.type "StopIteration") then pure zo else throw e) Q E s') s:=by
  refine ae (j3 gi (by simp) fun h1 e1 sb1=> ?_);exact uQ hh fun h2 k=>h h2 fun b ob hb e=>k b ob (by rw[sb1.2 b hb];exact e)
 rcases fi with⟨hw,rfl,rfl⟩|⟨hw,π,rfl,⟨n,gt⟩,hp,rfl⟩|⟨hw,hz,rfl,rfl⟩
 ·simp only[da];refine ae (vJ g si hw ?_);rw[ii (by simp)];exact last
 ·dsimp only;refine ae (wpAny_seqItems gt rfl ?_);dsimp only;rw[da,ii (by simp)];refine ae (j3 gi (by simp) fun h0 e0 sb0=> ?_);refine ae (j3 e0 (by simp) fun h1 e1 sb1=> ?_);exact uQ hh fun h2 k=>h h2 fun b ob hb e=>k b ob (by rw[sb1.2 b hb,sb0.2 b hb];exact e)
 ·dsimp only;have hps:t.place.size=es.size:=by
   unfold zg at ft;simp at ft;omega
  refine ae (AJ g si hw hz ?_);have hn:es[kt t.place ((if(es.toList.map (·.2)).length=0 then 0 else t.place.getD 0 0+1:Nat):Int).toNat]?=zo:=by
   rw[da,am,ca]
   by_cases h0:es.size=0
   ·rw[ii (by omega)]
   ·rw[if_neg h0];obtain⟨j,hj⟩:∃ j,t.place= #[j]:=by
     refine⟨t.place[0]'(by omega),?_⟩;apply Array.ext
     ·simp;omega
     ·intro k h1 h2
      have:k=0:=by omega
      subst this;rfl
    have hb:kt t.place (t.place.getD 0 0+1)=1:=by
     rw[hj];simp[kt,xy]
    rw[hb,ii (by omega)]
  rw[hn];exact last
end
namespace F
theorem slot_self:Slot "set_iterator" "__iter__" "set_iterator.__iter__":=
 .of (owner:="set_iterator") (n:="__iter__") (by rw[typeLookup_type,vm];kernel_rfl) (by decide+kernel) (by decide+kernel) (by decide+kernel) (.inl (by decide+kernel)) (by rw[vn];kernel_rfl)
theorem entry_self:entryFor table "set_iterator.__iter__"=zn Builtin.«dict_keyiterator.__iter__» :=entryFor_alias (id':="dict_keyiterator.__iter__") (by kernel_rfl) rfl (by decide+kernel) (by kernel_rfl)
theorem args_self (a:af):argsOk "set_iterator.__iter__" ⟨[a],[]⟩:=by unfold argsOk;kernel_rfl
end F
section
variable {prog:cj}{w:cz}{A:df}{E:af->ao->Prop}{s:ao}{S I T:ag}{o:Obj}{es:Array (Int×af)}{ep:Nat}{t:jj}{vs:List af}
theorem CC (hh:A.handled=zo) (hSI:S≠I) (hTI:T≠I):Walks prog w A I [I,S,T] [I] vs.length (fun j v=>vs[j]?=zn v) (wX prog w S I T o es ep t vs) where
 sub:=fun b hb=>by simp at hb;simp[hb]
 frame:=fun i h h' st k=>by
  obtain⟨g,si,hl,first,gi,fi⟩:=st;exact⟨k S (by simp) _ g,si,hl,first,k I (by simp) _ gi,fi.same fun ob q=>k T (by simp) _ q⟩
 item:=fun i s Q E hi st hQ=>Gf st hSI hTI hi fun h' sb st'=>hQ _ h' s.toks (by simp[hi]) st' fun b ob hb e=>by rw[sb.2 b (by simpa using hb)];exact e
 done:=fun s Q E st hQ=>Gi hh st fun h' k=>hQ h' s.toks fun b ob hb e=>k b ob (by simpa using hb) e
 self:=fun i s Q E st hQ=>by
  obtain⟨g,si,hl,first,gi,fi⟩:=st;have ty:s.TypeIs (.ref I) "set_iterator":=⟨_,gi,rfl⟩;refine pe ty F.slot_self (eu F.slot_self ty F.entry_self ?_ (F.args_self _));exact ai ⟨_,rfl,"set_iterator",_,ty,F.slot_next.lookup,hQ⟩
theorem Gg {Q:Bool->ao->Prop} (hT:s.TypeIs (.ref S) "set") (h:Q false s):au (model prog w) A (rn (.ref S)) Q E s:=by
 unfold rn;refine ae (wpAny_specialOf hT PySem.F.slot_set_len.lookup ?_)
 generalize hid:("set.__len__":String)=k
 wp_delta
 rw[show splitId k=zn ("set","__len__") from by subst hid;decide+kernel];subst hid;refine ae (pz (T:="set") (b:=true) hT (by rw[vn];kernel_rfl) ?_);refine nv (fun z=>absurd z (by decide)) fun _=> ?_;refine nv (fun _=> ?_) fun z=>absurd (by decide+kernel) z;exact ae (ww hT (ai h))
end
section
variable {prog:cj}{w:cz}{A:df}{E:af->ao->Prop}{s:ao}{S:ag}
def tS (xs:List Str) (vs:List af):Prop:=∃ ns:List Str,ns.Nodup/\(∀ x,x∈ns↔x∈xs)/\ns.length<=xs.length/\ja (fun n v=>∃ u,v=ip n u) ns vs
theorem qI:∀ {vs:List af},(∀ v∈vs,∃ x u,v=ip x u)->ja (fun n v=>∃ u,v=ip n u) (vs.map xG) vs
 |[],_=>.nil
 |v::vs,h=>by
  obtain⟨x,u,rfl⟩:=h v av;exact .cons ⟨u,rfl⟩ (qI fun v hv=>h v (ak _ hv))
theorem BA {R:Result->ao->Prop}{xs:List Str} (hh:A.handled=zo) (L:ag) (hLS:L≠S) (res:af) (ts:TxtSet prog w s.heap S xs) (hz:xs.length<=900) (hL:s.heap.get? L=zn { cls:=.type "list",data:=.seq #[] 0 })
  (h:∀ h' tk d (acc:Array af) c,(∀ b ob,b≠L->s.heap.get? b=zn ob->h'.get? b=zn ob)->h'.get? L=zn { cls:=.type "list",dict:=zo,data:=.seq acc c,slots:= #[] }->tS xs acc.toList->R (.ok (.ret res)) { s with heap:=h',toks:=tk,drawn:=d }):
  au (model prog w) A.in1 (mj (.ref L) (.ref S) res)
   (fun fin s'=>match fin with|.done f=>R (.ok f) s'|.again c'=>c'.quiet=true/\kq (model prog w) A c' R s') (fun e s'=>R (.error e) s') s:=by
 obtain⟨o,es,ep,t,ho,si,mem,sz⟩:=ts;obtain⟨⟨c1,c2,c3⟩,hd,hel,nd,ft,ld,pl⟩:=id si;have ty:s.TypeIs (.ref S) "set":=⟨o,ho,c1⟩;unfold mj;refine ae (ww (T:="set") ty ?_);have h1:uh (.ref L) (.ref S)=false:=by simp[uh,hLS]
 have h2:(fm "set"==fm "list")=false:=by decide
 have h3:(fm "set"==fm "tuple")=false:=by decide
 simp only[h1,h2,h3,we,d7,if_false];refine ae (Ge ho si (by omega) fun h' d I T first vs kp nI nT hTI gI fi pm=> ?_);have hSI:S≠I:=fun z=>by rw[z,nI] at ho;cases ho
 have hLI:L≠I:=fun z=>by rw[z,nI] at hL;cases hL
 have hLT:L≠T:=fun z=>by
  rcases nT with y|y
  ·rw[<- z,hL] at y;cases y
  ·exact hLS (z.trans y)
 have hvl:vs.length=es.size:=by rw[pm.length_eq];simp
 have st0:wX prog w S I T o es ep t vs 0 h':=⟨kp _ _ ho,si,hvl,first,gI,fi⟩;have W:=CC (prog:=prog) (w:=w) (A:=A.in1) (S:=S) (I:=I) (T:=T) (o:=o) (es:=es) (ep:=ep) (t:=t) (vs:=vs) hh hSI hTI;have nf:L∉[I,S,T]:=by simp[hLI,hLS,hLT]
 have tv:∀ acc:Array af,ItemsOf (fun j v=>vs[j]?=zn v) acc vs.length->tS xs acc.toList:=fun acc ⟨a1,a2⟩=>by
  have e:acc.toList=vs:=by
   apply iy;intro j
   by_cases hj:j<acc.size
   ·rw[fy,c7 hj];exact(a2 j _ (c7 hj)).symm
   ·rw[b7 (by simp;omega),b7 (by omega)]
  rw[e];refine⟨vs.map xG,?_,fun x=> ?_,by rw[am];omega,?_⟩
  ·have:=(pm.map xG).nodup_iff
   rw[this,gp];exact nd
  ·rw[(pm.map xG).mem_iff,gp,<- mem];rfl
  ·have:∀ v∈vs,∃ x u,v=ip x u:=fun v hv=>by
    obtain⟨e,he,rfl⟩:=ay.mp (pm.mem_iff.mp hv);exact Be hel he
   exact qI this
 have key:∀(h1:cm) (c tk:Nat),wX prog w S I T o es ep t vs 0 h1->(∀ b ob,b≠L->s.heap.get? b=zn ob->h1.get? b=zn ob)->h1.get? L=zn { cls:=.type "list",data:=.seq #[] c }->kq (model prog w) A (.builtin "list.extend.loop" ⟨[.ref L,.ref I,res],[]⟩) R { s with heap:=h1,toks:=tk,drawn:=d }:=fun h1 c tk st k1 g1=>by
  refine codeAny_extend_loopS W.toS (by rw[hvl,bz];omega) L nf res vs.length 0 _ #[] c rfl (i4 _) st g1 (ItemsOf.nil _) fun s2 acc c2 mv g2 it=> ?_;obtain⟨h2,g3,d3,t3,o3⟩:=s2;obtain rfl:g3=s.gens:=mv.gens;obtain rfl:d3=d:=mv.drawn;obtain rfl:o3=s.os:=mv.os;refine h h2 t3 d3 acc c2 (fun b ob hb e=>mv.heap b ob (fun z=> ?_) (k1 b ob hb e)) g2 (tv acc it);rcases aj.mp z with z|z
  ·exact hb z
  ·rw[d9.mp z,nI] at e;cases e
 refine ae (fh (Gg ⟨o,kp _ _ ho,c1⟩ ?_));have gL:=kp _ _ hL;refine nv (fun _=> ?_) fun _=>ai ⟨pp tz _,key _ 0 _ st0 (fun b ob _ e=>kp b ob e) gL⟩;refine ae (tw (ae ?_));show au _ _ (updateSeq L (·.push .none) >>= fun _=>updateSeq L (·.pop)) _ _ _;refine ae (wpAny_updateSeq gL rfl ?_);have g2:=ee (jh (·.push eg)) gL rfl;refine wpAny_updateSeq (hz:=by seq_fits) g2 rfl ?_;have g3:=ee (jh (·.pop)) g2 rfl;have oth:∀ b ob,b≠L->h'.get? b=zn ob->((h'.update L (jh (·.push eg))).update L (jh (·.pop))).get? b=zn ob:=fun b ob hb e=>(dc _ _ (cw hb)).trans ((dc _ _ (cw hb)).trans e);exact ai ⟨pp tz _,key _ _ _ (W.frame 0 _ _ st0 fun b hb ob e=>oth b ob (fun z=>nf (z ▸ hb)) e) (fun b ob hb e=>oth b ob hb (kp b ob e)) g3⟩
theorem Jh {R:List af->ao->Prop}{xs:List Str} (hh:A.handled=zo) (ts:TxtSet prog w s.heap S xs) (hz:xs.length<=900)
  (h:∀ h' tk d (vs:List af),(∀ b ob,s.heap.get? b=zn ob->h'.get? b=zn ob)->tS xs vs->R vs { s with heap:=h',toks:=tk,drawn:=d }):au (model prog w) A (collect (.ref S)) R E s:=by
 obtain⟨o,_,_,_,ho,_⟩:=id ts;have hlt:=bj ho;unfold collect;refine ae (wpAny_runValue (lz entry_proto_collect' ?_));rw[kj PySem.F.plain_proto_collect _];show au _ A.in1 (newList [] >>= fun l=>again (.builtin "list.__iadd__" ⟨[l,.ref S],[]⟩)) _ _ s;refine ae (di ?_);refine ai ⟨pp um _,lz entry_list_iadd' ?_⟩;rw[kj um _];show au _ A.in1 (mj (.ref s.heap.objs.size) (.ref S) (.ref s.heap.objs.size)) _ _ _;refine gk (BA (A:=A) (s:={ s with heap:=s.heap.push { cls:=.type "list",data:=.seq ([]:List af).toArray } }) (R:=fun(q:Result) (s':ao)=>∃(h':cm) (tk:Nat) (d:Drawn) (acc:Array af) (c:Nat),q=.ok (.ret (.ref s.heap.objs.size))/\s'={ s with heap:=h',toks:=tk,drawn:=d }/\(∀ b ob,s.heap.get? b=zn ob->h'.get? b=zn ob)/\h'.get? s.heap.objs.size=zn { cls:=.type "list",dict:=zo,data:=.seq acc c,slots:= #[] }/\tS xs acc.toList)
  hh s.heap.objs.size (t7 hlt) (.ref s.heap.objs.size) (ts.same fun ob e=>aq _ e) hz (br _ rfl) fun h' tk d acc c kp g tv=>⟨h',tk,d,acc,c,rfl,rfl,fun b ob e=>kp b ob (cf (bj e)) (aq _ e),g,tv⟩) (fun fin s' x=> ?_) fun e s' x=> ?_
 ·cases fin with
  |done f=>
   obtain⟨h',tk,d,acc,c,e,rfl,kp,g,tv⟩:=x;cases e;show au _ A (load s.heap.objs.size >>= _) _ _ _;exact ae (wpAny_load g (ai (h h' tk d _ kp tv)))
  |again c1=>
   refine⟨x.1,l8 x.2 fun q s2 y=> ?_⟩;obtain⟨h',tk,d,acc,c,rfl,rfl,kp,g,tv⟩:=y;show au _ A (load s.heap.objs.size >>= _) _ _ _;exact ae (wpAny_load g (ai (h h' tk d _ kp tv)))
 ·obtain⟨_,_,_,_,_,e',_⟩:=x;cases e'
end
noncomputable def ltS (x y:Str):Bool:=decide (x.cps.toList<y.cps.toList)
theorem ltS_iff {x y:Str}:ltS x y=true↔sLt x y:=decide_eq_true_iff
noncomputable def Cz (x:Str):List Str->List Str
 |[]=>[x]
 |y::l=>if x=y then y::l else if ltS x y=true then x::y::l else y::Cz x l
noncomputable def lG (xs:List Str):List Str:=xs.foldr Cz []
theorem ins_mem {x z:Str}:∀ {l:List Str},z∈Cz x l↔z=x∨z∈l
 |[]=>by simp[Cz]
 |y::l=>by
  unfold Cz;split
  ·rename_i h
   rw[h,aj];constructor
   ·exact .inr
   ·rintro(h|h)
    ·exact .inl h
    ·exact h
  ·split
   ·rw[aj]
   ·rw[aj,ins_mem,aj];constructor
    ·rintro(h|h|h)
     ·exact .inr (.inl h)
     ·exact .inl h
     ·exact .inr (.inr h)
    ·rintro(h|h|h)
     ·exact .inr (.inl h)
     ·exact .inl h
     ·exact .inr (.inr h)
theorem Eo {x:Str}:∀ {l:List Str},l.Pairwise sLt->(Cz x l).Pairwise sLt
 |[],_=>by simp[Cz]
 |y::l,h=>by
  have h':=l0.mp h;unfold Cz;split
  ·exact h
  ·rename_i hne
   split
   ·rename_i hlt
    have hlt:=ltS_iff.mp hlt;refine l0.mpr ⟨fun z hz=> ?_,h⟩;rcases aj.mp hz with rfl|hz
    ·exact hlt
    ·exact nD hlt (h'.1 z hz)
   ·rename_i hlt
    refine l0.mpr ⟨fun z hz=> ?_,Eo h'.2⟩;rcases ins_mem.mp hz with rfl|hz
    ·rcases uZ hne with q|q
     ·exact absurd (ltS_iff.mpr q) hlt
     ·exact q
    ·exact h'.1 z hz
theorem ord_mem {z:Str}:∀ {xs:List Str},z∈lG xs↔z∈xs
 |[]=>by simp[lG]
 |x::xs=>by
  show z∈Cz x (lG xs)↔_;rw[ins_mem,ord_mem,aj]
theorem Ep {x:Str}:∀ {l:List Str},x∉l->(Cz x l).length=l.length+1
 |[],_=>rfl
 |y::l,h=>by
  have h':=not_or.mp fun z=>h (aj.mpr z);unfold Cz;rw[if_neg h'.1];split
  ·rfl
  ·rw[bv,Ep h'.2,bv]
theorem Du:∀ {xs:List Str},xs.Nodup->(lG xs).length=xs.length
 |[],_=>rfl
 |x::xs,h=>by
  have h':=cx.mp h
  show(Cz x (lG xs)).length=_
  rw[Ep fun z=>h'.1 (ord_mem.mp z),Du h'.2,bv]
theorem nK:∀(xs:List Str),(lG xs).Pairwise sLt
 |[]=>.nil
 |x::xs=>Eo (nK xs)
theorem mV:∀ {l m:List Str},l.Pairwise sLt->m.Pairwise sLt->(∀ x,x∈l↔x∈m)->l=m
 |[],[],_,_,_=>rfl
 |[],b::m,_,_,h=>absurd ((h b).mpr av) (by simp)
 |a::l,[],_,_,h=>absurd ((h a).mp av) (by simp)
 |a::l,b::m,h1,h2,h=>by
  have h1':=l0.mp h1;have h2':=l0.mp h2;have e:a=b:=by
   rcases aj.mp ((h a).mp av) with q|q
   ·exact q
   ·rcases aj.mp ((h b).mpr av) with p|p
    ·exact p.symm
    ·exact absurd (nD (h1'.1 b p) (h2'.1 a q)) (iK a)
  subst e;rw[mV h1'.2 h2'.2 fun x=>⟨fun hx=> ?_,fun hx=> ?_⟩]
  ·rcases aj.mp ((h x).mp (ak _ hx)) with rfl|q
   ·exact absurd (h1'.1 _ hx) (iK _)
   ·exact q
  ·rcases aj.mp ((h x).mpr (ak _ hx)) with rfl|q
   ·exact absurd (h2'.1 _ hx) (iK _)
   ·exact q
noncomputable def ltN (ns:List Str) (i j:Nat):Option Bool:=if i<ns.length/\j<ns.length then zn (ltS (ns.getD i "") (ns.getD j "")) else zo
theorem Ga {ns:List Str} (nd:ns.Nodup) (h2:2<=ns.length):∃ p:Array Nat,Jj (ltN ns) (yj ns.length)=zn p/\p.size=ns.length/\(∀ i∈p.toList,i<ns.length)/\p.toList.map (fun i=>ns.getD i "")=lG ns:=by
 have gm:∀ i,i<ns.length->ns[i]?=zn (ns.getD i ""):=fun i hi=>by rw[ax,bi hi];rfl
 obtain⟨p,e,hp⟩:=Tree.run (n:=ns.length) (lt:=ltN ns) (fun i j hi hj=>⟨_,if_pos ⟨hi,hj⟩⟩) (uL (n:=ns.length) (by omega));have sz:=hp.size;have pl:p.toList.Perm (aw ns.length):=by
  have:=hp
  unfold Pm at this;rw[m8] at this;simpa using this
 have lt:∀ {i j:Nat},i<ns.length->j<ns.length->((ltN ns i j==zn true)=true↔sLt (ns.getD i "") (ns.getD j "")):=fun {i j} hi hj=>by
  unfold ltN;rw[if_pos ⟨hi,hj⟩,<- ltS_iff];simp
 refine⟨p,e,sz,fun i hi=>dn.mp (pl.mem_iff.mp hi),mV ?_ (nK ns) fun x=> ?_⟩
 ·have A:=TreeL.run (GM (n:=ns.length) (L:=fun i j=>ltN ns i j==zn true) (fun i j hi hj hne c=>by
   have ne:ns.getD i ""≠ns.getD j "":=fun z=>hne ((xw hi nd).mp ((gm i hi).trans ((congrArg zn z).trans (gm j hj).symm)));rcases uZ ne with z|z
   ·rw[(lt hi hj).mpr z] at c;cases c
   ·exact(lt hj hi).mpr z) (fun i j k hi hj hk a b=>(lt hi hk).mpr (nD ((lt hi hj).mp a) ((lt hj hk).mp b))) (by omega)) e
  rw[List.pairwise_map,tu];intro i j hi hj hij;have hi':i<p.size:=by simpa using hi
  have hj':j<p.size:=by simpa using hj
  have:=A i j hij (by omega)
  rw[ci,c7 hi',ci,c7 hj'] at this;exact(lt (dn.mp (pl.mem_iff.mp (gw hi))) (dn.mp (pl.mem_iff.mp (gw hj)))).mp (by simpa using this)
 ·rw[ord_mem,(pl.map _).mem_iff];constructor
  ·intro z;obtain⟨i,hi,rfl⟩:=ay.mp z;exact fk (gm i (dn.mp hi))
  ·intro z;obtain⟨i,hi,e⟩:=v4.mp z;refine ay.mpr ⟨i,dn.mpr hi,?_⟩;rw[ax,bi hi];exact e
theorem Inv.draws {X:Cx}{pins:List (ag×Obj)}{σ:St}{H:Hp}{s:ao} (I:Inv X pins σ H s) (d:Drawn):Inv X pins σ H { s with drawn:=d }:=⟨I.ok,I.os,I.bare,I.base,I.loc,I.cell,I.free,I.freeC,I.pin,I.hok,I.len⟩
theorem mK {ns:List Str}{vs:List af} (h:ja (fun n v=>∃ u,v=ip n u) ns vs):vs.length=ns.length/\∀ i,i<ns.length->∃ u,vs.getD i .none=.str (ns.getD i "") u:=by
 induction h with
 |nil=>exact⟨rfl,fun i hi=>by simp at hi⟩
 |cons h1 _ ih=>
  refine⟨by simp[ih.1],fun i hi=> ?_⟩;cases i with
  |zero=>exact h1
  |succ i=>exact ih.2 i (by simpa using hi)
theorem FY {ns:List Str}{vs:List af} (h:ja (fun n v=>∃ u,v=ip n u) ns vs):Vals (ns.map V.str) vs:=by
 induction h with
 |nil=>exact .nil
 |cons h1 _ ih=>exact .cons h1 ih
theorem vF {ns:List Str}{vs:List af} (tv:ja (fun n v=>∃ u,v=ip n u) ns vs):∀ {is:List Nat},(∀ i∈is,i<ns.length)->Vals (is.map (V.str∘fun i=>ns.getD i "")) (is.map fun i=>vs.getD i .none)
 |[],_=>.nil
 |i::is,h=>.cons ((mK tv).2 i (h i av)) (vF tv fun i hi=>h i (ak _ hi))
section
variable {X:Cx}{pins:List (ag×Obj)}{σ:St}{H:Hp}{s:ao}{A:df}{E:af->ao->Prop}
theorem Gq {ns:List Str}{vs:List af}{h1:cm}{tk:Nat}{Q:af->ao->Prop} (I:Inv X pins σ H s) (tv:ja (fun n v=>∃ u,v=ip n u) ns vs) (nd:ns.Nodup) (hz:ns.length<64) (kp:∀ b o,s.heap.get? b=zn o->h1.get? b=zn o)
  (h:∀(h':cm) (l:ag),H l=zo->Inv X pins σ (upd H l (.lst ((lG ns).map V.str))) { s with heap:=h',toks:=tk }->Q (.ref l) { s with heap:=h',toks:=tk }):
  au (model X.prog X.w) A (do
   let l <- newList vs
   let _ <- holding [l] (call (.builtin "list.sort") [l])
   ret l) (fun fin s'=>∃ v,fin=.done (.ret v)/\Q v s') E { s with heap:=h1,toks:=tk }:=by
 have hl:=(mK tv).1;refine ae (se ?_ (by rw[hl,bz];omega));have o1:(h1.push (d8 "list" vs.toArray 0)).get? h1.objs.size=zn (d8 "list" vs.toArray 0):=br _ rfl;have nw:s.heap.get? h1.objs.size=zo:=by
  cases q:s.heap.get? h1.objs.size with
  |none=>rfl
  |some u=>exact absurd (bj (kp _ _ q)) (d5 _)
 have hH:H h1.objs.size=zo:=by
  cases q:H h1.objs.size with
  |none=>rfl
  |some u=>
   obtain⟨v,w⟩:=HOk.obj I.hok q;rw[nw] at w;cases w
 by_cases h2:ns.length<2
 ·have eo:lG ns=ns:=by
   match ns,h2 with
   |[],_=>rfl
   |[_],_=>rfl
  refine ae (fh (eu rg ⟨_,o1,rfl⟩ qm (Mb (s:={ s with heap:=h1.push (d8 "list" vs.toArray 0),toks:=tk }) o1 (by omega) ⟨_,rfl,?_⟩) (rh _)));have ez:(vs.toArray.zip vs.toArray).map (·.2)=vs.toArray:=by
   apply yy;rw[yf,yg];simp[yh]
  have ne:∀ b,b≠h1.objs.size->∀ o,h1.get? b=zn o->(lu (h1.push (d8 "list" vs.toArray 0)) h1.objs.size vs ((vs.toArray.zip vs.toArray).map (·.2))).get? b=zn o:=fun b hb o e=>by
   unfold lu;rw[dc _ _ (cw hb)];refine aq _ (aq _ ?_);rw[dc _ _ (cw hb)];exact aq _ e
  have o2:=ny o1 (fun _=> #[]);have o3:=ny (aq (d8 "list" #[] 0) (aq (d8 "tuple" vs.toArray 0) o2)) (fun _=>(vs.toArray.zip vs.toArray).map (·.2));have o4:∃ c,(lu (h1.push (d8 "list" vs.toArray 0)) h1.objs.size vs ((vs.toArray.zip vs.toArray).map (·.2))).get? h1.objs.size=zn (d8 "list" vs.toArray c):=by
   unfold lu;rw[ez] at o3 ⊢;exact⟨_,o3⟩
  obtain⟨c,o4⟩:=o4;obtain⟨hn,I'⟩:=I.laidN (t':=tk) (fun b o e=>ne b (fun z=>by rw[z,nw] at e;cases e) o (kp b o e)) nw (sI (H:=upd H h1.objs.size (.lst ((lG ns).map V.str))) (by rw[eo];exact FY tv) (by rw[eo,am,bz];omega) o4);exact ai ⟨_,rfl,h _ _ hn I'⟩
 ·obtain⟨p,hrun,hps,hpi,hpick⟩:=Ga nd (by omega);obtain⟨mL,hnL,_⟩:=I.loc;have kp2:∀ b o,s.heap.get? b=zn o->(h1.push (d8 "list" vs.toArray 0)).get? b=zn o:=fun b o e=>aq _ (kp b o e);have fr:Fr X.base X.env.locals (h1.push (d8 "list" vs.toArray 0)) mL:=⟨hnL.keeps kp2,fun b o e=>kp2 b o (I.bk b o e),cu I.ok.bsz I.ok.above⟩;have aL:h1.objs.size≠X.env.locals:=fun z=>by
   obtain⟨oL,_,_,hoL,_⟩:=id hnL;rw[<- z,nw] at hoL;cases hoL
  have hb0:X.base.get? h1.objs.size=zo:=by
   cases q:X.base.get? h1.objs.size with
   |none=>rfl
   |some u=>
    have:=I.bk _ _ q
    rw[nw] at this;cases this
  have isS:∀ v∈vs,∃ x u,v=ip x u:=fun v hv=>by
   obtain⟨i,hi,rfl⟩:=v4.mp hv;obtain⟨u,e⟩:=(mK tv).2 i (by omega);rw[ax,bi hi] at e;exact⟨_,u,e⟩
  refine ae (fh (eu rg ⟨_,o1,rfl⟩ qm (PySem.W.kas_list_sort (T:=.type "str") (s:={ s with heap:=h1.push (d8 "list" vs.toArray 0),toks:=tk }) (news:=nM (h1.push (d8 "list" vs.toArray 0)) X.base X.env.locals h1.objs.size) fr (fun q hq=>let ⟨z1,z2,z3,z4⟩:=fU hq;⟨z1,z2,z4⟩) o1 aL hb0 (fun q hq=>(fU hq).2.2.1) (by omega) (by omega) (fun e1 h' _ _ v hv=>by
   obtain⟨x,u,rfl⟩:=isS v hv;intro A Q E s' _ q;exact ai q) (by decide) (by decide) fun e1 h' fr' nw'=> ?_) (rh _)))
  have keep:∀ {h':cm},Fr X.base X.env.locals h' mL->News X.base X.env.locals h' (nM (h1.push (d8 "list" vs.toArray 0)) X.base X.env.locals h1.objs.size)->∀ b o,b≠X.env.locals->s.heap.get? b=zn o->h'.get? b=zn o:=fun {h'} fr' nw' b o hb e=>by
   have hne:b≠h1.objs.size:=fun z=>by rw[z,nw] at e;cases e
   cases q:X.base.get? b with
   |some u=>
    have:=I.bk b u q
    rw[e] at this;cases this;exact fr'.keep b _ q
   |none=>exact(nw' _ (qO (kp2 b o e) hb hne q)).1
  have nsk:∀ {h':cm},Fr X.base X.env.locals h' mL->∀ m,s.heap.Ns X.env.locals m->h'.Ns X.env.locals m:=fun {h'} fr' m hm=>by
   rw[IK hm hnL];exact fr'.ns
  rw[show vs.length=ns.length from hl];refine xQ (fun i j c C e q=> ?_) hrun ?_
  ·obtain⟨⟨hi,hj⟩,e⟩:=bA (show(if i<ns.length/\j<ns.length then zn (ltS (ns.getD i "") (ns.getD j "")) else zo)=zn c from e);obtain⟨u,e1⟩:=(mK tv).2 i hi;obtain⟨u',e2⟩:=(mK tv).2 j hj;show au _ _ (keyLt' _ (vs.getD i eg) (vs.getD j eg)) _ _ _;rw[e1,e2];rw[<- e] at q;exact xj q
  ·refine⟨_,_,fr',nw',.head (fun q hq=>(fU hq).2.2.1),fun h2 cc fr2 nw2=>⟨_,rfl,?_⟩⟩;have na2:h2.get? h1.objs.size=zn (zb (List.map (fun i=>vs.getD i eg) p.toList).toArray cc):=(nw2 _ av).1;have I2:Inv X pins σ (upd H h1.objs.size (.lst ((lG ns).map V.str))) { s with heap:=h2,toks:=tk }:=by
    have kk:=keep fr2 fun q hq=>nw2 q (ak _ hq);refine I.movedN kk (nsk fr2) (fun b o e=> ?_) (fun b u e=> ?_) fun b u e=> ?_
    ·rw[aE (fun z=>by rw[z,nw] at e;cases e)]
    ·rw[aE (aG e hH)];exact e
    ·by_cases hb:b=h1.objs.size
     ·subst hb;rw[aJ] at e;cases e;have ol:(lG ns).length=ns.length:=by rw[<- hpick,am,ca,hps]
      refine⟨by rw[am,ol,bz];omega,_,cc,?_,na2⟩;rw[<- hpick,gp];exact vF tv hpi
     ·rw[aE hb] at e;have nl:∀ {c:ag}{o:HO},H c=zn o->c≠X.env.locals:=fun e z=>by rw[z,I.free] at e;cases e
      refine(I.hok b u e).stay (fun c v hc q=> ?_) (fun c q=>by rw[aE (aG q hH)];exact q) fun c xs q=>by rw[aE (aG q hH)];exact q
      rcases hc with rfl|hc
      ·exact kk c v (nl e) q
      ·exact kk c v (nl hc) q
   exact ai ⟨_,rfl,h h2 _ hH I2⟩
end
section
variable {X:Cx}{cls exC:Nat->ag}{E:XE}{e:b0}{fa:OG D}{pos p p2 cpos:Pos}
noncomputable def Me (X:Cx) (a:ag) (ns:List Str):HO:=.ext fun h=>TxtSet X.prog X.w h a ns
def Rb (X:Cx):List V->Hp->VK->Prop:=fun xs H Q=>∃ a ns,xs=[.ref a]/\H a=zn (.lst (ns.map V.str))/\ns.length<=900/\∀ l,H l=zo->Q (.ref l) (upd H l (Me X l ns))
theorem FC (hc:X.calm=true):CallR X (.type "set") (Rb X):=by
 intro pins s σ H xs us Q I r h;obtain⟨a,ns,rfl,ha,hz,q⟩:=h;obtain⟨u,rfl,rx⟩:=jR r;cases rx;obtain⟨_,its,c,rv,hlen,eo⟩:=I.lstM ha;have hli:s.heap.IsList a its.toArray:=⟨_,eo,rfl,c,rfl⟩;have hl:its.length=ns.length:=by rw[<- rv.length,am]
 have en:(aw its.toArray.size).map (fun i=>ns.getD i "")=ns:=by
  rw[bh,hl];apply iy;intro j;rw[bg]
  by_cases hj:j<ns.length
  ·rw[fw hj,bi hj];show zn (ns.getD j "")=_;rw[ax,bi hj];rfl
  ·rw[b7 (by simp;omega),b7 (by omega)];rfl
 refine Gj (f:=fun i=>ns.getD i "") (I.ok.hd hc) hli (fun i v e=> ?_) (by rw[bh,hl];unfold rm;omega) fun h' tk ts kp=> ?_
 ·have e:its[i]?=zn v:=by simpa using e
  have hi:i<ns.length:=by
   have:=(bx.mp e).1
   omega
  obtain⟨v',e3,r3⟩:=rv.get (i:=i) (x:=.str (ns.getD i "")) (by rw[bg,bi hi,ax,bi hi];rfl);rw[e] at e3;cases e3;exact r3
 ·rw[en] at ts;have nw:s.heap.get? s.heap.objs.size=zo:=by
   cases q:s.heap.get? s.heap.objs.size with
   |none=>rfl
   |some u=>exact absurd (bj q) (d5 _)
  obtain⟨o,_,_,_,ho,_⟩:=id ts;obtain⟨hn,I'⟩:=I.laidN (t':=tk) (o:=Me X s.heap.objs.size ns) kp nw ⟨ts,⟨o,ho⟩,fun h1 h2 x k=>x.same k⟩;exact⟨.ref _,_,I',rfl,q _ hn⟩
def Pj (X:Cx):List V->Hp->VK->Prop:=fun xs H Q=>∃ v ns,xs=[.ref v]/\H v=zn (Me X v ns)/\ns.length<=900/\(lG ns).length<64/\∀ l,H l=zo->Q (.ref l) (upd H l (.lst ((lG ns).map V.str)))
theorem FA (hc:X.calm=true):CallR X (.builtin "sorted") (Pj X):=by
 intro pins s σ H xs us Q I r h;obtain⟨v,ns,rfl,hv,hz,h64,q⟩:=h;obtain⟨u,rfl,rx⟩:=jR r;cases rx;have ts:TxtSet X.prog X.w s.heap v ns:=(show ObjOk X.prog X.w H s.heap v (Me X v ns) from I.hok v _ hv).1;refine n5 x8 xf xg (xh _) ?_;unfold Builtin.«sorted»;refine ae (m:=checkCount "sorted" 1 1 _) (ai (ae (Jh (I.ok.hd hc) ts (by omega) fun h1 tk d vs kp tv=> ?_)));obtain⟨ms,nd,mem,ml,pr⟩:=tv;have eo:lG ms=lG ns:=mV (nK ms) (nK ns) fun x=>by rw[ord_mem,ord_mem,mem]
 have:=Gq (A:=X.A.in1) (E:=X.xe) (s:={ s with drawn:=d }) (Q:=EP X pins σ Q) (h1:=h1) (tk:=tk) (Inv.draws I d) pr nd (by rw[<- Du nd,eo];exact h64) kp fun h' l hl I'=>⟨.ref l,_,I',rfl,by rw[eo];exact q l hl⟩
 exact this
end
noncomputable def mM:List D->Option (List Str)
 |[]=>zn []
 |.str x::r=>(mM r).map (x::·)
 |_=>zo
theorem CQ {K:aa}{ok:Okk}{H:Hp}:∀ {ds:List D}{ns:List Str}{xs:List V},mM ds=zn ns->Reps K ok H xs ds->xs=ns.map V.str
 |[],ns,xs,h,r=>by cases h;cases r;rfl
 |d::ds,ns,xs,h,r=>by
  cases d with
  |str x=>
   obtain⟨ms,e,rfl⟩:=aF (show(mM ds).map (x::·)=zn ns from h);cases r with|cons r1 rs=>
   obtain rfl:=r1.str_inv;rw[CQ e rs];rfl
  |_=>cases h
theorem Az {K:aa}{ok:Okk}{H:Hp}:∀ ns:List Str,Reps K ok H (ns.map V.str) (ns.map D.str)
 |[]=>.nil
 |x::ns=>.cons (.str x) (Az ns)
noncomputable def KU (ω:Om) (d:D):Option D:=(dX ω d).bind fun ds=>(mM ds).bind fun ns=>if ns.length<=900/\(lG ns).length<64 then zn (.lst ((lG ns).map D.str)) else zo
noncomputable def sE (f:OG D):OG D:=oB f fun d _ ω=>oR (pu (KU ω d) ω)
section
variable {X:Cx}{cls exC:Nat->ag}{E:XE}{e:b0}{fe:OG D}{pos p p2 cp:Pos}
theorem Dz (hc:X.calm=true) (hg:Gl X "sorted") (hm:X.mg "sorted"=zo) (hg2:Gl X "set") (hm2:X.mg "set"=zo) (ho:OE X cls E e fe) (he2:ar [e] X.env=(false,eval e X.env)::ar [] X.env:=by rfl) (hp2:(dq cp (ar [] X.env)).any (·.1)=false:=by rfl)
  (he:ar [.Call (.Name "set" p2) [e] [] cp] X.env=(false,eval (.Call (.Name "set" p2) [e] [] cp) X.env)::ar [] X.env:=by rfl) (hpl:(dq pos (ar [] X.env)).any (·.1)=false:=by rfl):
  OE X cls E (.Call (.Name "sorted" p) [.Call (.Name "set" p2) [e] [] cp] [] pos) (sE fe):=
 (kC (FA hc) hg hm boot.sorted (eW (vG (FC hc) hg2 hm2 (by decide+kernel) (eW ho lF he2) (by decide) (by decide) he2 hp2) lF he) (by decide) (by decide) he hpl).imp fun σ H Q ⟨ok,ρ,ω,r,ω',P,e,q⟩=>by
  refine tO.then_ P e (fun c z=>by subst z;exact q) fun d ω1 v ok1 H1 e1 n1 P1 r1=> ?_;obtain⟨y,e3,rfl⟩:=bX e1;obtain⟨ue3,rfl⟩:=cJ e3;obtain⟨ds,e4,ue3⟩:=bind_some ue3;obtain⟨ns,e5,ue3⟩:=bind_some ue3;obtain⟨hz,e6⟩:=bA ue3;cases e6;obtain⟨a,xs,rfl,g,rs⟩:=eE P1.st r1 e4;obtain rfl:=CQ e5 rs;refine⟨a,ns,rfl,g,hz.1,fun l nl=>⟨l,ns,rfl,aJ,hz.1,hz.2,fun l2 nl2=> ?_⟩⟩;have s2:=bO (o:=Me X l ns) nl;have s3:=bO (o:=.lst ((lG ns).map V.str)) nl2;exact q _ ok1 _ (n1.trans (.same P1.okh P1.st (s2.trans s3))) (.lst_new (P1.okh l2 (s2.free nl2)) nl2 (Az _))
end
section
variable {X:Cx}{cls:Nat->ag}{E:XE}{o e e2 u:b0}{fo fa g:OG D}{fl:OG (List D)}{pos apos cpos:Pos}
def QC:V->List V->Hp->VK->Prop:=fun x vs H Q=>∃ l k y xs,x=.ref l/\vs=[.int k,y]/\H l=zn (.lst xs)/\0<=k/\k<=xs.length/\xs.length<1000/\Q .non (upd H l (.lst (xs.take k.toNat++y::xs.drop k.toNat)))
theorem NF:MtM X "list.insert" QC:=by
 intro pins s σ H x vs v us Q I rx rv h;obtain⟨l,k,y,xs,rfl,rfl,hH,h0,hk,hz,q⟩:=h;cases rx;obtain⟨w1,w2,rfl,r1,r2⟩:=Vals.two rv;obtain⟨t,rfl⟩:=r1;obtain⟨z,its,n,r,hl,e⟩:=I.lstM hH;have hfit:¬(!j9 k)=true:=by
  have:j9 k=true:=by
   have e1:(-(2 ^ 63:Int)<=0):=by decide+kernel
   have e2:((1000:Int)<2 ^ 63):=by decide+kernel
   unfold j9
   generalize (2 ^ 63:Int)=b at e1 e2
   rw[bt,decide_eq_true_eq,decide_eq_true_eq];omega
  rw[this]
  decide
 refine tf ui ⟨_,e,rfl⟩ PySem.F.entry_list_insert (PySem.F.args_list_insert_3 _ _ _) (PySem.AutoSeq1.list_insert_list_int_val_1 l _ n k t w2 hfit (by rw[bh,bz];omega)) ⟨e,?_⟩;refine⟨.non,_,I.lset (its':=its.take k.toNat++w2::its.drop k.toNat) hH e ?_ ((r.take k.toNat).append (.cons r2 (r.drop k.toNat))) ?_,rfl,q⟩
 ·dsimp only;rw[if_neg (by omega),bh,ux (by omega)];apply yy;simp;exact i6 (by rw[mq];omega)
 ·rw[bq,bv,i9,mq,bz];omega
noncomputable def EN (ω:Om) (d:D) (as:List D):Option (D×Om):=match d,as with
 |.obj n,[.int k,v]=>(match ω[n]? with
  |some (.ml ds)=>if 0<=k/\k<=ds.length/\ds.length<1000 then zn (.non,ω.set n (.ml (ds.take k.toNat++v::ds.drop k.toNat))) else zo
  |_=>zo)
 |_,_=>zo
theorem EM {ω ω':Om}{d y:D}{as:List D} (h:EN ω d as=zn (y,ω')):∃ n v ds k,d=.obj n/\as=[.int k,v]/\ω[n]?=zn (.ml ds)/\0<=k/\k<=ds.length/\ds.length<1000/\y=.non/\ω'=ω.set n (.ml (ds.take k.toNat++v::ds.drop k.toNat)):=by
 unfold EN at h;split at h
 ·split at h
  ·obtain⟨⟨h1,h2,h3⟩,e⟩:=bA h;cases e;exact⟨_,_,_,_,rfl,rfl,‹_›,h1,h2,h3,rfl,rfl⟩
  ·cases h
 ·cases h
theorem Le {K:aa}:Al cls K QC EN:=fun ok H ω x xs a as d ω' Q h1 st ra rs e k=>by
 obtain⟨n,v,ds,i,rfl,rfl,hc,h0,hi,hz,rfl,rfl⟩:=EM e;obtain⟨a1,rfl,e4,us,e5,r5⟩:=st.ref ra hc;cases rs with|cons q1 rs=>
 obtain⟨w,rfl,q2⟩:=rs.one_inv;obtain rfl:=q1.int_inv;exact⟨a1,i,w,us,rfl,rfl,e5,h0,by rw[r5.length];exact hi,by rw[r5.length];exact hz,k _ ok _ (Nw.write (o:=.lst (us.take i.toNat++w::us.drop i.toNat)) (ob:=.ml (ds.take i.toNat++v::ds.drop i.toNat)) h1 st e4 e5 fun dat=>⟨_,aJ,((r5.take i.toNat).append (.cons q2 (r5.drop i.toNat))).mono dat⟩) .non⟩
theorem DD (ho:OE X cls E o fo) (ha:OA X cls E [e,e2] fl) (hbase:g9 o "insert" X.env (eval o X.env)=eval o X.env:=by rfl)
  (hfew:((dq cpos (ar [e,e2] X.env)).all (fun x=> !x.1)&&(jt cpos (ig [] X.env)).all (fun x=>x.1.isSome)
   &&decide ([e,e2].length+([]:List jk).length+(if([]:List jk).isEmpty then 0 else 1)<30))=true:=by rfl)
  (hline:(apos.endLine==cpos.line)=true:=by rfl) (hs:ar [e,e2] X.env=(false,eval e X.env)::ar [e2] X.env:=by rfl) (hplain:(dq cpos (ar [e2] X.env)).any (·.1)=false:=by rfl):
  OE X cls E (.Call (.Attribute o "insert" apos) [e,e2] [] cpos) (gW EN fo fl):=JY ui PySem.F.type_list_insert (fun pins s σ H x xs v us Q=>NF pins s σ H x xs v us Q) Le ho ha hbase hfew hline hs hplain
noncomputable def PJ (f g:OG D):OG D:=oB f fun a ρ ω=>oB g (fun d _ ω2=>(toI d).bind fun lo=>(dX ω2 a).bind fun ds=>zn (.ok (.lst (tM ds (zn lo) zo)),ω2)) ρ ω
theorem DC {p2:Pos} (he:OE X cls E e fa) (hu:OE X cls E u g):OE X cls E (.Subscript e (.Slice (zn u) zo zo p2) pos) (PJ fa g):=(AE sl_list he (Dl hu) Dm).imp fun σ H Q ⟨ok,ρ,ω,r,ω',P,e,q⟩=>by
 refine tO.then_ P e (fun c z=>by subst z;exact q) fun a ω1 v ok1 H1 e1 n1 P1 r1=> ?_;refine tO.then_ P1 e1 (fun c z=>by subst z;exact exR.nw q n1) fun b ω2 w ok3 H3 e3 n3 P3 r3=> ?_;obtain⟨ih,g2,e4⟩:=bind_some e3;obtain⟨ds,hs,e5⟩:=bind_some e4;cases e5;have hb:b=.int ih:=by
  cases b <;> cases g2;rfl
 subst hb;cases r3;refine⟨ih,rfl,?_⟩;obtain⟨p,xs,rfl,g,rs⟩:=eE P3.st (r1.ex n3.ex) hs;exact⟨p,xs,rfl,SqL.of g,fun p' n=>q _ ok3 _ ((n1.trans n3).trans (.same P3.okh P3.st (bO n))) (.lst_new (P3.okh p' n) n (rs.cut (zn ih) zo))⟩
end
end L2.MB
end
section
namespace L2.MB.Lw
open PySem PySem.Spec PyProof.Rows L2.MB
abbrev Cu:List Str:=["seen","mark"]
abbrev Cq:List Str:=["seen","mark"]
noncomputable abbrev Cb:OS:=(aS (o2 (lf gLe) (zX (zV 1) (zI 1)) (zX (zV 0) (zX (zV 1) (zI 0)))))
noncomputable def eR:eC:=eB 2 Cu Cb
abbrev Bs:List Str:=["one","other"]
abbrev Iq:List Str:=["one","other"]
noncomputable abbrev HA:OS:=(aS (cY Oh (oIZ (aC (zV 0) (aC (zV 1) aK))) [zo,zo] (tQ 0 1) (oPT jQ) (oL (lfL EL) (aC (zV 0) (aC (zV 1) aK)))))
noncomputable def gA:eC:=eB 2 Bs HA
abbrev uA:List Str:=["rows","least","row"]
abbrev Ir:List Str:=["rows"]
noncomputable abbrev fE:OS:=(aU 1 (cY tE (oIZ (aC (zV 1) (aC (zV 2) aK))) [zo,zo] (tQ 0 1) (oPT jQ) (oL (lfL HD) (aC (zV 0) (aC (zV 1) aK)))))
noncomputable abbrev AW:OS:=(aH (aU 1 (oL gN (aC (zX (zV 0) (zI 0)) aK))) (aH (sNx (bJ (oIL (oSl (zV 0) (dSo (dC (.int 1))) dNo)) (aZ 2) fE)) (aS (zV 1))))
noncomputable def mC:eC:=eB 1 uA AW
abbrev FS:List Str:=["one","other"]
abbrev LA:List Str:=["one","other"]
noncomputable abbrev KS:OS:=(aS (oL (lfL OM) (aC (cY tE (oIZ (aC (zV 0) (aC (zV 1) aK))) [zo,zo] (tQ 0 1) (oPT jQ) (oL (lfL EL) (aC (o2 (lf gSub) (zV 1) (zV 0)) (aC (zI 0) aK)))) aK)))
noncomputable def xV:eC:=eB 2 FS KS
abbrev Ae:List Str:=["self"]
abbrev zQ:List Str:=["self"]
noncomputable abbrev yP:OS:=(aS (zX (fK 0 "knows" (zV 0)) (fK 0 "number" (zV 0))))
noncomputable def bK:eC:=eB 1 Ae yP
abbrev FT:List Str:=["entries","hand"]
abbrev FP:List Str:=["entries","hand"]
noncomputable abbrev EA:OS:=(aS (cY tE (oIL (zV 0)) [zo,zn 1] (aZ 0) (oOr (dG (o2 (fun ω a b=>pu (LK ω a b) ω) (zX (zV 0) (zI 1)) (fK 0 "table" (zV 1)))) (jF (gU (bG eR (aC (bB 0 "seen" bK (zV 1) aK) (aC (zX (zV 0) (zI 1)) aK)))))) (zV 0)))
noncomputable def kD:eC:=eB 2 FT EA
abbrev uB:List Str:=["self","number","count"]
abbrev tU:List Str:=["self","number","count"]
noncomputable abbrev kM:OS:=(aH (lU 0 "number" (zV 0) (zV 1)) (aH (lU 0 "knows" (zV 0) (cY Oh (oIA oE (aC (zV 2) aK)) [zo,zn 2] (aZ 0) (oPT jQ) (o2 HC (zL (aC (zI 0) aK)) (zV 1)))) (aH (lU 0 "table" (zV 0) DK) (lU 0 "kept" (zV 0) DK))))
noncomputable def dD:eC:=eB 3 uB kM
abbrev pW:List Str:=["self"]
abbrev pU:List Str:=["self"]
noncomputable abbrev pO:OS:=(aS (GU 4 (fK 0 "table" (zV 0))))
noncomputable def bH:eC:=eB 1 pW pO
abbrev xA:List Str:=["self"]
abbrev wY:List Str:=["self"]
noncomputable abbrev wB:OS:=(aS (cY tE (oIL (fK 0 "knows" (zV 0))) [zo] (aZ 0) (oPT jQ) (oL gN (aC (zV 0) aK))))
noncomputable def fM:eC:=eB 1 xA wB
abbrev pV:List Str:=["self"]
abbrev pT:List Str:=["self"]
noncomputable abbrev pN:OS:=(aS (cY tE (oIL (oL (EH 4) (aC (fK 0 "kept" (zV 0)) aK))) [zo,zn 0] (aZ 0) (oPT jQ) (zT (aC (zV 0) (aC (oL gN (aC (zD (fK 0 "kept" (zV 1)) (zV 0)) aK)) aK)))))
noncomputable def dR:eC:=eB 1 pV pN
abbrev pG:List Str:=["self","seen"]
abbrev pC:List Str:=["self"]
noncomputable abbrev iA:OS:=(aH (aU 1 (bB 0 "seen" bK (zV 0) aK)) (aH (nC yR (zV 1) (fK 0 "number" (zV 0)) (o2 (lf wD) (zX (zV 1) (fK 0 "number" (zV 0))) (zI 1))) (aS (zT (aC (fK 0 "number" (zV 0)) (aC (zX (zV 1) (fK 0 "number" (zV 0))) aK))))))
noncomputable def cL:eC:=eB 1 pG iA
abbrev Cv:List Str:=["self","name","value","mark"]
abbrev Cr:List Str:=["self","name","value"]
noncomputable abbrev rC:OS:=(aH (aU 3 (bB 0 "new_mark" cL (zV 0) aK)) (aH (nC sV (fK 0 "table" (zV 0)) (zV 3) (zT (aC (zV 1) (aC (zV 3) (aC (zV 2) aK))))) (aS (zV 3))))
noncomputable def dO:eC:=eB 3 Cv rC
abbrev gH:List Str:=["self","seen_by_all","kept","deed"]
abbrev tV:List Str:=["self"]
noncomputable abbrev aO:OS:=(dN (jF (gU (bG eR (aC (zV 1) (aC (zV 3) aK))))) (nC sV (zV 2) (zV 3) (zD (fK 0 "kept" (zV 0)) (zV 3))) bI)
noncomputable abbrev gC:OS:=(aH (aU 1 (bG mC (aC (fK 0 "knows" (zV 0)) aK))) (aH (aU 2 DK) (aH (sNx (Ji (fK 0 "kept" (zV 0)) (aZ 3) aO)) (lU 0 "kept" (zV 0) (zV 2)))))
noncomputable def eK:eC:=eB 1 gH gC
abbrev iH:List Str:=["self","deed","marks","mark"]
abbrev pB:List Str:=["self","deed","marks"]
noncomputable abbrev bR:OS:=(bV (nL EK (fK 0 "table" (zV 0)) (aC (zV 3) aK)))
noncomputable abbrev gZ:OS:=(aH (sNx (bJ (oIL (zV 2)) (aZ 3) bR)) (aH (dN (gU (zV 2)) (nC sV (fK 0 "kept" (zV 0)) (zV 1) (oL EE (aC (zV 2) aK))) bI) (bV (bB 0 "forget" eK (zV 0) aK))))
noncomputable def cK:eC:=eB 3 iH gZ
abbrev iI:List Str:=["self","name"]
abbrev pD:List Str:=["self","name"]
noncomputable abbrev oA:OS:=(aS (cY tE (oIL (bB 0 "entries" bH (zV 0) aK)) [zo,zn 1] (aZ 0) (dG (o2 (lL 8) (zX (zV 0) (zI 0)) (zV 1))) (zX (zV 0) (zI 1))))
noncomputable def cM:eC:=eB 2 iI oA
abbrev uC:List Str:=["self","name","value","marks","mark"]
abbrev tW:List Str:=["self","name","value"]
noncomputable abbrev kN:OS:=(aH (aU 3 (bB 0 "marks_of" cM (zV 0) (aC (zV 1) aK))) (aH (aU 4 (bB 0 "put" dO (zV 0) (aC (zV 1) (aC (zV 2) aK)))) (aH (bV (bB 0 "take_out" cK (zV 0) (aC (zV 4) (aC (zV 3) aK)))) (aS (zV 4)))))
noncomputable def dE:eC:=eB 3 uC kN
abbrev Ad:List Str:=["self","name","marks"]
abbrev zP:List Str:=["self","name"]
noncomputable abbrev jK:OS:=(aH (aU 2 (bB 0 "marks_of" cM (zV 0) (aC (zV 1) aK))) (aH (dN (jF (gU (zV 2))) (aS (oP (dC .non))) bI) (aH (bV (bB 0 "take_out" cK (zV 0) (aC (bB 0 "new_mark" cL (zV 0) aK) (aC (zV 2) aK)))) (aS (zV 2)))))
noncomputable def eX:eC:=eB 2 Ad jK
abbrev Af:List Str:=["self","teller","many","seen","table","entry"]
abbrev zR:List Str:=["self","teller"]
noncomputable abbrev dU:OS:=(nC sV (zV 4) (zX (zV 5) (zI 1)) (zV 5))
noncomputable abbrev oC:OS:=(aH (aU 2 (bG xV (aC (bB 0 "seen" bK (zV 0) aK) (aC (bB 0 "seen" bK (zV 1) aK) aK)))) (aH (aU 3 (bG gA (aC (bB 0 "seen" bK (zV 0) aK) (aC (bB 0 "seen" bK (zV 1) aK) aK)))) (aH (aU 4 DK) (aH (sNx (bJ (oIL (o2 yT (bG kD (aC (bB 0 "entries" bH (zV 0) aK) (aC (zV 1) aK))) (bG kD (aC (bB 0 "entries" bH (zV 1) aK) (aC (zV 0) aK))))) (aZ 5) dU)) (aH (lU 0 "table" (zV 0) (zV 4)) (aH (lU 0 "knows" (zV 0) (cY Oh (oIZ (aC (fK 0 "knows" (zV 0)) (aC (fK 0 "knows" (zV 1)) aK))) [zo,zo] (tQ 0 1) (oPT jQ) (bG gA (aC (zV 0) (aC (zV 1) aK))))) (aH (nC yR (fK 0 "knows" (zV 0)) (fK 0 "number" (zV 0)) (zV 3)) (aH (bV (nL ED (fK 0 "kept" (zV 0)) (aC (fK 0 "kept" (zV 1)) aK))) (aH (bV (bB 0 "forget" eK (zV 0) aK)) (aS (zV 2)))))))))))
noncomputable def bY:eC:=eB 2 Af oC
abbrev uD:List Str:=["self","count"]
abbrev tX:List Str:=["self","count"]
noncomputable abbrev kO:OS:=(lU 1 "hands" (zV 0) (cY tE (oIA oE (aC (zV 1) aK)) [zo,zn 1] (aZ 0) (oPT jQ) (pK 0 dD (aC (zV 0) (aC (zV 1) aK)))))
noncomputable def eM:eC:=eB 2 uD kO
abbrev Ak:List Str:=["self","number"]
abbrev Aa:List Str:=["self","number"]
noncomputable abbrev jN:OS:=(aH (dN (jF (qL gLe gLt (zI 0) (zV 1) (oL dQ (aC (fK 1 "hands" (zV 0)) aK)))) (Aw 0 (dC (.str "there is no hand of that number"))) bI) (aS (zX (fK 1 "hands" (zV 0)) (zV 1))))
noncomputable def bD:eC:=eB 2 Ak jN
abbrev Ai:List Str:=["self","one","other","hands"]
abbrev zY:List Str:=["self","one","other"]
noncomputable abbrev fF:OS:=(aH (aU 3 (zT (aC (bB 1 "hand" bD (zV 0) (aC (zV 1) aK)) (aC (bB 1 "hand" bD (zV 0) (aC (zV 2) aK)) aK)))) (aH (dN (dG (o2 (lL 8) (zV 1) (zV 2))) (Aw 1 (dC (.str "a hand can't tell or meet itself"))) bI) (aS (zV 3))))
noncomputable def bL:eC:=eB 3 Ai fF
abbrev Cw:List Str:=["self","number","name","value"]
abbrev Cs:List Str:=["self","number","name","value"]
noncomputable abbrev Cc:OS:=(aS (bB 0 "put" dO (bB 1 "hand" bD (zV 0) (aC (zV 1) aK)) (aC (zV 2) (aC (zV 3) aK))))
noncomputable def fT:eC:=eB 4 Cw Cc
abbrev uE:List Str:=["self","number","name","value"]
abbrev tY:List Str:=["self","number","name","value"]
noncomputable abbrev sT:OS:=(aS (bB 0 "change" dE (bB 1 "hand" bD (zV 0) (aC (zV 1) aK)) (aC (zV 2) (aC (zV 3) aK))))
noncomputable def dF:eC:=eB 4 uE sT
abbrev Ah:List Str:=["self","number","name"]
abbrev zW:List Str:=["self","number","name"]
noncomputable abbrev yQ:OS:=(aS (bB 0 "take" eX (bB 1 "hand" bD (zV 0) (aC (zV 1) aK)) (aC (zV 2) aK)))
noncomputable def eZ:eC:=eB 3 Ah yQ
abbrev Ag:List Str:=["self","one","other","hands"]
abbrev zU:List Str:=["self","one","other"]
noncomputable abbrev jL:OS:=(aH (aU 3 (bB 1 "pair" bL (zV 0) (aC (zV 1) (aC (zV 2) aK)))) (aS (bB 0 "hear" bY (zX (zV 3) (zI 1)) (aC (zX (zV 3) (zI 0)) aK))))
noncomputable def eY:eC:=eB 3 Ag jL
abbrev Aj:List Str:=["self","one","other","hands","many","gained"]
abbrev zZ:List Str:=["self","one","other"]
noncomputable abbrev jM:OS:=(aH (aU 3 (bB 1 "pair" bL (zV 0) (aC (zV 1) (aC (zV 2) aK)))) (aH (aU 4 (bB 0 "hear" bY (zX (zV 3) (zI 1)) (aC (zX (zV 3) (zI 0)) aK))) (aH (aU 5 (zT (aC (bB 0 "hear" bY (zX (zV 3) (zI 0)) (aC (zX (zV 3) (zI 1)) aK)) (aC (zV 4) aK)))) (aH (bV (bB 0 "hear" bY (zX (zV 3) (zI 1)) (aC (zX (zV 3) (zI 0)) aK))) (aS (zV 5))))))
noncomputable def fA:eC:=eB 3 Aj jM
abbrev OF:List Str:=["hall","deed","kind"]
abbrev OD:List Str:=["hall","deed"]
noncomputable abbrev rB:OS:=(aH (aU 2 (zX (zV 1) (zI 0))) (aH (dN (dG (o2 (lL 8) (zV 2) (zS "put"))) (aS (bB 1 "put" fT (zV 0) (aC (zX (zV 1) (zI 1)) (aC (zX (zV 1) (zI 2)) (aC (zX (zV 1) (zI 3)) aK))))) bI) (aH (dN (dG (o2 (lL 8) (zV 2) (zS "change"))) (aS (bB 1 "change" dF (zV 0) (aC (zX (zV 1) (zI 1)) (aC (zX (zV 1) (zI 2)) (aC (zX (zV 1) (zI 3)) aK))))) bI) (aH (dN (dG (o2 (lL 8) (zV 2) (zS "take"))) (aS (bB 1 "take" eZ (zV 0) (aC (zX (zV 1) (zI 1)) (aC (zX (zV 1) (zI 2)) aK)))) bI) (aH (dN (dG (o2 (lL 8) (zV 2) (zS "tell"))) (aS (bB 1 "tell" eY (zV 0) (aC (zX (zV 1) (zI 1)) (aC (zX (zV 1) (zI 2)) aK)))) bI) (aS (bB 1 "meet" fA (zV 0) (aC (zX (zV 1) (zI 1)) (aC (zX (zV 1) (zI 2)) aK)))))))))
noncomputable def iY:eC:=eB 2 OF rB
abbrev Ac:List Str:=["hall","deed"]
abbrev zO:List Str:=["hall","deed"]
noncomputable abbrev gB:OS:=(uY (aS (bG iY (aC (zV 0) (aC (zV 1) aK)))) 0 (aS (zS "no hand")) 1 (aS (zS "same hand")))
noncomputable def bS:eC:=eB 2 Ac gB
abbrev wZ:List Str:=["count","deeds","hall"]
abbrev FR:List Str:=["count","deeds"]
noncomputable abbrev wA:OS:=(aH (aU 2 (pK 1 eM (aC (zV 0) aK))) (aS (cY tE (oIL (zV 1)) [zo,zn 2] (aZ 0) (oPT jQ) (bG bS (aC (zV 1) (aC (zV 0) aK))))))
noncomputable def nH:eC:=eB 2 wZ wA
abbrev FV:List Str:=["count","deeds","hall","deed"]
abbrev LB:List Str:=["count","deeds"]
noncomputable abbrev dP:OS:=(bV (bG bS (aC (zV 2) (aC (zV 3) aK))))
noncomputable abbrev EC:OS:=(aH (aU 2 (pK 1 eM (aC (zV 0) aK))) (aH (sNx (bJ (oIL (zV 1)) (aZ 3) dP)) (aS (zT (aC (cY tE (oIL (fK 1 "hands" (zV 2))) [zo] (aZ 0) (oPT jQ) (bB 0 "entries" bH (zV 0) aK)) (aC (cY tE (oIL (fK 1 "hands" (zV 2))) [zo] (aZ 0) (oPT jQ) (oL gN (aC (bB 0 "seen" bK (zV 0) aK) aK))) (aC (cY tE (oIL (fK 1 "hands" (zV 2))) [zo] (aZ 0) (oPT jQ) (bB 0 "known" fM (zV 0) aK)) (aC (cY tE (oIL (fK 1 "hands" (zV 2))) [zo] (aZ 0) (oPT jQ) (bB 0 "in_mind" dR (zV 0) aK)) aK))))))))
noncomputable def xW:eC:=eB 2 FV EC
abbrev Br:List Str:=["_law_found","_law_meant","_law_k"]
abbrev Bq:List Str:=["_law_found","_law_meant"]
noncomputable abbrev mE (φ:eC):OS:=(aH (dN (dG (o2 (lf NZ) (zV 1) (oP (dC .non)))) (aS (o2 (lf NZ) (zV 0) (oP (dC .non)))) bI) (aH (dN (gU (jG "bool" (zV 1))) (aS (BH (jG "bool" (zV 0)) (o2 (lL 8) (zV 0) (zV 1)))) bI) (aH (dN (gU (jG "int" (zV 1))) (aS (BH (jG "int" (zV 0)) (BH (Kn (jG "bool" (zV 0))) (o2 (lL 8) (zV 0) (zV 1))))) bI) (aH (dN (gU (jG "str" (zV 1))) (aS (BH (jG "str" (zV 0)) (o2 (lL 8) (zV 0) (zV 1)))) bI) (aH (dN (gU (jG "dict" (zV 1))) Mf bI) (aH (dN (dG (o2 (AX 8) (jG "tuple" (zV 1)) (jG "tuple" (zV 0)))) (aS (oP (dC (.bl false)))) bI) (aH (dN (oOr (dG (o2 (AX 8) (jG "list" (zV 1)) (jG "list" (zV 0)))) (jF (gU (BG (zV 1))))) (aS (oP (dC (.bl false)))) bI) (aH (dN (dG (o2 (AX 8) (oL dQ (aC (zV 0) aK)) (oL dQ (aC (zV 1) aK)))) (aS (oP (dC (.bl false)))) bI) (aH (sNx (bJ (oIA oE (aC (oL dQ (aC (zV 1) aK)) aK)) (aZ 2) (dN (jF (gU (bG φ (aC (zX (zV 0) (zV 2)) (aC (zX (zV 1) (zV 2)) aK))))) (aS (oP (dC (.bl false)))) bI))) (aS (oP (dC (.bl true)))))))))))))
noncomputable def dA:Nat->eC
 |0=>fun _ _=>zo
 |n+1=>eB 2 Br (mE (dA n))
abbrev Ab:List Str:=["_law_found"]
abbrev zM:List Str:=["_law_found"]
noncomputable abbrev yO:OS:=(aS (BH (jG "int" (zV 0)) (Kn (jG "bool" (zV 0)))))
noncomputable def fX:eC:=eB 1 Ab yO
abbrev mJ:List Str:=["_law_script","_law_k"]
abbrev Ip:List Str:=["_law_script","_law_k"]
noncomputable abbrev sS:OS:=(aH (dN (dG (o2 (lf gLt) (zV 1) (oL dQ (aC (zV 0) aK)))) (aS (zX (zV 0) (zV 1))) bI) (aS (zI 0)))
noncomputable def kE:eC:=eB 2 mJ sS
abbrev pF:List Str:=["_law_count","_law_deeds","_law_handed","_law_found"]
abbrev pA:List Str:=["_law_count","_law_deeds"]
noncomputable abbrev gY:OS:=(aH (aU 2 (oL gN (aC (zV 1) aK))) (aH (aU 3 (bG xW (aC (zV 0) (aC (zV 2) aK)))) (aH (dN (oOr (dG (o2 (AX 8) (zV 2) (zV 1))) (oOr (jF (gU (jG "tuple" (zV 3)))) (dG (o2 (AX 8) (oL dQ (aC (zV 3) aK)) (zI 4))))) (aS (zT (aC (oP (dC .non)) (aC (oP (dC .non)) (aC (oP (dC .non)) (aC (oP (dC .non)) aK)))))) bI) (aS (zV 3)))))
noncomputable def dB:eC:=eB 2 pF gY
abbrev FU:List Str:=["_law_count","_law_large"]
abbrev FQ:List Str:=["_law_count"]
noncomputable abbrev EB:OS:=(aH (aU 1 (zI 100000000000000000000)) (aS (zL (aC (oP (d1 PY (dC (.int 1)))) (aC (zV 0) (aC (oP (d1 PY (dC (.int 2)))) (aC (o2 (lf gSub) (zI 0) (zV 0)) (aC (zV 1) (aC (o2 (lf gSub) (zI 0) (zV 1)) aK)))))))))
noncomputable def dY:eC:=eB 1 FU EB
abbrev Ct:List Str:=["_law_j","_law_count"]
abbrev Cp:List Str:=["_law_j","_law_count"]
noncomputable abbrev Ca:OS:=(aH (dN (dG (o2 (lL 8) (o2 (lf cC) (zV 1) (zI 2)) (zI 0))) (aS (o2 (lf KZ) (o2 (lf KZ) (o2 (lf KY) (zS "o") (o2 (lf cC) (zV 1) (zI 5))) (zX (zS "abcd") (zV 0))) (o2 (lf KY) (zS "o") (o2 (lf gSub) (zI 5) (o2 (lf cC) (zV 1) (zI 5)))))) bI) (aS (zX (zL (aC (zS "oats") (aC (zS "oat") (aC (zS "") (aC (zS "oatsack") aK))))) (zV 0))))
noncomputable def eQ:eC:=eB 2 Ct Ca
abbrev kW:List Str:=["_law_cell","_law_k","_law_count","_law_way","_law_one","_law_other","_law_name","_law_values","_law_value"]
abbrev tT:List Str:=["_law_cell","_law_k","_law_count"]
noncomputable abbrev sN:OS:=(aH (aU 3 (o2 (lf cC) (o2 (lf cC) (o2 (lf gM) (zV 0) (zI 48271)) (zI 1009)) (zI 16))) (aH (aU 4 (o2 (lf cC) (o2 (lf cC) (o2 (lf gM) (o2 (lf wD) (zV 0) (zV 1)) (zI 48271)) (zI 1013)) (zV 2))) (aH (aU 5 (zV 4)) (aH (dN (IJ (dG (o2 (lf gGt) (zV 2) (zI 1))) (dG (o2 (lf gGt) (o2 (lf cC) (o2 (lf cC) (o2 (lf gM) (zV 0) (zI 48271)) (zI 1019)) (zI 19)) (zI 0)))) (aU 5 (o2 (lf cC) (o2 (lf wD) (o2 (lf wD) (zV 4) (zI 1)) (o2 (lf cC) (o2 (lf cC) (o2 (lf gM) (zV 0) (zI 48271)) (zI 1021)) (o2 (lf gSub) (zV 2) (zI 1)))) (zV 2))) bI) (aH (aU 6 (bG eQ (aC (o2 (lf cC) (o2 (lf cC) (o2 (lf gM) (zV 0) (zI 48271)) (zI 1031)) (zI 4)) (aC (zV 2) aK)))) (aH (aU 7 (zL (aC (o2 (lf gSub) (o2 (lf cC) (o2 (lf cC) (o2 (lf gM) (zV 0) (zI 48271)) (zI 1033)) (zI 9)) (zI 4)) (aC (o2 (lf gSub) (zI 0) (zV 1)) (aC (o2 (lf wD) (zI 100000000000000000000) (zV 1)) aK))))) (aH (aU 8 (zX (zV 7) (o2 (lf cC) (o2 (lf cC) (o2 (lf gM) (zV 0) (zI 48271)) (zI 1039)) (zI 3)))) (aH (dN (dG (o2 (lL 8) (o2 (lf cC) (o2 (lf cC) (o2 (lf gM) (zV 0) (zI 48271)) (zI 1049)) (zI 31)) (zI 30))) (aU 4 (zX (bG dY (aC (zV 2) aK)) (o2 (lf cC) (o2 (lf cC) (o2 (lf gM) (zV 0) (zI 48271)) (zI 1051)) (zI 6)))) bI) (aH (dN (dG (o2 (lL 8) (o2 (lf cC) (o2 (lf cC) (o2 (lf gM) (zV 0) (zI 48271)) (zI 1061)) (zI 31)) (zI 30))) (aU 5 (zX (bG dY (aC (zV 2) aK)) (o2 (lf cC) (o2 (lf cC) (o2 (lf gM) (zV 0) (zI 48271)) (zI 1063)) (zI 6)))) bI) (aH (dN (dG (o2 (lf gLt) (zV 3) (zI 5))) (aS (zT (aC (zS "put") (aC (zV 4) (aC (zV 6) (aC (zV 8) aK)))))) bI) (aH (dN (dG (o2 (lf gLt) (zV 3) (zI 7))) (aS (zT (aC (zS "take") (aC (zV 4) (aC (zV 6) aK))))) bI) (aH (dN (dG (o2 (lf gLt) (zV 3) (zI 9))) (aS (zT (aC (zS "change") (aC (zV 4) (aC (zV 6) (aC (zV 8) aK)))))) bI) (aS (zT (aC (zX (zL (aC (zS "tell") (aC (zS "meet") aK))) (oL (lfL Oa) (aC (o2 (lf gGt) (zV 3) (zI 11)) aK))) (aC (zV 4) (aC (zV 5) aK)))))))))))))))))
noncomputable def fZ:eC:=eB 3 kW sN
abbrev pE:List Str:=["_law_cells","_law_count","_law_deeds","_law_k"]
abbrev zN:List Str:=["_law_cells","_law_count"]
noncomputable abbrev dS:OS:=(bV (gW pQ (zV 2) (aC (bG fZ (aC (o2 (lf wD) (zX (zV 0) (zV 3)) (o2 (lf gM) (zI 7) (zV 3))) (aC (zV 3) (aC (zV 1) aK)))) aK)))
noncomputable abbrev nZ:OS:=(aH (aU 2 (oL ON aK)) (aH (sNx (bJ (oIA oE (aC (oL dQ (aC (zV 0) aK)) aK)) (aZ 3) dS)) (aS (zV 2))))
noncomputable def fY:eC:=eB 2 pE nZ
abbrev lY:List Str:=["_law_found","_law_count","_law_rows","_law_row"]
abbrev lX:List Str:=["_law_found","_law_count"]
noncomputable abbrev cW:OS:=(aH (dN (oOr (jF (gU (jG "tuple" (zV 3)))) (oOr (dG (o2 (AX 8) (oL dQ (aC (zV 3) aK)) (zI 3))) (jF (gU (jG "str" (zX (zV 3) (zI 0))))))) (aS (oP (dC (.bl false)))) bI) (aH (dN (oOr (jF (gU (jG "tuple" (zX (zV 3) (zI 1))))) (oOr (dG (o2 (AX 8) (oL dQ (aC (zX (zV 3) (zI 1)) aK)) (zI 2))) (jF (gU (bG fX (aC (zX (zV 3) (zI 2)) aK)))))) (aS (oP (dC (.bl false)))) bI) (dN (oOr (jF (gU (bG fX (aC (zX (zX (zV 3) (zI 1)) (zI 0)) aK)))) (jF (gU (bG fX (aC (zX (zX (zV 3) (zI 1)) (zI 1)) aK))))) (aS (oP (dC (.bl false)))) bI)))
noncomputable abbrev cA:OS:=(aH (dN (jF (gU (jG "list" (zV 2)))) (aS (oP (dC (.bl false)))) bI) (sNx (bJ (oIL (zV 2)) (aZ 3) cW)))
noncomputable abbrev gK:OS:=(aH (dN (oOr (jF (gU (jG "list" (zV 0)))) (dG (o2 (AX 8) (oL dQ (aC (zV 0) aK)) (zV 1)))) (aS (oP (dC (.bl false)))) bI) (aH (sNx (bJ (oIL (zV 0)) (aZ 2) cA)) (aS (oP (dC (.bl true))))))
noncomputable def cF:eC:=eB 2 lY gK
abbrev Qo:List Str:=["_law_script","_law_count","_law_deeds","_law_spot","_law_before","_law_names","_law_rows","_law_name","_law_gone","_law_longer","_law_due","_law_k","_law_marks","_law_told","_law_more","_law_end","_law_tables","_law_row"]
abbrev Qk:List Str:=["_law_script"]
noncomputable abbrev sR:OS:=(dN (dG (o2 (lf (gIn 7)) (zX (zV 17) (zI 1)) (zV 8))) (aS (oP (dC (.bl false)))) bI)
noncomputable abbrev sQ:OS:=(sNx (bJ (oIL (zV 6)) (aZ 17) sR))
noncomputable abbrev sP:OS:=(aH (aU 16 (zX (bG dB (aC (zV 1) (aC (o2 yT (zV 9) (oSl (zV 14) dNo (dSo (Fp 15)))) aK))) (zI 0))) (aH (dN (jF (gU (bG cF (aC (zV 16) (aC (zV 1) aK))))) (aS (oP (dC (.bl false)))) bI) (sNx (bJ (oIL (zV 16)) (aZ 6) sQ))))
noncomputable abbrev sO:OS:=(aH (aU 12 (cY tE (oIL (zX (zV 4) (zV 11))) [zo,zn 7] (aZ 0) (dG (o2 (lL 8) (zX (zV 0) (zI 0)) (zV 1))) (zX (zV 0) (zI 1)))) (aH (bV (gW pQ (zV 9) (aC (zT (aC (zS "take") (aC (zV 11) (aC (zV 7) aK)))) aK))) (aH (aU 8 (o2 yT (zV 8) (zV 12))) (bV (gW pQ (zV 10) (aC (zX (zL (aC (oP (dC .non)) (aC (zV 12) aK))) (oL (lfL Oa) (aC (o2 (AX 8) (zV 12) (zL aK)) aK))) aK))))))
noncomputable abbrev mF:OS:=(bV (gW ER (zV 5) (aC (cY tE (oIL (zV 6)) [zo] (aZ 0) (oPT jQ) (zX (zV 0) (zI 0))) aK)))
noncomputable abbrev NU:OS:=(aH (aU 1 (zX (zL (aC (zI 1) (aC (zI 2) (aC (zI 3) (aC (zI 4) (aC (zI 2) (aC (zI 3) (aC (zI 4) (aC (zI 8) aK))))))))) (o2 (lf cC) (o2 (lf cC) (o2 (lf gM) (bG kE (aC (zV 0) (aC (zI 0) aK))) (zI 48271)) (zI 1069)) (zI 8)))) (aH (aU 2 (bG fY (aC (oSl (zV 0) (dSo (dC (.int 2))) (dSo (dC (.int 18)))) (aC (zV 1) aK)))) (aH (aU 3 (o2 (lf cC) (o2 (lf cC) (o2 (lf gM) (bG kE (aC (zV 0) (aC (zI 0) aK))) (zI 48271)) (zI 1087)) (o2 (lf wD) (oL dQ (aC (zV 2) aK)) (zI 1)))) (aH (bV (gW EN (zV 2) (aC (zV 3) (aC (zT (aC (zS "put") (aC (zI 0) (aC (bG eQ (aC (zI 0) (aC (zV 1) aK))) (aC (zI 5) aK))))) aK)))) (aH (aU 4 (zX (bG dB (aC (zV 1) (aC (zV 2) aK))) (zI 0))) (aH (dN (jF (gU (bG cF (aC (zV 4) (aC (zV 1) aK))))) (aS (oP (dC (.bl false)))) bI) (aH (aU 5 (oL ON aK)) (aH (sNx (bJ (oIL (zV 4)) (aZ 6) mF)) (aH (aU 5 (sE (o2 yT (zV 5) (zL (aC (bG eQ (aC (zI 0) (aC (zV 1) aK))) aK))))) (aH (aU 7 (zX (zV 5) (o2 (lf cC) (o2 (lf cC) (o2 (lf gM) (bG kE (aC (zV 0) (aC (zI 1) aK))) (zI 48271)) (zI 1091)) (oL dQ (aC (zV 5) aK))))) (aH (aU 8 (zL aK)) (aH (aU 9 (oL AY (aC (zV 2) aK))) (aH (aU 10 (oL ON aK)) (aH (sNx (bJ (oIA oE (aC (zV 1) aK)) (aZ 11) sO)) (aH (aU 13 (bG nH (aC (zV 1) (aC (oL gN (aC (zV 9) aK)) aK)))) (aH (dN (oOr (jF (gU (jG "list" (zV 13)))) (jF (gU (bG (dA 8) (aC (PJ (zV 13) (oL dQ (aC (zV 2) aK))) (aC (zV 10) aK)))))) (aS (oP (dC (.bl false)))) bI) (aH (aU 14 (bG fY (aC (oSl (zV 0) (dSo (dC (.int 18))) (dSo (dC (.int 33)))) (aC (zV 1) aK)))) (aH (sNx (bJ (oIL (zL (aC (zI 0) (aC (o2 (lf Oc) (oL dQ (aC (zV 14) aK)) (zI 3)) (aC (oL dQ (aC (zV 14) aK)) aK))))) (aZ 15) sP)) (aS (oP (dC (.bl true))))))))))))))))))))))
noncomputable def p_law:eC:=eB 1 Qo NU
theorem fI (J:Rho->Prop) (hc:chk ω=true):∀ {ds:List D}{ρ:Rho},J ρ->(∀ d∈ds,∀ ρ,J ρ->∃ ρ1,bd d ρ=zn ρ1/\J ρ1/\t ρ1 ω=zn (.ok (p d),ω)/\(p d=true->f ρ1 ω=zn (.ok (g d),ω)))->
  compLO bd chk t f ds ρ ω=zn ((ds.filter p).map g,ω)
 |[],ρ,_,_=>by
  show(if chk ω=true then zn ([],ω) else zo)=_
  rw[if_pos hc];rfl
 |d::ds,ρ,hJ,h=>by
  obtain⟨ρ1,h1,h2,h3,h4⟩:=h d av ρ hJ;have ih:=fI J hc h2 fun d' hd=>h d' (ak _ hd);unfold compLO;rw[if_pos hc,h1]
  show(match t ρ1 ω with
   |some (.ok k,ω1)=>_
   |_=>_)=_
  rw[h3];cases hp:p d with
  |true=>
   rw[f7 hp]
   show(if true=true then(match f ρ1 ω with
    |some (.ok y,ω2)=>_
    |_=>zo) else _)=_
   rw[if_pos rfl,h4 hp]
   show(compLO bd chk t f ds ρ1 ω).map _=_
   rw[ih];rfl
  |false=>
   rw[f6 (by rw[hp];exact cg)];exact ih
theorem iQ (J:Rho->Prop) (hc:chk ω=true) (hJ:J ρ) (h:∀ d∈ds,∀ ρ,J ρ->∃ ρ1,bd d ρ=zn ρ1/\J ρ1/\f ρ1 ω=zn (.ok (g d),ω)):
  compLO bd chk (oPT jQ) f ds ρ ω=zn (ds.map g,ω):=by
 have:=fI (t:=oPT jQ) (p:=fun _=>true) (g:=g) J hc hJ fun d hd ρ hρ=>let ⟨ρ1,h1,h2,h3⟩:=h d hd ρ hρ;⟨ρ1,h1,h2,rfl,fun _=>h3⟩
 rw[this]
 congr 2
 rw[wm.mpr (fun _ _=>rfl)]
theorem fB (h1:fi ρ ω=zn (.ok (ds,chk),ω1)) (hl:ds.length<=sizeLine) (h2:compLO bd chk t f ds (CA caps ρ) ω1=zn (out,ω2)):cY tE fi caps bd t f ρ ω=zn (.ok (.lst out),ω2):=by
 unfold cY;rw[aY h1]
 show(if ds.length<=sizeLine then _ else zo)=_
 rw[if_pos hl]
 show(compLO bd chk t f ds (CA caps ρ) ω1).bind _=_
 rw[h2];rfl
theorem yA (h1:fi ρ ω=zn (.ok (ds,chk),ω1)) (hl:ds.length<=sizeLine) (h2:compLO bd chk t f ds (CA caps ρ) ω1=zn (out,ω2)):cY Oh fi caps bd t f ρ ω=zn (.ok (.obj ω2.length),ω2++[.ml out]):=by
 unfold cY;rw[aY h1]
 show(if ds.length<=sizeLine then _ else zo)=_
 rw[if_pos hl]
 show(compLO bd chk t f ds (CA caps ρ) ω1).bind _=_
 rw[h2];rfl
theorem cB (hc:chk ω=true) (hb:bd d ρ=zn ρ1) (hF:F ρ1 ω=zn (.nx ρ2,ω2)):cH bd chk F (d::ds) ρ ω=cH bd chk F ds ρ2 ω2:=by
 show(if chk ω=true then(bd d ρ).bind (fun ρ1=>match F ρ1 ω with
  |none=>zo
  |some (.nx ρ2,ω2)=>cH bd chk F ds ρ2 ω2
  |some (.ct ρ2,ω2)=>cH bd chk F ds ρ2 ω2
  |some (.bk ρ2,ω2)=>zn (.nx ρ2,ω2)
  |some (.rt d,ω2)=>zn (.rt d,ω2)
  |some (.ex _,_)=>zo) else zo)=_
 rw[if_pos hc,hb]
 show(match F ρ1 ω with
  |none=>zo
  |some (.nx ρ2,ω2)=>cH bd chk F ds ρ2 ω2
  |some (.ct ρ2,ω2)=>cH bd chk F ds ρ2 ω2
  |some (.bk ρ2,ω2)=>zn (.nx ρ2,ω2)
  |some (.rt d,ω2)=>zn (.rt d,ω2)
  |some (.ex _,_)=>zo)=_
 rw[hF]
theorem wL (hc:chk ω=true) (hb:bd d ρ=zn ρ1) (hf:f ρ1 ω=zn (.ok y,ω2)):compLO bd chk (oPT jQ) f (d::ds) ρ ω=(compLO bd chk (oPT jQ) f ds ρ1 ω2).map fun r=>(y::r.1,r.2):=by
 rw[compLO.eq_2,if_pos hc,hb]
 show(match f ρ1 ω with
  |some (.ok y,ω2)=>(compLO bd chk (oPT jQ) f ds ρ1 ω2).map fun r:List D×Om=>(y::r.1,r.2)
  |_=>zo)=_
 rw[hf]
mutual
theorem qF:∀ a:D,eU a a=true
 |.non=>by simp[eU]
 |.bl a=>by simp[eU]
 |.int a=>by simp[eU]
 |.str a=>by simp[eU]
 |.obj a=>by simp[eU]
 |.lst a=>by simpa [eU] using sameDs_refl a
 |.tup a=>by simpa [eU] using sameDs_refl a
 |.scr a=>by simpa [eU] using sameDs_refl a
theorem sameDs_refl:∀ a:List D,sameDs a a=true
 |[]=>by simp[sameDs]
 |a::as=>by simp[sameDs,qF a,sameDs_refl as]
end
noncomputable def iv (xs:List Int):List D:=xs.map D.int
def RowV (ω:Om) (d:D) (xs:List Int):Prop:=dX ω d=zn (iv xs)
theorem RowV.it (h:RowV ω d xs):∃ chk,wC ω d=zn (iv xs,chk)/\chk ω=true:=by
 rcases jV h with rfl|⟨n,rfl,e⟩
 ·exact⟨bT,rfl,rfl⟩
 ·refine⟨qU n (iv xs),?_,?_⟩
  ·show(match ω[n]? with
    |some (.ml ds)=>zn (ds,qU n ds)
    |_=>zo)=_
   rw[e]
  ·unfold qU;rw[e];exact sameDs_refl _
theorem sW (e:ω[n]?=zn (.ml ds)):Cd ω (.obj n) (.int a)=atI ds a:=by
 simp only[Cd,cellOf,e];rfl
theorem RowV.ix (h:RowV ω d xs) {a:Int} (h0:0<=a) (h1:a<xs.length):Cd ω d (.int a)=zn (.int (xs.getD a.toNat 0)):=by
 have key:atI (iv xs) a=zn (.int (xs.getD a.toNat 0)):=by
  unfold atI ixN iv;have hl:a<((xs.map D.int).length:Int):=by simpa using h1
  rw[if_pos h0,if_pos hl]
  show(xs.map D.int)[a.toNat]?=_
  have:a.toNat<xs.length:=by omega
  rw[bg,bi this,ax,bi this];rfl
 rcases jV h with rfl|⟨n,rfl,e⟩
 ·exact key
 ·rw[sW e];exact key
theorem aT (e1:f ρ ω=zn (.ok a,ω1)) (e2:h ρ ω1=zn (.ok b,ω2)) (e3:Cd ω2 a b=zn d):zX f h ρ ω=zn (.ok d,ω2):=gO e1 e2 (by show pu (Cd ω2 a b) ω2=_;rw[e3];rfl)
theorem nW (h:RowV ω d xs) {a b:Int} (h0:0<=a) (h1:a<xs.length):eR [d,.tup [.int a,.int b]] ω=zn (.ok (.bl (decide (b<=xs.getD a.toNat 0))),ω):=by
 refine aR rfl (bC (fC (aT (aB (d:=.tup [.int a,.int b]) rfl) aQ rfl) (aT (aB (d:=d) rfl) (aT (aB (d:=.tup [.int a,.int b]) rfl) aQ rfl) (h.ix h0 h1)) rfl))
theorem CB (e1:f ρ ω=zn (.ok a,ω)) (e2:h ρ ω=zn (.ok b,ω)) (h1:RowV ω a xs) (h2:RowV ω b ys):∃ chk,oIZ (aC f (aC h aK)) ρ ω=zn (.ok (xE (iv xs) (iv ys),chk),ω)/\chk ω=true:=by
 obtain⟨c1,g1,k1⟩:=h1.it;obtain⟨c2,g2,k2⟩:=h2.it;refine⟨fun ω=>c1 ω&&c2 ω,?_,by simp[k1,k2]⟩;unfold oIZ;rw[aY (aA e1 (aA e2 aD))];show oR (pu (OO ω [a,b]) ω)=_;unfold OO;show oR (pu ((wC ω a).bind _) ω)=_;rw[g1];show oR (pu ((wC ω b).map _) ω)=_;rw[g2];rfl
theorem rT (hG:∀ x y,G (.tup [.int x,.int y])=.int (g x y)):(xE (iv xs) (iv ys)).map G=iv (bw g xs ys):=by
 unfold xE iv;rw[yl]
 induction xs generalizing ys with
 |nil=>rfl
 |cons x r ih=>
  cases ys with
  |nil=>rfl
  |cons y r'=>simp only[jv,bu,hG,ih]
theorem xC (h:d∈xE (iv xs) (iv ys)):∃ x y,d=.tup [.int x,.int y]:=by
 unfold xE iv at h;rw[yl] at h
 induction xs generalizing ys with
 |nil=>simp at h
 |cons x r ih=>
  cases ys with
  |nil=>simp at h
  |cons y r'=>
   rw[jv] at h;rcases aj.mp h with h|h
   ·exact⟨x,y,h⟩
   ·exact ih h
theorem xD (h:xs.length<=sizeLine):(xE (iv xs) (iv ys)).length<=sizeLine:=by
 unfold xE iv;rw[fx,am,am];omega
noncomputable def D2 (g:Int->Int->Int):D->D
 |.tup [.int x,.int y]=>.int (g x y)
 |d=>d
noncomputable def mx (i j:Int):Int:=if j>i then j else i
noncomputable def mn (i j:Int):Int:=if j<i then j else i
theorem uN:∀ xs:List Int,mO (iv xs)=zn xs
 |[]=>rfl
 |x::r=>by
  show(mO (iv r)).map _=_
  rw[uN r];rfl
theorem vS (h1:RowV ω a xs) (h2:RowV ω b ys) (hl:xs.length<=sizeLine):gA [a,b] ω=zn (.ok (.obj ω.length),ω++[.ml (iv (bw mx xs ys))]):=by
 obtain⟨chk,z1,z2⟩:=CB (f:=zV 0) (h:=zV 1) (ρ:=cE Bs [a,b]) (aB (d:=a) rfl) (aB (d:=b) rfl) h1 h2;refine aR rfl (bC (yA z1 (xD hl) ?_));rw[<- rT (G:=D2 mx) (fun _ _=>rfl)];refine iQ (fun ρ=>ρ.length=2) z2 rfl fun d hd ρ hρ=> ?_;obtain⟨x,y,rfl⟩:=xC hd
 match ρ,hρ with
 |[u,v],_=>exact⟨_,rfl,rfl,rfl⟩
theorem Ha (h1:RowV ω a xs) (h2:RowV ω b ys) (hl:xs.length<=sizeLine):xV [a,b] ω=zn (.ok (.int (bw (fun x y=>mx (y-x) 0) xs ys).sum),ω):=by
 obtain⟨chk,z1,z2⟩:=CB (f:=zV 0) (h:=zV 1) (ρ:=cE FS [a,b]) (aB (d:=a) rfl) (aB (d:=b) rfl) h1 h2;refine aR rfl (bC (dH (aA (fB (ω2:=ω) (out:=iv (bw (fun x y=>mx (y-x) 0) xs ys)) z1 (xD hl) ?_) aD) ?_))
 ·rw[<- rT (G:=D2 fun x y=>mx (y-x) 0) (fun _ _=>rfl)];refine iQ (fun ρ=>ρ.length=2) z2 rfl fun d hd ρ hρ=> ?_;obtain⟨x,y,rfl⟩:=xC hd
  match ρ,hρ with
  |[u,v],_=>exact⟨_,rfl,rfl,rfl⟩
 ·show pu ((mO (iv _)).map _) ω=_;rw[uN];rfl
theorem AZ (R:α->Rho->Om->Prop) (st:α->D->α) (hc:∀ a ρ ω,R a ρ ω->chk ω=true):∀ {ds:List D}{a:α}{ρ:Rho}{ω:Om},R a ρ ω->(∀ d∈ds,∀ a ρ ω,R a ρ ω->∃ ρ1 ρ2 ω2,bd d ρ=zn ρ1/\F ρ1 ω=zn (.nx ρ2,ω2)/\R (st a d) ρ2 ω2)->
  ∃ ρ' ω',cH bd chk F ds ρ ω=zn (.nx ρ',ω')/\R (ds.foldl st a) ρ' ω'
 |[],a,ρ,ω,h,_=>⟨ρ,ω,by show(if chk ω=true then _ else zo)=_;rw[if_pos (hc a ρ ω h)],h⟩
 |d::ds,a,ρ,ω,h,g=>by
  obtain⟨ρ1,ρ2,ω2,e1,e2,h2⟩:=g d av a ρ ω h;obtain⟨ρ',ω',e3,h3⟩:=AZ R st hc h2 fun d' hd=>g d' (ak _ hd);refine⟨ρ',ω',?_,h3⟩;exact(cB (hc a ρ ω h) e1 e2).trans e3
theorem eV (h:F ρ ω=zn (.nx ρ',ω')):sNx F ρ ω=zn (.nx ρ',ω'):=by
 unfold sNx;rw[h]
structure Hd where
 knows:List (List Int)
 table:List (List Key×D)
 kept:List (List Key×D)
def RowsAt (ω:Om):List Nat->List (List Int)->Prop:=ja fun r xs=>ω[r]?=zn (Ob.ml (iv xs))
structure HandAt (ω:Om) (h:Nat) (i:Int) (hd:Hd) (k t e:Nat) (rs:List Nat):Prop where
 obj:ω[h]?=zn (.ins 0 [("number",.int i),("knows",.obj k),("table",.obj t),("kept",.obj e)])
 kn:ω[k]?=zn (.ml (rs.map D.obj))
 rows:RowsAt ω rs hd.knows
 tb:ω[t]?=zn (.dt hd.table)
 kp:ω[e]?=zn (.dt hd.kept)
 nd:(h::k::t::e::rs).Nodup
theorem RowsAt.get (h:RowsAt ω rs kn) {j:Nat} (e:kn[j]?=zn xs):∃ r,rs[j]?=zn r/\ω[r]?=zn (.ml (iv xs)):=by
 induction h generalizing j with
 |nil=>simp at e
 |cons hr _ ih=>
  cases j with
  |zero=>simp at e;subst e;exact⟨_,rfl,hr⟩
  |succ j=>simp at e;obtain⟨r,e1,e2⟩:=ih e;exact⟨r,by simpa using e1,e2⟩
theorem RowsAt.length (h:RowsAt ω rs kn):rs.length=kn.length:=jm h
theorem fG (e1:f ρ ω=zn (.ok (.obj n),ω1)) (e2:ω1[n]?=zn (.ins c fs)) (e3:fs.lookup x=zn d):fK c x f ρ ω=zn (.ok d,ω1):=by
 unfold fK;rw[aY e1];show oR (pu (LJ c x ω1 (.obj n)) ω1)=_
 have:LJ c x ω1 (.obj n)=zn d:=by
  simp[LJ,cellOf,e2,e3]
 rw[this];rfl
theorem bM (e1:fo ρ ω=zn (.ok (.obj n),ω1)) (e2:ω1[n]?=zn (.ins c fs)) (e3:fs.lookup m=zo) (e4:fl ρ ω1=zn (.ok ds,ω2)) (e5:φ (.obj n::ds) ω2=zn (r,ω3)):
  bB c m φ fo fl ρ ω=zn (r,ω3):=by
 unfold bB;rw[aY e1]
 have:BQ c m ω1 (.obj n)=true:=by
  simp only[BQ,cellOf,e2,e3];simp
 show(if BQ c m ω1 (.obj n)=true then _ else zo)=_
 rw[if_pos this,aY e4];exact e5
section
variable {ω:Om}{h k t e:Nat}{i:Int}{hd:Hd}{rs:List Nat}{ρ:Rho}{f:OG D}
theorem HandAt.number (H:HandAt ω h i hd k t e rs) (ef:f ρ ω=zn (.ok (.obj h),ω)):fK 0 "number" f ρ ω=zn (.ok (.int i),ω):=fG ef H.obj rfl
theorem HandAt.knows (H:HandAt ω h i hd k t e rs) (ef:f ρ ω=zn (.ok (.obj h),ω)):fK 0 "knows" f ρ ω=zn (.ok (.obj k),ω):=fG ef H.obj rfl
theorem HandAt.table (H:HandAt ω h i hd k t e rs) (ef:f ρ ω=zn (.ok (.obj h),ω)):fK 0 "table" f ρ ω=zn (.ok (.obj t),ω):=fG ef H.obj rfl
theorem HandAt.kept (H:HandAt ω h i hd k t e rs) (ef:f ρ ω=zn (.ok (.obj h),ω)):fK 0 "kept" f ρ ω=zn (.ok (.obj e),ω):=fG ef H.obj rfl
noncomputable def Hd.seen (hd:Hd) (i:Nat):List Int:=hd.knows.getD i []
theorem jD {i:Nat} (H:HandAt ω h i hd k t e rs) (hr:rs[i]?=zn r):bK [.obj h] ω=zn (.ok (.obj r),ω):=by
 refine aR rfl (bC (aT (H.knows (aB rfl)) (H.number (aB rfl)) ?_));rw[sW H.kn];have hl:i<rs.length:=(bx.mp hr).1;unfold atI ixN;rw[if_pos (j4 i),if_pos (by simpa using hl)]
 show(rs.map D.obj)[i]?=_
 rw[bg,hr];rfl
theorem HandAt.seenRow {i:Nat} (H:HandAt ω h i hd k t e rs) (hi:i<hd.knows.length):∃ r,rs[i]?=zn r/\ω[r]?=zn (.ml (iv (hd.seen i))):=by
 refine H.rows.get ?_;unfold Hd.seen;rw[ax,bi hi];rfl
noncomputable def Hd.entries (hd:Hd):Option (List D):=iU 4 (hd.table.map (·.2))
theorem iO (H:HandAt ω h i hd k t e rs) (hs:hd.entries=zn out):bH [.obj h] ω=zn (.ok (.lst out),ω):=by
 refine aR rfl (bC ?_);unfold GU;rw[aY (H.table (aB rfl))];show oR (pu (EG 4 ω (.obj t)) ω)=_
 have:EG 4 ω (.obj t)=zn (.lst out):=by
  simp only[EG,cellOf,H.tb]
  show(hd.entries).map _=_
  rw[hs];rfl
 rw[this];rfl
theorem bP (e1:fo ρ ω=zn (.ok (.obj n),ω1)) (e2:ω1[n]?=zn (.ins c fs)) (e3:fs.lookup m=zo) (e5:φ [.obj n] ω1=zn (r,ω3)):
  bB c m φ fo aK ρ ω=zn (r,ω3):=bM e1 e2 e3 aD e5
noncomputable def marksIn (name:D) (rows:List D):List D:=(rows.filter fun d=>match d with|.tup (a::_)=>(eqD 8 a name)==zn true|_=>false).map fun d=>match d with|.tup (_::m::_)=>m|_=>.non
def fV (d:D):Prop:=∃ x a b v,d=.tup [.str x,.tup [.int a,.int b],.int v]
theorem iB (n:Nat) (x y:Str):eqD n (.str x) (.str y)=zn (decide (x=y)):=by cases n <;> rfl
theorem Hg (H:HandAt ω h i hd k t e rs) (hs:hd.entries=zn out) (he:∀ d∈out,fV d) (hl:out.length<=sizeLine) (y:Str):cM [.obj h,.str y] ω=zn (.ok (.lst (marksIn (.str y) out)),ω):=by
 have e1:bB 0 "entries" bH (zV 0) aK (cE iI [.obj h,.str y]) ω=zn (.ok (.lst out),ω):=bP (aB rfl) H.obj rfl (iO H hs);refine aR rfl (bC (fB (ds:=out) (chk:=bT) (ω1:=ω) ?_ hl ?_))
 ·unfold oIL;rw[aY e1];rfl
 ·unfold marksIn;refine fI (fun ρ=>∃ u,ρ=[u,zn (.str y)]) rfl ⟨_,rfl⟩ fun d hd ρ hρ=> ?_;obtain⟨x,a,b,v,rfl⟩:=he d hd;obtain⟨u,rfl⟩:=hρ;refine⟨_,rfl,⟨_,rfl⟩,?_,fun _=>rfl⟩;refine cN (gO (aT (aB rfl) aQ rfl) (aB rfl) ?_);show pu ((eqD 8 (.str x) (.str y)).map D.bl) ω=_;rw[iB];show zn (D.bl (decide (x=y)),ω)=zn (D.bl (eqD 8 (.str x) (.str y)==zn true),ω);rw[iB];cases decide (x=y) <;> rfl
theorem kZ {o i v:D} (e1:fv ρ ω=zn (.ok v,ω1)) (e2:fo ρ ω1=zn (.ok o,ω2)) (e3:fi ρ ω2=zn (.ok i,ω3)) (e4:g ω3 o i v=zn ω4):nC g fo fi fv ρ ω=zn (.nx ρ,ω4):=by
 unfold nC;rw[bW e1,bW e2,bW e3]
 show(g ω3 o i v).map _=_
 rw[e4];rfl
theorem CU {j:Nat} (e:ω[n]?=zn (.ml ds)) (hj:j<ds.length):yR ω (.obj n) (.int j) v=zn (ω.set n (.ml (ds.set j v))):=by
 simp only[yR,e];unfold ixN;rw[if_pos (j4 j),if_pos (by simpa using hj)];simp
theorem aM (h:m≠n):(ω.set n ob)[m]?=ω[m]?:=ir (cw h)
theorem bQ (h:ω[n]?=zn ob'):(ω.set n ob)[n]?=zn ob:=by
 have hl:n<ω.length:=(bx.mp h).1;simp[hl]
theorem RowsAt.mono (h:RowsAt ω rs kn) (k:∀ r∈rs,ω'[r]?=ω[r]?):RowsAt ω' rs kn:=by
 induction h with
 |nil=>exact .nil
 |cons hr _ ih=>exact .cons ((k _ av).trans hr) (ih fun r hr=>k r (ak _ hr))
theorem HandAt.mono (H:HandAt ω h i hd k t e rs) (g:∀ n∈h::k::t::e::rs,ω'[n]?=ω[n]?):HandAt ω' h i hd k t e rs:=
 ⟨(g h (by simp)).trans H.obj,(g k (by simp)).trans H.kn,H.rows.mono fun r hr=>g r (by simp[hr]),(g t (by simp)).trans H.tb,(g e (by simp)).trans H.kp,H.nd⟩
theorem RowsAt.set (h:RowsAt ω rs kn) (nd:rs.Nodup) (hr:rs[j]?=zn r):RowsAt (ω.set r (.ml (iv xs))) rs (kn.set j xs):=by
 induction h generalizing j with
 |nil=>simp at hr
 |@cons r0 x0 rs' kn' h0 t ih=>
  rw[cx] at nd;cases j with
  |zero=>
   simp at hr;subst hr;rw[xm];refine .cons (bQ h0) (RowsAt.mono t fun q hq=>aM fun z=>nd.1 (z ▸ hq))
  |succ j=>
   simp at hr;rw[xn];refine .cons ?_ (ih nd.2 hr)
   show(ω.set r (.ml (iv xs)))[r0]?=_
   rw[aM (show r0≠r from fun z=>nd.1 (by rw[z];exact fk hr))];exact h0
def Keep (fp:List Nat) (ω ω':Om):Prop:=ω.length<=ω'.length/\∀ n,n<ω.length->n∉fp->ω'[n]?=ω[n]?
theorem Keep.refl (fp:List Nat) (ω:Om):Keep fp ω ω:=⟨bp _,fun _ _ _=>rfl⟩
theorem Keep.trans (a:Keep fp ω ω1) (b:Keep fp ω1 ω2):Keep fp ω ω2:=⟨cu a.1 b.1,fun n h1 h2=>(b.2 n (ck h1 a.1) h2).trans (a.2 n h1 h2)⟩
theorem Keep.set (h:n∈fp):Keep fp ω (ω.set n ob):=⟨by simp,fun m _ hm=>aM fun z=>hm (z ▸ h)⟩
noncomputable def Hd.bump (hd:Hd) (i:Nat):Hd:={ hd with knows:=hd.knows.set i ((hd.seen i).set i ((hd.seen i).getD i 0+1)) }
theorem nN {i:Nat} (H:HandAt ω h i hd k t e rs) (hi:i<hd.knows.length) (hs:i<(hd.seen i).length):∃ ω',cL [.obj h] ω=zn (.ok (.tup [.int i,.int ((hd.seen i).getD i 0+1)]),ω')/\HandAt ω' h i (hd.bump i) k t e rs/\Keep rs ω ω'/\ω'.length=ω.length:=by
 obtain⟨r,hr,er⟩:=H.seenRow hi;have hm:r∈rs:=fk hr;have nd:=H.nd;simp only[cx,aj,not_or] at nd;obtain⟨⟨h1,h2,h3,h4⟩,⟨h5,h6,h7⟩,⟨h8,h9⟩,h10,h11⟩:=nd;have ne:∀ {n:Nat},n∉rs->n≠r:=fun hn z=>hn (z ▸ hm);refine⟨ω.set r (.ml (iv ((hd.seen i).set i ((hd.seen i).getD i 0+1)))),?_,⟨?_,?_,H.rows.set h11 hr,?_,?_,H.nd⟩,Keep.set hm,by simp⟩
 ·have ix:Cd ω (.obj r) (.int i)=zn (.int ((hd.seen i).getD i 0)):=by
   have:=RowV.ix (ω:=ω) (d:=.obj r) (xs:=hd.seen i) (by unfold RowV dX;simp only[er]) (a:=i) (j4 i) (by simpa using hs)
   simpa using this
  refine aR rfl ?_;unfold iA;rw[aN (bP (aB rfl) H.obj rfl (jD H hr))];have e2:(ω.set r (.ml (iv ((hd.seen i).set i ((hd.seen i).getD i 0+1)))))[h]?=ω[h]?:=aM (ne h4);rw[bF (kZ (fC (aT (aB (d:=.obj r) rfl) (H.number (aB rfl)) ix) aQ rfl) (aB (d:=.obj r) rfl) (H.number (aB rfl)) (CU er (by unfold iv;simpa using hs)))];have e3:(iv (hd.seen i)).set i (.int ((hd.seen i).getD i 0+1))=iv ((hd.seen i).set i ((hd.seen i).getD i 0+1)):=by
   unfold iv;rw[List.map_set]
  rw[e3];have H2:fK 0 "number" (zV 0) [zn (.obj h),zn (.obj r)] (ω.set r (.ml (iv ((hd.seen i).set i ((hd.seen i).getD i 0+1)))))=zn (.ok (.int i),ω.set r (.ml (iv ((hd.seen i).set i ((hd.seen i).getD i 0+1))))):=fG (aB rfl) (e2.trans H.obj) rfl;have er2:=bQ (ob:=.ml (iv ((hd.seen i).set i ((hd.seen i).getD i 0+1)))) er;refine bC (dH (aA H2 (aA (aT (d:=.int ((hd.seen i).getD i 0+1)) (aB (d:=.obj r) rfl) H2 ?_) aD)) rfl)
  have:=RowV.ix (ω:=ω.set r (.ml (iv ((hd.seen i).set i ((hd.seen i).getD i 0+1))))) (d:=.obj r) (xs:=(hd.seen i).set i ((hd.seen i).getD i 0+1)) (by unfold RowV dX;simp only[er2]) (a:=i) (j4 i) (by simpa using hs)
  rw[this];simp[hs]
 ·rw[aM (ne h4)];exact H.obj
 ·rw[aM (ne h7)];exact H.kn
 ·rw[aM (ne h9)];exact H.tb
 ·rw[aM (ne h10)];exact H.kp
end
section
variable {ω:Om}{h k t e:Nat}{i:Nat}{hd:Hd}{rs:List Nat}{ρ:Rho}{f:OG D}
theorem HandAt.ne (H:HandAt ω h i hd k t e rs):(h≠k/\h≠t/\h≠e/\h∉rs)/\(k≠t/\k≠e/\k∉rs)/\(t≠e/\t∉rs)/\e∉rs/\rs.Nodup:=by
 have nd:=H.nd;simp only[cx,aj,not_or] at nd;obtain⟨⟨h1,h2,h3,h4⟩,⟨h5,h6,h7⟩,⟨h8,h9⟩,h10,h11⟩:=nd;exact⟨⟨h1,h2,h3,h4⟩,⟨h5,h6,h7⟩,⟨h8,h9⟩,h10,h11⟩
theorem HandAt.setT (H:HandAt ω h i hd k t e rs) (T:List (List Key×D)):HandAt (ω.set t (.dt T)) h i { hd with table:=T } k t e rs:=by
 obtain⟨⟨h1,h2,h3,h4⟩,⟨h5,h6,h7⟩,⟨h8,h9⟩,h10,h11⟩:=H.ne;refine⟨?_,?_,H.rows.mono fun r hr=>aM fun z=>h9 (z ▸ hr),bQ H.tb,?_,H.nd⟩
 ·rw[aM h2];exact H.obj
 ·rw[aM h5];exact H.kn
 ·rw[aM (cw h8)];exact H.kp
theorem HandAt.setE (H:HandAt ω h i hd k t e rs) (T:List (List Key×D)):HandAt (ω.set e (.dt T)) h i { hd with kept:=T } k t e rs:=by
 obtain⟨⟨h1,h2,h3,h4⟩,⟨h5,h6,h7⟩,⟨h8,h9⟩,h10,h11⟩:=H.ne;refine⟨?_,?_,H.rows.mono fun r hr=>aM fun z=>h10 (z ▸ hr),?_,bQ H.kp,H.nd⟩
 ·rw[aM h3];exact H.obj
 ·rw[aM h6];exact H.kn
 ·rw[aM h8];exact H.tb
theorem HandAt.lt (H:HandAt ω h i hd k t e rs):∀ n∈h::k::t::e::rs,n<ω.length:=by
 intro n hn;have lt:∀ {m:Nat}{o:Ob},ω[m]?=zn o->m<ω.length:=fun q=>(bx.mp q).1;rcases aj.mp hn with rfl|hn
 ·exact lt H.obj
 rcases aj.mp hn with rfl|hn
 ·exact lt H.kn
 rcases aj.mp hn with rfl|hn
 ·exact lt H.tb
 rcases aj.mp hn with rfl|hn
 ·exact lt H.kp
 ·have:∀ {rs:List Nat}{kn:List (List Int)},RowsAt ω rs kn->∀ n∈rs,n<ω.length:=by
   intro rs kn hR
   induction hR with
   |nil=>intro n hn;simp at hn
   |cons hr _ ih=>
    intro n hn;rcases aj.mp hn with rfl|hn
    ·exact lt hr
    ·exact ih n hn
  exact this H.rows n hn
noncomputable def eJ (i:Nat) (b:Int):List Key:=[.inl (i:Int),.inl b]
noncomputable def mkD (i:Nat) (b:Int):D:=.tup [.int i,.int b]
noncomputable def Hd.next (hd:Hd) (i:Nat):Int:=(hd.seen i).getD i 0+1
noncomputable def Hd.put (hd:Hd) (i:Nat) (x:Str) (v:Int):Hd:={ hd.bump i with table:=gQ hd.table (eJ i (hd.next i)) (.tup [.str x,mkD i (hd.next i),.int v]) }
theorem tG (e:ω[n]?=zn (.dt kvs)) (hk:CM y=zn ks) (hl:kvs.length<sizeLine):sV ω (.obj n) y v=zn (ω.set n (.dt (gQ kvs ks v))):=by
 simp only[sV,e,hk]
 show(if kvs.length<sizeLine then _ else zo)=_
 rw[if_pos hl]
theorem Mp (H:HandAt ω h i hd k t e rs) (hi:i<hd.knows.length) (hs:i<(hd.seen i).length) (hl:hd.table.length<sizeLine) (x:Str) (v:Int):
  ∃ ω',dO [.obj h,.str x,.int v] ω=zn (.ok (mkD i (hd.next i)),ω')/\HandAt ω' h i (hd.put i x v) k t e rs/\Keep (t::rs) ω ω'/\ω'.length=ω.length:=by
 obtain⟨ω1,e1,H1,K1,L1⟩:=nN H hi hs;have hb:(hd.bump i).table=hd.table:=rfl;refine⟨ω1.set t (.dt (gQ hd.table (eJ i (hd.next i)) (.tup [.str x,mkD i (hd.next i),.int v]))),?_,?_,⟨by simp[L1],fun n hn hm=> ?_⟩,by simp[L1]⟩
 ·refine aR rfl ?_;unfold rC;rw[aN (bP (aB rfl) H.obj rfl e1)];rw[bF (kZ (dH (aA (aB (d:=.str x) rfl) (aA (aB (d:=mkD i (hd.next i)) rfl) (aA (aB (d:=.int v) rfl) aD))) rfl) (H1.table (aB rfl)) (aB (d:=mkD i (hd.next i)) rfl) (tG (ks:=eJ i (hd.next i)) H1.tb rfl hl))];exact bC (aB rfl)
 ·exact H1.setT _
 ·rw[aM (fun z=>hm (by rw[z];simp))];exact K1.2 n hn fun z=>hm (ak _ z)
noncomputable def common:List (List Int)->List Int
 |[]=>[]
 |r::rest=>rest.foldl (bw mn) r
theorem Fs (hk:ω[k]?=zn (.ml (rs.map D.obj))) (hr:RowsAt ω rs kn) (hne:kn≠[]) (hl:∀ xs∈kn,xs.length<=sizeLine):mC [.obj k] ω=zn (.ok (.lst (iv (common kn))),ω):=by
 cases hr with
 |nil=>exact absurd rfl hne
 |@cons r0 x0 rs kn h0 ht=>
  refine aR rfl ?_;unfold AW;have e0:Cd ω (.obj k) (.int 0)=zn (.obj r0):=by
   rw[sW hk];unfold atI ixN;simp
  rw[aN (d:=.lst (iv x0)) (dH (aA (aT (aB (d:=.obj k) rfl) aQ e0) aD) (by
   show(bU ω (.obj r0)).map _=_
   have:bU ω (.obj r0)=zn (iv x0):=by simp only[bU,dX,h0]
   rw[this];rfl))]
  have e1:oSl (zV 0) (dSo (dC (.int 1))) dNo ((cE uA [.obj k]).set 1 (zn (.lst (iv x0)))) ω=zn (.ok (.lst (rs.map D.obj)),ω):=by
   unfold oSl;rw[aY (aB (d:=.obj k) rfl)];show oR (pu (KW ω (.obj k) (zn 1) zo) ω)=_
   have:KW ω (.obj k) (zn 1) zo=zn (.lst (tM ((r0::rs).map D.obj) (zn 1) zo)):=by simp only[KW,dX,hk]
   rw[this];have c1:tM ((r0::rs).map D.obj) (zn 1) zo=rs.map D.obj:=by
    simp only[tM,HT.sIx];simp[i6]
   rw[c1];rfl
  have hloop:∃ ρ' ω',cH (aZ 2) bT fE (rs.map D.obj) ((cE uA [.obj k]).set 1 (zn (.lst (iv x0)))) ω=zn (.nx ρ',ω')/\(ω'=ω/\∃ v,ρ'=[zn (.obj k),zn (.lst (iv (kn.foldl (bw mn) x0))),v]):=by
   have gen:∀ {rs:List Nat}{kn:List (List Int)},RowsAt ω rs kn->(∀ xs∈kn,xs.length<=sizeLine)->∀(x0:List Int) (v:Option D),x0.length<=sizeLine->∃ ρ' ω',cH (aZ 2) bT fE (rs.map D.obj) [zn (.obj k),zn (.lst (iv x0)),v] ω=zn (.nx ρ',ω')/\(ω'=ω/\∃ v,ρ'=[zn (.obj k),zn (.lst (iv (kn.foldl (bw mn) x0))),v]):=by
    intro rs kn hR
    induction hR with
    |nil=>intro _ x0 v _;exact⟨_,_,rfl,rfl,_,rfl⟩
    |@cons r1 x1 rs kn h1 _ ih=>
     intro hl x0 v hx;obtain⟨ρ',ω',g1,g2,g3⟩:=ih (fun xs hxs=>hl xs (ak _ hxs)) (bw mn x0 x1) (zn (.obj r1)) (by rw[fx];omega);refine⟨ρ',ω',?_,g2,g3⟩;rw[<- g1];have step:fE [zn (.obj k),zn (.lst (iv x0)),zn (.obj r1)] ω=zn (.nx [zn (.obj k),zn (.lst (iv (bw mn x0 x1))),zn (.obj r1)],ω):=by
      obtain⟨chk,z1,z2⟩:=CB (f:=zV 1) (h:=zV 2) (ρ:=[zn (.obj k),zn (.lst (iv x0)),zn (.obj r1)]) (ω:=ω) (a:=.lst (iv x0)) (b:=.obj r1) (xs:=x0) (ys:=x1) (aB rfl) (aB rfl) rfl (by unfold RowV dX;simp only[h1]);unfold fE aU;rw[bW (fB (ω2:=ω) (out:=iv (bw mn x0 x1)) z1 (xD hx) (by
       rw[<- rT (G:=D2 mn) (fun _ _=>rfl)];refine iQ (fun ρ=>ρ.length=2) z2 rfl fun d hd ρ hρ=> ?_;obtain⟨x,y,rfl⟩:=xC hd
       match ρ,hρ with
       |[u,v],_=>exact⟨_,rfl,rfl,rfl⟩))]
      rfl
     exact cB rfl rfl step
   exact gen ht (fun xs hxs=>hl xs (ak _ hxs)) x0 zo (hl x0 av)
  obtain⟨ρ',ω',g1,rfl,v,rfl⟩:=hloop;rw[bF (eV (by
   unfold bJ oIL;rw[bW (aY e1)];exact g1))]
  exact bC (aB rfl)
end
theorem sA (hl:ds.length=n) (e:G (cE N ds) ω=zn (.nx ρ1,ω1)):eB n N G ds ω=zn (.ok .non,ω1):=by
 unfold eB;rw[if_pos hl,e]
theorem nB:∀ kvs:List (List Key×D),qE kvs kvs=true
 |[]=>rfl
 |a::r=>by simp[qE,qF,nB r]
theorem yI (h:ω[n]?=zn (.dz kvs)):vV n kvs ω=true:=by
 unfold vV;rw[h];exact nB kvs
def Qp (c:Nat) (k:List Key):Prop:=∃ a b:Int,k=[.inl a,.inl b]/\0<=a/\a<c
noncomputable def cZ (xs:List Int):List Key->Bool
 |[.inl a,.inl b]=>decide (b<=xs.getD a.toNat 0)
 |_=>false
theorem CG (nd:(kvs.map (·.1)).Nodup) {kv:List Key×D} (h:kv∈kvs):gP kvs kv.1=zn kv.2:=by
 induction kvs with
 |nil=>simp at h
 |cons p r ih=>
  rw[bu,cx] at nd;unfold gP;rcases aj.mp h with rfl|h
  ·simp[hW]
  ·have hne:p.1≠kv.1:=fun z=>nd.1 (z ▸ ay.mpr ⟨kv,h,rfl⟩);rw[List.find?_cons_of_neg (by simpa using hne)];exact ih nd.2 h
theorem AC {k:List Key} (h:k∉kvs.map (·.1)):gQ kvs k v=kvs++[(k,v)]:=by
 unfold gQ;rw[if_neg];simp only[qd,decide_eq_true_eq,not_exists,not_and];intro x hx z;exact h (ay.mpr ⟨x,hx,z⟩)
section
variable {ω:Om}{h k t e:Nat}{i:Nat}{hd:Hd}{rs:List Nat}{ρ:Rho}{f:OG D}
noncomputable def Hd.forget (hd:Hd):Hd:={ hd with kept:=hd.kept.filter fun kv=> !cZ (common hd.knows) kv.1 }
structure Hd.Ok (c:Nat) (hd:Hd):Prop where
 len:hd.knows.length=c
 row:∀ xs∈hd.knows,xs.length=c
 small:c<=8
 pos:0<c
 kk:∀ kv∈hd.kept,Qp c kv.1
 kn:(hd.kept.map (·.1)).Nodup
 kl:hd.kept.length<64
 tk:∀ kv∈hd.table,∃ a b:Int,0<=a/\a<c/\kv.1=[.inl a,.inl b]/\∃ x v,kv.2=.tup [.str x,.tup [.int a,.int b],.int v]
 tn:(hd.table.map (·.1)).Nodup
 tl:hd.table.length<64
theorem Ci:∀ {kn:List (List Int)},kn≠[]->(∀ xs∈kn,xs.length=c)->(common kn).length=c
 |[],hne,_=>absurd rfl hne
 |r::rest,_,h=>by
  have gen:∀(rest:List (List Int)) (r:List Int),r.length=c->(∀ xs∈rest,xs.length=c)->(rest.foldl (bw mn) r).length=c:=by
   intro rest
   induction rest with
   |nil=>intro r hr _;exact hr
   |cons x rest ih=>
    intro r hr hx;refine ih _ ?_ fun xs hxs=>hx xs (ak _ hxs);rw[fx,hr,hx x av,jz]
  exact gen rest r (h r av) fun xs hxs=>h xs (ak _ hxs)
theorem wE (H:HandAt ω h i hd k t e rs) (W:hd.Ok c):∃ ω',eK [.obj h] ω=zn (.ok .non,ω')/\HandAt ω' h i hd.forget k t ω.length rs/\Keep [h] ω ω':=by
 have hne:hd.knows≠[]:=fun z=>by have:=W.len;rw[z] at this;have:=W.pos;simp at*;omega
 have hcl:=Ci hne W.row;obtain⟨⟨h1,h2,h3,h4⟩,⟨h5,h6,h7⟩,⟨h8,h9⟩,h10,h11⟩:=H.ne;have ltn:∀ {n:Nat},n∈h::k::t::e::rs->n≠ω.length:=fun hn z=>absurd (H.lt _ hn) (by rw[z];exact d5 _);have e1:bG mC (aC (fK 0 "knows" (zV 0)) aK) (cE gH [.obj h]) ω=zn (.ok (.lst (iv (common hd.knows))),ω):=aP (aA (H.knows (aB rfl)) aD) (Fs H.kn H.rows hne fun xs hx=>by rw[W.row xs hx,bz];have:=W.small;omega)
 -- the loop
 have loop:∀(post pre:List (List Key×D)) (v:Option D) (ω1:Om),hd.kept=pre++post->ω1[ω.length]?=zn (.dt (pre.filter fun kv=> !cZ (common hd.knows) kv.1))->ω1[e]?=zn (.dz hd.kept)->(∀ n,n<ω.length->n≠e->ω1[n]?=ω[n]?)->ω1.length=ω.length+1->
   ∃ ρ' ω',cH (aZ 3) (vV e hd.kept) aO (post.map fun kv=>bE kv.1) [zn (.obj h),zn (.lst (iv (common hd.knows))),zn (.obj ω.length),v] ω1=zn (.nx ρ',ω')/\(∃ v,ρ'=[zn (.obj h),zn (.lst (iv (common hd.knows))),zn (.obj ω.length),v])/\
    ω'[ω.length]?=zn (.dt (hd.kept.filter fun kv=> !cZ (common hd.knows) kv.1))/\ω'[e]?=zn (.dz hd.kept)/\(∀ n,n<ω.length->n≠e->ω'[n]?=ω[n]?)/\ω'.length=ω.length+1:=by
  intro post
  induction post with
  |nil=>
   intro pre v ω1 hp g1 g2 g3 g4;rw[dr] at hp;refine⟨_,ω1,by show(if vV e hd.kept ω1=true then _ else zo)=_;rw[if_pos (yI g2)],⟨v,rfl⟩,by rw[hp];exact g1,g2,g3,g4⟩
  |cons kv post ih=>
   intro pre v ω1 hp g1 g2 g3 g4;have hm:kv∈hd.kept:=by rw[hp];simp
   obtain⟨a,b,hk,ha0,ha1⟩:=W.kk kv hm;have hdk:bE kv.1=.tup [.int a,.int b]:=by rw[hk];rfl
   have hseen:eR [.lst (iv (common hd.knows)),.tup [.int a,.int b]] ω1=zn (.ok (.bl (cZ (common hd.knows) kv.1)),ω1):=by
    rw[hk];exact nW (ω:=ω1) (d:=.lst (iv (common hd.knows))) (xs:=common hd.knows) (show dX ω1 (.lst (iv (common hd.knows)))=_ from rfl) ha0 (by rw[hcl];exact ha1)
   have hobj:ω1[h]?=zn (.ins 0 [("number",.int i),("knows",.obj k),("table",.obj t),("kept",.obj e)]):=by rw[g3 h (H.lt h (by simp)) h3];exact H.obj
   have hp':hd.kept=(pre++[kv])++post:=by rw[fz];exact hp
   have first:∀ ω2,aO [zn (.obj h),zn (.lst (iv (common hd.knows))),zn (.obj ω.length),zn (.tup [.int a,.int b])] ω1=zn (.nx [zn (.obj h),zn (.lst (iv (common hd.knows))),zn (.obj ω.length),zn (.tup [.int a,.int b])],ω2)->
     cH (aZ 3) (vV e hd.kept) aO ((kv::post).map fun kv=>bE kv.1) [zn (.obj h),zn (.lst (iv (common hd.knows))),zn (.obj ω.length),v] ω1=cH (aZ 3) (vV e hd.kept) aO (post.map fun kv=>bE kv.1) [zn (.obj h),zn (.lst (iv (common hd.knows))),zn (.obj ω.length),zn (.tup [.int a,.int b])] ω2:=fun ω2 q=>by
    rw[bu,hdk]
    show(if vV e hd.kept ω1=true then(match aO [zn (.obj h),zn (.lst (iv (common hd.knows))),zn (.obj ω.length),zn (.tup [.int a,.int b])] ω1 with
     |none=>zo
     |some (.nx ρ2,ω2)=>cH (aZ 3) (vV e hd.kept) aO (post.map fun kv=>bE kv.1) ρ2 ω2
     |some (.ct ρ2,ω2)=>cH (aZ 3) (vV e hd.kept) aO (post.map fun kv=>bE kv.1) ρ2 ω2
     |some (.bk ρ2,ω2)=>zn (.nx ρ2,ω2)
     |some (.rt d,ω2)=>zn (.rt d,ω2)
     |some (.ex _,_)=>zo) else zo)=_
    rw[if_pos (yI g2),q]
   have tst:jF (gU (bG eR (aC (zV 1) (aC (zV 3) aK)))) [zn (.obj h),zn (.lst (iv (common hd.knows))),zn (.obj ω.length),zn (.tup [.int a,.int b])] ω1=zn (.ok (!cZ (common hd.knows) kv.1),ω1):=by
    unfold jF gU;rw[aY (aY (aP (aA (aB rfl) (aA (aB rfl) aD)) hseen))]
   cases hs:cZ (common hd.knows) kv.1 with
   |true=>
    have b1:aO [zn (.obj h),zn (.lst (iv (common hd.knows))),zn (.obj ω.length),zn (.tup [.int a,.int b])] ω1=zn (.nx [zn (.obj h),zn (.lst (iv (common hd.knows))),zn (.obj ω.length),zn (.tup [.int a,.int b])],ω1):=by
     unfold aO;rw[hs] at tst;rw[nE tst];rfl
    rw[first ω1 b1];refine ih (pre++[kv]) _ ω1 hp' ?_ g2 g3 g4;rw[xo,f6 (by rw[hs];decide),y6,dr];exact g1
   |false=>
    have nin:kv.1∉(pre.filter fun kv=> !cZ (common hd.knows) kv.1).map (·.1):=fun z=>by
     obtain⟨q,q1,q2⟩:=ay.mp z;have nd:=W.kn;rw[hp,b4,ke] at nd;exact nd.2.2 _ (ay.mpr ⟨q,(cr.mp q1).1,rfl⟩) _ (ay.mpr ⟨kv,av,rfl⟩) q2
    have fl:(pre.filter fun kv=> !cZ (common hd.knows) kv.1).length<sizeLine:=by
     have h1:=io (fun kv:List Key×D=> !cZ (common hd.knows) kv.1) pre;have h2:=W.kl;rw[hp,bq] at h2;rw[bz];omega
    have dg:sX ω1 (.obj e) (.tup [.int a,.int b])=zn kv.2:=by
     have:gP hd.kept [.inl a,.inl b]=zn kv.2:=by rw[<- hk];exact CG W.kn hm
     simp only[sX,HJ,cellOf,g2]
     show(((zn [.inl a,.inl b]:Option (List Key)).map fun k=>gP hd.kept k)).join=_
     show(zn (gP hd.kept [.inl a,.inl b])).join=_
     rw[this];rfl
    have b1:aO [zn (.obj h),zn (.lst (iv (common hd.knows))),zn (.obj ω.length),zn (.tup [.int a,.int b])] ω1=zn (.nx [zn (.obj h),zn (.lst (iv (common hd.knows))),zn (.obj ω.length),zn (.tup [.int a,.int b])],ω1.set ω.length (.dt ((pre.filter fun kv=> !cZ (common hd.knows) kv.1)++[kv]))):=by
     unfold aO;rw[hs] at tst;rw[xP tst];refine kZ (v:=kv.2) (ω1:=ω1) (ω2:=ω1) (ω3:=ω1) (o:=.obj ω.length) (i:=.tup [.int a,.int b]) (gO (fG (aB rfl) hobj rfl) (aB rfl) ?_) (aB rfl) (aB rfl) ?_
     ·show pu (sX ω1 (.obj e) (.tup [.int a,.int b])) ω1=_;rw[dg];rfl
     ·rw[tG (ks:=kv.1) g1 (by rw[hk];rfl) fl,AC nin]
    rw[first _ b1];refine ih (pre++[kv]) _ _ hp' ?_ ?_ (fun n hn hne=> ?_) (by simp[g4])
    ·rw[bQ g1,xo,f7 (by rw[hs];decide),y6]
    ·rw[aM (ltn (by simp))];exact g2
    ·rw[aM (by omega)];exact g3 n hn hne
 have ge:(ω++[Ob.dt []])[e]?=zn (.dt hd.kept):=by rw[bc (H.lt e (by simp))];exact H.kp
 obtain⟨ρ',ω2,l1,⟨v,rfl⟩,l3,l4,l5,l6⟩:=loop hd.kept [] zo ((ω++[Ob.dt []]).set e (.dz hd.kept)) rfl (by rw[aM (cw (ltn (by simp)))];simp) (bQ ge) (fun n hn hne=>by rw[aM hne,bc hn]) (by simp);have l3':(ω2.set e (.dt hd.kept))[ω.length]?=zn (.dt (hd.kept.filter fun kv=> !cZ (common hd.knows) kv.1)):=by rw[aM (cw (ltn (by simp)))];exact l3
 have ho:(ω2.set e (.dt hd.kept))[h]?=zn (.ins 0 [("number",.int i),("knows",.obj k),("table",.obj t),("kept",.obj e)]):=by rw[aM h3,l5 h (H.lt h (by simp)) h3];exact H.obj
 refine⟨(ω2.set e (.dt hd.kept)).set h (.ins 0 [("number",.int i),("knows",.obj k),("table",.obj t),("kept",.obj ω.length)]),?_,⟨bQ ho,?_,?_,?_,?_,?_⟩,⟨by simp[l6],fun n hn hm=> ?_⟩⟩
 ·have body:gC (cE gH [.obj h]) ω=zn (.nx [zn (.obj h),zn (.lst (iv (common hd.knows))),zn (.obj ω.length),v],(ω2.set e (.dt hd.kept)).set h (.ins 0 [("number",.int i),("knows",.obj k),("table",.obj t),("kept",.obj ω.length)])):=by
   unfold gC;rw[aN e1];rw[aN (d:=.obj ω.length) (ω1:=ω++[.dt []]) rfl];have ho1:(ω++[Ob.dt []])[h]?=zn (.ins 0 [("number",.int i),("knows",.obj k),("table",.obj t),("kept",.obj e)]):=by rw[bc (H.lt h (by simp))];exact H.obj
   rw[bF (eV (by
    unfold Ji;rw[bW (fG (aB (d:=.obj h) rfl) ho1 rfl)]
    have:Ce (ω++[Ob.dt []]) (.obj e)=zn (e,hd.kept):=by simp only[Ce,ge]
    show(Ce (ω++[Ob.dt []]) (.obj e)).bind _=_
    rw[this]
    show(match cH (aZ 3) (vV e hd.kept) aO (hd.kept.map fun kv=>bE kv.1) [zn (.obj h),zn (.lst (iv (common hd.knows))),zn (.obj ω.length),zo] ((ω++[Ob.dt []]).set e (.dz hd.kept)) with
     |some (.nx ρ',ω')=>if vV e hd.kept ω'=true then zn (OOut.nx ρ',ω'.set e (.dt hd.kept)) else zo
     |_=>zo)=_
    rw[l1]
    show(if vV e hd.kept ω2=true then _ else zo)=_
    rw[if_pos (yI l4)]))]
   unfold lU;rw[bW (aB (d:=.obj ω.length) rfl),bW (aB (d:=.obj h) rfl)]
   have:sU 0 "kept" (ω2.set e (.dt hd.kept)) (.obj h) (.obj ω.length)=zn ((ω2.set e (.dt hd.kept)).set h (.ins 0 [("number",.int i),("knows",.obj k),("table",.obj t),("kept",.obj ω.length)])):=by
    simp only[sU,ho];rfl
   show(sU 0 "kept" (ω2.set e (.dt hd.kept)) (.obj h) (.obj ω.length)).map _=_
   rw[this];rfl
  exact sA rfl body
 ·rw[aM (cw h1),aM h6,l5 k (H.lt k (by simp)) h6];exact H.kn
 ·refine H.rows.mono fun r hr=> ?_;rw[aM (show r≠h from fun z=>h4 (z ▸ hr)),aM (show r≠e from fun z=>h10 (z ▸ hr)),l5 r (H.lt r (by simp[hr])) (fun z=>h10 (z ▸ hr))]
 ·rw[aM (cw h2),aM h8,l5 t (H.lt t (by simp)) h8];exact H.tb
 ·rw[aM (cw (ltn (by simp)))];exact l3'
 ·have nn:∀ n∈h::k::t::rs,n≠ω.length:=fun n hn=>ltn (by
   simp only[aj] at hn ⊢;rcases hn with z|z|z|z
   ·exact .inl z
   ·exact .inr (.inl z)
   ·exact .inr (.inr (.inl z))
   ·exact .inr (.inr (.inr (.inr z))))
  simp only[cx,aj,not_or];exact⟨⟨h1,h2,nn h (by simp),h4⟩,⟨h5,nn k (by simp),h7⟩,⟨nn t (by simp),h9⟩,fun z=>nn _ (by simp[z]) rfl,h11⟩
 ·rw[aM (fun z=>hm (by rw[z];simp))]
  by_cases he:n=e
  ·subst he;rw[bQ l4];exact H.kp.symm
  ·rw[aM he];exact l5 n hn he
end
theorem iJ {ω:Om}{n:Nat}{ob:Ob} (h:ω[n]?=zn ob):ω.set n ob=ω:=by
 apply iy;intro m
 by_cases hm:m=n
 ·subst hm;rw[bQ h,h]
 ·rw[aM hm]
theorem LU (k:Key):toK (ofK k)=zn k:=by cases k <;> rfl
theorem CN:∀ ks:List Key,LS (ks.map ofK)=zn ks
 |[]=>rfl
 |k::r=>by
  show(toK (ofK k)).bind _=_
  rw[LU]
  show(LS (r.map ofK)).map _=_
  rw[CN r];rfl
theorem Ap (k:List Key):CM (bE k)=zn k:=CN k
theorem On (ha:fV a) (hb:fV b):∃ c,sH 4 a b=zn c:=by
 obtain⟨x,p,q,v,rfl⟩:=ha;obtain⟨x',p',q',v',rfl⟩:=hb;show ∃ c,(match eqD 4 (.str x) (.str x') with
  |some true=>(match eqD 4 (.tup [.int p,.int q]) (.tup [.int p',.int q']) with
   |some true=>(match eqD 4 (.int v) (.int v') with
    |some true=>zn _
    |some false=>jA (.int v) (.int v')
    |none=>zo)
   |some false=>jA (.tup [.int p,.int q]) (.tup [.int p',.int q'])
   |none=>zo)
  |some false=>jA (.str x) (.str x')
  |none=>zo)=zn c
 rw[iB];cases decide (x=x') with
 |false=>exact⟨_,rfl⟩
 |true=>
  have e2:∃ c,eqD 4 (.tup [.int p,.int q]) (.tup [.int p',.int q'])=zn c:=⟨_,rfl⟩;obtain⟨c,e2⟩:=e2;rw[e2];cases c with
  |false=>exact⟨_,rfl⟩
  |true=>
   show ∃ c,(match eqD 4 (.int v) (.int v') with
    |some true=>zn _
    |some false=>jA (.int v) (.int v')
    |none=>zo)=zn c
   have e3:eqD 4 (.int v) (.int v')=zn (decide (v=v')):=rfl;rw[e3];cases decide (v=v') with
   |false=>exact⟨_,rfl⟩
   |true=>exact⟨_,rfl⟩
theorem HX (h:fV d):jI d=zn false:=by
 obtain⟨x,a,b,v,rfl⟩:=h;rfl
section
variable {ω:Om}{h k t e:Nat}{i:Nat}{hd:Hd}{rs:List Nat}{ρ:Rho}{f:OG D}
theorem Hd.Ok.ent (W:hd.Ok c):∀ d∈hd.table.map (·.2),fV d:=fun d hd'=>by
 obtain⟨kv,h1,rfl⟩:=ay.mp hd';obtain⟨a,b,_,_,_,x,v,e⟩:=W.tk kv h1;exact⟨x,a,b,v,e⟩
theorem Hd.Ok.sorts (W:hd.Ok c):∃ out,hd.entries=zn out/\out.Perm (hd.table.map (·.2)):=by
 refine Au (by rw[am];exact W.tl) ?_ fun a ha b hb=>On (W.ent a ha) (W.ent b hb);unfold jE;rw[ji];right;rw[gv];intro d hd';rw[HX (W.ent d hd')];rfl
noncomputable def Hd.takeOut0 (hd:Hd) (mk:List Key) (ks:List (List Key)):Hd:={ hd with table:=ks.foldl dJ hd.table,kept:=if ks=[] then hd.kept else gQ hd.kept mk (.tup (ks.map bE)) }
noncomputable def Hd.takeOut (hd:Hd) (mk:List Key) (ks:List (List Key)):Hd:=(hd.takeOut0 mk ks).forget
theorem AK {g:Om->D->List D->Option (D×Om)}{fo:OG D}{fl:OG (List D)}{ρ:Rho}{ω ω1 ω2 ω3:Om}{n:Nat}{kvs:List (List Key×D)}{ds:List D}{r:D} (e1:fo ρ ω=zn (.ok (.obj n),ω1)) (e2:ω1[n]?=zn (.dt kvs)) (e3:fl ρ ω1=zn (.ok ds,ω2)) (e4:g ω2 (.obj n) ds=zn (r,ω3)):nL g fo fl ρ ω=zn (.ok r,ω3):=by
 unfold nL;rw[aY e1]
 have:BV ω1 (.obj n)=true:=by simp only[BV,cellOf,e2]
 show(if BV ω1 (.obj n)=true then _ else zo)=_
 rw[if_pos this,aY e3];show oR (g ω2 (.obj n) ds)=_;rw[e4];rfl
theorem Cf {kvs:List (List Key×D)}{q k:List Key} (h:q∈kvs.map (·.1)) (hn:q≠k):q∈(dJ kvs k).map (·.1):=by
 obtain⟨p,h1,rfl⟩:=ay.mp h;exact ay.mpr ⟨p,cr.mpr ⟨h1,by simpa using hn⟩,rfl⟩
theorem CH {kvs:List (List Key×D)}{k:List Key} (h:k∈kvs.map (·.1)):∃ v,gP kvs k=zn v:=by
 obtain⟨p,h1,h2⟩:=ay.mp h;unfold gP;cases q:kvs.find? fun kv=>decide (kv.1=k) with
 |some u=>exact⟨u.2,rfl⟩
 |none=>
  rw[xi] at q;exact absurd (by simpa using h2) (q p h1)
theorem Dj:∀ {ks:List (List Key)}{T:List (List Key×D)}{v:Option D}{ω:Om},ω[h]?=zn (.ins 0 [("number",.int i),("knows",.obj k),("table",.obj t),("kept",.obj e)])->ω[t]?=zn (.dt T)->h≠t->ks.Nodup->(∀ q∈ks,q∈T.map (·.1))->
  ∃ ρ',cH (aZ 3) bT bR (ks.map bE) [zn (.obj h),zn mk,zn ms,v] ω=zn (.nx ρ',ω.set t (.dt (ks.foldl dJ T)))/\∃ v,ρ'=[zn (.obj h),zn mk,zn ms,v]
 |[],T,v,ω,_,ht,_,_,_=>⟨_,by
   show zn (OOut.nx _,ω)=_
   congr 2
   exact(iJ ht).symm,v,rfl⟩
 |q::ks,T,v,ω,ho,ht,hne,hk,hin=>by
  rw[cx] at hk;obtain⟨u,hu⟩:=CH (hin q av);have b1:bR [zn (.obj h),zn mk,zn ms,zn (bE q)] ω=zn (.nx [zn (.obj h),zn mk,zn ms,zn (bE q)],ω.set t (.dt (dJ T q))):=by
   unfold bR bV;rw[bW (AK (r:=u) (ω3:=ω.set t (.dt (dJ T q))) (fG (aB rfl) ho rfl) ht (aA (aB rfl) aD) (by
    simp only[EK,ht]
    show(CM (bE q)).bind _=_
    rw[Ap]
    show(gP T q).map _=_
    rw[hu];rfl))]
  obtain⟨ρ',g1,v',g2⟩:=Dj (mk:=mk) (ms:=ms) (ks:=ks) (T:=dJ T q) (v:=zn (bE q)) (ω:=ω.set t (.dt (dJ T q))) (by rw[aM hne];exact ho) (bQ ht) hne hk.2 fun q' hq'=>Cf (hin q' (ak _ hq')) fun z=>hk.1 (z ▸ hq');refine⟨ρ',?_,v',g2⟩;rw[oz] at g1;rw[bu];refine(cB rfl rfl (b1)).trans ?_;exact g1
theorem xJ (H:HandAt ω h i hd k t e rs) (hk:ks.Nodup) (hin:∀ q∈ks,q∈hd.table.map (·.1)) (hl:hd.kept.length<sizeLine) (W:(hd.takeOut0 mk ks).Ok c):
  ∃ ω' e',cK [.obj h,bE mk,.lst (ks.map bE)] ω=zn (.ok .non,ω')/\HandAt ω' h i (hd.takeOut mk ks) k t e' rs/\Keep [h,t,e] ω ω'/\ω.length<=e':=by
 obtain⟨⟨h1,h2,h3,h4⟩,⟨h5,h6,h7⟩,⟨h8,h9⟩,h10,h11⟩:=H.ne;obtain⟨ρ1,g1,v,rfl⟩:=Dj (h:=h) (i:=i) (k:=k) (t:=t) (e:=e) (mk:=bE mk) (ms:=.lst (ks.map bE)) (ks:=ks) (T:=hd.table) (v:=zo) (ω:=ω) H.obj H.tb h2 hk hin;have H1:HandAt (ω.set t (.dt (ks.foldl dJ hd.table))) h i { hd with table:=ks.foldl dJ hd.table } k t e rs:=H.setT _;have l1:sNx (bJ (oIL (zV 2)) (aZ 3) bR) (cE iH [.obj h,bE mk,.lst (ks.map bE)]) ω=zn (.nx [zn (.obj h),zn (bE mk),zn (.lst (ks.map bE)),v],ω.set t (.dt (ks.foldl dJ hd.table))):=eV (by
  unfold bJ oIL;rw[bW (aY (aB (d:=.lst (ks.map bE)) rfl))];exact g1)
 have mid:∃ ω2,dN (gU (zV 2)) (nC sV (fK 0 "kept" (zV 0)) (zV 1) (oL EE (aC (zV 2) aK))) bI [zn (.obj h),zn (bE mk),zn (.lst (ks.map bE)),v] (ω.set t (.dt (ks.foldl dJ hd.table)))=zn (.nx [zn (.obj h),zn (bE mk),zn (.lst (ks.map bE)),v],ω2)/\HandAt ω2 h i (hd.takeOut0 mk ks) k t e rs/\Keep [t,e] ω ω2/\ω2.length=ω.length:=by
  cases hks:ks with
  |nil=>
   refine⟨ω.set t (.dt (([]:List (List Key)).foldl dJ hd.table)),?_,?_,Keep.set (by simp),by simp⟩
   ·rw[nE (ω1:=ω.set t (.dt (([]:List (List Key)).foldl dJ hd.table))) (by
     unfold gU;rw[aY (aB (d:=.lst []) rfl)];rfl)]
    rfl
   ·subst hks;exact H1
  |cons q r=>
   have hks':ks≠[]:=by rw[hks];simp
   rw[<- hks];refine⟨(ω.set t (.dt (ks.foldl dJ hd.table))).set e (.dt (gQ hd.kept mk (.tup (ks.map bE)))),?_,?_,(Keep.set (by simp)).trans (Keep.set (by simp)),by simp⟩
   ·rw[xP (ω1:=ω.set t (.dt (ks.foldl dJ hd.table))) (by
     unfold gU;rw[aY (aB (d:=.lst (ks.map bE)) rfl)];rw[hks];rfl)]
    exact kZ (dH (aA (aB (d:=.lst (ks.map bE)) rfl) aD) rfl) (H1.kept (aB rfl)) (aB (d:=bE mk) rfl) (tG (ks:=mk) H1.kp (Ap mk) hl)
   ·have:=H1.setE (gQ hd.kept mk (.tup (ks.map bE)))
    have e0:hd.takeOut0 mk ks={ hd with table:=ks.foldl dJ hd.table,kept:=gQ hd.kept mk (.tup (ks.map bE)) }:=by
     unfold Hd.takeOut0;rw[if_neg hks']
    rw[e0];exact this
 obtain⟨ω2,m1,H2,K2,L2⟩:=mid;obtain⟨ω3,f1,H3,K3⟩:=wE H2 W;refine⟨ω3,ω2.length,?_,H3,⟨by rw[<- L2];exact K3.1,fun n hn hm=> ?_⟩,by rw[L2];exact bp _⟩
 ·refine sA (ρ1:=[zn (.obj h),zn (bE mk),zn (.lst (ks.map bE)),v]) rfl ?_;unfold gZ;rw[bF l1,bF m1];unfold bV;rw[bW (bP (aB rfl) H2.obj rfl f1)]
 ·simp only[aj,cq,or_false,not_or] at hm;rw[K3.2 n (by rw[L2];exact hn) (by simpa using hm.1)];exact K2.2 n hn (by simp[hm.2.1,hm.2.2])
end
noncomputable def aW:D->List Key
 |.tup [_,.tup [.int a,.int b],_]=>[.inl a,.inl b]
 |_=>[]
noncomputable def Ej (y:Str):D->Bool
 |.tup [.str x,_,_]=>decide (x=y)
 |_=>false
noncomputable def Hd.ents (hd:Hd):List D:=hd.entries.getD []
noncomputable def Hd.marksK (hd:Hd) (y:Str):List (List Key):=(hd.ents.filter (Ej y)).map aW
theorem qQ:∀ {out:List D},(∀ d∈out,fV d)->marksIn (.str y) out=((out.filter (Ej y)).map aW).map bE
 |[],_=>rfl
 |d::r,h=>by
  have ih:=qQ (y:=y) (out:=r) fun d hd=>h d (ak _ hd);obtain⟨x,a,b,v,rfl⟩:=h d av;unfold marksIn at ih ⊢;have e0:(eqD 8 (.str x) (.str y)==zn true)=decide (x=y):=by rw[iB];cases decide (x=y) <;> rfl
  by_cases hx:x=y
  ·rw[f7 (by show(eqD 8 (.str x) (.str y)==zn true)=true;rw[e0];exact decide_eq_true hx),f7 (by show decide (x=y)=true;exact decide_eq_true hx)];rw[bu,bu,bu,ih];rfl
  ·rw[f6 (by show ¬(eqD 8 (.str x) (.str y)==zn true)=true;rw[e0];simpa using hx),f6 (by show ¬ decide (x=y)=true;simpa using hx)];exact ih
section
variable {ω ω1 ω2:Om}{h k t e:Nat}{i c:Nat}{hd hd1 hd2:Hd}{rs fp:List Nat}
theorem Hd.Ok.ents (W:hd.Ok c):hd.entries=zn hd.ents/\hd.ents.Perm (hd.table.map (·.2)):=by
 obtain⟨out,e1,e2⟩:=W.sorts
 have:hd.ents=out:=by unfold Hd.ents;rw[e1];rfl
 rw[this];exact⟨e1,e2⟩
theorem Hd.Ok.entsEnt (W:hd.Ok c):∀ d∈hd.ents,fV d:=fun d hd'=>W.ent d (W.ents.2.mem_iff.mp hd')
theorem Hd.Ok.keys (W:hd.Ok c):(hd.table.map (·.2)).map aW=hd.table.map (·.1):=by
 rw[gp];apply iz;intro kv hkv;obtain⟨a,b,_,_,e1,x,v,e2⟩:=W.tk kv hkv;show aW kv.2=kv.1;rw[e2,e1];rfl
theorem Hd.Ok.entsKeys (W:hd.Ok c):(hd.ents.map aW).Perm (hd.table.map (·.1)):=by
 rw[<- W.keys];exact W.ents.2.map aW
theorem Hd.Ok.entsNodup (W:hd.Ok c):(hd.ents.map aW).Nodup:=W.entsKeys.nodup_iff.mpr W.tn
theorem Hd.Ok.entsLen (W:hd.Ok c):hd.ents.length<64:=by rw[W.ents.2.length_eq,am];exact W.tl
theorem Hd.Ok.marksNodup (W:hd.Ok c) (y:Str):(hd.marksK y).Nodup:=W.entsNodup.sublist (nj.map aW)
theorem Hd.Ok.marksIn (W:hd.Ok c) (y:Str):∀ q∈hd.marksK y,q∈hd.table.map (·.1):=fun q hq=>W.entsKeys.mem_iff.mp ((nj.map aW).subset hq)
theorem Hd.Ok.seenMem (W:hd.Ok c) (hi:i<c):hd.seen i∈hd.knows:=by
 unfold Hd.seen
 have:i<hd.knows.length:=by rw[W.len];exact hi
 rw[ax,bi this];exact gw this
theorem Hd.Ok.seenLen (W:hd.Ok c) (hi:i<c):(hd.seen i).length=c:=W.row _ (W.seenMem hi)
theorem eP (h:n<64):n<sizeLine:=by rw[bz];omega
def HandS (ω:Om) (h i:Nat) (hd:Hd) (fp:List Nat):Prop:=∃ k t e rs,HandAt ω h i hd k t e rs/\fp=h::k::t::e::rs
def Did (ω:Om) (h i:Nat) (fp:List Nat) (ω':Om) (hd':Hd):Prop:=∃ fp',HandS ω' h i hd' fp'/\Keep fp ω ω'/\∀ n∈fp',n∈fp∨ω.length<=n
theorem HandS.obj (H:HandS ω h i hd fp):∃ k t e,ω[h]?=zn (.ins 0 [("number",.int i),("knows",.obj k),("table",.obj t),("kept",.obj e)]):=by
 obtain⟨k,t,e,rs,H,_⟩:=H;exact⟨k,t,e,H.obj⟩
theorem HandS.lt (H:HandS ω h i hd fp):∀ n∈fp,n<ω.length:=by
 obtain⟨k,t,e,rs,H,rfl⟩:=H;exact H.lt
theorem HandS.mono (H:HandS ω h i hd fp) (g:∀ n∈fp,ω'[n]?=ω[n]?):HandS ω' h i hd fp:=by
 obtain⟨k,t,e,rs,H,rfl⟩:=H;exact⟨k,t,e,rs,H.mono g,rfl⟩
theorem Did.refl (H:HandS ω h i hd fp):Did ω h i fp ω hd:=⟨fp,H,Keep.refl _ _,fun n hn=>.inl hn⟩
theorem Did.trans (a:Did ω h i fp ω1 hd1) (b:∀ fp1,HandS ω1 h i hd1 fp1->Did ω1 h i fp1 ω2 hd2):Did ω h i fp ω2 hd2:=by
 obtain⟨fp1,H1,K1,F1⟩:=a;obtain⟨fp2,H2,K2,F2⟩:=b fp1 H1;refine⟨fp2,H2,⟨cu K1.1 K2.1,fun n hn hf=> ?_⟩,fun n hn=> ?_⟩
 ·rw[K2.2 n (ck hn K1.1) fun z=>(F1 n z).elim hf fun q=>absurd hn (vt.mpr q)];exact K1.2 n hn hf
 ·rcases F2 n hn with z|z
  ·exact F1 n z
  ·exact .inr (cu K1.1 z)
theorem Keep.sub (a:Keep fp ω ω') (h:∀ n∈fp,n∈fq):Keep fq ω ω':=⟨a.1,fun n hn hf=>a.2 n hn fun z=>hf (h n z)⟩
theorem QF (H:HandS ω h i hd fp) (W:hd.Ok c) (hi:i<c) (x:Str) (v:Int):∃ ω',dO [.obj h,.str x,.int v] ω=zn (.ok (mkD i (hd.next i)),ω')/\Did ω h i fp ω' (hd.put i x v):=by
 obtain⟨k,t,e,rs,H,rfl⟩:=H;obtain⟨ω',e1,H',K,L⟩:=Mp H (by rw[W.len];exact hi) (by rw[W.seenLen hi];exact hi) (eP W.tl) x v;exact⟨ω',e1,_,⟨k,t,e,rs,H',rfl⟩,K.sub (fun n hn=>by simp only[aj] at hn ⊢;rcases hn with z|z <;> simp[z]),fun n hn=>.inl hn⟩
theorem DQ (H:HandS ω h i hd fp) (W:hd.Ok c) (hi:i<c):∃ ω',cL [.obj h] ω=zn (.ok (mkD i (hd.next i)),ω')/\Did ω h i fp ω' (hd.bump i):=by
 obtain⟨k,t,e,rs,H,rfl⟩:=H;obtain⟨ω',e1,H',K,L⟩:=nN H (by rw[W.len];exact hi) (by rw[W.seenLen hi];exact hi);exact⟨ω',e1,_,⟨k,t,e,rs,H',rfl⟩,K.sub (fun n hn=>by simp[hn]),fun n hn=>.inl hn⟩
theorem IM (H:HandS ω h i hd fp) (W:hd.Ok c) (y:Str):cM [.obj h,.str y] ω=zn (.ok (.lst ((hd.marksK y).map bE)),ω):=by
 obtain⟨k,t,e,rs,H,rfl⟩:=H;rw[Hg H W.ents.1 W.entsEnt (jg (eP W.entsLen)) y,qQ W.entsEnt];rfl
theorem mB {mk:List Key}{ks:List (List Key)} (H:HandS ω h i hd fp) (hk:ks.Nodup) (hin:∀ q∈ks,q∈hd.table.map (·.1)) (hl:hd.kept.length<64) (W:(hd.takeOut0 mk ks).Ok c):∃ ω',cK [.obj h,bE mk,.lst (ks.map bE)] ω=zn (.ok .non,ω')/\Did ω h i fp ω' (hd.takeOut mk ks):=by
 obtain⟨k,t,e,rs,H,rfl⟩:=H;obtain⟨ω',e',e1,H',K,L⟩:=xJ H hk hin (eP hl) W;refine⟨ω',e1,_,⟨k,t,e',rs,H',rfl⟩,K.sub (fun n hn=>by simp only[aj,cq,or_false] at hn ⊢;rcases hn with z|z|z <;> simp[z]),fun n hn=> ?_⟩;simp only[aj] at hn ⊢;rcases hn with z|z|z|z|z
 ·exact .inl (.inl z)
 ·exact .inl (.inr (.inl z))
 ·exact .inl (.inr (.inr (.inl z)))
 ·exact .inr (z ▸ L)
 ·exact .inl (.inr (.inr (.inr (.inr z))))
theorem vD {kvs:List (List Key×D)}{q k:List Key}{v:D} (h:q∈kvs.map (·.1)):q∈(gQ kvs k v).map (·.1):=by
 unfold gQ;split
 ·obtain⟨p,h1,h2⟩:=ay.mp h;refine ay.mpr ⟨if p.1=k then(p.1,v) else p,ay.mpr ⟨p,h1,rfl⟩,?_⟩;split <;> exact h2
 ·rw[b4];exact c5 _ h
noncomputable def Hd.change (hd:Hd) (i:Nat) (x:Str) (v:Int):Hd:=(hd.put i x v).takeOut (eJ i (hd.next i)) (hd.marksK x)
theorem Lr (H:HandS ω h i hd fp) (W:hd.Ok c) (hi:i<c) (x:Str) (v:Int) (W2:((hd.put i x v).takeOut0 (eJ i (hd.next i)) (hd.marksK x)).Ok c):∃ ω',dE [.obj h,.str x,.int v] ω=zn (.ok (mkD i (hd.next i)),ω')/\Did ω h i fp ω' (hd.change i x v):=by
 obtain⟨ω1,e1,D1⟩:=QF H W hi x v;obtain⟨fp1,H1,K1,F1⟩:=id D1;obtain⟨ω2,e2,D2⟩:=mB (mk:=eJ i (hd.next i)) (ks:=hd.marksK x) H1 (W.marksNodup x) (fun q hq=>vD (W.marksIn x q hq)) W.kl W2;refine⟨ω2,?_,D1.trans fun fq Hq=> ?_⟩
 ·obtain⟨k0,t0,e0,ho⟩:=H.obj;obtain⟨k1,t1,e1',ho1⟩:=H1.obj;refine aR rfl ?_;unfold kN;rw[aN (bM (aB rfl) ho rfl (aA (aB rfl) aD) (IM H W x))];rw[aN (bM (aB (d:=.obj h) rfl) ho rfl (aA (aB (d:=.str x) rfl) (aA (aB (d:=.int v) rfl) aD)) e1)];rw[bF (ρ1:=[zn (.obj h),zn (.str x),zn (.int v),zn (.lst ((hd.marksK x).map bE)),zn (mkD i (hd.next i))]) (ω1:=ω2) (by
   unfold bV;rw[bW (bM (aB (d:=.obj h) rfl) ho1 rfl (aA (aB (d:=bE (eJ i (hd.next i))) rfl) (aA (aB (d:=.lst ((hd.marksK x).map bE)) rfl) aD)) e2)];rfl)]
  exact bC (aB rfl)
 ·obtain⟨ωq,eq,Dq⟩:=mB (mk:=eJ i (hd.next i)) (ks:=hd.marksK x) Hq (W.marksNodup x) (fun q hq=>vD (W.marksIn x q hq)) W.kl W2;rw[e2] at eq;cases eq;exact Dq
noncomputable def Hd.take (hd:Hd) (i:Nat) (x:Str):Hd:=if hd.marksK x=[] then hd else(hd.bump i).takeOut (eJ i (hd.next i)) (hd.marksK x)
noncomputable def Hd.takeA (hd:Hd) (x:Str):D:=if hd.marksK x=[] then .non else .lst ((hd.marksK x).map bE)
theorem OU (H:HandS ω h i hd fp) (W:hd.Ok c) (hi:i<c) (x:Str) (W2:((hd.bump i).takeOut0 (eJ i (hd.next i)) (hd.marksK x)).Ok c):∃ ω',eX [.obj h,.str x] ω=zn (.ok (hd.takeA x),ω')/\Did ω h i fp ω' (hd.take i x):=by
 obtain⟨k0,t0,e0,ho⟩:=H.obj;unfold Hd.take Hd.takeA;have m1:=IM H W x;cases hm:hd.marksK x with
 |nil=>
  rw[if_pos rfl,if_pos rfl];refine⟨ω,?_,Did.refl H⟩;refine aR rfl ?_;unfold jK;rw[hm] at m1;rw[aN (bM (aB rfl) ho rfl (aA (aB rfl) aD) m1)];rfl
 |cons q r=>
  rw[if_neg (by simp),if_neg (by simp)];rw[hm] at m1 W2;obtain⟨ω1,e1,D1⟩:=DQ H W hi;obtain⟨fp1,H1,K1,F1⟩:=id D1;have nd:=W.marksNodup x;have mi:=W.marksIn x;rw[hm] at nd mi;obtain⟨ω2,e2,D2⟩:=mB (mk:=eJ i (hd.next i)) (ks:=q::r) H1 nd mi W.kl W2;refine⟨ω2,?_,D1.trans fun fq Hq=> ?_⟩
  ·obtain⟨k1,t1,e1',ho1⟩:=H1.obj;refine aR rfl ?_;unfold jK;rw[aN (bM (aB rfl) ho rfl (aA (aB rfl) aD) m1)];rw[bF (ρ1:=[zn (.obj h),zn (.str x),zn (.lst ((q::r).map bE))]) (ω1:=ω) rfl];rw[bF (ρ1:=[zn (.obj h),zn (.str x),zn (.lst ((q::r).map bE))]) (ω1:=ω2) (by
    unfold bV;rw[bW (bM (aB (d:=.obj h) rfl) ho rfl (aA (a:=bE (eJ i (hd.next i))) (bP (aB rfl) ho rfl e1) (aA (aB (d:=.lst ((q::r).map bE)) rfl) aD)) e2)])]
   exact bC (aB rfl)
  ·obtain⟨ωq,eq,Dq⟩:=mB (mk:=eJ i (hd.next i)) (ks:=q::r) Hq nd mi W.kl W2;rw[e2] at eq;cases eq;exact Dq
end
theorem fW (er:ω[r]?=zn (.ml (iv xs))):RowV ω (.obj r) xs:=by unfold RowV dX;simp only[er]
theorem iW {ω:Om} (h:ω[n]?=zn o):n<ω.length:=(bx.mp h).1
theorem RowsAt.app (h:RowsAt ω rs kn) (obs:List Ob):RowsAt (ω++obs) rs kn:=by
 induction h with
 |nil=>exact .nil
 |cons hr _ ih=>exact .cons ((bc (iW hr)).trans hr) ih
theorem RowsAt.setAt (h:RowsAt ω rs kn) (hr:ω[r]?=zn (.ml (iv xs))):RowsAt ω (rs.set j r) (kn.set j xs):=by
 induction h generalizing j with
 |nil=>exact .nil
 |cons h0 t ih=>
  cases j with
  |zero=>exact .cons hr t
  |succ j=>exact .cons h0 ih
theorem DN {l:List Nat} (h:l.Nodup) (ha:a∉l) (j:Nat):(l.set j a).Nodup:=by
 induction l generalizing j with
 |nil=>exact h
 |cons x r ih=>
  rw[cx] at h;simp only[aj,not_or] at ha;cases j with
  |zero=>rw[xm,cx];exact⟨ha.2,h.2⟩
  |succ j=>
   rw[xn,cx];refine⟨fun z=> ?_,ih h.2 ha.2 j⟩;rcases je z with z|z
   ·exact h.1 z
   ·exact ha.1 z.symm
noncomputable def Hd.leaves (tl:Hd) (j:Nat) (d:D):Bool:=(gP tl.table (aW d)).isSome|| !cZ (tl.seen j) (aW d)
def QM (c:Nat) (d:D):Prop:=∃(x:Str) (a b:Int) (v:Int),d=.tup [.str x,.tup [.int a,.int b],.int v]/\0<=a/\a<c
section
variable {ω:Om}{h k t e h2 k2 t2 e2:Nat}{i j c:Nat}{hd tl:Hd}{rs rs2 fp:List Nat}
theorem qS (G:HandAt ω h2 j tl k2 t2 e2 rs2) (V:tl.Ok c) (hj:j<c) (ho:∀ d∈out,QM c d) (hl:out.length<=sizeLine):kD [.lst out,.obj h2] ω=zn (.ok (.lst (out.filter (tl.leaves j))),ω):=by
 obtain⟨r,hr,er⟩:=G.seenRow (by rw[V.len];exact hj);refine aR rfl (bC (fB (ds:=out) (chk:=bT) (ω1:=ω) ?_ hl ?_))
 ·unfold oIL;rw[aY (aB (d:=.lst out) rfl)];rfl
 ·have e0:out.filter (tl.leaves j)=(out.filter (tl.leaves j)).map fun d=>d:=by simp
  rw[e0];refine fI (fun ρ=>∃ u,ρ=[u,zn (.obj h2)]) rfl ⟨_,rfl⟩ fun d hd ρ hρ=> ?_;obtain⟨x,a,b,v,rfl,ha0,ha1⟩:=ho d hd;obtain⟨u,rfl⟩:=hρ;refine⟨_,rfl,⟨_,rfl⟩,?_,fun _=>aB rfl⟩;have d1:dG (o2 (fun ω a b=>pu (LK ω a b) ω) (zX (zV 0) (zI 1)) (fK 0 "table" (zV 1))) [zn (.tup [.str x,.tup [.int a,.int b],.int v]),zn (.obj h2)] ω=zn (.ok (gP tl.table [.inl a,.inl b]).isSome,ω):=
   cN (gO (aT (aB (d:=.tup [.str x,.tup [.int a,.int b],.int v]) rfl) aQ rfl) (G.table (aB rfl)) (by
    show pu (LK ω (.tup [.int a,.int b]) (.obj t2)) ω=_
    have:LK ω (.tup [.int a,.int b]) (.obj t2)=zn (.bl (gP tl.table [.inl a,.inl b]).isSome):=by
     simp only[LK,HJ,cellOf,G.tb];rfl
    rw[this];rfl))
  have lv:tl.leaves j (.tup [.str x,.tup [.int a,.int b],.int v])=((gP tl.table [.inl a,.inl b]).isSome|| !decide (b<=(tl.seen j).getD a.toNat 0)):=rfl;rw[lv];show oOr _ _ _ _=_;unfold oOr;show oB _ _ [zn (.tup [.str x,.tup [.int a,.int b],.int v]),zn (.obj h2)] ω=_;rw[aY d1];cases hv:(gP tl.table [.inl a,.inl b]).isSome with
  |true=>rfl
  |false=>
   have s1:=nW (ω:=ω) (d:=.obj r) (xs:=tl.seen j) (fW er) (a:=a) (b:=b) ha0 (by rw[V.seenLen hj];exact ha1);show jF _ _ _=_;unfold jF;rw[aY (x:=decide (b<=(tl.seen j).getD a.toNat 0)) (ω1:=ω) (by
    unfold gU;rw[aY (aP (aA (bP (aB rfl) G.obj rfl (jD G hr)) (aA (aT (aB (d:=.tup [.str x,.tup [.int a,.int b],.int v]) rfl) aQ rfl) aD)) s1)];rfl)]
   rfl
noncomputable def OH (xs ys:List Int):Int:=(bw (fun x y=>mx (y-x) 0) xs ys).sum
noncomputable def mU (out:List D) (T:List (List Key×D)):List (List Key×D):=out.foldl (fun T d=>gQ T (aW d) d) T
theorem GC (kvs:List (List Key×D)) (k:List Key) (v:D):(gQ kvs k v).length<=kvs.length+1:=by
 unfold gQ;split
 ·simp
 ·simp
theorem vX {h h2 n0 n1:Nat}:∀ {out:List D}{T:List (List Key×D)}{v:Option D}{ω:Om},(∀ d∈out,fV d)->ω[n1]?=zn (.dt T)->T.length+out.length<sizeLine->
  ∃ v',cH (aZ 5) bT dU out [zn (.obj h),zn (.obj h2),zn m,zn (.obj n0),zn (.obj n1),v] ω=zn (.nx [zn (.obj h),zn (.obj h2),zn m,zn (.obj n0),zn (.obj n1),v'],ω.set n1 (.dt (mU out T)))
 |[],T,v,ω,_,ht,_=>⟨v,by
   show zn (OOut.nx _,ω)=_;rw[show mU [] T=T from rfl,iJ ht]⟩
 |d::out,T,v,ω,he,ht,hl=>by
  rw[bv] at hl;have hd:=he d av;obtain⟨x,a,b,w,rfl⟩:=hd;have b1:dU [zn (.obj h),zn (.obj h2),zn m,zn (.obj n0),zn (.obj n1),zn (.tup [.str x,.tup [.int a,.int b],.int w])] ω=zn (.nx [zn (.obj h),zn (.obj h2),zn m,zn (.obj n0),zn (.obj n1),zn (.tup [.str x,.tup [.int a,.int b],.int w])],ω.set n1 (.dt (gQ T [.inl a,.inl b] (.tup [.str x,.tup [.int a,.int b],.int w])))):=by
   unfold dU;exact kZ (aB rfl) (aB (d:=.obj n1) rfl) (aT (aB (d:=.tup [.str x,.tup [.int a,.int b],.int w]) rfl) aQ rfl) (tG (ks:=[.inl a,.inl b]) ht rfl (by omega))
  have hp:=GC T [.inl a,.inl b] (.tup [.str x,.tup [.int a,.int b],.int w]);obtain⟨v',g1⟩:=vX (h:=h) (h2:=h2) (n0:=n0) (n1:=n1) (m:=m) (out:=out) (T:=gQ T [.inl a,.inl b] (.tup [.str x,.tup [.int a,.int b],.int w])) (v:=zn (.tup [.str x,.tup [.int a,.int b],.int w])) (ω:=ω.set n1 (.dt (gQ T [.inl a,.inl b] (.tup [.str x,.tup [.int a,.int b],.int w])))) (fun d hd=>he d (ak _ hd)) (bQ ht) (by omega);refine⟨v',?_⟩;rw[oz] at g1;refine(cB rfl rfl (b1)).trans ?_;exact g1
theorem AN:∀ {rs1 rs2:List Nat}{kn1 kn2:List (List Int)}{ω:Om}{ρ:Rho},ρ.length=2->RowsAt ω rs1 kn1->RowsAt ω rs2 kn2->(∀ xs∈kn1,xs.length<=sizeLine)->(∀ obs,chk (ω++obs)=true)->
  compLO (tQ 0 1) chk (oPT jQ) (bG gA (aC (zV 0) (aC (zV 1) aK))) (xE (rs1.map D.obj) (rs2.map D.obj)) ρ ω=zn ((dw ω.length (bw (bw mx) kn1 kn2).length).map D.obj,ω++(bw (bw mx) kn1 kn2).map fun xs=>Ob.ml (iv xs))
 |_,rs2,_,kn2,ω,ρ,hρ,.nil,_,_,hc=>by
  show(if chk ω=true then zn ([],ω) else zo)=_
  rw[if_pos (by have:=hc [];rwa [dr] at this)];simp
 |_,_,_,_,ω,ρ,hρ,.cons _ _,.nil,_,hc=>by
  show(if chk ω=true then zn ([],ω) else zo)=_
  rw[if_pos (by have:=hc [];rwa [dr] at this)];simp
 |_,_,_,_,ω,ρ,hρ,@Paired.cons _ _ _ r1 x1 rs1 kn1 a1 t1,@Paired.cons _ _ _ r2 x2 rs2 kn2 a2 t2,hl,hc=>by
  match ρ,hρ with
  |[u,v],_=>
   have j1:=vS (ω:=ω) (fW a1) (fW a2) (hl x1 av);have ih:=AN (chk:=chk) (ω:=ω++[.ml (iv (bw mx x1 x2))]) (ρ:=[zn (.obj r1),zn (.obj r2)]) rfl (RowsAt.app t1 _) (RowsAt.app t2 _) (fun xs hx=>hl xs (ak _ hx)) (fun obs=>by rw[fz];exact hc _)
   show(if chk ω=true then(match bG gA (aC (zV 0) (aC (zV 1) aK)) [zn (.obj r1),zn (.obj r2)] ω with
    |some (.ok y,ω2)=>(compLO (tQ 0 1) chk (oPT jQ) (bG gA (aC (zV 0) (aC (zV 1) aK))) (xE (rs1.map D.obj) (rs2.map D.obj)) [zn (.obj r1),zn (.obj r2)] ω2).map fun r=>(y::r.1,r.2)
    |_=>zo) else zo)=_
   rw[if_pos (by have:=hc [];rwa [dr] at this),aP (aA (aB (d:=.obj r1) rfl) (aA (aB (d:=.obj r2) rfl) aD)) j1]
   show(compLO _ _ _ _ _ _ _).map _=_
   rw[ih];rw[jv,bv,mw,bu,bu,bq];show zn (_,_)=_;rw[fz];rfl
theorem lA:∀(kn:List (List Int)) (pre post:Om),RowsAt (pre++(kn.map fun xs=>Ob.ml (iv xs))++post) (dw pre.length kn.length) kn
 |[],_,_=>.nil
 |x::r,pre,post=>by
  rw[bv,mw];refine .cons (by simp) ?_
  have:=lA r (pre++[.ml (iv x)]) post
  unfold RowsAt at this;simpa using this
theorem jC (e1:fv ρ ω=zn (.ok v,ω1)) (e2:fo ρ ω1=zn (.ok (.obj n),ω2)) (e3:ω2[n]?=zn (.ins c fs)) (hl:fs.length<1000):lU c x fo fv ρ ω=zn (.nx ρ,ω2.set n (.ins c (kA x v fs))):=by
 unfold lU;rw[bW e1,bW e2]
 have:sU c x ω2 (.obj n) v=zn (ω2.set n (.ins c (kA x v fs))):=by
  simp only[sU,e3];rw[if_pos ⟨trivial,hl⟩]
 show(sU c x ω2 (.obj n) v).map _=_
 rw[this];rfl
noncomputable def Hd.hearT (hd:Hd) (i:Nat) (tl:Hd) (j:Nat):List D:=hd.ents.filter (tl.leaves j)++tl.ents.filter (hd.leaves i)
noncomputable def Hd.hear0 (hd:Hd) (i:Nat) (tl:Hd) (j:Nat):Hd:=⟨(bw (bw mx) hd.knows tl.knows).set i (bw mx (hd.seen i) (tl.seen j)),mU (hd.hearT i tl j) [],nP hd.kept tl.kept⟩
noncomputable def Hd.hear (hd:Hd) (i:Nat) (tl:Hd) (j:Nat):Hd:=(hd.hear0 i tl j).forget
theorem Hd.Ok.entC (W:hd.Ok c):∀ d∈hd.ents,QM c d:=fun d hd'=>by
 obtain⟨kv,h1,rfl⟩:=ay.mp (W.ents.2.mem_iff.mp hd');obtain⟨a,b,ha0,ha1,_,x,v,e⟩:=W.tk kv h1;exact⟨x,a,b,v,e,ha0,ha1⟩
theorem KI (H:HandAt ω h i hd k t e rs) (G:HandAt ω h2 j tl k2 t2 e2 rs2) (hij:∀ n∈h::k::t::e::rs,n∉h2::k2::t2::e2::rs2) (W:hd.Ok c) (V:tl.Ok c) (hi:i<c) (hj:j<c) (hh:eA (tl.kept.map (·.1))=true) (W2:(hd.hear0 i tl j).Ok c):
  ∃ ω' k' t' e' rs',bY [.obj h,.obj h2] ω=zn (.ok (.int (OH (hd.seen i) (tl.seen j))),ω')/\HandAt ω' h i (hd.hear i tl j) k' t' e' rs'/\Keep [h,e] ω ω'/\∀ n∈k'::t'::e'::rs',ω.length<=n:=by
 obtain⟨r,hr,er⟩:=H.seenRow (by rw[W.len];exact hi);obtain⟨r2,hr2,er2⟩:=G.seenRow (by rw[V.len];exact hj);obtain⟨⟨h1,h2',h3,h4⟩,⟨h5,h6,h7⟩,⟨h8,h9⟩,h10,h11⟩:=H.ne;have ltH:=H.lt;have ltG:=G.lt;have c8:∀ {n:Nat},n=c->n<=sizeLine:=fun z=>by rw[z,bz];have:=W.small;omega
 have hs1:(hd.seen i).length<=sizeLine:=c8 (W.seenLen hi);have hh2:h2≠h:=fun z=>hij h (by simp) (by simp[z]);have he2:e2≠e:=fun z=>hij e (by simp) (by simp[z]);have hk2h:k2≠h:=fun z=>hij h (by simp) (by simp[z]);have he2h:e2≠h:=fun z=>hij h (by simp) (by simp[z]);have hrs2h:∀ r∈rs2,r≠h:=fun r hr z=>hij h (by simp) (by rw[<- z];simp[hr])
 -- the stages of the store
 obtain⟨s,hs⟩:∃ s,s=bw mx (hd.seen i) (tl.seen j):=⟨_,rfl⟩;obtain⟨ωa,hωa⟩:∃ ωa,ωa=ω++[Ob.ml (iv s)]:=⟨_,rfl⟩;obtain⟨ωb,hωb⟩:∃ ωb,ωb=ωa++[Ob.dt []]:=⟨_,rfl⟩;have la:ωa.length=ω.length+1:=by rw[hωa];simp
 have lb:ωb.length=ω.length+2:=by rw[hωb];simp[la]
 have gb:∀ n,n<ω.length->ωb[n]?=ω[n]?:=fun n hn=>by rw[hωb,bc (by omega),hωa,bc hn]
 have Hb:HandAt ωb h i hd k t e rs:=H.mono fun n hn=>gb n (ltH n hn);have Gb:HandAt ωb h2 j tl k2 t2 e2 rs2:=G.mono fun n hn=>gb n (ltG n hn);have nb:ωb[ωa.length]?=zn (.dt []):=by rw[hωb];simp
 have sb:ωb[ω.length]?=zn (.ml (iv s)):=by rw[hωb,bc (by omega),hωa];simp
 -- the table
 have l1:(hd.ents.filter (tl.leaves j)).length<64:=jy (io ..) W.entsLen;have l2:(tl.ents.filter (hd.leaves i)).length<64:=jy (io ..) V.entsLen;have lT:(hd.hearT i tl j).length<128:=by unfold Hd.hearT;rw[bq];omega
 have entT:∀ d∈hd.hearT i tl j,fV d:=fun d hd'=>by
  rcases c4.mp hd' with z|z
  ·exact W.entsEnt d (cr.mp z).1
  ·exact V.entsEnt d (cr.mp z).1
 obtain⟨v',loop⟩:=vX (h:=h) (h2:=h2) (n0:=ω.length) (n1:=ωa.length) (m:=.int (OH (hd.seen i) (tl.seen j))) (out:=hd.hearT i tl j) (T:=[]) (v:=zo) (ω:=ωb) entT nb (by rw[bz];simp;omega);obtain⟨T,hT⟩:∃ T,T=mU (hd.hearT i tl j) []:=⟨_,rfl⟩;rw[<- hT] at loop;obtain⟨ωc,hωc⟩:∃ ωc,ωc=ωb.set ωa.length (.dt T):=⟨_,rfl⟩;rw[<- hωc] at loop;have lc:ωc.length=ω.length+2:=by rw[hωc];simp[lb]
 have gc:∀ n,n<ω.length->ωc[n]?=ω[n]?:=fun n hn=>by rw[hωc,aM (by omega)];exact gb n hn
 have tc:ωc[ωa.length]?=zn (.dt T):=by rw[hωc];exact bQ nb
 have sc:ωc[ω.length]?=zn (.ml (iv s)):=by rw[hωc,aM (by omega)];exact sb
 have oc:ωc[h]?=zn (.ins 0 [("number",.int i),("knows",.obj k),("table",.obj t),("kept",.obj e)]):=by rw[gc h (ltH h (by simp))];exact H.obj
 -- table set
 obtain⟨ωd,hωd⟩:∃ ωd,ωd=ωc.set h (.ins 0 [("number",.int i),("knows",.obj k),("table",.obj ωa.length),("kept",.obj e)]):=⟨_,rfl⟩;have ld:ωd.length=ω.length+2:=by rw[hωd];simp[lc]
 have hlt:=ltH h (by simp);have gd:∀ n,n<ω.length->n≠h->ωd[n]?=ω[n]?:=fun n hn hne=>by rw[hωd,aM hne];exact gc n hn
 have od:ωd[h]?=zn (.ins 0 [("number",.int i),("knows",.obj k),("table",.obj ωa.length),("kept",.obj e)]):=by rw[hωd];exact bQ oc
 have td:ωd[ωa.length]?=zn (.dt T):=by rw[hωd,aM (by omega)];exact tc
 have sd:ωd[ω.length]?=zn (.ml (iv s)):=by rw[hωd,aM (by omega)];exact sc
 have kd:ωd[k]?=zn (.ml (rs.map D.obj)):=by rw[gd k (ltH k (by simp)) (cw h1)];exact H.kn
 have kd2:ωd[k2]?=zn (.ml (rs2.map D.obj)):=by rw[gd k2 (ltG k2 (by simp)) hk2h];exact G.kn
 have od2:ωd[h2]?=_:=(gd h2 (ltG h2 (by simp)) hh2).trans G.obj;have rd:RowsAt ωd rs hd.knows:=H.rows.mono fun r hr=>gd r (ltH r (by simp[hr])) fun z=>h4 (z ▸ hr);have rd2:RowsAt ωd rs2 tl.knows:=G.rows.mono fun r hr=>gd r (ltG r (by simp[hr])) (hrs2h r hr)
 -- rows joined
 obtain⟨kn,hkn⟩:∃ kn,kn=bw (bw mx) hd.knows tl.knows:=⟨_,rfl⟩;have lkn:kn.length=c:=by rw[hkn,fx,W.len,V.len,jz]
 have joins:=AN (chk:=fun ω=>qU k (rs.map D.obj) ω&&qU k2 (rs2.map D.obj) ω) (ω:=ωd) (ρ:=[zo,zo]) rfl rd rd2 (fun xs hx=>c8 (W.row xs hx)) (fun obs=>by
  rw[bt];constructor
  ·unfold qU;rw[bc (iW kd),kd];exact sameDs_refl _
  ·unfold qU;rw[bc (iW kd2),kd2];exact sameDs_refl _)
 rw[<- hkn] at joins;obtain⟨ωe,hωe⟩:∃ ωe,ωe=ωd++kn.map fun xs=>Ob.ml (iv xs):=⟨_,rfl⟩;rw[<- hωe] at joins;have le:ωe.length=ω.length+2+c:=by rw[hωe];simp[ld,lkn]
 obtain⟨ωf,hωf⟩:∃ ωf,ωf=ωe++[Ob.ml ((dw ωd.length kn.length).map D.obj)]:=⟨_,rfl⟩;have lf:ωf.length=ω.length+3+c:=by rw[hωf];simp[le];omega
 have gf:∀ n,n<ω.length+2->ωf[n]?=ωd[n]?:=fun n hn=>by rw[hωf,bc (by omega),hωe,bc (by omega)]
 have kf:ωf[ωe.length]?=zn (.ml ((dw ωd.length kn.length).map D.obj)):=by rw[hωf];simp
 have rf:RowsAt ωf (dw ωd.length kn.length) kn:=by rw[hωf,hωe];exact lA kn ωd _
 have of:ωf[h]?=zn (.ins 0 [("number",.int i),("knows",.obj k),("table",.obj ωa.length),("kept",.obj e)]):=by rw[gf h (by omega)];exact od
 obtain⟨ωg,hωg⟩:∃ ωg,ωg=ωf.set h (.ins 0 [("number",.int i),("knows",.obj ωe.length),("table",.obj ωa.length),("kept",.obj e)]):=⟨_,rfl⟩;have og:ωg[h]?=zn (.ins 0 [("number",.int i),("knows",.obj ωe.length),("table",.obj ωa.length),("kept",.obj e)]):=by rw[hωg];exact bQ of
 have kg:ωg[ωe.length]?=zn (.ml ((dw ωd.length kn.length).map D.obj)):=by rw[hωg,aM (by omega)];exact kf
 obtain⟨rs',hrs'⟩:∃ rs',rs'=(dw ωd.length kn.length).set i ω.length:=⟨_,rfl⟩;have hset:((dw ωd.length kn.length).map D.obj).set i (.obj ω.length)=rs'.map D.obj:=by rw[hrs',List.map_set]
 obtain⟨ωh,hωh⟩:∃ ωh,ωh=ωg.set ωe.length (.ml (rs'.map D.obj)):=⟨_,rfl⟩;have elt:=ltH e (by simp);have oh:ωh[h]?=zn (.ins 0 [("number",.int i),("knows",.obj ωe.length),("table",.obj ωa.length),("kept",.obj e)]):=by rw[hωh,aM (by omega)];exact og
 have gh:∀ n,n<ω.length+2->n≠h->ωh[n]?=ωd[n]?:=fun n hn hne=>by rw[hωh,aM (by omega),hωg,aM hne];exact gf n hn
 have eh:ωh[e]?=zn (.dt hd.kept):=by rw[gh e (by omega) (cw h3),gd e elt (cw h3)];exact H.kp
 have eh2:ωh[e2]?=zn (.dt tl.kept):=by rw[gh e2 (by have:=ltG e2 (by simp);omega) he2h,gd e2 (ltG e2 (by simp)) he2h];exact G.kp
 have oh2:ωh[h2]?=_:=(gh h2 (by have:=ltG h2 (by simp);omega) hh2).trans od2;obtain⟨ωi,hωi⟩:∃ ωi,ωi=ωh.set e (.dt (nP hd.kept tl.kept)):=⟨_,rfl⟩;have li:ωi.length=ω.length+3+c:=by rw[hωi,hωh,hωg];simp[lf]
 have gi:∀ n,n<ω.length+2->n≠h->n≠e->ωi[n]?=ωd[n]?:=fun n hn hne hee=>by rw[hωi,aM hee];exact gh n hn hne
 have rin:∀ q∈dw ωd.length kn.length,ω.length+2<=q/\q<ω.length+2+c:=fun q hq=>by
  rw[sy,ld,lkn] at hq;exact hq
 have rsin:∀ q∈rs',ω.length<=q/\q≠ωa.length/\q<ω.length+2+c:=fun q hq=>by
  rw[hrs'] at hq;rcases je hq with z|z
  ·have:=rin q z;omega
  ·omega
 have HI:HandAt ωi h i (hd.hear0 i tl j) ωe.length ωa.length e rs':=by
  refine⟨?_,?_,?_,?_,?_,?_⟩
  ·rw[hωi,aM h3];exact oh
  ·rw[hωi,aM (by omega),hωh];exact bQ kg
  ·show RowsAt ωi rs' ((bw (bw mx) hd.knows tl.knows).set i (bw mx (hd.seen i) (tl.seen j)));rw[<- hkn,<- hs,hrs'];refine RowsAt.setAt (rf.mono fun q hq=> ?_) ?_
   ·have:=rin q hq
    rw[hωi,aM (by omega),hωh,aM (by omega),hωg,aM (by omega)]
   ·rw[gi _ (by omega) (by omega) (by omega)];exact sd
  ·show ωi[ωa.length]?=zn (.dt (mU (hd.hearT i tl j) []));rw[gi _ (by omega) (by omega) (by omega),<- hT];exact td
  ·rw[hωi];exact bQ eh
  ·have hnd:rs'.Nodup:=by
    rw[hrs'];exact DN (xz) (fun z=>by have:=rin _ z;omega) i
   simp only[cx,aj,not_or];refine⟨⟨by omega,by omega,h3,fun z=>by have:=rsin _ z;omega⟩,⟨by omega,by omega,fun z=>by have:=rsin _ z;omega⟩,⟨by omega,fun z=>(rsin _ z).2.1 rfl⟩,fun z=>by have:=rsin _ z;omega,hnd⟩
 obtain⟨ω',f1,HF,KF⟩:=wE HI W2;refine⟨ω',ωe.length,ωa.length,ωi.length,rs',?_,HF,⟨?_,fun n hn hm=> ?_⟩,fun n hn=> ?_⟩
 ·refine aR rfl ?_;unfold oC;rw[aN (aP (aA (bP (aB rfl) H.obj rfl (jD H hr)) (aA (bP (aB rfl) G.obj rfl (jD G hr2)) aD)) (Ha (fW er) (fW er2) hs1))];rw[aN (aP (aA (bP (aB rfl) H.obj rfl (jD H hr)) (aA (bP (aB rfl) G.obj rfl (jD G hr2)) aD)) (vS (fW er) (fW er2) hs1))];rw[<- hs,<- hωa];rw[aN (d:=.obj ωa.length) (ω1:=ωb) (by rw[hωb];rfl)];rw[bF (eV (by
   unfold bJ oIL;rw[bW (x:=(hd.hearT i tl j,bT)) (ω1:=ωb) (by
    rw[aY (x:=.lst (hd.hearT i tl j)) (ω1:=ωb) (gO (aP (aA (bP (aB (d:=.obj h) rfl) Hb.obj rfl (iO Hb W.ents.1)) (aA (aB (d:=.obj h2) rfl) aD)) (qS Gb V hj W.entC (jg (eP W.entsLen)))) (aP (aA (bP (aB (d:=.obj h2) rfl) Gb.obj rfl (iO Gb V.ents.1)) (aA (aB (d:=.obj h) rfl) aD)) (qS Hb W hi V.entC (jg (eP V.entsLen)))) (by
     show(if(hd.ents.filter (tl.leaves j)).length+(tl.ents.filter (hd.leaves i)).length<=sizeLine then zn (D.lst (hd.hearT i tl j),ωb) else zo)=_
     rw[if_pos (by rw[bz];omega)]))]
    rfl)]
   exact loop))]
  rw[bF (jC (aB (d:=.obj ωa.length) rfl) (aB (d:=.obj h) rfl) oc (by simp))];rw[show ωc.set h (.ins 0 (kA "table" (.obj ωa.length) [("number",.int i),("knows",.obj k),("table",.obj t),("kept",.obj e)]))=ωd from by rw[hωd];rfl];rw[bF (jC (yA (ω1:=ωd) (ω2:=ωe) (ds:=xE (rs.map D.obj) (rs2.map D.obj)) (chk:=fun ω=>qU k (rs.map D.obj) ω&&qU k2 (rs2.map D.obj) ω) (by
    unfold oIZ;rw[aY (aA (fG (aB (d:=.obj h) rfl) od rfl) (aA (fG (aB (d:=.obj h2) rfl) od2 rfl) aD))];have z1:wC ωd (.obj k)=zn (rs.map D.obj,qU k (rs.map D.obj)):=by simp only[wC,kd]
    have z2:wC ωd (.obj k2)=zn (rs2.map D.obj,qU k2 (rs2.map D.obj)):=by simp only[wC,kd2]
    show oR (pu ((wC ωd (.obj k)).bind _) ωd)=_;rw[z1];show oR (pu ((wC ωd (.obj k2)).map _) ωd)=_;rw[z2];rfl) (by
     unfold xE;rw[fx,am,am,rd.length,rd2.length,W.len,V.len,jz];exact c8 rfl) joins) (by rw[<- hωf];exact aB (d:=.obj h) rfl) of (by simp))]
  rw[show ωf.set h (.ins 0 (kA "knows" (.obj ωe.length) [("number",.int i),("knows",.obj k),("table",.obj ωa.length),("kept",.obj e)]))=ωg from by rw[hωg];rfl];rw[bF (kZ (aB (d:=.obj ω.length) rfl) (fG (aB (d:=.obj h) rfl) og rfl) (fG (aB (d:=.obj h) rfl) og rfl) (CU kg (by rw[am,List.length_range',lkn];exact hi)))];rw[hset,<- hωh];rw[bF (ω1:=ωi) (by
   unfold bV;rw[bW (AK (r:=.non) (ω3:=ωi) (fG (aB (d:=.obj h) rfl) oh rfl) eh (aA (fG (aB (d:=.obj h2) rfl) oh2 rfl) aD) (by
    simp only[ED,eh,eh2];rw[if_pos ⟨cw he2,by have:=W.kl;have:=V.kl;rw[bz];omega,hh⟩,<- hωi]))])]
  rw[bF (ω1:=ω') (by
   unfold bV;rw[bW (bP (aB (d:=.obj h) rfl) HI.obj rfl f1)])]
  exact bC (aB rfl)
 ·have:=KF.1;omega
 ·simp only[aj,cq,or_false,not_or] at hm;rw[KF.2 n (by omega) (by simpa using hm.1),gi n (by omega) hm.1 hm.2,gd n hn hm.1]
 ·simp only[aj] at hn;rcases hn with z|z|z|z
  ·omega
  ·omega
  ·omega
  ·exact(rsin n z).1
theorem PX (H:HandS ω h i hd fp) (G:HandS ω h2 j tl fq) (hij:∀ n∈fp,n∉fq) (W:hd.Ok c) (V:tl.Ok c) (hi:i<c) (hj:j<c) (hh:eA (tl.kept.map (·.1))=true) (W2:(hd.hear0 i tl j).Ok c):
  ∃ ω',bY [.obj h,.obj h2] ω=zn (.ok (.int (OH (hd.seen i) (tl.seen j))),ω')/\Did ω h i fp ω' (hd.hear i tl j):=by
 obtain⟨k,t,e,rs,H,rfl⟩:=H;obtain⟨k2,t2,e2,rs2,G,rfl⟩:=G;obtain⟨ω',k',t',e',rs',e1,H',K,F⟩:=KI H G hij W V hi hj hh W2;refine⟨ω',e1,_,⟨k',t',e',rs',H',rfl⟩,K.sub (fun n hn=>by simp only[aj,cq,or_false] at hn ⊢;rcases hn with z|z <;> simp[z]),fun n hn=> ?_⟩;rcases aj.mp hn with z|z
 ·exact .inl (by simp[z])
 ·exact .inr (F n z)
end
def KeyIn (c:Nat) (own:Nat->Nat) (k:List Key):Prop:=∃ a b:Nat,a<c/\1<=b/\b<=own a/\k=eJ a b
noncomputable def tot (c:Nat) (own:Nat->Nat):Nat:=((aw c).map own).sum
noncomputable def univ (c:Nat) (own:Nat->Nat):List (List Key):=(aw c).flatMap fun a=>(aw (own a)).map fun b=>eJ a ((b+1:Nat):Int)
theorem rV (c:Nat) (own:Nat->Nat):(univ c own).length=tot c own:=by
 unfold univ tot;rw[List.length_flatMap]
 congr 1
 apply iz;intro a _;simp
theorem KeyIn.univ (h:KeyIn c own k):k∈univ c own:=by
 obtain⟨a,b,h1,h2,h3,rfl⟩:=h;unfold Lw.univ;rw[my];refine⟨a,dn.mpr h1,ay.mpr ⟨b-1,dn.mpr (by omega),?_⟩⟩;rw[Nat.sub_add_cancel h2]
theorem KeyIn.mono (h:KeyIn c own k) (le:∀ a,own a<=own' a):KeyIn c own' k:=by
 obtain⟨a,b,h1,h2,h3,e⟩:=h;exact⟨a,b,h1,h2,cu h3 (le a),e⟩
theorem kI {α:Type} [DecidableEq α]:∀ {l m:List α},l.Nodup->(∀ x∈l,x∈m)->l.length<=m.length
 |[],m,_,_=>i4 _
 |a::r,m,h,hs=>by
  rw[cx] at h;have ha:=hs a av;have h1:=kI (l:=r) (m:=m.erase a) h.2 fun x hx=>(List.mem_erase_of_ne (fun z:x=a=>h.1 (z ▸ hx))).mpr (hs x (ak _ hx));rw[List.length_erase_of_mem ha] at h1;have h2:=u5 ha;rw[bv];omega
structure Hd.In (c:Nat) (own:Nat->Nat) (hd:Hd):Prop where
 len:hd.knows.length=c
 row:∀ xs∈hd.knows,xs.length=c
 kb:∀ xs∈hd.knows,∀ a,a<c->0<=xs.getD a 0/\xs.getD a 0<=own a
 kk:∀ kv∈hd.kept,KeyIn c own kv.1
 kn:(hd.kept.map (·.1)).Nodup
 kv:∀ kv∈hd.kept,∃ ks:List (List Key),kv.2=.tup (ks.map bE)/\ks.length<64/\∀ q∈ks,KeyIn c own q
 tk:∀ kv∈hd.table,∃ a b:Nat,a<c/\1<=b/\b<=own a/\kv.1=eJ a b/\∃(x:Str) (v:Int),kv.2=.tup [.str x,mkD a b,.int v]
 tn:(hd.table.map (·.1)).Nodup
section
variable {c:Nat}{own own':Nat->Nat}{hd tl:Hd}{i j:Nat}
theorem Hd.In.ok (W:hd.In c own) (c0:0<c) (c8:c<=8) (ht:tot c own<64):hd.Ok c where
 len:=W.len
 row:=W.row
 small:=c8
 pos:=c0
 kk:=fun kv h=>by
  obtain⟨a,b,h1,_,_,e⟩:=W.kk kv h;exact⟨a,b,e,by omega,by omega⟩
 kn:=W.kn
 kl:=by
  have:=kI W.kn (m:=univ c own) fun x hx=>by
   obtain⟨kv,h1,rfl⟩:=ay.mp hx;exact(W.kk kv h1).univ
  rw[rV,am] at this;omega
 tk:=fun kv h=>by
  obtain⟨a,b,h1,_,_,e,x,v,e2⟩:=W.tk kv h;exact⟨a,b,by omega,by omega,e,x,v,e2⟩
 tn:=W.tn
 tl:=by
  have:=kI W.tn (m:=univ c own) fun x hx=>by
   obtain⟨kv,h1,rfl⟩:=ay.mp hx;obtain⟨a,b,h2,h3,h4,e,_⟩:=W.tk kv h1;exact KeyIn.univ ⟨a,b,h2,h3,h4,e⟩
  rw[rV,am] at this;omega
theorem Hd.In.mono (W:hd.In c own) (le:∀ a,own a<=own' a):hd.In c own' where
 len:=W.len
 row:=W.row
 kb:=fun xs hx a ha=>⟨(W.kb xs hx a ha).1,Int.le_trans (W.kb xs hx a ha).2 (by have:=le a;omega)⟩
 kk:=fun kv h=>(W.kk kv h).mono le
 kn:=W.kn
 kv:=fun kv h=>by
  obtain⟨ks,e,hl,h2⟩:=W.kv kv h;exact⟨ks,e,hl,fun q hq=>(h2 q hq).mono le⟩
 tk:=fun kv h=>by
  obtain⟨a,b,h1,h2,h3,r⟩:=W.tk kv h;exact⟨a,b,h1,h2,cu h3 (le a),r⟩
 tn:=W.tn
theorem kB {p:List Key×D} (h:p∈gQ kvs k v):p=(k,v)∨p∈kvs:=by
 unfold gQ at h;split at h
 ·obtain⟨q,h1,h2⟩:=ay.mp h
  by_cases hq:q.1=k
  ·rw[if_pos hq] at h2;exact .inl (by rw[<- h2,hq])
  ·rw[if_neg hq] at h2;exact .inr (h2 ▸ h1)
 ·rcases c4.mp h with z|z
  ·exact .inr z
  ·exact .inl (by simpa using z)
theorem iL {k:List Key} (h:(kvs.map (·.1)).Nodup):((gQ kvs k v).map (·.1)).Nodup:=by
 unfold gQ;split
 ·rw[gp];rw[show kvs.map ((·.1)∘fun kv=>if kv.1=k then(kv.1,v) else kv)=kvs.map (·.1) from iz fun kv _=>by
   show(if kv.1=k then(kv.1,v) else kv).1=kv.1
   split <;> rfl]
  exact h
 ·rename_i hn
  rw[b4,ke];refine⟨h,by simp,fun a ha b hb z=>hn ?_⟩;rw[qd];obtain⟨p,h1,h2⟩:=ay.mp ha;refine⟨p,h1,decide_eq_true ?_⟩;have hb':b=k:=by simpa using hb
  rw[h2,z,hb']
theorem Ff (kvs:List (List Key×D)) (k:List Key):(dJ kvs k).Sublist kvs:=nj
theorem oF:∀(ks:List (List Key)) (kvs:List (List Key×D)),(ks.foldl dJ kvs).Sublist kvs
 |[],kvs=>List.Sublist.refl _
 |k::ks,kvs=>(oF ks (dJ kvs k)).trans (Ff kvs k)
theorem mR:∀ {out:List D}{T:List (List Key×D)},(T.map (·.1)).Nodup->((mU out T).map (·.1)).Nodup
 |[],T,h=>h
 |d::out,T,h=>mR (out:=out) (iL h)
theorem mS:∀ {out:List D}{T:List (List Key×D)}{p:List Key×D},p∈mU out T->p∈T∨∃ d∈out,p=(aW d,d)
 |[],T,p,h=>.inl h
 |d::out,T,p,h=>by
  rcases mS (out:=out) (T:=gQ T (aW d) d) h with z|⟨d',h1,h2⟩
  ·rcases kB z with z|z
   ·exact .inr ⟨d,av,z⟩
   ·exact .inl z
  ·exact .inr ⟨d',ak _ h1,h2⟩
theorem lJ:∀ {ms kvs:List (List Key×D)},(kvs.map (·.1)).Nodup->((nP kvs ms).map (·.1)).Nodup
 |[],kvs,h=>h
 |d::ms,kvs,h=>lJ (ms:=ms) (kvs:=gQ kvs d.1 d.2) (iL h)
theorem lB:∀ {ms kvs:List (List Key×D)}{p:List Key×D},p∈nP kvs ms->p∈kvs∨p∈ms
 |[],kvs,p,h=>.inl h
 |d::ms,kvs,p,h=>by
  rcases lB (ms:=ms) (kvs:=gQ kvs d.1 d.2) h with z|z
  ·rcases kB z with z|z
   ·exact .inr (by rw[z];exact av)
   ·exact .inl z
  ·exact .inr (ak _ z)
theorem fN (xs:List Int) (i a:Nat) (v:Int) (hi:i<xs.length):(xs.set i v).getD a 0=if a=i then v else xs.getD a 0:=by
 rw[ax,ax,List.getElem?_set]
 by_cases h:a=i
 ·subst h;simp[hi]
 ·rw[if_neg (cw h),if_neg h]
theorem uG {f:Int->Int->Int}{xs ys:List Int}{a:Nat} (h1:a<xs.length) (h2:a<ys.length):(bw f xs ys).getD a 0=f (xs.getD a 0) (ys.getD a 0):=by
 simp[ax,vd,bi h1,bi h2]
theorem IL {α β γ:Type}{f:α->β->γ}:∀ {xs:List α}{ys:List β}{z:γ},z∈bw f xs ys->∃ x∈xs,∃ y∈ys,z=f x y
 |[],_,_,h=>by simp at h
 |_::_,[],_,h=>by simp at h
 |x::xs,y::ys,z,h=>by
  rw[jv] at h;rcases aj.mp h with h|h
  ·exact⟨x,av,y,av,h⟩
  ·obtain⟨x',h1,y',h2,e⟩:=IL h;exact⟨x',ak _ h1,y',ak _ h2,e⟩
noncomputable def cP (own:Nat->Nat) (i:Nat):Nat->Nat:=fun a=>if a=i then own a+1 else own a
theorem eO (own:Nat->Nat) (i a:Nat):own a<=cP own i a:=by
 unfold cP;split <;> omega
theorem Hd.In.seenMem (W:hd.In c own) (hi:i<c):hd.seen i∈hd.knows:=by
 unfold Hd.seen
 have:i<hd.knows.length:=by rw[W.len];exact hi
 rw[ax,bi this];exact gw this
theorem Hd.In.seenLen (W:hd.In c own) (hi:i<c):(hd.seen i).length=c:=W.row _ (W.seenMem hi)
theorem Hd.In.bump (W:hd.In c own) (hi:i<c) (hs:(hd.seen i).getD i 0=own i):(hd.bump i).In c (cP own i):=by
 have W':=W.mono (eO own i);refine⟨?_,?_,?_,W'.kk,W'.kn,W'.kv,W'.tk,W'.tn⟩
 ·show(hd.knows.set i _).length=c
  rw[du];exact W.len
 ·intro xs hx;rcases je hx with z|z
  ·exact W.row xs z
  ·rw[z,du];exact W.seenLen hi
 ·intro xs hx a ha;rcases je hx with z|z
  ·exact W'.kb xs z a ha
  ·rw[z,fN _ _ _ _ (by rw[W.seenLen hi];exact hi)]
   by_cases h:a=i
   ·rw[if_pos h,hs,h];unfold cP;rw[if_pos rfl];omega
   ·rw[if_neg h];exact W'.kb _ (W.seenMem hi) a ha
theorem iR (W:hd.In c own) (hi:i<c) (hs:(hd.seen i).getD i 0=own i):((hd.bump i).seen i).getD i 0=cP own i i:=by
 have:(hd.bump i).seen i=(hd.seen i).set i ((hd.seen i).getD i 0+1):=by
  show(hd.knows.set i _).getD i []=_
  rw[ax,gq (by rw[W.len];exact hi)];rfl
 rw[this,fN _ _ _ _ (by rw[W.seenLen hi];exact hi),if_pos rfl,hs];unfold cP;rw[if_pos rfl];omega
theorem GY (hs:(hd.seen i).getD i 0=own i):hd.next i=((cP own i i:Nat):Int):=by
 unfold Hd.next cP;rw[hs,if_pos rfl];omega
theorem kJ (hi:i<c) (hs:(hd.seen i).getD i 0=own i):KeyIn c (cP own i) (eJ i (hd.next i)):=by
 rw[GY hs];refine⟨i,cP own i i,hi,?_,bp _,rfl⟩;unfold cP;rw[if_pos rfl];omega
theorem Hd.In.put (W:hd.In c own) (hi:i<c) (hs:(hd.seen i).getD i 0=own i) (x:Str) (v:Int):(hd.put i x v).In c (cP own i):=by
 have B:=W.bump hi hs;refine⟨B.len,B.row,B.kb,B.kk,B.kn,B.kv,?_,iL W.tn⟩;intro kv hkv;rcases kB hkv with z|z
 ·obtain⟨a,b,h1,h2,h3,e⟩:=kJ hi hs;have hab:(i:Int)=a/\hd.next i=b:=by
   unfold eJ at e;simp at e;omega
  refine⟨a,b,h1,h2,h3,by rw[z];exact e,x,v,?_⟩;rw[z];show D.tup [.str x,mkD i (hd.next i),.int v]=D.tup [.str x,mkD a b,.int v];unfold mkD;rw[hab.1,hab.2]
 ·exact B.tk kv z
theorem Hd.In.takeOut0 (W:hd.In c own) {mk:List Key} (hm:KeyIn c own mk) (hl:ks.length<64) (hk:∀ q∈ks,KeyIn c own q):(hd.takeOut0 mk ks).In c own:=by
 refine⟨W.len,W.row,W.kb,?_,?_,?_,fun kv h=>W.tk kv ((oF ks hd.table).subset h),?_⟩
 ·intro kv h
  change kv∈(if ks=[] then hd.kept else _) at h
  split at h
  ·exact W.kk kv h
  ·rcases kB h with z|z
   ·rw[z];exact hm
   ·exact W.kk kv z
 ·show((if ks=[] then hd.kept else _).map (·.1)).Nodup
  split
  ·exact W.kn
  ·exact iL W.kn
 ·intro kv h
  change kv∈(if ks=[] then hd.kept else _) at h
  split at h
  ·exact W.kv kv h
  ·rcases kB h with z|z
   ·rw[z];exact⟨ks,rfl,hl,hk⟩
   ·exact W.kv kv z
 ·exact W.tn.sublist ((oF ks hd.table).map _)
theorem Hd.In.forget (W:hd.In c own):hd.forget.In c own:=
 ⟨W.len,W.row,W.kb,fun kv h=>W.kk kv (cr.mp h).1,W.kn.sublist (nj.map _),fun kv h=>W.kv kv (cr.mp h).1,W.tk,W.tn⟩
theorem Hd.In.hear0 (W:hd.In c own) (V:tl.In c own) (Wo:hd.Ok c) (Vo:tl.Ok c) (hi:i<c) (hj:j<c):(hd.hear0 i tl j).In c own:=by
 have joinB:∀ xs ys:List Int,xs.length=c->ys.length=c->(∀ a,a<c->0<=xs.getD a 0/\xs.getD a 0<=own a)->(∀ a,a<c->0<=ys.getD a 0/\ys.getD a 0<=own a)->(bw mx xs ys).length=c/\∀ a,a<c->0<=(bw mx xs ys).getD a 0/\(bw mx xs ys).getD a 0<=own a:=by
  intro xs ys h1 h2 h3 h4;refine⟨by rw[fx,h1,h2,jz],fun a ha=> ?_⟩;rw[uG (by omega) (by omega)];unfold mx;split
  ·exact h4 a ha
  ·exact h3 a ha
 have rowsB:∀ zs∈(hd.hear0 i tl j).knows,zs.length=c/\∀ a,a<c->0<=zs.getD a 0/\zs.getD a 0<=own a:=by
  intro zs hz;rcases je hz with z|z
  ·obtain⟨x,hx,y,hy,rfl⟩:=IL z;exact joinB x y (W.row x hx) (V.row y hy) (W.kb x hx) (V.kb y hy)
  ·rw[z];exact joinB _ _ (W.seenLen hi) (V.seenLen hj) (W.kb _ (W.seenMem hi)) (V.kb _ (V.seenMem hj))
 have entT:∀ {hd:Hd},hd.In c own->hd.Ok c->∀ d∈hd.ents,∃ a b:Nat,a<c/\1<=b/\b<=own a/\aW d=eJ a b/\∃(x:Str) (v:Int),d=.tup [.str x,mkD a b,.int v]:=by
  intro hd W Wo d hd';obtain⟨kv,h1,rfl⟩:=ay.mp (Wo.ents.2.mem_iff.mp hd');obtain⟨a,b,h2,h3,h4,e,x,v,e2⟩:=W.tk kv h1;exact⟨a,b,h2,h3,h4,by rw[e2];rfl,x,v,e2⟩
 refine⟨?_,fun xs hx=>(rowsB xs hx).1,fun xs hx=>(rowsB xs hx).2,?_,lJ W.kn,?_,?_,mR (by simp)⟩
 ·show((bw (bw mx) hd.knows tl.knows).set i _).length=c
  rw[du,fx,W.len,V.len,jz]
 ·intro kv h;rcases lB h with z|z
  ·exact W.kk kv z
  ·exact V.kk kv z
 ·intro kv h;rcases lB h with z|z
  ·exact W.kv kv z
  ·exact V.kv kv z
 ·intro kv h;rcases mS h with z|⟨d,hd',rfl⟩
  ·simp at z
  ·rcases c4.mp hd' with z|z
   ·exact entT W Wo d (cr.mp z).1
   ·exact entT V Vo d (cr.mp z).1
theorem AR (W:hd.In c own) (V:tl.In c own) (hi:i<c) (hj:j<c) (hs:(hd.seen i).getD i 0=own i):((hd.hear i tl j).seen i).getD i 0=own i:=by
 have:(hd.hear i tl j).seen i=bw mx (hd.seen i) (tl.seen j):=by
  show((bw (bw mx) hd.knows tl.knows).set i _).getD i []=_
  rw[ax,gq (by rw[fx,W.len,V.len,jz];exact hi)];rfl
 rw[this,uG (by rw[W.seenLen hi];exact hi) (by rw[V.seenLen hj];exact hi),hs]
 have:=(V.kb _ (V.seenMem hj) i hi).2
 unfold mx;rw[if_neg (by omega)]
theorem Hd.Ok.marksLen (Wo:hd.Ok c) (x:Str):(hd.marksK x).length<64:=by
 unfold Hd.marksK;rw[am];exact jy (io ..) Wo.entsLen
theorem Hd.In.marks (W:hd.In c own) (Wo:hd.Ok c) (x:Str):∀ q∈hd.marksK x,KeyIn c own q:=fun q hq=>by
 obtain⟨kv,h1,rfl⟩:=ay.mp (Wo.marksIn x q hq);obtain⟨a,b,h2,h3,h4,e,_⟩:=W.tk kv h1;exact⟨a,b,h2,h3,h4,e⟩
end
theorem nV:∀ {U:List (List Key)},eA U=true->(∀ k∈U,∃ a,eI k=zn a)/\∀ k∈U,∀ k'∈U,eI k=eI k'->k=k'
 |[],_=>⟨fun k h=>by simp at h,fun k h=>by simp at h⟩
 |k::r,h=>by
  have h':((eI k).isSome&&r.all (fun k'=>match eI k,eI k' with
   |some a,zn b=>decide (a≠b)
   |_,_=>false)&&eA r)=true:=h
  rw[bt,bt] at h';obtain⟨⟨h0,ha⟩,hr⟩:=h';obtain⟨i1,i2⟩:=nV hr;have main:∀ y∈r,eI k=eI y->False:=fun y hy e=>by
   have:=gv.mp ha y hy
   split at this
   ·rename_i a b e1 e2
    rw[e1,e2] at e;cases e;simp at this
   ·cases this
  refine⟨fun q hq=> ?_,fun q hq q' hq' e=> ?_⟩
  ·rcases aj.mp hq with rfl|hq
   ·exact oq.mp h0
   ·exact i1 q hq
  ·rcases aj.mp hq with z|hq1
   ·rcases aj.mp hq' with z'|hq2
    ·rw[z,z']
    ·rw[z] at e;exact(main q' hq2 e).elim
   ·rcases aj.mp hq' with z'|hq2
    ·rw[z'] at e;exact(main q hq1 e.symm).elim
    ·exact i2 q hq1 q' hq2 e
theorem lK (hU:eA U=true):∀ {ks:List (List Key)},(∀ k∈ks,k∈U)->ks.Nodup->eA ks=true
 |[],_,_=>rfl
 |k::r,hs,nd=>by
  rw[cx] at nd;obtain⟨s1,s2⟩:=nV hU;have hk:=hs k av;obtain⟨a,ea⟩:=s1 k hk
  show((eI k).isSome&&r.all (fun k'=>match eI k,eI k' with
   |some a,zn b=>decide (a≠b)
   |_,_=>false)&&eA r)=true
  rw[bt,bt];refine⟨⟨by rw[ea];rfl,?_⟩,lK hU (fun q hq=>hs q (ak _ hq)) nd.2⟩;rw[gv];intro k' hk';obtain⟨b,eb⟩:=s1 k' (hs k' (ak _ hk'));rw[ea,eb];show decide (a≠b)=true;refine decide_eq_true fun z=>nd.1 ?_;rw[s2 k hk k' (hs k' (ak _ hk')) (by rw[ea,eb,z])];exact hk'
theorem RowsAt.mem (h:RowsAt ω rs kn):∀ r∈rs,∃ xs,ω[r]?=zn (.ml (iv xs)):=by
 induction h with
 |nil=>intro r hr;simp at hr
 |cons h0 _ ih=>
  intro r hr;rcases aj.mp hr with rfl|hr
  ·exact⟨_,h0⟩
  ·exact ih r hr
theorem BB (h:RowsAt ω rs kn):(rs.map D.obj).map (fun d=>D.lst ((bU ω d).getD []))=kn.map fun xs=>D.lst (iv xs):=by
 induction h with
 |nil=>rfl
 |@cons r x rs kn h0 _ ih=>
  rw[bu,bu,bu,ih]
  have:bU ω (.obj r)=zn (iv x):=by simp only[bU,dX,h0]
  rw[this];rfl
theorem KC (h:ω[n]?=zn (.ml ds)):qU n ds ω=true:=by
 unfold qU;rw[h];exact sameDs_refl _
theorem NJ (a b a' b':Int):∃ c,sH 4 (.tup [.int a,.int b]) (.tup [.int a',.int b'])=zn c:=by
 show ∃ c,(match eqD 4 (.int a) (.int a') with
  |some true=>(match eqD 4 (.int b) (.int b') with
   |some true=>zn _
   |some false=>jA (.int b) (.int b')
   |none=>zo)
  |some false=>jA (.int a) (.int a')
  |none=>zo)=zn c
 have e1:eqD 4 (.int a) (.int a')=zn (decide (a=a')):=rfl;have e2:eqD 4 (.int b) (.int b')=zn (decide (b=b')):=rfl;rw[e1,e2];cases decide (a=a') with
 |false=>exact⟨_,rfl⟩
 |true=>
  cases decide (b=b') with
  |false=>exact⟨_,rfl⟩
  |true=>exact⟨_,rfl⟩
section
variable {ω:Om}{h k t e:Nat}{i c:Nat}{hd:Hd}{rs fp:List Nat}{own:Nat->Nat}
theorem Hj (H:HandAt ω h i hd k t e rs) (hl:rs.length<=sizeLine):fM [.obj h] ω=zn (.ok (.lst (hd.knows.map fun xs=>.lst (iv xs))),ω):=by
 refine aR rfl (bC (fB (ds:=rs.map D.obj) (chk:=qU k (rs.map D.obj)) (ω1:=ω) ?_ (by simpa using hl) ?_))
 ·unfold oIL;rw[aY (H.knows (aB rfl))]
  have:wC ω (.obj k)=zn (rs.map D.obj,qU k (rs.map D.obj)):=by simp only[wC,H.kn]
  show oR (pu (wC ω (.obj k)) ω)=_;rw[this];rfl
 ·rw[<- BB H.rows];refine iQ (fun ρ=>ρ.length=1) (KC H.kn) rfl fun d hd ρ hρ=> ?_;obtain⟨r,hr,rfl⟩:=ay.mp hd;obtain⟨xs,ex⟩:=H.rows.mem r hr
  match ρ,hρ with
  |[u],_=>
   refine⟨_,rfl,rfl,dH (aA (aB (d:=.obj r) rfl) aD) ?_⟩
   have:bU ω (.obj r)=zn (iv xs):=by simp only[bU,dX,ex]
   show(bU ω (.obj r)).map _=_
   rw[this];rfl
theorem Gm (H:HandAt ω h i hd k t e rs) (hi:i<hd.knows.length) (ef:f ρ ω=zn (.ok (.obj h),ω)):oL gN (aC (bB 0 "seen" bK f aK) aK) ρ ω=zn (.ok (.lst (iv (hd.seen i))),ω):=by
 obtain⟨r,hr,er⟩:=H.seenRow hi;refine dH (aA (bP ef H.obj rfl (jD H hr)) aD) ?_
 have:bU ω (.obj r)=zn (iv (hd.seen i)):=by simp only[bU,dX,er]
 show(bU ω (.obj r)).map _=_
 rw[this];rfl
noncomputable def Hd.mindK (hd:Hd):List D:=(iU 4 (hd.kept.map fun p=>bE p.1)).getD []
noncomputable def Hd.mindV (hd:Hd) (q:D):D:=match CM q with
 |some k=>(match gP hd.kept k with
  |some (.tup ds)=>.lst ds
  |_=>.non)
 |none=>.non
noncomputable def Hd.mind (hd:Hd):List D:=hd.mindK.map fun q=>.tup [q,hd.mindV q]
theorem Hd.Ok.mindK (W:hd.Ok c):iU 4 (hd.kept.map fun p=>bE p.1)=zn hd.mindK/\hd.mindK.Perm (hd.kept.map fun p=>bE p.1):=by
 have key:∀ d∈hd.kept.map fun p=>bE p.1,∃ a b:Int,d=.tup [.int a,.int b]:=fun d hd'=>by
  obtain⟨kv,h1,rfl⟩:=ay.mp hd';obtain⟨a,b,e,_⟩:=W.kk kv h1;exact⟨a,b,by show bE kv.1=_;rw[e];rfl⟩
 obtain⟨out,e1,e2⟩:=Au (m:=4) (ds:=hd.kept.map fun p=>bE p.1) (by rw[am];exact W.kl) (by
  unfold jE;rw[ji];left;rw[gv];intro d hd';obtain⟨a,b,rfl⟩:=key d hd';rfl) (fun x hx y hy=>by
  obtain⟨a,b,rfl⟩:=key x hx;obtain⟨a',b',rfl⟩:=key y hy;exact NJ a b a' b')
 have:hd.mindK=out:=by unfold Hd.mindK;rw[e1];rfl
 rw[this];exact⟨e1,e2⟩
theorem Hc (W:hd.In c own) (hq:q∈hd.kept):∃ ks:List (List Key),gP hd.kept q.1=zn (.tup (ks.map bE))/\hd.mindV (bE q.1)=.lst (ks.map bE)/\ks.length<64/\∀ x∈ks,KeyIn c own x:=by
 obtain⟨ks,e,hl,h2⟩:=W.kv q hq;have e1:=CG W.kn hq;rw[e] at e1;refine⟨ks,e1,?_,hl,h2⟩;unfold Hd.mindV;rw[Ap]
 show(match gP hd.kept q.1 with
  |some (.tup ds)=>D.lst ds
  |_=>.non)=_
 rw[e1]
theorem BX (H:HandAt ω h i hd k t e rs) (W:hd.Ok c) (I:hd.In c own):dR [.obj h] ω=zn (.ok (.lst hd.mind),ω):=by
 have hl:hd.mindK.length<64:=by rw[W.mindK.2.length_eq,am];exact W.kl
 refine aR rfl (bC (fB (ds:=hd.mindK) (chk:=bT) (ω1:=ω) ?_ (jg (eP hl)) ?_))
 ·unfold oIL;rw[aY (dH (d:=.lst hd.mindK) (ω2:=ω) (aA (H.kept (aB rfl)) aD) (by
   simp only[EH,cellOf,H.kp];rw[W.mindK.1];rfl))]
  rfl
 ·refine iQ (fun ρ=>∃ u,ρ=[u,zn (.obj h)]) rfl ⟨_,rfl⟩ fun d hd' ρ hρ=> ?_;obtain⟨q,hq,rfl⟩:=ay.mp (W.mindK.2.mem_iff.mp hd');obtain⟨ks,e1,e2,_⟩:=Hc I hq;obtain⟨u,rfl⟩:=hρ;refine⟨_,rfl,⟨_,rfl⟩,dH (aA (aB (d:=bE q.1) rfl) (aA (dH (aA (gO (d:=.tup (ks.map bE)) (H.kept (aB rfl)) (aB (d:=bE q.1) rfl) (by
   show pu (sX ω (.obj e) (bE q.1)) ω=_
   have:sX ω (.obj e) (bE q.1)=zn (.tup (ks.map bE)):=by
    simp only[sX,HJ,cellOf,H.kp,Ap];rw[Option.map_some,e1];rfl
   rw[this];rfl)) aD) (d:=.lst (ks.map bE)) rfl) aD)) ?_⟩
  show pu (pP [bE q.1,.lst (ks.map bE)]) ω=zn (D.tup [bE q.1,hd.mindV (bE q.1)],ω);rw[e2];unfold pP;rw[if_pos (by rw[bz];simp)];rfl
end
noncomputable def Hd0 (c:Nat):Hd:=⟨az c (az c 0),[],[]⟩
theorem Bb:∀ c:Nat,(az c [D.int 0]).flatten=iv (az c 0)
 |0=>rfl
 |c+1=>by
  rw[fu,jl,Bb c];rfl
theorem EZ {c:Nat} (c8:c<=8):∀(ds:List D) (u:Option D) (ω:Om),compLO (aZ 0) bT (oPT jQ) (o2 HC (zL (aC (zI 0) aK)) (zV 1)) ds [u,zn (.int c)] ω=zn ((dw ω.length ds.length).map D.obj,ω++az ds.length (.ml (iv (az c 0))))
 |[],u,ω=>by
  show zn ([],ω)=_;simp
 |d::ds,u,ω=>by
  have ih:=EZ c8 ds (zn d) (ω++[.ml (iv (az c 0))]);have b1:o2 HC (zL (aC (zI 0) aK)) (zV 1) [zn d,zn (.int c)] ω=zn (.ok (.obj ω.length),ω++[.ml (iv (az c 0))]):=by
   refine gO (ω1:=ω) (ω2:=ω) (a:=.lst [.int 0]) (b:=.int c) (dH (aA aQ aD) ?_) (aB rfl) ?_
   ·show pu (HE [.int 0]) ω=_;unfold HE;rw[if_pos (by rw[bz];simp)];rfl
   ·show(if -1000000<=(c:Int)/\(c:Int)<=1000000/\1*(c:Int).toNat<=sizeLine then zn (D.obj ω.length,ω++[.ml (az (c:Int).toNat [D.int 0]).flatten]) else zo)=_
    rw[if_pos ⟨by omega,by omega,by rw[bz];omega⟩,da,Bb]
  refine(wL rfl rfl (b1)).trans ?_;rw[ih,bv,mw,bu,fu,bq];show zn (_,_)=_;rw[fz];rfl
theorem HB {c:Nat} (c8:c<=1000):oE [.int (c:Int)]=zn (pI 0 c):=by
 show(if -1000000000<=(c:Int)/\(c:Int)<=1000000000 then zn (pI 0 (c:Int).toNat) else zo)=_
 rw[if_pos ⟨by omega,by omega⟩,da]
theorem qG (e:f ρ ω=zn (.ok (.int c),ω1)) (c8:c<=1000):oIA oE (aC f aK) ρ ω=zn (.ok (pI 0 c,bT),ω1):=by
 unfold oIA;rw[aY (aA e aD)];show oR (pu ((oE [.int (c:Int)]).map _) ω1)=_;rw[HB c8];rfl
theorem Eu {i c:Nat} (c8:c<=8):∃ ω' fp,dD [.obj ω.length,.int i,.int c] (ω++[.ins 0 []])=zn (.ok .non,ω')/\HandS ω' ω.length i (Hd0 c) fp/\Keep [] ω ω'/\∀ n∈fp,ω.length<=n:=by
 obtain⟨ω1,hω1⟩:∃ ω1,ω1=(ω++[Ob.ins 0 []]).set ω.length (.ins 0 [("number",.int i)]):=⟨_,rfl⟩;have g0:(ω++[Ob.ins 0 []])[ω.length]?=zn (.ins 0 []):=by simp
 have g1:ω1[ω.length]?=zn (.ins 0 [("number",.int i)]):=by rw[hω1];exact bQ g0
 have l1:ω1.length=ω.length+1:=by rw[hω1];simp
 have k1:∀ n,n<ω.length->ω1[n]?=ω[n]?:=fun n hn=>by rw[hω1,aM (by omega),bc hn]
 have fill:=EZ c8 (pI 0 c) zo ω1;rw[jY] at fill;obtain⟨ω2,hω2⟩:∃ ω2,ω2=ω1++az c (Ob.ml (iv (az c 0))):=⟨_,rfl⟩;rw[<- hω2] at fill;have l2:ω2.length=ω.length+1+c:=by rw[hω2];simp[l1]
 obtain⟨ω3,hω3⟩:∃ ω3,ω3=ω2++[Ob.ml ((dw ω1.length c).map D.obj)]:=⟨_,rfl⟩;have l3:ω3.length=ω.length+2+c:=by rw[hω3];simp[l2];omega
 have k3:∀ n,n<ω.length+1->ω3[n]?=ω1[n]?:=fun n hn=>by rw[hω3,bc (by omega),hω2,bc (by omega)]
 have g3:ω3[ω.length]?=zn (.ins 0 [("number",.int i)]):=by rw[k3 _ (by omega)];exact g1
 have r3:RowsAt ω3 (dw ω1.length c) (az c (az c 0)):=by
  have:=lA (az c (az c 0)) ω1 [Ob.ml ((dw ω1.length c).map D.obj)]
  rw[List.map_replicate,j5,<- hω2,<- hω3] at this;exact this
 have kk3:ω3[ω2.length]?=zn (.ml ((dw ω1.length c).map D.obj)):=by rw[hω3];simp
 obtain⟨ω4,hω4⟩:∃ ω4,ω4=ω3.set ω.length (.ins 0 [("number",.int i),("knows",.obj ω2.length)]):=⟨_,rfl⟩;have l4:ω4.length=ω.length+2+c:=by rw[hω4];simp[l3]
 have g4:ω4[ω.length]?=zn (.ins 0 [("number",.int i),("knows",.obj ω2.length)]):=by rw[hω4];exact bQ g3
 obtain⟨ω5,hω5⟩:∃ ω5,ω5=(ω4++[Ob.dt []]).set ω.length (.ins 0 [("number",.int i),("knows",.obj ω2.length),("table",.obj ω4.length)]):=⟨_,rfl⟩;have g4':(ω4++[Ob.dt []])[ω.length]?=zn (.ins 0 [("number",.int i),("knows",.obj ω2.length)]):=by rw[bc (by omega)];exact g4
 have l5:ω5.length=ω.length+3+c:=by rw[hω5];simp[l4];omega
 have g5:ω5[ω.length]?=zn (.ins 0 [("number",.int i),("knows",.obj ω2.length),("table",.obj ω4.length)]):=by rw[hω5];exact bQ g4'
 have t5:ω5[ω4.length]?=zn (.dt []):=by rw[hω5,aM (by omega)];simp
 obtain⟨ω6,hω6⟩:∃ ω6,ω6=(ω5++[Ob.dt []]).set ω.length (.ins 0 [("number",.int i),("knows",.obj ω2.length),("table",.obj ω4.length),("kept",.obj ω5.length)]):=⟨_,rfl⟩;have g5':(ω5++[Ob.dt []])[ω.length]?=zn (.ins 0 [("number",.int i),("knows",.obj ω2.length),("table",.obj ω4.length)]):=by rw[bc (by omega)];exact g5
 have l6:ω6.length=ω.length+4+c:=by rw[hω6];simp[l5];omega
 have g6:∀ n,n<ω.length+2+c->n≠ω.length->ω6[n]?=ω3[n]?:=fun n hn hne=>by
  rw[hω6,aM hne,bc (by omega),hω5,aM hne,bc (by omega),hω4,aM hne]
 have rin:∀ q∈dw ω1.length c,ω.length+1<=q/\q<ω.length+1+c:=fun q hq=>by
  rw[sy,l1] at hq;exact hq
 refine⟨ω6,ω.length::ω2.length::ω4.length::ω5.length::dw ω1.length c,?_,⟨ω2.length,ω4.length,ω5.length,dw ω1.length c,⟨?_,?_,?_,?_,?_,?_⟩,rfl⟩,⟨by omega,fun n hn _=> ?_⟩,fun n hn=> ?_⟩
 ·refine sA (ρ1:=[zn (.obj ω.length),zn (.int i),zn (.int c)]) rfl ?_;unfold kM;rw[bF (jC (aB (d:=.int i) rfl) (aB (d:=.obj ω.length) rfl) g0 (by simp))];rw[show(ω++[Ob.ins 0 []]).set ω.length (.ins 0 (kA "number" (.int i) []))=ω1 from by rw[hω1];rfl];rw[bF (jC (yA (ω2:=ω2) (qG (c:=c) (aB rfl) (by omega)) (by rw[jY,bz];omega) fill) (by rw[<- hω3];exact aB (d:=.obj ω.length) rfl) g3 (by simp))];rw[show ω3.set ω.length (.ins 0 (kA "knows" (.obj ω2.length) [("number",.int i)]))=ω4 from by rw[hω4];rfl];rw[bF (jC (v:=.obj ω4.length) (ω1:=ω4++[.dt []]) rfl (aB (d:=.obj ω.length) rfl) g4' (by simp))];rw[show(ω4++[Ob.dt []]).set ω.length (.ins 0 (kA "table" (.obj ω4.length) [("number",.int i),("knows",.obj ω2.length)]))=ω5 from by rw[hω5];rfl];rw[jC (v:=.obj ω5.length) (ω1:=ω5++[.dt []]) rfl (aB (d:=.obj ω.length) rfl) g5' (by simp)];rw[show(ω5++[Ob.dt []]).set ω.length (.ins 0 (kA "kept" (.obj ω5.length) [("number",.int i),("knows",.obj ω2.length),("table",.obj ω4.length)]))=ω6 from by rw[hω6];rfl];rfl
 ·rw[hω6];exact bQ g5'
 ·rw[g6 _ (by omega) (by omega)];exact kk3
 ·exact r3.mono fun q hq=>by have:=rin q hq;exact g6 q (by omega) (by omega)
 ·rw[hω6,aM (by omega),bc (by omega)];exact t5
 ·rw[hω6,aM (by omega)];simp[Hd0]
 ·simp only[cx,aj,not_or];refine⟨⟨by omega,by omega,by omega,fun z=>by have:=rin _ z;omega⟩,⟨by omega,by omega,fun z=>by have:=rin _ z;omega⟩,⟨by omega,fun z=>by have:=rin _ z;omega⟩,fun z=>by have:=rin _ z;omega,xz⟩
 ·rw[g6 n (by omega) (by omega),k3 n (by omega)];exact k1 n hn
 ·simp only[aj] at hn;rcases hn with z|z|z|z|z
  ·omega
  ·omega
  ·omega
  ·omega
  ·have:=rin n z;omega
theorem DW (e1:fl ρ ω=zn (.ok ds,ω1)) (e2:φ (.obj ω1.length::ds) (ω1++[.ins cl []])=zn (.ok .non,ω2)):pK cl φ fl ρ ω=zn (.ok (.obj ω1.length),ω2):=by
 unfold pK;rw[aY e1]
 show(match φ (.obj ω1.length::ds) (ω1++[.ins cl []]) with
  |some (.ok .non,ω')=>zn (Rz.ok (D.obj ω1.length),ω')
  |some (.ex c,ω')=>zn (.ex c,ω')
  |_=>zo)=_
 rw[e2]
theorem jX (s:Int) (m:Nat):pI s (m+1)=.int s::pI (s+1) m:=by
 unfold pI;rw[u4,bu,gp]
 congr 1
 ·simp
 ·apply iz;intro k _;show D.int (s+((k+1:Nat):Int))=D.int (s+1+(k:Int))
  congr 1
  omega
theorem AT {c:Nat} (c8:c<=8):∀(m s:Nat) (u:Option D) (ω:Om),∃(ω':Om) (hs:Nat->Nat) (fp:Nat->List Nat),compLO (aZ 0) bT (oPT jQ) (pK 0 dD (aC (zV 0) (aC (zV 1) aK))) (pI s m) [u,zn (.int c)] ω=zn ((dw s m).map fun i=>D.obj (hs i),ω')/\
  (∀ i,s<=i->i<s+m->HandS ω' (hs i) i (Hd0 c) (fp i))/\(∀ i,s<=i->i<s+m->∀ n∈fp i,ω.length<=n)/\(∀ i,s<=i->i<s+m->∀ j,s<=j->j<s+m->i≠j->∀ n∈fp i,n∉fp j)/\Keep [] ω ω'
 |0,s,u,ω=>⟨ω,fun _=>0,fun _=>[],rfl,fun i h1 h2=>by omega,fun i h1 h2=>by omega,fun i h1 h2=>by omega,Keep.refl _ _⟩
 |m+1,s,u,ω=>by
  obtain⟨ω1,fp0,e1,H1,K1,F1⟩:=Eu (ω:=ω) (i:=s) c8;obtain⟨ω2,hs,fp,e2,H2,F2,A2,K2⟩:=AT c8 m (s+1) (zn (.int s)) ω1;have ltH:=H1.lt;refine⟨ω2,fun i=>if i=s then ω.length else hs i,fun i=>if i=s then fp0 else fp i,?_,fun i h1 h2=> ?_,fun i h1 h2 n hn=> ?_,fun i h1 h2 j h3 h4 hne n hn=> ?_,⟨cu K1.1 K2.1,fun n hn _=> ?_⟩⟩
  ·rw[jX];have mk:pK 0 dD (aC (zV 0) (aC (zV 1) aK)) [zn (.int s),zn (.int c)] ω=zn (.ok (.obj ω.length),ω1):=DW (aA (aB rfl) (aA (aB rfl) aD)) e1;refine(wL rfl rfl (mk)).trans ?_
   show(compLO _ _ _ _ (pI ((s+1:Nat):Int) m) _ _).map _=_
   rw[e2,mw,bu];show zn (_::_,_)=_
   congr 3
   ·simp
   ·apply iz;intro i hi;rw[sy] at hi;show D.obj (hs i)=D.obj (if i=s then ω.length else hs i);rw[if_neg (by omega)]
  ·by_cases hi:i=s
   ·subst hi;simp only[if_pos];exact H1.mono fun n hn=>K2.2 n (ltH n hn) (by simp)
   ·simp only[if_neg hi];exact H2 i (by omega) (by omega)
  ·by_cases hi:i=s
   ·simp only[if_pos hi] at hn;exact F1 n hn
   ·simp only[if_neg hi] at hn;exact cu K1.1 (F2 i (by omega) (by omega) n hn)
  ·by_cases hi:i=s
   ·by_cases hj:j=s
    ·exact absurd (hi.trans hj.symm) hne
    ·simp only[if_pos hi] at hn;simp only[if_neg hj];intro z
     have:=F2 j (by omega) (by omega) n z
     have:=ltH n hn
     omega
   ·simp only[if_neg hi] at hn
    by_cases hj:j=s
    ·simp only[if_pos hj];intro z
     have:=F2 i (by omega) (by omega) n hn
     have:=ltH n z
     omega
    ·simp only[if_neg hj];exact A2 i (by omega) (by omega) j (by omega) (by omega) hne n hn
  ·rw[K2.2 n (ck hn K1.1) (by simp)];exact K1.2 n hn (by simp)
structure HallS (B ω:Om) (g c:Nat) (hs:Nat->Nat) (fp:Nat->List Nat) (S:Nat->Hd):Prop where
 obj:ω[g]?=zn (.ins 1 [("hands",.lst ((aw c).map fun i=>.obj (hs i)))])
 hand:∀ i,i<c->HandS ω (hs i) i (S i) (fp i)
 apart:∀ i,i<c->∀ j,j<c->i≠j->∀ n∈fp i,n∉fp j
 out:∀ i,i<c->g∉fp i
 low:∀ i,i<c->∀ n∈fp i,B.length<=n
 bas:B.length<=ω.length/\∀ n,n<B.length->ω[n]?=B[n]?
theorem vY (c8:c<=8) (e:fl ρ ω=zn (.ok [.int c],ω)):∃ ω' hs fp,pK 1 eM fl ρ ω=zn (.ok (.obj ω.length),ω')/\HallS ω ω' ω.length c hs fp (fun _=>Hd0 c):=by
 obtain⟨ω1,hs,fp,e1,H1,F1,A1,K1⟩:=AT c8 c 0 zo (ω++[Ob.ins 1 []]);have g0:(ω++[Ob.ins 1 []])[ω.length]?=zn (.ins 1 []):=by simp
 have g1:ω1[ω.length]?=zn (.ins 1 []):=(K1.2 _ (by simp) (by simp)).trans g0;have l1:=K1.1;rw[bq] at l1;have hl:[Ob.ins 1 []].length=1:=rfl;have f1:∀ i,i<c->∀ n∈fp i,n≠ω.length:=fun i hi n hn z=>by
  have:=F1 i (by omega) (by omega) n hn
  rw[bq] at this;omega
 refine⟨ω1.set ω.length (.ins 1 [("hands",.lst ((aw c).map fun i=>.obj (hs i)))]),hs,fp,DW e ?_,⟨bQ g1,fun i hi=> ?_,fun i hi j hj=>A1 i (by omega) (by omega) j (by omega) (by omega),fun i hi z=>f1 i hi _ z rfl,fun i hi n hn=> ?_,⟨by simp;omega,fun n hn=> ?_⟩⟩⟩
 ·refine sA (ρ1:=[zn (.obj ω.length),zn (.int c)]) rfl ?_;unfold kO;rw[jC (fB (ω2:=ω1) (qG (c:=c) (aB rfl) (by omega)) (by rw[jY,bz];omega) e1) (aB (d:=.obj ω.length) rfl) g1 (by simp)];rw[<- List.range_eq_range'];rfl
 ·exact(H1 i (by omega) (by omega)).mono fun n hn=>aM (f1 i hi n hn)
 ·have:=F1 i (by omega) (by omega) n hn
  rw[bq] at this;omega
 ·rw[aM (by omega),K1.2 n (by simp;omega) (by simp),bc hn]
noncomputable def Lq:List (List Key)->Nat->Bool
 |[],_=>true
 |k::r,acc=>match eI k with
  |some h=> !(acc.testBit (h % 4096).toNat)&&Lq r (acc|||(1<<<(h % 4096).toNat))
  |none=>false
theorem IV (acc i j:Nat):(acc|||(1<<<i)).testBit j=(acc.testBit j||decide (j=i)):=by
 rw[Nat.testBit_or,Nat.testBit_shiftLeft]
 congr 1
 by_cases h:j=i
 ·subst h;simp
 ·rw[decide_eq_false h]
  by_cases h2:j≥i
  ·have:j-i≠0:=by omega
   obtain⟨n,hn⟩:∃ n,j-i=n+1:=⟨j-i-1,by omega⟩;rw[hn,Nat.testBit_succ];simp
  ·simp[h2]
theorem wP:∀ {l:List (List Key)}{acc:Nat},Lq l acc=true->∀ k∈l,∃ h,eI k=zn h/\acc.testBit (h % 4096).toNat=false
 |[],_,_,k,hk=>by simp at hk
 |k::r,acc,h,q,hq=>by
  unfold Lq at h;cases hh:eI k with
  |none=>rw[hh] at h;cases h
  |some a=>
   rw[hh] at h;have h':(!(acc.testBit (a % 4096).toNat)&&Lq r (acc|||(1<<<(a % 4096).toNat)))=true:=h;rw[bt] at h';rcases aj.mp hq with rfl|hq
   ·exact⟨a,hh,by simpa using h'.1⟩
   ·obtain⟨b,e1,e2⟩:=wP h'.2 q hq;rw[IV,Bool.or_eq_false_iff] at e2;exact⟨b,e1,e2.1⟩
theorem Fv:∀ {l:List (List Key)}{acc:Nat},Lq l acc=true->eA l=true
 |[],_,_=>rfl
 |k::r,acc,h=>by
  unfold Lq at h;cases hh:eI k with
  |none=>rw[hh] at h;cases h
  |some a=>
   rw[hh] at h;have h':(!(acc.testBit (a % 4096).toNat)&&Lq r (acc|||(1<<<(a % 4096).toNat)))=true:=h;rw[bt] at h'
   show((eI k).isSome&&r.all (fun k'=>match eI k,eI k' with
    |some a,zn b=>decide (a≠b)
    |_,_=>false)&&eA r)=true
   rw[bt,bt];refine⟨⟨by rw[hh];rfl,?_⟩,Fv h'.2⟩;rw[gv];intro k' hk';obtain⟨b,e1,e2⟩:=wP h'.2 k' hk';rw[hh,e1];refine decide_eq_true fun z=> ?_;rw[IV,<- z] at e2;simp at e2
theorem Es:eA (univ 8 fun _=>63)=true:=Fv (acc:=0) (by decide+kernel)
noncomputable def iT (S:Nat->Hd) (i:Nat) (hd:Hd):Nat->Hd:=fun j=>if j=i then hd else S j
theorem fO:iT S i hd i=hd:=if_pos rfl
theorem eT (h:j≠i):iT S i hd j=S j:=if_neg h
inductive Deed where
 |put (a:Int) (x:Str) (v:Int)
 |change (a:Int) (x:Str) (v:Int)
 |take (a:Int) (x:Str)
 |tell (a b:Int)
 |meet (a b:Int)
noncomputable def Deed.d:Deed->D
 |.put a x v=>.tup [.str "put",.int a,.str x,.int v]
 |.change a x v=>.tup [.str "change",.int a,.str x,.int v]
 |.take a x=>.tup [.str "take",.int a,.str x]
 |.tell a b=>.tup [.str "tell",.int a,.int b]
 |.meet a b=>.tup [.str "meet",.int a,.int b]
noncomputable def gS (S:Nat->Hd) (a b:Nat):Nat->Hd:=iT S b ((S b).hear b (S a) a)
noncomputable def mQ (S:Nat->Hd) (a b:Nat):Int:=OH ((S b).seen b) ((S a).seen a)
noncomputable def yF (S:Nat->Hd) (a b:Nat):Nat->Hd:=gS (gS (gS S a b) b a) a b
noncomputable def step (c:Nat) (S:Nat->Hd):Deed->D×(Nat->Hd)
 |.put a x v=>if 0<=a/\a<c then(mkD a.toNat ((S a.toNat).next a.toNat),iT S a.toNat ((S a.toNat).put a.toNat x v)) else(.str "no hand",S)
 |.change a x v=>if 0<=a/\a<c then(mkD a.toNat ((S a.toNat).next a.toNat),iT S a.toNat ((S a.toNat).change a.toNat x v)) else(.str "no hand",S)
 |.take a x=>if 0<=a/\a<c then((S a.toNat).takeA x,iT S a.toNat ((S a.toNat).take a.toNat x)) else(.str "no hand",S)
 |.tell a b=>if(0<=a/\a<c)/\(0<=b/\b<c) then(if a=b then(.str "same hand",S) else(.int (mQ S a.toNat b.toNat),gS S a.toNat b.toNat)) else(.str "no hand",S)
 |.meet a b=>if(0<=a/\a<c)/\(0<=b/\b<c) then(if a=b then(.str "same hand",S) else(.tup [.int (mQ (gS S a.toNat b.toNat) b.toNat a.toNat),.int (mQ S a.toNat b.toNat)],yF S a.toNat b.toNat)) else(.str "no hand",S)
def HInv (c:Nat) (own:Nat->Nat) (S:Nat->Hd):Prop:=∀ a,a<c->(S a).In c own/\((S a).seen a).getD a 0=own a
theorem fL (own:Nat->Nat) (i:Nat):∀ c,tot c (cP own i)=tot c own+if i<c then 1 else 0
 |0=>rfl
 |c+1=>by
  have ih:=fL own i c;unfold tot at ih ⊢;rw[hX,b4,b4,qo,qo,ih];simp only[bu,ou,List.sum_cons,List.sum_nil];unfold cP
  by_cases h1:i<c
  ·rw[if_pos h1,if_neg (by omega),if_pos (by omega)];omega
  ·rw[if_neg h1]
   by_cases h2:c=i
   ·rw[if_pos h2,if_pos (by omega)];omega
   ·rw[if_neg h2,if_neg (by omega)];omega
theorem ID (own:Nat->Nat) (a:Nat):∀ c,a<c->own a<=tot c own
 |0,h=>by omega
 |c+1,h=>by
  have ih:=ID own a c;unfold tot at ih ⊢;rw[hX,b4,qo];simp only[bu,ou,List.sum_cons,List.sum_nil]
  by_cases h1:a<c
  ·have:=ih h1;omega
  ·have:a=c:=by omega
   subst this;omega
section
variable {B:Om}{c g i j:Nat}{own:Nat->Nat}{S:Nat->Hd}{ω ω':Om}{hs:Nat->Nat}{fp:Nat->List Nat}{hd':Hd}
theorem HInv.upd (I:HInv c own S) (W:hd'.In c own) (e:(hd'.seen i).getD i 0=own i):HInv c own (iT S i hd'):=fun a ha=>by
 by_cases h:a=i
 ·subst h;rw[fO];exact⟨W,e⟩
 ·rw[eT h];exact I a ha
theorem HInv.updB (I:HInv c own S) (W:hd'.In c (cP own i)) (e:(hd'.seen i).getD i 0=cP own i i):HInv c (cP own i) (iT S i hd'):=fun a ha=>by
 by_cases h:a=i
 ·subst h;rw[fO];exact⟨W,e⟩
 ·rw[eT h];refine⟨(I a ha).1.mono (eO own i),?_⟩;rw[(I a ha).2];unfold cP;rw[if_neg h]
theorem HallS.did (L:HallS B ω g c hs fp S) (hi:i<c) (D:Did ω (hs i) i (fp i) ω' hd'):∃ fp',HallS B ω' g c hs fp' (iT S i hd'):=by
 obtain⟨fi,H',K,F⟩:=D;refine⟨fun j=>if j=i then fi else fp j,⟨?_,fun j hj=> ?_,fun a ha b hb hne n hn=> ?_,fun j hj=> ?_,fun j hj n hn=> ?_,⟨cu L.bas.1 K.1,fun n hn=> ?_⟩⟩⟩
 ·rw[K.2 g (iW L.obj) (L.out i hi)];exact L.obj
 ·by_cases h:j=i
  ·subst h;rw[fO];simp only[if_pos];exact H'
  ·rw[eT h];simp only[if_neg h];exact(L.hand j hj).mono fun n hn=>K.2 n ((L.hand j hj).lt n hn) fun z=>L.apart j hj i hi h n hn z
 ·by_cases h1:a=i
  ·simp only[if_pos h1] at hn
   by_cases h2:b=i
   ·exact absurd (h1.trans h2.symm) hne
   ·simp only[if_neg h2];intro z;rcases F n hn with q|q
    ·exact L.apart i hi b hb (fun w=>h2 w.symm) n q z
    ·have:=(L.hand b hb).lt n z
     omega
  ·simp only[if_neg h1] at hn
   by_cases h2:b=i
   ·simp only[if_pos h2];intro z;rcases F n z with q|q
    ·exact L.apart a ha i hi h1 n hn q
    ·have:=(L.hand a ha).lt n hn
     omega
   ·simp only[if_neg h2];exact L.apart a ha b hb hne n hn
 ·by_cases h:j=i
  ·simp only[if_pos h];intro z;rcases F g z with q|q
   ·exact L.out i hi q
   ·have:=iW L.obj
    omega
  ·simp only[if_neg h];exact L.out j hj
 ·by_cases h:j=i
  ·simp only[if_pos h] at hn;rcases F n hn with q|q
   ·exact L.low i hi n q
   ·exact cu L.bas.1 q
  ·simp only[if_neg h] at hn;exact L.low j hj n hn
 ·rw[K.2 n (ck hn L.bas.1) fun z=>absurd hn (vt.mpr (L.low i hi n z))];exact L.bas.2 n hn
end
section
variable {α β:Type}{f h fo:OG D}{fl:OG (List D)}{ρ:Rho}{ω ω1 ω2 ω3:Om}{a b d:D}{ds:List D}{F G:OS}{x:Nat}{r:Rz D}
theorem GV {f:OG α}{g:α->OG β} (e:f ρ ω=zn (.ex x,ω1)):oB f g ρ ω=zn (.ex x,ω1):=by unfold oB;rw[e]
theorem yE (e:fo ρ ω=zn (.ex x,ω1)):bB c m φ fo fl ρ ω=zn (.ex x,ω1):=GV e
theorem vI (e:f ρ ω=zn (.ex x,ω1)):aC f fl ρ ω=zn (.ex x,ω1):=GV e
theorem DM (e1:f ρ ω=zn (.ok a,ω1)) (e2:fl ρ ω1=zn (.ex x,ω2)):aC f fl ρ ω=zn (.ex x,ω2):=by
 unfold aC;rw[aY e1,GV e2]
theorem NE (e:fl ρ ω=zn (.ex x,ω1)):oL g fl ρ ω=zn (.ex x,ω1):=GV e
theorem DJ {f:OG α} (e:f ρ ω=zn (.ex x,ω1)):oX f g ρ ω=zn (.ex x,ω1):=by unfold oX;rw[e]
noncomputable def Mh:Rz D->OOut
 |.ok d=>.rt d
 |.ex c=>.ex c
theorem gT (e:f ρ ω=zn (r,ω1)):aS f ρ ω=zn (Mh r,ω1):=by
 cases r with
 |ok d=>exact bC e
 |ex c=>exact DJ e
theorem xO (e:F ρ ω=zn (Mh r,ω1)):aH F G ρ ω=zn (Mh r,ω1):=by
 unfold aH;rw[e];cases r <;> rfl
theorem dL (hl:ds.length=n) (e:G (cE N ds) ω=zn (Mh r,ω1)):eB n N G ds ω=zn (r,ω1):=by
 unfold eB;rw[if_pos hl,e];cases r <;> rfl
end
section
variable {B:Om}{c g i j:Nat}{own:Nat->Nat}{S:Nat->Hd}{ω ω':Om}{hs:Nat->Nat}{fp:Nat->List Nat}{hd':Hd}
theorem nX (L:HallS B ω g c hs fp S) (ef:f ρ ω=zn (.ok (.obj g),ω)):fK 1 "hands" f ρ ω=zn (.ok (.lst ((aw c).map fun i=>.obj (hs i))),ω):=fG ef L.obj rfl
theorem kL (L:HallS B ω g c hs fp S) (a:Int):bD [.obj g,.int a] ω=if 0<=a/\a<c then zn (.ok (.obj (hs a.toNat)),ω) else zn (.ex 0,ω):=by
 have len:oL dQ (aC (fK 1 "hands" (zV 0)) aK) [zn (.obj g),zn (.int a)] ω=zn (.ok (.int c),ω):=dH (aA (nX L (aB rfl)) aD) (by
  show zn (D.int (((aw c).map fun i=>D.obj (hs i)).length:Nat),ω)=_;rw[am,fg])
 have ch:qL gLe gLt (zI 0) (zV 1) (oL dQ (aC (fK 1 "hands" (zV 0)) aK)) [zn (.obj g),zn (.int a)] ω=zn (.ok (decide (0<=a/\a<c)),ω):=by
  unfold qL;rw[aY aQ,aY (aB (d:=.int a) rfl)]
  show(match zn (decide (0<=a)) with
   |none=>zo
   |some true=>oB _ (fun z _ ω=>oR (pu ((gLt (.int a) z).bind toB) ω)) [zn (.obj g),zn (.int a)] ω
   |some false=>zn (Rz.ok false,ω))=_
  by_cases h0:0<=a
  ·rw[decide_eq_true h0];show oB _ (fun z _ ω=>oR (pu ((gLt (.int a) z).bind toB) ω)) [zn (.obj g),zn (.int a)] ω=_;rw[aY len];show zn (Rz.ok (decide (a<(c:Int))),ω)=_;simp[h0]
  ·rw[decide_eq_false h0];simp[h0]
 have nt:jF (qL gLe gLt (zI 0) (zV 1) (oL dQ (aC (fK 1 "hands" (zV 0)) aK))) [zn (.obj g),zn (.int a)] ω=zn (.ok (!decide (0<=a/\a<c)),ω):=by
  unfold jF;rw[aY ch]
 by_cases h:0<=a/\a<c
 ·rw[if_pos h];rw[decide_eq_true h] at nt;refine aR rfl ?_;unfold jN;rw[bF (ρ1:=[zn (.obj g),zn (.int a)]) (ω1:=ω) (by
   show dN _ _ _ [zn (.obj g),zn (.int a)] ω=_;rw[nE nt];rfl)]
  refine bC (aT (nX L (aB rfl)) (aB (d:=.int a) rfl) ?_);show atI ((aw c).map fun i=>D.obj (hs i)) a=_;unfold atI ixN;rw[if_pos h.1,if_pos (by rw[am,fg];exact h.2)]
  show((aw c).map fun i=>D.obj (hs i))[a.toNat]?=_
  rw[bg,fw (by omega)];rfl
 ·rw[if_neg h];rw[decide_eq_false h] at nt;refine dL (r:=.ex 0) rfl ?_;unfold jN;refine xO (r:=.ex 0) ?_;show dN _ _ _ [zn (.obj g),zn (.int a)] ω=_;rw[xP nt];rfl
theorem NQ (h1:ρ[k]?=zn (zn (.int a))) (h2:ρ[l]?=zn (zn (.int b))):dG (o2 (lL 8) (zV k) (zV l)) ρ ω=zn (.ok (decide (a=b)),ω):=cN (gO (aB h1) (aB h2) rfl)
theorem nY (L:HallS B ω g c hs fp S) (a b:Int):bL [.obj g,.int a,.int b] ω=if(0<=a/\a<c)/\(0<=b/\b<c) then(if a=b then zn (.ex 1,ω) else zn (.ok (.tup [.obj (hs a.toNat),.obj (hs b.toNat)]),ω)) else zn (.ex 0,ω):=by
 have ha:=kL L a;have hb:=kL L b;have m1:∀ {r:Rz D}{fa:OG D}{n:Int},bD [.obj g,.int n] ω=zn (r,ω)->fa [zn (.obj g),zn (.int a),zn (.int b),zo] ω=zn (.ok (.int n),ω)->bB 1 "hand" bD (zV 0) (aC fa aK) [zn (.obj g),zn (.int a),zn (.int b),zo] ω=zn (r,ω):=fun e q=>bM (aB rfl) L.obj rfl (aA q aD) e
 by_cases h1:0<=a/\a<c
 ·rw[if_pos h1] at ha
  by_cases h2:0<=b/\b<c
  ·rw[if_pos h2] at hb;rw[if_pos ⟨h1,h2⟩];have tup:zT (aC (bB 1 "hand" bD (zV 0) (aC (zV 1) aK)) (aC (bB 1 "hand" bD (zV 0) (aC (zV 2) aK)) aK)) [zn (.obj g),zn (.int a),zn (.int b),zo] ω=zn (.ok (.tup [.obj (hs a.toNat),.obj (hs b.toNat)]),ω):=dH (aA (m1 ha (aB rfl)) (aA (m1 hb (aB rfl)) aD)) (by
    show pu (pP _) ω=_;unfold pP;rw[if_pos (by rw[bz];simp)];rfl)
   by_cases h3:a=b
   ·rw[if_pos h3];refine dL (r:=.ex 1) rfl ?_;unfold fF;refine(aN tup).trans ?_;refine xO (r:=.ex 1) ?_;rw[xP (ω1:=ω) (by rw[NQ (a:=a) (b:=b) rfl rfl,decide_eq_true h3])];rfl
   ·rw[if_neg h3];refine aR rfl ?_;unfold fF;refine(aN tup).trans ?_;rw[bF (ρ1:=[zn (.obj g),zn (.int a),zn (.int b),zn (.tup [.obj (hs a.toNat),.obj (hs b.toNat)])]) (ω1:=ω) (by
     rw[nE (ω1:=ω) (by rw[NQ (a:=a) (b:=b) rfl rfl,decide_eq_false h3])];rfl)]
    exact bC (aB rfl)
  ·rw[if_neg h2] at hb;rw[if_neg (fun z=>h2 z.2)];refine dL (r:=.ex 0) rfl ?_;unfold fF;refine xO (r:=.ex 0) (DJ (NE (DM (m1 ha (aB rfl)) (vI (m1 hb (aB rfl))))))
 ·rw[if_neg h1] at ha;rw[if_neg (fun z=>h1 z.1)];refine dL (r:=.ex 0) rfl ?_;unfold fF;refine xO (r:=.ex 0) (DJ (NE (vI (m1 ha (aB rfl)))))
end
end L2.MB.Lw
end
section
namespace L2.MB.Lw
open PySem PySem.Spec PyProof.Rows L2.MB
section
variable {B:Om}{c g i j:Nat}{own:Nat->Nat}{S:Nat->Hd}{ω ω':Om}{hs:Nat->Nat}{fp:Nat->List Nat}{hd hd':Hd}
theorem Hd.In.hash (W:hd.In c own) (c8:c<=8) (ht:tot c own<64):eA (hd.kept.map (·.1))=true:=lK Es (fun k hk=>by
 obtain⟨kv,h1,rfl⟩:=ay.mp hk;obtain⟨a,b,h2,h3,h4,e⟩:=W.kk kv h1
 have:=ID own a c h2
 exact KeyIn.univ (own:=fun _=>63) ⟨a,b,by omega,h3,(by show b<=63;omega),e⟩) W.kn
theorem Hv (L:HallS B ω g c hs fp S) (I:HInv c own S) (c0:0<c) (c8:c<=8) (ht:tot c own<64) (hi:i<c) (hj:j<c) (hne:i≠j):∃ ω' fp',bY [.obj (hs i),.obj (hs j)] ω=zn (.ok (.int (mQ S j i)),ω')/\HallS B ω' g c hs fp' (gS S j i)/\HInv c own (gS S j i):=by
 have Wi:=(I i hi).1;have Wj:=(I j hj).1;have Oi:=Wi.ok c0 c8 ht;have Oj:=Wj.ok c0 c8 ht;have H0:=Wi.hear0 Wj Oi Oj hi hj;obtain⟨ω',e,D⟩:=PX (L.hand i hi) (L.hand j hj) (fun n hn=>L.apart i hi j hj hne n hn) Oi Oj hi hj (Wj.hash c8 ht) (H0.ok c0 c8 ht);obtain⟨fp',L'⟩:=L.did hi D;exact⟨ω',fp',e,L',I.upd H0.forget (AR Wi Wj hi hj (I i hi).2)⟩
theorem Rg (L:HallS B ω g c hs fp S) (I:HInv c own S) (c0:0<c) (c8:c<=8) (ht:tot c own<63) (hi:i<c) (x:Str) (v:Int):∃ ω' fp',dO [.obj (hs i),.str x,.int v] ω=zn (.ok (mkD i ((S i).next i)),ω')/\HallS B ω' g c hs fp' (iT S i ((S i).put i x v))/\HInv c (cP own i) (iT S i ((S i).put i x v)):=by
 have W:=(I i hi).1;have O:=W.ok c0 c8 (by omega);obtain⟨ω',e,D⟩:=QF (L.hand i hi) O hi x v;obtain⟨fp',L'⟩:=L.did hi D;exact⟨ω',fp',e,L',I.updB (W.put hi (I i hi).2 x v) (iR W hi (I i hi).2)⟩
theorem uM (hi:i<c) (ht:tot c own<63):tot c (cP own i)<64:=by
 rw[fL,if_pos hi];omega
theorem Ls (L:HallS B ω g c hs fp S) (I:HInv c own S) (c0:0<c) (c8:c<=8) (ht:tot c own<63) (hi:i<c) (x:Str) (v:Int):∃ ω' fp',dE [.obj (hs i),.str x,.int v] ω=zn (.ok (mkD i ((S i).next i)),ω')/\HallS B ω' g c hs fp' (iT S i ((S i).change i x v))/\HInv c (cP own i) (iT S i ((S i).change i x v)):=by
 have W:=(I i hi).1;have O:=W.ok c0 c8 (by omega);have P:=W.put hi (I i hi).2 x v;have T:=P.takeOut0 (mk:=eJ i ((S i).next i)) (ks:=(S i).marksK x) (kJ hi (I i hi).2) (O.marksLen x) fun q hq=>(W.marks O x q hq).mono (eO own i);obtain⟨ω',e,D⟩:=Lr (L.hand i hi) O hi x v (T.ok c0 c8 (uM hi ht));obtain⟨fp',L'⟩:=L.did hi D;exact⟨ω',fp',e,L',I.updB T.forget (iR W hi (I i hi).2)⟩
theorem OV (L:HallS B ω g c hs fp S) (I:HInv c own S) (c0:0<c) (c8:c<=8) (ht:tot c own<63) (hi:i<c) (x:Str):∃ ω' fp' own',eX [.obj (hs i),.str x] ω=zn (.ok ((S i).takeA x),ω')/\HallS B ω' g c hs fp' (iT S i ((S i).take i x))/\HInv c own' (iT S i ((S i).take i x))/\tot c own'<=tot c own+1:=by
 have W:=(I i hi).1;have O:=W.ok c0 c8 (by omega);have P:=W.bump hi (I i hi).2;have T:=P.takeOut0 (mk:=eJ i ((S i).next i)) (ks:=(S i).marksK x) (kJ hi (I i hi).2) (O.marksLen x) fun q hq=>(W.marks O x q hq).mono (eO own i);obtain⟨ω',e,D⟩:=OU (L.hand i hi) O hi x (T.ok c0 c8 (uM hi ht));obtain⟨fp',L'⟩:=L.did hi D
 by_cases hm:(S i).marksK x=[]
 ·refine⟨ω',fp',own,e,L',?_,by omega⟩
  have:(S i).take i x=S i:=by unfold Hd.take;rw[if_pos hm]
  rw[this];exact I.upd W (I i hi).2
 ·refine⟨ω',fp',cP own i,e,L',?_,by rw[fL,if_pos hi];omega⟩
  have:(S i).take i x=((S i).bump i).takeOut (eJ i ((S i).next i)) ((S i).marksK x):=by unfold Hd.take;rw[if_neg hm]
  rw[this];exact I.updB T.forget (iR W hi (I i hi).2)
theorem AM (h:ρ[2]?=zn (zn (.str y))):dG (o2 (lL 8) (zV 2) (zS y)) ρ ω=zn (.ok true,ω):=cN (gO (aB h) aQ (by
 show pu ((eqD 8 (.str y) (.str y)).map D.bl) ω=_;rw[iB,decide_eq_true rfl];rfl))
theorem jB (h:ρ[2]?=zn (zn (.str x))) (hne:x≠y):dG (o2 (lL 8) (zV 2) (zS y)) ρ ω=zn (.ok false,ω):=cN (gO (aB h) aQ (by
 show pu ((eqD 8 (.str x) (.str y)).map D.bl) ω=_;rw[iB,decide_eq_false hne];rfl))
theorem skip (e:t ρ ω=zn (.ok false,ω)):aH (dN t F bI) G ρ ω=G ρ ω:=bF (by rw[nE e];rfl)
theorem KH (e:t ρ ω=zn (.ok true,ω)) (e2:f ρ ω=zn (r,ω')):aH (dN t (aS f) bI) G ρ ω=zn (Mh r,ω'):=xO (by rw[xP e];exact gT e2)
variable {fs:List (Str×D)}{r:Rz D}{a b v:Int}{x:Str}
theorem Bg (ho:ω[g]?=zn (.ins 1 fs)) (hf:fs.lookup ("put":Str)=zo) (e:fT [.obj g,.int a,.str x,.int v] ω=zn (r,ω')):iY [.obj g,(Deed.put a x v).d] ω=zn (r,ω'):=by
 refine dL rfl ?_;unfold rB;rw[aN (d:=.str "put") (aT (aB (d:=(Deed.put a x v).d) rfl) aQ rfl)];exact KH (AM rfl) (bM (aB (d:=.obj g) rfl) ho hf (aA (aT (aB (d:=(Deed.put a x v).d) rfl) aQ rfl) (aA (aT (aB (d:=(Deed.put a x v).d) rfl) aQ rfl) (aA (aT (aB (d:=(Deed.put a x v).d) rfl) aQ rfl) aD))) e)
theorem oI (ho:ω[g]?=zn (.ins 1 fs)) (hf:fs.lookup ("change":Str)=zo) (e:dF [.obj g,.int a,.str x,.int v] ω=zn (r,ω')):iY [.obj g,(Deed.change a x v).d] ω=zn (r,ω'):=by
 refine dL rfl ?_;unfold rB;rw[aN (d:=.str "change") (aT (aB (d:=(Deed.change a x v).d) rfl) aQ rfl)];rw[skip (jB (x:="change") rfl (by decide))];exact KH (AM rfl) (bM (aB (d:=.obj g) rfl) ho hf (aA (aT (aB (d:=(Deed.change a x v).d) rfl) aQ rfl) (aA (aT (aB (d:=(Deed.change a x v).d) rfl) aQ rfl) (aA (aT (aB (d:=(Deed.change a x v).d) rfl) aQ rfl) aD))) e)
theorem wI (ho:ω[g]?=zn (.ins 1 fs)) (hf:fs.lookup ("take":Str)=zo) (e:eZ [.obj g,.int a,.str x] ω=zn (r,ω')):iY [.obj g,(Deed.take a x).d] ω=zn (r,ω'):=by
 refine dL rfl ?_;unfold rB;rw[aN (d:=.str "take") (aT (aB (d:=(Deed.take a x).d) rfl) aQ rfl)];rw[skip (jB (x:="take") rfl (by decide)),skip (jB (x:="take") rfl (by decide))];exact KH (AM rfl) (bM (aB (d:=.obj g) rfl) ho hf (aA (aT (aB (d:=(Deed.take a x).d) rfl) aQ rfl) (aA (aT (aB (d:=(Deed.take a x).d) rfl) aQ rfl) aD)) e)
theorem oG (ho:ω[g]?=zn (.ins 1 fs)) (hf:fs.lookup ("tell":Str)=zo) (e:eY [.obj g,.int a,.int b] ω=zn (r,ω')):iY [.obj g,(Deed.tell a b).d] ω=zn (r,ω'):=by
 refine dL rfl ?_;unfold rB;rw[aN (d:=.str "tell") (aT (aB (d:=(Deed.tell a b).d) rfl) aQ rfl)];rw[skip (jB (x:="tell") rfl (by decide)),skip (jB (x:="tell") rfl (by decide)),skip (jB (x:="tell") rfl (by decide))];exact KH (AM rfl) (bM (aB (d:=.obj g) rfl) ho hf (aA (aT (aB (d:=(Deed.tell a b).d) rfl) aQ rfl) (aA (aT (aB (d:=(Deed.tell a b).d) rfl) aQ rfl) aD)) e)
theorem oH (ho:ω[g]?=zn (.ins 1 fs)) (hf:fs.lookup ("meet":Str)=zo) (e:fA [.obj g,.int a,.int b] ω=zn (r,ω')):iY [.obj g,(Deed.meet a b).d] ω=zn (r,ω'):=by
 refine dL rfl ?_;unfold rB;rw[aN (d:=.str "meet") (aT (aB (d:=(Deed.meet a b).d) rfl) aQ rfl)];rw[skip (jB (x:="meet") rfl (by decide)),skip (jB (x:="meet") rfl (by decide)),skip (jB (x:="meet") rfl (by decide)),skip (jB (x:="meet") rfl (by decide))];exact gT (bM (aB (d:=.obj g) rfl) ho hf (aA (aT (aB (d:=(Deed.meet a b).d) rfl) aQ rfl) (aA (aT (aB (d:=(Deed.meet a b).d) rfl) aQ rfl) aD)) e)
theorem HallS.handObj (L:HallS B ω g c hs fp S) (hi:i<c):∃ fs,ω[hs i]?=zn (.ins 0 fs)/\fs.lookup ("put":Str)=zo/\fs.lookup ("change":Str)=zo/\fs.lookup ("take":Str)=zo/\fs.lookup ("hear":Str)=zo:=by
 obtain⟨k,t,e,h⟩:=(L.hand i hi).obj;exact⟨_,h,rfl,rfl,rfl,rfl⟩
theorem KL (L:HallS B ω g c hs fp S) (ef:f ρ ω=zn (.ok (.obj g),ω)) (ea:fa ρ ω=zn (.ok (.int a),ω)) (h:0<=a/\a<c):bB 1 "hand" bD f (aC fa aK) ρ ω=zn (.ok (.obj (hs a.toNat)),ω):=bM ef L.obj rfl (aA ea aD) (by rw[kL L a,if_pos h])
theorem KJ (L:HallS B ω g c hs fp S) (ef:f ρ ω=zn (.ok (.obj g),ω)) (ea:fa ρ ω=zn (.ok (.int a),ω)) (h:¬(0<=a/\a<c)):bB 1 "hand" bD f (aC fa aK) ρ ω=zn (.ex 0,ω):=bM ef L.obj rfl (aA ea aD) (by rw[kL L a,if_neg h])
theorem Hw (L:HallS B ω g c hs fp S) (h:0<=a/\a<c) (e:dO [.obj (hs a.toNat),.str x,.int v] ω=zn (r,ω')):fT [.obj g,.int a,.str x,.int v] ω=zn (r,ω'):=by
 obtain⟨fs,ho,h1,_⟩:=L.handObj (i:=a.toNat) (by omega);exact dL rfl (gT (bM (KL L (aB rfl) (aB rfl) h) ho h1 (aA (aB rfl) (aA (aB rfl) aD)) e))
theorem Ey (L:HallS B ω g c hs fp S) (h:¬(0<=a/\a<c)):fT [.obj g,.int a,.str x,.int v] ω=zn (.ex 0,ω):=dL (r:=.ex 0) rfl (gT (yE (KJ (a:=a) L (aB rfl) (aB rfl) h)))
theorem yN (L:HallS B ω g c hs fp S) (h:0<=a/\a<c) (e:dE [.obj (hs a.toNat),.str x,.int v] ω=zn (r,ω')):dF [.obj g,.int a,.str x,.int v] ω=zn (r,ω'):=by
 obtain⟨fs,ho,_,h1,_⟩:=L.handObj (i:=a.toNat) (by omega);exact dL rfl (gT (bM (KL L (aB rfl) (aB rfl) h) ho h1 (aA (aB rfl) (aA (aB rfl) aD)) e))
theorem vZ (L:HallS B ω g c hs fp S) (h:¬(0<=a/\a<c)):dF [.obj g,.int a,.str x,.int v] ω=zn (.ex 0,ω):=dL (r:=.ex 0) rfl (gT (yE (KJ (a:=a) L (aB rfl) (aB rfl) h)))
theorem Ew (L:HallS B ω g c hs fp S) (h:0<=a/\a<c) (e:eX [.obj (hs a.toNat),.str x] ω=zn (r,ω')):eZ [.obj g,.int a,.str x] ω=zn (r,ω'):=by
 obtain⟨fs,ho,_,_,h1,_⟩:=L.handObj (i:=a.toNat) (by omega);exact dL rfl (gT (bM (KL L (aB rfl) (aB rfl) h) ho h1 (aA (aB rfl) aD) e))
theorem BY (L:HallS B ω g c hs fp S) (h:¬(0<=a/\a<c)):eZ [.obj g,.int a,.str x] ω=zn (.ex 0,ω):=dL (r:=.ex 0) rfl (gT (yE (KJ (a:=a) L (aB rfl) (aB rfl) h)))
theorem GK {p:Option (Rz D×Om)} (L:HallS B ω g c hs fp S) (ef:f ρ ω=zn (.ok (.obj g),ω)) (ea:fa ρ ω=zn (.ok (.int a),ω)) (eb:fb ρ ω=zn (.ok (.int b),ω)) (e:bL [.obj g,.int a,.int b] ω=zn (r,ω)):bB 1 "pair" bL f (aC fa (aC fb aK)) ρ ω=zn (r,ω):=bM ef L.obj rfl (aA ea (aA eb aD)) e
theorem IA (L:HallS B ω g c hs fp S) (h:(0<=a/\a<c)/\(0<=b/\b<c)) (hne:a≠b):bL [.obj g,.int a,.int b] ω=zn (.ok (.tup [.obj (hs a.toNat),.obj (hs b.toNat)]),ω):=by rw[nY L,if_pos h,if_neg hne]
theorem IC (L:HallS B ω g c hs fp S) (h:(0<=a/\a<c)/\(0<=b/\b<c)) (hne:a=b):bL [.obj g,.int a,.int b] ω=zn (.ex 1,ω):=by rw[nY L,if_pos h,if_pos hne]
theorem Iz (L:HallS B ω g c hs fp S) (h:¬((0<=a/\a<c)/\(0<=b/\b<c))):bL [.obj g,.int a,.int b] ω=zn (.ex 0,ω):=by rw[nY L,if_neg h]
theorem qX (L:HallS B ω g c hs fp S) (e:bL [.obj g,.int a,.int b] ω=zn (.ex n,ω)):eY [.obj g,.int a,.int b] ω=zn (.ex n,ω):=by
 refine dL (r:=.ex n) rfl ?_;unfold jL;exact xO (r:=.ex n) (DJ (GK (p:=zo) L (aB rfl) (aB rfl) (aB rfl) e))
theorem qY (L:HallS B ω g c hs fp S) (e:bL [.obj g,.int a,.int b] ω=zn (.ex n,ω)):fA [.obj g,.int a,.int b] ω=zn (.ex n,ω):=by
 refine dL (r:=.ex n) rfl ?_;unfold jM;exact xO (r:=.ex n) (DJ (GK (p:=zo) L (aB rfl) (aB rfl) (aB rfl) e))
theorem Ev (L:HallS B ω g c hs fp S) (h:(0<=a/\a<c)/\(0<=b/\b<c)) (hne:a≠b) (e:bY [.obj (hs b.toNat),.obj (hs a.toNat)] ω=zn (r,ω')):eY [.obj g,.int a,.int b] ω=zn (r,ω'):=by
 obtain⟨fs,ho,_,_,_,h1⟩:=L.handObj (i:=b.toNat) (by omega);refine dL rfl ?_;unfold jL;rw[aN (GK (p:=zo) L (aB rfl) (aB rfl) (aB rfl) (IA L h hne))];exact gT (bM (aT (aB (d:=.tup [.obj (hs a.toNat),.obj (hs b.toNat)]) rfl) aQ rfl) ho h1 (aA (aT (aB (d:=.tup [.obj (hs a.toNat),.obj (hs b.toNat)]) rfl) aQ rfl) aD) e)
theorem Ez (L:HallS B ω g c hs fp S) (I:HInv c own S) (c0:0<c) (c8:c<=8) (ht:tot c own<64) (h:(0<=a/\a<c)/\(0<=b/\b<c)) (hne:a≠b):∃ ω' fp',fA [.obj g,.int a,.int b] ω=zn (.ok (.tup [.int (mQ (gS S a.toNat b.toNat) b.toNat a.toNat),.int (mQ S a.toNat b.toNat)]),ω')/\HallS B ω' g c hs fp' (yF S a.toNat b.toNat)/\HInv c own (yF S a.toNat b.toNat):=by
 have ha:a.toNat<c:=by omega
 have hb:b.toNat<c:=by omega
 have hn:a.toNat≠b.toNat:=by omega
 obtain⟨ω1,fp1,e1,L1,I1⟩:=Hv L I c0 c8 ht hb ha (cw hn);obtain⟨ω2,fp2,e2,L2,I2⟩:=Hv L1 I1 c0 c8 ht ha hb hn;obtain⟨ω3,fp3,e3,L3,I3⟩:=Hv L2 I2 c0 c8 ht hb ha (cw hn);refine⟨ω3,fp3,?_,L3,I3⟩;obtain⟨fs0,ho0,_,_,_,h0⟩:=L.handObj hb;obtain⟨fs1,ho1,_,_,_,h1⟩:=L1.handObj ha;obtain⟨fs2,ho2,_,_,_,h2⟩:=L2.handObj hb;refine aR rfl ?_;unfold jM;rw[aN (GK (p:=zo) L (aB rfl) (aB rfl) (aB rfl) (IA L h hne))];rw[aN (bM (aT (aB (d:=.tup [.obj (hs a.toNat),.obj (hs b.toNat)]) rfl) aQ rfl) ho0 h0 (aA (aT (aB (d:=.tup [.obj (hs a.toNat),.obj (hs b.toNat)]) rfl) aQ rfl) aD) e1)];rw[aN (d:=.tup [.int (mQ (gS S a.toNat b.toNat) b.toNat a.toNat),.int (mQ S a.toNat b.toNat)]) (ω1:=ω2) (dH (aA (bM (aT (aB (d:=.tup [.obj (hs a.toNat),.obj (hs b.toNat)]) rfl) aQ rfl) ho1 h1 (aA (aT (aB (d:=.tup [.obj (hs a.toNat),.obj (hs b.toNat)]) rfl) aQ rfl) aD) e2) (aA (aB (d:=.int (mQ S a.toNat b.toNat)) rfl) aD)) (by
  show pu (pP _) ω2=_;unfold pP;rw[if_pos (by rw[bz];simp)];rfl))]
 rw[bF (ω1:=ω3) (by
  unfold bV;rw[bW (bM (aT (aB (d:=.tup [.obj (hs a.toNat),.obj (hs b.toNat)]) rfl) aQ rfl) ho2 h2 (aA (aT (aB (d:=.tup [.obj (hs a.toNat),.obj (hs b.toNat)]) rfl) aQ rfl) aD) e3)])]
 exact bC (aB rfl)
theorem uJ (e:iY [.obj g,d] ω=zn (.ok y,ω')):bS [.obj g,d] ω=zn (.ok y,ω'):=aR rfl (by
 unfold gB uY;rw[bC (aP (aA (aB rfl) (aA (aB rfl) aD)) e)])
theorem CL (e:iY [.obj g,d] ω=zn (.ex 0,ω')):bS [.obj g,d] ω=zn (.ok (.str "no hand"),ω'):=aR rfl (by
 unfold gB uY;rw[gT (r:=.ex 0) (aP (aA (aB rfl) (aA (aB rfl) aD)) e)];rfl)
theorem LQ (e:iY [.obj g,d] ω=zn (.ex 1,ω')):bS [.obj g,d] ω=zn (.ok (.str "same hand"),ω'):=aR rfl (by
 unfold gB uY;rw[gT (r:=.ex 1) (aP (aA (aB rfl) (aA (aB rfl) aD)) e)];rfl)
theorem wW (L:HallS B ω g c hs fp S) (I:HInv c own S) (c0:0<c) (c8:c<=8) (ht:tot c own<63) (d:Deed):∃ ω' fp' own',bS [.obj g,d.d] ω=zn (.ok (step c S d).1,ω')/\HallS B ω' g c hs fp' (step c S d).2/\HInv c own' (step c S d).2/\tot c own'<=tot c own+1:=by
 cases d with
 |put a x v=>
  show ∃ ω' fp' own',_=zn (Rz.ok (if 0<=a/\a<(c:Int) then(_,_) else(_,_):D×(Nat->Hd)).1,ω')/\HallS B ω' g c hs fp' (if 0<=a/\a<(c:Int) then(_,_) else(_,_):D×(Nat->Hd)).2/\HInv c own' (if 0<=a/\a<(c:Int) then(_,_) else(_,_):D×(Nat->Hd)).2/\_
  by_cases h:0<=a/\a<c
  ·rw[if_pos h];obtain⟨ω',fp',e,L',I'⟩:=Rg L I c0 c8 ht (i:=a.toNat) (by omega) x v;exact⟨ω',fp',_,uJ (Bg L.obj rfl (Hw L h e)),L',I',by rw[fL,if_pos (by omega)];omega⟩
  ·rw[if_neg h];exact⟨ω,fp,own,CL (Bg L.obj rfl (Ey L h)),L,I,by omega⟩
 |change a x v=>
  show ∃ ω' fp' own',_=zn (Rz.ok (if 0<=a/\a<(c:Int) then(_,_) else(_,_):D×(Nat->Hd)).1,ω')/\HallS B ω' g c hs fp' (if 0<=a/\a<(c:Int) then(_,_) else(_,_):D×(Nat->Hd)).2/\HInv c own' (if 0<=a/\a<(c:Int) then(_,_) else(_,_):D×(Nat->Hd)).2/\_
  by_cases h:0<=a/\a<c
  ·rw[if_pos h];obtain⟨ω',fp',e,L',I'⟩:=Ls L I c0 c8 ht (i:=a.toNat) (by omega) x v;exact⟨ω',fp',_,uJ (oI L.obj rfl (yN L h e)),L',I',by rw[fL,if_pos (by omega)];omega⟩
  ·rw[if_neg h];exact⟨ω,fp,own,CL (oI L.obj rfl (vZ L h)),L,I,by omega⟩
 |take a x=>
  show ∃ ω' fp' own',_=zn (Rz.ok (if 0<=a/\a<(c:Int) then(_,_) else(_,_):D×(Nat->Hd)).1,ω')/\HallS B ω' g c hs fp' (if 0<=a/\a<(c:Int) then(_,_) else(_,_):D×(Nat->Hd)).2/\HInv c own' (if 0<=a/\a<(c:Int) then(_,_) else(_,_):D×(Nat->Hd)).2/\_
  by_cases h:0<=a/\a<c
  ·rw[if_pos h];obtain⟨ω',fp',own',e,L',I',t'⟩:=OV L I c0 c8 ht (i:=a.toNat) (by omega) x;exact⟨ω',fp',own',uJ (wI L.obj rfl (Ew L h e)),L',I',t'⟩
  ·rw[if_neg h];exact⟨ω,fp,own,CL (wI L.obj rfl (BY L h)),L,I,by omega⟩
 |tell a b=>
  show ∃ ω' fp' own',_=zn (Rz.ok (if(0<=a/\a<(c:Int))/\(0<=b/\b<(c:Int)) then(if a=b then(_,_) else(_,_)) else(_,_):D×(Nat->Hd)).1,ω')/\HallS B ω' g c hs fp' (if(0<=a/\a<(c:Int))/\(0<=b/\b<(c:Int)) then(if a=b then(_,_) else(_,_)) else(_,_):D×(Nat->Hd)).2/\HInv c own' (if(0<=a/\a<(c:Int))/\(0<=b/\b<(c:Int)) then(if a=b then(_,_) else(_,_)) else(_,_):D×(Nat->Hd)).2/\_
  by_cases h:(0<=a/\a<(c:Int))/\(0<=b/\b<(c:Int))
  ·rw[if_pos h]
   by_cases hab:a=b
   ·rw[if_pos hab];exact⟨ω,fp,own,LQ (oG L.obj rfl (qX L (IC L h hab))),L,I,by omega⟩
   ·rw[if_neg hab];obtain⟨ω',fp',e,L',I'⟩:=Hv L I c0 c8 (by omega) (i:=b.toNat) (j:=a.toNat) (by omega) (by omega) (by omega);exact⟨ω',fp',own,uJ (oG L.obj rfl (Ev L h hab e)),L',I',by omega⟩
  ·rw[if_neg h];exact⟨ω,fp,own,CL (oG L.obj rfl (qX L (Iz L h))),L,I,by omega⟩
 |meet a b=>
  show ∃ ω' fp' own',_=zn (Rz.ok (if(0<=a/\a<(c:Int))/\(0<=b/\b<(c:Int)) then(if a=b then(_,_) else(_,_)) else(_,_):D×(Nat->Hd)).1,ω')/\HallS B ω' g c hs fp' (if(0<=a/\a<(c:Int))/\(0<=b/\b<(c:Int)) then(if a=b then(_,_) else(_,_)) else(_,_):D×(Nat->Hd)).2/\HInv c own' (if(0<=a/\a<(c:Int))/\(0<=b/\b<(c:Int)) then(if a=b then(_,_) else(_,_)) else(_,_):D×(Nat->Hd)).2/\_
  by_cases h:(0<=a/\a<(c:Int))/\(0<=b/\b<(c:Int))
  ·rw[if_pos h]
   by_cases hab:a=b
   ·rw[if_pos hab];exact⟨ω,fp,own,LQ (oH L.obj rfl (qY L (IC L h hab))),L,I,by omega⟩
   ·rw[if_neg hab];obtain⟨ω',fp',e,L',I'⟩:=Ez L I c0 c8 (by omega) h hab;exact⟨ω',fp',own,uJ (oH L.obj rfl e),L',I',by omega⟩
  ·rw[if_neg h];exact⟨ω,fp,own,CL (oH L.obj rfl (qY L (Iz L h))),L,I,by omega⟩
end
def Pl:Nat->D->Prop
 |_,.non=>True
 |_,.bl _=>True
 |_,.int _=>True
 |_,.str _=>True
 |n+1,.lst ds=>ds.length<=1000/\∀ d∈ds,Pl n d
 |n+1,.tup ds=>ds.length<=1000/\∀ d∈ds,Pl n d
 |_,_=>False
theorem Pl.int (n:Nat) (i:Int):Pl n (.int i):=by cases n <;> trivial
theorem Pl.str (n:Nat) (x:Str):Pl n (.str x):=by cases n <;> trivial
theorem Pl.non (n:Nat):Pl n .non:=by cases n <;> trivial
theorem Pl.tup2 (h1:Pl n a) (h2:Pl n b):Pl (n+1) (.tup [a,b]):=⟨by simp,fun d hd=>by
 simp only[aj,cq,or_false] at hd;rcases hd with rfl|rfl
 ·exact h1
 ·exact h2⟩
theorem Pl.mkD (n i:Nat) (b:Int):Pl (n+1) (mkD i b):=Pl.tup2 (Pl.int _ _) (Pl.int _ _)
theorem Pl.key (h:KeyIn c own k) (n:Nat):Pl (n+1) (bE k):=by
 obtain⟨a,b,_,_,_,rfl⟩:=h;exact Pl.tup2 (Pl.int _ _) (Pl.int _ _)
theorem Pl.keys {ks:List (List Key)} (hl:ks.length<64) (h:∀ q∈ks,KeyIn c own q):Pl (n+2) (.lst (ks.map bE)):=⟨by rw[am];omega,fun d hd=>by
 obtain⟨q,hq,rfl⟩:=ay.mp hd;exact Pl.key (h q hq) n⟩
theorem Jc (I:HInv c own S) (c0:0<c) (c8:c<=8) (ht:tot c own<64) (d:Deed):Pl 2 (step c S d).1:=by
 cases d with
 |put a x v=>
  show Pl 2 (if 0<=a/\a<(c:Int) then(_,_) else(_,_):D×(Nat->Hd)).1;split
  ·exact Pl.mkD 1 _ _
  ·exact Pl.str _ _
 |change a x v=>
  show Pl 2 (if 0<=a/\a<(c:Int) then(_,_) else(_,_):D×(Nat->Hd)).1;split
  ·exact Pl.mkD 1 _ _
  ·exact Pl.str _ _
 |take a x=>
  show Pl 2 (if 0<=a/\a<(c:Int) then(_,_) else(_,_):D×(Nat->Hd)).1;split
  ·rename_i h
   show Pl 2 ((S a.toNat).takeA x);unfold Hd.takeA;split
   ·exact Pl.non _
   ·have W:=(I a.toNat (by omega)).1;have O:=W.ok c0 c8 ht;exact Pl.keys (O.marksLen x) (W.marks O x)
  ·exact Pl.str _ _
 |tell a b=>
  show Pl 2 (if(0<=a/\a<(c:Int))/\(0<=b/\b<(c:Int)) then(if a=b then(_,_) else(_,_)) else(_,_):D×(Nat->Hd)).1;split
  ·split
   ·exact Pl.str _ _
   ·exact Pl.int _ _
  ·exact Pl.str _ _
 |meet a b=>
  show Pl 2 (if(0<=a/\a<(c:Int))/\(0<=b/\b<(c:Int)) then(if a=b then(_,_) else(_,_)) else(_,_):D×(Nat->Hd)).1;split
  ·split
   ·exact Pl.str _ _
   ·exact Pl.tup2 (Pl.int _ _) (Pl.int _ _)
  ·exact Pl.str _ _
noncomputable def fJ (c:Nat):List Deed->(Nat->Hd)->List D×(Nat->Hd)
 |[],S=>([],S)
 |d::r,S=>((step c S d).1::(fJ c r (step c S d).2).1,(fJ c r (step c S d).2).2)
noncomputable def kY (c:Nat) (ds:List Deed):List D:=(fJ c ds fun _=>Hd0 c).1
noncomputable def iX (c:Nat) (ds:List Deed):Nat->Hd:=(fJ c ds fun _=>Hd0 c).2
theorem Ax (c:Nat):∀(ds:List Deed) (S:Nat->Hd),(fJ c ds S).1.length=ds.length
 |[],_=>rfl
 |d::r,S=>by
  show((step c S d).1::(fJ c r (step c S d).2).1).length=_
  rw[bv,bv,Ax c r]
section
variable {B:Om}{c g i j:Nat}{own:Nat->Nat}{S:Nat->Hd}{ω ω':Om}{hs:Nat->Nat}{fp:Nat->List Nat}
theorem LD (c:Nat):HInv c (fun _=>0) (fun _=>Hd0 c):=fun a ha=>by
 have hz:∀ n m:Nat,(az n (0:Int)).getD m 0=0:=fun n m=>by
  rw[ax,ia];split <;> rfl
 refine⟨⟨by simp[Hd0],fun xs hx=> ?_,fun xs hx b hb=> ?_,fun kv h=>by simp[Hd0] at h,by simp[Hd0],fun kv h=>by simp[Hd0] at h,fun kv h=>by simp[Hd0] at h,by simp[Hd0]⟩,?_⟩
 ·rw[(xp.mp hx).2,j5]
 ·rw[(xp.mp hx).2,hz];exact⟨ko _,ko _⟩
 ·show((az c (az c (0:Int))).getD a []).getD a 0=0
  have e1:(az c (az c (0:Int))).getD a []=az c 0:=by
   rw[ax,ia,if_pos ha];rfl
  rw[e1];exact hz c a
theorem LR:∀ c,tot c (fun _=>0)=0
 |0=>rfl
 |c+1=>by
  have ih:=LR c;unfold tot at ih ⊢;rw[hX,b4,qo,ih];rfl
theorem lQ (c0:0<c) (c8:c<=8):∀(ds:List Deed) {u:Option D}{S:Nat->Hd}{ω:Om}{fp:Nat->List Nat}{own:Nat->Nat},HallS B ω g c hs fp S->HInv c own S->tot c own+ds.length<64->∃ ω' fp' own',compLO (aZ 0) bT (oPT jQ) (bG bS (aC (zV 1) (aC (zV 0) aK))) (ds.map Deed.d) [u,zn (.obj g)] ω=zn ((fJ c ds S).1,ω')/\HallS B ω' g c hs fp' (fJ c ds S).2/\HInv c own' (fJ c ds S).2/\tot c own'<64/\∀ x∈(fJ c ds S).1,Pl 2 x
 |[],u,S,ω,fp,own,L,I,ht=>⟨ω,fp,own,rfl,L,I,by simpa using ht,fun x hx=>by simp[fJ] at hx⟩
 |d::ds,u,S,ω,fp,own,L,I,ht=>by
  rw[bv] at ht;obtain⟨ω1,fp1,own1,e1,L1,I1,t1⟩:=wW L I c0 c8 (by omega) d;obtain⟨ω2,fp2,own2,e2,L2,I2,t2,p2⟩:=lQ c0 c8 ds (u:=zn d.d) L1 I1 (by omega);refine⟨ω2,fp2,own2,?_,L2,I2,t2,fun x hx=> ?_⟩
  rotate_left
  ·rcases aj.mp (show x∈(step c S d).1::(fJ c ds (step c S d).2).1 from hx) with z|z
   ·rw[z];exact Jc I c0 c8 (by omega) d
   ·exact p2 x z
  show(match bG bS (aC (zV 1) (aC (zV 0) aK)) [zn d.d,zn (.obj g)] ω with
   |some (.ok y,ω2)=>(compLO (aZ 0) bT (oPT jQ) (bG bS (aC (zV 1) (aC (zV 0) aK))) (ds.map Deed.d) [zn d.d,zn (.obj g)] ω2).map fun r:List D×Om=>(y::r.1,r.2)
   |_=>zo)=_
  rw[aP (aA (aB rfl) (aA (aB rfl) aD)) e1]
  show(compLO _ _ _ _ _ _ _).map _=_
  rw[e2];rfl
theorem rR (c0:0<c) (c8:c<=8):∀(ds:List Deed) {u:Option D}{S:Nat->Hd}{ω:Om}{fp:Nat->List Nat}{own:Nat->Nat},HallS B ω g c hs fp S->HInv c own S->tot c own+ds.length<64->∃ v ω' fp' own',cH (aZ 3) bT dP (ds.map Deed.d) [zn n,zn l,zn (.obj g),u] ω=zn (.nx [zn n,zn l,zn (.obj g),v],ω')/\HallS B ω' g c hs fp' (fJ c ds S).2/\HInv c own' (fJ c ds S).2/\tot c own'<64
 |[],u,S,ω,fp,own,L,I,ht=>⟨u,ω,fp,own,rfl,L,I,by simpa using ht⟩
 |d::ds,u,S,ω,fp,own,L,I,ht=>by
  rw[bv] at ht;obtain⟨ω1,fp1,own1,e1,L1,I1,t1⟩:=wW L I c0 c8 (by omega) d;obtain⟨v,ω2,fp2,own2,e2,L2,I2,t2⟩:=rR c0 c8 ds (u:=zn d.d) L1 I1 (by omega);refine⟨v,ω2,fp2,own2,?_,L2,I2,t2⟩;have b1:dP [zn n,zn l,zn (.obj g),zn d.d] ω=zn (.nx [zn n,zn l,zn (.obj g),zn d.d],ω1):=by
   unfold dP bV;rw[bW (aP (aA (aB (d:=.obj g) rfl) (aA (aB (d:=d.d) rfl) aD)) e1)]
  show(match dP [zn n,zn l,zn (.obj g),zn d.d] ω with
   |none=>zo
   |some (.nx ρ2,ω2)=>cH (aZ 3) bT dP (ds.map Deed.d) ρ2 ω2
   |some (.ct ρ2,ω2)=>cH (aZ 3) bT dP (ds.map Deed.d) ρ2 ω2
   |some (.bk ρ2,ω2)=>zn (.nx ρ2,ω2)
   |some (.rt d,ω2)=>zn (.rt d,ω2)
   |some (.ex _,_)=>zo)=_
  rw[b1];exact e2
theorem rK:∀ {l:List Nat}{u:Option D},(∀ i∈l,F [zn (.obj (hs i))] ω=zn (.ok (R i),ω))->compLO (aZ 0) bT (oPT jQ) F (l.map fun i=>.obj (hs i)) [u] ω=zn (l.map R,ω)
 |[],u,_=>rfl
 |i::l,u,h=>by
  have ih:=rK (F:=F) (R:=R) (l:=l) (u:=zn (.obj (hs i))) fun j hj=>h j (ak _ hj)
  show(match F [zn (.obj (hs i))] ω with
   |some (.ok y,ω2)=>(compLO (aZ 0) bT (oPT jQ) F (l.map fun i=>.obj (hs i)) [zn (.obj (hs i))] ω2).map fun r:List D×Om=>(y::r.1,r.2)
   |_=>zo)=_
  rw[h i av]
  show(compLO _ _ _ _ _ _ _).map _=_
  rw[ih];rfl
theorem kS (L:HallS B ω g c hs fp S) (c8:c<=8) (ef:f ρ ω=zn (.ok (.obj g),ω)) (h:∀ i,i<c->F [zn (.obj (hs i))] ω=zn (.ok (R i),ω)):cY tE (oIL (fK 1 "hands" f)) [zo] (aZ 0) (oPT jQ) F ρ ω=zn (.ok (.lst ((aw c).map R)),ω):=by
 refine fB (ds:=(aw c).map fun i=>.obj (hs i)) (chk:=bT) (ω1:=ω) ?_ (by rw[am,fg,bz];omega) (rK fun i hi=>h i (dn.mp hi));unfold oIL;rw[aY (nX L ef)];rfl
noncomputable def nG (c:Nat) (S:Nat->Hd):D:=.lst ((aw c).map fun i=>.lst (S i).ents)
noncomputable def Qv (c:Nat) (S:Nat->Hd):D:=.lst ((aw c).map fun i=>.lst (iv ((S i).seen i)))
noncomputable def Qx (c:Nat) (S:Nat->Hd):D:=.lst ((aw c).map fun i=>.lst ((S i).knows.map fun xs=>.lst (iv xs)))
noncomputable def Qw (c:Nat) (S:Nat->Hd):D:=.lst ((aw c).map fun i=>.lst (S i).mind)
theorem Io (c0:0<c) (c8:c<=8) (hl:ds.length<64) (ω:Om):∃ ω',xW [.int c,.lst (ds.map Deed.d)] ω=zn (.ok (.tup [nG c (iX c ds),Qv c (iX c ds),Qx c (iX c ds),Qw c (iX c ds)]),ω')/\Keep [] ω ω'/\∃ own,HInv c own (iX c ds)/\tot c own<64:=by
 obtain⟨ω1,hs,fp,e1,L1⟩:=vY (ω:=ω) c8 (fl:=aC (zV 0) aK) (ρ:=cE FV [.int c,.lst (ds.map Deed.d)]) (aA (aB rfl) aD);obtain⟨v,ω2,fp2,own2,e2,L2,I2,t2⟩:=rR c0 c8 (n:=.int c) (l:=.lst (ds.map Deed.d)) ds (u:=zo) L1 (LD c) (by rw[LR];omega);refine⟨ω2,?_,⟨L2.bas.1,fun n hn _=>L2.bas.2 n hn⟩,own2,I2,t2⟩;refine aR rfl ?_;unfold EC;rw[aN e1];rw[bF (eV (by
  unfold bJ oIL;rw[bW (x:=(ds.map Deed.d,bT)) (ω1:=ω1) (by rw[aY (aB (d:=.lst (ds.map Deed.d)) rfl)];rfl)];exact e2))]
 have K:∀ i,i<c->(iX c ds i).Ok c:=fun i hi=>(I2 i hi).1.ok c0 c8 t2;have a1:=kS (ρ:=[zn (.int c),zn (.lst (ds.map Deed.d)),zn (.obj ω.length),v]) (F:=bB 0 "entries" bH (zV 0) aK) (R:=fun i=>.lst (iX c ds i).ents) (f:=zV 2) L2 c8 (aB rfl) fun i hi=>by
  obtain⟨k,t,e,rs,H,_⟩:=L2.hand i hi;exact bP (aB rfl) H.obj rfl (iO H (K i hi).ents.1)
 have a2:=kS (ρ:=[zn (.int c),zn (.lst (ds.map Deed.d)),zn (.obj ω.length),v]) (F:=oL gN (aC (bB 0 "seen" bK (zV 0) aK) aK)) (R:=fun i=>.lst (iv ((iX c ds i).seen i))) (f:=zV 2) L2 c8 (aB rfl) fun i hi=>by
  obtain⟨k,t,e,rs,H,_⟩:=L2.hand i hi;exact Gm H (Nat.lt_of_lt_of_eq hi (K i hi).len.symm) (aB rfl)
 have a3:=kS (ρ:=[zn (.int c),zn (.lst (ds.map Deed.d)),zn (.obj ω.length),v]) (F:=bB 0 "known" fM (zV 0) aK) (R:=fun i=>.lst ((iX c ds i).knows.map fun xs=>.lst (iv xs))) (f:=zV 2) L2 c8 (aB rfl) fun i hi=>by
  obtain⟨k,t,e,rs,H,_⟩:=L2.hand i hi;exact bP (aB rfl) H.obj rfl (Hj H (by rw[H.rows.length];have:=(K i hi).len;unfold iX at this;rw[this,bz];omega))
 have a4:=kS (ρ:=[zn (.int c),zn (.lst (ds.map Deed.d)),zn (.obj ω.length),v]) (F:=bB 0 "in_mind" dR (zV 0) aK) (R:=fun i=>.lst (iX c ds i).mind) (f:=zV 2) L2 c8 (aB rfl) fun i hi=>by
  obtain⟨k,t,e,rs,H,_⟩:=L2.hand i hi;exact bP (aB rfl) H.obj rfl (BX H (K i hi) (I2 i hi).1)
 refine bC (dH (aA a1 (aA a2 (aA a3 (aA a4 aD)))) ?_);show pu (pP _) ω2=_;unfold pP;rw[if_pos (by rw[bz];simp)];rfl
end
section
variable {B:Om}{c g i j:Nat}{own:Nat->Nat}{S:Nat->Hd}{ω ω':Om}{hs:Nat->Nat}{fp:Nat->List Nat}
theorem Cm (c0:0<c) (c8:c<=8) {ds:List Deed} (hl:ds.length<64) (ω:Om):∃ ω',nH [.int c,.lst (ds.map Deed.d)] ω=zn (.ok (.lst (kY c ds)),ω')/\Keep [] ω ω'/\∀ x∈kY c ds,Pl 2 x:=by
 obtain⟨ω1,hs,fp,e1,L1⟩:=vY (ω:=ω) c8 (fl:=aC (zV 0) aK) (ρ:=cE wZ [.int c,.lst (ds.map Deed.d)]) (aA (aB rfl) aD);obtain⟨ω2,fp2,own2,e2,L2,I2,t2,p2⟩:=lQ c0 c8 ds (u:=zo) L1 (LD c) (by rw[LR];omega);refine⟨ω2,?_,⟨L2.bas.1,fun n hn _=>L2.bas.2 n hn⟩,p2⟩;refine aR rfl ?_;unfold wA;rw[aN e1];refine bC (fB (ds:=ds.map Deed.d) (chk:=bT) (ω1:=ω1) ?_ (by rw[am,bz];omega) e2);unfold oIL;rw[aY (aB (d:=.lst (ds.map Deed.d)) rfl)];rfl
end
section
variable {c:Nat}{S S':Nat->Hd}{d x y:Deed}{a b n:Nat}
theorem jW (c:Nat):∀(p q:List Deed) (S:Nat->Hd),fJ c (p++q) S=((fJ c p S).1++(fJ c q (fJ c p S).2).1,(fJ c q (fJ c p S).2).2)
 |[],q,S=>rfl
 |d::p,q,S=>by
  show((step c S d).1::(fJ c (p++q) (step c S d).2).1,(fJ c (p++q) (step c S d).2).2)=_
  rw[jW c p q];rfl
end
theorem oW:∀ {ds:List D},(∀ d∈ds,f d d=zn true)->kU f ds ds=zn true
 |[],_=>rfl
 |d::ds,h=>by
  show(f d d).bind _=_
  rw[h d av]
  show(kU f ds ds).map _=_
  rw[oW fun d' hd=>h d' (ak _ hd)];rfl
theorem tF:∀ {n:Nat}{d:D},Pl n d->eqD n d d=zn true
 |n,.non,_=>by cases n <;> rfl
 |n,.bl b,_=>by cases n <;> cases b <;> rfl
 |n,.int i,_=>by
  have:eqD n (.int i) (.int i)=zn (i==i):=by cases n <;> rfl
  rw[this];simp
 |n,.str x,_=>by
  rw[iB];simp
 |n+1,.lst ds,h=>by
  show(if ds.length=ds.length then kU (eqD n) ds ds else zn false)=_
  rw[if_pos rfl];exact oW fun d hd=>tF (h.2 d hd)
 |n+1,.tup ds,h=>by
  show(kU (eqD n) ds ds).map (fun k=>k&&ds.length==ds.length)=_
  rw[oW fun d hd=>tF (h.2 d hd)];simp
 |0,.lst _,h=>h.elim
 |0,.tup _,h=>h.elim
 |0,.obj _,h=>h.elim
 |n+1,.obj _,h=>h.elim
 |0,.scr _,h=>h.elim
 |n+1,.scr _,h=>h.elim
theorem Pl.mono:∀ {n m:Nat}{d:D},Pl n d->n<=m->Pl m d
 |_,m,.non,_,_=>by cases m <;> trivial
 |_,m,.bl _,_,_=>by cases m <;> trivial
 |_,m,.int _,_,_=>by cases m <;> trivial
 |_,m,.str _,_,_=>by cases m <;> trivial
 |n+1,m+1,.lst ds,h,hm=>⟨h.1,fun d hd=>Pl.mono (h.2 d hd) (by omega)⟩
 |n+1,m+1,.tup ds,h,hm=>⟨h.1,fun d hd=>Pl.mono (h.2 d hd) (by omega)⟩
 |n+1,0,.lst ds,h,hm=>by omega
 |n+1,0,.tup ds,h,hm=>by omega
 |0,_,.lst _,h,_=>h.elim
 |0,_,.tup _,h,_=>h.elim
 |0,_,.obj _,h,_=>h.elim
 |n+1,_,.obj _,h,_=>h.elim
 |0,_,.scr _,h,_=>h.elim
 |n+1,_,.scr _,h,_=>h.elim
section
variable {ω:Om}{ρ:Rho}{f h:OG D}{d:D}
theorem cO (e:f ρ ω=zn (.ok d,ω)) (h:LI T ω d=zn k):jG T f ρ ω=zn (.ok (.bl k),ω):=by
 unfold jG;rw[aY e];show oR (pu ((LI T ω d).map D.bl) ω)=_;rw[h];rfl
theorem tru_ok (e:f ρ ω=zn (.ok (.bl k),ω)):gU f ρ ω=zn (.ok k,ω):=by
 unfold gU;rw[aY e];rfl
theorem gJ (e:t ρ ω=zn (.ok k,ω)):jF t ρ ω=zn (.ok (!k),ω):=by
 unfold jF;rw[aY e]
theorem xY (e1:t ρ ω=zn (.ok false,ω)) (e2:u ρ ω=zn (.ok false,ω)):oOr t u ρ ω=zn (.ok false,ω):=by
 unfold oOr;rw[aY e1];exact e2
theorem BI (e1:f ρ ω=zn (.ok (.bl b),ω)) (e2:h ρ ω=zn (.ok (.bl b),ω)):dG (o2 (AX 8) f h) ρ ω=zn (.ok false,ω):=cN (gO e1 e2 (by cases b <;> rfl))
theorem vL (e1:f ρ ω=zn (.ok (.int a),ω)) (e2:h ρ ω=zn (.ok (.int b),ω)) (hab:a=b):dG (o2 (AX 8) f h) ρ ω=zn (.ok false,ω):=cN (gO e1 e2 (by
 subst hab;show zn (D.bl (!(a==a)),ω)=_;simp))
theorem oU {ds:List D} (hk:k<ds.length):atI ds (k:Int)=zn ds[k]:=by
 unfold atI ixN;rw[if_pos (j4 k),if_pos (by omega)];show ds[(k:Int).toNat]?=_;rw[da,bi hk]
theorem Ox {k:Nat} (h:ds[k]?=zn d):atI ds (k:Int)=zn d:=by
 obtain⟨hk,e⟩:=bx.mp h;rw[oU hk,e]
theorem fQ (e:f ρ ω=zn (.ok d,ω)) (hd:d=.lst ds∨d=.tup ds):oL dQ (aC f aK) ρ ω=zn (.ok (.int ds.length),ω):=by
 refine dH (aA e aD) ?_;rcases hd with rfl|rfl <;> rfl
theorem Ee {k:Nat} (e:f ρ ω=zn (.ok d,ω)) (e2:h ρ ω=zn (.ok (.int k),ω)) (hd:d=.lst ds∨d=.tup ds) (hk:k<ds.length):zX f h ρ ω=zn (.ok ds[k],ω):=by
 refine aT e e2 ?_;rcases hd with rfl|rfl
 ·exact oU hk
 ·exact oU hk
end
theorem Jk (h:d∈pI s n):∃ k:Nat,k<n/\d=.int (s+k):=by
 unfold pI at h;obtain⟨k,hk,rfl⟩:=ay.mp h;exact⟨k,dn.mp hk,rfl⟩
theorem Lx:cW [F,N,R,zn (.tup [.str x,.tup [.int a,.int b],.int v])] ω=zn (.nx [F,N,R,zn (.tup [.str x,.tup [.int a,.int b],.int v])],ω):=by
 rfl
theorem Bo:∀ {ds:List D}{u:Option D},(∀ d∈ds,fV d)->∃ v,cH (aZ 3) bT cW ds [F,N,zn R,u] ω=zn (.nx [F,N,zn R,v],ω)
 |[],u,_=>⟨u,rfl⟩
 |d::ds,u,h=>by
  obtain⟨x,a,b,w,rfl⟩:=h d av;obtain⟨v,e⟩:=Bo (F:=F) (N:=N) (R:=R) (ω:=ω) (ds:=ds) (u:=zn (.tup [.str x,.tup [.int a,.int b],.int w])) fun d hd=>h d (ak _ hd);refine⟨v,?_⟩;refine(cB rfl rfl (Lx)).trans ?_;exact e
theorem Bm:∀ {ts:List (List D)}{u v:Option D},(∀ t∈ts,∀ d∈t,fV d)->∃ u' v',cH (aZ 2) bT cA (ts.map D.lst) [F,N,u,v] ω=zn (.nx [F,N,u',v'],ω)
 |[],u,v,_=>⟨u,v,rfl⟩
 |t::ts,u,v,h=>by
  obtain⟨w,e1⟩:=Bo (F:=F) (N:=N) (R:=.lst t) (ω:=ω) (ds:=t) (u:=v) (h t av);obtain⟨u',v',e2⟩:=Bm (F:=F) (N:=N) (ω:=ω) (ts:=ts) (u:=zn (.lst t)) (v:=w) fun t' ht=>h t' (ak _ ht);refine⟨u',v',?_⟩;have b2:cA [F,N,zn (.lst t),v] ω=zn (.nx [F,N,zn (.lst t),w],ω):=by
   unfold cA;rw[skip (gJ (k:=true) (tru_ok (cO (aB (d:=.lst t) rfl) rfl)))];refine eV ?_;unfold bJ oIL;rw[bW (x:=(t,bT)) (ω1:=ω) (by rw[aY (aB (d:=.lst t) rfl)];rfl)];exact e1
  refine(cB rfl rfl (b2)).trans ?_;exact e2
theorem Oz {ts:List (List D)} (h:∀ t∈ts,∀ d∈t,fV d) (hc:ts.length=c) (ω:Om):cF [.lst (ts.map D.lst),.int c] ω=zn (.ok (.bl true),ω):=by
 obtain⟨u,v,e⟩:=Bm (F:=zn (.lst (ts.map D.lst))) (N:=zn (.int c)) (ω:=ω) (ts:=ts) (u:=zo) (v:=zo) h;refine aR rfl ?_;unfold gK;show aH _ _ [zn (.lst (ts.map D.lst)),zn (.int c),zo,zo] ω=_;rw[skip (xY (gJ (k:=true) (tru_ok (cO (aB (d:=.lst (ts.map D.lst)) rfl) rfl))) (vL (a:=((ts.map D.lst).length:Nat)) (b:=(c:Int)) (fQ (aB (d:=.lst (ts.map D.lst)) rfl) (.inl rfl)) (aB rfl) (by rw[am,hc])))];rw[bF (eV (by
  unfold bJ oIL;rw[bW (x:=(ts.map D.lst,bT)) (ω1:=ω) (by rw[aY (aB (d:=.lst (ts.map D.lst)) rfl)];rfl)];exact e))]
 rfl
theorem CS {φ:eC}{d:D}{ds:List D}{ω:Om} (hd:d=.lst ds∨d=.tup ds) (hl:ds.length<=1000) (hφ:∀ x∈ds,φ [x,x] ω=zn (.ok (.bl true),ω)):∃ v,sNx (bJ (oIA oE (aC (oL dQ (aC (zV 1) aK)) aK)) (aZ 2) (dN (jF (gU (bG φ (aC (zX (zV 0) (zV 2)) (aC (zX (zV 1) (zV 2)) aK))))) (aS (oP (dC (.bl false)))) bI)) [zn d,zn d,zo] ω=zn (.nx [zn d,zn d,v],ω):=by
 obtain⟨ρ',ω',e,rfl,v,rfl⟩:=AZ (bd:=aZ 2) (chk:=bT) (F:=dN (jF (gU (bG φ (aC (zX (zV 0) (zV 2)) (aC (zX (zV 1) (zV 2)) aK))))) (aS (oP (dC (.bl false)))) bI) (fun(_:Unit) ρ ω'=>ω'=ω/\∃ v,ρ=[zn d,zn d,v]) (fun _ _=>()) (fun _ _ _ _=>rfl) (ds:=pI 0 ds.length) (a:=()) (ρ:=[zn d,zn d,zo]) (ω:=ω) ⟨rfl,zo,rfl⟩ fun x hx _ ρ ω1 hR=>by
  obtain⟨rfl,v,rfl⟩:=hR;obtain⟨k,hk,rfl⟩:=Jk hx;rw[Int.zero_add];refine⟨[zn d,zn d,zn (.int k)],[zn d,zn d,zn (.int k)],ω1,rfl,?_,rfl,zn (.int k),rfl⟩;rw[nE (ω1:=ω1) (by
   have:=gJ (tru_ok (k:=true) (aP (φ:=φ) (ρ:=[zn d,zn d,zn (.int k)]) (aA (Ee (f:=zV 0) (h:=zV 2) (k:=k) (aB rfl) (aB rfl) hd hk) (aA (Ee (f:=zV 1) (h:=zV 2) (k:=k) (aB rfl) (aB rfl) hd hk) aD)) (hφ _ (gw hk))))
   exact this)]
  rfl
 refine⟨v,eV ?_⟩;unfold bJ;rw[bW (qG (c:=ds.length) (fQ (aB rfl) hd) hl)];exact e
theorem Jd:∀ {n:Nat}{d:D},Pl n d->∀ ω,dA (n+1) [d,d] ω=zn (.ok (.bl true),ω)
 |n,.non,_,ω=>rfl
 |n,.bl true,_,ω=>rfl
 |n,.bl false,_,ω=>rfl
 |n,.int i,_,ω=>by
  have e:dA (n+1) [.int i,.int i] ω=zn (.ok (.bl (i==i)),ω):=rfl;rw[e];simp
 |n,.str x,_,ω=>by
  have e:dA (n+1) [.str x,.str x] ω=zn (.ok (.bl (x==x)),ω):=rfl;rw[e];simp
 |n+1,.lst ds,h,ω=>by
  obtain⟨v,lp⟩:=CS (φ:=dA (n+1)) (d:=.lst ds) (ds:=ds) (ω:=ω) (.inl rfl) h.1 fun x hx=>Jd (h.2 x hx) ω;have v0:zV 0 [zn (.lst ds),zn (.lst ds),zo] ω=zn (.ok (.lst ds),ω):=aB rfl;have v1:zV 1 [zn (.lst ds),zn (.lst ds),zo] ω=zn (.ok (.lst ds),ω):=aB rfl;refine aR rfl ?_;unfold mE;show aH _ _ [zn (.lst ds),zn (.lst ds),zo] ω=_;rw[skip (cN (fC v1 aQ rfl)),skip (tru_ok (cO v1 rfl)),skip (tru_ok (cO v1 rfl)),skip (tru_ok (cO v1 rfl)),skip (tru_ok (cO v1 rfl))];rw[skip (BI (b:=false) (cO v1 rfl) (cO v0 rfl))];rw[skip (xY (BI (b:=true) (cO v1 rfl) (cO v0 rfl)) (gJ (k:=true) (tru_ok (by unfold BG;rw[aY v1];rfl))))];rw[skip (vL (fQ v0 (.inl rfl)) (fQ v1 (.inl rfl)) rfl)];rw[bF lp];rfl
 |n+1,.tup ds,h,ω=>by
  obtain⟨v,lp⟩:=CS (φ:=dA (n+1)) (d:=.tup ds) (ds:=ds) (ω:=ω) (.inr rfl) h.1 fun x hx=>Jd (h.2 x hx) ω;have v0:zV 0 [zn (.tup ds),zn (.tup ds),zo] ω=zn (.ok (.tup ds),ω):=aB rfl;have v1:zV 1 [zn (.tup ds),zn (.tup ds),zo] ω=zn (.ok (.tup ds),ω):=aB rfl;refine aR rfl ?_;unfold mE;show aH _ _ [zn (.tup ds),zn (.tup ds),zo] ω=_;rw[skip (cN (fC v1 aQ rfl)),skip (tru_ok (cO v1 rfl)),skip (tru_ok (cO v1 rfl)),skip (tru_ok (cO v1 rfl)),skip (tru_ok (cO v1 rfl))];rw[skip (BI (b:=true) (cO v1 rfl) (cO v0 rfl))];rw[skip (xY (BI (b:=false) (cO v1 rfl) (cO v0 rfl)) (gJ (k:=true) (tru_ok (by unfold BG;rw[aY v1];rfl))))];rw[skip (vL (fQ v0 (.inr rfl)) (fQ v1 (.inr rfl)) rfl)];rw[bF lp];rfl
 |0,.lst _,h,_=>h.elim
 |0,.tup _,h,_=>h.elim
 |0,.obj _,h,_=>h.elim
 |n+1,.obj _,h,_=>h.elim
 |0,.scr _,h,_=>h.elim
 |n+1,.scr _,h,_=>h.elim
section
variable {ω:Om}{ρ:Rho}{f h:OG D}{a b:Int}
theorem rE (e1:f ρ ω=zn (.ok (.int a),ω)) (e2:h ρ ω=zn (.ok (.int b),ω)):o2 (lf wD) f h ρ ω=zn (.ok (.int (a+b)),ω):=fC e1 e2 rfl
theorem Fa (e1:f ρ ω=zn (.ok (.int a),ω)) (e2:h ρ ω=zn (.ok (.int b),ω)):o2 (lf gSub) f h ρ ω=zn (.ok (.int (a-b)),ω):=fC e1 e2 rfl
theorem Fb (e1:f ρ ω=zn (.ok (.int a),ω)) (e2:h ρ ω=zn (.ok (.int b),ω)) (hb: -1000000000000000000<b/\b<1000000000000000000):o2 (lf gM) f h ρ ω=zn (.ok (.int (a*b)),ω):=fC e1 e2 (NW hb)
theorem wG (e1:f ρ ω=zn (.ok (.int a),ω)) (e2:h ρ ω=zn (.ok (.int b),ω)) (hb:0<b):o2 (lf cC) f h ρ ω=zn (.ok (.int (a % b)),ω):=fC e1 e2 (NX hb)
theorem lC {p q:Int} (e1:f ρ ω=zn (.ok (.int a),ω)) (e2:h ρ ω=zn (.ok (.int q),ω)) (hp:0<p) (hq:0<q):o2 (lf cC) (o2 (lf cC) (o2 (lf gM) f (zI 48271)) (zI p)) h ρ ω=zn (.ok (.int (a*48271 % p % q)),ω):=wG (wG (Fb e1 aQ (by decide)) aQ hp) e2 hq
theorem yB {x q:Int} (hq:0<q):0<=x % q/\x % q<q:=⟨Int.emod_nonneg x (by omega),Int.emod_lt_of_pos x hq⟩
theorem Ol {z:Int} (e1:f ρ ω=zn (.ok (.int a),ω)):dG (o2 (lL 8) f (zI z)) ρ ω=zn (.ok (a==z),ω):=cN (gO e1 aQ rfl)
theorem lV {z:Int} (e1:f ρ ω=zn (.ok (.int a),ω)):dG (o2 (lf gLt) f (zI z)) ρ ω=zn (.ok (decide (a<z)),ω):=cN (fC e1 aQ rfl)
theorem Li {z:Int} (e1:f ρ ω=zn (.ok (.int a),ω)):dG (o2 (lf gGt) f (zI z)) ρ ω=zn (.ok (decide (z<a)),ω):=cN (fC e1 aQ rfl)
theorem Ed {xs:List Int} (e1:f ρ ω=zn (.ok (.lst (iv xs)),ω)) (e2:h ρ ω=zn (.ok (.int a),ω)) (h0:0<=a) (h1:a<xs.length):zX f h ρ ω=zn (.ok (.int (xs.getD a.toNat 0)),ω):=aT e1 e2 (RowV.ix (ω:=ω) (d:=.lst (iv xs)) rfl h0 h1)
theorem FL {i:Nat}{d:D}{ω1:Om} (e:f ρ ω=zn (.ok d,ω1)):aU i f ρ ω=zn (.nx (ρ.set i (zn d)),ω1):=by
 unfold aU;rw[bW e]
theorem ifI {t:OG Bool}{F:OS}{i:Nat}{a0 a1:Int}{k:Bool} (ht:t ρ ω=zn (.ok k,ω)) (hF:F ρ ω=zn (.nx (ρ.set i (zn (.int a1))),ω)) (h0:ρ.set i (zn (.int a0))=ρ):∃ a:Int,dN t F bI ρ ω=zn (.nx (ρ.set i (zn (.int a))),ω):=by
 cases k with
 |true=>exact⟨a1,by rw[xP ht];exact hF⟩
 |false=>exact⟨a0,by rw[nE ht,h0];rfl⟩
theorem OB {t u:OG Bool}{k l:Bool} (e1:t ρ ω=zn (.ok k,ω)) (e2:u ρ ω=zn (.ok l,ω)):IJ t u ρ ω=zn (.ok (k&&l),ω):=by
 unfold IJ;rw[aY e1];cases k with
 |true=>exact e2
 |false=>rfl
end
theorem xF {j:Int}{c:Nat} (h0:0<=j) (h4:j<4) (c1:1<=c) (c8:c<=8) (ω:Om):∃ x,eQ [.int j,.int c] ω=zn (.ok (.str x),ω):=by
 have hj:j=0∨j=1∨j=2∨j=3:=by omega
 have hc:c=1∨c=2∨c=3∨c=4∨c=5∨c=6∨c=7∨c=8:=by omega
 rcases hj with rfl|rfl|rfl|rfl <;> rcases hc with rfl|rfl|rfl|rfl|rfl|rfl|rfl|rfl <;> exact⟨_,rfl⟩
theorem II (c:Nat) (ω:Om):dY [.int c] ω=zn (.ok (.lst (iv [-1,c,-2,0-c,100000000000000000000,0-100000000000000000000])),ω):=rfl
theorem Cg (cell:Int) (k c:Nat) (c2:1<=c) (c8:c<=8) (ω:Om):∃ d:Deed,fZ [.int cell,.int k,.int c] ω=zn (.ok d.d,ω):=by
 have cpos:(0:Int)<c:=by omega
 obtain⟨way,hway⟩:∃ w,w=cell*48271 % 1009 % 16:=⟨_,rfl⟩;obtain⟨one,hone⟩:∃ w,w=(cell+k)*48271 % 1013 % c:=⟨_,rfl⟩;have q1:∃ a:Int,dN (IJ (dG (o2 (lf gGt) (zV 2) (zI 1))) (dG (o2 (lf gGt) (o2 (lf cC) (o2 (lf cC) (o2 (lf gM) (zV 0) (zI 48271)) (zI 1019)) (zI 19)) (zI 0)))) (aU 5 (o2 (lf cC) (o2 (lf wD) (o2 (lf wD) (zV 4) (zI 1)) (o2 (lf cC) (o2 (lf cC) (o2 (lf gM) (zV 0) (zI 48271)) (zI 1021)) (o2 (lf gSub) (zV 2) (zI 1)))) (zV 2))) bI [zn (.int cell),zn (.int k),zn (.int c),zn (.int way),zn (.int one),zn (.int one),zo,zo,zo] ω=zn (.nx [zn (.int cell),zn (.int k),zn (.int c),zn (.int way),zn (.int one),zn (.int a),zo,zo,zo],ω):=by
  by_cases c1:c=1
  ·refine⟨one,?_⟩;rw[nE (ω1:=ω) (by
    unfold IJ;rw[aY (Li (a:=c) (aB rfl)),decide_eq_false (by omega)];rfl)]
   rfl
  ·have cpos1:(0:Int)<c-1:=by omega
   exact ifI (ω:=ω) (i:=5) (ρ:=[zn (.int cell),zn (.int k),zn (.int c),zn (.int way),zn (.int one),zn (.int one),zo,zo,zo]) (a0:=one)
    (t:=IJ (dG (o2 (lf gGt) (zV 2) (zI 1))) (dG (o2 (lf gGt) (o2 (lf cC) (o2 (lf cC) (o2 (lf gM) (zV 0) (zI 48271)) (zI 1019)) (zI 19)) (zI 0))))
    (F:=aU 5 (o2 (lf cC) (o2 (lf wD) (o2 (lf wD) (zV 4) (zI 1)) (o2 (lf cC) (o2 (lf cC) (o2 (lf gM) (zV 0) (zI 48271)) (zI 1021)) (o2 (lf gSub) (zV 2) (zI 1)))) (zV 2)))
    (OB (Li (a:=c) (aB rfl)) (Li (lC (a:=cell) (aB rfl) aQ (by decide) (by decide))))
    (FL (wG (b:=c) (rE (rE (a:=one) (aB rfl) aQ) (lC (a:=cell) (aB rfl) (Fa (a:=c) (aB rfl) aQ) (by decide) cpos1)) (aB rfl) cpos)) rfl
 obtain⟨other,e1⟩:=q1;have r4:=yB (x:=cell*48271 % 1031) (q:=4) (by decide);obtain⟨x,ex⟩:=xF r4.1 r4.2 (by omega:1<=c) c8 ω;obtain⟨vs,hvs⟩:∃ vs:List Int,vs=[cell*48271 % 1033 % 9-4,0-k,100000000000000000000+k]:=⟨_,rfl⟩;have r3:=yB (x:=cell*48271 % 1039) (q:=3) (by decide);obtain⟨v,hv⟩:∃ v,v=vs.getD (cell*48271 % 1039 % 3).toNat 0:=⟨_,rfl⟩;have r6:=yB (x:=cell*48271 % 1051) (q:=6) (by decide);have r6':=yB (x:=cell*48271 % 1063) (q:=6) (by decide);have q2:=ifI (ω:=ω) (i:=4) (ρ:=[zn (.int cell),zn (.int k),zn (.int c),zn (.int way),zn (.int one),zn (.int other),zn (.str x),zn (.lst (iv vs)),zn (.int v)]) (a0:=one)
  (t:=dG (o2 (lL 8) (o2 (lf cC) (o2 (lf cC) (o2 (lf gM) (zV 0) (zI 48271)) (zI 1049)) (zI 31)) (zI 30)))
  (F:=aU 4 (zX (bG dY (aC (zV 2) aK)) (o2 (lf cC) (o2 (lf cC) (o2 (lf gM) (zV 0) (zI 48271)) (zI 1051)) (zI 6))))
  (Ol (lC (a:=cell) (aB rfl) aQ (by decide) (by decide)))
  (FL (Ed (aP (aA (aB rfl) aD) (II c ω)) (lC (a:=cell) (aB rfl) aQ (by decide) (by decide)) r6.1 r6.2)) rfl
 obtain⟨one',e2⟩:=q2;have q3:=ifI (ω:=ω) (i:=5) (ρ:=[zn (.int cell),zn (.int k),zn (.int c),zn (.int way),zn (.int one'),zn (.int other),zn (.str x),zn (.lst (iv vs)),zn (.int v)]) (a0:=other)
  (t:=dG (o2 (lL 8) (o2 (lf cC) (o2 (lf cC) (o2 (lf gM) (zV 0) (zI 48271)) (zI 1061)) (zI 31)) (zI 30)))
  (F:=aU 5 (zX (bG dY (aC (zV 2) aK)) (o2 (lf cC) (o2 (lf cC) (o2 (lf gM) (zV 0) (zI 48271)) (zI 1063)) (zI 6))))
  (Ol (lC (a:=cell) (aB rfl) aQ (by decide) (by decide)))
  (FL (Ed (aP (aA (aB rfl) aD) (II c ω)) (lC (a:=cell) (aB rfl) aQ (by decide) (by decide)) r6'.1 r6'.2)) rfl
 obtain⟨other',e3⟩:=q3;have main:∀ d:Deed,∀ G:OS,G [zn (.int cell),zn (.int k),zn (.int c),zn (.int way),zn (.int one'),zn (.int other'),zn (.str x),zn (.lst (iv vs)),zn (.int v)] ω=zn (.rt d.d,ω)->
   aH (aU 3 (o2 (lf cC) (o2 (lf cC) (o2 (lf gM) (zV 0) (zI 48271)) (zI 1009)) (zI 16))) (aH (aU 4 (o2 (lf cC) (o2 (lf cC) (o2 (lf gM) (o2 (lf wD) (zV 0) (zV 1)) (zI 48271)) (zI 1013)) (zV 2))) (aH (aU 5 (zV 4)) (aH (dN (IJ (dG (o2 (lf gGt) (zV 2) (zI 1))) (dG (o2 (lf gGt) (o2 (lf cC) (o2 (lf cC) (o2 (lf gM) (zV 0) (zI 48271)) (zI 1019)) (zI 19)) (zI 0)))) (aU 5 (o2 (lf cC) (o2 (lf wD) (o2 (lf wD) (zV 4) (zI 1)) (o2 (lf cC) (o2 (lf cC) (o2 (lf gM) (zV 0) (zI 48271)) (zI 1021)) (o2 (lf gSub) (zV 2) (zI 1)))) (zV 2))) bI) (aH (aU 6 (bG eQ (aC (o2 (lf cC) (o2 (lf cC) (o2 (lf gM) (zV 0) (zI 48271)) (zI 1031)) (zI 4)) (aC (zV 2) aK)))) (aH (aU 7 (zL (aC (o2 (lf gSub) (o2 (lf cC) (o2 (lf cC) (o2 (lf gM) (zV 0) (zI 48271)) (zI 1033)) (zI 9)) (zI 4)) (aC (o2 (lf gSub) (zI 0) (zV 1)) (aC (o2 (lf wD) (zI 100000000000000000000) (zV 1)) aK))))) (aH (aU 8 (zX (zV 7) (o2 (lf cC) (o2 (lf cC) (o2 (lf gM) (zV 0) (zI 48271)) (zI 1039)) (zI 3)))) (aH (dN (dG (o2 (lL 8) (o2 (lf cC) (o2 (lf cC) (o2 (lf gM) (zV 0) (zI 48271)) (zI 1049)) (zI 31)) (zI 30))) (aU 4 (zX (bG dY (aC (zV 2) aK)) (o2 (lf cC) (o2 (lf cC) (o2 (lf gM) (zV 0) (zI 48271)) (zI 1051)) (zI 6)))) bI) (aH (dN (dG (o2 (lL 8) (o2 (lf cC) (o2 (lf cC) (o2 (lf gM) (zV 0) (zI 48271)) (zI 1061)) (zI 31)) (zI 30))) (aU 5 (zX (bG dY (aC (zV 2) aK)) (o2 (lf cC) (o2 (lf cC) (o2 (lf gM) (zV 0) (zI 48271)) (zI 1063)) (zI 6)))) bI) G)))))))) (cE kW [.int cell,.int k,.int c]) ω=zn (.rt d.d,ω):=by
  intro d G hG;refine(aN (lC (a:=cell) (aB rfl) aQ (by decide) (by decide))).trans ?_;rw[<- hway];refine(aN (wG (b:=c) (wG (Fb (rE (a:=cell) (b:=k) (aB rfl) (aB rfl)) aQ (by decide)) aQ (by decide)) (aB rfl) cpos)).trans ?_;rw[<- hone];refine(aN (d:=.int one) (aB rfl)).trans ?_;refine(bF e1).trans ?_;refine(aN (d:=.str x) (ω1:=ω) (aP (aA (lC (a:=cell) (aB rfl) aQ (by decide) (by decide)) (aA (aB (d:=.int c) rfl) aD)) ex)).trans ?_;refine(aN (d:=.lst (iv vs)) (ω1:=ω) (dH (aA (Fa (lC (a:=cell) (aB rfl) aQ (by decide) (by decide)) aQ) (aA (Fa (b:=k) aQ (aB rfl)) (aA (rE (b:=k) aQ (aB rfl)) aD))) (by rw[hvs];rfl))).trans ?_;refine(aN (Ed (xs:=vs) (aB rfl) (lC (a:=cell) (aB rfl) aQ (by decide) (by decide)) r3.1 (by rw[hvs];exact r3.2))).trans ?_;rw[<- hv];refine(bF e2).trans ?_;refine(bF e3).trans ?_;exact hG
 have vw:∀ ω,zV 3 [zn (.int cell),zn (.int k),zn (.int c),zn (.int way),zn (.int one'),zn (.int other'),zn (.str x),zn (.lst (iv vs)),zn (.int v)] ω=zn (.ok (.int way),ω):=fun ω=>aB rfl
 by_cases h5:way<5
 ·refine⟨.put one' x v,aR rfl (main _ _ ?_)⟩;exact KH (r:=.ok _) (by rw[lV (vw ω),decide_eq_true h5]) rfl
 by_cases h7:way<7
 ·refine⟨.take one' x,aR rfl (main _ _ ?_)⟩;rw[skip (by rw[lV (vw ω),decide_eq_false h5])];exact KH (r:=.ok _) (by rw[lV (vw ω),decide_eq_true h7]) rfl
 by_cases h9:way<9
 ·refine⟨.change one' x v,aR rfl (main _ _ ?_)⟩;rw[skip (by rw[lV (vw ω),decide_eq_false h5]),skip (by rw[lV (vw ω),decide_eq_false h7])];exact KH (r:=.ok _) (by rw[lV (vw ω),decide_eq_true h9]) rfl
 have gt:∀ q:Bool,decide (11<way)=q->o2 (lf gGt) (zV 3) (zI 11) [zn (.int cell),zn (.int k),zn (.int c),zn (.int way),zn (.int one'),zn (.int other'),zn (.str x),zn (.lst (iv vs)),zn (.int v)] ω=zn (.ok (.bl q),ω):=fun q hq=>by
  rw[<- hq];exact fC (vw ω) aQ rfl
 by_cases h11:11<way
 ·refine⟨.meet one' other',aR rfl (main _ _ ?_)⟩;rw[skip (by rw[lV (vw ω),decide_eq_false h5]),skip (by rw[lV (vw ω),decide_eq_false h7]),skip (by rw[lV (vw ω),decide_eq_false h9])];refine bC (dH (aA (a:=.str "meet") (aT (a:=.lst [.str "tell",.str "meet"]) (b:=.int 1) rfl (dH (aA (gt true (decide_eq_true h11)) aD) rfl) rfl) (aA (aB rfl) (aA (aB rfl) aD))) rfl)
 ·refine⟨.tell one' other',aR rfl (main _ _ ?_)⟩;rw[skip (by rw[lV (vw ω),decide_eq_false h5]),skip (by rw[lV (vw ω),decide_eq_false h7]),skip (by rw[lV (vw ω),decide_eq_false h9])];refine bC (dH (aA (a:=.str "tell") (aT (a:=.lst [.str "tell",.str "meet"]) (b:=.int 0) rfl (dH (aA (gt false (decide_eq_false h11)) aD) rfl) rfl) (aA (aB rfl) (aA (aB rfl) aD))) rfl)
theorem kK (e1:fo ρ ω=zn (.ok (.obj n),ω1)) (e2:ω1[n]?=zn (.ml xs)) (e3:fl ρ ω1=zn (.ok ds,ω2)) (e4:g ω2 (.obj n) ds=zn (r,ω3)):gW g fo fl ρ ω=zn (.ok r,ω3):=by
 unfold gW;rw[aY e1]
 have:BP ω1 (.obj n)=true:=by simp only[BP,cellOf,e2]
 show(if BP ω1 (.obj n)=true then _ else zo)=_
 rw[if_pos this,aY e3];show oR (g ω2 (.obj n) ds)=_;rw[e4];rfl
theorem rF {c n:Nat} (c2:1<=c) (c8:c<=8) (hx:xs.length<=1000):∀(m s:Nat) (pre:List Deed) (v:Option D) (ω:Om),ω[n]?=zn (.ml (pre.map Deed.d))->s+m=xs.length->pre.length=s->∃ v' post,post.length=m/\cH (aZ 3) bT dS (pI s m) [zn (.lst (iv xs)),zn (.int c),zn (.obj n),v] ω=zn (.nx [zn (.lst (iv xs)),zn (.int c),zn (.obj n),v'],ω.set n (.ml ((pre++post).map Deed.d)))
 |0,s,pre,v,ω,ht,_,_=>⟨v,[],rfl,by
   rw[dr,iJ ht];rfl⟩
 |m+1,s,pre,v,ω,ht,hs,hp=>by
  obtain⟨d,ed⟩:=Cg (xs.getD (s:Int).toNat 0+7*s) s c c2 c8 ω;have b1:dS [zn (.lst (iv xs)),zn (.int c),zn (.obj n),zn (.int s)] ω=zn (.nx [zn (.lst (iv xs)),zn (.int c),zn (.obj n),zn (.int s)],ω.set n (.ml ((pre++[d]).map Deed.d))):=by
   unfold dS bV;rw[bW (kK (r:=.non) (ω3:=ω.set n (.ml ((pre++[d]).map Deed.d))) (aB (d:=.obj n) rfl) ht (aA (aP (aA (rE (Ed (xs:=xs) (a:=s) (aB rfl) (aB rfl) (by omega) (by omega)) (Fb (b:=s) aQ (aB rfl) ⟨by omega,by omega⟩)) (aA (aB (d:=.int s) rfl) (aA (aB (d:=.int c) rfl) aD))) ed) aD) (by
    simp only[pQ,ht];rw[if_pos (by rw[am,bz];omega),b4];rfl))]
  obtain⟨v',post,hl,e2⟩:=rF c2 c8 hx m (s+1) (pre++[d]) (zn (.int s)) (ω.set n (.ml ((pre++[d]).map Deed.d))) (bQ ht) (by omega) (by simp[hp]);refine⟨v',d::post,by simp[hl],?_⟩;rw[jX];refine(cB rfl rfl (b1)).trans ?_;rw[oz,fz] at e2;exact e2
theorem Bf {c:Nat} (c2:1<=c) (c8:c<=8) (hx:xs.length<=1000) (ω:Om):∃ ds:List Deed,ds.length=xs.length/\fY [.lst (iv xs),.int c] ω=zn (.ok (.obj ω.length),ω++[.ml (ds.map Deed.d)]):=by
 have h0:(ω++[Ob.ml []])[ω.length]?=zn (.ml (([]:List Deed).map Deed.d)):=by simp
 obtain⟨v',post,hl,e⟩:=rF c2 c8 hx xs.length 0 [] zo (ω++[Ob.ml []]) h0 (by omega) rfl;refine⟨post,hl,aR rfl ?_⟩;unfold nZ;rw[aN (d:=.obj ω.length) (ω1:=ω++[.ml []]) rfl];rw[bF (eV (by
  unfold bJ;rw[bW (qG (c:=xs.length) (by
   have:=fQ (f:=zV 0) (ρ:=(cE pE [.lst (iv xs),.int c]).set 2 (zn (.obj ω.length))) (ω:=ω++[.ml []]) (d:=.lst (iv xs)) (ds:=iv xs) (aB rfl) (.inl rfl)
   rw[show(iv xs).length=xs.length from by unfold iv;simp] at this;exact this) hx)]
  exact e))]
 refine(bC (aB (d:=.obj ω.length) rfl)).trans ?_;simp
theorem FK (ns:List Int) (k:Nat) (ω:Om):∃ x:Int,kE [.scr (ns.map D.int),.int k] ω=zn (.ok (.int x),ω):=by
 have v0:∀ ω:Om,zV 0 (cE mJ [.scr (ns.map D.int),.int k]) ω=zn (.ok (.scr (ns.map D.int)),ω):=fun ω=>rfl;have v1:∀ ω:Om,zV 1 (cE mJ [.scr (ns.map D.int),.int k]) ω=zn (.ok (.int k),ω):=fun ω=>rfl;have t:∀ q:Bool,decide ((k:Int)<((ns.map D.int).length:Int))=q->dG (o2 (lf gLt) (zV 1) (oL dQ (aC (zV 0) aK))) (cE mJ [.scr (ns.map D.int),.int k]) ω=zn (.ok q,ω):=fun q hq=>
  cN (fC (v1 ω) (dH (aA (v0 ω) aD) (show _=zn (D.int ((ns.map D.int).length),ω) from rfl)) (show zn (D.bl (decide ((k:Int)<((ns.map D.int).length:Int))))=_ by rw[hq]))
 by_cases h:k<ns.length
 ·refine⟨ns[k],aR rfl ?_⟩;have hd:decide ((k:Int)<((ns.map D.int).length:Int))=true:=by simp[h]
  unfold sS aH;rw[xP (t true hd),bC (gO (v0 ω) (v1 ω) (show pu (atI (ns.map D.int) (k:Int)) ω=zn (.int ns[k],ω) from ?_))];have e1:ixN (ns.map D.int).length (k:Int)=zn k:=by
   unfold ixN;have hk:(k:Int)<((ns.map D.int).length:Int):=by simpa using hd
   rw[if_pos (j4 k),if_pos hk];simp
  unfold atI;rw[e1];simp[pu,h]
 ·refine⟨0,aR rfl ?_⟩;have hd:decide ((k:Int)<((ns.map D.int).length:Int))=false:=by simp;omega
  unfold sS aH;rw[nE (t false hd)];rfl
theorem Pl.lst (hl:ds.length<=1000) (h:∀ d∈ds,Pl n d):Pl (n+1) (.lst ds):=⟨hl,h⟩
theorem Pl.deed (d:Deed):Pl 1 d.d:=by
 have two:∀(x:Str) (l:List D),l.length<=3->(∀ y∈l,Pl 0 y)->Pl 1 (.tup (.str x::l)):=fun x l h1 h2=>⟨by rw[bv];omega,fun y hy=>by
  rcases aj.mp hy with rfl|hy
  ·exact Pl.str _ _
  ·exact h2 y hy⟩
 cases d with
 |put a x v=>
  refine two _ _ (by simp) fun y hy=> ?_;simp only[aj,cq,or_false] at hy;rcases hy with rfl|rfl|rfl <;> trivial
 |change a x v=>
  refine two _ _ (by simp) fun y hy=> ?_;simp only[aj,cq,or_false] at hy;rcases hy with rfl|rfl|rfl <;> trivial
 |take a x=>
  refine two _ _ (by simp) fun y hy=> ?_;simp only[aj,cq,or_false] at hy;rcases hy with rfl|rfl <;> trivial
 |tell a b=>
  refine two _ _ (by simp) fun y hy=> ?_;simp only[aj,cq,or_false] at hy;rcases hy with rfl|rfl <;> trivial
 |meet a b=>
  refine two _ _ (by simp) fun y hy=> ?_;simp only[aj,cq,or_false] at hy;rcases hy with rfl|rfl <;> trivial
theorem Pl.deeds {ds:List Deed} (hl:ds.length<=1000):Pl 2 (.lst (ds.map Deed.d)):=Pl.lst (by rw[am];exact hl) fun d hd=>by
 obtain⟨x,_,rfl⟩:=ay.mp hd;exact Pl.deed x
def DeedsAt (ω:Om) (d:D) (ds:List Deed):Prop:=dX ω d=zn (ds.map Deed.d)
theorem DeedsAt.keep (h:DeedsAt ω d ds) (K:Keep [] ω ω'):DeedsAt ω' d ds:=by
 rcases jV h with rfl|⟨n,rfl,e⟩
 ·rfl
 ·have e':=(K.2 n (iW e) (by simp)).trans e;unfold DeedsAt dX;simp only[e']
theorem DeedsAt.list (h:DeedsAt ω d ds) (e:f ρ ω=zn (.ok d,ω)):oL gN (aC f aK) ρ ω=zn (.ok (.lst (ds.map Deed.d)),ω):=by
 refine dH (aA e aD) ?_
 have:bU ω d=zn (ds.map Deed.d):=by
  rcases jV h with rfl|⟨n,rfl,e2⟩
  ·rfl
  ·simp only[bU,dX,e2]
 show(bU ω d).map _=_
 rw[this];rfl
theorem lR {c:Nat} (c0:0<c) (c8:c<=8) (hl:ds.length<64) (h:DeedsAt ω d ds):∃ ω',dB [.int c,d] ω=zn (.ok (.tup [nG c (iX c ds),Qv c (iX c ds),Qx c (iX c ds),Qw c (iX c ds)]),ω')/\Keep [] ω ω'/\∃ own,HInv c own (iX c ds)/\tot c own<64:=by
 obtain⟨ω',e1,K,I⟩:=Io c0 c8 hl ω;refine⟨ω',?_,K,I⟩;refine aR rfl ?_;unfold gY;rw[aN (h.list (aB rfl))];rw[aN (aP (aA (aB (d:=.int c) rfl) (aA (aB (d:=.lst (ds.map Deed.d)) rfl) aD)) e1)];rw[skip (xY (cN (gO (aB (d:=.lst (ds.map Deed.d)) rfl) (aB (d:=d) rfl) (by
  have hd:=h.keep K
  have:kP ω' d=.lst (ds.map Deed.d):=by unfold kP;rw[hd]
  show pu ((eqD 8 (.lst (ds.map Deed.d)) (kP ω' d)).map fun k=>D.bl (!k)) ω'=_;rw[this,tF ((Pl.deeds (by omega)).mono (by decide))];rfl))) (xY (gJ (k:=true) (tru_ok (cO (aB rfl) rfl))) (vL (b:=4) (fQ (aB rfl) (.inr rfl)) aQ rfl)))]
 exact bC (aB rfl)
structure Rec where
 a:Nat
 b:Nat
 put:Option (Str×Int)
 outs:List (List Key)
noncomputable def Rec.key (r:Rec):List Key:=eJ r.a r.b
noncomputable def Rec.ent (r:Rec):Option D:=r.put.map fun p=>.tup [.str p.1,mkD r.a r.b,.int p.2]
noncomputable def upF {α:Type} (f:Nat->α) (i:Nat) (x:α):Nat->α:=fun j=>if j=i then x else f j
theorem cD {x:α}:upF f i x i=x:=if_pos rfl
theorem cI {x:α} (h:j≠i):upF f i x j=f j:=if_neg h
section
variable {B ω:Om}{c h dd oo kk:Nat}{ks:Nat->Nat}{rs:List Rec}{kn:Nat->Nat->List Int}{ρ:Rho}{f:OG D}
end
noncomputable def cG (row:List Int) (r:Rec):Bool:=decide ((r.b:Int)<=row.getD r.a 0)
noncomputable def NS (rs:List Rec) (row:List Int):List (List Key):=(rs.filter (cG row)).flatMap (·.outs)
noncomputable def CO (rs:List Rec) (row:List Int):List D:=(rs.filter (cG row)).filterMap Rec.ent
noncomputable def Hf (q:List Key) (l:List (List Key)):Bool:=l.any fun k=>decide (k=q)
theorem memK_iff:Hf q l=true↔q∈l:=by
 unfold Hf;rw[qd];constructor
 ·rintro⟨k,hk,e⟩
  rw[<- of_decide_eq_true e];exact hk
 ·exact fun h=>⟨q,h,decide_eq_true rfl⟩
noncomputable def iV (rs:List Rec) (row:List Int):List D:=(CO rs row).filter fun d=> !Hf (aW d) (NS rs row)
structure Lz (c:Nat) (own:Nat->Nat) (rs:List Rec):Prop where
 keys:(rs.map Rec.key).Nodup
 inn:∀ r∈rs,r.a<c/\1<=r.b/\r.b<=own r.a
 outs:∀ r∈rs,r.outs.length<64/\∀ q∈r.outs,KeyIn c own q
theorem Fc (a b a' b':Int):eqD 7 (.tup [.int a,.int b]) (.tup [.int a',.int b'])=zn (decide (a=a'/\b=b')):=by
 have:eqD 7 (.tup [.int a,.int b]) (.tup [.int a',.int b'])=zn ((a==a'&&(b==b'&&true))&&true):=rfl
 rw[this]
 congr 1
 by_cases h:a=a' <;> by_cases h2:b=b' <;> simp[h,h2]
theorem AO (a b:Nat):∀(l:List (List Key)),(∀ q∈l,∃ x y:Nat,q=eJ x y)->inO (fun d=>eqD 7 d (mkD a b)) (l.map bE)=zn (Hf (eJ a b) l)
 |[],_=>rfl
 |q::l,h=>by
  obtain⟨x,y,rfl⟩:=h q av;have ih:=AO a b l fun q hq=>h q (ak _ hq)
  show(eqD 7 (mkD x y) (mkD a b)).bind (fun k=>(inO (fun d=>eqD 7 d (mkD a b)) (l.map bE)).map fun c=>k||c)=_
  rw[ih];unfold mkD;rw[Fc];show zn (decide ((x:Int)=a/\(y:Int)=b)||Hf (eJ a b) l)=zn (decide (eJ x y=eJ a b)||Hf (eJ a b) l)
  have:(eJ x y=eJ a b)↔((x:Int)=a/\(y:Int)=b):=by
   unfold eJ;simp
  rw[decide_eq_decide.mpr this]
theorem KeyIn.mk (h:KeyIn c own q):∃ x y:Nat,q=eJ x y:=by
 obtain⟨a,b,_,_,_,e⟩:=h;exact⟨a,b,e⟩
section
variable {B ω:Om}{c h dd oo kk:Nat}{ks:Nat->Nat}{rs:List Rec}{kn:Nat->Nat->List Int}{own:Nat->Nat}
end
section
variable {B ω:Om}{c h dd oo kk:Nat}{ks:Nat->Nat}{rs:List Rec}{kn:Nat->Nat->List Int}{own:Nat->Nat}
end
noncomputable def mo (kn:Nat->Nat->List Int) (one other k j:Nat):Int:=if k=other then mx (mx ((kn one k).getD j 0) ((kn other k).getD j 0)) ((kn one one).getD j 0) else mx ((kn one k).getD j 0) ((kn other k).getD j 0)
noncomputable def moR (c:Nat) (kn:Nat->Nat->List Int) (one other k:Nat):List Int:=(aw c).map (mo kn one other k)
section
variable {B ω0:Om}{c h dd oo kk:Nat}{ks:Nat->Nat}{rs:List Rec}{kn:Nat->Nat->List Int}{one other:Nat}
end
section
variable {c:Nat}{own:Nat->Nat}{rs:List Rec}{row:List Int}
theorem Gx (R:Lz c own rs):rs.length<=tot c own:=by
 have:=kI R.keys (m:=univ c own) fun k hk=>by
  obtain⟨r,hr,rfl⟩:=ay.mp hk
  have:=R.inn r hr
  exact KeyIn.univ ⟨r.a,r.b,this.1,this.2.1,this.2.2,rfl⟩
 rw[rV,am] at this;exact this
end
theorem vC (f:Nat->α) (c i:Nat) (x:α):((aw c).map f).set i x=(aw c).map (upF f i x):=by
 apply iy;intro j
 by_cases h:j=i
 ·subst h
  by_cases hj:j<c
  ·rw[gq (by rw[am,fg];exact hj),bg,fw hj];show _=zn (upF f j x j);rw[cD]
  ·rw[b7 (by simp;omega),b7 (by simp;omega)]
 ·rw[ir (cw h),bg,bg];cases hq:(aw c)[j]? with
  |none=>rfl
  |some k=>
   have hk:k=j:=by
    obtain⟨hlt,e⟩:=bx.mp hq;rw[xa] at e;exact e.symm
   subst hk;show zn (f k)=zn (upF f i x k);rw[cI h]
theorem Bc {xs ys:List Int} (h1:xs.length=c) (h2:ys.length=c) (h:∀ j,j<c->xs.getD j 0=ys.getD j 0):xs=ys:=by
 apply List.ext_getElem (by omega);intro j hj hj'
 have:=h j (by omega)
 rw[ax,ax,bi hj,bi hj'] at this;exact this
theorem rA {f:Nat->Int} (h:j<c):((aw c).map f).getD j 0=f j:=by
 rw[ax,bg,fw h];rfl
theorem dI {r:Rec} (q:r.ent=zn d):aW d=r.key:=by
 unfold Rec.ent at q;cases hp:r.put with
 |none=>rw[hp] at q;cases q
 |some p=>rw[hp] at q;cases q;rfl
structure Rel (c:Nat) (own:Nat->Nat) (S:Nat->Hd) (rs:List Rec) (kn:Nat->Nat->List Int):Prop where
 knows:∀ i,i<c->(S i).knows=(aw c).map (kn i)
 recs:Lz c own rs
 tab:∀ i,i<c->∀ e,e∈(S i).table.map (·.2)↔e∈iV rs (kn i i)
 clo:∀ i,i<c->∀ r∈rs,cG (kn i i) r=true->∀ q∈r.outs,cZ (kn i i) q=true
 le:∀ i j,i<c->j<c->∀ t,t<c->(kn i j).getD t 0<=(kn j j).getD t 0
section
variable {c:Nat}{own:Nat->Nat}{S:Nat->Hd}{rs:List Rec}{kn:Nat->Nat->List Int}{i j a:Nat}
theorem Rel.seen (Q:Rel c own S rs kn) (hi:i<c):(S i).seen i=kn i i:=by
 unfold Hd.seen;rw[Q.knows i hi,ax,bg,fw hi];rfl
theorem Rel.row (Q:Rel c own S rs kn) (I:HInv c own S) (hi:i<c) (hj:j<c):kn i j∈(S i).knows/\(kn i j).length=c:=by
 have hm:kn i j∈(S i).knows:=by
  rw[Q.knows i hi];exact ay.mpr ⟨j,dn.mpr hj,rfl⟩
 exact⟨hm,(I i hi).1.row _ hm⟩
theorem Rel.ownE (Q:Rel c own S rs kn) (I:HInv c own S) (hi:i<c):(kn i i).getD i 0=own i:=by rw[<- Q.seen hi];exact(I i hi).2
theorem mem_pres:e∈iV rs row↔(∃ r∈rs,cG row r=true/\r.ent=zn e)/\∀ r∈rs,cG row r=true->aW e∉r.outs:=by
 unfold iV CO NS;rw[cr];constructor
 ·rintro⟨h1,h2⟩
  obtain⟨r,hr,he⟩:=jb.mp h1;have hr':=cr.mp hr;refine⟨⟨r,hr'.1,hr'.2,he⟩,fun q hq hs z=> ?_⟩
  have:Hf (aW e) ((rs.filter (cG row)).flatMap (·.outs))=true:=memK_iff.mpr (my.mpr ⟨q,cr.mpr ⟨hq,hs⟩,z⟩)
  rw[this] at h2;cases h2
 ·rintro⟨⟨r,hr,hs,he⟩,h2⟩
  refine⟨jb.mpr ⟨r,cr.mpr ⟨hr,hs⟩,he⟩,?_⟩;cases hm:Hf (aW e) ((rs.filter (cG row)).flatMap (·.outs)) with
  |false=>rfl
  |true=>
   obtain⟨q,hq,z⟩:=my.mp (memK_iff.mp hm);have hq':=cr.mp hq;exact absurd z (h2 q hq'.1 hq'.2)
theorem Rel.note (Q:Rel c own S rs kn) (I:HInv c own S) (ha:a<c) (r1:r.a=a) (r2:r.b=own a+1) (ro:r.outs.length<64) (rk:∀ q∈r.outs,KeyIn c own q) (rs':∀ q∈r.outs,cZ (kn a a) q=true)
  (k1:hd'.knows=(S a).knows.set a ((kn a a).set a r.b)) (t1:∀ e,e∈hd'.table.map (·.2)↔(e∈(S a).table.map (·.2)∨r.ent=zn e)/\aW e∉r.outs):
  Rel c (cP own a) (iT S a hd') (rs++[r]) (upF kn a (upF (kn a) a ((kn a a).set a r.b))):=by
 have len:=(Q.row I ha ha).2;have oe:=Q.ownE I ha;have bo:cP own a a=own a+1:=by unfold cP;rw[if_pos rfl]
 have le':=eO own a
 -- what is seen
 have s1:∀ q∈rs,cG ((kn a a).set a r.b) q=cG (kn a a) q:=fun q hq=>by
  unfold cG;rw[fN _ _ _ _ (by omega)]
  by_cases h:q.a=a
  ·rw[if_pos h,h,oe]
   have:=Q.recs.inn q hq
   rw[h] at this;rw[decide_eq_true (by omega),decide_eq_true (by omega)]
  ·rw[if_neg h]
 have s2:cG ((kn a a).set a r.b) r=true:=by
  unfold cG;rw[fN _ _ _ _ (by omega),if_pos r1];exact decide_eq_true (ko _)
 have s3:∀ i,i<c->i≠a->cG (kn i i) r=false:=fun i hi hne=>by
  unfold cG;refine decide_eq_false fun z=> ?_
  have:=((I i hi).1.kb _ (Q.row I hi hi).1 a ha).2
  rw[r1] at z;omega
 have sk:∀ q,cZ (kn a a) q=true->cZ ((kn a a).set a r.b) q=true:=fun q hq=>by
  unfold cZ at hq ⊢;split at hq
  ·rename_i x y
   have hq':=of_decide_eq_true hq;refine decide_eq_true ?_;rw[fN _ _ _ _ (by omega)]
   by_cases h:x.toNat=a
   ·rw[if_pos h];rw[h,oe] at hq';omega
   ·rw[if_neg h];exact hq'
  ·cases hq
 have nk:r.key∉rs.map Rec.key:=fun z=>by
  obtain⟨q,hq,e⟩:=ay.mp z
  have:=Q.recs.inn q hq
  unfold Rec.key eJ at e;simp at e;have e1:q.a=a:=by omega
  rw[e1] at this;omega
 refine⟨fun i hi=> ?_,⟨?_,fun q hq=> ?_,fun q hq=> ?_⟩,fun i hi e=> ?_,fun i hi q hq hs x hx=> ?_,fun i j hi hj t ht=> ?_⟩
 ·by_cases h:i=a
  ·subst h;rw[fO,k1,Q.knows i hi,vC,cD]
  ·rw[eT h,cI h];exact Q.knows i hi
 ·rw[b4,ke];refine⟨Q.recs.keys,by simp,fun x hx y hy z=>nk ?_⟩
  have:y=r.key:=by simpa using hy
  rw[<- this,<- z];exact hx
 ·rcases c4.mp hq with z|z
  ·have:=Q.recs.inn q z
   exact⟨this.1,this.2.1,cu this.2.2 (le' _)⟩
  ·rw[d9.mp z,r1,r2,bo];omega
 ·rcases c4.mp hq with z|z
  ·exact⟨(Q.recs.outs q z).1,fun x hx=>((Q.recs.outs q z).2 x hx).mono le'⟩
  ·rw[d9.mp z];exact⟨ro,fun x hx=>(rk x hx).mono le'⟩
 ·by_cases h:i=a
  ·subst h;rw[fO,cD,cD,t1,Q.tab i hi,mem_pres,mem_pres];constructor
   ·rintro⟨h1,h2⟩
    refine⟨?_,fun q hq hs=> ?_⟩
    ·rcases h1 with⟨⟨q,hq,hs,he⟩,_⟩|h1
     ·exact⟨q,c5 _ hq,by rw[s1 q hq];exact hs,he⟩
     ·exact⟨r,by simp,s2,h1⟩
    ·rcases c4.mp hq with z|z
     ·rcases h1 with⟨_,h3⟩|h1
      ·exact h3 q z (by rw[<- s1 q z];exact hs)
      ·intro w
       have:=((Q.recs.outs q z).2 _ w)
       rw[dI h1] at this;obtain⟨x,y,g1,g2,g3,e⟩:=this;unfold Rec.key eJ at e;simp at e
       have:x=i:=by omega
       rw[this] at g3;omega
     ·rw[d9.mp z];exact h2
   ·rintro⟨⟨q,hq,hs,he⟩,h2⟩
    refine⟨?_,h2 r (by simp) s2⟩;rcases c4.mp hq with z|z
    ·exact .inl ⟨⟨q,z,by rw[<- s1 q z];exact hs,he⟩,fun p hp hps=>h2 p (c5 _ hp) (by rw[s1 p hp];exact hps)⟩
    ·rw[d9.mp z] at he;exact .inr he
  ·rw[eT h,cI h,Q.tab i hi,mem_pres,mem_pres];constructor
   ·rintro⟨⟨q,hq,hs,he⟩,h2⟩
    refine⟨⟨q,c5 _ hq,hs,he⟩,fun p hp hps=> ?_⟩;rcases c4.mp hp with z|z
    ·exact h2 p z hps
    ·rw[d9.mp z,s3 i hi h] at hps;cases hps
   ·rintro⟨⟨q,hq,hs,he⟩,h2⟩
    refine⟨?_,fun p hp hps=>h2 p (c5 _ hp) hps⟩;rcases c4.mp hq with z|z
    ·exact⟨q,z,hs,he⟩
    ·rw[d9.mp z,s3 i hi h] at hs;cases hs
 ·by_cases h:i=a
  ·subst h;rw[cD,cD] at hs ⊢;rcases c4.mp hq with z|z
   ·exact sk _ (Q.clo i hi q z (by rw[<- s1 q z];exact hs) x hx)
   ·rw[d9.mp z] at hx;exact sk _ (rs' x hx)
  ·rw[cI h] at hs ⊢;rcases c4.mp hq with z|z
   ·exact Q.clo i hi q z hs x hx
   ·rw[d9.mp z,s3 i hi h] at hs;cases hs
 ·have grow:∀ t,(kn a a).getD t 0<=((kn a a).set a (r.b:Int)).getD t 0:=fun t=>by
   rw[fN _ _ _ _ (by omega)]
   by_cases h:t=a
   ·rw[if_pos h,h,oe];omega
   ·rw[if_neg h];exact ko _
  by_cases h:i=a
  ·subst h;rw[cD]
   by_cases h2:j=i
   ·subst h2;simp only[cD];exact ko _
   ·rw[cI h2,cI h2];exact Q.le i j hi hj t ht
  ·rw[cI h]
   by_cases h2:j=a
   ·subst h2;rw[cD,cD];exact Int.le_trans (Q.le i j hi hj t ht) (grow t)
   ·rw[cI h2];exact Q.le i j hi hj t ht
end
theorem GD {k:List Key}:(k,v)∈gQ T k v:=by
 unfold gQ;split
 ·rename_i h
  obtain⟨p,hp,e⟩:=qd.mp h;have e':=of_decide_eq_true e;exact ay.mpr ⟨p,hp,by rw[if_pos e',e']⟩
 ·simp
theorem BD {p:List Key×D} (hp:p∈T) (h:p.1≠k∨p.2=v):p∈gQ T k v:=by
 unfold gQ;split
 ·refine ay.mpr ⟨p,hp,?_⟩
  by_cases e:p.1=k
  ·rw[if_pos e];rcases h with z|z
   ·exact absurd e z
   ·rw[<- z]
  ·rw[if_neg e]
 ·exact c5 _ hp
theorem mT:∀ {out:List D}{T:List (List Key×D)}{d:D},(∀ d'∈out,aW d=aW d'->d=d')->(aW d,d)∈T->(aW d,d)∈mU out T
 |[],_,_,_,h=>h
 |x::out,T,d,hu,h=>by
  refine mT (out:=out) (fun d' hd'=>hu d' (ak _ hd')) (BD h ?_)
  by_cases e:aW d=aW x
  ·exact .inr (hu x av e)
  ·exact .inl e
theorem uO:∀ {out:List D}{T:List (List Key×D)}{d:D},(∀ d'∈out,aW d=aW d'->d=d')->d∈out->(aW d,d)∈mU out T
 |[],_,_,_,h=>by simp at h
 |x::out,T,d,hu,h=>by
  rcases aj.mp h with rfl|h
  ·exact mT (out:=out) (fun d' hd'=>hu d' (ak _ hd')) GD
  ·exact uO (out:=out) (fun d' hd'=>hu d' (ak _ hd')) h
theorem Bx (hu:∀ d∈out,∀ d'∈out,aW d=aW d'->d=d') (e:D):e∈(mU out []).map (·.2)↔e∈out:=by
 constructor
 ·intro h;obtain⟨p,hp,rfl⟩:=ay.mp h;rcases mS hp with z|⟨d,hd,rfl⟩
  ·simp at z
  ·exact hd
 ·exact fun h=>ay.mpr ⟨(aW e,e),uO (hu e h) h,rfl⟩
section
variable {c:Nat}{own:Nat->Nat}{S:Nat->Hd}{rs:List Rec}{kn:Nat->Nat->List Int}{one other:Nat}
theorem Am {f:List Int->List Int->List Int}:∀ l:List Nat,bw f (l.map p) (l.map q)=l.map fun k=>f (p k) (q k)
 |[]=>rfl
 |x::l=>by
  rw[bu,bu,jv,Am l,bu]
theorem Ea:∀ {rs:List Rec}{r r':Rec},(rs.map Rec.key).Nodup->r∈rs->r'∈rs->r.key=r'.key->r=r'
 |[],_,_,_,hr,_,_=>by simp at hr
 |x::l,r,r',nd,hr,hr',hk=>by
  rw[bu,cx] at nd;rcases aj.mp hr with z|z
  ·rcases aj.mp hr' with w|w
   ·rw[z,w]
   ·exact absurd (ay.mpr ⟨r',w,by rw[<- hk,z]⟩) nd.1
  ·rcases aj.mp hr' with w|w
   ·exact absurd (ay.mpr ⟨r,z,by rw[hk,w]⟩) nd.1
   ·exact Ea nd.2 z w hk
theorem dM (row:List Int) (r:Rec):cZ row r.key=cG row r:=by
 show decide ((r.b:Int)<=row.getD (r.a:Int).toNat 0)=_;rw[da];rfl
theorem Rel.hear (Q:Rel c own S rs kn) (I:HInv c own S) (c0:0<c) (c8:c<=8) (ht:tot c own<64) (h1:one<c) (h2:other<c) (hne:one≠other):Rel c own (gS S one other) rs (upF kn other (moR c kn one other)):=by
 have lenK:∀ i j,i<c->j<c->(kn i j).length=c:=fun i j hi hj=>(Q.row I hi hj).2;have moL:∀ k,(moR c kn one other k).length=c:=fun k=>by unfold moR;simp
 have moG:∀ k t,t<c->(moR c kn one other k).getD t 0=mo kn one other k t:=fun k t ht=>rA ht;have W1:=(I one h1).1;have W2:=(I other h2).1;have O1:=W1.ok c0 c8 ht;have O2:=W2.ok c0 c8 ht
 -- the row of what is seen
 have J:moR c kn one other other=bw mx (kn other other) (kn one one):=by
  refine Bc (moL other) (by rw[fx,lenK _ _ h2 h2,lenK _ _ h1 h1,jz]) fun t htc=> ?_;rw[moG other t htc,uG (by rw[lenK _ _ h2 h2];exact htc) (by rw[lenK _ _ h1 h1];exact htc)]
  have:=Q.le one other h1 h2 t htc
  unfold mo;rw[if_pos rfl];unfold mx;omega
 have Jg:∀ t,t<c->(moR c kn one other other).getD t 0=mx ((kn other other).getD t 0) ((kn one one).getD t 0):=fun t htc=>by
  rw[J,uG (by rw[lenK _ _ h2 h2];exact htc) (by rw[lenK _ _ h1 h1];exact htc)]
 have sJ:∀ r∈rs,(cG (moR c kn one other other) r=true↔cG (kn other other) r=true∨cG (kn one one) r=true):=fun r hr=>by
  have hra:=(Q.recs.inn r hr).1;unfold cG;rw[Jg r.a hra];simp only[decide_eq_true_eq];unfold mx;omega
 have sKJ:∀ q,KeyIn c own q->(cZ (moR c kn one other other) q=true↔cZ (kn other other) q=true∨cZ (kn one one) q=true):=fun q hq=>by
  obtain⟨x,y,g1,_,_,rfl⟩:=hq;show decide ((y:Int)<=(moR c kn one other other).getD (x:Int).toNat 0)=true↔decide ((y:Int)<=(kn other other).getD (x:Int).toNat 0)=true∨decide ((y:Int)<=(kn one one).getD (x:Int).toNat 0)=true;rw[da,Jg x g1];simp only[decide_eq_true_eq];unfold mx;omega
 have uniq:∀ {r r':Rec}{e e':D},r∈rs->r'∈rs->r.ent=zn e->r'.ent=zn e'->aW e=aW e'->e=e':=fun {r r' e e'} hr hr' he he' hk=>by
  rw[dI he,dI he'] at hk
  have:r=r':=Ea Q.recs.keys hr hr' hk
  rw[this,he'] at he;cases he;rfl
 have pm1:∀ e,e∈(S one).ents↔e∈iV rs (kn one one):=fun e=>by rw[O1.ents.2.mem_iff];exact Q.tab one h1 e
 have pm2:∀ e,e∈(S other).ents↔e∈iV rs (kn other other):=fun e=>by rw[O2.ents.2.mem_iff];exact Q.tab other h2 e
 have lv:∀ i,i<c->(S i).Ok c->∀ {r:Rec}{e:D},r∈rs->r.ent=zn e->((S i).leaves i e=true↔e∈iV rs (kn i i)∨cG (kn i i) r=false):=by
  intro i hi O r e hr he;unfold Hd.leaves;rw[Q.seen hi,dI he,dM,ji];have h3:(gP (S i).table r.key).isSome=true↔e∈iV rs (kn i i):=by
   constructor
   ·intro z;obtain⟨v,hv⟩:=oq.mp z;unfold gP at hv;obtain⟨p,hp,rfl⟩:=ph.mp hv;have hpm:=tm hp;have hpk:p.1=r.key:=by
     have:=yz hp
     simpa using this
    have hv2:p.2∈iV rs (kn i i):=(Q.tab i hi p.2).mp (ay.mpr ⟨p,hpm,rfl⟩);obtain⟨⟨r',hr',_,he'⟩,_⟩:=mem_pres.mp hv2;have hk2:aW p.2=p.1:=by
     obtain⟨x,y,_,_,_,e1,u,w,e2⟩:=(I i hi).1.tk p hpm;rw[e2,e1];rfl
    have:e=p.2:=uniq hr hr' he he' (by rw[dI he,hk2,hpk])
    rw[this];exact hv2
   ·intro z;obtain⟨p,hp,e2⟩:=ay.mp ((Q.tab i hi e).mpr z);have hk2:aW p.2=p.1:=by
     obtain⟨x,y,_,_,_,e1,u,w,e2⟩:=(I i hi).1.tk p hp;rw[e2,e1];rfl
    have:r.key∈(S i).table.map (·.1):=ay.mpr ⟨p,hp,by rw[<- hk2,e2,dI he]⟩
    obtain⟨v,hv⟩:=CH this;rw[hv];rfl
  rw[h3];cases cG (kn i i) r <;> simp
 refine⟨fun i hi=> ?_,Q.recs,fun i hi e=> ?_,fun i hi q hq hs x hx=> ?_,fun i j hi hj t htc=> ?_⟩
 ·by_cases h:i=other
  ·subst h;unfold gS;rw[fO,cD]
   show(bw (bw mx) (S i).knows (S one).knows).set i (bw mx ((S i).seen i) ((S one).seen one))=_
   rw[Q.knows i hi,Q.knows one h1,Am,vC,Q.seen hi,Q.seen h1];apply iz;intro k hk;have hkc:=dn.mp hk
   by_cases hki:k=i
   ·subst hki;rw[cD,J]
   ·rw[cI hki];refine Bc (by rw[fx,lenK _ _ hi hkc,lenK _ _ h1 hkc,jz]) (moL k) fun t htc=> ?_;rw[moG k t htc,uG (by rw[lenK _ _ hi hkc];exact htc) (by rw[lenK _ _ h1 hkc];exact htc)];unfold mo;rw[if_neg hki];unfold mx;omega
  ·unfold gS;rw[eT h,cI h];exact Q.knows i hi
 ·by_cases h:i=other
  ·subst h;unfold gS;rw[fO,cD];show e∈(mU ((S i).hearT i (S one) one) []).map (·.2)↔_;have hrec:∀ d∈(S i).hearT i (S one) one,∃ r∈rs,r.ent=zn d:=fun d hd=>by
    rcases c4.mp hd with z|z
    ·obtain⟨⟨r,hr,_,he⟩,_⟩:=mem_pres.mp ((pm2 d).mp (cr.mp z).1);exact⟨r,hr,he⟩
    ·obtain⟨⟨r,hr,_,he⟩,_⟩:=mem_pres.mp ((pm1 d).mp (cr.mp z).1);exact⟨r,hr,he⟩
   rw[Bx fun d hd d' hd' hk=>by
    obtain⟨r,hr,he⟩:=hrec d hd;obtain⟨r',hr',he'⟩:=hrec d' hd';exact uniq hr hr' he he' hk]
   unfold Hd.hearT;rw[c4,cr,cr,pm1,pm2];constructor
   ·intro z
    -- e is a deed's entry
    have he:∃ r∈rs,r.ent=zn e:=by
     rcases z with z|z
     ·obtain⟨⟨r,hr,_,he⟩,_⟩:=mem_pres.mp z.1;exact⟨r,hr,he⟩
     ·obtain⟨⟨r,hr,_,he⟩,_⟩:=mem_pres.mp z.1;exact⟨r,hr,he⟩
    obtain⟨r,hr,he⟩:=he;rw[lv one h1 O1 hr he,lv i hi O2 hr he] at z;rw[mem_pres];have sr:∀ {row:List Int},e∈iV rs row->cG row r=true:=fun {row} q=>by
     obtain⟨⟨r',hr',hs',he'⟩,_⟩:=mem_pres.mp q;have hk:r'.key=r.key:=by rw[<- dI he',dI he]
     rw[<- dM,<- hk,dM];exact hs'
    have both:(e∈iV rs (kn i i)/\e∈iV rs (kn one one))∨(e∈iV rs (kn i i)/\cG (kn one one) r=false)∨(e∈iV rs (kn one one)/\cG (kn i i) r=false):=by
     rcases z with⟨z1,z2|z2⟩|⟨z1,z2|z2⟩
     ·exact .inl ⟨z1,z2⟩
     ·exact .inr (.inl ⟨z1,z2⟩)
     ·exact .inl ⟨z2,z1⟩
     ·exact .inr (.inr ⟨z1,z2⟩)
    have clos:∀ k,k<c->cG (kn k k) r=false->∀ p∈rs,cG (kn k k) p=true->aW e∉p.outs:=fun k hk hs p hp hps w=>by
     have:=Q.clo k hk p hp hps _ w
     rw[dI he,dM,hs] at this;cases this
    refine⟨⟨r,hr,(sJ r hr).mpr ?_,he⟩,fun p hp hps=> ?_⟩
    ·rcases both with z|z|z
     ·exact .inl (sr z.1)
     ·exact .inl (sr z.1)
     ·exact .inr (sr z.1)
    ·rcases(sJ p hp).mp hps with w|w
     ·rcases both with z|z|z
      ·exact(mem_pres.mp z.1).2 p hp w
      ·exact(mem_pres.mp z.1).2 p hp w
      ·exact clos i hi z.2 p hp w
     ·rcases both with z|z|z
      ·exact(mem_pres.mp z.2).2 p hp w
      ·exact clos one h1 z.2 p hp w
      ·exact(mem_pres.mp z.1).2 p hp w
   ·intro z;obtain⟨⟨r,hr,hs,he⟩,hn⟩:=mem_pres.mp z;have inP:∀ k,k<c->(∀ p∈rs,cG (kn k k) p=true->cG (moR c kn one i i) p=true)->cG (kn k k) r=true->e∈iV rs (kn k k):=fun k hk hsub hks=>mem_pres.mpr ⟨⟨r,hr,hks,he⟩,fun p hp hps=>hn p hp (hsub p hp hps)⟩;have p2:=inP i hi fun p hp q=>(sJ p hp).mpr (.inl q);have p1:=inP one h1 fun p hp q=>(sJ p hp).mpr (.inr q);rw[lv one h1 O1 hr he,lv i hi O2 hr he]
    rcases(sJ r hr).mp hs with w|w
    ·cases hq:cG (kn one one) r with
     |true=>exact .inl ⟨p2 w,.inl (p1 hq)⟩
     |false=>exact .inl ⟨p2 w,.inr rfl⟩
    ·cases hq:cG (kn i i) r with
     |true=>exact .inr ⟨p1 w,.inl (p2 hq)⟩
     |false=>exact .inr ⟨p1 w,.inr rfl⟩
  ·unfold gS;rw[eT h,cI h];exact Q.tab i hi e
 ·by_cases h:i=other
  ·subst h;rw[cD] at hs ⊢;have kx:=(Q.recs.outs q hq).2 x hx
   rcases(sJ q hq).mp hs with w|w
   ·exact(sKJ x kx).mpr (.inl (Q.clo i hi q hq w x hx))
   ·exact(sKJ x kx).mpr (.inr (Q.clo one h1 q hq w x hx))
  ·rw[cI h] at hs ⊢;exact Q.clo i hi q hq hs x hx
 ·by_cases h:i=other
  ·subst h;rw[cD]
   by_cases hji:j=i
   ·subst hji;rw[cD];exact ko _
   ·rw[cI hji,moG j t htc];have e1:=Q.le one j h1 hj t htc;have e2:=Q.le i j hi hj t htc;unfold mo;rw[if_neg hji];unfold mx;omega
  ·rw[cI h]
   by_cases hji:j=other
   ·subst hji;rw[cD,Jg t htc];have e1:=Q.le i j hi hj t htc;unfold mx;omega
   ·rw[cI hji];exact Q.le i j hi hj t htc
end
theorem drops_mem:∀ {ks:List (List Key)}{T:List (List Key×D)},p∈ks.foldl dJ T↔p∈T/\p.1∉ks
 |[],T=>by simp
 |k::ks,T=>by
  show p∈ks.foldl dJ (dJ T k)↔_;rw[drops_mem];unfold dJ;rw[cr,aj,not_or];constructor
  ·rintro⟨⟨h1,h2⟩,h3⟩
   exact⟨h1,by simpa using h2,h3⟩
  ·rintro⟨h1,h2,h3⟩
   exact⟨⟨h1,by simpa using h2⟩,h3⟩
section
variable {c:Nat}{own:Nat->Nat}{S:Nat->Hd}{rs:List Rec}{kn:Nat->Nat->List Int}{a:Nat}
theorem Hd.In.tkey {hd:Hd} (W:hd.In c own) (hp:p∈hd.table):aW p.2=p.1:=by
 obtain⟨x,y,_,_,_,e1,u,w,e2⟩:=W.tk p hp;rw[e2,e1];rfl
theorem GZ (I:HInv c own S) (ha:a<c):(S a).next a=((own a+1:Nat):Int):=by
 unfold Hd.next;rw[(I a ha).2];omega
theorem Ko (I:HInv c own S) (ha:a<c):eJ a ((own a+1:Nat):Int)∉(S a).table.map (·.1):=fun z=>by
 obtain⟨p,hp,e⟩:=ay.mp z;obtain⟨x,y,_,_,g3,e1,_⟩:=(I a ha).1.tk p hp;rw[e1] at e;unfold eJ at e;simp at e
 have:x=a:=by omega
 rw[this] at g3;omega
theorem lE (Q:Rel c own S rs kn) (I:HInv c own S) (ha:a<c):((S a).bump a).knows=(S a).knows.set a ((kn a a).set a ((own a+1:Nat):Int)):=by
 show(S a).knows.set a (((S a).seen a).set a (((S a).seen a).getD a 0+1))=_
 rw[(I a ha).2,Q.seen ha];rfl
theorem AB (I:HInv c own S) (ha:a<c) (x:Str) (v:Int) (e:D):e∈((S a).put a x v).table.map (·.2)↔e∈(S a).table.map (·.2)∨zn (D.tup [.str x,mkD a ((own a+1:Nat):Int),.int v])=zn e:=by
 show e∈(gQ (S a).table (eJ a ((S a).next a)) (.tup [.str x,mkD a ((S a).next a),.int v])).map (·.2)↔_;rw[GZ I ha,AC (Ko I ha),b4,c4];simp only[bu,ou,d9,Option.some.injEq];constructor
 ·rintro(z|z)
  ·exact .inl z
  ·exact .inr z.symm
 ·rintro(z|z)
  ·exact .inl z
  ·exact .inr z.symm
theorem Db (Q:Rel c own S rs kn) (I:HInv c own S) (ha:a<c) (x:Str) (v:Int):HInv c (cP own a) (iT S a ((S a).put a x v))/\Rel c (cP own a) (iT S a ((S a).put a x v)) (rs++[⟨a,own a+1,zn (x,v),[]⟩]) (upF kn a (upF (kn a) a ((kn a a).set a ((own a+1:Nat):Int)))):=by
 have W:=(I a ha).1;refine⟨I.updB (W.put ha (I a ha).2 x v) (iR W ha (I a ha).2),Q.note I ha (r:=⟨a,own a+1,zn (x,v),[]⟩) rfl rfl (by simp) (fun q hq=>by simp at hq) (fun q hq=>by simp at hq) (lE Q I ha) fun e=> ?_⟩;rw[AB I ha x v e];show _↔(_∨zn _=zn e)/\_;simp
theorem qP (Q:Rel c own S rs kn) (I:HInv c own S) (O:(S a).Ok c) (ha:a<c) (x:Str):∀ q∈(S a).marksK x,cZ (kn a a) q=true:=fun q hq=>by
 obtain⟨p,hp,rfl⟩:=ay.mp (O.marksIn x q hq);have h1:p.2∈iV rs (kn a a):=(Q.tab a ha p.2).mp (ay.mpr ⟨p,hp,rfl⟩);obtain⟨⟨r,hr,hs,he⟩,_⟩:=mem_pres.mp h1;rw[<- (I a ha).1.tkey hp,dI he,dM];exact hs
theorem qH (Q:Rel c own S rs kn) (I:HInv c own S) (c0:0<c) (c8:c<=8) (ht:tot c own<63) (ha:a<c) (x:Str) (v:Int):HInv c (cP own a) (iT S a ((S a).change a x v))/\Rel c (cP own a) (iT S a ((S a).change a x v)) (rs++[⟨a,own a+1,zn (x,v),(S a).marksK x⟩]) (upF kn a (upF (kn a) a ((kn a a).set a ((own a+1:Nat):Int)))):=by
 have W:=(I a ha).1;have O:=W.ok c0 c8 (by omega);have P:=W.put ha (I a ha).2 x v;have T:=P.takeOut0 (mk:=eJ a ((S a).next a)) (ks:=(S a).marksK x) (kJ ha (I a ha).2) (O.marksLen x) fun q hq=>(W.marks O x q hq).mono (eO own a);refine⟨I.updB T.forget (iR W ha (I a ha).2),Q.note I ha (r:=⟨a,own a+1,zn (x,v),(S a).marksK x⟩) rfl rfl (O.marksLen x) (W.marks O x) (qP Q I O ha x) (lE Q I ha) fun e=> ?_⟩;show e∈(((S a).marksK x).foldl dJ ((S a).put a x v).table).map (·.2)↔(_∨zn _=zn e)/\_;rw[<- AB I ha x v e];constructor
 ·intro z;obtain⟨p,hp,rfl⟩:=ay.mp z;have hp':=drops_mem.mp hp;exact⟨ay.mpr ⟨p,hp'.1,rfl⟩,by rw[P.tkey hp'.1];exact hp'.2⟩
 ·rintro⟨z,w⟩
  obtain⟨p,hp,rfl⟩:=ay.mp z;rw[P.tkey hp] at w;exact ay.mpr ⟨p,drops_mem.mpr ⟨hp,w⟩,rfl⟩
theorem sB (Q:Rel c own S rs kn) (I:HInv c own S) (c0:0<c) (c8:c<=8) (ht:tot c own<63) (ha:a<c) (x:Str) (hm:(S a).marksK x≠[]):HInv c (cP own a) (iT S a ((S a).take a x))/\Rel c (cP own a) (iT S a ((S a).take a x)) (rs++[⟨a,own a+1,zo,(S a).marksK x⟩]) (upF kn a (upF (kn a) a ((kn a a).set a ((own a+1:Nat):Int)))):=by
 have W:=(I a ha).1;have O:=W.ok c0 c8 (by omega);have P:=W.bump ha (I a ha).2;have T:=P.takeOut0 (mk:=eJ a ((S a).next a)) (ks:=(S a).marksK x) (kJ ha (I a ha).2) (O.marksLen x) fun q hq=>(W.marks O x q hq).mono (eO own a);have et:(S a).take a x=((S a).bump a).takeOut (eJ a ((S a).next a)) ((S a).marksK x):=by unfold Hd.take;rw[if_neg hm]
 rw[et];refine⟨I.updB T.forget (iR W ha (I a ha).2),Q.note I ha (r:=⟨a,own a+1,zo,(S a).marksK x⟩) rfl rfl (O.marksLen x) (W.marks O x) (qP Q I O ha x) (lE Q I ha) fun e=> ?_⟩;show e∈(((S a).marksK x).foldl dJ (S a).table).map (·.2)↔(_∨zo=zn e)/\_;constructor
 ·intro z;obtain⟨p,hp,rfl⟩:=ay.mp z;have hp':=drops_mem.mp hp;exact⟨.inl (ay.mpr ⟨p,hp'.1,rfl⟩),by rw[W.tkey hp'.1];exact hp'.2⟩
 ·rintro⟨z|z,w⟩
  ·obtain⟨p,hp,rfl⟩:=ay.mp z;rw[W.tkey hp] at w;exact ay.mpr ⟨p,drops_mem.mpr ⟨hp,w⟩,rfl⟩
  ·cases z
theorem dZ (I:HInv c own S) (c0:0<c) (c8:c<=8) (ht:tot c own<64) (hi:i<c) (hj:j<c):HInv c own (gS S j i):=by
 have Wi:=(I i hi).1;have Wj:=(I j hj).1;have H0:=Wi.hear0 Wj (Wi.ok c0 c8 ht) (Wj.ok c0 c8 ht) hi hj;exact I.upd H0.forget (AR Wi Wj hi hj (I i hi).2)
end
theorem PM {a b:Int} (h:b<=a):mx a b=a:=by unfold mx;split <;> omega
section
variable {c:Nat}{own:Nat->Nat}{S:Nat->Hd}{rs:List Rec}{kn:Nat->Nat->List Int}{a b i t:Nat}
theorem PN {one other k j:Nat} (hj:j<c):(moR c kn one other k).getD j 0=mo kn one other k j:=rA hj
theorem mD (Q:Rel c own S rs kn) (ha:a<c) (hb:b<c) (ht:t<c):(moR c kn a b b).getD t 0=mx ((kn a a).getD t 0) ((kn b b).getD t 0):=by
 rw[PN ht]
 have:=Q.le a b ha hb t ht
 unfold mo;rw[if_pos rfl];unfold mx
 repeat' split
 all_goals omega
theorem Gw (I:HInv c own S) (Q:Rel c own S rs kn) (c0:0<c) (c8:c<=8) (ht:tot c own<64) (ha:a<c) (hb:b<c) (hne:a≠b):∃ kn',HInv c own (yF S a b)/\Rel c own (yF S a b) rs kn'/\(∀ t,t<c->(kn' a a).getD t 0=mx ((kn a a).getD t 0) ((kn b b).getD t 0))/\(∀ t,t<c->(kn' b b).getD t 0=mx ((kn a a).getD t 0) ((kn b b).getD t 0))/\∀ i,i≠a->i≠b->kn' i i=kn i i:=by
 have I1:=dZ I c0 c8 ht hb ha;have Q1:=Q.hear I c0 c8 ht ha hb hne;have I2:=dZ I1 c0 c8 ht ha hb;have Q2:=Q1.hear I1 c0 c8 ht hb ha (cw hne);have I3:=dZ I2 c0 c8 ht hb ha;have Q3:=Q2.hear I2 c0 c8 ht ha hb hne;have r1:∀ t,t<c->(upF kn b (moR c kn a b) b b).getD t 0=mx ((kn a a).getD t 0) ((kn b b).getD t 0):=fun t ht=>by rw[cD];exact mD Q ha hb ht
 have r1a:upF kn b (moR c kn a b) a a=kn a a:=by rw[cI hne]
 have r2:∀ t,t<c->(upF (upF kn b (moR c kn a b)) a (moR c (upF kn b (moR c kn a b)) b a) a a).getD t 0=mx ((kn a a).getD t 0) ((kn b b).getD t 0):=fun t ht=>by
  rw[cD,mD Q1 hb ha ht,r1 t ht,r1a];unfold mx
  repeat' split
  all_goals omega
 have r2b:upF (upF kn b (moR c kn a b)) a (moR c (upF kn b (moR c kn a b)) b a) b b=upF kn b (moR c kn a b) b b:=by rw[cI (cw hne)]
 refine⟨_,I3,Q3,fun t ht=> ?_,fun t ht=> ?_,fun i hia hib=> ?_⟩
 ·rw[cI hne];exact r2 t ht
 ·rw[cD,mD Q2 ha hb ht,r2 t ht,r2b,r1 t ht];exact PM (ko _)
 ·rw[cI hib,cI hia,cI hib]
theorem uR (ha:a<c) (hb:b<c) (hne:a≠b):(step c S (.meet (a:Int) (b:Int))).2=yF S a b:=by
 have e:step c S (.meet (a:Int) (b:Int))=(_,yF S a b):=(if_pos ⟨⟨by omega,by omega⟩,by omega,by omega⟩).trans (if_neg (by omega));rw[e]
theorem Ry (c:Nat):Rel c (fun _=>0) (fun _=>Hd0 c) [] (fun _ _=>az c 0) where
 knows:=fun i hi=>by
  show az c (az c (0:Int))=_;apply iy;intro j;rw[ia,bg]
  by_cases h:j<c
  ·rw[if_pos h,fw h];rfl
  ·rw[if_neg h,b7 (by simp;omega)];rfl
 recs:=⟨by simp,fun r hr=>by simp at hr,fun r hr=>by simp at hr⟩
 tab:=fun i hi e=>by simp[Hd0,iV,CO]
 clo:=fun i hi r hr=>by simp at hr
 le:=fun i j hi hj t ht=>ko _
theorem Gv (I:HInv c own S) (Q:Rel c own S rs kn) (c0:0<c) (c8:c<=8) (ht:tot c own<63) (d:Deed):∃ rs' kn' own',HInv c own' (step c S d).2/\Rel c own' (step c S d).2 rs' kn'/\tot c own'<=tot c own+1:=by
 have tb:∀ {a:Nat},a<c->tot c (cP own a)<=tot c own+1:=fun {a} ha=>by rw[fL,if_pos ha];omega
 have no:∀ {x:D},∃ rs' kn' own',HInv c own' ((x,S):D×(Nat->Hd)).2/\Rel c own' ((x,S):D×(Nat->Hd)).2 rs' kn'/\tot c own'<=tot c own+1:=⟨rs,kn,own,I,Q,by omega⟩;cases d with
 |put a x v=>
  by_cases hv:0<=a/\a<(c:Int)
  ·obtain⟨n,rfl⟩:=Int.eq_ofNat_of_zero_le hv.1;rw[show step c S (.put n x v)=(mkD n ((S n).next n),iT S n ((S n).put n x v)) from if_pos hv];have RP:=Db Q I (a:=n) (by omega) x v;exact⟨_,_,_,RP.1,RP.2,tb (by omega)⟩
  ·rw[show step c S (.put a x v)=(.str "no hand",S) from if_neg hv];exact no
 |change a x v=>
  by_cases hv:0<=a/\a<(c:Int)
  ·obtain⟨n,rfl⟩:=Int.eq_ofNat_of_zero_le hv.1;rw[show step c S (.change n x v)=(mkD n ((S n).next n),iT S n ((S n).change n x v)) from if_pos hv];have RP:=qH Q I c0 c8 ht (a:=n) (by omega) x v;exact⟨_,_,_,RP.1,RP.2,tb (by omega)⟩
  ·rw[show step c S (.change a x v)=(.str "no hand",S) from if_neg hv];exact no
 |take a x=>
  by_cases hv:0<=a/\a<(c:Int)
  ·obtain⟨n,rfl⟩:=Int.eq_ofNat_of_zero_le hv.1;rw[show step c S (.take n x)=((S n).takeA x,iT S n ((S n).take n x)) from if_pos hv]
   by_cases hm:(S n).marksK x=[]
   ·have et:(S n).take n x=S n:=by unfold Hd.take;rw[if_pos hm]
    have eS:iT S n ((S n).take n x)=S:=by
     rw[et]
     funext j
     by_cases h:j=n
     ·rw[h,fO]
     ·rw[eT h]
    rw[eS];exact no
   ·have RP:=sB Q I c0 c8 ht (a:=n) (by omega) x hm;exact⟨_,_,_,RP.1,RP.2,tb (by omega)⟩
  ·rw[show step c S (.take a x)=(.str "no hand",S) from if_neg hv];exact no
 |tell a b=>
  by_cases hv:(0<=a/\a<(c:Int))/\(0<=b/\b<(c:Int))
  ·obtain⟨n,rfl⟩:=Int.eq_ofNat_of_zero_le hv.1.1;obtain⟨m,rfl⟩:=Int.eq_ofNat_of_zero_le hv.2.1
   by_cases hnm:(n:Int)=m
   ·rw[show step c S (.tell n m)=(.str "same hand",S) from(if_pos hv).trans (if_pos hnm)];exact no
   ·rw[show step c S (.tell n m)=(.int (mQ S n m),gS S n m) from(if_pos hv).trans (if_neg hnm)];exact⟨_,_,own,dZ I c0 c8 (by omega) (by omega) (by omega),Q.hear I c0 c8 (by omega) (by omega) (by omega) (by omega),by omega⟩
  ·rw[show step c S (.tell a b)=(.str "no hand",S) from if_neg hv];exact no
 |meet a b=>
  by_cases hv:(0<=a/\a<(c:Int))/\(0<=b/\b<(c:Int))
  ·obtain⟨n,rfl⟩:=Int.eq_ofNat_of_zero_le hv.1.1;obtain⟨m,rfl⟩:=Int.eq_ofNat_of_zero_le hv.2.1
   by_cases hnm:(n:Int)=m
   ·rw[show step c S (.meet n m)=(.str "same hand",S) from(if_pos hv).trans (if_pos hnm)];exact no
   ·rw[uR (by omega) (by omega) (by omega)];obtain⟨kn',I',Q',_⟩:=Gw I Q c0 c8 (by omega) (a:=n) (b:=m) (by omega) (by omega) (by omega);exact⟨_,_,own,I',Q',by omega⟩
  ·rw[show step c S (.meet a b)=(.str "no hand",S) from if_neg hv];exact no
theorem Da (c0:0<c) (c8:c<=8):∀(ds:List Deed) {S:Nat->Hd}{own:Nat->Nat}{rs:List Rec}{kn:Nat->Nat->List Int},HInv c own S->Rel c own S rs kn->tot c own+ds.length<64->∃ rs' kn' own',HInv c own' (fJ c ds S).2/\Rel c own' (fJ c ds S).2 rs' kn'/\tot c own'<=tot c own+ds.length
 |[],S,own,rs,kn,I,Q,ht=>⟨rs,kn,own,I,Q,by simp⟩
 |d::ds,S,own,rs,kn,I,Q,ht=>by
  rw[bv] at ht ⊢;obtain⟨rs1,kn1,own1,I1,Q1,t1⟩:=Gv I Q c0 c8 (by omega) d;obtain⟨rs2,kn2,own2,I2,Q2,t2⟩:=Da c0 c8 ds I1 Q1 (by omega);exact⟨rs2,kn2,own2,I2,Q2,by omega⟩
end
section
variable {c:Nat}{own:Nat->Nat}{S:Nat->Hd}{rs:List Rec}{kn:Nat->Nat->List Int}{a b i t:Nat}
end
theorem Fw {f h:OG D}{ρ:Rho}{ω ω1 ω2:Om}{a b:D}{xs ys:List D} (e1:f ρ ω=zn (.ok a,ω1)) (e2:h ρ ω1=zn (.ok b,ω2)) (h1:dX ω2 a=zn xs) (h2:dX ω2 b=zn ys) (hl:xs.length+ys.length<=1000):o2 yT f h ρ ω=zn (.ok (.lst (xs++ys)),ω2):=gO e1 e2 (by
 unfold yT;rw[h1,ym,h2,ym,if_pos (by rw[bz];omega)])
theorem PL {d:D} (h:fV d) (y:Str) (ω:Om):dG (o2 (lL 8) (o2 (fun ω a b=>pu (Cd ω a b) ω) (oP (Fp 0)) (oP (dC (.int 0)))) (oP (Fp 1))) [zn d,zn (.str y)] ω=zn (.ok (Ej y d),ω):=by
 obtain⟨x,a,b,v,rfl⟩:=h;refine cN (gO (aT (aB rfl) aQ rfl) (aB rfl) ?_);show pu ((eqD 8 (.str x) (.str y)).map D.bl) ω=_;rw[iB];rfl
theorem Fq {ds:List D}{fl f:OG D}{t:OG Bool}{p:D->Bool}{g:D->D}{j:Nat}{y:Str}{ρ:Rho}{ω:Om} (he:∀ d∈ds,fV d) (hl:ds.length<=1000) (e:fl ρ ω=zn (.ok (.lst ds),ω)) (hj:ρ[j]?=zn (zn (.str y))) (ht:∀ {d},fV d->t [zn d,zn (.str y)] ω=zn (.ok (p d),ω)) (hf:∀ {d},fV d->f [zn d,zn (.str y)] ω=zn (.ok (g d),ω)):
  cY tE (oIL fl) [zo,zn j] (aZ 0) t f ρ ω=zn (.ok (.lst ((ds.filter p).map g)),ω):=by
 refine fB (ds:=ds) (chk:=bT) (ω1:=ω) ?_ (by rw[bz];omega) ?_
 ·unfold oIL;rw[aY e];rfl
 ·have e0:CA [zo,zn j] ρ=[zo,zn (.str y)]:=by
   unfold CA;simp[hj]
  rw[e0];refine fI (fun ρ=>∃ u,ρ=[u,zn (.str y)]) rfl ⟨_,rfl⟩ fun d hd ρ hρ=> ?_;obtain⟨u,rfl⟩:=hρ;exact⟨_,rfl,⟨_,rfl⟩,ht (he d hd),fun _=>hf (he d hd)⟩
theorem Ky {d:D} (h:fV d) (y:Option D) (ω:Om):o2 (fun ω a b=>pu (Cd ω a b) ω) (oP (Fp 0)) (oP (dC (.int 1))) [zn d,y] ω=zn (.ok (bE (aW d)),ω):=by
 obtain⟨x,a,b,v,rfl⟩:=h;rfl
def Gn (rs:List Rec) (row:List Int) (q:List Key):Prop:=cZ row q=true->∃ t∈rs,cG row t=true/\q∈t.outs
section
variable {c:Nat}{own:Nat->Nat}{S:Nat->Hd}{rs:List Rec}{kn:Nat->Nat->List Int}{a b i:Nat}{q:List Key}{x:Str}
theorem Hy (Q:Rel c own S rs kn) (hi:i<c) (g:Gn rs (kn i i) q) {e:D} (he:e∈(S i).table.map (·.2)):aW e≠q:=fun z=>by
 obtain⟨⟨r,hr,hs,he'⟩,hn⟩:=mem_pres.mp ((Q.tab i hi e).mp he);obtain⟨t,ht,hts,hq⟩:=g (by rw[<- z,dI he',dM];exact hs);exact hn t ht hts (z ▸ hq)
theorem Dc (R:Lz c own rs) {r:Rec} (hr:r∈rs):KeyIn c own r.key:=⟨r.a,r.b,(R.inn r hr).1,(R.inn r hr).2.1,(R.inn r hr).2.2,rfl⟩
theorem rZ (Q:Rel c own S rs kn) (I:HInv c own S) (ha:a<c) (hq:KeyIn c own q):cZ ((kn a a).set a ((own a+1:Nat):Int)) q=cZ (kn a a) q:=by
 obtain⟨u,v,hu,_,hv,rfl⟩:=hq;have oe:=Q.ownE I ha;show decide ((v:Int)<=((kn a a).set a ((own a+1:Nat):Int)).getD (u:Int).toNat 0)=decide ((v:Int)<=(kn a a).getD (u:Int).toNat 0);rw[da,fN _ _ _ _ (by rw[(Q.row I ha ha).2];exact ha)]
 by_cases h:u=a
 ·subst h;rw[if_pos rfl,oe,decide_eq_true (by omega),decide_eq_true (by omega)]
 ·rw[if_neg h]
theorem uW (Q:Rel c own S rs kn) (I:HInv c own S) (ha:a<c) {t:Rec} (ht:t∈rs):cG ((kn a a).set a ((own a+1:Nat):Int)) t=cG (kn a a) t:=by
 rw[<- dM,<- dM];exact rZ Q I ha (Dc Q.recs ht)
theorem NT (Q:Rel c own S rs kn) (I:HInv c own S) (ha:a<c) (hq:KeyIn c own q) (g:Gn rs (kn a a) q) (r:Rec):Gn (rs++[r]) ((kn a a).set a ((own a+1:Nat):Int)) q:=fun z=>by
 rw[rZ Q I ha hq] at z;obtain⟨t,ht,hts,h⟩:=g z;exact⟨t,c5 _ ht,by rw[uW Q I ha ht];exact hts,h⟩
theorem IQ (g:Gn rs (kn i i) q) (r:Rec):Gn (rs++[r]) (kn i i) q:=fun z=>by
 obtain⟨t,ht,h⟩:=g z;exact⟨t,c5 _ ht,h⟩
theorem KQ (Q:Rel c own S rs kn) (I:HInv c own S) (ha:a<c) (hq:KeyIn c own q) (g:∀ i,i<c->Gn rs (kn i i) q) (r:Rec):∀ i,i<c->Gn (rs++[r]) (upF kn a (upF (kn a) a ((kn a a).set a ((own a+1:Nat):Int))) i i) q:=fun i hi=>by
 by_cases h:i=a
 ·subst h;rw[cD,cD];exact NT Q I ha hq (g i hi) r
 ·rw[cI h];exact IQ (g i hi) r
theorem mZ (Q:Rel c own S rs kn) (ha:a<c) (hb:b<c) (hq:KeyIn c own q):cZ (moR c kn a b b) q=true↔cZ (kn a a) q=true∨cZ (kn b b) q=true:=by
 obtain⟨u,v,hu,_,hv,rfl⟩:=hq;show decide ((v:Int)<=(moR c kn a b b).getD (u:Int).toNat 0)=true↔decide ((v:Int)<=(kn a a).getD (u:Int).toNat 0)=true∨decide ((v:Int)<=(kn b b).getD (u:Int).toNat 0)=true;rw[da,mD Q ha hb hu];simp only[decide_eq_true_eq];unfold mx;split <;> omega
theorem sM (Q:Rel c own S rs kn) (ha:a<c) (hb:b<c) (hq:KeyIn c own q) (g:∀ i,i<c->Gn rs (kn i i) q):∀ i,i<c->Gn rs (upF kn b (moR c kn a b) i i) q:=fun i hi=>by
 by_cases h:i=b
 ·subst h;rw[cD];intro z
  rcases(mZ Q ha hb hq).mp z with z|z
  ·obtain⟨t,ht,hts,w⟩:=g a ha z;exact⟨t,ht,by rw[<- dM];exact(mZ Q ha hb (Dc Q.recs ht)).mpr (.inl (by rw[dM];exact hts)),w⟩
  ·obtain⟨t,ht,hts,w⟩:=g i hi z;exact⟨t,ht,by rw[<- dM];exact(mZ Q ha hb (Dc Q.recs ht)).mpr (.inr (by rw[dM];exact hts)),w⟩
 ·rw[cI h];exact g i hi
def Cy (c:Nat) (own:Nat->Nat) (rs:List Rec) (kn:Nat->Nat->List Int) (gs:List Key->Prop):Prop:=∀ q,gs q->KeyIn c own q/\∀ i,i<c->Gn rs (kn i i) q
theorem KP {gs:List Key->Prop} (I:HInv c own S) (Q:Rel c own S rs kn) (c0:0<c) (c8:c<=8) (ht:tot c own<63) (g:Cy c own rs kn gs) (d:Deed):∃ rs' kn' own',HInv c own' (step c S d).2/\Rel c own' (step c S d).2 rs' kn'/\tot c own'<=tot c own+1/\Cy c own' rs' kn' gs:=by
 have tb:∀ {a:Nat},a<c->tot c (cP own a)<=tot c own+1:=fun {a} ha=>by rw[fL,if_pos ha];omega
 have no:∀ {y:D},∃ rs' kn' own',HInv c own' ((y,S):D×(Nat->Hd)).2/\Rel c own' ((y,S):D×(Nat->Hd)).2 rs' kn'/\tot c own'<=tot c own+1/\Cy c own' rs' kn' gs:=⟨rs,kn,own,I,Q,by omega,g⟩;have nt:∀ {a:Nat} (r:Rec),a<c->Cy c (cP own a) (rs++[r]) (upF kn a (upF (kn a) a ((kn a a).set a ((own a+1:Nat):Int)))) gs:=fun {a} r ha q hq=>⟨(g q hq).1.mono (eO own a),KQ Q I ha (g q hq).1 (g q hq).2 r⟩;cases d with
 |put a x v=>
  by_cases hv:0<=a/\a<(c:Int)
  ·obtain⟨n,rfl⟩:=Int.eq_ofNat_of_zero_le hv.1;rw[show step c S (.put n x v)=(mkD n ((S n).next n),iT S n ((S n).put n x v)) from if_pos hv];have RP:=Db Q I (a:=n) (by omega) x v;exact⟨_,_,_,RP.1,RP.2,tb (by omega),nt _ (by omega)⟩
  ·rw[show step c S (.put a x v)=(.str "no hand",S) from if_neg hv];exact no
 |change a x v=>
  by_cases hv:0<=a/\a<(c:Int)
  ·obtain⟨n,rfl⟩:=Int.eq_ofNat_of_zero_le hv.1;rw[show step c S (.change n x v)=(mkD n ((S n).next n),iT S n ((S n).change n x v)) from if_pos hv];have RP:=qH Q I c0 c8 ht (a:=n) (by omega) x v;exact⟨_,_,_,RP.1,RP.2,tb (by omega),nt _ (by omega)⟩
  ·rw[show step c S (.change a x v)=(.str "no hand",S) from if_neg hv];exact no
 |take a x=>
  by_cases hv:0<=a/\a<(c:Int)
  ·obtain⟨n,rfl⟩:=Int.eq_ofNat_of_zero_le hv.1;rw[show step c S (.take n x)=((S n).takeA x,iT S n ((S n).take n x)) from if_pos hv]
   by_cases hm:(S n).marksK x=[]
   ·have et:(S n).take n x=S n:=by unfold Hd.take;rw[if_pos hm]
    have eS:iT S n ((S n).take n x)=S:=by
     rw[et]
     funext j
     by_cases h:j=n
     ·rw[h,fO]
     ·rw[eT h]
    rw[eS];exact no
   ·have RP:=sB Q I c0 c8 ht (a:=n) (by omega) x hm;exact⟨_,_,_,RP.1,RP.2,tb (by omega),nt _ (by omega)⟩
  ·rw[show step c S (.take a x)=(.str "no hand",S) from if_neg hv];exact no
 |tell a b=>
  by_cases hv:(0<=a/\a<(c:Int))/\(0<=b/\b<(c:Int))
  ·obtain⟨n,rfl⟩:=Int.eq_ofNat_of_zero_le hv.1.1;obtain⟨m,rfl⟩:=Int.eq_ofNat_of_zero_le hv.2.1
   by_cases hnm:(n:Int)=m
   ·rw[show step c S (.tell n m)=(.str "same hand",S) from(if_pos hv).trans (if_pos hnm)];exact no
   ·rw[show step c S (.tell n m)=(.int (mQ S n m),gS S n m) from(if_pos hv).trans (if_neg hnm)];exact⟨_,_,own,dZ I c0 c8 (by omega) (by omega) (by omega),Q.hear I c0 c8 (by omega) (by omega) (by omega) (by omega),by omega,fun q hq=>⟨(g q hq).1,sM Q (by omega) (by omega) (g q hq).1 (g q hq).2⟩⟩
  ·rw[show step c S (.tell a b)=(.str "no hand",S) from if_neg hv];exact no
 |meet a b=>
  by_cases hv:(0<=a/\a<(c:Int))/\(0<=b/\b<(c:Int))
  ·obtain⟨n,rfl⟩:=Int.eq_ofNat_of_zero_le hv.1.1;obtain⟨m,rfl⟩:=Int.eq_ofNat_of_zero_le hv.2.1
   by_cases hnm:(n:Int)=m
   ·rw[show step c S (.meet n m)=(.str "same hand",S) from(if_pos hv).trans (if_pos hnm)];exact no
   ·have hn:n<c:=by omega
    have hm:m<c:=by omega
    have hne:n≠m:=by omega
    rw[uR hn hm hne];have I1:=dZ I c0 c8 (by omega) hm hn;have Q1:=Q.hear I c0 c8 (by omega) hn hm hne;have I2:=dZ I1 c0 c8 (by omega) hn hm;have Q2:=Q1.hear I1 c0 c8 (by omega) hm hn (cw hne);exact⟨_,_,own,dZ I2 c0 c8 (by omega) hm hn,Q2.hear I2 c0 c8 (by omega) hn hm hne,by omega,fun q hq=>⟨(g q hq).1,sM Q2 hn hm (g q hq).1 (sM Q1 hm hn (g q hq).1 (sM Q hn hm (g q hq).1 (g q hq).2))⟩⟩
  ·rw[show step c S (.meet a b)=(.str "no hand",S) from if_neg hv];exact no
theorem IP {gs:List Key->Prop} (c0:0<c) (c8:c<=8):∀(ds:List Deed) {S:Nat->Hd}{own:Nat->Nat}{rs:List Rec}{kn:Nat->Nat->List Int},HInv c own S->Rel c own S rs kn->tot c own+ds.length<64->Cy c own rs kn gs->∃ rs' kn' own',HInv c own' (fJ c ds S).2/\Rel c own' (fJ c ds S).2 rs' kn'/\tot c own'<=tot c own+ds.length/\Cy c own' rs' kn' gs
 |[],S,own,rs,kn,I,Q,ht,g=>⟨rs,kn,own,I,Q,by simp,g⟩
 |d::ds,S,own,rs,kn,I,Q,ht,g=>by
  rw[bv] at ht ⊢;obtain⟨rs1,kn1,own1,I1,Q1,t1,g1⟩:=KP I Q c0 c8 (by omega) g d;obtain⟨rs2,kn2,own2,I2,Q2,t2,g2⟩:=IP c0 c8 ds I1 Q1 (by omega) g1;exact⟨rs2,kn2,own2,I2,Q2,by omega,g2⟩
end
noncomputable def aV (n:Nat) (x:Str):List Deed:=(aw n).map fun(k:Nat)=>.take (k:Int) x
def OC (rs:List Rec) (q:List Key) (x:Str):Prop:=∃ r∈rs,r.key=q/\∃ v,r.put=zn (x,v)
section
variable {c:Nat}{own:Nat->Nat}{S:Nat->Hd}{rs:List Rec}{kn:Nat->Nat->List Int}{a b i:Nat}{q:List Key}{x:Str}
theorem vO {hd:Hd} (O:hd.Ok c):q∈hd.marksK x↔∃ e∈hd.table.map (·.2),Ej x e=true/\aW e=q:=by
 unfold Hd.marksK;rw[ay];constructor
 ·rintro⟨e,he,rfl⟩
  have he:=cr.mp he;exact⟨e,O.ents.2.mem_iff.mp he.1,he.2,rfl⟩
 ·rintro⟨e,he,h1,rfl⟩
  exact⟨e,cr.mpr ⟨O.ents.2.mem_iff.mpr he,h1⟩,rfl⟩
theorem Mq (Q:Rel c own S rs kn) (I:HInv c own S) (O:(S i).Ok c) (hi:i<c) (h:q∈(S i).marksK x):OC rs q x:=by
 obtain⟨e,he,h1,rfl⟩:=(vO O).mp h;obtain⟨⟨r,hr,hs,he'⟩,_⟩:=mem_pres.mp ((Q.tab i hi e).mp he);refine⟨r,hr,(dI he').symm,?_⟩;unfold Rec.ent at he';cases hp:r.put with
 |none=>rw[hp] at he';cases he'
 |some p=>
  obtain⟨y,v⟩:=p;rw[hp] at he';cases he';exact⟨v,by rw[show y=x from of_decide_eq_true h1]⟩
theorem IN (Q:Rel c own S rs kn) (I:HInv c own S) (O:(S i).Ok c) (hi:i<c) (p:OC rs q x) (hs:cZ (kn i i) q=true):q∈(S i).marksK x∨∃ t∈rs,cG (kn i i) t=true/\q∈t.outs:=by
 obtain⟨r,hr,rfl,v,hp⟩:=p;rw[dM] at hs;have he:r.ent=zn (.tup [.str x,mkD r.a r.b,.int v]):=by unfold Rec.ent;rw[hp];rfl
 by_cases h:∃ t∈rs,cG (kn i i) t=true/\r.key∈t.outs
 ·exact .inr h
 ·refine .inl ((vO O).mpr ⟨_,(Q.tab i hi _).mpr (mem_pres.mpr ⟨⟨r,hr,hs,he⟩,fun t ht hts z=>h ⟨t,ht,hts,?_⟩⟩),?_,dI he⟩)
  ·rw[dI he] at z;exact z
  ·exact decide_eq_true rfl
theorem LV (I0:HInv c own S) (Q0:Rel c own S rs kn) (c0:0<c) (c8:c<=8) (ht:tot c own+c<64) {gs:List Key->Prop} (hg:∀ q,gs q->KeyIn c own q/\OC rs q x):∀ n,n<=c->∃ rs' kn' own',HInv c own' (fJ c (aV n x) S).2/\Rel c own' (fJ c (aV n x) S).2 rs' kn'/\tot c own'<=tot c own+n/\(∀ i,n<=i->(fJ c (aV n x) S).2 i=S i)/\(fJ c (aV n x) S).1=(aw n).map (fun k=>(S k).takeA x)/\∀ q,gs q->KeyIn c own' q/\OC rs' q x/\∀ i,i<n->Gn rs' (kn' i i) q
 |0,_=>⟨rs,kn,own,I0,Q0,by omega,fun _ _=>rfl,rfl,fun q hq=>⟨(hg q hq).1,(hg q hq).2,fun i hi=>by omega⟩⟩
 |n+1,hn=>by
  obtain⟨rs1,kn1,own1,I1,Q1,t1,s1,a1,g1⟩:=LV I0 Q0 c0 c8 ht hg n (by omega);have hnc:n<c:=by omega
  have O:=(I1 n hnc).1.ok c0 c8 (by omega);have en:aV (n+1) x=aV n x++[.take (n:Int) x]:=by
   unfold aV;rw[hX,b4];rfl
  have es:step c (fJ c (aV n x) S).2 (.take (n:Int) x)=(((fJ c (aV n x) S).2 n).takeA x,iT (fJ c (aV n x) S).2 n (((fJ c (aV n x) S).2 n).take n x)):=if_pos ⟨by omega,by omega⟩;have e2:(fJ c (aV (n+1) x) S).2=iT (fJ c (aV n x) S).2 n (((fJ c (aV n x) S).2 n).take n x):=by
   rw[en,jW]
   show(step c _ _).2=_
   rw[es]
  have e1:(fJ c (aV (n+1) x) S).1=(fJ c (aV n x) S).1++[((fJ c (aV n x) S).2 n).takeA x]:=by
   rw[en,jW];show _++[(step c _ _).1]=_;rw[es]
  rw[e2,e1,a1,s1 n (bp n)] at*;have ans:(aw n).map (fun k=>(S k).takeA x)++[(S n).takeA x]=(aw (n+1)).map fun k=>(S k).takeA x:=by rw[hX,b4];rfl
  have sn:=s1 n (bp n)
  by_cases hm:(S n).marksK x=[]
  ·have et:(S n).take n x=S n:=by unfold Hd.take;rw[if_pos hm]
   have eS:iT (fJ c (aV n x) S).2 n ((S n).take n x)=(fJ c (aV n x) S).2:=by
    rw[et]
    funext j
    by_cases h:j=n
    ·rw[h,fO,sn]
    ·rw[eT h]
   rw[eS];refine⟨rs1,kn1,own1,I1,Q1,by omega,fun i hi=>s1 i (by omega),ans,fun q hq=>⟨(g1 q hq).1,(g1 q hq).2.1,fun i hi=> ?_⟩⟩
   by_cases h:i=n
   ·subst h;intro z;rcases IN Q1 I1 (by rw[sn];exact O) hnc (g1 q hq).2.1 z with w|w
    ·rw[sn,hm] at w;simp at w
    ·exact w
   ·exact(g1 q hq).2.2 i (by omega)
  ·have RP:=sB Q1 I1 c0 c8 (by omega) (a:=n) hnc x (by rw[sn];exact hm);rw[sn] at RP;refine⟨_,_,_,RP.1,RP.2,by rw[fL,if_pos hnc];omega,fun i hi=> ?_,ans,fun q hq=>⟨(g1 q hq).1.mono (eO own1 n),?_,fun i hi=> ?_⟩⟩
   ·rw[eT (by omega)];exact s1 i (by omega)
   ·obtain⟨r,hr,w⟩:=(g1 q hq).2.1;exact⟨r,c5 _ hr,w⟩
   ·by_cases h:i=n
    ·subst h;rw[cD,cD];intro z;have z':=z;rw[rZ Q1 I1 hnc (g1 q hq).1] at z';rcases IN Q1 I1 (by rw[sn];exact O) hnc (g1 q hq).2.1 z' with w|⟨t,ht',hts,w⟩
     ·refine⟨_,dh _ (d9.mpr rfl),?_,by rw[sn] at w;exact w⟩;unfold cG;refine decide_eq_true ?_;rw[fN _ _ _ _ (by rw[(Q1.row I1 hnc hnc).2];exact hnc),if_pos rfl];exact ko _
     ·exact⟨t,c5 _ ht',by rw[uW Q1 I1 hnc ht'];exact hts,w⟩
    ·rw[cI h];exact IQ ((g1 q hq).2.2 i (by omega)) _
end
noncomputable abbrev wR (sc:D) (c:Nat) (sp:Int) (bf:D) (v5 v6 v7 v8 v9 v10 v11 v12 v13 v14 v15 v16 v17:Option D):Rho:=[zn sc,zn (.int c),zn (.obj 0),zn (.int sp),zn bf,v5,v6,v7,v8,v9,v10,v11,v12,v13,v14,v15,v16,v17]
noncomputable def jO:D->Str
 |.tup [.str x,_,_]=>x
 |_=>""
theorem qM {n:Nat}:∀ {ts:List (List D)}{pre:List Str}{v6:Option D}{ω:Om},(∀ t∈ts,(∀ d∈t,fV d)/\t.length<64)->pre.length+64*ts.length<=900->ω[n]?=zn (.ml (pre.map D.str))->∃ w,cH (aZ 6) bT mF (ts.map D.lst) (wR sc c sp bf (zn (.obj n)) v6 v7 v8 v9 v10 v11 v12 v13 v14 v15 v16 v17) ω=zn (.nx (wR sc c sp bf (zn (.obj n)) w v7 v8 v9 v10 v11 v12 v13 v14 v15 v16 v17),ω.set n (.ml ((pre++ts.flatMap fun t=>t.map jO).map D.str)))
 |[],pre,v6,ω,_,_,hn=>⟨v6,by
   rw[List.flatMap_nil,dr,iJ hn];rfl⟩
 |t::ts,pre,v6,ω,h,hl,hn=>by
  obtain⟨he,ht⟩:=h t av;rw[bv] at hl;obtain⟨w,e2⟩:=qM (n:=n) (ts:=ts) (pre:=pre++t.map jO) (v6:=zn (.lst t)) (ω:=ω.set n (.ml ((pre++t.map jO).map D.str))) (fun t' h'=>h t' (ak _ h')) (by rw[bq,am];omega) (bQ hn);refine⟨w,?_⟩;have cp:cY tE (oIL (zV 6)) [zo] (aZ 0) (oPT jQ) (zX (zV 0) (zI 0)) (wR sc c sp bf (zn (.obj n)) (zn (.lst t)) v7 v8 v9 v10 v11 v12 v13 v14 v15 v16 v17) ω=zn (.ok (.lst ((t.map jO).map D.str)),ω):=by
   refine fB (ds:=t) (chk:=bT) (ω1:=ω) ?_ (by rw[bz];omega) ?_
   ·unfold oIL;rw[aY (aB (d:=.lst t) rfl)];rfl
   ·rw[gp];refine iQ (fun ρ=>∃ u,ρ=[u]) rfl ⟨_,rfl⟩ fun d hd ρ hρ=> ?_;obtain⟨u,rfl⟩:=hρ;obtain⟨x,a,b,v,rfl⟩:=he d hd;exact⟨_,rfl,⟨_,rfl⟩,rfl⟩
  have b:mF (wR sc c sp bf (zn (.obj n)) (zn (.lst t)) v7 v8 v9 v10 v11 v12 v13 v14 v15 v16 v17) ω=zn (.nx (wR sc c sp bf (zn (.obj n)) (zn (.lst t)) v7 v8 v9 v10 v11 v12 v13 v14 v15 v16 v17),ω.set n (.ml ((pre++t.map jO).map D.str))):=by
   unfold mF bV;rw[bW (kK (r:=.non) (ω3:=ω.set n (.ml ((pre++t.map jO).map D.str))) (aB (d:=.obj n) rfl) hn (aA cp aD) (by
    show(match ω[n]? with
     |some (.ml ds)=>(dX ω (.lst ((t.map jO).map D.str))).bind fun ys=>if ds.length+ys.length<=sizeLine then zn (D.non,ω.set n (.ml (ds++ys))) else zo
     |_=>zo)=_
    rw[hn]
    show(if(pre.map D.str).length+((t.map jO).map D.str).length<=sizeLine then zn (D.non,ω.set n (.ml (pre.map D.str++(t.map jO).map D.str))) else zo)=_
    rw[if_pos (by rw[am,am,am,bz];omega),b4]))]
  refine(cB rfl rfl b).trans ?_;rw[oz,fz] at e2;exact e2
theorem qA {n9 n10:Nat}{S:Nat->Hd}{y:Str}{pd:List Deed} (hne:n9≠n10) (hent:∀ i,i<c->(∀ d∈(S i).ents,fV d)/\(S i).ents.length<64) (c8:c<=8) (hpd:pd.length<=60):∀(r s:Nat) {v11 v12:Option D}{ω:Om},s+r=c->ω[n9]?=zn (.ml ((pd++aV s y).map Deed.d))->ω[n10]?=zn (.ml ((aw s).map fun k=>(S k).takeA y))->
  ∃ w11 w12,cH (aZ 11) bT sO (pI s r) (wR sc c sp (nG c S) v5 v6 (zn (.str y)) (zn (.lst (((aw s).flatMap fun k=>(S k).marksK y).map bE))) (zn (.obj n9)) (zn (.obj n10)) v11 v12 v13 v14 v15 v16 v17) ω=zn (.nx (wR sc c sp (nG c S) v5 v6 (zn (.str y)) (zn (.lst (((aw c).flatMap fun k=>(S k).marksK y).map bE))) (zn (.obj n9)) (zn (.obj n10)) w11 w12 v13 v14 v15 v16 v17),(ω.set n9 (.ml ((pd++aV c y).map Deed.d))).set n10 (.ml ((aw c).map fun k=>(S k).takeA y)))
 |0,s,v11,v12,ω,hs,h9,h10=>⟨v11,v12,by
   obtain rfl:s=c:=by omega
   rw[iJ h9,iJ h10];rfl⟩
 |r+1,s,v11,v12,ω,hs,h9,h10=>by
  have hsc:s<c:=by omega
  obtain⟨he,hl⟩:=hent s hsc;have ml:((S s).marksK y).length<64:=by
   unfold Hd.marksK;rw[am];exact jy (io ..) hl
  have gl:((aw s).flatMap fun k=>(S k).marksK y).length<=64*s:=by
   have:∀ m,m<=c->((aw m).flatMap fun k=>(S k).marksK y).length<=64*m:=fun m=>by
    induction m with
    |zero=>intro _;simp
    |succ m ih=>
     intro hm;rw[hX,qt,bq]
     have:=ih (by omega)
     have:((S m).marksK y).length<64:=by
      unfold Hd.marksK;rw[am];exact jy (io ..) (hent m (by omega)).2
     rw[show([m]:List Nat).flatMap (fun k=>(S k).marksK y)=(S m).marksK y by simp];omega
   exact this s (by omega)
  have n9':n9<ω.length:=iW h9;have n10':n10<ω.length:=iW h10;have tk:aV (s+1) y=aV s y++[.take (s:Int) y]:=by
   unfold aV;rw[hX,b4];rfl
  have eL:(pd++aV (s+1) y).map Deed.d=(pd++aV s y).map Deed.d++[Deed.d (.take (s:Int) y)]:=by
   rw[tk,<- fz,b4];rfl
  have eG:((aw (s+1)).flatMap fun k=>(S k).marksK y).map bE=((aw s).flatMap fun k=>(S k).marksK y).map bE++((S s).marksK y).map bE:=by
   rw[hX,qt,b4];rw[show([s]:List Nat).flatMap (fun k=>(S k).marksK y)=(S s).marksK y by simp]
  have eD:(aw (s+1)).map (fun k=>(S k).takeA y)=(aw s).map (fun k=>(S k).takeA y)++[(S s).takeA y]:=by
   rw[hX,b4];rfl
  obtain⟨w11,w12,e2⟩:=qA (sc:=sc) (sp:=sp) (v5:=v5) (v6:=v6) (v13:=v13) (v14:=v14) (v15:=v15) (v16:=v16) (v17:=v17) hne hent c8 hpd r (s+1) (v11:=zn (.int s)) (v12:=zn (.lst (((S s).marksK y).map bE))) (ω:=(ω.set n9 (.ml ((pd++aV (s+1) y).map Deed.d))).set n10 (.ml ((aw (s+1)).map fun k=>(S k).takeA y))) (by omega) (by rw[aM hne,bQ h9]) (bQ (by rw[aM (cw hne)];exact h10));refine⟨w11,w12,?_⟩;rw[jX];refine(cB rfl rfl (ρ2:=wR sc c sp (nG c S) v5 v6 (zn (.str y)) (zn (.lst (((aw (s+1)).flatMap fun k=>(S k).marksK y).map bE))) (zn (.obj n9)) (zn (.obj n10)) (zn (.int s)) (zn (.lst (((S s).marksK y).map bE))) v13 v14 v15 v16 v17) (ω2:=(ω.set n9 (.ml ((pd++aV (s+1) y).map Deed.d))).set n10 (.ml ((aw (s+1)).map fun k=>(S k).takeA y))) ?_).trans ?_
  ·have cp:=Fq (ds:=(S s).ents) (fl:=zX (zV 4) (zV 11)) (t:=dG (o2 (lL 8) (zX (zV 0) (zI 0)) (zV 1))) (f:=zX (zV 0) (zI 1)) (g:=fun d=>bE (aW d)) (j:=7) (y:=y) (ρ:=wR sc c sp (nG c S) v5 v6 (zn (.str y)) (zn (.lst (((aw s).flatMap fun k=>(S k).marksK y).map bE))) (zn (.obj n9)) (zn (.obj n10)) (zn (.int s)) v12 v13 v14 v15 v16 v17) (ω:=ω) he (by omega) (aT (aB (d:=nG c S) rfl) (aB (d:=.int s) rfl) (by
    show atI _ (s:Int)=_;exact Ox (by rw[bg,fw hsc];rfl))) rfl (fun h=>PL h y ω) fun h=>Ky h _ ω
   rw[show((S s).ents.filter (Ej y)).map (fun d=>bE (aW d))=((S s).marksK y).map bE by unfold Hd.marksK;rw[gp];rfl] at cp;unfold sO;refine(aN cp).trans ?_;refine(bF (ρ1:=wR sc c sp (nG c S) v5 v6 (zn (.str y)) (zn (.lst (((aw s).flatMap fun k=>(S k).marksK y).map bE))) (zn (.obj n9)) (zn (.obj n10)) (zn (.int s)) (zn (.lst (((S s).marksK y).map bE))) v13 v14 v15 v16 v17) (ω1:=ω.set n9 (.ml ((pd++aV (s+1) y).map Deed.d))) (by
    unfold bV;rw[bW (kK (r:=.non) (ω3:=ω.set n9 (.ml ((pd++aV (s+1) y).map Deed.d))) (aB (d:=.obj n9) rfl) h9 (aA (a:=Deed.d (.take (s:Int) y)) (ω1:=ω) rfl aD) (by
     simp only[pQ,h9];have tl:(aV s y).length=s:=by unfold aV;simp
     rw[if_pos (by rw[am,bq,tl,bz];omega),eL]))]
    rfl)).trans ?_
   refine(aN (d:=.lst (((aw (s+1)).flatMap fun k=>(S k).marksK y).map bE)) (ω1:=ω.set n9 (.ml ((pd++aV (s+1) y).map Deed.d))) (by
    rw[eG];exact Fw (a:=.lst (((aw s).flatMap fun k=>(S k).marksK y).map bE)) (b:=.lst (((S s).marksK y).map bE)) (ω1:=ω.set n9 (.ml ((pd++aV (s+1) y).map Deed.d))) (aB rfl) (aB rfl) rfl rfl (by rw[am,am];omega))).trans ?_
   have h10':(ω.set n9 (.ml ((pd++aV (s+1) y).map Deed.d)))[n10]?=zn (.ml ((aw s).map fun k=>(S k).takeA y)):=by rw[aM (cw hne)];exact h10
   unfold bV;rw[bW (kK (r:=.non) (ω3:=(ω.set n9 (.ml ((pd++aV (s+1) y).map Deed.d))).set n10 (.ml ((aw (s+1)).map fun k=>(S k).takeA y))) (aB (d:=.obj n10) rfl) h10' (aA (a:=(S s).takeA y) (ω1:=ω.set n9 (.ml ((pd++aV (s+1) y).map Deed.d))) (by
    unfold Hd.takeA
    by_cases hm:(S s).marksK y=[]
    ·rw[if_pos hm,hm];rfl
    ·rw[if_neg hm];obtain⟨q,l,hq⟩:∃ q l,(S s).marksK y=q::l:=by
      cases h:(S s).marksK y with
      |nil=>exact absurd h hm
      |cons q l=>exact⟨q,l,rfl⟩
     rw[hq];rfl) aD) (by
    simp only[pQ,h10'];rw[if_pos (by rw[am,fg,bz];omega),eD]))]
   rfl
  ·refine e2.trans ?_
   congr 2
   have sw:∀ {l:Om}{a b d:Ob},((l.set n9 a).set n10 b).set n9 d=(l.set n9 d).set n10 b:=fun {l a b d}=>by rw[List.set_comm _ _ (cw hne),oz]
   rw[sw,oz]
theorem Mc {n m:Nat}{ds:List D}{ω:Om} (hm:ω[m]?=zn (.ml ds)) (hl:ds.length<=1000) (h:∀ x∈ds,dA (n+1) [x,x] ω=zn (.ok (.bl true),ω)):dA (n+2) [.lst ds,.obj m] ω=zn (.ok (.bl true),ω):=by
 have sq:dX ω (.obj m)=zn ds:=by unfold dX;simp only[hm]
 have v0:∀ u,zV 0 [zn (.lst ds),zn (.obj m),u] ω=zn (.ok (.lst ds),ω):=fun u=>aB rfl;have v1:∀ u,zV 1 [zn (.lst ds),zn (.obj m),u] ω=zn (.ok (.obj m),ω):=fun u=>aB rfl;have i1:∀ T k,KB T (.lst ds)=zn k->jG T (zV 1) [zn (.lst ds),zn (.obj m),zo] ω=zn (.ok (.bl k),ω):=fun T k e=>cO (v1 zo) (by unfold LI;rw[sq];exact e);have l1:∀ u,oL dQ (aC (zV 1) aK) [zn (.lst ds),zn (.obj m),u] ω=zn (.ok (.int ds.length),ω):=fun u=>dH (aA (v1 u) aD) (by
  show(match dX ω (.obj m) with
   |some xs=>zn (D.int xs.length,ω)
   |none=>pu (NY [.obj m]) ω)=_
  rw[sq])
 have loop:∀(r s:Nat) (u:Option D),s+r=ds.length->∃ v,cH (aZ 2) bT (dN (jF (gU (bG (dA (n+1)) (aC (zX (zV 0) (zV 2)) (aC (zX (zV 1) (zV 2)) aK))))) (aS (oP (dC (.bl false)))) bI) (pI s r) [zn (.lst ds),zn (.obj m),u] ω=zn (.nx [zn (.lst ds),zn (.obj m),v],ω):=fun r=>by
  induction r with
  |zero=>exact fun s u _=>⟨u,rfl⟩
  |succ r ih=>
   intro s u hs;have hk:s<ds.length:=by omega
   obtain⟨v,e⟩:=ih (s+1) (zn (.int s)) (by omega);refine⟨v,?_⟩;rw[jX];refine(cB rfl rfl (ρ2:=[zn (.lst ds),zn (.obj m),zn (.int s)]) (ω2:=ω) ?_).trans e;show dN _ _ _ [zn (.lst ds),zn (.obj m),zn (.int s)] ω=_;rw[nE (ω1:=ω) (gJ (tru_ok (k:=true) (aP (aA (Ee (k:=s) (v0 _) (aB rfl) (.inl rfl) hk) (aA (aT (v1 _) (aB (d:=.int s) rfl) (by rw[sW hm];exact oU hk)) aD)) (h _ (gw hk)))))];rfl
 obtain⟨v,lp⟩:=loop ds.length 0 zo (by omega);refine aR rfl ?_;unfold mE;show aH _ _ [zn (.lst ds),zn (.obj m),zo] ω=_;rw[skip (cN (fC (v1 _) aQ rfl)),skip (tru_ok (i1 "bool" false rfl)),skip (tru_ok (i1 "int" false rfl)),skip (tru_ok (i1 "str" false rfl)),skip (tru_ok (i1 "dict" false rfl))];rw[skip (BI (b:=false) (i1 "tuple" false rfl) (cO (v0 _) rfl))];rw[skip (xY (BI (b:=true) (i1 "list" true rfl) (cO (v0 _) rfl)) (gJ (k:=true) (tru_ok (by unfold BG;rw[aY (v1 _)];show oR (pu ((Eh ω (.obj m)).map D.bl) ω)=_;unfold Eh;rw[sq];rfl))))];rw[skip (vL (fQ (v0 _) (.inl rfl)) (l1 _) rfl)];rw[bF (eV (by
  unfold bJ;rw[bW (qG (c:=ds.length) (l1 _) hl)];exact lp))]
 rfl
theorem Ay {gs:List (List Key)} (hk:∀ q∈gs,∃ x y:Nat,q=eJ x y):∀ {ds:List D}{v17:Option D}{ω:Om},(∀ d∈ds,∃(x:Str) (a b:Nat) (v:Int),d=.tup [.str x,mkD a b,.int v]/\eJ a b∉gs)->∃ w,cH (aZ 17) bT sR ds (wR sc c sp bf v5 v6 v7 (zn (.lst (gs.map bE))) v9 v10 v11 v12 v13 v14 v15 v16 v17) ω=zn (.nx (wR sc c sp bf v5 v6 v7 (zn (.lst (gs.map bE))) v9 v10 v11 v12 v13 v14 v15 v16 w),ω)
 |[],v17,ω,_=>⟨v17,rfl⟩
 |d::ds,v17,ω,h=>by
  obtain⟨x,a,b,v,rfl,hn⟩:=h d av;obtain⟨w,e⟩:=Ay hk (ds:=ds) (v17:=zn (.tup [.str x,mkD a b,.int v])) (ω:=ω) fun d' h'=>h d' (ak _ h');refine⟨w,(cB rfl rfl (ρ2:=wR sc c sp bf v5 v6 v7 (zn (.lst (gs.map bE))) v9 v10 v11 v12 v13 v14 v15 v16 (zn (.tup [.str x,mkD a b,.int v]))) (ω2:=ω) ?_).trans e⟩;unfold sR;rw[nE (ω1:=ω) (cN (fC (d:=.bl false) (aT (aB (d:=.tup [.str x,mkD a b,.int v]) rfl) aQ rfl) (aB (d:=.lst (gs.map bE)) rfl) (by
   show(inO (fun d=>eqD 7 d (mkD a b)) (gs.map bE)).map D.bl=_
   rw[AO a b _ hk];cases hm:Hf (eJ a b) gs with
   |false=>rfl
   |true=>exact absurd (memK_iff.mp hm) hn)))]
  rfl
theorem Ar {gs:List (List Key)} (hk:∀ q∈gs,∃ x y:Nat,q=eJ x y):∀ {ts:List (List D)}{v6 v17:Option D}{ω:Om},(∀ t∈ts,∀ d∈t,∃(x:Str) (a b:Nat) (v:Int),d=.tup [.str x,mkD a b,.int v]/\eJ a b∉gs)->∃ w6 w17,cH (aZ 6) bT sQ (ts.map D.lst) (wR sc c sp bf v5 v6 v7 (zn (.lst (gs.map bE))) v9 v10 v11 v12 v13 v14 v15 v16 v17) ω=zn (.nx (wR sc c sp bf v5 w6 v7 (zn (.lst (gs.map bE))) v9 v10 v11 v12 v13 v14 v15 v16 w17),ω)
 |[],v6,v17,ω,_=>⟨v6,v17,rfl⟩
 |t::ts,v6,v17,ω,h=>by
  obtain⟨w,e1⟩:=Ay (sc:=sc) (c:=c) (sp:=sp) (bf:=bf) (v5:=v5) (v6:=zn (.lst t)) (v7:=v7) (v9:=v9) (v10:=v10) (v11:=v11) (v12:=v12) (v13:=v13) (v14:=v14) (v15:=v15) (v16:=v16) hk (ds:=t) (v17:=v17) (ω:=ω) (h t av);obtain⟨w6,w17,e2⟩:=Ar hk (ts:=ts) (v6:=zn (.lst t)) (v17:=w) (ω:=ω) fun t' h'=>h t' (ak _ h');refine⟨w6,w17,(cB rfl rfl (ρ2:=wR sc c sp bf v5 (zn (.lst t)) v7 (zn (.lst (gs.map bE))) v9 v10 v11 v12 v13 v14 v15 v16 w) (ω2:=ω) ?_).trans e2⟩;unfold sQ;refine eV ?_;unfold bJ oIL;rw[bW (x:=(t,bT)) (ω1:=ω) (by rw[aY (aB (d:=.lst t) rfl)];rfl)];exact e1
theorem CP {S:Nat->Hd} (c0:0<c) (c8:c<=8) (I:HInv c own S) (ht:tot c own<64) (ω:Om):cF [nG c S,.int c] ω=zn (.ok (.bl true),ω):=by
 have:=Oz (ts:=(aw c).map fun i=>(S i).ents) (c:=c) (fun t h d hd=>by
  obtain⟨i,hi,rfl⟩:=ay.mp h;exact((I i (dn.mp hi)).1.ok c0 c8 ht).entsEnt d hd) (by simp) ω
 rw[gp] at this;exact this
theorem Ow (xs:List D) (e:Nat):tM xs zo (zn (e:Int))=xs.take e:=by
 unfold tM;rw[HT.sIx_nat,HT.sIx_none,List.drop_zero,Nat.sub_zero];rcases Nat.le_total e xs.length with h|h
 ·rw[ux h]
 ·rw[Nat.min_eq_right h,i6 (bp _),i6 h]
theorem yX {n9 n14 e:Nat}{lg ms:List Deed}{gs:List (List Key)}{ω:Om}{v6 v16 v17:Option D} (c0:0<c) (c8:c<=8) (h9:ω[n9]?=zn (.ml (lg.map Deed.d))) (h14:ω[n14]?=zn (.ml (ms.map Deed.d))) (hl:lg.length+ms.length<64) (hk:∀ q∈gs,∃ x y:Nat,q=eJ x y)
  (hg:∀ i,i<c->∀ d∈(iX c (lg++ms.take e) i).ents,∃(x:Str) (a b:Nat) (v:Int),d=.tup [.str x,mkD a b,.int v]/\eJ a b∉gs):∃ ω' w6 w16 w17,Keep [] ω ω'/\sP (wR sc c sp bf v5 v6 v7 (zn (.lst (gs.map bE))) (zn (.obj n9)) v10 v11 v12 v13 (zn (.obj n14)) (zn (.int e)) v16 v17) ω=zn (.nx (wR sc c sp bf v5 w6 v7 (zn (.lst (gs.map bE))) (zn (.obj n9)) v10 v11 v12 v13 (zn (.obj n14)) (zn (.int e)) w16 w17),ω'):=by
 have tl:(ms.take e).length<=ms.length:=by rw[i9];omega
 obtain⟨ω',ea,K,own,I,ht⟩:=lR c0 c8 (ds:=lg++ms.take e) (by rw[bq];omega) (ω:=ω) (d:=.lst ((lg++ms.take e).map Deed.d)) rfl;obtain⟨w6,w17,e1⟩:=Ar (sc:=sc) (c:=c) (sp:=sp) (bf:=bf) (v5:=v5) (v7:=v7) (v9:=zn (.obj n9)) (v10:=v10) (v11:=v11) (v12:=v12) (v13:=v13) (v14:=zn (.obj n14)) (v15:=zn (.int e)) (v16:=zn (nG c (iX c (lg++ms.take e)))) hk (ts:=(aw c).map fun i=>(iX c (lg++ms.take e) i).ents) (v6:=v6) (v17:=v17) (ω:=ω') fun t h=>by
  obtain⟨i,hi,rfl⟩:=ay.mp h;exact hg i (dn.mp hi)
 refine⟨ω',w6,zn (nG c (iX c (lg++ms.take e))),w17,K,?_⟩;unfold sP;refine(aN (d:=nG c (iX c (lg++ms.take e))) (ω1:=ω') (aT (aP (aA (aB (d:=.int c) rfl) (aA (a:=.lst ((lg++ms.take e).map Deed.d)) (ω1:=ω) (by
  rw[b4];refine Fw (a:=.obj n9) (b:=.lst ((ms.take e).map Deed.d)) (ω1:=ω) (aB rfl) ?_ (by unfold dX;simp only[h9]) rfl (by rw[am,am];omega);unfold oSl;rw[aY (aB (d:=.obj n14) rfl)];show oR (pu (KW ω (.obj n14) zo (zn (e:Int))) ω)=_
  have:dX ω (.obj n14)=zn (ms.map Deed.d):=by unfold dX;simp only[h14]
  unfold KW;rw[this];show zn (Rz.ok (D.lst (tM (ms.map Deed.d) zo (zn (e:Int)))),ω)=_;rw[Ow,wg]) aD)) ea) aQ rfl)).trans ?_
 refine(skip (gJ (k:=true) (tru_ok (aP (aA (aB (d:=nG c (iX c (lg++ms.take e))) rfl) (aA (aB (d:=.int c) rfl) aD)) (CP c0 c8 I ht ω'))))).trans ?_;refine eV ?_;unfold bJ oIL;rw[bW (x:=(((aw c).map fun i=>(iX c (lg++ms.take e) i).ents).map D.lst,bT)) (ω1:=ω') (by
  rw[aY (aB (d:=nG c (iX c (lg++ms.take e))) rfl),gp];rfl)]
 exact e1
theorem uU {ns:List Int}{i j:Nat}{f:OG D}{l u:DO}{ρ:Rho}{ω:Om} (e:f ρ ω=zn (.ok (.scr (ns.map D.int)),ω)) (hl:l ρ=zn (zn (i:Int))) (hu:u ρ=zn (zn (j:Int))):∃ xs:List Int,oSl f l u ρ ω=zn (.ok (.lst (iv xs)),ω)/\xs.length<=j-i:=by
 have h1:tM (ns.map D.int) (zn (i:Int)) (zn (j:Int))=iv ((ns.drop (min i ns.length)).take (min j ns.length-min i ns.length)):=by
  unfold tM;rw[HT.sIx_nat,HT.sIx_nat,am];unfold iv;rw[wg,List.map_drop]
 refine⟨(ns.drop (min i ns.length)).take (min j ns.length-min i ns.length),?_,?_⟩
 ·unfold oSl;rw[aY e]
  show(l ρ).bind _=_
  rw[hl]
  show(u ρ).bind _=_
  rw[hu];show oR (pu (zn (D.lst (tM (ns.map D.int) (zn (i:Int)) (zn (j:Int))))) ω)=_;rw[h1];rfl
 ·rw[i9];omega
theorem Bd (c:Nat) (p q:List Deed):iX c (p++q)=(fJ c q (iX c p)).2:=by
 unfold iX;rw[jW]
theorem pY:∀ ns:List Str,mM (ns.map D.str)=zn ns
 |[]=>rfl
 |x::ns=>by
  show(mM (ns.map D.str)).map (x::·)=_
  rw[pY ns];rfl
theorem yG {n:Nat}{ds:List D}{f:OG D}{ρ:Rho}{ω:Om} (e:f ρ ω=zn (.ok (.obj n),ω)) (h:ω[n]?=zn (.ml ds)):oL dQ (aC f aK) ρ ω=zn (.ok (.int ds.length),ω):=dH (aA e aD) (by
 have sq:dX ω (.obj n)=zn ds:=by unfold dX;simp only[h]
 show(match dX ω (.obj n) with
  |some xs=>zn (D.int xs.length,ω)
  |none=>pu (NY [.obj n]) ω)=_
 rw[sq])
theorem Fe {S:Nat->Hd} (c0:0<c) (c8:c<=8) (I:HInv c own S) (ht:tot c own<64) (hi:i<c) {d:D} (hd:d∈(S i).ents):d∈(S i).table.map (·.2)/\∃(x:Str) (a b:Nat) (v:Int),d=.tup [.str x,mkD a b,.int v]:=by
 have O:=(I i hi).1.ok c0 c8 ht;have hm:=O.ents.2.mem_iff.mp hd;obtain⟨kv,hk,rfl⟩:=ay.mp hm;obtain⟨a,b,_,_,_,_,x,v,e⟩:=(I i hi).1.tk kv hk;exact⟨hm,x,a,b,v,e⟩
theorem HS {S:Nat->Hd}{rs:List Rec}{kn:Nat->Nat->List Int} (c0:0<c) (c8:c<=8) (I:HInv c own S) (Q:Rel c own S rs kn) (ht:tot c own<60) (w:Str):(lG ((((aw c).map fun i=>(S i).ents).flatMap fun t=>t.map jO)++[w])).length<64:=by
 have nd:(lG ((((aw c).map fun i=>(S i).ents).flatMap fun t=>t.map jO)++[w])).Nodup:=by
  unfold List.Nodup;exact(nK _).imp fun {a b} h (z:a=b)=>iK a (by rw[<- z] at h;exact h)
 have:=kI nd (m:=(rs.filterMap fun r=>r.put.map (·.1))++[w]) fun x hx=>by
  rcases c4.mp (ord_mem.mp hx) with z|z
  ·obtain⟨t,ht',hx⟩:=my.mp z;obtain⟨i,hi,rfl⟩:=ay.mp ht';obtain⟨d,hd,rfl⟩:=ay.mp hx;have hi:=dn.mp hi;obtain⟨hm,_⟩:=Fe c0 c8 I (by omega) hi hd;obtain⟨⟨r,hr,_,he⟩,_⟩:=mem_pres.mp ((Q.tab i hi d).mp hm);refine c5 _ (jb.mpr ⟨r,hr,?_⟩);unfold Rec.ent at he;cases hp:r.put with
   |none=>rw[hp] at he;cases he
   |some p=>rw[hp] at he;cases he;rfl
  ·exact dh _ z
 have h1:=Gx Q.recs;have h2:(rs.filterMap fun r=>r.put.map (·.1)).length<=rs.length:=List.length_filterMap_le ..;rw[bq,jd] at this;omega
theorem law_true (ns:List Int) (hns:ns.length<=63):∃ ω',p_law [.scr (ns.map D.int)] []=zn (.ok (.bl true),ω'):=by
 obtain⟨x0,e0⟩:=FK ns 0 [];have r8:=yB (x:=x0*48271 % 1069) (q:=8) (by decide);obtain⟨c,hc,c0,c8⟩:∃ c:Nat,([1,2,3,4,2,3,4,8]:List Int).getD (x0*48271 % 1069 % 8).toNat 0=(c:Int)/\0<c/\c<=8:=by
  generalize x0*48271 % 1069 % 8=r at r8
  have hr:r=0∨r=1∨r=2∨r=3∨r=4∨r=5∨r=6∨r=7:=by omega
  rcases hr with rfl|rfl|rfl|rfl|rfl|rfl|rfl|rfl
  ·exact⟨1,rfl,by decide,by decide⟩
  ·exact⟨2,rfl,by decide,by decide⟩
  ·exact⟨3,rfl,by decide,by decide⟩
  ·exact⟨4,rfl,by decide,by decide⟩
  ·exact⟨2,rfl,by decide,by decide⟩
  ·exact⟨3,rfl,by decide,by decide⟩
  ·exact⟨4,rfl,by decide,by decide⟩
  ·exact⟨8,rfl,by decide,by decide⟩
 obtain⟨xs,es,hxs⟩:=uU (f:=zV 0) (ρ:=[zn (.scr (ns.map D.int)),zn (.int c),zo,zo,zo,zo,zo,zo,zo,zo,zo,zo,zo,zo,zo,zo,zo,zo]) (ω:=[]) (ns:=ns) (i:=2) (j:=18) (l:=dSo (dC (.int 2))) (u:=dSo (dC (.int 18))) (aB rfl) rfl rfl;obtain⟨d0,hd0,ed⟩:=Bf (xs:=xs) c0 c8 (by omega) [];obtain⟨ω1,hω1⟩:∃ ω1:Om,ω1=[]++[Ob.ml (d0.map Deed.d)]:=⟨_,rfl⟩;rw[<- hω1] at ed;have g1:ω1[0]?=zn (.ml (d0.map Deed.d)):=by rw[hω1];rfl
 obtain⟨x3,e3⟩:=FK ns 0 ω1;have rs3:=yB (x:=x3*48271 % 1087) (q:=(d0.length:Int)+1) (by omega);obtain⟨sp,hsp⟩:∃ sp,sp=x3*48271 % 1087 % ((d0.length:Int)+1):=⟨_,rfl⟩;rw[<- hsp] at rs3;obtain⟨w0,ew0⟩:=xF (j:=0) (by decide) (by decide) c0 c8 ω1;obtain⟨ds,hds⟩:∃ ds,ds=d0.take sp.toNat++Deed.put 0 w0 5::d0.drop sp.toNat:=⟨_,rfl⟩;have dl:ds.length<=17:=by rw[hds,bq,bv,i9,mq];omega
 have em:(d0.map Deed.d).take sp.toNat++Deed.d (.put 0 w0 5)::(d0.map Deed.d).drop sp.toNat=ds.map Deed.d:=by rw[hds,b4,bu,wg,List.map_drop]
 obtain⟨ω2,hω2⟩:∃ ω2:Om,ω2=ω1.set 0 (.ml (ds.map Deed.d)):=⟨_,rfl⟩;have g2:ω2[0]?=zn (.ml (ds.map Deed.d)):=by rw[hω2];exact bQ g1
 obtain⟨ω3,ea,K3,_⟩:=lR c0 c8 (ds:=ds) (by omega) (ω:=ω2) (d:=.obj 0) (by unfold DeedsAt dX;simp only[g2]);have g3:ω3[0]?=zn (.ml (ds.map Deed.d)):=by rw[K3.2 0 (iW g2) (by simp)];exact g2
 obtain⟨rs,kn,own,I0,Q0,t0⟩:=Da c0 c8 ds (LD c) (Ry c) (by rw[LR];omega);rw[LR,Nat.zero_add] at t0;have I0:HInv c own (iX c ds):=I0;have Q0:Rel c own (iX c ds) rs kn:=Q0;obtain⟨S,hS⟩:∃ S,S=iX c ds:=⟨_,rfl⟩;rw[<- hS] at I0 Q0 ea;have hent:∀ i,i<c->(∀ d∈(S i).ents,fV d)/\(S i).ents.length<64:=fun i hi=>by
  have O:=(I0 i hi).1.ok c0 c8 (by omega);exact⟨O.entsEnt,O.entsLen⟩
 -- the names
 have g4:(ω3++[Ob.ml []])[ω3.length]?=zn (.ml (([]:List Str).map D.str)):=by simp
 obtain⟨w6,e5⟩:=qM (sc:=.scr (ns.map D.int)) (c:=c) (sp:=sp) (bf:=nG c S) (v7:=zo) (v8:=zo) (v9:=zo) (v10:=zo) (v11:=zo) (v12:=zo) (v13:=zo) (v14:=zo) (v15:=zo) (v16:=zo) (v17:=zo) (n:=ω3.length) (ts:=(aw c).map fun i=>(S i).ents) (pre:=[]) (v6:=zo) (ω:=ω3++[Ob.ml []]) (fun t h=>by
  obtain⟨i,hi,rfl⟩:=ay.mp h;exact hent i (dn.mp hi)) (by rw[am,fg];show 0+64*c<=900;omega) g4
 obtain⟨xs5,hx5⟩:∃ xs5,xs5=((aw c).map fun i=>(S i).ents).flatMap fun t=>t.map jO:=⟨_,rfl⟩;rw[yr,<- hx5] at e5;obtain⟨ω5,hω5⟩:∃ ω5,ω5=(ω3++[Ob.ml []]).set ω3.length (.ml (xs5.map D.str)):=⟨_,rfl⟩;rw[<- hω5] at e5;have z3:=iW g3;have l5:ω5.length=ω3.length+1:=by rw[hω5];simp
 have g5:ω5[ω3.length]?=zn (.ml (xs5.map D.str)):=by rw[hω5];exact bQ g4
 have g5z:ω5[0]?=zn (.ml (ds.map Deed.d)):=by rw[hω5,aM (by omega),bc z3];exact g3
 obtain⟨w1,ew1⟩:=xF (j:=0) (by decide) (by decide) c0 c8 ω5;have few:=HS c0 c8 I0 Q0 (by omega) w1;rw[<- hx5] at few;have xl:xs5.length<=512:=by
  have:∀ m,m<=c->(((aw m).map fun i=>(S i).ents).flatMap fun t=>t.map jO).length<=64*m:=fun m=>by
   induction m with
   |zero=>intro _;simp
   |succ m ih=>
    intro hm;have h1:=ih (by omega);have h2:=(hent m (by omega)).2;rw[hX,b4,qt,bq];rw[show([m]:List Nat).map (fun i=>(S i).ents)=[(S m).ents] from rfl,show([(S m).ents]:List (List D)).flatMap (fun t=>t.map jO)=(S m).ents.map jO by simp,am];omega
  have:=this c (bp c)
  rw[<- hx5] at this;omega
 obtain⟨nm,hnm⟩:∃ nm,nm=lG (xs5++[w1]):=⟨_,rfl⟩;rw[<- hnm] at few;have nm0:0<nm.length:=by
  have:w1∈nm:=by rw[hnm];exact ord_mem.mpr (by simp)
  exact u5 this
 obtain⟨x10,e10⟩:=FK ns 1 ω5;have r10:=yB (x:=x10*48271 % 1091) (q:=(nm.length:Int)) (by omega);obtain⟨k10,hk10⟩:∃ k:Nat,x10*48271 % 1091 % (nm.length:Int)=(k:Int):=Int.eq_ofNat_of_zero_le r10.1;have k10l:k10<nm.length:=by omega
 obtain⟨y,hy⟩:∃ y,y=nm[k10]:=⟨_,rfl⟩
 -- longer,due
 obtain⟨ω7,hω7⟩:∃ ω7,ω7=(ω5++[Ob.ml (ds.map Deed.d)])++[Ob.ml []]:=⟨_,rfl⟩;have g79:ω7[ω5.length]?=zn (.ml ((ds++aV 0 y).map Deed.d)):=by
  rw[hω7,show aV 0 y=[] from rfl,dr];simp
 have g710:ω7[ω5.length+1]?=zn (.ml ((aw 0).map fun k=>(S k).takeA y)):=by
  rw[hω7];simp
 have g7z:ω7[0]?=zn (.ml (ds.map Deed.d)):=by
  rw[hω7,bc (by simp),bc (by omega)];exact g5z
 obtain⟨w11,w12,e8⟩:=qA (sc:=.scr (ns.map D.int)) (c:=c) (sp:=sp) (v5:=zn (.lst (nm.map D.str))) (v6:=w6) (v13:=zo) (v14:=zo) (v15:=zo) (v16:=zo) (v17:=zo) (n9:=ω5.length) (n10:=ω5.length+1) (S:=S) (y:=y) (pd:=ds) (by omega) hent c8 (by omega) c 0 (v11:=zo) (v12:=zo) (ω:=ω7) (by omega) g79 g710;obtain⟨lg,hlg⟩:∃ lg,lg=ds++aV c y:=⟨_,rfl⟩;obtain⟨gs,hgs⟩:∃ gs,gs=(aw c).flatMap fun k=>(S k).marksK y:=⟨_,rfl⟩;rw[<- hlg,<- hgs] at e8;have tkl:(aV c y).length=c:=by unfold aV;simp
 have ll:lg.length<=25:=by rw[hlg,bq,tkl];omega
 obtain⟨ω8,hω8⟩:∃ ω8,ω8=(ω7.set ω5.length (.ml (lg.map Deed.d))).set (ω5.length+1) (.ml ((aw c).map fun k=>(S k).takeA y)):=⟨_,rfl⟩;rw[<- hω8] at e8;have g89:ω8[ω5.length]?=zn (.ml (lg.map Deed.d)):=by rw[hω8,aM (by omega)];exact bQ g79
 have g810:ω8[ω5.length+1]?=zn (.ml ((aw c).map fun k=>(S k).takeA y)):=by rw[hω8];exact bQ (by rw[aM (by omega)];exact g710)
 have g8z:ω8[0]?=zn (.ml (ds.map Deed.d)):=by rw[hω8,aM (by omega),aM (by omega)];exact g7z
 -- the answers
 obtain⟨ω9,e9,K9,p9⟩:=Cm c0 c8 (ds:=lg) (by omega) ω8;have gone:∀ q,q∈gs->KeyIn c own q/\OC rs q y:=fun q hq=>by
  rw[hgs] at hq;obtain⟨k,hk,hq⟩:=my.mp hq;have hk:=dn.mp hk;have O:=(I0 k hk).1.ok c0 c8 (by omega);exact⟨(I0 k hk).1.marks O y q hq,Mq Q0 I0 O hk hq⟩
 obtain⟨rs1,kn1,own1,I1,Q1,t1,_,a1,gn1⟩:=LV I0 Q0 c0 c8 (by omega) (gs:=fun q=>q∈gs) gone c (bp c);have told:kY c lg=kY c ds++(aw c).map fun k=>(S k).takeA y:=by
  unfold kY;rw[hlg,jW];show _++(fJ c (aV c y) (iX c ds)).1=_;rw[<- hS,a1]
 have dtl:(kY c ds).length=ds.length:=Ax c ds _;have g9z:ω9[0]?=zn (.ml (ds.map Deed.d)):=by rw[K9.2 0 (iW g8z) (by simp)];exact g8z
 have g99:ω9[ω5.length]?=zn (.ml (lg.map Deed.d)):=by rw[K9.2 _ (iW g89) (by simp)];exact g89
 have g910:ω9[ω5.length+1]?=zn (.ml ((aw c).map fun k=>(S k).takeA y)):=by rw[K9.2 _ (iW g810) (by simp)];exact g810
 have so:=Mc (n:=6) g910 (by rw[am,fg];omega) fun x hx=>Jd (n:=6) ((p9 x (by rw[told];exact dh _ hx)).mono (by decide)) ω9
 -- further deeds
 obtain⟨ys,es2,hys⟩:=uU (f:=zV 0) (ρ:=wR (.scr (ns.map D.int)) c sp (nG c S) (zn (.lst (nm.map D.str))) w6 (zn (.str y)) (zn (.lst (gs.map bE))) (zn (.obj ω5.length)) (zn (.obj (ω5.length+1))) w11 w12 (zn (.lst (kY c lg))) zo zo zo zo) (ω:=ω9) (ns:=ns) (i:=18) (j:=33) (l:=dSo (dC (.int 18))) (u:=dSo (dC (.int 33))) (aB rfl) rfl rfl;obtain⟨ms,hms,em2⟩:=Bf (xs:=ys) c0 c8 (by omega) ω9;obtain⟨ωa,hωa⟩:∃ ωa,ωa=ω9++[Ob.ml (ms.map Deed.d)]:=⟨_,rfl⟩;rw[<- hωa] at em2;have ga9:ωa[ω5.length]?=zn (.ml (lg.map Deed.d)):=by rw[hωa,bc (iW g99)];exact g99
 have ga14:ωa[ω9.length]?=zn (.ml (ms.map Deed.d)):=by rw[hωa];simp
 have never:∀ e:Nat,∀ i,i<c->∀ d∈(iX c (lg++ms.take e) i).ents,∃(x:Str) (a b:Nat) (v:Int),d=.tup [.str x,mkD a b,.int v]/\eJ a b∉gs:=fun e i hi d hd=>by
  have tl:(ms.take e).length<=ms.length:=by rw[i9];omega
  obtain⟨rs2,kn2,own2,I2,Q2,t2,gn2⟩:=IP (gs:=fun q=>q∈gs) c0 c8 (ms.take e) I1 Q1 (by omega) fun q hq=>⟨(gn1 q hq).1,(gn1 q hq).2.2⟩;have eS:iX c (lg++ms.take e)=(fJ c (ms.take e) (fJ c (aV c y) S).2).2:=by rw[Bd,hlg,Bd,<- hS]
  rw[<- eS] at I2 Q2;obtain⟨hm,x,a,b,v,rfl⟩:=Fe c0 c8 I2 (by omega) hi hd;exact⟨x,a,b,v,rfl,fun z=>Hy Q2 hi ((gn2 _ z).2 i hi) hm rfl⟩
 have hk:∀ q∈gs,∃ x y:Nat,q=eJ x y:=fun q hq=>(gone q hq).1.mk;have keep:∀ {ω:Om},Keep [] ωa ω->ω[ω5.length]?=zn (.ml (lg.map Deed.d))/\ω[ω9.length]?=zn (.ml (ms.map Deed.d)):=fun {ω} K=>⟨by rw[K.2 _ (iW ga9) (by simp)];exact ga9,by rw[K.2 _ (iW ga14) (by simp)];exact ga14⟩;obtain⟨ωb,b6,b16,b17,Kb,eb⟩:=yX (sc:=.scr (ns.map D.int)) (c:=c) (sp:=sp) (bf:=nG c S) (v5:=zn (.lst (nm.map D.str))) (v7:=zn (.str y)) (v10:=zn (.obj (ω5.length+1))) (v11:=w11) (v12:=w12) (v13:=zn (.lst (kY c lg))) (v6:=w6) (v16:=zo) (v17:=zo) (e:=0) c0 c8 ga9 ga14 (by omega) hk (never 0);obtain⟨ωc,c6,c16,c17,Kc,ec⟩:=yX (sc:=.scr (ns.map D.int)) (c:=c) (sp:=sp) (bf:=nG c S) (v5:=zn (.lst (nm.map D.str))) (v7:=zn (.str y)) (v10:=zn (.obj (ω5.length+1))) (v11:=w11) (v12:=w12) (v13:=zn (.lst (kY c lg))) (v6:=b6) (v16:=b16) (v17:=b17) (e:=ms.length / 3) c0 c8 (keep Kb).1 (keep Kb).2 (by omega) hk (never _);obtain⟨ωd,d6,d16,d17,Kd,ed2⟩:=yX (sc:=.scr (ns.map D.int)) (c:=c) (sp:=sp) (bf:=nG c S) (v5:=zn (.lst (nm.map D.str))) (v7:=zn (.str y)) (v10:=zn (.obj (ω5.length+1))) (v11:=w11) (v12:=w12) (v13:=zn (.lst (kY c lg))) (v6:=c6) (v16:=c16) (v17:=c17) (e:=ms.length) c0 c8 (keep (Kb.trans Kc)).1 (keep (Kb.trans Kc)).2 (by omega) hk (never _);refine⟨ωd,aR rfl ?_⟩;unfold NU;refine(aN (d:=.int c) (ω1:=[]) (by
  rw[<- hc];exact Ed (xs:=[1,2,3,4,2,3,4,8]) rfl (lC (a:=x0) (aP (aA (aB (d:=.scr (ns.map D.int)) rfl) (aA aQ aD)) e0) aQ (by decide) (by decide)) r8.1 r8.2)).trans ?_
 refine(aN (aP (aA es (aA (aB (d:=.int c) rfl) aD)) ed)).trans ?_;refine(aN (d:=.int sp) (ω1:=ω1) (by
  rw[hsp];refine lC (a:=x3) (aP (aA (aB (d:=.scr (ns.map D.int)) rfl) (aA aQ aD)) e3) (rE ?_ aQ) (by decide) (by omega)
  have:=yG (f:=zV 2) (ρ:=[zn (.scr (ns.map D.int)),zn (.int c),zn (.obj 0),zo,zo,zo,zo,zo,zo,zo,zo,zo,zo,zo,zo,zo,zo,zo]) (aB rfl) g1
  rw[am] at this;exact this)).trans ?_
 refine(bF (ρ1:=[zn (.scr (ns.map D.int)),zn (.int c),zn (.obj 0),zn (.int sp),zo,zo,zo,zo,zo,zo,zo,zo,zo,zo,zo,zo,zo,zo]) (ω1:=ω2) (by
  unfold bV;rw[bW (kK (r:=.non) (ω3:=ω2) (aB (d:=.obj 0) rfl) g1 (aA (aB (d:=.int sp) rfl) (aA (a:=Deed.d (.put 0 w0 5)) (ω1:=ω1) (dH (aA aQ (aA aQ (aA (aP (aA aQ (aA (aB (d:=.int c) rfl) aD)) ew0) (aA aQ aD)))) rfl) aD)) (by
   show(match ω1[0]? with
    |some (.ml ds)=>if 0<=sp/\sp<=ds.length/\ds.length<1000 then zn (D.non,ω1.set 0 (.ml (ds.take sp.toNat++Deed.d (.put 0 w0 5)::ds.drop sp.toNat))) else zo
    |_=>zo)=_
   rw[g1]
   show(if 0<=sp/\sp<=((d0.map Deed.d).length:Int)/\(d0.map Deed.d).length<1000 then zn (D.non,ω1.set 0 (.ml ((d0.map Deed.d).take sp.toNat++Deed.d (.put 0 w0 5)::(d0.map Deed.d).drop sp.toNat))) else zo)=_
   rw[if_pos ⟨rs3.1,by rw[am];omega,by rw[am];omega⟩,em,<- hω2]))]
  rfl)).trans ?_
 refine(aN (d:=nG c S) (ω1:=ω3) (aT (aP (aA (aB (d:=.int c) rfl) (aA (aB (d:=.obj 0) rfl) aD)) ea) aQ rfl)).trans ?_;refine(skip (gJ (k:=true) (tru_ok (aP (aA (aB (d:=nG c S) rfl) (aA (aB (d:=.int c) rfl) aD)) (CP c0 c8 I0 (by omega) ω3))))).trans ?_;refine(aN (d:=.obj ω3.length) (ω1:=ω3++[.ml []]) rfl).trans ?_;refine(bF (eV (by
  unfold bJ oIL;rw[bW (x:=(((aw c).map fun i=>(S i).ents).map D.lst,bT)) (ω1:=ω3++[.ml []]) (by
   rw[aY (aB (d:=nG c S) rfl),gp];rfl)]
  exact e5))).trans ?_
 refine(aN (d:=.lst (nm.map D.str)) (ω1:=ω5) (by
  unfold sE;rw[aY (Fw (a:=.obj ω3.length) (b:=.lst [.str w1]) (ω1:=ω5) (aB rfl) (dH (aA (aP (aA aQ (aA (aB (d:=.int c) rfl) aD)) ew1) aD) rfl) (xs:=xs5.map D.str) (by unfold dX;simp only[g5]) rfl (by rw[am];show xs5.length+1<=1000;omega))];show oR (pu ((mM (xs5.map D.str++[.str w1])).bind fun ns=>if ns.length<=900/\(lG ns).length<64 then zn (D.lst ((lG ns).map D.str)) else zo) ω5)=_;rw[show xs5.map D.str++[.str w1]=(xs5++[w1]).map D.str by rw[b4];rfl,pY];show oR (pu (if(xs5++[w1]).length<=900/\(lG (xs5++[w1])).length<64 then zn (D.lst ((lG (xs5++[w1])).map D.str)) else zo) ω5)=_;rw[if_pos ⟨by rw[bq,jd];omega,by rw[<- hnm];exact few⟩,<- hnm];rfl)).trans ?_
 refine(aN (d:=.str y) (ω1:=ω5) (aT (a:=.lst (nm.map D.str)) (b:=.int k10) (aB rfl) (by
  rw[<- hk10];refine lC (a:=x10) (aP (aA (aB (d:=.scr (ns.map D.int)) rfl) (aA aQ aD)) e10) ?_ (by decide) (by omega)
  have:=fQ (f:=zV 5) (ρ:=wR (.scr (ns.map D.int)) c sp (nG c S) (zn (.lst (nm.map D.str))) w6 zo zo zo zo zo zo zo zo zo zo zo) (ω:=ω5) (d:=.lst (nm.map D.str)) (aB rfl) (.inl rfl)
  rw[am] at this;exact this) (by
  show atI (nm.map D.str) (k10:Int)=_;rw[oU (by rw[am];exact k10l),yk,hy]))).trans ?_
 refine(aN (d:=.lst []) (ω1:=ω5) rfl).trans ?_;refine(aN (d:=.obj ω5.length) (ω1:=ω5++[.ml (ds.map Deed.d)]) (dH (aA (aB (d:=.obj 0) rfl) aD) (by
  have:bU ω5 (.obj 0)=zn (ds.map Deed.d):=by simp only[bU,dX,g5z]
  show(bU ω5 (.obj 0)).map _=_
  rw[this];rfl))).trans ?_
 refine(aN (d:=.obj (ω5.length+1)) (ω1:=ω7) (by
  rw[hω7];show zn (Rz.ok (D.obj (ω5++[Ob.ml (ds.map Deed.d)]).length),_)=_;rw[bq];rfl)).trans ?_
 refine(bF (eV (by
  unfold bJ;rw[bW (qG (c:=c) (aB rfl) (by omega))];exact e8))).trans ?_
 refine(aN (aP (aA (aB (d:=.int c) rfl) (aA (DeedsAt.list (ds:=lg) (d:=.obj ω5.length) (by unfold DeedsAt dX;simp only[g89]) (aB rfl)) aD)) e9)).trans ?_;refine(skip (xY (gJ (k:=true) (tru_ok (cO (aB (d:=.lst (kY c lg)) rfl) rfl))) (gJ (k:=true) (tru_ok (aP (aA (a:=.lst ((aw c).map fun k=>(S k).takeA y)) (ω1:=ω9) (by
  unfold PJ;rw[aY (aB (d:=.lst (kY c lg)) rfl),aY (yG (f:=zV 2) (aB rfl) g9z)];show zn (Rz.ok (D.lst (tM (kY c lg) (zn ((ds.map Deed.d).length:Nat)) zo)),ω9)=_;rw[am,told];unfold tM;rw[HT.sIx_nat,HT.sIx_none,bq,dtl,ux (by omega),<- dtl,List.drop_left,i6 (by omega)]) (aA (aB (d:=.obj (ω5.length+1)) rfl) aD)) so))))).trans ?_
 refine(aN (aP (aA es2 (aA (aB (d:=.int c) rfl) aD)) em2)).trans ?_;refine(bF (eV (by
  unfold bJ oIL;rw[bW (x:=([.int ((0:Nat):Int),.int ((ms.length / 3:Nat):Int),.int (ms.length:Nat)],bT)) (ω1:=ωa) (by
   have ln:∀ {ρ:Rho},ρ[14]?=zn (zn (.obj ω9.length))->oL dQ (aC (zV 14) aK) ρ ωa=zn (.ok (.int (ms.length:Nat)),ωa):=fun {ρ} h=>by
    have:=yG (f:=zV 14) (ρ:=ρ) (aB h) ga14
    rw[am] at this;exact this
   rw[aY (dH (d:=.lst [.int ((0:Nat):Int),.int ((ms.length / 3:Nat):Int),.int (ms.length:Nat)]) (ω2:=ωa) (aA aQ (aA (a:=.int ((ms.length / 3:Nat):Int)) (ω1:=ωa) (fC (ln rfl) aQ (by
    show(if(0:Int)<3/\(3:Int)<1073741824 then zn (D.int ((ms.length:Int) / 3)) else zo)=_
    rw[if_pos ⟨by decide,by decide⟩]
    congr 2)) (aA (ln rfl) aD))) rfl)]
   rfl)]
  refine(cB rfl rfl eb).trans ?_;refine(cB rfl rfl ec).trans ?_;exact(cB rfl rfl ed2).trans rfl))).trans ?_
 rfl
noncomputable def top (i:Nat):c9:=PySem.Challenge.pw_meetbook_k06_whole_never_comes_back.main.body.getD i (.Pass ⟨0,0,0,0⟩)
noncomputable abbrev lfs:List (Str×Str×c9):=[("has_seen","",top 5),("joined","",top 6),("common","",top 7),("newer","",top 8),("left_by","",top 10),("done","",top 15),("answer_to","",top 16),("answers","",top 17),("after","",top 18),("_law_so","",top 20),("_law_whole","",top 21),("_law_at","",top 22),("_law_all_after","",top 23),("_law_odd","",top 24),("_law_word","",top 25),("_law_deed_of","",top 26),("_law_drawn","",top 27),("_law_are_tables","",top 28)]
noncomputable abbrev QI:List (Str×Str×c9):=[("seen","Hand.seen",bN (top 11) 1),("entries","Hand.entries",bN (top 11) 2),("known","Hand.known",bN (top 11) 3),("in_mind","Hand.in_mind",bN (top 11) 4),("new_mark","Hand.new_mark",bN (top 11) 9),("put","Hand.put",bN (top 11) 5),("forget","Hand.forget",bN (top 11) 12),("take_out","Hand.take_out",bN (top 11) 11),("marks_of","Hand.marks_of",bN (top 11) 10),("change","Hand.change",bN (top 11) 6),("take","Hand.take",bN (top 11) 7),("hear","Hand.hear",bN (top 11) 8)]
noncomputable abbrev QH:List (Str×Str×c9):=[("hand","Hall.hand",bN (top 13) 1),("pair","Hall.pair",bN (top 13) 2),("put","Hall.put",bN (top 13) 3),("change","Hall.change",bN (top 13) 4),("take","Hall.take",bN (top 13) 5),("tell","Hall.tell",bN (top 13) 6),("meet","Hall.meet",bN (top 13) 7)]
structure Txt (K:aa) (mg:Str->Option af) (cls exC:Nat->ag):Prop where
 bn:Bn mg
 dict:mg "dict"=zo
 st:mg "set"=zo
 c0:Cls K (cls 0)
 m0:mg "Hand"=zn (.ref (cls 0))
 c1:Cls K (cls 1)
 m1:mg "Hall"=zn (.ref (cls 1))
 a0_kept:NoAttr K (cls 0) "kept"
 a0_knows:NoAttr K (cls 0) "knows"
 a0_number:NoAttr K (cls 0) "number"
 a0_table:NoAttr K (cls 0) "table"
 a1_hands:NoAttr K (cls 1) "hands"
 x0:mg "NoHand"=zn (.ref (exC 0))
 x1:mg "SameHand"=zn (.ref (exC 1))
 exs:∃ tl1 tl2,ownIn K (exC 0) tl1/\ownIn K (exC 1) tl2/\(b9 (exC 1)::tl2).contains (.ref (exC 0))=false
 fn:AllP (fun x _ s=>FF K mg x s) lfs
 mt0:AllP (FM K (cls 0)) QI
 in0:FI K (cls 0) "__init__" "Hand.__init__" (bN (top 11) 0)
 mt1:AllP (FM K (cls 1)) QH
 in1:FI K (cls 1) "__init__" "Hall.__init__" (bN (top 13) 0)
local macro_rules
 | `(tactic|apply_rules [$ts,*])=>do
 let [hu,hu1,hu6,hr,hE,hR,T]:=[`hu,`hu1,`hu6,`hr,`hE,`hR,`T].map Lean.mkIdent|rp
 let R <- `(tactic|apply_rules [$ts,*])
 let hm <- `(by first|exact $hr|exact($hr).mono (by decide))
 let hp <- `(by first|exact Pu|exact($hE).pas)
 let cs <- ts.getElems.mapM fun u=>let t:Lean.TSyntax `term:=⟨u.raw[0]⟩;`(tactic|first|(refine GR $t $hm $hp ?_) <;> $R|(refine Ka $t $hm $hp ?_ ?_) <;> $R|(refine GT $t $hm ?_ $hp ?_) <;> $R|(refine Kf $t $hm ?_ $hp ?_) <;> $R)
 `(tactic|first
  |(with_reducible apply JT);first|with_reducible exact Bh|with_reducible exact Fi|with_reducible exact Oq|with_reducible exact Qf|with_reducible exact IT Bh|exact dvk (by kernel_rfl)
  |with_reducible exact ND
  |with_reducible exact Lk
  |with_reducible exact JV
  |with_reducible exact GO
  |with_reducible exact MW
  |with_reducible exact JG
  |with_reducible exact Qc
  |with_reducible exact Qb
  |(with_reducible apply Km) <;> $R
  |(with_reducible apply PF) <;> $R
  |(with_reducible apply Ki) <;> $R
  |(with_reducible apply Ny) <;> $R
  |(with_reducible apply NC) <;> $R
  |(with_reducible apply Nn) <;> $R
  |(with_reducible apply Nr) <;> $R
  |(with_reducible apply Nt) <;> $R
  |(with_reducible apply Kh) <;> $R
  |(with_reducible apply Kl) <;> $R
  |(with_reducible apply JW) <;> $R
  |(with_reducible apply JS) <;> $R
  |(with_reducible apply NA) <;> $R
  |(with_reducible apply PD) <;> $R
  |(with_reducible apply PH) <;> $R
  |(with_reducible apply Nx) <;> $R
  |(with_reducible apply Pw) <;> $R
  |(with_reducible apply Py) <;> $R
  |(with_reducible apply MR) <;> $R
  |(with_reducible apply Nz) <;> $R
  |(with_reducible apply Nq) <;> $R
  |(with_reducible apply MS) <;> $R
  |(with_reducible apply MQ) <;> $R
  |(with_reducible apply Px) <;> $R
  |(with_reducible apply MT) <;> $R
  |(with_reducible apply JD) <;> $R
  |(with_reducible apply Np) <;> $R
  |(with_reducible apply NB) <;> $R
  |(with_reducible apply No) <;> $R
  |(with_reducible apply GP) <;> $R
  |(with_reducible apply DC) <;> $R
  |(with_reducible apply JX) <;> $R
  |(with_reducible apply Nv) <;> $R
  |(with_reducible apply Nm) <;> $R
  |(with_reducible apply DH) <;> $R
  |(with_reducible apply DD) <;> $R
  |(with_reducible apply DG) <;> $R
  |(with_reducible apply JU) <;> $R
  |(with_reducible apply JQ) <;> $R
  |(with_reducible apply Dx) <;> $R
  |(with_reducible apply Nl) <;> $R
  |(with_reducible apply JO) <;> $R
  |(with_reducible apply GN) <;> $R
  |(with_reducible apply MN) <;> $R
  |(with_reducible apply JC) <;> $R
  |(with_reducible apply Pv) <;> $R
  |(with_reducible apply MM) <;> $R
  |(with_reducible apply MP) <;> $R
  |(with_reducible apply MO) <;> $R
  |(with_reducible apply Rh) <;> $R
  |(with_reducible apply JK) <;> $R
  |(with_reducible apply MV) <;> $R
  |(with_reducible apply MU) <;> $R
  |(with_reducible apply Pz) <;> $R
  |(with_reducible apply JI) <;> $R
  |(with_reducible apply MY) <;> $R
  |(with_reducible apply JJ) <;> $R
  |(with_reducible apply JF) <;> $R
  |(with_reducible apply MX) <;> $R
  |(with_reducible apply JH) <;> $R
  |(with_reducible apply Lj) <;> $R
  |(with_reducible show OE _ _ _ _ (oL (lfL HD) _));(refine kG (FD rfl) (FitL.lift HP) ?_ ($T).bn.min boot.min ?_) <;> $R
  |(with_reducible show OE _ _ _ _ (oL (lfL EL) _));(refine kG (FE rfl) (FitL.lift HQ) ?_ ($T).bn.max boot.max ?_) <;> $R
  |(with_reducible show OE _ _ _ _ (oL (lfL OM) _));(refine kG (Fy rfl) (FitL.lift La) ?_ ($T).bn.sum boot.sum ?_) <;> $R
  |(with_reducible show OE _ _ _ _ (oL (EH _) _));(refine kG (FB rfl $hu6) HM ?_ ($T).bn.sorted boot.sorted ?_) <;> $R
  |(with_reducible show OE _ _ _ _ (oL dQ _));(refine kG Ii HR ?_ ($T).bn.len boot.len ?_) <;> $R
  |(with_reducible show OE _ _ _ _ (oL (lfL Oa) _));(refine kF FJ (FitL.lift Ld) ?_ ($T).bn.int boot.int ?_) <;> $R
  |(with_reducible show OE _ _ _ _ (oL AY _));(refine kF lP EV ?_ ($T).bn.list boot.list ?_) <;> $R
  |(with_reducible show OE _ _ _ _ (oL gN _));(refine kF lP EU ?_ ($T).bn.list boot.list ?_) <;> $R
  |(with_reducible show OE _ _ _ _ (sE _));(refine Dz rfl ?_ ($T).bn.sorted ?_ ($T).st ?_) <;> $R
  |(with_reducible show OE _ _ _ _ (oL EE _));(refine kF tP HL ?_ ($T).bn.tuple boot.tuple ?_) <;> $R
  |(with_reducible show OE _ _ _ _ (GU _ _));(refine JR $hu6 rfl ?_ ($T).bn.sorted ?_) <;> $R
  |(with_reducible show OE _ _ _ _ (jG "str" _));(refine qK ?_ ?_ ($T).bn.isinstance ?_ ($T).bn.str boot.str) <;> $R
  |(with_reducible show OE _ _ _ _ (jG "int" _));(refine qK ?_ ?_ ($T).bn.isinstance ?_ ($T).bn.int boot.int) <;> $R
  |(with_reducible show OE _ _ _ _ (jG "bool" _));(refine qK ?_ ?_ ($T).bn.isinstance ?_ ($T).bn.bool boot.bool) <;> $R
  |(with_reducible show OE _ _ _ _ (jG "list" _));(refine qK ?_ ?_ ($T).bn.isinstance ?_ ($T).bn.list boot.list) <;> $R
  |(with_reducible show OE _ _ _ _ (jG "tuple" _));(refine qK ?_ ?_ ($T).bn.isinstance ?_ ($T).bn.tuple boot.tuple) <;> $R
  |(with_reducible show OE _ _ _ _ (jG "dict" _));(refine qK ?_ ?_ ($T).bn.isinstance ?_ ($T).dict boot.dict) <;> $R
  |(with_reducible show OE _ _ _ _ (BG _));(refine Kg ?_ ?_ ($T).bn.isinstance ?_ ($T).bn.list ?_ ($T).bn.tuple) <;> $R
  |(with_reducible show OE _ _ _ _ (cY _ _ _ _ _ _));(refine GS ?_ rfl rfl (by kernel_rfl) ?_ (fun _ _ _ _ _ _=>⟨?_,?_,?_⟩)) <;> $R
  |(with_reducible show OSt _ _ _ _ (uY _ _ _ _ _));(obtain⟨_,_,o0,o1,hne⟩:=($T).exs;refine JE ($hE).ex rfl rfl ⟨_,rfl⟩ ?_ ?_ ($T).x0 ($T).x1 o0 o1 hne (fun _ _ _ $hE=> ?_) (fun _=> ?_) (fun _=> ?_)) <;> $R
  |with_reducible exact Bh
  |with_reducible exact IT Bh
  |(with_reducible show DE _ (.Name _ _) _);exact dvk (by kernel_rfl)
  |(with_reducible show PG _ (.Name _ _) _);exact Rn (by kernel_rfl)
  |(with_reducible show PG _ (.Tuple [_,_] _ _) _);exact Rm rfl (by kernel_rfl) (by kernel_rfl)
  |(with_reducible show Gl _ _);unfold Gl;kernel_rfl
  |(with_reducible show OSt _ _ _ _ (aU _ _));(refine Rv (by kernel_rfl) ?_) <;> $R
  |(with_reducible show OSt _ _ _ _ (aU _ _));(refine GL ?_ (by kernel_rfl) rfl rfl (by kernel_rfl) ?_ (fun _ _ _ _ _ _=>⟨?_,?_,?_⟩)) <;> $R
  |(with_reducible show OSt _ _ _ _ (Aw _ _));obtain⟨_,_,o0,o1,hne⟩:=($T).exs;first|exact AF rfl $hR (by rfl) ($T).x0 o0 Fi|exact AF rfl $hR (by rfl) ($T).x1 o1 Fi
  |exact rfl
  |(intro _;exact rfl)
  |(intro _ _;exact rfl)
  |exact($T).bn.range
  |exact($T).bn.zip
  |exact($T).c0
  |exact($T).c1
  |exact($T).a0_kept
  |exact($T).a0_knows
  |exact($T).a0_number
  |exact($T).a0_table
  |exact($T).a1_hands
  |exact $hu
  |exact $hu1
  |exact $hu6
  |with_unfolding_all rfl
  |decide
  $[| $cs:tactic]*)
local macro_rules
 | `(tactic|solve_by_elim [$ts,*])=>do
 let [hu,hu1,hu6,hr,hE,hR]:=[`hu,`hu1,`hu6,`hr,`hE,`hR].map Lean.mkIdent|rp
 `(tactic|(intro _ _ _ _ _ _ _ $hr $hu $hu1 $hu6 $hE $hR;conv=>(arg 4;whnf));apply_rules [$ts,*])
section
seal PE PT PA PS PSs PI PG PW LC PO
variable {P:cj}{w:cz}{K:aa}{mg:Str->Option af}{base:cm}{cls exC:Nat->ag} (T:Txt K mg cls exC)
include T
theorem rH:rS P w K mg base cls exC 1 "has_seen" Cq eR:=dfD (T.fn.get 0 rfl) (by solve_by_elim [])
theorem Ig:rS P w K mg base cls exC 1 "joined" Iq gA:=dfD (T.fn.get 1 rfl) (by solve_by_elim [])
theorem Ih:rS P w K mg base cls exC 1 "common" Ir mC:=dfD (T.fn.get 2 rfl) (by solve_by_elim [])
theorem Lm:rS P w K mg base cls exC 1 "newer" LA xV:=dfD (T.fn.get 3 rfl) (by solve_by_elim [])
theorem gE:pH P w K mg base cls exC 1 0 "seen" zQ bK:=dfM (T.mt0.get 0 rfl) T.c0 (by solve_by_elim [])
theorem Fk:rS P w K mg base cls exC 2 "left_by" FP kD:=dfD (T.fn.get 4 rfl) (by solve_by_elim [gE T,rH T])
theorem tJ:OP P w K mg base cls exC 1 0 "Hand" tU dD:=dfI T.in0 T.m0 (by solve_by_elim [])
theorem fR:pH P w K mg base cls exC 1 0 "entries" pU bH:=dfM (T.mt0.get 1 rfl) T.c0 (by solve_by_elim [])
theorem wJ:pH P w K mg base cls exC 1 0 "known" wY fM:=dfM (T.mt0.get 2 rfl) T.c0 (by solve_by_elim [])
theorem pS:pH P w K mg base cls exC 1 0 "in_mind" pT dR:=dfM (T.mt0.get 3 rfl) T.c0 (by solve_by_elim [])
theorem iD:pH P w K mg base cls exC 2 0 "new_mark" pC cL:=dfM (T.mt0.get 4 rfl) T.c0 (by solve_by_elim [gE T])
theorem rJ:pH P w K mg base cls exC 3 0 "put" Cr dO:=dfM (T.mt0.get 5 rfl) T.c0 (by solve_by_elim [iD T])
theorem kQ:pH P w K mg base cls exC 2 0 "forget" tV eK:=dfM (T.mt0.get 6 rfl) T.c0 (by solve_by_elim [rH T,Ih T])
theorem iC:pH P w K mg base cls exC 3 0 "take_out" pB cK:=dfM (T.mt0.get 7 rfl) T.c0 (by solve_by_elim [kQ T])
theorem iE:pH P w K mg base cls exC 2 0 "marks_of" pD cM:=dfM (T.mt0.get 8 rfl) T.c0 (by solve_by_elim [fR T])
theorem tK:pH P w K mg base cls exC 4 0 "change" tW dE:=dfM (T.mt0.get 9 rfl) T.c0 (by solve_by_elim [iC T,rJ T,iE T])
theorem zB:pH P w K mg base cls exC 4 0 "take" zP eX:=dfM (T.mt0.get 10 rfl) T.c0 (by solve_by_elim [iC T,iD T,iE T])
theorem oM:pH P w K mg base cls exC 3 0 "hear" zR bY:=dfM (T.mt0.get 11 rfl) T.c0 (by solve_by_elim [kQ T,Ig T,fR T,Fk T,gE T,Lm T])
theorem kR:OP P w K mg base cls exC 3 1 "Hall" tX eM:=dfI T.in1 T.m1 (by solve_by_elim [tJ T])
theorem gF:pH P w K mg base cls exC 1 1 "hand" Aa bD:=dfM (T.mt1.get 0 rfl) T.c1 (by solve_by_elim [])
theorem oN:pH P w K mg base cls exC 2 1 "pair" zY bL:=dfM (T.mt1.get 1 rfl) T.c1 (by solve_by_elim [gF T])
theorem Ch:pH P w K mg base cls exC 4 1 "put" Cs fT:=dfM (T.mt1.get 2 rfl) T.c1 (by solve_by_elim [gF T,rJ T])
theorem tL:pH P w K mg base cls exC 5 1 "change" tY dF:=dfM (T.mt1.get 3 rfl) T.c1 (by solve_by_elim [gF T,tK T])
theorem zE:pH P w K mg base cls exC 5 1 "take" zW eZ:=dfM (T.mt1.get 4 rfl) T.c1 (by solve_by_elim [gF T,zB T])
theorem zC:pH P w K mg base cls exC 4 1 "tell" zU eY:=dfM (T.mt1.get 5 rfl) T.c1 (by solve_by_elim [oM T,oN T])
theorem zF:pH P w K mg base cls exC 4 1 "meet" zZ fA:=dfM (T.mt1.get 6 rfl) T.c1 (by solve_by_elim [oM T,oN T])
theorem Ov:rS P w K mg base cls exC 6 "done" OD iY:=dfD (T.fn.get 5 rfl) (by solve_by_elim [zF T,zC T,zE T,tL T,Ch T])
theorem oK:rS P w K mg base cls exC 7 "answer_to" zO bS:=dfD (T.fn.get 6 rfl) (by solve_by_elim [Ov T])
theorem Fo:rS P w K mg base cls exC 8 "answers" FR nH:=dfD (T.fn.get 7 rfl) (by solve_by_elim [oK T,kR T])
theorem Ln:rS P w K mg base cls exC 8 "after" LB xW:=dfD (T.fn.get 8 rfl) (by solve_by_elim [pS T,wJ T,gE T,fR T,oK T,kR T])
theorem Bi:∀ n:Nat,rS P w K mg base cls exC n "_law_so" Bq (dA n)
 |0=>match (T.fn.get 9 rfl) with|⟨f,fd,F⟩=>⟨f,fd,⟨(fun _ _ _ _ ⟨_,_,_,_,_,_,_,_,z,_⟩=>nomatch z),(fun _ _ _ _ _ _ _ _ _ _ _ _ _ ⟨_,_,_,_,_,_,_,_,z,_⟩=>nomatch z)⟩,F.at_,F.fn.kp,Bnd.out (show Bnd _ _ _ Bq from fun _ _ _ _ _ _ _ _=>rfl) F.fn⟩
 |n+1=>dfD (T.fn.get 9 rfl) (k:=n) (N:=Br) (by have D:=Bi n;solve_by_elim [D])
theorem yZ:rS P w K mg base cls exC 1 "_law_whole" zM fX:=dfD (T.fn.get 10 rfl) (by solve_by_elim [])
theorem Ie:rS P w K mg base cls exC 1 "_law_at" Ip kE:=dfD (T.fn.get 11 rfl) (by solve_by_elim [])
theorem oJ:rS P w K mg base cls exC 9 "_law_all_after" pA dB:=dfD (T.fn.get 12 rfl) (by solve_by_elim [Ln T])
theorem Fl:rS P w K mg base cls exC 1 "_law_odd" FQ dY:=dfD (T.fn.get 13 rfl) (by solve_by_elim [])
theorem rG:rS P w K mg base cls exC 1 "_law_word" Cp eQ:=dfD (T.fn.get 14 rfl) (by solve_by_elim [])
theorem tI:rS P w K mg base cls exC 2 "_law_deed_of" tT fZ:=dfD (T.fn.get 15 rfl) (by solve_by_elim [Fl T,rG T])
theorem zA:rS P w K mg base cls exC 3 "_law_drawn" zN fY:=dfD (T.fn.get 16 rfl) (by solve_by_elim [tI T])
theorem lW:rS P w K mg base cls exC 2 "_law_are_tables" lX cF:=dfD (T.fn.get 17 rfl) (by solve_by_elim [yZ T])
theorem Qg {f:ag}{fd:j7} (F:OQ K mg "law" (top 29) f fd):pX P w K mg base (CX1 P w exC) 10 f fd Qk (spO cls exC K p_law):=Bl F.fn (by constructor <;> first|rfl|decide+kernel) (by solve_by_elim [lW T,oJ T,zA T,Bi T 8,Fo T,Ie T,rG T])
end
abbrev cs:List Str:=["Hand","Hall"]
abbrev xs:List Str:=["NoHand","SameHand"]
theorem all_mk {P:cj}{w:cz}{K:aa}{h:cm}{mg:Str->Option af}{fa C0 C1 E0 E1:ag}{tl0 tl1:List af} (X:K.In h) (G:h.Ns b8 mg) (hfa:mg "law"=zn (.ref fa))
  (T:Bn mg)
  (hdict:cy K b8 "dict"=zn zo)
  (hst:cy K b8 "set"=zn zo)
  (n0:clsIn K "Hand" C0) (c0:Cls K C0) (mk0:mkIn K C0)
  (a0_kept:NoAttr K C0 "kept")
  (a0_knows:NoAttr K C0 "knows")
  (a0_number:NoAttr K C0 "number")
  (a0_table:NoAttr K C0 "table")
  (n1:clsIn K "Hall" C1) (c1:Cls K C1) (mk1:mkIn K C1)
  (a1_hands:NoAttr K C1 "hands")
  (e0:clsIn K "NoHand" E0) (o0:ownIn K E0 tl0)
  (e1:clsIn K "SameHand" E1) (o1:ownIn K E1 tl1)
  (hne:(b9 E1::tl1).contains (.ref E0)=false)
  (If:AllP (fun x _ s=>FnIn K x s) lfs) (I:FnIn K "law" (top 29))
  (M0:AllP (mtF K C0) QI) (i0:mtF K C0 "__init__" "Hand.__init__" (bN (top 11) 0))
  (M1:AllP (mtF K C1) QH) (i1:mtF K C1 "__init__" "Hall.__init__" (bN (top 13) 0))
  :∃ fd:j7,(∀(s:ao) (v:af),u8 s fd ⟨[v],[]⟩ [("_law_script",v)])/\∀ base:cm,K.In base->base.Ns b8 mg->pX P w K mg base (CX1 P w (iG K xs)) 10 fa fd ["_law_script"] (spO (iG K cs) (iG K xs) K p_law):=by
 have q0:iG K cs 0=C0:=mI rfl n0;subst q0;have q1:iG K cs 1=C1:=mI rfl n1;subst q1;have r0:iG K xs 0=E0:=mI rfl e0;subst r0;have r1:iG K xs 1=E1:=mI rfl e1;subst r1;have TT:Txt K mg (iG K cs) (iG K xs):=⟨T,db X G hdict,db X G hst,c0,pj X G n0,c1,pj X G n1,a0_kept,a0_knows,a0_number,a0_table,a1_hands,pj X G e0,pj X G e1,⟨tl0,tl1,o0,o1,hne⟩,If.imp fun _ _ _ h=>h.fnAt X G,M0.imp fun _ _ _ h=>h.out,i0.mk mk0,M1.imp fun _ _ _ h=>h.out,i1.mk mk1⟩;obtain⟨a_law,fd_law,F_law⟩:=I.fnAt X G;obtain rfl:a_law=fa:=by
  have e:=hfa.symm.trans F_law.at_;cases e;rfl
 refine⟨fd_law,fun s v=> ?_,fun base kb nb=>Qg TT F_law⟩;obtain⟨oc,od,kV,doc,pm,an,cdv,ct,osl,rfl,_,_⟩:=F_law.fn.ex;exact .of_eq rfl
end L2.MB.Lw
open PySem PySem.W PyProof.Rows
set_option maxRecDepth 100000 in
set_option maxHeartbeats 0 in
theorem PySem.Challenge.cw_meetbook_k06_whole_never_comes_back_holds : PySem.Challenge.rw_meetbook_k06_whole_never_comes_back.Holds := by
 refine Hq0.tpQ ?_
 k_fill
 refine L2.MB.law_walkO (l:=PySem.Challenge.rw_meetbook_k06_whole_never_comes_back) (k:=10) (x:="_law_script") (φ:=L2.MB.Lw.p_law) (cs:=L2.MB.Lw.cs) (es:=L2.MB.Lw.xs) rfl rfl ⟨rfl,by decide,by decide⟩ (fun w h Y=>PySem.W.kIn_of Y) (fun ns h=>L2.MB.Lw.law_true ns h) ?F
 case F=>
  intro w mg fa h KX G hmg;have T:L2.MB.Bn mg:=by
   refine' L2.MB.bn_mk KX G ?_ ?_ ?_ ?_ ?_ ?_ ?_ ?_ ?_ ?_ ?_ ?_ ?_ ?_ <;> k_is
  refine' L2.MB.Lw.all_mk KX G hmg T ?_ ?_ ?_ ?_ ?_ ?_ ?_ ?_ ?_ ?_ ?_ ?_ ?_ ?_ ?_ ?_ ?_ ?_ ?_ ?_ ?_ ?_ ?_ ?_
  any_goals (with_reducible show L2.MB.clsIn _ _ _);unfold L2.MB.clsIn;k_is
  any_goals (with_reducible show L2.Cls _ _);refine' ⟨?_,?_,?_,?_⟩ <;> k_is
  any_goals (with_reducible show L2.MB.mkIn _ _);refine' ⟨?_,?_⟩ <;> k_is
  any_goals (with_reducible show L2.NoAttr _ _ _);unfold L2.NoAttr;k_is
  any_goals (with_reducible show L2.MB.ownIn _ _ _);(refine' L2.MB.own_mk ?p1 ?p2 ?p3 ?p4 ?p5 ?p6;(case p1=>k_is);(case p2=>rfl);(case p3=>rfl);(case p4=>(refine' L2.MB.tail_mk ?q1 ?q2 ?q3 ?q4;(case q1=>k_is);(case q2=>(refine' L2.MB.nsOk_mk ?l ?h;(case l=>k_is);(case h=>rfl)));(case q3=>k_is);(case q4=>rfl)));(case p5=>(refine' L2.MB.nsOk_mk ?l ?h;(case l=>k_is);(case h=>rfl)));(case p6=>k_is))
  any_goals (with_reducible show L2.MB.AllP _ _);dsimp only[L2.MB.AllP];(repeat' with_reducible apply And.intro)
  all_goals first|k_is|exact rfl|exact trivial|(refine' L2.MB.fnIn_mk ?z1 ?z2 ?z3 ?z4;(case z1=>k_is);(case z2=>k_is);(case z3=>k_is);(case z4=>k_is))|(refine' ⟨_,L2.MB.mtIn_mk ?z1 ?z2 ?z3 ?z4 ?z5⟩;(case z1=>k_is);(case z2=>k_is);(case z3=>k_is);(case z4=>k_is);(case z5=>k_is))
end
