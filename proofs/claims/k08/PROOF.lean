import PyProof.Rows.All
import Wide.All
import OpenK.AllK
import Wide.FinOn
import Lean
import PyProof.EqAt
import PyProof.EqKinds
import PyProof.TupleCall
import PyProof.NeKinds
import PyProof.StationsW
import PyProof.ExcBaseAll.ValueError
import KE.KSortTup
import PySem.Challenge.RW_meetbook_k08_whole_apart_in_either_order
section
set_option Elab.async false
open PySem PySem.W PyProof.Rows
def L2.vw : Program := { PySem.Challenge.pw_meetbook_k08_whole_apart_in_either_order with main := { PySem.Challenge.pw_meetbook_k08_whole_apart_in_either_order.main with body := [1, 2, 3, 5, 6, 7, 8, 10, 11, 13, 15, 16, 17, 18, 20, 21, 22, 23, 24, 25, 26, 27, 28, 29, 30, 31].filterMap fun i => PySem.Challenge.pw_meetbook_k08_whole_apart_in_either_order.main.body[i]? } }
local macro_rules
 | `(tactic| o_head $H) => `(tactic| (refine holds_open (q := L2.vw) (loose := []) (Xt := fun s => xlAt L2.vw [] s && recOk [] s) (XP := XL L2.vw []) (Yf := Hook.obs $H) (Ya := Hook.val $H) (YP := Hook.says $H) (N := 4778) ?hl (Hook.of $H) (Hook.keeps $H) (fun s e => xl_of s (Bool.and_eq_true_iff.mp e).1) XL.keeps (by rfl) (by rfl) (by rfl) (fun s e => recFacts_of (Bool.and_eq_true_iff.mp e).2) (by rfl) (by first | assumption | decide +kernel) (by decide +kernel) ⟨rfl, rfl, rfl, rfl, rfl, by decide +kernel⟩ ?hw ?hc; (case hl => (intro w; kernel_rfl))))
set_option maxRecDepth 100000 in
set_option maxHeartbeats 0 in
open_top L2.tp for PySem.Challenge.rw_meetbook_k08_whole_apart_in_either_order
end
set_option Elab.async false
set_option linter.all false
set_option maxRecDepth 100000
set_option maxHeartbeats 4000000
section
namespace L2
open PySem PySem.Spec PyProof.Rows
abbrev Key:=Sum Int Str
def EA:Key->Value->Bool
 |.inl k,v=>Value.isInt k v
 |.inr x,v=>Value.isStrOf x v
def QJ (w:World):Key->Int
 |.inl k=>hashInt k
 |.inr x=>hashStr w x
theorem cU:∀ {k:Key}{v:Value},EA k v=true->(∃ i t,k=Sum.inl i/\v=Value.int i t)∨(∃ x t,k=Sum.inr x/\v=Value.str x t)
 |.inl i,v,h=>by
  obtain⟨t,e⟩:=Value.isInt_shape (k:=i) (v:=v) h
  exact .inl ⟨i,t,rfl,e⟩
 |.inr x,v,h=>by
  obtain⟨t,e⟩:=Value.isStrOf_shape (x:=x) (v:=v) h
  exact .inr ⟨x,t,rfl,e⟩
theorem Go (i:Int) (t:Tok):EA (.inl i) (.int i t)=true:=by simp[EA,Value.isInt]
theorem Gn (x:Str) (t:Tok):EA (.inr x) (.str x t)=true:=by simp[EA,Value.isStrOf]
theorem NE (a b:Int):decide ((Sum.inl a:Key)=Sum.inl b)=(a==b):=by
 by_cases e:a=b
 ·subst e;simp
 ·have h:¬(Sum.inl a:Key)=Sum.inl b:=fun q=>e (Sum.inl.inj q)
  rw[decide_eq_false h]
  exact(beq_eq_false_iff_ne.mpr e).symm
theorem NA (a b:Str):decide ((Sum.inr a:Key)=Sum.inr b)=decide (a=b):=by
 by_cases e:a=b
 ·subst e;simp
 ·have h:¬(Sum.inr a:Key)=Sum.inr b:=fun q=>e (Sum.inr.inj q)
  rw[decide_eq_false h,decide_eq_false e]
theorem ND (a:Int) (b:Str):decide ((Sum.inl a:Key)=Sum.inr b)=false:=decide_eq_false (fun q=>nomatch q)
theorem NB (a:Str) (b:Int):decide ((Sum.inr a:Key)=Sum.inl b)=false:=decide_eq_false (fun q=>nomatch q)
def aR (prog:Program) (w:World):PySem.KeyKind prog w Key where
 is:=EA
 hash:=QJ w
 inj:=fun v a b ha hb=>by
  rcases cU ha with⟨i,t,rfl,rfl⟩|⟨x,t,rfl,rfl⟩
  ·rcases cU hb with⟨j,u,rfl,e⟩|⟨y,u,rfl,e⟩
   ·injection e with e1 _;rw[e1]
   ·exact nomatch e
  ·rcases cU hb with⟨j,u,rfl,e⟩|⟨y,u,rfl,e⟩
   ·exact nomatch e
   ·injection e with e1 _;rw[e1]
 byValue:=fun k v h=>by
  rcases cU h with⟨i,t,rfl,rfl⟩|⟨x,t,rfl,rfl⟩ <;> rfl
 pyHash:=fun hv h=>by
  rcases cU hv with⟨i,t,rfl,rfl⟩|⟨x,t,rfl,rfl⟩
  ·exact wpAny_pyHash_int h
  ·exact wpAny_pyHash_str h
 eqBool:=fun hu hv h=>by
  rcases cU hu with⟨i,t,rfl,rfl⟩|⟨x,t,rfl,rfl⟩
  ·rcases cU hv with⟨j,u,rfl,rfl⟩|⟨y,u,rfl,rfl⟩
   ·rw[NE] at h;exact wpAny_eqBool_int h
   ·rw[ND] at h;exact SeqAt.EqAt.int_str i t y u _ _ _ _ h
  ·rcases cU hv with⟨j,u,rfl,rfl⟩|⟨y,u,rfl,rfl⟩
   ·rw[NB] at h;exact SeqAt.EqAt.str_int x t j u _ _ _ _ h
   ·rw[NA] at h;exact wpAny_eqBool_str h
 «strs» :=fun k x t v h=>by
  rcases cU h with⟨i,u,rfl,e⟩|⟨y,u,rfl,e⟩
  ·exact nomatch e
  ·injection e with e1 _
   subst e1
   cases v <;> rfl
theorem Cn (prog:Program) (w:World) (i:Int) (t:Tok):(aR prog w).is (.inl i) (.int i t)=true:=Go i t
theorem Cm (prog:Program) (w:World) (x:Str) (t:Tok):(aR prog w).is (.inr x) (.str x t)=true:=Gn x t
end L2
namespace L2
open PySem PySem.Spec PyProof.Rows
inductive V where
 |non|bl (b:Bool)|int (i:Int)|str (x:Str)|byt (b:Array UInt8)|flt (b:UInt64)|ref (a:Addr)|ty (n:String)
 deriving DecidableEq
def RelV:V->Value->Prop
 |.non,u=>u=Value.none
 |.bl b,u=>u=Value.bool b
 |.int i,u=>∃ t,u=Value.int i t
 |.str x,u=>∃ t,u=Value.str x t
 |.byt b,u=>∃ t,u=Value.bytes b t
 |.flt b,u=>∃ t,u=Value.float b t
 |.ref a,u=>u=Value.ref a
 |.ty n,u=>u=Value.type n
abbrev Vals:List V->List Value->Prop:=Paired RelV
theorem Vals.length {xs:List V}{us:List Value} (r:Vals xs us):xs.length=us.length:=Paired.length r
theorem Vals.get:∀ {xs:List V}{us:List Value}{i:Nat}{x:V},Vals xs us->xs[i]?=some x->∃ u,us[i]?=some u/\RelV x u
 |_,_,_,_,.nil,e=>by simp at e
 |_,_,0,_,.cons r _,e=>by simp at e;subst e;exact⟨_,rfl,r⟩
 |_,_,i+1,x,.cons _ t,e=>by
  obtain⟨u,h1,h2⟩:=Vals.get (i:=i) (x:=x) t (by simpa using e)
  exact⟨u,by simpa using h1,h2⟩
theorem Vals.set {x:V}{u:Value} (r:RelV x u):∀ {xs:List V}{us:List Value} (i:Nat),Vals xs us->Vals (xs.set i x) (us.set i u)
 |_,_,_,.nil=>.nil
 |_,_,0,.cons _ t=>.cons r t
 |_,_,i+1,.cons q t=>.cons q (Vals.set r i t)
theorem Vals.append:∀ {xs ys:List V}{us ws:List Value},Vals xs us->Vals ys ws->Vals (xs++ys) (us++ws)
 |_,_,_,_,.nil,s=>s
 |_,_,_,_,.cons r t,s=>.cons r (Vals.append t s)
theorem Vals.take:∀ {xs:List V}{us:List Value} (n:Nat),Vals xs us->Vals (xs.take n) (us.take n)
 |_,_,0,_=>.nil
 |_,_,_+1,.nil=>.nil
 |_,_,n+1,.cons r t=>.cons r (Vals.take n t)
theorem Vals.drop:∀ {xs:List V}{us:List Value} (n:Nat),Vals xs us->Vals (xs.drop n) (us.drop n)
 |_,_,0,r=>r
 |_,_,_+1,.nil=>.nil
 |_,_,n+1,.cons _ t=>Vals.drop n t
def RelO:Option V->Option Value->Prop
 |some v,some u=>RelV v u
 |none,none=>True
 |_,_=>False
def KV {κ:Type}:List (κ×V)->List (κ×Value)->Prop:=Paired fun(p:κ×V) (q:κ×Value)=>p.1=q.1/\RelV p.2 q.2
def kV:Key->V
 |.inl i=>.int i
 |.inr x=>.str x
inductive HO where
 /-- a list -/
 |lst (xs:List V)
 /-- a tuple (never changes) -/
 |tup (xs:List V)
 /-- a dict whose keys are ints and texts;one whose keys are tuples of ints and texts (the empty one is both) -/
 |dK (kvs:List (Key×V))|dT (kvs:List (List Key×V))
 /-- a set of ints:its members,its size -/
 |set (S:Int->Bool) (n:Nat)
 /-- an instance of the class at C,its dict at dx,its attributes -/
 |ins (C dx:Addr) (fs:List (Str×V))
 /-- the dict of the instance at x -/
 |own (x:Addr)
 /-- the dict of an exception -/
 |xd (fs:List (Str×V))
 /-- a bound method,f of x -/
 |met (f x:Addr)
 /-- a range object lo,lo+1,.. below hi -/
 |rng (lo hi:Int)
 /-- a thing that is known to the object (the script;a dict while a loop walks it):read,never written while it is so -/
 |frz (o:Obj) (u:HO)
 /-- a code object's table -/
 |tbl (ps:Array Value)
 /-- any other thing,by what is true of its one object (a def of one's own:SetO a S n:=HO.ext fun h=> ..) -/
 |ext (φ:Heap->Prop)
abbrev Hp:=Addr->Option HO
def upd (H:Hp) (a:Addr) (o:HO):Hp:=fun b=>if b=a then some o else H b
theorem aS {H:Hp}{a:Addr}{o:HO}:upd H a o a=some o:=by unfold upd;rw[if_pos rfl]
theorem aM {H:Hp}{a b:Addr}{o:HO} (h:b≠a):upd H a o b=H b:=by unfold upd;rw[if_neg h]
theorem Lb {H:Hp}{a b:Addr}{o u:HO} (h:H a=some o) (h':H b=some u) (d:o≠u):a≠b:=by
 intro e;subst e;rw[h] at h';exact d (Option.some.inj h')
theorem aQ {H:Hp}{a b:Addr}{o:HO} (h:H a=some o) (h':H b=none):a≠b:=by
 intro e;subst e;rw[h] at h';cases h'
section
variable (P:Program) (w:World)
def ObjOk (H:Hp) (h:Heap) (a:Addr):HO->Prop
 |.lst xs=>xs.length<=sizeLine/\∃(its:List Value) (n:Nat),Vals xs its/\h.get? a=some { cls:=.type "list",data:=.seq its.toArray n }
 |.tup xs=>xs.length<=sizeLine/\∃ its:List Value,Vals xs its/\IsTup h a its.toArray
 |.dK kvs=>kvs.length<=sizeLine/\(a==sysModules)=false/\∃ vs,KV kvs vs/\h.DictOf (aR P w) a vs
 |.dT kvs=>kvs.length<=sizeLine/\(a==sysModules)=false/\∃ xs:List (List Key×Addr×Value),
   Paired (fun(p:List Key×V) (q:List Key×Addr×Value)=>p.1=q.1/\H q.2.1=some (.tup (p.1.map kV))/\RelV p.2 q.2.2) kvs xs/\
   ∃ o es ep,h.get? a=some o/\o.ExactDict/\o.data=.dict es ep/\es.toList=xs.map (entryOfKey (tupleKind (aR P w)))/\(xs.map (·.1)).Nodup
 |.set S n=>h.SetOf (intKind P w) a S n
 |.ins C dx fs=>H dx=some (.own a)/\fs.length<=1000/\dx≠a/\h.get? a=some (PySem.W.instObj C dx)/\
   ∃ mA,h.Ns1 dx mA/\(∀ f,RelO (fs.lookup f) (mA f))/\PySem.Within mA (fs.map (·.1))
 |.own _=>∃ o,h.get? a=some o
 |.xd fs=>∃ mA,h.Ns1 a mA/\∀ f,RelO (fs.lookup f) (mA f)
 |.rng lo hi=>∃ t u v,h.get? a=some { cls:=.type "range",data:=.fields #[.int lo t,.int hi u,.int 1 v] }
 |.frz o u=>h.get? a=some o/\ObjOk H h a u
 |.tbl ps=>h.get? a=some { cls:=.none,data:=.fields ps }
 |.met f x=>h.get? a=some (PySem.W.methodObj (.ref f) (.ref x))
 |.ext φ=>φ h/\(∃ o,h.get? a=some o)/\∀ h1 h2:Heap,φ h1->(∀ o,h1.get? a=some o->h2.get? a=some o)->φ h2
def HOk (H:Hp) (h:Heap):Prop:=∀ a o,H a=some o->ObjOk P w H h a o
end
section
variable {P:Program}{w:World}{H H':Hp}{h h':Heap}{a:Addr}{o:HO}
theorem ObjOk.lt (x:ObjOk P w H h a o):a<h.objs.size:=by
 cases o with
 |lst xs=>obtain⟨_,_,_,_,e⟩:=x;exact Heap.lt_size e
 |tup xs=>obtain⟨_,_,_,p⟩:=x;exact p.lt
 |dK kvs=>obtain⟨_,_,_,_,o,_,_,e,_⟩:=x;exact Heap.lt_size e
 |dT kvs=>obtain⟨_,_,_,_,o,_,_,e,_⟩:=x;exact Heap.lt_size e
 |set S n=>obtain⟨o,_,_,_,e,_⟩:=x;exact Heap.lt_size e
 |ins C dx fs=>obtain⟨_,_,_,e,_⟩:=x;exact Heap.lt_size e
 |own y=>obtain⟨_,e⟩:=x;exact Heap.lt_size e
 |xd fs=>obtain⟨_,⟨_,_,_,e,_⟩,_⟩:=x;exact Heap.lt_size e
 |rng lo hi=>obtain⟨_,_,_,e⟩:=x;exact Heap.lt_size e
 |frz ob u=>obtain⟨e,_⟩:=x;exact Heap.lt_size e
 |tbl ps=>exact Heap.lt_size (show h.get? a=some _ from x)
 |met f y=>exact Heap.lt_size (show h.get? a=some _ from x)
 |ext φ=>obtain⟨_,⟨_,e⟩,_⟩:=x;exact Heap.lt_size e
theorem Paired.mapP {α β:Type}{F G:α->β->Prop}:∀ {l₁:List α}{l₂:List β},Paired F l₁ l₂->(∀ a b,F a b->G a b)->Paired G l₁ l₂
 |_,_,.nil,_=>.nil
 |_,_,.cons r t,f=>.cons (f _ _ r) (Paired.mapP t f)
theorem ObjOk.stay (x:ObjOk P w H h a o) (k:∀ b u,(b=a∨H b=some (.own a))->h.get? b=some u->h'.get? b=some u)
  (ho:∀ b,H b=some (.own a)->H' b=some (.own a)) (ht:∀ b xs,H b=some (.tup xs)->H' b=some (.tup xs)):ObjOk P w H' h' a o:=by
 induction o with
 |lst xs=>obtain⟨z,its,n,r,e⟩:=x;exact⟨z,its,n,r,k _ _ (.inl rfl) e⟩
 |tup xs=>obtain⟨z,its,r,ob,e,c⟩:=x;exact⟨z,its,r,ob,k _ _ (.inl rfl) e,c⟩
 |dK kvs=>obtain⟨z,y,vs,r,ob,es,ep,e,c⟩:=x;exact⟨z,y,vs,r,ob,es,ep,k _ _ (.inl rfl) e,c⟩
 |dT kvs=>
  obtain⟨z,y,xs,r,ob,es,ep,e,c⟩:=x
  exact⟨z,y,xs,Paired.mapP r fun p q z=>⟨z.1,ht _ _ z.2.1,z.2.2⟩,ob,es,ep,k _ _ (.inl rfl) e,c⟩
 |set S n=>obtain⟨ob,es,ep,t,e,c⟩:=x;exact⟨ob,es,ep,t,k _ _ (.inl rfl) e,c⟩
 |ins C dx fs=>
  obtain⟨d,z,ne,e,mA,⟨od,es,ep,e2,c⟩,r⟩:=x
  exact⟨ho _ d,z,ne,k _ _ (.inl rfl) e,mA,⟨od,es,ep,k _ _ (.inr d) e2,c⟩,r⟩
 |own y=>obtain⟨ob,e⟩:=x;exact⟨ob,k _ _ (.inl rfl) e⟩
 |xd fs=>obtain⟨mA,⟨od,es,ep,e,c⟩,r⟩:=x;exact⟨mA,⟨od,es,ep,k _ _ (.inl rfl) e,c⟩,r⟩
 |rng lo hi=>obtain⟨t,u,v,e⟩:=x;exact⟨t,u,v,k _ _ (.inl rfl) e⟩
 |frz ob u ih=>obtain⟨e,q⟩:=x;exact⟨k _ _ (.inl rfl) e,ih q⟩
 |tbl ps=>
  have e:h.get? a=some { cls:=.none,data:=.fields ps }:=x
  show h'.get? a=some { cls:=.none,data:=.fields ps }
  exact k a _ (.inl rfl) e
 |met f y=>
  have e:h.get? a=some (PySem.W.methodObj (.ref f) (.ref y)):=x
  show h'.get? a=some (PySem.W.methodObj (.ref f) (.ref y))
  exact k a _ (.inl rfl) e
 |ext φ=>obtain⟨p,⟨o,e⟩,st⟩:=x;exact⟨st _ _ p fun o q=>k _ _ (.inl rfl) q,⟨o,k _ _ (.inl rfl) e⟩,st⟩
theorem HOk.lt (x:HOk P w H h) (e:H a=some o):a<h.objs.size:=(x a o e).lt
theorem HOk.fresh (x:HOk P w H h) (e:h.objs.size<=a):H a=none:=by
 cases q:H a with
 |none=>rfl
 |some u=>exact absurd (Nat.lt_of_lt_of_le (x.lt q) e) (Nat.lt_irrefl _)
theorem HOk.kept (x:HOk P w H h) (k:∀ b u,h.get? b=some u->h'.get? b=some u):HOk P w H h':=fun a o e=>
 (x a o e).stay (fun b u _ q=>k b u q) (fun _ q=>q) fun _ _ q=>q
theorem HOk.laid (x:HOk P w H h) (k:∀ b u,h.get? b=some u->h'.get? b=some u) (hp:h.objs.size<=a) (new:ObjOk P w (upd H a o) h' a o):HOk P w (upd H a o) h':=fun b u e=>by
 have hn:=x.fresh hp
 by_cases hb:b=a
 ·subst hb;rw[aS] at e;cases e;exact new
 ·rw[aM hb] at e
  exact(x b u e).stay (fun c v _ q=>k c v q) (fun c q=>by rw[aM (aQ q hn)];exact q) fun c xs q=>by rw[aM (aQ q hn)];exact q
end
def Rd (H:Hp) (a:Addr) (u:HO):Prop:=H a=some u∨∃ o,H a=some (.frz o u)
theorem Rd.ok {P:Program}{w:World}{H:Hp}{h:Heap}{a:Addr}{u:HO} (r:Rd H a u) (x:HOk P w H h):ObjOk P w H h a u:=by
 rcases r with r|⟨o,r⟩
 ·exact x a u r
 ·obtain⟨_,q⟩:=x a _ r
  exact q
def Mut:Option HO->Prop
 |some (.lst _)=>True
 |some (.dK _)=>True
 |some (.dT _)=>True
 |some (.set _ _)=>True
 |some (.ins _ _ _)=>True
 |some (.ext _)=>True
 |_=>False
section
variable {P:Program}{w:World}{H:Hp}{h h':Heap}{x e:Addr}{o':HO}
theorem HOk.write (ok:HOk P w H h) (mu:Mut (H x)) (he:e=x∨H e=some (.own x)) (k:∀ b u,b≠e->h.get? b=some u->h'.get? b=some u) (heo:∃ u,h'.get? e=some u)
  (new:ObjOk P w (upd H x o') h' x o'):HOk P w (upd H x o') h':=fun b u q=>by
 have nown:∀ c y,H c=some (.own y)->c≠x:=fun c y r z=>by subst z;rw[r] at mu;exact mu
 have ntup:∀ c xs,H c=some (.tup xs)->c≠x:=fun c xs r z=>by subst z;rw[r] at mu;exact mu
 by_cases hb:b=x
 ·subst hb;rw[aS] at q;cases q;exact new
 ·rw[aM hb] at q
  by_cases hbe:b=e
  ·have q':H b=some (.own x):=by
    rcases he with z|z
    ·exact absurd (hbe.trans z) hb
    ·rw[hbe];exact z
   rw[q] at q';cases q'
   obtain⟨v,hv⟩:=heo
   exact⟨v,by rw[hbe];exact hv⟩
  ·refine(ok b u q).stay (fun c v hc r=>k c v ?_ r) (fun c r=>by rw[aM (nown c b r)];exact r) fun c xs r=>by rw[aM (ntup c xs r)];exact r
   rcases hc with rfl|hc
   ·exact hbe
   ·rintro rfl
    rcases he with z|z
    ·exact nown c b hc z
    ·rw[hc] at z;cases z;exact hb rfl
end
structure Un (fs ex:List Addr) (H H':Hp) (h h':Heap):Prop where
 keep:∀ b o,h.get? b=some o->H b=none->b∉fs->b∉ex->h'.get? b=some o
 slot:∀ b o,h.get? b=some o->H b=none->b∈fs->b∉ex->∃ sl,h'.get? b=some { o with slots:=sl }
 free:∀ b o,h.get? b=some o->H b=none->b∉ex->H' b=none
 there:∀ b o,h.get? b=some o->b∉ex->∃ o',h'.get? b=some o'
 tups:∀ b xs,H b=some (.tup xs)->H' b=some (.tup xs)
 frzs:∀ b o u,H b=some (.frz o u)->H' b=some (.frz o u)
 tbls:∀ b ps,H b=some (.tbl ps)->∃ more,H' b=some (.tbl (ps++more))
section
variable {fs fs' ex ex':List Addr}{H H1 H2:Hp}{h h1 h2 h':Heap}{a x e:Addr}{o:HO}
theorem Un.any (u:Un fs ex H H1 h h1) {b:Addr}{ob:Obj} (q:h.get? b=some ob) (n:H b=none) (hx:b∉ex):∃ sl,h1.get? b=some { ob with slots:=sl }:=by
 by_cases hb:b∈fs
 ·exact u.slot b ob q n hb hx
 ·exact⟨ob.slots,u.keep b ob q n hb hx⟩
theorem Un.kept (k:∀ b u,h.get? b=some u->h'.get? b=some u):Un fs ex H H h h':=
 ⟨fun b ob q _ _ _=>k b ob q,fun b ob q _ _ _=>⟨ob.slots,k b ob q⟩,fun _ _ _ n _=>n,fun b ob q _=>⟨ob,k b ob q⟩,fun _ _ q=>q,fun _ _ _ q=>q,fun _ ps q=>⟨#[],by rw[q];simp⟩⟩
theorem Un.refl:Un fs ex H H h h:=Un.kept fun _ _ q=>q
theorem Un.laid (k:∀ b u,h.get? b=some u->h'.get? b=some u) (hp:h.objs.size<=a) (hn:H a=none):Un fs ex H (upd H a o) h h' where
 keep:=fun b u q _ _ _=>k b u q
 slot:=fun b u q _ _ _=>⟨u.slots,k b u q⟩
 free:=fun b u q n _=>by rw[aM (Nat.ne_of_lt (Nat.lt_of_lt_of_le (Heap.lt_size q) hp))];exact n
 there:=fun b u q _=>⟨u,k b u q⟩
 tups:=fun b xs q=>by rw[aM (aQ q hn)];exact q
 frzs:=fun b u xs q=>by rw[aM (aQ q hn)];exact q
 tbls:=fun b ps q=>⟨#[],by rw[aM (aQ q hn),q];simp⟩
theorem Un.write (mu:Mut (H x)) (he:e=x∨H e=some (.own x)) (k:∀ b u,b≠e->h.get? b=some u->h'.get? b=some u) (heo:∃ u,h'.get? e=some u):Un fs ex H (upd H x o) h h':=by
 have hx:∀ b,H b=none->b≠x:=fun b n z=>by subst z;rw[n] at mu;exact mu
 have hb:∀ b,H b=none->b≠e:=fun b n z=>by
  subst z
  rcases he with r|r
  ·exact hx b n r
  ·rw[n] at r;cases r
 have hm:∀ b u,H b=some u->¬ Mut (some u)->b≠x:=fun b u q nm z=>by subst z;rw[q] at mu;exact nm mu
 refine⟨fun b u q n _ _=>k b u (hb b n) q,fun b u q n _ _=>⟨u.slots,k b u (hb b n) q⟩,fun b u q n _=>by rw[aM (hx b n)];exact n,fun b u q _=> ?_,
  fun b xs q=>by rw[aM (hm b _ q fun z=>z)];exact q,fun b u xs q=>by rw[aM (hm b _ q fun z=>z)];exact q,fun b ps q=>⟨#[],by rw[aM (hm b _ q fun z=>z),q];simp⟩⟩
 by_cases hbe:b=e
 ·subst hbe;exact heo
 ·exact⟨u,k b u hbe q⟩
end
def trk (h:Heap) (H:Hp):List Addr:=(List.range h.objs.size).filter fun a=>(H a).isSome
def ID (h:Heap) (H:Hp):Heap:=PySem.W.hideAll h (trk h H)
theorem Gv (h:Heap) (H:Hp):(ID h H).objs.size=h.objs.size:=PySem.W.hideAll_size _ _
theorem IC {h:Heap}{H:Hp}{b:Addr}{o:Obj} (e:h.get? b=some o) (n:H b=none):(ID h H).get? b=some o:=
 PySem.W.hideAll_get _ e fun hm=>by
  have q:(H b).isSome=true:=(List.mem_filter.mp hm).2
  rw[n] at q;simp at q
theorem KM {h:Heap}{H:Hp}{b:Addr}{o:Obj} (e:(ID h H).get? b=some o):h.get? b=some o/\H b=none:=by
 have e':h.get? b=some o:=PySem.W.of_hideAll (trk h H) e
 refine⟨e',?_⟩
 cases q:H b with
 |none=>rfl
 |some x=>
  have hm:b∈trk h H:=List.mem_filter.mpr ⟨List.mem_range.mpr (Heap.lt_size e'),by simp[q]⟩
  have z:(ID h H).get? b=none:=PySem.W.hideAll_none (trk h H) hm
  rw[z] at e;cases e
end L2
namespace L2
open PySem PySem.Spec PyProof.Rows
structure Mod (K:PySem.W.Frag) (mg:Str->Option Value) (base:Heap):Prop where
 kin:K.In base
 glob:base.Ns mainGlobals mg
 blt:∃ mb,base.Ns builtinsNs mb/\∀ x:Str,x≠"__name__"->mb x=bootBuiltins x
 nolimit:base.NoLimit
structure Cx where
 prog:Program
 w:World
 K:PySem.W.Frag
 mg:Str->Option Value
 base:Heap
 A:Around
 N:List Str
 s₀:Shared
 H₀:Hp
 env:Env
 outer:List Env
 stack:List Env
 ex:List Addr
 fn:Str->Bool
 calm:Bool
 pn:List (Addr×Obj)
 xe:Value->Shared->Prop
def frs (l:List Env):List Addr:=l.filterMap (·.frame)
abbrev Cx.fs (X:Cx):List Addr:=frs X.outer
def Vis (sc:Scope) (x:Str):Prop:=sc.names.lookup x=some .local∨sc.names.lookup x=some .cell∨sc.names.lookup x=some .free
def Loc (sc:Scope) (x:Str):Prop:=sc.names.lookup x=some .local∨sc.names.lookup x=some .cell
def QU (env:Env) (h:Heap) (m:Str->Option Value) (x:Str) (u:Value):Prop:=
 (env.kindOf x=some .local/\m x=some u)∨((env.kindOf x=some .cell∨env.kindOf x=some .free)/\∃ c,env.cells.lookup x=some c/\h.IsCell c (some u))
structure Cx.Ok (X:Cx):Prop where
 mod:Mod X.K X.mg X.base
 kind:X.env.scope.kind=.function
 glob:X.env.globals=mainGlobals
 blt:X.env.builtins=builtinsNs
 above:X.s₀.heap.objs.size<=X.env.locals
 inj:∀ x y c,X.env.cells.lookup x=some c->X.env.cells.lookup y=some c->x=y
 has:∀ x,(X.env.kindOf x=some .cell∨X.env.kindOf x=some .free)->∃ c,X.env.cells.lookup x=some c
 cab:∀ x c,X.fn x=true->X.env.cells.lookup x=some c->X.s₀.heap.objs.size<=c
 hd:X.calm=true->X.A.handled=none
 frames:X.A.frames=some X.stack
 stk:X.stack=X.outer∨(X.stack=X.env::X.outer/\X.env.frame=some X.env.locals)
 exf:∀ b∈X.ex,b≠X.env.locals/\∀ x c,X.env.cells.lookup x=some c->c≠b
 bs:∀ b o,X.base.get? b=some o->X.s₀.heap.get? b=some o/\X.H₀ b=none
 bsz:X.base.objs.size<=X.s₀.heap.objs.size
 noex:∀ b o,X.base.get? b=some o->b∉X.ex
 exfs:∀ b∈X.ex,b∉X.fs
 funs:X.s₀.heap.FunFrames X.base X.outer
 frf:∀ b∈X.fs,X.H₀ b=none
structure Inv (X:Cx) (pins:List (Addr×Obj)) (σ:List (Option V)) (H:Hp) (s:Shared):Prop where
 ok:X.Ok
 os:s.os=X.s₀.os
 bare:AllBare s.gens
 base:Un X.fs X.ex X.H₀ H X.s₀.heap s.heap
 loc:∃ m,s.heap.Ns X.env.locals m/\∀(i:Nat) (x:Str) (v:V),X.N[i]?=some x->σ[i]?=some (some v)->Vis X.env.scope x->∃ u,RelV v u/\QU X.env s.heap m x u
 cell:∀ x c,X.env.cells.lookup x=some c->∃ v,s.heap.IsCell c v
 free:H X.env.locals=none
 freeC:∀ x c,X.env.cells.lookup x=some c->H c=none
 pin:∀ p∈X.pn++pins,s.heap.get? p.1=some p.2/\H p.1=none/\p.1≠X.env.locals/\p.1∉X.fs/\∀ v,p.2.data≠ .cell v
 hok:HOk X.prog X.w H s.heap
 len:σ.length=X.N.length
section
variable {X:Cx}{pins:List (Addr×Obj)}{σ:List (Option V)}{H H':Hp}{s:Shared}{h':Heap}
theorem Cx.Ok.nofr (ok:X.Ok) {b:Addr}{o:Obj} (e:X.base.get? b=some o):b∉X.fs:=fun hb=>by
 have:=(ok.funs.mem hb).1
 rw[e] at this;cases this
theorem Inv.bs (I:Inv X pins σ H s):∀ b o,X.base.get? b=some o->s.heap.get? b=some o/\H b=none:=fun b o e=>
 ⟨I.base.keep b o (I.ok.bs b o e).1 (I.ok.bs b o e).2 (I.ok.nofr e) (I.ok.noex b o e),I.base.free b o (I.ok.bs b o e).1 (I.ok.bs b o e).2 (I.ok.noex b o e)⟩
theorem Inv.bk (I:Inv X pins σ H s):∀ b o,X.base.get? b=some o->s.heap.get? b=some o:=fun b o e=>(I.bs b o e).1
theorem Inv.mod (I:Inv X pins σ H s):Mod X.K X.mg X.base:=I.ok.mod
theorem Inv.kIn (I:Inv X pins σ H s):X.K.In s.heap:=I.ok.mod.kin.keeps I.bk
theorem Inv.lt (I:Inv X pins σ H s):X.env.locals<s.heap.objs.size:=let ⟨_,hn,_⟩:=I.loc;hn.lt
theorem Inv.sz (I:Inv X pins σ H s):X.s₀.heap.objs.size<=s.heap.objs.size:=Nat.le_trans I.ok.above (Nat.le_of_lt I.lt)
theorem Inv.nofs (I:Inv X pins σ H s) {a:Addr} (h:s.heap.objs.size<=a):a∉X.fs:=fun hb=>by
 obtain⟨_,o,ho,_⟩:=I.ok.funs.mem hb
 exact absurd (Nat.lt_of_lt_of_le (Heap.lt_size ho) (Nat.le_trans I.sz h)) (Nat.lt_irrefl _)
theorem Inv.cne (I:Inv X pins σ H s):∀ x c,X.env.cells.lookup x=some c->c≠X.env.locals:=fun x c e z=>by
 obtain⟨v,o,ho,hd⟩:=I.cell x c e
 obtain⟨m,⟨o',es,ep,ho',hd',_⟩,_⟩:=I.loc
 rw[z,ho'] at ho;cases ho;rw[hd'] at hd;cases hd
theorem Inv.funs (I:Inv X pins σ H s):s.heap.FunFrames X.base X.outer:=by
 have all:∀(l:List Env),(∀ b∈frs l,b∈X.fs)->X.s₀.heap.FunFrames X.base l->s.heap.FunFrames X.base l:=by
  intro l
  induction l with
  |nil=>intro _ _;trivial
  |cons env r ih=>
   intro hs hl
   obtain⟨hk,⟨L,o,hf,hn,ho,hd⟩,hr⟩:=hl
   have hL:L∈X.fs:=hs L (by unfold frs;rw[List.filterMap_cons,hf];exact List.mem_cons_self)
   obtain⟨sl,e⟩:=I.base.slot L o ho (I.ok.frf L hL) hL fun z=>I.ok.exfs L z hL
   exact⟨hk,⟨L,_,hf,hn,e,hd⟩,ih (fun b hb=>hs b (by unfold frs;rw[List.filterMap_cons,hf];exact List.mem_cons_of_mem _ hb)) hr⟩
 exact all X.outer (fun _ hb=>hb) I.ok.funs
theorem Inv.stack (I:Inv X pins σ H s):s.heap.FunFrames X.base X.stack:=by
 rcases I.ok.stk with e|⟨e,hf⟩
 ·rw[e];exact I.funs
 ·rw[e]
  obtain⟨m,hn,_⟩:=I.loc
  refine .cons (by rw[I.ok.kind];decide) hf hn ?_ I.funs
  exact Heap.get?_none_of_le (Nat.le_trans I.ok.bsz I.ok.above)
theorem Inv.stkSub (I:Inv X pins σ H s):∀ b∈frs X.stack,b∈X.env.locals::X.fs:=fun b hb=>by
 rcases I.ok.stk with e|⟨e,hf⟩
 ·rw[e] at hb;exact List.mem_cons_of_mem _ hb
 ·rw[e] at hb
  unfold frs at hb
  rw[List.filterMap_cons,hf] at hb
  exact hb
theorem Inv.stkFree (I:Inv X pins σ H s):∀ b∈frs X.stack,H b=none:=fun b hb=>by
 rcases List.mem_cons.mp (I.stkSub b hb) with e|hb
 ·rw[e];exact I.free
 ·obtain⟨_,o,ho,_⟩:=I.ok.funs.mem hb
  exact I.base.free b o ho (I.ok.frf b hb) fun z=>I.ok.exfs b z hb
theorem Inv.step {g':Array GenState}{t':Nat}{d':Drawn}{ch:List Addr} (I:Inv X pins σ H s)
  (hch:∀ b∈ch,(b∈X.ex∨X.s₀.heap.objs.size<=b)/\b≠X.env.locals/\(∀ x c,X.env.cells.lookup x=some c->c≠b)/\∀ p∈X.pn++pins,p.1≠b)
  (keep:∀ b o,b≠X.env.locals->b∉X.fs->b∉ch->s.heap.get? b=some o->H b=none->h'.get? b=some o)
  (slot:∀ b o,b≠X.env.locals->b∈X.fs->b∉ch->s.heap.get? b=some o->H b=none->∃ sl,h'.get? b=some { o with slots:=sl }) (free:∀ b o,b∉ch->s.heap.get? b=some o->H b=none->H' b=none)
  (there:∀ b o,b∉ch->s.heap.get? b=some o->∃ o',h'.get? b=some o')
  (tups:∀ b xs,H b=some (.tup xs)->H' b=some (.tup xs)) (frzs:∀ b o u,H b=some (.frz o u)->H' b=some (.frz o u)) (tbls:∀ b ps,H b=some (.tbl ps)->∃ more,H' b=some (.tbl (ps++more)))
  (ns:∀ m,s.heap.Ns X.env.locals m->h'.Ns X.env.locals m) (hok:HOk X.prog X.w H' h') (hg:AllBare g'):
  Inv X pins σ H' { s with heap:=h',gens:=g',drawn:=d',toks:=t' }:=by
 have neL:∀ b o,X.s₀.heap.get? b=some o->b≠X.env.locals:=fun b o e=>Nat.ne_of_lt (Nat.lt_of_lt_of_le (Heap.lt_size e) I.ok.above)
 have neC:∀ b o,X.s₀.heap.get? b=some o->b∉X.ex->b∉ch:=fun b o e hx hb=>by
  rcases(hch b hb).1 with z|z
  ·exact hx z
  ·exact absurd (Nat.lt_of_lt_of_le (Heap.lt_size e) z) (Nat.lt_irrefl _)
 have cellK:∀ x c,X.env.cells.lookup x=some c->∀ v,s.heap.IsCell c v->h'.IsCell c v:=fun x c e v ⟨o,ho,hd⟩=>by
  have nch:c∉ch:=fun z=>(hch c z).2.2.1 x c e rfl
  by_cases hc:c∈X.fs
  ·obtain⟨sl,q⟩:=slot c o (I.cne x c e) hc nch ho (I.freeC x c e)
   exact⟨_,q,hd⟩
  ·exact⟨o,keep c o (I.cne x c e) hc nch ho (I.freeC x c e),hd⟩
 refine⟨I.ok,I.os,hg,⟨fun b o e n hb hx=> ?_,fun b o e n hb hx=> ?_,fun b o e n hx=> ?_,fun b o e hx=> ?_,fun b xs e=>tups b xs (I.base.tups b xs e),fun b o xs e=>frzs b o xs (I.base.frzs b o xs e),fun b ps e=> ?_⟩,?_,fun x c e=> ?_,?_,fun x c e=> ?_,fun p hp=> ?_,hok,I.len⟩
 ·exact keep b o (neL b o e) hb (neC b o e hx) (I.base.keep b o e n hb hx) (I.base.free b o e n hx)
 ·obtain⟨sl,e1⟩:=I.base.slot b o e n hb hx
  obtain⟨sl',e2⟩:=slot b _ (neL b o e) hb (neC b o e hx) e1 (I.base.free b o e n hx)
  exact⟨sl',e2⟩
 ·obtain⟨o',e1⟩:=I.base.there b o e hx
  exact free b o' (neC b o e hx) e1 (I.base.free b o e n hx)
 ·obtain⟨o',e1⟩:=I.base.there b o e hx
  exact there b o' (neC b o e hx) e1
 ·obtain⟨m1,e1⟩:=I.base.tbls b ps e
  obtain⟨m2,e2⟩:=tbls b _ e1
  exact⟨m1++m2,by rw[e2,Array.append_assoc]⟩
 ·obtain⟨m,hn,hl⟩:=I.loc
  refine⟨m,ns m hn,fun i x v e1 e2 e3=> ?_⟩
  obtain⟨u,r,l⟩:=hl i x v e1 e2 e3
  refine⟨u,r,?_⟩
  rcases l with l|⟨k,c,e,z⟩
  ·exact .inl l
  ·exact .inr ⟨k,c,e,cellK x c e _ z⟩
 ·obtain⟨v,z⟩:=I.cell x c e
  exact⟨v,cellK x c e v z⟩
 ·obtain⟨m,⟨o,_,_,ho,_⟩,_⟩:=I.loc
  exact free _ o (fun z=>(hch _ z).2.1 rfl) ho I.free
 ·obtain⟨v,o,ho,hd⟩:=I.cell x c e
  exact free c o (fun z=>(hch c z).2.2.1 x c e rfl) ho (I.freeC x c e)
 ·obtain⟨e,n,ne,nf,d⟩:=I.pin p hp
  have nch:p.1∉ch:=fun z=>(hch p.1 z).2.2.2 p hp rfl
  exact⟨keep p.1 p.2 ne nf nch e n,free p.1 p.2 nch e n,ne,nf,d⟩
theorem Inv.un {t':Nat} (I:Inv X pins σ H s) (u:Un X.fs [] H H' s.heap h') (hok:HOk X.prog X.w H' h'):Inv X pins σ H' { s with heap:=h',toks:=t' }:=by
 obtain⟨m,⟨o,es,ep,ho,r⟩,_⟩:=id I.loc
 obtain⟨sl,hL⟩:=u.any ho I.free (by simp)
 exact I.step (g':=s.gens) (d':=s.drawn) (ch:=[]) (fun _ z=>nomatch z) (fun b o _ hb _ e n=>u.keep b o e n hb (by simp)) (fun b o _ hb _ e n=>u.slot b o e n hb (by simp)) (fun b o _ e n=>u.free b o e n (by simp)) (fun b o _ e=>u.there b o e (by simp)) u.tups u.frzs u.tbls (fun m' hm=>by
  obtain⟨o',es',ep',ho',r'⟩:=hm
  rw[ho] at ho';cases ho'
  exact⟨_,es',ep',hL,r'⟩) hok I.bare
theorem Inv.call {g':Array GenState}{t':Nat}{d':Drawn}{ch:List Addr} (I:Inv X pins σ H s) (u:Un (frs X.stack) ch H H' s.heap h') (hok:HOk X.prog X.w H' h') (hg:AllBare g')
  (hch:∀ b∈ch,(b∈X.ex∨X.s₀.heap.objs.size<=b)/\b≠X.env.locals/\(∀ x c,X.env.cells.lookup x=some c->c≠b)/\∀ p∈X.pn++pins,p.1≠b):
  Inv X pins σ H' { s with heap:=h',gens:=g',drawn:=d',toks:=t' }:=by
 obtain⟨m,⟨o,es,ep,ho,r⟩,_⟩:=id I.loc
 obtain⟨sl,hL⟩:=u.any ho I.free fun z=>(hch _ z).2.1 rfl
 exact I.step (ch:=ch) hch (fun b o hL hb hc e n=>u.keep b o e n (fun z=>(List.mem_cons.mp (I.stkSub b z)).elim hL hb) hc) (fun b o _ _ hc e n=>u.any e n hc) (fun b o hc e n=>u.free b o e n hc) (fun b o hc e=>u.there b o e hc) u.tups u.frzs u.tbls (fun m' hm=>by
  obtain⟨o',es',ep',ho',r'⟩:=hm
  rw[ho] at ho';cases ho'
  exact⟨_,es',ep',hL,r'⟩) hok hg
theorem Inv.turned {t':Nat}{it:Addr} (I:Inv X pins σ H s) (k:∀ b o,b≠it->s.heap.get? b=some o->h'.get? b=some o) (hn:H it=none) (hL:it≠X.env.locals)
  (h1:it∈X.ex∨X.s₀.heap.objs.size<=it) (h2:∀ x c,X.env.cells.lookup x=some c->c≠it) (h3:∀ p∈X.pn++pins,p.1≠it):Inv X pins σ H { s with heap:=h',toks:=t' }:=by
 have nit:∀ b u,H b=some u->b≠it:=fun b u e z=>by rw[z,hn] at e;cases e
 refine I.step (g':=s.gens) (d':=s.drawn) (ch:=[it]) (fun b hb=> ?_) (fun b o _ _ hc e _=>k b o (fun z=>hc (by simp[z])) e) (fun b o _ _ hc e _=>⟨o.slots,k b o (fun z=>hc (by simp[z])) e⟩) (fun _ _ _ _ n=>n)
  (fun b o hc e=>⟨o,k b o (fun z=>hc (by simp[z])) e⟩) (fun _ _ e=>e) (fun _ _ _ e=>e) (fun b ps e=>⟨#[],by rw[e];simp⟩) (fun m hm=> ?_) (fun b u e=> ?_) I.bare
 ·have e:b=it:=by simpa using hb
  subst e
  exact⟨h1,hL,h2,h3⟩
 ·obtain⟨o,es,ep,ho,r⟩:=hm
  exact⟨o,es,ep,k _ o (Ne.symm hL) ho,r⟩
 ·refine(I.hok b u e).stay (fun c v hc q=>k c v ?_ q) (fun _ q=>q) fun _ _ q=>q
  rcases hc with z|z
  ·rw[z];exact nit b u e
  ·exact nit c _ z
theorem Inv.tok (I:Inv X pins σ H s) (t:Nat):Inv X pins σ H { s with toks:=t }:=I.un (h':=s.heap) (t':=t) Un.refl I.hok
theorem Inv.kept {t':Nat} (I:Inv X pins σ H s) (k:∀ b u,s.heap.get? b=some u->h'.get? b=some u):Inv X pins σ H { s with heap:=h',toks:=t' }:=I.un (Un.kept k) (I.hok.kept k)
theorem Inv.laid {a:Addr}{o:HO}{t':Nat} (I:Inv X pins σ H s) (k:∀ b u,s.heap.get? b=some u->h'.get? b=some u) (hp:s.heap.objs.size<=a) (new:ObjOk X.prog X.w (upd H a o) h' a o):
  Inv X pins σ (upd H a o) { s with heap:=h',toks:=t' }:=I.un (Un.laid k hp (I.hok.fresh hp)) (I.hok.laid k hp new)
theorem Inv.write {x e:Addr}{o:HO}{t':Nat} (I:Inv X pins σ H s) (mu:Mut (H x)) (he:e=x∨H e=some (.own x)) (k:∀ b u,b≠e->s.heap.get? b=some u->h'.get? b=some u) (heo:∃ u,h'.get? e=some u)
  (new:ObjOk X.prog X.w (upd H x o) h' x o):Inv X pins σ (upd H x o) { s with heap:=h',toks:=t' }:=I.un (Un.write mu he k heo) (I.hok.write mu he k heo new)
theorem Inv.weak {σ':List (Option V)} (I:Inv X pins σ H s) (hl:σ'.length=σ.length) (w:∀(i:Nat) v,σ'[i]?=some (some v)->σ[i]?=some (some v)):Inv X pins σ' H s:=
 ⟨I.ok,I.os,I.bare,I.base,let ⟨m,hn,hl'⟩:=I.loc;⟨m,hn,fun i x v e1 e2 e3=>hl' i x v e1 (w i v e2) e3⟩,I.cell,I.free,I.freeC,I.pin,I.hok,hl.trans I.len⟩
theorem Inv.pins_of {pins':List (Addr×Obj)} (I:Inv X pins σ H s) (h:∀ p∈pins',s.heap.get? p.1=some p.2/\H p.1=none/\p.1≠X.env.locals/\p.1∉X.fs/\∀ v,p.2.data≠ .cell v):Inv X pins' σ H s:=
 ⟨I.ok,I.os,I.bare,I.base,I.loc,I.cell,I.free,I.freeC,fun p hp=>(List.mem_append.mp hp).elim (fun z=>I.pin p (List.mem_append_left _ z)) (h p),I.hok,I.len⟩
theorem nodup_ix {N:List Str} (hN:N.Nodup) {i j:Nat}{x:Str} (a:N[i]?=some x) (b:N[j]?=some x):i=j:=by
 obtain⟨h1,e1⟩:=List.getElem?_eq_some_iff.mp a
 obtain⟨h2,e2⟩:=List.getElem?_eq_some_iff.mp b
 exact(List.getElem_inj hN).mp (e1.trans e2.symm)
theorem Ap {M:Model}{A:Around}{E:Value->Shared->Prop}{i:Nat}{x:Str}{v:V}{u:Value}{Q:Unit->Shared->Prop} (I:Inv X pins σ H s) (hN:X.N.Nodup) (hi:X.N[i]?=some x) (hx:Loc X.env.scope x) (r:RelV v u)
  (h:∀ s',Inv X pins (σ.set i (some v)) H s'->(∃ a,Heap.SameBut a s.heap s'.heap/\(a=X.env.locals∨X.env.cells.lookup x=some a))->Q () s') (hf:X.fn x=true∨X.env.scope.names.lookup x=some .local:=by first|exact .inl rfl|exact .inr rfl|assumption):wpAny M A (storeName X.env x u) Q E s:=by
 obtain⟨m,hn,hl⟩:=id I.loc
 have hcls:(X.env.scope.kind== .class||(X.env.scope.kind== .module&&X.env.locals !=X.env.globals))=false:=by rw[I.ok.kind];rfl
 have hiσ:i<σ.length:=by rw[I.len];exact(List.getElem?_eq_some_iff.mp hi).1
 have cne:=I.cne
 have tracked:∀ {a:Addr}{h':Heap},(∃ o,s.heap.get? a=some o/\H a=none)->Heap.SameBut a s.heap h'->HOk X.prog X.w H h':=fun {a h'} ha hs b ob e=>by
  obtain⟨_,_,hfree⟩:=ha
  refine(I.hok b ob e).stay (fun c w' hc q=>(hs.2 c ?_).trans q) (fun _ q=>q) fun _ _ q=>q
  rintro rfl
  rcases hc with rfl|hc
  ·rw[hfree] at e;cases e
  ·rw[hfree] at hc;cases hc
 rcases hx with hk|hk
 ·refine wpAny_storeName_local hk hn (fun h' hn' hs=> ?_) hcls
  obtain⟨oL,_,_,hoL,_⟩:=id hn
  refine h _ ⟨I.ok,I.os,I.bare,⟨fun b o e n hb hx=> ?_,fun b o e n hb hx=> ?_,I.base.free,fun b o e hx=> ?_,I.base.tups,I.base.frzs,I.base.tbls⟩,⟨_,hn',fun j y v' e1 e2 e3=> ?_⟩,fun y c e=> ?_,I.free,I.freeC,fun p hp=> ?_,tracked ⟨oL,hoL,I.free⟩ hs,by simpa using I.len⟩ ⟨_,hs,.inl rfl⟩
  ·exact(hs.2 b (Nat.ne_of_lt (Nat.lt_of_lt_of_le (Heap.lt_size e) I.ok.above))).trans (I.base.keep b o e n hb hx)
  ·obtain⟨sl,e1⟩:=I.base.slot b o e n hb hx
   exact⟨sl,(hs.2 b (Nat.ne_of_lt (Nat.lt_of_lt_of_le (Heap.lt_size e) I.ok.above))).trans e1⟩
  ·obtain⟨o',e1⟩:=I.base.there b o e hx
   exact⟨o',(hs.2 b (Nat.ne_of_lt (Nat.lt_of_lt_of_le (Heap.lt_size e) I.ok.above))).trans e1⟩
  ·by_cases hj:j=i
   ·subst hj
    rw[hi] at e1;cases e1
    rw[List.getElem?_set_self hiσ] at e2
    cases e2
    exact⟨u,r,.inl ⟨hk,by simp⟩⟩
   ·rw[List.getElem?_set_ne (Ne.symm hj)] at e2
    obtain⟨u',r',q⟩:=hl j y v' e1 e2 e3
    refine⟨u',r',?_⟩
    rcases q with⟨k,e⟩|⟨k,c,e,z⟩
    ·refine .inl ⟨k,?_⟩
     have:y≠x:=fun e=>hj (nodup_ix hN e1 (e ▸ hi))
     simp[this,e]
    ·exact .inr ⟨k,c,e,z.sameBut hs (cne y c e)⟩
  ·obtain⟨w',z⟩:=I.cell y c e
   exact⟨w',z.sameBut hs (cne y c e)⟩
  ·obtain⟨e,n,ne,nf,d⟩:=I.pin p hp
   exact⟨(hs.2 p.1 ne).trans e,n,ne,nf,d⟩
 ·have hfn:X.fn x=true:=by
   rcases hf with z|z
   ·exact z
   ·rw[z] at hk;cases hk
  obtain⟨c,hc⟩:=I.ok.has x (.inl hk)
  obtain⟨w',z⟩:=I.cell x c hc
  refine wpAny_storeName_cell I.ok.kind hk hc z (fun h' hc' hs=> ?_)
  obtain⟨oc,hoc,hocd⟩:=id z
  refine h { s with heap:=h' } ⟨I.ok,I.os,I.bare,⟨fun b o e n hb hx=> ?_,fun b o e n hb hx=> ?_,I.base.free,fun b o e hx=> ?_,I.base.tups,I.base.frzs,I.base.tbls⟩,⟨m,hn.sameBut hs (Ne.symm (cne x c hc)),fun j y v' e1 e2 e3=> ?_⟩,fun y c' e=> ?_,I.free,I.freeC,fun p hp=> ?_,tracked ⟨oc,hoc,I.freeC x c hc⟩ hs,by simpa using I.len⟩ ⟨c,hs,.inr hc⟩
  ·exact(hs.2 b (Nat.ne_of_lt (Nat.lt_of_lt_of_le (Heap.lt_size e) (I.ok.cab x c hfn hc)))).trans (I.base.keep b o e n hb hx)
  ·obtain⟨sl,e1⟩:=I.base.slot b o e n hb hx
   exact⟨sl,(hs.2 b (Nat.ne_of_lt (Nat.lt_of_lt_of_le (Heap.lt_size e) (I.ok.cab x c hfn hc)))).trans e1⟩
  ·obtain⟨o',e1⟩:=I.base.there b o e hx
   exact⟨o',(hs.2 b (Nat.ne_of_lt (Nat.lt_of_lt_of_le (Heap.lt_size e) (I.ok.cab x c hfn hc)))).trans e1⟩
  ·by_cases hj:j=i
   ·subst hj
    rw[hi] at e1;cases e1
    rw[List.getElem?_set_self hiσ] at e2
    cases e2
    exact⟨u,r,.inr ⟨.inl hk,c,hc,hc'⟩⟩
   ·rw[List.getElem?_set_ne (Ne.symm hj)] at e2
    obtain⟨u',r',q⟩:=hl j y v' e1 e2 e3
    refine⟨u',r',?_⟩
    rcases q with q|⟨k,c',e,z'⟩
    ·exact .inl q
    ·refine .inr ⟨k,c',e,z'.sameBut hs ?_⟩
     rintro rfl
     exact hj (nodup_ix hN e1 (I.ok.inj _ _ _ e hc ▸ hi))
  ·by_cases hcc:c'=c
   ·subst hcc;exact⟨_,hc'⟩
   ·obtain⟨w2,z2⟩:=I.cell y c' e
    exact⟨w2,z2.sameBut hs hcc⟩
  ·obtain⟨e,n,ne,nf,d⟩:=I.pin p hp
   refine⟨(hs.2 p.1 ?_).trans e,n,ne,nf,d⟩
   intro q
   rw[q,hoc] at e
   have q':oc=p.2:=Option.some.inj e
   exact d w' (by rw[<- q'];exact hocd)
theorem Di {M:Model}{A:Around}{E:Value->Shared->Prop}{i:Nat}{x:Str}{v:V}{u:Value}{Q:Unit->Shared->Prop} (I:Inv X pins σ H s) (hN:X.N.Nodup) (hi:X.N[i]?=some x) (hx:Loc X.env.scope x) (r:RelV v u)
  (h:∀ s',Inv X pins (σ.set i (some v)) H s'->Q () s') (hf:X.fn x=true∨X.env.scope.names.lookup x=some .local:=by first|exact .inl rfl|exact .inr rfl|assumption):wpAny M A (storeName X.env x u) Q E s:=
 Ap I hN hi hx r (fun s' I' _=>h s' I') hf
theorem Inv.call' {s':Shared}{ch:List Addr} (I:Inv X pins σ H s) (ho:s'.os=s.os) (u:Un (frs X.stack) ch H H' s.heap s'.heap) (hok:HOk X.prog X.w H' s'.heap) (hg:AllBare s'.gens)
  (hch:∀ b∈ch,(b∈X.ex∨X.s₀.heap.objs.size<=b)/\b≠X.env.locals/\(∀ x c,X.env.cells.lookup x=some c->c≠b)/\∀ p∈X.pn++pins,p.1≠b):Inv X pins σ H' s':=by
 obtain⟨h',g',d',t',o'⟩:=s'
 have e:o'=s.os:=ho
 subst e
 exact I.call (g':=g') (t':=t') (d':=d') u hok hg hch
end
abbrev XK:=Value->Option Addr->Hp->Prop
abbrev St:=List (Option V)
abbrev VK:=V->Hp->Prop
abbrev TE:=St->Hp->VK->Prop
abbrev TT:=St->Hp->(Bool->Hp->Prop)->Prop
abbrev TA:=St->Hp->(List V->Hp->Prop)->Prop
structure Dc where
 nx:St->Hp->Prop
 rt:VK
 bk:St->Hp->Prop:=fun _ _=>False
 ct:St->Hp->Prop:=fun _ _=>False
abbrev TS:=Dc->St->Hp->Prop
def EP (X:Cx) (pins:List (Addr×Obj)) (σ:St) (Q:VK) (u:Value) (s':Shared):Prop:=∃ v H',Inv X pins σ H' s'/\RelV v u/\Q v H'
def TP (X:Cx) (pins:List (Addr×Obj)) (σ:St) (Q:Bool->Hp->Prop) (b:Bool) (s':Shared):Prop:=∃ H',Inv X pins σ H' s'/\Q b H'
def AP (X:Cx) (pins:List (Addr×Obj)) (σ:St) (Q:List V->Hp->Prop) (us:List Value) (s':Shared):Prop:=∃ vs H',Inv X pins σ H' s'/\Vals vs us/\Q vs H'
def SP (X:Cx) (pins:List (Addr×Obj)) (D:Dc) (f:Flow) (s':Shared):Prop:=
 match f with
 |.next=>∃ σ' H',Inv X pins σ' H' s'/\D.nx σ' H'
 |.brk=>∃ σ' H',Inv X pins σ' H' s'/\D.bk σ' H'
 |.cont=>∃ σ' H',Inv X pins σ' H' s'/\D.ct σ' H'
 |.ret u=>∃ v σ' H',Inv X pins σ' H' s'/\RelV v u/\D.rt v H'
def PE (X:Cx) (e:Expr) (t:TE):Prop:=
 ∀(pins:List (Addr×Obj)) (s:Shared) (σ:St) (H:Hp) (Q:VK),Inv X pins σ H s->t σ H Q->wpAny (model X.prog X.w) X.A (eval e X.env) (EP X pins σ Q) X.xe s
def PT (X:Cx) (e:Expr) (t:TT):Prop:=
 ∀(pins:List (Addr×Obj)) (s:Shared) (σ:St) (H:Hp) (Q:Bool->Hp->Prop),Inv X pins σ H s->t σ H Q->wpAny (model X.prog X.w) X.A (isTrue e X.env (eval e X.env)) (TP X pins σ Q) X.xe s
def PW (X:Cx) (e:Expr) (t:TT):Prop:=
 ∀(whole:Sem Value) (pins:List (Addr×Obj)) (s:Shared) (σ:St) (H:Hp) (Q:Bool->Hp->Prop),Inv X pins σ H s->t σ H Q->wpAny (model X.prog X.w) X.A (isTrue e X.env whole) (TP X pins σ Q) X.xe s
theorem PW.pt {X:Cx}{e:Expr}{t:TT} (h:PW X e t):PT X e t:=h _
def PA (X:Cx) (es:List Expr) (t:TA):Prop:=
 ∀(pos:Pos) (pins:List (Addr×Obj)) (s:Shared) (σ:St) (H:Hp) (Q:List V->Hp->Prop),Inv X pins σ H s->t σ H Q->wpAny (model X.prog X.w) X.A (spliced (backTo pos (starEach es X.env))) (AP X pins σ Q) X.xe s
def PS (X:Cx) (st:Stmt) (t:TS):Prop:=
 ∀(pins:List (Addr×Obj)) (s:Shared) (σ:St) (H:Hp) (D:Dc),Inv X pins σ H s->t D σ H->wpAny (model X.prog X.w) X.A (exec st X.env) (SP X pins D) X.xe s
def PSs (X:Cx) (st:List Stmt) (t:TS):Prop:=
 ∀(pins:List (Addr×Obj)) (s:Shared) (σ:St) (H:Hp) (D:Dc),Inv X pins σ H s->t D σ H->wpAny (model X.prog X.w) X.A (execs st X.env) (SP X pins D) X.xe s
theorem thn {α:Type}{t:Sem α}{Q Q':α->Shared->Prop}{M:Model}{A:Around}{E:Value->Shared->Prop}{s:Shared} (h:wpAny M A t Q E s) (hQ:∀ a s,Q a s->Q' a s):wpAny M A t Q' E s:=wpAny_mono h hQ fun _ _ x=>x
end L2
namespace L2
open PySem PySem.Spec PyProof.Rows
section
variable {X:Cx}
def PX (i:Nat):TE:=fun σ H Q=>∃ v,σ[i]?=some (some v)/\Q v H
def tC (v:V):TE:=fun _ H Q=>Q v H
theorem MQ {i:Nat}{x:Str}{pos:Pos} (hN:X.N[i]?=some x) (hv:Vis X.env.scope x) (hd:(x==("__debug__":Str))=false:=by decide) (hcd:(x==("__classdict__":Str))=false:=by decide):PE X (.Name x pos) (PX i):=by
 intro pins s σ H Q I h
 obtain⟨v,e,h⟩:=h
 obtain⟨m,hn,hl⟩:=I.loc
 obtain⟨u,r,l⟩:=hl i x v hN e hv
 have fin:EP X pins σ Q u s:=⟨v,H,I,r,h⟩
 rcases l with⟨hk,hm⟩|⟨hk,c,hc,hcell⟩
 ·exact wpAny_Name (wpAny_loadName_local I.ok.kind hk hn hm fin) hd
 ·rcases hk with hk|hk
  ·exact wpAny_Name (wpAny_loadName_cell I.ok.kind hk hc hcell fin) hd
  ·exact wpAny_Name (wpAny_loadName_free I.ok.kind hk hc hcell fin hcd) hd
theorem MV {i j pos}:PE X (.Constant (.int i) j pos) (tC (.int i)):=fun _ _ _ H _ I h=>wpAny_Constant_int ⟨.int i,H,I.tok _,⟨_,rfl⟩,h⟩
theorem Pg {b j pos}:PE X (.Constant (.bool b) j pos) (tC (.bl b)):=fun _ _ _ H _ I h=>Constant_bool ⟨.bl b,H,I,rfl,h⟩
theorem MU {j pos}:PE X (.Constant .none j pos) (tC .non):=fun _ _ _ H _ I h=>Constant_none ⟨.non,H,I,rfl,h⟩
theorem MR {x j pos}:PE X (.Constant (.str x) j pos) (tC (.str x)):=fun _ _ _ H _ I h=>Calls.Constant_str ⟨.str x,H,I.tok _,⟨_,rfl⟩,h⟩
def Gl (X:Cx) (x:Str):Prop:=X.env.kindOf x=some .globalImplicit
theorem zC {E:Value->Shared->Prop}{pins:List (Addr×Obj)}{s:Shared}{σ:St}{H:Hp}{x:Str}{u:Value}{pos:Pos}{Q:Value->Shared->Prop} (I:Inv X pins σ H s) (hg:Gl X x) (hm:X.mg x=some u) (h:Q u s)
  (hd:(x==("__debug__":Str))=false:=by decide):wpAny (model X.prog X.w) X.A (eval (.Name x pos) X.env) Q E s:=
 Calls.Name_function_global I.ok.kind hg (Calls.loadGlobal_global (by rw[I.ok.glob];exact I.mod.glob.keeps I.bk) hm h) hd
theorem AQ {E:Value->Shared->Prop}{pins:List (Addr×Obj)}{s:Shared}{σ:St}{H:Hp}{x:Str}{u:Value}{pos:Pos}{Q:Value->Shared->Prop} (I:Inv X pins σ H s) (hg:Gl X x) (hm:X.mg x=none) (hv:bootBuiltins x=some u) (h:Q u s)
  (hn:x≠"__name__":=by decide) (hd:(x==("__debug__":Str))=false:=by decide):wpAny (model X.prog X.w) X.A (eval (.Name x pos) X.env) Q E s:=by
 obtain⟨mb,h1,h2⟩:=I.mod.blt
 exact Calls.Name_function_global I.ok.kind hg (Calls.loadGlobal_builtin (by rw[I.ok.glob];exact I.mod.glob.keeps I.bk) hm (by rw[I.ok.blt];exact h1.keeps I.bk) ((h2 x hn).trans hv) h) hd
theorem Cg {x:Str}{v:V}{u:Value}{pos:Pos} (hg:Gl X x) (hm:X.mg x=none) (hv:bootBuiltins x=some u) (r:RelV v u) (hn:x≠"__name__":=by decide) (hd:(x==("__debug__":Str))=false:=by decide):PE X (.Name x pos) (tC v):=
 fun _ _ _ H _ I h=>AQ I hg hm hv ⟨v,H,I,r,h⟩ hn hd
variable {a b:Expr}{ta tb:TE}{pos:Pos}
def PC (X:Cx) (op:CmpOp) (a b:Expr) (t:TE):Prop:=
 ∀(pins:List (Addr×Obj)) (s:Shared) (σ:St) (H:Hp) (Q:VK),Inv X pins σ H s->t σ H Q->
  wpAny (model X.prog X.w) X.A (eval a X.env) (fun v s₁=>wpAny (model X.prog X.w) X.A (eval b X.env) (fun u s₂=>wpAny (model X.prog X.w) X.A (compareOp op v u) (EP X pins σ Q) X.xe s₂) X.xe s₁) X.xe s
def tB (t:TE):TT:=fun σ H Q=>t σ H fun x H1=>∃ c,x=.bl c/\Q c H1
theorem MK {op:CmpOp}{t:TE} (h:PC X op a b t) (h1:behindInMarks op b=false:=by first|exact nobehind _ (by decide) (by decide)|rfl):PT X (.Compare a [op] [b] pos) (tB t):=by
 intro pins s σ H Q I hw
 refine wpAny_isTrue_Compare1 (thn (h pins s σ H _ I hw) fun v s1 h1=>thn h1 fun u s2 h2=>thn h2 fun c s3 ⟨x,H1,I1,r1,q1⟩=> ?_) h1
 obtain⟨d,rfl,q⟩:=q1
 cases r1
 exact wpAny_truthy_bool ⟨H1,I1,q⟩
variable {tA tB':TT}{rest:List Expr}
def Qy (t u:TT):TT:=fun σ H Q=>t σ H fun c H1=>if c=true then u σ H1 Q else Q false H1
def tOr (t u:TT):TT:=fun σ H Q=>t σ H fun c H1=>if c=true then Q true H1 else u σ H1 Q
def Qs (t:TT):TT:=fun σ H Q=>t σ H fun c H1=>Q (!c) H1
theorem Km (ha:PT X a tA):PW X (.BoolOp .And [a] pos) tA:=by
 intro wh pins s σ H Q I h
 refine isTrue_and (thn (ha pins s σ H Q I h) fun c s1 e=> ?_)
 cases c with
 |true=>exact isTrue_and_nil e
 |false=>exact e
theorem MG (ha:PT X a tA):PW X (.BoolOp .Or [a] pos) tA:=by
 intro wh pins s σ H Q I h
 refine isTrue_or (thn (ha pins s σ H Q I h) fun c s1 e=> ?_)
 cases c with
 |false=>exact isTrue_or_nil e
 |true=>exact e
theorem MH (ha:PT X a tA) (hb:PW X (.BoolOp .And (b::rest) pos) tB'):PW X (.BoolOp .And (a::b::rest) pos) (Qy tA tB'):=by
 intro wh pins s σ H Q I h
 refine isTrue_and (thn (ha pins s σ H _ I h) fun c s1 ⟨H1,I1,q1⟩=> ?_)
 cases c with
 |true=>exact hb wh pins s1 σ H1 Q I1 q1
 |false=>exact⟨H1,I1,q1⟩
theorem Pb (ha:PT X a tA) (hb:PW X (.BoolOp .Or (b::rest) pos) tB'):PW X (.BoolOp .Or (a::b::rest) pos) (tOr tA tB'):=by
 intro wh pins s σ H Q I h
 refine isTrue_or (thn (ha pins s σ H _ I h) fun c s1 ⟨H1,I1,q1⟩=> ?_)
 cases c with
 |true=>exact⟨H1,I1,q1⟩
 |false=>exact hb wh pins s1 σ H1 Q I1 q1
theorem MJ (ha:PT X a tA):PT X (.UnaryOp .Not a pos) (Qs tA):=by
 intro pins s σ H Q I h
 exact isTrue_not (ha pins s σ H (fun c H1=>Q (!c) H1) I h)
def OV (ta tb:TE):TE:=fun σ H Q=>ta σ H fun x H1=>∃ c,x=.bl c/\if c=true then tb σ H1 Q else Q (.bl false) H1
def OL (ta:TE):TE:=fun σ H Q=>ta σ H fun x H1=>∃ c,x=.bl c/\Q (.bl (!c)) H1
theorem MS {op}{t:TE} (h:PE X a t):PE X (.BoolOp op [a] pos) t:=fun pins s σ H Q I hw=>BoolOp_one (h pins s σ H Q I hw)
theorem MZ (ha:PE X a ta) (hb:PE X (.BoolOp .And (b::rest) pos) tb):PE X (.BoolOp .And (a::b::rest) pos) (OV ta tb):=by
 intro pins s σ H Q I h
 refine BoolOp_and (thn (ha pins s σ H _ I h) fun v s1 ⟨x,H1,I1,r1,q1⟩=> ?_)
 obtain⟨c,rfl,q1⟩:=q1
 cases r1
 refine wpAny_truthy_bool ?_
 cases c with
 |true=>exact hb pins s1 σ H1 Q I1 q1
 |false=>exact⟨.bl false,H1,I1,rfl,q1⟩
theorem MT (ha:PE X a ta):PE X (.UnaryOp .Not a pos) (OL ta):=by
 intro pins s σ H Q I h
 refine UnaryOp_ (thn (ha pins s σ H _ I h) fun v s1 ⟨x,H1,I1,r1,q1⟩=> ?_)
 obtain⟨c,rfl,q1⟩:=q1
 cases r1
 exact not_of (wpAny_truthy_bool ⟨.bl (!c),H1,I1,rfl,q1⟩)
end
end L2
namespace L2
open PySem PySem.Spec PyProof.Rows
def SqL (K:PySem.W.Frag) (H:Hp) (a:Addr) (xs:List V):Prop:=
 Rd H a (.lst xs)∨
  ∃(o:Obj) (its:Array Value) (n:Nat),K.lookup a=some o/\o.cls=.type "list"/\o.dict=none/\o.data=.seq its n/\its.size<=sizeLine/\Vals xs its.toList
def SqT (K:PySem.W.Frag) (H:Hp) (a:Addr) (xs:List V):Prop:=
 Rd H a (.tup xs)∨
  ∃(o:Obj) (its:Array Value) (n:Nat),K.lookup a=some o/\o.cls=.type "tuple"/\o.data=.seq its n/\its.size<=sizeLine/\Vals xs its.toList
def QS:Value->Option V
 |.none=>some .non
 |.bool b=>some (.bl b)
 |.int i _=>some (.int i)
 |.str x _=>some (.str x)
 |.bytes b _=>some (.byt b)
 |.float b _=>some (.flt b)
 |.ref a=>some (.ref a)
 |.type n=>some (.ty n)
 |_=>none
theorem RelV.abs {x:V}{u:Value} (r:RelV x u):QS u=some x:=by
 cases x with
 |non=>cases r;rfl
 |bl _=>cases r;rfl
 |int _=>obtain⟨t,rfl⟩:=r;rfl
 |str _=>obtain⟨t,rfl⟩:=r;rfl
 |byt _=>obtain⟨t,rfl⟩:=r;rfl
 |flt _=>obtain⟨t,rfl⟩:=r;rfl
 |ref _=>cases r;rfl
 |ty _=>cases r;rfl
theorem RelV.inj {x y:V}{u:Value} (r:RelV x u) (q:RelV y u):x=y:=Option.some.inj (r.abs.symm.trans q.abs)
theorem Vals.inj:∀ {xs ys:List V}{us:List Value},Vals xs us->Vals ys us->xs=ys
 |_,_,_,.nil,.nil=>rfl
 |_,_,_,.cons r t,.cons r' t'=>by rw[r.inj r',Vals.inj t t']
section
variable {X:Cx}{pins:List (Addr×Obj)}{σ:St}{H:Hp}{s:Shared}{a:Addr}{xs ys:List V}
theorem SqL.of {K:PySem.W.Frag} (h:H a=some (.lst xs)):SqL K H a xs:=.inl (.inl h)
theorem Inv.list (I:Inv X pins σ H s) (h:SqL X.K H a xs):∃ its:List Value,Vals xs its/\PlainL s.heap a its.toArray/\xs.length<=sizeLine:=by
 rcases h with h|⟨o,its,n,hk,hc,hd,hs,hz,r⟩
 ·obtain⟨z,its,n,r,e⟩:=h.ok I.hok
  exact⟨its,r,⟨_,n,e,rfl,rfl,rfl⟩,z⟩
 ·refine⟨its.toList,r,⟨o,n,I.kIn a o hk,hc,hd,by simpa using hs⟩,?_⟩
  have e:=r.length
  simp only[Array.length_toList] at e
  omega
theorem Inv.tuple (I:Inv X pins σ H s) (h:SqT X.K H a xs):∃ its:List Value,Vals xs its/\IsTup s.heap a its.toArray/\xs.length<=sizeLine:=by
 rcases h with h|⟨o,its,n,hk,hc,hs,hz,r⟩
 ·obtain⟨z,its,r,p⟩:=h.ok I.hok
  exact⟨its,r,p,z⟩
 ·refine⟨its.toList,r,⟨o,I.kIn a o hk,hc,n,by simpa using hs⟩,?_⟩
  have e:=r.length
  simp only[Array.length_toList] at e
  omega
theorem Inv.list_inj (I:Inv X pins σ H s) (h:SqL X.K H a xs) (h':SqL X.K H a ys):xs=ys:=by
 obtain⟨its,r,⟨o,n,e,_,_,d⟩,_⟩:=I.list h
 obtain⟨its',r',⟨o',n',e',_,_,d'⟩,_⟩:=I.list h'
 rw[e] at e';cases e'
 rw[d] at d'
 injection d' with d1 _
 have:its=its':=by simpa using congrArg Array.toList d1
 subst this
 exact r.inj r'
theorem Inv.tuple_inj (I:Inv X pins σ H s) (h:SqT X.K H a xs) (h':SqT X.K H a ys):xs=ys:=by
 obtain⟨its,r,⟨o,e,_,n,d⟩,_⟩:=I.tuple h
 obtain⟨its',r',⟨o',e',_,n',d'⟩,_⟩:=I.tuple h'
 rw[e] at e';cases e'
 rw[d] at d'
 injection d' with d1 _
 have:its=its':=by simpa using congrArg Array.toList d1
 subst this
 exact r.inj r'
end
abbrev Cx.wish (X:Cx) (E:Value->Shared->Prop):Cx:={ X with xe:=E }
abbrev Cx.nox (X:Cx):Cx:=X.wish fun _ _=>False
theorem Cx.Ok.wish {X:Cx} (ok:X.Ok) (E:Value->Shared->Prop):(X.wish E).Ok:=
 ⟨ok.mod,ok.kind,ok.glob,ok.blt,ok.above,ok.inj,ok.has,ok.cab,ok.hd,ok.frames,ok.stk,ok.exf,ok.bs,ok.bsz,ok.noex,ok.exfs,ok.funs,ok.frf⟩
theorem Cx.Ok.unwish {X:Cx}{E:Value->Shared->Prop} (ok:(X.wish E).Ok):X.Ok:=
 ⟨ok.mod,ok.kind,ok.glob,ok.blt,ok.above,ok.inj,ok.has,ok.cab,ok.hd,ok.frames,ok.stk,ok.exf,ok.bs,ok.bsz,ok.noex,ok.exfs,ok.funs,ok.frf⟩
section
variable {X:Cx}{pins:List (Addr×Obj)}{σ:St}{H:Hp}{s:Shared}{E:Value->Shared->Prop}
theorem Inv.wish (I:Inv X pins σ H s) (E:Value->Shared->Prop):Inv (X.wish E) pins σ H s:=⟨I.ok.wish E,I.os,I.bare,I.base,I.loc,I.cell,I.free,I.freeC,I.pin,I.hok,I.len⟩
theorem Inv.unwish (I:Inv (X.wish E) pins σ H s):Inv X pins σ H s:=⟨I.ok.unwish,I.os,I.bare,I.base,I.loc,I.cell,I.free,I.freeC,I.pin,I.hok,I.len⟩
theorem SP.unwish {D:Dc}{f:Flow}{s':Shared} (h:SP (X.wish E) pins D f s'):SP X pins D f s':=by
 cases f with
 |next=>obtain⟨σ',H',I,q⟩:=h;exact⟨σ',H',I.unwish,q⟩
 |brk=>obtain⟨σ',H',I,q⟩:=h;exact⟨σ',H',I.unwish,q⟩
 |cont=>obtain⟨σ',H',I,q⟩:=h;exact⟨σ',H',I.unwish,q⟩
 |ret u=>obtain⟨v,σ',H',I,r,q⟩:=h;exact⟨v,σ',H',I.unwish,r,q⟩
end
section
variable {X:Cx}{st:Stmt}{rest:List Stmt}{t u:TS}{e:Expr}{te:TE}{pos:Pos}
def OM:TS:=fun D σ H=>D.nx σ H
def Qq (t u:TS):TS:=fun D σ H=>t { D with nx:=u D } σ H
theorem Kp:PSs X [] OM:=fun _ _ σ H _ I h=>wpAny_execs_nil ⟨σ,H,I,h⟩
theorem HR (h1:PS X st t) (h2:PSs X rest u):PSs X (st::rest) (Qq t u):=by
 intro pins s σ H D I h
 refine wpAny_execs_cons (thn (h1 pins s σ H { D with nx:=u D } I h) fun f s1 q=> ?_)
 cases f with
 |next=>
  obtain⟨σ',H',I',q⟩:=q
  exact h2 pins s1 σ' H' D I' q
 |ret v=>exact q
 |brk=>exact q
 |cont=>exact q
theorem Ko (h1:PS X st t):PSs X [st] t:=by
 intro pins s σ H D I h
 refine wpAny_execs_cons (thn (h1 pins s σ H D I h) fun f s1 q=> ?_)
 cases f with
 |next=>exact wpAny_execs_nil q
 |ret v=>exact q
 |brk=>exact q
 |cont=>exact q
theorem Inv.quiet {pins:List (Addr×Obj)}{σ:St}{H:Hp}{s:Shared} (I:Inv X pins σ H s):interactive X.env=false:=by simp[interactive,I.ok.kind]
def OP (te:TE):TS:=fun D σ H=>te σ H fun _ H1=>D.nx σ H1
theorem Kr (he:PE X e te) (hs:swapsWith e none pos.line X.env=pure false:=by rfl):PS X (.Expr e pos) (OP te):=by
 intro pins s σ H D I h
 exact wpAny_Expr_any (thn (he pins s σ H _ I h) fun v s1 ⟨x,H1,I1,r1,q1⟩=>⟨σ,H1,I1,q1⟩) I.quiet hs
def Qr (te:TE):TS:=fun D σ H=>te σ H D.rt
theorem MM (he:PE X e te):PS X (.Return (some e) pos) (Qr te):=by
 intro pins s σ H D I h
 exact wpAny_Return_some (thn (he pins s σ H _ I h) fun v s1 ⟨x,H1,I1,r1,q1⟩=>⟨x,σ,H1,I1,r1,q1⟩)
def Qu (c:TT) (t u:TS):TS:=fun D σ H=>c σ H fun b H1=>if b=true then t D σ H1 else u D σ H1
theorem Pc {c:Expr}{a b:List Stmt}{tc:TT} (hc:PT X c tc) (ha:PSs X a t) (hb:PSs X b u):PS X (.If c a b pos) (Qu tc t u):=by
 intro pins s σ H D I h
 refine wpAny_If (thn (hc pins s σ H _ I h) fun d s1 ⟨H1,I1,q1⟩=> ?_)
 cases d with
 |true=>exact ha pins s1 σ H1 D I1 q1
 |false=>exact hb pins s1 σ H1 D I1 q1
end
abbrev TG:=V->St->Hp->(St->Hp->Prop)->Prop
abbrev TGs:=List V->St->Hp->(St->Hp->Prop)->Prop
def PG (X:Cx) (target:Expr) (t:TG):Prop:=
 ∀(pins:List (Addr×Obj)) (s:Shared) (σ:St) (H:Hp) (v:V) (u:Value) (Q:St->Hp->Prop),Inv X pins σ H s->RelV v u->t v σ H Q->
  wpAny (model X.prog X.w) X.A (assign target X.env u) (fun _ s'=>∃ σ' H',Inv X pins σ' H' s'/\Q σ' H') X.xe s
def PGs (X:Cx) (ts:List Expr) (t:TGs):Prop:=
 ∀(pins:List (Addr×Obj)) (s:Shared) (σ:St) (H:Hp) (vs:List V) (us:List Value) (Q:St->Hp->Prop),Inv X pins σ H s->Vals vs us->t vs σ H Q->
  wpAny (model X.prog X.w) X.A (assignInOrder ((assignEach ts X.env).map (·.2)) us) (fun _ s'=>∃ σ' H',Inv X pins σ' H' s'/\Q σ' H') X.xe s
abbrev PM:=V->V->V->Hp->(Hp->Prop)->Prop
def Qk (X:Cx) (t:PM):Prop:=
 ∀(pins:List (Addr×Obj)) (s:Shared) (σ:St) (H:Hp) (o i v:V) (ov iv u:Value) (Q:Hp->Prop),Inv X pins σ H s->RelV o ov->RelV i iv->RelV v u->t o i v H Q->
  wpAny (model X.prog X.w) X.A (setItem ov iv u) (fun _ s'=>∃ H',Inv X pins σ H' s'/\Q H') X.xe s
section
variable {X:Cx}{pos:Pos}
def NO (i:Nat):TG:=fun v σ H Q=>Q (σ.set i (some v)) H
theorem Cf {i:Nat}{x:Str} (hN:X.N.Nodup) (hi:X.N[i]?=some x) (hx:Loc X.env.scope x) (hf:X.fn x=true∨X.env.scope.names.lookup x=some .local:=by first|exact .inl rfl|exact .inr rfl|assumption):PG X (.Name x pos) (NO i):=by
 intro pins s σ H v u Q I r h
 exact wpAny_assign_Name (Di I hN hi hx r (fun s' I'=>⟨_,H,I',h⟩) hf)
def QO:TGs:=fun vs σ H Q=>vs=[]/\Q σ H
def Py (t:TG) (u:TGs):TGs:=fun vs σ H Q=>∃ v r,vs=v::r/\t v σ H fun σ' H'=>u r σ' H' Q
theorem FL:PGs X [] QO:=by
 intro pins s σ H vs us Q I r h
 obtain⟨e,h⟩:=h
 subst e
 cases r
 exact assignInOrder_nil ⟨σ,H,I,h⟩
theorem sU {e:Expr}{es:List Expr}{t:TG}{u:TGs} (h1:PG X e t) (h2:PGs X es u)
  (hs:(assignEach (e::es) X.env).map (·.2)=assign e X.env::(assignEach es X.env).map (·.2):=by rfl):PGs X (e::es) (Py t u):=by
 intro pins s σ H vs us Q I r h
 obtain⟨v,vr,e1,h⟩:=h
 subst e1
 cases r with
 |cons r rr=>
  rw[hs]
  refine assignInOrder_cons (thn (h1 pins s σ H _ _ _ I r h) fun _ s1 ⟨σ1,H1,I1,q1⟩=> ?_)
  exact h2 pins s1 σ1 H1 _ _ Q I1 rr q1
def QM (K:PySem.W.Frag) (n:Nat) (t:TGs):TG:=fun v σ H Q=>∃ a xs,v=.ref a/\SqT K H a xs/\xs.length=n/\t xs σ H Q
theorem JC {es:List Expr}{k:Nat}{t:TGs}{n:Nat} (hc:X.calm=true) (h:PGs X es t)
  (hn:(assignEach es X.env).length=n:=by rfl) (hst:(assignEach es X.env).findIdx? (·.1)=none:=by rfl):PG X (.Tuple es k pos) (QM X.K n t):=by
 intro pins s σ H v u Q I r hw
 obtain⟨a,xs,e1,hq,hl,hw⟩:=hw
 subst e1
 cases r
 obtain⟨its,rv,ht,hz⟩:=I.tuple hq
 refine assign_Tuple_tuple (I.ok.hd hc) ht (by simp[hn,<- hl,rv.length]) hst fun h' hx=> ?_
 have I1:Inv X pins σ H { s with heap:=h' }:=I.kept (t':=s.toks) fun b o e=>hx b o (Nat.ne_of_lt (Heap.lt_size e)) e
 exact h pins _ σ H xs _ Q I1 (by simpa using rv) hw
def gSub (to ti:TE) (t:PM):TG:=fun v σ H Q=>to σ H fun o H1=>ti σ H1 fun i H2=>t o i v H2 fun H3=>Q σ H3
theorem FM {o i:Expr}{to ti:TE}{t:PM} (ho:PE X o to) (hi:PE X i ti) (hs:Qk X t)
  (ha:∀ v,assign (.Subscript o i pos) X.env v=(do
   let ov <- holding [v] (eval o X.env)
   let iv <- holding [v,ov] (eval i X.env)
   standAt pos
   holding [v,ov,iv] (setItem ov iv v)
   release [v,ov,iv] []):=by intro _;rfl):PG X (.Subscript o i pos) (gSub to ti t):=by
 intro pins s σ H v u Q I r h
 rw[ha]
 refine wpAny_bind (wpAny_holding (thn (ho pins s σ H _ I h) fun ov s1 ⟨x,H1,I1,r1,q1⟩=> ?_))
 refine wpAny_bind (wpAny_holding (thn (hi pins s1 σ H1 _ I1 q1) fun iv s2 ⟨y,H2,I2,r2,q2⟩=> ?_))
 refine wpAny_bind (wpAny_standAt (wpAny_bind (wpAny_holding (thn (hs pins s2 σ H2 x y v ov iv u _ I2 r1 r2 r q2) fun _ s3 ⟨H3,I3,q3⟩=> ?_))))
 exact wpAny_release ⟨σ,H3,I3,q3⟩
def PZ (te:TE) (g:TG):TS:=fun D σ H=>te σ H fun x H1=>g x σ H1 D.nx
theorem JB {tg e:Expr}{te:TE}{g:TG} (he:PE X e te) (hg:PG X tg g) (hs:swapsWithSole [tg] e pos.line X.env=pure false:=by rfl) (hw:swappedStores [tg] e X.env=pure none:=by rfl)
  (h1:(assignEach [tg] X.env).map (·.2)=[assign tg X.env]:=by rfl):PS X (.Assign [tg] e pos) (PZ te g):=by
 intro pins s σ H D I h
 refine wpAny_Assign_stores (thn (he pins s σ H _ I h) fun v s1 ⟨x,H1,I1,r1,q1⟩=> ?_) hs hw
 rw[h1]
 exact thn (hg pins s1 σ H1 x v _ I1 r1 q1) fun _ s2 q=>q
theorem ML {i:Nat}{x:Str}{e:Expr}{te:TE}{pos':Pos} (hN:X.N.Nodup) (hi:X.N[i]?=some x) (hx:Loc X.env.scope x) (he:PE X e te) (hs:swapsWith e (some (.Name x pos')) pos.line X.env=pure false:=by rfl) (hf:X.fn x=true∨X.env.scope.names.lookup x=some .local:=by first|exact .inl rfl|exact .inr rfl|assumption):
  PS X (.Assign [.Name x pos'] e pos) (PZ te (NO i)):=by
 intro pins s σ H D I h
 refine wpAny_Assign_Name (thn (he pins s σ H _ I h) fun v s1 ⟨y,H1,I1,r1,q1⟩=> ?_) hs
 exact Di I1 hN hi hx r1 (fun s2 I2=>⟨_,H1,I2,q1⟩) hf
end
section
variable {X:Cx}{pos:Pos}
end
structure It where
 go:Nat->Hp->Prop
 yld:Nat->Hp->V->Hp->Prop
 stop:Nat->Hp->Prop
def JZ (X:Cx) (pins:List (Addr×Obj)) (H:Hp) (b:Addr):Prop:=
 H b=none/\b≠X.env.locals/\b∉X.fs/\(b∈X.ex∨X.s₀.heap.objs.size<=b)/\(∀ x c,X.env.cells.lookup x=some c->c≠b)/\∀ p∈X.pn++pins,p.1≠b
theorem Inv.fpOk {X:Cx}{pins:List (Addr×Obj)}{σ:St}{H H':Hp}{s:Shared}{b:Addr} (I:Inv X pins σ H s) (hb:s.heap.objs.size<=b) (hn:H' b=none):JZ X pins H' b:=by
 refine⟨hn,Nat.ne_of_gt (Nat.lt_of_lt_of_le I.lt hb),I.nofs hb,.inr (Nat.le_trans I.sz hb),fun x c e z=> ?_,fun p hp z=> ?_⟩
 ·obtain⟨v,q⟩:=I.cell x c e
  exact absurd (Nat.lt_of_lt_of_le q.lt (by rw[z];exact hb)) (Nat.lt_irrefl _)
 ·exact absurd (Nat.lt_of_lt_of_le (Heap.lt_size (I.pin p hp).1) (by rw[z];exact hb)) (Nat.lt_irrefl _)
structure LX (P:Program) (w:World) (K:PySem.W.Frag) (tg:Expr) (J:It) (fp:List Addr) (it:Addr) (tn:Nat->Heap->Prop):Prop where
 mem:it∈fp
 obj:∀ i h,tn i h->∀ b∈fp,∃ o,h.get? b=some o/\∀ v,o.data≠ .cell v
 keep:∀ i h h',tn i h->(∀ b∈fp,∀ o,h.get? b=some o->h'.get? b=some o)->tn i h'
 item:∀(X:Cx),X.prog=P->X.w=w->X.K=K->X.calm=true->∀(i:Nat) (pins:List (Addr×Obj)) (s:Shared) (σ:St) (H:Hp) (E:Value->Shared->Prop),Inv X pins σ H s->(∀ b∈fp,JZ X pins H b)->tn i s.heap->J.go i H->
  wpAny (model P w) X.A (pyNext (.ref it)) (fun r s1=>∃ u,r=some u/\
   wpAny (model P w) X.A (letOwnedTupleGo tg (.ref it) u) (fun _ s2=>∃ x H',Inv X pins σ H' s2/\RelV x u/\J.yld i H x H'/\tn (i+1) s2.heap/\∀ b∈fp,H' b=none) E s1) E s
 done:∀(X:Cx),X.prog=P->X.w=w->X.K=K->X.calm=true->∀(i:Nat) (pins:List (Addr×Obj)) (s:Shared) (σ:St) (H:Hp) (E:Value->Shared->Prop),Inv X pins σ H s->(∀ b∈fp,JZ X pins H b)->tn i s.heap->J.stop i H->
  wpAny (model P w) X.A (pyNext (.ref it)) (fun r s1=>r=none/\Inv X pins σ H s1) E s
 self:∀(A:Around) (i:Nat) (s:Shared) (Q:Value->Shared->Prop) (E:Value->Shared->Prop),tn i s.heap->Q (.ref it) s->wpAny (model P w) A (pyIter (.ref it)) Q E s
abbrev TI:=St->Hp->(It->Hp->Prop)->Prop
def PIE (X:Cx) (pins:List (Addr×Obj)) (σ:St) (tg:Expr) (R:It->Hp->Prop) (itv:Value) (s2:Shared):Prop:=
 ∃(it:Addr) (fp:List Addr) (tn:Nat->Heap->Prop) (J:It) (H':Hp),itv=.ref it/\Inv X pins σ H' s2/\LX X.prog X.w X.K tg J fp it tn/\tn 0 s2.heap/\(∀ b∈fp,JZ X pins H' b)/\R J H'
def PI (X:Cx) (tg iter:Expr) (wi:TI):Prop:=
 ∀(pins:List (Addr×Obj)) (s:Shared) (σ:St) (H:Hp) (R:It->Hp->Prop),Inv X pins σ H s->wi σ H R->
  wpAny (model X.prog X.w) X.A (eval iter X.env) (fun v s1=>wpAny (model X.prog X.w) X.A (pyIter v) (PIE X pins σ tg R) X.xe s1) X.xe s
theorem IH {M:Model}{A:Around}{E:Value->Shared->Prop}{s:Shared}{tg:Expr}{it:Addr}{u:Value}{o:Obj}{n:String}{vs:Array Value}{Q:Unit->Shared->Prop} (ho:s.heap.get? it=some o) (hc:o.cls=.type n) (hd:o.data=.fields vs)
  (hn:["enumerate","zip","dict_itemiterator","dict_reverseitemiterator","odict_iterator","itertools.zip_longest","itertools.pairwise"].contains n=false) (hQ:Q () s):wpAny M A (letOwnedTupleGo tg (.ref it) u) Q E s:=by
 unfold letOwnedTupleGo
 cases tg <;> first
  |exact wpAny_pure hQ
  |(cases u <;> first
    |exact wpAny_pure hQ
    |(refine wpAny_bind (wpAny_load ho ?_)
      rw[hc,hd]
      show wpAny M A (if(["enumerate","zip","dict_itemiterator","dict_reverseitemiterator","odict_iterator","itertools.zip_longest","itertools.pairwise"].contains n&&vs[0]?==some (rawInt _))=true then _ else _) Q E s
      rw[if_neg (by intro h;rw[hn,Bool.false_and] at h;cases h)]
      exact wpAny_pure hQ))
def Itl (K:PySem.W.Frag) (a:Addr):It:=
 ⟨fun i H=>∃ xs x,SqL K H a xs/\xs[i]?=some x,fun i H x H'=>H'=H/\∀ xs,SqL K H a xs->xs[i]?=some x,fun i H=>∃ xs,SqL K H a xs/\xs.length<=i⟩
def Itt (K:PySem.W.Frag) (a:Addr):It:=
 ⟨fun i H=>∃ xs x,SqT K H a xs/\xs[i]?=some x,fun i H x H'=>H'=H/\∀ xs,SqT K H a xs->xs[i]?=some x,fun i H=>∃ xs,SqT K H a xs/\xs.length<=i⟩
def Itr (lo:Int) (n:Nat):It:=⟨fun i _=>i<n,fun i H x H'=>H'=H/\x=.int (lo+i),fun i _=>n<=i⟩
theorem Fk {P:Program}{w:World}{K:PySem.W.Frag}{tg:Expr} (a it:Addr):LX P w K tg (Itl K a) [it] it (fun i h=>h.IsListIter it a i) where
 mem:=by simp
 obj:=fun i h st b hb=>by
  have e:b=it:=by simpa using hb
  subst e
  obtain⟨o,e,c,d⟩:=st
  exact⟨o,e,fun v z=>by rw[d] at z;cases z⟩
 keep:=fun i h h' st k=>st.at fun o e=>k it (by simp) o e
 item:=by
  intro X hP hw hK hc i pins s σ H E I hf st hg
  subst hP hw hK
  obtain⟨xs,x,hq,hx⟩:=hg
  obtain⟨its,rv,p,hz⟩:=I.list hq
  obtain⟨u,hu,ru⟩:=rv.get hx
  obtain⟨f0,f1,f2,f3,f4,f5⟩:=hf it (by simp)
  refine wpAny_pyNext_list_item st p.isList (x:=u) (by simpa using hu) fun h' st' sb=> ?_
  have I1:Inv X pins σ H { s with heap:=h' }:=I.turned (t':=s.toks) (fun b o hb e=>(sb.2 b hb).trans e) f0 f1 f3 f4 f5
  obtain⟨o,e,c,d⟩:=id st'
  exact⟨u,rfl,IH (s:={ s with heap:=h' }) e c d (by decide) ⟨x,H,I1,ru,⟨rfl,fun ys hy=>by rw[I.list_inj hy hq];exact hx⟩,st',fun b hb=>(hf b hb).1⟩⟩
 done:=by
  intro X hP hw hK hc i pins s σ H E I hf st hg
  subst hP hw hK
  obtain⟨xs,hq,hx⟩:=hg
  obtain⟨its,rv,p,hz⟩:=I.list hq
  obtain⟨f0,f1,f2,f3,f4,f5⟩:=hf it (by simp)
  have hl:=rv.length
  exact wpAny_pyNext_list_end (I.ok.hd hc) st p.isList (by simp;omega) fun h' eb=>⟨rfl,I.turned (t':=s.toks) (fun b o hb e=>eb b o hb e) f0 f1 f3 f4 f5⟩
 self:=fun _ _ _ _ _ st h=>wpAny_pyIter_listiter st h
theorem Eh {P:Program}{w:World}{K:PySem.W.Frag}{tg:Expr} (a it:Addr):LX P w K tg (Itt K a) [it] it (fun i h=>h.IsTupleIter it a i) where
 mem:=by simp
 obj:=fun i h st b hb=>by
  have e:b=it:=by simpa using hb
  subst e
  obtain⟨o,e,c,d⟩:=st
  exact⟨o,e,fun v z=>by rw[d] at z;cases z⟩
 keep:=fun i h h' st k=>st.at fun o e=>k it (by simp) o e
 item:=by
  intro X hP hw hK hc i pins s σ H E I hf st hg
  subst hP hw hK
  obtain⟨xs,x,hq,hx⟩:=hg
  obtain⟨its,rv,p,hz⟩:=I.tuple hq
  obtain⟨u,hu,ru⟩:=rv.get hx
  obtain⟨f0,f1,f2,f3,f4,f5⟩:=hf it (by simp)
  refine wpAny_pyNext_tuple_item st (show s.heap.IsTuple a its.toArray from p) (x:=u) (by simpa using hu) fun h' st' sb=> ?_
  have I1:Inv X pins σ H { s with heap:=h' }:=I.turned (t':=s.toks) (fun b o hb e=>(sb.2 b hb).trans e) f0 f1 f3 f4 f5
  obtain⟨o,e,c,d⟩:=id st'
  exact⟨u,rfl,IH (s:={ s with heap:=h' }) e c d (by decide) ⟨x,H,I1,ru,⟨rfl,fun ys hy=>by rw[I.tuple_inj hy hq];exact hx⟩,st',fun b hb=>(hf b hb).1⟩⟩
 done:=by
  intro X hP hw hK hc i pins s σ H E I hf st hg
  subst hP hw hK
  obtain⟨xs,hq,hx⟩:=hg
  obtain⟨its,rv,p,hz⟩:=I.tuple hq
  obtain⟨f0,f1,f2,f3,f4,f5⟩:=hf it (by simp)
  have hl:=rv.length
  exact wpAny_pyNext_tuple_end (I.ok.hd hc) st (show s.heap.IsTuple a its.toArray from p) (by simp;omega) fun h' eb=>⟨rfl,I.turned (t':=s.toks) (fun b o hb e=>eb b o hb e) f0 f1 f3 f4 f5⟩
 self:=fun _ _ _ _ _ st h=>wpAny_pyIter_tupleiter st h
theorem Ei {P:Program}{w:World}{K:PySem.W.Frag}{tg:Expr} (it:Addr) (lo:Int) (n:Nat):LX P w K tg (Itr lo n) [it] it (fun i h=>IsRangeIter h it (lo+(i:Nat)*1) ((n:Int)-(i:Nat)) 1) where
 mem:=by simp
 obj:=fun i h st b hb=>by
  have e:b=it:=by simpa using hb
  subst e
  exact⟨_,st,fun v z=>by
   have z':Data.fields _=Data.cell v:=z
   cases z'⟩
 keep:=fun i h h' st k=>k it (by simp) _ st
 item:=by
  intro X hP hw hK hc i pins s σ H E I hf st hg
  subst hP hw hK
  obtain⟨f0,f1,f2,f3,f4,f5⟩:=hf it (by simp)
  have W:=Walks.range (prog:=X.prog) (w:=X.w) (I.ok.hd hc) it lo 1 n
  refine W.item i s _ _ hg st fun v h' tk hv st' kk=> ?_
  obtain⟨t,rfl⟩:=hv
  have I1:Inv X pins σ H { s with heap:=h',toks:=tk }:=I.turned (fun b o hb e=>kk b o (by simpa using hb) e) f0 f1 f3 f4 f5
  refine⟨_,rfl,IH (s:={ s with heap:=h',toks:=tk }) (n:="range_iterator") st' rfl rfl (by decide) ⟨.int (lo+i),H,I1,⟨t,?_⟩,⟨rfl,rfl⟩,st',fun b hb=>(hf b hb).1⟩⟩
  rw[Int.mul_one]
 done:=by
  intro X hP hw hK hc i pins s σ H E I hf st hg
  subst hP hw hK
  obtain⟨f0,f1,f2,f3,f4,f5⟩:=hf it (by simp)
  exact wpAny_pyNext_range_end (I.ok.hd hc) st (by have:n<=i:=hg;omega) fun h' eb=>⟨rfl,I.turned (t':=s.toks) (fun b o hb e=>eb b o hb e) f0 f1 f3 f4 f5⟩
 self:=fun _ _ _ _ _ st h=>wpAny_pyIter_rangeiter st h
end L2
namespace L2
open PySem PySem.Spec PyProof.Rows
section
variable {X:Cx}{tg:Expr}
def Pr (K:PySem.W.Frag) (tl:TE):TI:=fun σ H R=>tl σ H fun x H1=>∃ a,x=.ref a/\(∃ xs,SqL K H1 a xs)/\R (Itl K a) H1
def QL (K:PySem.W.Frag) (tl:TE):TI:=fun σ H R=>tl σ H fun x H1=>∃ a,x=.ref a/\(∃ xs,SqT K H1 a xs)/\R (Itt K a) H1
theorem Kw {l:Expr}{tl:TE} (hl:PE X l tl):PI X tg l (Pr X.K tl):=by
 intro pins s σ H R I h
 refine thn (hl pins s σ H _ I h) fun v s1 ⟨x,H1,I1,r1,q1⟩=> ?_
 obtain⟨a,e,⟨xs,hq⟩,q⟩:=q1
 subst e
 cases r1
 obtain⟨its,rv,p,hz⟩:=I1.list hq
 refine wpAny_pyIter_list p.isList ?_
 refine⟨s1.heap.objs.size,[s1.heap.objs.size],_,_,H1,rfl,I1.kept (t':=s1.toks) fun b o e=>Heap.get?_push_of_some _ e,Fk a _,⟨_,Heap.get?_push_size _ rfl,rfl,rfl⟩,fun b hb=> ?_,q⟩
 have e:b=s1.heap.objs.size:=by simpa using hb
 subst e
 exact I1.fpOk (Nat.le_refl _) (I1.hok.fresh (Nat.le_refl _))
theorem MP {l:Expr}{tl:TE} (hl:PE X l tl):PI X tg l (QL X.K tl):=by
 intro pins s σ H R I h
 refine thn (hl pins s σ H _ I h) fun v s1 ⟨x,H1,I1,r1,q1⟩=> ?_
 obtain⟨a,e,⟨xs,hq⟩,q⟩:=q1
 subst e
 cases r1
 obtain⟨its,rv,p,hz⟩:=I1.tuple hq
 refine wpAny_pyIter_tuple (show s1.heap.IsTuple a its.toArray from p) ?_
 refine⟨s1.heap.objs.size,[s1.heap.objs.size],_,_,H1,rfl,I1.kept (t':=s1.toks) fun b o e=>Heap.get?_push_of_some _ e,Eh a _,⟨_,Heap.get?_push_size _ rfl,rfl,rfl⟩,fun b hb=> ?_,q⟩
 have e:b=s1.heap.objs.size:=by simpa using hb
 subst e
 exact I1.fpOk (Nat.le_refl _) (I1.hok.fresh (Nat.le_refl _))
theorem HK {pins:List (Addr×Obj)}{σ:St}{H:Hp}{s:Shared}{R:It->Hp->Prop}{E:Value->Shared->Prop}{lo hi:Int}{t u v:Tok}{tk:Nat} (I:Inv X pins σ H s) (h1: -(2 ^ 62)<=lo) (h2:lo<2 ^ 62) (h3: -(2 ^ 62)<=hi) (h4:hi<2 ^ 62)
  (q:R (Itr lo (hi-lo).toNat) H):wpAny (model X.prog X.w) X.A (pyIter (.ref s.heap.objs.size)) (PIE X pins σ tg R) E { s with heap:=s.heap.push { cls:=.type "range",data:=.fields #[.int lo t,.int hi u,.int 1 v] },toks:=tk }:=by
 refine wpAny_pyIter_range (IsRange.new ..) (small_one h1 h2 h3 h4) ?_
 have I1:Inv X pins σ H { s with heap:=s.heap.push { cls:=.type "range",data:=.fields #[.int lo t,.int hi u,.int 1 v] },toks:=tk }:=I.kept fun b o e=>Heap.get?_push_of_some _ e
 refine⟨(s.heap.push { cls:=.type "range",data:=.fields #[.int lo t,.int hi u,.int 1 v] }).objs.size,[(s.heap.push { cls:=.type "range",data:=.fields #[.int lo t,.int hi u,.int 1 v] }).objs.size],_,_,H,rfl,
  I1.kept (t':=tk) fun b o e=>Heap.get?_push_of_some _ e,Ei _ lo (hi-lo).toNat,?_,fun b hb=> ?_,q⟩
 ·have e1:lo+((0:Nat):Int)*1=lo:=by simp
  have e2:(((hi-lo).toNat:Nat):Int)-((0:Nat):Int)=Builtin.Range.rangeSize lo hi 1:=by rw[rangeSize_one];split <;> omega
  show IsRangeIter _ _ (lo+((0:Nat):Int)*1) ((((hi-lo).toNat:Nat):Int)-((0:Nat):Int)) 1
  rw[e1,e2]
  exact Heap.get?_push_size _ rfl
 ·have e:b=(s.heap.push { cls:=.type "range",data:=.fields #[.int lo t,.int hi u,.int 1 v] }).objs.size:=by simpa using hb
  subst e
  exact I1.fpOk (Nat.le_refl _) (I1.hok.fresh (Nat.le_refl _))
def Pq (ta:TA):TI:=fun σ H R=>ta σ H fun vs H1=>∃ j:Int,vs=[.int j]/\ -(2 ^ 62)<=j/\j<2 ^ 62/\R (Itr 0 j.toNat) H1
theorem FK {a:Expr}{ta:TA}{p pos:Pos} (hg:Gl X "range") (hm:X.mg "range"=none) (ha:PA X [a] ta) (hs:starEach [a] X.env=[(false,eval a X.env)]:=by rfl):PI X tg (.Call (.Name "range" p) [a] [] pos) (Pq ta):=by
 intro pins s σ H R I h
 refine Call_ (AQ I hg hm boot_range (PyProof.Rows.callWith_type1 (thn (ha pos pins s σ H _ I h) fun us s1 ⟨vs,H1,I1,r1,q1⟩=> ?_) hs rfl))
 obtain⟨j,e,q1,q2,q⟩:=q1
 subst e
 cases r1 with
 |cons r rr=>
  cases rr
  obtain⟨t,rfl⟩:=r
  exact call_range_1 (HK I1 (by omega) (by omega) q1 q2 (by simpa using q))
def OO (wi:TI) (g:TG) (tb:TS):TS:=fun D σ H=>wi σ H fun J H1=>∃ W:Nat->Nat->St->Hp->Prop,(∃ m,W 0 m σ H1)/\∀ i m σ H,W i m σ H->
 (J.stop i H/\D.nx σ H)∨(J.go i H/\∃ N:St->Hp->Prop,(∀ σ' H',N σ' H'->∃ m',m'<m/\W (i+1) m' σ' H')/\∀ x H',J.yld i H x H'->g x σ H' fun σ2 H2=>tb { D with nx:=N,ct:=N,bk:=D.nx } σ2 H2)
def AE (fp:List Addr) (h:Heap):List (Addr×Obj):=fp.filterMap fun b=>(h.get? b).map fun o=>(b,o)
theorem mM {fp:List Addr}{h:Heap}{b:Addr}{o:Obj} (hb:b∈fp) (e:h.get? b=some o):(b,o)∈AE fp h:=List.mem_filterMap.mpr ⟨b,hb,by rw[e];rfl⟩
theorem FT {fp:List Addr}{h:Heap}{p:Addr×Obj} (hp:p∈AE fp h):p.1∈fp/\h.get? p.1=some p.2:=by
 obtain⟨b,hb,e⟩:=List.mem_filterMap.mp hp
 cases q:h.get? b with
 |none=>rw[q] at e;cases e
 |some o=>
  rw[q] at e
  have e':(b,o)=p:=Option.some.inj e
  subst e'
  exact⟨hb,q⟩
theorem Inv.pinned {pins:List (Addr×Obj)}{σ:St}{H:Hp}{s:Shared}{fp:List Addr} (I:Inv X pins σ H s) (hf:∀ b∈fp,JZ X pins H b) (ho:∀ b∈fp,∃ o,s.heap.get? b=some o/\∀ v,o.data≠ .cell v):Inv X (pins++AE fp s.heap) σ H s:=
 I.pins_of fun p hp=>(List.mem_append.mp hp).elim (fun z=>I.pin p (List.mem_append_right _ z)) fun z=>by
  obtain⟨hb,e⟩:=FT z
  obtain⟨f0,f1,f2,_⟩:=hf p.1 hb
  obtain⟨o,e',d⟩:=ho p.1 hb
  rw[e] at e';cases e'
  exact⟨e,f0,f1,f2,d⟩
theorem Inv.unpinned {pins pl:List (Addr×Obj)}{σ:St}{H:Hp}{s:Shared} (I:Inv X (pins++pl) σ H s):Inv X pins σ H s:=I.pins_of fun p hp=>I.pin p (List.mem_append_right _ (List.mem_append_left _ hp))
theorem JA {iter:Expr}{body:List Stmt}{wi:TI}{g:TG}{tb:TS}{pos:Pos} (hp:PassesOwn (model X.prog X.w) X.A X.env X.xe) (hc:X.calm=true) (hi:PI X tg iter wi) (hg:PG X tg g) (hb:PSs X body tb)
  (hs:∀ x,foldedSetIterable iter X.env x=pure x:=by intro _;rfl):PS X (.For tg iter body [] pos) (OO wi g tb):=by
 intro pins s σ H D I h
 refine wpAny_For (thn (hi pins s σ H _ I h) fun v s1 h1=>thn h1 fun itv s2 h2=> ?_) hs
 obtain⟨it,fp,tn,J,H2,e,I2,T,st2,f2,W,⟨m0,w0⟩,turn⟩:=h2
 subst e
 -- what stays true of the iterator's objects through the loop
 have stat:∀ {H':Hp},(∀ b∈fp,H' b=none)->∀ b∈fp,JZ X pins H' b:=fun hn b hb=>⟨hn b hb,(f2 b hb).2⟩
 refine codeAny_forLoop_any (fun n s'=>∃ i σ' H',Inv X pins σ' H' s'/\tn i s'.heap/\(∀ b∈fp,H' b=none)/\W i n σ' H') ?_ m0 ⟨0,σ,H2,I2,st2,fun b hb=>(f2 b hb).1,w0⟩
 rintro n s3 ⟨i,σ3,H3,I3,st3,fr3,w3⟩
 rcases turn i n σ3 H3 w3 with⟨stop,qn⟩|⟨go,N,hN,step⟩
 ·refine wpAny_passesOwn hp (thn (T.done X rfl rfl rfl hc i pins s3 σ3 H3 X.xe I3 (stat fr3) st3 stop) fun r s4 ⟨hr,I4⟩=> ?_)
  subst hr
  exact wpAny_execs_nil ⟨σ3,H3,I4,qn⟩
 ·refine wpAny_passesOwn hp (thn (T.item X rfl rfl rfl hc i pins s3 σ3 H3 X.xe I3 (stat fr3) st3 go) fun r s4 ⟨u,hr,h4⟩=> ?_)
  subst hr
  refine wpAny_passesOwn hp (thn h4 fun _ s5 ⟨x,H5,I5,r5,y5,st5,fr5⟩=> ?_)
  have I5':=I5.pinned (stat fr5) (T.obj _ _ st5)
  refine wpAny_passesOwn hp (thn (hg _ s5 σ3 H5 x u _ I5' r5 (step x H5 y5)) fun _ s6 ⟨σ6,H6,I6,q6⟩=> ?_)
  refine wpAny_passesOwn hp (thn (hb _ s6 σ6 H6 _ I6 q6) fun f s7 q7=> ?_)
  have again:∀ {σ7:St}{H7:Hp},Inv X (pins++AE fp s5.heap) σ7 H7 s7->N σ7 H7->∃ m,m<n/\∃ i σ' H',Inv X pins σ' H' s7/\tn i s7.heap/\(∀ b∈fp,H' b=none)/\W i m σ' H':=fun {σ7 H7} I7 n7=>by
   obtain⟨m',hm,w7⟩:=hN σ7 H7 n7
   refine⟨m',hm,i+1,σ7,H7,I7.unpinned,T.keep _ _ _ st5 fun b hb o e=>(I7.pin (b,o) (List.mem_append_right _ (List.mem_append_right _ (mM hb e)))).1,fun b hb=> ?_,w7⟩
   obtain⟨o,e,d⟩:=T.obj _ _ st5 b hb
   exact(I7.pin (b,o) (List.mem_append_right _ (List.mem_append_right _ (mM hb e)))).2.1
  cases f with
  |next=>obtain⟨σ7,H7,I7,n7⟩:=q7;exact again I7 n7
  |cont=>obtain⟨σ7,H7,I7,n7⟩:=q7;exact again I7 n7
  |brk=>obtain⟨σ7,H7,I7,q7⟩:=q7;exact⟨σ7,H7,I7.unpinned,q7⟩
  |ret v=>obtain⟨x7,σ7,H7,I7,r7,q7⟩:=q7;exact⟨x7,σ7,H7,I7.unpinned,r7,q7⟩
end
end L2
namespace L2
open PySem PySem.Spec PyProof.Rows
abbrev R2:=V->V->Hp->VK->Prop
def OpR (X:Cx) (f:Value->Value->Sem Value) (r:R2):Prop:=
 ∀(pins:List (Addr×Obj)) (s:Shared) (σ:St) (H:Hp) (x y:V) (v u:Value) (Q:VK),Inv X pins σ H s->RelV x v->RelV y u->r x y H Q->
  wpAny (model X.prog X.w) X.A (f v u) (EP X pins σ Q) X.xe s
def UnR (X:Cx) (f:Value->Sem Value) (r:V->Hp->VK->Prop):Prop:=
 ∀(pins:List (Addr×Obj)) (s:Shared) (σ:St) (H:Hp) (x:V) (v:Value) (Q:VK),Inv X pins σ H s->RelV x v->r x H Q->
  wpAny (model X.prog X.w) X.A (f v) (EP X pins σ Q) X.xe s
def CallR (X:Cx) (f:Value) (r:List V->Hp->VK->Prop):Prop:=
 ∀(pins:List (Addr×Obj)) (s:Shared) (σ:St) (H:Hp) (xs:List V) (us:List Value) (Q:VK),Inv X pins σ H s->Vals xs us->r xs H Q->
  wpAny (model X.prog X.w) X.A (call f us) (EP X pins σ Q) X.xe s
def QT (X:Cx) (r:V->Hp->(Bool->Hp->Prop)->Prop):Prop:=
 ∀(pins:List (Addr×Obj)) (s:Shared) (σ:St) (H:Hp) (x:V) (v:Value) (Q:Bool->Hp->Prop),Inv X pins σ H s->RelV x v->r x H Q->
  wpAny (model X.prog X.w) X.A (truthy v) (TP X pins σ Q) X.xe s
def tOp (r:R2) (ta tb:TE):TE:=fun σ H Q=>ta σ H fun x H1=>tb σ H1 fun y H2=>r x y H2 Q
def tUn (r:V->Hp->VK->Prop) (ta:TE):TE:=fun σ H Q=>ta σ H fun x H1=>r x H1 Q
def rI (C:Int->Int->Prop) (g:Int->Int->V):R2:=fun x y H Q=>∃ i j,x=.int i/\y=.int j/\C i j/\Q (g i j) H
def rI0 (g:Int->Int->V):R2:=fun x y H Q=>∃ i j,x=.int i/\y=.int j/\Q (g i j) H
def rU (g:Int->V):V->Hp->VK->Prop:=fun x H Q=>∃ i,x=.int i/\Q (g i) H
section
variable {X:Cx}{a b c:Expr}{ta tb tc:TE}{pos:Pos}
theorem PJ (ha:PE X a ta) (hb:PE X b tb) {pins:List (Addr×Obj)}{s:Shared}{σ:St}{H:Hp}{R:V->V->Hp->Prop} (I:Inv X pins σ H s)
  (h:ta σ H fun x H1=>tb σ H1 fun y H2=>R x y H2) {Q:Value->Shared->Prop}{f:Value->Value->Sem Value}
  (hf:∀ v u s2 x y H2,Inv X pins σ H2 s2->RelV x v->RelV y u->R x y H2->wpAny (model X.prog X.w) X.A (f v u) Q X.xe s2):
  wpAny (model X.prog X.w) X.A (eval a X.env) (fun v s₁=>wpAny (model X.prog X.w) X.A (eval b X.env) (fun u s₂=>wpAny (model X.prog X.w) X.A (f v u) Q X.xe s₂) X.xe s₁) X.xe s:=by
 refine thn (ha pins s σ H _ I h) fun v s1 ⟨x,H1,I1,r1,q1⟩=> ?_
 refine thn (hb pins s1 σ H1 _ I1 q1) fun u s2 ⟨y,H2,I2,r2,q2⟩=> ?_
 exact hf v u s2 x y H2 I2 r1 r2 q2
theorem Pe {op:Operator}{r:R2} (ho:OpR X (binaryOp op) r) (ha:PE X a ta) (hb:PE X b tb):PE X (.BinOp a op b pos) (tOp r ta tb):=by
 intro pins s σ H Q I h
 exact wpAny_BinOp (PJ ha hb I h fun v u s2 x y H2 I2 rx ry q=>ho pins s2 σ H2 x y v u Q I2 rx ry q)
theorem Pd {op:UnaryOp}{r:V->Hp->VK->Prop} (ho:UnR X (unaryOp op) r) (ha:PE X a ta):PE X (.UnaryOp op a pos) (tUn r ta):=by
 intro pins s σ H Q I h
 exact UnaryOp_ (thn (ha pins s σ H _ I h) fun v s1 ⟨x,H1,I1,r1,q1⟩=>ho pins s1 σ H1 x v Q I1 r1 q1)
theorem opI {f:Value->Value->Sem Value}{C:Int->Int->Prop}{g:Int->Int->Int}
  (rule:∀(i j:Int) (t u:Tok) (s:Shared) (Q:Value->Shared->Prop) (E:Value->Shared->Prop),C i j->Q (.int (g i j) s.toks) { s with toks:=s.toks+1 }->wpAny (model X.prog X.w) X.A (f (.int i t) (.int j u)) Q E s):
  OpR X f (rI C fun i j=>.int (g i j)):=by
 intro pins s σ H x y v u Q I rx ry h
 obtain⟨i,j,rfl,rfl,hc,q⟩:=h
 obtain⟨t,rfl⟩:=rx
 obtain⟨t',rfl⟩:=ry
 exact rule i j t t' s _ _ hc ⟨.int (g i j),H,I.tok _,⟨_,rfl⟩,q⟩
theorem Qh {f:Value->Value->Sem Value}{g:Int->Int->Int}
  (rule:∀(i j:Int) (t u:Tok) (s:Shared) (Q:Value->Shared->Prop) (E:Value->Shared->Prop),Q (.int (g i j) s.toks) { s with toks:=s.toks+1 }->wpAny (model X.prog X.w) X.A (f (.int i t) (.int j u)) Q E s):
  OpR X f (rI0 fun i j=>.int (g i j)):=by
 intro pins s σ H x y v u Q I rx ry h
 obtain⟨i,j,rfl,rfl,q⟩:=h
 obtain⟨t,rfl⟩:=rx
 obtain⟨t',rfl⟩:=ry
 exact rule i j t t' s _ _ ⟨.int (g i j),H,I.tok _,⟨_,rfl⟩,q⟩
theorem Pi {f:Value->Value->Sem Value}{g:Int->Int->Bool}
  (rule:∀(i j:Int) (t u:Tok) (s:Shared) (Q:Value->Shared->Prop) (E:Value->Shared->Prop),Q (.bool (g i j)) s->wpAny (model X.prog X.w) X.A (f (.int i t) (.int j u)) Q E s):
  OpR X f (rI0 fun i j=>.bl (g i j)):=by
 intro pins s σ H x y v u Q I rx ry h
 obtain⟨i,j,rfl,rfl,q⟩:=h
 obtain⟨t,rfl⟩:=rx
 obtain⟨t',rfl⟩:=ry
 exact rule i j t t' s _ _ ⟨.bl (g i j),H,I,rfl,q⟩
def CMul (i j:Int):Prop:=(-(2 ^ 64)<i/\i<2 ^ 64)∨(-(2 ^ 64)<j/\j<2 ^ 64)
theorem CMul.ok {i j:Int} (h:CMul i j):IntMulOk i j:=by
 rcases h with⟨h1,h2⟩|⟨h1,h2⟩
 ·exact .of_left (intBits_le_64 h1 h2)
 ·exact .of_right (intBits_le_64 h1 h2)
theorem Np:OpR X (binaryOp .Add) (rI0 fun i j=>.int (i+j)):=Qh fun _ _ _ _ _ _ _ q=>add_int q
theorem Nf:OpR X (binaryOp .Sub) (rI0 fun i j=>.int (i-j)):=Qh fun _ _ _ _ _ _ _ q=>sub_int q
theorem Ni:OpR X (binaryOp .Mult) (rI CMul fun i j=>.int (i*j)):=opI fun _ _ _ _ _ _ _ hc q=>mul_int q hc.ok
theorem Nj:OpR X (binaryOp .Mod) (rI (fun _ j=>0<j) fun i j=>.int (i % j)):=opI fun i j _ _ _ _ _ hc q=>by
 have h1:(0:Int)<j:=hc
 exact mod_int' (by omega) (by rw[Int.fmod_eq_emod_of_nonneg i (by omega)];exact q)
theorem unI {f:Value->Sem Value}{g:Int->Int}
  (rule:∀(i:Int) (t:Tok) (s:Shared) (Q:Value->Shared->Prop) (E:Value->Shared->Prop),Q (.int (g i) s.toks) { s with toks:=s.toks+1 }->wpAny (model X.prog X.w) X.A (f (.int i t)) Q E s):
  UnR X f (rU fun i=>.int (g i)):=by
 intro pins s σ H x v Q I rx h
 obtain⟨i,rfl,q⟩:=h
 obtain⟨t,rfl⟩:=rx
 exact rule i t s _ _ ⟨.int (g i),H,I.tok _,⟨_,rfl⟩,q⟩
theorem Ml:UnR X (unaryOp .USub) (rU fun i=>.int (-i)):=unI fun _ _ _ _ _ q=>neg_int q
end
section
variable {X:Cx}{a b c:Expr}{ta tb tc:TE}{pos:Pos}
theorem NX {pins:List (Addr×Obj)}{σ:St}{H:Hp}{s:Shared}{Q:VK}{k k':Bool} (I:Inv X pins σ H s) (q:Q (.bl k) H) (e:k=k'):EP X pins σ Q (.bool k') s:=by
 subst e
 exact⟨.bl k,H,I,rfl,q⟩
theorem Nk:OpR X (compareOp .Lt) (rI0 fun i j=>.bl (decide (i<j))):=Pi fun _ _ _ _ _ _ _ q=>lt_int q
theorem Nl:OpR X (compareOp .LtE) (rI0 fun i j=>.bl (decide (i<=j))):=Pi fun _ _ _ _ _ _ _ q=>le_int q
theorem Nn:OpR X (compareOp .Gt) (rI0 fun i j=>.bl (decide (j<i))):=Pi fun _ _ _ _ _ _ _ q=>gt_int q
theorem JK:OpR X (compareOp .Is) (fun x y H Q=>y=.non/\Q (.bl (decide (x=.non))) H):=by
 intro pins s σ H x y v u Q I rx ry h
 obtain⟨rfl,q⟩:=h
 cases ry
 refine is_none_gen (NX I q ?_)
 cases x <;> first
  |(cases rx;rfl)
  |(obtain⟨t,rfl⟩:=rx;rfl)
theorem pR (b:Expr) {op:CmpOp} (h:op≠ .In:=by decide) (h2:op≠ .NotIn:=by decide):behindInMarks op b=false:=by
 have e1:(op==CmpOp.In)=false:=by cases op <;> first|rfl|exact absurd rfl h
 have e2:(op==CmpOp.NotIn)=false:=by cases op <;> first|rfl|exact absurd rfl h2
 cases b <;> simp[behindInMarks,e1,e2]
theorem KC {op:CmpOp}{r:R2} (ho:OpR X (compareOp op) r) (ha:PE X a ta) (hb:PE X b tb) (hm:behindInMarks op b=false):PE X (.Compare a [op] [b] pos) (tOp r ta tb):=by
 intro pins s σ H Q I h
 exact wpAny_Compare1 (PJ ha hb I h fun v u s2 x y H2 I2 rx ry q=>ho pins s2 σ H2 x y v u Q I2 rx ry q) hm
def Mp (t:TE):TT:=fun σ H Q=>t σ H fun x H'=>∃ k,x=.bl k/\Q k H'
theorem Kn {op:CmpOp}{r:R2} (ho:OpR X (compareOp op) r) (ha:PE X a ta) (hb:PE X b tb) (hm:behindInMarks op b=false):PT X (.Compare a [op] [b] pos) (Mp (tOp r ta tb)):=by
 intro pins s σ H Q I h
 refine wpAny_isTrue_Compare1 (thn (ha pins s σ H _ I h) fun v s1 ⟨x,H1,I1,r1,q1⟩=>thn (hb pins s1 σ H1 _ I1 q1) fun u s2 ⟨y,H2,I2,r2,q2⟩=>
  thn (ho pins s2 σ H2 x y v u _ I2 r1 r2 q2) fun c s3 ⟨z,H3,I3,r3,k,e,q3⟩=> ?_) hm
 subst e
 cases r3
 exact wpAny_truthy_bool ⟨H3,I3,q3⟩
def Mt (r r':R2) (ta tb tc:TE):TE:=fun σ H Q=>ta σ H fun x H1=>tb σ H1 fun y H2=>r x y H2 fun z H3=>∃ k,z=.bl k/\
 (if k=true then tc σ H3 fun w' H4=>r' y w' H4 Q else Q (.bl false) H3)
theorem HQ {op op':CmpOp}{r r':R2} (ho:OpR X (compareOp op) r) (ho':OpR X (compareOp op') r') (ha:PE X a ta) (hb:PE X b tb) (hc:PE X c tc)
  (hm:lastMarks [op,op'] [b,c]=false:=by with_unfolding_all rfl):PT X (.Compare a [op,op'] [b,c] pos) (Mp (Mt r r' ta tb tc)):=by
 intro pins s σ H Q I h
 refine isTrue_chain (thn (ha pins s σ H _ I h) fun v s1 ⟨x,H1,I1,r1,q1⟩=>test_link (thn (hb pins s1 σ H1 _ I1 q1) fun u s2 ⟨y,H2,I2,r2,q2⟩=>
  thn (ho pins s2 σ H2 x y v u _ I2 r1 r2 q2) fun d s3 ⟨z,H3,I3,r3,k,e,q3⟩=> ?_)) hm
 subst e
 cases r3
 refine wpAny_truthy_bool ?_
 cases k with
 |false=>
  obtain⟨k',e',q'⟩:=q3
  cases e'
  exact ite_ff ⟨H3,I3,q'⟩
 |true=>
  refine ite_tt (test_last (thn (hc pins s3 σ H3 _ I3 q3) fun w' s4 ⟨z',H4,I4,r4,q4⟩=>thn (ho' pins s4 σ H4 y z' u w' _ I4 r2 r4 q4) fun d' s5 ⟨z2,H5,I5,r5,k2,e2,q5⟩=> ?_))
  subst e2
  cases r5
  exact wpAny_truthy_bool ⟨H5,I5,q5⟩
def PL (K:PySem.W.Frag) (x:V) (H:Hp) (k:Bool):Prop:=
 match x with
 |.non=>k=false
 |.bl b=>k=b
 |.int i=>k=(i !=0)
 |.str y=>y.length<=sizeLine/\k=((y.length:Int) !=0)
 |.byt y=>y.size<=sizeLine/\k=((y.size:Int) !=0)
 |.ref p=>(∃ xs,SqL K H p xs/\k= !xs.isEmpty)∨(∃ xs,SqT K H p xs/\k= !xs.isEmpty)∨∃ kvs,H p=some (.dK kvs)/\k= !kvs.isEmpty
 |_=>False
theorem EG {κ:Type}{kvs:List (κ×V)}{vs:List (κ×Value)} (r:KV kvs vs):(!vs.isEmpty)= !kvs.isEmpty:=by
 cases r <;> rfl
theorem xI {xs:List V}{its:List Value} (r:Vals xs its):(!its.toArray.isEmpty)= !xs.isEmpty:=by
 cases r <;> simp
theorem xG:(sizeLine:Nat)<2 ^ 63:=by rw[sizeLine_eq];decide
theorem tru_ok:QT X (fun x H Q=>∃ k,PL X.K x H k/\Q k H):=by
 intro pins s σ H x v Q I rx h
 obtain⟨k,e,q⟩:=h
 have hl:=xG
 have hs:sizeLine=16777216:=sizeLine_eq
 cases x with
 |non=>
  cases rx
  have e':k=false:=e
  subst e'
  exact truthy_none ⟨H,I,q⟩
 |bl b=>
  cases rx
  have e':k=b:=e
  subst e'
  exact wpAny_truthy_bool ⟨H,I,q⟩
 |int i=>
  obtain⟨t,rfl⟩:=rx
  have e':k=(i !=0):=e
  subst e'
  exact PySem.P.truthy_int ⟨H,I,q⟩
 |str y=>
  obtain⟨t,rfl⟩:=rx
  obtain⟨hy,e'⟩:y.length<=sizeLine/\k=((y.length:Int) !=0):=e
  subst e'
  exact PySem.P.truthy_str (by omega) ⟨H,I.tok _,q⟩
 |byt y=>
  obtain⟨t,rfl⟩:=rx
  obtain⟨hy,e'⟩:y.size<=sizeLine/\k=((y.size:Int) !=0):=e
  subst e'
  exact PySem.W.truthy_bytes (by omega) ⟨H,I.tok _,q⟩
 |ref p=>
  cases rx
  have e':(∃ xs,SqL X.K H p xs/\k= !xs.isEmpty)∨(∃ xs,SqT X.K H p xs/\k= !xs.isEmpty)∨∃ kvs,H p=some (.dK kvs)/\k= !kvs.isEmpty:=e
  rcases e' with⟨xs,hx,e'⟩|⟨xs,hx,e'⟩|⟨kvs,hx,e'⟩
  ·subst e'
   obtain⟨its,r,pl,hz⟩:=I.list hx
   have hlen:=r.length
   exact wpAny_truthy_list pl.isList (by simp only[List.size_toArray];omega) ⟨H,I.tok _,by rw[xI r];exact q⟩
  ·subst e'
   obtain⟨its,r,pl,hz⟩:=I.tuple hx
   have hlen:=r.length
   exact truthy_tuple pl (by simp only[List.size_toArray];omega) ⟨H,I.tok _,by rw[xI r];exact q⟩
  ·subst e'
   obtain⟨hz,hS,vs,r,m⟩:kvs.length<=sizeLine/\(p==sysModules)=false/\∃ vs,KV kvs vs/\s.heap.DictOf (aR X.prog X.w) p vs:=I.hok p _ hx
   have hlen:kvs.length=vs.length:=Paired.length r
   exact wpAny_truthy_dict hS m (by omega) ⟨H,I.tok _,by rw[EG r];exact q⟩
 |_=>exact(show False from e).elim
theorem HP (ha:PE X a ta) (he:∀ whole,isTrue a X.env whole=(do let v <- whole;standAt a.pos;holding [v] (truthy v))):
  PT X a (fun σ H Q=>ta σ H fun x H'=>∃ k,PL X.K x H' k/\Q k H'):=by
 intro pins s σ H Q I h
 exact isTrue_plain (thn (ha pins s σ H _ I h) fun v s1 ⟨x,H1,I1,r1,q1⟩=>tru_ok pins s1 σ H1 x v Q I1 r1 q1) (he _)
theorem Ep:OpR X (binaryOp .Add) (fun x y H Q=>∃ i j,x=.str i/\y=.str j/\i.length+j.length<=sizeLine/\Q (.str (i++j)) H):=by
 intro pins s σ H x y v u Q I rx ry h
 obtain⟨i,j,rfl,rfl,hz,q⟩:=h
 obtain⟨t,rfl⟩:=rx
 obtain⟨t',rfl⟩:=ry
 exact add_str (fun t' tk=>⟨.str (i++j),H,I.tok _,⟨_,rfl⟩,q⟩) hz
theorem sD {x:V}{us:List Value} (r:Vals [x] us):∃ u,us=[u]/\RelV x u:=by
 cases r with
 |cons r1 r2=>cases r2;exact⟨_,rfl,r1⟩
theorem Ff {x y:V}{us:List Value} (r:Vals [x,y] us):∃ u w',us=[u,w']/\RelV x u/\RelV y w':=by
 cases r with
 |cons r1 r2=>
  cases r2 with
  |cons r3 r4=>cases r4;exact⟨_,_,rfl,r1,r3⟩
theorem Bz (hc:X.calm=true):CallR X (.builtin "max") (fun xs H Q=>∃ i j,xs=[.int i,.int j]/\Q (.int (if j>i then j else i)) H):=by
 intro pins s σ H xs us Q I r h
 obtain⟨i,j,rfl,q⟩:=h
 obtain⟨u,w',rfl,⟨t,rfl⟩,⟨t',rfl⟩⟩:=Ff r
 refine max_two_ints (I.ok.hd hc) fun h' tk k=>⟨_,H,I.kept k,?_,q⟩
 by_cases hj:j>i
 ·rw[if_pos hj,if_pos hj];exact⟨_,rfl⟩
 ·rw[if_neg hj,if_neg hj];exact⟨_,rfl⟩
theorem Ha (hc:X.calm=true):CallR X (.builtin "min") (fun xs H Q=>∃ i j,xs=[.int i,.int j]/\Q (.int (if j<i then j else i)) H):=by
 intro pins s σ H xs us Q I r h
 obtain⟨i,j,rfl,q⟩:=h
 obtain⟨u,w',rfl,⟨t,rfl⟩,⟨t',rfl⟩⟩:=Ff r
 refine min_two_ints (I.ok.hd hc) fun h' tk k=>⟨_,H,I.kept k,?_,q⟩
 by_cases hj:j<i
 ·rw[if_pos hj,if_pos hj];exact⟨_,rfl⟩
 ·rw[if_neg hj,if_neg hj];exact⟨_,rfl⟩
theorem call_int1:CallR X (.type "int") (fun xs H Q=>(∃ i,xs=[.int i]/\Q (.int i) H)∨∃ k,xs=[.bl k]/\Q (.int (if k then 1 else 0)) H):=by
 intro pins s σ H xs us Q I r h
 rcases h with⟨i,rfl,q⟩|⟨k,rfl,q⟩
 ·obtain⟨u,rfl,t,rfl⟩:=sD r
  exact call_int_int ⟨.int i,H,I,⟨_,rfl⟩,q⟩
 ·obtain⟨u,rfl,r1⟩:=sD r
  cases r1
  exact call_int_bool ⟨.int (if k then 1 else 0),H,I.tok _,⟨_,rfl⟩,q⟩
def PU (K:PySem.W.Frag) (x:V) (H:Hp) (n:Nat):Prop:=
 match x with
 |.str y=>y.length<=sizeLine/\n=y.length
 |.byt y=>y.size<=sizeLine/\n=y.size
 |.ref p=>(∃ xs,SqL K H p xs/\n=xs.length)∨∃ xs,SqT K H p xs/\n=xs.length
 |_=>False
theorem cO:CallR X (.builtin "len") (fun xs H Q=>∃ x n,xs=[x]/\PU X.K x H n/\Q (.int n) H):=by
 intro pins s σ H xs us Q I r h
 obtain⟨x,n,rfl,e,q⟩:=h
 obtain⟨u,rfl,rx⟩:=sD r
 have hl:=xG
 have hs:sizeLine=16777216:=sizeLine_eq
 cases x with
 |str y=>
  obtain⟨t,rfl⟩:=rx
  obtain⟨hy,e'⟩:y.length<=sizeLine/\n=y.length:=e
  subst e'
  exact len_str (by omega) ⟨.int _,H,I.tok _,⟨_,rfl⟩,q⟩
 |byt y=>
  obtain⟨t,rfl⟩:=rx
  obtain⟨hy,e'⟩:y.size<=sizeLine/\n=y.size:=e
  subst e'
  exact PySem.W.len_bytes (by omega) ⟨.int _,H,I.tok _,⟨_,rfl⟩,q⟩
 |ref p=>
  cases rx
  have e':(∃ xs,SqL X.K H p xs/\n=xs.length)∨∃ xs,SqT X.K H p xs/\n=xs.length:=e
  rcases e' with⟨xs,hx,e'⟩|⟨xs,hx,e'⟩
  ·subst e'
   obtain⟨its,r',pl,hz⟩:=I.list hx
   have hlen:=r'.length
   exact Calls.call_len_list pl.isList (by simp only[List.size_toArray];omega) ⟨.int xs.length,H,I.tok _,⟨_,by simp only[List.size_toArray];rw[hlen]⟩,q⟩
  ·subst e'
   obtain⟨its,r',pl,hz⟩:=I.tuple hx
   have hlen:=r'.length
   exact len_tuple pl (by simp only[List.size_toArray];omega) ⟨.int xs.length,H,I.tok _,⟨_,by simp only[List.size_toArray];rw[hlen]⟩,q⟩
 |_=>exact(show False from e).elim
end
end L2
namespace L2
open PySem PySem.Spec PyProof.Rows
structure ObjM (h:Heap) (x dx C:Addr) (mA:Str->Option Value):Prop where
 obj:h.get? x=some (PySem.W.instObj C dx)
 ns:h.Ns1 dx mA
 ne:dx≠x
theorem Gj {h:Heap}{dx:Addr}{mA:Str->Option Value} (n:h.Ns1 dx mA):∃ od,h.get? dx=some od/\∀ name,PySem.W.lookIn name od=some (mA name):=by
 obtain⟨o,es,ep,ho,hd,hk,_,hm⟩:=n
 refine⟨o,ho,fun name=> ?_⟩
 have e:=hm name
 unfold nsFind findBy at e
 rw[<- Array.find?_toList] at e
 unfold PySem.W.lookIn
 rw[hd]
 dsimp only
 split
 ·rename_i y q
  rw[q] at e
  exact congrArg some e
 ·rename_i q
  rw[q] at e
  have a:es.toList.any (·.refKey)=false:=by
   rw[List.any_eq_false]
   intro y hy
   obtain⟨z,t,hkey⟩:=hk y (Array.mem_toList_iff.mp hy)
   simp[DictEntry.refKey,hkey]
  have a':¬ es.toList.any (·.refKey)=true:=by rw[a];exact Bool.false_ne_true
  rw[if_neg a']
  exact congrArg some e
theorem ObjM.look {h:Heap}{x dx C:Addr}{mA:Str->Option Value} (I:ObjM h x dx C mA):∃ od,PySem.W.InstAt h x (PySem.W.instObj C dx) C (some od)/\∀ name,PySem.W.lookIn name od=some (mA name):=
 let ⟨od,ho,hl⟩:=Gj I.ns
 ⟨od,⟨I.obj,rfl,rfl,ho⟩,hl⟩
section
variable {prog:Program}{w:World}{A:Around}{E:Value->Shared->Prop}{s:Shared}{K:PySem.W.Frag}{x dx C f:Addr}{mA:Str->Option Value}{name:Str}{v:Value}
theorem Lu {expr:Bool}{Q:Value->Shared->Prop} (X:K.In s.heap) (I:ObjM s.heap x dx C mA) (hg:PySem.W.plainGet K C name=true) (hh:PySem.W.hasDictIn K C=true)
  (ha:PySem.W.findIn K (.ref C) name=some none) (hv:mA name=some v) (hv':PySem.W.handedIn v=true) (h:Q v { s with toks:=s.toks+1 }):
  wpAny (model prog w) A (getAttr (.ref x) name expr) Q E s:=by
 obtain⟨od,J,hl⟩:=I.look
 exact PySem.W.get_value X J (PySem.W.plainGet_of hg).1 (PySem.W.findObj_own hh ha rfl (by rw[hl,hv])) hv' h
theorem II {pl:Sem Bool}{Q:Value×List Value->Shared->Prop} (X:K.In s.heap) (I:ObjM s.heap x dx C mA) (hg:PySem.W.plainGet K C name=true)
  (hf:PySem.W.findIn K (.ref C) name=some (some (.ref f))) (ht:PySem.W.isFn K (.ref f)=true) (hv:mA name=none) (h:Q (.ref f,[.ref x]) s):
  wpAny (model prog w) A (getMethod (.ref x) name pl) Q E s:=by
 obtain⟨od,J,hl⟩:=I.look
 exact PySem.W.method_fn X J (PySem.W.plainGet_of hg).1 (PySem.W.plainGet_of hg).2 hf (beq_iff_eq.mp ht) (by show(PySem.W.lookIn name od).map (·.isSome)=some false;rw[hl,hv];rfl) h
theorem Kj {ns:List Str}{Q:Unit->Shared->Prop} (X:K.In s.heap) (I:ObjM s.heap x dx C mA)
  (hs:PySem.W.findIn K (.ref C) "__setattr__"=some (some (.builtin "object.__setattr__"))) (hp:PySem.W.plainOver K C=true) (ht:PySem.W.takerIn K C name=some none) (hh:PySem.W.hasDictIn K C=true)
  (hw:PySem.Within mA ns) (hsz:ns.length<=sizeLine)
  (h:∀ h',ObjM h' x dx C (fun y=>if y=name then some v else mA y)->Heap.SameBut dx s.heap h'->Q () { s with heap:=h',toks:=s.toks+2 }):
  wpAny (model prog w) A (setAttr (.ref x) name v) Q E s:=by
 obtain⟨od,J,hl⟩:=I.look
 refine PySem.W.set_plain X J hs (PySem.W.osa_open (s:={ s with toks:=s.toks+1 }) (r:=none) X J hp ht fun b=> ?_)
 obtain⟨cd,hc,hd'⟩:=PySem.W.any_some hh
 have hx:s.heap.get? x=some ⟨.ref C,some dx,.plain,#[]⟩:=I.obj
 refine wpAny_bind (wpAny_pure (wpAny_bind (wpAny_bind (wpAny_loadPart hx (wpAny_bind (PySem.W.Looks.here (s:={ s with toks:=s.toks+1 }) (PySem.W.looks_clsIn X hc) ?_))))))
 rw[hd']
 refine wpAny_pure (a:=some dx) (wpAny_bind (wpAny_pure (wpAny_bind ?_)))
 refine wpAny_nsSet1 (s:={ s with toks:=s.toks+1 }) I.ns fun h' hn2 hs2=> ?_
 obtain⟨oD,esD,epD,hoD,hdD,hcD⟩:=hn2.count (PySem.Within.cons name v hw)
 refine wpAny_bind (wpAny_lookBehind hoD (by rw[hdD];exact pastItsLine_dict (Nat.le_trans hcD (by rw[List.length_cons];omega))) ?_)
 exact wpAny_pure (h _ ⟨(hs2.2 _ (Ne.symm I.ne)).trans I.obj,hn2,I.ne⟩ hs2)
theorem Ip {R:Result->Shared->Prop}{vs:List Value}{kw:List (Str×Value)} (X:K.In s.heap) (hm:PySem.W.makesIn K C=true)
  (hi:PySem.W.findIn K (.ref C) "__init__"=some (some (.ref f))) (hf:PySem.W.typeIn K (.ref f)=some (.type "function"))
  (h:codeAny (model prog w) (A.under (.builtin "type.__call__" ⟨.ref C::vs,kw⟩)) (.call (.ref f) ⟨.ref (s.heap.objs.size+1)::vs,kw⟩) (PySem.W.InitBack (s.heap.objs.size+1) R)
   { s with heap:=(s.heap.push PySem.W.emptyDict).push (PySem.W.instObj C s.heap.objs.size) }):
  codeAny (model prog w) A (.call (.ref C) ⟨vs,kw⟩) R s:=by
 obtain⟨hh,g,d,t,os⟩:=s
 exact PySem.W.make_core (PySem.W.makes_of X hm) (PySem.W.looks_findIn X hi) (fun self=>PySem.W.bind_fn X self hf) (.inl rfl) h
end
def putF (f:Str) (v:V):List (Str×V)->List (Str×V)
 |[]=>[(f,v)]
 |(g,x)::r=>if g=f then(g,v)::r else(g,x)::putF f v r
theorem uF (f g:Str) (v:V):∀ fs:List (Str×V),(putF f v fs).lookup g=if g=f then some v else fs.lookup g
 |[]=>by
  show List.lookup g [(f,v)]=_
  by_cases h:g=f
  ·have hb:(g==f)=true:=beq_iff_eq.mpr h
   simp only[List.lookup,hb,if_pos h]
  ·have hb:(g==f)=false:=beq_eq_false_iff_ne.mpr h
   simp only[List.lookup,hb,if_neg h]
 |(k,x)::r=>by
  have ih:=uF f g v r
  rw[show putF f v ((k,x)::r)=(if k=f then(k,v)::r else(k,x)::putF f v r) from rfl]
  by_cases hk:k=f
  ·rw[if_pos hk]
   by_cases h:g=k
   ·have hb:(g==k)=true:=beq_iff_eq.mpr h
    simp only[List.lookup,hb,if_pos (h.trans hk)]
   ·have hb:(g==k)=false:=beq_eq_false_iff_ne.mpr h
    simp only[List.lookup,hb,if_neg (fun e:g=f=>h (e.trans hk.symm))]
  ·rw[if_neg hk]
   by_cases h:g=k
   ·have hb:(g==k)=true:=beq_iff_eq.mpr h
    simp only[List.lookup,hb,if_neg (fun e:g=f=>hk (h.symm.trans e))]
   ·have hb:(g==k)=false:=beq_eq_false_iff_ne.mpr h
    simp only[List.lookup,hb]
    exact ih
theorem uH (f:Str) (v:V):∀ fs:List (Str×V),f∈(putF f v fs).map (·.1)/\∀ g,g∈fs.map (·.1)->g∈(putF f v fs).map (·.1)
 |[]=>⟨by simp[putF],fun g h=>by simp at h⟩
 |(k,x)::r=>by
  obtain⟨i1,i2⟩:=uH f v r
  rw[show putF f v ((k,x)::r)=(if k=f then(k,v)::r else(k,x)::putF f v r) from rfl]
  by_cases hk:k=f
  ·rw[if_pos hk]
   subst hk
   exact⟨by simp,fun g h=>by simpa using h⟩
  ·rw[if_neg hk]
   refine⟨?_,fun g h=> ?_⟩
   ·rw[List.map_cons]
    exact List.mem_cons_of_mem _ i1
   ·rw[List.map_cons] at h ⊢
    rcases List.mem_cons.mp h with e|e
    ·exact List.mem_cons.mpr (.inl e)
    ·exact List.mem_cons_of_mem _ (i2 g e)
theorem uG (f:Str) (v:V):∀ fs:List (Str×V),(putF f v fs).length<=fs.length+1
 |[]=>by simp[putF]
 |(k,x)::r=>by
  have ih:=uG f v r
  rw[show putF f v ((k,x)::r)=(if k=f then(k,v)::r else(k,x)::putF f v r) from rfl]
  by_cases hk:k=f
  ·rw[if_pos hk,List.length_cons,List.length_cons];omega
  ·rw[if_neg hk,List.length_cons,List.length_cons];omega
theorem RelO.some_of {v:V}{o:Option Value} (r:RelO (some v) o):∃ u,o=some u/\RelV v u:=by
 cases o with
 |none=>exact(show False from r).elim
 |some u=>exact⟨u,rfl,r⟩
theorem RelO.none_of {o:Option Value} (r:RelO none o):o=none:=by
 cases o with
 |none=>rfl
 |some u=>exact(show False from r).elim
theorem Gx {v:V}{u:Value} (r:RelV v u):PySem.W.handedIn u=true:=by
 cases v with
 |non=>cases (show u=Value.none from r);rfl
 |bl b=>cases (show u=Value.bool b from r);rfl
 |int i=>obtain⟨t,e⟩:=(show ∃ t,u=Value.int i t from r);cases e;rfl
 |str x=>obtain⟨t,e⟩:=(show ∃ t,u=Value.str x t from r);cases e;rfl
 |byt b=>obtain⟨t,e⟩:=(show ∃ t,u=Value.bytes b t from r);cases e;rfl
 |flt b=>obtain⟨t,e⟩:=(show ∃ t,u=Value.float b t from r);cases e;rfl
 |ref a=>cases (show u=Value.ref a from r);rfl
 |ty n=>cases (show u=Value.type n from r);rfl
section
variable {P:Program}{w:World}{H H':Hp}{h h':Heap}{a C dx:Addr}{fs fs':List (Str×V)}
theorem Ct (hok:HOk P w H h) (e:H a=some (.ins C dx fs)):∃ mA,ObjM h a dx C mA/\(∀ f,RelO (fs.lookup f) (mA f))/\PySem.Within mA (fs.map (·.1))/\fs.length<=1000/\H dx=some (.own a):=by
 obtain⟨d,z,ne,ob,mA,n,r,q⟩:=(show ObjOk P w H h a (.ins C dx fs) from hok a _ e)
 exact⟨mA,⟨ob,n,ne⟩,r,q,z,d⟩
end
structure Cls (K:PySem.W.Frag) (C:Addr):Prop where
 pg:PySem.W.plainGet K C Str.empty=true
 hd:PySem.W.hasDictIn K C=true
 po:PySem.W.plainOver K C=true
 sa:PySem.W.findIn K (.ref C) "__setattr__"=some (some (.builtin "object.__setattr__"))
theorem Cls.get {K:PySem.W.Frag}{C:Addr} (c:Cls K C) (f:Str):PySem.W.plainGet K C f=true:=c.pg
def NoAttr (K:PySem.W.Frag) (C:Addr) (f:Str):Prop:=PySem.W.findIn K (.ref C) f=some none
theorem NoAttr.taker {K:PySem.W.Frag}{C:Addr}{f:Str} (n:NoAttr K C f):PySem.W.takerIn K C f=some none:=by
 unfold PySem.W.takerIn
 rw[show PySem.W.findIn K (.ref C) f=some none from n]
 rfl
structure sC (K:PySem.W.Frag) (C:Addr) (m:Str) (f:Addr):Prop where
 at_:PySem.W.findIn K (.ref C) m=some (some (.ref f))
 fn:PySem.W.isFn K (.ref f)=true
 kp:PySem.W.keepIn K (.ref f)=true
section
variable {X:Cx}{pins:List (Addr×Obj)}{σ:St}{H:Hp}{s:Shared}{a C dx:Addr}{fs:List (Str×V)}{f:Str}{v:V}{A:Around}{E:Value->Shared->Prop}
theorem EL {b:Bool}{Q:Value->Shared->Prop} (I:Inv X pins σ H s) (e:H a=some (.ins C dx fs)) (c:Cls X.K C) (n:NoAttr X.K C f) (l:fs.lookup f=some v)
  (h:∀ u s',Inv X pins σ H s'->RelV v u->Q u s'):wpAny (model X.prog X.w) A (getAttr (.ref a) f b) Q E s:=by
 obtain⟨mA,O,r,_,_,_⟩:=Ct I.hok e
 obtain⟨u,hu,ru⟩:=RelO.some_of (v:=v) (o:=mA f) (by rw[<- l];exact r f)
 exact Lu I.kIn O (c.get f) c.hd n hu (Gx ru) (h u _ (I.tok _) ru)
theorem xM {m:Str}{g:Addr}{pl:Sem Bool}{Q:Value×List Value->Shared->Prop} (I:Inv X pins σ H s) (e:H a=some (.ins C dx fs)) (c:Cls X.K C) (k:sC X.K C m g) (l:fs.lookup m=none)
  (h:Q (.ref g,[.ref a]) s):wpAny (model X.prog X.w) A (getMethod (.ref a) m pl) Q E s:=by
 obtain⟨mA,O,r,_,_,_⟩:=Ct I.hok e
 have hn:mA m=none:=RelO.none_of (by rw[<- l];exact r m)
 exact II I.kIn O (c.get m) k.at_ k.fn hn h
theorem El {y:V}{u:Value}{Q:Unit->Shared->Prop} (I:Inv X pins σ H s) (e:H a=some (.ins C dx fs)) (c:Cls X.K C) (n:NoAttr X.K C f) (hl:fs.length<1000) (ry:RelV y u)
  (h:∀ s',Inv X pins σ (upd H a (.ins C dx (putF f y fs))) s'->Q () s'):wpAny (model X.prog X.w) A (setAttr (.ref a) f u) Q E s:=by
 obtain⟨mA,O,r,wi,_,ho⟩:=Ct I.hok e
 have hz:(fs.map (·.1)).length<=sizeLine:=by rw[List.length_map,sizeLine_eq];omega
 refine Kj I.kIn O c.sa c.po n.taker c.hd wi hz fun h' O' sb=>h _ ?_
 have hd:∃ o,h'.get? dx=some o:=let ⟨o,_,_,e',_⟩:=O'.ns;⟨o,e'⟩
 refine I.write (x:=a) (e:=dx) (by rw[e];exact True.intro) (.inr ho) (fun b q hb z=>(sb.2 b hb).trans z) hd ?_
 refine⟨by rw[aM O.ne];exact ho,?_,O.ne,O'.obj,_,O'.ns,fun g=> ?_,fun g hg=> ?_⟩
 ·have:=uG f y fs;omega
 ·show RelO ((putF f y fs).lookup g) (if g=f then some u else mA g)
  rw[uF]
  by_cases q:g=f
  ·rw[if_pos q,if_pos q];exact ry
  ·rw[if_neg q,if_neg q];exact r g
 ·by_cases q:g=f
  ·rw[q];exact(uH f y fs).1
  ·refine(uH f y fs).2 g (wi g fun z=>hg ?_)
   show(if g=f then some u else mA g)=none
   rw[if_neg q];exact z
theorem Inv.made (I:Inv X pins σ H s):Inv X pins σ (upd (upd H s.heap.objs.size (.own (s.heap.objs.size+1))) (s.heap.objs.size+1) (.ins C s.heap.objs.size []))
  { s with heap:=(s.heap.push PySem.W.emptyDict).push (PySem.W.instObj C s.heap.objs.size) }:=by
 have e1:(s.heap.push PySem.W.emptyDict).get? s.heap.objs.size=some PySem.W.emptyDict:=Heap.get?_push_size s.heap rfl
 have e2:((s.heap.push PySem.W.emptyDict).push (PySem.W.instObj C s.heap.objs.size)).get? (s.heap.objs.size+1)=some (PySem.W.instObj C s.heap.objs.size):=by
  have:=Heap.get?_push_size (s.heap.push PySem.W.emptyDict) (o:=PySem.W.instObj C s.heap.objs.size) rfl
  rwa [Heap.size_push] at this
 have e3:(s.heap.push PySem.W.emptyDict).Ns s.heap.objs.size (fun _=>none):=⟨PySem.W.emptyDict,#[],_,e1,rfl,(fun e he=>absurd he (by simp)),fun _=>rfl⟩
 have I1:=I.laid (a:=s.heap.objs.size) (o:=.own (s.heap.objs.size+1)) (h':=s.heap.push PySem.W.emptyDict) (t':=s.toks) (fun b u q=>Heap.get?_push_of_some _ q) (Nat.le_refl _) ⟨_,e1⟩
 refine I1.laid (a:=s.heap.objs.size+1) (o:=.ins C s.heap.objs.size []) (t':=s.toks) (fun b u q=>Heap.get?_push_of_some _ q) (Nat.le_of_eq (Heap.size_push _ _)) ?_
 have ne:s.heap.objs.size≠s.heap.objs.size+1:=Nat.ne_of_lt (Nat.lt_succ_self _)
 refine⟨by rw[aM ne,aS],Nat.zero_le _,ne,e2,fun _=>none,(Heap.Ns1.of_empty e3).at fun o q=>Heap.get?_push_of_some _ q,fun _=>True.intro,fun y hy=>absurd rfl hy⟩
theorem LV {prog:Program}{w:World}{env:Env}{e:Expr}{f:Str}{pos:Pos}{s:Shared}{Q:Value->Shared->Prop} (hb:attributeBase e f env (eval e env)=eval e env)
  (h:wpAny (model prog w) A (eval e env) (fun o s₁=>wpAny (model prog w) A (getAttr o f true) Q E s₁) E s):wpAny (model prog w) A (eval (.Attribute e f pos) env) Q E s:=
 Attribute_any_ h (by rw[arm_eval_Attribute,hb])
end
def Qv (K:PySem.W.Frag) (ta:TE) (f:Str):TE:=fun σ H Q=>ta σ H fun x H1=>∃ a C dx fs v,x=.ref a/\H1 a=some (.ins C dx fs)/\Cls K C/\NoAttr K C f/\fs.lookup f=some v/\Q v H1
def QA (K:PySem.W.Frag) (ta tv:TE) (f:Str):TS:=fun D σ H=>tv σ H fun y H1=>ta σ H1 fun x H2=>∃ a C dx fs,x=.ref a/\H2 a=some (.ins C dx fs)/\Cls K C/\NoAttr K C f/\fs.length<1000/\
 D.nx σ (upd H2 a (.ins C dx (putF f y fs)))
section
variable {X:Cx}{o e value:Expr}{f:Str}{pos pos' tpos:Pos}{ta tv:TE}
theorem MW (he:PE X e ta) (hb:attributeBase e f X.env (eval e X.env)=eval e X.env):PE X (.Attribute e f pos) (Qv X.K ta f):=by
 intro pins s σ H Q I h
 refine LV hb (thn (he pins s σ H _ I h) fun u s1 ⟨x,H1,I1,rx,a,C,dx,fs,v,ex,ea,c,n,l,q⟩=> ?_)
 subst ex
 obtain rfl:u=Value.ref a:=rx
 exact EL I1 ea c n l fun u' s2 I2 ru=>⟨v,H1,I2,ru,q⟩
theorem MN (ha:PE X o ta) (hv:PE X value tv) (hs:swapsWith value (some (.Attribute o f pos')) pos.line X.env=pure false):PS X (.Assign [.Attribute o f pos'] value pos) (QA X.K ta tv f):=by
 intro pins s σ H D I h
 refine plainObj_wpAny_Assign_Attribute (thn (hv pins s σ H _ I h) fun u s1 ⟨y,H1,I1,ry,q⟩=>thn (ha pins s1 σ H1 _ I1 q) fun ov s2 ⟨x,H2,I2,rx,a,C,dx,fs,ex,ea,c,n,l,q2⟩=> ?_) hs
 subst ex
 obtain rfl:ov=Value.ref a:=rx
 exact El I2 ea c n l ry fun s3 I3=>⟨σ,_,I3,q2⟩
end
section
variable {X:Cx}{pins:List (Addr×Obj)}{σ:St}{H:Hp}{s:Shared}{A:Around}{E:Value->Shared->Prop}{Q:Value->Shared->Prop}{c:Value}{b:Bool}
end
end L2
namespace L2
open PySem PySem.Spec PyProof.Rows
structure Room (k:Nat) (A:Around):Prop where
 hd:A.handled=none
 dp:A.depth+3*k+5<recursionLimit
 un:A.units+16*k+200<cLine
theorem Room.mono {j k:Nat}{A:Around} (r:Room k A) (h:j<=k):Room j A:=⟨r.hd,by have:=r.dp;omega,by have:=r.un;omega⟩
theorem Room.deeper {k:Nat}{A:Around} (r:Room (k+1) A) (env:Env):Room k (A.deeper env):=
 ⟨r.hd,by have:=r.dp;show A.depth+1+3*k+5<_;omega,by have:=r.un;show A.units+3+16*k+200<_;omega⟩
theorem Ey {A:Around}{C:Addr}{us:List Value}{kw:List (Str×Value)}:(A.under (.builtin "type.__call__" ⟨.ref C::us,kw⟩)).depth=A.depth+1:=by
 first|rfl|simp[Around.under,Code.weight,Code.isCreation,Code.isGuard,Code.isCaller,Code.frames,Code.isFrame,guardIds]
theorem Ew {A:Around}{C:Addr}{us:List Value}{kw:List (Str×Value)}:(A.under (.builtin "type.__call__" ⟨.ref C::us,kw⟩)).units=A.units+1:=by
 first|rfl|simp[Around.under,Code.cUnits,Code.frames,Code.isFrame]
theorem Room.make {k:Nat}{A:Around} (r:Room (k+1) A) (C:Addr) (us:List Value) (kw:List (Str×Value)):Room k (A.under (.builtin "type.__call__" ⟨.ref C::us,kw⟩)):=
 ⟨r.hd,by have:=r.dp;rw[Ey];omega,by have:=r.un;rw[Ew];omega⟩
theorem Room.depth {k:Nat}{A:Around} (r:Room k A):A.depth<recursionLimit:=by have:=r.dp;omega
theorem Room.units {k:Nat}{A:Around} (r:Room k A):A.units+64<cLine:=by have:=r.un;omega
def PY:TA:=fun _ H Q=>Q [] H
def OR (ta:TE) (tr:TA):TA:=fun σ H Q=>ta σ H fun x H1=>tr σ H1 fun xs H2=>Q (x::xs) H2
section
variable {X:Cx}{e:Expr}{es:List Expr}{te:TE}{t:TA}{pos:Pos}
theorem xB:PA X [] PY:=fun _ _ _ _ H Q I h=>Calls.spliced_nil ⟨[],H,I,.nil,h⟩
theorem jT (ha:PE X e te) (hr:PA X es t) (hs:starEach (e::es) X.env=(false,eval e X.env)::starEach es X.env:=by rfl):PA X (e::es) (OR te t):=by
 intro pos pins s σ H Q I h
 rw[hs]
 show wpAny _ _ (spliced ((false,eval e X.env)::backTo pos (starEach es X.env))) _ _ s
 refine Calls.spliced_cons (thn (ha pins s σ H _ I h) fun u s1 ⟨x,H1,I1,r1,q1⟩=> ?_)
 exact thn (hr pos pins s1 σ H1 _ I1 q1) fun us s2 ⟨xs,H2,I2,r2,q2⟩=>⟨x::xs,H2,I2,.cons r1 r2,q2⟩
def Qp (t:TA):TE:=fun σ H Q=>t σ H fun xs H1=>xs.length<=sizeLine/\∀ p,H1 p=none->Q (.ref p) (upd H1 p (.tup xs))
def Qt (t:TA):TE:=fun σ H Q=>t σ H fun xs H1=>xs.length<=sizeLine/\∀ p,H1 p=none->Q (.ref p) (upd H1 p (.lst xs))
theorem JD {x1} (h:PA X es t):PE X (.Tuple es x1 pos) (Qp t):=by
 intro pins s σ H Q I hq
 refine wpAny_Tuple_spliced (thn (h pos pins s σ H _ I hq) fun us s1 ⟨xs,H1,I1,r,z,q⟩=>⟨by rw[<- r.length];exact z,?_⟩)
 have hf:H1 s1.heap.objs.size=none:=I1.hok.fresh (Nat.le_refl _)
 refine⟨.ref s1.heap.objs.size,upd H1 s1.heap.objs.size (.tup xs),I1.laid (t':=s1.toks) (fun b u e=>Heap.get?_push_of_some _ e) (Nat.le_refl _) ?_,rfl,q _ hf⟩
 exact⟨z,us,r,⟨_,Heap.get?_push_size _ rfl,rfl,_,rfl⟩⟩
theorem JE (h:PA X es t):PE X (.List es pos) (Qt t):=by
 intro pins s σ H Q I hq
 refine wpAny_List_spliced (thn (h pos pins s σ H _ I hq) fun us s1 ⟨xs,H1,I1,r,z,q⟩=>⟨by rw[<- r.length];exact z,?_⟩)
 have hf:H1 s1.heap.objs.size=none:=I1.hok.fresh (Nat.le_refl _)
 refine⟨.ref s1.heap.objs.size,upd H1 s1.heap.objs.size (.lst xs),I1.laid (t':=s1.toks) (fun b u e=>Heap.get?_push_of_some _ e) (Nat.le_refl _) ?_,rfl,q _ hf⟩
 exact⟨z,us,0,r,Heap.get?_push_size _ rfl⟩
end
abbrev Sp:=List V->Hp->VK->XK->Prop
abbrev CXT:=List Env->Hp->Shared->XK->Value->Shared->Prop
structure Env0 (P:Program) (w:World) (K:PySem.W.Frag) (mg:Str->Option Value) (base:Heap) (A:Around) (outer:List Env) (s:Shared) (H:Hp):Prop where
 frames:A.frames=some outer
 mod:Mod K mg base
 bs:∀ b o,base.get? b=some o->s.heap.get? b=some o/\H b=none
 bsz:base.objs.size<=s.heap.objs.size
 funs:s.heap.FunFrames base outer
 frf:∀ b∈frs outer,H b=none
 hok:HOk P w H s.heap
 bare:AllBare s.gens
def CE (outer:List Env) (P:Program) (w:World) (H:Hp) (s:Shared) (Q:VK) (u:Value) (s':Shared):Prop:=
 ∃ v H',s'.os=s.os/\AllBare s'.gens/\Un (frs outer) [] H H' s.heap s'.heap/\HOk P w H' s'.heap/\RelV v u/\Q v H'
def CR (CX:CXT) (outer:List Env) (P:Program) (w:World) (H:Hp) (s:Shared) (Q:VK) (E:XK) (r:Result) (s':Shared):Prop:=
 match r with
 |.ok (.ret u)=>CE outer P w H s Q u s'
 |.ok _=>False
 |.error e=>CX outer H s E e s'
structure wQ (P:Program) (w:World) (K:PySem.W.Frag) (mg:Str->Option Value) (base:Heap) (CX:CXT) (k:Nat) (f:Addr) (fd:FuncData) (ps:List Str) (sp:Sp):Prop where
 len:∀ vs H Q E,sp vs H Q E->vs.length=ps.length
 run:∀(A:Around) (outer:List Env) (s:Shared) (H:Hp) (args:Args) (us:List Value) (vs:List V) (Q:VK) (E:XK),Room k A->Env0 P w K mg base A outer s H->BindsTo s fd args (ps.zip us)->Vals vs us->sp vs H Q E->
  codeAny (model P w) A (.call (.ref f) args) (CR CX outer P w H s Q E) s
theorem Env0.make {P:Program}{w:World}{K:PySem.W.Frag}{mg:Str->Option Value}{base:Heap}{A:Around}{outer:List Env}{s:Shared}{H:Hp} (e:Env0 P w K mg base A outer s H) (C:Addr) (us:List Value) (kw:List (Str×Value)):
  Env0 P w K mg base (A.under (.builtin "type.__call__" ⟨.ref C::us,kw⟩)) outer s H:=⟨by first|exact e.frames|(simpa [Around.under,Code.envs,Code.isFrame,pushEnvs] using e.frames),e.mod,e.bs,e.bsz,e.funs,e.frf,e.hok,e.bare⟩
section
variable {X:Cx}{pins:List (Addr×Obj)}{σ:St}{H:Hp}{s s':Shared}
theorem Inv.env0 (I:Inv X pins σ H s):Env0 X.prog X.w X.K X.mg X.base X.A X.stack s H:=
 ⟨I.ok.frames,I.ok.mod,I.bs,Nat.le_trans I.ok.bsz I.sz,I.stack,I.stkFree,I.hok,I.bare⟩
theorem Inv.after {Q:VK}{u:Value} (I:Inv X pins σ H s) (h:CE X.stack X.prog X.w H s Q u s'):EP X pins σ Q u s':=by
 obtain⟨v,H',os,bare,un,hok,r,q⟩:=h
 obtain⟨hh,g,d,t,os'⟩:=s'
 obtain rfl:os'=s.os:=os
 exact⟨v,H',I.call (h':=hh) (g':=g) (d':=d) (t':=t) (ch:=[]) un hok bare (fun b z=>absurd z (by simp)),r,q⟩
end
def OU (sp:Sp) (dvs:List V) (E:XK) (t:TA):TE:=fun σ H Q=>t σ H fun vs H1=>sp (vs++dvs) H1 Q E
def Mq (C:Addr) (m:Str) (sp:Sp) (dvs:List V) (E:XK) (ta:TE) (t:TA):TE:=fun σ H Q=>ta σ H fun x H1=>∃ a dx fs,x=.ref a/\H1 a=some (.ins C dx fs)/\fs.lookup m=none/\
 t σ H1 fun vs H2=>sp (x::(vs++dvs)) H2 Q E
def ON (C:Addr) (sp:Sp) (dvs:List V) (E:XK) (t:TA):TE:=fun σ H Q=>t σ H fun vs H1=>∀ x dx,H1 x=none->H1 dx=none->dx≠x->
 sp (.ref x::(vs++dvs)) (upd (upd H1 dx (.own x)) x (.ins C dx [])) (fun v H2=>v=.non/\Q (.ref x) H2) E
def Binds (K:PySem.W.Frag) (fd:FuncData) (ps:List Str) (ds:List Value):Prop:=
 ∀(s:Shared) (us:List Value),K.In s.heap->(us++ds).length=ps.length->BindsTo s fd ⟨us,[]⟩ (ps.zip (us++ds))
theorem Binds.all {K:PySem.W.Frag}{fd:FuncData}{ps:List Str} (h:∀ us:List Value,us.length=ps.length->bindArgs fd ⟨us,[]⟩=pure (ps.zip us)):Binds K fd ps []:=fun s us _ hl=>by
 rw[List.append_nil] at hl ⊢
 exact .of_eq (h us hl)
def vJ (CX:CXT) (X:Cx) (E:XK):Prop:=∀(pins:List (Addr×Obj)) (σ:St) (H:Hp) (s:Shared) (e:Value) (s':Shared),Inv X pins σ H s->CX X.stack H s E e s'->X.xe e s'
section
variable {X:Cx}{CX:CXT}{k:Nat}{f C:Addr}{fd:FuncData}{ps:List Str}{sp:Sp}{dvs:List V}{ds:List Value}{E:XK}{x m:Str}{p pos apos:Pos}{e o:Expr}{es:List Expr}{ta:TE}{t:TA}
theorem FC {pins:List (Addr×Obj)}{σ:St}{H:Hp}{s:Shared}{Q:VK}{us:List Value}{vs:List V} (F:wQ X.prog X.w X.K X.mg X.base CX k f fd ps sp) (hr:Room k X.A) (hb:Binds X.K fd ps ds) (hd:Vals dvs ds) (hx:vJ CX X E)
  (I:Inv X pins σ H s) (r:Vals vs us) (h:sp (vs++dvs) H Q E):wpAny (model X.prog X.w) X.A (call (.ref f) us) (EP X pins σ Q) X.xe s:=by
 have r2:Vals (vs++dvs) (us++ds):=r.append hd
 have hl:(us++ds).length=ps.length:=by rw[<- r2.length];exact F.len _ _ _ _ h
 refine wpAny_call (codeAny_mono (F.run X.A X.stack s H ⟨us,[]⟩ (us++ds) (vs++dvs) Q E hr I.env0 (hb s us I.kIn hl) r2 h) fun r s' hq=> ?_)
 cases r with
 |error e=>exact hx pins σ H s e s' I hq
 |ok fl=>
  cases fl with
  |ret u=>exact I.after hq
  |next=>exact False.elim hq
  |brk=>exact False.elim hq
  |cont=>exact False.elim hq
theorem KD (F:wQ X.prog X.w X.K X.mg X.base CX k f fd ps sp) (hr:Room k X.A) (hg:Gl X x) (hm:X.mg x=some (.ref f)) (hk:PySem.W.keepIn X.K (.ref f)=true) (hb:Binds X.K fd ps ds) (hd:Vals dvs ds) (hx:vJ CX X E)
  (ha:PA X (e::es) t) (hdb:(x==("__debug__":Str))=false:=by decide) (he:starEach (e::es) X.env=(false,eval e X.env)::starEach es X.env:=by rfl) (hpl:(backTo pos (starEach es X.env)).any (·.1)=false:=by rfl):
  PE X (.Call (.Name x p) (e::es) [] pos) (OU sp dvs E t):=by
 intro pins s σ H Q I h
 refine wpAny_Call_Name_kw (zC I hg hm ?_ hdb)
 refine PySem.W.callWith_K (h₀:=X.base) I.ok.mod.kin hk (thn (ha pos pins s σ H _ I h) fun us s1 ⟨vs,H1,I1,r,q⟩=>⟨I1.kIn,?_⟩) he hpl
 exact FC F hr hb hd hx I1 r q
theorem Ky {pl:Sem Bool} (he:PE X o ta) (c:Cls X.K C) (hm:sC X.K C m f) (F:wQ X.prog X.w X.K X.mg X.base CX k f fd ps sp) (hr:Room k X.A) (hb:Binds X.K fd ps ds) (hd:Vals dvs ds) (hx:vJ CX X E) (ha:PA X (e::es) t)
  (hst:starEach (e::es) X.env=(false,eval e X.env)::starEach es X.env:=by rfl) (hpl:(backTo pos (starEach es X.env)).any (·.1)=false:=by rfl)
  (ht:eval (.Call (.Attribute o m apos) (e::es) [] pos) X.env=(do
   let ov <- eval o X.env
   standAt apos.atName
   let (f,first) <- holding [ov] (getMethod ov m pl)
   callWith pos f first (backTo pos (starEach (e::es) X.env)) (backToKw pos (keywordEach [] X.env))):=by rfl):
  PE X (.Call (.Attribute o m apos) (e::es) [] pos) (Mq C m sp dvs E ta t):=by
 intro pins s σ H Q I h
 refine PySem.W.methodCall_KW (pl:=pl) (thn (he pins s σ H _ I h) fun u s1 ⟨x,H1,I1,rx,a,dx,fs,ex,ea,l,q⟩=> ?_) ht
 subst ex
 obtain rfl:u=Value.ref a:=rx
 refine xM I1 ea c hm l ?_
 refine PySem.W.callWith_K (first:=[.ref a]) (h₀:=X.base) I.ok.mod.kin hm.kp (thn (ha pos pins s1 σ H1 _ I1 q) fun us s2 ⟨vs,H2,I2,r,q2⟩=>⟨I2.kIn,?_⟩) hst hpl
 exact FC (us:=.ref a::us) (vs:=.ref a::vs) F hr hb hd hx I2 (.cons rfl r) q2
theorem HV {pl:Sem Bool} (he:PE X o ta) (c:Cls X.K C) (hm:sC X.K C m f) (F:wQ X.prog X.w X.K X.mg X.base CX k f fd ps sp) (hr:Room k X.A) (hb:Binds X.K fd ps ds) (hd:Vals dvs ds) (hx:vJ CX X E)
  (ht:eval (.Call (.Attribute o m apos) [] [] pos) X.env=(do
   let ov <- eval o X.env
   standAt apos.atName
   let (f,first) <- holding [ov] (getMethod ov m pl)
   callWith pos f first (backTo pos (starEach [] X.env)) (backToKw pos (keywordEach [] X.env))):=by rfl):
  PE X (.Call (.Attribute o m apos) [] [] pos) (Mq C m sp dvs E ta PY):=by
 intro pins s σ H Q I h
 refine PySem.W.methodCall_KW (pl:=pl) (thn (he pins s σ H _ I h) fun u s1 ⟨x,H1,I1,rx,a,dx,fs,ex,ea,l,q⟩=> ?_) ht
 subst ex
 obtain rfl:u=Value.ref a:=rx
 refine xM I1 ea c hm l ?_
 exact PySem.W.callWith_K0 (first:=[.ref a]) I1.kIn hm.kp (FC (us:=[.ref a]) (vs:=[.ref a]) F hr hb hd hx I1 (.cons rfl .nil) q)
structure Mk (K:PySem.W.Frag) (C f:Addr):Prop where
 makes:PySem.W.makesIn K C=true
 init:PySem.W.findIn K (.ref C) "__init__"=some (some (.ref f))
 fn:PySem.W.isFn K (.ref f)=true
 kp:PySem.W.keepIn K (.ref C)=true
theorem HA {pins:List (Addr×Obj)}{σ:St}{H:Hp}{s:Shared}{Q:VK}{us:List Value}{vs:List V} (M:Mk X.K C f) (F:wQ X.prog X.w X.K X.mg X.base CX k f fd ps sp) (hr:Room (k+1) X.A) (hb:Binds X.K fd ps ds) (hd:Vals dvs ds)
  (hx:vJ CX X E) (I:Inv X pins σ H s) (r:Vals vs us)
  (h:∀ x dx,H x=none->H dx=none->dx≠x->sp (.ref x::(vs++dvs)) (upd (upd H dx (.own x)) x (.ins C dx [])) (fun v H2=>v=.non/\Q (.ref x) H2) E):
  wpAny (model X.prog X.w) X.A (call (.ref C) us) (EP X pins σ Q) X.xe s:=by
 have hq:=h (s.heap.objs.size+1) s.heap.objs.size (I.hok.fresh (Nat.le_succ _)) (I.hok.fresh (Nat.le_refl _)) (Nat.ne_of_lt (Nat.lt_succ_self _))
 have I2:=Inv.made (C:=C) I
 have r2:Vals (V.ref (s.heap.objs.size+1)::(vs++dvs)) (Value.ref (s.heap.objs.size+1)::(us++ds)):=.cons rfl (r.append hd)
 have hl:(Value.ref (s.heap.objs.size+1)::us++ds).length=ps.length:=by
  have e:=r2.length
  rw[F.len _ _ _ _ hq] at e
  exact e.symm
 refine wpAny_call (Ip (f:=f) I.kIn M.makes M.init (beq_iff_eq.mp M.fn) (codeAny_mono (F.run _ X.stack _ _ ⟨Value.ref (s.heap.objs.size+1)::us,[]⟩ (Value.ref (s.heap.objs.size+1)::(us++ds)) _ _ E (hr.make C us [])
  (I2.env0.make C us []) (hb _ (Value.ref (s.heap.objs.size+1)::us) I2.kIn hl) r2 hq) fun r s' hq'=> ?_))
 cases r with
 |error e=>exact hx pins σ _ _ e s' I2 hq'
 |ok fl=>
  cases fl with
  |ret u=>
   obtain⟨v,H',I3,rv,ev,q3⟩:=I2.after hq'
   subst ev
   exact⟨rv,⟨V.ref (s.heap.objs.size+1),H',I3,rfl,q3⟩⟩
  |next=>exact False.elim hq'
  |brk=>exact False.elim hq'
  |cont=>exact False.elim hq'
theorem Kz (M:Mk X.K C f) (F:wQ X.prog X.w X.K X.mg X.base CX k f fd ps sp) (hr:Room (k+1) X.A) (hg:Gl X x) (hm:X.mg x=some (.ref C)) (hb:Binds X.K fd ps ds) (hd:Vals dvs ds) (hx:vJ CX X E)
  (ha:PA X (e::es) t) (hdb:(x==("__debug__":Str))=false:=by decide) (he:starEach (e::es) X.env=(false,eval e X.env)::starEach es X.env:=by rfl) (hpl:(backTo pos (starEach es X.env)).any (·.1)=false:=by rfl):
  PE X (.Call (.Name x p) (e::es) [] pos) (ON C sp dvs E t):=by
 intro pins s σ H Q I h
 refine wpAny_Call_Name_kw (zC I hg hm ?_ hdb)
 refine PySem.W.callWith_K (h₀:=X.base) I.ok.mod.kin M.kp (thn (ha pos pins s σ H _ I h) fun us s1 ⟨vs,H1,I1,r,q⟩=>⟨I1.kIn,?_⟩) he hpl
 exact HA M F hr hb hd hx I1 r q
end
section
variable {X:Cx}{CX:CXT}{k:Nat}{f C:Addr}{fd:FuncData}{ps ks:List Str}{sp:Sp}{E:XK}{x m:Str}{p pos apos kpos:Pos}{e o:Expr}{es:List Expr}{kws:List Keyword}{te ta:TE}{t tk:TA}{nm:Option Str}
variable {g:List Value->List Value->List Value}{gV:List V->List V->List V}
end
structure aW (N P:List Str) (sc:Scope):Prop where
 kind:sc.kind=.function
 co:sc.isCoroutine=false
 gen:sc.isGenerator=false
 nd:N.Nodup
 pre:N.take P.length=P
 par:∀ x∈P,sc.names.lookup x=some .local∨sc.names.lookup x=some .cell
 nofree:∀ y∈sc.names,y.2≠ .free
theorem BA {kindOf:Str->Option NameKind}{x:Str}:∀ {binds:List (Str×Value)}{m:Str->Option Value},(∀ v,(x,v)∉binds)->bindL kindOf binds m x=m x
 |[],_,_=>rfl
 |(n,v)::r,m,h=>by
  unfold bindL
  rw[BA fun w hw=>h w (List.mem_cons_of_mem _ hw)]
  split
  ·have:x≠n:=by rintro rfl;exact h v List.mem_cons_self
   simp[this]
  ·rfl
theorem BC {kindOf:Str->Option NameKind}{x:Str}:∀ {binds:List (Str×Value)}{m:Str->Option Value},(∀ v,(x,v)∉binds)->bindC kindOf binds m x=m x
 |[],_,_=>rfl
 |(n,v)::r,m,h=>by
  unfold bindC
  rw[BC fun w hw=>h w (List.mem_cons_of_mem _ hw)]
  split
  ·rfl
  ·have:x≠n:=by rintro rfl;exact h v List.mem_cons_self
   simp[this]
theorem BB {kindOf:Str->Option NameKind}{x:Str}{v:Value}:∀ {P:List Str}{vs:List Value}{i:Nat}{m:Str->Option Value},P.Nodup->P[i]?=some x->vs[i]?=some v->kindOf x=some .local->
  bindL kindOf (P.zip vs) m x=some v
 |[],_,_,_,_,h,_,_=>by simp at h
 |_::_,[],_,_,_,_,h,_=>by simp at h
 |p::P,w::vs,0,m,nd,h1,h2,hk=>by
  simp at h1 h2;subst h1;subst h2
  show bindL kindOf ((p,w)::P.zip vs) m p=_
  unfold bindL
  rw[BA fun v hv=>(List.nodup_cons.mp nd).1 (List.of_mem_zip hv).1,if_pos hk]
  simp
 |p::P,w::vs,i+1,m,nd,h1,h2,hk=>by
  show bindL kindOf ((p,w)::P.zip vs) m x=_
  unfold bindL
  exact BB (i:=i) (List.nodup_cons.mp nd).2 (by simpa using h1) (by simpa using h2) hk
theorem BD {kindOf:Str->Option NameKind}{x:Str}{v:Value}:∀ {P:List Str}{vs:List Value}{i:Nat}{m:Str->Option Value},P.Nodup->P[i]?=some x->vs[i]?=some v->kindOf x≠some .local->
  bindC kindOf (P.zip vs) m x=some v
 |[],_,_,_,_,h,_,_=>by simp at h
 |_::_,[],_,_,_,_,h,_=>by simp at h
 |p::P,w::vs,0,m,nd,h1,h2,hk=>by
  simp at h1 h2;subst h1;subst h2
  show bindC kindOf ((p,w)::P.zip vs) m p=_
  unfold bindC
  rw[BC fun v hv=>(List.nodup_cons.mp nd).1 (List.of_mem_zip hv).1,if_neg hk]
  simp
 |p::P,w::vs,i+1,m,nd,h1,h2,hk=>by
  show bindC kindOf ((p,w)::P.zip vs) m x=_
  unfold bindC
  exact BD (i:=i) (List.nodup_cons.mp nd).2 (by simpa using h1) (by simpa using h2) hk
def start (N:List Str) (vs:List V):St:=vs.map some++List.replicate (N.length-vs.length) none
def CM (CX:CXT) (P:Program) (w:World) (K:PySem.W.Frag) (mg:Str->Option Value) (base:Heap) (N:List Str) (qual:Str) (scope:Scope) (f:Addr) (cd:Value) (A:Around) (outer:List Env) (s:Shared) (H:Hp) (E:XK):Cx where
 prog:=P
 w:=w
 K:=K
 mg:=mg
 base:=base
 A:=A.deeper (envOfC qual scope s.heap.objs.size f cd)
 N:=N
 s₀:=s
 H₀:=H
 env:=envOfC qual scope s.heap.objs.size f cd
 outer:=outer
 stack:=envOfC qual scope s.heap.objs.size f cd::outer
 ex:=[]
 calm:=true
 fn:=fun _=>true
 pn:=[]
 xe:=fun e s'=>wpAny (model P w) (A.deeper (envOfC qual scope s.heap.objs.size f cd)) (leaving (envOfC qual scope s.heap.objs.size f cd) e) (fun _ s''=>CX outer H s E e s'') (fun e' s''=>CX outer H s E e' s'') s'
theorem DY {sc:Scope}{n:Nat}{x:Str} (h:sc.names.lookup x=some .cell):∃ c,(cellsFrom n sc.names []).lookup x=some c:=by
 have q:=PySem.W.cellsFrom_some sc.names n [] (.inl h)
 exact Option.isSome_iff_exists.mp q
theorem Gu {CX:CXT}{P:Program}{w:World}{K:PySem.W.Frag}{mg:Str->Option Value}{base:Heap}{N ps:List Str}{qual:Str}{scope:Scope}{f:Addr}{cd:Value}{A:Around}{outer:List Env}{s s1:Shared}{H:Hp}{E:XK}{us:List Value}{vs:List V}
  (S:aW N ps scope) (hd:A.handled=none) (e0:Env0 P w K mg base A outer s H) (hl:vs.length=ps.length) (r:Vals vs us)
  (x:InCallC s s.heap.objs.size (bindL (envOfC qual scope s.heap.objs.size f cd).kindOf (ps.zip us) fun _=>none) (cellsFrom (s.heap.objs.size+1) scope.names []) (bindC (envOfC qual scope s.heap.objs.size f cd).kindOf (ps.zip us) fun _=>none) s1):
  Inv (CM CX P w K mg base N qual scope f cd A outer s H E) [] (start N vs) H s1:=by
 have hpl:ps.length<=N.length:=by have:=congrArg List.length S.pre;rw[List.length_take] at this;omega
 obtain⟨h1,tk,rfl,hk⟩:=x.done
 have noA:∀ b:Addr,b∉(CM CX P w K mg base N qual scope f cd A outer s H E).ex:=fun b z=>absurd (show b∈([]:List Addr) from z) (by simp)
 refine⟨⟨e0.mod,S.kind,rfl,rfl,Nat.le_refl _,fun y z c h1 h2=> ?_,fun y hy=> ?_,fun y c _ h=> ?_,fun _=>hd,Around.frames_deeper e0.frames,.inr ⟨rfl,rfl⟩,fun b z=>absurd z (noA b),e0.bs,e0.bsz,fun b _ _=>noA b,fun b z=>absurd z (noA b),e0.funs,e0.frf⟩,
  rfl,e0.bare,Un.kept hk,⟨_,x.toInCall.ns,fun i y v h1 h2 h3=> ?_⟩,fun y c h=>⟨_,x.cell y c h⟩,e0.hok.fresh (Nat.le_refl _),fun y c h=> ?_,fun p hp=>absurd (show p∈([]:List (Addr×Obj)) from hp) (by simp),e0.hok.kept hk,?_⟩
 ·exact name_of_addr x.apart (PySem.mem_of_lookup h1) (PySem.mem_of_lookup h2)
 ·have hy:scope.names.lookup y=some .cell∨scope.names.lookup y=some .free:=hy
  rcases hy with hy|hy
  ·exact DY hy
  ·exact absurd rfl (S.nofree _ (PySem.mem_of_lookup hy))
 ·exact Nat.le_of_lt (x.above y c (PySem.mem_of_lookup h))
 ·have hi:i<vs.length:=by
   unfold start at h2
   by_cases hi:i<vs.length
   ·exact hi
   ·rw[List.getElem?_append_right (by simpa using hi)] at h2
    rw[List.getElem?_replicate] at h2
    split at h2 <;> cases h2
  have ha:vs[i]?=some v:=by
   unfold start at h2
   rw[List.getElem?_append_left (by simpa using hi),List.getElem?_map] at h2
   cases e:vs[i]? with
   |none=>rw[e] at h2;cases h2
   |some a=>rw[e] at h2;cases h2;rfl
  obtain⟨u,hu,rv⟩:=r.get ha
  have hp:ps[i]?=some y:=by
   rw[<- S.pre,List.getElem?_take_of_lt (by omega)];exact h1
  have ndP:ps.Nodup:=by rw[<- S.pre];exact S.nd.sublist (List.take_sublist _ _)
  refine⟨u,rv,?_⟩
  rcases S.par y (List.mem_of_getElem? hp) with k|k
  ·exact .inl ⟨k,BB ndP hp hu k⟩
  ·obtain⟨c,e⟩:=DY (n:=s.heap.objs.size+1) k
   refine .inr ⟨.inl k,c,e,?_⟩
   have q:=x.cell y c e
   rw[BD ndP hp hu (by show scope.names.lookup y≠_;rw[k];decide)] at q
   exact q
 ·exact e0.hok.fresh (Nat.le_of_lt (x.above y c (PySem.mem_of_lookup h)))
 ·unfold start
  show _=N.length
  rw[List.length_append,List.length_map,List.length_replicate]
  omega
theorem Pz {CX:CXT}{P:Program}{w:World}{K:PySem.W.Frag}{mg:Str->Option Value}{base:Heap}{k:Nat}{f:Addr}{name qual:Str}{params:Arguments}{body:List Stmt}{scope:Scope}{dV kV doc pm cdv ct oc:Value}{an od:Option Addr}
  {osl:Array (Option Value)}{N ps:List Str}{sp:Sp} (lk:K.lookup f=some ⟨oc,od,.func (PySem.W.fnOf name qual params body scope dV kV doc pm an cdv ct),osl⟩) (hcd:PySem.W.codeIn K cdv qual=true) (S:aW N ps scope)
  (len:∀ vs H Q E,sp vs H Q E->vs.length=ps.length)
  (hbody:∀(A:Around) (outer:List Env) (s:Shared) (H:Hp) (vs:List V) (Q:VK) (E:XK),Room k (A.deeper (envOfC qual scope s.heap.objs.size f cdv))->sp vs H Q E->
   ∃ t,PSs (CM CX P w K mg base N qual scope f cdv A outer s H E) body t/\t { nx:=fun _ H'=>Q .non H',rt:=Q } (start N vs) H):
  wQ P w K mg base CX (k+1) f (PySem.W.fnOf name qual params body scope dV kV doc pm an cdv ct) ps sp:=by
 refine⟨len,fun A outer s H args us vs Q E hr e0 hb r hsp=> ?_⟩
 have hl:=len _ _ _ _ hsp
 have KX:K.In s.heap:=e0.mod.kin.keeps fun b o e=>(e0.bs b o e).1
 have lim:s.heap.NoLimit:=e0.mod.nolimit.keeps fun b o e=>(e0.bs b o e).1
 have hkind:∀ y∈ps.zip us,scope.names.lookup y.1=some .local∨(scope.names.lookup y.1=some .cell/\((cellsFrom (s.heap.objs.size+1) scope.names []).lookup y.1).isSome=true):=fun⟨n,v⟩ hy=>by
  rcases S.par n (List.of_mem_zip hy).1 with q|q
  ·exact .inl q
  ·exact .inr ⟨q,PySem.W.cellsFrom_some _ _ _ (.inl q)⟩
 refine codeAny_call_function hr.depth (KX _ _ lk) rfl S.co S.gen rfl (PySem.W.codeRec_of KX hcd) (hb _ _ _ _ ?_)
 refine wpAny_newFunctionEnv_cells S.kind hkind fun env he s1 x=> ?_
 subst he
 refine⟨lim.keeps x.toInCall.keep,codeAny_func ?_⟩
 obtain⟨t,ht,hq⟩:=hbody A outer s H vs Q E (hr.deeper _) hsp
 have I:Inv (CM CX P w K mg base N qual scope f cdv A outer s H E) [] (start N vs) H s1:=Gu S hr.hd e0 hl r x
 refine wpAny_mono (ht [] s1 (start N vs) H _ I hq) (fun fl s' hs=> ?_) fun e s' hs=>hs
 have fin:∀ {σ':St}{H':Hp}{v:V}{u:Value},Inv (CM CX P w K mg base N qual scope f cdv A outer s H E) [] σ' H' s'->RelV v u->Q v H'->CE outer P w H s Q u s':=
  fun {σ' H' v u} J rv q=>⟨v,H',J.os,J.bare,J.base,J.hok,rv,q⟩
 cases fl with
 |ret u=>
  obtain⟨v,σ',H',J,rv,q⟩:=hs
  exact fin J rv q
 |next=>
  obtain⟨σ',H',J,q⟩:=hs
  exact fin (v:=V.non) (u:=Value.none) J rfl q
 |brk=>
  obtain⟨_,_,_,q⟩:=hs
  exact False.elim q
 |cont=>
  obtain⟨_,_,_,q⟩:=hs
  exact False.elim q
end L2
namespace L2
open PySem PySem.Spec PyProof.Rows
section
variable {X:Cx}{x:Str}{p pos:Pos}{e:Expr}{es:List Expr}{t:TA}{id T:String}{r:List V->Hp->VK->Prop}
def tCB (r:List V->Hp->VK->Prop) (t:TA):TE:=fun σ H Q=>t σ H fun vs H1=>r vs H1 Q
theorem sV (hc:CallR X (.builtin id) r) (hg:Gl X x) (hm:X.mg x=none) (hv:bootBuiltins x=some (.builtin id)) (ha:PA X (e::es) t) (hn:x≠"__name__":=by decide) (hdb:(x==("__debug__":Str))=false:=by decide)
  (he:starEach (e::es) X.env=(false,eval e X.env)::starEach es X.env:=by rfl) (hpl:(backTo pos (starEach es X.env)).any (·.1)=false:=by rfl):PE X (.Call (.Name x p) (e::es) [] pos) (tCB r t):=by
 intro pins s σ H Q I h
 refine wpAny_Call_Name_kw (AQ I hg hm hv ?_ hn hdb)
 exact PyProof.Rows.callWith_builtin1 (thn (ha pos pins s σ H _ I h) fun us s1 ⟨vs,H1,I1,r1,q1⟩=>hc pins s1 σ H1 vs us Q I1 r1 q1) he hpl
theorem FN (hc:CallR X (.type T) r) (hg:Gl X x) (hm:X.mg x=none) (hv:bootBuiltins x=some (.type T)) (ha:PA X (e::es) t) (hn:x≠"__name__":=by decide) (hdb:(x==("__debug__":Str))=false:=by decide)
  (he:starEach (e::es) X.env=(false,eval e X.env)::starEach es X.env:=by rfl) (hpl:(backTo pos (starEach es X.env)).any (·.1)=false:=by rfl):PE X (.Call (.Name x p) (e::es) [] pos) (tCB r t):=by
 intro pins s σ H Q I h
 refine wpAny_Call_Name_kw (AQ I hg hm hv ?_ hn hdb)
 exact PyProof.Rows.callWith_type1 (thn (ha pos pins s σ H _ I h) fun us s1 ⟨vs,H1,I1,r1,q1⟩=>hc pins s1 σ H1 vs us Q I1 r1 q1) he hpl
end
end L2
namespace HT
open PySem PyProof.Rows
def lexLt:List Int->List Int->Bool
 |[],[]=>false
 |[],_::_=>true
 |_::_,[]=>false
 |x::xs,y::ys=>if x=y then lexLt xs ys else decide (x<y)
theorem Ez (x y:Int) (xs ys:List Int):lexLt (x::xs) (y::ys)=if x=y then lexLt xs ys else decide (x<y):=rfl
theorem zB:lexLt [] []=false:=rfl
theorem wG (y:Int) (ys:List Int):lexLt [] (y::ys)=true:=rfl
theorem wH (x:Int) (xs:List Int):lexLt (x::xs) []=false:=rfl
theorem Ja (A:Around) (s:Shared) (a:Int) (t:Tok) (c:Int) (u:Tok):∃ e,SeqAt.EqAt A s (.int a t) (.int c u) e/\(e=true↔a=c):=
 ⟨(a==c),SeqAt.EqAt.int_int a t c u,by simp⟩
theorem HH (A:Around) (s:Shared) (a:Int) (t:Tok) (c:Int) (u:Tok) (prog:Program) (w:World) (E:Value->Shared->Prop) (Q:Value->Shared->Prop) (h:Q (.bool (decide (a<c))) s):
  wpAny (model prog w) A (richCompare .Lt (.int a t) (.int c u)) Q E s:=
 (PyProof.Rows.lt_int h:wpAny (model prog w) A (compareOp .Lt (.int a t) (.int c u)) Q E s)
section
open PySem.SeqAt
open PySem.AutoSeq1 (wpAny_loadPart')
open PySem.MeetsSeq PySem.MeetsSeq2 PySem.MeetsSeq3
theorem yJ (l b:Addr) (items items2:Array Value) (n n2:Nat) (dd dd2:Option Addr) (sl sl2:Array (Option Value)) (ns ms:List Int) (hi:IntsAre items.toList ns) (hj:IntsAre items2.toList ms):
  Meets (Builtin.«tuple.__lt__» ⟨[.ref l,.ref b],[]⟩)
   (fun _ R s=>s.heap.get? l=some { cls:=.type "tuple",dict:=dd,data:=.seq items n,slots:=sl }/\s.heap.get? b=some { cls:=.type "tuple",dict:=dd2,data:=.seq items2 n2,slots:=sl2 }/\
    R (.ok (.ret (.bool (lexLt ns ms)))) s):=
 .of_wp fun prog w A R s h=>by
  obtain⟨hp,g,d,tk,os⟩:=s;obtain⟨hl,hb,h⟩:=h
  have f2:=AutoSeq1.sub_tuple_tuple
  have z1:items.size=ns.length:=by rw[<- hi.length];simp
  have z2:items2.size=ms.length:=by rw[<- hj.length];simp
  wp_walk using wpAny_loadPart' hl,wpAny_loadPart' hb,wpAny_forIn_list _ (fun rest b s'=>b.1=none/\s'=⟨hp,g,d,tk,os⟩/\∃(vs ws:List Value) (ns' ms':List Int),rest=vs.zip ws/\
   IntsAre vs ns'/\IntsAre ws ms'/\ns'.length+items2.size=ms'.length+items.size/\R (.ok (.ret (.bool (lexLt ns' ms')))) ⟨hp,g,d,tk,os⟩) _
  case turn=>
   rintro⟨y,x⟩ rest b s' ⟨hb',rfl,vs,ws,ns',ms',hz,hvi,hwi,hlen,hR⟩
   cases hvi with
   |nil=>rw[List.zip_nil_left] at hz;cases hz
   |cons a t hvi'=>
    cases hwi with
    |nil=>rw[List.zip_nil_right] at hz;cases hz
    |cons c u hwi'=>
     rw[List.zip_cons_cons] at hz
     injection hz with hyx hrest
     injection hyx with hy hx
     subst hy hx
     rw[Ez] at hR
     simp only[List.length_cons] at hlen
     obtain⟨e,he,hiff⟩:=Ja A.in1 ⟨hp,g,d,tk,os⟩ a t c u
     refine wpAny_bind (he prog w _ _ ?_)
     cases e with
     |true=>
      rw[if_pos (hiff.mp rfl)] at hR
      wp_walk
      exact⟨rfl,rfl,_,_,_,_,hrest,hvi',hwi',by omega,hR⟩
     |false=>
      rw[if_neg (fun q=>absurd (hiff.mpr q) Bool.false_ne_true)] at hR
      have hri:=HH A.in1 ⟨hp,g,d,tk,os⟩ a t c u prog w
      wp_walk using hri
      exact⟨_,rfl,by simpa using hR⟩
  case fin=>
   rintro⟨b1,b2⟩ s' ⟨hb',rfl,vs,ws,ns',ms',hz,hvi,hwi,hlen,hR⟩
   simp only at hb'
   subst hb'
   have hv:lexLt ns' ms'=decide (items.size<items2.size):=by
    cases hvi with
    |nil=>
     cases hwi with
     |nil=>
      simp only[List.length_nil] at hlen
      rw[zB]
      exact(decide_eq_false (by omega)).symm
     |cons c u hw=>
      simp only[List.length_nil,List.length_cons] at hlen
      rw[wG]
      exact(decide_eq_true (by omega)).symm
    |cons a t hv=>
     cases hwi with
     |nil=>
      simp only[List.length_nil,List.length_cons] at hlen
      rw[wH]
      exact(decide_eq_false (by omega)).symm
     |cons c u hw=>
      rw[List.zip_cons_cons] at hz
      cases hz
   rw[hv] at hR
   wp_walk
   exact⟨_,rfl,by simpa [Builtin.Tuple.tupleCompareSizes] using hR⟩
  case h=>
   exact⟨rfl,rfl,items.toList,items2.toList,ns,ms,rfl,hi,hj,by omega,h⟩
end
section
variable {prog:Program}{w:World}{A:Around}{E:Value->Shared->Prop}{s:Shared}
theorem lt_tupInts {l b:Addr}{items items2:Array Value}{ns ms:List Int}{Q:Value->Shared->Prop} (hl:IsTup s.heap l items) (hb:IsTup s.heap b items2) (hi:IntsAre items.toList ns) (hj:IntsAre items2.toList ms)
  (hu:A.units<cLine) (h:Q (.bool (lexLt ns ms)) s):wpAny (model prog w) A (compareOp .Lt (.ref l) (.ref b)) Q E s:=by
 obtain⟨⟨cls,dd,data,sl⟩,ho,hc,n,hd⟩:=id hl
 obtain⟨⟨cls2,dd2,data2,sl2⟩,ho2,hc2,n2,hd2⟩:=id hb
 simp only at hc hd hc2 hd2
 subst hc hd hc2 hd2
 exact richCompare_meets_room (op:=.Lt) ⟨_,ho,rfl⟩ ⟨_,ho2,rfl⟩ PySem.F.slot_tuple_lt PySem.F.entry_tuple_lt (PySem.F.args_tuple_lt_2 _ _) (yJ l b items items2 n n2 dd dd2 sl sl2 ns ms hi hj)
  ⟨ho,ho2,show Value.bool (lexLt ns ms)≠Value.notImplemented/\Q (.bool (lexLt ns ms)) s from⟨(fun x=>nomatch x),h⟩⟩ hu
def sIx (n d:Nat):Option Int->Nat
 |none=>d
 |some v=>if v<0 then(v+(n:Int)).toNat else min v.toNat n
theorem Mw (n d:Nat) (hd:d<=n) (o:Option Int):sIx n d o<=n:=by
 cases o with
 |none=>exact hd
 |some v=>
  show(if v<0 then(v+(n:Int)).toNat else min v.toNat n)<=n
  by_cases hv:v<0
  ·rw[if_pos hv];omega
  ·rw[if_neg hv];exact Nat.min_le_right _ _
theorem GU (v:Int) (n d:Nat):(if v<0 then max (v+(n:Int)) 0 else min v (n:Int))=((sIx n d (some v):Nat):Int):=by
 show(if v<0 then max (v+(n:Int)) 0 else min v (n:Int))=(((if v<0 then(v+(n:Int)).toNat else min v.toNat n):Nat):Int)
 by_cases hv:v<0
 ·simp only[if_pos hv];omega
 ·simp only[if_neg hv];omega
theorem Fc (lo hi:Option Int) (n:Nat):Builtin.Slice.sliceAdjust lo hi 1 (n:Int)=(((sIx n 0 lo:Nat):Int),((sIx n n hi:Nat):Int)):=by
 have h1:¬((1:Int)<0):=by omega
 unfold Builtin.Slice.sliceAdjust
 simp only[h1,if_false]
 refine Prod.ext ?_ ?_
 ·cases lo with
  |none=>rfl
  |some v=>exact GU v n 0
 ·cases hi with
  |none=>rfl
  |some v=>exact GU v n n
theorem Eo (i j:Nat):Builtin.Slice.slicePlaces (i:Int) (j:Int) 1=j-i:=by
 unfold Builtin.Slice.slicePlaces
 have h1:(1:Int)>0:=by omega
 simp only[h1,if_true,Int.ediv_one]
 split <;> omega
theorem wT {v:Value}{o:Option Int}{Q:Option Int->Shared->Prop} (p:IsPart v o) (h:Q o s):wpAny (model prog w) A (Builtin.Slice.slicePartIndex v) Q E s:=by
 cases p with
 |none=>exact slicePart_none h
 |int i t=>exact slicePart_int h
theorem sF {sl:Addr}{vl vu:Value}{lo hi:Option Int}{n:Nat}{Q:Int×Int×Nat->Shared->Prop} (hs:s.heap.IsSliceOf sl vl vu .none) (pl:IsPart vl lo) (pu:IsPart vu hi)
  (h:Q (((sIx n 0 lo:Nat):Int),1,sIx n n hi-sIx n 0 lo) s):wpAny (model prog w) A (Builtin.Slice.sliceApplied (.ref sl) (pure (n:Int))) Q E s:=by
 obtain⟨os,hos,hcs,hds⟩:=id hs
 unfold Builtin.Slice.sliceApplied Builtin.Slice.sliceFields
 refine wpAny_bind (wpAny_bind (wpAny_field hos hds (x:=vl) rfl (wpAny_bind (wpAny_field hos hds (x:=vu) rfl (wpAny_bind (wpAny_field hos hds (x:=.none) rfl (wpAny_pure ?_)))))))
 refine wpAny_bind (slicePart_none ?_)
 show wpAny _ _ (if((1:Int)==0)=true then _ else _) _ _ s
 rw[if_neg (by decide)]
 refine wpAny_bind (wT pl (wpAny_bind (wT pu (wpAny_bind (wpAny_pure ?_)))))
 show wpAny _ _ (match Builtin.Slice.sliceAdjust lo hi 1 (n:Int) with|(lo,hi)=>pure (lo,(1:Int),Builtin.Slice.slicePlaces lo hi 1)) _ _ s
 rw[Fc lo hi n]
 show wpAny _ _ (pure (((sIx n 0 lo:Nat):Int),(1:Int),Builtin.Slice.slicePlaces ((sIx n 0 lo:Nat):Int) ((sIx n n hi:Nat):Int) 1)) _ _ s
 rw[Eo]
 exact wpAny_pure h
theorem HS (xs:Array Value) (i k:Nat):((List.range k).filterMap fun(m:Nat)=>xs[((i:Int)+(m:Int)*1).toNat]?).toArray=((xs.toList.drop i).take k).toArray:=by
 have e:(fun(m:Nat)=>xs[((i:Int)+(m:Int)*1).toNat]?)=fun m=>xs[i+m]?:=by
  funext m
  have:((i:Int)+(m:Int)*1).toNat=i+m:=by omega
  rw[this]
 rw[e]
 have:=pick_run xs i k
 rw[List.filterMap_map] at this
 have e2:((fun x=>xs[x]?)∘fun x=>i+x)=fun m=>xs[i+m]?:=rfl
 rw[e2] at this
 rw[this]
theorem getItem_tuple_cut {t sl:Addr}{items:Array Value}{vl vu:Value}{lo hi:Option Int}{Q:Value->Shared->Prop} (ht:IsTup s.heap t items) (hs:s.heap.IsSliceOf sl vl vu .none) (pl:IsPart vl lo) (pu:IsPart vu hi)
  (hw:¬(sIx items.size 0 lo=0/\sIx items.size items.size hi=items.size))
  (h:Q (.ref s.heap.objs.size) { s with heap:=s.heap.push { cls:=.type "tuple",data:=.seq ((items.toList.drop (sIx items.size 0 lo)).take (sIx items.size items.size hi-sIx items.size 0 lo)).toArray } })
  (hsz:items.size<=sizeLine):wpAny (model prog w) A (getItem (.ref t) (.ref sl)) Q E s:=by
 have htake:sizeOk (.seq ((items.toList.drop (sIx items.size 0 lo)).take (sIx items.size items.size hi-sIx items.size 0 lo)).toArray):=by
  show((items.toList.drop (sIx items.size 0 lo)).take (sIx items.size items.size hi-sIx items.size 0 lo)).toArray.size<=sizeLine
  rw[List.size_toArray,List.length_take,List.length_drop,Array.length_toList]
  omega
 have hj:sIx items.size items.size hi<=items.size:=Mw _ _ (Nat.le_refl _) hi
 obtain⟨os,hos,hcs,hds⟩:=id hs
 have hTs:s.TypeIs (.ref sl) "slice":=⟨os,hos,hcs⟩
 unfold getItem
 try with_reducible refine wpAny_holding ?_
 first|refine wpAny_bind (wpAny_pure ?_)|skip
 refine wpAny_bind (wpAny_sequenceKey ht.typeIs (by decide) ?_)
 refine wpAny_bind (wpAny_callSpecial?_slot (name:=Str.ofString "__getitem__") ht.typeIs PyProof.Rows.slot_tuple_getitem
  (wpAny_call_entry PyProof.Rows.slot_tuple_getitem ht.typeIs entry_tuple_getitem ?_ (args_tuple_getitem _ _)))
 show wpAny _ _ (Builtin.Tuple.tupleItemsOf (.ref t) >>= _) _ _ s
 refine wpAny_bind (tupleItemsOf_ ht ?_)
 refine wpAny_bind (wpAny_typeOf hTs ?_)
 rw[if_pos (by decide)]
 refine wpAny_bind (sF hs pl pu ?_)
 have hno:¬((((sIx items.size 0 lo:Nat):Int)==0&&(1:Int)==1&&(sIx items.size items.size hi-sIx items.size 0 lo)==items.size)=true):=by
  intro q
  rw[Bool.and_eq_true,Bool.and_eq_true] at q
  have q1:((sIx items.size 0 lo:Nat):Int)=0:=eq_of_beq q.1.1
  have q2:sIx items.size items.size hi-sIx items.size 0 lo=items.size:=eq_of_beq q.2
  exact hw ⟨by omega,by omega⟩
 show wpAny _ _ (if(((sIx items.size 0 lo:Nat):Int)==0&&(1:Int)==1&&(sIx items.size items.size hi-sIx items.size 0 lo)==items.size)=true then _ else _) _ _ s
 rw[if_neg hno,HS]
 first
  |exact wpAny_bind (m:=Builtin.Tuple.tupleExact _) (wpAny_newObj_type (wpAny_pure ⟨_,rfl,wpAny_pure h⟩) htake)
  |exact wpAny_bind (m:=Builtin.Tuple.tupleExact _) (wpAny_newObj_type (wpAny_bind (wpAny_pure (wpAny_pure ⟨_,rfl,wpAny_pure h⟩))) htake)
  |exact wpAny_bind (wpAny_bind (m:=Builtin.Tuple.tupleExact _) (wpAny_newObj_type (wpAny_pure (wpAny_pure ⟨_,rfl,wpAny_pure h⟩)) htake))
  |exact wpAny_bind (wpAny_bind (m:=Builtin.Tuple.tupleExact _) (wpAny_newObj_type (wpAny_pure ⟨_,rfl,wpAny_pure h⟩) htake))
end
end HT
namespace L2
open PySem PySem.Spec PyProof.Rows
abbrev TO:=St->Hp->(Option Int->Hp->Prop)->Prop
def PO (X:Cx) (e:Option Expr) (t:TO):Prop:=
 ∀(pins:List (Addr×Obj)) (s:Shared) (σ:St) (H:Hp) (Q:Option Int->Hp->Prop),Inv X pins σ H s->t σ H Q->
  wpAny (model X.prog X.w) X.A (evalPart e X.env) (fun u s'=>∃ o H',Inv X pins σ H' s'/\IsPart u o/\Q o H') X.xe s
def Kd:TO:=fun _ H Q=>Q none H
def OJ (t:TE):TO:=fun σ H Q=>t σ H fun x H1=>∃ i,x=.int i/\Q (some i) H1
theorem EI {ns:List Int}:∀ {us:List Value},Vals (ns.map V.int) us->IntsAre us ns:=by
 induction ns with
 |nil=>intro us r;rw[List.map_nil] at r;cases r;exact .nil
 |cons n ns ih=>
  intro us r
  rw[List.map_cons] at r
  cases r with
  |cons r1 r2=>
   obtain⟨t,e⟩:=r1
   subst e
   exact .cons n t (ih r2)
section
variable {X:Cx}{e:Expr}{te:TE}{lo hi:Option Expr}{tl th:TO}{pos p2:Pos}
theorem Kv:PO X none Kd:=by
 intro pins s σ H Q I h
 rw[evalPart_none]
 exact wpAny_pure ⟨none,H,I,.none,h⟩
theorem Ku (h:PE X e te):PO X (some e) (OJ te):=by
 intro pins s σ H Q I hw
 rw[evalPart_some]
 refine thn (h pins s σ H _ I hw) fun u s1 ⟨x,H1,I1,r1,q1⟩=> ?_
 obtain⟨i,rfl,q⟩:=q1
 obtain⟨t,rfl⟩:=r1
 exact⟨some i,H1,I1,.int i t,q⟩
def SlR (X:Cx) (r:V->Option Int->Option Int->Hp->VK->Prop):Prop:=
 ∀(pins:List (Addr×Obj)) (s:Shared) (σ:St) (H:Hp) (x:V) (v vl vu:Value) (lo hi:Option Int) (sl:Addr) (Q:VK),Inv X pins σ H s->RelV x v->s.heap.IsSliceOf sl vl vu .none->IsPart vl lo->IsPart vu hi->r x lo hi H Q->
  ∃ T id,typeLookup (.type T) "__getitem__"=pure (some (.builtin id))/\s.TypeIs v T/\wpAny (model X.prog X.w) X.A (getItem v (.ref sl)) (EP X pins σ Q) X.xe s
theorem SlR.or {r r':V->Option Int->Option Int->Hp->VK->Prop} (h:SlR X r) (h':SlR X r'):SlR X (fun x lo hi H Q=>r x lo hi H Q∨r' x lo hi H Q):=by
 intro pins s σ H x v vl vu lo hi sl Q I rx hs pl pu q
 rcases q with q|q
 ·exact h pins s σ H x v vl vu lo hi sl Q I rx hs pl pu q
 ·exact h' pins s σ H x v vl vu lo hi sl Q I rx hs pl pu q
def tSl (r:V->Option Int->Option Int->Hp->VK->Prop) (te:TE) (tl th:TO):TE:=fun σ H Q=>te σ H fun x H1=>tl σ H1 fun l H2=>th σ H2 fun u H3=>r x l u H3 Q
theorem HU {r:V->Option Int->Option Int->Hp->VK->Prop} (hr:SlR X r) (he:PE X e te) (hl:PO X lo tl) (hu:PO X hi th):PE X (.Subscript e (.Slice lo hi none p2) pos) (tSl r te tl th):=by
 intro pins s σ H Q I h
 refine Subscript_ (thn (he pins s σ H _ I h) fun v s1 ⟨x,H1,I1,r1,q1⟩=> ?_)
 refine wpAny_Slice (thn (hl pins s1 σ H1 _ I1 q1) fun vl s2 ⟨l,H2,I2,pl,q2⟩=>thn (hu pins s2 σ H2 _ I2 q2) fun vu s3 ⟨u,H3,I3,pu,q3⟩=> ?_)
 rw[evalPart_none]
 refine wpAny_pure ?_
 have I4:Inv X pins σ H3 { s3 with heap:=s3.heap.push { cls:=.type "slice",data:=.fields #[vl,vu,.none] } }:=I3.kept (t':=s3.toks) fun b ob q=>Heap.get?_push_of_some _ q
 obtain⟨T,id,hT,ht,hg⟩:=hr pins { s3 with heap:=s3.heap.push { cls:=.type "slice",data:=.fields #[vl,vu,.none] } } σ H3 x v vl vu l u s3.heap.objs.size Q I4 r1 (Heap.IsSliceOf.new ..) pl pu q3
 show wpAny (model X.prog X.w) X.A (subscriptTail e (.Slice lo hi none p2) v (.ref s3.heap.objs.size)) (EP X pins σ Q) X.xe { s3 with heap:=s3.heap.push { cls:=.type "slice",data:=.fields #[vl,vu,.none] } }
 exact tail_any (ops:=[.ref s3.heap.objs.size,v]) ht hT hg (by with_unfolding_all rfl)
def JW (xs:List V) (lo hi:Option Int):List V:=(xs.drop (HT.sIx xs.length 0 lo)).take (HT.sIx xs.length xs.length hi-HT.sIx xs.length 0 lo)
theorem vA (xs:List V) (lo hi:Option Int):(JW xs lo hi).length<=xs.length:=by
 unfold JW
 rw[List.length_take,List.length_drop]
 omega
def QB (K:PySem.W.Frag):V->Option Int->Option Int->Hp->VK->Prop:=fun x lo hi H Q=>∃ a xs,x=.ref a/\SqT K H a xs/\
 ¬(HT.sIx xs.length 0 lo=0/\HT.sIx xs.length xs.length hi=xs.length)/\∀ p,H p=none->Q (.ref p) (upd H p (.tup (JW xs lo hi)))
theorem Mu:SlR X (QB X.K):=by
 intro pins s σ H x v vl vu lo hi sl Q I rx hs pl pu h
 obtain⟨a,xs,rfl,hx,hw,q⟩:=h
 cases rx
 obtain⟨its,r,ht,hz⟩:=I.tuple hx
 have hlen:its.toArray.size=xs.length:=by rw[List.size_toArray];exact r.length.symm
 refine⟨"tuple",_,PyProof.Rows.slot_tuple_getitem.lookup,ht.typeIs,?_⟩
 refine HT.getItem_tuple_cut ht hs pl pu (by rw[hlen];exact hw) ?_ (by rw[hlen];exact hz)
 rw[hlen]
 refine⟨.ref s.heap.objs.size,_,I.laid (t':=s.toks) (o:=.tup (JW xs lo hi)) (fun b ob q=>Heap.get?_push_of_some _ q) (Nat.le_refl _) ?_,rfl,q _ (I.hok.fresh (Nat.le_refl _))⟩
 exact⟨Nat.le_trans (vA xs lo hi) hz,_,(r.drop (HT.sIx xs.length 0 lo)).take (HT.sIx xs.length xs.length hi-HT.sIx xs.length 0 lo),IsTup.new _ _⟩
end
end L2
namespace L2
open PySem PySem.Spec PyProof.Rows
def ixN (n:Nat) (i:Int):Option Nat:=if 0<=i then(if i<n then some i.toNat else none) else if -(n:Int)<=i then some (i+n).toNat else none
def atI {α:Type} (xs:List α) (i:Int):Option α:=(ixN xs.length i).bind fun j=>xs[j]?
theorem Gp {n:Nat}{i:Int}{j:Nat} (h:ixN n i=some j):seqIndex? i n=some j/\j<n/\ -(n:Int)<=i/\i<n:=by
 unfold ixN at h
 by_cases h0:0<=i
 ·rw[if_pos h0] at h
  by_cases h1:i<n
  ·rw[if_pos h1] at h
   have e:i.toNat=j:=Option.some.inj h
   exact⟨by rw[seqIndex_of h0 h1,e],by omega,by omega,h1⟩
  ·rw[if_neg h1] at h;cases h
 ·rw[if_neg h0] at h
  by_cases h1: -(n:Int)<=i
  ·rw[if_pos h1] at h
   have e:(i+n).toNat=j:=Option.some.inj h
   exact⟨by rw[seqIndex_neg (by omega) h1,e],by omega,h1,by omega⟩
  ·rw[if_neg h1] at h;cases h
theorem Db {α:Type}{xs:List α}{i:Int}{v:α} (h:atI xs i=some v):∃ j,seqIndex? i xs.length=some j/\xs[j]?=some v/\j<xs.length/\ -(xs.length:Int)<=i/\i<xs.length:=by
 unfold atI at h
 cases e:ixN xs.length i with
 |none=>rw[e] at h;cases h
 |some j=>
  rw[e] at h
  obtain⟨h1,h2,h3,h4⟩:=Gp e
  exact⟨j,h1,h,h2,h3,h4⟩
def Hl (b:Expr):Prop:=∀ o i,subscripted b false o i=operate [o,i] (getItem o i)
def IxR (X:Cx) (r:R2):Prop:=
 ∀(value slice:Expr) (pins:List (Addr×Obj)) (s:Shared) (σ:St) (H:Hp) (x y:V) (v u:Value) (Q:VK),Inv X pins σ H s->RelV x v->RelV y u->r x y H Q->
  subscripted slice false v u=operate [v,u] (getItem v u)->wpAny (model X.prog X.w) X.A (subscriptTail value slice v u) (EP X pins σ Q) X.xe s
def MtR (X:Cx) (id:String) (r:V->List V->Hp->VK->Prop):Prop:=
 ∀(pins:List (Addr×Obj)) (s:Shared) (σ:St) (H:Hp) (x:V) (xs:List V) (v:Value) (us:List Value) (Q:VK),Inv X pins σ H s->RelV x v->Vals xs us->r x xs H Q->
  wpAny (model X.prog X.w) X.A (call (.builtin id) (v::us)) (EP X pins σ Q) X.xe s
section
variable {X:Cx}{a b:Expr}{ta tb:TE}{pos:Pos}
theorem IxR.or {r r':R2} (h:IxR X r) (h':IxR X r'):IxR X (fun x y H Q=>r x y H Q∨r' x y H Q):=by
 intro value slice pins s σ H x y v u Q I rx ry q hs
 rcases q with q|q
 ·exact h value slice pins s σ H x y v u Q I rx ry q hs
 ·exact h' value slice pins s σ H x y v u Q I rx ry q hs
theorem Pf {r:R2} (hr:IxR X r) (ha:PE X a ta) (hb:PE X b tb) (hs:Hl b):PE X (.Subscript a b pos) (tOp r ta tb):=by
 intro pins s σ H Q I h
 exact Subscript_ (PJ ha hb I h fun v u s2 x y H2 I2 rx ry q=>hr a b pins s2 σ H2 x y v u Q I2 rx ry q (hs _ _))
def Qd (K:PySem.W.Frag):R2:=fun x y H Q=>∃ p xs i v,x=.ref p/\y=.int i/\SqL K H p xs/\atI xs i=some v/\Q v H
def Qb (K:PySem.W.Frag):R2:=fun x y H Q=>∃ p xs i v,x=.ref p/\y=.int i/\SqT K H p xs/\atI xs i=some v/\Q v H
def Qc:R2:=fun x y H Q=>∃ z i c,x=.str z/\y=.int i/\z.length<=sizeLine/\atI z.cps.toList i=some c/\Q (.str ⟨#[c]⟩) H
theorem ix_list:IxR X (Qd X.K):=by
 intro value slice pins s σ H x y v u Q I rx ry h hs
 obtain⟨p,xs,i,z,rfl,rfl,hq,he,q⟩:=h
 cases rx
 obtain⟨t,rfl⟩:=ry
 obtain⟨its,r,pl,hz⟩:=I.list hq
 obtain⟨j,h1,h2,h3,h4,h5⟩:=Db he
 obtain⟨w,ew,rw'⟩:=r.get h2
 have hl:=r.length
 have hn:=xG
 have fin:EP X pins σ Q w s:=⟨z,H,I,rw',q⟩
 by_cases h0:0<=i
 ·have hj:i.toNat=j:=by
   rw[seqIndex_of h0 h5] at h1
   exact Option.some.inj h1
  exact item_listR pl.isList h0 (by omega) (by rw[hj];simpa using ew) fin hs
 ·have hj:(i+(its.toArray.size:Int)).toNat=j:=by
   rw[seqIndex_neg (by omega) h4] at h1
   rw[List.size_toArray,<- hl]
   exact Option.some.inj h1
  exact subscriptTail_builtinR (x:=w) pl.isList.typeIs slot_list_getitem.lookup
   (wpAny_getItem_list_neg (Q:=fun r s'=>r=w/\EP X pins σ Q r s') pl.isList (by omega) (by rw[List.size_toArray] <;> omega) (by omega) (by rw[hj];simpa using ew) ⟨rfl,fin⟩) hs
theorem ix_tup:IxR X (Qb X.K):=by
 intro value slice pins s σ H x y v u Q I rx ry h hs
 obtain⟨p,xs,i,z,rfl,rfl,hq,he,q⟩:=h
 cases rx
 obtain⟨t,rfl⟩:=ry
 obtain⟨its,r,pl,hz⟩:=I.tuple hq
 obtain⟨j,h1,h2,h3,h4,h5⟩:=Db he
 obtain⟨w,ew,rw'⟩:=r.get h2
 have hl:=r.length
 have hn:=xG
 have fin:EP X pins σ Q w s:=⟨z,H,I,rw',q⟩
 exact subscriptTail_builtinR (x:=w) pl.typeIs slot_tuple_getitem.lookup
  (getItem_tuple (j:=j) (Q:=fun r s'=>r=w/\EP X pins σ Q r s') pl (by omega) (by omega) (by rw[List.size_toArray,<- hl];exact h1) (by simpa using ew) ⟨rfl,fin⟩) hs
theorem NG:IxR X Qc:=by
 intro value slice pins s σ H x y v u Q I rx ry h hs
 obtain⟨z,i,c,rfl,rfl,hz,he,q⟩:=h
 obtain⟨t,rfl⟩:=rx
 obtain⟨t',rfl⟩:=ry
 obtain⟨j,h1,h2,h3,h4,h5⟩:=Db he
 have hl:z.cps.toList.length=z.length:=by simp[Str.length]
 rw[hl] at h1 h4 h5
 have hn:=xG
 exact tail_any (typeIs_str s z t) slot_str_getitem.lookup (getItem_str (c:=c) (by
  have e1:decide (i< -(2 ^ 63:Int))=false:=decide_eq_false (by omega)
  have e2:decide (i≥2 ^ 63)=false:=decide_eq_false (by omega)
  rw[e1,e2,Bool.or_false]) (by rw[h1];simpa using h2) ⟨.str ⟨#[c]⟩,H,I.tok _,⟨_,rfl⟩,q⟩) hs
def rIx (K:PySem.W.Frag):R2:=fun x y H Q=>Qd K x y H Q∨Qb K x y H Q∨Qc x y H Q
theorem NH:IxR X (rIx X.K):=ix_list.or (ix_tup.or NG)
theorem Ev (its:List Value) (n j:Nat) (u:Value):Obj.mapSeq (·.setIfInBounds j u) { cls:=.type "list",data:=.seq its.toArray n }={ cls:=.type "list",data:=.seq (its.set j u).toArray n }:=by
 simp[Obj.mapSeq]
theorem Inv.lst {pins:List (Addr×Obj)}{σ:St}{H:Hp}{s:Shared}{p:Addr}{xs:List V} (I:Inv X pins σ H s) (h:H p=some (.lst xs)):
  ∃(its:List Value) (n:Nat),Vals xs its/\s.heap.get? p=some { cls:=.type "list",data:=.seq its.toArray n }/\xs.length<=sizeLine:=by
 obtain⟨z,its,n,r,e⟩:=I.hok p _ h
 exact⟨its,n,r,e,z⟩
theorem Inv.lstUpd {pins:List (Addr×Obj)}{σ:St}{H:Hp}{s:Shared}{p:Addr}{xs ys:List V}{its its':List Value}{n n':Nat}{f:Obj->Obj} (I:Inv X pins σ H s) (h:H p=some (.lst xs))
  (ho:s.heap.get? p=some { cls:=.type "list",data:=.seq its.toArray n }) (hf:f { cls:=.type "list",data:=.seq its.toArray n }={ cls:=.type "list",data:=.seq its'.toArray n' }) (r:Vals ys its') (hz:ys.length<=sizeLine) (t:Nat):
  Inv X pins σ (upd H p (.lst ys)) { s with heap:=s.heap.update p f,toks:=t }:=by
 have e:(s.heap.update p f).get? p=some { cls:=.type "list",data:=.seq its'.toArray n' }:=by
  rw[Heap.get?_update_self f ho (by rw[hf] <;> rfl),hf]
 refine I.write (x:=p) (e:=p) (by rw[h];trivial) (.inl rfl) (fun b u hb q=>(Heap.get?_update_other _ _ (Ne.symm hb)).trans q) ⟨_,e⟩ ?_
 exact⟨hz,its',n',r,e⟩
def ME:V->V->V->Hp->(Hp->Prop)->Prop:=fun o i v H Q=>∃ p xs k j,o=.ref p/\i=.int k/\H p=some (.lst xs)/\ixN xs.length k=some j/\Q (upd H p (.lst (xs.set j v)))
theorem yM:Qk X ME:=by
 intro pins s σ H o i v ov iv u Q I ro ri rv h
 obtain⟨p,xs,k,j,rfl,rfl,hp,hj,q⟩:=h
 cases ro
 obtain⟨t,rfl⟩:=ri
 obtain⟨its,n,r,ho,hz⟩:=I.lst hp
 obtain⟨h1,h2,h3,h4⟩:=Gp hj
 have hl:=r.length
 have hn:=xG
 have I':Inv X pins σ (upd H p (.lst (xs.set j v))) { s with heap:=s.heap.update p (Obj.mapSeq (·.setIfInBounds j u)) }:=
  I.lstUpd hp ho (Ev its n j u) (r.set rv j) (by rw[List.length_set];exact hz) s.toks
 by_cases h0:0<=k
 ·have hk:k.toNat=j:=by
   rw[seqIndex_of h0 h4] at h1
   exact Option.some.inj h1
  exact PySem.W.ki_setAt ho h0 (by omega) (by rw[List.size_toArray,<- hl];exact h4) (by rw[hk];exact⟨_,I',q⟩)
 ·have hk:(k+(its.toArray.size:Int)).toNat=j:=by
   rw[seqIndex_neg (by omega) h3] at h1
   rw[List.size_toArray,<- hl]
   exact Option.some.inj h1
  exact PySem.W.ki_setBack ho (by omega) (by rw[List.size_toArray,<- hl];exact h3) (by omega) (by rw[hk];exact⟨_,I',q⟩)
theorem At (lo hi:Option Int) (n:Nat):(sliceBounds lo hi none n).1=((HT.sIx n 0 lo:Nat):Int)/\(sliceBounds lo hi none n).2.1=((HT.sIx n n hi:Nat):Int)/\(sliceBounds lo hi none n).2.2=1:=by
 refine⟨?_,?_,rfl⟩
 ·cases lo with
  |none=>simp[sliceBounds,HT.sIx]
  |some i=>
   simp only[sliceBounds,HT.sIx,Option.getD_none,show(1:Int)>0 by decide,if_true]
   by_cases h:i<0
   ·simp only[h,if_true] <;> omega
   ·simp only[h,if_false] <;> omega
 ·cases hi with
  |none=>simp[sliceBounds,HT.sIx]
  |some i=>
   simp only[sliceBounds,HT.sIx,Option.getD_none,show(1:Int)>0 by decide,if_true]
   by_cases h:i<0
   ·simp only[h,if_true] <;> omega
   ·simp only[h,if_false] <;> omega
theorem yL (its:List Value) (lo hi:Option Int):slicePick its.toArray lo hi none=((its.drop (HT.sIx its.length 0 lo)).take (HT.sIx its.length its.length hi-HT.sIx its.length 0 lo)).toArray:=by
 obtain⟨h1,h2,h3⟩:=At lo hi its.toArray.size
 unfold slicePick
 rw[h1,h2,h3]
 simp only[sliceRange_one,pick_run,List.size_toArray] <;> rfl
def QC (K:PySem.W.Frag):V->Option Int->Option Int->Hp->VK->Prop:=fun x lo hi H Q=>∃ a xs,x=.ref a/\SqL K H a xs/\∀ p,H p=none->Q (.ref p) (upd H p (.lst (JW xs lo hi)))
theorem sl_list:SlR X (QC X.K):=by
 intro pins s σ H x v vl vu lo hi sl Q I rx hs pl pu h
 obtain⟨a,xs,rfl,hx,q⟩:=h
 cases rx
 obtain⟨its,r,ht,hz⟩:=I.list hx
 have hlen:=r.length
 refine⟨"list",_,slot_list_getitem.lookup,ht.isList.typeIs,?_⟩
 refine wpAny_getItem_list_slice ht.isList hs pl pu .none (by simp) ?_ (by rw[List.size_toArray] <;> omega)
 rw[yL,<- hlen]
 refine⟨.ref s.heap.objs.size,_,I.laid (t':=s.toks) (o:=.lst (JW xs lo hi)) (fun b ob q=>Heap.get?_push_of_some _ q) (Nat.le_refl _) ?_,rfl,q _ (I.hok.fresh (Nat.le_refl _))⟩
 exact⟨Nat.le_trans (vA xs lo hi) hz,_,0,(r.drop (HT.sIx xs.length 0 lo)).take (HT.sIx xs.length xs.length hi-HT.sIx xs.length 0 lo),Heap.get?_push_size _ rfl⟩
theorem CallR.or {f:Value}{r r':List V->Hp->VK->Prop} (h:CallR X f r) (h':CallR X f r'):CallR X f (fun xs H Q=>r xs H Q∨r' xs H Q):=by
 intro pins s σ H xs us Q I rs q
 rcases q with q|q
 ·exact h pins s σ H xs us Q I rs q
 ·exact h' pins s σ H xs us Q I rs q
theorem dR:CallR X (.type "list") (fun xs H Q=>∃ p ys,xs=[.ref p]/\(SqL X.K H p ys∨SqT X.K H p ys)/\∀ l,H l=none->Q (.ref l) (upd H l (.lst ys))):=by
 intro pins s σ H xs us Q I r h
 obtain⟨p,ys,rfl,hq,q⟩:=h
 obtain⟨u,rfl,rx⟩:=sD r
 cases rx
 have fin:∀(its:List Value),Vals ys its->ys.length<=sizeLine->∀(h':Heap) (c':Nat),(∀ b o',s.heap.get? b=some o'->h'.get? b=some o')->
   h'.get? s.heap.objs.size=some { cls:=.type "list",dict:=none,data:=.seq its.toArray c',slots:= #[] }->EP X pins σ Q (.ref s.heap.objs.size) { s with heap:=h' }:=fun its r' hz h' c' kp e=>
  ⟨.ref s.heap.objs.size,_,I.laid (t':=s.toks) kp (Nat.le_refl _) (show ObjOk X.prog X.w _ h' _ (.lst ys) from⟨hz,its,c',r',e⟩),rfl,q _ (I.hok.fresh (Nat.le_refl _))⟩
 rcases hq with hq|hq
 ·obtain⟨its,r',pl,hz⟩:=I.list hq
  have hlen:=r'.length
  obtain⟨o,ho,hc,n,hd⟩:=pl.isList
  exact call_list_seq p (.inl rfl) ho hc hd (fun h' c' kp e=>fin its r' hz h' c' kp e) (by simp only[List.size_toArray] <;> omega)
 ·obtain⟨its,r',pl,hz⟩:=I.tuple hq
  have hlen:=r'.length
  obtain⟨o,ho,hc,n,hd⟩:=pl
  exact call_list_seq p (.inr rfl) ho hc hd (fun h' c' kp e=>fin its r' hz h' c' kp e) (by simp only[List.size_toArray] <;> omega)
theorem zT:CallR X (.type "tuple") (fun xs H Q=>∃ p ys,xs=[.ref p]/\((SqL X.K H p ys/\∀ l,H l=none->Q (.ref l) (upd H l (.tup ys)))∨(SqT X.K H p ys/\Q (.ref p) H))):=by
 intro pins s σ H xs us Q I r h
 obtain⟨p,ys,rfl,h⟩:=h
 obtain⟨u,rfl,rx⟩:=sD r
 cases rx
 rcases h with⟨hq,q⟩|⟨hq,q⟩
 ·obtain⟨its,r',pl,hz⟩:=I.list hq
  have hlen:=r'.length
  refine call_tuple_list pl.isList (fun h' kp=> ?_) (by simp only[List.size_toArray] <;> omega)
  have I1:Inv X pins σ H { s with heap:=h' }:=I.kept (t':=s.toks) kp
  have I2:Inv X pins σ (upd H h'.objs.size (.tup ys)) { s with heap:=h'.push { cls:=.type "tuple",data:=.seq its.toArray } }:=
   I1.laid (t':=s.toks) (fun b o e=>Heap.get?_push_of_some _ e) (Nat.le_refl _) (show ObjOk X.prog X.w _ _ _ (.tup ys) from⟨hz,its,r',IsTup.new _ _⟩)
  exact⟨.ref h'.objs.size,_,I2,rfl,q _ (I1.hok.fresh (Nat.le_refl _))⟩
 ·obtain⟨its,r',pl,hz⟩:=I.tuple hq
  exact call_tuple_same pl ⟨.ref p,H,I,rfl,q⟩
def tyV (K:PySem.W.Frag) (T:String) (x:V) (H:Hp):Prop:=match x with
 |.str _=>T="str"
 |.int _=>T="int"
 |.ref p=>(T="list"/\∃ xs,SqL K H p xs)∨(T="tuple"/\∃ o,K.lookup p=some o/\o.cls=.type "tuple"/\o.dict=none)∨
   (T="dict"/\((∃ kvs,H p=some (.dK kvs))∨∃ kvs,H p=some (.dT kvs)))∨(T="set"/\∃ S n,H p=some (.set S n))
 |_=>False
theorem Jt {pins:List (Addr×Obj)}{σ:St}{H:Hp}{s:Shared}{T:String}{x:V}{v:Value} (I:Inv X pins σ H s) (r:RelV x v) (ty:tyV X.K T x H):
  s.TypeIs v T/\∀ a,v=.ref a->∃ ob,s.heap.get? a=some ob/\ob.dict=none:=by
 cases x with
 |str z=>
  obtain⟨t,rfl⟩:=r
  cases (show T="str" from ty)
  exact⟨typeIs_str s z t,fun _ e=>nomatch e⟩
 |int i=>
  obtain⟨t,rfl⟩:=r
  cases (show T="int" from ty)
  exact⟨typeIs_int s i t,fun _ e=>nomatch e⟩
 |ref p=>
  cases r
  rcases ty with⟨rfl,xs,hq⟩|⟨rfl,o,hk,hc,hd⟩|⟨rfl,hk⟩|⟨rfl,S,n,hk⟩
  ·obtain⟨its,_,pl,_⟩:=I.list hq
   refine⟨pl.isList.typeIs,fun a e=> ?_⟩
   cases e
   obtain⟨o,n,e,c,hd,_⟩:=pl
   exact⟨o,e,hd⟩
  ·refine⟨⟨o,I.kIn p o hk,hc⟩,fun a e=> ?_⟩
   cases e
   exact⟨o,I.kIn _ o hk,hd⟩
  ·have z:∃ o,s.heap.get? p=some o/\o.ExactDict:=by
    rcases hk with⟨kvs,hk⟩|⟨kvs,hk⟩
    ·obtain⟨_,_,_,_,o,_,_,e,ex,_⟩:=I.hok p _ hk
     exact⟨o,e,ex⟩
    ·obtain⟨_,_,_,_,o,_,_,e,ex,_⟩:=I.hok p _ hk
     exact⟨o,e,ex⟩
   obtain⟨o,e,ex⟩:=z
   refine⟨⟨o,e,ex.1⟩,fun a e2=> ?_⟩
   cases e2
   exact⟨o,e,ex.2.1⟩
  ·obtain⟨o,_,_,_,e,ex,_⟩:=I.hok p _ hk
   refine⟨⟨o,e,ex.1⟩,fun a e2=> ?_⟩
   cases e2
   exact⟨o,e,ex.2.1⟩
 |_=>exact False.elim ty
def Qx (K:PySem.W.Frag) (T:String) (r:V->List V->Hp->VK->Prop) (to:TE):TE:=fun σ H Q=>to σ H fun x H1=>tyV K T x H1/\r x [] H1 Q
def tBM (K:PySem.W.Frag) (T:String) (r:V->List V->Hp->VK->Prop) (to:TE) (t:TA):TE:=fun σ H Q=>to σ H fun x H1=>tyV K T x H1/\t σ H1 fun xs H2=>r x xs H2 Q
variable {o e:Expr}{es:List Expr}{to:TE}{t:TA}{name:Str}{apos cpos:Pos}{T id:String}{r:V->List V->Hp->VK->Prop}
theorem MX (pa:PlainAttrs T) (slot:Slot T name id) (hty:typeOf (.builtin id)=pure (.type "method_descriptor")) (hm:MtR X id r) (ho:PE X o to)
  (hbase:attributeBase o name X.env (eval o X.env)=eval o X.env:=by rfl) (hline:(apos.endLine==cpos.line)=true:=by rfl):PE X (.Call (.Attribute o name apos) [] [] cpos) (Qx X.K T r to):=by
 intro pins s σ H Q I h
 refine wpAny_Call_method0_late hbase hline (thn (ho pins s σ H _ I h) fun v s1 ⟨x,H1,I1,r1,ty,q1⟩=> ?_)
 obtain⟨h1,h2⟩:=Jt I1 r1 ty
 exact⟨T,id,pa,slot,hty,h1,h2,Calls.callWith_builtin rfl (PySem.evalArgs_none (hm pins s1 σ H1 x [] v [] Q I1 r1 .nil q1))⟩
theorem MY (pa:PlainAttrs T) (slot:Slot T name id) (hty:typeOf (.builtin id)=pure (.type "method_descriptor")) (hm:MtR X id r) (ho:PE X o to) (ha:PA X (e::es) t)
  (hbase:attributeBase o name X.env (eval o X.env)=eval o X.env:=by rfl)
  (hfew:((backTo cpos (starEach (e::es) X.env)).all (fun x=> !x.1)&&(backToKw cpos (keywordEach [] X.env)).all (fun x=>x.1.isSome)
   &&decide ((e::es).length+([]:List Keyword).length+(if([]:List Keyword).isEmpty then 0 else 1)<30))=true:=by rfl)
  (hline:(apos.endLine==cpos.line)=true:=by rfl) (hs:starEach (e::es) X.env=(false,eval e X.env)::starEach es X.env:=by rfl) (hplain:(backTo cpos (starEach es X.env)).any (·.1)=false:=by rfl):
  PE X (.Call (.Attribute o name apos) (e::es) [] cpos) (tBM X.K T r to t):=by
 intro pins s σ H Q I h
 refine wpAny_Call_method_late hbase hfew hline rfl (thn (ho pins s σ H _ I h) fun v s1 ⟨x,H1,I1,r1,ty,q1⟩=> ?_)
 obtain⟨h1,h2⟩:=Jt I1 r1 ty
 refine⟨T,id,pa,slot,hty,h1,h2,?_⟩
 have hA:=ha cpos pins s1 σ H1 _ I1 q1
 rw[hs] at hA ⊢
 refine Calls.callWith_builtin (by show(false||(backTo cpos (starEach es X.env)).any (·.1))=false;rw[hplain] <;> rfl) (Calls.evalArgs_plain ?_)
 exact thn hA fun us s2 ⟨vs,H2,I2,r2,q2⟩=>hm pins s2 σ H2 x vs v us Q I2 r1 r2 q2
end
end L2
namespace L2
open PySem PySem.Spec PyProof.Rows
def MtM (X:Cx) (id:String) (r:V->List V->Hp->VK->Prop):Prop:=
 ∀(pins:List (Addr×Obj)) (s:Shared) (σ:St) (H:Hp) (x:V) (xs:List V) (v:Value) (us:List Value) (Q:VK),Inv X pins σ H s->RelV x v->Vals xs us->r x xs H Q->
  wpAny (model X.prog X.w) X.A (call (.builtin id) (v::us)) (EP X pins σ Q) X.xe s
theorem Vals.one:∀ {x:V}{us:List Value},Vals [x] us->∃ u,us=[u]/\RelV x u
 |_,_,.cons r .nil=>⟨_,rfl,r⟩
theorem Vals.rep {xs:List V}{us:List Value} (h:Vals xs us):∀ k:Nat,Vals (List.replicate k xs).flatten (List.replicate k us).flatten
 |0=>.nil
 |k+1=>by
  rw[List.replicate_succ,List.replicate_succ,List.flatten_cons,List.flatten_cons]
  exact Vals.append h (Vals.rep h k)
theorem Bh (its:List Value):∀(k:Nat) (acc:List Value),
  List.foldl (fun x1 x2=>x1++x2) acc.toArray (List.replicate k its.toArray)=(acc++(List.replicate k its).flatten).toArray
 |0,acc=>by simp
 |k+1,acc=>by
  have e:acc.toArray++its.toArray=(acc++its).toArray:=by simp
  have e2:(acc++its)++(List.replicate k its).flatten=acc++(List.replicate (k+1) its).flatten:=by
   rw[List.replicate_succ,List.flatten_cons,List.append_assoc]
  rw[<- e2,<- Bh its k (acc++its),<- e,List.replicate_succ,List.foldl_cons]
section
variable {X:Cx}{pins:List (Addr×Obj)}{σ:St}{H:Hp}{s:Shared}{l b:Addr}{xs ys zs:List V}
theorem Inv.lset {its its':List Value}{n:Nat}{f:Array Value->Array Value}{t':Nat} (I:Inv X pins σ H s) (hH:H l=some (.lst xs))
  (e:s.heap.get? l=some { cls:=.type "list",data:=.seq its.toArray n }) (hf:f its.toArray=its'.toArray) (hv:Vals ys its') (hz:ys.length<=sizeLine):
  Inv X pins σ (upd H l (.lst ys)) { s with heap:=s.heap.update l (Obj.mapSeq f),toks:=t' }:=by
 have q:=PySem.IsL.update e f
 rw[hf] at q
 refine I.write (x:=l) (e:=l) (by rw[hH];exact trivial) (.inl rfl) (fun b' u hb hu=>(Heap.get?_update_other s.heap (Obj.mapSeq f) (Ne.symm hb)).trans hu) ⟨_,q⟩ ?_
 exact⟨hz,its',_,hv,q⟩
theorem Inv.lnew {its:List Value}{t':Nat} (I:Inv X pins σ H s) (hv:Vals ys its) (hz:ys.length<=sizeLine):
  Inv X pins σ (upd H s.heap.objs.size (.lst ys)) { s with heap:=s.heap.push { cls:=.type "list",data:=.seq its.toArray },toks:=t' }:=
 I.laid (fun _ _ q=>Heap.get?_push_of_some _ q) (Nat.le_refl _) ⟨hz,its,0,hv,Heap.get?_push_size _ rfl⟩
theorem Inv.fresh (I:Inv X pins σ H s):H s.heap.objs.size=none:=I.hok.fresh (Nat.le_refl _)
theorem Inv.lstM (I:Inv X pins σ H s) (hH:H l=some (.lst xs)):xs.length<=sizeLine/\∃(its:List Value) (n:Nat),Vals xs its/\xs.length=its.length/\s.heap.get? l=some { cls:=.type "list",data:=.seq its.toArray n }:=by
 obtain⟨z,its,n,r,e⟩:=I.hok l _ hH
 exact⟨z,its,n,r,r.length,e⟩
theorem Ig {n:Nat} (h:n<=sizeLine):Builtin.List.listTooLong n=false:=by
 unfold Builtin.List.listTooLong
 exact decide_eq_false (by omega)
end
section
variable {X:Cx}
def FG:V->List V->Hp->VK->Prop:=fun x vs H Q=>∃ l xs y,x=.ref l/\vs=[y]/\H l=some (.lst xs)/\xs.length<sizeLine/\Q .non (upd H l (.lst (xs++[y])))
theorem AN:MtM X "list.append" FG:=by
 intro pins s σ H x vs v us Q I rx rv h
 obtain⟨l,xs,y,rfl,rfl,hH,hz,q⟩:=h
 cases rx
 obtain⟨u,rfl,ru⟩:=rv.one
 obtain⟨z,its,n,r,hl,e⟩:=I.lstM hH
 refine call_meets F.slot_list_append ⟨_,e,rfl⟩ F.entry_list_append (F.args_list_append_2 _ _) (PySem.list_append l its.toArray n u (by rw[List.size_toArray];omega)) ⟨e,?_⟩
 refine⟨.non,_,I.lset (its':=its++[u]) hH e (by simp) (r.append (.cons ru .nil)) ?_,rfl,q⟩
 rw[List.length_append,List.length_singleton]
 omega
def QF:R2:=fun x y H Q=>∃ l b xs zs,x=.ref l/\y=.ref b/\H l=some (.lst xs)/\H b=some (.lst zs)/\xs.length+zs.length<=sizeLine/\∀ p,H p=none->Q (.ref p) (upd H p (.lst (xs++zs)))
theorem No:OpR X (binaryOp .Add) QF:=by
 intro pins s σ H x y v u Q I rx ry h
 obtain⟨l,b,xs,zs,rfl,rfl,hH,hB,hz,q⟩:=h
 cases rx
 cases ry
 obtain⟨z,its,n,r,hl,e⟩:=I.lstM hH
 obtain⟨z2,its2,n2,r2,hl2,e2⟩:=I.lstM hB
 refine PySem.P.add_list e e2 ?_ (by rw[List.size_toArray,List.size_toArray];omega)
 have ea:its.toArray++its2.toArray=(its++its2).toArray:=by simp
 rw[ea]
 exact⟨.ref _,_,I.lnew (t':=s.toks) (r.append r2) (by rw[List.length_append];omega),rfl,q _ I.fresh⟩
def QD:R2:=fun x y H Q=>∃ l k xs,x=.ref l/\y=.int k/\H l=some (.lst xs)/\ -(2 ^ 63)<=k/\k<2 ^ 63/\xs.length*k.toNat<=sizeLine/\
 ∀ p,H p=none->Q (.ref p) (upd H p (.lst (List.replicate k.toNat xs).flatten))
theorem Lf {α:Type} (xs:List α) (k:Nat):(List.replicate k xs).flatten.length=k*xs.length:=by
 induction k with
 |zero=>simp
 |succ k ih=>rw[List.replicate_succ,List.flatten_cons,List.length_append,ih,Nat.succ_mul,Nat.add_comm]
theorem Ng:OpR X (binaryOp .Mult) QD:=by
 intro pins s σ H x y v u Q I rx ry h
 obtain⟨l,k,xs,rfl,rfl,hH,h1,h2,hz,q⟩:=h
 cases rx
 obtain⟨t,rfl⟩:=ry
 obtain⟨z,its,n,r,hl,e⟩:=I.lstM hH
 have hlen:its.toArray.size*k.toNat<=sizeLine:=by rw[List.size_toArray,<- hl];exact hz
 have hcap:¬ its.toArray.size*k.toNat>(2 ^ 63-1) / 8:=by
  have:(sizeLine:Nat)<=(2 ^ 63-1) / 8:=by decide
  omega
 have hfit:¬(!Builtin.List.listFitsIndex k)=true:=by
  rw[fitsIndex_both h1 h2]
  exact Bool.false_ne_true
 have hlong:¬ Builtin.List.listTooLong (its.toArray.size*k.toNat)=true:=by
  rw[Ig hlen]
  exact Bool.false_ne_true
 have hnew:List.foldl (fun x1 x2=>x1++x2) #[] (List.replicate (if its.toArray.isEmpty=true then 0 else k.toNat) its.toArray)=(List.replicate k.toNat its).flatten.toArray:=by
  have f0:∀ m:Nat,List.foldl (fun x1 x2=>x1++x2) #[] (List.replicate m its.toArray)=(List.replicate m its).flatten.toArray:=fun m=>by
   have:=Bh its m []
   rw[List.nil_append] at this
   exact this
  rw[f0]
  cases its with
  |nil=>simp
  |cons a r'=>rw[if_neg (by simp)]
 refine wpAny_binaryOp_repeat_ref (T:="list") (U:="int") (by decide) ⟨_,e,rfl⟩ (fun s'=>typeIs_int s' k t) noFill_list_mul F.fills_int_mul F.slot_int_rmul repeat_list F.slot_int_index.lookup
  (call_meets F.slot_int_rmul (typeIs_int s k t) F.entry_int_rmul (F.args_int_rmul_2 _ _) (int___rmul___int_list k t l its.toArray n)
   ⟨e,rfl,⟨_,e,rfl⟩,call_meets F.slot_list_mul ⟨_,e,rfl⟩ F.entry_list_mul (F.args_list_mul_2 _ _) (AutoListH.list___mul___list_int_3 l its.toArray n k t hfit hcap hlong) ⟨e,?_⟩⟩)
 rw[hnew]
 exact⟨.ref _,_,I.lnew (t':=s.toks) (r.rep k.toNat) (by rw[Lf,Nat.mul_comm];exact hz),rfl,q _ I.fresh⟩
end
section
variable {prog:Program}{w:World}{A:Around}{E:Value->Shared->Prop}{s:Shared}
set_option maxRecDepth 100000 in
end
section
variable {X:Cx}
end
end L2
namespace Att
open PySem PySem.W PySem.Calls PyProof.Rows
theorem uI {P:Params}{h:Heap}:∀(ns:List Int) (vs:List Value),WellAll P h vs (ns.map WData.int)->IntsAre vs ns:=by
 intro ns
 induction ns with
 |nil=>
  intro vs w
  rw[List.map_nil] at w
  cases w
  exact .nil
 |cons n ns ih=>
  intro vs w
  rw[List.map_cons] at w
  cases w with
  |cons a b=>
   cases a
   exact .cons _ _ (ih _ b)
theorem Fx {l:OpenLaw}{n:Nat} (hn:l.most=some n) {P:Params}{h:Heap}{args:List WData}{vals:List Value}
  (hpre:l.row.toRowW.claim.pre args=true) (hwl:WellAll P h vals args):
  ∃ a vs ns,vals=[Value.ref a]/\args=[WData.list (ns.map WData.int)]/\h.get? a=some { cls:=.type "list",data:=.seq vs.toArray }/\IntsAre vs ns/\ns.length<=n:=by
 have hsh:WShape.hasAll [] args [.list .int]=true:=(pre_splitW hpre).1
 have hc:l.pre.holds [] { args:=args }=true:=(pre_splitW hpre).2
 obtain⟨d,r,rfl,h1,h2⟩:=hasAllW_cons hsh
 obtain rfl:=hasAllW_nil h2
 obtain⟨xs,rfl,h3⟩:=hasW_list h1
 obtain⟨ns,rfl⟩:=items_int h3
 have hlen:ns.length<=n:=by
  unfold OpenLaw.pre at hc
  have h4:(WTm.not (.lt (.lit (.int (n:Int))) (.len (.arg 0)))).holds [] { args:=[.list (ns.map .int)] }=true:=by
   have h4:=(holds_andW hc).1
   rw[hn] at h4
   exact h4
  have h5:=condW_of h4 (w_not (w_lt w_lit (w_len_list (w_arg rfl))))
  rw[List.length_map] at h5
  refine Nat.le_of_not_lt fun q=> ?_
  have q':(n:Int)<((ns.length:Nat):Int):=by omega
  first
   |(rw[decide_eq_true q'] at h5;exact absurd h5 (by decide))
   |(simp at h5;omega)
 cases hwl with
 |cons w1 w2=>
  cases w2
  cases w1 with
  |list ho hall=>exact⟨_,_,ns,rfl,rfl,ho,uI ns _ hall,hlen⟩
theorem FH (l:OpenLaw) (args:List WData):l.row.toRowW.claim.post args (.bool true) args=true:=
 postW_of (r:=l.row.toRowW) (X:=(true==true))
  (show WShape.has [] (.bool true) .bool=true by first|rfl|decide|simp[WShape.has,WShape.arms,WShape.armsAll])
  (show(WTm.eq .res (.lit (.bool true))).value [] { args:=args,res:=some (.bool true),after:=args }=some (.bool (true==true)) from w_eq_bool (w_res rfl) w_lit) rfl
theorem attach_call {l:OpenLaw}{n:Nat}{q:Program}{loose:List Str}{XP:(Str->Option Value)->Heap->Prop}{YP:World->Heap->Prop}{d:DefRec}
  (hn:l.most=some n) (hdf:d.params.defaults=[])
  (call:∀(w:World) (s₀ s₁:Shared) (mg mb:Str->Option Value) (fa:Addr) (o:Obj) (pm cd doc:Value) (a:Addr) (vs:List Value) (ns:List Int),
   Ground q loose [] XP w s₀ mg mb s₁.heap->YP w s₁.heap->
   s₁.heap.get? fa=some o->o.data=.func (docDef d.name d.params d.body d.scope pm cd doc)->s₁.heap.CodeRec cd d.name->mg d.name=some (.ref fa)->
   s₁.heap.get? a=some { cls:=.type "list",data:=.seq vs.toArray }->IntsAre vs ns->ns.length<=n->s₁.gens= #[]->
   codeAny (model l.prog w) callerA (.call (.ref fa) ⟨[.ref a],[]⟩) (fun r s'=>r=.ok (.ret (.bool true))/\OldK s₁.heap s'.heap/\s'.os=s₁.os/\AllBare s'.gens) s₁):
  WalkO q loose XP YP l.row.toRowW d [] (fun f vs=>PySem.call f vs):=by
 intro w s₀ s₁ mg mb G Y fa o pm cd doc dV kV ho hd hcd hD hmg hg args vals as hpre hlay hrd hwl hlo
 obtain rfl:dV=.none:=Dflts.none hD hdf
 obtain rfl:kV=.none:=Dflts.noKw hD
 obtain⟨a,vs,ns,rfl,rfl,hobj,hints,hlen⟩:=Fx hn hpre hwl
 refine enter_call (codeAny_mono (call w s₀ s₁ mg mb fa o pm cd doc a vs ns G Y ho (fd_plain hd) hcd hmg hobj hints hlen hg) fun r s' hq=> ?_)
 obtain⟨rfl,h2,h3,h4⟩:=hq
 exact⟨.inl ⟨.bool true,.bool true,[],rfl,fun _=>rfl,.bool true,FH l _,fun _=>⟨List.Pairwise.nil,fun _ hm=>(nomatch hm)⟩⟩,h2,h3,h4⟩
section
variable {prog:Program}{w:World}{A:Around}{E:Value->Shared->Prop}{s:Shared}{K:Frag}
end
end Att
namespace L2
open PySem PySem.Spec PyProof.Rows
theorem Ah:∀ {vs:List Value}{ns:List Int},IntsAre vs ns->Vals (ns.map V.int) vs
 |_,_,.nil=>.nil
 |_,_,.cons n t h=>.cons ⟨t,rfl⟩ (Ah h)
def PN (H:Hp):Prop:=∀ b,H b=none∨∃ o xs,H b=some (.frz o (.lst xs))
theorem Iq {P:Program}{w:World}{K:PySem.W.Frag}{mg mb:Str->Option Value}{CX:CXT}{k:Nat}{fa a:Addr}{fd:FuncData}{x:Str}{sp:Sp}{s₁:Shared}{vs:List Value}{ns:List Int}
  (KX:K.In s₁.heap) (hns:s₁.heap.Ns mainGlobals mg) (hb:s₁.heap.Ns builtinsNs mb) (hbb:∀ x:Str,x≠"__name__"->mb x=bootBuiltins x) (hlim:s₁.heap.NoLimit) (hg:s₁.gens= #[])
  (ha:s₁.heap.get? a=some { cls:=.type "list",data:=.seq vs.toArray }) (hi:IntsAre vs ns) (hl:ns.length<=sizeLine) (hr:Room k callerA)
  (F:∀ base:Heap,K.In base->base.Ns mainGlobals mg->wQ P w K mg base CX k fa fd [x] sp) (hbind:∀(s:Shared) (u:Value),BindsTo s fd ⟨[u],[]⟩ [(x,u)])
  (hsp:∀ H:Hp,PN H->SqL K H a (ns.map V.int)->sp [.ref a] H (fun v _=>v=.bl true) fun _ _ _=>False)
  (hCX:∀ H e s',CX [] H s₁ (fun _ _ _=>False) e s'->False):
  codeAny (model P w) callerA (.call (.ref fa) ⟨[.ref a],[]⟩) (fun r s'=>r=.ok (.ret (.bool true))/\OldK s₁.heap s'.heap/\s'.os=s₁.os/\AllBare s'.gens) s₁:=by
 have rv:=Ah hi
 have lenV:=hi.length
 -- from an abstract heap in which nothing but the script may be tracked
 have core:∀ H:Hp,PN H->SqL K H a (ns.map V.int)->HOk P w H s₁.heap->(∀ b,H b≠none->b=a)->(H a≠none->K.lookup a=none)->
   codeAny (model P w) callerA (.call (.ref fa) ⟨[.ref a],[]⟩) (fun r s'=>r=.ok (.ret (.bool true))/\OldK s₁.heap s'.heap/\s'.os=s₁.os/\AllBare s'.gens) s₁:=by
  intro H hO hS hok hA hK
  have base_of:∀ {b:Addr}{o:Obj},s₁.heap.get? b=some o->H b=none->(ID s₁.heap H).get? b=some o:=fun e n=>IC e n
  have noA:∀ {b:Addr}{o:Obj}{es:Array DictEntry}{ep:Nat},s₁.heap.get? b=some o->o.data=.dict es ep->H b=none:=fun {b o es ep} e d=>by
   cases q:H b with
   |none=>rfl
   |some u=>
    have e':b=a:=hA b (by rw[q];simp)
    subst e'
    rw[ha] at e;cases e
    have d':Data.seq vs.toArray _=Data.dict es ep:=d
    cases d'
  have nsK:∀ {b:Addr}{m:Str->Option Value},s₁.heap.Ns b m->(ID s₁.heap H).Ns b m:=fun {b m} ⟨o,es,ep,e,d,r⟩=>⟨o,es,ep,base_of e (noA e d),d,r⟩
  have hKb:K.In (ID s₁.heap H):=fun b o e=>base_of (KX b o e) (by
   cases q:H b with
   |none=>rfl
   |some u=>
    have e':b=a:=hA b (by rw[q];simp)
    subst e'
    rw[hK (by rw[q];simp)] at e;cases e)
  have hM:Mod K mg (ID s₁.heap H):=⟨hKb,nsK hns,⟨mb,nsK hb,hbb⟩,let ⟨mc,h1,h2⟩:=hlim;⟨mc,nsK h1,h2⟩⟩
  have e0:Env0 P w K mg (ID s₁.heap H) callerA [] s₁ H:=⟨rfl,hM,fun b o e=>KM e,Nat.le_of_eq (Gv _ _),trivial,fun b hb=>absurd (show b∈([]:List Addr) from hb) (by simp),hok,.of_eq hg⟩
  refine codeAny_mono ((F _ hKb (nsK hns)).run callerA [] s₁ H ⟨[.ref a],[]⟩ [.ref a] [.ref a] _ _ hr e0 (hbind s₁ (.ref a)) (.cons rfl .nil) (hsp H hO hS)) fun r s' h=> ?_
  cases r with
  |error e=>exact(hCX H e s' h).elim
  |ok fl=>
   cases fl with
   |next=>exact False.elim h
   |brk=>exact False.elim h
   |cont=>exact False.elim h
   |ret u=>
    obtain⟨v,H',os,bare,un,hok',r',q⟩:=h
    have q':v=.bl true:=q
    subst q'
    obtain rfl:u=Value.bool true:=r'
    refine⟨rfl,OldK.of_keep fun b o e=> ?_,os,bare⟩
    cases q:H b with
    |none=>exact un.keep b o e q (by intro z;exact absurd (show b∈([]:List Addr) from z) (by simp)) (by simp)
    |some u=>
     rcases hO b with z|⟨ob,xs,z⟩
     ·rw[q] at z;cases z
     ·have z2:=un.frzs b ob _ z
      obtain⟨e1,_⟩:=hok b _ z
      obtain⟨e2,_⟩:=hok' b _ z2
      rw[e] at e1;cases e1
      exact e2
 cases hk:K.lookup a with
 |some o=>
  -- the script is one of the module's own objects
  have e:=KX a o hk
  rw[ha] at e
  cases e
  refine core (fun _=>none) (fun _=>.inl rfl) (.inr ⟨_,vs.toArray,_,hk,rfl,rfl,rfl,by rw[List.size_toArray,lenV];exact hl,by simpa using rv⟩) (fun b u z=>by have z':(none:Option HO)=some u:=z;cases z') (fun b z=>absurd rfl z) fun z=>absurd rfl z
 |none=>
  refine core (fun b=>if b=a then some (.frz { cls:=.type "list",data:=.seq vs.toArray } (.lst (ns.map V.int))) else none) (fun b=> ?_) (.inl (.inr ⟨{ cls:=.type "list",data:=.seq vs.toArray },if_pos rfl⟩)) (fun b u z=> ?_) (fun b z=> ?_) fun _=>hk
  ·by_cases hb:b=a
   ·exact .inr ⟨_,_,if_pos hb⟩
   ·exact .inl (if_neg hb)
  ·by_cases hb:b=a
   ·have z':=(if_pos hb).symm.trans z
    cases z'
    subst hb
    exact⟨ha,by rw[List.length_map];exact hl,vs,_,rv,ha⟩
   ·have z':=(if_neg hb).symm.trans z
    cases z'
  ·by_cases hb:b=a
   ·exact hb
   ·exact absurd (if_neg hb) z
end L2
namespace L2
open PySem PySem.Spec PyProof.Rows
theorem walk_of {l:PySem.W.OpenLaw}{n k:Nat}{q:Program}{loose:List Str}{XP:(Str->Option Value)->Heap->Prop}{YP:World->Heap->Prop}{d:DefRec}{K:Params->PySem.W.Frag}{CX:World->CXT}{sp:World->Sp}{x:Str}
  (hn:l.most=some n) (hn2:n<=sizeLine) (hdf:d.params.defaults=[]) (hr:Room k callerA)
  (hY:∀(w:World) (h:Heap),YP w h->(K w.params).In h)
  (F:∀(w:World) (mg:Str->Option Value) (fa:Addr) (h:Heap),(K w.params).In h->h.Ns mainGlobals mg->mg d.name=some (.ref fa)->
   ∃ fd:FuncData,(∀(s:Shared) (u:Value),BindsTo s fd ⟨[u],[]⟩ [(x,u)])/\
    ∀ base:Heap,(K w.params).In base->base.Ns mainGlobals mg->wQ l.prog w (K w.params) mg base (CX w) k fa fd [x] (sp w))
  (hsp:∀(w:World) (H:Hp) (a:Addr) (ns:List Int),ns.length<=n->PN H->SqL (K w.params) H a (ns.map V.int)->sp w [.ref a] H (fun v _=>v=.bl true) fun _ _ _=>False)
  (hCX:∀(w:World) (H:Hp) (s:Shared) (e:Value) (s':Shared),CX w [] H s (fun _ _ _=>False) e s'->False):
  PySem.W.WalkO q loose XP YP l.row.toRowW d [] (fun f vs=>PySem.call f vs):=by
 refine Att.attach_call hn hdf fun w s₀ s₁ mg mb fa o pm cd doc a vs ns G Y ho hd hcd hmg hobj hints hlen hg=> ?_
 have KX:=hY w _ Y
 obtain⟨fd,hb,hF⟩:=F w mg fa _ KX G.T.g hmg
 exact Iq KX G.T.g G.T.b G.T.builtins G.T.nolimit hg hobj hints (Nat.le_trans hlen hn2) hr hF hb (fun H hO hS=>hsp w H a ns hlen hO hS) fun H e s'=>hCX w H s₁ e s'
end L2
namespace L2
open PySem PySem.Spec PyProof.Rows
def cL (s:Stmt) (j:Nat):Stmt:=match s with
 |.ClassDef _ _ _ body _ _ _ _ _ _ _=>body.getD j (.Pass ⟨0,0,0,0⟩)
 |_=>.Pass ⟨0,0,0,0⟩
def lM (s:Stmt):Arguments:=match s with
 |.FunctionDef _ a _ _ _ _ _ _ _ _=>a
 |_=>{ posonlyargs:=[],args:=[],vararg:=none,kwonlyargs:=[],kw_defaults:=[],kwarg:=none,defaults:=[] }
def iW (s:Stmt):List Stmt:=match s with
 |.FunctionDef _ _ b _ _ _ _ _ _ _=>b
 |_=>[]
def aK (s:Stmt):Scope:=match s with
 |.FunctionDef _ _ _ _ _ _ sc _ _ _=>sc
 |_=>{ kind:=.function,names:=[],isGenerator:=false,isCoroutine:=false }
structure Fun (K:PySem.W.Frag) (x qual:Str) (st:Stmt) (f:Addr) (fd:FuncData):Prop where
 ex:∃(oc:Value) (od:Option Addr) (kV doc pm:Value) (an:Option Addr) (cdv ct:Value) (osl:Array (Option Value)),
  fd=PySem.W.fnOf x qual (lM st) (iW st) (aK st) .none kV doc pm an cdv ct/\K.lookup f=some ⟨oc,od,.func fd,osl⟩/\PySem.W.codeIn K cdv qual=true
 kp:PySem.W.keepIn K (.ref f)=true
section
variable {P:Program}{w:World}{K:PySem.W.Frag}{mg:Str->Option Value}{base:Heap}
theorem Fun.binds {x qual:Str}{st:Stmt}{f:Addr}{fd:FuncData}{ps:List Str} (F:Fun K x qual st f fd)
  (h:∀(kV doc pm:Value) (an:Option Addr) (cdv ct:Value) (us:List Value),us.length=ps.length->bindArgs (PySem.W.fnOf x qual (lM st) (iW st) (aK st) .none kV doc pm an cdv ct) ⟨us,[]⟩=pure (ps.zip us)):Binds K fd ps []:=by
 obtain⟨oc,od,kV,doc,pm,an,cdv,ct,osl,rfl,lk,hcd⟩:=F.ex
 exact .all (h kV doc pm an cdv ct)
theorem JU {x qual:Str}{st:Stmt}{f:Addr}{oc:Value}{od an:Option Addr}{osl:Array (Option Value)}{kV doc pm cdv ct:Value} (l:K.lookup f=some ⟨oc,od,.func (PySem.W.fnOf x qual (lM st) (iW st) (aK st) .none kV doc pm an cdv ct),osl⟩)
  (c:PySem.W.codeIn K cdv qual=true) (k:PySem.W.keepIn K (.ref f)=true):Fun K x qual st f (PySem.W.fnOf x qual (lM st) (iW st) (aK st) .none kV doc pm an cdv ct):=⟨⟨oc,od,kV,doc,pm,an,cdv,ct,osl,rfl,l,c⟩,k⟩
end
theorem Ps {A:Around}{k:Nat} (hr:Room k A):A.units+1<cLine:=Nat.lt_of_le_of_lt (Nat.add_le_add_left (by decide:1<=64) _) hr.units
section
variable {X:Cx}
end
theorem Mc {A B:Prop} (h:B):if false=true then A else B:=by
 rw[if_neg Bool.false_ne_true]
 exact h
theorem Mb {A B:Prop} (h:A):if true=true then A else B:=by
 rw[if_pos rfl]
 exact h
def Same (H H':Hp):Prop:=∀ b o,H b=some o->H' b=some o
theorem Same.refl (H:Hp):Same H H:=fun _ _ h=>h
theorem Same.trans {H H1 H2:Hp} (a:Same H H1) (b:Same H1 H2):Same H H2:=fun c o h=>b c o (a c o h)
theorem Same.free {H H':Hp} (e:Same H H') {l:Addr} (h:H' l=Option.none):H l=Option.none:=by
 cases q:H l with
 |none=>rfl
 |some o=>
  rw[e l o q] at h
  cases h
end L2
end
section
namespace L2
open PySem PySem.Spec PyProof.Rows
section
variable {κ:Type} [DecidableEq κ]
def Ai (kvs:List (κ×V)) (k:κ):Option V:=(kvs.find? fun kv=>decide (kv.1=k)).map (·.2)
def wE (kvs:List (κ×V)) (k:κ) (v:V):List (κ×V):=
 if(kvs.any fun kv=>decide (kv.1=k))=true then kvs.map (fun kv=>if kv.1=k then(kv.1,v) else kv) else kvs++[(k,v)]
def Bl (kvs:List (κ×V)) (k:κ):List (κ×V):=kvs.filter fun kv=>decide (kv.1≠k)
theorem sO {p:κ×V}{r:List (κ×V)}{k:κ} (e:p.1=k):Ai (p::r) k=some p.2:=by simp[Ai,List.find?_cons,e]
theorem oW {p:κ×V}{r:List (κ×V)}{k:κ} (e:¬ p.1=k):Ai (p::r) k=Ai r k:=by simp[Ai,List.find?_cons,e]
theorem Dd (k:κ):∀ kvs:List (κ×V),(kvs.any fun kv=>decide (kv.1=k))=(Ai kvs k).isSome
 |[]=>rfl
 |p::r=>by
  rw[List.any_cons]
  by_cases e:p.1=k
  ·simp only[sO e,decide_eq_true e,Bool.true_or,Option.isSome_some]
  ·rw[oW e,decide_eq_false e,Bool.false_or];exact Dd k r
theorem nZ (kvs:List (κ×V)) (k:κ) (v:V):(wE kvs k v).length<=kvs.length+1:=by
 unfold wE
 split
 ·rw[List.length_map];omega
 ·rw[List.length_append,List.length_cons,List.length_nil];omega
theorem RelO.isSome_eq {o:Option V}{u:Option Value} (r:RelO o u):o.isSome=u.isSome:=by
 cases o with
 |none=>cases u with
  |none=>rfl
  |some _=>exact(show False from r).elim
 |some _=>cases u with
  |none=>exact(show False from r).elim
  |some _=>rfl
theorem KV.val {kvs:List (κ×V)}{vs:List (κ×Value)} (r:KV kvs vs) (k:κ):RelO (Ai kvs k) (valueAt vs k):=by
 unfold KV at r
 induction r with
 |nil=>exact True.intro
 |@cons p q ps qs h t ih=>
  obtain⟨h1,h2⟩:=h
  by_cases e:p.1=k
  ·have e':q.1=k:=h1.symm.trans e
   have b:valueAt (q::qs) k=some q.2:=by simp[valueAt,List.find?_cons,e']
   rw[sO e,b];exact h2
  ·have e':¬ q.1=k:=fun z=>e (h1.trans z)
   have b:valueAt (q::qs) k=valueAt qs k:=by simp[valueAt,List.find?_cons,e']
   rw[oW e,b];exact ih
theorem KV.any {kvs:List (κ×V)}{vs:List (κ×Value)} (r:KV kvs vs) (k:κ):(kvs.any fun kv=>decide (kv.1=k))=vs.any fun kv=>decide (kv.1=k):=by
 unfold KV at r
 induction r with
 |nil=>rfl
 |cons h t ih=>rw[List.any_cons,List.any_cons,ih,h.1]
theorem KV.repl {kvs:List (κ×V)}{vs:List (κ×Value)} (r:KV kvs vs) (k:κ) {y:V}{u:Value} (ry:RelV y u):
  KV (kvs.map fun kv=>if kv.1=k then(kv.1,y) else kv) (vs.map fun kv=>if kv.1=k then(kv.1,u) else kv):=by
 unfold KV at r ⊢
 induction r with
 |nil=>exact .nil
 |@cons p q ps qs h t ih=>
  rw[List.map_cons,List.map_cons]
  refine .cons ?_ ih
  obtain⟨h1,h2⟩:=h
  by_cases e:p.1=k
  ·rw[if_pos e,if_pos (h1.symm.trans e)];exact⟨h1,ry⟩
  ·rw[if_neg e,if_neg (fun z=>e (h1.trans z))];exact⟨h1,h2⟩
theorem KV.put {kvs:List (κ×V)}{vs:List (κ×Value)} (r:KV kvs vs) (k:κ) {y:V}{u:Value} (ry:RelV y u):KV (wE kvs k y) (stored vs k u):=by
 unfold wE stored
 rw[r.any k]
 by_cases e:(vs.any fun kv=>decide (kv.1=k))=true
 ·rw[if_pos e,if_pos e];exact r.repl k ry
 ·rw[if_neg e,if_neg e];exact Paired.snoc r ⟨rfl,ry⟩
theorem KV.length {kvs:List (κ×V)}{vs:List (κ×Value)} (r:KV kvs vs):kvs.length=vs.length:=Paired.length r
theorem Jf (kvs:List (κ×V)) (k:κ):(Bl kvs k).length<=kvs.length:=List.length_filter_le _ _
end
theorem Iw {P:Program}{w:World}{k:Key}{u:Value} (r:RelV (kV k) u):(aR P w).is k u=true:=by
 cases k with
 |inl i=>obtain⟨t,e⟩:=(show ∃ t,u=Value.int i t from r);subst e;exact Cn P w i t
 |inr x=>obtain⟨t,e⟩:=(show ∃ t,u=Value.str x t from r);subst e;exact Cm P w x t
theorem AV {P:Program}{w:World}:∀ {ks:List Key}{us:List Value},Vals (ks.map kV) us->ItemsAre (aR P w) ks us
 |[],_,r=>by rw[List.map_nil] at r;cases r;exact .nil
 |k::ks,_,r=>by
  rw[List.map_cons] at r
  cases r with
  |cons h t=>exact .cons (Iw h) (AV t)
abbrev KT (H:Hp):List (List Key×V)->List (List Key×Addr×Value)->Prop:=Paired fun p q=>p.1=q.1/\H q.2.1=some (.tup (p.1.map kV))/\RelV p.2 q.2.2
theorem KT.val {H:Hp}{kvs:List (List Key×V)}{xs:List (List Key×Addr×Value)} (r:KT H kvs xs) (k:List Key):RelO (Ai kvs k) ((atKey xs k).map (·.2)):=by
 induction r with
 |nil=>exact True.intro
 |@cons p q ps qs h t ih=>
  obtain⟨h1,_,h2⟩:=h
  by_cases e:p.1=k
  ·have e':q.1=k:=h1.symm.trans e
   have b:atKey (q::qs) k=some q.2:=by simp[atKey,List.find?_cons,e']
   rw[sO e,b];exact h2
  ·have e':¬ q.1=k:=fun z=>e (h1.trans z)
   have b:atKey (q::qs) k=atKey qs k:=by simp[atKey,List.find?_cons,e']
   rw[oW e,b];exact ih
theorem KT.repl {H:Hp}{kvs:List (List Key×V)}{xs:List (List Key×Addr×Value)} (r:KT H kvs xs) (k:List Key) {y:V}{u:Value} (ry:RelV y u):
  KT H (kvs.map fun kv=>if kv.1=k then(kv.1,y) else kv) (xs.map (putAt k u)):=by
 induction r with
 |nil=>exact .nil
 |@cons p q ps qs h t ih=>
  rw[List.map_cons,List.map_cons]
  refine .cons ?_ ih
  obtain⟨h1,h2,h3⟩:=h
  unfold putAt
  by_cases e:p.1=k
  ·rw[if_pos e,if_pos (h1.symm.trans e)];exact⟨h1,h2,ry⟩
  ·rw[if_neg e,if_neg (fun z=>e (h1.trans z))];exact⟨h1,h2,h3⟩
theorem KT.put {H:Hp}{kvs:List (List Key×V)}{xs:List (List Key×Addr×Value)} (r:KT H kvs xs) (k:List Key) {b:Addr}{y:V}{u:Value} (hb:H b=some (.tup (k.map kV))) (ry:RelV y u):
  KT H (wE kvs k y) (storedH xs k b u):=by
 have e:(kvs.any fun kv=>decide (kv.1=k))=(atKey xs k).isSome:=by
  rw[Dd,(r.val k).isSome_eq,Option.isSome_map]
 unfold wE storedH
 rw[e]
 by_cases q:(atKey xs k).isSome=true
 ·rw[if_pos q,if_pos q];exact r.repl k ry
 ·rw[if_neg q,if_neg q];exact Paired.snoc r ⟨rfl,hb,ry⟩
theorem KT.keeps {H H':Hp}{kvs:List (List Key×V)}{xs:List (List Key×Addr×Value)} (r:KT H kvs xs) (ht:∀ b ys,H b=some (.tup ys)->H' b=some (.tup ys)):KT H' kvs xs:=
 Paired.mapP r fun _ _ z=>⟨z.1,ht _ _ z.2.1,z.2.2⟩
section
variable {P:Program}{w:World}{H:Hp}{h:Heap}{a:Addr}
theorem Mz {u:HO} (ok:HOk P w H h) (e:Rd H a u):ObjOk P w H h a u:=e.ok ok
theorem Jh {kvs:List (Key×V)} (ok:HOk P w H h) (e:Rd H a (.dK kvs)):kvs.length<=sizeLine/\(a==sysModules)=false/\∃ vs,KV kvs vs/\h.DictOf (aR P w) a vs:=
 show ObjOk P w H h a (.dK kvs) from Mz ok e
theorem PB {kvs:List (Key×V)} (ok:HOk P w H h) (e:H a=some (.dK kvs)):kvs.length<=sizeLine/\(a==sysModules)=false/\∃ vs,KV kvs vs/\h.DictOf (aR P w) a vs:=Jh ok (.inl e)
theorem AS {ks:List Key} (ok:HOk P w H h) (e:H a=some (.tup (ks.map kV))):(tupleKind (aR P w)).is h ks a:=by
 obtain⟨_,its,r,o,h1,h2,n,h3⟩:=(show ObjOk P w H h a (.tup (ks.map kV)) from ok a _ e)
 exact⟨o,its.toArray,n,h1,h2,h3,by simpa using AV r⟩
theorem Jc {kvs:List (List Key×V)} (ok:HOk P w H h) (e:Rd H a (.dT kvs)):kvs.length<=sizeLine/\(a==sysModules)=false/\
  ∃ xs,KT H kvs xs/\h.DictOfH (tupleKind (aR P w)) a xs:=by
 obtain⟨z,y,xs,r,o,es,ep,h1,h2,h3,h4,h5⟩:=(show ObjOk P w H h a (.dT kvs) from Mz ok e)
 refine⟨z,y,xs,r,o,es,ep,h1,h2,h3,h4,fun x hx=> ?_,h5⟩
 have all:∀ {l:List (List Key×V)}{m:List (List Key×Addr×Value)},KT H l m->∀ x∈m,(tupleKind (aR P w)).is h x.1 x.2.1:=by
  intro l m q
  induction q with
  |nil=>intro x hx;exact nomatch hx
  |@cons p q ps qs hq t ih=>
   intro x hx
   rcases List.mem_cons.mp hx with e|hx
   ·subst e
    exact AS ok (by rw[<- hq.1];exact hq.2.1)
   ·exact ih x hx
 exact all r x hx
theorem Jd {kvs:List (List Key×V)} (ok:HOk P w H h) (e:H a=some (.dT kvs)):kvs.length<=sizeLine/\(a==sysModules)=false/\
  ∃ xs,KT H kvs xs/\h.DictOfH (tupleKind (aR P w)) a xs:=Jc ok (.inl e)
end
def DGet (H:Hp) (a:Addr) (y:V) (r:Option V):Prop:=
 (∃ kvs k,Rd H a (.dK kvs)/\y=kV k/\r=Ai kvs k)∨∃ kvs k b,Rd H a (.dT kvs)/\y=.ref b/\H b=some (.tup (k.map kV))/\r=Ai kvs k
def DPut (H:Hp) (a:Addr) (y v:V) (H':Hp):Prop:=
 (∃ kvs k,H a=some (.dK kvs)/\y=kV k/\kvs.length<sizeLine/\H'=upd H a (.dK (wE kvs k v)))∨
 ∃ kvs k b,H a=some (.dT kvs)/\y=.ref b/\H b=some (.tup (k.map kV))/\kvs.length<sizeLine/\H'=upd H a (.dT (wE kvs k v))
theorem DGet.k {H:Hp}{a:Addr}{kvs:List (Key×V)}{k:Key} (e:H a=some (.dK kvs)):DGet H a (kV k) (Ai kvs k):=.inl ⟨kvs,k,.inl e,rfl,rfl⟩
theorem DGet.t {H:Hp}{a b:Addr}{kvs:List (List Key×V)}{k:List Key} (e:H a=some (.dT kvs)) (eb:H b=some (.tup (k.map kV))):DGet H a (.ref b) (Ai kvs k):=.inr ⟨kvs,k,b,.inl e,rfl,eb,rfl⟩
theorem DPut.k {H:Hp}{a:Addr}{kvs:List (Key×V)}{k:Key}{v:V} (e:H a=some (.dK kvs)) (hl:kvs.length<sizeLine):DPut H a (kV k) v (upd H a (.dK (wE kvs k v))):=.inl ⟨kvs,k,e,rfl,hl,rfl⟩
theorem DPut.t {H:Hp}{a b:Addr}{kvs:List (List Key×V)}{k:List Key}{v:V} (e:H a=some (.dT kvs)) (eb:H b=some (.tup (k.map kV))) (hl:kvs.length<sizeLine):
  DPut H a (.ref b) v (upd H a (.dT (wE kvs k v))):=.inr ⟨kvs,k,b,e,rfl,eb,hl,rfl⟩
section
variable {X:Cx}{pins:List (Addr×Obj)}{σ:St}{H:Hp}{s:Shared}{a:Addr}{y v:V}{u r:Value}{o:Option V}{A:Around}{E:Value->Shared->Prop}
theorem Inv.big (I:Inv X pins σ H s):sysModules<s.heap.objs.size:=by
 have h:mainGlobals<s.heap.objs.size:=(I.mod.glob.keeps I.bk).lt
 exact Nat.lt_trans (by decide) h
theorem GS {Q:Value->Shared->Prop} (hu:A.units+1<cLine) (I:Inv X pins σ H s) (g:DGet H a y (some v)) (ry:RelV y u) (h:∀ w' s',Inv X pins σ H s'->RelV v w'->Q w' s'):
  wpAny (model X.prog X.w) A (getItem (.ref a) u) Q E s:=by
 rcases g with⟨kvs,k,e,ey,l⟩|⟨kvs,k,b,e,ey,eb,l⟩
 ·subst ey
  obtain⟨z,hd,vs,rel,dd⟩:=Jh I.hok e
  obtain⟨w',hw,rw'⟩:=RelO.some_of (v:=v) (o:=valueAt vs k) (by rw[l];exact rel.val k)
  exact wpAny_getItem_of (Iw ry) dd.mapOf hw (h w' _ (I.tok _) rw')
 ·subst ey
  cases (show u=Value.ref b from ry)
  obtain⟨z,hd,xs,rel,dd⟩:=Jc I.hok e
  obtain⟨w',hw,rw'⟩:=RelO.some_of (v:=v) (o:=(atKey xs k).map (·.2)) (by rw[l];exact rel.val k)
  obtain⟨p,hp,hp2⟩:=Option.map_eq_some_iff.mp hw
  refine wpAny_getItem_heap (tupleKind_room_in1 hu) (AS I.hok eb) dd hp ?_
  rw[hp2]
  exact h w' _ (I.tok _) rw'
theorem QR {Q:Value->Shared->Prop} (hu:A.units+1<cLine) (I:Inv X pins σ H s) (g:DGet H a y o) (ry:RelV y u) (h:∀ s',Inv X pins σ H s'->Q (.bool o.isSome) s'):
  wpAny (model X.prog X.w) A (compareOp .In u (.ref a)) Q E s:=by
 rcases g with⟨kvs,k,e,ey,l⟩|⟨kvs,k,b,e,ey,eb,l⟩
 ·subst ey
  obtain⟨z,hd,vs,rel,dd⟩:=Jh I.hok e
  refine wpAny_in_of (Iw ry) hd dd.mapOf ?_
  rw[<- (rel.val k).isSome_eq,<- l]
  exact h _ (I.tok _)
 ·subst ey
  cases (show u=Value.ref b from ry)
  obtain⟨z,hd,xs,rel,dd⟩:=Jc I.hok e
  refine wpAny_in_heap (tupleKind_room_in1 hu) (AS I.hok eb) hd dd ?_
  have q:=(rel.val k).isSome_eq
  rw[Option.isSome_map] at q
  rw[<- q,<- l]
  exact h _ (I.tok _)
theorem zM {h':Heap}{t':Nat}{ob:HO} (I:Inv X pins σ H s) (mu:Mut (H a)) (hs:Heap.SameBut a s.heap h') (he:∃ q,h'.get? a=some q) (new:ObjOk X.prog X.w (upd H a ob) h' a ob):
  Inv X pins σ (upd H a ob) { s with heap:=h',toks:=t' }:=
 I.write (x:=a) (e:=a) mu (.inl rfl) (fun b q hb z=>(hs.2 b hb).trans z) he new
theorem Oa {P:Program}{w:World}{H':Hp}{h':Heap}{kvs:List (Key×V)}{vs:List (Key×Value)} (z:kvs.length<=sizeLine) (hd:(a==sysModules)=false) (rel:KV kvs vs) (dd:h'.DictOf (aR P w) a vs):
  ObjOk P w H' h' a (.dK kvs):=⟨z,hd,vs,rel,dd⟩
theorem GR {H':Hp}{Q:Unit->Shared->Prop} (hu:A.units+1<cLine) (I:Inv X pins σ H s) (g:DPut H a y v H') (ry:RelV y u) (rv:RelV v r) (h:∀ s',Inv X pins σ H' s'->Q () s'):
  wpAny (model X.prog X.w) A (setItem (.ref a) u r) Q E s:=by
 rcases g with⟨kvs,k,e,ey,l,eH⟩|⟨kvs,k,b,e,ey,eb,l,eH⟩
 ·subst ey eH
  obtain⟨z,hd,vs,rel,dd⟩:=PB I.hok e
  have hz:vs.length<=sizeLine:=by rw[<- rel.length];exact z
  have hl:(wE kvs k v).length<=sizeLine:=by have:=nZ kvs k v;omega
  refine wpAny_setItem_pairs (hsz:=hz) (Iw ry) dd fun h' dd' hs=>h _ ?_
  have he:∃ q,h'.get? a=some q:=let ⟨q,_,_,hq,_⟩:=dd';⟨q,hq⟩
  exact zM I (by rw[e];exact True.intro) hs he (Oa hl hd (rel.put k rv) dd')
 ·subst ey eH
  cases (show u=Value.ref b from ry)
  obtain⟨z,hd,xs,rel,dd⟩:=Jd I.hok e
  have hz:xs.length<=sizeLine:=by rw[<- Paired.length rel];exact z
  have hl:(wE kvs k v).length<=sizeLine:=by have:=nZ kvs k v;omega
  refine wpAny_setItem_heap (hsz:=hz) (tupleKind_room_in1 hu) (AS I.hok eb) dd fun h' dd' hs=>h _ ?_
  obtain⟨q,es,ep,hq,h2,h3,h4,_,h5⟩:=dd'
  refine zM I (by rw[e];exact True.intro) hs ⟨q,hq⟩ ⟨hl,hd,_,(rel.put k eb rv).keeps fun c ys ec=> ?_,q,es,ep,hq,h2,h3,h4,h5⟩
  rw[aM (Lb ec e (fun z=>nomatch z))]
  exact ec
end
section
variable {X:Cx}{pins:List (Addr×Obj)}{σ:St}{H:Hp}{s:Shared}{a:Addr}{kvs:List (Key×V)}{k:Key}{u:Value}{A:Around}{E:Value->Shared->Prop}
end
def PP (i:Expr):Prop:=∀ ov iv,subscripted i false ov iv=operate [ov,iv] (getItem ov iv)
theorem Kf {prog:Program}{w:World}{A:Around}{E:Value->Shared->Prop}{s:Shared}{env:Env}{value slice:Expr}{pos:Pos}{T id:String}{Q:Value->Shared->Prop}
  (hl:typeLookup (.type T) "__getitem__"=pure (some (.builtin id))) (hs:PP slice)
  (h:wpAny (model prog w) A (eval value env) (fun o s₁=>wpAny (model prog w) A (eval slice env) (fun i s₂=>s₂.TypeIs o T/\wpAny (model prog w) A (getItem o i) Q E s₂) E s₁) E s):
  wpAny (model prog w) A (eval (.Subscript value slice pos) env) Q E s:=by
 refine Subscript_ (wpAny_mono h (fun o s₁ h₁=>wpAny_mono h₁ (fun i s₂ h₂=> ?_) fun _ _ x=>x) fun _ _ x=>x)
 obtain⟨hT,h₂⟩:=h₂
 unfold subscriptTail
 refine wpAny_bind ?_
 rw[getitemInPython_of_ne hT.not_modules]
 refine wpAny_bind (wpAny_specialOf hT hl ?_)
 have fin:wpAny (model prog w) A (subscripted slice false o i) (fun r s₃=>wpAny (model prog w) A (letTemporaryGo value o r >>= fun _=>pure r) Q E s₃) E s₂:=by
  rw[hs o i]
  exact wpAny_operating (wpAny_mono h₂ (fun r s₃ h₃=>wpAny_bind (wpAny_letTemporaryGo (wpAny_pure h₃))) fun _ _ x=>x)
 first
  |exact wpAny_pure (wpAny_bind fin)
  |exact wpAny_bind (wpAny_pure (wpAny_bind fin))
  |exact wpAny_bind fin
theorem CF {X:Cx}{pins:List (Addr×Obj)}{σ:St}{H:Hp}{s:Shared}{a:Addr}{y:V}{o:Option V} (I:Inv X pins σ H s) (g:DGet H a y o):s.TypeIs (.ref a) "dict":=by
 rcases g with⟨kvs,k,e,_,_⟩|⟨kvs,k,b,e,_,_,_⟩
 ·obtain⟨_,_,vs,_,dd⟩:=Jh I.hok e
  exact dd.typeIs
 ·obtain⟨_,_,xs,_,dd⟩:=Jc I.hok e
  exact dd.typeIs
def OQ (td ty:TE):TE:=fun σ H Q=>td σ H fun x H1=>ty σ H1 fun y H2=>∃ a v,x=.ref a/\DGet H2 a y (some v)/\Q v H2
def Qw (ty td:TE):TE:=fun σ H Q=>ty σ H fun y H1=>td σ H1 fun x H2=>∃ a o,x=.ref a/\DGet H2 a y o/\Q (.bl o.isSome) H2
def OY (td ty tv:TE):TS:=fun D σ H=>tv σ H fun v H1=>td σ H1 fun x H2=>ty σ H2 fun y H3=>∃ a H4,x=.ref a/\DPut H3 a y v H4/\D.nx σ H4
section
variable {X:Cx}{o i e value:Expr}{pos pos' tpos:Pos}{td ty tv:TE}
theorem KA (hu:X.A.units+1<cLine) (ho:PE X o td) (hi:PE X i ty) (hs:PP i):PE X (.Subscript o i pos) (OQ td ty):=by
 intro pins s σ H Q I h
 refine Kf PySem.F.slot_dict_getitem.lookup hs (thn (ho pins s σ H _ I h) fun u s1 ⟨x,H1,I1,rx,q1⟩=>thn (hi pins s1 σ H1 _ I1 q1) fun iv s2 ⟨y,H2,I2,ry,a,v,ex,g,q2⟩=> ?_)
 subst ex
 obtain rfl:u=Value.ref a:=rx
 exact⟨CF I2 g,GS hu I2 g ry fun w' s3 I3 rw'=>⟨v,H2,I3,rw',q2⟩⟩
theorem Na (hu:X.A.units+1<cLine) (hi:PE X i ty) (ho:PE X o td):PC X .In i o (Qw ty td):=by
 intro pins s σ H Q I h
 refine thn (hi pins s σ H _ I h) fun iv s1 ⟨y,H1,I1,ry,q1⟩=>thn (ho pins s1 σ H1 _ I1 q1) fun u s2 ⟨x,H2,I2,rx,a,ov,ex,g,q2⟩=> ?_
 subst ex
 obtain rfl:u=Value.ref a:=rx
 exact QR hu I2 g ry fun s3 I3=>⟨.bl ov.isSome,H2,I3,rfl,q2⟩
theorem Ks (hu:X.A.units+1<cLine) (ho:PE X o td) (hi:PE X i ty) (hv:PE X value tv) (hs:swapsWith value (some (.Subscript o i pos')) pos.line X.env=pure false):
  PS X (.Assign [.Subscript o i pos'] value pos) (OY td ty tv):=by
 intro pins s σ H D I h
 refine wpAny_Assign_Subscript (thn (hv pins s σ H _ I h) fun r s1 ⟨v,H1,I1,rv,q1⟩=>thn (ho pins s1 σ H1 _ I1 q1) fun u s2 ⟨x,H2,I2,rx,q2⟩=>thn (hi pins s2 σ H2 _ I2 q2) fun iv s3 ⟨y,H3,I3,ry,a,H4,ex,g,q3⟩=> ?_) hs
 subst ex
 obtain rfl:u=Value.ref a:=rx
 exact GR hu I3 g ry rv fun s4 I4=>⟨σ,H4,I4,q3⟩
end
theorem Je {P:Program}{w:World}{H:Hp} (h:Heap) (hb:sysModules<h.objs.size):ObjOk P w H (h.push { cls:=.type "dict",data:=.dict #[] }) h.objs.size (.dT []):=
 ⟨Nat.zero_le _,beq_eq_false_iff_ne.mpr (Ne.symm (Nat.ne_of_lt hb)),[],.nil,_,#[],0,Heap.get?_push_size _ rfl,⟨rfl,rfl,rfl⟩,rfl,rfl,List.nodup_nil⟩
def Mr:TE:=fun _ H Q=>∀ p,H p=none->Q (.ref p) (upd H p (.dT []))
section
variable {X:Cx}{pos:Pos}
theorem HW:PE X (.Dict [] [] pos) Mr:=fun pins s σ H Q I h=>
 wpAny_Dict_empty ⟨.ref s.heap.objs.size,_,I.laid (a:=s.heap.objs.size) (o:=.dT []) (t':=s.toks) (fun _ _ q=>Heap.get?_push_of_some _ q) (Nat.le_refl _) (Je s.heap I.big),rfl,h _ (I.hok.fresh (Nat.le_refl _))⟩
end
section
variable {X:Cx}{pins:List (Addr×Obj)}{σ:St}{H:Hp}{s:Shared}{a:Addr}{y d:V}{u r:Value}{o:Option V}{A:Around}{E:Value->Shared->Prop}
end
section
variable {X:Cx}{o e f:Expr}{apos cpos:Pos}{td ty tx:TE}
end
section
variable {X:Cx}{pins:List (Addr×Obj)}{σ:St}{H:Hp}{s:Shared}{a:Addr}{kvs:List (Key×V)}{A:Around}{E:Value->Shared->Prop}
end
section
variable {X:Cx}{pins:List (Addr×Obj)}{σ:St}{H:Hp}{s:Shared}{a:Addr}{y:V}{u:Value}{A:Around}{E:Value->Shared->Prop}
end
end L2
namespace L2
open PySem PySem.Spec PyProof.Rows
section
variable {κ:Type} [DecidableEq κ]
end
end L2
end
section
namespace L2.MB
open PySem PySem.Spec PyProof.Rows
inductive D where
 |non|bl (b:Bool)|int (i:Int)|str (x:Str)|lst (ds:List D)|tup (ds:List D)
 /-- an object that is told by its number -/
 |obj (n:Nat)
 /-- a list that is handed in and only read -/
 |scr (ds:List D)
 deriving Inhabited
structure Okk where
 p:Addr->Prop
 al:Nat->Option Addr
instance:CoeFun Okk (fun _=>Addr->Prop):=⟨Okk.p⟩
instance:Coe Okk (Addr->Prop):=⟨Okk.p⟩
def Okk.all:Okk:=⟨fun _=>True,fun _=>none⟩
def RL (K:PySem.W.Frag) (ok:Okk) (H:Hp) (a:Addr) (xs:List V):Prop:=ok a/\H a=some (.lst xs)
def RC (K:PySem.W.Frag) (ok:Okk) (H:Hp) (a:Addr) (xs:List V):Prop:=
 (ok a/\Rd H a (.lst xs))∨
  ∃(o:Obj) (its:Array Value) (n:Nat),K.lookup a=some o/\o.cls=.type "list"/\o.dict=none/\o.data=.seq its n/\its.size<=sizeLine/\Vals xs its.toList
def RT (K:PySem.W.Frag) (ok:Okk) (H:Hp) (a:Addr) (xs:List V):Prop:=ok a/\H a=some (.tup xs)
section
variable {K:PySem.W.Frag}{ok ok':Okk}{H H':Hp}{a:Addr}{xs:List V}
theorem RL.sq (h:RL K ok H a xs):SqL K H a xs:=.inl (.inl h.2)
theorem RC.sq (h:RC K ok H a xs):SqL K H a xs:=h.elim (fun z=>.inl z.2) .inr
theorem RT.sq (h:RT K ok H a xs):SqT K H a xs:=.inl (.inl h.2)
theorem Rd.mono {u:HO} (f:∀ b o,ok b->H b=some o->ok' b/\H' b=some o) (k:ok a) (h:Rd H a u):ok' a/\Rd H' a u:=by
 rcases h with h|⟨o,h⟩
 ·exact⟨(f _ _ k h).1,.inl (f _ _ k h).2⟩
 ·exact⟨(f _ _ k h).1,.inr ⟨o,(f _ _ k h).2⟩⟩
theorem RL.mono (f:∀ b o,ok b->H b=some o->ok' b/\H' b=some o) (h:RL K ok H a xs):RL K ok' H' a xs:=f _ _ h.1 h.2
theorem RC.mono (f:∀ b o,ok b->H b=some o->ok' b/\H' b=some o) (h:RC K ok H a xs):RC K ok' H' a xs:=
 h.elim (fun z=>.inl (Rd.mono f z.1 z.2)) .inr
theorem RT.mono (f:∀ b o,ok b->H b=some o->ok' b/\H' b=some o) (h:RT K ok H a xs):RT K ok' H' a xs:=f _ _ h.1 h.2
end
mutual
inductive Rep (K:PySem.W.Frag) (ok:Okk) (H:Hp):V->D->Prop
 |non:Rep K ok H .non .non
 |bl (b:Bool):Rep K ok H (.bl b) (.bl b)
 |int (i:Int):Rep K ok H (.int i) (.int i)
 |str (x:Str):Rep K ok H (.str x) (.str x)
 |lst {a:Addr}{xs:List V}{ds:List D}:RL K ok H a xs->Reps K ok H xs ds->Rep K ok H (.ref a) (.lst ds)
 |tup {a:Addr}{xs:List V}{ds:List D}:RT K ok H a xs->Reps K ok H xs ds->Rep K ok H (.ref a) (.tup ds)
 |obj {n:Nat}{a:Addr}:ok.al n=some a->Rep K ok H (.ref a) (.obj n)
 |scr {a:Addr}{xs:List V}{ds:List D}:RC K ok H a xs->Reps K ok H xs ds->Rep K ok H (.ref a) (.scr ds)
inductive Reps (K:PySem.W.Frag) (ok:Okk) (H:Hp):List V->List D->Prop
 |nil:Reps K ok H [] []
 |cons {v:V}{d:D}{vs:List V}{ds:List D}:Rep K ok H v d->Reps K ok H vs ds->Reps K ok H (v::vs) (d::ds)
end
section
variable {K:PySem.W.Frag}{ok ok':Okk}{H H':Hp}
mutual
theorem Rep.mono (f:∀ b o,ok b->H b=some o->ok' b/\H' b=some o) (g:∀ n a,ok.al n=some a->ok'.al n=some a:=by exact fun _ _ h=>h):∀ {v:V}{d:D},Rep K ok H v d->Rep K ok' H' v d
 |_,_,.non=>.non
 |_,_,.bl b=>.bl b
 |_,_,.int i=>.int i
 |_,_,.str x=>.str x
 |_,_,.lst h r=>.lst (h.mono f) (Reps.mono f g r)
 |_,_,.tup h r=>.tup (h.mono f) (Reps.mono f g r)
 |_,_,.obj e=>.obj (g _ _ e)
 |_,_,.scr h r=>.scr (h.mono f) (Reps.mono f g r)
theorem Reps.mono (f:∀ b o,ok b->H b=some o->ok' b/\H' b=some o) (g:∀ n a,ok.al n=some a->ok'.al n=some a:=by exact fun _ _ h=>h):∀ {vs:List V}{ds:List D},Reps K ok H vs ds->Reps K ok' H' vs ds
 |_,_,.nil=>.nil
 |_,_,.cons h r=>.cons (Rep.mono f g h) (Reps.mono f g r)
end
theorem Rep.same {v:V}{d:D} (e:Same H H') (h:Rep K ok H v d):Rep K ok H' v d:=h.mono fun b o k q=>⟨k,e b o q⟩
theorem Reps.same {vs:List V}{ds:List D} (e:Same H H') (h:Reps K ok H vs ds):Reps K ok H' vs ds:=h.mono fun b o k q=>⟨k,e b o q⟩
theorem Rep.non_inv {v:V} (h:Rep K ok H v .non):v=.non:=by cases h;rfl
theorem Rep.bl_inv {v:V}{b:Bool} (h:Rep K ok H v (.bl b)):v=.bl b:=by cases h;rfl
theorem Rep.int_inv {v:V}{i:Int} (h:Rep K ok H v (.int i)):v=.int i:=by cases h;rfl
theorem Rep.str_inv {v:V}{x:Str} (h:Rep K ok H v (.str x)):v=.str x:=by cases h;rfl
theorem Rep.lst_inv {v:V}{ds:List D} (h:Rep K ok H v (.lst ds)):∃ a xs,v=.ref a/\RL K ok H a xs/\Reps K ok H xs ds:=by cases h;exact⟨_,_,rfl,‹_›,‹_›⟩
theorem Rep.tup_inv {v:V}{ds:List D} (h:Rep K ok H v (.tup ds)):∃ a xs,v=.ref a/\RT K ok H a xs/\Reps K ok H xs ds:=by cases h;exact⟨_,_,rfl,‹_›,‹_›⟩
theorem Rep.scr_inv {v:V}{ds:List D} (h:Rep K ok H v (.scr ds)):∃ a xs,v=.ref a/\RC K ok H a xs/\Reps K ok H xs ds:=by cases h;exact⟨_,_,rfl,‹_›,‹_›⟩
theorem Rep.obj_inv {v:V}{n:Nat} (h:Rep K ok H v (.obj n)):∃ a,v=.ref a/\ok.al n=some a:=by cases h;exact⟨_,rfl,‹_›⟩
theorem Reps.length:∀ {vs:List V}{ds:List D},Reps K ok H vs ds->vs.length=ds.length
 |_,_,.nil=>rfl
 |_,_,.cons _ r=>by rw[List.length_cons,List.length_cons,Reps.length r]
theorem Reps.get:∀ {vs:List V}{ds:List D}{i:Nat}{d:D},Reps K ok H vs ds->ds[i]?=some d->∃ v,vs[i]?=some v/\Rep K ok H v d
 |_,_,_,_,.nil,e=>by simp at e
 |_,_,0,_,.cons h _,e=>by
  simp at e
  subst e
  exact⟨_,rfl,h⟩
 |_,_,i+1,d,.cons _ r,e=>by
  obtain⟨v,h1,h2⟩:=Reps.get (i:=i) (d:=d) r (by simpa using e)
  exact⟨v,by simpa using h1,h2⟩
theorem Reps.getV:∀ {vs:List V}{ds:List D}{i:Nat}{v:V},Reps K ok H vs ds->vs[i]?=some v->∃ d,ds[i]?=some d/\Rep K ok H v d
 |_,_,_,_,.nil,e=>by simp at e
 |_,_,0,_,.cons h _,e=>by
  simp at e
  subst e
  exact⟨_,rfl,h⟩
 |_,_,i+1,v,.cons _ r,e=>by
  obtain⟨d,h1,h2⟩:=Reps.getV (i:=i) (v:=v) r (by simpa using e)
  exact⟨d,by simpa using h1,h2⟩
theorem Reps.append:∀ {vs ws:List V}{ds es:List D},Reps K ok H vs ds->Reps K ok H ws es->Reps K ok H (vs++ws) (ds++es)
 |_,_,_,_,.nil,s=>s
 |_,_,_,_,.cons h r,s=>.cons h (Reps.append r s)
theorem Reps.snoc {vs:List V}{ds:List D}{v:V}{d:D} (h:Reps K ok H vs ds) (q:Rep K ok H v d):Reps K ok H (vs++[v]) (ds++[d]):=h.append (.cons q .nil)
theorem Reps.take:∀ {vs:List V}{ds:List D} (n:Nat),Reps K ok H vs ds->Reps K ok H (vs.take n) (ds.take n)
 |_,_,0,_=>.nil
 |_,_,_+1,.nil=>.nil
 |_,_,n+1,.cons h r=>.cons h (Reps.take n r)
theorem Reps.drop:∀ {vs:List V}{ds:List D} (n:Nat),Reps K ok H vs ds->Reps K ok H (vs.drop n) (ds.drop n)
 |_,_,0,r=>r
 |_,_,_+1,.nil=>.nil
 |_,_,n+1,.cons _ r=>Reps.drop n r
theorem Reps.set {v:V}{d:D} (q:Rep K ok H v d):∀ {vs:List V}{ds:List D} (i:Nat),Reps K ok H vs ds->Reps K ok H (vs.set i v) (ds.set i d)
 |_,_,_,.nil=>.nil
 |_,_,0,.cons _ r=>.cons q r
 |_,_,i+1,.cons h r=>.cons h (Reps.set q i r)
theorem Reps.ints:∀(ns:List Int),Reps K ok H (ns.map V.int) (ns.map D.int)
 |[]=>.nil
 |n::ns=>.cons (.int n) (Reps.ints ns)
theorem Reps.of_ints:∀ {ns:List Int}{vs:List V},Reps K ok H vs (ns.map D.int)->vs=ns.map V.int
 |[],_,.nil=>rfl
 |n::ns,_,.cons h r=>by
  cases h
  rw[Reps.of_ints r]
  rfl
theorem Rep.lst_new {p:Addr}{xs:List V}{ds:List D} (k:ok p) (n:H p=none) (r:Reps K ok H xs ds):Rep K ok (upd H p (.lst xs)) (.ref p) (.lst ds):=
 .lst ⟨k,aS⟩ (r.mono fun b o q e=>⟨q,by rw[aM (aQ e n)];exact e⟩)
theorem Rep.tup_new {p:Addr}{xs:List V}{ds:List D} (k:ok p) (n:H p=none) (r:Reps K ok H xs ds):Rep K ok (upd H p (.tup xs)) (.ref p) (.tup ds):=
 .tup ⟨k,aS⟩ (r.mono fun b o q e=>⟨q,by rw[aM (aQ e n)];exact e⟩)
end
theorem dE {H:Hp}{p:Addr}{o:HO} (n:H p=none):Same H (upd H p o):=fun b u e=>by
 rw[aM (aQ e n)]
 exact e
abbrev Rho:=List (Option D)
abbrev DF:=Rho->Option D
abbrev DB:=Rho->Option Bool
abbrev DL:=Rho->Option (List D)
structure OkH (ok:Okk) (H:Hp):Prop where
 fn:∀ b,H b=none->ok b
 tp:∀ b xs,H b=some (.tup xs)->ok b
instance {ok:Okk}{H:Hp}:CoeFun (OkH ok H) (fun _=>∀ b,H b=none->ok b):=⟨OkH.fn⟩
theorem OkH.same {ok:Okk}{H H':Hp} (h:OkH ok H) (e:Same H H'):OkH ok H':=⟨fun b n=>h b (e.free n),fun b xs q=>by
 cases z:H b with
 |none=>exact h b z
 |some o=>
  rw[e b o z] at q
  cases q
  exact h.tp b xs z⟩
def EnvR (K:PySem.W.Frag) (ok:Okk) (H:Hp) (σ:St) (ρ:Rho):Prop:=∀(i:Nat) (d:D),ρ[i]?=some (some d)->∃ v,σ[i]?=some (some v)/\Rep K ok H v d
theorem EnvR.same {K:PySem.W.Frag}{ok:Okk}{H H':Hp}{σ:St}{ρ:Rho} (h:EnvR K ok H σ ρ) (e:Same H H'):EnvR K ok H' σ ρ:=fun i d q=>
 let ⟨v,a,b⟩:=h i d q
 ⟨v,a,b.same e⟩
def tD (K:PySem.W.Frag) (f:DF):TE:=fun σ H Q=>∃(ok:Okk) (ρ:Rho) (d:D),OkH ok H/\EnvR K ok H σ ρ/\f ρ=some d/\∀ v H',Same H H'->Rep K ok H' v d->Q v H'
def tDA (K:PySem.W.Frag) (f:DL):TA:=fun σ H Q=>∃(ok:Okk) (ρ:Rho) (ds:List D),OkH ok H/\EnvR K ok H σ ρ/\f ρ=some ds/\∀ vs H',Same H H'->Reps K ok H' vs ds->Q vs H'
abbrev DE (X:Cx) (e:Expr) (f:DF):Prop:=PE X e (tD X.K f)
abbrev DA (X:Cx) (es:List Expr) (f:DL):Prop:=PA X es (tDA X.K f)
theorem _root_.L2.PE.imp {X:Cx}{e:Expr}{t t':TE} (h:PE X e t) (f:∀ σ H Q,t' σ H Q->t σ H Q):PE X e t':=fun pins s σ H Q I q=>h pins s σ H Q I (f _ _ _ q)
theorem _root_.L2.PT.imp {X:Cx}{e:Expr}{t t':TT} (h:PT X e t) (f:∀ σ H Q,t' σ H Q->t σ H Q):PT X e t':=fun pins s σ H Q I q=>h pins s σ H Q I (f _ _ _ q)
theorem _root_.L2.PA.imp {X:Cx}{e:List Expr}{t t':TA} (h:PA X e t) (f:∀ σ H Q,t' σ H Q->t σ H Q):PA X e t':=fun p pins s σ H Q I q=>h p pins s σ H Q I (f _ _ _ q)
theorem _root_.L2.PS.imp {X:Cx}{e:Stmt}{t t':TS} (h:PS X e t) (f:∀ D σ H,t' D σ H->t D σ H):PS X e t':=fun pins s σ H D I q=>h pins s σ H D I (f _ _ _ q)
theorem _root_.L2.PSs.imp {X:Cx}{e:List Stmt}{t t':TS} (h:PSs X e t) (f:∀ D σ H,t' D σ H->t D σ H):PSs X e t':=fun pins s σ H D I q=>h pins s σ H D I (f _ _ _ q)
def aF (i:Nat):DF:=fun ρ=>ρ[i]?.join
def dC (d:D):DF:=fun _=>some d
def d1 (g:D->Option D) (f:DF):DF:=fun ρ=>(f ρ).bind g
def PH:DL:=fun _=>some []
def LL (f:DF) (r:DL):DL:=fun ρ=>(f ρ).bind fun d=>(r ρ).map fun ds=>d::ds
theorem aX {α β:Type}{o:Option α}{f:α->Option β}{b:β} (h:o.bind f=some b):∃ a,o=some a/\f a=some b:=by
 cases o with
 |none=>cases h
 |some a=>exact⟨a,rfl,h⟩
section
variable {X:Cx}{e a b:Expr}{es:List Expr}{f fa fb:DF}{fl:DL}{pos:Pos}
theorem Oc {i:Nat}{x:Str} (h:PE X (.Name x pos) (PX i)):DE X (.Name x pos) (aF i):=h.imp fun σ H Q ⟨ok,ρ,d,h1,h2,h3,h4⟩=>by
 have e:ρ[i]?=some (some d):=by
  unfold aF at h3
  cases q:ρ[i]? with
  |none=>rw[q] at h3;cases h3
  |some o=>rw[q] at h3;cases o with
   |none=>cases h3
   |some d'=>cases h3;rfl
 obtain⟨v,e1,e2⟩:=h2 i d e
 exact⟨v,e1,h4 v H (Same.refl H) e2⟩
theorem dv (i:Nat) {x:Str}{pos:Pos} (hN:X.N[i]?=some x:=by rfl) (hv:Vis X.env.scope x:=by first|exact Or.inl rfl|exact Or.inr (Or.inl rfl)|exact Or.inr (Or.inr rfl)) (hd:(x==("__debug__":Str))=false:=by decide)
  (hcd:(x==("__classdict__":Str))=false:=by decide):DE X (.Name x pos) (aF i):=Oc (MQ hN hv hd hcd)
theorem tF {v:V}{d:D} (h:PE X e (tC v)) (r:∀ K ok H,Rep K ok H v d):DE X e (dC d):=h.imp fun σ H Q ⟨ok,ρ,d',h1,h2,h3,h4⟩=>by
 cases h3
 exact h4 v H (Same.refl H) (r _ _ _)
theorem aG {i j pos}:DE X (.Constant (.int i) j pos) (dC (.int i)):=tF MV fun _ _ _=>.int i
theorem pY {b j pos}:DE X (.Constant (.bool b) j pos) (dC (.bl b)):=tF Pg fun _ _ _=>.bl b
theorem uW {j pos}:DE X (.Constant .none j pos) (dC .non):=tF MU fun _ _ _=>.non
theorem eK {x j pos}:DE X (.Constant (.str x) j pos) (dC (.str x)):=tF MR fun _ _ _=>.str x
def Fit2 (K:PySem.W.Frag) (r:R2) (g:D->D->Option D):Prop:=∀(ok:Okk) (H:Hp) (x y:V) (a b d:D) (Q:VK),OkH ok H->Rep K ok H x a->Rep K ok H y b->g a b=some d->(∀ v H',Same H H'->Rep K ok H' v d->Q v H')->r x y H Q
def QV (K:PySem.W.Frag) (r:V->Hp->VK->Prop) (g:D->Option D):Prop:=∀(ok:Okk) (H:Hp) (x:V) (a d:D) (Q:VK),OkH ok H->Rep K ok H x a->g a=some d->(∀ v H',Same H H'->Rep K ok H' v d->Q v H')->r x H Q
def FitL (K:PySem.W.Frag) (r:List V->Hp->VK->Prop) (g:List D->Option D):Prop:=∀(ok:Okk) (H:Hp) (xs:List V) (as:List D) (d:D) (Q:VK),OkH ok H->Reps K ok H xs as->g as=some d->(∀ v H',Same H H'->Rep K ok H' v d->Q v H')->r xs H Q
def toB:D->Option Bool
 |.bl b=>some b
 |_=>none
theorem tL {d:D}{k:Bool} (h:toB d=some k):d=.bl k:=by
 cases d with
 |bl b=>cases h;rfl
 |_=>cases h
theorem PD {op:UnaryOp}{r:V->Hp->VK->Prop}{g:D->Option D} (ho:UnR X (unaryOp op) r) (F:QV X.K r g) (ha:DE X a fa):DE X (.UnaryOp op a pos) (d1 g fa):=
 (Pd ho ha).imp fun σ H Q ⟨ok,ρ,d,h1,h2,h3,h4⟩=>by
  obtain⟨x,e1,h3⟩:=aX h3
  exact⟨ok,ρ,x,h1,h2,e1,fun v H1 s1 r1=>F ok H1 v x d Q (h1.same s1) r1 h3 fun w H3 s3 r3=>h4 w H3 (s1.trans s3) r3⟩
theorem Od:DA X [] PH:=(PA.imp xB) fun σ H Q ⟨ok,ρ,d,h1,h2,h3,h4⟩=>by
 cases h3
 exact h4 [] H (Same.refl H) .nil
theorem LH (ha:DE X e f) (hr:DA X es fl) (hs:starEach (e::es) X.env=(false,eval e X.env)::starEach es X.env:=by rfl):DA X (e::es) (LL f fl):=
 (jT ha hr hs).imp fun σ H Q ⟨ok,ρ,ds,h1,h2,h3,h4⟩=>by
  obtain⟨x,e1,h3⟩:=aX h3
  cases e2:fl ρ with
  |none=>rw[e2] at h3;cases h3
  |some r=>
   rw[e2] at h3
   cases h3
   exact⟨ok,ρ,x,h1,h2,e1,fun v H1 s1 r1=>⟨ok,ρ,r,h1.same s1,h2.same s1,e2,fun vs H2 s2 r2=>h4 (v::vs) H2 (s1.trans s2) (.cons (r1.same s2) r2)⟩⟩
def iN (ds:List D):Option D:=if ds.length<=sizeLine then some (.tup ds) else none
def pV (ds:List D):Option D:=if ds.length<=sizeLine then some (.lst ds) else none
theorem bU {α:Type}{c:Prop} [Decidable c] {a b:α} (h:(if c then some a else none)=some b):c/\a=b:=by
 by_cases hc:c
 ·rw[if_pos hc] at h
  exact⟨hc,Option.some.inj h⟩
 ·rw[if_neg hc] at h
  cases h
end
end L2.MB
end
section
namespace L2.MB
open PySem PySem.Spec PyProof.Rows
def gI (g:Int->Int->Option D) (a b:D):Option D:=match a,b with
 |.int i,.int j=>g i j
 |_,_=>none
theorem JT {g:Int->Int->Option D}{a b d:D} (h:gI g a b=some d):∃ i j,a=.int i/\b=.int j/\g i j=some d:=by
 unfold gI at h
 split at h
 ·exact⟨_,_,rfl,rfl,h⟩
 ·cases h
abbrev vZ:=gI fun i j=>some (.int (i+j))
abbrev gSub:=gI fun i j=>some (.int (i-j))
abbrev jF:=gI fun i j=>if(-1000000000000000000<i/\i<1000000000000000000)∨(-1000000000000000000<j/\j<1000000000000000000) then some (.int (i*j)) else none
abbrev cW:=gI fun i j=>if 0<j then some (.int (i % j)) else none
abbrev gLt:=gI fun i j=>some (.bl (decide (i<j)))
abbrev gLe:=gI fun i j=>some (.bl (decide (i<=j)))
abbrev gGt:=gI fun i j=>some (.bl (decide (j<i)))
theorem rW {K:PySem.W.Frag}{g:Int->Int->V}{g':Int->Int->D} (r:∀ i j ok H,Rep K ok H (g i j) (g' i j)):Fit2 K (rI0 g) (gI fun i j=>some (g' i j)):=fun ok H x y a b d Q h1 ra rb e k=>by
 obtain⟨i,j,rfl,rfl,e⟩:=JT e
 cases e
 exact⟨i,j,ra.int_inv,rb.int_inv,k _ H (Same.refl H) (r i j ok H)⟩
theorem NW {K:PySem.W.Frag}{C C':Int->Int->Prop} [∀ i j,Decidable (C' i j)] {g:Int->Int->V}{g':Int->Int->D} (hC:∀ i j,C' i j->C i j) (r:∀ i j ok H,Rep K ok H (g i j) (g' i j)):
  Fit2 K (rI C g) (gI fun i j=>if C' i j then some (g' i j) else none):=fun ok H x y a b d Q h1 ra rb e k=>by
 obtain⟨i,j,rfl,rfl,e⟩:=JT e
 obtain⟨hc,rfl⟩:=bU e
 exact⟨i,j,ra.int_inv,rb.int_inv,hC i j hc,k _ H (Same.refl H) (r i j ok H)⟩
section
variable {X:Cx}{e a b c:Expr}{es:List Expr}{f fa fb fc:DF}{fl:DL}{pos:Pos}
def Pv (a:D):Option D:=match a with
 |.int i=>some (.int (-i))
 |_=>none
theorem JV (ha:DE X a fa):DE X (.UnaryOp .USub a pos) (d1 Pv fa):=PD Ml (fun ok H x a d Q h1 r e k=>by
 cases a with
 |int i=>cases e;exact⟨i,r.int_inv,k _ H (Same.refl H) (.int _)⟩
 |_=>cases e) ha
def PV:D->Option Bool
 |.non=>some false
 |.bl b=>some b
 |.int i=>some (i !=0)
 |.str x=>if x.length<=sizeLine then some ((x.length:Int) !=0) else none
 |.lst ds=>some (!ds.isEmpty)
 |.tup ds=>some (!ds.isEmpty)
 |.obj _=>none
 |.scr ds=>some (!ds.isEmpty)
theorem Reps.isEmpty {K:PySem.W.Frag}{ok:Okk}{H:Hp}{vs:List V}{ds:List D} (h:Reps K ok H vs ds):vs.isEmpty=ds.isEmpty:=by cases h <;> rfl
theorem Kc {K:PySem.W.Frag}{ok:Okk}{H:Hp}{v:V}{d:D}{k:Bool} (h:Rep K ok H v d) (e:PV d=some k):PL K v H k:=by
 cases h with
 |non=>cases e;exact rfl
 |bl b=>cases e;exact rfl
 |int i=>cases e;exact rfl
 |str x=>
  obtain⟨hz,rfl⟩:=bU e
  exact⟨hz,rfl⟩
 |lst h r=>
  cases e
  exact .inl ⟨_,h.sq,by rw[r.isEmpty]⟩
 |tup h r=>
  cases e
  exact .inr (.inl ⟨_,h.sq,by rw[r.isEmpty]⟩)
 |obj _=>cases e
 |scr h r=>
  cases e
  exact .inl ⟨_,h.sq,by rw[r.isEmpty]⟩
theorem _root_.L2.PW.imp {X:Cx}{e:Expr}{t t':TT} (h:PW X e t) (f:∀ σ H Q,t' σ H Q->t σ H Q):PW X e t':=fun wh pins s σ H Q I q=>h wh pins s σ H Q I (f _ _ _ q)
variable {ba bb:DB}{rest:List Expr}
def QN (a:D):Option D:=(toB a).map fun k=>.bl (!k)
def Lz (a b:D):Option D:=match a,b with
 |.str x,.str y=>if x.length+y.length<=sizeLine then some (.str (x++y)) else none
 |_,_=>none
def gIx (a b:D):Option D:=match a,b with
 |.lst ds,.int i=>atI ds i
 |.scr ds,.int i=>atI ds i
 |.tup ds,.int i=>atI ds i
 |.str x,.int i=>if x.length<=sizeLine then(atI x.cps.toList i).map fun c=>.str ⟨#[c]⟩ else none
 |_,_=>none
theorem Reps.atI {K:PySem.W.Frag}{ok:Okk}{H:Hp}{vs:List V}{ds:List D}{i:Int}{d:D} (h:Reps K ok H vs ds) (e:L2.atI ds i=some d):∃ v,L2.atI vs i=some v/\Rep K ok H v d:=by
 unfold L2.atI at e ⊢
 rw[h.length]
 cases q:ixN ds.length i with
 |none=>rw[q] at e;cases e
 |some j=>
  rw[q] at e
  exact h.get e
def EU (ds:List D) (lo hi:Option Int):List D:=(ds.drop (HT.sIx ds.length 0 lo)).take (HT.sIx ds.length ds.length hi-HT.sIx ds.length 0 lo)
theorem Reps.cut {K:PySem.W.Frag}{ok:Okk}{H:Hp}{vs:List V}{ds:List D} (h:Reps K ok H vs ds) (lo hi:Option Int):Reps K ok H (JW vs lo hi) (EU ds lo hi):=by
 unfold JW EU
 rw[h.length]
 exact(h.drop _).take _
abbrev DO:=Rho->Option (Option Int)
def tDO (K:PySem.W.Frag) (f:DO):TO:=fun σ H Q=>∃(ok:Okk) (ρ:Rho) (o:Option Int),OkH ok H/\EnvR K ok H σ ρ/\f ρ=some o/\∀ H',Same H H'->Q o H'
theorem _root_.L2.PO.imp {X:Cx}{e:Option Expr}{t t':TO} (h:PO X e t) (f:∀ σ H Q,t' σ H Q->t σ H Q):PO X e t':=fun pins s σ H Q I q=>h pins s σ H Q I (f _ _ _ q)
abbrev DOp (X:Cx) (e:Option Expr) (f:DO):Prop:=PO X e (tDO X.K f)
def dNo:DO:=fun _=>some none
def toI:D->Option Int
 |.int i=>some i
 |_=>none
theorem BV {d:D}{i:Int} (h:toI d=some i):d=.int i:=by
 cases d with
 |int b=>cases h;rfl
 |_=>cases h
def dSo (f:DF):DO:=fun ρ=>(f ρ).bind fun d=>(toI d).map some
theorem GP:DOp X none dNo:=PO.imp Kv fun σ H Q ⟨ok,ρ,o,h1,h2,h3,h4⟩=>by
 cases h3
 exact h4 H (Same.refl H)
theorem qU (h:DE X e f):DOp X (some e) (dSo f):=PO.imp (Ku h) fun σ H Q ⟨ok,ρ,o,h1,h2,h3,h4⟩=>by
 obtain⟨d,e1,e2⟩:=aX h3
 cases e3:toI d with
 |none=>rw[e3] at e2;cases e2
 |some i=>
  rw[e3] at e2
  cases e2
  obtain rfl:=BV e3
  exact⟨ok,ρ,_,h1,h2,e1,fun v H1 s1 r1=>⟨i,r1.int_inv,h4 H1 s1⟩⟩
def gSl (a:D) (lo hi:Option Int):Option D:=match a with
 |.lst ds=>some (.lst (EU ds lo hi))
 |.scr ds=>some (.lst (EU ds lo hi))
 |.tup ds=>if HT.sIx ds.length 0 lo=0/\HT.sIx ds.length ds.length hi=ds.length then none else some (.tup (EU ds lo hi))
 |_=>none
def Pw (ds:List D):Option D:=match ds with
 |[.lst xs]=>some (.int xs.length)
 |[.scr xs]=>some (.int xs.length)
 |[.tup xs]=>some (.int xs.length)
 |[.str x]=>if x.length<=sizeLine then some (.int x.length) else none
 |_=>none
theorem Reps.one_inv {K:PySem.W.Frag}{ok:Okk}{H:Hp}{vs:List V}{d:D} (h:Reps K ok H vs [d]):∃ v,vs=[v]/\Rep K ok H v d:=by
 cases h with
 |cons a r=>cases r;exact⟨_,rfl,a⟩
theorem Reps.two_inv {K:PySem.W.Frag}{ok:Okk}{H:Hp}{vs:List V}{d d':D} (h:Reps K ok H vs [d,d']):∃ v v',vs=[v,v']/\Rep K ok H v d/\Rep K ok H v' d':=by
 cases h with
 |cons a r=>
  obtain⟨v',rfl,b⟩:=r.one_inv
  exact⟨_,_,rfl,a,b⟩
theorem LC {K:PySem.W.Frag}:FitL K (fun xs H Q=>∃ x n,xs=[x]/\PU K x H n/\Q (.int n) H) Pw:=fun ok H xs as d Q h1 r e k=>by
 unfold Pw at e
 split at e
 ·cases e
  obtain⟨v,rfl,r1⟩:=r.one_inv
  obtain⟨p,ys,rfl,g,r2⟩:=r1.lst_inv
  exact⟨_,_,rfl,.inl ⟨_,g.sq,r2.length.symm⟩,k _ H (Same.refl H) (.int _)⟩
 ·cases e
  obtain⟨v,rfl,r1⟩:=r.one_inv
  obtain⟨p,ys,rfl,g,r2⟩:=r1.scr_inv
  exact⟨_,_,rfl,.inl ⟨_,g.sq,r2.length.symm⟩,k _ H (Same.refl H) (.int _)⟩
 ·cases e
  obtain⟨v,rfl,r1⟩:=r.one_inv
  obtain⟨p,ys,rfl,g,r2⟩:=r1.tup_inv
  exact⟨_,_,rfl,.inr ⟨_,g.sq,r2.length.symm⟩,k _ H (Same.refl H) (.int _)⟩
 ·obtain⟨hz,rfl⟩:=bU e
  obtain⟨v,rfl,r1⟩:=r.one_inv
  obtain rfl:=r1.str_inv
  exact⟨_,_,rfl,⟨hz,rfl⟩,k _ H (Same.refl H) (.int _)⟩
 ·cases e
end
end L2.MB
end
section
namespace L2.MB
open PySem PySem.Spec PyProof.Rows
def nO (f:D->D->Option Bool):List D->List D->Option Bool
 |[],_=>some true
 |_::_,[]=>some true
 |x::xs,y::ys=>(f x y).bind fun b=>(nO f xs ys).map fun c=>b&&c
def eqS:D->D->Bool
 |.non,.non=>true
 |.bl a,.bl b=>a==b
 |.bl a,.int b=>(if a then 1 else 0)==b
 |.int a,.bl b=>a==(if b then 1 else 0)
 |.int a,.int b=>a==b
 |.str a,.str b=>a==b
 |_,_=>false
def eqD:Nat->D->D->Option Bool
 |n+1,.lst xs,.lst ys=>if xs.length=ys.length then nO (eqD n) xs ys else some false
 |n+1,.tup xs,.tup ys=>(nO (eqD n) xs ys).map fun k=>k&&xs.length==ys.length
 |0,.lst _,.lst _=>none
 |0,.tup _,.tup _=>none
 |_,.obj _,_=>none
 |_,_,.obj _=>none
 |_,.scr _,_=>none
 |_,_,.scr _=>none
 |_,a,b=>some (eqS a b)
def eAt (f:D->D->Option Bool) (xs ys:List D) (j:Nat):Bool:=match xs[j]?,ys[j]? with
 |some x,some y=>(f x y).getD false
 |_,_=>false
theorem kI {f:D->D->Option Bool}:∀ {xs ys:List D}{k:Bool}{j:Nat}{x y:D},nO f xs ys=some k->xs[j]?=some x->ys[j]?=some y->f x y=some (eAt f xs ys j)
 |[],_,_,_,_,_,_,h,_=>by simp at h
 |_::_,[],_,_,_,_,_,_,h=>by simp at h
 |x'::xs,y'::ys,k,j,x,y,h,h1,h2=>by
  obtain⟨b,e1,e2⟩:=aX h
  cases q:nO f xs ys with
  |none=>rw[q] at e2;cases e2
  |some c=>
   cases j with
   |zero=>
    simp at h1 h2
    subst h1 h2
    simp[eAt,e1]
   |succ j=>
    simp at h1 h2
    have:=kI q h1 h2
    simpa [eAt] using this
theorem qC {f:D->D->Option Bool}:∀ {xs ys:List D}{k:Bool},nO f xs ys=some k->k=(List.range (min xs.length ys.length)).all (eAt f xs ys)
 |[],ys,k,h=>by
  cases h
  simp
 |_::_,[],k,h=>by
  cases h
  simp
 |x::xs,y::ys,k,h=>by
  obtain⟨b,e1,e2⟩:=aX h
  cases q:nO f xs ys with
  |none=>rw[q] at e2;cases e2
  |some c=>
   rw[q] at e2
   cases e2
   have ih:=qC q
   have em:min (x::xs).length (y::ys).length=min xs.length ys.length+1:=by
    rw[List.length_cons,List.length_cons]
    omega
   rw[em,List.range_succ_eq_map,List.all_cons,List.all_map]
   have e0:eAt f (x::xs) (y::ys) 0=b:=by simp[eAt,e1]
   have e3:(eAt f (x::xs) (y::ys)∘Nat.succ)=eAt f xs ys:=by
    funext j
    simp[eAt]
   rw[e0,e3,ih]
theorem dQ (n m:Nat) (b:D):eqD n (.obj m) b=none:=by cases n <;> cases b <;> rfl
theorem bW (n m:Nat) (a:D):eqD n a (.obj m)=none:=by cases n <;> cases a <;> rfl
theorem dP (n:Nat) (m:List D) (b:D):eqD n (.scr m) b=none:=by cases n <;> cases b <;> rfl
theorem bV (n:Nat) (m:List D) (a:D):eqD n a (.scr m)=none:=by cases n <;> cases a <;> rfl
section
variable {X:Cx}{pins:List (Addr×Obj)}{σ:St}{H:Hp}{s:Shared}{ok ok':Okk}
theorem fQ {A:Around}{n:Nat} (h:A.units+(n+1)<cLine):A.in1.units+n<cLine:=by
 show A.units+1+n<cLine
 omega
theorem lI (I:Inv X pins σ H s) {a:Addr}{xs ys:List V} (h:RL X.K ok H a xs) (g:RT X.K ok' H a ys):False:=by
 obtain⟨_,_,⟨o,n,e,c,_,_⟩,_⟩:=I.list h.sq
 obtain⟨_,_,⟨o',e',c',_⟩,_⟩:=I.tuple g.sq
 rw[e] at e'
 cases e'
 rw[c] at c'
 exact absurd c' (by decide)
theorem vG {n:Nat} (ih:∀ {v:V}{a b:D}{k:Bool},Rep X.K ok H v a->Rep X.K ok' H v b->eqD n a b=some k->k=true):∀ {vs:List V}{ds es:List D}{k:Bool},Reps X.K ok H vs ds->Reps X.K ok' H vs es->nO (eqD n) ds es=some k->k=true
 |_,_,_,_,.nil,.nil,h=>by cases h;rfl
 |_,_,_,_,.cons r rs,.cons q qs,h=>by
  obtain⟨b,e1,e2⟩:=aX h
  cases z:nO (eqD n) _ _ with
  |none=>rw[z] at e2;cases e2
  |some c=>
   rw[z] at e2
   cases e2
   rw[ih r q e1,vG ih rs qs z]
   rfl
theorem IY (I:Inv X pins σ H s):∀(n:Nat) {v:V}{a b:D}{k:Bool},Rep X.K ok H v a->Rep X.K ok' H v b->eqD n a b=some k->k=true:=by
 intro n
 induction n with
 |zero=>
  intro v a b k ra rb e
  cases ra with
  |lst g r=>cases rb with
   |lst g' r'=>cases e
   |tup g' r'=>exact(lI I g g').elim
   |obj _=>rw[bW] at e;cases e
   |scr _ _=>rw[bV] at e;cases e
  |tup g r=>cases rb with
   |tup g' r'=>cases e
   |lst g' r'=>exact(lI I g' g).elim
   |obj _=>rw[bW] at e;cases e
   |scr _ _=>rw[bV] at e;cases e
  |obj _=>rw[dQ] at e;cases e
  |scr _ _=>rw[dP] at e;cases e
  |_=>cases rb;cases e;simp[eqS]
 |succ n ih=>
  intro v a b k ra rb e
  cases ra with
  |@lst p xs ds g r=>cases rb with
   |@lst _ xs' ds' g' r'=>
    obtain rfl:=I.list_inj g.sq g'.sq
    have e':(if ds.length=ds'.length then nO (eqD n) ds ds' else some false)=some k:=e
    rw[if_pos (by rw[<- r.length,<- r'.length])] at e'
    exact vG ih r r' e'
   |tup g' r'=>exact(lI I g g').elim
   |obj _=>rw[bW] at e;cases e
   |scr _ _=>rw[bV] at e;cases e
  |@tup p xs ds g r=>cases rb with
   |@tup _ xs' ds' g' r'=>
    obtain rfl:=I.tuple_inj g.sq g'.sq
    have e':((nO (eqD n) ds ds').map fun k=>k&&ds.length==ds'.length)=some k:=e
    have hl:ds.length=ds'.length:=by rw[<- r.length,<- r'.length]
    cases q:nO (eqD n) ds ds' with
    |none=>rw[q] at e';cases e'
    |some c=>
     rw[q] at e'
     cases e'
     rw[vG ih r r' q,hl]
     simp
   |lst g' r'=>exact(lI I g' g).elim
   |obj _=>rw[bW] at e;cases e
   |scr _ _=>rw[bV] at e;cases e
  |obj _=>rw[dQ] at e;cases e
  |scr _ _=>rw[dP] at e;cases e
  |_=>cases rb;cases e;simp[eqS]
theorem vI {n:Nat} (ih:∀ {v:V}{a b c:D}{k k':Bool},Rep X.K ok H v a->Rep X.K ok' H v b->eqD n a c=some k->eqD n b c=some k'->k=k'):∀ {vs:List V}{ds es as:List D}{k k':Bool},Reps X.K ok H vs ds->Reps X.K ok' H vs es->nO (eqD n) ds as=some k->nO (eqD n) es as=some k'->k=k'
 |_,_,_,_,_,_,.nil,.nil,h,h'=>by cases h;cases h';rfl
 |_,_,_,[],_,_,.cons r rs,.cons q qs,h,h'=>by cases h;cases h';rfl
 |_,_,_,a::as,_,_,.cons r rs,.cons q qs,h,h'=>by
  obtain⟨b,e1,e2⟩:=aX h
  obtain⟨b',e1',e2'⟩:=aX h'
  cases z:nO (eqD n) _ as with
  |none=>rw[z] at e2;cases e2
  |some c=>
   rw[z] at e2
   cases e2
   cases z':nO (eqD n) _ as with
   |none=>rw[z'] at e2';cases e2'
   |some c'=>
    rw[z'] at e2'
    cases e2'
    rw[ih r q e1 e1',vI ih rs qs z z']
theorem IZ (I:Inv X pins σ H s):∀(n:Nat) {v:V}{a b c:D}{k k':Bool},Rep X.K ok H v a->Rep X.K ok' H v b->eqD n a c=some k->eqD n b c=some k'->k=k':=by
 intro n
 induction n with
 |zero=>
  intro v a b c k k' ra rb e e'
  cases ra with
  |lst g r=>cases rb with
   |lst g' r'=>cases c <;> first|(cases e;done)|(cases e;cases e';rfl)
   |tup g' r'=>exact(lI I g g').elim
   |obj _=>rw[dQ] at e';cases e'
   |scr _ _=>rw[dP] at e';cases e'
  |tup g r=>cases rb with
   |tup g' r'=>cases c <;> first|(cases e;done)|(cases e;cases e';rfl)
   |lst g' r'=>exact(lI I g' g).elim
   |obj _=>rw[dQ] at e';cases e'
   |scr _ _=>rw[dP] at e';cases e'
  |obj _=>rw[dQ] at e;cases e
  |scr _ _=>rw[dP] at e;cases e
  |_=>cases rb;rw[e] at e';cases e';rfl
 |succ n ih=>
  intro v a b c k k' ra rb e e'
  cases ra with
  |@lst p xs ds g r=>cases rb with
   |@lst _ xs' ds' g' r'=>
    obtain rfl:=I.list_inj g.sq g'.sq
    have hl:ds.length=ds'.length:=by rw[<- r.length,<- r'.length]
    cases c with
    |lst cs=>
     have e1:(if ds.length=cs.length then nO (eqD n) ds cs else some false)=some k:=e
     have e2:(if ds'.length=cs.length then nO (eqD n) ds' cs else some false)=some k':=e'
     rw[<- hl] at e2
     by_cases z:ds.length=cs.length
     ·rw[if_pos z] at e1 e2
      exact vI ih r r' e1 e2
     ·rw[if_neg z] at e1 e2
      cases e1
      cases e2
      rfl
    |_=>first|(cases e;done)|(cases e;cases e';rfl)
   |tup g' r'=>exact(lI I g g').elim
   |obj _=>rw[dQ] at e';cases e'
   |scr _ _=>rw[dP] at e';cases e'
  |@tup p xs ds g r=>cases rb with
   |@tup _ xs' ds' g' r'=>
    obtain rfl:=I.tuple_inj g.sq g'.sq
    have hl:ds.length=ds'.length:=by rw[<- r.length,<- r'.length]
    cases c with
    |tup cs=>
     have e1:((nO (eqD n) ds cs).map fun k=>k&&ds.length==cs.length)=some k:=e
     have e2:((nO (eqD n) ds' cs).map fun k=>k&&ds'.length==cs.length)=some k':=e'
     rw[<- hl] at e2
     cases q:nO (eqD n) ds cs with
     |none=>rw[q] at e1;cases e1
     |some x=>
      cases q':nO (eqD n) ds' cs with
      |none=>rw[q'] at e2;cases e2
      |some x'=>
       rw[q] at e1
       rw[q'] at e2
       cases e1
       cases e2
       rw[vI ih r r' q q']
    |_=>first|(cases e;done)|(cases e;cases e';rfl)
   |lst g' r'=>exact(lI I g' g).elim
   |obj _=>rw[dQ] at e';cases e'
   |scr _ _=>rw[dP] at e';cases e'
  |obj _=>rw[dQ] at e;cases e
  |scr _ _=>rw[dP] at e;cases e
  |_=>cases rb;rw[e] at e';cases e';rfl
theorem CD (I:Inv X pins σ H s) (n:Nat) {A:Around}{a b:D}{x y:V}{v u:Value}{k:Bool} (ra:Rep X.K ok H x a) (rb:Rep X.K ok' H y b) (rv:RelV x v) (ru:RelV y u) (e:eqD n a b=some k) (hrc:SeqAt.RcAt A s v u k):SeqAt.EqAt A s v u k:=by
 by_cases hs:v=u
 ·subst hs
  obtain rfl:=rv.inj ru
  rw[IY I n ra rb e]
  exact SeqAt.EqAt.same v
 ·intro prog w E Q hq
  unfold eqBool
  refine wpAny_holding ?_
  refine wpAny_ite_split (fun hab=>absurd (eq_of_beq hab) hs) (fun _=> ?_)
  cases ra with
  |non=>cases rv;exact wpAny_bind (hrc prog w E _ (wpAny_truthy_bool hq))
  |bl b=>cases rv;exact wpAny_bind (hrc prog w E _ (wpAny_truthy_bool hq))
  |int i=>obtain⟨t,rfl⟩:=rv;exact wpAny_bind (hrc prog w E _ (wpAny_truthy_bool hq))
  |str z=>obtain⟨t,rfl⟩:=rv;exact wpAny_bind (hrc prog w E _ (wpAny_truthy_bool hq))
  |lst _ _=>cases rv;exact wpAny_bind (hrc prog w E _ (wpAny_truthy_bool hq))
  |tup _ _=>cases rv;exact wpAny_bind (hrc prog w E _ (wpAny_truthy_bool hq))
  |obj _=>rw[dQ] at e;cases e
  |scr _ _=>rw[dP] at e;cases e
theorem Jz (I:Inv X pins σ H s) (n:Nat):∀ {A:Around}{a b:D}{x y:V}{v u:Value}{k:Bool},Rep X.K ok H x a->Rep X.K ok' H y b->RelV x v->RelV y u->eqD n a b=some k->A.units+n<cLine->SeqAt.RcAt A s v u k:=by
 induction n using Nat.strongRecOn with
 |_ n ih=>
  intro A a b x y v u k ra rb rv ru e hu
  have hu0:A.units<cLine:=by omega
  cases ra with
  |non=>
   cases rv
   cases rb with
   |non=>cases ru;cases n <;> cases e <;> exact SeqAt.RcAt.none_none
   |obj _=>rw[bW] at e;cases e
   |scr _ _=>rw[bV] at e;cases e
   |bl b=>cases ru;cases n <;> cases e <;> exact SeqAt.RcAt.none_bool b
   |int b=>obtain⟨t,rfl⟩:=ru;cases n <;> cases e <;> exact SeqAt.RcAt.none_int b t
   |str b=>obtain⟨t,rfl⟩:=ru;cases n <;> cases e <;> exact SeqAt.RcAt.none_str b t
   |lst g r=>cases ru;obtain⟨its,_,pl,_⟩:=I.list g.sq;cases n <;> cases e <;> exact SeqAt.RcAt.none_list pl.isList hu0
   |tup g r=>cases ru;obtain⟨its,_,pl,_⟩:=I.tuple g.sq;cases n <;> cases e <;> exact SeqAt.RcAt.none_tuple pl hu0
  |bl a=>
   cases rv
   cases rb with
   |non=>cases ru;cases n <;> cases e <;> exact SeqAt.RcAt.bool_none a
   |obj _=>rw[bW] at e;cases e
   |scr _ _=>rw[bV] at e;cases e
   |bl b=>cases ru;cases n <;> cases e <;> exact SeqAt.RcAt.bool_bool a b
   |int b=>obtain⟨t,rfl⟩:=ru;cases n <;> cases e <;> exact SeqAt.RcAt.bool_int a b t
   |str b=>obtain⟨t,rfl⟩:=ru;cases n <;> cases e <;> exact SeqAt.RcAt.bool_str a b t
   |lst g r=>cases ru;obtain⟨its,_,pl,_⟩:=I.list g.sq;cases n <;> cases e <;> exact SeqAt.RcAt.bool_list a pl.isList hu0
   |tup g r=>cases ru;obtain⟨its,_,pl,_⟩:=I.tuple g.sq;cases n <;> cases e <;> exact SeqAt.RcAt.bool_tuple a pl hu0
  |int a=>
   obtain⟨t',rfl⟩:=rv
   cases rb with
   |non=>cases ru;cases n <;> cases e <;> exact SeqAt.RcAt.int_none a t'
   |obj _=>rw[bW] at e;cases e
   |scr _ _=>rw[bV] at e;cases e
   |bl b=>cases ru;cases n <;> cases e <;> exact SeqAt.RcAt.int_bool a t' b
   |int b=>obtain⟨t,rfl⟩:=ru;cases n <;> cases e <;> exact SeqAt.RcAt.int_int a t' b t
   |str b=>obtain⟨t,rfl⟩:=ru;cases n <;> cases e <;> exact SeqAt.RcAt.int_str a t' b t
   |lst g r=>cases ru;obtain⟨its,_,pl,_⟩:=I.list g.sq;cases n <;> cases e <;> exact SeqAt.RcAt.int_list a t' pl.isList hu0
   |tup g r=>cases ru;obtain⟨its,_,pl,_⟩:=I.tuple g.sq;cases n <;> cases e <;> exact SeqAt.RcAt.int_tuple a t' pl hu0
  |str a=>
   obtain⟨t',rfl⟩:=rv
   cases rb with
   |non=>cases ru;cases n <;> cases e <;> exact SeqAt.RcAt.str_none a t'
   |obj _=>rw[bW] at e;cases e
   |scr _ _=>rw[bV] at e;cases e
   |bl b=>cases ru;cases n <;> cases e <;> exact SeqAt.RcAt.str_bool a t' b
   |int b=>obtain⟨t,rfl⟩:=ru;cases n <;> cases e <;> exact SeqAt.RcAt.str_int a t' b t
   |str b=>obtain⟨t,rfl⟩:=ru;cases n <;> cases e <;> exact SeqAt.RcAt.str_str a t' b t
   |lst g r=>cases ru;obtain⟨its,_,pl,_⟩:=I.list g.sq;cases n <;> cases e <;> exact SeqAt.RcAt.str_list a t' pl.isList hu0
   |tup g r=>cases ru;obtain⟨its,_,pl,_⟩:=I.tuple g.sq;cases n <;> cases e <;> exact SeqAt.RcAt.str_tuple a t' pl hu0
  |obj _=>rw[dQ] at e;cases e
  |scr _ _=>rw[dP] at e;cases e
  |@lst p xs ds g r=>
   cases rv
   obtain⟨its,rr,pl,_⟩:=I.list g.sq
   cases rb with
   |non=>cases ru;cases n <;> cases e <;> exact SeqAt.RcAt.list_none pl.isList hu0
   |obj _=>rw[bW] at e;cases e
   |scr _ _=>rw[bV] at e;cases e
   |bl b=>cases ru;cases n <;> cases e <;> exact SeqAt.RcAt.list_bool b pl.isList hu0
   |int b=>obtain⟨t,rfl⟩:=ru;cases n <;> cases e <;> exact SeqAt.RcAt.list_int b t pl.isList hu0
   |str b=>obtain⟨t,rfl⟩:=ru;cases n <;> cases e <;> exact SeqAt.RcAt.list_str b t pl.isList hu0
   |tup g' r'=>cases ru;obtain⟨its',_,pl',_⟩:=I.tuple g'.sq;cases n <;> cases e <;> exact SeqAt.RcAt.list_tuple pl.isList pl' hu0
   |@lst p' xs' ds' g' r'=>
    cases ru
    obtain⟨its',rr',pl',_⟩:=I.list g'.sq
    have l1:its.toArray.size=ds.length:=by rw[List.size_toArray,<- rr.length,r.length]
    have l2:its'.toArray.size=ds'.length:=by rw[List.size_toArray,<- rr'.length,r'.length]
    cases n with
    |zero=>cases e
    |succ n=>
     have e':(if ds.length=ds'.length then nO (eqD n) ds ds' else some false)=some k:=e
     by_cases hl:ds.length=ds'.length
     ·rw[if_pos hl] at e'
      have hk:k=(List.range its.toArray.size).all (eAt (eqD n) ds ds'):=by
       rw[qC e',l1,<- hl,Nat.min_self]
      rw[hk]
      refine SeqAt.RcAt.lists pl.isList pl'.isList (by rw[l1,l2,hl]) hu0 fun j h1 h2=> ?_
      obtain⟨d,hd,rd⟩:=r.getV (i:=j) (v:=xs[j]'(by rw[r.length,<- l1];exact h1)) (by simp)
      obtain⟨d',hd',rd'⟩:=r'.getV (i:=j) (v:=xs'[j]'(by rw[r'.length,<- l2];exact h2)) (by simp)
      obtain⟨w,hw,rw1⟩:=rr.get (i:=j) (x:=xs[j]'(by rw[r.length,<- l1];exact h1)) (by simp)
      obtain⟨w',hw',rw2⟩:=rr'.get (i:=j) (x:=xs'[j]'(by rw[r'.length,<- l2];exact h2)) (by simp)
      have ew:its.toArray[j]=w:=by
       obtain⟨_,q⟩:=List.getElem?_eq_some_iff.mp hw
       simpa using q
      have ew':its'.toArray[j]=w':=by
       obtain⟨_,q⟩:=List.getElem?_eq_some_iff.mp hw'
       simpa using q
      rw[ew,ew']
      exact CD I n rd rd' rw1 rw2 (kI e' hd hd') (ih n (Nat.lt_succ_self n) rd rd' rw1 rw2 (kI e' hd hd') (fQ hu))
     ·rw[if_neg hl] at e'
      cases e'
      exact SeqAt.RcAt.lists_lengths pl.isList pl'.isList (by rw[l1,l2];simpa using hl) hu0
  |@tup p xs ds g r=>
   cases rv
   obtain⟨its,rr,pl,_⟩:=I.tuple g.sq
   cases rb with
   |non=>cases ru;cases n <;> cases e <;> exact SeqAt.RcAt.tuple_none pl hu0
   |obj _=>rw[bW] at e;cases e
   |scr _ _=>rw[bV] at e;cases e
   |bl b=>cases ru;cases n <;> cases e <;> exact SeqAt.RcAt.tuple_bool b pl hu0
   |int b=>obtain⟨t,rfl⟩:=ru;cases n <;> cases e <;> exact SeqAt.RcAt.tuple_int b t pl hu0
   |str b=>obtain⟨t,rfl⟩:=ru;cases n <;> cases e <;> exact SeqAt.RcAt.tuple_str b t pl hu0
   |lst g' r'=>cases ru;obtain⟨its',_,pl',_⟩:=I.list g'.sq;cases n <;> cases e <;> exact SeqAt.RcAt.tuple_list pl pl'.isList hu0
   |@tup p' xs' ds' g' r'=>
    cases ru
    obtain⟨its',rr',pl',_⟩:=I.tuple g'.sq
    have l1:its.toArray.size=ds.length:=by rw[List.size_toArray,<- rr.length,r.length]
    have l2:its'.toArray.size=ds'.length:=by rw[List.size_toArray,<- rr'.length,r'.length]
    cases n with
    |zero=>cases e
    |succ n=>
     have e':((nO (eqD n) ds ds').map fun k=>k&&ds.length==ds'.length)=some k:=e
     cases q:nO (eqD n) ds ds' with
     |none=>rw[q] at e';cases e'
     |some c=>
      rw[q] at e'
      cases e'
      have hk:(c&&ds.length==ds'.length)=((List.range (min its.toArray.size its'.toArray.size)).all (eAt (eqD n) ds ds')&&its.toArray.size==its'.toArray.size):=by
       rw[qC q,l1,l2]
      show SeqAt.RcAt A s (Value.ref p) (Value.ref p') (c&&ds.length==ds'.length)
      rw[hk]
      refine SeqAt.RcAt.tuples pl pl' hu0 fun j h1 h2=> ?_
      obtain⟨d,hd,rd⟩:=r.getV (i:=j) (v:=xs[j]'(by rw[r.length,<- l1];exact h1)) (by simp)
      obtain⟨d',hd',rd'⟩:=r'.getV (i:=j) (v:=xs'[j]'(by rw[r'.length,<- l2];exact h2)) (by simp)
      obtain⟨w,hw,rw1⟩:=rr.get (i:=j) (x:=xs[j]'(by rw[r.length,<- l1];exact h1)) (by simp)
      obtain⟨w',hw',rw2⟩:=rr'.get (i:=j) (x:=xs'[j]'(by rw[r'.length,<- l2];exact h2)) (by simp)
      have ew:its.toArray[j]=w:=by
       obtain⟨_,q⟩:=List.getElem?_eq_some_iff.mp hw
       simpa using q
      have ew':its'.toArray[j]=w':=by
       obtain⟨_,q⟩:=List.getElem?_eq_some_iff.mp hw'
       simpa using q
      rw[ew,ew']
      exact CD I n rd rd' rw1 rw2 (kI q hd hd') (ih n (Nat.lt_succ_self n) rd rd' rw1 rw2 (kI q hd hd') (fQ hu))
theorem Bk (I:Inv X pins σ H s) (n:Nat) {A:Around}{a b:D}{x y:V}{v u:Value}{k:Bool} (ra:Rep X.K ok H x a) (rb:Rep X.K ok' H y b) (rv:RelV x v) (ru:RelV y u) (e:eqD n a b=some k) (hu:A.units+n<cLine):SeqAt.EqAt A s v u k:=
 CD I n ra rb rv ru e (Jz I n ra rb rv ru e hu)
end
end L2.MB
end
section
namespace L2.MB
open PySem PySem.Spec PyProof.Rows
section
variable {X:Cx}{pins:List (Addr×Obj)}{σ:St}{H:Hp}{s:Shared}{ok ok':Okk}
theorem MA (I:Inv X pins σ H s) (n:Nat):∀ {A:Around}{a b:D}{x y:V}{v u:Value}{k:Bool},Rep X.K ok H x a->Rep X.K ok' H y b->RelV x v->RelV y u->eqD n a b=some k->A.units+n<cLine->SeqAt.RcNeAt A s v u (!k):=by
  intro A a b x y v u k ra rb rv ru e hu
  have hu0:A.units<cLine:=by omega
  cases ra with
  |non=>
   cases rv
   cases rb with
   |non=>cases ru;cases n <;> cases e <;> exact SeqAt.RcNeAt.none_none
   |obj _=>rw[bW] at e;cases e
   |scr _ _=>rw[bV] at e;cases e
   |bl b=>cases ru;cases n <;> cases e <;> exact SeqAt.RcNeAt.none_bool b
   |int b=>obtain⟨t,rfl⟩:=ru;cases n <;> cases e <;> exact SeqAt.RcNeAt.none_int b t
   |str b=>obtain⟨t,rfl⟩:=ru;cases n <;> cases e <;> exact SeqAt.RcNeAt.none_str b t
   |lst g r=>cases ru;obtain⟨its,_,pl,_⟩:=I.list g.sq;cases n <;> cases e <;> exact SeqAt.RcNeAt.none_list pl.isList hu0
   |tup g r=>cases ru;obtain⟨its,_,pl,_⟩:=I.tuple g.sq;cases n <;> cases e <;> exact SeqAt.RcNeAt.none_tuple pl hu0
  |bl a=>
   cases rv
   cases rb with
   |non=>cases ru;cases n <;> cases e <;> exact SeqAt.RcNeAt.bool_none a
   |obj _=>rw[bW] at e;cases e
   |scr _ _=>rw[bV] at e;cases e
   |bl b=>cases ru;cases n <;> cases e <;> exact SeqAt.RcNeAt.bool_bool a b
   |int b=>obtain⟨t,rfl⟩:=ru;cases n <;> cases e <;> exact SeqAt.RcNeAt.bool_int a b t
   |str b=>obtain⟨t,rfl⟩:=ru;cases n <;> cases e <;> exact SeqAt.RcNeAt.bool_str a b t
   |lst g r=>cases ru;obtain⟨its,_,pl,_⟩:=I.list g.sq;cases n <;> cases e <;> exact SeqAt.RcNeAt.bool_list a pl.isList hu0
   |tup g r=>cases ru;obtain⟨its,_,pl,_⟩:=I.tuple g.sq;cases n <;> cases e <;> exact SeqAt.RcNeAt.bool_tuple a pl hu0
  |int a=>
   obtain⟨t',rfl⟩:=rv
   cases rb with
   |non=>cases ru;cases n <;> cases e <;> exact SeqAt.RcNeAt.int_none a t'
   |obj _=>rw[bW] at e;cases e
   |scr _ _=>rw[bV] at e;cases e
   |bl b=>cases ru;cases n <;> cases e <;> exact SeqAt.RcNeAt.int_bool a t' b
   |int b=>obtain⟨t,rfl⟩:=ru;cases n <;> cases e <;> exact SeqAt.RcNeAt.int_int a t' b t
   |str b=>obtain⟨t,rfl⟩:=ru;cases n <;> cases e <;> exact SeqAt.RcNeAt.int_str a t' b t
   |lst g r=>cases ru;obtain⟨its,_,pl,_⟩:=I.list g.sq;cases n <;> cases e <;> exact SeqAt.RcNeAt.int_list a t' pl.isList hu0
   |tup g r=>cases ru;obtain⟨its,_,pl,_⟩:=I.tuple g.sq;cases n <;> cases e <;> exact SeqAt.RcNeAt.int_tuple a t' pl hu0
  |str a=>
   obtain⟨t',rfl⟩:=rv
   cases rb with
   |non=>cases ru;cases n <;> cases e <;> exact SeqAt.RcNeAt.str_none a t'
   |obj _=>rw[bW] at e;cases e
   |scr _ _=>rw[bV] at e;cases e
   |bl b=>cases ru;cases n <;> cases e <;> exact SeqAt.RcNeAt.str_bool a t' b
   |int b=>obtain⟨t,rfl⟩:=ru;cases n <;> cases e <;> exact SeqAt.RcNeAt.str_int a t' b t
   |str b=>obtain⟨t,rfl⟩:=ru;cases n <;> cases e <;> exact SeqAt.RcNeAt.str_str a t' b t
   |lst g r=>cases ru;obtain⟨its,_,pl,_⟩:=I.list g.sq;cases n <;> cases e <;> exact SeqAt.RcNeAt.str_list a t' pl.isList hu0
   |tup g r=>cases ru;obtain⟨its,_,pl,_⟩:=I.tuple g.sq;cases n <;> cases e <;> exact SeqAt.RcNeAt.str_tuple a t' pl hu0
  |obj _=>rw[dQ] at e;cases e
  |scr _ _=>rw[dP] at e;cases e
  |@lst p xs ds g r=>
   cases rv
   obtain⟨its,rr,pl,_⟩:=I.list g.sq
   cases rb with
   |non=>cases ru;cases n <;> cases e <;> exact SeqAt.RcNeAt.list_none pl.isList hu0
   |obj _=>rw[bW] at e;cases e
   |scr _ _=>rw[bV] at e;cases e
   |bl b=>cases ru;cases n <;> cases e <;> exact SeqAt.RcNeAt.list_bool b pl.isList hu0
   |int b=>obtain⟨t,rfl⟩:=ru;cases n <;> cases e <;> exact SeqAt.RcNeAt.list_int b t pl.isList hu0
   |str b=>obtain⟨t,rfl⟩:=ru;cases n <;> cases e <;> exact SeqAt.RcNeAt.list_str b t pl.isList hu0
   |tup g' r'=>cases ru;obtain⟨its',_,pl',_⟩:=I.tuple g'.sq;cases n <;> cases e <;> exact SeqAt.RcNeAt.list_tuple pl.isList pl' hu0
   |@lst p' xs' ds' g' r'=>
    cases ru
    obtain⟨its',rr',pl',_⟩:=I.list g'.sq
    have l1:its.toArray.size=ds.length:=by rw[List.size_toArray,<- rr.length,r.length]
    have l2:its'.toArray.size=ds'.length:=by rw[List.size_toArray,<- rr'.length,r'.length]
    cases n with
    |zero=>cases e
    |succ n=>
     have e':(if ds.length=ds'.length then nO (eqD n) ds ds' else some false)=some k:=e
     by_cases hl:ds.length=ds'.length
     ·rw[if_pos hl] at e'
      have hk:k=(List.range its.toArray.size).all (eAt (eqD n) ds ds'):=by
       rw[qC e',l1,<- hl,Nat.min_self]
      rw[hk]
      refine SeqAt.RcNeAt.lists pl.isList pl'.isList (by rw[l1,l2,hl]) hu0 fun j h1 h2=> ?_
      obtain⟨d,hd,rd⟩:=r.getV (i:=j) (v:=xs[j]'(by rw[r.length,<- l1];exact h1)) (by simp)
      obtain⟨d',hd',rd'⟩:=r'.getV (i:=j) (v:=xs'[j]'(by rw[r'.length,<- l2];exact h2)) (by simp)
      obtain⟨w,hw,rw1⟩:=rr.get (i:=j) (x:=xs[j]'(by rw[r.length,<- l1];exact h1)) (by simp)
      obtain⟨w',hw',rw2⟩:=rr'.get (i:=j) (x:=xs'[j]'(by rw[r'.length,<- l2];exact h2)) (by simp)
      have ew:its.toArray[j]=w:=by
       obtain⟨_,q⟩:=List.getElem?_eq_some_iff.mp hw
       simpa using q
      have ew':its'.toArray[j]=w':=by
       obtain⟨_,q⟩:=List.getElem?_eq_some_iff.mp hw'
       simpa using q
      rw[ew,ew']
      exact Bk I n rd rd' rw1 rw2 (kI e' hd hd') (fQ hu)
     ·rw[if_neg hl] at e'
      cases e'
      exact SeqAt.RcNeAt.lists_lengths pl.isList pl'.isList (by rw[l1,l2];simpa using hl) hu0
  |@tup p xs ds g r=>
   cases rv
   obtain⟨its,rr,pl,_⟩:=I.tuple g.sq
   cases rb with
   |non=>cases ru;cases n <;> cases e <;> exact SeqAt.RcNeAt.tuple_none pl hu0
   |obj _=>rw[bW] at e;cases e
   |scr _ _=>rw[bV] at e;cases e
   |bl b=>cases ru;cases n <;> cases e <;> exact SeqAt.RcNeAt.tuple_bool b pl hu0
   |int b=>obtain⟨t,rfl⟩:=ru;cases n <;> cases e <;> exact SeqAt.RcNeAt.tuple_int b t pl hu0
   |str b=>obtain⟨t,rfl⟩:=ru;cases n <;> cases e <;> exact SeqAt.RcNeAt.tuple_str b t pl hu0
   |lst g' r'=>cases ru;obtain⟨its',_,pl',_⟩:=I.list g'.sq;cases n <;> cases e <;> exact SeqAt.RcNeAt.tuple_list pl pl'.isList hu0
   |@tup p' xs' ds' g' r'=>
    cases ru
    obtain⟨its',rr',pl',_⟩:=I.tuple g'.sq
    have l1:its.toArray.size=ds.length:=by rw[List.size_toArray,<- rr.length,r.length]
    have l2:its'.toArray.size=ds'.length:=by rw[List.size_toArray,<- rr'.length,r'.length]
    cases n with
    |zero=>cases e
    |succ n=>
     have e':((nO (eqD n) ds ds').map fun k=>k&&ds.length==ds'.length)=some k:=e
     cases q:nO (eqD n) ds ds' with
     |none=>rw[q] at e';cases e'
     |some c=>
      rw[q] at e'
      cases e'
      have hk:(c&&ds.length==ds'.length)=((List.range (min its.toArray.size its'.toArray.size)).all (eAt (eqD n) ds ds')&&its.toArray.size==its'.toArray.size):=by
       rw[qC q,l1,l2]
      show SeqAt.RcNeAt A s (Value.ref p) (Value.ref p') (!(c&&ds.length==ds'.length))
      rw[hk]
      refine SeqAt.RcNeAt.tuples pl pl' hu0 fun j h1 h2=> ?_
      obtain⟨d,hd,rd⟩:=r.getV (i:=j) (v:=xs[j]'(by rw[r.length,<- l1];exact h1)) (by simp)
      obtain⟨d',hd',rd'⟩:=r'.getV (i:=j) (v:=xs'[j]'(by rw[r'.length,<- l2];exact h2)) (by simp)
      obtain⟨w,hw,rw1⟩:=rr.get (i:=j) (x:=xs[j]'(by rw[r.length,<- l1];exact h1)) (by simp)
      obtain⟨w',hw',rw2⟩:=rr'.get (i:=j) (x:=xs'[j]'(by rw[r'.length,<- l2];exact h2)) (by simp)
      have ew:its.toArray[j]=w:=by
       obtain⟨_,q⟩:=List.getElem?_eq_some_iff.mp hw
       simpa using q
      have ew':its'.toArray[j]=w':=by
       obtain⟨_,q⟩:=List.getElem?_eq_some_iff.mp hw'
       simpa using q
      rw[ew,ew']
      exact Bk I n rd rd' rw1 rw2 (kI q hd hd') (fQ hu)
end
def Qf (K:PySem.W.Frag) (n:Nat):R2:=fun x y H Q=>∃ ok a b k,Rep K ok H x a/\Rep K ok H y b/\eqD n a b=some k/\Q (.bl k) H
def Qa (K:PySem.W.Frag) (n:Nat):R2:=fun x y H Q=>∃ ok a b k,Rep K ok H x a/\Rep K ok H y b/\eqD n a b=some k/\Q (.bl (!k)) H
def gEq (n:Nat) (a b:D):Option D:=(eqD n a b).map D.bl
def gNe (n:Nat) (a b:D):Option D:=(eqD n a b).map fun k=>D.bl (!k)
theorem aN {α β:Type}{o:Option α}{f:α->β}{b:β} (h:o.map f=some b):∃ a,o=some a/\f a=b:=by
 cases o with
 |none=>cases h
 |some a=>exact⟨a,rfl,Option.some.inj h⟩
abbrev LZ (X:Cx) (n:Nat):Prop:=X.A.units+n<cLine
section
variable {X:Cx}{e a b c:Expr}{es:List Expr}{f fa fb fc:DF}{fl:DL}{pos:Pos}
theorem JL {n:Nat} (hu:LZ X n):OpR X (compareOp .Eq) (Qf X.K n):=by
 intro pins s σ H x y v u Q I rx ry h
 obtain⟨ok,a,b,k,ra,rb,e,q⟩:=h
 exact Jz I n ra rb rx ry e hu X.prog X.w X.xe _ ⟨.bl k,H,I,rfl,q⟩
theorem Nh {n:Nat} (hu:LZ X n):OpR X (compareOp .NotEq) (Qa X.K n):=by
 intro pins s σ H x y v u Q I rx ry h
 obtain⟨ok,a,b,k,ra,rb,e,q⟩:=h
 exact MA I n ra rb rx ry e hu X.prog X.w X.xe _ ⟨.bl (!k),H,I,rfl,q⟩
def isN:D->Bool
 |.non=>true
 |_=>false
def NR (a b:D):Option D:=match b with
 |.non=>some (.bl (isN a))
 |_=>none
theorem NJ {K:PySem.W.Frag}{ok:Okk}{H:Hp}{v:V}{d:D} (h:Rep K ok H v d):decide (v=.non)=isN d:=by
 cases h <;> simp[isN]
theorem GL {K:PySem.W.Frag}:Fit2 K (fun x y H Q=>y=.non/\Q (.bl (decide (x=.non))) H) NR:=fun ok H x y a b d Q h1 ra rb e k=>by
 cases b with
 |non=>
  cases e
  refine⟨rb.non_inv,?_⟩
  rw[NJ ra]
  exact k _ H (Same.refl H) (.bl _)
 |_=>cases e
def inO (f:D->Option Bool):List D->Option Bool
 |[]=>some false
 |x::xs=>(f x).bind fun b=>(inO f xs).map fun c=>b||c
def inD (n:Nat) (a b:D):Option Bool:=match b with
 |.lst ds=>inO (fun d=>eqD n d a) ds
 |.tup ds=>inO (fun d=>eqD n d a) ds
 |_=>none
noncomputable def Fb (K:PySem.W.Frag) (ok:Okk) (H:Hp) (n:Nat) (a:D) (u:Value):Bool:=
 @decide (∃ x d,RelV x u/\Rep K ok H x d/\eqD n d a=some true) (Classical.propDecidable _)
theorem Jq {pins:List (Addr×Obj)}{σ:St}{H:Hp}{s:Shared}{ok:Okk}{n:Nat}{a d:D}{x:V}{u:Value}{k:Bool} (I:Inv X pins σ H s) (r:RelV x u) (q:Rep X.K ok H x d) (e:eqD n d a=some k):Fb X.K ok H n a u=k:=by
 unfold Fb
 cases k with
 |true=>exact @decide_eq_true _ (Classical.propDecidable _) ⟨x,d,r,q,e⟩
 |false=>
  refine @decide_eq_false _ (Classical.propDecidable _) ?_
  rintro⟨x',d',r',q',e'⟩
  obtain rfl:=r.inj r'
  exact nomatch IZ I n q q' e e'
theorem Cu {pins:List (Addr×Obj)}{σ:St}{H:Hp}{s:Shared}{ok:Okk}{n:Nat}{a:D} (I:Inv X pins σ H s):∀ {xs:List V}{us:List Value}{ds:List D}{k:Bool},Vals xs us->Reps X.K ok H xs ds->inO (fun d=>eqD n d a) ds=some k->
  us.any (Fb X.K ok H n a)=k/\∀ u∈us,∃ x d,RelV x u/\Rep X.K ok H x d/\eqD n d a=some (Fb X.K ok H n a u)
 |_,_,_,_,.nil,.nil,h=>by
  cases h
  exact⟨rfl,fun u hu=>by cases hu⟩
 |_,_,_,k,.cons r rs,.cons q qs,h=>by
  obtain⟨b,e1,e2⟩:=aX h
  obtain⟨c,e3,rfl⟩:=aN e2
  obtain⟨h1,h2⟩:=Cu I rs qs e3
  have hb:=Jq I r q e1
  refine⟨by rw[List.any_cons,hb,h1],fun u hu=> ?_⟩
  rcases List.mem_cons.mp hu with rfl|hu
  ·exact⟨_,_,r,q,by rw[hb];exact e1⟩
  ·exact h2 u hu
def Qe (K:PySem.W.Frag) (n:Nat):R2:=fun x y H Q=>∃ ok a b k,Rep K ok H x a/\Rep K ok H y b/\inD n a b=some k/\Q (.bl k) H
theorem Nm {n:Nat} (hu:LZ X (n+1)):OpR X (compareOp .In) (Qe X.K n):=by
 intro pins s σ H x y v u Q I rx ry h
 obtain⟨ok,a,b,k,ra,rb,e,q⟩:=h
 cases rb with
 |lst g r=>
  cases ry
  obtain⟨its,rr,pl,_⟩:=I.list g.sq
  obtain⟨h1,h2⟩:=Cu I rr r e
  refine SeqAt.in_listAt (Fb X.K ok H n a) pl.isList (fun w hw=> ?_) ⟨.bl k,H,I,?_,q⟩
  ·obtain⟨x',d',r',q',e'⟩:=h2 w (by simpa using hw)
   exact Bk I n q' ra r' rx e' (fQ hu)
  ·rw[<- h1]
   simp[RelV]
 |tup g r=>
  cases ry
  obtain⟨its,rr,pl,_⟩:=I.tuple g.sq
  obtain⟨h1,h2⟩:=Cu I rr r e
  refine SeqAt.in_tupleAt (Fb X.K ok H n a) pl (fun w hw=> ?_) ⟨.bl k,H,I,?_,q⟩
  ·obtain⟨x',d',r',q',e'⟩:=h2 w (by simpa using hw)
   exact Bk I n q' ra r' rx e' (fQ hu)
  ·rw[<- h1]
   simp[RelV]
 |_=>cases e
def gIn (n:Nat) (a b:D):Option D:=(inD n a b).map D.bl
theorem NV {K:PySem.W.Frag}{n:Nat}:Fit2 K (Qe K n) (gIn n):=fun ok H x y a b d Q h1 ra rb e k=>by
 obtain⟨c,e1,rfl⟩:=aN e
 exact⟨ok,a,b,c,ra,rb,e1,k _ H (Same.refl H) (.bl _)⟩
def tyD:D->String
 |.non=>"NoneType"
 |.bl _=>"bool"
 |.int _=>"int"
 |.str _=>"str"
 |.lst _=>"list"
 |.tup _=>"tuple"
 |.obj _=>"object"
 |.scr _=>"object"
def fS:D->Bool
 |.obj _=>true
 |.scr _=>true
 |_=>false
def qS (T:String) (d:D):Option Bool:=
 if fS d=true then none else if T="int" then some (match d with|.int _=>true|.bl _=>true|_=>false)
 else if T="bool" then some (match d with|.bl _=>true|_=>false)
 else if T="str" then some (match d with|.str _=>true|_=>false)
 else if T="list" then some (match d with|.lst _=>true|_=>false)
 else if T="tuple" then some (match d with|.tup _=>true|_=>false)
 else if T="dict" then some false
 else none
theorem Lh {K:PySem.W.Frag}{T:String}{d:D}{k:Bool} (h:qS T d=some k):PySem.W.kitOne K (.type (tyD d)) (.type T)=some k:=by
 unfold qS at h
 split at h
 ·cases h
 rename_i hob
 split at h
 ·subst_vars;cases h;cases d <;> first|rfl|exact absurd rfl hob
 ·split at h
  ·subst_vars;cases h;cases d <;> first|rfl|exact absurd rfl hob
  ·split at h
   ·subst_vars;cases h;cases d <;> first|rfl|exact absurd rfl hob
   ·split at h
    ·subst_vars;cases h;cases d <;> first|rfl|exact absurd rfl hob
    ·split at h
     ·subst_vars;cases h;cases d <;> first|rfl|exact absurd rfl hob
     ·split at h
      ·subst_vars;cases h;cases d <;> first|rfl|exact absurd rfl hob
      ·cases h
def QE (K:PySem.W.Frag):List V->Hp->VK->Prop:=fun xs H Q=>∃ x T d ok k,xs=[x,.ty T]/\Rep K ok H x d/\qS T d=some k/\Q (.bl k) H
theorem Jk:CallR X (.builtin "isinstance") (QE X.K):=by
 intro pins s σ H xs us Q I r h
 obtain⟨x,T,d,ok,k,rfl,q,e,hq⟩:=h
 obtain⟨u,w',rfl,ru,rw'⟩:=Ff r
 cases rw'
 have fin:∀ tk,EP X pins σ Q (.bool k) { s with toks:=tk }:=fun tk=>⟨.bl k,H,I.tok _,rfl,hq⟩
 have ek:=Lh (K:=X.K) e
 cases q with
 |non=>cases ru;exact PySem.W.kia_one PySem.W.kitx_none I.kIn True.intro ek (fun z=>nomatch z) fin
 |bl b=>cases ru;exact PySem.W.kia_one PySem.W.kitx_bool I.kIn True.intro ek (fun z=>nomatch z) fin
 |int i=>obtain⟨t,rfl⟩:=ru;exact PySem.W.kia_one PySem.W.kitx_int I.kIn True.intro ek (fun z=>nomatch z) fin
 |str z=>obtain⟨t,rfl⟩:=ru;exact PySem.W.kia_one PySem.W.kitx_str I.kIn True.intro ek (fun z=>nomatch z) fin
 |lst g r=>
  cases ru
  obtain⟨its,_,⟨o,n,e1,c1,_,_⟩,_⟩:=I.list g.sq
  exact PySem.W.kia_one PySem.W.kitx_list I.kIn ⟨o,e1,c1⟩ ek (fun z=>nomatch z) fin
 |tup g r=>
  cases ru
  obtain⟨its,_,⟨o,e1,c1,_⟩,_⟩:=I.tuple g.sq
  exact PySem.W.kia_one PySem.W.kitx_tuple I.kIn ⟨o,e1,c1⟩ ek (fun z=>nomatch z) fin
 |obj _=>exact nomatch e
 |scr _ _=>exact nomatch e
end
end L2.MB
end
section
namespace L2.MB
open PySem PySem.Spec PyProof.Rows
local macro_rules| `(tactic|walk_at "adr")=> `(tactic|((try unfold PySem.Addr at*);omega))
def xX (env:Env):List (Str×NameKind)->List (Str×Addr)->List (Str×Addr)
 |[],acc=>acc
 |(n,k)::r,acc=>if k== .free then xX env r ((n,(env.cells.lookup n).getD 0)::acc) else xX env r acc
theorem zJ {env:Env} (f:Str×NameKind->List (Str×Addr)->Sem (ForInStep (List (Str×Addr))))
  (hf:∀ name kind cs,f (name,kind) cs=if kind== .free then(do let c <- cellOf env name;pure (.yield ((name,c)::cs))) else pure (.yield cs)):
  ∀(names:List (Str×NameKind)) (acc:List (Str×Addr)),(∀ y∈names,y.2=.free->∃ c,env.cells.lookup y.1=some c)->(forIn names acc f:Sem _)=pure (xX env names acc)
 |[],acc,_=>by rw[List.forIn_nil];rfl
 |(n,k)::r,acc,h=>by
  rw[List.forIn_cons,hf]
  have hr:∀ y∈r,y.2=.free->∃ c,env.cells.lookup y.1=some c:=fun y hy=>h y (List.mem_cons_of_mem _ hy)
  unfold xX
  by_cases hk:(k==NameKind.free)=true
  ·rw[if_pos hk,if_pos hk]
   obtain⟨c,hc⟩:=h (n,k) List.mem_cons_self (by simpa using hk)
   have e:(cellOf env n:Sem Addr)=pure c:=by unfold cellOf;rw[hc]
   rw[e,hc]
   simp only[pure_bind,Option.getD_some]
   exact zJ f hf r _ hr
  ·rw[if_neg hk,if_neg hk]
   simp only[pure_bind]
   exact zJ f hf r _ hr
theorem xW {scope:Scope}{env:Env} (h:∀ y∈scope.names,y.2=.free->∃ c,env.cells.lookup y.1=some c):closureFor scope env=pure (xX env scope.names []):=by
 simp only[closureFor]
 rw[zJ (env:=env) _ (fun name kind cs=>by cases hk:kind==NameKind.free <;> simp[hk]) scope.names [] h]
 rfl
theorem tG {env:Env}{x:Str}:∀ {names:List (Str×NameKind)}{acc:List (Str×Addr)}{c:Addr},(xX env names acc).lookup x=some c->acc.lookup x=some c∨((x,NameKind.free)∈names/\c=(env.cells.lookup x).getD 0)
 |[],acc,c,h=>.inl h
 |(n,k)::r,acc,c,h=>by
  unfold xX at h
  by_cases hk:(k==NameKind.free)=true
  ·rw[if_pos hk] at h
   rcases tG h with q|⟨q1,q2⟩
   ·rw[List.lookup_cons] at q
    cases hx:x==n with
    |true=>
     rw[hx] at q
     obtain rfl:x=n:=by simpa using hx
     have hk':k=.free:=by simpa using hk
     subst hk'
     exact .inr ⟨List.mem_cons_self,by cases q;rfl⟩
    |false=>
     rw[hx] at q
     exact .inl q
   ·exact .inr ⟨List.mem_cons_of_mem _ q1,q2⟩
  ·rw[if_neg hk] at h
   rcases tG h with q|⟨q1,q2⟩
   ·exact .inl q
   ·exact .inr ⟨List.mem_cons_of_mem _ q1,q2⟩
theorem vB {env:Env}{x:Str}:∀ {names:List (Str×NameKind)}{acc:List (Str×Addr)},(∃ c,acc.lookup x=some c)->∃ c,(xX env names acc).lookup x=some c
 |[],acc,h=>h
 |(n,k)::r,acc,h=>by
  unfold xX
  split
  ·refine vB ?_
   rw[List.lookup_cons]
   cases hx:x==n with
   |true=>exact⟨_,rfl⟩
   |false=>exact h
  ·exact vB h
theorem zS {env:Env}{x:Str}:∀ {names:List (Str×NameKind)}{acc:List (Str×Addr)},(x,NameKind.free)∈names->∃ c,(xX env names acc).lookup x=some c
 |(n,k)::r,acc,h=>by
  unfold xX
  rcases List.mem_cons.mp h with e|h
  ·cases e
   rw[if_pos (by rfl)]
   exact vB ⟨_,by rw[List.lookup_cons,beq_self_eq_true]⟩
  ·split
   ·exact zS h
   ·exact zS h
theorem gJ {x:Str}:∀ {names:List (Str×NameKind)}{n:Nat}{acc:List (Str×Addr)}{c:Addr},(cellsFrom n names acc).lookup x=some c->acc.lookup x=some c∨((x,NameKind.cell)∈names/\n<=c)
 |[],n,acc,c,h=>.inl h
 |(y,k)::r,n,acc,c,h=>by
  unfold cellsFrom at h
  by_cases hk:(k==NameKind.cell)=true
  ·rw[if_pos hk] at h
   rcases gJ h with q|⟨q1,q2⟩
   ·rw[List.lookup_cons] at q
    cases hx:x==y with
    |true=>
     rw[hx] at q
     obtain rfl:x=y:=by simpa using hx
     have hk':k=.cell:=by simpa using hk
     subst hk'
     cases q
     exact .inr ⟨List.mem_cons_self,Nat.le_refl _⟩
    |false=>
     rw[hx] at q
     exact .inl q
   ·exact .inr ⟨List.mem_cons_of_mem _ q1,by walk_at "adr"⟩
  ·rw[if_neg hk] at h
   rcases gJ h with q|⟨q1,q2⟩
   ·exact .inl q
   ·exact .inr ⟨List.mem_cons_of_mem _ q1,q2⟩
theorem kH {x:Str}:∀ {names:List (Str×NameKind)}{n:Nat}{acc:List (Str×Addr)},(x,NameKind.cell)∉names->(cellsFrom n names acc).lookup x=acc.lookup x
 |[],n,acc,_=>rfl
 |(y,k)::r,n,acc,h=>by
  have hr:(x,NameKind.cell)∉r:=fun z=>h (List.mem_cons_of_mem _ z)
  unfold cellsFrom
  by_cases hk:(k==NameKind.cell)=true
  ·rw[if_pos hk,kH hr,List.lookup_cons]
   have hk':k=.cell:=by simpa using hk
   subst hk'
   cases hx:x==y with
   |true=>
    obtain rfl:x=y:=by simpa using hx
    exact absurd List.mem_cons_self h
   |false=>rfl
  ·rw[if_neg hk,kH hr]
theorem fP {x:Str}:∀ {names:List (Str×NameKind)}{n:Nat}{acc:List (Str×Addr)},(∃ c,acc.lookup x=some c)->∃ c,(cellsFrom n names acc).lookup x=some c
 |[],n,acc,h=>h
 |(y,k)::r,n,acc,h=>by
  unfold cellsFrom
  split
  ·refine fP ?_
   rw[List.lookup_cons]
   cases hx:x==y with
   |true=>exact⟨_,rfl⟩
   |false=>exact h
  ·exact fP h
theorem lR {x:Str}:∀ {names:List (Str×NameKind)}{n:Nat}{acc:List (Str×Addr)},(x,NameKind.cell)∈names->∃ c,(cellsFrom n names acc).lookup x=some c
 |(y,k)::r,n,acc,h=>by
  unfold cellsFrom
  rcases List.mem_cons.mp h with e|h
  ·cases e
   rw[if_pos (by rfl)]
   exact fP ⟨_,by rw[List.lookup_cons,beq_self_eq_true]⟩
  ·split
   ·exact lR h
   ·exact lR h
structure Ad (h:Heap) (n:Nat) (acc cs:List (Str×Addr)):Prop where
 cell:∀ x c,(x,c)∈cs->(x,c)∈acc∨(h.IsCell c none/\n<=c)
 apart:∀ x y c,(x,c)∈cs->(y,c)∈cs->n<=c->x=y
theorem yY:∀(names:List (Str×NameKind)) (h:Heap) (n:Nat) (acc0 acc:List (Str×Addr)),n<=h.objs.size->Ad h n acc0 acc->(∀ x c,(x,c)∈acc->c<h.objs.size)->Ad (pushCells h names) n acc0 (cellsFrom h.objs.size names acc)
 |[],h,n,acc0,acc,_,N,_=>N
 |(y,k)::r,h,n,acc0,acc,hn,N,hlt=>by
  unfold pushCells cellsFrom
  split
  ·have:=yY r (h.push { cls:=.type "cell",data:=.cell none }) n acc0 ((y,h.objs.size)::acc) (by rw[Heap.size_push];walk_at "adr")
    ⟨fun x c hm=>by
     rcases List.mem_cons.mp hm with e|hm
     ·cases e
      exact .inr ⟨⟨_,Heap.get?_push_size _ rfl,rfl⟩,hn⟩
     ·rcases N.cell x c hm with q|⟨q1,q2⟩
      ·exact .inl q
      ·exact .inr ⟨q1.keeps fun b o e=>Heap.get?_push_of_some _ e,q2⟩,
    fun x z c h1 h2 h3=>by
     rcases List.mem_cons.mp h1 with e1|h1 <;> rcases List.mem_cons.mp h2 with e2|h2
     ·cases e1;cases e2;rfl
     ·cases e1
      exact absurd (hlt z _ h2) (Nat.lt_irrefl _)
     ·cases e2
      exact absurd (hlt x _ h1) (Nat.lt_irrefl _)
     ·exact N.apart x z c h1 h2 h3⟩
    (fun x c hm=>by
     rw[Heap.size_push]
     rcases List.mem_cons.mp hm with e|hm
     ·cases e;walk_at "adr"
     ·have:=hlt x c hm;walk_at "adr")
   rw[Heap.size_push] at this
   exact this
  ·exact yY r h n acc0 acc hn N hlt
theorem Ih {M:Model}{A:Around}{E:Value->Shared->Prop}{s:Shared}{scope:Scope}{globals:Addr}{cl:List (Str×Addr)}{qual:Str}{env:Env}{Q:Env->Shared->Prop}
  (h:∀ h':Heap,(∀ b o,s.heap.get? b=some o->h'.get? b=some o)->h'.Ns s.heap.objs.size (fun _=>none)->Ad h' (s.heap.objs.size+1) cl (cellsFrom (s.heap.objs.size+1) scope.names cl)->
   Q { scope:=scope,locals:=s.heap.objs.size,globals:=globals,cells:=cellsFrom (s.heap.objs.size+1) scope.names cl,qual:=qual,func:=none,code:=env.code,frame:=env.frame,builtins:=env.builtins } { s with heap:=h' })
  (hlt:∀ x c,(x,c)∈cl->c<s.heap.objs.size):wpAny M A (newFunctionEnv scope globals cl [] qual none .none (some env)) Q E s:=by
 simp only[newFunctionEnv,Option.isSome_some,if_true]
 refine wpAny_bind (wpAny_alloc ?_)
 refine wpAny_bind (wpAny_layCells _ (fun name kind cells=>by cases hkc:kind==NameKind.cell <;> simp[hkc]) _ _ _ _ ?_)
 rw[show({ s with heap:=s.heap.push { cls:=.type "dict",data:=.dict #[] } }:Shared).heap.objs.size=s.heap.objs.size+1 from Heap.size_push ..]
 rw[List.forIn_nil]
 refine wpAny_bind (wpAny_pure (wpAny_pure (h _ (fun b o e=>pushCells_keeps _ _ b o (Heap.get?_push_of_some _ e)) ((Heap.Ns.new s.heap (.type "dict")).keeps (pushCells_keeps _ _)) ?_)))
 have:=yY scope.names (s.heap.push { cls:=.type "dict",data:=.dict #[] }) (s.heap.objs.size+1) cl cl (by rw[Heap.size_push];walk_at "adr")
  ⟨fun x c hm=>.inl hm,fun x y c h1 h2 h3=>absurd (hlt x c h1) (by walk_at "adr")⟩ (fun x c hm=>by rw[Heap.size_push];have:=hlt x c hm;walk_at "adr")
 rw[Heap.size_push] at this
 exact this
theorem Bv {prog:Program}{w:World}{A:Around}{R:Result->Shared->Prop}{s:Shared}{elt target iter:Expr}{ifs:List Expr}{scope:Scope}{pos:Pos}{it acc:Value}{env:Env} (I:Nat->Shared->Prop)
  (turn:∀ n s,I n s->wpAny (model prog w) A (pyNext it) (fun r s₁=>match r with
   |none=>R (.ok .next) s₁
   |some v=>wpAny (model prog w) A (letOwnedTupleGo target it v) (fun _ s₁'=>wpAny (model prog w) A (assign target env v) (fun _ s₂=>
     wpAny (model prog w) A (forIn ifs true fun c r=>if r=true then do let ok <- isTrue c env (eval c env);pure (ForInStep.yield ok) else pure (ForInStep.yield r)) (fun ok s₃=>
      if ok=true then wpAny (model prog w) A (eval elt env) (fun x s₄=>
       wpAny (model prog w) A (call (.builtin "list.append") [acc,x]) (fun _ s₅=>∃ m,m<n/\I m s₅) (fun _ _=>False) s₄) (fun _ _=>False) s₃
      else ∃ m,m<n/\I m s₃) (fun _ _=>False) s₂) (fun _ _=>False) s₁') (fun _ _=>False) s₁) (fun _ _=>False) s)
  (n:Nat) (h:I n s):codeAny (model prog w) A (.compLoop (.ListComp elt [⟨target,iter,ifs,0⟩] scope pos) 0 it acc env) R s:=by
 refine codeAny_loop rfl I (fun n s hI=> ?_) n h
 show wpAny _ A ((compTurn (.ListComp elt [⟨target,iter,ifs,0⟩] scope pos) 0 it acc env).onRaise (fun x=>do noteFrame x env;theTreesLotGoes x)) _ _ s
 refine wpAny_noted ?_
 rw[compTurn_list]
 refine wpAny_bind (wpAny_standAt (wpAny_bind (wpAny_mono (turn n s hI) (fun r s₁ h₁=> ?_) fun _ _ h'=>h'.elim)))
 cases r with
 |none=>exact wpAny_pure h₁
 |some v=>
  refine wpAny_bind (wpAny_mono h₁ (fun _ s₁' h₁'=> ?_) fun _ _ h'=>h'.elim)
  refine wpAny_bind (wpAny_mono h₁' (fun _ s₂ h₂=>wpAny_bind (wpAny_mono h₂ (fun ok s₃ h₃=> ?_) fun _ _ h'=>h'.elim)) fun _ _ h'=>h'.elim)
  cases ok with
  |false=>exact wpAny_pure ⟨rfl,h₃⟩
  |true=>
   exact wpAny_bind (wpAny_bind (wpAny_mono h₃ (fun x s₄ h₄=>wpAny_bind (wpAny_mono h₄ (fun _ s₅ h₅=>wpAny_pure (wpAny_pure ⟨rfl,h₅⟩)) fun _ _ h'=>h'.elim)) fun _ _ h'=>h'.elim))
def blk (X:Cx) (N':List Str) (scope:Scope) (cells:List (Str×Addr)) (C:Addr) (fp:List Addr) (pins:List (Addr×Obj)) (s₀:Shared) (H₀:Hp):Cx where
 prog:=X.prog
 w:=X.w
 K:=X.K
 mg:=X.mg
 base:=X.base
 A:=X.A
 N:=N'
 s₀:=s₀
 H₀:=H₀
 env:=compEnvC scope cells C X.env
 outer:=X.stack
 stack:=X.stack
 ex:=fp
 fn:=fun x=>scope.names.lookup x==some .cell
 calm:=X.calm
 pn:=X.pn++pins
 xe:=fun _ _=>False
def Mg (X:Cx) (ifs:List Expr) (tt:TT):Prop:=
 ∀(pins:List (Addr×Obj)) (s:Shared) (σ:St) (H:Hp) (Q:Bool->Hp->Prop),Inv X pins σ H s->tt σ H Q->
  wpAny (model X.prog X.w) X.A (forIn ifs true fun c r=>if r=true then do let ok <- isTrue c X.env (eval c X.env);pure (ForInStep.yield ok) else pure (ForInStep.yield r)) (TP X pins σ Q) X.xe s
def Qo:TT:=fun _ H Q=>Q true H
theorem Lo {X:Cx}:Mg X [] Qo:=fun _ _ _ H _ I h=>wpAny_tests_nil ⟨H,I,h⟩
theorem Ln {X:Cx}{c:Expr}{tt:TT} (h:PT X c tt):Mg X [c] tt:=fun pins s σ H Q I q=>wpAny_tests_one (h pins s σ H Q I q)
def GW (caps:List (Option Nat)) (σ:St):St:=caps.map fun o=>o.bind fun j=>(σ[j]?).join
def DZ (X:Cx) (scope:Scope) (N':List Str) (caps:List (Option Nat)):Prop:=
 caps.length=N'.length/\∀(i j:Nat),caps[i]?=some (some j)->∃ x,N'[i]?=some x/\X.N[j]?=some x/\scope.names.lookup x=some .free/\(x,NameKind.cell)∉scope.names/\(X.env.scope.names.lookup x=some .cell∨X.env.scope.names.lookup x=some .free)
def Ke (wi:TI) (caps:List (Option Nat)) (g:TG) (tt:TT) (te:TE):TE:=fun σ H Q=>wi σ H fun J H1=>∀ D,H1 D=none->∃ W:Nat->Nat->St->Hp->Prop,(∃ m,W 0 m (GW caps σ) (upd H1 D (.lst [])))/\
 ∀ i m σ' H,W i m σ' H->(J.stop i H/\Q (.ref D) H)∨(J.go i H/\∀ x H',J.yld i H x H'->g x σ' H' fun σ2 H2=>tt σ2 H2 fun b H3=>
  if b=true then te σ2 H3 fun y H4=>∃ ys m',H4 D=some (.lst ys)/\ys.length<sizeLine/\m'<m/\W (i+1) m' σ2 (upd H4 D (.lst (ys++[y]))) else ∃ m',m'<m/\W (i+1) m' σ2 H3)
section
variable {X:Cx}{elt iter tg:Expr}{ifs:List Expr}{scope:Scope}{pos:Pos}{N':List Str}{caps:List (Option Nat)}{wi:TI}{g:TG}{tt:TT}{te:TE}
theorem iU {scope:Scope}{env:Env}{x:Str}{k:NameKind} (h:(relabel scope env).names.lookup x=some k):scope.names.lookup x=some k∨(k=.cell/\scope.names.lookup x=some .free):=by
 have aux:∀(names:List (Str×NameKind)),(names.map fun(n,k)=>if(k==NameKind.free&&env.scope.kind== .function&&env.kindOf n==some .cell) then(n,NameKind.cell) else(n,k)).lookup x=some k->
   names.lookup x=some k∨(k=.cell/\names.lookup x=some .free):=by
  intro names
  induction names with
  |nil=>intro h;cases h
  |cons p r ih=>
   obtain⟨n,kk⟩:=p
   intro h
   rw[List.map_cons] at h
   by_cases hc:(kk==NameKind.free&&env.scope.kind== .function&&env.kindOf n==some .cell)=true
   ·have h':List.lookup x ((n,NameKind.cell)::(r.map fun(n,k)=>if(k==NameKind.free&&env.scope.kind== .function&&env.kindOf n==some .cell) then(n,NameKind.cell) else(n,k)))=some k:=by
     have e:(if(kk==NameKind.free&&env.scope.kind== .function&&env.kindOf n==some .cell)=true then(n,NameKind.cell) else(n,kk))=(n,NameKind.cell):=if_pos hc
     rw[<- e]
     exact h
    rw[List.lookup_cons] at h' ⊢
    cases hx:x==n with
    |true=>
     rw[hx] at h'
     cases h'
     have hk:kk=.free:=by
      rw[Bool.and_eq_true,Bool.and_eq_true] at hc
      simpa using hc.1.1
     exact .inr ⟨rfl,by rw[hk]⟩
    |false=>
     rw[hx] at h'
     exact ih h'
   ·have h':List.lookup x ((n,kk)::(r.map fun(n,k)=>if(k==NameKind.free&&env.scope.kind== .function&&env.kindOf n==some .cell) then(n,NameKind.cell) else(n,k)))=some k:=by
     have e:(if(kk==NameKind.free&&env.scope.kind== .function&&env.kindOf n==some .cell)=true then(n,NameKind.cell) else(n,kk))=(n,kk):=if_neg hc
     rw[<- e]
     exact h
    rw[List.lookup_cons] at h' ⊢
    cases hx:x==n with
    |true=>
     rw[hx] at h'
     exact .inl h'
    |false=>
     rw[hx] at h'
     exact ih h'
 exact aux scope.names h
theorem dY {l:List (Str×NameKind)}{x:Str}{k:NameKind} (h:l.lookup x=some k):(x,k)∈l:=PySem.mem_of_lookup h
theorem Bt {pins:List (Addr×Obj)}{σ:St}{H2:Hp}{s2:Shared}{Qn:V->Hp->Prop}{RR:Value->Addr->Result->Shared->Prop}{E:Value->Shared->Prop}{it:Addr}{fp:List Addr}{tn:Nat->Heap->Prop}{J:It}
  (hc:X.calm=true) (hkind:scope.kind=.function)
  (hfree:∀ y∈scope.names,y.2=.free->X.env.scope.names.lookup y.1=some .cell∨X.env.scope.names.lookup y.1=some .free) (huniq:∀ y∈scope.names,y.2=.free->(y.1,NameKind.cell)∉scope.names)
  (hcap:DZ X scope N' caps)
  (hb:∀ cells C fp pins s₀ H₀,PG (blk X N' scope cells C fp pins s₀ H₀) tg g/\Mg (blk X N' scope cells C fp pins s₀ H₀) ifs tt/\PE (blk X N' scope cells C fp pins s₀ H₀) elt te)
  (I2:Inv X pins σ H2 s2) (T:LX X.prog X.w X.K tg J fp it tn) (st2:tn 0 s2.heap) (f2:∀ b∈fp,JZ X pins H2 b)
  (q:∀ D,H2 D=none->∃ W:Nat->Nat->St->Hp->Prop,(∃ m,W 0 m (GW caps σ) (upd H2 D (.lst [])))/\
   ∀ i m σ' H,W i m σ' H->(J.stop i H/\Qn (.ref D) H)∨(J.go i H/\∀ x H',J.yld i H x H'->g x σ' H' fun σ2 H2=>tt σ2 H2 fun b H3=>
    if b=true then te σ2 H3 fun y H4=>∃ ys m',H4 D=some (.lst ys)/\ys.length<sizeLine/\m'<m/\W (i+1) m' σ2 (upd H4 D (.lst (ys++[y]))) else ∃ m',m'<m/\W (i+1) m' σ2 H3))
  (hfin:∀(C D:Addr) (s6:Shared) (H6:Hp),Inv X pins σ H6 s6->Qn (.ref D) H6->(∃ m,s6.heap.Ns C m)->H6 C=none->C≠X.env.locals->X.s₀.heap.objs.size<=C->(∀ x c,X.env.cells.lookup x=some c->c≠C)->(∀ p∈X.pn++pins,p.1≠C)->RR (.ref D) C (.ok .next) s6):
  wpAny (model X.prog X.w) X.A (newList []) (fun acc s₃=>wpAny (model X.prog X.w) X.A (newFunctionEnv scope X.env.globals (xX X.env scope.names []) [] X.env.qual none .none (some X.env)) (fun cenv s₄=>
   codeAny (model X.prog X.w) X.A (.compStart (.ListComp elt [⟨tg,iter,ifs,0⟩] scope pos) 0 (.ref it) acc { cenv with scope:=relabel scope X.env }) (RR acc cenv.locals) s₄) E s₃) E s2:=by
 have hcells:∀ y∈scope.names,y.2=.free->∃ c,X.env.cells.lookup y.1=some c:=fun y hy hf=>I2.ok.has y.1 (hfree y hy hf)
 have hD:H2 s2.heap.objs.size=none:=I2.hok.fresh (Nat.le_refl _)
 obtain⟨W,⟨m0,w0⟩,turn⟩:=q s2.heap.objs.size hD
 refine wpAny_newObj_type ?_ (Nat.zero_le _)
 generalize hs3:({ s2 with heap:=s2.heap.push { cls:=.type "list",dict:=none,data:=.seq ([]:List Value).toArray } }:Shared)=s3
 have I3:Inv X pins σ (upd H2 s2.heap.objs.size (.lst [])) s3:=by
  subst hs3
  exact I2.laid (t':=s2.toks) (fun b u e=>Heap.get?_push_of_some _ e) (Nat.le_refl _) ⟨Nat.zero_le _,[],0,.nil,Heap.get?_push_size _ rfl⟩
 have sz3:s3.heap.objs.size=s2.heap.objs.size+1:=by rw[<- hs3];exact Heap.size_push ..
 have k23:∀ b o,s2.heap.get? b=some o->s3.heap.get? b=some o:=fun b o e=>by rw[<- hs3];exact Heap.get?_push_of_some _ e
 generalize hH3:upd H2 s2.heap.objs.size (.lst [])=H3 at I3 w0
 have clLook:∀ x c,(xX X.env scope.names []).lookup x=some c->X.env.cells.lookup x=some c:=fun x c e=>by
  rcases tG e with z|⟨z1,z2⟩
  ·cases z
  ·obtain⟨c',hc'⟩:=hcells (x,.free) z1 rfl
   rw[hc'] at z2 ⊢
   rw[z2]
   rfl
 have clMem:∀ x c,(x,c)∈xX X.env scope.names []->∃ c',X.env.cells.lookup x=some c'/\c=c':=by
  have aux:∀(names:List (Str×NameKind)) (acc:List (Str×Addr)),(∀ y∈names,y.2=.free->∃ c,X.env.cells.lookup y.1=some c)->(∀ x c,(x,c)∈acc->∃ c',X.env.cells.lookup x=some c'/\c=c')->
    ∀ x c,(x,c)∈xX X.env names acc->∃ c',X.env.cells.lookup x=some c'/\c=c':=by
   intro names
   induction names with
   |nil=>intro acc _ h x c hm;exact h x c hm
   |cons p r ih=>
    obtain⟨n,k⟩:=p
    intro acc hn h x c hm
    unfold xX at hm
    have hr:∀ y∈r,y.2=.free->∃ c,X.env.cells.lookup y.1=some c:=fun y hy=>hn y (List.mem_cons_of_mem _ hy)
    split at hm
    ·rename_i hk
     refine ih _ hr (fun x c hm=> ?_) x c hm
     rcases List.mem_cons.mp hm with e|hm
     ·cases e
      obtain⟨c',hc'⟩:=hn (n,k) List.mem_cons_self (by simpa using hk)
      exact⟨c',hc',by rw[hc'];rfl⟩
     ·exact h x c hm
    ·exact ih _ hr h x c hm
  exact aux scope.names [] hcells (fun x c hm=>by cases hm)
 have cellLt:∀ x c,X.env.cells.lookup x=some c->c<s2.heap.objs.size:=fun x c e=>by
  obtain⟨v,z⟩:=I2.cell x c e
  exact z.lt
 have hltc:∀ x c,(x,c)∈xX X.env scope.names []->c<s3.heap.objs.size:=fun x c hm=>by
  obtain⟨c',hc',rfl⟩:=clMem x c hm
  have:=cellLt x c hc'
  walk_at "adr"
 refine Ih (fun h4 k34 ns4 nc=> ?_) hltc
 generalize hC:s3.heap.objs.size=C at ns4 nc
 generalize hcs:cellsFrom (C+1) scope.names (xX X.env scope.names [])=cells at nc
 -- the block's own invariant
 have cellOld:∀ x c,cells.lookup x=some c->c<C->X.env.cells.lookup x=some c:=fun x c e hlt=>by
  rw[<- hcs] at e
  rcases gJ e with z|⟨_,z⟩
  ·exact clLook x c z
  ·walk_at "adr"
 have cellNew:∀ x c,cells.lookup x=some c->¬ c<C->h4.IsCell c none/\C+1<=c:=fun x c e hge=>by
  rcases nc.cell x c (PySem.mem_of_lookup e) with z|z
  ·obtain⟨c',hc',rfl⟩:=clMem x c z
   have:=cellLt x c hc'
   walk_at "adr"
  ·exact z
 have sz4:C<=h4.objs.size:=Nat.le_of_lt ns4.lt
 have okB:(blk X N' scope cells C fp pins s3 H3).Ok:=by
  refine⟨I3.ok.mod,hkind,I3.ok.glob,I3.ok.blt,Nat.le_of_eq hC,fun x y c h1 h2=> ?_,fun x hx=> ?_,fun x c hf hx=> ?_,I3.ok.hd,I3.ok.frames,.inl rfl,fun b hb=>⟨?_,fun x c hx=> ?_⟩,I3.bs,Nat.le_trans I3.ok.bsz I3.sz,fun b o e hb=> ?_,fun b hb=> ?_,I3.stack,I3.stkFree⟩
  ·by_cases hlt:c<C
   ·exact I3.ok.inj x y c (cellOld x c h1 hlt) (cellOld y c h2 hlt)
   ·exact nc.apart x y c (PySem.mem_of_lookup h1) (PySem.mem_of_lookup h2) (cellNew x c h1 hlt).2
  ·show ∃ c,cells.lookup x=some c
   rw[<- hcs]
   have hx':(relabel scope X.env).names.lookup x=some .cell∨(relabel scope X.env).names.lookup x=some .free:=hx
   have fromFree:(x,NameKind.free)∈scope.names->∃ c,(cellsFrom (C+1) scope.names (xX X.env scope.names [])).lookup x=some c:=fun hm=>fP (zS hm)
   rcases hx' with hx'|hx'
   ·rcases iU hx' with z|⟨_,z⟩
    ·exact lR (dY z)
    ·exact fromFree (dY z)
   ·rcases iU hx' with z|⟨z,_⟩
    ·exact fromFree (dY z)
    ·cases z
  ·have hf':(x,NameKind.cell)∈scope.names:=dY (by simpa using (show(scope.names.lookup x==some .cell)=true from hf))
   by_cases hlt:c<C
   ·exfalso
    have e:(cellsFrom (C+1) scope.names (xX X.env scope.names [])).lookup x=some c:=by rw[hcs];exact hx
    rcases gJ e with z|⟨_,z⟩
    ·rcases tG z with z|⟨z1,_⟩
     ·cases z
     ·exact huniq (x,.free) z1 rfl hf'
    ·walk_at "adr"
   ·show s3.heap.objs.size<=c
    have:=(cellNew x c hx hlt).2
    walk_at "adr"
  ·have:=(f2 b hb)
   obtain⟨o,e,_⟩:=T.obj 0 _ st2 b hb
   have:=Heap.lt_size e
   show b≠C
   walk_at "adr"
  ·obtain⟨o,e,hcell⟩:=T.obj 0 _ st2 b hb
   have hlt':=Heap.lt_size e
   intro z
   by_cases hlt:c<C
   ·exact(f2 b hb).2.2.2.2.1 x c (cellOld x c hx hlt) z
   ·have:=(cellNew x c hx hlt).2
    walk_at "adr"
  ·rcases(f2 b hb).2.2.2.1 with z|z
   ·exact I2.ok.noex b o e z
   ·have q1:=Heap.lt_size e
    have q2:=I2.ok.bsz
    have q3:=I2.sz
    exact absurd (Nat.lt_of_lt_of_le q1 (Nat.le_trans q2 z)) (Nat.lt_irrefl _)
  ·intro z
   rcases List.mem_cons.mp (I3.stkSub b z) with z|z
   ·exact(f2 b hb).2.1 z
   ·exact(f2 b hb).2.2.1 z
 have hfpC:∀ b∈fp,b<C:=fun b hb=>by
  obtain⟨o,e,_⟩:=T.obj 0 _ st2 b hb
  have:=Heap.lt_size e
  walk_at "adr"
 have Hnew:∀ b,C<=b->H3 b=none:=fun b hb=>by
  cases z:H3 b with
  |none=>rfl
  |some o=>
   have:=I3.hok.lt z
   walk_at "adr"
 have IB:Inv (blk X N' scope cells C fp pins s3 H3) [] (GW caps σ) H3 { s3 with heap:=h4 }:=by
  refine⟨okB,rfl,I3.bare,Un.kept k34,⟨_,ns4,fun i x v e1 e2 e3=> ?_⟩,fun x c hx=> ?_,Hnew C (Nat.le_refl _),fun x c hx=> ?_,fun p hp=> ?_,I3.hok.kept k34,?_⟩
  ·-- a captured name
   have e2':(GW caps σ)[i]?=some (some v):=e2
   unfold GW at e2'
   rw[List.getElem?_map] at e2'
   cases hci:caps[i]? with
   |none=>rw[hci] at e2';cases e2'
   |some o=>
    rw[hci] at e2'
    cases o with
    |none=>cases e2'
    |some j=>
     obtain⟨x',hx1,hx2,hx3,hx4,hx5⟩:=hcap.2 i j hci
     have ex:x=x':=by
      have e1':N'[i]?=some x:=e1
      rw[hx1] at e1'
      exact(Option.some.inj e1').symm
     subst ex
     have hσ:σ[j]?=some (some v):=by
      have z:(σ[j]?).join=some v:=Option.some.inj e2'
      cases hj:σ[j]? with
      |none=>rw[hj] at z;cases z
      |some o=>
       rw[hj] at z
       cases o with
       |none=>cases z
       |some v'=>cases z;rfl
     obtain⟨m,hn,hl⟩:=I3.loc
     obtain⟨u,r,l⟩:=hl j x v hx2 hσ (hx5.elim (fun z=>.inr (.inl z)) fun z=>.inr (.inr z))
     refine⟨u,r,?_⟩
     rcases l with⟨k,_⟩|⟨_,c,hcx,hcell⟩
     ·have k':X.env.scope.names.lookup x=some .local:=k
      rcases hx5 with z|z
      ·rw[k'] at z;cases z
      ·rw[k'] at z;cases z
     ·have hlk:cells.lookup x=some c:=by
       rw[<- hcs,kH hx4]
       obtain⟨c',hc'⟩:=zS (env:=X.env) (acc:=[]) (dY hx3)
       rw[hc',<- clLook x c' hc',hcx]
      have e3':(relabel scope X.env).names.lookup x=some .local∨(relabel scope X.env).names.lookup x=some .cell∨(relabel scope X.env).names.lookup x=some .free:=e3
      rcases e3' with z|z|z
      ·exfalso
       rcases iU z with z|⟨z,_⟩
       ·rw[hx3] at z
        cases z
       ·cases z
      ·exact .inr ⟨.inl z,c,hlk,hcell.keeps k34⟩
      ·exact .inr ⟨.inr z,c,hlk,hcell.keeps k34⟩
  ·by_cases hlt:c<C
   ·obtain⟨v,z⟩:=I3.cell x c (cellOld x c hx hlt)
    exact⟨v,z.keeps k34⟩
   ·exact⟨none,(cellNew x c hx hlt).1⟩
  ·by_cases hlt:c<C
   ·exact I3.freeC x c (cellOld x c hx hlt)
   ·exact Hnew c (by walk_at "adr")
  ·have hp':p∈X.pn++pins:=by
    have hp'':p∈(X.pn++pins)++[]:=hp
    rwa [List.append_nil] at hp''
   obtain⟨e,n,ne,nf,d⟩:=I3.pin p hp'
   refine⟨k34 _ _ e,n,?_,fun z=> ?_,d⟩
   ·show p.1≠C
    have:=Heap.lt_size e
    walk_at "adr"
   ·rcases List.mem_cons.mp (I3.stkSub p.1 z) with z|z
    ·exact ne z
    ·exact nf z
  ·show(GW caps σ).length=N'.length
   unfold GW
   rw[List.length_map]
   exact hcap.1
 have tn4:tn 0 h4:=T.keep 0 _ _ st2 fun b hb o e=>k34 b o (k23 b o e)
 have fr3:∀ b∈fp,H3 b=none:=fun b hb=>by
  obtain⟨o,e,_⟩:=T.obj 0 _ st2 b hb
  rw[<- hH3,aM (Nat.ne_of_lt (Heap.lt_size e))]
  exact(f2 b hb).1
 have stat:∀ {H':Hp},(∀ b∈fp,H' b=none)->∀ b∈fp,JZ (blk X N' scope cells C fp pins s3 H3) [] H' b:=fun hn b hb=>
  ⟨hn b hb,Nat.ne_of_lt (hfpC b hb),fun z=>okB.exfs b hb z,.inl hb,fun x c hx=>(okB.exf b hb).2 x c hx,fun p hp=>by
   have hp':p∈X.pn++pins:=by
    have hp'':p∈(X.pn++pins)++[]:=hp
    rwa [List.append_nil] at hp''
   exact(f2 b hb).2.2.2.2.2 p hp'⟩
 obtain⟨hG,hT,hE⟩:=hb cells C fp pins s3 H3
 have loop:codeAny (model X.prog X.w) X.A (.compLoop (.ListComp elt [⟨tg,iter,ifs,0⟩] scope pos) 0 (.ref it) (.ref s2.heap.objs.size) (compEnvC scope cells C X.env)) (RR (.ref s2.heap.objs.size) C) { s3 with heap:=h4 }:=by
  refine Bv (fun n s'=>∃ i σ' H',Inv (blk X N' scope cells C fp pins s3 H3) [] σ' H' s'/\tn i s'.heap/\(∀ b∈fp,H' b=none)/\W i n σ' H') ?_ m0 ⟨0,_,_,IB,tn4,fr3,w0⟩
  rintro n s5 ⟨i,σ5,H5,I5,st5,fr5,w5⟩
  rcases turn i n σ5 H5 w5 with⟨stop,qn⟩|⟨go,step⟩
  ·refine thn (T.done (blk X N' scope cells C fp pins s3 H3) rfl rfl rfl hc i [] s5 σ5 H5 _ I5 (stat fr5) st5 stop) fun r s6 ⟨hr,I6⟩=> ?_
   subst hr
   obtain⟨m6,ns6,_⟩:=I6.loc
   have un7:Un (frs X.stack) fp H3 H5 s3.heap s6.heap:=I6.base
   have I8:Inv X pins σ H5 s6:=by
    refine I3.call' (ch:=fp) I6.os un7 I6.hok I6.bare fun b hb=>⟨?_,(f2 b hb).2.1,(f2 b hb).2.2.2.2.1,(f2 b hb).2.2.2.2.2⟩
    exact(f2 b hb).2.2.2.1
   refine hfin C s2.heap.objs.size s6 H5 I8 qn ⟨m6,ns6⟩ I6.free ?_ (by have:=I3.sz;walk_at "adr") (fun x c e=> ?_) fun p hp=> ?_
   ·have:=I3.lt
    walk_at "adr"
   ·have:=cellLt x c e
    walk_at "adr"
   ·have:=Heap.lt_size (I3.pin p hp).1
    walk_at "adr"
  ·refine thn (T.item (blk X N' scope cells C fp pins s3 H3) rfl rfl rfl hc i [] s5 σ5 H5 _ I5 (stat fr5) st5 go) fun r s6 ⟨u,hr,h6⟩=> ?_
   subst hr
   refine thn h6 fun _ s7 ⟨x,H7,I7,r7,y7,st7,fr7⟩=> ?_
   have I7':=I7.pinned (stat fr7) (T.obj _ _ st7)
   have keepTn:∀ {σ':St}{H':Hp}{s':Shared},Inv (blk X N' scope cells C fp pins s3 H3) ([]++AE fp s7.heap) σ' H' s'->tn (i+1) s'.heap/\∀ b∈fp,H' b=none:=fun {σ' H' s'} I'=>by
    refine⟨T.keep _ _ _ st7 fun b hb o e=>(I'.pin (b,o) (List.mem_append_right _ (List.mem_append_right _ (mM hb e)))).1,fun b hb=> ?_⟩
    obtain⟨o,e,d⟩:=T.obj _ _ st7 b hb
    exact(I'.pin (b,o) (List.mem_append_right _ (List.mem_append_right _ (mM hb e)))).2.1
   refine thn (hG _ s7 σ5 H7 x u _ I7' r7 (step x H7 y7)) fun _ s8 ⟨σ8,H8,I8,q8⟩=> ?_
   refine thn (hT _ s8 σ8 H8 _ I8 q8) fun b s9 ⟨H9,I9,q9⟩=> ?_
   cases b with
   |false=>
    rw[if_neg Bool.false_ne_true] at q9 ⊢
    obtain⟨m',hm,w9⟩:=q9
    exact⟨m',hm,i+1,σ8,H9,I9.unpinned,(keepTn I9).1,(keepTn I9).2,w9⟩
   |true=>
    rw[if_pos rfl] at q9 ⊢
    refine thn (hE _ s9 σ8 H9 _ I9 q9) fun y s10 ⟨yv,H10,I10,r10,q10⟩=> ?_
    obtain⟨ys,m',hy,hz,hm,w10⟩:=q10
    refine thn (AN _ s10 σ8 H10 (.ref s2.heap.objs.size) [yv] (.ref s2.heap.objs.size) [y] (fun _ H'=>H'=upd H10 s2.heap.objs.size (.lst (ys++[yv]))) I10 rfl (.cons r10 .nil) ⟨_,ys,yv,rfl,rfl,hy,hz,rfl⟩) fun _ s11 ⟨_,H11,I11,_,e11⟩=> ?_
    subst e11
    exact⟨m',hm,i+1,σ8,_,I11.unpinned,(keepTn I11).1,(keepTn I11).2,w10⟩
 exact codeAny_compStart_list loop (T.self X.A 0 _ _ _ tn4 loop)
theorem KB (hc:X.calm=true) (hkind:scope.kind=.function) (hnames:∀ x∈scope.names,x.2=.local->scope.names.lookup x.1=some .local)
  (hfree:∀ y∈scope.names,y.2=.free->X.env.scope.names.lookup y.1=some .cell∨X.env.scope.names.lookup y.1=some .free) (huniq:∀ y∈scope.names,y.2=.free->(y.1,NameKind.cell)∉scope.names)
  (hcap:DZ X scope N' caps) (hi:PI X tg iter wi)
  (hb:∀ cells C fp pins s₀ H₀,PG (blk X N' scope cells C fp pins s₀ H₀) tg g/\Mg (blk X N' scope cells C fp pins s₀ H₀) ifs tt/\PE (blk X N' scope cells C fp pins s₀ H₀) elt te)
  (hs:∀ x,foldedSetIterable iter X.env x=pure x:=by intro _;rfl):PE X (.ListComp elt [⟨tg,iter,ifs,0⟩] scope pos) (Ke wi caps g tt te):=by
 intro pins s σ H Q I h
 have hclos:=xW (scope:=scope) (env:=X.env) fun y hy hf=>I.ok.has y.1 (hfree y hy hf)
 rw[eval_ListComp]
 refine wpAny_comprehension_free (use:=none) rfl hs hclos hkind hnames (thn (hi pins s σ H _ I h) fun v s1 h1=>thn h1 fun itv s2 h2=> ?_)
 obtain⟨it,fp,tn,J,H2,e,I2,T,st2,f2,q⟩:=h2
 subst e
 refine Bt (RR:=fun acc C=>compPost (model X.prog X.w) X.A X.xe none (EP X pins σ Q) acc C) (Qn:=fun v H=>∀ a,v=.ref a->Q (.ref a) H) hc hkind hfree huniq hcap hb I2 T st2 f2 (fun D hD=> ?_) fun C D s6 H6 I6 q6 ⟨m6,ns6⟩ hC h1 h2 h3 h4=> ?_
 ·obtain⟨W,w0,turn⟩:=q D hD
  refine⟨W,w0,fun i m σ' H w=> ?_⟩
  rcases turn i m σ' H w with⟨a,b⟩|z
  ·exact .inl ⟨a,fun c hc=>by cases hc;exact b⟩
  ·exact .inr z
 ·refine⟨m6,ns6,fun h7 sb=> ?_⟩
  have I8:Inv X pins σ H6 { s6 with heap:=h7 }:=I6.turned (t':=s6.toks) (fun b o hb e=>(sb.2 b hb).trans e) hC h1 (.inr h2) h3 h4
  exact⟨.ref D,H6,I8,rfl,q6 D rfl⟩
def Ms (wi:TI) (caps:List (Option Nat)) (g:TG) (tt:TT) (te:TE) (i:Nat):TS:=fun D σ H=>Ke wi caps g tt te σ H fun x H1=>D.nx (σ.set i (some x)) H1
theorem Kt {y:Str}{py spos:Pos}{i:Nat} (hN:X.N.Nodup) (hiy:X.N[i]?=some y) (hy:X.env.scope.names.lookup y=some .local) (hc:X.calm=true) (hkind:scope.kind=.function) (hnames:∀ x∈scope.names,x.2=.local->scope.names.lookup x.1=some .local)
  (hfree:∀ y∈scope.names,y.2=.free->X.env.scope.names.lookup y.1=some .cell∨X.env.scope.names.lookup y.1=some .free) (huniq:∀ y∈scope.names,y.2=.free->(y.1,NameKind.cell)∉scope.names)
  (hcap:DZ X scope N' caps) (hi:PI X tg iter wi)
  (hb:∀ cells C fp pins s₀ H₀,PG (blk X N' scope cells C fp pins s₀ H₀) tg g/\Mg (blk X N' scope cells C fp pins s₀ H₀) ifs tt/\PE (blk X N' scope cells C fp pins s₀ H₀) elt te)
  (hsw:swapsWith (.ListComp elt [⟨tg,iter,ifs,0⟩] scope pos) (some (.Name y py)) spos.line X.env=pure true:=by rfl)
  (hs:∀ x,foldedSetIterable iter X.env x=pure x:=by intro _;rfl):PS X (.Assign [.Name y py] (.ListComp elt [⟨tg,iter,ifs,0⟩] scope pos) spos) (Ms wi caps g tt te i):=by
 intro pins s σ H D I h
 have hclos:=xW (scope:=scope) (env:=X.env) fun y hy hf=>I.ok.has y.1 (hfree y hy hf)
 rw[exec_Assign_Name_used _ _ _ _ hsw]
 refine wpAny_bind (wpAny_standAt (wpAny_bind ?_))
 show wpAny _ X.A (do let _ <- comprehension (.ListComp elt [⟨tg,iter,ifs,0⟩] scope pos) scope X.env _ (newList []) false (eval iter X.env) (some (assign (.Name y py) X.env))) _ _ s
 refine wpAny_bind (wpAny_mono (wpAny_comprehension_free (use:=some (assign (.Name y py) X.env)) (Q:=fun _ s'=>SP X pins D .next s') rfl hs hclos hkind hnames
  (thn (hi pins s σ H _ I h) fun v s1 h1=>thn h1 fun itv s2 h2=> ?_)) (fun _ s' hq=>wpAny_pure (wpAny_pure hq)) fun _ _ e=>e)
 obtain⟨it,fp,tn,J,H2,e,I2,T,st2,f2,q⟩:=h2
 subst e
 refine Bt (RR:=fun acc C=>compPost (model X.prog X.w) X.A X.xe (some (assign (.Name y py) X.env)) (fun _ s'=>SP X pins D .next s') acc C) (Qn:=fun v H=>∀ a,v=.ref a->D.nx (σ.set i (some (.ref a))) H) hc hkind hfree huniq hcap hb I2 T st2 f2 (fun D' hD=> ?_) fun C D' s6 H6 I6 q6 ⟨m6,ns6⟩ hC h1 h2 h3 h4=> ?_
 ·obtain⟨W,w0,turn⟩:=q D' hD
  refine⟨W,w0,fun i m σ' H w=> ?_⟩
  rcases turn i m σ' H w with⟨a,b⟩|z
  ·exact .inl ⟨a,fun c hc=>by cases hc;exact b⟩
  ·exact .inr z
 ·show wpAny _ X.A (assign (.Name y py) X.env (.ref D')) _ _ _
  refine wpAny_assign_Name (Ap I6 hN hiy (.inl hy) (v:=.ref D') (u:=.ref D') rfl (fun s7 I7 ⟨a,sb,ha⟩=> ?_) (.inr hy))
  have hCa:C≠a:=by
   rcases ha with rfl|ha
   ·exact h1
   ·exact fun z=>h3 y a ha z.symm
  refine⟨m6,ns6.sameBut sb hCa,fun h8 sb8=> ?_⟩
  have I8:Inv X pins (σ.set i (some (.ref D'))) H6 { s7 with heap:=h8 }:=I7.turned (t':=s7.toks) (fun b o hb e=>(sb8.2 b hb).trans e) hC h1 (.inr h2) h3 h4
  exact⟨_,H6,I8,q6 D' rfl⟩
end
end L2.MB
end
section
namespace L2.MB
open PySem PySem.Spec PyProof.Rows
local macro_rules| `(tactic|walk_at "adr")=> `(tactic|((try unfold PySem.Addr at*);omega))
def Itz (K:PySem.W.Frag) (l1 l2:Addr):It:=
 ⟨fun i H=>∃ xs ys x y,SqL K H l1 xs/\SqL K H l2 ys/\xs[i]?=some x/\ys[i]?=some y,
  fun i H v H'=>∃ T x y,v=.ref T/\H T=none/\(∀ xs,SqL K H l1 xs->xs[i]?=some x)/\(∀ ys,SqL K H l2 ys->ys[i]?=some y)/\H'=upd H T (.tup [x,y]),
  fun i H=>∃ xs ys,SqL K H l1 xs/\SqL K H l2 ys/\(xs.length<=i∨ys.length<=i)⟩
theorem Hu {P:Program}{w:World}{K:PySem.W.Frag}{es:List Expr}{k:Nat}{pos:Pos}{z TI TO i1 i2 l1 l2:Addr} (D:ZipApart z TI TO i1 i2 l1 l2):LX P w K (.Tuple es k pos) (Itz K l1 l2) [z,TI,TO,i1,i2] z
  (fun i h=>IsZip h z TI TO .none/\IsPair h TI (.ref i1) (.ref i2)/\(∃ a b,IsPair h TO a b)/\h.IsListIter i1 l1 i/\h.IsListIter i2 l2 i) where
 mem:=by simp
 obj:=fun i h st b hb=>by
  obtain⟨hz,hTI,⟨a,b',hTO⟩,⟨o1,e1,c1,d1⟩,⟨o2,e2,c2,d2⟩⟩:=st
  simp only[List.mem_cons,List.not_mem_nil,or_false] at hb
  rcases hb with rfl|rfl|rfl|rfl|rfl
  ·exact⟨_,hz,fun v q=>by cases (show Data.fields _=Data.cell v from q)⟩
  ·exact⟨_,hTI,fun v q=>by cases (show Data.seq _ _=Data.cell v from q)⟩
  ·exact⟨_,hTO,fun v q=>by cases (show Data.seq _ _=Data.cell v from q)⟩
  ·exact⟨o1,e1,fun v q=>by rw[d1] at q;cases q⟩
  ·exact⟨o2,e2,fun v q=>by rw[d2] at q;cases q⟩
 keep:=fun i h h' st kp=>by
  obtain⟨hz,hTI,⟨a,b',hTO⟩,h1,h2⟩:=st
  exact⟨kp z (by simp) _ hz,kp TI (by simp) _ hTI,⟨a,b',kp TO (by simp) _ hTO⟩,h1.at fun o e=>kp i1 (by simp) o e,h2.at fun o e=>kp i2 (by simp) o e⟩
 item:=by
  intro X hP hw hK hc i pins s σ H E I hf st hg
  subst hP hw hK
  obtain⟨hz,hTI,⟨a,b',hTO⟩,h1,h2⟩:=st
  obtain⟨xs,ys,x,y,hq1,hq2,hx,hy⟩:=hg
  obtain⟨its1,rv1,p1,hz1⟩:=I.list hq1
  obtain⟨its2,rv2,p2,hz2⟩:=I.list hq2
  obtain⟨u1,hu1,ru1⟩:=rv1.get hx
  obtain⟨u2,hu2,ru2⟩:=rv2.get hy
  have lt:∀ {c:Addr}{o:Obj},s.heap.get? c=some o->c<s.heap.objs.size:=fun e=>Heap.lt_size e
  refine wpAny_pyNext_zip_item D hz hTI hTO h1 h2 p1.isList p2.isList (x:=u1) (y:=u2) (by simpa using hu1) (by simpa using hu2) fun h' a1 a2 a3 a4 a5 a6 hk=> ?_
  refine⟨_,rfl,wpAny_letOwnedTupleGo_zip (s:={ s with heap:=h' }) a1 fun h'' z1 sb=> ?_⟩
  have hTf:H s.heap.objs.size=none:=I.hok.fresh (Nat.le_refl _)
  have hzlt:=lt hz
  have up:∀ b o,b≠z->b≠TO->b≠i1->b≠i2->s.heap.get? b=some o->h''.get? b=some o:=fun b o n1 n2 n3 n4 e=>(sb.2 b n1).trans (hk b o n1 n2 n3 n4 e)
  have fpb:∀ b,b=z∨b=TO∨b=i1∨b=i2->b∈[z,TI,TO,i1,i2]:=fun b hb=>by
   rcases hb with rfl|rfl|rfl|rfl <;> simp
  have nT:∀ b,b∈[z,TI,TO,i1,i2]->b≠s.heap.objs.size:=fun b hb=>by
   obtain⟨o1,e1,_⟩:=h1
   obtain⟨o2,e2,_⟩:=h2
   simp only[List.mem_cons,List.not_mem_nil,or_false] at hb
   rcases hb with rfl|rfl|rfl|rfl|rfl
   ·exact Nat.ne_of_lt (lt hz)
   ·exact Nat.ne_of_lt (lt hTI)
   ·exact Nat.ne_of_lt (lt hTO)
   ·exact Nat.ne_of_lt (lt e1)
   ·exact Nat.ne_of_lt (lt e2)
  have trk:∀ b u,H b=some u->b∉[z,TI,TO,i1,i2]:=fun b u e hb=>by
   rw[(hf b hb).1] at e
   cases e
  have upH:∀ b u o,H b=some u->s.heap.get? b=some o->h''.get? b=some o:=fun b u o e q=>
   up b o (fun w=>trk b u e (fpb b (.inl w))) (fun w=>trk b u e (fpb b (.inr (.inl w)))) (fun w=>trk b u e (fpb b (.inr (.inr (.inl w))))) (fun w=>trk b u e (fpb b (.inr (.inr (.inr w))))) q
  have hTup:IsTup h'' s.heap.objs.size #[u1,u2]:=⟨_,(sb.2 _ (Nat.ne_of_gt hzlt)).trans a5,rfl,_,rfl⟩
  have hok:HOk X.prog X.w (upd H s.heap.objs.size (.tup [x,y])) h'':=fun b u e=>by
   by_cases hb:b=s.heap.objs.size
   ·subst hb
    rw[aS] at e
    cases e
    exact⟨by show 2<=sizeLine;decide,[u1,u2],.cons ru1 (.cons ru2 .nil),hTup⟩
   ·rw[aM hb] at e
    refine(I.hok b u e).stay (fun c v hcb q=> ?_) (fun c q=>by rw[aM (aQ q hTf)];exact q) fun c zs q=>by rw[aM (aQ q hTf)];exact q
    rcases hcb with rfl|hcb
    ·exact upH _ _ v e q
    ·exact upH _ _ v hcb q
  have I2:Inv X pins σ (upd H s.heap.objs.size (.tup [x,y])) { s with heap:=h'' }:=by
   refine I.step (g':=s.gens) (d':=s.drawn) (t':=s.toks) (ch:=[z,TO,i1,i2]) (fun b hb=> ?_) (fun b o hL hb hcb e n=> ?_) (fun b o hL hb hcb e n=>⟨o.slots,?_⟩) (fun b o hcb e n=> ?_) (fun b o hcb e=>⟨o,?_⟩)
    (fun b zs e=>by rw[aM (aQ e hTf)];exact e) (fun b ob zs e=>by rw[aM (aQ e hTf)];exact e) (fun b ps e=>⟨#[],by rw[aM (aQ e hTf),e];simp⟩) (fun m hm=> ?_) hok I.bare
   ·have hb':b∈[z,TI,TO,i1,i2]:=by
     simp only[List.mem_cons,List.not_mem_nil,or_false] at hb
     exact fpb b hb
    obtain⟨f0,f1,f2,f3,f4,f5⟩:=hf b hb'
    exact⟨f3,f1,f4,f5⟩
   ·simp only[List.mem_cons,List.not_mem_nil,or_false,not_or] at hcb
    exact up b o hcb.1 hcb.2.1 hcb.2.2.1 hcb.2.2.2 e
   ·simp only[List.mem_cons,List.not_mem_nil,or_false,not_or] at hcb
    exact up b o hcb.1 hcb.2.1 hcb.2.2.1 hcb.2.2.2 e
   ·rw[aM (Nat.ne_of_lt (lt e))]
    exact n
   ·simp only[List.mem_cons,List.not_mem_nil,or_false,not_or] at hcb
    exact up b o hcb.1 hcb.2.1 hcb.2.2.1 hcb.2.2.2 e
   ·obtain⟨o,es',ep,ho,r⟩:=hm
    exact⟨o,es',ep,up _ o (fun q=>(hf z (by simp)).2.1 q.symm) (fun q=>(hf TO (by simp)).2.1 q.symm) (fun q=>(hf i1 (by simp)).2.1 q.symm) (fun q=>(hf i2 (by simp)).2.1 q.symm) ho,r⟩
  refine⟨.ref s.heap.objs.size,_,I2,rfl,⟨s.heap.objs.size,x,y,rfl,hTf,fun zs q=>by rw[I.list_inj q hq1];exact hx,fun zs q=>by rw[I.list_inj q hq2];exact hy,rfl⟩,?_,fun b hb=> ?_⟩
  ·exact⟨z1,(sb.2 _ D.TIz).trans (hk _ _ D.TIz D.TITO D.TIi1 D.TIi2 hTI),⟨_,_,(sb.2 _ D.TOz).trans a2⟩,a3.at fun o e=>(sb.2 _ D.i1z).trans e,a4.at fun o e=>(sb.2 _ D.i2z).trans e⟩
  ·rw[aM (nT b hb)]
   exact(hf b hb).1
 done:=by
  intro X hP hw hK hc i pins s σ H E I hf st hg
  subst hP hw hK
  obtain⟨hz,hTI,⟨a,b',hTO⟩,h1,h2⟩:=st
  obtain⟨xs,ys,hq1,hq2,hx⟩:=hg
  obtain⟨its1,rv1,p1,hz1⟩:=I.list hq1
  obtain⟨its2,rv2,p2,hz2⟩:=I.list hq2
  have hl1:=rv1.length
  have hl2:=rv2.length
  refine wpAny_pyNext_zip_end (I.ok.hd hc) D hz hTI hTO h1 h2 p1.isList p2.isList ?_ fun h' hk=>⟨rfl,?_⟩
  ·rcases hx with hx|hx
   ·exact .inl (by simp;omega)
   ·exact .inr (by simp;omega)
  ·have trk:∀ b u,H b=some u->b∉[z,TI,TO,i1,i2]:=fun b u e hb=>by
    rw[(hf b hb).1] at e
    cases e
   have up:∀ b o,b∉[z,TO,i1,i2]->s.heap.get? b=some o->h'.get? b=some o:=fun b o hb e=>by
    simp only[List.mem_cons,List.not_mem_nil,or_false,not_or] at hb
    exact hk b o hb.1 hb.2.1 hb.2.2.1 hb.2.2.2 e
   have sub:∀ b,b∈[z,TO,i1,i2]->b∈[z,TI,TO,i1,i2]:=fun b hb=>by
    simp only[List.mem_cons,List.not_mem_nil,or_false] at hb ⊢
    rcases hb with rfl|rfl|rfl|rfl <;> simp
   refine I.step (g':=s.gens) (d':=s.drawn) (t':=s.toks) (ch:=[z,TO,i1,i2]) (fun b hb=> ?_) (fun b o hL hb hcb e n=>up b o hcb e) (fun b o hL hb hcb e n=>⟨o.slots,up b o hcb e⟩) (fun b o hcb e n=>n) (fun b o hcb e=>⟨o,up b o hcb e⟩)
    (fun b zs e=>e) (fun b ob zs e=>e) (fun b ps e=>⟨#[],by rw[e];simp⟩) (fun m hm=> ?_) (fun b u e=> ?_) I.bare
   ·obtain⟨f0,f1,f2,f3,f4,f5⟩:=hf b (sub b hb)
    exact⟨f3,f1,f4,f5⟩
   ·obtain⟨o,es',ep,ho,r⟩:=hm
    exact⟨o,es',ep,up _ o (fun q=>(hf _ (sub _ q)).2.1 rfl) ho,r⟩
   ·refine(I.hok b u e).stay (fun c v hcb q=>up c v (fun w=> ?_) q) (fun _ q=>q) fun _ _ q=>q
    rcases hcb with rfl|hcb
    ·exact trk _ _ e (sub _ w)
    ·exact trk _ _ hcb (sub _ w)
 self:=fun _ _ _ _ _ st h=>wpAny_pyIter_zip st.1 h
def QK (K:PySem.W.Frag) (ta:TA):TI:=fun σ H R=>ta σ H fun vs H1=>∃ a b,vs=[.ref a,.ref b]/\(∃ xs,SqL K H1 a xs)/\(∃ ys,SqL K H1 b ys)/\R (Itz K a b) H1
section
variable {X:Cx}
theorem MO {a b:Expr}{ta:TA}{p pos tp:Pos}{es:List Expr}{k:Nat} (hg:Gl X "zip") (hm:X.mg "zip"=none) (ha:PA X [a,b] ta) (hs:starEach [a,b] X.env=[(false,eval a X.env),(false,eval b X.env)]:=by rfl) (hs2:starEach [b] X.env=[(false,eval b X.env)]:=by rfl):
  PI X (.Tuple es k tp) (.Call (.Name "zip" p) [a,b] [] pos) (QK X.K ta):=by
 intro pins s σ H R I h
 refine Call_ (AQ I hg hm PyProof.Rows.boot_zip (PyProof.Rows.callWith_type1 (thn (ha pos pins s σ H _ I h) fun us s1 ⟨vs,H1,I1,r1,q1⟩=> ?_) (by rw[hs,hs2]) (by rw[hs2];rfl)))
 obtain⟨a1,b1,e,⟨xs,hx⟩,⟨ys,hy⟩,q⟩:=q1
 subst e
 obtain⟨u1,u2,rfl,ru1,ru2⟩:=Ff r1
 cases ru1
 cases ru2
 obtain⟨its1,rv1,p1,hz1⟩:=I1.list hx
 obtain⟨its2,rv2,p2,hz2⟩:=I1.list hy
 have lt1:a1<s1.heap.objs.size:=by obtain⟨o,_,e,_⟩:=p1;exact Heap.lt_size e
 have lt2:b1<s1.heap.objs.size:=by obtain⟨o,_,e,_⟩:=p2;exact Heap.lt_size e
 refine call_zip_2 p1.isList p2.isList fun h' hz hTI hTO hi1 hi2 hsz hk=> ?_
 have I2:Inv X pins σ H1 { s1 with heap:=h' }:=I1.kept (t':=s1.toks) hk
 refine wpAny_pyIter_zip (s:={ s1 with heap:=h' }) hz ?_
 refine⟨_,[_,_,_,_,_],_,_,H1,rfl,I2,Hu (zipApart_new lt1 lt2),⟨hz,hTI,⟨_,_,hTO⟩,hi1,hi2⟩,fun b hb=> ?_,q⟩
 have hb':s1.heap.objs.size<=b:=by
  simp only[List.mem_cons,List.not_mem_nil,or_false] at hb
  rcases hb with rfl|rfl|rfl|rfl|rfl <;> walk_at "adr"
 exact I1.fpOk hb' (I1.hok.fresh hb')
end
end L2.MB
end
section
namespace L2.MB
open PySem PySem.Spec PyProof.Rows
noncomputable def HE (ok:Okk) (H:Hp):Hp:=fun b=>@ite _ (ok b) (Classical.propDecidable _) (H b) none
theorem HC {ok:Okk}{H:Hp}{b:Addr} (h:ok b):HE ok H b=H b:=by unfold HE;rw[if_pos h]
theorem HD {ok:Okk}{H:Hp}{b:Addr} (h:¬ ok b):HE ok H b=none:=by unfold HE;rw[if_neg h]
theorem pJ {ok:Okk}{H:Hp}{b:Addr}{o:HO} (h:HE ok H b=some o):ok b/\H b=some o:=by
 by_cases k:ok b
 ·rw[HC k] at h;exact⟨k,h⟩
 ·rw[HD k] at h;cases h
structure ItD (K:PySem.W.Frag) (al:Nat->Option Addr) (H0:Hp) (J:It) (ds:List D):Prop where
 go:∀ i H,Same H0 H->i<ds.length->J.go i H
 yld:∀ i H x H' d,Same H0 H->J.yld i H x H'->ds[i]?=some d->Same H H'/\Rep K ⟨fun b=>H0 b≠none∨H b=none,al⟩ H' x d
 stop:∀ i H,Same H0 H->ds.length<=i->J.stop i H
theorem _root_.L2.PI.imp {X:Cx}{tg e:Expr}{t t':TI} (h:PI X tg e t) (f:∀ σ H R,t' σ H R->t σ H R):PI X tg e t':=fun pins s σ H R I q=>h pins s σ H R I (f _ _ _ q)
def toT:D->Option (List D)
 |.tup ds=>some ds
 |_=>none
section
variable {X:Cx}{tg e a b c:Expr}{f fa fb fc:DF}{fl:DL}{pos p:Pos}
def sI (lo:Int) (n:Nat):List D:=(List.range n).map fun k=>D.int (lo+(k:Nat))
theorem mH (lo:Int) (n:Nat):(sI lo n).length=n:=by simp[sI]
theorem HB {lo:Int}{n i:Nat}{d:D} (h:(sI lo n)[i]?=some d):i<n/\d=.int (lo+(i:Nat)):=by
 unfold sI at h
 rw[List.getElem?_map] at h
 obtain⟨k,e,rfl⟩:=aN h
 obtain⟨hi,e'⟩:=List.getElem?_eq_some_iff.mp e
 rw[List.length_range] at hi
 rw[List.getElem_range] at e'
 subst e'
 exact⟨hi,rfl⟩
theorem itD_range {K:PySem.W.Frag}{al:Nat->Option Addr}{H0:Hp}{lo:Int}{n:Nat}:ItD K al H0 (Itr lo n) (sI lo n):=
 ⟨fun i H _ hi=>by rw[mH] at hi;exact hi,fun i H x H' d _ y hd=>by
  obtain⟨rfl,rfl⟩:=y
  obtain⟨_,rfl⟩:=HB hd
  exact⟨Same.refl _,.int _⟩,fun i H _ hi=>by rw[mH] at hi;exact hi⟩
def sJ (ds:List D):Option (List D):=match ds with
 |[.int j]=>if -1000000000<=j/\j<=1000000000 then some (sI 0 j.toNat) else none
 |_=>none
def BQ (xs ys:List D):List D:=List.zipWith (fun x y=>D.tup [x,y]) xs ys
abbrev BR:=D->Rho->Option Rho
def gR (K:PySem.W.Frag) (bd:BR):TG:=fun v σ H Q=>∃(ok:Okk) (ρ ρ':Rho) (d:D),EnvR K ok H σ ρ/\σ.length=ρ.length/\Rep K ok H v d/\bd d ρ=some ρ'/\∀ σ',EnvR K ok H σ' ρ'->σ'.length=ρ'.length->Q σ' H
def bN (i:Nat):BR:=fun d ρ=>some (ρ.set i (some d))
theorem _root_.L2.PG.imp {X:Cx}{tg:Expr}{t t':TG} (h:PG X tg t) (f:∀ v σ H Q,t' v σ H Q->t v σ H Q):PG X tg t':=fun pins s σ H v u Q I r q=>h pins s σ H v u Q I r (f _ _ _ _ q)
theorem EnvR.set {K:PySem.W.Frag}{ok:Okk}{H:Hp}{σ:St}{ρ:Rho} (h:EnvR K ok H σ ρ) (hl:σ.length=ρ.length) {v:V}{d:D} (r:Rep K ok H v d) (i:Nat):EnvR K ok H (σ.set i (some v)) (ρ.set i (some d)):=fun j e hj=>by
 by_cases hij:i=j
 ·subst hij
  by_cases hi:i<ρ.length
  ·rw[List.getElem?_set_self hi] at hj
   cases hj
   exact⟨v,by rw[List.getElem?_set_self (by omega)],r⟩
  ·rw[List.getElem?_eq_none (by rw[List.length_set];omega)] at hj
   cases hj
 ·rw[List.getElem?_set_ne hij] at hj
  obtain⟨w,a,b⟩:=h j e hj
  exact⟨w,by rw[List.getElem?_set_ne hij];exact a,b⟩
theorem bT {i:Nat}{x:Str}{tp:Pos} (hN:X.N.Nodup) (hi:X.N[i]?=some x) (hx:Loc X.env.scope x) (hf:X.fn x=true∨X.env.scope.names.lookup x=some .local:=by first|exact .inl rfl|exact .inr rfl|assumption):PG X (.Name x tp) (gR X.K (bN i)):=
 PG.imp (Cf hN hi hx hf) fun v σ H Q ⟨ok,ρ,ρ',d,h1,h2,h3,h4,h5⟩=>by
  cases h4
  exact h5 _ (h1.set h2 h3 i) (by rw[List.length_set,List.length_set];exact h2)
def BG (i j:Nat):BR:=fun d ρ=>match d with
 |.tup [x,y]=>some ((ρ.set i (some x)).set j (some y))
 |_=>none
theorem zD {i j:Nat}{x y:Str}{p1 p2 tp:Pos}{k:Nat} (hc:X.calm=true) (hN:X.N.Nodup) (hi:X.N[i]?=some x) (hj:X.N[j]?=some y) (hx:Loc X.env.scope x) (hy:Loc X.env.scope y)
  (hf:X.fn x=true∨X.env.scope.names.lookup x=some .local:=by first|exact .inl rfl|exact .inr rfl|assumption) (hf2:X.fn y=true∨X.env.scope.names.lookup y=some .local:=by first|exact .inl rfl|exact .inr rfl|assumption):
  PG X (.Tuple [.Name x p1,.Name y p2] k tp) (gR X.K (BG i j)):=
 PG.imp (JC (n:=2) hc (sU (Cf hN hi hx hf) (sU (Cf hN hj hy hf2) FL))) fun v σ H Q ⟨ok,ρ,ρ',d,h1,h2,h3,h4,h5⟩=>by
  unfold BG at h4
  split at h4
  ·cases h4
   obtain⟨a,xs,rfl,g,r⟩:=h3.tup_inv
   obtain⟨v1,v2,rfl,r1,r2⟩:=r.two_inv
   refine⟨a,_,rfl,g.sq,rfl,v1,_,rfl,v2,_,rfl,rfl,?_⟩
   refine h5 _ ((h1.set h2 r1 i).set (by rw[List.length_set,List.length_set];exact h2) r2 j) ?_
   simp only[List.length_set]
   exact h2
  ·cases h4
def Ea (caps:List (Option Nat)) (ρ:Rho):Rho:=caps.map fun o=>o.bind fun j=>(ρ[j]?).join
def nN:DB:=fun _=>some true
theorem EnvR.cap {K:PySem.W.Frag}{ok:Okk}{H:Hp}{σ:St}{ρ:Rho} (h:EnvR K ok H σ ρ) (caps:List (Option Nat)):EnvR K ok H (GW caps σ) (Ea caps ρ):=fun i d e=>by
 unfold Ea at e
 rw[List.getElem?_map] at e
 obtain⟨o,e1,e2⟩:=aN e
 cases o with
 |none=>cases e2
 |some j=>
  have e3:(ρ[j]?).join=some d:=e2
  have e4:ρ[j]?=some (some d):=by
   cases q:ρ[j]? with
   |none=>rw[q] at e3;cases e3
   |some o=>
    rw[q] at e3
    cases o with
    |none=>cases e3
    |some d'=>cases e3;rfl
  obtain⟨v,a,b⟩:=h j d e4
  refine⟨v,?_,b⟩
  unfold GW
  rw[List.getElem?_map,e1]
  show some ((σ[j]?).join)=_
  rw[a]
  rfl
theorem LR (caps:List (Option Nat)) (σ:St) (ρ:Rho):(GW caps σ).length=(Ea caps ρ).length:=by simp[GW,Ea]
variable {elt iter:Expr}{ifs:List Expr}{scope:Scope}{N':List Str}{caps:List (Option Nat)}{fi:DL}{bd:BR}{t:DB}
structure Hs (X:Cx) (scope:Scope) (N':List Str) (caps:List (Option Nat)):Prop where
 calm:X.calm=true
 kind:scope.kind=.function
 names:∀ x∈scope.names,x.2=.local->scope.names.lookup x.1=some .local
 free:∀ y∈scope.names,y.2=.free->X.env.scope.names.lookup y.1=some .cell∨X.env.scope.names.lookup y.1=some .free
 uniq:∀ y∈scope.names,y.2=.free->(y.1,NameKind.cell)∉scope.names
 cap:DZ X scope N' caps
end
end L2.MB
end
section
namespace L2.MB
open PySem PySem.Spec PyProof.Rows
section
variable {K:PySem.W.Frag}{ok0:Okk}{H0 H H':Hp}{σ:St}{ρ:Rs}{A:Nat->Option Addr}
theorem Fw {α:Type}{l:List α}{i j:Nat}{a b:α} (h:(l.set i a)[j]?=some b):(j=i/\i<l.length/\b=a)∨(j≠i/\l[j]?=some b):=by
 by_cases e:i=j
 ·subst e
  by_cases hi:i<l.length
  ·rw[List.getElem?_set_self hi] at h
   exact .inl ⟨rfl,hi,(Option.some.inj h).symm⟩
  ·rw[List.getElem?_eq_none (by rw[List.length_set];omega)] at h
   cases h
 ·rw[List.getElem?_set_ne e] at h
  exact .inr ⟨fun z=>e z.symm,h⟩
end
section
variable {X:Cx}{st:Stmt}{rest body els:List Stmt}{tg e a b c iter:Expr}{es:List Expr}{f fa fb:DF}{fl fi:DL}{t:DB}{F G:DS}{bd:BS}{pos p:Pos}{M:List Nat}
end
theorem GQ {A:Around}{k n:Nat} (hr:Room k A) (h:n<=200:=by decide):A.units+n<cLine:=by
 have:=hr.un
 omega
end L2.MB
end
section
namespace L2.MB
open PySem PySem.Spec PyProof.Rows
def tK:List D->Option (List Int)
 |[]=>some []
 |.int i::ds=>(tK ds).map fun ns=>i::ns
 |_::_=>none
theorem wR:∀ {ds:List D}{ns:List Int},tK ds=some ns->ds=ns.map D.int
 |[],ns,h=>by cases h;rfl
 |.int i::ds,ns,h=>by
  have h':(tK ds).map (fun ns=>i::ns)=some ns:=h
  obtain⟨ms,e,rfl⟩:=aN h'
  rw[wR e]
  rfl
 |.non::_,_,h=>nomatch h
 |.bl _::_,_,h=>nomatch h
 |.str _::_,_,h=>nomatch h
 |.lst _::_,_,h=>nomatch h
 |.tup _::_,_,h=>nomatch h
section
variable {X:Cx}{e a b c:Expr}{es:List Expr}{f fa fb fc:DF}{fl:DL}{pos p:Pos}
theorem Cs {ns:List Int}{its:List Value} (h:Vals (ns.map V.int) its):∃ xs:Array (Int×Tok),its.toArray=intItems xs/\xs.toList.map (·.1)=ns:=by
 have hi:=EI h
 obtain⟨xs,e⟩:=(hi.allInts).items
 refine⟨xs,e,?_⟩
 rw[<- nums_intItems,<- e]
 exact hi.numsOf
theorem GX (hc:X.calm=true):CallR X (.builtin "sum") (fun xs H Q=>∃(p:Addr) (ns:List Int),xs=[.ref p]/\SqL X.K H p (ns.map V.int)/\Q (.int ns.sum) H):=by
 intro pins s σ H xs us Q I r h
 obtain⟨p,ns,rfl,hq,q⟩:=h
 obtain⟨u,rfl,rx⟩:=sD r
 cases rx
 obtain⟨its,r',pl,hz⟩:=I.list hq
 obtain⟨ys,e1,e2⟩:=Cs r'
 refine sum_intListG (I.ok.hd hc) (by rw[<- e1];exact pl.isList) fun h' tk t' k=> ?_
 rw[preSum_eq,List.take_of_length_le (by simp),e2]
 exact⟨.int ns.sum,H,I.kept k,⟨_,rfl⟩,q⟩
def Pu (ds:List D):Option D:=match ds with
 |[.lst xs]=>(tK xs).map fun ns=>.int ns.sum
 |_=>none
def IN (ds:List D):Option D:=match ds with
 |[.int i,.int j]=>some (.int (if j>i then j else i))
 |_=>none
def Ly (ds:List D):Option D:=match ds with
 |[.int i,.int j]=>some (.int (if j<i then j else i))
 |_=>none
def Px (ds:List D):Option D:=match ds with
 |[.int i]=>some (.int i)
 |[.bl k]=>some (.int (if k then 1 else 0))
 |[.str x]=>if x.length<=640 then(PySem.intText? x).map D.int else none
 |_=>none
theorem QH {K:PySem.W.Frag}{ok:Okk}{H:Hp}{vs:List V}{xs:List D} (r:Reps K ok H vs [.lst xs]):∃ p ys,vs=[.ref p]/\RL K ok H p ys/\Reps K ok H ys xs:=by
 obtain⟨v,rfl,r1⟩:=r.one_inv
 obtain⟨p,ys,rfl,g,r2⟩:=r1.lst_inv
 exact⟨p,ys,rfl,g,r2⟩
theorem LA {K:PySem.W.Frag}:FitL K (fun xs H Q=>∃(p:Addr) (ns:List Int),xs=[.ref p]/\SqL K H p (ns.map V.int)/\Q (.int ns.sum) H) Pu:=fun ok H xs as d Q h1 r e k=>by
 unfold Pu at e
 split at e
 ·obtain⟨ns,e1,rfl⟩:=aN e
  obtain rfl:=wR e1
  obtain⟨p,ys,rfl,g,r2⟩:=QH r
  obtain rfl:=r2.of_ints
  exact⟨p,ns,rfl,g.sq,k _ H (Same.refl H) (.int _)⟩
 ·cases e
theorem DT {K:PySem.W.Frag}:FitL K (fun xs H Q=>∃ i j,xs=[.int i,.int j]/\Q (.int (if j>i then j else i)) H) IN:=fun ok H xs as d Q h1 r e k=>by
 unfold IN at e
 split at e
 ·cases e
  obtain⟨v,v',rfl,r1,r2⟩:=r.two_inv
  obtain rfl:=r1.int_inv
  obtain rfl:=r2.int_inv
  exact⟨_,_,rfl,k _ H (Same.refl H) (.int _)⟩
 ·cases e
theorem IW {K:PySem.W.Frag}:FitL K (fun xs H Q=>∃ i j,xs=[.int i,.int j]/\Q (.int (if j<i then j else i)) H) Ly:=fun ok H xs as d Q h1 r e k=>by
 unfold Ly at e
 split at e
 ·cases e
  obtain⟨v,v',rfl,r1,r2⟩:=r.two_inv
  obtain rfl:=r1.int_inv
  obtain rfl:=r2.int_inv
  exact⟨_,_,rfl,k _ H (Same.refl H) (.int _)⟩
 ·cases e
theorem Hf:CallR X (.type "int") (fun xs H Q=>∃ x n,xs=[.str x]/\x.length<=640/\PySem.intText? x=some n/\Q (.int n) H):=by
 intro pins s σ H xs us Q I r h
 obtain⟨x,n,rfl,hz,hn,q⟩:=h
 obtain⟨u,rfl,t,rfl⟩:=sD r
 exact PySem.W.KIN.call_text hn hz ⟨.int n,H,I.tok _,⟨_,rfl⟩,q⟩
theorem LF {K:PySem.W.Frag}:FitL K (fun xs H Q=>((∃ i,xs=[.int i]/\Q (.int i) H)∨∃ k,xs=[.bl k]/\Q (.int (if k then 1 else 0)) H)∨∃ x n,xs=[.str x]/\x.length<=640/\PySem.intText? x=some n/\Q (.int n) H) Px:=fun ok H xs as d Q h1 r e k=>by
 unfold Px at e
 split at e
 ·cases e
  obtain⟨v,rfl,r1⟩:=r.one_inv
  obtain rfl:=r1.int_inv
  exact .inl (.inl ⟨_,rfl,k _ H (Same.refl H) (.int _)⟩)
 ·cases e
  obtain⟨v,rfl,r1⟩:=r.one_inv
  obtain rfl:=r1.bl_inv
  exact .inl (.inr ⟨_,rfl,k _ H (Same.refl H) (.int _)⟩)
 ·rename_i x
  by_cases hz:x.length<=640
  ·rw[if_pos hz] at e
   obtain⟨n,e1,rfl⟩:=aN e
   obtain⟨v,rfl,r1⟩:=r.one_inv
   obtain rfl:=r1.str_inv
   exact .inr ⟨x,n,rfl,hz,e1,k _ H (Same.refl H) (.int _)⟩
  ·rw[if_neg hz] at e
   cases e
 ·cases e
theorem Hg:CallR X (.type "int") (fun xs H Q=>((∃ i,xs=[.int i]/\Q (.int i) H)∨∃ k,xs=[.bl k]/\Q (.int (if k then 1 else 0)) H)∨∃ x n,xs=[.str x]/\x.length<=640/\PySem.intText? x=some n/\Q (.int n) H):=call_int1.or Hf
theorem xR (a:Array Nat):∀(k:Nat) (acc:Array Nat),((List.replicate k a).foldl (· ++·) acc).size=acc.size+k*a.size
 |0,acc=>by simp
 |k+1,acc=>by
  rw[List.replicate_succ,List.foldl_cons,xR a k,Array.size_append,Nat.succ_mul]
  omega
def Ox (x:Str) (n:Int):Str:=if n<1 then Str.empty else if(n==1||x.length==0)=true then x else⟨(List.replicate n.toNat x.cps).foldl (· ++·) #[]⟩
def Lx (a b:D):Option D:=match a,b with
 |.str x,.int n=>if 0<=n/\n<=100000/\x.length<=100 then some (.str (Ox x n)) else none
 |_,_=>none
theorem KL:OpR X (binaryOp .Mult) (fun x y H Q=>∃ z n,x=.str z/\y=.int n/\(0<=n/\n<=100000/\z.length<=100)/\Q (.str (Ox z n)) H):=by
 intro pins s σ H x y v u Q I rx ry h
 obtain⟨z,n,rfl,rfl,⟨h0,h1,h2⟩,q⟩:=h
 obtain⟨t,rfl⟩:=rx
 obtain⟨t',rfl⟩:=ry
 refine PySem.P.mul_str ?_ (fun hn _=> ?_) (fun hn _=> ?_) ?_
 ·have e1:decide (n< -(2 ^ 63:Int))=false:=decide_eq_false (by omega)
  have e2:decide (n≥2 ^ 63)=false:=decide_eq_false (by omega)
  rw[e1,e2,Bool.or_false]
 ·have h3:n<=100000:=h1
  have:(100:Int)<=(2 ^ 63-1) / n:=by
   refine(Int.le_ediv_iff_mul_le (by omega)).mpr ?_
   omega
  have h4:(z.length:Int)<=100:=by omega
  omega
 ·have hle:z.length*n.toNat<=100*100000:=Nat.mul_le_mul h2 (by omega)
  have hs:=sizeLine_eq
  first|exact decide_eq_false (by omega)|(simp[Builtin.Str.tooLong];omega)|(simp[tooLong];omega)
 ·unfold Ox at q
  split
  ·rename_i hn
   rw[if_pos hn] at q
   exact⟨by show 0<=sizeLine;exact Nat.zero_le _,.str _,H,I.tok _,⟨_,rfl⟩,q⟩
  ·rename_i hn
   rw[if_neg hn] at q
   split
   ·rename_i hz
    rw[if_pos hz] at q
    exact⟨.str _,H,I,⟨_,rfl⟩,q⟩
   ·rename_i hz
    rw[if_neg hz] at q
    refine⟨?_,.str _,H,I.tok _,⟨_,rfl⟩,q⟩
    show((List.replicate n.toNat z.cps).foldl (· ++·) #[]).size<=sizeLine
    rw[xR,sizeLine_eq]
    have hle:n.toNat*z.cps.size<=100000*100:=Nat.mul_le_mul (by omega) h2
    simp only[List.size_toArray,List.length_nil]
    omega
end
end L2.MB
end
section
namespace L2.MB
open PySem PySem.Spec PyProof.Rows
section
variable {X:Cx}{tg e a b c:Expr}{f fa fb fc:DF}{fl:DL}{pos p:Pos}
end
end L2.MB
end
section
namespace L2.MB
open PySem PySem.Spec PyProof.Rows
def LN (scope:Scope):Bool:=scope.names.all fun y=> !(y.2== .local)||scope.names.lookup y.1==some .local
def Ol (out scope:Scope):Bool:=scope.names.all fun y=> !(y.2== .free)||((out.names.lookup y.1==some .cell||out.names.lookup y.1==some .free)&& !(scope.names.contains (y.1,NameKind.cell)))
def Bw (N:List Str) (out scope:Scope) (x:Str):Option Nat->Bool
 |none=>true
 |some j=>N[j]?==some x&&scope.names.lookup x==some .free&& !(scope.names.contains (x,NameKind.cell))&&(out.names.lookup x==some .cell||out.names.lookup x==some .free)
def yA (N:List Str) (out scope:Scope):List Str->List (Option Nat)->Bool
 |[],[]=>true
 |x::xs,c::cs=>Bw N out scope x c&&yA N out scope xs cs
 |_,_=>false
theorem xY {N:List Str}{out scope:Scope}:∀ {xs:List Str}{cs:List (Option Nat)},yA N out scope xs cs=true->cs.length=xs.length
 |[],[],_=>rfl
 |x::xs,c::cs,h=>by
  have h':(Bw N out scope x c&&yA N out scope xs cs)=true:=h
  rw[Bool.and_eq_true] at h'
  simp[xY h'.2]
 |[],_::_,h=>nomatch h
 |_::_,[],h=>nomatch h
theorem xZ {N:List Str}{out scope:Scope}:∀ {xs:List Str}{cs:List (Option Nat)}{i j:Nat},yA N out scope xs cs=true->cs[i]?=some (some j)->∃ x,xs[i]?=some x/\Bw N out scope x (some j)=true
 |[],[],i,j,_,h=>by simp at h
 |x::xs,c::cs,i,j,h,h2=>by
  have h':(Bw N out scope x c&&yA N out scope xs cs)=true:=h
  rw[Bool.and_eq_true] at h'
  cases i with
  |zero=>
   simp at h2
   subst h2
   exact⟨x,rfl,h'.1⟩
  |succ i=>
   simp at h2
   obtain⟨y,e,q⟩:=xZ (i:=i) h'.2 h2
   exact⟨y,by simpa using e,q⟩
 |[],_::_,_,_,h,_=>nomatch h
 |_::_,[],_,_,h,_=>nomatch h
theorem bK {X:Cx}{scope:Scope}{N':List Str}{caps:List (Option Nat)} (h1:X.calm=true) (h2:scope.kind=.function) (h3:LN scope=true) (h4:Ol X.env.scope scope=true) (h5:yA X.N X.env.scope scope N' caps=true):Hs X scope N' caps:=by
 refine⟨h1,h2,fun x hx hl=> ?_,fun y hy hf=> ?_,fun y hy hf hm=> ?_,xY h5,fun i j hij=> ?_⟩
 ·have:=List.all_eq_true.mp h3 x hx
  rw[hl] at this
  simpa using this
 ·have:=List.all_eq_true.mp h4 y hy
  rw[hf] at this
  simp at this
  exact this.1
 ·have:=List.all_eq_true.mp h4 y hy
  rw[hf] at this
  simp at this
  exact this.2 hm
 ·obtain⟨x,e,q⟩:=xZ h5 hij
  unfold Bw at q
  simp only[Bool.and_eq_true,Bool.or_eq_true,beq_iff_eq,Bool.not_eq_true',List.contains_eq_mem,decide_eq_false_iff_not] at q
  exact⟨x,e,q.1.1.1,q.1.1.2,q.1.2,q.2⟩
namespace boot
theorem len:bootBuiltins "len"=some (.builtin "len"):=by decide+kernel
theorem sum:bootBuiltins "sum"=some (.builtin "sum"):=by decide+kernel
theorem min:bootBuiltins "min"=some (.builtin "min"):=by decide+kernel
theorem max:bootBuiltins "max"=some (.builtin "max"):=by decide+kernel
theorem sorted:bootBuiltins "sorted"=some (.builtin "sorted"):=by decide+kernel
theorem list:bootBuiltins "list"=some (.type "list"):=by decide+kernel
theorem tuple:bootBuiltins "tuple"=some (.type "tuple"):=by decide+kernel
theorem int:bootBuiltins "int"=some (.type "int"):=by decide+kernel
theorem bool:bootBuiltins "bool"=some (.type "bool"):=by decide+kernel
theorem str:bootBuiltins "str"=some (.type "str"):=by decide+kernel
end boot
structure Bn (mg:Str->Option Value):Prop where
 len:mg "len"=none
 range:mg "range"=none
 zip:mg "zip"=none
 sum:mg "sum"=none
 all:mg "all"=none
 min:mg "min"=none
 max:mg "max"=none
 sorted:mg "sorted"=none
 isinstance:mg "isinstance"=none
 list:mg "list"=none
 tuple:mg "tuple"=none
 int:mg "int"=none
 bool:mg "bool"=none
 str:mg "str"=none
theorem bn_mk {K:PySem.W.Frag}{h:Heap}{mg:Str->Option Value} (X:K.In h) (G:h.Ns mainGlobals mg) (h1:PySem.W.nsIn K mainGlobals "len"=some none) (h2:PySem.W.nsIn K mainGlobals "range"=some none) (h3:PySem.W.nsIn K mainGlobals "zip"=some none)
  (h4:PySem.W.nsIn K mainGlobals "sum"=some none) (h5:PySem.W.nsIn K mainGlobals "all"=some none) (h6:PySem.W.nsIn K mainGlobals "min"=some none) (h7:PySem.W.nsIn K mainGlobals "max"=some none) (h8:PySem.W.nsIn K mainGlobals "sorted"=some none)
  (h9:PySem.W.nsIn K mainGlobals "isinstance"=some none) (h10:PySem.W.nsIn K mainGlobals "list"=some none) (h11:PySem.W.nsIn K mainGlobals "tuple"=some none) (h12:PySem.W.nsIn K mainGlobals "int"=some none) (h13:PySem.W.nsIn K mainGlobals "bool"=some none)
  (h14:PySem.W.nsIn K mainGlobals "str"=some none):Bn mg:=
 ⟨PySem.W.mg_none_of X G h1,PySem.W.mg_none_of X G h2,PySem.W.mg_none_of X G h3,PySem.W.mg_none_of X G h4,PySem.W.mg_none_of X G h5,PySem.W.mg_none_of X G h6,PySem.W.mg_none_of X G h7,PySem.W.mg_none_of X G h8,PySem.W.mg_none_of X G h9,PySem.W.mg_none_of X G h10,PySem.W.mg_none_of X G h11,PySem.W.mg_none_of X G h12,
  PySem.W.mg_none_of X G h13,PySem.W.mg_none_of X G h14⟩
def FnIn (K:PySem.W.Frag) (x:Str) (st:Stmt):Prop:=∃(f:Addr) (oc:Value) (od an:Option Addr) (osl:Array (Option Value)) (kV doc pm cdv ct:Value),PySem.W.nsIn K mainGlobals x=some (some (.ref f))/\
 K.lookup f=some ⟨oc,od,.func (PySem.W.fnOf x x (lM st) (iW st) (aK st) .none kV doc pm an cdv ct),osl⟩/\PySem.W.codeIn K cdv x=true/\PySem.W.keepIn K (.ref f)=true
theorem fnIn_mk {K:PySem.W.Frag}{x:Str}{st:Stmt}{f:Addr}{oc:Value}{od an:Option Addr}{osl:Array (Option Value)}{kV doc pm cdv ct:Value} (a:PySem.W.nsIn K mainGlobals x=some (some (.ref f)))
  (l:K.lookup f=some ⟨oc,od,.func (PySem.W.fnOf x x (lM st) (iW st) (aK st) .none kV doc pm an cdv ct),osl⟩) (c:PySem.W.codeIn K cdv x=true) (k:PySem.W.keepIn K (.ref f)=true):FnIn K x st:=
 ⟨f,oc,od,an,osl,kV,doc,pm,cdv,ct,a,l,c,k⟩
structure wB (K:PySem.W.Frag) (mg:Str->Option Value) (x:Str) (st:Stmt) (f:Addr) (fd:FuncData):Prop where
 fn:Fun K x x st f fd
 at_:mg x=some (.ref f)
theorem FnIn.fnAt {K:PySem.W.Frag}{h:Heap}{mg:Str->Option Value}{x:Str}{st:Stmt} (I:FnIn K x st) (X:K.In h) (G:h.Ns mainGlobals mg):∃ f fd,wB K mg x st f fd:=by
 obtain⟨f,oc,od,an,osl,kV,doc,pm,cdv,ct,a,l,c,k⟩:=I
 exact⟨f,_,JU l c k,PySem.W.mg_of X G a⟩
end L2.MB
end
section
namespace L2.MB
open PySem PySem.Spec PyProof.Rows
inductive Ob where
 /-- an instance of the c-th class;a list;a dict by tuples;a dict by texts and ints -/
 |ins (c:Nat) (fs:List (Str×D))|ml (ds:List D)|dt (kvs:List (List Key×D))|dk (kvs:List (Key×D))
 /-- a dict by tuples while a loop walks it -/
 |dz (kvs:List (List Key×D))
abbrev Om:=List Ob
inductive KvR {κ:Type} (K:PySem.W.Frag) (ok:Okk) (H:Hp):List (κ×V)->List (κ×D)->Prop
 |nil:KvR K ok H [] []
 |cons {k:κ}{v:V}{d:D}{vs:List (κ×V)}{ds:List (κ×D)}:Rep K ok H v d->KvR K ok H vs ds->KvR K ok H ((k,v)::vs) ((k,d)::ds)
section
variable {κ:Type}{K:PySem.W.Frag}{ok ok':Okk}{H H':Hp}
theorem KvR.mono (f:∀ b o,ok b->H b=some o->ok' b/\H' b=some o) (g:∀ n a,ok.al n=some a->ok'.al n=some a):∀ {vs:List (κ×V)}{ds:List (κ×D)},KvR K ok H vs ds->KvR K ok' H' vs ds
 |_,_,.nil=>.nil
 |_,_,.cons r rs=>.cons (r.mono f g) (KvR.mono f g rs)
theorem KvR.length:∀ {vs:List (κ×V)}{ds:List (κ×D)},KvR K ok H vs ds->vs.length=ds.length
 |_,_,.nil=>rfl
 |_,_,.cons _ rs=>by rw[List.length_cons,List.length_cons,KvR.length rs]
theorem KvR.keys:∀ {vs:List (κ×V)}{ds:List (κ×D)},KvR K ok H vs ds->vs.map (·.1)=ds.map (·.1)
 |_,_,.nil=>rfl
 |_,_,.cons _ rs=>by rw[List.map_cons,List.map_cons,KvR.keys rs]
theorem KvR.vals:∀ {vs:List (κ×V)}{ds:List (κ×D)},KvR K ok H vs ds->Reps K ok H (vs.map (·.2)) (ds.map (·.2))
 |_,_,.nil=>.nil
 |_,_,.cons r rs=>.cons r (KvR.vals rs)
end
section
variable {K:PySem.W.Frag}{ok ok':Okk}{H H':Hp}
theorem KvR.look {x:Str}{d:D}:∀ {vs:List (Str×V)}{ds:List (Str×D)},KvR K ok H vs ds->ds.lookup x=some d->∃ v,vs.lookup x=some v/\Rep K ok H v d
 |_,_,.nil,e=>by cases e
 |_,_,@KvR.cons _ _ _ _ k v d' vs ds r rs,e=>by
  rw[List.lookup_cons] at e ⊢
  cases q:x==k with
  |true=>
   rw[q] at e
   cases e
   exact⟨v,rfl,r⟩
  |false=>
   rw[q] at e
   exact KvR.look rs e
theorem KvR.look_none {x:Str}:∀ {vs:List (Str×V)}{ds:List (Str×D)},KvR K ok H vs ds->ds.lookup x=none->vs.lookup x=none
 |_,_,.nil,e=>rfl
 |_,_,@KvR.cons _ _ _ _ k v d' vs ds r rs,e=>by
  rw[List.lookup_cons] at e ⊢
  cases q:x==k with
  |true=>rw[q] at e;cases e
  |false=>rw[q] at e;exact KvR.look_none rs e
end
def CellR (cls:Nat->Addr) (K:PySem.W.Frag) (ok:Okk) (H:Hp) (a:Addr):Ob->Prop
 |.ins c fs=>∃ dx vs,H a=some (.ins (cls c) dx vs)/\KvR K ok H vs fs
 |.ml ds=>∃ xs,H a=some (.lst xs)/\Reps K ok H xs ds
 |.dt kvs=>∃ vs,H a=some (.dT vs)/\KvR K ok H vs kvs
 |.dk kvs=>∃ vs,H a=some (.dK vs)/\KvR K ok H vs kvs
 |.dz kvs=>∃ o vs,H a=some (.frz o (.dT vs))/\KvR K ok H vs kvs
theorem CellR.mono {cls:Nat->Addr}{K:PySem.W.Frag}{ok ok':Okk}{H H':Hp}{a:Addr}{ob:Ob} (f:∀ b o,ok b->H b=some o->ok' b/\H' b=some o) (g:∀ n a,ok.al n=some a->ok'.al n=some a) (e:∀ o,H a=some o->H' a=some o)
  (h:CellR cls K ok H a ob):CellR cls K ok' H' a ob:=by
 cases ob with
 |ins c fs=>obtain⟨dx,vs,h1,h2⟩:=h;exact⟨dx,vs,e _ h1,h2.mono f g⟩
 |ml ds=>obtain⟨xs,h1,h2⟩:=h;exact⟨xs,e _ h1,h2.mono f g⟩
 |dt kvs=>obtain⟨xs,h1,h2⟩:=h;exact⟨xs,e _ h1,h2.mono f g⟩
 |dk kvs=>obtain⟨xs,h1,h2⟩:=h;exact⟨xs,e _ h1,h2.mono f g⟩
 |dz kvs=>obtain⟨o,xs,h1,h2⟩:=h;exact⟨o,xs,e _ h1,h2.mono f g⟩
theorem CellR.there {cls:Nat->Addr}{K:PySem.W.Frag}{ok:Okk}{H:Hp}{a:Addr}{ob:Ob} (h:CellR cls K ok H a ob):∃ o,H a=some o/\True:=by
 cases ob with
 |ins c fs=>obtain⟨dx,vs,h1,h2⟩:=h;exact⟨_,h1,trivial⟩
 |ml ds=>obtain⟨xs,h1,h2⟩:=h;exact⟨_,h1,trivial⟩
 |dt kvs=>obtain⟨xs,h1,h2⟩:=h;exact⟨_,h1,trivial⟩
 |dk kvs=>obtain⟨xs,h1,h2⟩:=h;exact⟨_,h1,trivial⟩
 |dz kvs=>obtain⟨o,xs,h1,h2⟩:=h;exact⟨_,h1,trivial⟩
structure Stt (cls:Nat->Addr) (K:PySem.W.Frag) (ok:Okk) (H:Hp) (ω:Om):Prop where
 cell:∀ n ob,ω[n]?=some ob->∃ a,ok.al n=some a/\CellR cls K ok H a ob
 dom:∀ n a,ok.al n=some a->n<ω.length
 inj:∀ n m a,ok.al n=some a->ok.al m=some a->n=m
 nok:∀ n a,ok.al n=some a->¬ ok.p a
structure Ex (ok:Okk) (H:Hp) (ok':Okk) (H':Hp):Prop where
 dat:∀ b o,ok b->H b=some o->ok' b/\H' b=some o
 ids:∀ n a,ok.al n=some a->ok'.al n=some a
 frm:∀ b o,H b=some o->(∀ n,ok.al n≠some b)->H' b=some o
 new:∀ n a,ok'.al n=some a->ok.al n=some a∨H a=none
 keep:∀ b,H' b=none->H b=none
 sub:∀ b,ok' b->ok b∨H b=none
 /-- what a loop walks stands still -/
 frz:∀ b o u,H b=some (.frz o u)->H' b=some (.frz o u)
structure Nw (cls:Nat->Addr) (K:PySem.W.Frag) (ok:Okk) (H:Hp) (ok':Okk) (H':Hp) (ω':Om):Prop where
 ex:Ex ok H ok' H'
 okh:OkH ok' H'
 st:Stt cls K ok' H' ω'
section
variable {cls:Nat->Addr}{K:PySem.W.Frag}{ok ok' ok2:Okk}{H H' H2:Hp}{ω ω' ω2:Om}{σ:St}{ρ:Rho}{a:Addr}{n:Nat}
theorem Stt.at_ (h:Stt cls K ok H ω) {a:Addr}{n:Nat} (e:ok.al n=some a):∃ ob,ω[n]?=some ob/\CellR cls K ok H a ob:=by
 have hn:=h.dom n a e
 obtain⟨b,e1,c⟩:=h.cell n ω[n] (by simp[hn])
 rw[e] at e1
 cases e1
 exact⟨_,by simp[hn],c⟩
theorem Ex.same (s:Same H H'):Ex ok H ok H':=⟨fun b o k e=>⟨k,s b o e⟩,fun _ _ e=>e,fun b o e _=>s b o e,fun _ _ e=>.inl e,fun _ e=>s.free e,fun _ e=>.inl e,fun b o u e=>s b _ e⟩
theorem Ex.trans (x:Ex ok H ok' H') (y:Ex ok' H' ok2 H2):Ex ok H ok2 H2 where
 dat:=fun b o k e=>let ⟨k',e'⟩:=x.dat b o k e;y.dat b o k' e'
 ids:=fun n a e=>y.ids n a (x.ids n a e)
 frm:=fun b o e h=>y.frm b o (x.frm b o e h) fun n z=>by
  rcases x.new n b z with z|z
  ·exact h n z
  ·rw[e] at z;cases z
 new:=fun n a e=>by
  rcases y.new n a e with z|z
  ·exact x.new n a z
  ·exact .inr (x.keep a z)
 keep:=fun b e=>x.keep b (y.keep b e)
 sub:=fun b e=>by
  rcases y.sub b e with z|z
  ·exact x.sub b z
  ·exact .inr (x.keep b z)
 frz:=fun b o u e=>y.frz b o u (x.frz b o u e)
theorem Nw.trans (x:Nw cls K ok H ok' H' ω') (y:Nw cls K ok' H' ok2 H2 ω2):Nw cls K ok H ok2 H2 ω2:=⟨x.ex.trans y.ex,y.okh,y.st⟩
theorem Stt.same (h:Stt cls K ok H ω) (s:Same H H'):Stt cls K ok H' ω:=
 ⟨fun n ob e=>let ⟨a,e1,c⟩:=h.cell n ob e;⟨a,e1,c.mono (fun b o k e=>⟨k,s b o e⟩) (fun _ _ e=>e) fun o e=>s a o e⟩,h.dom,h.inj,h.nok⟩
theorem Nw.same (h:OkH ok H) (t:Stt cls K ok H ω) (s:Same H H'):Nw cls K ok H ok H' ω:=⟨.same s,h.same s,t.same s⟩
theorem Nw.refl (h:OkH ok H) (t:Stt cls K ok H ω):Nw cls K ok H ok H ω:=.same h t (Same.refl H)
theorem Rep.ex {v:V}{d:D} (x:Ex ok H ok' H') (h:Rep K ok H v d):Rep K ok' H' v d:=h.mono x.dat x.ids
theorem Reps.ex {v:List V}{d:List D} (x:Ex ok H ok' H') (h:Reps K ok H v d):Reps K ok' H' v d:=h.mono x.dat x.ids
theorem EnvR.ex (x:Ex ok H ok' H') (h:EnvR K ok H σ ρ):EnvR K ok' H' σ ρ:=fun i d e=>let ⟨v,a,r⟩:=h i d e;⟨v,a,r.ex x⟩
theorem wU {l:List Ob}{i j:Nat}{a b:Ob} (h:(l.set i a)[j]?=some b):(j=i/\b=a)∨(j≠i/\l[j]?=some b):=by
 rcases Fw h with⟨h1,_,h3⟩|h
 ·exact .inl ⟨h1,h3⟩
 ·exact .inr h
theorem Nw.write {o o0:HO}{ob:Ob} (h:OkH ok H) (t:Stt cls K ok H ω) (e:ok.al n=some a) (h0:H a=some o0) (c:(∀ b u,ok b->H b=some u->ok b/\upd H a o b=some u)->CellR cls K ok (upd H a o) a ob) (nt:∀ xs,o≠ .tup xs:=by intro _ z;cases z) (nz:∀ x u,o0≠ .frz x u:=by intro _ _ z;cases z):Nw cls K ok H ok (upd H a o) (ω.set n ob):=by
 have dat:∀ b u,ok b->H b=some u->ok b/\upd H a o b=some u:=fun b u k q=>⟨k,by rw[aM (show b≠a from fun z=>t.nok n a e (z ▸ k))];exact q⟩
 refine⟨⟨dat,fun _ _ z=>z,fun b u q z=>by rw[aM (show b≠a from fun w=>z n (w ▸ e))];exact q,fun _ _ z=>.inl z,fun b q=> ?_,fun _ z=>.inl z,fun b x u z=>by rw[aM (show b≠a from fun w=>nz x u (Option.some.inj ((h0.symm.trans (w ▸ z)))))];exact z⟩,⟨fun b q=> ?_,fun b xs q=> ?_⟩,fun m ob' q=> ?_,fun m b q=> ?_,t.inj,t.nok⟩
 ·by_cases hb:b=a
  ·rw[hb,aS] at q;cases q
  ·rw[aM hb] at q;exact q
 ·by_cases hb:b=a
  ·rw[hb,aS] at q;cases q
  ·rw[aM hb] at q;exact h b q
 ·by_cases hb:b=a
  ·rw[hb,aS] at q;exact absurd (Option.some.inj q) (nt xs)
  ·rw[aM hb] at q;exact h.tp b xs q
 ·rcases wU q with⟨rfl,rfl⟩|⟨hm,q⟩
  ·exact⟨a,e,c dat⟩
  ·obtain⟨b,e1,c1⟩:=t.cell m ob' q
   refine⟨b,e1,c1.mono dat (fun _ _ z=>z) fun u z=> ?_⟩
   rw[aM (show b≠a from fun w=>hm (t.inj m n a (w ▸ e1) e))]
   exact z
 ·rw[List.length_set]
  exact t.dom m b q
def okN (ok:Okk) (n:Nat) (p:Addr):Okk:=⟨fun b=>ok b/\b≠p,fun m=>if m=n then some p else ok.al m⟩
theorem yT (t:Stt cls K ok H ω) {p:Addr} (m:Nat) (b:Addr) (e:ok.al m=some b):(okN ok ω.length p).al m=some b:=by
 have hm:=t.dom m b e
 show(if m=ω.length then some p else ok.al m)=some b
 rw[if_neg (Nat.ne_of_lt hm)]
 exact e
theorem Ck {p:Addr}{o:HO} (np:H p=none) (b:Addr) (u:HO) (k:ok b) (e:H b=some u):okN ok n p b/\upd H p o b=some u:=
 ⟨⟨k,aQ e np⟩,by rw[aM (aQ e np)];exact e⟩
theorem Nw.make {p:Addr}{o:HO}{ob:Ob} (h:OkH ok H) (t:Stt cls K ok H ω) (np:H p=none) (c:CellR cls K (okN ok ω.length p) (upd H p o) p ob) (nt:∀ xs,o≠ .tup xs:=by intro _ z;cases z):Nw cls K ok H (okN ok ω.length p) (upd H p o) (ω++[ob]):=by
 have al:∀ m b,(okN ok ω.length p).al m=some b->(m=ω.length/\b=p)∨(m≠ω.length/\ok.al m=some b):=fun m b q=>by
  have q':(if m=ω.length then some p else ok.al m)=some b:=q
  by_cases hm:m=ω.length
  ·rw[if_pos hm] at q';exact .inl ⟨hm,(Option.some.inj q').symm⟩
  ·rw[if_neg hm] at q';exact .inr ⟨hm,q'⟩
 have tr:∀ m b,ok.al m=some b->b≠p:=fun m b q=>by
  obtain⟨_,_,c1⟩:=t.at_ q
  obtain⟨_,z,_⟩:=c1.there
  exact aQ z np
 refine⟨⟨fun b u k e=>Ck np b u k e,fun m b q=>yT t m b q,fun b u q z=>by rw[aM (aQ q np)];exact q,fun m b q=> ?_,fun b q=> ?_,fun b k=>.inl k.1,fun b x u z=>by rw[aM (aQ z np)];exact z⟩,⟨fun b q=> ?_,fun b xs q=> ?_⟩,fun m ob' q=> ?_,fun m b q=> ?_,fun m m' b q q'=> ?_,fun m b q k=> ?_⟩
 ·rcases al m b q with⟨_,rfl⟩|⟨_,q⟩
  ·exact .inr np
  ·exact .inl q
 ·by_cases hb:b=p
  ·rw[hb];exact np
  ·rw[aM hb] at q;exact q
 ·have hb:b≠p:=fun z=>by rw[z,aS] at q;cases q
  rw[aM hb] at q
  exact⟨h b q,hb⟩
 ·have hb:b≠p:=fun z=>by rw[z,aS] at q;exact nt xs (Option.some.inj q)
  rw[aM hb] at q
  exact⟨h.tp b xs q,hb⟩
 ·by_cases hm:m<ω.length
  ·rw[List.getElem?_append_left hm] at q
   obtain⟨b,e1,c1⟩:=t.cell m ob' q
   exact⟨b,yT t m b e1,c1.mono (fun b u k e=>Ck np b u k e) (fun m b q=>yT t m b q) fun u z=>by rw[aM (aQ z np)];exact z⟩
  ·have hm':m=ω.length:=by
    have:=(List.getElem?_eq_some_iff.mp q).1
    simp at this
    omega
   subst hm'
   rw[List.getElem?_append_right (Nat.le_refl _)] at q
   simp at q
   subst q
   exact⟨p,by show(if ω.length=ω.length then some p else _)=_;rw[if_pos rfl],c⟩
 ·rw[List.length_append,List.length_singleton]
  rcases al m b q with⟨rfl,_⟩|⟨_,q⟩
  ·omega
  ·have:=t.dom m b q
   omega
 ·rcases al m b q with⟨rfl,rfl⟩|⟨_,q⟩ <;> rcases al m' b q' with⟨rfl,w⟩|⟨_,q'⟩
  ·rfl
  ·exact absurd rfl (tr m' b q')
  ·exact absurd w (tr m b q)
  ·exact t.inj m m' b q q'
 ·rcases al m b q with⟨_,rfl⟩|⟨_,q⟩
  ·exact k.2 rfl
  ·exact t.nok m b q k.1
theorem Rep.new_obj {p:Addr}:Rep K (okN ok n p) H (.ref p) (.obj n):=.obj (by show(if n=n then some p else _)=_;rw[if_pos rfl])
end
inductive Rz (α:Type) where
 |ok (a:α)|ex (c:Nat)
abbrev OG (α:Type):=Rho->Om->Option (Rz α×Om)
abbrev XE:=Nat->Hp->Prop
structure Pre (cls:Nat->Addr) (K:PySem.W.Frag) (ok:Okk) (H:Hp) (ω:Om) (σ:St) (ρ:Rho):Prop where
 okh:OkH ok H
 st:Stt cls K ok H ω
 env:EnvR K ok H σ ρ
 len:σ.length=ρ.length
theorem Pre.nw {cls:Nat->Addr}{K:PySem.W.Frag}{ok ok':Okk}{H H':Hp}{ω ω':Om}{σ:St}{ρ:Rho} (p:Pre cls K ok H ω σ ρ) (x:Nw cls K ok H ok' H' ω'):Pre cls K ok' H' ω' σ ρ:=⟨x.okh,x.st,p.env.ex x.ex,p.len⟩
def exR (cls:Nat->Addr) (K:PySem.W.Frag) (ok:Okk) (H:Hp) (ω':Om) (E:XE) (c:Nat):Prop:=∀ ok' H',Nw cls K ok H ok' H' ω'->E c H'
def tO (cls:Nat->Addr) (K:PySem.W.Frag) (f:OG D) (E:XE):TE:=fun σ H Q=>∃(ok:Okk) (ρ:Rho) (ω:Om) (r:Rz D) (ω':Om),Pre cls K ok H ω σ ρ/\f ρ ω=some (r,ω')/\match r with
 |.ok d=>∀ v ok' H',Nw cls K ok H ok' H' ω'->Rep K ok' H' v d->Q v H'
 |.ex c=>exR cls K ok H ω' E c
def tOT (cls:Nat->Addr) (K:PySem.W.Frag) (f:OG Bool) (E:XE):TT:=fun σ H Q=>∃(ok:Okk) (ρ:Rho) (ω:Om) (r:Rz Bool) (ω':Om),Pre cls K ok H ω σ ρ/\f ρ ω=some (r,ω')/\match r with
 |.ok b=>∀ ok' H',Nw cls K ok H ok' H' ω'->Q b H'
 |.ex c=>exR cls K ok H ω' E c
def tOA (cls:Nat->Addr) (K:PySem.W.Frag) (f:OG (List D)) (E:XE):TA:=fun σ H Q=>∃(ok:Okk) (ρ:Rho) (ω:Om) (r:Rz (List D)) (ω':Om),Pre cls K ok H ω σ ρ/\f ρ ω=some (r,ω')/\match r with
 |.ok ds=>∀ vs ok' H',Nw cls K ok H ok' H' ω'->Reps K ok' H' vs ds->Q vs H'
 |.ex c=>exR cls K ok H ω' E c
abbrev OE (X:Cx) (cls:Nat->Addr) (E:XE) (e:Expr) (f:OG D):Prop:=PE X e (tO cls X.K f E)
abbrev OT (X:Cx) (cls:Nat->Addr) (E:XE) (e:Expr) (f:OG Bool):Prop:=PT X e (tOT cls X.K f E)
abbrev OA (X:Cx) (cls:Nat->Addr) (E:XE) (es:List Expr) (f:OG (List D)):Prop:=PA X es (tOA cls X.K f E)
def oB {α β:Type} (f:OG α) (g:α->OG β):OG β:=fun ρ ω=>match f ρ ω with
 |none=>none
 |some (.ex c,ω1)=>some (.ex c,ω1)
 |some (.ok a,ω1)=>g a ρ ω1
theorem pQ {α β:Type}{f:OG α}{g:α->OG β}{ρ:Rho}{ω ω':Om}{r:Rz β} (h:oB f g ρ ω=some (r,ω')):(∃ c,f ρ ω=some (.ex c,ω')/\r=.ex c)∨∃ a ω1,f ρ ω=some (.ok a,ω1)/\g a ρ ω1=some (r,ω'):=by
 unfold oB at h
 split at h
 ·cases h
 ·cases h
  exact .inl ⟨_,‹_›,rfl⟩
 ·exact .inr ⟨_,_,‹_›,h⟩
def oR {α:Type} (o:Option (α×Om)):Option (Rz α×Om):=o.map fun p=>(.ok p.1,p.2)
theorem cS {α:Type}{o:Option (α×Om)}{r:Rz α}{ω':Om} (h:oR o=some (r,ω')):∃ a,o=some (a,ω')/\r=.ok a:=by
 obtain⟨⟨a,w⟩,e1,e2⟩:=aN h
 cases e2
 exact⟨a,e1,rfl⟩
def oP (f:DF):OG D:=fun ρ ω=>oR ((f ρ).map fun d=>(d,ω))
def oPT (f:DB):OG Bool:=fun ρ ω=>oR ((f ρ).map fun d=>(d,ω))
def pu {α:Type} (o:Option α) (ω:Om):Option (α×Om):=o.map fun d=>(d,ω)
theorem dF {α:Type}{o:Option α}{ω ω':Om}{a:α} (h:pu o ω=some (a,ω')):o=some a/\ω'=ω:=by
 obtain⟨b,e1,e2⟩:=aN h
 cases e2
 exact⟨e1,rfl⟩
section
variable {X:Cx}{cls:Nat->Addr}{E:XE}{e a b c:Expr}{es:List Expr}{f:DF}{fa fb:OG D}{fl:OG (List D)}{ft ft':OG Bool}{pos p:Pos}
theorem aA (h:DE X e f):OE X cls E e (oP f):=h.imp fun σ H Q ⟨ok,ρ,ω,r,ω',P,h3,h4⟩=>by
 obtain⟨d,e1,rfl⟩:=cS h3
 obtain⟨e2,rfl⟩:=dF e1
 exact⟨ok,ρ,d,P.okh,P.env,e2,fun v H' s r=>h4 v ok H' (.same P.okh P.st s) r⟩
theorem tO.then_ {K:PySem.W.Frag}{α:Type}{g:D->OG α}{σ:St}{H:Hp}{Q:VK}{ok:Okk}{ρ:Rho}{ω ω':Om}{r:Rz α} (P:Pre cls K ok H ω σ ρ) (e:oB fa g ρ ω=some (r,ω')) (hx:∀ c,r=.ex c->exR cls K ok H ω' E c)
  (h:∀ d ω1 v ok1 H1,g d ρ ω1=some (r,ω')->Nw cls K ok H ok1 H1 ω1->Pre cls K ok1 H1 ω1 σ ρ->Rep K ok1 H1 v d->Q v H1):tO cls K fa E σ H Q:=by
 rcases pQ e with⟨c,e1,rfl⟩|⟨d,ω1,e1,e2⟩
 ·exact⟨ok,ρ,ω,.ex c,ω',P,e1,hx c rfl⟩
 ·exact⟨ok,ρ,ω,.ok d,ω1,P,e1,fun v ok1 H1 n r1=>h d ω1 v ok1 H1 e2 n (P.nw n) r1⟩
theorem tOA.then_ {K:PySem.W.Frag}{α:Type}{g:List D->OG α}{σ:St}{H:Hp}{Q:List V->Hp->Prop}{ok:Okk}{ρ:Rho}{ω ω':Om}{r:Rz α} (P:Pre cls K ok H ω σ ρ) (e:oB fl g ρ ω=some (r,ω')) (hx:∀ c,r=.ex c->exR cls K ok H ω' E c)
  (h:∀ d ω1 v ok1 H1,g d ρ ω1=some (r,ω')->Nw cls K ok H ok1 H1 ω1->Pre cls K ok1 H1 ω1 σ ρ->Reps K ok1 H1 v d->Q v H1):tOA cls K fl E σ H Q:=by
 rcases pQ e with⟨c,e1,rfl⟩|⟨d,ω1,e1,e2⟩
 ·exact⟨ok,ρ,ω,.ex c,ω',P,e1,hx c rfl⟩
 ·exact⟨ok,ρ,ω,.ok d,ω1,P,e1,fun v ok1 H1 n r1=>h d ω1 v ok1 H1 e2 n (P.nw n) r1⟩
theorem tOT.then_ {K:PySem.W.Frag}{α:Type}{g:Bool->OG α}{σ:St}{H:Hp}{Q:Bool->Hp->Prop}{ok:Okk}{ρ:Rho}{ω ω':Om}{r:Rz α} (P:Pre cls K ok H ω σ ρ) (e:oB ft g ρ ω=some (r,ω')) (hx:∀ c,r=.ex c->exR cls K ok H ω' E c)
  (h:∀ d ω1 ok1 H1,g d ρ ω1=some (r,ω')->Nw cls K ok H ok1 H1 ω1->Pre cls K ok1 H1 ω1 σ ρ->Q d H1):tOT cls K ft E σ H Q:=by
 rcases pQ e with⟨c,e1,rfl⟩|⟨d,ω1,e1,e2⟩
 ·exact⟨ok,ρ,ω,.ex c,ω',P,e1,hx c rfl⟩
 ·exact⟨ok,ρ,ω,.ok d,ω1,P,e1,fun ok1 H1 n=>h d ω1 ok1 H1 e2 n (P.nw n)⟩
theorem exR.nw {K:PySem.W.Frag}{ok ok':Okk}{H H':Hp}{ω1 ω':Om}{c:Nat} (h:exR cls K ok H ω' E c) (n:Nw cls K ok H ok' H' ω1):exR cls K ok' H' ω' E c:=fun ok2 H2 m=>h ok2 H2 (n.trans m)
def BN (cls:Nat->Addr) (K:PySem.W.Frag) (r:R2) (g:Om->D->D->Option (D×Om)):Prop:=∀(ok:Okk) (H:Hp) (ω:Om) (x y:V) (a b d:D) (ω':Om) (Q:VK),OkH ok H->Stt cls K ok H ω->Rep K ok H x a->Rep K ok H y b->g ω a b=some (d,ω')->
 (∀ v ok' H',Nw cls K ok H ok' H' ω'->Rep K ok' H' v d->Q v H')->r x y H Q
def BM (cls:Nat->Addr) (K:PySem.W.Frag) (r:List V->Hp->VK->Prop) (g:Om->List D->Option (D×Om)):Prop:=∀(ok:Okk) (H:Hp) (ω:Om) (xs:List V) (as:List D) (d:D) (ω':Om) (Q:VK),OkH ok H->Stt cls K ok H ω->Reps K ok H xs as->g ω as=some (d,ω')->
 (∀ v ok' H',Nw cls K ok H ok' H' ω'->Rep K ok' H' v d->Q v H')->r xs H Q
theorem Fit2.lift {K:PySem.W.Frag}{r:R2}{g:D->D->Option D} (F:Fit2 K r g):BN cls K r fun ω a b=>pu (g a b) ω:=fun ok H ω x y a b d ω' Q h1 st ra rb e k=>by
 obtain⟨ue,rfl⟩:=dF e
 exact F ok H x y a b d Q h1 ra rb ue fun v H' s r=>k v ok H' (.same h1 st s) r
theorem FitL.lift {K:PySem.W.Frag}{r:List V->Hp->VK->Prop}{g:List D->Option D} (F:FitL K r g):BM cls K r fun ω a=>pu (g a) ω:=fun ok H ω x a d ω' Q h1 st ra e k=>by
 obtain⟨ue,rfl⟩:=dF e
 exact F ok H x a d Q h1 ra ue fun v H' s r=>k v ok H' (.same h1 st s) r
def o2 (g:Om->D->D->Option (D×Om)) (f h:OG D):OG D:=oB f fun a=>oB h fun b _ ω=>oR (g ω a b)
def oL (g:Om->List D->Option (D×Om)) (f:OG (List D)):OG D:=oB f fun as _ ω=>oR (g ω as)
theorem tO.op {K:PySem.W.Frag}{r:R2}{g:Om->D->D->Option (D×Om)} (F:BN cls K r g) {σ:St}{H:Hp}{Q:VK} (h:tO cls K (o2 g fa fb) E σ H Q):tOp r (tO cls K fa E) (tO cls K fb E) σ H Q:=by
 obtain⟨ok,ρ,ω,rz,ω',P,e,q⟩:=h
 refine tO.then_ P e (fun c z=>by subst z;exact q) fun a ω1 v ok1 H1 e1 n1 P1 r1=> ?_
 refine tO.then_ P1 e1 (fun c z=>by subst z;exact exR.nw q n1) fun b ω2 u ok2 H2 e2 n2 P2 r2=> ?_
 obtain⟨d,e3,rfl⟩:=cS e2
 exact F ok2 H2 ω2 v u a b d ω' Q P2.okh P2.st (r1.ex n2.ex) r2 e3 fun w ok3 H3 n3 r3=>q w ok3 H3 (n1.trans (n2.trans n3)) r3
theorem AH {op:Operator}{r:R2}{g:Om->D->D->Option (D×Om)} (ho:OpR X (binaryOp op) r) (F:BN cls X.K r g) (ha:OE X cls E a fa) (hb:OE X cls E b fb):OE X cls E (.BinOp a op b pos) (o2 g fa fb):=
 (Pe ho ha hb).imp fun _ _ _ h=>tO.op F h
theorem Dw {op:CmpOp}{r:R2}{g:Om->D->D->Option (D×Om)} (ho:OpR X (compareOp op) r) (F:BN cls X.K r g) (ha:OE X cls E a fa) (hb:OE X cls E b fb) (hm:behindInMarks op b=false):OE X cls E (.Compare a [op] [b] pos) (o2 g fa fb):=
 (KC ho ha hb hm).imp fun _ _ _ h=>tO.op F h
def eJ (f:OG D):OG Bool:=oB f fun d _ ω=>oR (pu (toB d) ω)
theorem xC {op:CmpOp}{r:R2}{g:Om->D->D->Option (D×Om)} (ho:OpR X (compareOp op) r) (F:BN cls X.K r g) (ha:OE X cls E a fa) (hb:OE X cls E b fb) (hm:behindInMarks op b=false):OT X cls E (.Compare a [op] [b] pos) (eJ (o2 g fa fb)):=
 (Kn ho ha hb hm).imp fun σ H Q ⟨ok,ρ,ω,r,ω',P,e,q⟩=>by
  refine tO.op F ?_
  refine tO.then_ P e (fun c z=>by subst z;exact q) fun d ω1 v ok1 H1 e1 n1 P1 r1=> ?_
  obtain⟨k,e3,rfl⟩:=cS e1
  obtain⟨ue3,rfl⟩:=dF e3
  obtain rfl:=tL ue3
  exact⟨k,r1.bl_inv,q ok1 H1 n1⟩
def kZ (f:OG D):OG Bool:=oB f fun d _ ω=>oR (pu (PV d) ω)
theorem cY (h:OE X cls E e fa) (he:∀ whole,isTrue e X.env whole=(do let v <- whole;standAt e.pos;holding [v] (truthy v)):=by intro _;rfl):OT X cls E e (kZ fa):=(HP h he).imp fun σ H Q ⟨ok,ρ,ω,r,ω',P,e,q⟩=>by
 refine tO.then_ P e (fun c z=>by subst z;exact q) fun d ω1 v ok1 H1 e1 n1 P1 r1=> ?_
 obtain⟨k,e3,rfl⟩:=cS e1
 obtain⟨ue3,rfl⟩:=dF e3
 exact⟨k,Kc r1 ue3,q ok1 H1 n1⟩
def nG (f:OG Bool):OG Bool:=oB f fun k _ ω=>some (.ok (!k),ω)
theorem dX (h:OT X cls E a ft):OT X cls E (.UnaryOp .Not a pos) (nG ft):=(MJ h).imp fun σ H Q ⟨ok,ρ,ω,r,ω',P,e,q⟩=>by
 refine tOT.then_ P e (fun c z=>by subst z;exact q) fun d ω1 ok1 H1 e1 n1 P1=> ?_
 cases e1
 exact q ok1 H1 n1
abbrev OW (X:Cx) (cls:Nat->Addr) (E:XE) (e:Expr) (f:OG Bool):Prop:=PW X e (tOT cls X.K f E)
def JO (f g:OG Bool):OG Bool:=oB f fun k ρ ω=>if k=true then g ρ ω else some (.ok false,ω)
def oOr (f g:OG Bool):OG Bool:=oB f fun k ρ ω=>if k=true then some (.ok true,ω) else g ρ ω
variable {rest:List Expr}
theorem KE (ha:OT X cls E a ft):OW X cls E (.BoolOp .And [a] pos) ft:=Km ha
theorem nC (ha:OT X cls E a ft):OW X cls E (.BoolOp .Or [a] pos) ft:=MG ha
theorem Nb (ha:OT X cls E a ft) (hb:OW X cls E (.BoolOp .And (b::rest) pos) ft'):OW X cls E (.BoolOp .And (a::b::rest) pos) (JO ft ft'):=PW.imp (MH ha hb) fun σ H Q ⟨ok,ρ,ω,r,ω',P,e,q⟩=>by
 refine tOT.then_ P e (fun c z=>by subst z;exact q) fun d ω1 ok1 H1 e1 n1 P1=> ?_
 cases d with
 |true=>
  refine Mb ⟨ok1,ρ,ω1,r,ω',P1,e1,?_⟩
  cases r with
  |ok b=>exact fun ok2 H2 n2=>q ok2 H2 (n1.trans n2)
  |ex c=>exact exR.nw q n1
 |false=>
  cases e1
  exact Mc (q ok1 H1 n1)
theorem qQ (ha:OT X cls E a ft) (hb:OW X cls E (.BoolOp .Or (b::rest) pos) ft'):OW X cls E (.BoolOp .Or (a::b::rest) pos) (oOr ft ft'):=PW.imp (Pb ha hb) fun σ H Q ⟨ok,ρ,ω,r,ω',P,e,q⟩=>by
 refine tOT.then_ P e (fun c z=>by subst z;exact q) fun d ω1 ok1 H1 e1 n1 P1=> ?_
 cases d with
 |false=>
  refine Mc ⟨ok1,ρ,ω1,r,ω',P1,e1,?_⟩
  cases r with
  |ok b=>exact fun ok2 H2 n2=>q ok2 H2 (n1.trans n2)
  |ex c=>exact exR.nw q n1
 |true=>
  cases e1
  exact Mb (q ok1 H1 n1)
theorem FQ (h:OW X cls E e ft):OT X cls E e ft:=PW.pt h
def aU:OG (List D):=fun _ ω=>some (.ok [],ω)
def aE (f:OG D) (g:OG (List D)):OG (List D):=oB f fun d=>oB g fun ds _ ω=>some (.ok (d::ds),ω)
theorem aI:OA X cls E [] aU:=(PA.imp xB) fun σ H Q ⟨ok,ρ,ω,r,ω',P,e,q⟩=>by
 cases e
 exact q [] ok H (.refl P.okh P.st) .nil
theorem aB (ha:OE X cls E e fa) (hr:OA X cls E es fl) (hs:starEach (e::es) X.env=(false,eval e X.env)::starEach es X.env:=by rfl):OA X cls E (e::es) (aE fa fl):=
 (jT ha hr hs).imp fun σ H Q ⟨ok,ρ,ω,r,ω',P,e,q⟩=>by
  refine tO.then_ P e (fun c z=>by subst z;exact q) fun d ω1 v ok1 H1 e1 n1 P1 r1=> ?_
  refine tOA.then_ P1 e1 (fun c z=>by subst z;exact exR.nw q n1) fun ds ω2 vs ok2 H2 e2 n2 P2 r2=> ?_
  cases e2
  exact q (v::vs) ok2 H2 (n1.trans n2) (.cons (r1.ex n2.ex) r2)
theorem kT {x1} (h:OA X cls E es fl):OE X cls E (.Tuple es x1 pos) (oL (fun ω ds=>pu (iN ds) ω) fl):=(JD h).imp fun σ H Q ⟨ok,ρ,ω,r,ω',P,e,q⟩=>by
 refine tOA.then_ P e (fun c z=>by subst z;exact q) fun ds ω1 vs ok1 H1 e1 n1 P1 r1=> ?_
 obtain⟨d,e3,rfl⟩:=cS e1
 obtain⟨ue3,rfl⟩:=dF e3
 obtain⟨hz,rfl⟩:=bU ue3
 refine⟨by rw[r1.length];exact hz,fun p n=> ?_⟩
 exact q _ ok1 _ (n1.trans (.same P1.okh P1.st (dE n))) (.tup_new (P1.okh p n) n r1)
theorem tZ (h:OA X cls E es fl):OE X cls E (.List es pos) (oL (fun ω ds=>pu (pV ds) ω) fl):=(JE h).imp fun σ H Q ⟨ok,ρ,ω,r,ω',P,e,q⟩=>by
 refine tOA.then_ P e (fun c z=>by subst z;exact q) fun ds ω1 vs ok1 H1 e1 n1 P1 r1=> ?_
 obtain⟨d,e3,rfl⟩:=cS e1
 obtain⟨ue3,rfl⟩:=dF e3
 obtain⟨hz,rfl⟩:=bU ue3
 refine⟨by rw[r1.length];exact hz,fun p n=> ?_⟩
 exact q _ ok1 _ (n1.trans (.same P1.okh P1.st (dE n))) (.lst_new (P1.okh p n) n r1)
def Qj (ω:Om) (ds:List D):Option (D×Om):=if ds.length<=sizeLine then some (.obj ω.length,ω++[.ml ds]) else none
theorem Nw.ml {K:PySem.W.Frag}{ok:Okk}{H:Hp}{ω:Om}{p:Addr}{xs:List V}{ds:List D} (h:OkH ok H) (t:Stt cls K ok H ω) (np:H p=none) (r:Reps K ok H xs ds):Nw cls K ok H (okN ok ω.length p) (upd H p (.lst xs)) (ω++[.ml ds]):=
 Nw.make h t np ⟨xs,aS,r.mono (fun b u k e=>Ck np b u k e) fun m b q=>yT t m b q⟩
theorem KR (h:OA X cls E es fl):OE X cls E (.List es pos) (oL Qj fl):=(JE h).imp fun σ H Q ⟨ok,ρ,ω,r,ω',P,e,q⟩=>by
 refine tOA.then_ P e (fun c z=>by subst z;exact q) fun ds ω1 vs ok1 H1 e1 n1 P1 r1=> ?_
 obtain⟨d,e3,rfl⟩:=cS e1
 obtain⟨hz,e4⟩:=bU e3
 cases e4
 refine⟨by rw[r1.length];exact hz,fun p n=> ?_⟩
 exact q _ _ _ (n1.trans (.ml P1.okh P1.st n r1)) .new_obj
theorem tO.cb {K:PySem.W.Frag}{r:List V->Hp->VK->Prop}{g:Om->List D->Option (D×Om)} (F:BM cls K r g) {σ:St}{H:Hp}{Q:VK} (h:tO cls K (oL g fl) E σ H Q):tCB r (tOA cls K fl E) σ H Q:=by
 obtain⟨ok,ρ,ω,rz,ω',P,e,q⟩:=h
 refine tOA.then_ P e (fun c z=>by subst z;exact q) fun ds ω1 vs ok1 H1 e1 n1 P1 r1=> ?_
 obtain⟨d,e3,rfl⟩:=cS e1
 exact F ok1 H1 ω1 vs ds d ω' Q P1.okh P1.st r1 e3 fun w ok3 H3 n3 r3=>q w ok3 H3 (n1.trans n3) r3
theorem bR {x:Str}{id:String}{r:List V->Hp->VK->Prop}{g:Om->List D->Option (D×Om)} (hc:CallR X (.builtin id) r) (F:BM cls X.K r g) (hg:Gl X x) (hm:X.mg x=none) (hv:bootBuiltins x=some (.builtin id)) (ha:OA X cls E (e::es) fl)
  (hn:x≠"__name__":=by decide) (hdb:(x==("__debug__":Str))=false:=by decide)
  (he:starEach (e::es) X.env=(false,eval e X.env)::starEach es X.env:=by rfl) (hpl:(backTo pos (starEach es X.env)).any (·.1)=false:=by rfl):OE X cls E (.Call (.Name x p) (e::es) [] pos) (oL g fl):=
 (sV hc hg hm hv ha hn hdb he hpl).imp fun _ _ _ h=>tO.cb F h
theorem eX {x:Str}{T:String}{r:List V->Hp->VK->Prop}{g:Om->List D->Option (D×Om)} (hc:CallR X (.type T) r) (F:BM cls X.K r g) (hg:Gl X x) (hm:X.mg x=none) (hv:bootBuiltins x=some (.type T)) (ha:OA X cls E (e::es) fl)
  (hn:x≠"__name__":=by decide) (hdb:(x==("__debug__":Str))=false:=by decide)
  (he:starEach (e::es) X.env=(false,eval e X.env)::starEach es X.env:=by rfl) (hpl:(backTo pos (starEach es X.env)).any (·.1)=false:=by rfl):OE X cls E (.Call (.Name x p) (e::es) [] pos) (oL g fl):=
 (FN hc hg hm hv ha hn hdb he hpl).imp fun _ _ _ h=>tO.cb F h
end
end L2.MB
end
section
namespace L2.MB
open PySem PySem.Spec PyProof.Rows
mutual
def gO:D->D->Bool
 |.non,.non=>true
 |.bl a,.bl b=>a==b
 |.int a,.int b=>a==b
 |.str a,.str b=>decide (a=b)
 |.lst a,.lst b=>sameDs a b
 |.tup a,.tup b=>sameDs a b
 |.obj a,.obj b=>a==b
 |.scr a,.scr b=>sameDs a b
 |_,_=>false
def sameDs:List D->List D->Bool
 |[],[]=>true
 |a::as,b::bs=>gO a b&&sameDs as bs
 |_,_=>false
end
mutual
theorem Dn:∀(a b:D),gO a b=true->a=b
 |.non,b,h=>by cases b <;> first|rfl|(simp[gO] at h)
 |.bl a,b,h=>by cases b <;> simp[gO] at h;rw[h]
 |.int a,b,h=>by cases b <;> simp[gO] at h;rw[h]
 |.str a,b,h=>by cases b <;> simp[gO] at h;rw[h]
 |.obj a,b,h=>by cases b <;> simp[gO] at h;rw[h]
 |.lst a,b,h=>by
  cases b with
  |lst b=>rw[sameDs_eq a b (by simpa [gO] using h)]
  |_=>simp[gO] at h
 |.scr a,b,h=>by
  cases b with
  |scr b=>rw[sameDs_eq a b (by simpa [gO] using h)]
  |_=>simp[gO] at h
 |.tup a,b,h=>by
  cases b with
  |tup b=>rw[sameDs_eq a b (by simpa [gO] using h)]
  |_=>simp[gO] at h
theorem sameDs_eq:∀(a b:List D),sameDs a b=true->a=b
 |[],[],_=>rfl
 |[],_::_,h=>by simp[sameDs] at h
 |_::_,[],h=>by simp[sameDs] at h
 |a::as,b::bs,h=>by
  simp only[sameDs,Bool.and_eq_true] at h
  rw[Dn a b h.1,sameDs_eq as bs h.2]
end
def cellOf (ω:Om):D->Option Ob
 |.obj n=>ω[n]?
 |_=>none
theorem eL {ω:Om}{d:D}{ob:Ob} (h:cellOf ω d=some ob):∃ n,d=.obj n/\ω[n]?=some ob:=by
 cases d with
 |obj n=>exact⟨n,rfl,h⟩
 |_=>cases h
theorem Stt.ref {cls:Nat->Addr}{K:PySem.W.Frag}{ok:Okk}{H:Hp}{ω:Om}{v:V}{n:Nat}{ob:Ob} (t:Stt cls K ok H ω) (r:Rep K ok H v (.obj n)) (e:ω[n]?=some ob):∃ a,v=.ref a/\ok.al n=some a/\CellR cls K ok H a ob:=by
 obtain⟨a,rfl,e1⟩:=r.obj_inv
 obtain⟨b,e2,c⟩:=t.cell n ob e
 rw[e1] at e2
 cases e2
 exact⟨a,rfl,e1,c⟩
def Md (c:Nat) (x:Str) (ω:Om) (d:D):Option D:=match cellOf ω d with
 |some (.ins c' fs)=>if c'=c then fs.lookup x else none
 |_=>none
theorem IQ {c:Nat}{x:Str}{ω:Om}{d y:D} (h:Md c x ω d=some y):∃ n fs,d=.obj n/\ω[n]?=some (.ins c fs)/\fs.lookup x=some y:=by
 unfold Md at h
 split at h
 ·rename_i c' fs hc
  obtain⟨n,rfl,e⟩:=eL hc
  by_cases hcc:c'=c
  ·subst hcc
   rw[if_pos rfl] at h
   exact⟨n,fs,rfl,e,h⟩
  ·rw[if_neg hcc] at h;cases h
 ·cases h
def iM (c:Nat) (x:Str) (f:OG D):OG D:=oB f fun d _ ω=>oR (pu (Md c x ω d) ω)
section
variable {X:Cx}{cls:Nat->Addr}{E:XE}{e a b c o i value:Expr}{es:List Expr}{f:DF}{fa fb fo fi fv:OG D}{fl:OG (List D)}{ft ft':OG Bool}{pos p apos pos':Pos}{x m:Str}{cn:Nat}
theorem cH (hc:Cls X.K (cls cn)) (hn:NoAttr X.K (cls cn) x) (he:OE X cls E e fa) (hb:attributeBase e x X.env (eval e X.env)=eval e X.env:=by rfl):OE X cls E (.Attribute e x pos) (iM cn x fa):=(MW he hb).imp fun σ H Q ⟨ok,ρ,ω,r,ω',P,e,q⟩=>by
 refine tO.then_ P e (fun c z=>by subst z;exact q) fun d ω1 v ok1 H1 e1 n1 P1 r1=> ?_
 obtain⟨y,e3,rfl⟩:=cS e1
 obtain⟨ue3,rfl⟩:=dF e3
 obtain⟨n,fs,rfl,e4,e5⟩:=IQ ue3
 obtain⟨a,rfl,e6,dx,vs,e7,kv⟩:=P1.st.ref r1 e4
 obtain⟨u,e8,ru⟩:=kv.look e5
 exact⟨a,_,dx,vs,u,rfl,e7,hc,hn,e8,q u ok1 H1 n1 ru⟩
def cA (ω:Om) (a b:D):Option D:=match cellOf ω a with
 |some (.ml ds)=>(toI b).bind fun i=>atI ds i
 |some _=>none
 |none=>gIx a b
theorem LD {K:PySem.W.Frag}:BN cls K (fun x y H Q=>(∃ p xs i v,x=.ref p/\y=.int i/\SqL K H p xs/\atI xs i=some v/\Q v H)∨(∃ p xs i v,x=.ref p/\y=.int i/\SqT K H p xs/\atI xs i=some v/\Q v H)∨
  ∃ z i c,x=.str z/\y=.int i/\z.length<=sizeLine/\atI z.cps.toList i=some c/\Q (.str ⟨#[c]⟩) H) fun ω a b=>pu (cA ω a b) ω:=fun ok H ω x y a b d ω' Q h1 st ra rb e k=>by
 obtain⟨ue,rfl⟩:=dF e
 clear e
 unfold cA at ue
 cases hc:cellOf ω' a with
 |some ob=>
  rw[hc] at ue
  obtain⟨n,rfl,e1⟩:=eL hc
  cases ob with
  |ml ds=>
   obtain⟨i,e0,ue⟩:=aX (show(toI b).bind _=some d from ue)
   obtain rfl:=BV e0
   obtain⟨p,rfl,e2,xs,e3,r⟩:=st.ref ra e1
   obtain rfl:=rb.int_inv
   obtain⟨v,e4,rv⟩:=r.atI ue
   exact .inl ⟨p,xs,i,v,rfl,rfl,SqL.of e3,e4,k v ok H (.refl h1 st) rv⟩
  |_=>cases ue
 |none=>
  rw[hc] at ue
  have ue':gIx a b=some d:=ue
  have k':∀ v H',Same H H'->Rep K ok H' v d->Q v H':=fun v H' s r=>k v ok H' (.same h1 st s) r
  cases b with
  |int i=>
   obtain rfl:=rb.int_inv
   cases a with
   |lst ds=>
    obtain⟨p,xs,rfl,h,r⟩:=ra.lst_inv
    obtain⟨v,e1,r1⟩:=r.atI ue'
    exact .inl ⟨p,xs,i,v,rfl,rfl,h.sq,e1,k' v H (Same.refl H) r1⟩
   |scr ds=>
    obtain⟨p,xs,rfl,h,r⟩:=ra.scr_inv
    obtain⟨v,e1,r1⟩:=r.atI ue'
    exact .inl ⟨p,xs,i,v,rfl,rfl,h.sq,e1,k' v H (Same.refl H) r1⟩
   |tup ds=>
    obtain⟨p,xs,rfl,h,r⟩:=ra.tup_inv
    obtain⟨v,e1,r1⟩:=r.atI ue'
    exact .inr (.inl ⟨p,xs,i,v,rfl,rfl,h.sq,e1,k' v H (Same.refl H) r1⟩)
   |str z=>
    obtain rfl:=ra.str_inv
    have e':(if z.length<=sizeLine then(L2.atI z.cps.toList i).map fun c=>D.str ⟨#[c]⟩ else none)=some d:=ue'
    by_cases hz:z.length<=sizeLine
    ·rw[if_pos hz] at e'
     cases q:L2.atI z.cps.toList i with
     |none=>rw[q] at e';cases e'
     |some c=>
      rw[q] at e'
      cases e'
      exact .inr (.inr ⟨z,i,c,rfl,rfl,hz,q,k' _ H (Same.refl H) (.str _)⟩)
    ·rw[if_neg hz] at e'
     cases e'
   |_=>cases ue'
  |_=>cases a <;> cases ue'
theorem bH (ha:OE X cls E a fa) (hb:OE X cls E b fb) (hs:Hl b:=by intro _ _;rfl):OE X cls E (.Subscript a b pos) (o2 (fun ω a b=>pu (cA ω a b) ω) fa fb):=(Pf NH ha hb hs).imp fun _ _ _ h=>tO.op LD h
def toK:D->Option Key
 |.int i=>some (.inl i)
 |.str x=>some (.inr x)
 |_=>none
def Mn:List D->Option (List Key)
 |[]=>some []
 |d::ds=>(toK d).bind fun k=>(Mn ds).map fun ks=>k::ks
def ofK:Key->D
 |.inl i=>.int i
 |.inr x=>.str x
theorem BU {K:PySem.W.Frag}{ok:Okk}{H:Hp}{v:V}{d:D}{k:Key} (h:toK d=some k) (r:Rep K ok H v d):v=kV k:=by
 cases d with
 |int i=>cases h;exact r.int_inv
 |str x=>cases h;exact r.str_inv
 |_=>cases h
theorem Dh {K:PySem.W.Frag}{ok:Okk}{H:Hp}:∀ {vs:List V}{ds:List D}{ks:List Key},Mn ds=some ks->Reps K ok H vs ds->vs=ks.map kV
 |_,_,_,h,.nil=>by cases h;rfl
 |_,_,_,h,.cons r rs=>by
  obtain⟨k,e1,h⟩:=aX h
  obtain⟨ks,e2,rfl⟩:=aN h
  rw[BU e1 r,Dh e2 rs]
  rfl
def Fp:D->Option (List Key)
 |.tup ds=>Mn ds
 |_=>none
theorem toT'_rep {K:PySem.W.Frag}{ok:Okk}{H:Hp}{v:V}{d:D}{ks:List Key} (h:Fp d=some ks) (r:Rep K ok H v d):∃ b,v=.ref b/\ok b/\H b=some (.tup (ks.map kV)):=by
 cases d with
 |tup ds=>
  obtain⟨b,xs,rfl,g,rs⟩:=r.tup_inv
  rw[Dh h rs] at g
  exact⟨b,rfl,g.1,g.2⟩
 |_=>cases h
section
variable {κ:Type} [DecidableEq κ]
def lZ (kvs:List (κ×D)) (k:κ):Option D:=(kvs.find? fun kv=>decide (kv.1=k)).map (·.2)
def nW (kvs:List (κ×D)) (k:κ) (v:D):List (κ×D):=if(kvs.any fun kv=>decide (kv.1=k))=true then kvs.map (fun kv=>if kv.1=k then(kv.1,v) else kv) else kvs++[(k,v)]
def iG (kvs:List (κ×D)) (k:κ):List (κ×D):=kvs.filter fun kv=>decide (kv.1≠k)
variable {K:PySem.W.Frag}{ok:Okk}{H:Hp}
theorem KvR.val {k:κ}:∀ {vs:List (κ×V)}{ds:List (κ×D)}{d:D},KvR K ok H vs ds->lZ ds k=some d->∃ v,Ai vs k=some v/\Rep K ok H v d
 |_,_,_,.nil,e=>by cases e
 |_,_,d,@KvR.cons _ _ _ _ k' v d' vs ds r rs,e=>by
  by_cases q:k'=k
  ·have e':lZ ((k',d')::ds) k=some d':=by simp[lZ,List.find?_cons,q]
   rw[e'] at e
   cases e
   exact⟨v,sO (p:=(k',v)) q,r⟩
  ·have e':lZ ((k',d')::ds) k=lZ ds k:=by simp[lZ,List.find?_cons,q]
   rw[e'] at e
   obtain⟨u,e1,ru⟩:=KvR.val rs e
   exact⟨u,by rw[oW (p:=(k',v)) q];exact e1,ru⟩
theorem KvR.val_none {k:κ}:∀ {vs:List (κ×V)}{ds:List (κ×D)},KvR K ok H vs ds->lZ ds k=none->Ai vs k=none
 |_,_,.nil,e=>rfl
 |_,_,@KvR.cons _ _ _ _ k' v d' vs ds r rs,e=>by
  by_cases q:k'=k
  ·have e':lZ ((k',d')::ds) k=some d':=by simp[lZ,List.find?_cons,q]
   rw[e'] at e
   cases e
  ·have e':lZ ((k',d')::ds) k=lZ ds k:=by simp[lZ,List.find?_cons,q]
   rw[e'] at e
   rw[oW (p:=(k',v)) q]
   exact KvR.val_none rs e
theorem KvR.any {k:κ}:∀ {vs:List (κ×V)}{ds:List (κ×D)},KvR K ok H vs ds->(vs.any fun kv=>decide (kv.1=k))=ds.any fun kv=>decide (kv.1=k)
 |_,_,.nil=>rfl
 |_,_,.cons _ rs=>by rw[List.any_cons,List.any_cons,KvR.any rs]
theorem KvR.rep1 {k:κ}{v:V}{d:D} (q:Rep K ok H v d):∀ {vs:List (κ×V)}{ds:List (κ×D)},KvR K ok H vs ds->KvR K ok H (vs.map fun kv=>if kv.1=k then(kv.1,v) else kv) (ds.map fun kv=>if kv.1=k then(kv.1,d) else kv)
 |_,_,.nil=>.nil
 |_,_,@KvR.cons _ _ _ _ k' v' d' vs ds r rs=>by
  rw[List.map_cons,List.map_cons]
  by_cases z:k'=k
  ·rw[if_pos z,if_pos z]
   exact .cons q (KvR.rep1 q rs)
  ·rw[if_neg z,if_neg z]
   exact .cons r (KvR.rep1 q rs)
theorem KvR.snoc {k:κ}{v:V}{d:D} (q:Rep K ok H v d):∀ {vs:List (κ×V)}{ds:List (κ×D)},KvR K ok H vs ds->KvR K ok H (vs++[(k,v)]) (ds++[(k,d)])
 |_,_,.nil=>.cons q .nil
 |_,_,.cons r rs=>.cons r (KvR.snoc q rs)
theorem KvR.put {k:κ}{v:V}{d:D}{vs:List (κ×V)}{ds:List (κ×D)} (h:KvR K ok H vs ds) (q:Rep K ok H v d):KvR K ok H (wE vs k v) (nW ds k d):=by
 unfold wE nW
 rw[h.any]
 split
 ·exact h.rep1 q
 ·exact h.snoc q
theorem KvR.drop {k:κ}:∀ {vs:List (κ×V)}{ds:List (κ×D)},KvR K ok H vs ds->KvR K ok H (Bl vs k) (iG ds k)
 |_,_,.nil=>.nil
 |_,_,@KvR.cons _ _ _ _ k' v' d' vs ds r rs=>by
  unfold Bl iG
  by_cases z:k'=k
  ·rw[List.filter_cons,List.filter_cons]
   simp only[z,ne_eq,not_true_eq_false,decide_false,Bool.false_eq_true,if_false]
   exact KvR.drop rs
  ·rw[List.filter_cons,List.filter_cons]
   simp only[z,ne_eq,not_false_eq_true,decide_true,if_true]
   exact .cons r (KvR.drop rs)
end
def IR (ω:Om) (d y:D):Option (Option D):=match cellOf ω d with
 |some (.dt kvs)=>(Fp y).map fun k=>lZ kvs k
 |some (.dz kvs)=>(Fp y).map fun k=>lZ kvs k
 |some (.dk kvs)=>(toK y).map fun k=>lZ kvs k
 |_=>none
def ResR (K:PySem.W.Frag) (ok:Okk) (H:Hp):Option D->Option V->Prop
 |some z,u=>∃ v,u=some v/\Rep K ok H v z
 |none,u=>u=none
theorem ResR.isSome {K:PySem.W.Frag}{ok:Okk}{H:Hp}{r:Option D}{u:Option V} (h:ResR K ok H r u):u.isSome=r.isSome:=by
 cases r with
 |none=>rw[show u=none from h];rfl
 |some z=>obtain⟨v,rfl,_⟩:=h;rfl
theorem KvR.res {κ:Type} [DecidableEq κ] {K:PySem.W.Frag}{ok:Okk}{H:Hp}{k:κ}{vs:List (κ×V)}{ds:List (κ×D)} (h:KvR K ok H vs ds):ResR K ok H (lZ ds k) (Ai vs k):=by
 cases q:lZ ds k with
 |none=>exact h.val_none q
 |some z=>exact h.val q
theorem DGet.of {K:PySem.W.Frag}{ok:Okk}{H:Hp}{ω:Om}{x y:V}{d k:D}{r:Option D} (t:Stt cls K ok H ω) (rx:Rep K ok H x d) (ry:Rep K ok H y k) (e:IR ω d k=some r):∃ a u,x=.ref a/\DGet H a y u/\ResR K ok H r u:=by
 unfold IR at e
 cases hc:cellOf ω d with
 |none=>rw[hc] at e;cases e
 |some ob=>
  rw[hc] at e
  obtain⟨n,rfl,e1⟩:=eL hc
  cases ob with
  |dt kvs=>
   obtain⟨a,rfl,e2,vs,e3,kv⟩:=t.ref rx e1
   obtain⟨ks,e4,e5⟩:=aN (show(Fp k).map _=some r from e)
   subst e5
   obtain⟨b,rfl,_,hb⟩:=toT'_rep e4 ry
   exact⟨a,_,rfl,DGet.t e3 hb,kv.res⟩
  |dz kvs=>
   obtain⟨a,rfl,e2,ob,vs,e3,kv⟩:=t.ref rx e1
   obtain⟨ks,e4,e5⟩:=aN (show(Fp k).map _=some r from e)
   subst e5
   obtain⟨b,rfl,_,hb⟩:=toT'_rep e4 ry
   exact⟨a,_,rfl,.inr ⟨vs,ks,b,.inr ⟨ob,e3⟩,rfl,hb,rfl⟩,kv.res⟩
  |dk kvs=>
   obtain⟨a,rfl,e2,vs,e3,kv⟩:=t.ref rx e1
   obtain⟨ks,e4,e5⟩:=aN (show(toK k).map _=some r from e)
   subst e5
   obtain rfl:=BU e4 ry
   exact⟨a,_,rfl,DGet.k e3,kv.res⟩
  |_=>cases e
def wJ (ω:Om) (d y:D):Option D:=(IR ω d y).join
theorem FW (hu:X.A.units+1<cLine) (ho:OE X cls E o fo) (hi:OE X cls E i fi) (hs:PP i:=by intro _ _;rfl):OE X cls E (.Subscript o i pos) (o2 (fun ω a b=>pu (wJ ω a b) ω) fo fi):=(KA hu ho hi hs).imp fun σ H Q ⟨ok,ρ,ω,r,ω',P,e,q⟩=>by
 refine tO.then_ P e (fun c z=>by subst z;exact q) fun d ω1 v ok1 H1 e1 n1 P1 r1=> ?_
 refine tO.then_ P1 e1 (fun c z=>by subst z;exact exR.nw q n1) fun y ω2 u ok2 H2 e2 n2 P2 r2=> ?_
 obtain⟨z,e3,rfl⟩:=cS e2
 obtain⟨ue3,rfl⟩:=dF e3
 have e4:IR ω' d y=some (some z):=by
  unfold wJ at ue3
  cases q:IR ω' d y with
  |none=>rw[q] at ue3;cases ue3
  |some w=>rw[q] at ue3;cases w with
   |none=>cases ue3
   |some w=>cases ue3;rfl
 obtain⟨a,w,rfl,g,w2⟩:=DGet.of P2.st (r1.ex n2.ex) r2 e4
 obtain⟨v',rfl,rv⟩:=w2
 exact⟨a,v',rfl,g,q v' ok2 H2 (n1.trans n2) rv⟩
def Me (ω:Om) (y d:D):Option D:=(IR ω d y).map fun r=>.bl r.isSome
theorem Nd (hu:X.A.units+1<cLine) (hi:OE X cls E i fi) (ho:OE X cls E o fo) (hm:behindInMarks .In o=false:=by with_unfolding_all rfl):OT X cls E (.Compare i [.In] [o] pos) (eJ (o2 (fun ω a b=>pu (Me ω a b) ω) fi fo)):=
 (MK (Na hu hi ho) hm).imp fun σ H Q ⟨ok,ρ,ω,r,ω',P,e,q⟩=>by
 rcases pQ e with⟨c,e1,rfl⟩|⟨dd,ωd,e0,e5⟩
 ·rcases pQ e1 with⟨c',e2,e3⟩|⟨y,ω1,e2,e3⟩
  ·cases e3
   exact⟨ok,ρ,ω,.ex c,ω',P,e2,q⟩
  ·refine⟨ok,ρ,ω,.ok y,ω1,P,e2,fun v ok1 H1 n1 r1=> ?_⟩
   rcases pQ e3 with⟨c',e4,e6⟩|⟨z,ω2,e4,e6⟩
   ·cases e6
    exact⟨ok1,ρ,ω1,.ex c,ω',P.nw n1,e4,exR.nw q n1⟩
   ·obtain⟨_,_,w⟩:=cS e6
    cases w
 ·rcases pQ e0 with⟨c',e2,e3⟩|⟨y,ω1,e2,e3⟩
  ·cases e3
  ·refine⟨ok,ρ,ω,.ok y,ω1,P,e2,fun v ok1 H1 n1 r1=> ?_⟩
   rcases pQ e3 with⟨c',e4,e6⟩|⟨z,ω2,e4,e6⟩
   ·cases e6
   ·refine⟨ok1,ρ,ω1,.ok z,ω2,P.nw n1,e4,fun u ok2 H2 n2 r2=> ?_⟩
    obtain⟨w,e7,w'⟩:=cS e6
    cases w'
    obtain⟨ue7,rfl⟩:=dF e7
    obtain⟨ro,e8,rfl⟩:=aN ue7
    obtain⟨k,e9,rfl⟩:=cS e5
    obtain⟨ue9,rfl⟩:=dF e9
    cases ue9
    obtain⟨a,w,rfl,g,w2⟩:=DGet.of n2.st r2 (r1.ex n2.ex) e8
    exact⟨a,w,rfl,g,ro.isSome,by rw[w2.isSome],q ok2 H2 (n1.trans n2)⟩
def Ga:OG D:=fun _ ω=>some (.ok (.obj ω.length),ω++[.dt []])
theorem yU:OE X cls E (.Dict [] [] pos) Ga:=(PE.imp HW) fun σ H Q ⟨ok,ρ,ω,r,ω',P,e,q⟩=>by
 cases e
 exact fun p n=>q _ _ _ (Nw.make (o:=.dT []) P.okh P.st n ⟨[],aS,.nil⟩) .new_obj
end
end L2.MB
end
section
namespace L2.MB
open PySem PySem.Spec PyProof.Rows
inductive OOut where
 |nx (ρ:Rho)|rt (d:D)|bk (ρ:Rho)|ct (ρ:Rho)|ex (c:Nat)
abbrev OS:=Rho->Om->Option (OOut×Om)
def nxR (cls:Nat->Addr) (K:PySem.W.Frag) (ok:Okk) (H:Hp) (ω':Om) (ρ:Rho) (N:St->Hp->Prop):Prop:=∀ ok' H' σ',Nw cls K ok H ok' H' ω'->EnvR K ok' H' σ' ρ->σ'.length=ρ.length->N σ' H'
def outO (cls:Nat->Addr) (K:PySem.W.Frag) (ok:Okk) (H:Hp) (ω':Om) (E:XE) (D:Dc):OOut->Prop
 |.nx ρ=>nxR cls K ok H ω' ρ D.nx
 |.bk ρ=>nxR cls K ok H ω' ρ D.bk
 |.ct ρ=>nxR cls K ok H ω' ρ D.ct
 |.rt d=>∀ v ok' H',Nw cls K ok H ok' H' ω'->Rep K ok' H' v d->D.rt v H'
 |.ex c=>exR cls K ok H ω' E c
def tOS (cls:Nat->Addr) (K:PySem.W.Frag) (F:OS) (E:XE):TS:=fun D σ H=>∃(ok:Okk) (ρ:Rho) (ω:Om) (o:OOut) (ω':Om),Pre cls K ok H ω σ ρ/\F ρ ω=some (o,ω')/\outO cls K ok H ω' E D o
abbrev OSt (X:Cx) (cls:Nat->Addr) (E:XE) (st:Stmt) (F:OS):Prop:=PS X st (tOS cls X.K F E)
abbrev OSs (X:Cx) (cls:Nat->Addr) (E:XE) (st:List Stmt) (F:OS):Prop:=PSs X st (tOS cls X.K F E)
theorem nxR.nw {cls:Nat->Addr}{K:PySem.W.Frag}{ok ok':Okk}{H H':Hp}{ω1 ω':Om}{ρ:Rho}{N:St->Hp->Prop} (h:nxR cls K ok H ω' ρ N) (n:Nw cls K ok H ok' H' ω1):nxR cls K ok' H' ω' ρ N:=fun ok2 H2 σ2 m e l=>h ok2 H2 σ2 (n.trans m) e l
theorem outO.nw {cls:Nat->Addr}{K:PySem.W.Frag}{ok ok':Okk}{H H':Hp}{ω1 ω':Om}{E:XE}{D:Dc}{o:OOut} (h:outO cls K ok H ω' E D o) (n:Nw cls K ok H ok' H' ω1):outO cls K ok' H' ω' E D o:=by
 cases o with
 |nx ρ=>exact nxR.nw h n
 |bk ρ=>exact nxR.nw h n
 |ct ρ=>exact nxR.nw h n
 |rt d=>exact fun v ok2 H2 m r=>h v ok2 H2 (n.trans m) r
 |ex c=>exact exR.nw h n
def oX {α:Type} (f:OG α) (g:α->Rho->Om->Option (OOut×Om)):OS:=fun ρ ω=>match f ρ ω with
 |none=>none
 |some (.ex c,ω1)=>some (.ex c,ω1)
 |some (.ok a,ω1)=>g a ρ ω1
theorem uA {α:Type}{f:OG α}{g:α->Rho->Om->Option (OOut×Om)}{ρ:Rho}{ω ω':Om}{o:OOut} (h:oX f g ρ ω=some (o,ω')):(∃ c,f ρ ω=some (.ex c,ω')/\o=.ex c)∨∃ a ω1,f ρ ω=some (.ok a,ω1)/\g a ρ ω1=some (o,ω'):=by
 unfold oX at h
 split at h
 ·cases h
 ·cases h
  exact .inl ⟨_,‹_›,rfl⟩
 ·exact .inr ⟨_,_,‹_›,h⟩
def cB:OS:=fun ρ ω=>some (.nx ρ,ω)
def aP (F G:OS):OS:=fun ρ ω=>match F ρ ω with
 |none=>none
 |some (.nx ρ1,ω1)=>G ρ1 ω1
 |some (o,ω1)=>some (o,ω1)
theorem Az {F G:OS}{ρ:Rho}{ω ω':Om}{o:OOut} (h:aP F G ρ ω=some (o,ω')):(∃ ρ1 ω1,F ρ ω=some (.nx ρ1,ω1)/\G ρ1 ω1=some (o,ω'))∨(F ρ ω=some (o,ω')/\∀ ρ1,o≠ .nx ρ1):=by
 unfold aP at h
 split at h
 ·cases h
 ·exact .inl ⟨_,_,‹_›,h⟩
 ·rename_i o1 ω1 hn q
  cases h
  exact .inr ⟨q,fun ρ1 z=>hn ρ1 z⟩
def bG (i:Nat) (f:OG D):OS:=oX f fun d ρ ω=>some (.nx (ρ.set i (some d)),ω)
def eS (f:OG D):OS:=oX f fun _ ρ ω=>some (.nx ρ,ω)
def fJ (t:OG Bool) (F G:OS):OS:=oX t fun k ρ ω=>if k=true then F ρ ω else G ρ ω
def bE (f:OG D):OS:=oX f fun d _ ω=>some (.rt d,ω)
section
variable {X:Cx}{cls:Nat->Addr}{E:XE}{st:Stmt}{rest body els:List Stmt}{tg e a b c o i iter value:Expr}{es:List Expr}{f:DF}{fa fb fo fi fv:OG D}{fl:OG (List D)}{ft ft':OG Bool}{F G:OS}{pos p apos pos':Pos}{x m:Str}{cn:Nat}
theorem tO.thenS {K:PySem.W.Frag}{g:D->Rho->Om->Option (OOut×Om)}{σ:St}{H:Hp}{Q:VK}{ok:Okk}{ρ:Rho}{ω ω':Om}{o:OOut}{D:Dc} (P:Pre cls K ok H ω σ ρ) (e:oX fa g ρ ω=some (o,ω')) (hx:outO cls K ok H ω' E D o)
  (h:∀ d ω1 v ok1 H1,g d ρ ω1=some (o,ω')->Nw cls K ok H ok1 H1 ω1->Pre cls K ok1 H1 ω1 σ ρ->Rep K ok1 H1 v d->outO cls K ok1 H1 ω' E D o->Q v H1):tO cls K fa E σ H Q:=by
 rcases uA e with⟨c,e1,rfl⟩|⟨d,ω1,e1,e2⟩
 ·exact⟨ok,ρ,ω,.ex c,ω',P,e1,hx⟩
 ·exact⟨ok,ρ,ω,.ok d,ω1,P,e1,fun v ok1 H1 n r1=>h d ω1 v ok1 H1 e2 n (P.nw n) r1 (hx.nw n)⟩
theorem bP:OSs X cls E [] cB:=(PSs.imp Kp) fun D σ H ⟨ok,ρ,ω,o,ω',P,e,q⟩=>by
 cases e
 exact q ok H σ (.refl P.okh P.st) P.env P.len
theorem aH (h1:OSt X cls E st F) (h2:OSs X cls E rest G):OSs X cls E (st::rest) (aP F G):=(HR h1 h2).imp fun D σ H ⟨ok,ρ,ω,o,ω',P,e,q⟩=>by
 rcases Az e with⟨ρ1,ω1,e1,e2⟩|⟨e1,hn⟩
 ·exact⟨ok,ρ,ω,_,ω1,P,e1,fun ok1 H1 σ1 n1 r1 l1=>⟨ok1,ρ1,ω1,o,ω',⟨n1.okh,n1.st,r1,l1⟩,e2,q.nw n1⟩⟩
 ·refine⟨ok,ρ,ω,o,ω',P,e1,?_⟩
  cases o with
  |nx ρ1=>exact absurd rfl (hn ρ1)
  |_=>exact q
theorem aO (h1:OSt X cls E st F):OSs X cls E [st] F:=Ko h1
theorem bI {i:Nat} (hN:X.N.Nodup) (hi:X.N[i]?=some x) (hx:Loc X.env.scope x) (he:OE X cls E e fa) (hs:swapsWith e (some (.Name x pos')) pos.line X.env=pure false:=by rfl)
  (hf:X.fn x=true∨X.env.scope.names.lookup x=some .local:=by first|exact .inl rfl|exact .inr rfl|assumption):OSt X cls E (.Assign [.Name x pos'] e pos) (bG i fa):=
 (ML hN hi hx he hs hf).imp fun D σ H ⟨ok,ρ,ω,o,ω',P,e,q⟩=>by
  refine tO.thenS P e q fun d ω1 v ok1 H1 e1 n1 P1 r1 q1=> ?_
  cases e1
  exact q1 ok1 H1 _ (.refl P1.okh P1.st) (P1.env.set P1.len r1 i) (by rw[List.length_set,List.length_set];exact P1.len)
theorem jX (he:OE X cls E e fa) (hs:swapsWith e none pos.line X.env=pure false:=by rfl):OSt X cls E (.Expr e pos) (eS fa):=
 (Kr he hs).imp fun D σ H ⟨ok,ρ,ω,o,ω',P,e,q⟩=>by
  refine tO.thenS P e q fun d ω1 v ok1 H1 e1 n1 P1 r1 q1=> ?_
  cases e1
  exact q1 ok1 H1 σ (.refl P1.okh P1.st) P1.env P1.len
theorem dA (hc:OT X cls E c ft) (ha:OSs X cls E body F) (hb:OSs X cls E els G):OSt X cls E (.If c body els pos) (fJ ft F G):=(Pc hc ha hb).imp fun D σ H ⟨ok,ρ,ω,o,ω',P,e,q⟩=>by
 rcases uA e with⟨c,e1,rfl⟩|⟨k,ω1,e1,e2⟩
 ·exact⟨ok,ρ,ω,.ex c,ω',P,e1,q⟩
 ·refine⟨ok,ρ,ω,.ok k,ω1,P,e1,fun ok1 H1 n1=> ?_⟩
  cases k with
  |true=>exact Mb ⟨ok1,ρ,ω1,o,ω',P.nw n1,e2,q.nw n1⟩
  |false=>exact Mc ⟨ok1,ρ,ω1,o,ω',P.nw n1,e2,q.nw n1⟩
theorem aT (he:OE X cls E e fa):OSt X cls E (.Return (some e) pos) (bE fa):=(MM he).imp fun D σ H ⟨ok,ρ,ω,o,ω',P,e,q⟩=>by
 refine tO.thenS P e q fun d ω1 v ok1 H1 e1 n1 P1 r1 q1=> ?_
 cases e1
 exact q1 v ok1 H1 (.refl P1.okh P1.st) r1
def pK (f:Str) (v:D):List (Str×D)->List (Str×D)
 |[]=>[(f,v)]
 |(g,x)::r=>if g=f then(g,v)::r else(g,x)::pK f v r
theorem KvR.putF {K:PySem.W.Frag}{ok:Okk}{H:Hp}{x:Str}{v:V}{d:D} (q:Rep K ok H v d):∀ {vs:List (Str×V)}{ds:List (Str×D)},KvR K ok H vs ds->KvR K ok H (L2.putF x v vs) (pK x d ds)
 |_,_,.nil=>.cons q .nil
 |_,_,@KvR.cons _ _ _ _ k v' d' vs ds r rs=>by
  show KvR K ok H (if k=x then(k,v)::vs else(k,v')::L2.putF x v vs) (if k=x then(k,d)::ds else(k,d')::pK x d ds)
  by_cases z:k=x
  ·rw[if_pos z,if_pos z]
   exact .cons q rs
  ·rw[if_neg z,if_neg z]
   exact .cons r (KvR.putF q rs)
def zG (c:Nat) (x:Str) (ω:Om) (o v:D):Option Om:=match o with
 |.obj n=>match ω[n]? with
  |some (.ins c' fs)=>if c'=c/\fs.length<1000 then some (ω.set n (.ins c (pK x v fs))) else none
  |_=>none
 |_=>none
theorem GH {c:Nat}{x:Str}{ω ω':Om}{o v:D} (h:zG c x ω o v=some ω'):∃ n fs,o=.obj n/\ω[n]?=some (.ins c fs)/\fs.length<1000/\ω'=ω.set n (.ins c (pK x v fs)):=by
 unfold zG at h
 split at h
 ·split at h
  ·obtain⟨⟨rfl,hl⟩,rfl⟩:=bU h
   exact⟨_,_,rfl,‹_›,hl,rfl⟩
  ·cases h
 ·cases h
def sH (c:Nat) (x:Str) (fo fv:OG D):OS:=oX fv fun v=>oX fo fun o ρ ω=>(zG c x ω o v).map fun ω'=>(.nx ρ,ω')
theorem rN (hc:Cls X.K (cls cn)) (hn:NoAttr X.K (cls cn) x) (ho:OE X cls E o fo) (hv:OE X cls E value fv) (hs:swapsWith value (some (.Attribute o x pos')) pos.line X.env=pure false:=by rfl):OSt X cls E (.Assign [.Attribute o x pos'] value pos) (sH cn x fo fv):=
 (MN ho hv hs).imp fun D σ H ⟨ok,ρ,ω,oo,ω',P,e,q⟩=>by
  refine tO.thenS P e q fun dv ω1 v ok1 H1 e1 n1 P1 r1 q1=> ?_
  refine tO.thenS P1 e1 q1 fun d ω2 u ok2 H2 e2 n2 P2 r2 q2=> ?_
  obtain⟨ω3,e3,e4⟩:=aN e2
  cases e4
  obtain⟨n,fs,rfl,e5,hl,rfl⟩:=GH e3
  obtain⟨a,rfl,e6,dx,vs,e7,kv⟩:=P2.st.ref r2 e5
  refine⟨a,_,dx,vs,rfl,e7,hc,hn,by rw[kv.length];exact hl,?_⟩
  have nw:=Nw.write (o:=.ins (cls cn) dx (L2.putF x v vs)) (ob:=.ins cn (pK x dv fs)) P2.okh P2.st e6 e7 fun dat=>⟨dx,_,aS,((kv.mono dat fun _ _ z=>z).putF ((r1.ex n2.ex).mono dat))⟩
  exact q2 ok2 _ σ nw (P2.env.ex nw.ex) P2.len
def wI (ω:Om) (o i v:D):Option Om:=match o,i with
 |.obj n,.int k=>match ω[n]? with
  |some (.ml ds)=>(ixN ds.length k).map fun j=>ω.set n (.ml (ds.set j v))
  |_=>none
 |_,_=>none
theorem Bf {ω ω':Om}{o i v:D} (h:wI ω o i v=some ω'):∃ n k ds j,o=.obj n/\i=.int k/\ω[n]?=some (.ml ds)/\ixN ds.length k=some j/\ω'=ω.set n (.ml (ds.set j v)):=by
 unfold wI at h
 split at h
 ·split at h
  ·obtain⟨j,e1,rfl⟩:=aN h
   exact⟨_,_,_,j,rfl,rfl,‹_›,e1,rfl⟩
  ·cases h
 ·cases h
def tW (g:Om->D->D->D->Option Om) (fo fi fv:OG D):OS:=oX fv fun v=>oX fo fun o=>oX fi fun i ρ ω=>(g ω o i v).map fun ω'=>(.nx ρ,ω')
theorem FS (ho:OE X cls E o fo) (hi:OE X cls E i fi) (hv:OE X cls E value fv) (hs:swapsWithSole [.Subscript o i pos'] value pos.line X.env=pure false:=by rfl) (hw:swappedStores [.Subscript o i pos'] value X.env=pure none:=by rfl)
  (h1:(assignEach [.Subscript o i pos'] X.env).map (·.2)=[assign (.Subscript o i pos') X.env]:=by rfl)
  (ha:∀ v,assign (.Subscript o i pos') X.env v=(do
   let ov <- holding [v] (eval o X.env)
   let iv <- holding [v,ov] (eval i X.env)
   standAt pos'
   holding [v,ov,iv] (setItem ov iv v)
   release [v,ov,iv] []):=by intro _;rfl):OSt X cls E (.Assign [.Subscript o i pos'] value pos) (tW wI fo fi fv):=
 (JB hv (FM ho hi yM ha) hs hw h1).imp fun D σ H ⟨ok,ρ,ω,oo,ω',P,e,q⟩=>by
  refine tO.thenS P e q fun dv ω1 v ok1 H1 e1 n1 P1 r1 q1=> ?_
  refine tO.thenS P1 e1 q1 fun d ω2 u ok2 H2 e2 n2 P2 r2 q2=> ?_
  refine tO.thenS P2 e2 q2 fun y ω3 w ok3 H3 e3 n3 P3 r3 q3=> ?_
  obtain⟨ω4,e4,e5⟩:=aN e3
  cases e5
  obtain⟨n,k,ds,j,rfl,rfl,e5,hj,rfl⟩:=Bf e4
  obtain⟨a,rfl,e6,xs,e7,rs⟩:=P3.st.ref (r2.ex n3.ex) e5
  obtain rfl:=r3.int_inv
  refine⟨a,xs,k,j,rfl,rfl,e7,by rw[rs.length];exact hj,?_⟩
  have nw:=Nw.write (o:=.lst (xs.set j v)) (ob:=.ml (ds.set j dv)) P3.okh P3.st e6 e7 fun dat=>⟨_,aS,(rs.mono dat).set ((r1.ex (n2.ex.trans n3.ex)).mono dat) j⟩
  exact q3 ok3 _ σ nw (P3.env.ex nw.ex) P3.len
def zH (ω:Om) (o i v:D):Option Om:=match o with
 |.obj n=>match ω[n]? with
  |some (.dt kvs)=>(Fp i).bind fun k=>if kvs.length<sizeLine then some (ω.set n (.dt (nW kvs k v))) else none
  |some (.dk kvs)=>(toK i).bind fun k=>if kvs.length<sizeLine then some (ω.set n (.dk (nW kvs k v))) else none
  |_=>none
 |_=>none
theorem yS (hu:X.A.units+1<cLine) (ho:OE X cls E o fo) (hi:OE X cls E i fi) (hv:OE X cls E value fv) (hs:swapsWith value (some (.Subscript o i pos')) pos.line X.env=pure false:=by rfl):
  OSt X cls E (.Assign [.Subscript o i pos'] value pos) (tW zH fo fi fv):=
 (Ks hu ho hi hv hs).imp fun D σ H ⟨ok,ρ,ω,oo,ω',P,e,q⟩=>by
  refine tO.thenS P e q fun dv ω1 v ok1 H1 e1 n1 P1 r1 q1=> ?_
  refine tO.thenS P1 e1 q1 fun d ω2 u ok2 H2 e2 n2 P2 r2 q2=> ?_
  refine tO.thenS P2 e2 q2 fun y ω3 w ok3 H3 e3 n3 P3 r3 q3=> ?_
  obtain⟨ω4,e4,e5⟩:=aN e3
  cases e5
  have rv:=r1.ex (n2.ex.trans n3.ex)
  unfold zH at e4
  split at e4
  ·split at e4
   ·rename_i n kvs e5
    obtain⟨ks,e8,e9⟩:=aX e4
    obtain⟨hl,rfl⟩:=bU e9
    obtain⟨a,rfl,e6,vs,e7,kv⟩:=P3.st.ref (r2.ex n3.ex) e5
    obtain⟨b,rfl,_,hb⟩:=toT'_rep e8 r3
    refine⟨a,_,rfl,DPut.t e7 hb (by rw[kv.length];exact hl),?_⟩
    have nw:=Nw.write (o:=.dT (wE vs ks v)) (ob:=.dt (nW kvs ks dv)) P3.okh P3.st e6 e7 fun dat=>⟨_,aS,(kv.mono dat fun _ _ z=>z).put (rv.mono dat)⟩
    exact q3 ok3 _ σ nw (P3.env.ex nw.ex) P3.len
   ·rename_i n kvs e5
    obtain⟨ks,e8,e9⟩:=aX e4
    obtain⟨hl,rfl⟩:=bU e9
    obtain⟨a,rfl,e6,vs,e7,kv⟩:=P3.st.ref (r2.ex n3.ex) e5
    obtain rfl:=BU e8 r3
    refine⟨a,_,rfl,DPut.k e7 (by rw[kv.length];exact hl),?_⟩
    have nw:=Nw.write (o:=.dK (wE vs ks v)) (ob:=.dk (nW kvs ks dv)) P3.okh P3.st e6 e7 fun dat=>⟨_,aS,(kv.mono dat fun _ _ z=>z).put (rv.mono dat)⟩
    exact q3 ok3 _ σ nw (P3.env.ex nw.ex) P3.len
   ·cases e4
  ·cases e4
structure ItO (cls:Nat->Addr) (K:PySem.W.Frag) (ok1:Okk) (H1:Hp) (C:Om->Bool) (J:It) (ds:List D):Prop where
 go:∀ i ok H ω,Nw cls K ok1 H1 ok H ω->C ω=true->i<ds.length->J.go i H
 yld:∀ i ok H ω x H' d,Nw cls K ok1 H1 ok H ω->C ω=true->J.yld i H x H'->ds[i]?=some d->Same H H'/\Rep K ok H' x d
 stop:∀ i ok H ω,Nw cls K ok1 H1 ok H ω->C ω=true->ds.length<=i->J.stop i H
abbrev OI':=OG (List D×(Om->Bool))
def tOI (cls:Nat->Addr) (K:PySem.W.Frag) (f:OI') (E:XE):TI:=fun σ H R=>∃(ok:Okk) (ρ:Rho) (ω:Om) (r:Rz (List D×(Om->Bool))) (ω':Om),Pre cls K ok H ω σ ρ/\f ρ ω=some (r,ω')/\match r with
 |.ok p=>∀ J ok' H',Nw cls K ok H ok' H' ω'->ItO cls K ok' H' p.2 J p.1->R J H'
 |.ex c=>exR cls K ok H ω' E c
abbrev OI (X:Cx) (cls:Nat->Addr) (E:XE) (tg e:Expr) (f:OI'):Prop:=PI X tg e (tOI cls X.K f E)
def dH:Om->Bool:=fun _=>true
theorem ItD.toO {K:PySem.W.Frag}{ok1:Okk}{H1:Hp}{J:It}{ds:List D} (h:ItD K ok1.al (HE ok1 H1) J ds):ItO cls K ok1 H1 dH J ds:=by
 have sm:∀ {ok:Okk}{H:Hp}{ω:Om},Nw cls K ok1 H1 ok H ω->Same (HE ok1 H1) H:=fun n b u z=>(n.ex.dat b u (pJ z).1 (pJ z).2).2
 refine⟨fun i ok H ω n _ hi=>h.go i H (sm n) hi,fun i ok H ω x H' d n _ y hd=> ?_,fun i ok H ω n _ hi=>h.stop i H (sm n) hi⟩
 obtain⟨s,r⟩:=h.yld i H x H' d (sm n) y hd
 refine⟨s,Rep.mono (ok:=⟨fun b=>HE ok1 H1 b≠none∨H b=none,ok1.al⟩) (fun b u z w=>⟨?_,w⟩) (fun m a z=>n.ex.ids m a z) r⟩
 rcases z with z|z
 ·cases q:HE ok1 H1 b with
  |none=>exact absurd q z
  |some u'=>exact(n.ex.dat b u' (pJ q).1 (pJ q).2).1
 ·exact n.okh b z
def vY (n:Nat) (ds:List D) (ω:Om):Bool:=match ω[n]? with
 |some (.ml ds')=>sameDs ds' ds
 |_=>false
theorem Iy {n:Nat}{ds:List D}{ω:Om} (h:vY n ds ω=true):ω[n]?=some (.ml ds):=by
 unfold vY at h
 split at h
 ·rename_i ds' e
  rw[sameDs_eq ds' ds h] at e
  exact e
 ·cases h
def xQ (ω:Om) (d:D):Option (List D×(Om->Bool)):=match d with
 |.lst ds=>some (ds,dH)
 |.obj n=>match ω[n]? with
  |some (.ml ds)=>some (ds,vY n ds)
  |_=>none
 |_=>none
theorem IP {ω:Om}{d:D}{ds:List D}{chk:Om->Bool} (h:xQ ω d=some (ds,chk)):(d=.lst ds/\chk=dH)∨∃ n,d=.obj n/\ω[n]?=some (.ml ds)/\chk=vY n ds:=by
 cases d with
 |lst xs=>cases h;exact .inl ⟨rfl,rfl⟩
 |obj n=>
  have h':(match ω[n]? with
   |some (.ml ds)=>some (ds,vY n ds)
   |_=>none)=some (ds,chk):=h
  split at h'
  ·rename_i xs e
   cases h'
   exact .inr ⟨n,rfl,e,rfl⟩
  ·cases h'
 |_=>cases h
theorem Cz {K:PySem.W.Frag}{ok1:Okk}{H1:Hp}{ω1:Om}{d:D}{v:V}{ds:List D}{chk:Om->Bool} (e:xQ ω1 d=some (ds,chk)) (st:Stt cls K ok1 H1 ω1) (r:Rep K ok1 H1 v d):
  ∃ a,v=.ref a/\(∃ xs,SqL K H1 a xs)/\∀ ok H ω,Nw cls K ok1 H1 ok H ω->chk ω=true->∃ xs,SqL K H a xs/\Reps K ok H xs ds:=by
 rcases IP e with⟨rfl,rfl⟩|⟨n,rfl,e1,rfl⟩
 ·obtain⟨a,xs,rfl,g,rs⟩:=r.lst_inv
  refine⟨a,rfl,⟨xs,g.sq⟩,fun ok H ω n _=>⟨xs,(g.mono n.ex.dat).sq,rs.ex n.ex⟩⟩
 ·obtain⟨a,rfl,e2,xs,e3,rs⟩:=st.ref r e1
  refine⟨a,rfl,⟨xs,SqL.of e3⟩,fun ok H ω nw hc=> ?_⟩
  obtain⟨b,e4,xs',e5,rs'⟩:=nw.st.cell n _ (Iy hc)
  have:=nw.ex.ids n a e2
  rw[e4] at this
  cases this
  exact⟨xs',SqL.of e5,rs'⟩
def oIL (f:OG D):OI':=oB f fun d _ ω=>oR (pu (xQ ω d) ω)
theorem dB (h:OE X cls E e fa):OI X cls E tg e (oIL fa):=PI.imp (Kw h) fun σ H R ⟨ok,ρ,ω,r,ω',P,e,q⟩=>by
 refine tO.then_ P e (fun c z=>by subst z;exact q) fun d ω1 v ok1 H1 e1 n1 P1 r1=> ?_
 obtain⟨⟨ds,chk⟩,e3,rfl⟩:=cS e1
 obtain⟨ue3,rfl⟩:=dF e3
 obtain⟨a,rfl,hx,at_⟩:=Cz ue3 P1.st r1
 refine⟨a,rfl,hx,q _ ok1 H1 n1 ⟨fun i ok H ω n c hi=> ?_,fun i ok H ω x H' d n c y hd=> ?_,fun i ok H ω n c hi=> ?_⟩⟩
 ·obtain⟨xs,s1,rs⟩:=at_ ok H ω n c
  have hi':i<xs.length:=by rw[rs.length];exact hi
  exact⟨xs,xs[i],s1,by simp[hi']⟩
 ·obtain⟨xs,s1,rs⟩:=at_ ok H ω n c
  obtain⟨rfl,y⟩:=y
  obtain⟨w,z1,z2⟩:=rs.get hd
  rw[y xs s1] at z1
  cases z1
  exact⟨Same.refl _,z2⟩
 ·obtain⟨xs,s1,rs⟩:=at_ ok H ω n c
  exact⟨xs,s1,by rw[rs.length];exact hi⟩
def Oz (ω:Om) (ds:List D):Option (List D×(Om->Bool)):=match ds with
 |[a,b]=>(xQ ω a).bind fun p=>(xQ ω b).map fun q=>(BQ p.1 q.1,fun ω=>p.2 ω&&q.2 ω)
 |_=>none
def oIZ (f:OG (List D)):OI':=oB f fun ds _ ω=>oR (pu (Oz ω ds) ω)
theorem Du {ts:List Expr}{k:Nat}{tp:Pos} (hg:Gl X "zip") (hm:X.mg "zip"=none) (ha:OA X cls E [a,b] fl) (hs:starEach [a,b] X.env=[(false,eval a X.env),(false,eval b X.env)]:=by rfl) (hs2:starEach [b] X.env=[(false,eval b X.env)]:=by rfl):
  OI X cls E (.Tuple ts k tp) (.Call (.Name "zip" p) [a,b] [] pos) (oIZ fl):=PI.imp (MO hg hm ha hs hs2) fun σ H R ⟨ok,ρ,ω,r,ω',P,e,q⟩=>by
 refine tOA.then_ P e (fun c z=>by subst z;exact q) fun ds ω1 vs ok1 H1 e1 n1 P1 r1=> ?_
 obtain⟨⟨dz,chk⟩,e3,rfl⟩:=cS e1
 obtain⟨ue3,rfl⟩:=dF e3
 unfold Oz at ue3
 split at ue3
 ·obtain⟨⟨d1,c1⟩,e4,e5⟩:=aX ue3
  obtain⟨⟨d2,c2⟩,e6,e7⟩:=aN e5
  cases e7
  obtain⟨v,v',rfl,ra,rb⟩:=r1.two_inv
  obtain⟨a1,rfl,hx,at1⟩:=Cz e4 P1.st ra
  obtain⟨b1,rfl,hy,at2⟩:=Cz e6 P1.st rb
  have hl:(BQ d1 d2).length=min d1.length d2.length:=by simp[BQ]
  refine⟨a1,b1,rfl,hx,hy,q _ ok1 H1 n1 ⟨fun i ok H ω n c hi=> ?_,fun i ok H ω x H' d n c y hd=> ?_,fun i ok H ω n c hi=> ?_⟩⟩
  ·obtain⟨xs,s1,rs⟩:=at1 ok H ω n (Bool.and_eq_true _ _ ▸ c).1
   obtain⟨ys,s2,rs2⟩:=at2 ok H ω n (Bool.and_eq_true _ _ ▸ c).2
   rw[hl] at hi
   have hi1:i<xs.length:=by rw[rs.length];omega
   have hi2:i<ys.length:=by rw[rs2.length];omega
   exact⟨xs,ys,xs[i],ys[i],s1,s2,by simp[hi1],by simp[hi2]⟩
  ·obtain⟨xs,s1,rs⟩:=at1 ok H ω n (Bool.and_eq_true _ _ ▸ c).1
   obtain⟨ys,s2,rs2⟩:=at2 ok H ω n (Bool.and_eq_true _ _ ▸ c).2
   obtain⟨T,x1,y1,rfl,hT,hx,hy,rfl⟩:=y
   have hx':=hx xs s1
   have hy':=hy ys s2
   unfold BQ at hd
   rw[List.getElem?_zipWith] at hd
   cases q1:d1[i]? with
   |none=>rw[q1] at hd;cases hd
   |some u1=>
    cases q2:d2[i]? with
    |none=>rw[q1,q2] at hd;cases hd
    |some u2=>
     rw[q1,q2] at hd
     cases hd
     obtain⟨w1,z1,z2⟩:=rs.get q1
     rw[hx'] at z1
     cases z1
     obtain⟨w2,z3,z4⟩:=rs2.get q2
     rw[hy'] at z3
     cases z3
     exact⟨dE hT,.tup_new (n.okh T hT) hT (.cons z2 (.cons z4 .nil))⟩
  ·obtain⟨xs,s1,rs⟩:=at1 ok H ω n (Bool.and_eq_true _ _ ▸ c).1
   obtain⟨ys,s2,rs2⟩:=at2 ok H ω n (Bool.and_eq_true _ _ ▸ c).2
   rw[hl] at hi
   refine⟨xs,ys,s1,s2,?_⟩
   rw[rs.length,rs2.length]
   omega
 ·cases ue3
abbrev EF:XE:=fun _ _=>False
def dU (bd:BR) (chk:Om->Bool) (F:OS):List D->OS
 |[],ρ,ω=>if chk ω=true then some (.nx ρ,ω) else none
 |d::ds,ρ,ω=>if chk ω=true then(bd d ρ).bind fun ρ1=>match F ρ1 ω with
  |none=>none
  |some (.nx ρ2,ω2)=>dU bd chk F ds ρ2 ω2
  |some (.ct ρ2,ω2)=>dU bd chk F ds ρ2 ω2
  |some (.bk ρ2,ω2)=>some (.nx ρ2,ω2)
  |some (.rt d,ω2)=>some (.rt d,ω2)
  |some (.ex _,_)=>none else none
def dS (fi:OI') (bd:BR) (F:OS):OS:=oX fi fun p ρ ω=>dU bd p.2 F p.1 ρ ω
theorem eB {α:Type}{c:Prop} [Decidable c] {a:Option α}{b:α} (h:(if c then a else none)=some b):c/\a=some b:=by
 by_cases hc:c
 ·rw[if_pos hc] at h;exact⟨hc,h⟩
 ·rw[if_neg hc] at h;cases h
def QP (g:TG) (tb:TS) (D:Dc) (σ:St) (J:It) (H1:Hp):Prop:=∃ W:Nat->Nat->St->Hp->Prop,(∃ m,W 0 m σ H1)/\∀ i m σ H,W i m σ H->
 (J.stop i H/\D.nx σ H)∨(J.go i H/\∃ N:St->Hp->Prop,(∀ σ' H',N σ' H'->∃ m',m'<m/\W (i+1) m' σ' H')/\∀ x H',J.yld i H x H'->g x σ H' fun σ2 H2=>tb { D with nx:=N,ct:=N,bk:=D.nx } σ2 H2)
theorem DQ {K:PySem.W.Frag}{bd:BR}{D:Dc}{σ:St}{ok1:Okk}{H1:Hp}{ω1 ω':Om}{ρ:Rho}{o:OOut}{ds:List MB.D}{chk:Om->Bool}{J:It} (it:ItO cls K ok1 H1 chk J ds) (P1:Pre cls K ok1 H1 ω1 σ ρ) (e2':dU bd chk F ds ρ ω1=some (o,ω')) (q1:outO cls K ok1 H1 ω' EF D o):
  QP (gR K bd) (tOS cls K F EF) D σ J H1:=by
 refine⟨fun i m σ' H'=>∃ ok' ωc ρ',m=ds.length-i/\i<=ds.length/\Nw cls K ok1 H1 ok' H' ωc/\EnvR K ok' H' σ' ρ'/\σ'.length=ρ'.length/\dU bd chk F (ds.drop i) ρ' ωc=some (o,ω'),
  ⟨ds.length,ok1,ω1,ρ,by simp,Nat.zero_le _,.refl P1.okh P1.st,P1.env,P1.len,by simpa using e2'⟩,?_⟩
 rintro i m σ' H' ⟨ok',ωc,ρ',rfl,hi,n2,env,len,ef⟩
 by_cases hlt:i<ds.length
 ·have hdrop:ds.drop i=ds[i]::ds.drop (i+1):=List.drop_eq_getElem_cons hlt
  rw[hdrop] at ef
  have ef':(if chk ωc=true then(bd ds[i] ρ').bind fun ρ1=>(match F ρ1 ωc with
   |none=>none
   |some (.nx ρ2,ω2)=>dU bd chk F (ds.drop (i+1)) ρ2 ω2
   |some (.ct ρ2,ω2)=>dU bd chk F (ds.drop (i+1)) ρ2 ω2
   |some (.bk ρ2,ω2)=>some (.nx ρ2,ω2)
   |some (.rt d,ω2)=>some (.rt d,ω2)
   |some (.ex _,_)=>none) else none)=some (o,ω'):=ef
  obtain⟨hc,ef'⟩:=eB ef'
  obtain⟨ρ1,e3,e4⟩:=aX ef'
  refine .inr ⟨it.go i ok' H' ωc n2 hc hlt,fun σ2 H2=>∃ ok2 ω2 ρ2,Nw cls K ok1 H1 ok2 H2 ω2/\EnvR K ok2 H2 σ2 ρ2/\σ2.length=ρ2.length/\dU bd chk F (ds.drop (i+1)) ρ2 ω2=some (o,ω'),
   fun σ2 H2 ⟨ok2,ω2,ρ2,z1,z2,z3,z4⟩=>⟨ds.length-(i+1),by omega,ok2,ω2,ρ2,rfl,hlt,z1,z2,z3,z4⟩,fun x H'' y=> ?_⟩
  obtain⟨s2,rx⟩:=it.yld i ok' H' ωc x H'' ds[i] n2 hc y (by simp[hlt])
  have n3:Nw cls K ok1 H1 ok' H'' ωc:=n2.trans (.same n2.okh n2.st s2)
  refine⟨ok',ρ',ρ1,ds[i],env.same s2,len,rx,e3,fun σ2 env2 len2=> ?_⟩
  cases eF:F ρ1 ωc with
  |none=>rw[eF] at e4;cases e4
  |some p=>
   obtain⟨o1,ω2⟩:=p
   rw[eF] at e4
   refine⟨ok',ρ1,ωc,o1,ω2,⟨n3.okh,n3.st,env2,len2⟩,eF,?_⟩
   cases o1 with
   |nx ρ2=>exact fun ok3 H3 σ3 m3 r3 l3=>⟨ok3,ω2,ρ2,n3.trans m3,r3,l3,e4⟩
   |ct ρ2=>exact fun ok3 H3 σ3 m3 r3 l3=>⟨ok3,ω2,ρ2,n3.trans m3,r3,l3,e4⟩
   |bk ρ2=>
    cases e4
    exact fun ok3 H3 σ3 m3 r3 l3=>q1 ok3 H3 σ3 (n3.trans m3) r3 l3
   |rt d=>
    cases e4
    exact fun v ok3 H3 m3 r3=>q1 v ok3 H3 (n3.trans m3) r3
   |ex c=>cases e4
 ·have ei:i=ds.length:=by omega
  subst ei
  rw[List.drop_length] at ef
  have ef':(if chk ωc=true then some (OOut.nx ρ',ωc) else none)=some (o,ω'):=ef
  obtain⟨hc,ef'⟩:=bU ef'
  cases ef'
  exact .inl ⟨it.stop _ ok' H' _ n2 hc (Nat.le_refl _),q1 ok' H' σ' n2 env len⟩
theorem tOS.for_ {K:PySem.W.Frag}{fi:OI'}{bd:BR}{D:Dc}{σ:St}{H:Hp} (h:tOS cls K (dS fi bd F) EF D σ H):OO (tOI cls K fi EF) (gR K bd) (tOS cls K F EF) D σ H:=by
 obtain⟨ok,ρ,ω,o,ω',P,e,q⟩:=h
 rcases uA e with⟨c,e1,rfl⟩|⟨⟨ds,chk⟩,ω1,e1,e2⟩
 ·exact⟨ok,ρ,ω,.ex c,ω',P,e1,q⟩
 ·exact⟨ok,ρ,ω,.ok (ds,chk),ω1,P,e1,fun J ok1 H1 n1 it=>DQ it (P.nw n1) e2 (q.nw n1)⟩
def sNx (F:OS):OS:=fun ρ ω=>match F ρ ω with
 |some (.ex _,_)=>none
 |r=>r
theorem FB {F:OS}{ρ:Rho}{ω ω':Om}{o:OOut} (h:sNx F ρ ω=some (o,ω')):F ρ ω=some (o,ω')/\∀ c,o≠ .ex c:=by
 unfold sNx at h
 split at h
 ·cases h
 ·rename_i hn
  exact⟨h,fun c z=>by subst z;exact hn c ω' h⟩
theorem _root_.L2.PS.nox {X:Cx}{st:Stmt}{t:TS} (h:PS X.nox st t):PS X st t:=fun pins s σ H D I hw=>
 wpAny_mono (h pins s σ H D (I.wish _) hw) (fun _ _ q=>q.unwish) fun _ _ z=>False.elim z
theorem JJ (h:OSt X.nox cls EF st F):OSt X cls E st (sNx F):=(PS.nox h).imp fun D σ H ⟨ok,ρ,ω,o,ω',P,e,q⟩=>by
 obtain⟨e,hn⟩:=FB e
 refine⟨ok,ρ,ω,o,ω',P,e,?_⟩
 cases o with
 |ex c=>exact absurd rfl (hn c)
 |_=>exact q
theorem pP {bd:BR}{fi:OI'} (hc:X.calm=true) (hi:OI X.nox cls EF tg iter fi) (hg:PG X.nox tg (gR X.K bd)) (hb:OSs X.nox cls EF body F) (hs:∀ x,foldedSetIterable iter X.env x=pure x:=by intro _;rfl):
  OSt X cls E (.For tg iter body [] pos) (sNx (dS fi bd F)):=JJ ((JA (X:=X.nox) PassesOwn.never hc hi hg hb hs).imp fun D σ H h=>tOS.for_ h)
end
end L2.MB
end
section
namespace L2.MB
open PySem PySem.Spec PyProof.Rows
def compLO (bd:BR) (chk:Om->Bool) (t:OG Bool) (f:OG D):List D->Rho->Om->Option (List D×Om)
 |[],_,ω=>if chk ω=true then some ([],ω) else none
 |d::ds,ρ,ω=>if chk ω=true then(bd d ρ).bind fun ρ1=>match t ρ1 ω with
  |some (.ok k,ω1)=>if k=true then(match f ρ1 ω1 with
   |some (.ok y,ω2)=>(compLO bd chk t f ds ρ1 ω2).map fun r=>(y::r.1,r.2)
   |_=>none) else compLO bd chk t f ds ρ1 ω1
  |_=>none else none
def eC (fin:Om->List D->Option (D×Om)) (fi:OI') (caps:List (Option Nat)) (bd:BR) (t:OG Bool) (f:OG D):OG D:=oB fi fun p ρ ω=>if p.1.length<=sizeLine then(compLO bd p.2 t f p.1 (Ea caps ρ) ω).bind fun r=>oR (fin r.2 r.1) else none
def wA (ω:Om) (ds:List D):Option (D×Om):=some (.lst ds,ω)
def Mf (ω:Om) (ds:List D):Option (D×Om):=some (.obj ω.length,ω++[.ml ds])
def Fin (fin:Om->List D->Option (D×Om)):Prop:=∀(cls:Nat->Addr) (K:PySem.W.Frag) (ok1 ok:Okk) (H1 H:Hp) (ω ω':Om) (P:Addr) (vs:List V) (ds:List D) (d:D),Nw cls K ok1 H1 ok H ω->H1 P=none->H P=some (.lst vs)->¬ ok.p P->(∀ n,ok.al n≠some P)->Reps K ok H vs ds->fin ω ds=some (d,ω')->
 ∃ ok',Nw cls K ok1 H1 ok' H ω'/\Rep K ok' H (.ref P) d
theorem mS:Fin wA:=fun cls K ok1 ok H1 H ω ω' P vs ds d nw h1 hP np na rs e=>by
 cases e
 have dat:∀ b o,ok.p b->H b=some o->(ok.p b∨b=P)/\H b=some o:=fun b o k e=>⟨.inl k,e⟩
 refine⟨⟨fun b=>ok.p b∨b=P,ok.al⟩,⟨⟨fun b o k e=>⟨.inl (nw.ex.dat b o k e).1,(nw.ex.dat b o k e).2⟩,nw.ex.ids,nw.ex.frm,nw.ex.new,nw.ex.keep,fun b k=> ?_,nw.ex.frz⟩,⟨fun b e=>.inl (nw.okh b e),fun b xs e=>.inl (nw.okh.tp b xs e)⟩,fun n ob e=> ?_,nw.st.dom,nw.st.inj,fun n a e k=> ?_⟩,.lst ⟨.inr rfl,hP⟩ (rs.mono dat)⟩
 ·rcases k with k|rfl
  ·exact nw.ex.sub b k
  ·exact .inr h1
 ·obtain⟨a,e1,c⟩:=nw.st.cell n ob e
  exact⟨a,e1,c.mono dat (fun _ _ z=>z) fun _ z=>z⟩
 ·rcases k with k|rfl
  ·exact nw.st.nok n a e k
  ·exact na n e
theorem IX:Fin Mf:=fun cls K ok1 ok H1 H ω ω' P vs ds d nw h1 hP np na rs e=>by
 cases e
 have al:∀ m b,(if m=ω.length then some P else ok.al m)=some b->(m=ω.length/\b=P)∨(m≠ω.length/\ok.al m=some b):=fun m b q=>by
  by_cases hm:m=ω.length
  ·rw[if_pos hm] at q;exact .inl ⟨hm,(Option.some.inj q).symm⟩
  ·rw[if_neg hm] at q;exact .inr ⟨hm,q⟩
 have ids:∀ m b,ok.al m=some b->(if m=ω.length then some P else ok.al m)=some b:=fun m b q=>by
  rw[if_neg (Nat.ne_of_lt (nw.st.dom m b q))]
  exact q
 have dat:∀ b o,ok.p b->H b=some o->ok.p b/\H b=some o:=fun b o k e=>⟨k,e⟩
 refine⟨⟨ok.p,fun m=>if m=ω.length then some P else ok.al m⟩,⟨⟨nw.ex.dat,fun m b q=>ids m b (nw.ex.ids m b q),nw.ex.frm,fun m b q=> ?_,nw.ex.keep,nw.ex.sub,nw.ex.frz⟩,⟨nw.okh.fn,nw.okh.tp⟩,fun m ob q=> ?_,fun m b q=> ?_,fun m m' b q q'=> ?_,fun m b q k=> ?_⟩,.obj (by show(if ω.length=ω.length then some P else _)=_;rw[if_pos rfl])⟩
 ·rcases al m b q with⟨_,rfl⟩|⟨_,q⟩
  ·exact .inr h1
  ·exact nw.ex.new m b q
 ·by_cases hm:m<ω.length
  ·rw[List.getElem?_append_left hm] at q
   obtain⟨b,e1,c⟩:=nw.st.cell m ob q
   exact⟨b,ids m b e1,c.mono dat ids fun _ z=>z⟩
  ·have hm':m=ω.length:=by
    have:=(List.getElem?_eq_some_iff.mp q).1
    simp at this
    omega
   subst hm'
   rw[List.getElem?_append_right (Nat.le_refl _)] at q
   simp at q
   subst q
   exact⟨P,by show(if ω.length=ω.length then some P else _)=_;rw[if_pos rfl],vs,hP,Reps.mono (ok':=⟨ok.p,fun m=>if m=ω.length then some P else ok.al m⟩) dat ids rs⟩
 ·rw[List.length_append,List.length_singleton]
  rcases al m b q with⟨rfl,_⟩|⟨_,q⟩
  ·omega
  ·have:=nw.st.dom m b q
   omega
 ·rcases al m b q with⟨rfl,rfl⟩|⟨_,qa⟩ <;> rcases al m' b q' with⟨rfl,w⟩|⟨_,qb⟩
  ·rfl
  ·exact absurd qb (na m')
  ·rw[w] at qa;exact absurd qa (na m)
  ·exact nw.st.inj m m' b qa qb
 ·rcases al m b q with⟨_,rfl⟩|⟨_,q⟩
  ·exact np k
  ·exact nw.st.nok m b q k
theorem CN {bd:BR}{chk:Om->Bool}{t:OG Bool}{f:OG D}{d:D}{ds ys:List D}{ρ:Rho}{ω ω':Om} (h:compLO bd chk t f (d::ds) ρ ω=some (ys,ω')):
  chk ω=true/\∃ ρ1 k ω1,bd d ρ=some ρ1/\t ρ1 ω=some (.ok k,ω1)/\((k=true/\∃ y zs ω2,f ρ1 ω1=some (.ok y,ω2)/\compLO bd chk t f ds ρ1 ω2=some (zs,ω')/\ys=y::zs)∨(k=false/\compLO bd chk t f ds ρ1 ω1=some (ys,ω'))):=by
 obtain⟨hc,h⟩:=eB (show(if chk ω=true then _ else none)=_ from h)
 obtain⟨ρ1,e1,h⟩:=aX h
 refine⟨hc,ρ1,?_⟩
 split at h
 ·rename_i k ω1 e2
  refine⟨k,ω1,e1,e2,?_⟩
  cases k with
  |true=>
   rw[if_pos rfl] at h
   split at h
   ·rename_i y ω2 e3
    obtain⟨⟨zs,ω3⟩,e4,e5⟩:=aN h
    cases e5
    exact .inl ⟨rfl,y,zs,ω2,e3,e4,rfl⟩
   ·cases h
  |false=>
   rw[if_neg Bool.false_ne_true] at h
   exact .inr ⟨rfl,h⟩
 ·cases h
section
variable {X:Cx}{cls:Nat->Addr}{E:XE}{tg iter elt:Expr}{ifs:List Expr}{scope:Scope}{N':List Str}{caps:List (Option Nat)}{fi:OI'}{bd:BR}{t:OG Bool}{f:OG D}{pos:Pos}{fin:Om->List D->Option (D×Om)}
theorem tO.comp {K:PySem.W.Frag} (Fn:Fin fin) {σ:St}{H:Hp}{Q:VK} (h:tO cls K (eC fin fi caps bd t f) E σ H Q):Ke (tOI cls K fi E) caps (gR K bd) (tOT cls K t EF) (tO cls K f EF) σ H Q:=by
 obtain⟨ok,ρ,ω,r,ω',P,e,q⟩:=h
 rcases pQ e with⟨c,e1,rfl⟩|⟨⟨ds,chk⟩,ω1,e1,e2⟩
 ·exact⟨ok,ρ,ω,.ex c,ω',P,e1,q⟩
 ·refine⟨ok,ρ,ω,.ok (ds,chk),ω1,P,e1,fun J ok1 H1 n1 it A hA=> ?_⟩
  have P1:=P.nw n1
  obtain⟨hz,e2⟩:=eB (show(if ds.length<=sizeLine then _ else none)=_ from e2)
  obtain⟨⟨out,ωf⟩,e3,e4⟩:=aX e2
  obtain⟨d,e5,rfl⟩:=cS e4
  -- ahead of the first turn:the list that is filled stands apart
  have start:Nw cls K ok1 H1 ⟨fun b=>ok1 b/\b≠A,ok1.al⟩ (upd H1 A (.lst [])) ω1:=by
   have dat:∀ b o,ok1.p b->H1 b=some o->(ok1.p b/\b≠A)/\upd H1 A (.lst []) b=some o:=fun b o k e=>⟨⟨k,aQ e hA⟩,by rw[aM (aQ e hA)];exact e⟩
   refine⟨⟨dat,fun _ _ z=>z,fun b o z _=>by rw[aM (aQ z hA)];exact z,fun _ _ z=>.inl z,fun b z=> ?_,fun b k=>.inl k.1,fun b x u z=>by rw[aM (aQ z hA)];exact z⟩,⟨fun b z=> ?_,fun b xs z=> ?_⟩,fun n ob z=> ?_,P1.st.dom,P1.st.inj,fun n a z k=>P1.st.nok n a z k.1⟩
   ·by_cases hb:b=A
    ·rw[hb];exact hA
    ·rw[aM hb] at z;exact z
   ·have hb:b≠A:=fun w=>by rw[w,aS] at z;cases z
    rw[aM hb] at z
    exact⟨P1.okh b z,hb⟩
   ·have hb:b≠A:=fun w=>by rw[w,aS] at z;cases z
    rw[aM hb] at z
    exact⟨P1.okh.tp b xs z,hb⟩
   ·obtain⟨a,z1,c⟩:=P1.st.cell n ob z
    exact⟨a,z1,c.mono dat (fun _ _ z=>z) fun o w=>by rw[aM (aQ w hA)];exact w⟩
  refine⟨fun i m σ' H'=>∃ ok' ωc ρ' vs acc rest,m=ds.length-i/\i<=ds.length/\Nw cls K ok1 H1 ok' H' ωc/\¬ ok'.p A/\(∀ n,ok'.al n≠some A)/\H' A=some (.lst vs)/\Reps K ok' H' vs acc/\EnvR K ok' H' σ' ρ'/\σ'.length=ρ'.length/\
   compLO bd chk t f (ds.drop i) ρ' ωc=some (rest,ωf)/\acc++rest=out/\acc.length<=i,
   ⟨ds.length,_,ω1,Ea caps ρ,[],[],out,by simp,Nat.zero_le _,start,fun k=>k.2 rfl,fun n z=> ?_,aS,.nil,(P1.env.ex start.ex).cap caps,LR _ _ _,by simpa using e3,by simp,Nat.zero_le _⟩,?_⟩
  ·obtain⟨_,_,c⟩:=P1.st.at_ (show ok1.al n=some A from z)
   obtain⟨_,w,_⟩:=c.there
   rw[hA] at w
   cases w
  ·rintro i m σ' H' ⟨ok',ωc,ρ',vs,acc,rest,rfl,hi,nw,np,na,hv,ra,re,rl,ec,ea,hal⟩
   by_cases hlt:i<ds.length
   ·have hdrop:ds.drop i=ds[i]::ds.drop (i+1):=List.drop_eq_getElem_cons hlt
    rw[hdrop] at ec
    obtain⟨hc,ρ1,k,ω2,b1,b2,hk⟩:=CN ec
    refine .inr ⟨it.go i ok' H' ωc nw hc hlt,fun x H'' y=> ?_⟩
    obtain⟨s2,rx⟩:=it.yld i ok' H' ωc x H'' ds[i] nw hc y (by simp[hlt])
    have nw2:Nw cls K ok' H' ok' H'' ωc:=.same nw.okh nw.st s2
    refine⟨ok',ρ',ρ1,ds[i],re.same s2,rl,rx,b1,fun σ2 re2 rl2=> ?_⟩
    refine⟨ok',ρ1,ωc,.ok k,ω2,⟨nw2.okh,nw2.st,re2,rl2⟩,b2,fun ok3 H3 nw3=> ?_⟩
    -- the list that is filled stays apart
    have apart:∀ {okx:Okk}{Hx:Hp}{ωx:Om},Nw cls K ok' H' okx Hx ωx->¬ okx.p A/\(∀ n,okx.al n≠some A)/\Hx A=some (.lst vs):=by
     intro okx Hx ωx nx
     refine⟨fun z=> ?_,fun n z=> ?_,nx.ex.frm A _ hv na⟩
     ·rcases nx.ex.sub A z with z|z
      ·exact np z
      ·rw[hv] at z;cases z
     ·rcases nx.ex.new n A z with z|z
      ·exact na n z
      ·rw[hv] at z;cases z
    rcases hk with⟨rfl,yd,zs,ω4,b5,b6,rfl⟩|⟨rfl,b6⟩
    ·refine Mb ⟨ok3,ρ1,ω2,.ok yd,ω4,⟨nw3.okh,nw3.st,re2.ex nw3.ex,rl2⟩,b5,fun yv ok4 H4 nw4 ry=> ?_⟩
     have nx:=nw2.trans (nw3.trans nw4)
     obtain⟨np4,na4,hv4⟩:=apart nx
     have hvl:vs.length<sizeLine:=by
      rw[ra.length]
      omega
     have keep:∀ b o,ok4.p b->H4 b=some o->ok4.p b/\upd H4 A (.lst (vs++[yv])) b=some o:=fun b o k e=>⟨k,by rw[aM (show b≠A from fun w=>np4 (w ▸ k))];exact e⟩
     have nwf:=nw.trans nx
     refine⟨vs,ds.length-(i+1),hv4,hvl,by omega,ok4,ω4,ρ1,vs++[yv],acc++[yd],zs,rfl,hlt,?_,np4,na4,aS,?_,?_,rl2,b6,by simpa using ea,by simp;omega⟩
     ·have nA:∀ {b:Addr}{o:HO},H1 b=some o->b≠A:=fun z=>aQ z hA
      refine⟨⟨fun b o k e=>⟨(nwf.ex.dat b o k e).1,by rw[aM (nA e)];exact(nwf.ex.dat b o k e).2⟩,nwf.ex.ids,fun b o e z=>by rw[aM (nA e)];exact nwf.ex.frm b o e z,nwf.ex.new,fun b e=> ?_,nwf.ex.sub,fun b x u z=>by rw[aM (nA z)];exact nwf.ex.frz b x u z⟩,⟨fun b e=> ?_,fun b xs e=> ?_⟩,fun n ob e=> ?_,nwf.st.dom,nwf.st.inj,nwf.st.nok⟩
      ·by_cases hb:b=A
       ·rw[hb];exact hA
       ·rw[aM hb] at e;exact nwf.ex.keep b e
      ·have hb:b≠A:=fun w=>by rw[w,aS] at e;cases e
       rw[aM hb] at e
       exact nwf.okh b e
      ·have hb:b≠A:=fun w=>by rw[w,aS] at e;cases e
       rw[aM hb] at e
       exact nwf.okh.tp b xs e
      ·obtain⟨a,z1,c⟩:=nwf.st.cell n ob e
       exact⟨a,z1,c.mono keep (fun _ _ z=>z) fun o w=>by rw[aM (show a≠A from fun w'=>na4 n (w' ▸ z1))];exact w⟩
     ·exact((ra.ex nx.ex).snoc ry).mono keep
     ·intro j dj ej
      obtain⟨w,a,r⟩:=(re2.ex (nw3.trans nw4).ex) j dj ej
      exact⟨w,a,r.mono keep⟩
    ·have nx:=nw2.trans nw3
     obtain⟨np4,na4,hv4⟩:=apart nx
     exact Mc ⟨ds.length-(i+1),by omega,ok3,ω2,ρ1,vs,acc,rest,rfl,hlt,nw.trans nx,np4,na4,hv4,ra.ex nx.ex,re2.ex nw3.ex,rl2,b6,ea,by omega⟩
   ·have ei:i=ds.length:=by omega
    subst ei
    rw[List.drop_length] at ec
    obtain⟨hc,ec⟩:=bU (show(if chk ωc=true then some ([],ωc) else none)=_ from ec)
    cases ec
    rw[List.append_nil] at ea
    subst ea
    refine .inl ⟨it.stop _ ok' H' _ nw hc (Nat.le_refl _),?_⟩
    obtain⟨ok2,nw2,rr⟩:=Fn cls K ok1 ok' H1 H' _ ω' A vs acc d nw hA hv np na ra e5
    exact q _ ok2 H' (n1.trans nw2) rr
def OB (X:Cx) (cls:Nat->Addr) (E:XE) (ifs:List Expr) (t:OG Bool):Prop:=Mg X ifs (tOT cls X.K t E)
theorem cM:OB X cls E [] (oPT nN):=fun pins s σ H Q I ⟨ok,ρ,ω,r,ω',P,e,q⟩=>by
 cases e
 exact Lo pins s σ H Q I (q ok H (.refl P.okh P.st))
theorem sX {c:Expr} (h:OT X cls E c t):OB X cls E [c] t:=Ln h
theorem dN (Fn:Fin fin) (C:Hs X scope N' caps) (hi:OI X cls E tg iter fi)
  (hb:∀ cells C fp pins s₀ H₀,PG (blk X N' scope cells C fp pins s₀ H₀) tg (gR X.K bd)/\OB (blk X N' scope cells C fp pins s₀ H₀) cls EF ifs t/\OE (blk X N' scope cells C fp pins s₀ H₀) cls EF elt f)
  (hs:∀ x,foldedSetIterable iter X.env x=pure x:=by intro _;rfl):OE X cls E (.ListComp elt [⟨tg,iter,ifs,0⟩] scope pos) (eC fin fi caps bd t f):=
 (KB C.calm C.kind C.names C.free C.uniq C.cap hi hb hs).imp fun _ _ _ h=>tO.comp Fn h
theorem Cj (Fn:Fin fin) {y:Str}{py spos:Pos}{i:Nat} (hN:X.N.Nodup) (hiy:X.N[i]?=some y) (hy:X.env.scope.names.lookup y=some .local) (C:Hs X scope N' caps) (hi:OI X cls E tg iter fi)
  (hb:∀ cells C fp pins s₀ H₀,PG (blk X N' scope cells C fp pins s₀ H₀) tg (gR X.K bd)/\OB (blk X N' scope cells C fp pins s₀ H₀) cls EF ifs t/\OE (blk X N' scope cells C fp pins s₀ H₀) cls EF elt f)
  (hsw:swapsWith (.ListComp elt [⟨tg,iter,ifs,0⟩] scope pos) (some (.Name y py)) spos.line X.env=pure true:=by rfl)
  (hs:∀ x,foldedSetIterable iter X.env x=pure x:=by intro _;rfl):OSt X cls E (.Assign [.Name y py] (.ListComp elt [⟨tg,iter,ifs,0⟩] scope pos) spos) (bG i (eC fin fi caps bd t f)):=
 (Kt hN hiy hy C.calm C.kind C.names C.free C.uniq C.cap hi hb hsw hs).imp fun D σ H ⟨ok,ρ,ω,o,ω',P,e,q⟩=>by
  refine tO.comp (fi:=fi) (caps:=caps) (bd:=bd) (t:=t) (f:=f) (E:=E) Fn ?_
  refine tO.thenS P e q fun d ω1 v ok1 H1 e1 n1 P1 r1 q1=> ?_
  cases e1
  exact q1 ok1 H1 _ (.refl P1.okh P1.st) (P1.env.set P1.len r1 i) (by rw[List.length_set,List.length_set];exact P1.len)
end
end L2.MB
end
section
namespace L2.MB
open PySem PySem.Spec PyProof.Rows
structure FlyT (exC:Nat->Addr) (c:Nat) (ea:Addr) (T:Addr) (h0:Heap) (H:Hp) (h:Heap):Prop where
 tr:∃(oe oT:Obj) (vs ts:Array Value) (a0:Value),h.get? ea=some oe/\oe.cls=.ref (exC c)/\oe.data=.fields vs/\vs[0]?=some a0/\vs[1]?=some (.ref T)/\T≠ea/\h.get? T=some oT/\oT.data=.fields ts/\ts[3]?=some .none
 h0e:h0.get? ea=none
 h0T:h0.get? T=none
 He:H ea=none
 HT:H T=none
structure Raw (exC:Nat->Addr) (c:Nat) (ea:Addr) (h0:Heap) (H:Hp) (h:Heap):Prop where
 at_:∃ t,h.get? ea=some { cls:=.ref (exC c),data:=.fields #[.ref t,.none,.none,.none,.bool false,.none] }
 h0e:h0.get? ea=none
 He:H ea=none
def CX1 (P:Program) (w:World) (exC:Nat->Addr):CXT:=fun outer H s E e s'=>∃ c ea T H',e=.ref ea/\s'.os=s.os/\AllBare s'.gens/\Un (frs outer) [] H H' s.heap s'.heap/\HOk P w H' s'.heap/\FlyT exC c ea T s.heap H' s'.heap/\E (.ref (exC c)) none H'
def exK (exC:Nat->Addr) (E:XE):XK:=fun cv _ H'=>∃ c,cv=.ref (exC c)/\E c H'
structure Exc (X:Cx) (exC:Nat->Addr) (E:XE):Prop where
 fly:∀ c ea T H' pins σ' s',Inv X pins σ' H' s'->FlyT exC c ea T X.s₀.heap H' s'.heap->(∀ p∈X.pn,p.1≠ea/\p.1≠T)->E c H'->X.xe (.ref ea) s'
 ex:X.ex=[]
structure OC (X:Cx) (exC:Nat->Addr) (E:XE):Prop where
 raw:∀ c ea H' pins σ' s',Inv X pins σ' H' s'->Raw exC c ea X.s₀.heap H' s'.heap->E c H'->X.xe (.ref ea) s'
 ex:X.ex=[]
abbrev Pas (X:Cx) (exC:Nat->Addr) (E:XE):Prop:=vJ (CX1 X.prog X.w exC) X (exK exC E)
theorem iL {X:Cx}{exC:Nat->Addr}:Pas X exC EF:=fun _ _ _ _ _ _ _ ⟨_,_,_,_,_,_,_,_,_,_,_,_,z⟩=>z.elim
theorem _root_.L2.Inv.pers {X:Cx}{pins:List (Addr×Obj)}{σ:St}{H:Hp}{s:Shared} (I:Inv X pins σ H s) (hx:X.ex=[]) {b:Addr} (e:s.heap.get? b=none):X.s₀.heap.get? b=none:=by
 cases q:X.s₀.heap.get? b with
 |none=>rfl
 |some o=>
  obtain⟨o',z⟩:=I.base.there b o q (by rw[hx];simp)
  rw[e] at z
  cases z
theorem Exc.pas {X:Cx}{exC:Nat->Addr}{E:XE} (h:Exc X exC E):Pas X exC E:=fun pins σ H s e s' I ⟨c,ea,T,H',e1,os,bare,un,hok,fl,c',hc,hE⟩=>by
 subst e1
 have I':Inv X pins σ H' s':=I.call' (ch:=[]) os un hok bare (fun b z=>absurd z (by simp))
 obtain⟨oe,oT,vs,ts,a0,g1,g2,g3⟩:=fl.tr
 refine h.fly c' ea T H' pins σ s' I' ⟨⟨oe,oT,vs,ts,a0,g1,by rw[g2,hc],g3⟩,I.pers h.ex fl.h0e,I.pers h.ex fl.h0T,fl.He,fl.HT⟩ (fun p hp=> ?_) hE
 obtain⟨w,_⟩:=I.pin p (List.mem_append_left _ hp)
 exact⟨fun z=>(by rw[z,fl.h0e] at w;cases w),fun z=>(by rw[z,fl.h0T] at w;cases w)⟩
abbrev eM:=List D->Om->Option (Rz D×Om)
def spO (cls exC:Nat->Addr) (K:PySem.W.Frag) (φ:eM):Sp:=fun vs H Q E=>∃(ok:Okk) (ω:Om) (ds:List D) (r:Rz D) (ω':Om),OkH ok H/\Stt cls K ok H ω/\Reps K ok H vs ds/\φ ds ω=some (r,ω')/\match r with
 |.ok d=>∀ v ok' H',Nw cls K ok H ok' H' ω'->Rep K ok' H' v d->Q v H'
 |.ex c=>∀ ok' H',Nw cls K ok H ok' H' ω'->E (.ref (exC c)) none H'
section
variable {X:Cx}{cls exC:Nat->Addr}{E:XE}{e a b c o i value:Expr}{es:List Expr}{fa fb fo fi fv:OG D}{fl:OG (List D)}{pos p apos pos':Pos}{x m:Str}{cn k:Nat}{fn C:Addr}{fd:FuncData}{ps:List Str}{φ:eM}
theorem spO.at {ok:Okk}{H:Hp}{K:PySem.W.Frag}{ω ω':Om}{vs:List V}{ds:List D}{r:Rz D}{Q:VK} (h1:OkH ok H) (st:Stt cls K ok H ω) (rs:Reps K ok H vs ds) (e:φ ds ω=some (r,ω'))
  (hq:∀ d,r=.ok d->∀ v ok' H',Nw cls K ok H ok' H' ω'->Rep K ok' H' v d->Q v H') (hx:∀ c,r=.ex c->exR cls K ok H ω' E c):spO cls exC K φ vs H Q (exK exC E):=by
 refine⟨ok,ω,ds,r,ω',h1,st,rs,e,?_⟩
 cases r with
 |ok d=>exact hq d rfl
 |ex c=>exact fun ok' H' n=>⟨c,rfl,hx c rfl ok' H' n⟩
def bS (φ:eM) (fl:OG (List D)):OG D:=oB fl fun ds _ ω=>φ ds ω
theorem Cd {K:PySem.W.Frag}{ok ok1:Okk}{H H1:Hp}{ω1 ω':Om}{r:Rz D}{Q:VK} (n1:Nw cls K ok H ok1 H1 ω1) (q:match r with
  |.ok d=>∀ v ok' H',Nw cls K ok H ok' H' ω'->Rep K ok' H' v d->Q v H'
  |.ex c=>exR cls K ok H ω' E c):∀ d,r=.ok d->∀ v ok' H',Nw cls K ok1 H1 ok' H' ω'->Rep K ok' H' v d->Q v H':=fun d z v ok' H' n r=>by
 subst z
 exact q v ok' H' (n1.trans n) r
theorem Ce {K:PySem.W.Frag}{ok ok1:Okk}{H H1:Hp}{ω1 ω':Om}{r:Rz D}{Q:VK} (n1:Nw cls K ok H ok1 H1 ω1) (q:match r with
  |.ok d=>∀ v ok' H',Nw cls K ok H ok' H' ω'->Rep K ok' H' v d->Q v H'
  |.ex c=>exR cls K ok H ω' E c):∀ c,r=.ex c->exR cls K ok1 H1 ω' E c:=fun c z=>by
 subst z
 exact exR.nw q n1
theorem KY (F:wQ X.prog X.w X.K X.mg X.base (CX1 X.prog X.w exC) k fn fd ps (spO cls exC X.K φ)) (hr:Room k X.A) (hg:Gl X x) (hm:X.mg x=some (.ref fn)) (hk:PySem.W.keepIn X.K (.ref fn)=true)
  (hb:Binds X.K fd ps []) (hx:Pas X exC E) (ha:OA X cls E (e::es) fl) (hdb:(x==("__debug__":Str))=false:=by decide) (he:starEach (e::es) X.env=(false,eval e X.env)::starEach es X.env:=by rfl) (hpl:(backTo pos (starEach es X.env)).any (·.1)=false:=by rfl):
  OE X cls E (.Call (.Name x p) (e::es) [] pos) (bS φ fl):=
 (KD F hr hg hm hk hb .nil hx ha hdb he hpl).imp fun σ H Q ⟨ok,ρ,ω,r,ω',P,e,q⟩=>by
  refine tOA.then_ P e (fun c z=>by subst z;exact q) fun ds ω1 vs ok1 H1 e1 n1 P1 r1=> ?_
  rw[List.append_nil]
  exact spO.at P1.okh P1.st r1 e1 (Cd n1 q) (Ce (Q:=Q) n1 q)
def EE (c:Nat) (m:Str) (ω:Om) (d:D):Bool:=match cellOf ω d with
 |some (.ins c' fs)=>c'==c&&(fs.lookup m).isNone
 |_=>false
theorem AW {c:Nat}{m:Str}{ω:Om}{d:D} (h:EE c m ω d=true):∃ n fs,d=.obj n/\ω[n]?=some (.ins c fs)/\fs.lookup m=none:=by
 unfold EE at h
 split at h
 ·rename_i c' fs hc
  obtain⟨n,rfl,e⟩:=eL hc
  simp only[Bool.and_eq_true,beq_iff_eq,Option.isNone_iff_eq_none] at h
  obtain⟨rfl,h⟩:=h
  exact⟨n,fs,rfl,e,h⟩
 ·cases h
def bL (c:Nat) (m:Str) (φ:eM) (fo:OG D) (fl:OG (List D)):OG D:=oB fo fun d ρ ω=>if EE c m ω d=true then oB fl (fun ds _ ω=>φ (d::ds) ω) ρ ω else none
theorem KS {pl:Sem Bool} (ho:OE X cls E o fo) (hc:Cls X.K (cls cn)) (hm:sC X.K (cls cn) m fn) (F:wQ X.prog X.w X.K X.mg X.base (CX1 X.prog X.w exC) k fn fd ps (spO cls exC X.K φ)) (hr:Room k X.A) (hb:Binds X.K fd ps []) (hx:Pas X exC E) (ha:OA X cls E (e::es) fl)
  (hst:starEach (e::es) X.env=(false,eval e X.env)::starEach es X.env:=by rfl) (hpl:(backTo pos (starEach es X.env)).any (·.1)=false:=by rfl)
  (ht:eval (.Call (.Attribute o m apos) (e::es) [] pos) X.env=(do
   let ov <- eval o X.env
   standAt apos.atName
   let (f,first) <- holding [ov] (getMethod ov m pl)
   callWith pos f first (backTo pos (starEach (e::es) X.env)) (backToKw pos (keywordEach [] X.env))):=by rfl):
  OE X cls E (.Call (.Attribute o m apos) (e::es) [] pos) (bL cn m φ fo fl):=
 (Ky (pl:=pl) ho hc hm F hr hb .nil hx ha hst hpl ht).imp fun σ H Q ⟨ok,ρ,ω,r,ω',P,e,q⟩=>by
  refine tO.then_ P e (fun c z=>by subst z;exact q) fun d ω1 v ok1 H1 e1 n1 P1 r1=> ?_
  obtain⟨hi,e1⟩:=eB e1
  obtain⟨n,fs,rfl,e2,e3⟩:=AW hi
  obtain⟨a,rfl,e4,dx,vs,e5,kv⟩:=P1.st.ref r1 e2
  refine⟨a,dx,vs,rfl,e5,kv.look_none e3,?_⟩
  refine tOA.then_ P1 e1 (fun c z=>by subst z;exact exR.nw q n1) fun ds ω2 us ok2 H2 e6 n2 P2 r2=> ?_
  rw[List.append_nil]
  exact spO.at P2.okh P2.st (.cons (r1.ex n2.ex) r2) e6 (Cd (n1.trans n2) q) (Ce (Q:=Q) (n1.trans n2) q)
theorem Ib {pl:Sem Bool} (ho:OE X cls E o fo) (hc:Cls X.K (cls cn)) (hm:sC X.K (cls cn) m fn) (F:wQ X.prog X.w X.K X.mg X.base (CX1 X.prog X.w exC) k fn fd ps (spO cls exC X.K φ)) (hr:Room k X.A) (hb:Binds X.K fd ps []) (hx:Pas X exC E)
  (ht:eval (.Call (.Attribute o m apos) [] [] pos) X.env=(do
   let ov <- eval o X.env
   standAt apos.atName
   let (f,first) <- holding [ov] (getMethod ov m pl)
   callWith pos f first (backTo pos (starEach [] X.env)) (backToKw pos (keywordEach [] X.env))):=by rfl):
  OE X cls E (.Call (.Attribute o m apos) [] [] pos) (bL cn m φ fo aU):=
 (HV (pl:=pl) ho hc hm F hr hb .nil hx ht).imp fun σ H Q ⟨ok,ρ,ω,r,ω',P,e,q⟩=>by
  refine tO.then_ P e (fun c z=>by subst z;exact q) fun d ω1 v ok1 H1 e1 n1 P1 r1=> ?_
  obtain⟨hi,e1⟩:=eB e1
  obtain⟨n,fs,rfl,e2,e3⟩:=AW hi
  obtain⟨a,rfl,e4,dx,vs,e5,kv⟩:=P1.st.ref r1 e2
  refine⟨a,dx,vs,rfl,e5,kv.look_none e3,?_⟩
  have e6:φ [.obj n] ω1=some (r,ω'):=e1
  exact spO.at P1.okh P1.st (.cons r1 .nil) e6 (Cd n1 q) (Ce (Q:=Q) n1 q)
def wF (c:Nat) (φ:eM) (fl:OG (List D)):OG D:=oB fl fun ds _ ω=>match φ (.obj ω.length::ds) (ω++[.ins c []]) with
 |some (.ok .non,ω')=>some (.ok (.obj ω.length),ω')
 |some (.ex c,ω')=>some (.ex c,ω')
 |_=>none
theorem KU (M:Mk X.K (cls cn) fn) (F:wQ X.prog X.w X.K X.mg X.base (CX1 X.prog X.w exC) k fn fd ps (spO cls exC X.K φ)) (hr:Room (k+1) X.A) (hg:Gl X x) (hm:X.mg x=some (.ref (cls cn))) (hb:Binds X.K fd ps []) (hx:Pas X exC E)
  (ha:OA X cls E (e::es) fl) (hdb:(x==("__debug__":Str))=false:=by decide) (he:starEach (e::es) X.env=(false,eval e X.env)::starEach es X.env:=by rfl) (hpl:(backTo pos (starEach es X.env)).any (·.1)=false:=by rfl):
  OE X cls E (.Call (.Name x p) (e::es) [] pos) (wF cn φ fl):=
 (Kz M F hr hg hm hb .nil hx ha hdb he hpl).imp fun σ H Q ⟨ok,ρ,ω,r,ω',P,e,q⟩=>by
  refine tOA.then_ P e (fun c z=>by subst z;exact q) fun ds ω1 vs ok1 H1 e1 n1 P1 r1=> ?_
  intro a dx na ndx hne
  rw[List.append_nil]
  have n2:Nw cls X.K ok1 H1 ok1 (upd H1 dx (.own a)) ω1:=.same P1.okh P1.st (dE ndx)
  have n3:Nw cls X.K ok1 (upd H1 dx (.own a)) (okN ok1 ω1.length a) (upd (upd H1 dx (.own a)) a (.ins (cls cn) dx [])) (ω1++[.ins cn []]):=
   Nw.make n2.okh n2.st (by rw[aM (Ne.symm hne)];exact na) ⟨dx,[],aS,.nil⟩
  have n4:=n1.trans (n2.trans n3)
  have rs:Reps X.K (okN ok1 ω1.length a) (upd (upd H1 dx (.own a)) a (.ins (cls cn) dx [])) (.ref a::vs) (.obj ω1.length::ds):=.cons .new_obj ((r1.ex n2.ex).ex n3.ex)
  cases eφ:φ (.obj ω1.length::ds) (ω1++[.ins cn []]) with
  |none=>rw[eφ] at e1;cases e1
  |some pr=>
   obtain⟨rz,ω2⟩:=pr
   rw[eφ] at e1
   refine⟨_,_,_,rz,ω2,n3.okh,n3.st,rs,eφ,?_⟩
   cases rz with
   |ex c=>
    cases e1
    exact fun ok' H' n=>⟨c,rfl,q ok' H' (n4.trans n)⟩
   |ok d=>
    cases d with
    |non=>
     cases e1
     refine fun v ok' H' n rv=>⟨rv.non_inv,q _ ok' H' (n4.trans n) (.obj (n.ex.ids _ _ ?_))⟩
     show(if ω1.length=ω1.length then some a else _)=_
     rw[if_pos rfl]
    |_=>cases e1
end
end L2.MB
end
section
namespace L2.MB
open PySem PySem.Spec PyProof.Rows
theorem _root_.L2.HOk.obj {P:Program}{w:World}{H:Hp}{h:Heap}{a:Addr}{o:HO} (x:HOk P w H h) (e:H a=some o):∃ u,h.get? a=some u:=by
 have z:=x a o e
 cases o with
 |lst xs=>obtain⟨_,_,_,_,e⟩:=z;exact⟨_,e⟩
 |tup xs=>obtain⟨_,_,_,o,e,_⟩:=z;exact⟨_,e⟩
 |dK kvs=>obtain⟨_,_,_,_,o,_,_,e,_⟩:=z;exact⟨_,e⟩
 |dT kvs=>obtain⟨_,_,_,_,o,_,_,e,_⟩:=z;exact⟨_,e⟩
 |set S n=>obtain⟨o,_,_,_,e,_⟩:=z;exact⟨_,e⟩
 |ins C dx fs=>obtain⟨_,_,_,e,_⟩:=z;exact⟨_,e⟩
 |own y=>exact z
 |xd fs=>obtain⟨_,⟨_,_,_,e,_⟩,_⟩:=z;exact⟨_,e⟩
 |rng lo hi=>obtain⟨_,_,_,e⟩:=z;exact⟨_,e⟩
 |frz ob u=>obtain⟨e,_⟩:=z;exact⟨_,e⟩
 |tbl ps=>exact⟨_,show h.get? a=some _ from z⟩
 |met f y=>exact⟨_,show h.get? a=some _ from z⟩
 |ext φ=>exact z.2.1
structure Pass (fs:List Addr) (ea T:Addr) (h h':Heap):Prop where
 keep:∀ b o,h.get? b=some o->b∉fs->b≠ea->b≠T->h'.get? b=some o
 slot:∀ b o,h.get? b=some o->b∈fs->∃ sl,h'.get? b=some { o with slots:=sl }
theorem zI {h base base':Heap}:∀ {l:List Env},h.FunFrames base l->(∀ b∈frs l,base'.get? b=none)->h.FunFrames base' l
 |[],_,_=>trivial
 |env::r,⟨hk,⟨L,o,hf,hn,ho,hd⟩,hr⟩,n=>by
  refine⟨hk,⟨L,o,hf,n L ?_,ho,hd⟩,zI hr fun b hb=>n b ?_⟩
  ·unfold frs
   rw[List.filterMap_cons,hf]
   exact List.mem_cons_self
  ·unfold frs at hb ⊢
   rw[List.filterMap_cons,hf]
   exact List.mem_cons_of_mem _ hb
section
variable {M:Model}{A:Around}{E:Value->Shared->Prop}{s:Shared}{env:Env}{outer:List Env}{base h0:Heap}{H:Hp}{exC:Nat->Addr}{c:Nat}{ea T L:Addr}{Q:Unit->Shared->Prop}{P:Program}{w:World}
theorem CB {h' base':Heap}{cls a0:Value}{l:List Env} (hok:HOk P w H s.heap) (h0p:∀ b,s.heap.get? b=none->h0.get? b=none) (hb:∀ b,base'.get? b=none->b=ea∨b=T∨b∈frs l∨s.heap.get? b=none)
  (hl:h'.FunFrames base' l) (tr:h'.TracedW base' ea cls a0) (hc:cls=.ref (exC c)) (n1:h0.get? ea=none) (n2:H ea=none) (n3:h0.get? T=none) (n4:H T=none):∃ T',FlyT exC c ea T' h0 H h'/\(T'=T∨s.heap.get? T'=none):=by
 obtain⟨oe,vs,T',oT,ts,e1,⟨e2,e3⟩,e4,e5,e6,e7,e8,e9,e10⟩:=tr
 have hT:T'=T∨s.heap.get? T'=none:=by
  rcases hb T' e6 with z|z|z|z
  ·exact absurd z e7
  ·exact .inl z
  ·obtain⟨_,o,q1,q2⟩:=hl.mem z
   rw[e8] at q1
   cases q1
   exact absurd e9 (q2 ts)
  ·exact .inr z
 refine⟨T',⟨⟨oe,oT,vs,ts,a0,e1,by rw[e2,hc],e4,e3,e5,e7,e8,e9,e10⟩,n1,?_,n2,?_⟩,hT⟩
 ·rcases hT with rfl|z
  ·exact n3
  ·exact h0p _ z
 ·rcases hT with rfl|z
  ·exact n4
  ·cases q:H T' with
   |none=>rfl
   |some o=>
    obtain⟨u,w⟩:=hok.obj q
    rw[z] at w
    cases w
theorem Cv {h:Heap}{l:List Addr}{b:Addr} (e:(PySem.W.hideAll h l).get? b=none):b∈l∨h.get? b=none:=by
 by_cases hb:b∈l
 ·exact .inl hb
 ·right
  cases q:h.get? b with
  |none=>rfl
  |some o=>
   rw[PySem.W.hideAll_get l q hb] at e
   cases e
theorem Gm (hfr:A.frames=some (env::outer)) (hf:env.frame=some L) (funs:s.heap.FunFrames base (env::outer)) (hok:HOk P w H s.heap) (h0p:∀ b,s.heap.get? b=none->h0.get? b=none) (fl:FlyT exC c ea T h0 H s.heap)
  (hQ:∀ h' T',Pass (frs (env::outer)) ea T s.heap h'->FlyT exC c ea T' h0 H h'->(T'=T∨s.heap.get? T'=none)->Q () { s with heap:=h' }):wpAny M A (leaving env (.ref ea)) Q E s:=by
 obtain⟨oe,oT,vs,ts,a0,e1,e2,e3,e4,e5,e6,e7,e8,e9⟩:=fl.tr
 have nF:∀ b∈frs (env::outer),(PySem.W.hideAll s.heap (ea::T::frs (env::outer))).get? b=none:=fun b hb=>PySem.W.hideAll_none _ (List.mem_cons_of_mem _ (List.mem_cons_of_mem _ hb))
 have hb0:∀ b,(PySem.W.hideAll s.heap (ea::T::frs (env::outer))).get? b=none->b=ea∨b=T∨b∈frs (env::outer)∨s.heap.get? b=none:=fun b z=>by
  rcases Cv z with z|z
  ·rcases List.mem_cons.mp z with z|z
   ·exact .inl z
   ·rcases List.mem_cons.mp z with z|z
    ·exact .inr (.inl z)
    ·exact .inr (.inr (.inl z))
  ·exact .inr (.inr (.inr z))
 refine wpAny_leaving_nextW (base:=PySem.W.hideAll s.heap (ea::T::frs (env::outer))) (cls:=.ref (exC c)) (a0:=a0) hfr (zI funs nF) hf ?_ (fun b o z=>PySem.W.of_hideAll _ z) (PySem.W.hideAll_none _ List.mem_cons_self) fun h' hL=> ?_
 ·exact⟨oe,vs,T,oT,ts,e1,⟨e2,e4⟩,e3,e5,PySem.W.hideAll_none _ (List.mem_cons_of_mem _ List.mem_cons_self),e6,e7,e8,e9⟩
 ·obtain⟨k1,k2,k3,k4⟩:=hL
  obtain⟨T',f1,f2⟩:=CB (T:=T) hok h0p hb0 k2 k3 rfl fl.h0e fl.He fl.h0T fl.HT
  refine hQ h' T' ⟨fun b o z n1 n2 n3=>k1 b o (PySem.W.hideAll_get _ z ?_),fun b o z hb=> ?_⟩ f1 f2
  ·intro hm
   rcases List.mem_cons.mp hm with hm|hm
   ·exact n2 hm
   ·rcases List.mem_cons.mp hm with hm|hm
    ·exact n3 hm
    ·exact n1 hm
  ·obtain⟨_,o',q1,q2⟩:=funs.mem hb
   rw[z] at q1
   cases q1
   exact k4 b o z q2
theorem Gk (hfr:A.frames=some (env::outer)) (hf:env.frame=some L) (funs:s.heap.FunFrames base (env::outer)) (hok:HOk P w H s.heap) (h0p:∀ b,s.heap.get? b=none->h0.get? b=none) (fl:Raw exC c ea h0 H s.heap)
  (hQ:∀ h' T',Pass (frs (env::outer)) ea ea s.heap h'->FlyT exC c ea T' h0 H h'->s.heap.get? T'=none->Q () { s with heap:=h' }):wpAny M A (leaving env (.ref ea)) Q E s:=by
 obtain⟨t,e1⟩:=fl.at_
 have nF:∀ b∈frs (env::outer),(PySem.W.hideAll s.heap (ea::frs (env::outer))).get? b=none:=fun b hb=>PySem.W.hideAll_none _ (List.mem_cons_of_mem _ hb)
 have hb0:∀ b,(PySem.W.hideAll s.heap (ea::frs (env::outer))).get? b=none->b=ea∨b=ea∨b∈frs (env::outer)∨s.heap.get? b=none:=fun b z=>by
  rcases Cv z with z|z
  ·rcases List.mem_cons.mp z with z|z
   ·exact .inl z
   ·exact .inr (.inr (.inl z))
  ·exact .inr (.inr (.inr z))
 refine wpAny_leaving_firstW (base:=PySem.W.hideAll s.heap (ea::frs (env::outer))) (a0:=.ref t) hfr (zI funs nF) hf e1 (fun b o z=>PySem.W.of_hideAll _ z) (PySem.W.hideAll_none _ List.mem_cons_self) rfl rfl rfl fun h' hL=> ?_
 obtain⟨k1,k2,k3,k4⟩:=hL
 obtain⟨T',f1,f2⟩:=CB (T:=ea) (c:=c) (exC:=exC) hok h0p hb0 k2 k3 rfl fl.h0e fl.He fl.h0e fl.He
 have hTe:T'≠ea:=by obtain⟨_,_,_,_,_,_,_,_,_,_,z,_⟩:=f1.tr;exact z
 refine hQ h' T' ⟨fun b o z n1 n2 n3=>k1 b o (PySem.W.hideAll_get _ z ?_),fun b o z hb=> ?_⟩ f1 (f2.resolve_left hTe)
 ·intro hm
  rcases List.mem_cons.mp hm with hm|hm
  ·exact n2 hm
  ·exact n1 hm
 ·obtain⟨_,o',q1,q2⟩:=funs.mem hb
  rw[z] at q1
  cases q1
  exact k4 b o z q2
end
theorem exc_def {P:Program}{w:World}{K:PySem.W.Frag}{mg:Str->Option Value}{base:Heap}{N:List Str}{qual:Str}{scope:Scope}{f:Addr}{cd:Value}{A:Around}{outer:List Env}{s:Shared}{H:Hp}{E:XK}{exC:Nat->Addr}:
  Exc (CM (CX1 P w exC) P w K mg base N qual scope f cd A outer s H E) exC (fun c H'=>E (.ref (exC c)) none H')/\OC (CM (CX1 P w exC) P w K mg base N qual scope f cd A outer s H E) exC (fun c H'=>E (.ref (exC c)) none H'):=by
 have main:∀ {pins:List (Addr×Obj)}{σ':St}{H':Hp}{s':Shared}{c:Nat}{ea T T':Addr}{h'':Heap},Inv (CM (CX1 P w exC) P w K mg base N qual scope f cd A outer s H E) pins σ' H' s'->
   s.heap.get? ea=none->s.heap.get? T=none->H' ea=none->H' T=none->Pass (frs (envOfC qual scope s.heap.objs.size f cd::outer)) ea T s'.heap h''->FlyT exC c ea T' s.heap H' h''->E (.ref (exC c)) none H'->
   CX1 P w exC outer H s E (.ref ea) { s' with heap:=h'' }:=fun {pins σ' H' s' c ea T T' h''} I n1 n2 n3 n4 ps fl hE=>by
  have nofr:∀ b u,H' b=some u->b∉frs (envOfC qual scope s.heap.objs.size f cd::outer):=fun b u e z=>by
   have:=I.stkFree b z
   rw[e] at this
   cases this
  have kb:∀ b u v,H' b=some u->s'.heap.get? b=some v->h''.get? b=some v:=fun b u v e z=>ps.keep b v z (nofr b u e) (fun q=>by rw[q,n3] at e;cases e) fun q=>by rw[q,n4] at e;cases e
  have old:∀ {b:Addr}{o:Obj},s.heap.get? b=some o->b≠ea/\b≠T:=fun {b o} z=>⟨fun q=>(by rw[q,n1] at z;cases z),fun q=>(by rw[q,n2] at z;cases z)⟩
  have fr1:∀ b,b∈frs (envOfC qual scope s.heap.objs.size f cd::outer)->b=s.heap.objs.size∨b∈frs outer:=fun b hb=>by
   have hb':b∈s.heap.objs.size::frs outer:=hb
   exact List.mem_cons.mp hb'
  have nx:∀ b:Addr,b∉(CM (CX1 P w exC) P w K mg base N qual scope f cd A outer s H E).ex:=fun b z=>absurd (show b∈([]:List Addr) from z) (by simp)
  refine⟨c,ea,T',H',rfl,I.os,I.bare,⟨fun b o e n hb _=> ?_,fun b o e n hb _=> ?_,fun b o e n _=>I.base.free b o e n (nx b),fun b o e _=> ?_,I.base.tups,I.base.frzs,I.base.tbls⟩,fun b u e=> ?_,fl,hE⟩
  ·have z:=I.base.keep b o e n hb (nx b)
   refine ps.keep b o z (fun hm=> ?_) (old e).1 (old e).2
   rcases fr1 b hm with q|q
   ·exact absurd (Heap.lt_size e) (by rw[q];exact Nat.lt_irrefl _)
   ·exact hb q
  ·obtain⟨sl,z⟩:=I.base.slot b o e n hb (nx b)
   obtain⟨sl2,z2⟩:=ps.slot b _ z (show b∈s.heap.objs.size::frs outer from List.mem_cons_of_mem _ hb)
   exact⟨sl2,z2⟩
  ·obtain⟨o',z⟩:=I.base.there b o e (nx b)
   by_cases hm:b∈frs (envOfC qual scope s.heap.objs.size f cd::outer)
   ·obtain⟨sl2,z2⟩:=ps.slot b _ z hm
    exact⟨_,z2⟩
   ·exact⟨_,ps.keep b o' z hm (old e).1 (old e).2⟩
  ·refine(I.hok b u e).stay (fun c v hc q=> ?_) (fun _ q=>q) fun _ _ q=>q
   rcases hc with rfl|hc
   ·exact kb c u v e q
   ·exact kb c _ v hc q
 refine⟨⟨fun c ea T H' pins σ' s' I fl _ hE=> ?_,rfl⟩,⟨fun c ea H' pins σ' s' I fl hE=> ?_,rfl⟩⟩
 ·exact Gm (L:=s.heap.objs.size) I.ok.frames rfl I.stack I.hok (fun b z=>I.pers rfl z) fl fun h'' T' ps fl' _=>main I fl.h0e fl.h0T fl.He fl.HT ps fl' hE
 ·exact Gk (L:=s.heap.objs.size) I.ok.frames rfl I.stack I.hok (fun b z=>I.pers rfl z) fl fun h'' T' ps fl' _=>main I fl.h0e fl.h0e fl.He fl.He ps fl' hE
def cP (N:List Str) (ds:List D):Rho:=ds.map some++List.replicate (N.length-ds.length) none
theorem Ek {K:PySem.W.Frag}{ok:Okk}{H:Hp}{N:List Str}{vs:List V}{ds:List D} (r:Reps K ok H vs ds):EnvR K ok H (start N vs) (cP N ds)/\(start N vs).length=(cP N ds).length:=by
 refine⟨fun i d e=> ?_,?_⟩
 ·unfold cP at e
  by_cases hi:i<ds.length
  ·rw[List.getElem?_append_left (by simpa using hi),List.getElem?_map] at e
   obtain⟨d',e1,e2⟩:=aN e
   cases e2
   obtain⟨v,e3,r'⟩:=r.get e1
   have hv:i<vs.length:=(List.getElem?_eq_some_iff.mp e3).1
   refine⟨v,?_,r'⟩
   unfold start
   rw[List.getElem?_append_left (by simpa using hv),List.getElem?_map,e3]
   rfl
  ·rw[List.getElem?_append_right (by simpa using hi),List.getElem?_replicate] at e
   split at e <;> cases e
 ·unfold start cP
  rw[List.length_append,List.length_append,List.length_map,List.length_map,List.length_replicate,List.length_replicate,r.length]
def fV (n:Nat) (N:List Str) (G:OS):eM:=fun ds ω=>if ds.length=n then(match G (cP N ds) ω with
 |some (.rt d,ω')=>some (.ok d,ω')
 |some (.nx _,ω')=>some (.ok .non,ω')
 |some (.ex c,ω')=>some (.ex c,ω')
 |_=>none) else none
theorem QQ {P:Program}{w:World}{K:PySem.W.Frag}{mg:Str->Option Value}{base:Heap}{cls exC:Nat->Addr}{x qual:Str}{st:Stmt}{f:Addr}{fd:FuncData}{N ps:List Str}{k:Nat}{G:OS} (F:Fun K x qual st f fd) (S:aW N ps (aK st))
  (hbody:∀(cdv:Value) (A:Around) (outer:List Env) (s:Shared) (H:Hp) (E:XK),Room k (A.deeper (envOfC qual (aK st) s.heap.objs.size f cdv))->Exc (CM (CX1 P w exC) P w K mg base N qual (aK st) f cdv A outer s H E) exC (fun c H'=>E (.ref (exC c)) none H')->OC (CM (CX1 P w exC) P w K mg base N qual (aK st) f cdv A outer s H E) exC (fun c H'=>E (.ref (exC c)) none H')->
   OSs (CM (CX1 P w exC) P w K mg base N qual (aK st) f cdv A outer s H E) cls (fun c H'=>E (.ref (exC c)) none H') (iW st) G):wQ P w K mg base (CX1 P w exC) (k+1) f fd ps (spO cls exC K (fV ps.length N G)):=by
 obtain⟨oc,od,kV,doc,pm,an,cdv,ct,osl,rfl,lk,hcd⟩:=F.ex
 have len:∀ vs H Q E,spO cls exC K (fV ps.length N G) vs H Q E->vs.length=ps.length:=fun vs H Q E ⟨ok,ω,ds,r,ω',h1,h2,h3,h4,h5⟩=>by
  rw[h3.length]
  exact(eB (show(if ds.length=ps.length then _ else none)=_ from h4)).1
 refine Pz lk hcd S len fun A outer s H vs Q E hr hsp=> ?_
 obtain⟨ok,ω,ds,r,ω',h1,h2,h3,h4,h5⟩:=hsp
 refine⟨_,hbody cdv A outer s H E hr exc_def.1 exc_def.2,?_⟩
 obtain⟨_,h4⟩:=eB (show(if ds.length=ps.length then _ else none)=_ from h4)
 obtain⟨e1,e2⟩:=Ek (N:=N) h3
 cases q:G (cP N ds) ω with
 |none=>rw[q] at h4;cases h4
 |some pr=>
  obtain⟨o,ω2⟩:=pr
  rw[q] at h4
  refine⟨ok,cP N ds,ω,o,ω2,⟨h1,h2,e1,e2⟩,q,?_⟩
  cases o with
  |rt d=>cases h4;exact fun v ok' H' n rv=>h5 v ok' H' n rv
  |nx ρ=>cases h4;exact fun ok' H' σ' n _ _=>h5 .non ok' H' n .non
  |ex c=>cases h4;exact fun ok' H' n=>h5 ok' H' n
  |bk ρ=>cases h4
  |ct ρ=>cases h4
end L2.MB
end
section
namespace L2.MB
open PySem PySem.Spec PyProof.Rows
abbrev Eg:List Value:=[.type "ValueError",.type "Exception",.type "BaseException",.type "object"]
def qP (K:PySem.W.Frag) (C:Addr) (tl:List Value):Prop:=∃(dd:Option Addr) (cd:ClassData) (k0 k1 k2 k3 k5:Option Value),K.lookup C=some ⟨.type "type",dd,.cls cd,#[k0,k1,k2,k3,some (.builtin "ValueError.__new__"),k5]⟩/\
 cd.mro=.ref C::tl/\cd.hasDel=false/\PySem.W.tailIn K Eg tl=true/\PySem.W.nsOkIn K cd.ns=true/\PySem.W.nsIn K cd.ns "__init__"=some none
theorem FP {K:PySem.W.Frag}{h:Heap}{C:Addr}{tl:List Value} (X:K.In h) (q:qP K C tl):∃(nm qn:Str) (N:Addr) (bs:List Value) (hdct:Bool) (sn:List Str) (sub:List Value) (ab:Bool) (col:Option Bool) (dd:Option Addr) (k0 k1 k2 k3 k5:Option Value) (mN:Str->Option Value),
  h.get? C=some (excClassObj nm qn C N bs tl hdct sn sub ab col dd k0 k1 k2 k3 k5 "ValueError.__new__")/\h.Ns N mN/\mN "__init__"=none/\OwnTail h Eg tl:=by
 obtain⟨dd,cd,k0,k1,k2,k3,k5,hl,hm,hd,ht,hn,hi⟩:=q
 obtain⟨a1,a2,a3,a4,a5,a6,a7,a8,a9,b1,b2⟩:=cd
 dsimp only at hm hd hn hi
 subst hm hd
 exact⟨a1,a5,a4,a2,a6,a7,a8,a9,b1,dd,k0,k1,k2,k3,k5,_,X _ _ hl,.of_isNs (PySem.W.isNs_of_in X hn),PySem.W.nsMap_none_of_in X hn hi,PySem.W.tail_of_in X ht⟩
def FA (c:Nat) (f:DF):OS:=fun ρ ω=>(f ρ).map fun _=>(.ex c,ω)
section
variable {X:Cx}{cls exC:Nat->Addr}{E:XE}{e:Expr}{f:DF}{pos np cpos:Pos}{x:Str}{c:Nat}{tl:List Value}
theorem Ds (hc:X.calm=true) (hx:OC X exC E) (hg:Gl X x) (hm:X.mg x=some (.ref (exC c))) (hq:qP X.K (exC c) tl) (he:DE X e f) (hdb:(x==("__debug__":Str))=false:=by decide)
  (hst:starEach [e] X.env=(false,eval e X.env)::starEach [] X.env:=by rfl) (hpl:(backTo cpos (starEach [e] X.env)).any (·.1)=false:=by rfl):
  OSt X cls E (.Raise (some (.Call (.Name x np) [e] [] cpos)) none pos) (FA c f):=by
 rintro pins s σ H D I ⟨ok,ρ,ω,o,ω',P,e0,q⟩
 obtain⟨d,e1,e2⟩:=aN e0
 cases e2
 obtain⟨nm,qn,N,bs,hdct,sn,sub,ab,col,dd,k0,k1,k2,k3,k5,mN,hC,hN,hni,T⟩:=FP I.mod.kin hq
 refine wpAny_Raise_call_subT (C:=exC c) (N:=N) (bm:=tl) (hdct:=hdct) (sn:=sn) (sub:=sub) (ab:=ab) (col:=col) (dd:=dd) (k0:=k0) (k1:=k1) (k2:=k2) (k3:=k3) (k5:=k5) (nm:=nm) (q:=qn) (bs:=bs)
  PySem.F.excBase_ValueError (mN:=mN) (T.hasType rfl) (I.ok.hd hc) hpl hni (zC I hg hm ⟨rfl,?_⟩ hdb)
 have ha:=(LH he Od hst:DA X [e] (LL f PH)) cpos pins s σ H (fun vs H'=>vs.length<=sizeLine/\Same H H') I
  ⟨ok,ρ,[d],P.okh,P.env,by unfold LL PH;rw[e1];rfl,fun vs H' s' r=>⟨by rw[r.length];show 1<=sizeLine;decide,s'⟩⟩
 rw[hst] at ha ⊢
 refine Calls.evalArgs_plain (thn ha fun us s2 ⟨vs,H2,I2,rv,hl,sm⟩=>⟨rfl,by show us.length<=_;rw[<- rv.length];exact hl,I2.bk _ _ hC,hN.keeps I2.bk,T.keeps I2.bk,fun h' ea hm'=> ?_⟩)
 have I3:Inv X pins σ H2 { s2 with heap:=h' }:=I2.kept (t':=s2.toks) hm'.keeps
 obtain⟨t,z1,z2,z3⟩:=hm'.there
 refine hx.raw c ea H2 pins σ _ I3 ⟨⟨t,z1⟩,I2.pers hx.ex hm'.new,?_⟩ (q ok H2 (.same P.okh P.st sm))
 cases w:H2 ea with
 |none=>rfl
 |some u=>
  obtain⟨u',w'⟩:=HOk.obj I2.hok w
  rw[hm'.new] at w'
  cases w'
theorem _root_.L2.Inv.passed {pins:List (Addr×Obj)}{σ:St}{H:Hp}{s:Shared}{h':Heap}{ea T:Addr} (I:Inv X pins σ H s) (hx:X.ex=[]) (ps:Pass (frs X.stack) ea T s.heap h') (n1:X.s₀.heap.get? ea=none) (n2:X.s₀.heap.get? T=none) (n3:H ea=none) (n4:H T=none)
  (hp:∀ p∈X.pn++pins,p.1≠ea/\p.1≠T) (hf:∀ b,(b=ea∨b=T)->∃ o vs,s.heap.get? b=some o/\o.data=.fields vs):Inv X pins σ H { s with heap:=h' }:=by
 have nofr:∀ b u,H b=some u->b∉frs X.stack:=fun b u e z=>by
  have:=I.stkFree b z
  rw[e] at this
  cases this
 have any:∀ b o,s.heap.get? b=some o->(∀ vs,o.data≠ .fields vs)->∃ sl,h'.get? b=some { o with slots:=sl }:=fun b o e nf=>by
  by_cases hb:b∈frs X.stack
  ·exact ps.slot b o e hb
  ·refine⟨o.slots,ps.keep b o e hb (fun z=> ?_) fun z=> ?_⟩
   ·obtain⟨o',vs,w1,w2⟩:=hf b (.inl z)
    rw[e] at w1
    cases w1
    exact nf vs w2
   ·obtain⟨o',vs,w1,w2⟩:=hf b (.inr z)
    rw[e] at w1
    cases w1
    exact nf vs w2
 have kb:∀ b u v,H b=some u->s.heap.get? b=some v->h'.get? b=some v:=fun b u v e z=>ps.keep b v z (nofr b u e) (fun q=>by rw[q,n3] at e;cases e) fun q=>by rw[q,n4] at e;cases e
 have old:∀ {b:Addr}{o:Obj},X.s₀.heap.get? b=some o->b≠ea/\b≠T:=fun {b o} z=>⟨fun q=>(by rw[q,n1] at z;cases z),fun q=>(by rw[q,n2] at z;cases z)⟩
 have locf:∀ b,b∈frs X.stack->b=X.env.locals∨b∈X.fs:=fun b hb=>List.mem_cons.mp (I.stkSub b hb)
 obtain⟨m,⟨oL,es,ep,hoL,hdL,rL⟩,lk⟩:=id I.loc
 obtain⟨slL,hL⟩:=any _ oL hoL fun vs z=>by rw[hdL] at z;cases z
 refine⟨I.ok,I.os,I.bare,⟨fun b o e n hb hxx=> ?_,fun b o e n hb hxx=> ?_,I.base.free,fun b o e hxx=> ?_,I.base.tups,I.base.frzs,I.base.tbls⟩,⟨m,⟨_,es,ep,hL,hdL,rL⟩,fun i x v e1 e2 e3=> ?_⟩,fun x c e=> ?_,I.free,I.freeC,fun p hpp=> ?_,fun b u e=> ?_,I.len⟩
 ·have z:=I.base.keep b o e n hb hxx
  refine ps.keep b o z (fun hm=> ?_) (old e).1 (old e).2
  rcases locf b hm with q|q
  ·exact absurd (Heap.lt_size e) (by rw[q];exact Nat.not_lt.mpr I.ok.above)
  ·exact hb q
 ·obtain⟨sl,z⟩:=I.base.slot b o e n hb hxx
  by_cases hm:b∈frs X.stack
  ·obtain⟨sl2,z2⟩:=ps.slot b _ z hm
   exact⟨sl2,z2⟩
  ·exact⟨sl,ps.keep b _ z hm (old e).1 (old e).2⟩
 ·obtain⟨o',z⟩:=I.base.there b o e hxx
  by_cases hm:b∈frs X.stack
  ·obtain⟨sl2,z2⟩:=ps.slot b _ z hm
   exact⟨_,z2⟩
  ·exact⟨_,ps.keep b o' z hm (old e).1 (old e).2⟩
 ·obtain⟨u,ru,z⟩:=lk i x v e1 e2 e3
  refine⟨u,ru,?_⟩
  rcases z with z|⟨k,c,e,oc,w1,w2⟩
  ·exact .inl z
  ·obtain⟨sl,w3⟩:=any c oc w1 fun vs q=>by rw[w2] at q;cases q
   exact .inr ⟨k,c,e,_,w3,w2⟩
 ·obtain⟨v,oc,w1,w2⟩:=I.cell x c e
  obtain⟨sl,w3⟩:=any c oc w1 fun vs q=>by rw[w2] at q;cases q
  exact⟨v,_,w3,w2⟩
 ·obtain⟨e,n,ne,nf,d⟩:=I.pin p hpp
  refine⟨ps.keep p.1 p.2 e (fun hm=> ?_) (hp p hpp).1 (hp p hpp).2,n,ne,nf,d⟩
  rcases locf p.1 hm with q|q
  ·exact ne q
  ·exact nf q
 ·refine(I.hok b u e).stay (fun c v hc q=> ?_) (fun _ q=>q) fun _ _ q=>q
  rcases hc with rfl|hc
  ·exact kb c u v e q
  ·exact kb c _ v hc q
end
theorem wK {M:Model}{A:Around}{E:Value->Shared->Prop}{s:Shared}{K:PySem.W.Frag}{C C' ea:Addr}{tl tl':List Value}{oe:Obj}{Q:Bool->Shared->Prop} (X:K.In s.heap) (q:qP K C tl) (q':qP K C' tl') (he:s.heap.get? ea=some oe) (hc:oe.cls=.ref C)
  (h:Q ((Value.ref C::tl).contains (.ref C')) s):wpAny M A (excMatches (.ref ea) (.ref C')) Q E s:=by
 obtain⟨nm,qn,N,bs,hdct,sn,sub,ab,col,dd,k0,k1,k2,k3,k5,mN,hC,hN,hni,T⟩:=FP X q
 obtain⟨nm',qn',N',bs',hdct',sn',sub',ab',col',dd',k0',k1',k2',k3',k5',mN',hC',hN',hni',T'⟩:=FP X q'
 have hB:(Value.ref C'::tl').contains (.type "BaseException")=true:=by rw[List.contains_cons,T'.hasType (X:="BaseException") (b:=true) rfl,Bool.or_true]
 have f:=tc_notTuple
 obtain⟨hp,g,d,tk,os⟩:=s
 unfold excMatches
 generalize hb:(Value.ref C::tl).contains (.ref C')=b at h
 repeat (first|(with_reducible refine wpAny_loadPart_at he ?_;rw[hc])|with_reducible refine wpAny_loadPart_at hC' ?_|(with_reducible refine wpAny_isSubtype_exc hC' ?_;rw[hB])|(with_reducible refine wpAny_isSubtype_exc hC ?_;rw[hb])|wp_step)
 cases b <;> (wp_walk;exact h)
end L2.MB
end
section
namespace L2.MB
open PySem PySem.Spec PyProof.Rows
section
variable {M:Model}{A:Around}{E:Value->Shared->Prop}{s:Shared}{env:Env}{outer:List Env}{base h0:Heap}{H:Hp}{exC:Nat->Addr}{c:Nat}{ea T L:Addr}{Q:Unit->Shared->Prop}{P:Program}{w:World}
theorem Ie (hfr:A.frames=some (env::outer)) (hf:env.frame=some L) (funs:s.heap.FunFrames base (env::outer)) (hok:HOk P w H s.heap) (h0p:∀ b,s.heap.get? b=none->h0.get? b=none) (fl:FlyT exC c ea T h0 H s.heap)
  (hQ:∀ h' T',Pass (frs (env::outer)) ea T s.heap h'->FlyT exC c ea T' h0 H h'->(T'=T∨s.heap.get? T'=none)->Q () { s with heap:=h' }):
  wpAny M A (noteFrame (.ref ea) env) (fun _ s₂=>wpAny M A (setFlight (.ref ea) none) Q E s₂) E s:=by
 obtain⟨oe,oT,vs,ts,a0,e1,e2,e3,e4,e5,e6,e7,e8,e9⟩:=fl.tr
 have nF:∀ b∈frs (env::outer),(PySem.W.hideAll s.heap (ea::T::frs (env::outer))).get? b=none:=fun b hb=>PySem.W.hideAll_none _ (List.mem_cons_of_mem _ (List.mem_cons_of_mem _ hb))
 have hb0:∀ b,(PySem.W.hideAll s.heap (ea::T::frs (env::outer))).get? b=none->b=ea∨b=T∨b∈frs (env::outer)∨s.heap.get? b=none:=fun b z=>by
  rcases Cv z with z|z
  ·rcases List.mem_cons.mp z with z|z
   ·exact .inl z
   ·rcases List.mem_cons.mp z with z|z
    ·exact .inr (.inl z)
    ·exact .inr (.inr (.inl z))
  ·exact .inr (.inr (.inr z))
 refine wpAny_noteFrame_onW (base:=PySem.W.hideAll s.heap (ea::T::frs (env::outer))) (cls:=.ref (exC c)) (a0:=a0) hfr (zI funs nF) hf ?_ (fun b o z=>PySem.W.of_hideAll _ z) (PySem.W.hideAll_none _ List.mem_cons_self) fun h' hN=> ?_
 ·exact⟨oe,vs,T,oT,ts,e1,⟨e2,e4⟩,e3,e5,PySem.W.hideAll_none _ (List.mem_cons_of_mem _ List.mem_cons_self),e6,e7,e8,e9⟩
 ·obtain⟨k1,k2,k3,k4⟩:=hN
  refine wpAny_setFlight_noneW (base:=PySem.W.hideAll s.heap (ea::T::frs (env::outer))) (l:=env::outer) k1 k2 k3 fun h'' m1 m2 m3 m4=> ?_
  obtain⟨T',f1,f2⟩:=CB (T:=T) (s:=s) hok h0p hb0 m2 m3 rfl fl.h0e fl.He fl.h0T fl.HT
  refine hQ h'' T' ⟨fun b o z n1 n2 n3=>m1 b o (PySem.W.hideAll_get _ z ?_),fun b o z hb=> ?_⟩ f1 f2
  ·intro hm
   rcases List.mem_cons.mp hm with hm|hm
   ·exact n2 hm
   ·rcases List.mem_cons.mp hm with hm|hm
    ·exact n3 hm
    ·exact n1 hm
  ·obtain⟨_,o',q1,q2⟩:=funs.mem hb
   rw[z] at q1
   cases q1
   obtain⟨sl,w1⟩:=k4 b o z q2
   exact⟨sl,m4 b _ w1 q2⟩
theorem CC (funs:s.heap.FunFrames base outer) (fl:FlyT exC c ea T h0 H s.heap) (hQ:∀ h',Pass (frs outer) ea T s.heap h'->FlyT exC c ea T h0 H h'->Q () { s with heap:=h' }):wpAny M A (setFlight (.ref ea) none) Q E s:=by
 obtain⟨oe,oT,vs,ts,a0,e1,e2,e3,e4,e5,e6,e7,e8,e9⟩:=fl.tr
 have hz:3<ts.size:=(Array.getElem?_eq_some_iff.mp e9).1
 have oth:∀ b,b≠T->(s.heap.update T (Obj.mapFields (·.setIfInBounds 3 .none))).get? b=s.heap.get? b:=fun b hb=>Heap.get?_update_other _ _ (Ne.symm hb)
 refine wpAny_setFlight_none e1 e3 e5 e7 e8 hz (hQ _ ⟨fun b o z _ _ n3=>(oth b n3).trans z,fun b o z hb=>⟨o.slots,(oth b fun q=> ?_).trans z⟩⟩ ⟨⟨oe,_,vs,_,a0,(oth ea (Ne.symm e6)).trans e1,e2,e3,e4,e5,e6,Heap.get?_update_self _ e7 (Obj.isFreed_of_fields (Obj.data_mapFields e8 _)),Obj.data_mapFields e8 _,by simp[hz]⟩,fl.h0e,fl.h0T,fl.He,fl.HT⟩)
 obtain⟨_,o',q1,q2⟩:=funs.mem hb
 rw[q,e7] at q1
 cases q1
 exact q2 ts e8
end
abbrev Xm (X:Cx) (ea:Addr):Cx:={ X with A:=X.A.mark (some (.ref ea)),calm:=false,xe:=fun _ _=>False }
abbrev Xp (X:Cx) (pn:List (Addr×Obj)) (xe:Value->Shared->Prop):Cx:={ X with pn:=pn,xe:=xe }
section
variable {X:Cx}{pins pins':List (Addr×Obj)}{σ:St}{H:Hp}{s:Shared}{xe:Value->Shared->Prop}
theorem _root_.L2.Inv.marked (I:Inv X pins σ H s) (ea:Addr):Inv (Xm X ea) pins σ H s:=
 ⟨⟨I.ok.mod,I.ok.kind,I.ok.glob,I.ok.blt,I.ok.above,I.ok.inj,I.ok.has,I.ok.cab,(fun z=>nomatch z),I.ok.frames,I.ok.stk,I.ok.exf,I.ok.bs,I.ok.bsz,I.ok.noex,I.ok.exfs,I.ok.funs,I.ok.frf⟩,I.os,I.bare,I.base,I.loc,I.cell,I.free,I.freeC,I.pin,I.hok,I.len⟩
theorem _root_.L2.Inv.unmarked {ea:Addr} (k:X.calm=true->X.A.handled=none) (I:Inv (Xm X ea) pins σ H s):Inv X pins σ H s:=
 ⟨⟨I.ok.mod,I.ok.kind,I.ok.glob,I.ok.blt,I.ok.above,I.ok.inj,I.ok.has,I.ok.cab,k,I.ok.frames,I.ok.stk,I.ok.exf,I.ok.bs,I.ok.bsz,I.ok.noex,I.ok.exfs,I.ok.funs,I.ok.frf⟩,I.os,I.bare,I.base,I.loc,I.cell,I.free,I.freeC,I.pin,I.hok,I.len⟩
theorem _root_.L2.Inv.pned (I:Inv X pins σ H s):Inv (Xp X (X.pn++pins) xe) [] σ H s:=
 ⟨⟨I.ok.mod,I.ok.kind,I.ok.glob,I.ok.blt,I.ok.above,I.ok.inj,I.ok.has,I.ok.cab,I.ok.hd,I.ok.frames,I.ok.stk,I.ok.exf,I.ok.bs,I.ok.bsz,I.ok.noex,I.ok.exfs,I.ok.funs,I.ok.frf⟩,I.os,I.bare,I.base,I.loc,I.cell,I.free,I.freeC,fun p hp=>I.pin p (by simpa using hp),I.hok,I.len⟩
theorem _root_.L2.Inv.unpned (I:Inv (Xp X (X.pn++pins) xe) pins' σ H s):Inv X pins σ H s:=
 ⟨⟨I.ok.mod,I.ok.kind,I.ok.glob,I.ok.blt,I.ok.above,I.ok.inj,I.ok.has,I.ok.cab,I.ok.hd,I.ok.frames,I.ok.stk,I.ok.exf,I.ok.bs,I.ok.bsz,I.ok.noex,I.ok.exfs,I.ok.funs,I.ok.frf⟩,I.os,I.bare,I.base,I.loc,I.cell,I.free,I.freeC,fun p hp=>I.pin p (List.mem_append_left _ hp),I.hok,I.len⟩
theorem SP.unpned {D:Dc}{f:Flow} (h:SP (Xp X (X.pn++pins) xe) [] D f s):SP X pins D f s:=by
 cases f with
 |next=>obtain⟨σ',H',I,q⟩:=h;exact⟨σ',H',I.unpned,q⟩
 |brk=>obtain⟨σ',H',I,q⟩:=h;exact⟨σ',H',I.unpned,q⟩
 |cont=>obtain⟨σ',H',I,q⟩:=h;exact⟨σ',H',I.unpned,q⟩
 |ret u=>obtain⟨v,σ',H',I,r,q⟩:=h;exact⟨v,σ',H',I.unpned,r,q⟩
theorem SP.unmarked {ea:Addr}{D:Dc}{f:Flow} (k:X.calm=true->X.A.handled=none) (h:SP (Xm X ea) pins D f s):SP X pins D f s:=by
 cases f with
 |next=>obtain⟨σ',H',I,q⟩:=h;exact⟨σ',H',I.unmarked k,q⟩
 |brk=>obtain⟨σ',H',I,q⟩:=h;exact⟨σ',H',I.unmarked k,q⟩
 |cont=>obtain⟨σ',H',I,q⟩:=h;exact⟨σ',H',I.unmarked k,q⟩
 |ret u=>obtain⟨v,σ',H',I,r,q⟩:=h;exact⟨v,σ',H',I.unmarked k,r,q⟩
variable {exC:Nat->Addr}{c c':Nat}{ea T:Addr}{x:Str}{np pos:Pos}{b₀:Stmt}{suite:List Stmt}{rest:List ExceptHandler}{tl tl':List Value}{Q:Flow->Shared->Prop}{E:Value->Shared->Prop}
theorem FlyT.fields (fl:FlyT exC c ea T X.s₀.heap H s.heap):∀ b,(b=ea∨b=T)->∃ o vs,s.heap.get? b=some o/\o.data=.fields vs:=fun b hb=>by
 obtain⟨oe,oT,vs,ts,a0,e1,e2,e3,e4,e5,e6,e7,e8,e9⟩:=fl.tr
 rcases hb with rfl|rfl
 ·exact⟨_,_,e1,e3⟩
 ·exact⟨_,_,e7,e8⟩
theorem oC (I:Inv X pins σ H s) (hex:X.ex=[]) (fl:FlyT exC c ea T X.s₀.heap H s.heap) (hp:∀ p∈X.pn++pins,p.1≠ea/\p.1≠T) (hg:Gl X x) (hm:X.mg x=some (.ref (exC c'))) (ho:qP X.K (exC c) tl) (ho':qP X.K (exC c') tl')
  (hit:(Value.ref (exC c)::tl).contains (.ref (exC c'))=true->∀ s',Inv (Xm X ea) pins σ H s'->wpAny (model X.prog X.w) (Xm X ea).A (execs (b₀::suite) X.env) Q (fun _ _=>False) s')
  (miss:(Value.ref (exC c)::tl).contains (.ref (exC c'))=false->wpAny (model X.prog X.w) X.A (handleBy (.ref ea) X.env rest) Q E s) (hdb:(x==("__debug__":Str))=false:=by decide):
  wpAny (model X.prog X.w) X.A (handleBy (.ref ea) X.env (.ExceptHandler (some (.Name x np)) none (b₀::suite) pos::rest)) Q E s:=by
 obtain⟨oe,oT,vs,ts,a0,e1,e2,_⟩:=fl.tr
 refine wpAny_handleBy_cons (codeAny_handlers_test (zC (I.marked ea) hg hm ?_ hdb)) (fun z=>nomatch z)
 refine wK (K:=X.K) (C:=exC c) (C':=exC c') I.kIn ho ho' e1 e2 ?_
 cases hb:(Value.ref (exC c)::tl).contains (.ref (exC c')) with
 |false=>exact miss hb
 |true=>
  refine codeAny_handlers_suite (CC I.stack fl fun h' ps fl'=> ?_)
  have I':Inv X pins σ H { s with heap:=h' }:=I.passed hex ps fl.h0e fl.h0T fl.He fl.HT hp fl.fields
  exact wpAny_mono (hit hb _ (I'.marked ea)) (fun _ _ q=>q) fun _ _ z=>z.elim
end
def Cc (F:OS) (c1:Nat) (G1:OS) (c2:Nat) (G2:OS):OS:=fun ρ ω=>match F ρ ω with
 |some (.ex c,ω1)=>if c=c1 then sNx G1 (List.replicate ρ.length none) ω1 else if c=c2 then sNx G2 (List.replicate ρ.length none) ω1 else none
 |r=>r
section
variable {X:Cx}{cls exC:Nat->Addr}{E:XE}{body:List Stmt}{F G1 G2:OS}{c1 c2:Nat}{x1 x2:Str}{np1 np2 p1 p2 pos:Pos}{b1 b2:Stmt}{r1 r2:List Stmt}{tl1 tl2:List Value}
theorem Ht {pins:List (Addr×Obj)}{σ:St}{H:Hp}{s:Shared} (I:Inv X pins σ H s):Inv X pins (List.replicate σ.length none) H s:=I.weak (by simp) fun i v e=>by
 rw[List.getElem?_replicate] at e
 split at e <;> cases e
theorem KI (hex:X.ex=[]) (hc:X.calm=true) (hs:X.stack=X.env::X.outer) (hf:∃ L,X.env.frame=some L) (hg1:Gl X x1) (hg2:Gl X x2) (hm1:X.mg x1=some (.ref (exC c1))) (hm2:X.mg x2=some (.ref (exC c2))) (ho1:qP X.K (exC c1) tl1) (ho2:qP X.K (exC c2) tl2)
  (hne:(Value.ref (exC c2)::tl2).contains (.ref (exC c1))=false)
  (hb:∀ pn xe E',Exc (Xp X pn xe) exC E'->OSs (Xp X pn xe) cls E' body F) (h1:∀ ea,OSs (Xm X ea) cls EF (b1::r1) G1) (h2:∀ ea,OSs (Xm X ea) cls EF (b2::r2) G2)
  (hd1:(x1==("__debug__":Str))=false:=by decide) (hd2:(x2==("__debug__":Str))=false:=by decide):
  OSt X cls E (.Try body [.ExceptHandler (some (.Name x1 np1)) none (b1::r1) p1,.ExceptHandler (some (.Name x2 np2)) none (b2::r2) p2] [] [] pos) (Cc F c1 G1 c2 G2):=by
 rintro pins s σ H D I ⟨ok,ρ,ω,o,ω',P,e,q⟩
 obtain⟨L,hL⟩:=hf
 -- what the body wants
 cases eF:F ρ ω with
 |none=>unfold Cc at e;rw[eF] at e;cases e
 |some pr=>
  obtain⟨o1,ω1⟩:=pr
  unfold Cc at e
  rw[eF] at e
  refine wpAny_Try_except ?_
  -- the wish within
  have main:∀(E':XE),(∀ c H',E' c H'->∃ ok',Nw cls X.K ok H ok' H' ω1/\∃ z,o1=.ex z/\c=z)->outO cls X.K ok H ω1 E' D o1->
    wpAny (model X.prog X.w) X.A (execs body X.env) (fun f s₁=>match f with|.next=>wpAny (model X.prog X.w) X.A (execs [] X.env) (SP X pins D) X.xe s₁|f=>SP X pins D f s₁)
     (fun e s₁=>wpAny (model X.prog X.w) X.A (noteFrame e X.env) (fun _ s₂=>wpAny (model X.prog X.w) X.A (setFlight e none) (fun _ s₃=>wpAny (model X.prog X.w) X.A (handleBy e X.env [.ExceptHandler (some (.Name x1 np1)) none (b1::r1) p1,.ExceptHandler (some (.Name x2 np2)) none (b2::r2) p2]) (SP X pins D) X.xe s₃) X.xe s₂) X.xe s₁) s:=by
   intro E' hE' hout
   have ex:Exc (Xp X (X.pn++pins) fun e s₁=>wpAny (model X.prog X.w) X.A (noteFrame e X.env) (fun _ s₂=>wpAny (model X.prog X.w) X.A (setFlight e none) (fun _ s₃=>wpAny (model X.prog X.w) X.A (handleBy e X.env [.ExceptHandler (some (.Name x1 np1)) none (b1::r1) p1,.ExceptHandler (some (.Name x2 np2)) none (b2::r2) p2]) (SP X pins D) X.xe s₃) X.xe s₂) X.xe s₁) exC E':=by
    refine⟨fun c ea T H' pins' σ' s' I' fl hpn hE=> ?_,hex⟩
    have I1:Inv X pins σ' H' s':=I'.unpned
    obtain⟨ok',nw,z,ez,rfl⟩:=hE' c H' hE
    subst ez
    refine Ie (L:=L) (outer:=X.outer) (P:=X.prog) (w:=X.w) (by rw[I1.ok.frames,hs]) hL (by rw[<- hs];exact I1.stack) I1.hok (fun b w=>I1.pers hex w) fl fun h' T' ps fl' hT=> ?_
    have hpT:∀ p∈X.pn++pins,p.1≠ea/\p.1≠T':=fun p hp=>⟨(hpn p hp).1,fun w=>by
     rcases hT with rfl|hT
     ·exact(hpn p hp).2 w
     ·have:=(I1.pin p hp).1
      rw[w,hT] at this
      cases this⟩
    have I2:Inv X pins σ' H' { s' with heap:=h' }:=I1.passed hex (by rw[hs];exact ps) fl.h0e fl.h0T fl.He fl.HT hpn fl.fields
    have I3:=Ht I2
    have run:∀ {G:OS}{b:Stmt}{r:List Stmt}{s4:Shared},OSs (Xm X ea) cls EF (b::r) G->sNx G (List.replicate ρ.length none) ω1=some (o,ω')->Inv (Xm X ea) pins (List.replicate σ'.length none) H' s4->wpAny (model X.prog X.w) (Xm X ea).A (execs (b::r) X.env) (SP X pins D) (fun _ _=>False) s4:=fun {G b r s4} hG eG I4=>by
     obtain⟨eG,hn⟩:=FB eG
     have hlen:σ'.length=ρ.length:=by rw[I1.len,<- I.len,P.len]
     refine wpAny_mono (hG pins s4 _ H' D I4 ⟨ok',_,ω1,o,ω',⟨nw.okh,nw.st,fun i d w=> ?_,by simp[hlen]⟩,eG,?_⟩) (fun _ _ z=>SP.unmarked I.ok.hd z) fun _ _ z=>z
     ·rw[List.getElem?_replicate] at w
      split at w <;> cases w
     ·have q':=q.nw nw
      cases o with
      |ex c=>exact absurd rfl (hn c)
      |_=>exact q'
    have e0:(if c=c1 then sNx G1 (List.replicate ρ.length none) ω1 else if c=c2 then sNx G2 (List.replicate ρ.length none) ω1 else none)=some (o,ω'):=e
    by_cases hz1:c=c1
    ·subst hz1
     have e':sNx G1 (List.replicate ρ.length none) ω1=some (o,ω'):=by
      rw[if_pos rfl] at e0
      exact e0
     refine oC I3 hex fl' hpT hg1 hm1 ho1 ho1 (fun _ s4 I4=>run (h1 ea) e' I4) (fun w=> ?_) hd1
     exact absurd w (by simp)
    ·have e2:(if c=c2 then sNx G2 (List.replicate ρ.length none) ω1 else none)=some (o,ω'):=by
      rw[if_neg hz1] at e0
      exact e0
     obtain⟨hz2,e3⟩:=eB e2
     subst hz2
     refine oC I3 hex fl' hpT hg1 hm1 ho2 ho1 (fun w=> ?_) (fun _=> ?_) hd1
     ·rw[hne] at w;cases w
     ·refine oC I3 hex fl' hpT hg2 hm2 ho2 ho2 (fun _ s4 I4=>run (h2 ea) e3 I4) (fun w=> ?_) hd2
      exact absurd w (by simp)
   refine wpAny_mono (hb _ _ E' ex [] s σ H D I.pned ⟨ok,ρ,ω,o1,ω1,P,eF,hout⟩) (fun f s₁ z=> ?_) fun _ _ z=>z
   have z':=SP.unpned z
   cases f with
   |next=>
    obtain⟨σ',H',I',q'⟩:=z'
    exact wpAny_execs_nil ⟨σ',H',I',q'⟩
   |_=>exact z'
  cases o1 with
  |ex c=>exact main (fun c' H'=>(∃ ok',Nw cls X.K ok H ok' H' ω1)/\c'=c) (fun c' H' ⟨⟨ok',n⟩,ez⟩=>⟨ok',n,c,rfl,ez⟩) fun ok' H' n=>⟨⟨ok',n⟩,rfl⟩
  |nx ρ1=>cases e;exact main (fun _ _=>False) (fun _ _ z=>z.elim) q
  |rt d=>cases e;exact main (fun _ _=>False) (fun _ _ z=>z.elim) q
  |bk ρ1=>cases e;exact main (fun _ _=>False) (fun _ _ z=>z.elim) q
  |ct ρ1=>cases e;exact main (fun _ _=>False) (fun _ _ z=>z.elim) q
end
end L2.MB
end
section
namespace L2.MB
open PySem PySem.Spec PyProof.Rows
def RawD (h:Heap) (d:Addr) (es:Array DictEntry) (ep:Nat):Prop:=∃ o,h.get? d=some o/\o.ExactDict/\o.data=.dict es ep
theorem RawD.at {h h':Heap}{d:Addr}{es:Array DictEntry}{ep:Nat} (x:RawD h d es ep) (k:∀ o,h.get? d=some o->h'.get? d=some o):RawD h' d es ep:=let ⟨o,e,r⟩:=x;⟨o,k o e,r⟩
theorem RawD.typeIs {s:Shared}{d:Addr}{es:Array DictEntry}{ep:Nat} (x:RawD s.heap d es ep):s.TypeIs (.ref d) "dict":=let ⟨o,e,c,_⟩:=x;⟨o,e,c.1⟩
theorem RawD.lt {h:Heap}{d:Addr}{es:Array DictEntry}{ep:Nat} (x:RawD h d es ep):d<h.objs.size:=let ⟨_,e,_⟩:=x;Heap.lt_size e
section
variable {prog:Program}{w:World}{A:Around}{E:Value->Shared->Prop}{s:Shared}{d v it:Addr}{es:Array DictEntry}{ep i:Nat}
theorem En {Q:Value->Shared->Prop} (lo:(d==sysModules)=false) (r:RawD s.heap d es ep) (q:Q (.ref s.heap.objs.size) { s with heap:=s.heap.push { cls:=.type "dict_values",data:=.fields #[.ref d] } }):
  wpAny (model prog w) A (call (.builtin "dict.values") [.ref d]) Q E s:=by
 refine call_meetsIn (prog:=prog) (w:=w) PySem.F.slot_dict_values r.typeIs PySem.F.entry_dict_values (PySem.F.args_dict_values_1 _) (S:=fun _ R t=>RawD t.heap d es ep/\R (.ok (.ret (.ref t.heap.objs.size))) { t with heap:=t.heap.push { cls:=.type "dict_values",data:=.fields #[.ref d] } }) (.of_wp fun B R t z=> ?_) ⟨r,q⟩
 obtain⟨r1,q1⟩:=z
 refine wpAny_bind ?_
 unfold Builtin.Dict.noArgs
 refine wpAny_bind (wpAny_notOrdered_dict r1.typeIs ?_)
 show wpAny _ _ (pure d) _ _ t
 refine wpAny_pure ?_
 show wpAny _ _ (Builtin.Dict.showsAll d >>= _) _ _ t
 unfold Builtin.Dict.showsAll
 rw[if_neg (show ¬((d==sysModules)=true) by rw[lo];exact Bool.false_ne_true)]
 exact wpAny_bind (wpAny_pure (wpAny_bind (wpAny_newObj_type (wpAny_pure ⟨_,rfl,q1⟩))))
theorem FF {Q:Value->Shared->Prop} (vw:s.heap.IsValuesView v d) (r:RawD s.heap d es ep)
  (q:Q (.ref s.heap.objs.size) { s with heap:=s.heap.push { cls:=.type "dict_valueiterator",data:=.fields #[.ref d,.int 0 0,.int es.size 0,.int ep 0] } }):wpAny (model prog w) A (pyIter (.ref v)) Q E s:=by
 obtain⟨ov,v1,v2,v3⟩:=id vw
 obtain⟨o,r1,r2,r3⟩:=id r
 refine wpAny_pyIter_slot vw.typeIs PySem.F.slot_dict_values_iter (wpAny_call_entry PySem.F.slot_dict_values_iter vw.typeIs PySem.F.entry_dict_values_iter ?_ (PySem.F.args_dict_values_iter_1 _))
 unfold Builtin.«dict_values.__iter__»
 refine wpAny_bind (wpAny_pure (wpAny_bind ?_))
 unfold Builtin.Dict_items.dictOf
 refine wpAny_bind (wpAny_field v1 v3 (x:=.ref d) rfl (wpAny_pure (wpAny_bind ?_)))
 unfold Builtin.Dict_items.newIterator
 refine wpAny_bind (wpAny_dictEntries r1 r3 (wpAny_bind (wpAny_dictEpoch r1 r3 ?_)))
 have own:Builtin.Dict_items.ownsTuple "dict_valueiterator"=false:=by decide
 simp only[own,Bool.false_eq_true,ite_false]
 refine wpAny_newObj_type (wpAny_pure ⟨_,rfl,"dict_valueiterator",_,⟨_,Heap.get?_push_size _ rfl,rfl⟩,PySem.F.slot_dict_valueiterator_next.lookup,?_⟩)
 simpa [rawInt] using q
theorem FE {e:DictEntry}{Q:Option Value->Shared->Prop} (vi:s.heap.IsValIter it d i es.size ep) (r:RawD s.heap d es ep) (hx:es[i]?=some e)
  (q:∀ h',h'.IsValIter it d (i+1) es.size ep->Heap.SameBut it s.heap h'->Q (some e.val) { s with heap:=h' }):wpAny (model prog w) A (pyNext (.ref it)) Q E s:=by
 obtain⟨o,i1,i2,i3⟩:=id vi
 obtain⟨od,r1,r2,r3⟩:=id r
 have lt:i<es.size:=(Array.getElem?_eq_some_iff.mp hx).1
 have own:Builtin.Dict_items.ownsTuple "dict_valueiterator"=false:=by decide
 unfold pyNext
 refine wpAny_bind (wpAny_attempt (wpAny_callSpecial?_slot (name:=Str.ofString "__next__") vi.typeIs PySem.F.slot_dict_valueiterator_next (wpAny_call_entry PySem.F.slot_dict_valueiterator_next vi.typeIs PySem.F.entry_dict_valueiterator_next ?_ (PySem.F.args_dict_valueiterator_next_1 _))))
 refine wpAny_bind (wpAny_pure (wpAny_bind (wpAny_bind ?_)))
 first|refine wpAny_bind (wpAny_typeNameOfWhole_valiter vi.typeIs (wpAny_pure ?_))|refine wpAny_bind (wpAny_typeNameOf_valiter vi.typeIs (wpAny_pure ?_))
 refine wpAny_bind (wpAny_fieldsOf i1 i3 ?_)
 simp only[own,Bool.false_eq_true,ite_false]
 show wpAny _ _ (if(Value.ref d==Value.none)=true then _ else _) _ _ s
 rw[if_neg (show ¬((Value.ref d==Value.none)=true) from fun z=>nomatch z)]
 refine wpAny_bind (wpAny_pure (wpAny_bind (wpAny_dictEntries r1 r3 ?_)))
 rw[if_neg (by simp:¬ _)]
 refine wpAny_bind (wpAny_pure (wpAny_bind (wpAny_dictEpoch r1 r3 ?_)))
 rw[if_neg (by simp:¬ _)]
 refine wpAny_pure ?_
 simp only[show ¬((i:Int)<0) by omega,ite_false,Int.toNat_natCast,hx]
 refine wpAny_bind ?_
 first|refine wpAny_bind (wpAny_typeNameOfWhole_valiter vi.typeIs (wpAny_pure ?_))|refine wpAny_bind (wpAny_typeNameOf_valiter vi.typeIs (wpAny_pure ?_))
 refine wpAny_bind (wpAny_isOneOf_valiter vi.typeIs ?_)
 show wpAny _ _ (setField (.ref it) 1 (rawInt ((i:Int)+1)) >>= _) _ _ s
 refine wpAny_bind (wpAny_setField i1 i3 (by simp) ?_)
 have vi2:(s.heap.update it (Obj.mapFields (·.setIfInBounds 1 (rawInt ((i:Int)+1))))).IsValIter it d (i+1) es.size ep:=⟨_,Heap.get?_update_self _ i1 (Obj.isFreed_of_fields (Obj.data_mapFields i3 _)),(Obj.cls_mapFields ..).trans i2,by rw[Obj.data_mapFields i3];simp[rawInt]⟩
 refine wpAny_bind (wpAny_holding (wpAny_bind (wpAny_isOneOf_valiter (s:={ s with heap:=s.heap.update it (Obj.mapFields (·.setIfInBounds 1 (rawInt ((i:Int)+1)))) }) vi2.typeIs ?_)))
 refine wpAny_bind (wpAny_isOneOf_valiter (s:={ s with heap:=s.heap.update it (Obj.mapFields (·.setIfInBounds 1 (rawInt ((i:Int)+1)))) }) vi2.typeIs ?_)
 exact wpAny_pure (wpAny_pure ⟨_,rfl,wpAny_pure (q _ vi2 (Heap.SameBut.update ..))⟩)
theorem HJ {Q:Option Value->Shared->Prop} (hh:A.handled=none) (vi:s.heap.IsValIter it d i es.size ep) (r:RawD s.heap d es ep) (hx:es.size<=i) (q:∀ h',Heap.ExtBut it s.heap h'->Q none { s with heap:=h' }):wpAny (model prog w) A (pyNext (.ref it)) Q E s:=by
 obtain⟨o,i1,i2,i3⟩:=id vi
 obtain⟨od,r1,r2,r3⟩:=id r
 have own:Builtin.Dict_items.ownsTuple "dict_valueiterator"=false:=by decide
 unfold pyNext
 refine wpAny_bind (wpAny_attempt (wpAny_callSpecial?_slot (name:=Str.ofString "__next__") vi.typeIs PySem.F.slot_dict_valueiterator_next (wpAny_call_entry PySem.F.slot_dict_valueiterator_next vi.typeIs PySem.F.entry_dict_valueiterator_next ?_ (PySem.F.args_dict_valueiterator_next_1 _))))
 refine wpAny_bind (wpAny_pure (wpAny_bind (wpAny_bind ?_)))
 first|refine wpAny_bind (wpAny_typeNameOfWhole_valiter vi.typeIs (wpAny_pure ?_))|refine wpAny_bind (wpAny_typeNameOf_valiter vi.typeIs (wpAny_pure ?_))
 refine wpAny_bind (wpAny_fieldsOf i1 i3 ?_)
 simp only[own,Bool.false_eq_true,ite_false]
 show wpAny _ _ (if(Value.ref d==Value.none)=true then _ else _) _ _ s
 rw[if_neg (show ¬((Value.ref d==Value.none)=true) from fun z=>nomatch z)]
 refine wpAny_bind (wpAny_pure (wpAny_bind (wpAny_dictEntries r1 r3 ?_)))
 rw[if_neg (by simp:¬ _)]
 refine wpAny_bind (wpAny_pure (wpAny_bind (wpAny_dictEpoch r1 r3 ?_)))
 rw[if_neg (by simp:¬ _)]
 refine wpAny_pure ?_
 simp only[show ¬((i:Int)<0) by omega,ite_false,Int.toNat_natCast,Array.getElem?_eq_none hx]
 refine wpAny_bind ?_
 first|refine wpAny_bind (wpAny_typeNameOfWhole_valiter vi.typeIs (wpAny_pure ?_))|refine wpAny_bind (wpAny_typeNameOf_valiter vi.typeIs (wpAny_pure ?_))
 show wpAny _ _ (setField (.ref it) 0 .none >>= _) _ _ s
 refine wpAny_bind (wpAny_setField i1 i3 (by simp) ?_)
 show wpAny _ _ (newExc (.type "StopIteration") [] >>= _) _ _ _
 refine wpAny_bind ?_
 simp only[newExc,newTuple]
 refine wpAny_bind (wpAny_newObj_type (wpAny_bind (m:=firstArgMember _ _) (wpAny_of_eq (a:=Value.none) (by first|rfl|(simp only[firstArgMember];rfl)) ?_)) (by size_fits))
 refine wpAny_newObj_type ?_ (by size_fits)
 simp only[raiseNew]
 refine wpAny_bind (wpAny_handled ?_)
 rw[show A.in1.handled=none from hh]
 refine wpAny_bind (wpAny_pure (wpAny_throw ?_))
 refine wpAny_bind (wpAny_isInstance (T:="StopIteration") (b:=true) ⟨_,(Heap.get?_push_size _ rfl),rfl⟩ isSubtype_stop ?_)
 exact wpAny_pure (q _ (((Heap.SameBut.update ..).extBut.push _).push _))
theorem Mi (hh:A.handled=none) (I:Addr) (hne:d≠I):Walks prog w A I [I,d] [I] es.size (fun i v=>∃ e,es[i]?=some e/\v=e.val) (fun i h=>h.IsValIter I d i es.size ep/\RawD h d es ep) where
 sub:=fun b hb=>by simp at hb;simp[hb]
 frame:=fun _ _ _ st hk=>⟨let ⟨o,e,z⟩:=st.1;⟨o,hk I (by simp) o e,z⟩,st.2.at fun o e=>hk d (by simp) o e⟩
 item:=fun i s Q E hi st hQ=>FE (e:=es[i]) st.1 st.2 (by simp[hi]) fun h' st' sb=>hQ _ h' s.toks ⟨es[i],by simp[hi],rfl⟩ ⟨st',st.2.at fun o e=>(sb.2 d hne).trans e⟩ fun b o hb e=>(sb.2 b fun z=>hb (by simp[z])).trans e
 done:=fun s Q E st hQ=>HJ hh st.1 st.2 (Nat.le_refl _) fun h' eb=>hQ h' s.toks fun b o hb e=>eb b o (fun z=>hb (by simp[z])) e
 self:=fun _ _ _ _ st hQ=>wpAny_pyIter_valiter st.1 hQ
theorem wS:PySem.W.KdlSrc prog w "dict_values" v d es.size (fun i x=>∃ e,es[i]?=some e/\x=e.val) (fun h=>h.IsValuesView v d/\RawD h d es ep) where
 type:=fun _ z=>z.1.typeIs
 there:=fun _ z=>⟨let ⟨_,e,_⟩:=z.1;Heap.lt_size e,z.2.lt⟩
 keep:=fun _ _ z hk=>⟨let ⟨o,e,x⟩:=z.1;⟨o,hk v (.inl rfl) o e,x⟩,z.2.at fun o e=>hk d (.inr rfl) o e⟩
 notList:=by decide
 notTuple:=by decide
 hint:=fun _ _ _ _ z hq=>PySem.W.kdl_hint_values z.1.typeIs hq
 iter:=fun _ _ hh z=>⟨_,_,(fun _ _ hq=>FF z.1 z.2 hq),Mi hh _ (Nat.ne_of_lt z.2.lt),⟨⟨_,Heap.get?_push_size _ rfl,rfl,rfl⟩,z.2.at fun o e=>Heap.get?_push_of_some _ e⟩⟩
theorem AC {Q:Value->Shared->Prop} (lo:(d==sysModules)=false) (r:RawD s.heap d es ep)
  (q:Q (.ref s.heap.objs.size) { s with heap:=s.heap.push { cls:=.type "dict_keyiterator",data:=.fields #[.ref d,.int 0 0,.int es.size 0,.int ep 0] } }):wpAny (model prog w) A (pyIter (.ref d)) Q E s:=by
 obtain⟨o,r1,r2,r3⟩:=id r
 refine wpAny_pyIter_slot r.typeIs PySem.F.slot_dict_iter (wpAny_call_entry PySem.F.slot_dict_iter r.typeIs PySem.F.entry_dict_iter ?_ (PySem.F.args_dict_iter_1 _))
 unfold Builtin.«dict.__iter__»
 refine wpAny_bind ?_
 unfold Builtin.Dict.dictSlotNone
 refine wpAny_bind (wpAny_notOrdered_dict r.typeIs ?_)
 show wpAny _ _ (pure (Value.ref d)) _ _ s
 refine wpAny_pure ?_
 show wpAny _ _ (Builtin.Dict.showsAll d >>= _) _ _ s
 unfold Builtin.Dict.showsAll
 rw[if_neg (show ¬((d==sysModules)=true) by rw[lo];exact Bool.false_ne_true)]
 refine wpAny_bind (wpAny_pure (wpAny_bind (wpAny_dictEntries r1 r3 (wpAny_bind (wpAny_dictEpoch r1 r3 ?_)))))
 refine wpAny_bind (wpAny_newObj_type (wpAny_pure ⟨_,rfl,"dict_keyiterator",_,⟨_,Heap.get?_push_size _ rfl,rfl⟩,PySem.F.slot_dict_keyiterator_next.lookup,?_⟩))
 simpa [rawInt] using q
theorem AB {e:DictEntry}{Q:Option Value->Shared->Prop} (vi:s.heap.IsKeyIter it d i es.size ep) (r:RawD s.heap d es ep) (hx:es[i]?=some e)
  (q:∀ h',h'.IsKeyIter it d (i+1) es.size ep->Heap.SameBut it s.heap h'->Q (some e.key) { s with heap:=h' }):wpAny (model prog w) A (pyNext (.ref it)) Q E s:=by
 obtain⟨o,i1,i2,i3⟩:=id vi
 obtain⟨od,r1,r2,r3⟩:=id r
 have lt:i<es.size:=(Array.getElem?_eq_some_iff.mp hx).1
 have own:Builtin.Dict_items.ownsTuple "dict_keyiterator"=false:=by decide
 unfold pyNext
 refine wpAny_bind (wpAny_attempt (wpAny_callSpecial?_slot (name:=Str.ofString "__next__") vi.typeIs PySem.F.slot_dict_keyiterator_next (wpAny_call_entry PySem.F.slot_dict_keyiterator_next vi.typeIs PySem.F.entry_dict_keyiterator_next ?_ (PySem.F.args_dict_keyiterator_next_1 _))))
 refine wpAny_bind (wpAny_pure (wpAny_bind (wpAny_bind ?_)))
 first|refine wpAny_bind (wpAny_typeNameOfWhole_keyiter vi.typeIs (wpAny_pure ?_))|refine wpAny_bind (wpAny_typeNameOf_keyiter vi.typeIs (wpAny_pure ?_))
 refine wpAny_bind (wpAny_fieldsOf i1 i3 ?_)
 simp only[own,Bool.false_eq_true,ite_false]
 show wpAny _ _ (if(Value.ref d==Value.none)=true then _ else _) _ _ s
 rw[if_neg (show ¬((Value.ref d==Value.none)=true) from fun z=>nomatch z)]
 refine wpAny_bind (wpAny_pure (wpAny_bind (wpAny_dictEntries r1 r3 ?_)))
 rw[if_neg (by simp:¬ _)]
 refine wpAny_bind (wpAny_pure (wpAny_bind (wpAny_dictEpoch r1 r3 ?_)))
 rw[if_neg (by simp:¬ _)]
 refine wpAny_pure ?_
 simp only[show ¬((i:Int)<0) by omega,ite_false,Int.toNat_natCast,hx]
 refine wpAny_bind ?_
 first|refine wpAny_bind (wpAny_typeNameOfWhole_keyiter vi.typeIs (wpAny_pure ?_))|refine wpAny_bind (wpAny_typeNameOf_keyiter vi.typeIs (wpAny_pure ?_))
 refine wpAny_bind (wpAny_isOneOf_keyiter vi.typeIs ?_)
 show wpAny _ _ (setField (.ref it) 1 (rawInt ((i:Int)+1)) >>= _) _ _ s
 refine wpAny_bind (wpAny_setField i1 i3 (by simp) ?_)
 have vi2:(s.heap.update it (Obj.mapFields (·.setIfInBounds 1 (rawInt ((i:Int)+1))))).IsKeyIter it d (i+1) es.size ep:=⟨_,Heap.get?_update_self _ i1 (Obj.isFreed_of_fields (Obj.data_mapFields i3 _)),(Obj.cls_mapFields ..).trans i2,by rw[Obj.data_mapFields i3];simp[rawInt]⟩
 refine wpAny_bind (wpAny_holding (wpAny_bind (wpAny_isOneOf_keyiter (s:={ s with heap:=s.heap.update it (Obj.mapFields (·.setIfInBounds 1 (rawInt ((i:Int)+1)))) }) vi2.typeIs ?_)))
 exact wpAny_pure (wpAny_pure ⟨_,rfl,wpAny_pure (q _ vi2 (Heap.SameBut.update ..))⟩)
theorem Dr {Q:Option Value->Shared->Prop} (hh:A.handled=none) (vi:s.heap.IsKeyIter it d i es.size ep) (r:RawD s.heap d es ep) (hx:es.size<=i) (q:∀ h',Heap.ExtBut it s.heap h'->Q none { s with heap:=h' }):wpAny (model prog w) A (pyNext (.ref it)) Q E s:=by
 obtain⟨o,i1,i2,i3⟩:=id vi
 obtain⟨od,r1,r2,r3⟩:=id r
 have own:Builtin.Dict_items.ownsTuple "dict_keyiterator"=false:=by decide
 unfold pyNext
 refine wpAny_bind (wpAny_attempt (wpAny_callSpecial?_slot (name:=Str.ofString "__next__") vi.typeIs PySem.F.slot_dict_keyiterator_next (wpAny_call_entry PySem.F.slot_dict_keyiterator_next vi.typeIs PySem.F.entry_dict_keyiterator_next ?_ (PySem.F.args_dict_keyiterator_next_1 _))))
 refine wpAny_bind (wpAny_pure (wpAny_bind (wpAny_bind ?_)))
 first|refine wpAny_bind (wpAny_typeNameOfWhole_keyiter vi.typeIs (wpAny_pure ?_))|refine wpAny_bind (wpAny_typeNameOf_keyiter vi.typeIs (wpAny_pure ?_))
 refine wpAny_bind (wpAny_fieldsOf i1 i3 ?_)
 simp only[own,Bool.false_eq_true,ite_false]
 show wpAny _ _ (if(Value.ref d==Value.none)=true then _ else _) _ _ s
 rw[if_neg (show ¬((Value.ref d==Value.none)=true) from fun z=>nomatch z)]
 refine wpAny_bind (wpAny_pure (wpAny_bind (wpAny_dictEntries r1 r3 ?_)))
 rw[if_neg (by simp:¬ _)]
 refine wpAny_bind (wpAny_pure (wpAny_bind (wpAny_dictEpoch r1 r3 ?_)))
 rw[if_neg (by simp:¬ _)]
 refine wpAny_pure ?_
 simp only[show ¬((i:Int)<0) by omega,ite_false,Int.toNat_natCast,Array.getElem?_eq_none hx]
 refine wpAny_bind ?_
 first|refine wpAny_bind (wpAny_typeNameOfWhole_keyiter vi.typeIs (wpAny_pure ?_))|refine wpAny_bind (wpAny_typeNameOf_keyiter vi.typeIs (wpAny_pure ?_))
 show wpAny _ _ (setField (.ref it) 0 .none >>= _) _ _ s
 refine wpAny_bind (wpAny_setField i1 i3 (by simp) ?_)
 show wpAny _ _ (newExc (.type "StopIteration") [] >>= _) _ _ _
 refine wpAny_bind ?_
 simp only[newExc,newTuple]
 refine wpAny_bind (wpAny_newObj_type (wpAny_bind (m:=firstArgMember _ _) (wpAny_of_eq (a:=Value.none) (by first|rfl|(simp only[firstArgMember];rfl)) ?_)) (by size_fits))
 refine wpAny_newObj_type ?_ (by size_fits)
 simp only[raiseNew]
 refine wpAny_bind (wpAny_handled ?_)
 rw[show A.in1.handled=none from hh]
 refine wpAny_bind (wpAny_pure (wpAny_throw ?_))
 refine wpAny_bind (wpAny_isInstance (T:="StopIteration") (b:=true) ⟨_,(Heap.get?_push_size _ rfl),rfl⟩ isSubtype_stop ?_)
 exact wpAny_pure (q _ (((Heap.SameBut.update ..).extBut.push _).push _))
theorem Mj (hh:A.handled=none) (I:Addr) (hne:d≠I):Walks prog w A I [I,d] [I] es.size (fun i v=>∃ e,es[i]?=some e/\v=e.key) (fun i h=>h.IsKeyIter I d i es.size ep/\RawD h d es ep) where
 sub:=fun b hb=>by simp at hb;simp[hb]
 frame:=fun _ _ _ st hk=>⟨let ⟨o,e,z⟩:=st.1;⟨o,hk I (by simp) o e,z⟩,st.2.at fun o e=>hk d (by simp) o e⟩
 item:=fun i s Q E hi st hQ=>AB (e:=es[i]) st.1 st.2 (by simp[hi]) fun h' st' sb=>hQ _ h' s.toks ⟨es[i],by simp[hi],rfl⟩ ⟨st',st.2.at fun o e=>(sb.2 d hne).trans e⟩ fun b o hb e=>(sb.2 b fun z=>hb (by simp[z])).trans e
 done:=fun s Q E st hQ=>Dr hh st.1 st.2 (Nat.le_refl _) fun h' eb=>hQ h' s.toks fun b o hb e=>eb b o (fun z=>hb (by simp[z])) e
 self:=fun _ _ _ _ st hQ=>wpAny_pyIter_keyiter st.1 hQ
theorem Dj (lo:(d==sysModules)=false):PySem.W.KdlSrc prog w "dict" d d es.size (fun i x=>∃ e,es[i]?=some e/\x=e.key) (fun h=>RawD h d es ep) where
 type:=fun _ z=>z.typeIs
 there:=fun _ z=>⟨z.lt,z.lt⟩
 keep:=fun _ _ z hk=>z.at fun o e=>hk d (.inl rfl) o e
 notList:=by decide
 notTuple:=by decide
 hint:=fun _ _ _ _ z hq=>PySem.W.kdl_hint_dict z.typeIs hq
 iter:=fun _ _ hh z=>⟨_,_,(fun _ _ hq=>AC lo z hq),Mj hh _ (Nat.ne_of_lt z.lt),⟨⟨_,Heap.get?_push_size _ rfl,rfl,rfl⟩,z.at fun o e=>Heap.get?_push_of_some _ e⟩⟩
end
end L2.MB
end
section
namespace L2.MB
open PySem PySem.Spec PyProof.Rows
theorem _root_.L2.Inv.laidN {X:Cx}{pins:List (Addr×Obj)}{σ:St}{H:Hp}{s:Shared}{h':Heap}{a:Addr}{o:HO}{t':Nat} (I:Inv X pins σ H s) (k:∀ b u,s.heap.get? b=some u->h'.get? b=some u) (n:s.heap.get? a=none) (new:ObjOk X.prog X.w (upd H a o) h' a o):
  H a=none/\Inv X pins σ (upd H a o) { s with heap:=h',toks:=t' }:=by
 have hn:H a=none:=by
  cases q:H a with
  |none=>rfl
  |some u=>
   obtain⟨v,w⟩:=HOk.obj I.hok q
   rw[n] at w
   cases w
 have ne:∀ {b:Addr}{u:Obj},s.heap.get? b=some u->b≠a:=fun e z=>by rw[z,n] at e;cases e
 refine⟨hn,I.un ⟨fun b u e _ _ _=>k b u e,fun b u e _ _ _=>⟨u.slots,k b u e⟩,fun b u e q _=>by rw[aM (ne e)];exact q,fun b u e _=>⟨u,k b u e⟩,fun b xs e=>by rw[aM (aQ e hn)];exact e,fun b u v e=>by rw[aM (aQ e hn)];exact e,fun b ps e=>⟨#[],by rw[aM (aQ e hn),e];simp⟩⟩ fun b u e=> ?_⟩
 by_cases hb:b=a
 ·subst hb
  rw[aS] at e
  cases e
  exact new
 ·rw[aM hb] at e
  exact(I.hok b u e).stay (fun c v _ q=>k c v q) (fun c q=>by rw[aM (aQ q hn)];exact q) fun c xs q=>by rw[aM (aQ q hn)];exact q
section
variable {prog:Program}{w:World}{A:Around}{E:Value->Shared->Prop}{s:Shared}
theorem OX {a:Addr}{vs:List Value}{n:Nat}{P:PySem.Fin->Shared->Prop} (ho:s.heap.get? a=some (seqObj "list" vs.toArray n)) (h1:vs.length<2)
  (h:P (.done (.ret .none)) { s with heap:=sortedHeap s.heap a vs ((vs.toArray.zip vs.toArray).map (·.2)) }):wpAny (model prog w) A (Builtin.«list.sort» ⟨[.ref a],[]⟩) P E s:=by
 have la:a<s.heap.objs.size:=Heap.lt_size ho
 have z:vs.toArray.size<2:=by rw[List.size_toArray];exact h1
 obtain⟨e1,o1⟩:∃ e1,(s.heap.update a (Obj.mapSeq fun _=> #[])).get? a=some (seqObj "list" #[] e1):=⟨_,get?_update_seq ho (fun _=> #[])⟩
 have o2:(((s.heap.update a (Obj.mapSeq fun _=> #[])).push (seqObj "tuple" vs.toArray 0)).push (seqObj "list" #[] 0)).get? a=some (seqObj "list" #[] e1):=Heap.get?_push_of_some _ (Heap.get?_push_of_some _ o1)
 rw[list_sort_plain]
 refine wpAny_bind (listItems_at ho rfl (wpAny_bind (listUpdate_at ho rfl (wpAny_bind (seqEpoch_at o1 rfl (wpAny_bind (wpAny_newTuple (wpAny_bind (wpAny_newList (wpAny_holding ?_))))))))))
 show wpAny (model prog w) A _ P E { s with heap:=((s.heap.update a (Obj.mapSeq fun _=> #[])).push (seqObj "tuple" vs.toArray 0)).push (seqObj "list" #[] 0) }
 dsimp only
 rw[if_pos z,if_pos z]
 refine wpAny_bind (wpAny_pure ?_)
 rw[StateT.run_pure]
 refine wpAny_bind (wpAny_pure ?_)
 dsimp only
 refine wpAny_bind (seqEpoch_at o2 rfl (wpAny_bind (listUpdate_at o2 rfl ?_ (hsz2:=by rw[Array.size_map];show(vs.toArray.zip vs.toArray).size<=_;rw[Array.size_zip,List.size_toArray,sizeLine_eq];omega))))
 simp only[bne_self_eq_false,Bool.false_eq_true,ite_false]
 exact wpAny_pure h
theorem Ca {r:Addr}{n:Nat}{P:Nat->Value->Prop}{Q:Value->Shared->Prop} (col:∀ {R:List Value->Shared->Prop},(∀(h':Heap) (tk:Nat) (acc:Array Value),(∀ b o,s.heap.get? b=some o->h'.get? b=some o)->ItemsOf P acc n->R acc.toList { s with heap:=h',toks:=tk })->wpAny (model prog w) A.in1 (collect (.ref r)) R E s) (hn:n<2)
  (h:∀(h':Heap) (tk:Nat) (vs:List Value) (a:Addr) (c:Nat),(∀ b o,s.heap.get? b=some o->h'.get? b=some o)->s.heap.get? a=none->vs.length=n->(∀(j:Nat) (v:Value),vs[j]?=some v->P j v)->h'.get? a=some (seqObj "list" vs.toArray c)->Q (.ref a) { s with heap:=h',toks:=tk }):
  wpAny (model prog w) A (call (.builtin "sorted") [.ref r]) Q E s:=by
 refine Calls.call_function_entry kind_sorted plain_sorted entry_sorted (args_sorted1 _) ?_
 unfold Builtin.«sorted»
 refine wpAny_bind (m:=checkCount "sorted" 1 1 _) (wpAny_pure (wpAny_bind (col fun h1 tk acc kp it=> ?_)))
 have hl:acc.toList.length=n:=by rw[Array.length_toList];exact it.1
 refine wpAny_bind (wpAny_newList ?_ (by rw[hl,sizeLine_eq];omega))
 have o1:(h1.push (seqObj "list" acc.toList.toArray 0)).get? h1.objs.size=some (seqObj "list" acc.toList.toArray 0):=Heap.get?_push_size _ rfl
 refine wpAny_bind (wpAny_holding (wpAny_call_entry slot_list_sort ⟨_,o1,rfl⟩ entry_list_sort (OX (s:={ s with heap:=h1.push (seqObj "list" acc.toList.toArray 0),toks:=tk }) o1 (by rw[hl];exact hn) ⟨_,rfl,?_⟩) (args_list_sort _)))
 have nw:s.heap.get? h1.objs.size=none:=by
  cases q:s.heap.get? h1.objs.size with
  |none=>rfl
  |some u=>exact absurd (Heap.lt_size (kp _ _ q)) (Nat.lt_irrefl _)
 have ez:(acc.toList.toArray.zip acc.toList.toArray).map (·.2)=acc.toList.toArray:=by
  apply Array.ext'
  rw[Array.toList_map,Array.toList_zip]
  simp[List.map_snd_zip]
 have ne:∀ b,b≠h1.objs.size->∀ o,h1.get? b=some o->(sortedHeap (h1.push (seqObj "list" acc.toList.toArray 0)) h1.objs.size acc.toList ((acc.toList.toArray.zip acc.toList.toArray).map (·.2))).get? b=some o:=fun b hb o e=>by
  unfold sortedHeap
  rw[Heap.get?_update_other _ _ (Ne.symm hb)]
  refine Heap.get?_push_of_some _ (Heap.get?_push_of_some _ ?_)
  rw[Heap.get?_update_other _ _ (Ne.symm hb)]
  exact Heap.get?_push_of_some _ e
 have o2:=get?_update_seq o1 (fun _=> #[])
 have o3:=get?_update_seq (Heap.get?_push_of_some (seqObj "list" #[] 0) (Heap.get?_push_of_some (seqObj "tuple" acc.toList.toArray 0) o2)) (fun _=>(acc.toList.toArray.zip acc.toList.toArray).map (·.2))
 have o4:∃ c,(sortedHeap (h1.push (seqObj "list" acc.toList.toArray 0)) h1.objs.size acc.toList ((acc.toList.toArray.zip acc.toList.toArray).map (·.2))).get? h1.objs.size=some (seqObj "list" acc.toList.toArray c):=by
  unfold sortedHeap
  rw[ez] at o3 ⊢
  exact⟨_,o3⟩
 obtain⟨c,o4⟩:=o4
 exact wpAny_pure ⟨_,rfl,h _ tk acc.toList h1.objs.size c (fun b o e=>ne b (fun z=>by rw[z,nw] at e;cases e) o (kp b o e)) nw hl (fun j v e=>it.2 j v (by rw[<- Array.getElem?_toList];exact e)) o4⟩
theorem tP {T:String}{r d:Addr}{n:Nat}{P:Nat->Value->Prop}{OK:Heap->Prop}{Q:Value->Shared->Prop} (K:PySem.W.KdlSrc prog w T r d n P OK) (hh:A.handled=none) (hok:OK s.heap) (hn:n<2)
  (h:∀(h':Heap) (tk:Nat) (vs:List Value) (a:Addr) (c:Nat),(∀ b o,s.heap.get? b=some o->h'.get? b=some o)->s.heap.get? a=none->vs.length=n->(∀(j:Nat) (v:Value),vs[j]?=some v->P j v)->h'.get? a=some (seqObj "list" vs.toArray c)->Q (.ref a) { s with heap:=h',toks:=tk }):
  wpAny (model prog w) A (call (.builtin "sorted") [.ref r]) Q E s:=
 Ca (fun h=>PySem.W.kdu_collect (A:=A.in1) K hh hok (by rw[sizeLine_eq];omega) h) hn h
end
end L2.MB
end
section
namespace L2.MB
open PySem PySem.Spec PyProof.Rows
abbrev lf (g:D->D->Option D):Om->D->D->Option (D×Om):=fun ω a b=>pu (g a b) ω
abbrev lfL (g:List D->Option D):Om->List D->Option (D×Om):=fun ω a=>pu (g a) ω
def Nv {α:Type}:OG α:=fun _ _=>none
def Mv:OS:=fun _ _=>none
def eN (ω:Om) (d:D):Option (List D):=match d with
 |.lst ds=>some ds
 |.obj n=>match ω[n]? with
  |some (.ml ds)=>some ds
  |_=>none
 |_=>none
theorem pB {ω:Om}{d:D}{ds:List D} (h:eN ω d=some ds):d=.lst ds∨∃ n,d=.obj n/\ω[n]?=some (.ml ds):=by
 cases d with
 |lst xs=>cases h;exact .inl rfl
 |obj n=>
  have h':(match ω[n]? with
   |some (.ml ds)=>some ds
   |_=>none)=some ds:=h
  split at h'
  ·cases h'
   exact .inr ⟨n,rfl,‹_›⟩
  ·cases h'
 |_=>cases h
theorem jG {cls:Nat->Addr}{K:PySem.W.Frag}{ok:Okk}{H:Hp}{ω:Om}{d:D}{ds:List D}{v:V} (t:Stt cls K ok H ω) (r:Rep K ok H v d) (e:eN ω d=some ds):∃ a xs,v=.ref a/\H a=some (.lst xs)/\Reps K ok H xs ds:=by
 rcases pB e with rfl|⟨n,rfl,e1⟩
 ·obtain⟨a,xs,rfl,g,rs⟩:=r.lst_inv
  exact⟨a,xs,rfl,g.2,rs⟩
 ·obtain⟨a,rfl,e2,xs,e3,rs⟩:=t.ref r e1
  exact⟨a,xs,rfl,e3,rs⟩
section
variable {X:Cx}{cls exC:Nat->Addr}{E:XE}{e a b c o i value:Expr}{es rest:List Expr}{fa fb fc fo fi fv:OG D}{fl:OG (List D)}{ft ft':OG Bool}{pos p apos pos':Pos}{x m:Str}{st:Stmt}
theorem KJ:OSt X cls E st Mv:=fun _ _ _ _ _ _ ⟨_,_,_,_,_,_,z,_⟩=>nomatch z
theorem nE (ha:OE X cls E a fa) (hb:OE X cls E b fb):OE X cls E (.BinOp a .Add b pos) (o2 (lf vZ) fa fb):=AH Np (Fit2.lift (rW fun _ _ _ _=>.int _)) ha hb
theorem rO (ha:OE X cls E a fa) (hb:OE X cls E b fb):OE X cls E (.BinOp a .Sub b pos) (o2 (lf gSub) fa fb):=AH Nf (Fit2.lift (rW fun _ _ _ _=>.int _)) ha hb
theorem gU (ha:OE X cls E a fa) (hb:OE X cls E b fb):OE X cls E (.BinOp a .Mult b pos) (o2 (lf jF) fa fb):=AH Ni (Fit2.lift (NW (fun i j h=>by unfold CMul;omega) fun _ _ _ _=>.int _)) ha hb
theorem cF (ha:OE X cls E a fa) (hb:OE X cls E b fb):OE X cls E (.BinOp a .Mod b pos) (o2 (lf cW) fa fb):=AH Nj (Fit2.lift (NW (fun _ _ h=>h) fun _ _ _ _=>.int _)) ha hb
theorem Pk (ha:OE X cls E a fa) (hb:OE X cls E b fb):OE X cls E (.Compare a [.LtE] [b] pos) (o2 (lf gLe) fa fb):=Dw Nl (Fit2.lift (rW fun _ _ _ _=>.bl _)) ha hb (pR _)
theorem Pn (ha:OE X cls E a fa) (hb:OE X cls E b fb):OE X cls E (.Compare a [.Gt] [b] pos) (o2 (lf gGt) fa fb):=Dw Nn (Fit2.lift (rW fun _ _ _ _=>.bl _)) ha hb (pR _)
theorem HY (ha:OE X cls E a fa) (hb:OE X cls E b fb):OT X cls E (.Compare a [.Lt] [b] pos) (eJ (o2 (lf gLt) fa fb)):=xC Nk (Fit2.lift (rW fun _ _ _ _=>.bl _)) ha hb (pR _)
theorem KH (ha:OE X cls E a fa) (hb:OE X cls E b fb):OT X cls E (.Compare a [.Gt] [b] pos) (eJ (o2 (lf gGt) fa fb)):=xC Nn (Fit2.lift (rW fun _ _ _ _=>.bl _)) ha hb (pR _)
theorem Nt (ha:OE X cls E a fa) (hb:OE X cls E b fb):OE X cls E (.Compare a [.Is] [b] pos) (o2 (lf NR) fa fb):=Dw JK (Fit2.lift GL) ha hb (pR _)
theorem Nc (ha:OE X cls E a fa) (hb:OE X cls E b fb):OT X cls E (.Compare a [.Is] [b] pos) (eJ (o2 (lf NR) fa fb)):=xC JK (Fit2.lift GL) ha hb (pR _)
theorem Ph {n:Nat} (hu:LZ X (n+1)) (ha:OE X cls E a fa) (hb:OE X cls E b fb) (hm:behindInMarks .In b=false:=by with_unfolding_all rfl):OT X cls E (.Compare a [.In] [b] pos) (eJ (o2 (lf (gIn n)) fa fb)):=xC (Nm hu) (Fit2.lift NV) ha hb hm
def xD (g g':D->D->Option D) (fa fb fc:OG D):OG Bool:=oB fa fun x=>oB fb fun y ρ ω=>match (g x y).bind toB with
 |none=>none
 |some true=>oB fc (fun z _ ω=>oR (pu ((g' y z).bind toB) ω)) ρ ω
 |some false=>some (.ok false,ω)
theorem FR {op op':CmpOp}{r r':R2}{g g':D->D->Option D} (ho:OpR X (compareOp op) r) (F:Fit2 X.K r g) (ho':OpR X (compareOp op') r') (F':Fit2 X.K r' g') (ha:OE X cls E a fa) (hb:OE X cls E b fb) (hc:OE X cls E c fc)
  (hm:lastMarks [op,op'] [b,c]=false:=by with_unfolding_all rfl):OT X cls E (.Compare a [op,op'] [b,c] pos) (xD g g' fa fb fc):=(HQ ho ho' ha hb hc hm).imp fun σ H Q ⟨ok,ρ,ω,rz,ω',P,e,q⟩=>by
 refine tO.then_ P e (fun c z=>by subst z;exact q) fun x ω1 v ok1 H1 e1 n1 P1 r1=> ?_
 refine tO.then_ P1 e1 (fun c z=>by subst z;exact exR.nw q n1) fun y ω2 u ok2 H2 e2 n2 P2 r2=> ?_
 cases hg:(g x y).bind toB with
 |none=>rw[hg] at e2;cases e2
 |some k=>
  rw[hg] at e2
  obtain⟨dk,g1,g2⟩:=aX hg
  obtain rfl:=tL g2
  refine F ok2 H2 v u x y _ _ P2.okh (r1.ex n2.ex) r2 g1 fun w H3 s3 r3=>⟨k,r3.bl_inv,?_⟩
  have n3:Nw cls X.K ok2 H2 ok2 H3 ω2:=.same P2.okh P2.st s3
  cases k with
  |false=>
   cases e2
   exact Mc ⟨false,rfl,q ok2 H3 (n1.trans (n2.trans n3))⟩
  |true=>
   refine Mb (tO.then_ (P2.nw n3) e2 (fun c z=>by subst z;exact exR.nw q (n1.trans (n2.trans n3))) fun z ω4 w4 ok4 H4 e4 n4 P4 r4=> ?_)
   obtain⟨k',e5,rfl⟩:=cS e4
   obtain⟨ue5,rfl⟩:=dF e5
   obtain⟨dk',g3,g4⟩:=aX ue5
   obtain rfl:=tL g4
   exact F' ok4 H4 u w4 y z _ _ P4.okh ((r2.ex n3.ex).ex n4.ex) r4 g3 fun w5 H5 s5 r5=>⟨k',r5.bl_inv,q ok4 H5 (n1.trans (n2.trans (n3.trans (n4.trans (.same P4.okh P4.st s5)))))⟩
theorem NU {K:PySem.W.Frag}:Fit2 K (rI0 fun i j=>.bl (decide (i<=j))) gLe:=rW fun _ _ _ _=>.bl _
theorem NT {K:PySem.W.Frag}:Fit2 K (rI0 fun i j=>.bl (decide (i<j))) gLt:=rW fun _ _ _ _=>.bl _
theorem KG (ha:OE X cls E a fa) (hb:OE X cls E b fb) (hc:OE X cls E c fc) (hm:lastMarks [.LtE,.Lt] [b,c]=false:=by with_unfolding_all rfl):OT X cls E (.Compare a [.LtE,.Lt] [b,c] pos) (xD gLe gLt fa fb fc):=FR Nl NU Nk NT ha hb hc hm
def Er (f g:OG D):OG D:=oB f fun d ρ ω=>match toB d with
 |none=>none
 |some true=>g ρ ω
 |some false=>some (.ok (.bl false),ω)
def La (f:OG D):OG D:=oB f fun d _ ω=>oR (pu (QN d) ω)
theorem Dv {op} (h:OE X cls E a fa):OE X cls E (.BoolOp op [a] pos) fa:=MS h
theorem AI (ha:OE X cls E a fa) (hb:OE X cls E (.BoolOp .And (b::rest) pos) fb):OE X cls E (.BoolOp .And (a::b::rest) pos) (Er fa fb):=(MZ ha hb).imp fun σ H Q ⟨ok,ρ,ω,r,ω',P,e,q⟩=>by
 refine tO.then_ P e (fun c z=>by subst z;exact q) fun d ω1 v ok1 H1 e1 n1 P1 r1=> ?_
 cases hd:toB d with
 |none=>rw[hd] at e1;cases e1
 |some k=>
  rw[hd] at e1
  obtain rfl:=tL hd
  refine⟨k,r1.bl_inv,?_⟩
  cases k with
  |true=>exact Mb ⟨ok1,ρ,ω1,r,ω',P1,e1,by
   cases r with
   |ok d=>exact fun v ok' H' n r=>q v ok' H' (n1.trans n) r
   |ex c=>exact exR.nw q n1⟩
  |false=>
   cases e1
   exact Mc (q _ ok1 H1 n1 (.bl false))
theorem JM (ha:OE X cls E a fa):OE X cls E (.UnaryOp .Not a pos) (La fa):=(MT ha).imp fun σ H Q ⟨ok,ρ,ω,r,ω',P,e,q⟩=>by
 refine tO.then_ P e (fun c z=>by subst z;exact q) fun d ω1 v ok1 H1 e1 n1 P1 r1=> ?_
 obtain⟨y,e3,rfl⟩:=cS e1
 obtain⟨ue3,rfl⟩:=dF e3
 obtain⟨k,e4,rfl⟩:=aN (show(toB d).map _=some y from ue3)
 obtain rfl:=tL e4
 exact⟨k,r1.bl_inv,q _ ok1 H1 n1 (.bl _)⟩
def NS (ω:Om) (a b:D):Option (D×Om):=(eN ω a).bind fun xs=>(eN ω b).bind fun ys=>if xs.length+ys.length<=sizeLine then some (.lst (xs++ys),ω) else none
theorem Nu (ha:OE X cls E a fa) (hb:OE X cls E b fb):OE X cls E (.BinOp a .Add b pos) (o2 NS fa fb):=AH No (fun ok H ω x y a b d ω' Q h1 st ra rb e k=>by
 obtain⟨xs,e1,e⟩:=aX e
 obtain⟨ys,e2,e⟩:=aX e
 obtain⟨hz,e3⟩:=bU e
 cases e3
 obtain⟨a1,us,rfl,g1,r1⟩:=jG st ra e1
 obtain⟨b1,ws,rfl,g2,r2⟩:=jG st rb e2
 exact⟨a1,b1,us,ws,rfl,rfl,g1,g2,by rw[r1.length,r2.length];exact hz,fun p n=>k _ ok _ (.same h1 st (dE n)) (.lst_new (h1 p n) n (r1.append r2))⟩) ha hb
theorem Reps.rep {K:PySem.W.Frag}{ok:Okk}{H:Hp}{vs:List V}{ds:List D} (h:Reps K ok H vs ds):∀ k:Nat,Reps K ok H (List.replicate k vs).flatten (List.replicate k ds).flatten
 |0=>.nil
 |k+1=>by
  rw[List.replicate_succ,List.replicate_succ,List.flatten_cons,List.flatten_cons]
  exact h.append (Reps.rep h k)
def IM (ω:Om) (a b:D):Option (D×Om):=(eN ω a).bind fun xs=>(toI b).bind fun k=>if -1000000<=k/\k<=1000000/\xs.length*k.toNat<=sizeLine then some (.obj ω.length,ω++[.ml (List.replicate k.toNat xs).flatten]) else none
theorem KP (ha:OE X cls E a fa) (hb:OE X cls E b fb):OE X cls E (.BinOp a .Mult b pos) (o2 IM fa fb):=AH Ng (fun ok H ω x y a b d ω' Q h1 st ra rb e k=>by
 obtain⟨xs,e1,e⟩:=aX e
 obtain⟨kk,e2,e⟩:=aX e
 obtain⟨hz,e3⟩:=bU e
 cases e3
 obtain rfl:=BV e2
 obtain⟨a1,us,rfl,g1,r1⟩:=jG st ra e1
 exact⟨a1,kk,us,rfl,rb.int_inv,g1,by omega,by omega,by rw[r1.length];exact hz.2.2,fun p n=>k _ _ _ (.ml h1 st n (r1.rep kk.toNat)) .new_obj⟩) ha hb
def eE (ω:Om) (ds:List D):Option (D×Om):=match ds with
 |[d]=>match eN ω d with
  |some xs=>some (.int xs.length,ω)
  |none=>pu (Pw [d]) ω
 |_=>none
theorem cN {K:PySem.W.Frag}:BM cls K (fun xs H Q=>∃ x n,xs=[x]/\PU K x H n/\Q (.int n) H) eE:=fun ok H ω xs as d ω' Q h1 st r e k=>by
 unfold eE at e
 split at e
 ·split at e
  ·rename_i d0 ys hs
   cases e
   obtain⟨v,rfl,r1⟩:=r.one_inv
   obtain⟨a,us,rfl,g,rs⟩:=jG st r1 hs
   exact⟨_,_,rfl,.inl ⟨_,SqL.of g,rs.length.symm⟩,k _ ok H (.refl h1 st) (.int _)⟩
  ·exact FitL.lift (cls:=cls) LC ok H ω xs _ d ω' Q h1 st r e k
 ·cases e
def dO (ω:Om) (d:D):Option (List D):=match d with
 |.tup ds=>some ds
 |d=>eN ω d
theorem EC {K:PySem.W.Frag}{ok:Okk}{H:Hp}{ω:Om}{d:D}{ds:List D}{v:V} (t:Stt cls K ok H ω) (r:Rep K ok H v d) (e:dO ω d=some ds):∃ a xs,v=.ref a/\(SqL K H a xs∨SqT K H a xs)/\Reps K ok H xs ds:=by
 cases d with
 |tup xs=>
  cases e
  obtain⟨a,ys,rfl,g,rs⟩:=r.tup_inv
  exact⟨a,ys,rfl,.inr g.sq,rs⟩
 |lst xs=>
  obtain⟨a,ys,rfl,g,rs⟩:=jG t r (show eN ω (.lst xs)=some ds from e)
  exact⟨a,ys,rfl,.inl (SqL.of g),rs⟩
 |obj n=>
  obtain⟨a,ys,rfl,g,rs⟩:=jG t r (show eN ω (.obj n)=some ds from e)
  exact⟨a,ys,rfl,.inl (SqL.of g),rs⟩
 |_=>cases e
def kU (ω:Om) (ds:List D):Option (D×Om):=match ds with
 |[d]=>(dO ω d).map fun xs=>(.lst xs,ω)
 |_=>none
theorem iE {K:PySem.W.Frag}:BM cls K (fun xs H Q=>∃ p ys,xs=[.ref p]/\(SqL K H p ys∨SqT K H p ys)/\∀ l,H l=none->Q (.ref l) (upd H l (.lst ys))) kU:=fun ok H ω xs as d ω' Q h1 st r e k=>by
 unfold kU at e
 split at e
 ·obtain⟨ys,e1,e2⟩:=aN e
  cases e2
  obtain⟨v,rfl,r1⟩:=r.one_inv
  obtain⟨a,us,rfl,g,rs⟩:=EC st r1 e1
  exact⟨a,us,rfl,g,fun l n=>k _ ok _ (.same h1 st (dE n)) (.lst_new (h1 l n) n rs)⟩
 ·cases e
def IJ (ω:Om) (ds:List D):Option (D×Om):=match ds with
 |[d]=>(eN ω d).map fun xs=>(.tup xs,ω)
 |_=>none
theorem IT {K:PySem.W.Frag}:BM cls K (fun xs H Q=>∃ p ys,xs=[.ref p]/\((SqL K H p ys/\∀ l,H l=none->Q (.ref l) (upd H l (.tup ys)))∨(SqT K H p ys/\Q (.ref p) H))) IJ:=fun ok H ω xs as d ω' Q h1 st r e k=>by
 unfold IJ at e
 split at e
 ·obtain⟨ys,e1,e2⟩:=aN e
  cases e2
  obtain⟨v,rfl,r1⟩:=r.one_inv
  obtain⟨a,us,rfl,g,rs⟩:=jG st r1 e1
  exact⟨a,us,rfl,.inl ⟨SqL.of g,fun l n=>k _ ok _ (.same h1 st (dE n)) (.tup_new (h1 l n) n rs)⟩⟩
 ·cases e
def NN (ω:Om) (a:D) (lo hi:Option Int):Option D:=match eN ω a with
 |some ds=>some (.lst (EU ds lo hi))
 |none=>gSl a lo hi
def oSl (f:OG D) (l u:DO):OG D:=oB f fun a ρ ω=>(l ρ).bind fun lo=>(u ρ).bind fun hi=>oR (pu (NN ω a lo hi) ω)
theorem sY {lo hi:Option Expr}{l u:DO}{p2:Pos} (he:OE X cls E e fa) (hl:DOp X lo l) (hu:DOp X hi u):OE X cls E (.Subscript e (.Slice lo hi none p2) pos) (oSl fa l u):=(HU (sl_list.or Mu) he hl hu).imp fun σ H Q ⟨ok,ρ,ω,r,ω',P,e,q⟩=>by
 refine tO.then_ P e (fun c z=>by subst z;exact q) fun a ω1 v ok1 H1 e1 n1 P1 r1=> ?_
 obtain⟨il,g1,e1⟩:=aX e1
 obtain⟨ih,g2,e1⟩:=aX e1
 obtain⟨d,e3,rfl⟩:=cS e1
 obtain⟨ue3,rfl⟩:=dF e3
 refine⟨ok1,ρ,il,P1.okh,P1.env,g1,fun H2 s2=>⟨ok1,ρ,ih,P1.okh.same s2,P1.env.same s2,g2,fun H3 s3=> ?_⟩⟩
 have sx:=s2.trans s3
 have ra:=r1.same sx
 have st3:=P1.st.same sx
 have okh:=P1.okh.same sx
 have q':∀ v H',Same H3 H'->Rep X.K ok1 H' v d->Q v H':=fun v H' s r=>q v ok1 H' (n1.trans (.same P1.okh P1.st (sx.trans s))) r
 unfold NN at ue3
 cases hs:eN ω' a with
 |some ds=>
  rw[hs] at ue3
  cases ue3
  obtain⟨p,xs,rfl,g,rs⟩:=jG st3 ra hs
  exact .inl ⟨p,xs,rfl,SqL.of g,fun p' n=>q' _ _ (dE n) (.lst_new (okh p' n) n (rs.cut il ih))⟩
 |none=>
  rw[hs] at ue3
  have ue4:gSl a il ih=some d:=ue3
  cases a with
  |lst ds=>cases hs
  |scr ds=>
   cases ue4
   obtain⟨p,xs,rfl,g,rs⟩:=ra.scr_inv
   exact .inl ⟨p,xs,rfl,g.sq,fun p' n=>q' _ _ (dE n) (.lst_new (okh p' n) n (rs.cut il ih))⟩
  |tup ds=>
   have h3':(if HT.sIx ds.length 0 il=0/\HT.sIx ds.length ds.length ih=ds.length then none else some (D.tup (EU ds il ih)))=some d:=ue4
   obtain⟨p,xs,rfl,g,rs⟩:=ra.tup_inv
   by_cases hw:HT.sIx ds.length 0 il=0/\HT.sIx ds.length ds.length ih=ds.length
   ·rw[if_pos hw] at h3'
    cases h3'
   ·rw[if_neg hw] at h3'
    cases h3'
    exact .inr ⟨p,xs,rfl,g.sq,by rw[rs.length];exact hw,fun p' n=>q' _ _ (dE n) (.tup_new (okh p' n) n (rs.cut il ih))⟩
  |_=>cases ue4
end
end L2.MB
end
section
namespace L2.MB
open PySem PySem.Spec PyProof.Rows
def rS (T:String) (ω:Om) (d:D):Option Bool:=match eN ω d with
 |some ds=>qS T (.lst ds)
 |none=>qS T d
def Ll (ω:Om) (d:D):Option Bool:=match eN ω d with
 |some _=>some true
 |none=>if fS d=true then none else some (match d with|.tup _=>true|_=>false)
theorem Iu {K:PySem.W.Frag}{d:D} (h:fS d=false):PySem.W.kitAny K (.type (tyD d)) [.type "list",.type "tuple"]=some (match d with|.lst _=>true|.tup _=>true|_=>false):=by
 cases d <;> first|rfl|cases h
theorem Rep.wide {K:PySem.W.Frag}{ok:Okk}{H:Hp}{v:V}{d:D} (r:Rep K ok H v d):Rep K ⟨fun _=>True,ok.al⟩ H v d:=Rep.mono (ok:=ok) (ok':=⟨fun _=>True,ok.al⟩) (fun _ _ _ e=>⟨trivial,e⟩) (fun _ _ h=>h) r
theorem Reps.wide {K:PySem.W.Frag}{ok:Okk}{H:Hp}{v:List V}{d:List D} (r:Reps K ok H v d):Reps K ⟨fun _=>True,ok.al⟩ H v d:=Reps.mono (ok:=ok) (ok':=⟨fun _=>True,ok.al⟩) (fun _ _ _ e=>⟨trivial,e⟩) (fun _ _ h=>h) r
theorem tQ {cls:Nat->Addr}{K:PySem.W.Frag}{ok:Okk}{H:Hp}{ω:Om}{d:D}{ds:List D}{v:V} (t:Stt cls K ok H ω) (r:Rep K ok H v d) (e:eN ω d=some ds):Rep K ⟨fun _=>True,ok.al⟩ H v (.lst ds):=by
 obtain⟨a,xs,rfl,g,rs⟩:=jG t r e
 exact .lst ⟨trivial,g⟩ rs.wide
section
variable {X:Cx}{cls exC:Nat->Addr}{E:XE}{e a b c o i value:Expr}{es rest:List Expr}{fa fb fc fo fi fv:OG D}{fl:OG (List D)}{ft ft':OG Bool}{pos p apos pos' cpos:Pos}{x m:Str}{st:Stmt}
def rP (T:String) (f:OG D):OG D:=oB f fun d _ ω=>oR (pu ((rS T ω d).map D.bl) ω)
theorem Lk {K:PySem.W.Frag}{ok:Okk}{H:Hp}{ω:Om}{d:D}{v:V}{T:String}{k:Bool} (t:Stt cls K ok H ω) (r:Rep K ok H v d) (e:rS T ω d=some k):∃ d',Rep K ⟨fun _=>True,ok.al⟩ H v d'/\qS T d'=some k:=by
 unfold rS at e
 cases hs:eN ω d with
 |some ds=>rw[hs] at e;exact⟨_,tQ t r hs,e⟩
 |none=>rw[hs] at e;exact⟨d,r.wide,e⟩
theorem dM {T:Str}{Tn:String}{p2:Pos} (he:OE X cls E e fa) (hg:Gl X "isinstance") (hm:X.mg "isinstance"=none) (hgT:Gl X T) (hmT:X.mg T=none) (hv:bootBuiltins T=some (.type Tn)) (hn:T≠"__name__":=by decide) (hdb:(T==("__debug__":Str))=false:=by decide)
  (h1:starEach [e,.Name T p2] X.env=(false,eval e X.env)::starEach [.Name T p2] X.env:=by rfl) (h2:starEach [.Name T p2] X.env=(false,eval (.Name T p2) X.env)::starEach [] X.env:=by rfl) (hpl:(backTo pos (starEach [.Name T p2] X.env)).any (·.1)=false:=by rfl):
  OE X cls E (.Call (.Name "isinstance" p) [e,.Name T p2] [] pos) (rP Tn fa):=
 (sV Jk hg hm (by decide+kernel) (jT he (jT (Cg (v:=.ty Tn) hgT hmT hv rfl hn hdb) xB h2) h1) (by decide) (by decide) h1 hpl).imp fun σ H Q ⟨ok,ρ,ω,r,ω',P,e,q⟩=>by
  refine tO.then_ P e (fun c z=>by subst z;exact q) fun d ω1 v ok1 H1 e1 n1 P1 r1=> ?_
  obtain⟨y,e3,rfl⟩:=cS e1
  obtain⟨ue3,rfl⟩:=dF e3
  obtain⟨k,e4,rfl⟩:=aN ue3
  obtain⟨d',rd,e5⟩:=Lk P1.st r1 e4
  exact⟨v,Tn,d',_,k,rfl,rd,e5,q _ ok1 H1 n1 (.bl _)⟩
def Pa (K:PySem.W.Frag):List V->Hp->VK->Prop:=fun xs H Q=>∃ x t d ok,xs=[x,.ref t]/\H t=some (.tup [.ty "list",.ty "tuple"])/\Rep K ok H x d/\fS d=false/\Q (.bl (match d with|.lst _=>true|.tup _=>true|_=>false)) H
theorem Hc:CallR X (.builtin "isinstance") (Pa X.K):=by
 intro pins s σ H xs us Q I r h
 obtain⟨x,t,d,ok,rfl,ht,q,e,hq⟩:=h
 obtain⟨u,w',rfl,ru,rw'⟩:=Ff r
 cases rw'
 obtain⟨its,rt,⟨ot,t1,t2,n,t3⟩,_⟩:=I.tuple (show SqT X.K H t _ from .inl (.inl ht))
 have hit:its=[Value.type "list",Value.type "tuple"]:=by
  cases rt with
  |cons a1 b1=>cases b1 with
   |cons a2 b2=>cases b2;cases a1;cases a2;rfl
 subst hit
 obtain⟨oc,od,odt,osl⟩:=ot
 dsimp only at t2 t3
 subst t2 t3
 have fin:∀ tk,EP X pins σ Q (.bool (match d with|.lst _=>true|.tup _=>true|_=>false)) { s with toks:=tk }:=fun tk=>⟨.bl _,H,I.tok _,rfl,hq⟩
 have ek:=Iu (K:=X.K) e
 cases q with
 |non=>cases ru;exact PySem.W.kia_tup PySem.W.kitx_none I.kIn True.intro t1 ek (fun z=>nomatch z) fin
 |bl b=>cases ru;exact PySem.W.kia_tup PySem.W.kitx_bool I.kIn True.intro t1 ek (fun z=>nomatch z) fin
 |int i=>obtain⟨t',rfl⟩:=ru;exact PySem.W.kia_tup PySem.W.kitx_int I.kIn True.intro t1 ek (fun z=>nomatch z) fin
 |str z=>obtain⟨t',rfl⟩:=ru;exact PySem.W.kia_tup PySem.W.kitx_str I.kIn True.intro t1 ek (fun z=>nomatch z) fin
 |lst g r=>
  cases ru
  obtain⟨its,_,⟨o,n,e1,c1,_,_⟩,_⟩:=I.list g.sq
  exact PySem.W.kia_tup PySem.W.kitx_list I.kIn ⟨o,e1,c1⟩ t1 ek (fun z=>nomatch z) fin
 |tup g r=>
  cases ru
  obtain⟨its,_,⟨o,e1,c1,_⟩,_⟩:=I.tuple g.sq
  exact PySem.W.kia_tup PySem.W.kitx_tuple I.kIn ⟨o,e1,c1⟩ t1 ek (fun z=>nomatch z) fin
 |obj _=>cases e
 |scr _ _=>cases e
def Ic (f:OG D):OG D:=oB f fun d _ ω=>oR (pu ((Ll ω d).map D.bl) ω)
theorem Ix {K:PySem.W.Frag}{ok:Okk}{H:Hp}{ω:Om}{d:D}{v:V}{k:Bool} (t:Stt cls K ok H ω) (r:Rep K ok H v d) (e:Ll ω d=some k):∃ d',Rep K ⟨fun _=>True,ok.al⟩ H v d'/\fS d'=false/\(match d' with|.lst _=>true|.tup _=>true|_=>false)=k:=by
 unfold Ll at e
 cases hs:eN ω d with
 |some ds=>rw[hs] at e;cases e;exact⟨_,tQ t r hs,rfl,rfl⟩
 |none=>
  rw[hs] at e
  cases d with
  |lst ds=>cases hs
  |obj n=>cases e
  |scr n=>cases e
  |non=>cases e;exact⟨_,r.wide,rfl,rfl⟩
  |bl z=>cases e;exact⟨_,r.wide,rfl,rfl⟩
  |int z=>cases e;exact⟨_,r.wide,rfl,rfl⟩
  |str z=>cases e;exact⟨_,r.wide,rfl,rfl⟩
  |tup z=>cases e;exact⟨_,r.wide,rfl,rfl⟩
theorem KW {p2 p3 p4:Pos}{k4:Nat} (he:OE X cls E e fa) (hg:Gl X "isinstance") (hm:X.mg "isinstance"=none) (hgL:Gl X "list") (hmL:X.mg "list"=none) (hgT:Gl X "tuple") (hmT:X.mg "tuple"=none)
  (h1:starEach [e,.Tuple [.Name "list" p2,.Name "tuple" p3] k4 p4] X.env=(false,eval e X.env)::starEach [.Tuple [.Name "list" p2,.Name "tuple" p3] k4 p4] X.env:=by rfl)
  (h2:starEach [.Tuple [.Name "list" p2,.Name "tuple" p3] k4 p4] X.env=(false,eval (.Tuple [.Name "list" p2,.Name "tuple" p3] k4 p4) X.env)::starEach [] X.env:=by rfl)
  (h3:starEach [.Name "list" p2,.Name "tuple" p3] X.env=(false,eval (.Name "list" p2) X.env)::starEach [.Name "tuple" p3] X.env:=by rfl) (h4:starEach [.Name "tuple" p3] X.env=(false,eval (.Name "tuple" p3) X.env)::starEach [] X.env:=by rfl)
  (hpl:(backTo pos (starEach [.Tuple [.Name "list" p2,.Name "tuple" p3] k4 p4] X.env)).any (·.1)=false:=by rfl):
  OE X cls E (.Call (.Name "isinstance" p) [e,.Tuple [.Name "list" p2,.Name "tuple" p3] k4 p4] [] pos) (Ic fa):=
 (sV Hc hg hm (by decide+kernel) (jT he (jT (JD (jT (Cg (v:=.ty "list") hgL hmL boot.list rfl) (jT (Cg (v:=.ty "tuple") hgT hmT boot.tuple rfl) xB h4) h3)) xB h2) h1) (by decide) (by decide) h1 hpl).imp fun σ H Q ⟨ok,ρ,ω,r,ω',P,e,q⟩=>by
  refine tO.then_ P e (fun c z=>by subst z;exact q) fun d ω1 v ok1 H1 e1 n1 P1 r1=> ?_
  obtain⟨y,e3,rfl⟩:=cS e1
  obtain⟨ue3,rfl⟩:=dF e3
  obtain⟨k,e4,rfl⟩:=aN ue3
  refine⟨by show 2<=sizeLine;decide,fun t n=> ?_⟩
  have n2:Nw cls X.K ok1 H1 ok1 (upd H1 t (.tup [.ty "list",.ty "tuple"])) ω':=.same P1.okh P1.st (dE n)
  obtain⟨d',rd,e5,e6⟩:=Ix n2.st (r1.ex n2.ex) e4
  refine⟨v,t,d',_,rfl,aS,rd,e5,?_⟩
  rw[e6]
  exact q _ ok1 _ (n1.trans n2) (.bl _)
def ED (ω:Om) (d:D):Bool:=match cellOf ω d with
 |some (.ml _)=>true
 |_=>false
theorem Gr {ω:Om}{d:D} (h:ED ω d=true):∃ n ds,d=.obj n/\ω[n]?=some (.ml ds):=by
 unfold ED at h
 split at h
 ·obtain⟨n,rfl,e⟩:=eL ‹_›
  exact⟨n,_,rfl,e⟩
 ·cases h
def AJ (g:Om->D->List D->Option (D×Om)) (fo:OG D) (fl:OG (List D)):OG D:=oB fo fun d ρ ω=>if ED ω d=true then oB fl (fun ds _ ω=>oR (g ω d ds)) ρ ω else none
def Hr (cls:Nat->Addr) (K:PySem.W.Frag) (r:V->List V->Hp->VK->Prop) (g:Om->D->List D->Option (D×Om)):Prop:=∀(ok:Okk) (H:Hp) (ω:Om) (x:V) (xs:List V) (a:D) (as:List D) (d:D) (ω':Om) (Q:VK),OkH ok H->Stt cls K ok H ω->Rep K ok H x a->Reps K ok H xs as->g ω a as=some (d,ω')->
 (∀ v ok' H',Nw cls K ok H ok' H' ω'->Rep K ok' H' v d->Q v H')->r x xs H Q
theorem Pj {id:String}{r:V->List V->Hp->VK->Prop}{g:Om->D->List D->Option (D×Om)} (slot:Slot "list" m id) (hty:typeOf (.builtin id)=pure (.type "method_descriptor")) (hm:MtR X id r) (F:Hr cls X.K r g) (ho:OE X cls E o fo) (ha:OA X cls E (e::es) fl)
  (hbase:attributeBase o m X.env (eval o X.env)=eval o X.env:=by rfl)
  (hfew:((backTo cpos (starEach (e::es) X.env)).all (fun x=> !x.1)&&(backToKw cpos (keywordEach [] X.env)).all (fun x=>x.1.isSome)
   &&decide ((e::es).length+([]:List Keyword).length+(if([]:List Keyword).isEmpty then 0 else 1)<30))=true:=by rfl)
  (hline:(apos.endLine==cpos.line)=true:=by rfl) (hs:starEach (e::es) X.env=(false,eval e X.env)::starEach es X.env:=by rfl) (hplain:(backTo cpos (starEach es X.env)).any (·.1)=false:=by rfl):
  OE X cls E (.Call (.Attribute o m apos) (e::es) [] cpos) (AJ g fo fl):=
 (MY PySem.F.plainAttrs_list slot hty hm ho ha hbase hfew hline hs hplain).imp fun σ H Q ⟨ok,ρ,ω,r,ω',P,e,q⟩=>by
  refine tO.then_ P e (fun c z=>by subst z;exact q) fun d ω1 v ok1 H1 e1 n1 P1 r1=> ?_
  obtain⟨hi,e1⟩:=eB e1
  obtain⟨n,ds0,rfl,e2⟩:=Gr hi
  obtain⟨a,rfl,e4,xs,e5,rs⟩:=P1.st.ref r1 e2
  refine⟨.inl ⟨rfl,xs,SqL.of e5⟩,?_⟩
  refine tOA.then_ P1 e1 (fun c z=>by subst z;exact exR.nw q n1) fun ds ω2 us ok2 H2 e6 n2 P2 r2=> ?_
  obtain⟨y,e7,rfl⟩:=cS e6
  exact F ok2 H2 ω2 _ us _ ds y ω' Q P2.okh P2.st (r1.ex n2.ex) r2 e7 fun w ok3 H3 n3 r3=>q w ok3 H3 (n1.trans (n2.trans n3)) r3
def EN (ω:Om) (d:D) (as:List D):Option (D×Om):=match d,as with
 |.obj n,[v]=>match ω[n]? with
  |some (.ml ds)=>if ds.length<sizeLine then some (.non,ω.set n (.ml (ds++[v]))) else none
  |_=>none
 |_,_=>none
theorem GK {ω ω':Om}{d y:D}{as:List D} (h:EN ω d as=some (y,ω')):∃ n v ds,d=.obj n/\as=[v]/\ω[n]?=some (.ml ds)/\ds.length<sizeLine/\y=.non/\ω'=ω.set n (.ml (ds++[v])):=by
 unfold EN at h
 split at h
 ·split at h
  ·obtain⟨hz,e3⟩:=bU h
   cases e3
   exact⟨_,_,_,rfl,rfl,‹_›,hz,rfl,rfl⟩
  ·cases h
 ·cases h
theorem LG {K:PySem.W.Frag}:Hr cls K FG EN:=fun ok H ω x xs a as d ω' Q h1 st ra rs e k=>by
 obtain⟨n,v,ds,rfl,rfl,hc,hz,rfl,rfl⟩:=GK e
 obtain⟨a1,rfl,e4,us,e5,r5⟩:=st.ref ra hc
 obtain⟨w,rfl,rw'⟩:=rs.one_inv
 refine⟨a1,us,w,rfl,rfl,e5,by rw[r5.length];exact hz,?_⟩
 exact k _ ok _ (Nw.write (o:=.lst (us++[w])) (ob:=.ml (ds++[v])) h1 st e4 e5 fun dat=>⟨_,aS,(r5.snoc rw').mono dat⟩) .non
theorem FX (ho:OE X cls E o fo) (ha:OA X cls E [e] fl) (hbase:attributeBase o "append" X.env (eval o X.env)=eval o X.env:=by rfl)
  (hfew:((backTo cpos (starEach [e] X.env)).all (fun x=> !x.1)&&(backToKw cpos (keywordEach [] X.env)).all (fun x=>x.1.isSome)
   &&decide ([e].length+([]:List Keyword).length+(if([]:List Keyword).isEmpty then 0 else 1)<30))=true:=by rfl)
  (hline:(apos.endLine==cpos.line)=true:=by rfl) (hs:starEach [e] X.env=(false,eval e X.env)::starEach [] X.env:=by rfl) (hplain:(backTo cpos (starEach [] X.env)).any (·.1)=false:=by rfl):
  OE X cls E (.Call (.Attribute o "append" apos) [e] [] cpos) (AJ EN fo fl):=Pj PySem.F.slot_list_append PySem.F.type_list_append (fun pins s σ H x xs v us Q=>AN pins s σ H x xs v us Q) LG ho ha hbase hfew hline hs hplain
end
end L2.MB
end
section
namespace L2.MB
open PySem PySem.Spec PyProof.Rows
theorem Paired.get2 {α β:Type}{F:α->β->Prop}:∀ {l:List α}{l':List β}{i:Nat}{b:β},Paired F l l'->l'[i]?=some b->∃ a,l[i]?=some a/\F a b
 |_,_,_,_,.nil,e=>by simp at e
 |_,_,0,_,.cons r _,e=>by simp at e;subst e;exact⟨_,rfl,r⟩
 |_,_,i+1,b,.cons _ t,e=>by
  obtain⟨a,h1,h2⟩:=Paired.get2 (i:=i) (b:=b) t (by simpa using e)
  exact⟨a,by simpa using h1,h2⟩
section
variable {X:Cx}{pins:List (Addr×Obj)}{σ:St}{H:Hp}{s:Shared}{d:Addr}{kvs:List (List Key×V)}
theorem uZ (I:Inv X pins σ H s) (e:Rd H d (.dT kvs)):(d==sysModules)=false/\kvs.length<=sizeLine/\∃ es ep,RawD s.heap d es ep/\es.size=kvs.length/\
  ∀(i:Nat) (y:DictEntry),es[i]?=some y->∃ p,kvs[i]?=some p/\RelV p.2 y.val/\∃ a,y.key=.ref a/\H a=some (.tup (p.1.map kV)):=by
 obtain⟨z,lo,xs,pr,o,es,ep,h1,h2,h3,h4,h5⟩:=(show ObjOk X.prog X.w H s.heap d (.dT kvs) from e.ok I.hok)
 have hl:es.size=kvs.length:=by
  have:=congrArg List.length h4
  rw[List.length_map,Array.length_toList] at this
  rw[this,<- Paired.length pr]
 refine⟨lo,z,es,ep,⟨o,h1,h2,h3⟩,hl,fun i y hy=> ?_⟩
 have hy':(xs.map (entryOfKey (tupleKind (aR X.prog X.w))))[i]?=some y:=by rw[<- h4,Array.getElem?_toList];exact hy
 rw[List.getElem?_map] at hy'
 obtain⟨q,q1,q2⟩:=aN hy'
 obtain⟨p,p1,p2,p3,p4⟩:=Paired.get2 pr q1
 subst q2
 exact⟨p,p1,p4,q.2.1,rfl,p3⟩
end
def Ma (v d:Addr):HO:=.ext fun h=>h.IsValuesView v d
section
variable {X:Cx}{cls exC:Nat->Addr}{E:XE}{e a b c o i value:Expr}{es rest:List Expr}{fa fb fc fo fi fv:OG D}{fl:OG (List D)}{ft ft':OG Bool}{pos p apos pos' cpos:Pos}{x m:Str}{st:Stmt}
theorem Gf:MtR X "dict.values" fun x xs H Q=>∃ d kvs,x=.ref d/\xs=[]/\H d=some (.dT kvs)/\∀ p,H p=none->Q (.ref p) (upd H p (Ma p d)):=by
 intro pins s σ H x xs v us Q I rx rs h
 obtain⟨d,kvs,rfl,rfl,hd,q⟩:=h
 cases rx
 cases rs
 obtain⟨lo,_,es,ep,r,_,_⟩:=uZ I (.inl hd)
 refine En lo r ?_
 have e1:(s.heap.push { cls:=.type "dict_values",data:=.fields #[.ref d] }).get? s.heap.objs.size=some { cls:=.type "dict_values",data:=.fields #[.ref d] }:=Heap.get?_push_size _ rfl
 refine⟨.ref _,_,I.laid (t':=s.toks) (fun b u q=>Heap.get?_push_of_some _ q) (Nat.le_refl _) ?_,rfl,q _ (I.hok.fresh (Nat.le_refl _))⟩
 exact⟨⟨_,e1,rfl,rfl⟩,⟨_,e1⟩,fun h1 h2 z k=>let ⟨o,y1,y2⟩:=z;⟨o,k o y1,y2⟩⟩
theorem DD {P:Program}{w:World}{H:Hp}{h:Heap}{a:Addr}{xs:List V}{vs:List Value}{c:Nat} (r:Vals xs vs) (hz:xs.length<=sizeLine) (e:h.get? a=some (seqObj "list" vs.toArray c)):ObjOk P w H h a (.lst xs):=⟨hz,vs,c,r,e⟩
theorem Fe {xs:List V}{vs:List Value} (hl:vs.length=xs.length) (h:∀(j:Nat) (v:Value),vs[j]?=some v->∃ x,xs[j]?=some x/\RelV x v):Vals xs vs:=by
 induction vs generalizing xs with
 |nil=>
  cases xs with
  |nil=>exact .nil
  |cons _ _=>cases hl
 |cons v vs ih=>
  cases xs with
  |nil=>cases hl
  |cons x xs=>
   obtain⟨y,e,r⟩:=h 0 v rfl
   simp at e
   subst e
   exact .cons r (ih (by simpa using hl) fun j u hu=>by simpa using h (j+1) u (by simpa using hu))
theorem By (hc:X.calm=true):CallR X (.builtin "sorted") (fun xs H Q=>∃ v d kvs,xs=[.ref v]/\H v=some (Ma v d)/\H d=some (.dT kvs)/\kvs.length<2/\∀ l,H l=none->Q (.ref l) (upd H l (.lst (kvs.map (·.2))))):=by
 intro pins s σ H xs us Q I r h
 obtain⟨v,d,kvs,rfl,hv,hd,hl,q⟩:=h
 obtain⟨u,rfl,rx⟩:=sD r
 cases rx
 obtain⟨lo,hz,es,ep,rd,sz,it⟩:=uZ I (.inl hd)
 have vw:s.heap.IsValuesView v d:=(show ObjOk X.prog X.w H s.heap v (Ma v d) from I.hok v _ hv).1
 refine tP (wS (d:=d) (es:=es) (ep:=ep)) (I.ok.hd hc) ⟨vw,rd⟩ (by rw[sz];exact hl) fun h' tk vs a c kp na hlen hP ha=> ?_
 have rv:Vals (kvs.map (·.2)) vs:=Fe (by rw[hlen,sz,List.length_map]) fun j w hw=>by
  obtain⟨y,y1,y2⟩:=hP j w hw
  obtain⟨p,p1,p2,_⟩:=it j y y1
  exact⟨p.2,by rw[List.getElem?_map,p1];rfl,by rw[y2];exact p2⟩
 obtain⟨hn,I'⟩:=I.laidN (t':=tk) kp na (DD (H:=upd H a (.lst (kvs.map (·.2)))) rv (by rw[List.length_map];exact hz) ha)
 exact⟨.ref a,_,I',rfl,q a hn⟩
end
end L2.MB
end
section
namespace L2.MB
open PySem PySem.Spec PyProof.Rows
section
variable {X:Cx}{pins:List (Addr×Obj)}{σ:St}{H:Hp}{s:Shared}{d:Addr}{kvs:List (List Key×V)}{o:Obj}
theorem DI {P:Program}{w:World}{h:Heap}{u u':HO} (x:HOk P w H h) (hd:H d=some u) (h1:∀ y,u≠ .own y) (h2:∀ ys,u≠ .tup ys) (new:ObjOk P w (upd H d u') h d u'):HOk P w (upd H d u') h:=fun b v e=>by
 by_cases hb:b=d
 ·subst hb
  rw[aS] at e
  cases e
  exact new
 ·rw[aM hb] at e
  exact(x b v e).stay (fun c q _ z=>z) (fun c q=>by rw[aM (fun z=>by rw[z,hd] at q;exact h1 _ (Option.some.inj q))];exact q) fun c xs q=>by rw[aM (fun z=>by rw[z,hd] at q;exact h2 _ (Option.some.inj q))];exact q
theorem Dx {P:Program}{w:World}{h:Heap}{u u' v:HO}{b:Addr} (x:ObjOk P w H h b v) (hd:H d=some u) (h1:∀ y,u≠ .own y) (h2:∀ ys,u≠ .tup ys):ObjOk P w (upd H d u') h b v:=
 x.stay (fun c q _ z=>z) (fun c q=>by rw[aM (fun z=>by rw[z,hd] at q;exact h1 _ (Option.some.inj q))];exact q) fun c xs q=>by rw[aM (fun z=>by rw[z,hd] at q;exact h2 _ (Option.some.inj q))];exact q
theorem _root_.L2.Inv.frozen (I:Inv X pins σ H s) (hd:H d=some (.dT kvs)) (ho:s.heap.get? d=some o):Inv X pins σ (upd H d (.frz o (.dT kvs))) s:=by
 have nn:∀ b,H b=none->upd H d (.frz o (.dT kvs)) b=none:=fun b e=>by rw[aM (fun z=>by rw[z,hd] at e;cases e)];exact e
 refine⟨I.ok,I.os,I.bare,⟨I.base.keep,I.base.slot,fun b u e n x=>nn b (I.base.free b u e n x),I.base.there,fun b xs e=> ?_,fun b u v e=> ?_,fun b ps e=> ?_⟩,I.loc,I.cell,nn _ I.free,fun x c e=>nn _ (I.freeC x c e),fun p hp=> ?_,DI I.hok hd (fun _ z=>nomatch z) (fun _ z=>nomatch z) ⟨ho,Dx (I.hok d _ hd) hd (fun _ z=>nomatch z) (fun _ z=>nomatch z)⟩,I.len⟩
 ·have z:=I.base.tups b xs e
  rw[aM (fun q=>by rw[q,hd] at z;cases z)]
  exact z
 ·have z:=I.base.frzs b u v e
  rw[aM (fun q=>by rw[q,hd] at z;cases z)]
  exact z
 ·obtain⟨m,z⟩:=I.base.tbls b ps e
  exact⟨m,by rw[aM (fun q=>by rw[q,hd] at z;cases z)];exact z⟩
 ·obtain⟨z1,z2,z3⟩:=I.pin p hp
  exact⟨z1,nn _ z2,z3⟩
theorem _root_.L2.Inv.thawed (I:Inv X pins σ H s) (hd:H d=some (.frz o (.dT kvs))) (hn:∀ o u,X.H₀ d≠some (.frz o u)):Inv X pins σ (upd H d (.dT kvs)) s:=by
 have nn:∀ b,H b=none->upd H d (.dT kvs) b=none:=fun b e=>by rw[aM (fun z=>by rw[z,hd] at e;cases e)];exact e
 refine⟨I.ok,I.os,I.bare,⟨I.base.keep,I.base.slot,fun b u e n x=>nn b (I.base.free b u e n x),I.base.there,fun b xs e=> ?_,fun b u v e=> ?_,fun b ps e=> ?_⟩,I.loc,I.cell,nn _ I.free,fun x c e=>nn _ (I.freeC x c e),fun p hp=> ?_,DI I.hok hd (fun _ z=>nomatch z) (fun _ z=>nomatch z) (Dx (show ObjOk X.prog X.w H s.heap d (.dT kvs) from(I.hok d _ hd).2) hd (fun _ z=>nomatch z) (fun _ z=>nomatch z)),I.len⟩
 ·have z:=I.base.tups b xs e
  rw[aM (fun q=>by rw[q,hd] at z;cases z)]
  exact z
 ·have z:=I.base.frzs b u v e
  rw[aM (fun q=>hn u v (by rw[<- q];exact e))]
  exact z
 ·obtain⟨m,z⟩:=I.base.tbls b ps e
  exact⟨m,by rw[aM (fun q=>by rw[q,hd] at z;cases z)];exact z⟩
 ·obtain⟨z1,z2,z3⟩:=I.pin p hp
  exact⟨z1,nn _ z2,z3⟩
end
def Itk (d:Addr) (o:Obj) (kvs:List (List Key×V)):It:=
 ⟨fun i H=>H d=some (.frz o (.dT kvs))/\i<kvs.length,fun i H x H'=>H'=H/\∃ b p,x=.ref b/\kvs[i]?=some p/\H b=some (.tup (p.1.map kV)),fun i H=>H d=some (.frz o (.dT kvs))/\kvs.length<=i⟩
theorem Fl {P:Program}{w:World}{K:PySem.W.Frag}{tg:Expr} (d it:Addr) (o:Obj) (kvs:List (List Key×V)) (es:Array DictEntry) (ep:Nat) (hod:o.data=.dict es ep) (hsz:es.size=kvs.length):LX P w K tg (Itk d o kvs) [it] it (fun i h=>h.IsKeyIter it d i es.size ep) where
 mem:=by simp
 obj:=fun i h st b hb=>by
  have e:b=it:=by simpa using hb
  subst e
  obtain⟨o,e,c,d⟩:=st
  exact⟨o,e,fun v z=>by rw[d] at z;cases z⟩
 keep:=fun i h h' st k=>let ⟨o,e,z⟩:=st;⟨o,k it (by simp) o e,z⟩
 item:=by
  intro X hP hw hK hc i pins s σ H E I hf st hg
  subst hP hw hK
  obtain⟨hd,hi⟩:=hg
  obtain⟨f0,f1,f2,f3,f4,f5⟩:=hf it (by simp)
  obtain⟨lo,_,es',ep',⟨o',r1,r2,r3⟩,sz,its⟩:=uZ I (.inr ⟨o,hd⟩)
  have ho:s.heap.get? d=some o:=(I.hok d _ hd).1
  rw[ho] at r1
  cases r1
  rw[hod] at r3
  cases r3
  have hi':i<es.size:=by rw[hsz];exact hi
  obtain⟨p,p1,_,a,p2,p3⟩:=its i es[i] (by simp[hi'])
  refine AB (e:=es[i]) st ⟨o,ho,r2,hod⟩ (by simp[hi']) fun h' st' sb=> ?_
  have I1:Inv X pins σ H { s with heap:=h' }:=I.turned (t':=s.toks) (fun b o hb e=>(sb.2 b hb).trans e) f0 f1 f3 f4 f5
  obtain⟨oi,e1,c1,d1⟩:=id st'
  exact⟨_,rfl,IH (s:={ s with heap:=h' }) e1 c1 d1 (by decide) ⟨.ref a,H,I1,p2,⟨rfl,a,p,rfl,p1,p3⟩,st',fun b hb=>(hf b hb).1⟩⟩
 done:=by
  intro X hP hw hK hc i pins s σ H E I hf st hg
  subst hP hw hK
  obtain⟨hd,hi⟩:=hg
  obtain⟨f0,f1,f2,f3,f4,f5⟩:=hf it (by simp)
  obtain⟨lo,_,es',ep',⟨o',r1,r2,r3⟩,sz,its⟩:=uZ I (.inr ⟨o,hd⟩)
  have ho:s.heap.get? d=some o:=(I.hok d _ hd).1
  rw[ho] at r1
  cases r1
  exact Dr (I.ok.hd hc) st ⟨o,ho,r2,hod⟩ (by rw[hsz];exact hi) fun h' eb=>⟨rfl,I.turned (t':=s.toks) (fun b o hb e=>eb b o hb e) f0 f1 f3 f4 f5⟩
 self:=fun _ _ _ _ _ st h=>wpAny_pyIter_keyiter st h
def NM (H₀:Hp) (to:TE):TI:=fun σ H R=>to σ H fun x H1=>∃ d kvs,x=.ref d/\H1 d=some (.dT kvs)/\∀ o,(∀ o' u,H₀ d≠some (.frz o' u))->R (Itk d o kvs) (upd H1 d (.frz o (.dT kvs)))
section
variable {X:Cx}{cls exC:Nat->Addr}{E:XE}{e a b c o i value tg iter:Expr}{es rest:List Expr}{fa fb fc fo fi fv:OG D}{fl:OG (List D)}{ft ft':OG Bool}{pos p apos pos' cpos:Pos}{x m:Str}{st:Stmt}{body:List Stmt}{F:OS}
theorem Kx {to:TE} (ho:PE X iter to):PI X tg iter (NM X.H₀ to):=by
 intro pins s σ H R I h
 refine thn (ho pins s σ H _ I h) fun v s1 ⟨x,H1,I1,rx,d,kvs,ex,hd,q⟩=> ?_
 subst ex
 cases rx
 obtain⟨lo,_,es,ep,⟨o,r1,r2,r3⟩,sz,its⟩:=uZ I1 (.inl hd)
 have nf:∀ o' u,X.H₀ d≠some (.frz o' u):=fun o' u z=>by
  have:=I1.base.frzs d o' u z
  rw[hd] at this
  cases this
 have I2:=I1.frozen hd r1
 refine AC lo ⟨o,r1,r2,r3⟩ ?_
 have nd:d≠s1.heap.objs.size:=Nat.ne_of_lt (Heap.lt_size r1)
 have hn:upd H1 d (.frz o (.dT kvs)) s1.heap.objs.size=none:=by rw[aM (Ne.symm nd)];exact I1.hok.fresh (Nat.le_refl _)
 refine⟨s1.heap.objs.size,[s1.heap.objs.size],_,Itk d o kvs,_,rfl,I2.kept (t':=s1.toks) (fun b u e=>Heap.get?_push_of_some _ e),Fl d _ o kvs es ep r3 sz,⟨_,Heap.get?_push_size _ rfl,rfl,rfl⟩,fun b hb=> ?_,q o nf⟩
 have e:b=s1.heap.objs.size:=by simpa using hb
 subst e
 exact(I1.fpOk (Nat.le_refl _) hn)
def LK (H₀:Hp) (D:Dc):Dc:={ nx:=fun σ H=>∃ d o kvs,H d=some (.frz o (.dT kvs))/\(∀ o' u,H₀ d≠some (.frz o' u))/\D.nx σ (upd H d (.dT kvs)),rt:=fun _ _=>False }
theorem Kq {to:TE}{g:TG}{tb:TS} (hp:PassesOwn (model X.prog X.w) X.A X.env X.xe) (hc:X.calm=true) (ho:PE X iter to) (hg:PG X tg g) (hb:PSs X body tb) (hs:∀ x,foldedSetIterable iter X.env x=pure x:=by intro _;rfl):
  PS X (.For tg iter body [] pos) (fun D σ H=>OO (NM X.H₀ to) g tb (LK X.H₀ D) σ H):=fun pins s σ H D I h=>by
 refine thn (JA (pos:=pos) hp hc (Kx ho) hg hb hs pins s σ H (LK X.H₀ D) I h) fun f s' z=> ?_
 cases f with
 |next=>
  obtain⟨σ',H',I',d,o,kvs,h1,h2,h3⟩:=z
  exact⟨σ',_,I'.thawed h1 h2,h3⟩
 |brk=>obtain⟨_,_,_,q⟩:=z;exact q.elim
 |cont=>obtain⟨_,_,_,q⟩:=z;exact q.elim
 |ret u=>obtain⟨_,_,_,_,_,q⟩:=z;exact q.elim
def cR (k:List Key):D:=.tup (k.map ofK)
def wY:List (List Key×D)->List (List Key×D)->Bool
 |[],[]=>true
 |a::as,b::bs=>decide (a.1=b.1)&&gO a.2 b.2&&wY as bs
 |_,_=>false
theorem Ay:∀ {a b:List (List Key×D)},wY a b=true->a=b
 |[],[],_=>rfl
 |[],_::_,h=>nomatch h
 |_::_,[],h=>nomatch h
 |a::as,b::bs,h=>by
  simp only[wY,Bool.and_eq_true,decide_eq_true_eq] at h
  rw[Ay h.2,show a=b from Prod.ext h.1.1 (Dn _ _ h.1.2)]
def AX (n:Nat) (kvs:List (List Key×D)) (ω:Om):Bool:=match ω[n]? with
 |some (.dz k)=>wY k kvs
 |_=>false
theorem Iz {n:Nat}{kvs:List (List Key×D)}{ω:Om} (h:AX n kvs ω=true):ω[n]?=some (.dz kvs):=by
 unfold AX at h
 split at h
 ·rename_i k e
  rw[Ay h] at e
  exact e
 ·cases h
def CA (ω:Om) (d:D):Option (Nat×List (List Key×D)):=match d with
 |.obj n=>match ω[n]? with
  |some (.dt kvs)=>some (n,kvs)
  |_=>none
 |_=>none
theorem GJ {ω:Om}{d:D}{n:Nat}{kvs:List (List Key×D)} (h:CA ω d=some (n,kvs)):d=.obj n/\ω[n]?=some (.dt kvs):=by
 unfold CA at h
 split at h
 ·split at h
  ·cases h;exact⟨rfl,‹_›⟩
  ·cases h
 ·cases h
def Kk (fo:OG D) (bd:BR) (F:OS):OS:=oX fo fun d ρ ω=>(CA ω d).bind fun p=>match dU bd (AX p.1 p.2) F (p.2.map fun kv=>cR kv.1) ρ (ω.set p.1 (.dz p.2)) with
 |some (.nx ρ',ω')=>if AX p.1 p.2 ω'=true then some (.nx ρ',ω'.set p.1 (.dt p.2)) else none
 |_=>none
theorem NF {K:PySem.W.Frag}{ok:Okk}{H:Hp} (k:Key):Rep K ok H (kV k) (ofK k):=by
 cases k with
 |inl i=>exact .int i
 |inr x=>exact .str x
theorem Cp {K:PySem.W.Frag}{ok:Okk}{H:Hp}:∀ ks:List Key,Reps K ok H (ks.map kV) (ks.map ofK)
 |[]=>.nil
 |k::ks=>.cons (NF k) (Cp ks)
end
end L2.MB
end
section
namespace L2.MB
open PySem PySem.Spec PyProof.Rows
section
variable {X:Cx}{cls exC:Nat->Addr}{E:XE}{e a b c o i value tg iter:Expr}{es rest:List Expr}{fa fb fc fo fi fv:OG D}{fl:OG (List D)}{ft ft':OG Bool}{pos p apos pos' cpos:Pos}{x m:Str}{st:Stmt}{body:List Stmt}{F:OS}
def Qz (fo:OG D):OS:=oX fo fun d ρ ω=>match CA ω d with
 |some (_,[])=>some (.nx ρ,ω)
 |_=>none
def oIA (g:List D->Option (List D)) (f:OG (List D)):OI':=oB f fun ds _ ω=>oR (pu ((g ds).map fun xs=>(xs,dH)) ω)
theorem jD (hg:Gl X "range") (hm:X.mg "range"=none) (ha:OA X cls E [a] fl) (hs:starEach [a] X.env=[(false,eval a X.env)]:=by rfl):OI X cls E tg (.Call (.Name "range" p) [a] [] pos) (oIA sJ fl):=
 PI.imp (FK hg hm ha hs) fun σ H R ⟨ok,ρ,ω,r,ω',P,e,q⟩=>by
  refine tOA.then_ P e (fun c z=>by subst z;exact q) fun ds ω1 vs ok1 H1 e1 n1 P1 r1=> ?_
  obtain⟨⟨dz,chk⟩,e3,rfl⟩:=cS e1
  obtain⟨ue3,rfl⟩:=dF e3
  obtain⟨xs,e4,e5⟩:=aN ue3
  cases e5
  unfold sJ at e4
  split at e4
  ·obtain⟨⟨hl,hh⟩,rfl⟩:=bU e4
   obtain⟨v,rfl,rv⟩:=r1.one_inv
   obtain rfl:=rv.int_inv
   exact⟨_,rfl,by omega,by omega,q _ ok1 H1 n1 itD_range.toO⟩
  ·cases e4
end
def lS (K:PySem.W.Frag) (ns:List Str) (n:Nat):Addr:=match PySem.W.nsIn K mainGlobals (ns.getD n "") with
 |some (some (.ref a))=>a
 |_=>0
theorem tI {K:PySem.W.Frag}{ns:List Str}{n:Nat}{x:Str}{a:Addr} (hx:ns.getD n ""=x) (h:PySem.W.nsIn K mainGlobals x=some (some (.ref a))):lS K ns n=a:=by
 unfold lS
 rw[hx,h]
structure wC (P:Program) (w:World) (K:PySem.W.Frag) (mg:Str->Option Value) (base:Heap) (cls exC:Nat->Addr) (k:Nat) (x:Str) (ps:List Str) (φ:eM):Prop where
 ex:∃ f fd,wQ P w K mg base (CX1 P w exC) k f fd ps (spO cls exC K φ)/\mg x=some (.ref f)/\PySem.W.keepIn K (.ref f)=true/\Binds K fd ps []
structure wP (P:Program) (w:World) (K:PySem.W.Frag) (mg:Str->Option Value) (base:Heap) (cls exC:Nat->Addr) (k c:Nat) (m:Str) (ps:List Str) (φ:eM):Prop where
 ex:∃ f fd,wQ P w K mg base (CX1 P w exC) k f fd ps (spO cls exC K φ)/\sC K (cls c) m f/\Binds K fd ps []
 cl:Cls K (cls c)
structure PR (P:Program) (w:World) (K:PySem.W.Frag) (mg:Str->Option Value) (base:Heap) (cls exC:Nat->Addr) (k c:Nat) (x:Str) (ps:List Str) (φ:eM):Prop where
 ex:∃ f fd,wQ P w K mg base (CX1 P w exC) k f fd ps (spO cls exC K φ)/\Mk K (cls c) f/\Binds K fd ps []
 at_:mg x=some (.ref (cls c))
section
variable {X:Cx}{cls exC:Nat->Addr}{E:XE}{e a b c o i value:Expr}{es:List Expr}{fa fb fo fi fv:OG D}{fl:OG (List D)}{pos p apos pos':Pos}{x m:Str}{cn k:Nat}{ps:List Str}{φ:eM}
theorem bA (F:wC X.prog X.w X.K X.mg X.base cls exC k x ps φ) (hr:Room k X.A) (hg:Gl X x) (hx:Pas X exC E) (ha:OA X cls E (e::es) fl) (hdb:(x==("__debug__":Str))=false:=by decide)
  (he:starEach (e::es) X.env=(false,eval e X.env)::starEach es X.env:=by rfl) (hpl:(backTo pos (starEach es X.env)).any (·.1)=false:=by rfl):OE X cls E (.Call (.Name x p) (e::es) [] pos) (bS φ fl):=by
 obtain⟨f,fd,h1,h2,h3,h4⟩:=F.ex
 exact KY h1 hr hg h2 h3 h4 hx ha hdb he hpl
theorem bX {pl:Sem Bool} (F:wP X.prog X.w X.K X.mg X.base cls exC k cn m ps φ) (hr:Room k X.A) (hx:Pas X exC E) (ho:OE X cls E o fo) (ha:OA X cls E (e::es) fl)
  (hst:starEach (e::es) X.env=(false,eval e X.env)::starEach es X.env:=by rfl) (hpl:(backTo pos (starEach es X.env)).any (·.1)=false:=by rfl)
  (ht:eval (.Call (.Attribute o m apos) (e::es) [] pos) X.env=(do
   let ov <- eval o X.env
   standAt apos.atName
   let (f,first) <- holding [ov] (getMethod ov m pl)
   callWith pos f first (backTo pos (starEach (e::es) X.env)) (backToKw pos (keywordEach [] X.env))):=by rfl):
  OE X cls E (.Call (.Attribute o m apos) (e::es) [] pos) (bL cn m φ fo fl):=by
 obtain⟨f,fd,h1,h2,h4⟩:=F.ex
 exact KS (pl:=pl) ho F.cl h2 h1 hr h4 hx ha hst hpl ht
theorem cG {pl:Sem Bool} (F:wP X.prog X.w X.K X.mg X.base cls exC k cn m ps φ) (hr:Room k X.A) (hx:Pas X exC E) (ho:OE X cls E o fo)
  (ht:eval (.Call (.Attribute o m apos) [] [] pos) X.env=(do
   let ov <- eval o X.env
   standAt apos.atName
   let (f,first) <- holding [ov] (getMethod ov m pl)
   callWith pos f first (backTo pos (starEach [] X.env)) (backToKw pos (keywordEach [] X.env))):=by rfl):
  OE X cls E (.Call (.Attribute o m apos) [] [] pos) (bL cn m φ fo aU):=by
 obtain⟨f,fd,h1,h2,h4⟩:=F.ex
 exact Ib (pl:=pl) ho F.cl h2 h1 hr h4 hx ht
theorem Cl (F:PR X.prog X.w X.K X.mg X.base cls exC k cn x ps φ) (hr:Room (k+1) X.A) (hg:Gl X x) (hx:Pas X exC E) (ha:OA X cls E (e::es) fl) (hdb:(x==("__debug__":Str))=false:=by decide)
  (he:starEach (e::es) X.env=(false,eval e X.env)::starEach es X.env:=by rfl) (hpl:(backTo pos (starEach es X.env)).any (·.1)=false:=by rfl):OE X cls E (.Call (.Name x p) (e::es) [] pos) (wF cn φ fl):=by
 obtain⟨f,fd,h1,h2,h3⟩:=F.ex
 exact KU h2 h1 hr hg F.at_ h3 hx ha hdb he hpl
end
theorem boot.dict:bootBuiltins "dict"=some (.type "dict"):=by decide+kernel
theorem Lg {cls exC:Nat->Addr}{K:PySem.W.Frag}{H:Hp}{a:Addr}{ns:List Int}{φ:eM}{ω':Om} (h:φ [.scr (ns.map D.int)] []=some (.ok (.bl true),ω')) (hS:SqL K H a (ns.map V.int)):spO cls exC K φ [.ref a] H (fun v _=>v=.bl true) fun _ _ _=>False:=by
 refine⟨Okk.all,[],[.scr (ns.map D.int)],.ok (.bl true),ω',⟨fun _ _=>trivial,fun _ _ _=>trivial⟩,⟨fun n ob e=>by simp at e,(fun _ _ e=>nomatch e),(fun _ _ _ e=>nomatch e),(fun _ _ e=>nomatch e)⟩,.cons (.scr ?_ (Reps.ints ns)) .nil,h,fun v ok' H' _ r=>r.bl_inv⟩
 rcases hS with h|h
 ·exact .inl ⟨trivial,h⟩
 ·exact .inr h
theorem law_walkO {l:PySem.W.OpenLaw}{k:Nat}{q:Program}{loose:List Str}{XP:(Str->Option Value)->Heap->Prop}{YP:World->Heap->Prop}{d:DefRec}{K:Params->PySem.W.Frag}{x:Str}{φ:eM}{cs es:List Str} (hn:l.most=some 63) (hdf:d.params.defaults=[]) (hr:Room k callerA)
  (hY:∀(w:World) (h:Heap),YP w h->(K w.params).In h) (hφ:∀ ns:List Int,ns.length<=63->∃ ω',φ [.scr (ns.map D.int)] []=some (.ok (.bl true),ω'))
  (F:∀(w:World) (mg:Str->Option Value) (fa:Addr) (h:Heap),(K w.params).In h->h.Ns mainGlobals mg->mg d.name=some (.ref fa)->
   ∃ fd:FuncData,(∀(s:Shared) (u:Value),BindsTo s fd ⟨[u],[]⟩ [(x,u)])/\∀ base:Heap,(K w.params).In base->base.Ns mainGlobals mg->wQ l.prog w (K w.params) mg base (CX1 l.prog w (lS (K w.params) es)) k fa fd [x] (spO (lS (K w.params) cs) (lS (K w.params) es) (K w.params) φ)):
  PySem.W.WalkO q loose XP YP l.row.toRowW d [] (fun f vs=>PySem.call f vs):=
 L2.walk_of (n:=63) (k:=k) (x:=x) (CX:=fun w=>CX1 l.prog w (lS (K w.params) es)) (sp:=fun w=>spO (lS (K w.params) cs) (lS (K w.params) es) (K w.params) φ) hn (by decide) hdf hr hY F (fun _ _ a ns hl _ hS=>let ⟨_,h⟩:=hφ ns hl;Lg h hS) fun _ _ _ _ _ ⟨_,_,_,_,_,_,_,_,_,_,z⟩=>z
end L2.MB
end
section
namespace L2.MB
open PySem PySem.Spec PyProof.Rows
section
variable {α β:Type}{f h:OG D}{fl:OG (List D)}{ρ:Rho}{ω ω1 ω2 ω3:Om}{a b d:D}{ds:List D}{F G:OS}
theorem bO {f:OG α}{g:α->OG β}{x:α} (e:f ρ ω=some (.ok x,ω1)):oB f g ρ ω=g x ρ ω1:=by unfold oB;rw[e]
theorem dD {f:OG α}{g:α->Rho->Om->Option (OOut×Om)}{x:α} (e:f ρ ω=some (.ok x,ω1)):oX f g ρ ω=g x ρ ω1:=by unfold oX;rw[e]
theorem Po {f:DF} (e:f ρ=some d):oP f ρ ω=some (.ok d,ω):=by unfold oP;rw[e];rfl
theorem aD {i:Nat} (e:ρ[i]?=some (some d)):oP (aF i) ρ ω=some (.ok d,ω):=Po (by unfold aF;rw[e];rfl)
theorem bF:oP (dC d) ρ ω=some (.ok d,ω):=rfl
theorem lG {g:Om->D->D->Option (D×Om)} (e1:f ρ ω=some (.ok a,ω1)) (e2:h ρ ω1=some (.ok b,ω2)) (e3:g ω2 a b=some (d,ω3)):o2 g f h ρ ω=some (.ok d,ω3):=by
 unfold o2
 rw[bO e1,bO e2]
 show oR (g ω2 a b)=_
 rw[e3]
 rfl
theorem jE {g:D->D->Option D} (e1:f ρ ω=some (.ok a,ω1)) (e2:h ρ ω1=some (.ok b,ω2)) (e3:g a b=some d):o2 (lf g) f h ρ ω=some (.ok d,ω2):=lG e1 e2 (by show pu (g a b) ω2=_;rw[e3];rfl)
theorem aJ:aU ρ ω=some (.ok [],ω):=rfl
theorem aC (e1:f ρ ω=some (.ok a,ω1)) (e2:fl ρ ω1=some (.ok ds,ω2)):aE f fl ρ ω=some (.ok (a::ds),ω2):=by
 unfold aE
 rw[bO e1,bO e2]
theorem fD {g:Om->List D->Option (D×Om)} (e1:fl ρ ω=some (.ok ds,ω1)) (e2:g ω1 ds=some (d,ω2)):oL g fl ρ ω=some (.ok d,ω2):=by
 unfold oL
 rw[bO e1]
 show oR (g ω1 ds)=_
 rw[e2]
 rfl
theorem bB {φ:eM}{r:Rz D} (e1:fl ρ ω=some (.ok ds,ω1)) (e2:φ ds ω1=some (r,ω2)):bS φ fl ρ ω=some (r,ω2):=by
 unfold bS
 rw[bO e1]
 exact e2
theorem aV {i:Nat} (e:f ρ ω=some (.ok d,ω1)):aP (bG i f) G ρ ω=G (ρ.set i (some d)) ω1:=by
 unfold aP bG
 rw[dD e]
theorem bY {ρ1:Rho} (e:F ρ ω=some (.nx ρ1,ω1)):aP F G ρ ω=G ρ1 ω1:=by
 unfold aP
 rw[e]
theorem dW {k:Bool} (e:f ρ ω=some (.ok (.bl k),ω1)):eJ f ρ ω=some (.ok k,ω1):=by
 unfold eJ
 rw[bO e]
 rfl
theorem wD {t:OG Bool} (e:t ρ ω=some (.ok true,ω1)):fJ t F G ρ ω=F ρ ω1:=by unfold fJ;rw[dD e];rfl
theorem tX {t:OG Bool} (e:t ρ ω=some (.ok false,ω1)):fJ t F G ρ ω=G ρ ω1:=by unfold fJ;rw[dD e];rfl
theorem bM (e:f ρ ω=some (.ok d,ω1)):bE f ρ ω=some (.rt d,ω1):=by unfold bE;rw[dD e]
theorem bC {n:Nat}{N:List Str} (hl:ds.length=n) (e:G (cP N ds) ω=some (.rt d,ω1)):fV n N G ds ω=some (.ok d,ω1):=by
 unfold fV
 rw[if_pos hl,e]
theorem NP {i j:Int} (h: -1000000000000000000<j/\j<1000000000000000000):jF (.int i) (.int j)=some (.int (i*j)):=by
 show(if _ then _ else _)=_
 rw[if_pos (.inr h)]
theorem NQ {i j:Int} (h:0<j):cW (.int i) (.int j)=some (.int (i % j)):=by
 show(if _ then _ else _)=_
 rw[if_pos h]
end
end L2.MB
end
section
namespace L2.MB
open PySem PySem.Spec PyProof.Rows
section
variable {X:Cx}{cls exC:Nat->Addr}{E:XE}{e a b c o i value tg iter:Expr}{es rest:List Expr}{fa fb fc fo fi fv:OG D}{fl:OG (List D)}{ft ft':OG Bool}{pos p apos pos' cpos:Pos}{x m:Str}{st:Stmt}{body:List Stmt}{F:OS}
theorem Nw.freeze {K:PySem.W.Frag}{ok:Okk}{H:Hp}{ω:Om}{n:Nat}{a:Addr}{vs:List (List Key×V)}{kvs:List (List Key×D)}{oo:Obj} (P:OkH ok H) (st:Stt cls K ok H ω) (e:ok.al n=some a) (h:H a=some (.dT vs)) (kv:KvR K ok H vs kvs):
  Nw cls K ok H ok (upd H a (.frz oo (.dT vs))) (ω.set n (.dz kvs)):=Nw.write P st e h fun dat=>⟨oo,vs,aS,kv.mono dat fun _ _ z=>z⟩
theorem Pp {K:PySem.W.Frag}{ok1:Okk}{H1:Hp}{n:Nat}{a:Addr}{oo:Obj}{vs:List (List Key×V)}{kvs:List (List Key×D)} (e:ok1.al n=some a) (h:H1 a=some (.frz oo (.dT vs))) (kv:KvR K ok1 H1 vs kvs):
  ItO cls K ok1 H1 (AX n kvs) (Itk a oo vs) (kvs.map fun kv=>cR kv.1):=by
 refine⟨fun i ok H ω nw _ hi=>⟨nw.ex.frz _ _ _ h,by rw[kv.length];simpa using hi⟩,fun i ok H ω x H' d nw _ y hd=> ?_,fun i ok H ω nw _ hi=>⟨nw.ex.frz _ _ _ h,by rw[kv.length];simpa using hi⟩⟩
 obtain⟨rfl,b,p,rfl,hp,ht⟩:=y
 refine⟨Same.refl _,?_⟩
 have hk:=kv.keys
 have e1:(vs.map (·.1))[i]?=some p.1:=by rw[List.getElem?_map,hp];rfl
 rw[hk,List.getElem?_map] at e1
 obtain⟨q,e2,e3⟩:=aN e1
 rw[List.getElem?_map,e2] at hd
 cases hd
 show Rep K ok _ _ (cR q.1)
 rw[e3]
 exact .tup ⟨nw.okh.tp b _ ht,ht⟩ (Cp p.1)
theorem Nw.thaw {K:PySem.W.Frag}{ok1 ok:Okk}{H1 H:Hp}{ω ω1:Om}{n:Nat}{a:Addr}{oo:Obj}{vs:List (List Key×V)}{kvs:List (List Key×D)} (st1:Stt cls K ok1 H1 ω1) (e:ok1.al n=some a) (h:H1 a=some (.dT vs)) (nw:Nw cls K ok1 (upd H1 a (.frz oo (.dT vs))) ok H ω) (hc:ω[n]?=some (.dz kvs)):
  ∃ ws,H a=some (.frz oo (.dT ws))/\ws=vs/\Nw cls K ok1 H1 ok (upd H a (.dT vs)) (ω.set n (.dt kvs)):=by
 have hf:H a=some (.frz oo (.dT vs)):=nw.ex.frz _ _ _ aS
 have ea:=nw.ex.ids n a e
 obtain⟨b,e1,o',vs',e2,kv⟩:=nw.st.cell n _ hc
 rw[ea] at e1
 cases e1
 rw[hf] at e2
 cases e2
 have na:¬ ok1.p a:=st1.nok n a e
 have na':¬ ok.p a:=nw.st.nok n a ea
 have dat:∀ b o,ok.p b->H b=some o->ok.p b/\upd H a (.dT vs) b=some o:=fun b o k z=>⟨k,by rw[aM (show b≠a from fun w=>na' (w ▸ k))];exact z⟩
 refine⟨vs,hf,rfl,⟨⟨fun b o k z=> ?_,nw.ex.ids,fun b o z w=> ?_,fun m b z=> ?_,fun b z=> ?_,fun b k=> ?_,fun b x u z=> ?_⟩,⟨fun b z=> ?_,fun b xs z=> ?_⟩,fun m ob z=> ?_,fun m b z=>by rw[List.length_set];exact nw.st.dom m b z,nw.st.inj,nw.st.nok⟩⟩
 ·have hb:b≠a:=fun w=>na (w ▸ k)
  have:=nw.ex.dat b o k (by rw[aM hb];exact z)
  exact⟨this.1,by rw[aM hb];exact this.2⟩
 ·have hb:b≠a:=fun q=>w n (q ▸ e)
  rw[aM hb]
  exact nw.ex.frm b o (by rw[aM hb];exact z) w
 ·rcases nw.ex.new m b z with w|w
  ·exact .inl w
  ·by_cases hb:b=a
   ·rw[hb,aS] at w;cases w
   ·rw[aM hb] at w;exact .inr w
 ·by_cases hb:b=a
  ·rw[hb,aS] at z;cases z
  ·rw[aM hb] at z
   have:=nw.ex.keep b z
   rw[aM hb] at this
   exact this
 ·rcases nw.ex.sub b k with w|w
  ·exact .inl w
  ·by_cases hb:b=a
   ·rw[hb,aS] at w;cases w
   ·rw[aM hb] at w;exact .inr w
 ·have hb:b≠a:=fun w=>by rw[w,h] at z;cases z
  rw[aM hb]
  exact nw.ex.frz b x u (by rw[aM hb];exact z)
 ·by_cases hb:b=a
  ·rw[hb,aS] at z;cases z
  ·rw[aM hb] at z;exact nw.okh b z
 ·by_cases hb:b=a
  ·rw[hb,aS] at z;cases z
  ·rw[aM hb] at z;exact nw.okh.tp b xs z
 ·rcases wU z with⟨rfl,rfl⟩|⟨hm,z⟩
  ·exact⟨a,ea,vs,aS,kv.mono dat fun _ _ z=>z⟩
  ·obtain⟨b,e1,c1⟩:=nw.st.cell m ob z
   refine⟨b,e1,c1.mono dat (fun _ _ z=>z) fun u q=> ?_⟩
   rw[aM (show b≠a from fun w=>hm (nw.st.inj m n a (w ▸ e1) ea))]
   exact q
theorem KK {bd:BR} (hc:X.calm=true) (ho:OE X.nox cls EF iter fo) (hg:PG X.nox tg (gR X.K bd)) (hb:OSs X.nox cls EF body F) (hs:∀ x,foldedSetIterable iter X.env x=pure x:=by intro _;rfl):
  OSt X cls E (.For tg iter body [] pos) (sNx (Kk fo bd F)):=JJ ((Kq (X:=X.nox) PassesOwn.never hc ho hg hb hs).imp fun D σ H ⟨ok,ρ,ω,oo,ω',P,e,q⟩=>by
 refine tO.thenS P e q fun d ω1 v ok1 H1 e1 n1 P1 r1 q1=> ?_
 obtain⟨⟨n,kvs⟩,hd,e2⟩:=aX e1
 obtain⟨rfl,e3⟩:=GJ hd
 obtain⟨a,rfl,e4,vs,e5,kv⟩:=P1.st.ref r1 e3
 refine⟨a,vs,rfl,e5,fun o nf=> ?_⟩
 have nf1:Nw cls X.K ok1 H1 ok1 (upd H1 a (.frz o (.dT vs))) (ω1.set n (.dz kvs)):=.freeze P1.okh P1.st e4 e5 kv
 dsimp only at e2
 split at e2
 ·rename_i ρ' ω2 hF
  obtain⟨hz,e6⟩:=bU e2
  cases e6
  refine DQ (D:=LK X.H₀ D) (Pp e4 aS (kv.mono nf1.ex.dat nf1.ex.ids)) (P1.nw nf1) hF fun ok2 H2 σ2 nw2 env2 len2=> ?_
  obtain⟨ws,w1,rfl,nw3⟩:=Nw.thaw P1.st e4 e5 nw2 (Iz hz)
  refine⟨a,o,ws,w1,nf,q1 ok2 _ σ2 nw3 ?_ len2⟩
  intro j dj ej
  obtain⟨u,z1,z2⟩:=env2 j dj ej
  refine⟨u,z1,z2.mono (fun b u' k z=>⟨k,?_⟩) fun _ _ z=>z⟩
  rw[aM (show b≠a from fun w=>nw2.st.nok n a (nw2.ex.ids n a e4) (w ▸ k))]
  exact z
 ·cases e2)
end
end L2.MB
end
section
namespace L2.MB
open PySem PySem.Spec PyProof.Rows PySem.Builtin
theorem nodup_ix {α β:Type}{xs:List (α×β)} (h:(xs.map (·.1)).Nodup) {i j:Nat}{k:α}{p q:β} (h1:xs[i]?=some (k,p)) (h2:xs[j]?=some (k,q)):i=j:=by
 have a1:(xs.map (·.1))[i]?=some k:=by rw[List.getElem?_map,h1];rfl
 have a2:(xs.map (·.1))[j]?=some k:=by rw[List.getElem?_map,h2];rfl
 exact(List.getElem?_inj (List.getElem?_eq_some_iff.mp a1).1 h).mp (a1.trans a2.symm)
theorem FJ {P:Program}{w:World} (d b:Addr) {k:List Key}:MeetsIn P w («dict.pop» { pos:=[.ref d,.ref b] }) fun A R s=>
  A.units+1<cLine/\∃(xs:List (List Key×Addr×Value)) (j:Nat) (p:Addr×Value),Heap.DictOfH (tupleKind (aR P w)) s.heap d xs/\xs.length<=sizeLine/\(tupleKind (aR P w)).is s.heap k b/\xs[j]?=some (k,p)/\
   ∀ h' t,Heap.DictOfH (tupleKind (aR P w)) h' d (xs.eraseIdx j)->Heap.SameBut d s.heap h'->R (.ok (.ret p.2)) { s with heap:=h',toks:=t }:=by
 rintro A R s ⟨hu,xs,j,p,dd,hz,hk,hj,hR⟩
 obtain⟨o,es,ep,h1,h2,h3,h4,h5,h6⟩:=dd
 obtain⟨oc,od,odt,osl⟩:=o
 obtain⟨q1,q2,q3⟩:=h2
 dsimp only at q1 q2 q3 h3
 subst q1 q2 q3 h3
 have hne:es.isEmpty=false:=by
  have:es.toList≠[]:=by
   rw[h4]
   intro z
   rw[List.map_eq_nil_iff] at z
   rw[z] at hj
   simp at hj
  cases q:es.isEmpty with
  |false=>rfl
  |true=>rw[Array.isEmpty_iff] at q;rw[q] at this;exact absurd rfl this
 have hr:(tupleKind (aR P w)).room A.in1:=tupleKind_room_in1 hu
 have hes:es[j]?=some (entryOfKey (tupleKind (aR P w)) (k,p)):=by
  rw[<- Array.getElem?_toList,h4,List.getElem?_map,hj];rfl
 unfold «dict.pop» Dict.keyAndDefault
 repeat (first|with_reducible refine HeapKind.pyHash (tupleKind (aR P w)) hr hk ?_|(with_reducible refine wpAny_dictFind_heap hr hk h1 rfl h4 h5 h6 (fun z=>absurd hj (z j p)) fun i q hi=> ?_)|wp_step)
 obtain rfl:=nodup_ix h6 hj hi
 rw[hes]
 repeat (first|(with_reducible refine wpAny_updateDictKeys h1 rfl ?_ ?_ ?_)|wp_step)
 ·have sb:Heap.SameBut d s.heap (s.heap.update d (Obj.mapDictKeys fun x=>x.eraseIdxIfInBounds j)):=⟨Heap.size_update _ _ _,fun b hb=>Heap.get?_update_other _ _ (Ne.symm hb)⟩
  refine hR _ _ ⟨_,es.eraseIdxIfInBounds j,ep+1,Heap.get?_update_self _ h1 ?_,⟨rfl,rfl,rfl⟩,rfl,?_,fun x hx=>(tupleKind (aR P w)).keeps (h5 x (List.mem_of_mem_eraseIdx hx)) h1 rfl sb,?_⟩ sb
  ·rfl
  ·have em:∀(l:List (List Key×Addr×Value)) (n:Nat),(l.eraseIdx n).map (entryOfKey (tupleKind (aR P w)))=(l.map (entryOfKey (tupleKind (aR P w)))).eraseIdx n:=fun l=>by
    induction l with
    |nil=>intro n;rfl
    |cons x r ih=>intro n;cases n with
     |zero=>rfl
     |succ n=>simp[ih n]
   rw[em,<- h4]
   unfold Array.eraseIdxIfInBounds
   split
   ·simp
   ·rename_i hn
    rw[List.eraseIdx_of_length_le (by simpa using hn)]
  ·exact h6.sublist ((List.eraseIdx_sublist xs j).map _)
 ·have:=congrArg List.length h4
  rw[List.length_map,Array.length_toList] at this
  rw[this]
  exact hz
 ·have:=PySem.size_eraseIdxIfInBounds_le es j
  omega
theorem rX {α β:Type} [DecidableEq α] {k:α}{p:β}:∀ {xs:List (α×β)}{j:Nat},(xs.map (·.1)).Nodup->xs[j]?=some (k,p)->xs.eraseIdx j=xs.filter fun x=>decide (x.1≠k)
 |[],j,_,h=>by simp at h
 |x::r,0,nd,h=>by
  have h':x=(k,p):=by simpa using h
  subst h'
  rw[List.map_cons,List.nodup_cons] at nd
  rw[List.eraseIdx_cons_zero,List.filter_cons_of_neg (by simp)]
  symm
  rw[List.filter_eq_self]
  intro a ha
  have:a.1≠k:=fun z=>nd.1 (List.mem_map.mpr ⟨a,ha,z⟩)
  simpa using this
 |x::r,j+1,nd,h=>by
  rw[List.map_cons,List.nodup_cons] at nd
  have h':r[j]?=some (k,p):=by simpa using h
  have hm:k∈r.map (·.1):=List.mem_map.mpr ⟨_,List.mem_of_getElem? h',rfl⟩
  have hx:x.1≠k:=fun z=>nd.1 (z ▸ hm)
  rw[List.eraseIdx_cons_succ,List.filter_cons_of_pos (by simpa using hx),rX nd.2 h']
theorem KT.drop {H:Hp}{kvs:List (List Key×V)}{xs:List (List Key×Addr×Value)} (r:KT H kvs xs) (k:List Key):KT H (Bl kvs k) (xs.filter fun x=>decide (x.1≠k)):=by
 induction r with
 |nil=>exact .nil
 |@cons p q ps qs h t ih=>
  unfold Bl at ih ⊢
  by_cases e:p.1=k
  ·have e':q.1=k:=h.1.symm.trans e
   rw[List.filter_cons_of_neg (by simp[e]),List.filter_cons_of_neg (by simp[e'])]
   exact ih
  ·have e':¬ q.1=k:=fun z=>e (h.1.trans z)
   rw[List.filter_cons_of_pos (by simp[e]),List.filter_cons_of_pos (by simp[e'])]
   exact .cons h ih
theorem Jp {xs:List (List Key×Addr×Value)}{k:List Key}{p:Addr×Value} (h:atKey xs k=some p):∃ j:Nat,xs[j]?=some (k,p):=by
 unfold atKey at h
 obtain⟨q,e1,e2⟩:=aN h
 have m:=List.mem_of_find?_eq_some e1
 have e3:=List.find?_some e1
 obtain⟨j,hj⟩:=List.getElem?_of_mem m
 refine⟨j,?_⟩
 rw[hj]
 have:q.1=k:=by simpa using e3
 rw[<- this,<- e2]
section
variable {X:Cx}{pins:List (Addr×Obj)}{σ:St}{H:Hp}{s:Shared}{a b:Addr}{kvs:List (List Key×V)}{k:List Key}{A:Around}{E:Value->Shared->Prop}
theorem Of {v:V}{Q:Value->Shared->Prop} (hu:A.units+1<cLine) (I:Inv X pins σ H s) (e:H a=some (.dT kvs)) (eb:H b=some (.tup (k.map kV))) (l:Ai kvs k=some v)
  (h:∀ w' s',Inv X pins σ (upd H a (.dT (Bl kvs k))) s'->RelV v w'->Q w' s'):wpAny (model X.prog X.w) A (call (.builtin "dict.pop") [.ref a,.ref b]) Q E s:=by
 obtain⟨z,hd,xs,rel,dd⟩:=Jd I.hok e
 obtain⟨w',hw,rw'⟩:=RelO.some_of (v:=v) (o:=(atKey xs k).map (·.2)) (by rw[<- l];exact rel.val k)
 obtain⟨p,hp,hp2⟩:=Option.map_eq_some_iff.mp hw
 obtain⟨j,hj⟩:=Jp hp
 have hz:xs.length<=sizeLine:=by rw[<- Paired.length rel];exact z
 have nd:(xs.map (·.1)).Nodup:=by obtain⟨_,_,_,_,_,_,_,_,q⟩:=dd;exact q
 refine call_meetsIn PySem.F.slot_dict_pop dd.typeIs PySem.F.entry_dict_pop (PySem.F.args_dict_pop_2 _ _) (FJ (k:=k) a b) ⟨hu,xs,j,p,dd,hz,AS I.hok eb,hj,fun h' t dd' hs=>h p.2 _ ?_ (hp2 ▸ rw')⟩
 rw[rX nd hj] at dd'
 obtain⟨q,es,ep,hq,h2,h3,h4,_,h5⟩:=dd'
 refine zM I (by rw[e];exact True.intro) hs ⟨q,hq⟩ ⟨Nat.le_trans (Jf kvs k) z,hd,_,KT.keeps (KT.drop rel k) fun c ys ec=> ?_,q,es,ep,hq,h2,h3,h4,h5⟩
 rw[aM (Lb ec e (fun z=>nomatch z))]
 exact ec
def MF:V->List V->Hp->VK->Prop:=fun x xs H Q=>∃ a b kvs k v,x=.ref a/\xs=[.ref b]/\H a=some (.dT kvs)/\H b=some (.tup (k.map kV))/\Ai kvs k=some v/\Q v (upd H a (.dT (Bl kvs k)))
theorem Ld (hu:X.A.units+1<cLine):MtR X "dict.pop" MF:=by
 intro pins s σ H x xs v us Q I rx rs h
 obtain⟨a,b,kvs,k,y,rfl,rfl,ha,hb,l,q⟩:=h
 obtain⟨u,rfl,ru⟩:=sD rs
 cases rx
 cases ru
 exact Of hu I ha hb l fun w' s' I' r=>⟨y,_,I',r,q⟩
end
section
variable {X:Cx}{cls exC:Nat->Addr}{E:XE}{e a b c o i value:Expr}{es rest:List Expr}{fa fb fc fo fi fv:OG D}{fl:OG (List D)}{ft ft':OG Bool}{pos p apos pos' cpos:Pos}{x m:Str}{st:Stmt}
def EH (ω:Om) (d:D):Bool:=match cellOf ω d with
 |some (.dt _)=>true
 |_=>false
theorem Gs {ω:Om}{d:D} (h:EH ω d=true):∃ n kvs,d=.obj n/\ω[n]?=some (.dt kvs):=by
 unfold EH at h
 split at h
 ·obtain⟨n,rfl,e⟩:=eL ‹_›
  exact⟨n,_,rfl,e⟩
 ·cases h
def uB (g:Om->D->List D->Option (D×Om)) (fo:OG D) (fl:OG (List D)):OG D:=oB fo fun d ρ ω=>if EH ω d=true then oB fl (fun ds _ ω=>oR (g ω d ds)) ρ ω else none
theorem Nr {id:String}{r:V->List V->Hp->VK->Prop}{g:Om->D->List D->Option (D×Om)} (slot:Slot "dict" m id) (hty:typeOf (.builtin id)=pure (.type "method_descriptor")) (hm:MtR X id r) (F:Hr cls X.K r g) (ho:OE X cls E o fo) (ha:OA X cls E (e::es) fl)
  (hbase:attributeBase o m X.env (eval o X.env)=eval o X.env:=by rfl)
  (hfew:((backTo cpos (starEach (e::es) X.env)).all (fun x=> !x.1)&&(backToKw cpos (keywordEach [] X.env)).all (fun x=>x.1.isSome)
   &&decide ((e::es).length+([]:List Keyword).length+(if([]:List Keyword).isEmpty then 0 else 1)<30))=true:=by rfl)
  (hline:(apos.endLine==cpos.line)=true:=by rfl) (hs:starEach (e::es) X.env=(false,eval e X.env)::starEach es X.env:=by rfl) (hplain:(backTo cpos (starEach es X.env)).any (·.1)=false:=by rfl):
  OE X cls E (.Call (.Attribute o m apos) (e::es) [] cpos) (uB g fo fl):=
 (MY PySem.F.plainAttrs_dict slot hty hm ho ha hbase hfew hline hs hplain).imp fun σ H Q ⟨ok,ρ,ω,r,ω',P,e,q⟩=>by
  refine tO.then_ P e (fun c z=>by subst z;exact q) fun d ω1 v ok1 H1 e1 n1 P1 r1=> ?_
  obtain⟨hi,e1⟩:=eB e1
  obtain⟨n,ds0,rfl,e2⟩:=Gs hi
  obtain⟨a,rfl,e4,xs,e5,rs⟩:=P1.st.ref r1 e2
  refine⟨.inr (.inr (.inl ⟨rfl,.inr ⟨xs,e5⟩⟩)),?_⟩
  refine tOA.then_ P1 e1 (fun c z=>by subst z;exact exR.nw q n1) fun ds ω2 us ok2 H2 e6 n2 P2 r2=> ?_
  obtain⟨y,e7,rfl⟩:=cS e6
  exact F ok2 H2 ω2 _ us _ ds y ω' Q P2.okh P2.st (r1.ex n2.ex) r2 e7 fun w ok3 H3 n3 r3=>q w ok3 H3 (n1.trans (n2.trans n3)) r3
def GI (ω:Om) (d:D) (as:List D):Option (D×Om):=match d,as with
 |.obj n,[y]=>match ω[n]? with
  |some (.dt kvs)=>(Fp y).bind fun k=>(lZ kvs k).map fun v=>(v,ω.set n (.dt (iG kvs k)))
  |_=>none
 |_,_=>none
theorem IV {K:PySem.W.Frag}:Hr cls K MF GI:=fun ok H ω x xs a as d ω' Q h1 st ra rs e k=>by
 unfold GI at e
 split at e
 ·rename_i n y
  split at e
  ·rename_i kvs hc
   obtain⟨ks,e8,e⟩:=aX e
   obtain⟨v,e9,e10⟩:=aN e
   cases e10
   obtain⟨a1,rfl,e4,vs,e5,kv⟩:=st.ref ra hc
   obtain⟨w,rfl,rw'⟩:=rs.one_inv
   obtain⟨b,rfl,_,hb⟩:=toT'_rep e8 rw'
   obtain⟨u,l,ru⟩:=kv.val e9
   refine⟨a1,b,vs,ks,u,rfl,rfl,e5,hb,l,?_⟩
   have nw:=Nw.write (o:=.dT (Bl vs ks)) (ob:=.dt (iG kvs ks)) h1 st e4 e5 fun dat=>⟨_,aS,(KvR.drop (k:=ks) kv).mono dat fun _ _ z=>z⟩
   exact k _ ok _ nw (ru.ex nw.ex)
  ·cases e
 ·cases e
theorem KQ (hu:X.A.units+1<cLine) (ho:OE X cls E o fo) (ha:OA X cls E [e] fl) (hbase:attributeBase o "pop" X.env (eval o X.env)=eval o X.env:=by rfl)
  (hfew:((backTo cpos (starEach [e] X.env)).all (fun x=> !x.1)&&(backToKw cpos (keywordEach [] X.env)).all (fun x=>x.1.isSome)
   &&decide ([e].length+([]:List Keyword).length+(if([]:List Keyword).isEmpty then 0 else 1)<30))=true:=by rfl)
  (hline:(apos.endLine==cpos.line)=true:=by rfl) (hs:starEach [e] X.env=(false,eval e X.env)::starEach [] X.env:=by rfl) (hplain:(backTo cpos (starEach [] X.env)).any (·.1)=false:=by rfl):
  OE X cls E (.Call (.Attribute o "pop" apos) [e] [] cpos) (uB GI fo fl):=Nr PySem.F.slot_dict_pop PySem.F.type_dict_pop (Ld hu) IV ho ha hbase hfew hline hs hplain
end
end L2.MB
end
section
namespace L2.MB
open PySem PySem.Spec PyProof.Rows PySem.Builtin
section
variable {P:Program}{w:World}{K:Type} [DecidableEq K] {knd:HeapKind P w K}{A:Around}{E:Value->Shared->Prop}{s:Shared}{d a:Addr}{xs ys:List (K×Addr×Value)}{k:K}{v:Value}{Q:Unit->Shared->Prop}
theorem yB (h:∀(j:Nat) (p:Addr×Value),xs[j]?≠some (k,p)):atKey xs k=none:=by
 unfold atKey
 rw[Option.map_eq_none_iff,List.find?_eq_none]
 intro x hx
 obtain⟨j,hj⟩:=List.getElem?_of_mem hx
 intro z
 have e:x.1=k:=by simpa using z
 exact h j x.2 (by rw[hj,<- e])
theorem Fa {j:Nat}{p:Addr×Value} (h:xs[j]?=some (k,p)):(atKey xs k).isSome=true:=by
 unfold atKey
 rw[Option.isSome_map,List.find?_isSome]
 exact⟨(k,p),List.mem_of_getElem? h,by simp⟩
theorem Es {j:Nat}{p:Addr×Value} (nd:(xs.map (·.1)).Nodup) (h:xs[j]?=some (k,p)):(xs.map (entryOfKey knd)).modify j (fun e=>{ hash:=e.hash,key:=e.key,val:=v })=(xs.map (putAt k v)).map (entryOfKey knd):=by
 apply List.ext_getElem?
 intro i
 rw[List.getElem?_modify,List.getElem?_map,List.getElem?_map,List.getElem?_map]
 cases q:xs[i]? with
 |none=>rfl
 |some x=>
  show some _=some _
  by_cases e:j=i
  ·subst e
   rw[h] at q
   cases q
   simp[putAt,entryOfKey]
  ·have hx:x.1≠k:=fun z=>e (nodup_ix nd h (show xs[i]?=some (k,x.2) by rw[q,<- z]))
   simp[putAt,e,hx]
theorem Iv:(xs.map (putAt k v)).map (·.1)=xs.map (·.1):=by
 rw[List.map_map]
 apply List.map_congr_left
 intro x _
 unfold putAt
 show(if _ then _ else _:K×Addr×Value).1=_
 split <;> rfl
theorem Hv (hr:knd.room A) (hk:knd.is s.heap k a) (hd:Heap.DictOfH knd s.heap d xs) (hz:xs.length<=sizeLine) (h:∀ h',Heap.DictOfH knd h' d (storedH xs k a v)->Heap.SameBut d s.heap h'->Q () { s with heap:=h' }):
  wpAny (model P w) A (dictSetHashed d (.ref a) (knd.hash k) v) Q E s:=by
 obtain⟨o,es,ep,h1,h2,h3,h4,h5,h6⟩:=hd
 obtain⟨oc,od,odt,osl⟩:=o
 obtain⟨q1,q2,q3⟩:=h2
 dsimp only at q1 q2 q3 h3
 subst q1 q2 q3 h3
 have hs:es.size=xs.length:=by
  have:=congrArg List.length h4
  rw[List.length_map,Array.length_toList] at this
  exact this
 unfold dictSetHashed
 repeat (first|(with_reducible refine wpAny_dictFind_heap hr hk h1 rfl h4 h5 h6 (fun hn=> ?none) fun j p hj=> ?some)|(with_reducible refine wpAny_updateDictKeys h1 rfl ?main ?sz ?gr)|wp_step)
 case main=>
   have sb:Heap.SameBut d s.heap (s.heap.update d (Obj.mapDictKeys fun x=>x.push { hash:=knd.hash k,key:=.ref a,val:=v })):=⟨Heap.size_update _ _ _,fun b hb=>Heap.get?_update_other _ _ (Ne.symm hb)⟩
   have e1:storedH xs k a v=xs++[(k,a,v)]:=by
    unfold storedH
    rw[yB hn]
    rfl
   refine h _ ⟨_,es.push { hash:=knd.hash k,key:=.ref a,val:=v },ep+1,Heap.get?_update_self _ h1 rfl,⟨rfl,rfl,rfl⟩,rfl,?_,fun x hx=> ?_,?_⟩ sb
   ·rw[e1,Array.toList_push,h4,List.map_append]
    rfl
   ·rw[e1] at hx
    rcases List.mem_append.mp hx with hx|hx
    ·exact knd.keeps (h5 x hx) h1 rfl sb
    ·rw[List.mem_singleton] at hx
     subst hx
     exact knd.keeps hk h1 rfl sb
   ·rw[e1,List.map_append]
    refine List.nodup_append.mpr ⟨h6,by simp,fun x hx y hy z=> ?_⟩
    have hy':y=k:=by simpa using hy
    rw[z,hy'] at hx
    obtain⟨q,q1,q2⟩:=List.mem_map.mp hx
    obtain⟨j,hj⟩:=List.getElem?_of_mem q1
    exact hn j q.2 (by rw[hj,<- q2])
 case sz=>rw[hs];exact hz
 case gr=>simp
 case some=>
  have e1:storedH xs k a v=xs.map (putAt k v):=by
   unfold storedH
   rw[if_pos (Fa hj)]
  repeat (first|(with_reducible refine wpAny_updateDict h1 rfl ?_ ?_)|wp_step)
  ·have sb:Heap.SameBut d s.heap (s.heap.update d (Obj.mapDict fun x=>x.modify j fun e=>{ hash:=e.hash,key:=e.key,val:=v })):=⟨Heap.size_update _ _ _,fun b hb=>Heap.get?_update_other _ _ (Ne.symm hb)⟩
   refine h _ ⟨_,es.modify j fun e=>{ hash:=e.hash,key:=e.key,val:=v },ep,Heap.get?_update_self _ h1 rfl,⟨rfl,rfl,rfl⟩,rfl,?_,fun x hx=> ?_,?_⟩ sb
   ·rw[e1,Array.toList_modify,h4]
    exact Es h6 hj
   ·rw[e1] at hx
    obtain⟨q,q1,q2⟩:=List.mem_map.mp hx
    subst q2
    have:=knd.keeps (h5 q q1) h1 rfl sb
    unfold putAt
    split
    ·exact this
    ·exact this
   ·rw[e1,Iv]
    exact h6
  ·simp
end
section
variable {P:Program}{w:World}{A:Around}{E:Value->Shared->Prop}{s:Shared}{d o:Addr}{xs ys:List (List Key×Addr×Value)}{k:List Key}{v:Value}{Q:Unit->Shared->Prop}{id:String}
def gX (xs ys:List (List Key×Addr×Value)):List (List Key×Addr×Value):=ys.foldl (fun acc y=>storedH acc y.1 y.2.1 y.2.2) xs
theorem BY {xs:List (List Key×Addr×Value)}{k:List Key}{a:Addr}{v:Value}:(storedH xs k a v).length<=xs.length+1:=by
 unfold storedH
 split
 ·rw[List.length_map];omega
 ·rw[List.length_append,List.length_singleton];omega
theorem uD {xs ys:List (List Key×Addr×Value)}{y:List Key×Addr×Value}:gX xs (ys++[y])=storedH (gX xs ys) y.1 y.2.1 y.2.2:=by
 unfold gX
 rw[List.foldl_append]
 rfl
theorem AO:∀ {ys xs:List (List Key×Addr×Value)},((xs++ys).map (·.1)).Nodup->gX xs ys=xs++ys
 |[],xs,_=>by rw[List.append_nil];rfl
 |y::r,xs,nd=>by
  have e1:gX xs (y::r)=gX (storedH xs y.1 y.2.1 y.2.2) r:=rfl
  have e2:storedH xs y.1 y.2.1 y.2.2=xs++[y]:=by
   unfold storedH
   rw[yB (fun j p hj=> ?_)]
   ·rfl
   ·have m1:y.1∈xs.map (·.1):=List.mem_map.mpr ⟨_,List.mem_of_getElem? hj,rfl⟩
    rw[List.map_append,List.nodup_append] at nd
    exact nd.2.2 _ m1 _ (List.mem_map.mpr ⟨y,List.mem_cons_self,rfl⟩) rfl
  rw[e1,e2,AO (by rw[List.append_assoc];exact nd),List.append_assoc]
  rfl
theorem Gg {ys:List (List Key×Addr×Value)} (nd:(ys.map (·.1)).Nodup):gX [] ys=ys:=AO (by simpa using nd)
theorem mK (hne:d≠o) (hsys:(o==sysModules)=false) (hr:(tupleKind (aR P w)).room A) (hd:Heap.DictOfH (tupleKind (aR P w)) s.heap d xs) (ho:Heap.DictOfH (tupleKind (aR P w)) s.heap o ys) (hz:xs.length+ys.length<=sizeLine)
  (hh:∀(i j:Nat) x y,ys[i]?=some x->ys[j]?=some y->(tupleKind (aR P w)).hash x.1=(tupleKind (aR P w)).hash y.1->i=j)
  (h:∀ h',Heap.DictOfH (tupleKind (aR P w)) h' d (gX xs ys)->Heap.SameBut d s.heap h'->Q () { s with heap:=h' }):wpAny (model P w) A (Dict.mergeDict id d o) Q E s:=by
 have hd0:=hd
 obtain⟨o1,es,ep,h1,h2,h3,h4,h5,h6⟩:=hd
 obtain⟨oc,od,odt,osl⟩:=o1
 obtain⟨q1,q2,q3⟩:=h2
 dsimp only at q1 q2 q3 h3
 subst q1 q2 q3 h3
 obtain⟨o2,fs,fp,g1,g2,g3,g4,g5,g6⟩:=ho
 obtain⟨oc,od,odt,osl⟩:=o2
 obtain⟨q1,q2,q3⟩:=g2
 dsimp only at q1 q2 q3 g3
 subst q1 q2 q3 g3
 have hn:(d==o)=false:=by simpa using hne
 unfold Dict.mergeDict
 simp only[Std.Legacy.Range.forIn_eq_forIn_range']
 rw[hn]
 simp only[Bool.false_eq_true,if_false]
 repeat wp_step
 have fl:fs.size=ys.length:=by
  have:=congrArg List.length g4
  rw[List.length_map,Array.length_toList] at this
  exact this
 have el:es.size=xs.length:=by
  have:=congrArg List.length h4
  rw[List.length_map,Array.length_toList] at this
  exact this
 have few:(decide (fs.size<=8)&&fs.all fun e=>(keyPart e.key).isSome)=decide (ys=[]):=by
  rw[<- Array.all_toList,g4]
  cases ys with
  |nil=>simp[fl]
  |cons y r=>simp[entryOfKey,keyPart]
 rw[few]
 by_cases hy:ys=[]
 ·rw[decide_eq_true hy]
  simp only[Bool.not_true,Bool.false_eq_true,if_false]
  have e0:List.range' ([:fs.size]:Std.Legacy.Range).start ([:fs.size]:Std.Legacy.Range).size ([:fs.size]:Std.Legacy.Range).step=[]:=by rw[fl,hy];rfl
  subst hy
  repeat (first|(with_reducible refine wpAny_forIn_list _ (fun rest _ s'=>rest=[]/\s'=s) _ ?step ?fin _ _ ?init)|wp_step)
  case init=>exact⟨e0,rfl⟩
  case step=>rintro i rest b s' ⟨z,_⟩;cases z
  case fin=>
   rintro b s' ⟨_,rfl⟩
   repeat wp_step
   exact h _ hd0 ⟨rfl,fun _ _=>rfl⟩
 ·rw[decide_eq_false hy]
  simp only[Bool.not_false,if_true]
  repeat wp_step
  by_cases hx:xs=[]
  ·have e0:es.isEmpty=true:=by
    rw[Array.isEmpty_iff]
    apply Array.eq_empty_of_size_eq_zero
    rw[el,hx];rfl
   rw[e0]
   simp only[if_true]
   unfold Dict.entriesForEmpty
   repeat (first|(with_reducible refine wpAny_forIn_array' _ (fun(rest:List DictEntry) _ s'=>(∀ e∈rest,∃ i:Nat,fs[i]?=some e)/\s'=s) _ ?step ?fin _ _ ?init)|wp_step)
   case init=>exact⟨fun e he=>by obtain⟨i,hi⟩:=List.getElem?_of_mem he;exact⟨i,by rw[<- Array.getElem?_toList];exact hi⟩,rfl⟩
   case step=>
    rintro e rest b s' ⟨hi,rfl⟩
    obtain⟨i,hi0⟩:=hi e List.mem_cons_self
    have hi1:(ys.map (entryOfKey (tupleKind (aR P w))))[i]?=some e:=by rw[<- g4,Array.getElem?_toList];exact hi0
    rw[List.getElem?_map] at hi1
    obtain⟨y,hy1,rfl⟩:=aN hi1
    obtain⟨ot,its,nt,t1,t2,t3,_⟩:=(show IsTupleKey (aR P w) s'.heap y.1 y.2.1 from g5 y (List.mem_of_getElem? hy1))
    show wpAny _ _ (do let __do_lift <- Dict.quietEq (Value.ref y.2.1);_) _ _ _
    unfold Dict.quietEq
    have small:¬(Array.filter (fun x=>x.hash==(entryOfKey (tupleKind (aR P w)) y).hash) fs).size>1:=by
     have:(fs.filter (fun x=>x.hash==(entryOfKey (tupleKind (aR P w)) y).hash)).toList.length<=1:=by
      rw[Array.toList_filter,g4,List.filter_map,List.length_map]
      have nd:∀(l:List (List Key×Addr×Value)),(∀(i j:Nat) x y,l[i]?=some x->l[j]?=some y->(tupleKind (aR P w)).hash x.1=(tupleKind (aR P w)).hash y.1->i=j)->∀ c:Int,(l.filter ((fun x:DictEntry=>x.hash==c)∘entryOfKey (tupleKind (aR P w)))).length<=1:=by
       intro l
       induction l with
       |nil=>intro _ _;simp
       |cons z r ih=>
        intro hl c
        have ih':=ih (fun i j x y h1 h2 e=>by have:=hl (i+1) (j+1) x y (by simpa using h1) (by simpa using h2) e;omega) c
        by_cases hc:(tupleKind (aR P w)).hash z.1=c
        ·rw[List.filter_cons_of_pos (by simpa [entryOfKey] using hc)]
         have:r.filter ((fun x:DictEntry=>x.hash==c)∘entryOfKey (tupleKind (aR P w)))=[]:=by
          rw[List.filter_eq_nil_iff]
          intro q hq z'
          obtain⟨j,hj⟩:=List.getElem?_of_mem hq
          have e:(tupleKind (aR P w)).hash q.1=c:=by simpa [entryOfKey] using z'
          have:=hl 0 (j+1) z q (by simp) (by simpa using hj) (hc.trans e.symm)
          omega
         rw[this]
         simp
        ·rw[List.filter_cons_of_neg (by simpa [entryOfKey] using hc)]
         exact ih'
      exact nd ys hh _
     rw[Array.length_toList] at this
     omega
    repeat wp_step
    rw[t2,show typeLookup (Value.type "tuple") (Str.ofString "__eq__")=pure (some (.builtin "tuple.__eq__")) from PySem.F.slot_tuple_eq.lookup]
    repeat wp_step
    rw[if_neg small]
    repeat wp_step
    exact⟨fun e he=>hi e (List.mem_cons_of_mem _ he),rfl⟩
   case fin=>
    rintro b s' ⟨_,rfl⟩
    repeat wp_step
    have f0:fs.isEmpty=false:=by
     cases q:fs.isEmpty with
     |false=>rfl
     |true=>
      rw[Array.isEmpty_iff] at q
      rw[q] at fl
      exact absurd (List.eq_nil_of_length_eq_zero fl.symm) hy
    rw[f0]
    simp only[Bool.not_false,if_true]
    have sb:Heap.SameBut d s'.heap (s'.heap.update d (Obj.mapDictKeys fun _=>fs)):=⟨Heap.size_update _ _ _,fun b hb=>Heap.get?_update_other _ _ (Ne.symm hb)⟩
    have mg:gX xs ys=ys:=by
     rw[hx]
     exact Gg g6
    repeat (first|(with_reducible refine wpAny_updateDictKeysTo h1 rfl ?main ?sz)|wp_step)
    case sz=>show fs.size<=_;rw[fl];omega
    case main=>
     refine h _ ⟨_,fs,ep+1,Heap.get?_update_self _ h1 rfl,⟨rfl,rfl,rfl⟩,rfl,?_,fun x hx'=> ?_,?_⟩ sb
     ·rw[mg];exact g4
     ·rw[mg] at hx'
      exact(tupleKind (aR P w)).keeps (g5 x hx') h1 rfl sb
     ·rw[mg];exact g6
  ·have e0:es.isEmpty=false:=by
    cases q:es.isEmpty with
    |false=>rfl
    |true=>
     rw[Array.isEmpty_iff] at q
     rw[q] at el
     exact absurd (List.eq_nil_of_length_eq_zero el.symm) hx
   rw[e0]
   simp only[Bool.false_eq_true,if_false]
   have e1:List.range' ([:fs.size]:Std.Legacy.Range).start ([:fs.size]:Std.Legacy.Range).size ([:fs.size]:Std.Legacy.Range).step=List.range' 0 ys.length:=by
    rw[fl]
    simp[Std.Legacy.Range.size]
   have len:∀ n,n<=ys.length->(gX xs (ys.take n)).length<=xs.length+n:=fun n=>by
    induction n with
    |zero=>intro _;simp[gX]
    |succ n ih=>
     intro hn
     have hn':n<ys.length:=hn
     rw[List.take_succ_eq_append_getElem hn',uD]
     have:=ih (Nat.le_of_lt hn')
     exact Nat.le_trans BY (by omega)
   repeat (first|(with_reducible refine wpAny_forIn_list _ (fun(rest:List Nat) _ s'=>∃(i:Nat) (h':Heap),rest=List.range' i (ys.length-i)/\i<=ys.length/\s'={ s with heap:=h' }/\Heap.DictOfH (tupleKind (aR P w)) h' d (gX xs (ys.take i))/\Heap.SameBut d s.heap h') _ ?step ?fin _ _ ?init)|wp_step)
   case init=>exact⟨0,s.heap,e1,Nat.zero_le _,rfl,hd0,⟨rfl,fun _ _=>rfl⟩⟩
   case step=>
    rintro i rest b s' ⟨j,h',e2,hj,rfl,dd,sb⟩
    have hlt:j<ys.length:=by
     rcases Nat.lt_or_ge j ys.length with z|z
     ·exact z
     ·rw[Nat.sub_eq_zero_of_le z] at e2;cases e2
    have e3:ys.length-j=(ys.length-(j+1))+1:=by omega
    rw[e3,List.range'_succ] at e2
    cases e2
    have go:h'.get? o=some { cls:=Value.type "dict",data:=Data.dict fs fp }:=(sb.2 o (Ne.symm hne)).trans g1
    have hes:fs[i]?=some { hash:=(tupleKind (aR P w)).hash ys[i].1,key:=.ref ys[i].2.1,val:=ys[i].2.2 }:=by
     rw[<- Array.getElem?_toList,g4,List.getElem?_map,List.getElem?_eq_getElem hlt];rfl
    have hk:(tupleKind (aR P w)).is h' ys[i].1 ys[i].2.1:=(tupleKind (aR P w)).keeps (g5 _ (List.getElem_mem hlt)) h1 rfl sb
    repeat wp_step
    rw[hes]
    repeat (first|(with_reducible refine Hv hr hk dd (Nat.le_trans (len i (Nat.le_of_lt hlt)) (by omega)) fun h2 dd2 sb2=> ?_)|wp_step)
    have go2:h2.get? o=some { cls:=Value.type "dict",data:=Data.dict fs fp }:=(sb2.2 o (Ne.symm hne)).trans go
    repeat (first|(with_reducible refine wpAny_loadPart_at go2 ?_)|wp_step)
    simp only[bne_self_eq_false,Bool.false_eq_true,if_false]
    repeat wp_step
    refine⟨i+1,h2,rfl,hlt,rfl,?_,sb.trans sb2⟩
    rw[List.take_succ_eq_append_getElem hlt,uD]
    exact dd2
   case fin=>
    rintro b s' ⟨j,h',e2,hj,rfl,dd,sb⟩
    have:j=ys.length:=by
     have:=congrArg List.length e2
     simp at this
     omega
    subst this
    rw[List.take_length] at dd
    repeat wp_step
    exact h h' dd sb
end
end L2.MB
end
section
namespace L2.MB
open PySem PySem.Spec PyProof.Rows PySem.Builtin
theorem Fh {P:Program}{w:World} (d b:Addr) (hne:d≠b) (hsys:(b==sysModules)=false):MeetsIn P w («dict.update» { pos:=[.ref d,.ref b] }) fun A R s=>
  A.units+1<cLine/\∃ xs ys:List (List Key×Addr×Value),Heap.DictOfH (tupleKind (aR P w)) s.heap d xs/\Heap.DictOfH (tupleKind (aR P w)) s.heap b ys/\xs.length+ys.length<=sizeLine/\
   (∀(i j:Nat) x y,ys[i]?=some x->ys[j]?=some y->(tupleKind (aR P w)).hash x.1=(tupleKind (aR P w)).hash y.1->i=j)/\
   ∀ h',Heap.DictOfH (tupleKind (aR P w)) h' d (gX xs ys)->Heap.SameBut d s.heap h'->R (.ok (.ret .none)) { s with heap:=h' }:=by
 rintro A R s ⟨hu,xs,ys,hd,ho,hz,hh,hR⟩
 have hr:(tupleKind (aR P w)).room A.in1:=tupleKind_room_in1 hu
 have hd0:=hd
 have ho0:=ho
 obtain⟨o1,es,ep,h1,h2,h3,h4,h5,h6⟩:=hd
 obtain⟨oc,od,odt,osl⟩:=o1
 obtain⟨q1,q2,q3⟩:=h2
 dsimp only at q1 q2 q3 h3
 subst q1 q2 q3 h3
 obtain⟨o2,fs,fp,g1,g2,g3,g4,g5,g6⟩:=ho
 obtain⟨oc,od,odt,osl⟩:=o2
 obtain⟨q1,q2,q3⟩:=g2
 dsimp only at q1 q2 q3 g3
 subst q1 q2 q3 g3
 unfold «dict.update» Dict.selfAndRest
 repeat (first|(with_reducible refine mK hne hsys hr hd0 ho0 hz hh fun h' dd sb=> ?_)|wp_step)
 simp only[bne_self_eq_false,Bool.false_eq_true,if_false]
 repeat (first|(with_reducible refine mK hne hsys hr hd0 ho0 hz hh fun h' dd sb=> ?_)|wp_step)
 rw[PySem.isSubtype_dict_dict]
 repeat (first|(with_reducible refine mK hne hsys hr hd0 ho0 hz hh fun h' dd sb=> ?_)|wp_step)
 rw[show typeLookup (Value.type "dict") (Str.ofString "__iter__")=pure (some (.builtin "dict.__iter__")) from PySem.F.slot_dict_iter.lookup]
 repeat (first|(with_reducible refine mK hne hsys hr hd0 ho0 hz hh fun h' dd sb=> ?_)|wp_step)
 exact hR h' dd sb
def Lm:List Key->Option (List Int)
 |[]=>some []
 |.inl i::r=>(Lm r).map fun is=>i::is
 |.inr _::_=>none
def fW (k:List Key):Option Int:=(Lm k).map fun is=>reduceHash (Builtin.Tuple.tupleHashOf (is.map hashInt))
theorem AY:∀ {k:List Key}{is:List Int},Lm k=some is->k=is.map Sum.inl
 |[],_,h=>by cases h;rfl
 |.inl i::r,_,h=>by
  obtain⟨js,e,rfl⟩:=aN h
  rw[AY e]
  rfl
 |.inr _::_,_,h=>nomatch h
theorem DJ {P:Program}{w:World}{k:List Key}{c:Int} (h:fW k=some c):(tupleKind (aR P w)).hash k=c:=by
 obtain⟨is,e,rfl⟩:=aN h
 rw[AY e]
 show reduceHash (Builtin.Tuple.tupleHashOf ((is.map Sum.inl).map (aR P w).hash))=_
 rw[List.map_map]
 rfl
def fT:List (List Key)->Bool
 |[]=>true
 |k::r=>(fW k).isSome&&r.all (fun k'=>match fW k,fW k' with
  |some a,some b=>decide (a≠b)
  |_,_=>false)&&fT r
theorem xJ {P:Program}{w:World}:∀ {ks:List (List Key)},fT ks=true->∀(i j:Nat) x y,ks[i]?=some x->ks[j]?=some y->(tupleKind (aR P w)).hash x=(tupleKind (aR P w)).hash y->i=j
 |[],_,i,j,x,y,h1,_,_=>by simp at h1
 |k::r,h,i,j,x,y,h1,h2,e=>by
  have h':((fW k).isSome&&r.all (fun k'=>match fW k,fW k' with
   |some a,some b=>decide (a≠b)
   |_,_=>false)&&fT r)=true:=h
  rw[Bool.and_eq_true,Bool.and_eq_true] at h'
  obtain⟨⟨_,ha⟩,hr⟩:=h'
  have main:∀ y,y∈r->(tupleKind (aR P w)).hash k=(tupleKind (aR P w)).hash y->False:=fun y hy e=>by
   have:=List.all_eq_true.mp ha y hy
   split at this
   ·rename_i a b e1 e2
    rw[DJ e1,DJ e2] at e
    simp at this
    exact this e
   ·cases this
  cases i with
  |zero=>
   cases j with
   |zero=>rfl
   |succ j=>
    simp at h1 h2
    subst h1
    exact(main y (List.mem_of_getElem? h2) e).elim
  |succ i=>
   cases j with
   |zero=>
    simp at h1 h2
    subst h2
    exact(main x (List.mem_of_getElem? h1) e.symm).elim
   |succ j=>
    simp at h1 h2
    rw[xJ hr i j x y h1 h2 e]
def rQ (kvs more:List (List Key×V)):List (List Key×V):=more.foldl (fun acc p=>wE acc p.1 p.2) kvs
def uE (kvs more:List (List Key×D)):List (List Key×D):=more.foldl (fun acc p=>nW acc p.1 p.2) kvs
theorem KT.merge {H:Hp}:∀ {ms:List (List Key×V)}{ys:List (List Key×Addr×Value)},KT H ms ys->∀ {kvs:List (List Key×V)}{xs:List (List Key×Addr×Value)},KT H kvs xs->KT H (rQ kvs ms) (gX xs ys)
 |_,_,.nil,_,_,r=>r
 |_,_,.cons (a:=p) (b:=q) h t,kvs,xs,r=>by
  obtain⟨h1,h2,h3⟩:=h
  have r':=r.put p.1 h2 h3
  rw[h1] at r'
  have:=KT.merge t r'
  rw[<- h1] at this
  show KT H (rQ (wE kvs p.1 p.2) _) (gX (storedH xs q.1 q.2.1 q.2.2) _)
  rw[<- h1]
  exact this
theorem KvR.mergeR {K:PySem.W.Frag}{ok:Okk}{H:Hp}:∀ {ms:List (List Key×V)}{ns:List (List Key×D)},KvR K ok H ms ns->∀ {vs:List (List Key×V)}{ds:List (List Key×D)},KvR K ok H vs ds->KvR K ok H (rQ vs ms) (uE ds ns)
 |_,_,.nil,_,_,r=>r
 |_,_,.cons h t,vs,ds,r=>KvR.mergeR t (r.put h)
theorem HL {kvs:List (List Key×V)}{k:List Key}{v:V}:(wE kvs k v).length<=kvs.length+1:=nZ kvs k v
theorem xE:∀ {ms kvs:List (List Key×V)},(rQ kvs ms).length<=kvs.length+ms.length
 |[],_=>Nat.le_refl _
 |p::r,kvs=>by
  have:=xE (ms:=r) (kvs:=wE kvs p.1 p.2)
  have:=HL (kvs:=kvs) (k:=p.1) (v:=p.2)
  show(rQ (wE kvs p.1 p.2) r).length<=kvs.length+(r.length+1)
  omega
section
variable {X:Cx}{pins:List (Addr×Obj)}{σ:St}{H:Hp}{s:Shared}{a b:Addr}{kvs ms:List (List Key×V)}{A:Around}{E:Value->Shared->Prop}
theorem Oe {Q:Value->Shared->Prop} (hu:A.units+1<cLine) (I:Inv X pins σ H s) (ea:H a=some (.dT kvs)) (eb:H b=some (.dT ms)) (hne:a≠b) (hl:kvs.length+ms.length<=sizeLine) (hh:fT (ms.map (·.1))=true)
  (h:∀ s',Inv X pins σ (upd H a (.dT (rQ kvs ms))) s'->Q .none s'):wpAny (model X.prog X.w) A (call (.builtin "dict.update") [.ref a,.ref b]) Q E s:=by
 obtain⟨z,hd,xs,rel,dd⟩:=Jd I.hok ea
 obtain⟨z2,hd2,ys,rel2,dd2⟩:=Jd I.hok eb
 have lx:kvs.length=xs.length:=Paired.length rel
 have ly:ms.length=ys.length:=Paired.length rel2
 have keys:ms.map (·.1)=ys.map (·.1):=by
  clear dd2 ly z2 hl hh eb h
  induction rel2 with
  |nil=>rfl
  |cons h t ih=>rw[List.map_cons,List.map_cons,ih,h.1]
 rw[keys] at hh
 refine call_meetsIn PySem.F.slot_dict_update dd.typeIs PySem.F.entry_dict_update (PySem.F.args_dict_update_2 _ _) (Fh a b hne hd2) ⟨hu,xs,ys,dd,dd2,by omega,fun i j x y h1 h2 e=> ?_,fun h' dd' hs=>h _ ?_⟩
 ·exact xJ hh i j x.1 y.1 (by rw[List.getElem?_map,h1];rfl) (by rw[List.getElem?_map,h2];rfl) e
 ·obtain⟨q,es,ep,hq,h2,h3,h4,_,h5⟩:=dd'
  refine zM I (by rw[ea];exact True.intro) hs ⟨q,hq⟩ ⟨Nat.le_trans xE hl,hd,_,KT.keeps (KT.merge rel2 rel) fun c ws ec=> ?_,q,es,ep,hq,h2,h3,h4,h5⟩
  rw[aM (Lb ec ea (fun z=>nomatch z))]
  exact ec
def MC:V->List V->Hp->VK->Prop:=fun x xs H Q=>∃ a b kvs ms,x=.ref a/\xs=[.ref b]/\H a=some (.dT kvs)/\H b=some (.dT ms)/\a≠b/\kvs.length+ms.length<=sizeLine/\fT (ms.map (·.1))=true/\Q .non (upd H a (.dT (rQ kvs ms)))
theorem Lc (hu:X.A.units+1<cLine):MtR X "dict.update" MC:=by
 intro pins s σ H x xs v us Q I rx rs h
 obtain⟨a,b,kvs,ms,rfl,rfl,ha,hb,hne,hl,hh,q⟩:=h
 obtain⟨u,rfl,ru⟩:=sD rs
 cases rx
 cases ru
 exact Oe hu I ha hb hne hl hh fun s' I'=>⟨.non,_,I',rfl,q⟩
end
section
variable {X:Cx}{cls exC:Nat->Addr}{E:XE}{e a b c o i value:Expr}{es rest:List Expr}{fa fb fc fo fi fv:OG D}{fl:OG (List D)}{ft ft':OG Bool}{pos p apos pos' cpos:Pos}{x m:Str}{st:Stmt}
def GE (ω:Om) (d:D) (as:List D):Option (D×Om):=match d,as with
 |.obj n,[.obj m]=>match ω[n]?,ω[m]? with
  |some (.dt kvs),some (.dt ms)=>if n≠m/\kvs.length+ms.length<=sizeLine/\fT (ms.map (·.1))=true then some (.non,ω.set n (.dt (uE kvs ms))) else none
  |_,_=>none
 |_,_=>none
theorem IS {K:PySem.W.Frag}:Hr cls K MC GE:=fun ok H ω x xs a as d ω' Q h1 st ra rs e k=>by
 unfold GE at e
 split at e
 ·rename_i n m
  split at e
  ·rename_i kvs ms hc hc2
   obtain⟨⟨hnm,hl,hh⟩,e3⟩:=bU e
   cases e3
   obtain⟨a1,rfl,e4,vs,e5,kv⟩:=st.ref ra hc
   obtain⟨w,rfl,rw'⟩:=rs.one_inv
   obtain⟨b1,rfl,e6,us,e7,kv2⟩:=st.ref rw' hc2
   refine⟨a1,b1,vs,us,rfl,rfl,e5,e7,fun z=>hnm (st.inj n m a1 e4 (z ▸ e6)),by rw[kv.length,kv2.length];exact hl,by rw[kv2.keys];exact hh,?_⟩
   have nw:=Nw.write (o:=.dT (rQ vs us)) (ob:=.dt (uE kvs ms)) h1 st e4 e5 fun dat=>⟨_,aS,(kv2.mergeR kv).mono dat fun _ _ z=>z⟩
   exact k _ ok _ nw .non
  ·cases e
 ·cases e
theorem KN (hu:X.A.units+1<cLine) (ho:OE X cls E o fo) (ha:OA X cls E [e] fl) (hbase:attributeBase o "update" X.env (eval o X.env)=eval o X.env:=by rfl)
  (hfew:((backTo cpos (starEach [e] X.env)).all (fun x=> !x.1)&&(backToKw cpos (keywordEach [] X.env)).all (fun x=>x.1.isSome)
   &&decide ([e].length+([]:List Keyword).length+(if([]:List Keyword).isEmpty then 0 else 1)<30))=true:=by rfl)
  (hline:(apos.endLine==cpos.line)=true:=by rfl) (hs:starEach [e] X.env=(false,eval e X.env)::starEach [] X.env:=by rfl) (hplain:(backTo cpos (starEach [] X.env)).any (·.1)=false:=by rfl):
  OE X cls E (.Call (.Attribute o "update" apos) [e] [] cpos) (uB GE fo fl):=Nr PySem.F.slot_dict_update PySem.F.type_dict_update (Lc hu) IS ho ha hbase hfew hline hs hplain
end
end L2.MB
end
section
namespace L2.MB
open PySem PySem.Spec PyProof.Rows
theorem _root_.L2.Inv.movedN {X:Cx}{pins:List (Addr×Obj)}{σ:St}{H H':Hp}{s:Shared}{h':Heap}{t':Nat} (I:Inv X pins σ H s) (k:∀ b o,b≠X.env.locals->s.heap.get? b=some o->h'.get? b=some o) (ns:∀ m,s.heap.Ns X.env.locals m->h'.Ns X.env.locals m)
  (old:∀ b o,s.heap.get? b=some o->H' b=H b) (sub:∀ b u,H b=some u->H' b=some u) (hok:HOk X.prog X.w H' h'):Inv X pins σ H' { s with heap:=h',toks:=t' }:=by
 obtain⟨m,hn,lk⟩:=I.loc
 obtain⟨oL,esL,epL,hoL,hdL,rL⟩:=id hn
 have nl:∀ {b:Addr}{o:Obj},X.s₀.heap.get? b=some o->b≠X.env.locals:=fun e z=>absurd (Heap.lt_size e) (by rw[z];exact Nat.not_lt.mpr I.ok.above)
 have nc:∀ {c:Addr}{v:Option Value}{o:Obj},s.heap.get? c=some o->o.data=.cell v->c≠X.env.locals:=fun {c v o} e1 e2 z=>by
  rw[z,hoL] at e1
  cases e1
  rw[hdL] at e2
  cases e2
 have th:∀ b o,s.heap.get? b=some o->H b=none->H' b=none:=fun b o e n=>(old b o e).trans n
 refine⟨I.ok,I.os,I.bare,⟨fun b o e n hb hx=>k b o (nl e) (I.base.keep b o e n hb hx),fun b o e n hb hx=> ?_,fun b o e n hx=> ?_,fun b o e hx=> ?_,fun b xs e=>sub _ _ (I.base.tups b xs e),fun b u v e=>sub _ _ (I.base.frzs b u v e),fun b ps e=> ?_⟩,⟨m,ns m hn,fun i x v e1 e2 e3=> ?_⟩,fun x c e=> ?_,th _ _ hoL I.free,fun x c e=> ?_,fun p hp=> ?_,hok,I.len⟩
 ·obtain⟨sl,z⟩:=I.base.slot b o e n hb hx
  exact⟨sl,k b _ (nl e) z⟩
 ·obtain⟨o',z⟩:=I.base.there b o e hx
  exact th b o' z (I.base.free b o e n hx)
 ·obtain⟨o',z⟩:=I.base.there b o e hx
  exact⟨o',k b o' (nl e) z⟩
 ·obtain⟨m,z⟩:=I.base.tbls b ps e
  exact⟨m,sub _ _ z⟩
 ·obtain⟨u,ru,z⟩:=lk i x v e1 e2 e3
  refine⟨u,ru,?_⟩
  rcases z with z|⟨q,c,e,oc,w1,w2⟩
  ·exact .inl z
  ·exact .inr ⟨q,c,e,oc,k c oc (nc w1 w2) w1,w2⟩
 ·obtain⟨v,oc,w1,w2⟩:=I.cell x c e
  exact⟨v,oc,k c oc (nc w1 w2) w1,w2⟩
 ·obtain⟨v,oc,w1,w2⟩:=I.cell x c e
  exact th c oc w1 (I.freeC x c e)
 ·obtain⟨z1,z2,z3,z4⟩:=I.pin p hp
  exact⟨k p.1 p.2 z3 z1,th _ _ z1 z2,z3,z4⟩
theorem _root_.L2.Inv.moved {X:Cx}{pins:List (Addr×Obj)}{σ:St}{H:Hp}{s:Shared}{h':Heap}{t':Nat} (I:Inv X pins σ H s) (k:∀ b o,b≠X.env.locals->s.heap.get? b=some o->h'.get? b=some o) (ns:∀ m,s.heap.Ns X.env.locals m->h'.Ns X.env.locals m):Inv X pins σ H { s with heap:=h',toks:=t' }:=
 I.movedN k ns (fun _ _ _=>rfl) (fun _ _ e=>e) fun b u e=>by
  have nl:∀ {c:Addr}{o:HO},H c=some o->c≠X.env.locals:=fun e z=>by rw[z,I.free] at e;cases e
  refine(I.hok b u e).stay (fun c v hc q=> ?_) (fun _ q=>q) fun _ _ q=>q
  rcases hc with rfl|hc
  ·exact k c v (nl e) q
  ·exact k c v (nl hc) q
def QI:List Int->List Int->Bool:=HT.lexLt
def IA:List D->Option (List Int)
 |[]=>some []
 |.int i::r=>(IA r).map fun is=>i::is
 |_::_=>none
def nH (a b:D):Option Bool:=match a,b with
 |.int i,.int j=>some (decide (i<j))
 |.str x,.str y=>some (decide (x.cps.toList<y.cps.toList))
 |.tup xs,.tup ys=>(IA xs).bind fun is=>(IA ys).map fun js=>QI is js
 |_,_=>none
def Oy (n:Nat):List D->List D->Bool->Option Bool
 |a::r,b::r',fin=>match eqD n a b with
  |some true=>Oy n r r' fin
  |some false=>nH a b
  |none=>none
 |_,_,fin=>some fin
def Ov {α:Type} (lt:Nat->Nat->Option Bool):PySem.W.KasT α->Option α
 |.ret a=>some a
 |.ask i j k=>(lt i j).bind fun c=>Ov lt (k c)
theorem FD {α:Type}{lt:Nat->Nat->Option Bool}{cmp:Nat->Nat->(Bool->Shared->Prop)->Shared->Prop}{s:Shared}{Q:α->Shared->Prop} (hc:∀ i j c C,lt i j=some c->C c s->cmp i j C s):∀ {t:PySem.W.KasT α}{a:α},Ov lt t=some a->Q a s->PySem.W.KasT.kasWp cmp t Q s
 |.ret b,a,h,q=>by
  rw[PySem.W.KasT.kasWp.eq_1]
  cases h
  exact q
 |.ask i j k,a,h,q=>by
  rw[PySem.W.KasT.kasWp.eq_2]
  obtain⟨c,e1,e2⟩:=aX (show(lt i j).bind _=_ from h)
  exact hc i j c _ e1 (FD hc e2 q)
def zA (n:Nat) (a b:D):Option Bool:=match a,b with
 |.tup xs,.tup ys=>Oy n xs ys (decide (xs.length<ys.length))
 |_,_=>none
def oA:D->Option Bool
 |.tup (.int _::_)=>some true
 |.tup (.str _::_)=>some false
 |_=>none
def nY (ds:List D):Bool:=ds.all (fun d=>oA d==some true)||ds.all (fun d=>oA d==some false)
def mR (n:Nat) (ds:List D):Option (List D):=if ds.length<2 then some ds else if ds.length<64/\nY ds=true then
 (Ov (fun i j=>zA n (ds.getD i .non) (ds.getD j .non)) (PySem.W.kas_sort ds.length)).bind fun p=>if p.toList.length<=64 then some (p.toList.map fun i=>ds.getD i .non) else none else none
section
variable {X:Cx}{pins:List (Addr×Obj)}{σ:St}{H:Hp}{s:Shared}{ok:Okk}{A:Around}{E:Value->Shared->Prop}
theorem Cr {K:PySem.W.Frag}:∀ {ds:List D}{is:List Int}{xs:List V}{us:List Value},IA ds=some is->Reps K ok H xs ds->Vals xs us->IntsAre us is
 |[],_,_,_,h,.nil,.nil=>by cases h;exact .nil
 |.int i::r,_,_,_,h,.cons rr rs,.cons v vs=>by
  obtain⟨js,e,rfl⟩:=aN h
  obtain rfl:=rr.int_inv
  obtain⟨t,rfl⟩:=v
  exact .cons _ _ (Cr e rs vs)
theorem Lj (I:Inv X pins σ H s) {a b:D}{x y:V}{v u:Value}{k:Bool}{Q:Bool->Shared->Prop} (f:Bool) (hf:f=true->oA (.tup [a])≠none/\oA (.tup [b])≠none) (ra:Rep X.K ok H x a) (rb:Rep X.K ok H y b) (rv:RelV x v) (ru:RelV y u) (e:nH a b=some k) (hu:A.units<cLine) (q:Q k s):
  wpAny (model X.prog X.w) A (oneLt' f v u) Q E s:=by
 unfold nH at e
 split at e
 ·cases e
  obtain rfl:=ra.int_inv
  obtain rfl:=rb.int_inv
  obtain⟨t,rfl⟩:=rv
  obtain⟨t',rfl⟩:=ru
  cases f with
  |true=>exact PySem.W.kat_lt_int q
  |false=>exact PySem.W.kat_one _ _ (lt_int q)
 ·cases e
  obtain rfl:=ra.str_inv
  obtain rfl:=rb.str_inv
  obtain⟨t,rfl⟩:=rv
  obtain⟨t',rfl⟩:=ru
  cases f with
  |true=>exact PySem.W.kas_lt_str q
  |false=>exact PySem.W.kat_one _ _ (lt_str q)
 ·obtain⟨is,e1,e⟩:=aX e
  obtain⟨js,e2,rfl⟩:=aN e
  cases f with
  |true=>exact absurd rfl (hf rfl).1
  |false=>
   obtain⟨p,xs,rfl,g,rs⟩:=ra.tup_inv
   obtain⟨p',xs',rfl,g',rs'⟩:=rb.tup_inv
   cases rv
   cases ru
   obtain⟨its,rr,pl,_⟩:=I.tuple g.sq
   obtain⟨its',rr',pl',_⟩:=I.tuple g'.sq
   exact PySem.W.kat_one _ _ (HT.lt_tupInts pl pl' (by simpa using Cr e1 rs rr) (by simpa using Cr e2 rs' rr') hu q)
 ·cases e
theorem JR (I:Inv X pins σ H s) {n:Nat}{fin k:Bool}{Q:Bool->Shared->Prop} (hu:A.units+n<cLine) (q:Q k s):∀ {as bs:List D}{xs ys:List V}{vs us:List Value} (i:Nat),(i=0->oA (.tup as)≠none/\oA (.tup bs)≠none)->Reps X.K ok H xs as->Reps X.K ok H ys bs->Vals xs vs->Vals ys us->Oy n as bs fin=some k->
  PySem.W.KatLex X.prog X.w A true fin Q (vs.zip us) i s
 |[],bs,_,_,_,us,i,_,.nil,r2,.nil,v2,e=>by
  have e':some fin=some k:=e
  cases e'
  exact PySem.W.kat_nil q
 |a::as,[],_,_,_,_,i,_,.cons r1 rs1,.nil,.cons w1 ws1,.nil,e=>by
  have e':some fin=some k:=e
  cases e'
  exact PySem.W.kat_nil q
 |a::as,b::bs,_,_,_,_,i,hk,.cons r1 rs1,.cons r2 rs2,.cons w1 ws1,.cons w2 ws2,e=>by
  refine PySem.W.kat_cons ?_
  have e':(match eqD n a b with
   |some true=>Oy n as bs fin
   |some false=>nH a b
   |none=>none)=some k:=e
  cases hq:eqD n a b with
  |none=>rw[hq] at e';cases e'
  |some c=>
   rw[hq] at e'
   refine Bk I n r1 r2 w1 w2 hq hu X.prog X.w _ _ ?_
   cases c with
   |true=>exact PySem.W.kat_yes (JR I hu q (i+1) (fun z=>absurd z (Nat.succ_ne_zero i)) rs1 rs2 ws1 ws2 e')
   |false=>
    refine PySem.W.kat_no ?_
    refine Lj I (true&&i==0) (fun hf=> ?_) r1 r2 w1 w2 e' (by omega) q
    have hi:i=0:=by simpa using hf
    obtain⟨h1,h2⟩:=hk hi
    constructor
    ·intro z
     apply h1
     cases a <;> first|rfl|cases z
    ·intro z
     apply h2
     cases b <;> first|rfl|cases z
theorem Op (I:Inv X pins σ H s) {n:Nat}{a b:D}{x y:V}{v u:Value}{k:Bool}{Q:Bool->Shared->Prop} (hu:A.units+n<cLine) (h1:oA a≠none) (h2:oA b≠none) (ra:Rep X.K ok H x a) (rb:Rep X.K ok H y b) (rv:RelV x v) (ru:RelV y u) (e:zA n a b=some k) (q:Q k s):
  wpAny (model X.prog X.w) A (keyLt' (tuples' true) v u) Q E s:=by
 unfold zA at e
 split at e
 ·rename_i as bs
  obtain⟨p,xs,rfl,g,rs⟩:=ra.tup_inv
  obtain⟨p',xs',rfl,g',rs'⟩:=rb.tup_inv
  cases rv
  cases ru
  obtain⟨its,rr,⟨o,t1,t2,m,t3⟩,_⟩:=I.tuple g.sq
  obtain⟨its',rr',⟨o',t1',t2',m',t3'⟩,_⟩:=I.tuple g'.sq
  refine PySem.W.kat_lt t1 t3 t1' t3' ?_
  have l1:its.toArray.size=as.length:=by rw[List.size_toArray,<- rr.length,rs.length]
  have l2:its'.toArray.size=bs.length:=by rw[List.size_toArray,<- rr'.length,rs'.length]
  rw[l1,l2]
  simpa using JR I hu q 0 (fun _=>⟨h1,h2⟩) rs rs' rr rr' e
 ·cases e
theorem Vals.getD {xs:List V}{vs:List Value} (r:Vals xs vs) (i:Nat):RelV (xs.getD i .non) (vs.getD i .none):=by
 rcases Nat.lt_or_ge i xs.length with h|h
 ·obtain⟨u,e,ru⟩:=r.get (i:=i) (x:=xs[i]) (by simp[h])
  rw[List.getD_eq_getElem?_getD,List.getD_eq_getElem?_getD,e,List.getElem?_eq_getElem h]
  exact ru
 ·rw[List.getD_eq_getElem?_getD,List.getD_eq_getElem?_getD,List.getElem?_eq_none h,List.getElem?_eq_none (by rw[<- r.length];exact h)]
  rfl
theorem Reps.getD {K:PySem.W.Frag}{xs:List V}{ds:List D} (r:Reps K ok H xs ds) (i:Nat):Rep K ok H (xs.getD i .non) (ds.getD i .non):=by
 rcases Nat.lt_or_ge i ds.length with h|h
 ·obtain⟨v,e,rv⟩:=r.get (i:=i) (d:=ds[i]) (by simp[h])
  rw[List.getD_eq_getElem?_getD,List.getD_eq_getElem?_getD,e,List.getElem?_eq_getElem h]
  exact rv
 ·rw[List.getD_eq_getElem?_getD,List.getD_eq_getElem?_getD,List.getElem?_eq_none h,List.getElem?_eq_none (by rw[r.length];exact h)]
  exact .non
theorem Reps.pick {K:PySem.W.Frag}{xs:List V}{ds:List D} (r:Reps K ok H xs ds):∀ is:List Nat,Reps K ok H (is.map fun i=>xs.getD i .non) (is.map fun i=>ds.getD i .non)
 |[]=>.nil
 |i::r'=>.cons (Reps.getD r i) (Reps.pick r r')
theorem Vals.pick {xs:List V}{vs:List Value} (r:Vals xs vs):∀ is:List Nat,Vals (is.map fun i=>xs.getD i .non) (is.map fun i=>vs.getD i .none)
 |[]=>.nil
 |i::r'=>.cons (Vals.getD r i) (Vals.pick r r')
theorem Bi (I:Inv X pins σ H s) (c:Bool):∀ {ds:List D}{xs:List V}{vs:List Value},ds.all (fun d=>oA d==some c)=true->Reps X.K ok H xs ds->Vals xs vs->∃ fs,PySem.W.KatTups s.heap vs fs/\fs.length=ds.length/\∀ v∈fs,PySem.W.Looks (model X.prog X.w) s.heap (typeOf v) (.type (if c then "int" else "str"))
 |[],_,_,_,.nil,.nil=>⟨[],by rw[PySem.W.KatTups.eq_1];trivial,rfl,fun v hv=>absurd hv (by simp)⟩
 |d::ds,_,_,h,.cons r rs,.cons w ws=>by
  rw[List.all_cons,Bool.and_eq_true] at h
  obtain⟨fs,h1,h2,h3⟩:=Bi I c h.2 rs ws
  have hd:oA d=some c:=by simpa using h.1
  cases d with
  |tup as=>
   cases as with
   |nil=>cases hd
   |cons a as=>
    obtain⟨p,xs,rfl,g,rs'⟩:=r.tup_inv
    cases w
    cases rs' with
    |cons ra rs'=>
     obtain⟨its,rr,⟨o,t1,t2,m,t3⟩,_⟩:=I.tuple g.sq
     cases rr with
     |cons wa rr=>
      rename_i u us
      refine⟨u::fs,?_,by simp[h2],fun v hv=> ?_⟩
      ·rw[PySem.W.KatTups.eq_2]
       exact⟨⟨p,o,_,m,rfl,t1,t2,t3,by simp⟩,h1⟩
      ·rcases List.mem_cons.mp hv with rfl|hv
       ·cases a with
        |int i=>
         cases hd
         obtain rfl:=ra.int_inv
         obtain⟨t,rfl⟩:=wa
         intro A Q E s' _ q
         exact wpAny_pure q
        |str i=>
         cases hd
         obtain rfl:=ra.str_inv
         obtain⟨t,rfl⟩:=wa
         intro A Q E s' _ q
         exact wpAny_pure q
        |_=>cases hd
       ·exact h3 v hv
  |_=>cases hd
end
end L2.MB
end
section
namespace L2.MB
open PySem PySem.Spec PyProof.Rows
def AL (h h0:Heap) (L a:Addr):List (Addr×Obj):=(List.range h.objs.size).filterMap fun b=>if b=L∨b=a∨(h0.get? b).isSome=true then none else(h.get? b).map fun o=>(b,o)
theorem Eu {h h0:Heap}{L a b:Addr}{o:Obj} (e:h.get? b=some o) (h1:b≠L) (h2:b≠a) (h3:h0.get? b=none):(b,o)∈AL h h0 L a:=by
 unfold AL
 refine List.mem_filterMap.mpr ⟨b,List.mem_range.mpr (Heap.lt_size e),?_⟩
 rw[if_neg (by simp[h1,h2,h3]),e]
 rfl
theorem tY {h h0:Heap}{L a:Addr}{p:Addr×Obj} (hp:p∈AL h h0 L a):h.get? p.1=some p.2/\p.1≠L/\p.1≠a/\h0.get? p.1=none:=by
 obtain⟨b,_,e⟩:=List.mem_filterMap.mp hp
 by_cases hc:b=L∨b=a∨(h0.get? b).isSome=true
 ·rw[if_pos hc] at e;cases e
 ·rw[if_neg hc] at e
  obtain⟨o,e1,e2⟩:=aN e
  subst e2
  refine⟨e1,fun z=>hc (.inl z),fun z=>hc (.inr (.inl z)),?_⟩
  cases q:h0.get? b with
  |none=>rfl
  |some u=>exact absurd (.inr (.inr (by rw[q];rfl))) hc
theorem Ny {h:Heap}{a:Addr}{m m':Str->Option Value} (h1:h.Ns a m) (h2:h.Ns a m'):m=m':=by
 obtain⟨o,es,ep,e1,e2,_,e3⟩:=h1
 obtain⟨o',es',ep',g1,g2,_,g3⟩:=h2
 rw[e1] at g1
 cases g1
 rw[e2] at g2
 cases g2
 funext x
 rw[<- e3,g3]
theorem FO {xs:List V}:∀ {us:List Value},xs.length=us.length->(∀(j:Nat) x v,xs[j]?=some x->us[j]?=some v->RelV x v)->Vals xs us:=by
 induction xs with
 |nil=>
  intro us h _
  cases us with
  |nil=>exact .nil
  |cons _ _=>cases h
 |cons x r ih=>
  intro us h g
  cases us with
  |nil=>cases h
  |cons u us=>exact .cons (g 0 x u rfl rfl) (ih (by simpa using h) fun j y v e1 e2=>g (j+1) y v (by simpa using e1) (by simpa using e2))
section
variable {X:Cx}{pins:List (Addr×Obj)}{σ:St}{H:Hp}{s:Shared}{ok:Okk}{A:Around}{E:Value->Shared->Prop}
theorem Li {ds:List D}{n i j:Nat}{c:Bool} (hk:nY ds=true) (e:zA n (ds.getD i .non) (ds.getD j .non)=some c):oA (ds.getD i .non)≠none/\oA (ds.getD j .non)≠none:=by
 have inr:∀ i,ds.getD i .non≠ .non->oA (ds.getD i .non)≠none:=fun i hi=>by
  have hlt:i<ds.length:=by
   rcases Nat.lt_or_ge i ds.length with h|h
   ·exact h
   ·rw[List.getD_eq_getElem?_getD,List.getElem?_eq_none h] at hi
    exact absurd rfl hi
  have hm:ds.getD i .non∈ds:=by
   rw[List.getD_eq_getElem?_getD,List.getElem?_eq_getElem hlt]
   exact List.getElem_mem hlt
  unfold nY at hk
  rw[Bool.or_eq_true] at hk
  rcases hk with hk|hk
  ·have:=List.all_eq_true.mp hk _ hm
   intro z
   rw[z] at this
   cases this
  ·have:=List.all_eq_true.mp hk _ hm
   intro z
   rw[z] at this
   cases this
 refine⟨inr i fun z=> ?_,inr j fun z=> ?_⟩
 ·rw[z] at e
  cases e
 ·rw[z] at e
  unfold zA at e
  split at e
  ·rename_i h2
   cases h2
  ·cases e
theorem BZ {r:Addr}{n m:Nat}{P:Nat->Value->Prop}{Q:Value->Shared->Prop}{xs:List V}{ds out:List D} (I:Inv X pins σ H s) (col:∀ {R:List Value->Shared->Prop},(∀(h':Heap) (tk:Nat) (acc:Array Value),(∀ b o,s.heap.get? b=some o->h'.get? b=some o)->ItemsOf P acc n->R acc.toList { s with heap:=h',toks:=tk })->wpAny (model X.prog X.w) A.in1 (collect (.ref r)) R E s) (hn2:2<=n) (hn:n<64) (hu:A.units+(m+2)<cLine)
  (hx:xs.length=n) (hP:∀(j:Nat) v x,P j v->xs[j]?=some x->RelV x v) (rs:Reps X.K ok H xs ds) (hs:mR m ds=some out)
  (h:∀(h':Heap) (tk:Nat) (ys:List V) (l:Addr),H l=none->Inv X pins σ (upd H l (.lst ys)) { s with heap:=h',toks:=tk }->Reps X.K ok H ys out->Q (.ref l) { s with heap:=h',toks:=tk }):
  wpAny (model X.prog X.w) A (call (.builtin "sorted") [.ref r]) Q E s:=by
 have hl':ds.length=n:=by rw[<- rs.length];exact hx
 unfold mR at hs
 rw[if_neg (by omega)] at hs
 obtain⟨⟨_,hk⟩,hs⟩:=eB hs
 obtain⟨p,hrun,hs⟩:=aX hs
 obtain⟨hpl,hs⟩:=bU hs
 refine Calls.call_function_entry kind_sorted plain_sorted entry_sorted (args_sorted1 _) ?_
 unfold Builtin.«sorted»
 refine wpAny_bind (m:=checkCount "sorted" 1 1 _) (wpAny_pure (wpAny_bind (col fun h1 tk acc kp it=> ?_)))
 have hl:acc.toList.length=n:=by rw[Array.length_toList];exact it.1
 refine wpAny_bind (wpAny_newList ?_ (by rw[hl,sizeLine_eq];omega))
 have o1:(h1.push (seqObj "list" acc.toList.toArray 0)).get? h1.objs.size=some (seqObj "list" acc.toList.toArray 0):=Heap.get?_push_size _ rfl
 have nw:s.heap.get? h1.objs.size=none:=by
  cases q:s.heap.get? h1.objs.size with
  |none=>rfl
  |some u=>exact absurd (Heap.lt_size (kp _ _ q)) (Nat.lt_irrefl _)
 have hH:H h1.objs.size=none:=by
  cases q:H h1.objs.size with
  |none=>rfl
  |some u=>
   obtain⟨v,w⟩:=HOk.obj I.hok q
   rw[nw] at w
   cases w
 obtain⟨mL,hnL,_⟩:=I.loc
 have kp2:∀ b o,s.heap.get? b=some o->(h1.push (seqObj "list" acc.toList.toArray 0)).get? b=some o:=fun b o e=>Heap.get?_push_of_some _ (kp b o e)
 have fr:Fr X.base X.env.locals (h1.push (seqObj "list" acc.toList.toArray 0)) mL:=⟨hnL.keeps kp2,fun b o e=>kp2 b o (I.bk b o e),Nat.le_trans I.ok.bsz I.ok.above⟩
 have aL:h1.objs.size≠X.env.locals:=fun z=>by
  obtain⟨oL,_,_,hoL,_⟩:=id hnL
  rw[<- z,nw] at hoL
  cases hoL
 have hb0:X.base.get? h1.objs.size=none:=by
  cases q:X.base.get? h1.objs.size with
  |none=>rfl
  |some u=>
   have:=I.bk _ _ q
   rw[nw] at this
   cases this
 have rv:Vals xs acc.toList:=by
  refine FO (by rw[hx,hl]) fun j x v e1 e2=> ?_
  exact hP j v x (it.2 j v (by rw[<- Array.getElem?_toList];exact e2)) e1
 refine wpAny_bind (wpAny_holding (wpAny_call_entry slot_list_sort ⟨_,o1,rfl⟩ entry_list_sort (PySem.W.kat_list_sort (s:={ s with heap:=h1.push (seqObj "list" acc.toList.toArray 0),toks:=tk }) (news:=AL (h1.push (seqObj "list" acc.toList.toArray 0)) X.base X.env.locals h1.objs.size) fr (fun q hq=>let ⟨z1,z2,z3,z4⟩:=tY hq;⟨z1,z2,z4⟩) o1 aL hb0 (fun q hq=>(tY hq).2.2.1) (by rw[hl];exact hn2) (by rw[hl];exact hn) fun e1 h' fr' nw'=> ?_) (args_list_sort _)))
 -- the state in its midst
 have keep:∀ {h':Heap},Fr X.base X.env.locals h' mL->News X.base X.env.locals h' (AL (h1.push (seqObj "list" acc.toList.toArray 0)) X.base X.env.locals h1.objs.size)->∀ b o,b≠X.env.locals->s.heap.get? b=some o->h'.get? b=some o:=fun {h'} fr' nw' b o hb e=>by
  have hne:b≠h1.objs.size:=fun z=>by rw[z,nw] at e;cases e
  cases q:X.base.get? b with
  |some u=>
   have:=I.bk b u q
   rw[e] at this
   cases this
   exact fr'.keep b _ q
  |none=>exact(nw' _ (Eu (kp2 b o e) hb hne q)).1
 have nsk:∀ {h':Heap},Fr X.base X.env.locals h' mL->∀ m,s.heap.Ns X.env.locals m->h'.Ns X.env.locals m:=fun {h'} fr' m hm=>by
  rw[Ny hm hnL]
  exact fr'.ns
 have I1:Inv X pins σ H { s with heap:=h',toks:=tk }:=I.moved (keep fr' fun q hq=>nw' q (List.mem_cons_of_mem _ hq)) (nsk fr')
 have hka:∃ c:Bool,ds.all (fun d=>oA d==some c)=true:=by
  unfold nY at hk
  rw[Bool.or_eq_true] at hk
  rcases hk with hk|hk
  ·exact⟨true,hk⟩
  ·exact⟨false,hk⟩
 obtain⟨c,hka⟩:=hka
 obtain⟨fs,f1,f2,f3⟩:=Bi I1 c hka rs rv
 refine PySem.W.kat_kind f1 (by rw[f2];omega) f3 (by cases c <;> rfl) ?_
 have hT:((Value.type (if c=true then "int" else "str")) !=Value.type "tuple")=true:=by cases c <;> rfl
 rw[hT,hl,<- hl']
 refine FD (fun i j c C e q=> ?_) hrun ?_
 ·obtain⟨k1,k2⟩:=Li hk e
  exact Op I1 (fQ (fQ hu)) k1 k2 (Reps.getD rs i) (Reps.getD rs j) (Vals.getD rv i) (Vals.getD rv j) e q
 ·refine⟨_,_,fr',nw',.head (fun q hq=>(tY hq).2.2.1),fun h2 cc fr2 nw2=>⟨_,rfl,?_⟩⟩
  have na2:h2.get? h1.objs.size=some (PySem.W.listOf (List.map (fun i=>acc.toList.getD i Value.none) p.toList).toArray cc):=(nw2 _ List.mem_cons_self).1
  have I2:Inv X pins σ (upd H h1.objs.size (.lst (p.toList.map fun i=>xs.getD i .non))) { s with heap:=h2,toks:=tk }:=by
   have kk:=keep fr2 fun q hq=>nw2 q (List.mem_cons_of_mem _ hq)
   refine I.movedN kk (nsk fr2) (fun b o e=> ?_) (fun b u e=> ?_) fun b u e=> ?_
   ·rw[aM (fun z=>by rw[z,nw] at e;cases e)]
   ·rw[aM (aQ e hH)];exact e
   ·by_cases hb:b=h1.objs.size
    ·subst hb
     rw[aS] at e
     cases e
     refine⟨?_,_,cc,Vals.pick rv p.toList,na2⟩
     rw[List.length_map,sizeLine_eq]
     omega
    ·rw[aM hb] at e
     have nl:∀ {c:Addr}{o:HO},H c=some o->c≠X.env.locals:=fun e z=>by rw[z,I.free] at e;cases e
     refine(I.hok b u e).stay (fun c v hc q=> ?_) (fun c q=>by rw[aM (aQ q hH)];exact q) fun c xs q=>by rw[aM (aQ q hH)];exact q
     rcases hc with rfl|hc
     ·exact kk c v (nl e) q
     ·exact kk c v (nl hc) q
  cases hs
  exact wpAny_pure ⟨_,rfl,h h2 tk _ _ hH I2 (Reps.pick rs p.toList)⟩
theorem tN {T:String}{r d:Addr}{n m:Nat}{P:Nat->Value->Prop}{OK:Heap->Prop}{Q:Value->Shared->Prop}{xs:List V}{ds out:List D} (I:Inv X pins σ H s) (K:PySem.W.KdlSrc X.prog X.w T r d n P OK) (hh:A.handled=none) (hok:OK s.heap) (hn2:2<=n) (hn:n<64) (hu:A.units+(m+2)<cLine)
  (hx:xs.length=n) (hP:∀(j:Nat) v x,P j v->xs[j]?=some x->RelV x v) (rs:Reps X.K ok H xs ds) (hs:mR m ds=some out)
  (h:∀(h':Heap) (tk:Nat) (ys:List V) (l:Addr),H l=none->Inv X pins σ (upd H l (.lst ys)) { s with heap:=h',toks:=tk }->Reps X.K ok H ys out->Q (.ref l) { s with heap:=h',toks:=tk }):
  wpAny (model X.prog X.w) A (call (.builtin "sorted") [.ref r]) Q E s:=
 BZ I (fun h=>PySem.W.kdu_collect (A:=A.in1) K hh hok (by rw[sizeLine_eq];omega) h) hn2 hn hu hx hP rs hs h
end
end L2.MB
end
section
namespace L2.MB
open PySem PySem.Spec PyProof.Rows
section
variable {X:Cx}{cls exC:Nat->Addr}{E:XE}{e a b c o i value:Expr}{es rest:List Expr}{fa fb fc fo fi fv:OG D}{fl:OG (List D)}{ft ft':OG Bool}{pos p apos pos' cpos:Pos}{x m:Str}{st:Stmt}
def OZ (K:PySem.W.Frag) (n:Nat):List V->Hp->VK->Prop:=fun xs H Q=>∃ v d kvs ds out ok,xs=[.ref v]/\H v=some (Ma v d)/\H d=some (.dT kvs)/\Reps K ok H (kvs.map (·.2)) ds/\mR n ds=some out/\∀ l ys,H l=none->Reps K ok H ys out->Q (.ref l) (upd H l (.lst ys))
theorem Ar {n:Nat}{ds out:List D} (h:mR n ds=some out) (hl:ds.length<2):out=ds:=by
 unfold mR at h
 rw[if_pos hl] at h
 cases h
 rfl
theorem Aq {n:Nat}{ds out:List D} (h:mR n ds=some out) (hl:¬ ds.length<2):ds.length<64:=by
 unfold mR at h
 rw[if_neg hl] at h
 exact(eB h).1.1
theorem GY {n:Nat} (hc:X.calm=true) (hu:X.A.units+(n+2)<cLine):CallR X (.builtin "sorted") (OZ X.K n):=by
 intro pins s σ H xs us Q I r h
 obtain⟨v,d,kvs,ds,out,ok,rfl,hv,hd,rs,hs,q⟩:=h
 have hlen:ds.length=kvs.length:=by rw[<- rs.length,List.length_map]
 by_cases hl:ds.length<2
 ·obtain rfl:=Ar hs hl
  exact By hc pins s σ H _ us Q I r ⟨v,d,kvs,rfl,hv,hd,by omega,fun l nl=>q l _ nl rs⟩
 ·obtain⟨u,rfl,rx⟩:=sD r
  cases rx
  obtain⟨lo,hz,es,ep,rd,sz,it⟩:=uZ I (.inl hd)
  have vw:s.heap.IsValuesView v d:=(show ObjOk X.prog X.w H s.heap v (Ma v d) from I.hok v _ hv).1
  have h64:=Aq hs hl
  refine tN I (wS (d:=d) (es:=es) (ep:=ep)) (I.ok.hd hc) ⟨vw,rd⟩ (by omega) (by omega) hu (by rw[List.length_map,sz]) (fun j v x hp hx=> ?_) rs hs fun h' tk ys l nl I' rs'=>⟨.ref l,_,I',rfl,q l ys nl rs'⟩
  obtain⟨y,y1,y2⟩:=hp
  obtain⟨p,p1,p2,_⟩:=it j y y1
  rw[List.getElem?_map,p1] at hx
  cases hx
  rw[y2]
  exact p2
def GG (n:Nat) (ω:Om) (d:D):Option D:=match cellOf ω d with
 |some (.dt kvs)=>(mR n (kvs.map (·.2))).map D.lst
 |_=>none
def KZ (n:Nat) (f:OG D):OG D:=oB f fun d _ ω=>oR (pu (GG n ω d) ω)
theorem KO {n:Nat}{ap cp:Pos} (hu:X.A.units+(n+2)<cLine) (hc:X.calm=true) (hg:Gl X "sorted") (hm:X.mg "sorted"=none) (ho:OE X cls E o fo) (hbase:attributeBase o "values" X.env (eval o X.env)=eval o X.env:=by rfl) (hline:(ap.endLine==cp.line)=true:=by rfl)
  (he:starEach [.Call (.Attribute o "values" ap) [] [] cp] X.env=(false,eval (.Call (.Attribute o "values" ap) [] [] cp) X.env)::starEach [] X.env:=by rfl) (hpl:(backTo pos (starEach [] X.env)).any (·.1)=false:=by rfl):
  OE X cls E (.Call (.Name "sorted" p) [.Call (.Attribute o "values" ap) [] [] cp] [] pos) (KZ n fo):=
 (sV (GY hc hu) hg hm boot.sorted (jT (MX PySem.F.plainAttrs_dict PySem.F.slot_dict_values PySem.F.type_dict_values Gf ho hbase hline) xB he) (by decide) (by decide) he hpl).imp fun σ H Q ⟨ok,ρ,ω,r,ω',P,e,q⟩=>by
  refine tO.then_ P e (fun c z=>by subst z;exact q) fun d ω1 v ok1 H1 e1 n1 P1 r1=> ?_
  obtain⟨y,e3,rfl⟩:=cS e1
  obtain⟨ue3,rfl⟩:=dF e3
  unfold GG at ue3
  split at ue3
  ·rename_i kvs hcell
   obtain⟨k,rfl,e4⟩:=eL hcell
   obtain⟨out,e5,rfl⟩:=aN ue3
   obtain⟨a,rfl,e6,vs,e7,kv⟩:=P1.st.ref r1 e4
   refine⟨.inr (.inr (.inl ⟨rfl,.inr ⟨vs,e7⟩⟩)),a,vs,rfl,rfl,e7,fun w nw=> ?_⟩
   have hne:a≠w:=aQ e7 nw
   have s2:=dE (o:=Ma w a) nw
   refine⟨w,a,vs,_,out,ok1,rfl,aS,by rw[aM hne];exact e7,kv.vals.same s2,e5,fun l ys nl rs=> ?_⟩
   have s3:=dE (o:=.lst ys) nl
   exact q _ ok1 _ (n1.trans (.same P1.okh P1.st (s2.trans s3))) (.lst_new (P1.okh l (s2.free nl)) nl rs)
  ·cases ue3
def MD (K:PySem.W.Frag) (n:Nat):List V->Hp->VK->Prop:=fun xs H Q=>∃ d kvs out ok,xs=[.ref d]/\H d=some (.dT kvs)/\OkH ok H/\mR n (kvs.map fun p=>cR p.1)=some out/\∀ l ys,H l=none->Reps K ok H ys out->Q (.ref l) (upd H l (.lst ys))
theorem AR {K:PySem.W.Frag}{ok:Okk}{H:Hp} (hok:OkH ok H):∀ {kvs:List (List Key×V)}{as:List Addr},as.length=kvs.length->(∀(j:Nat) p a,kvs[j]?=some p->as[j]?=some a->H a=some (.tup (p.1.map kV)))->Reps K ok H (as.map V.ref) (kvs.map fun p=>cR p.1)
 |[],[],_,_=>.nil
 |p::kvs,a::as,hl,h=>by
  refine .cons ?_ (AR hok (by simpa using hl) fun j q b e1 e2=>h (j+1) q b (by simpa using e1) (by simpa using e2))
  have:=h 0 p a rfl rfl
  exact .tup ⟨hok.tp a _ this,this⟩ (Cp p.1)
 |[],_::_,hl,_=>by cases hl
 |_::_,[],hl,_=>by cases hl
theorem GZ {n:Nat} (hc:X.calm=true) (hu:X.A.units+(n+2)<cLine):CallR X (.builtin "sorted") (MD X.K n):=by
 intro pins s σ H xs us Q I r h
 obtain⟨d,kvs,out,ok,rfl,hd,hok,hs,q⟩:=h
 obtain⟨u,rfl,rx⟩:=sD r
 cases rx
 obtain⟨lo,hz,es,ep,rd,sz,it⟩:=uZ I (.inl hd)
 -- the keys' addresses
 have hex:∀ j,j<es.size->∃ a,∃ y p,es[j]?=some y/\kvs[j]?=some p/\y.key=.ref a/\H a=some (.tup (p.1.map kV)):=fun j hj=>by
  obtain⟨p,p1,_,a,p2,p3⟩:=it j es[j] (by simp[hj])
  exact⟨a,_,p,by simp[hj],p1,p2,p3⟩
 have hass:∃ as:List Addr,as.length=kvs.length/\∀(j:Nat) a,as[j]?=some a->∃ y p,es[j]?=some y/\kvs[j]?=some p/\y.key=.ref a/\H a=some (.tup (p.1.map kV)):=by
  refine⟨(List.range es.size).map fun j=>if hj:j<es.size then(hex j hj).choose else 0,by simp[sz],fun j a ha=> ?_⟩
  rw[List.getElem?_map] at ha
  obtain⟨j',e1,e2⟩:=aN ha
  have hj0:j<es.size:=by
   rcases Nat.lt_or_ge j es.size with z|z
   ·exact z
   ·rw[List.getElem?_eq_none (by simpa using z)] at e1
    cases e1
  have hj:j<es.size/\j'=j:=by
   rw[List.getElem?_range hj0] at e1
   cases e1
   exact⟨hj0,rfl⟩
  obtain⟨hj,rfl⟩:=hj
  rw[dif_pos hj] at e2
  rw[<- e2]
  exact(hex _ hj).choose_spec
 obtain⟨as,al,ah⟩:=hass
 have rs:Reps X.K ok H (as.map V.ref) (kvs.map fun p=>cR p.1):=AR hok al fun j p a e1 e2=>by
  obtain⟨y,p',_,g2,_,g4⟩:=ah j a e2
  rw[e1] at g2
  cases g2
  exact g4
 have hPP:∀(j:Nat) v x,(∃ e,es[j]?=some e/\v=e.key)->(as.map V.ref)[j]?=some x->RelV x v:=fun j v x ⟨e,e1,e2⟩ hx=>by
  rw[List.getElem?_map] at hx
  obtain⟨a,a1,a2⟩:=aN hx
  subst a2
  obtain⟨y,p,g1,_,g3,_⟩:=ah j a a1
  rw[e1] at g1
  cases g1
  rw[e2,g3]
  rfl
 by_cases hl:kvs.length<2
 ·obtain rfl:=Ar hs (by simpa using hl)
  refine tP (Dj (d:=d) (es:=es) (ep:=ep) lo) (I.ok.hd hc) rd (by rw[sz];exact hl) fun h' tk vs a c kp na hlen hP ha=> ?_
  have rv:Vals (as.map V.ref) vs:=Fe (by rw[hlen,sz,List.length_map,al]) fun j w hw=>by
   have hj:j<as.length:=by
    have:=(List.getElem?_eq_some_iff.mp hw).1
    rw[al,<- sz,<- hlen]
    exact this
   exact⟨.ref as[j],by rw[List.getElem?_map,List.getElem?_eq_getElem hj];rfl,hPP j w _ (hP j w hw) (by rw[List.getElem?_map,List.getElem?_eq_getElem hj];rfl)⟩
  obtain⟨hn,I'⟩:=I.laidN (t':=tk) kp na (DD (H:=upd H a (.lst (as.map V.ref))) rv (by rw[List.length_map,al];exact hz) ha)
  exact⟨.ref a,_,I',rfl,q a _ hn rs⟩
 ·have h64:=Aq hs (by simpa using hl)
  rw[List.length_map] at h64
  exact tN I (Dj (d:=d) (es:=es) (ep:=ep) lo) (I.ok.hd hc) rd (by omega) (by omega) hu (by rw[List.length_map,al,sz]) hPP rs hs fun h' tk ys l nl I' rs'=>⟨.ref l,_,I',rfl,q l ys nl rs'⟩
def IK (n:Nat) (ω:Om) (ds:List D):Option (D×Om):=match ds with
 |[d]=>match cellOf ω d with
  |some (.dt kvs)=>(mR n (kvs.map fun p=>cR p.1)).map fun out=>(.lst out,ω)
  |_=>none
 |_=>none
theorem IU {n:Nat}{K:PySem.W.Frag}:BM cls K (MD K n) (IK n):=fun ok H ω xs as d ω' Q h1 st r e k=>by
 unfold IK at e
 split at e
 ·split at e
  ·rename_i kvs hcell
   obtain⟨out,e5,e6⟩:=aN e
   cases e6
   obtain⟨n,rfl,e1⟩:=eL hcell
   obtain⟨v,rfl,r1⟩:=r.one_inv
   obtain⟨a,rfl,e6,vs,e7,kv⟩:=st.ref r1 e1
   have hk:(vs.map fun p=>cR p.1)=kvs.map fun p=>cR p.1:=by
    have:=congrArg (List.map cR) kv.keys
    rw[List.map_map,List.map_map] at this
    exact this
   refine⟨a,vs,out,ok,rfl,e7,h1,?_,fun l ys nl rs=>k _ ok _ (.same h1 st (dE nl)) (.lst_new (h1 l nl) nl rs)⟩
   rw[hk]
   exact e5
  ·cases e
 ·cases e
end
end L2.MB
end
section
namespace L2.MB
open PySem PySem.Spec PyProof.Rows
section
variable {X:Cx}{cls exC:Nat->Addr}{E:XE}{e a b c o i o2 i2 value:Expr}{es rest:List Expr}{fa fb fc fo fi fo2 fi2 fv:OG D}{fl:OG (List D)}{ft ft':OG Bool}{pos p apos pos' pos2 tp cpos:Pos}{x m:Str}{st:Stmt}
theorem FY (ha:OE X cls E a fa) (hb:OE X cls E b fb):OE X cls E (.BinOp a .Add b pos) (MB.o2 (lf Lz) fa fb):=AH Ep (Fit2.lift (fun ok H x y a b d Q h1 ra rb e k=>by
 cases a with
 |str u=>cases b with
  |str v=>
   obtain⟨hz,rfl⟩:=bU (show(if u.length+v.length<=sizeLine then some (D.str (u++v)) else none)=some d from e)
   exact⟨u,v,ra.str_inv,rb.str_inv,hz,k _ H (Same.refl H) (.str _)⟩
  |_=>cases e
 |_=>cases e)) ha hb
theorem FU (ha:OE X cls E a fa) (hb:OE X cls E b fb):OE X cls E (.BinOp a .Mult b pos) (MB.o2 (lf Lx) fa fb):=AH KL (Fit2.lift (fun ok H x y a b d Q h1 ra rb e k=>by
 cases a with
 |str u=>cases b with
  |int v=>
   obtain⟨hz,rfl⟩:=bU (show(if 0<=v/\v<=100000/\u.length<=100 then some (D.str (Ox u v)) else none)=some d from e)
   exact⟨u,v,ra.str_inv,rb.int_inv,hz,k _ H (Same.refl H) (.str _)⟩
  |_=>cases e
 |_=>cases e)) ha hb
def AA (fo fi:OG D) (v:D):OS:=oX fo fun o=>oX fi fun i ρ ω=>(wI ω o i v).map fun ω'=>(.nx ρ,ω')
theorem GF {K:PySem.W.Frag}{ok:Okk}{H:Hp}{ω ω':Om}{σ:St}{ρ:Rho}{v:V}{dv:D}{oo:OOut}{Q:St->Hp->Prop} (P:Pre cls K ok H ω σ ρ) (rv:Rep K ok H v dv) (e:AA fo fi dv ρ ω=some (oo,ω')) (hx:∀ c,oo=.ex c->exR cls K ok H ω' E c)
  (h:∀ ok' H',oo=.nx ρ->Nw cls K ok H ok' H' ω'->Q σ H'):L2.gSub (tO cls K fo E) (tO cls K fi E) ME v σ H Q:=by
 rcases uA e with⟨c,e1,rfl⟩|⟨d,ω1,e1,e2⟩
 ·exact⟨ok,ρ,ω,.ex c,ω',P,e1,hx c rfl⟩
 ·refine⟨ok,ρ,ω,.ok d,ω1,P,e1,fun u ok1 H1 n1 r1=> ?_⟩
  have P1:=P.nw n1
  rcases uA e2 with⟨c,e3,rfl⟩|⟨y,ω2,e3,e4⟩
  ·exact⟨ok1,ρ,ω1,.ex c,ω',P1,e3,(hx c rfl).nw n1⟩
  ·refine⟨ok1,ρ,ω1,.ok y,ω2,P1,e3,fun w ok2 H2 n2 r2=> ?_⟩
   have P2:=P1.nw n2
   obtain⟨ω4,e5,e6⟩:=aN e4
   cases e6
   obtain⟨n,k,ds,j,rfl,rfl,e7,hj,rfl⟩:=Bf e5
   obtain⟨a,rfl,e8,xs,e9,rs⟩:=P2.st.ref (r1.ex n2.ex) e7
   obtain rfl:=r2.int_inv
   refine⟨a,xs,k,j,rfl,rfl,e9,by rw[rs.length];exact hj,?_⟩
   have nw:=Nw.write (o:=.lst (xs.set j v)) (ob:=.ml (ds.set j dv)) P2.okh P2.st e8 e9 fun dat=>⟨_,aS,(rs.mono dat).set ((rv.ex (n1.ex.trans n2.ex)).mono dat) j⟩
   exact h ok2 _ rfl (n1.trans (n2.trans nw))
def Fz (fe fo fi fo2 fi2:OG D):OS:=oX fe fun d=>match d with
 |.tup [x,y]=>aP (AA fo fi x) (AA fo2 fi2 y)
 |_=>fun _ _=>none
theorem Hz {ρ ρ1:Rho}{ω ω':Om}{v:D} (h:AA fo fi v ρ ω=some (.nx ρ1,ω')):ρ1=ρ:=by
 rcases uA h with⟨c,_,z⟩|⟨d,ω1,_,e2⟩
 ·cases z
 ·rcases uA e2 with⟨c,_,z⟩|⟨y,ω2,_,e4⟩
  ·cases z
  ·obtain⟨_,_,e6⟩:=aN e4
   cases e6
   rfl
theorem HZ {kk:Nat} (hc:X.calm=true) (he:OE X cls E e fa) (ho:OE X cls E o fo) (hi:OE X cls E i fi) (ho2:OE X cls E o2 fo2) (hi2:OE X cls E i2 fi2)
  (hs:swapsWithSole [.Tuple [.Subscript o i pos',.Subscript o2 i2 pos2] kk tp] e pos.line X.env=pure false:=by rfl) (hw:swappedStores [.Tuple [.Subscript o i pos',.Subscript o2 i2 pos2] kk tp] e X.env=pure none:=by rfl)
  (h1:(assignEach [.Tuple [.Subscript o i pos',.Subscript o2 i2 pos2] kk tp] X.env).map (·.2)=[assign (.Tuple [.Subscript o i pos',.Subscript o2 i2 pos2] kk tp) X.env]:=by rfl)
  (hn:(assignEach [.Subscript o i pos',.Subscript o2 i2 pos2] X.env).length=2:=by rfl) (hst:(assignEach [.Subscript o i pos',.Subscript o2 i2 pos2] X.env).findIdx? (·.1)=none:=by rfl)
  (ha:∀ v,assign (.Subscript o i pos') X.env v=(do
   let ov <- holding [v] (eval o X.env)
   let iv <- holding [v,ov] (eval i X.env)
   standAt pos'
   holding [v,ov,iv] (setItem ov iv v)
   release [v,ov,iv] []):=by intro _;rfl)
  (ha2:∀ v,assign (.Subscript o2 i2 pos2) X.env v=(do
   let ov <- holding [v] (eval o2 X.env)
   let iv <- holding [v,ov] (eval i2 X.env)
   standAt pos2
   holding [v,ov,iv] (setItem ov iv v)
   release [v,ov,iv] []):=by intro _;rfl):OSt X cls E (.Assign [.Tuple [.Subscript o i pos',.Subscript o2 i2 pos2] kk tp] e pos) (Fz fa fo fi fo2 fi2):=
 (JB he (JC (n:=2) hc (sU (FM ho hi yM ha) (sU (FM ho2 hi2 yM ha2) FL)) hn hst) hs hw h1).imp fun D σ H ⟨ok,ρ,ω,oo,ω',P,e,q⟩=>by
  refine tO.thenS P e q fun d ω1 v ok1 H1 e1 n1 P1 r1 q1=> ?_
  split at e1
  ·rename_i x y
   obtain⟨a,xs,rfl,g,rs⟩:=r1.tup_inv
   obtain⟨v1,v2,rfl,ra,rb⟩:=rs.two_inv
   refine⟨a,_,rfl,g.sq,rfl,v1,_,rfl,?_⟩
   rcases Az e1 with⟨ρ1,ω2,e2,e3⟩|⟨e2,hn⟩
   ·obtain rfl:=Hz e2
    refine GF P1 ra e2 (fun c z=>nomatch z) fun ok2 H2 _ n2=> ?_
    have P2:=P1.nw n2
    refine⟨v2,_,rfl,GF P2 (rb.ex n2.ex) e3 (fun c z=>by subst z;exact(q1.nw n2)) fun ok3 H3 z n3=>⟨rfl,?_⟩⟩
    subst z
    exact q1 ok3 H3 σ (n2.trans n3) (P2.env.ex n3.ex) P2.len
   ·refine GF P1 ra e2 (fun c z=>by subst z;exact q1) fun ok2 H2 z n2=>absurd z (hn ρ)
  ·cases e1
def pX (ω:Om) (d:D):D:=match eN ω d with
 |some ds=>.lst ds
 |none=>d
theorem mP {K:PySem.W.Frag}{ok:Okk}{H:Hp}{ω:Om}{d:D}{v:V} (t:Stt cls K ok H ω) (r:Rep K ok H v d):Rep K ⟨fun _=>True,ok.al⟩ H v (pX ω d):=by
 unfold pX
 cases hs:eN ω d with
 |some ds=>exact tQ t r hs
 |none=>exact r.wide
def sK (n:Nat) (ω:Om) (a b:D):Option (D×Om):=pu (gEq n (pX ω a) (pX ω b)) ω
def EM (n:Nat) (ω:Om) (a b:D):Option (D×Om):=pu (gNe n (pX ω a) (pX ω b)) ω
theorem GM {K:PySem.W.Frag}{n:Nat}:BN cls K (Qf K n) (sK n):=fun ok H ω x y a b d ω' Q h1 st ra rb e k=>by
 obtain⟨ue,rfl⟩:=dF e
 obtain⟨c,e1,rfl⟩:=aN ue
 exact⟨_,_,_,c,mP st ra,mP st rb,e1,k _ ok H (.refl h1 st) (.bl _)⟩
theorem LB {K:PySem.W.Frag}{n:Nat}:BN cls K (Qa K n) (EM n):=fun ok H ω x y a b d ω' Q h1 st ra rb e k=>by
 obtain⟨ue,rfl⟩:=dF e
 obtain⟨c,e1,rfl⟩:=aN ue
 exact⟨_,_,_,c,mP st ra,mP st rb,e1,k _ ok H (.refl h1 st) (.bl _)⟩
theorem FV {n:Nat} (hu:LZ X n) (ha:OE X cls E a fa) (hb:OE X cls E b fb):OE X cls E (.Compare a [.Eq] [b] pos) (MB.o2 (sK n) fa fb):=Dw (JL hu) GM ha hb (pR _)
theorem nD {n:Nat} (hu:LZ X n) (ha:OE X cls E a fa) (hb:OE X cls E b fb):OT X cls E (.Compare a [.Eq] [b] pos) (eJ (MB.o2 (sK n) fa fb)):=xC (JL hu) GM ha hb (pR _)
theorem pO {n:Nat} (hu:LZ X n) (ha:OE X cls E a fa) (hb:OE X cls E b fb):OT X cls E (.Compare a [.NotEq] [b] pos) (eJ (MB.o2 (EM n) fa fb)):=xC (Nh hu) LB ha hb (pR _)
def oIT (f:OG D):OI':=oB f fun d _ ω=>oR (pu (match d with|.tup ds=>some (ds,dH)|_=>none) ω)
theorem Nq {tg:Expr} (h:OE X cls E e fa):OI X cls E tg e (oIT fa):=PI.imp (MP h) fun σ H R ⟨ok,ρ,ω,r,ω',P,e,q⟩=>by
 refine tO.then_ P e (fun c z=>by subst z;exact q) fun d ω1 v ok1 H1 e1 n1 P1 r1=> ?_
 obtain⟨⟨ds,chk⟩,e3,rfl⟩:=cS e1
 obtain⟨ue3,rfl⟩:=dF e3
 split at ue3
 ·cases ue3
  obtain⟨a,xs,rfl,g,rs⟩:=r1.tup_inv
  refine⟨a,rfl,⟨xs,g.sq⟩,q _ ok1 H1 n1 ⟨fun i ok H ω n c hi=> ?_,fun i ok H ω x H' d n c y hd=> ?_,fun i ok H ω n c hi=>⟨xs,(g.mono n.ex.dat).sq,by rw[rs.length];exact hi⟩⟩⟩
  ·have hi':i<xs.length:=by rw[rs.length];exact hi
   exact⟨xs,xs[i],(g.mono n.ex.dat).sq,by simp[hi']⟩
  ·obtain⟨rfl,y⟩:=y
   have rs':=rs.ex n.ex
   obtain⟨w,z1,z2⟩:=rs'.get hd
   rw[y xs (g.mono n.ex.dat).sq] at z1
   cases z1
   exact⟨Same.refl _,z2⟩
 ·cases ue3
end
end L2.MB
end
section
namespace L2.MB
open PySem PySem.Spec PyProof.Rows PySem.W
def Tree {α:Type} (n:Nat) (Q:α->Prop):KasT α->Prop
 |.ret a=>Q a
 |.ask i j k=>i<n/\j<n/\∀ b,Tree n Q (k b)
theorem Tree.bind {α β:Type}{n:Nat}{Q:α->Prop}{R:β->Prop}{f:α->KasT β} (g:∀ a,Q a->Tree n R (f a)):∀ {t:KasT α},Tree n Q t->Tree n R (t.bind f)
 |.ret a,h=>by rw[KasT.bind.eq_1];exact g a h
 |.ask i j k,h=>by
  rw[KasT.bind.eq_2]
  exact⟨h.1,h.2.1,fun b=>Tree.bind g (h.2.2 b)⟩
theorem Tree.run {α:Type}{n:Nat}{Q:α->Prop}{lt:Nat->Nat->Option Bool} (hl:∀ i j,i<n->j<n->∃ c,lt i j=some c):∀ {t:KasT α},Tree n Q t->∃ a,Ov lt t=some a/\Q a
 |.ret a,h=>⟨a,rfl,h⟩
 |.ask i j k,h=>by
  obtain⟨c,e⟩:=hl i j h.1 h.2.1
  obtain⟨a,e2,q⟩:=Tree.run hl (h.2.2 c)
  refine⟨a,?_,q⟩
  show(lt i j).bind _=_
  rw[e]
  exact e2
def Pm (n:Nat) (p:Array Nat):Prop:=p.Perm (List.range n).toArray
theorem Pm.lt {n:Nat}{p:Array Nat} (h:Pm n p) (h0:0<n) (i:Nat):p.getD i 0<n:=by
 rw[Array.getD_eq_getD_getElem?]
 cases q:p[i]? with
 |none=>exact h0
 |some x=>
  have hm:x∈p:=Array.mem_of_getElem? q
  have:x∈(List.range n).toArray:=(h.mem_iff).mp hm
  simpa using this
theorem Pm.rev {n:Nat}{p:Array Nat} (h:Pm n p) (i j:Nat):Pm n (kas_rev p i j):=(mirror_perm p i j _).trans h
theorem Pm.bub {n:Nat}{p:Array Nat} (h:Pm n p) (k d:Nat):Pm n (bubble p k d):=(bubble_perm p k d).trans h
section
variable {n:Nat} (h0:0<n)
include h0
theorem yK {p:Array Nat} (hp:Pm n p):∀(f m:Nat),Tree n (fun _=>True) (kas_asc p f m)
 |0,m=>by rw[kas_asc.eq_def];trivial
 |f+1,m=>by
  rw[kas_asc.eq_def]
  refine⟨hp.lt h0 _,hp.lt h0 _,fun b=> ?_⟩
  cases b with
  |true=>(dsimp only;rw[if_pos rfl]);trivial
  |false=>(dsimp only;rw[if_neg Bool.false_ne_true]);exact yK hp f (m+1)
theorem oZ:∀(f:Nat) {p:Array Nat} (m q:Nat),Pm n p->Tree n (fun r:Array Nat×Nat×Nat=>Pm n r.1) (kas_desc f p m q)
 |0,p,m,q,hp=>by rw[kas_desc.eq_def];exact hp
 |f+1,p,m,q,hp=>by
  rw[kas_desc.eq_def]
  refine⟨hp.lt h0 _,hp.lt h0 _,fun b=> ?_⟩
  cases b with
  |true=>
   (dsimp only;rw[if_pos rfl])
   by_cases hq:q>0
   ·rw[if_pos hq];exact oZ f _ _ (hp.rev _ _)
   ·rw[if_neg hq];exact oZ f _ _ hp
  |false=>
   (dsimp only;rw[if_neg Bool.false_ne_true])
   refine⟨hp.lt h0 _,hp.lt h0 _,fun b=> ?_⟩
   cases b with
   |true=>(dsimp only;rw[if_pos rfl]);exact hp
   |false=>(dsimp only;rw[if_neg Bool.false_ne_true]);exact oZ f _ _ hp
theorem Al {p:Array Nat} (m r:Nat) (hp:Pm n p):Tree n (fun r:Nat×Array Nat=>Pm n r.2) (kas_tail3 m r p):=by
 unfold kas_tail3
 refine Tree.bind (Q:=fun _=>True) (fun a _=> ?_) (yK h0 (hp.rev _ _) _ _)
 exact hp.rev _ _
theorem oY {p:Array Nat} (m r:Nat) (hp:Pm n p):Tree n (fun r:Nat×Array Nat=>Pm n r.2) (kas_descPart m r p):=by
 unfold kas_descPart
 refine(oZ h0 _ _ _ hp).bind fun a ha=> ?_
 split
 ·exact Al h0 _ _ (Pm.rev ha _ _)
 ·exact Al h0 _ _ ha
theorem Ej {p:Array Nat} (r:Nat) (hp:Pm n p):Tree n (fun r:Nat×Array Nat=>Pm n r.2) (kas_count r p):=by
 unfold kas_count
 refine(yK h0 hp _ _).bind fun a _=> ?_
 split
 ·exact hp
 ·split
  ·refine⟨hp.lt h0 _,hp.lt h0 _,fun b=> ?_⟩
   cases b with
   |true=>(dsimp only;rw[if_pos rfl]);exact hp
   |false=>(dsimp only;rw[if_neg Bool.false_ne_true]);exact oY h0 _ _ (hp.rev _ _)
  ·exact oY h0 _ _ hp
theorem qL {p:Array Nat} (hp:Pm n p) (k:Nat):∀(f l r:Nat),Tree n (fun _=>True) (kas_place p k f l r)
 |0,l,r=>by rw[kas_place.eq_def];trivial
 |f+1,l,r=>by
  rw[kas_place.eq_def]
  show Tree n _ (if l≥r then _ else _)
  split
  ·trivial
  ·refine⟨hp.lt h0 _,hp.lt h0 _,fun b=> ?_⟩
   cases b with
   |true=>(dsimp only;rw[if_pos rfl]);exact qL hp k f _ _
   |false=>(dsimp only;rw[if_neg Bool.false_ne_true]);exact qL hp k f _ _
theorem Df:∀(f:Nat) {p:Array Nat} (k:Nat),Pm n p->Tree n (fun r:Array Nat=>Pm n r) (kas_bin f p k)
 |0,p,k,hp=>by rw[kas_bin.eq_def];exact hp
 |f+1,p,k,hp=>by
  rw[kas_bin.eq_def]
  exact(qL h0 hp k _ _ _).bind fun l _=>Df f _ (hp.bub _ _)
theorem Fo:Tree n (fun r:Array Nat=>Pm n r) (kas_sort n):=by
 unfold kas_sort
 refine(Ej h0 _ (Array.Perm.refl _)).bind fun r hr=> ?_
 split
 ·exact Df h0 _ _ hr
 ·exact hr
end
theorem Dk {m:Nat}{ds:List D} (h64:ds.length<64) (hk:nY ds=true) (hl:∀ a∈ds,∀ b∈ds,∃ c,zA m a b=some c):∃ out,mR m ds=some out/\out.Perm ds:=by
 unfold mR
 by_cases h2:ds.length<2
 ·rw[if_pos h2]
  exact⟨ds,rfl,.refl _⟩
 ·rw[if_neg h2,if_pos ⟨h64,hk⟩]
  have gm:∀ i,i<ds.length->ds.getD i .non∈ds:=fun i hi=>by
   rw[List.getD_eq_getElem?_getD,List.getElem?_eq_getElem hi]
   exact List.getElem_mem hi
  obtain⟨p,e,hp⟩:=Tree.run (n:=ds.length) (lt:=fun i j=>zA m (ds.getD i .non) (ds.getD j .non)) (fun i j hi hj=>hl _ (gm i hi) _ (gm j hj)) (Fo (n:=ds.length) (by omega))
  rw[e]
  have pl:p.toList.Perm (List.range ds.length):=by
   have:=hp
   unfold Pm at this
   rw[Array.perm_iff_toList_perm] at this
   simpa using this
  have hl2:p.toList.length<=64:=by rw[pl.length_eq,List.length_range];omega
  refine⟨_,by show(if p.toList.length<=64 then _ else none)=_;rw[if_pos hl2],?_⟩
  refine(pl.map _).trans ?_
  have:(List.range ds.length).map (fun i=>ds.getD i .non)=ds:=by
   apply List.ext_getElem?
   intro i
   rw[List.getElem?_map]
   rcases Nat.lt_or_ge i ds.length with h|h
   ·rw[List.getElem?_range h,List.getElem?_eq_getElem h]
    show some (ds.getD i .non)=_
    rw[List.getD_eq_getElem?_getD,List.getElem?_eq_getElem h]
    rfl
   ·rw[List.getElem?_eq_none h,List.getElem?_eq_none (by simpa using h)]
    rfl
  rw[this]
end L2.MB
end
section
namespace L2.MB
open PySem PySem.Spec PyProof.Rows PySem.W
section
variable {n:Nat}{L:Nat->Nat->Bool} (ht:∀ i j,i<n->j<n->i≠j->L i j=false->L j i=true) (hr:∀ i j k,i<n->j<n->k<n->L i j=true->L j k=true->L i k=true)
include ht hr in
include ht hr in
include ht hr in
include ht hr in
include ht hr in
include ht hr in
include ht hr in
end
end L2.MB
end
section
namespace L2.MB
open PySem PySem.Spec PyProof.Rows PySem.W
end L2.MB
end
section
namespace L2.MB
open PySem PySem.Spec PyProof.Rows
section
variable {X:Cx}{cls exC:Nat->Addr}{E:XE}{e a b c o i value:Expr}{es rest:List Expr}{fa fb fc fo fi fv:OG D}{fl:OG (List D)}{pos p apos pos' cpos:Pos}{x m:Str}{st:Stmt}
end
end L2.MB
end
section
namespace L2.MB
open PySem PySem.Spec PyProof.Rows
section
variable {X:Cx}{cls exC:Nat->Addr}{E:XE}{e a b c o i value:Expr}{es rest:List Expr}{fa fb fc fo fi fv:OG D}{fl:OG (List D)}{pos p apos pos' cpos:Pos}{x m:Str}{st:Stmt}
end
end L2.MB
end
section
namespace L2.MB.Lw
open PySem PySem.Spec PyProof.Rows L2.MB
abbrev qW:List Str:=["seen","mark"]
abbrev yF:List Str:=["seen","mark"]
def xO:OS:=(bE (o2 (lf gLe) (o2 (fun ω a b=>pu (cA ω a b) ω) (oP (aF 1)) (oP (dC (.int 1)))) (o2 (fun ω a b=>pu (cA ω a b) ω) (oP (aF 0)) (o2 (fun ω a b=>pu (cA ω a b) ω) (oP (aF 1)) (oP (dC (.int 0)))))))
def gM:eM:=fV 2 qW xO
abbrev tJ:List Str:=["one","other"]
abbrev Ee:List Str:=["one","other"]
def DN:OS:=(bE (eC Mf (oIZ (aE (oP (aF 0)) (aE (oP (aF 1)) aU))) [none,none] (BG 0 1) (oPT nN) (oL (lfL IN) (aE (oP (aF 0)) (aE (oP (aF 1)) aU)))))
def jW:eM:=fV 2 tJ DN
abbrev qJ:List Str:=["rows","least","row"]
abbrev Ef:List Str:=["rows"]
def gZ:OS:=(bG 1 (eC wA (oIZ (aE (oP (aF 1)) (aE (oP (aF 2)) aU))) [none,none] (BG 0 1) (oPT nN) (oL (lfL Ly) (aE (oP (aF 0)) (aE (oP (aF 1)) aU)))))
def zF:OS:=(aP (bG 1 (oL kU (aE (o2 (fun ω a b=>pu (cA ω a b) ω) (oP (aF 0)) (oP (dC (.int 0)))) aU))) (aP (sNx (dS (oIL (oSl (oP (aF 0)) (dSo (dC (.int 1))) dNo)) (bN 2) gZ)) (bE (oP (aF 1)))))
def sW:eM:=fV 1 qJ zF
abbrev Ae:List Str:=["one","other"]
abbrev Hm:List Str:=["one","other"]
def GD:OS:=(bE (oL (lfL Pu) (aE (eC wA (oIZ (aE (oP (aF 0)) (aE (oP (aF 1)) aU))) [none,none] (BG 0 1) (oPT nN) (oL (lfL IN) (aE (o2 (lf gSub) (oP (aF 1)) (oP (aF 0))) (aE (oP (dC (.int 0))) aU)))) aU)))
def Ch:eM:=fV 2 Ae GD
abbrev oM:List Str:=["self"]
abbrev vO:List Str:=["self"]
def uQ:OS:=(bE (o2 (fun ω a b=>pu (cA ω a b) ω) (iM 0 "knows" (oP (aF 0))) (iM 0 "number" (oP (aF 0)))))
def cC:eM:=fV 1 oM uQ
abbrev vV:List Str:=["entries","hand"]
abbrev BJ:List Str:=["entries","hand"]
def Bd:OS:=(bE (eC wA (oIL (oP (aF 0))) [none,some 1] (bN 0) (oOr (eJ (o2 (fun ω a b=>pu (Me ω a b) ω) (o2 (fun ω a b=>pu (cA ω a b) ω) (oP (aF 0)) (oP (dC (.int 1)))) (iM 0 "table" (oP (aF 1))))) (nG (kZ (bS gM (aE (bL 0 "seen" cC (oP (aF 1)) aU) (aE (o2 (fun ω a b=>pu (cA ω a b) ω) (oP (aF 0)) (oP (dC (.int 1)))) aU)))))) (oP (aF 0))))
def pM:eM:=fV 2 vV Bd
abbrev kK:List Str:=["self","number","count"]
abbrev qE:List Str:=["self","number","count"]
def jZ:OS:=(aP (sH 0 "number" (oP (aF 0)) (oP (aF 1))) (aP (sH 0 "knows" (oP (aF 0)) (eC Mf (oIA sJ (aE (oP (aF 2)) aU)) [none,some 2] (bN 0) (oPT nN) (o2 IM (oL (fun ω ds=>pu (pV ds) ω) (aE (oP (dC (.int 0))) aU)) (oP (aF 1))))) (aP (sH 0 "table" (oP (aF 0)) Ga) (sH 0 "kept" (oP (aF 0)) Ga))))
def eU:eM:=fV 3 kK jZ
abbrev iZ:List Str:=["self"]
abbrev nR:List Str:=["self"]
def nL:OS:=(bE (KZ 4 (iM 0 "table" (oP (aF 0)))))
def bZ:eM:=fV 1 iZ nL
abbrev lY:List Str:=["self"]
abbrev sB:List Str:=["self"]
def rV:OS:=(bE (eC wA (oIL (iM 0 "knows" (oP (aF 0)))) [none] (bN 0) (oPT nN) (oL kU (aE (oP (aF 0)) aU))))
def iS:eM:=fV 1 lY rV
abbrev iY:List Str:=["self"]
abbrev nQ:List Str:=["self"]
def nK:OS:=(bE (eC wA (oIL (oL (IK 4) (aE (iM 0 "kept" (oP (aF 0))) aU))) [none,some 0] (bN 0) (oPT nN) (oL (fun ω ds=>pu (iN ds) ω) (aE (oP (aF 0)) (aE (oL kU (aE (o2 (fun ω a b=>pu (wJ ω a b) ω) (iM 0 "kept" (oP (aF 1))) (oP (aF 0))) aU)) aU)))))
def fL:eM:=fV 1 iY nK
abbrev iK:List Str:=["self","seen"]
abbrev lW:List Str:=["self"]
def iC:OS:=(aP (bG 1 (bL 0 "seen" cC (oP (aF 0)) aU)) (aP (tW wI (oP (aF 1)) (iM 0 "number" (oP (aF 0))) (o2 (lf vZ) (o2 (fun ω a b=>pu (cA ω a b) ω) (oP (aF 1)) (iM 0 "number" (oP (aF 0)))) (oP (dC (.int 1))))) (bE (oL (fun ω ds=>pu (iN ds) ω) (aE (iM 0 "number" (oP (aF 0))) (aE (o2 (fun ω a b=>pu (cA ω a b) ω) (oP (aF 1)) (iM 0 "number" (oP (aF 0)))) aU))))))
def dJ:eM:=fV 1 iK iC
abbrev qX:List Str:=["self","name","value","mark"]
abbrev yG:List Str:=["self","name","value"]
def qT:OS:=(aP (bG 3 (bL 0 "new_mark" dJ (oP (aF 0)) aU)) (aP (tW zH (iM 0 "table" (oP (aF 0))) (oP (aF 3)) (oL (fun ω ds=>pu (iN ds) ω) (aE (oP (aF 1)) (aE (oP (aF 3)) (aE (oP (aF 2)) aU))))) (bE (oP (aF 3)))))
def fC:eM:=fV 3 qX qT
abbrev fA:List Str:=["self","seen_by_all","kept","deed"]
abbrev qF:List Str:=["self"]
def aY:OS:=(fJ (nG (kZ (bS gM (aE (oP (aF 1)) (aE (oP (aF 3)) aU))))) (tW zH (oP (aF 2)) (oP (aF 3)) (o2 (fun ω a b=>pu (wJ ω a b) ω) (iM 0 "kept" (oP (aF 0))) (oP (aF 3)))) cB)
def gH:OS:=(aP (bG 1 (bS sW (aE (iM 0 "knows" (oP (aF 0))) aU))) (aP (bG 2 Ga) (aP (sNx (Kk (iM 0 "kept" (oP (aF 0))) (bN 3) aY)) (sH 0 "kept" (oP (aF 0)) (oP (aF 2))))))
def gF:eM:=fV 1 fA gH
abbrev eY:List Str:=["self","deed","marks","mark"]
abbrev lV:List Str:=["self","deed","marks"]
def cJ:OS:=(eS (uB GI (iM 0 "table" (oP (aF 0))) (aE (oP (aF 3)) aU)))
def iB:OS:=(aP (sNx (dS (oIL (oP (aF 2))) (bN 3) cJ)) (aP (fJ (kZ (oP (aF 2))) (tW zH (iM 0 "kept" (oP (aF 0))) (oP (aF 1)) (oL IJ (aE (oP (aF 2)) aU))) cB) (eS (bL 0 "forget" gF (oP (aF 0)) aU))))
def dI:eM:=fV 3 eY iB
abbrev eZ:List Str:=["self","name"]
abbrev lX:List Str:=["self","name"]
def lK:OS:=(bE (eC wA (oIL (bL 0 "entries" bZ (oP (aF 0)) aU)) [none,some 1] (bN 0) (eJ (o2 (sK 8) (o2 (fun ω a b=>pu (cA ω a b) ω) (oP (aF 0)) (oP (dC (.int 0)))) (oP (aF 1)))) (o2 (fun ω a b=>pu (cA ω a b) ω) (oP (aF 0)) (oP (dC (.int 1))))))
def dL:eM:=fV 2 eZ lK
abbrev kL:List Str:=["self","name","value","marks","mark"]
abbrev qG:List Str:=["self","name","value"]
def kA:OS:=(aP (bG 3 (bL 0 "marks_of" dL (oP (aF 0)) (aE (oP (aF 1)) aU))) (aP (bG 4 (bL 0 "put" fC (oP (aF 0)) (aE (oP (aF 1)) (aE (oP (aF 2)) aU)))) (aP (eS (bL 0 "take_out" dI (oP (aF 0)) (aE (oP (aF 4)) (aE (oP (aF 3)) aU)))) (bE (oP (aF 4))))))
def eV:eM:=fV 3 kL kA
abbrev oK:List Str:=["self","name","marks"]
abbrev vN:List Str:=["self","name"]
def jY:OS:=(aP (bG 2 (bL 0 "marks_of" dL (oP (aF 0)) (aE (oP (aF 1)) aU))) (aP (fJ (nG (kZ (oP (aF 2)))) (bE (oP (dC .non))) cB) (aP (eS (bL 0 "take_out" dI (oP (aF 0)) (aE (bL 0 "new_mark" dJ (oP (aF 0)) aU) (aE (oP (aF 2)) aU)))) (bE (oP (aF 2))))))
def gP:eM:=fV 2 oK jY
abbrev oN:List Str:=["self","teller","many","seen","table","entry"]
abbrev vP:List Str:=["self","teller"]
def fN:OS:=(tW zH (oP (aF 4)) (o2 (fun ω a b=>pu (cA ω a b) ω) (oP (aF 5)) (oP (dC (.int 1)))) (oP (aF 5)))
def oF:OS:=(aP (bG 2 (bS Ch (aE (bL 0 "seen" cC (oP (aF 0)) aU) (aE (bL 0 "seen" cC (oP (aF 1)) aU) aU)))) (aP (bG 3 (bS jW (aE (bL 0 "seen" cC (oP (aF 0)) aU) (aE (bL 0 "seen" cC (oP (aF 1)) aU) aU)))) (aP (bG 4 Ga) (aP (sNx (dS (oIL (o2 NS (bS pM (aE (bL 0 "entries" bZ (oP (aF 0)) aU) (aE (oP (aF 1)) aU))) (bS pM (aE (bL 0 "entries" bZ (oP (aF 1)) aU) (aE (oP (aF 0)) aU))))) (bN 5) fN)) (aP (sH 0 "table" (oP (aF 0)) (oP (aF 4))) (aP (sH 0 "knows" (oP (aF 0)) (eC Mf (oIZ (aE (iM 0 "knows" (oP (aF 0))) (aE (iM 0 "knows" (oP (aF 1))) aU))) [none,none] (BG 0 1) (oPT nN) (bS jW (aE (oP (aF 0)) (aE (oP (aF 1)) aU))))) (aP (tW wI (iM 0 "knows" (oP (aF 0))) (iM 0 "number" (oP (aF 0))) (oP (aF 3))) (aP (eS (uB GE (iM 0 "kept" (oP (aF 0))) (aE (iM 0 "kept" (oP (aF 1))) aU))) (aP (eS (bL 0 "forget" gF (oP (aF 0)) aU)) (bE (oP (aF 2))))))))))))
def cT:eM:=fV 2 oN oF
abbrev kM:List Str:=["self","count"]
abbrev qH:List Str:=["self","count"]
def kD:OS:=(sH 1 "hands" (oP (aF 0)) (eC wA (oIA sJ (aE (oP (aF 1)) aU)) [none,some 1] (bN 0) (oPT nN) (wF 0 eU (aE (oP (aF 0)) (aE (oP (aF 1)) aU)))))
def gG:eM:=fV 2 kM kD
abbrev oV:List Str:=["self","number"]
abbrev vU:List Str:=["self","number"]
def kE:OS:=(aP (fJ (nG (xD gLe gLt (oP (dC (.int 0))) (oP (aF 1)) (oL eE (aE (iM 1 "hands" (oP (aF 0))) aU)))) (FA 0 (dC (.str "there is no hand of that number"))) cB) (bE (o2 (fun ω a b=>pu (cA ω a b) ω) (iM 1 "hands" (oP (aF 0))) (oP (aF 1)))))
def bQ:eM:=fV 2 oV kE
abbrev oS:List Str:=["self","one","other","hands"]
abbrev vS:List Str:=["self","one","other"]
def fF:OS:=(aP (bG 3 (oL (fun ω ds=>pu (iN ds) ω) (aE (bL 1 "hand" bQ (oP (aF 0)) (aE (oP (aF 1)) aU)) (aE (bL 1 "hand" bQ (oP (aF 0)) (aE (oP (aF 2)) aU)) aU)))) (aP (fJ (eJ (o2 (sK 8) (oP (aF 1)) (oP (aF 2)))) (FA 1 (dC (.str "a hand can't tell or meet itself"))) cB) (bE (oP (aF 3)))))
def cD:eM:=fV 3 oS fF
abbrev qY:List Str:=["self","number","name","value"]
abbrev yH:List Str:=["self","number","name","value"]
def xP:OS:=(bE (bL 0 "put" fC (bL 1 "hand" bQ (oP (aF 0)) (aE (oP (aF 1)) aU)) (aE (oP (aF 2)) (aE (oP (aF 3)) aU))))
def jC:eM:=fV 4 qY xP
abbrev kN:List Str:=["self","number","name","value"]
abbrev qI:List Str:=["self","number","name","value"]
def pU:OS:=(bE (bL 0 "change" eV (bL 1 "hand" bQ (oP (aF 0)) (aE (oP (aF 1)) aU)) (aE (oP (aF 2)) (aE (oP (aF 3)) aU))))
def eW:eM:=fV 4 kN pU
abbrev oQ:List Str:=["self","number","name"]
abbrev vR:List Str:=["self","number","name"]
def uR:OS:=(bE (bL 0 "take" gP (bL 1 "hand" bQ (oP (aF 0)) (aE (oP (aF 1)) aU)) (aE (oP (aF 2)) aU)))
def gS:eM:=fV 3 oQ uR
abbrev oO:List Str:=["self","one","other","hands"]
abbrev vQ:List Str:=["self","one","other"]
def kB:OS:=(aP (bG 3 (bL 1 "pair" cD (oP (aF 0)) (aE (oP (aF 1)) (aE (oP (aF 2)) aU)))) (bE (bL 0 "hear" cT (o2 (fun ω a b=>pu (cA ω a b) ω) (oP (aF 3)) (oP (dC (.int 1)))) (aE (o2 (fun ω a b=>pu (cA ω a b) ω) (oP (aF 3)) (oP (dC (.int 0)))) aU))))
def gQ:eM:=fV 3 oO kB
abbrev oU:List Str:=["self","one","other","hands","many","gained"]
abbrev vT:List Str:=["self","one","other"]
def kC:OS:=(aP (bG 3 (bL 1 "pair" cD (oP (aF 0)) (aE (oP (aF 1)) (aE (oP (aF 2)) aU)))) (aP (bG 4 (bL 0 "hear" cT (o2 (fun ω a b=>pu (cA ω a b) ω) (oP (aF 3)) (oP (dC (.int 1)))) (aE (o2 (fun ω a b=>pu (cA ω a b) ω) (oP (aF 3)) (oP (dC (.int 0)))) aU))) (aP (bG 5 (oL (fun ω ds=>pu (iN ds) ω) (aE (bL 0 "hear" cT (o2 (fun ω a b=>pu (cA ω a b) ω) (oP (aF 3)) (oP (dC (.int 0)))) (aE (o2 (fun ω a b=>pu (cA ω a b) ω) (oP (aF 3)) (oP (dC (.int 1)))) aU)) (aE (oP (aF 4)) aU)))) (aP (eS (bL 0 "hear" cT (o2 (fun ω a b=>pu (cA ω a b) ω) (oP (aF 3)) (oP (dC (.int 1)))) (aE (o2 (fun ω a b=>pu (cA ω a b) ω) (oP (aF 3)) (oP (dC (.int 0)))) aU))) (bE (oP (aF 5)))))))
def gT:eM:=fV 3 oU kC
abbrev Ho:List Str:=["hall","deed","kind"]
abbrev JY:List Str:=["hall","deed"]
def uO:OS:=(aP (bG 2 (o2 (fun ω a b=>pu (cA ω a b) ω) (oP (aF 1)) (oP (dC (.int 0))))) (aP (fJ (eJ (o2 (sK 8) (oP (aF 2)) (oP (dC (.str "put"))))) (bE (bL 1 "put" jC (oP (aF 0)) (aE (o2 (fun ω a b=>pu (cA ω a b) ω) (oP (aF 1)) (oP (dC (.int 1)))) (aE (o2 (fun ω a b=>pu (cA ω a b) ω) (oP (aF 1)) (oP (dC (.int 2)))) (aE (o2 (fun ω a b=>pu (cA ω a b) ω) (oP (aF 1)) (oP (dC (.int 3)))) aU))))) cB) (aP (fJ (eJ (o2 (sK 8) (oP (aF 2)) (oP (dC (.str "change"))))) (bE (bL 1 "change" eW (oP (aF 0)) (aE (o2 (fun ω a b=>pu (cA ω a b) ω) (oP (aF 1)) (oP (dC (.int 1)))) (aE (o2 (fun ω a b=>pu (cA ω a b) ω) (oP (aF 1)) (oP (dC (.int 2)))) (aE (o2 (fun ω a b=>pu (cA ω a b) ω) (oP (aF 1)) (oP (dC (.int 3)))) aU))))) cB) (aP (fJ (eJ (o2 (sK 8) (oP (aF 2)) (oP (dC (.str "take"))))) (bE (bL 1 "take" gS (oP (aF 0)) (aE (o2 (fun ω a b=>pu (cA ω a b) ω) (oP (aF 1)) (oP (dC (.int 1)))) (aE (o2 (fun ω a b=>pu (cA ω a b) ω) (oP (aF 1)) (oP (dC (.int 2)))) aU)))) cB) (aP (fJ (eJ (o2 (sK 8) (oP (aF 2)) (oP (dC (.str "tell"))))) (bE (bL 1 "tell" gQ (oP (aF 0)) (aE (o2 (fun ω a b=>pu (cA ω a b) ω) (oP (aF 1)) (oP (dC (.int 1)))) (aE (o2 (fun ω a b=>pu (cA ω a b) ω) (oP (aF 1)) (oP (dC (.int 2)))) aU)))) cB) (bE (bL 1 "meet" gT (oP (aF 0)) (aE (o2 (fun ω a b=>pu (cA ω a b) ω) (oP (aF 1)) (oP (dC (.int 1)))) (aE (o2 (fun ω a b=>pu (cA ω a b) ω) (oP (aF 1)) (oP (dC (.int 2)))) aU)))))))))
def nB:eM:=fV 2 Ho uO
abbrev oJ:List Str:=["hall","deed"]
abbrev vM:List Str:=["hall","deed"]
def iA:OS:=(Cc (bE (bS nB (aE (oP (aF 0)) (aE (oP (aF 1)) aU)))) 0 (bE (oP (dC (.str "no hand")))) 1 (bE (oP (dC (.str "same hand")))))
def cK:eM:=fV 2 oJ iA
abbrev qK:List Str:=["count","deeds","hall"]
abbrev BL:List Str:=["count","deeds"]
def uP:OS:=(aP (bG 2 (wF 1 gG (aE (oP (aF 0)) aU))) (bE (eC wA (oIL (oP (aF 1))) [none,some 2] (bN 0) (oPT nN) (bS cK (aE (oP (aF 1)) (aE (oP (aF 0)) aU))))))
def pN:eM:=fV 2 qK uP
abbrev Ag:List Str:=["count","deeds","hall","deed"]
abbrev Hn:List Str:=["count","deeds"]
def fE:OS:=(eS (bS cK (aE (oP (aF 2)) (aE (oP (aF 3)) aU))))
def Cy:OS:=(aP (bG 2 (wF 1 gG (aE (oP (aF 0)) aU))) (aP (sNx (dS (oIL (oP (aF 1))) (bN 3) fE)) (bE (oL (fun ω ds=>pu (iN ds) ω) (aE (eC wA (oIL (iM 1 "hands" (oP (aF 2)))) [none] (bN 0) (oPT nN) (bL 0 "entries" bZ (oP (aF 0)) aU)) (aE (eC wA (oIL (iM 1 "hands" (oP (aF 2)))) [none] (bN 0) (oPT nN) (oL kU (aE (bL 0 "seen" cC (oP (aF 0)) aU) aU))) (aE (eC wA (oIL (iM 1 "hands" (oP (aF 2)))) [none] (bN 0) (oPT nN) (bL 0 "known" iS (oP (aF 0)) aU)) (aE (eC wA (oIL (iM 1 "hands" (oP (aF 2)))) [none] (bN 0) (oPT nN) (bL 0 "in_mind" fL (oP (aF 0)) aU)) aU))))))))
def Ci:eM:=fV 2 Ag Cy
abbrev Af:List Str:=["_law_found","_law_meant","_law_k"]
abbrev Ac:List Str:=["_law_found","_law_meant"]
def sZ (φ:eM):OS:=(aP (fJ (eJ (o2 (lf NR) (oP (aF 1)) (oP (dC .non)))) (bE (o2 (lf NR) (oP (aF 0)) (oP (dC .non)))) cB) (aP (fJ (kZ (rP "bool" (oP (aF 1)))) (bE (Er (rP "bool" (oP (aF 0))) (o2 (sK 8) (oP (aF 0)) (oP (aF 1))))) cB) (aP (fJ (kZ (rP "int" (oP (aF 1)))) (bE (Er (rP "int" (oP (aF 0))) (Er (La (rP "bool" (oP (aF 0)))) (o2 (sK 8) (oP (aF 0)) (oP (aF 1)))))) cB) (aP (fJ (kZ (rP "str" (oP (aF 1)))) (bE (Er (rP "str" (oP (aF 0))) (o2 (sK 8) (oP (aF 0)) (oP (aF 1))))) cB) (aP (fJ (kZ (rP "dict" (oP (aF 1)))) Mv cB) (aP (fJ (eJ (o2 (EM 8) (rP "tuple" (oP (aF 1))) (rP "tuple" (oP (aF 0))))) (bE (oP (dC (.bl false)))) cB) (aP (fJ (oOr (eJ (o2 (EM 8) (rP "list" (oP (aF 1))) (rP "list" (oP (aF 0))))) (nG (kZ (Ic (oP (aF 1)))))) (bE (oP (dC (.bl false)))) cB) (aP (fJ (eJ (o2 (EM 8) (oL eE (aE (oP (aF 0)) aU)) (oL eE (aE (oP (aF 1)) aU)))) (bE (oP (dC (.bl false)))) cB) (aP (sNx (dS (oIA sJ (aE (oL eE (aE (oP (aF 1)) aU)) aU)) (bN 2) (fJ (nG (kZ (bS φ (aE (o2 (fun ω a b=>pu (cA ω a b) ω) (oP (aF 0)) (oP (aF 2))) (aE (o2 (fun ω a b=>pu (cA ω a b) ω) (oP (aF 1)) (oP (aF 2))) aU))))) (bE (oP (dC (.bl false)))) cB))) (bE (oP (dC (.bl true)))))))))))))
def fK:Nat->eM
 |0=>fun _ _=>none
 |n+1=>fV 2 Af (sZ (fK n))
abbrev oI:List Str:=["_law_found"]
abbrev vK:List Str:=["_law_found"]
def uN:OS:=(bE (Er (rP "int" (oP (aF 0))) (La (rP "bool" (oP (aF 0))))))
def jU:eM:=fV 1 oI uN
abbrev mQ:List Str:=["_law_script","_law_k"]
abbrev Ed:List Str:=["_law_script","_law_k"]
def tE:OS:=(aP (fJ (eJ (o2 (lf gLt) (oP (aF 1)) (oL eE (aE (oP (aF 0)) aU)))) (bE (o2 (fun ω a b=>pu (cA ω a b) ω) (oP (aF 0)) (oP (aF 1)))) cB) (bE (oP (dC (.int 0)))))
def yR:eM:=fV 2 mQ tE
abbrev iJ:List Str:=["_law_count","_law_deeds","_law_handed","_law_found"]
abbrev lU:List Str:=["_law_count","_law_deeds"]
def gY:OS:=(aP (bG 2 (oL kU (aE (oP (aF 1)) aU))) (aP (bG 3 (bS Ci (aE (oP (aF 0)) (aE (oP (aF 2)) aU)))) (aP (fJ (oOr (eJ (o2 (EM 8) (oP (aF 2)) (oP (aF 1)))) (oOr (nG (kZ (rP "tuple" (oP (aF 3))))) (eJ (o2 (EM 8) (oL eE (aE (oP (aF 3)) aU)) (oP (dC (.int 4))))))) (bE (oL (fun ω ds=>pu (iN ds) ω) (aE (oP (dC .non)) (aE (oP (dC .non)) (aE (oP (dC .non)) (aE (oP (dC .non)) aU)))))) cB) (bE (oP (aF 3))))))
def eT:eM:=fV 2 iJ gY
abbrev vW:List Str:=["_law_count","_law_large"]
abbrev BK:List Str:=["_law_count"]
def Be:OS:=(aP (bG 1 (oP (dC (.int 100000000000000000000)))) (bE (oL (fun ω ds=>pu (pV ds) ω) (aE (oP (d1 Pv (dC (.int 1)))) (aE (oP (aF 0)) (aE (oP (d1 Pv (dC (.int 2)))) (aE (o2 (lf gSub) (oP (dC (.int 0))) (oP (aF 0))) (aE (oP (aF 1)) (aE (o2 (lf gSub) (oP (dC (.int 0))) (oP (aF 1))) aU)))))))))
def fR:eM:=fV 1 vW Be
abbrev qV:List Str:=["_law_j","_law_count"]
abbrev yE:List Str:=["_law_j","_law_count"]
def xN:OS:=(aP (fJ (eJ (o2 (sK 8) (o2 (lf cW) (oP (aF 1)) (oP (dC (.int 2)))) (oP (dC (.int 0))))) (bE (o2 (lf Lz) (o2 (lf Lz) (o2 (lf Lx) (oP (dC (.str "o"))) (o2 (lf cW) (oP (aF 1)) (oP (dC (.int 5))))) (o2 (fun ω a b=>pu (cA ω a b) ω) (oP (dC (.str "abcd"))) (oP (aF 0)))) (o2 (lf Lx) (oP (dC (.str "o"))) (o2 (lf gSub) (oP (dC (.int 5))) (o2 (lf cW) (oP (aF 1)) (oP (dC (.int 5)))))))) cB) (bE (o2 (fun ω a b=>pu (cA ω a b) ω) (oL (fun ω ds=>pu (pV ds) ω) (aE (oP (dC (.str "oats"))) (aE (oP (dC (.str "oat"))) (aE (oP (dC (.str ""))) (aE (oP (dC (.str "oatsack"))) aU))))) (oP (aF 0)))))
def mJ:eM:=fV 2 qV xN
abbrev gK:List Str:=["_law_cell","_law_k","_law_count","_law_way","_law_one","_law_other","_law_name","_law_values","_law_value"]
abbrev qD:List Str:=["_law_cell","_law_k","_law_count"]
def pT:OS:=(aP (bG 3 (o2 (lf cW) (o2 (lf cW) (o2 (lf jF) (oP (aF 0)) (oP (dC (.int 48271)))) (oP (dC (.int 1009)))) (oP (dC (.int 16))))) (aP (bG 4 (o2 (lf cW) (o2 (lf cW) (o2 (lf jF) (o2 (lf vZ) (oP (aF 0)) (oP (aF 1))) (oP (dC (.int 48271)))) (oP (dC (.int 1013)))) (oP (aF 2)))) (aP (bG 5 (oP (aF 4))) (aP (fJ (JO (eJ (o2 (lf gGt) (oP (aF 2)) (oP (dC (.int 1))))) (eJ (o2 (lf gGt) (o2 (lf cW) (o2 (lf cW) (o2 (lf jF) (oP (aF 0)) (oP (dC (.int 48271)))) (oP (dC (.int 1019)))) (oP (dC (.int 19)))) (oP (dC (.int 0)))))) (bG 5 (o2 (lf cW) (o2 (lf vZ) (o2 (lf vZ) (oP (aF 4)) (oP (dC (.int 1)))) (o2 (lf cW) (o2 (lf cW) (o2 (lf jF) (oP (aF 0)) (oP (dC (.int 48271)))) (oP (dC (.int 1021)))) (o2 (lf gSub) (oP (aF 2)) (oP (dC (.int 1)))))) (oP (aF 2)))) cB) (aP (bG 6 (bS mJ (aE (o2 (lf cW) (o2 (lf cW) (o2 (lf jF) (oP (aF 0)) (oP (dC (.int 48271)))) (oP (dC (.int 1031)))) (oP (dC (.int 4)))) (aE (oP (aF 2)) aU)))) (aP (bG 7 (oL (fun ω ds=>pu (pV ds) ω) (aE (o2 (lf gSub) (o2 (lf cW) (o2 (lf cW) (o2 (lf jF) (oP (aF 0)) (oP (dC (.int 48271)))) (oP (dC (.int 1033)))) (oP (dC (.int 9)))) (oP (dC (.int 4)))) (aE (o2 (lf gSub) (oP (dC (.int 0))) (oP (aF 1))) (aE (o2 (lf vZ) (oP (dC (.int 100000000000000000000))) (oP (aF 1))) aU))))) (aP (bG 8 (o2 (fun ω a b=>pu (cA ω a b) ω) (oP (aF 7)) (o2 (lf cW) (o2 (lf cW) (o2 (lf jF) (oP (aF 0)) (oP (dC (.int 48271)))) (oP (dC (.int 1039)))) (oP (dC (.int 3)))))) (aP (fJ (eJ (o2 (sK 8) (o2 (lf cW) (o2 (lf cW) (o2 (lf jF) (oP (aF 0)) (oP (dC (.int 48271)))) (oP (dC (.int 1049)))) (oP (dC (.int 31)))) (oP (dC (.int 30))))) (bG 4 (o2 (fun ω a b=>pu (cA ω a b) ω) (bS fR (aE (oP (aF 2)) aU)) (o2 (lf cW) (o2 (lf cW) (o2 (lf jF) (oP (aF 0)) (oP (dC (.int 48271)))) (oP (dC (.int 1051)))) (oP (dC (.int 6)))))) cB) (aP (fJ (eJ (o2 (sK 8) (o2 (lf cW) (o2 (lf cW) (o2 (lf jF) (oP (aF 0)) (oP (dC (.int 48271)))) (oP (dC (.int 1061)))) (oP (dC (.int 31)))) (oP (dC (.int 30))))) (bG 5 (o2 (fun ω a b=>pu (cA ω a b) ω) (bS fR (aE (oP (aF 2)) aU)) (o2 (lf cW) (o2 (lf cW) (o2 (lf jF) (oP (aF 0)) (oP (dC (.int 48271)))) (oP (dC (.int 1063)))) (oP (dC (.int 6)))))) cB) (aP (fJ (eJ (o2 (lf gLt) (oP (aF 3)) (oP (dC (.int 5))))) (bE (oL (fun ω ds=>pu (iN ds) ω) (aE (oP (dC (.str "put"))) (aE (oP (aF 4)) (aE (oP (aF 6)) (aE (oP (aF 8)) aU)))))) cB) (aP (fJ (eJ (o2 (lf gLt) (oP (aF 3)) (oP (dC (.int 7))))) (bE (oL (fun ω ds=>pu (iN ds) ω) (aE (oP (dC (.str "take"))) (aE (oP (aF 4)) (aE (oP (aF 6)) aU))))) cB) (aP (fJ (eJ (o2 (lf gLt) (oP (aF 3)) (oP (dC (.int 9))))) (bE (oL (fun ω ds=>pu (iN ds) ω) (aE (oP (dC (.str "change"))) (aE (oP (aF 4)) (aE (oP (aF 6)) (aE (oP (aF 8)) aU)))))) cB) (bE (oL (fun ω ds=>pu (iN ds) ω) (aE (o2 (fun ω a b=>pu (cA ω a b) ω) (oL (fun ω ds=>pu (pV ds) ω) (aE (oP (dC (.str "tell"))) (aE (oP (dC (.str "meet"))) aU))) (oL (lfL Px) (aE (o2 (lf gGt) (oP (aF 3)) (oP (dC (.int 11)))) aU))) (aE (oP (aF 4)) (aE (oP (aF 5)) aU)))))))))))))))))
def jV:eM:=fV 3 gK pT
abbrev kJ:List Str:=["_law_cells","_law_count","_law_deeds","_law_k"]
abbrev vL:List Str:=["_law_cells","_law_count"]
def fM:OS:=(eS (AJ EN (oP (aF 2)) (aE (bS jV (aE (o2 (lf vZ) (o2 (fun ω a b=>pu (cA ω a b) ω) (oP (aF 0)) (oP (aF 3))) (o2 (lf jF) (oP (dC (.int 7))) (oP (aF 3)))) (aE (oP (aF 3)) (aE (oP (aF 1)) aU)))) aU)))
def oE:OS:=(aP (bG 2 (oL Qj aU)) (aP (sNx (dS (oIA sJ (aE (oL eE (aE (oP (aF 0)) aU)) aU)) (bN 3) fM)) (bE (oP (aF 2)))))
def nX:eM:=fV 2 kJ oE
abbrev fY:List Str:=["_law_found","_law_count","_law_rows","_law_row"]
abbrev kY:List Str:=["_law_found","_law_count"]
def eD:OS:=(aP (fJ (oOr (nG (kZ (rP "tuple" (oP (aF 3))))) (oOr (eJ (o2 (EM 8) (oL eE (aE (oP (aF 3)) aU)) (oP (dC (.int 3))))) (nG (kZ (rP "str" (o2 (fun ω a b=>pu (cA ω a b) ω) (oP (aF 3)) (oP (dC (.int 0))))))))) (bE (oP (dC (.bl false)))) cB) (aP (fJ (oOr (nG (kZ (rP "tuple" (o2 (fun ω a b=>pu (cA ω a b) ω) (oP (aF 3)) (oP (dC (.int 1))))))) (oOr (eJ (o2 (EM 8) (oL eE (aE (o2 (fun ω a b=>pu (cA ω a b) ω) (oP (aF 3)) (oP (dC (.int 1)))) aU)) (oP (dC (.int 2))))) (nG (kZ (bS jU (aE (o2 (fun ω a b=>pu (cA ω a b) ω) (oP (aF 3)) (oP (dC (.int 2)))) aU)))))) (bE (oP (dC (.bl false)))) cB) (fJ (oOr (nG (kZ (bS jU (aE (o2 (fun ω a b=>pu (cA ω a b) ω) (o2 (fun ω a b=>pu (cA ω a b) ω) (oP (aF 3)) (oP (dC (.int 1)))) (oP (dC (.int 0)))) aU)))) (nG (kZ (bS jU (aE (o2 (fun ω a b=>pu (cA ω a b) ω) (o2 (fun ω a b=>pu (cA ω a b) ω) (oP (aF 3)) (oP (dC (.int 1)))) (oP (dC (.int 1)))) aU))))) (bE (oP (dC (.bl false)))) cB)))
def cV:OS:=(aP (fJ (nG (kZ (rP "list" (oP (aF 2))))) (bE (oP (dC (.bl false)))) cB) (sNx (dS (oIL (oP (aF 2))) (bN 3) eD)))
def fX:OS:=(aP (fJ (oOr (nG (kZ (rP "list" (oP (aF 0))))) (eJ (o2 (EM 8) (oL eE (aE (oP (aF 0)) aU)) (oP (aF 1))))) (bE (oP (dC (.bl false)))) cB) (aP (sNx (dS (oIL (oP (aF 0))) (bN 2) cV)) (bE (oP (dC (.bl true))))))
def cX:eM:=fV 2 fY fX
abbrev iX:List Str:=["_law_deed"]
abbrev nP:List Str:=["_law_deed"]
def nJ:OS:=(bE (eC wA (oIT (oSl (oP (aF 0)) (dSo (dC (.int 1))) (dSo (dC (.int 3))))) [none] (bN 0) (nG (kZ (rP "str" (oP (aF 0))))) (oP (aF 0))))
def cZ:eM:=fV 1 iX nJ
abbrev fU:List Str:=["_law_deeds","_law_cells","_law_order","_law_k","_law_spot","_law_one","_law_other"]
abbrev sA:List Str:=["_law_deeds","_law_cells"]
def cQ:OS:=(fJ (eJ (o2 (lf gGt) (oL eE (aE (oP (aF 2)) aU)) (oP (dC (.int 1))))) (aP (bG 4 (o2 (lf cW) (o2 (lf cW) (o2 (lf jF) (o2 (lf vZ) (o2 (fun ω a b=>pu (cA ω a b) ω) (oP (aF 1)) (oP (aF 3))) (o2 (lf jF) (oP (dC (.int 7))) (oP (aF 3)))) (oP (dC (.int 48271)))) (oP (dC (.int 1087)))) (o2 (lf gSub) (oL eE (aE (oP (aF 2)) aU)) (oP (dC (.int 1)))))) (aP (bG 5 (bS cZ (aE (o2 (fun ω a b=>pu (cA ω a b) ω) (oP (aF 0)) (o2 (fun ω a b=>pu (cA ω a b) ω) (oP (aF 2)) (oP (aF 4)))) aU))) (aP (bG 6 (bS cZ (aE (o2 (fun ω a b=>pu (cA ω a b) ω) (oP (aF 0)) (o2 (fun ω a b=>pu (cA ω a b) ω) (oP (aF 2)) (o2 (lf vZ) (oP (aF 4)) (oP (dC (.int 1)))))) aU))) (fJ (eJ (o2 (sK 8) (eC wA (oIL (oP (aF 5))) [none,some 6] (bN 0) (eJ (o2 (lf (gIn 7)) (oP (aF 0)) (oP (aF 1)))) (oP (aF 0))) (oL (fun ω ds=>pu (pV ds) ω) aU))) (Fz (oL (fun ω ds=>pu (iN ds) ω) (aE (o2 (fun ω a b=>pu (cA ω a b) ω) (oP (aF 2)) (o2 (lf vZ) (oP (aF 4)) (oP (dC (.int 1))))) (aE (o2 (fun ω a b=>pu (cA ω a b) ω) (oP (aF 2)) (oP (aF 4))) aU))) (oP (aF 2)) (oP (aF 4)) (oP (aF 2)) (o2 (lf vZ) (oP (aF 4)) (oP (dC (.int 1))))) cB)))) cB)
def lJ:OS:=(aP (bG 2 (eC Mf (oIA sJ (aE (oL eE (aE (oP (aF 0)) aU)) aU)) [none] (bN 0) (oPT nN) (oP (aF 0)))) (aP (sNx (dS (oIA sJ (aE (oL eE (aE (oP (aF 1)) aU)) aU)) (bN 3) cQ)) (bE (oP (aF 2)))))
def lF:eM:=fV 2 fU lJ
abbrev LY:List Str:=["_law_script","_law_count","_law_deeds","_law_order","_law_other","_law_told","_law_again","_law_left","_law_right"]
abbrev Ot:List Str:=["_law_script"]
def Lv:OS:=(aP (bG 1 (o2 (fun ω a b=>pu (cA ω a b) ω) (oL (fun ω ds=>pu (pV ds) ω) (aE (oP (dC (.int 2))) (aE (oP (dC (.int 3))) (aE (oP (dC (.int 4))) (aE (oP (dC (.int 5))) (aE (oP (dC (.int 2))) (aE (oP (dC (.int 3))) (aE (oP (dC (.int 4))) (aE (oP (dC (.int 8))) aU))))))))) (o2 (lf cW) (o2 (lf cW) (o2 (lf jF) (bS yR (aE (oP (aF 0)) (aE (oP (dC (.int 0))) aU))) (oP (dC (.int 48271)))) (oP (dC (.int 1069)))) (oP (dC (.int 8)))))) (aP (bG 2 (bS nX (aE (oSl (oP (aF 0)) (dSo (dC (.int 1))) (dSo (dC (.int 25)))) (aE (oP (aF 1)) aU)))) (aP (bG 3 (bS lF (aE (oP (aF 2)) (aE (oSl (oP (aF 0)) (dSo (dC (.int 1))) dNo) aU)))) (aP (bG 4 (eC wA (oIL (oP (aF 3))) [none,some 2] (bN 0) (oPT nN) (o2 (fun ω a b=>pu (cA ω a b) ω) (oP (aF 1)) (oP (aF 0))))) (aP (bG 5 (bS pN (aE (oP (aF 1)) (aE (oL kU (aE (oP (aF 2)) aU)) aU)))) (aP (bG 6 (bS pN (aE (oP (aF 1)) (aE (oL kU (aE (oP (aF 4)) aU)) aU)))) (aP (fJ (oOr (nG (kZ (rP "list" (oP (aF 5))))) (nG (kZ (rP "list" (oP (aF 6)))))) (bE (oP (dC (.bl false)))) cB) (aP (fJ (oOr (eJ (o2 (EM 8) (oL eE (aE (oP (aF 5)) aU)) (oL eE (aE (oP (aF 2)) aU)))) (nG (kZ (bS (fK 8) (aE (oP (aF 6)) (aE (eC wA (oIL (oP (aF 3))) [none,some 5] (bN 0) (oPT nN) (o2 (fun ω a b=>pu (cA ω a b) ω) (oP (aF 1)) (oP (aF 0)))) aU)))))) (bE (oP (dC (.bl false)))) cB) (aP (bG 7 (bS eT (aE (oP (aF 1)) (aE (oP (aF 2)) aU)))) (aP (bG 8 (bS eT (aE (oP (aF 1)) (aE (oP (aF 4)) aU)))) (aP (fJ (oOr (nG (kZ (bS cX (aE (o2 (fun ω a b=>pu (cA ω a b) ω) (oP (aF 7)) (oP (dC (.int 0)))) (aE (oP (aF 1)) aU))))) (nG (kZ (bS cX (aE (o2 (fun ω a b=>pu (cA ω a b) ω) (oP (aF 8)) (oP (dC (.int 0)))) (aE (oP (aF 1)) aU)))))) (bE (oP (dC (.bl false)))) cB) (bE (bS (fK 8) (aE (oP (aF 7)) (aE (oP (aF 8)) aU)))))))))))))))
def p_law:eM:=fV 1 LY Lv
end L2.MB.Lw
end
section
namespace L2.MB.Lw
open PySem PySem.Spec PyProof.Rows L2.MB
theorem iI {bd:BR}{chk:Om->Bool}{t:OG Bool}{f:OG D}{ω:Om}{p:D->Bool}{g:D->D} (J:Rho->Prop) (hc:chk ω=true):∀ {ds:List D}{ρ:Rho},J ρ->(∀ d∈ds,∀ ρ,J ρ->∃ ρ1,bd d ρ=some ρ1/\J ρ1/\t ρ1 ω=some (.ok (p d),ω)/\(p d=true->f ρ1 ω=some (.ok (g d),ω)))->
  compLO bd chk t f ds ρ ω=some ((ds.filter p).map g,ω)
 |[],ρ,_,_=>by
  show(if chk ω=true then some ([],ω) else none)=_
  rw[if_pos hc]
  rfl
 |d::ds,ρ,hJ,h=>by
  obtain⟨ρ1,h1,h2,h3,h4⟩:=h d List.mem_cons_self ρ hJ
  have ih:=iI J hc h2 fun d' hd=>h d' (List.mem_cons_of_mem _ hd)
  unfold compLO
  rw[if_pos hc,h1]
  show(match t ρ1 ω with
   |some (.ok k,ω1)=>_
   |_=>_)=_
  rw[h3]
  cases hp:p d with
  |true=>
   rw[List.filter_cons_of_pos hp]
   show(if true=true then(match f ρ1 ω with
    |some (.ok y,ω2)=>_
    |_=>none) else _)=_
   rw[if_pos rfl,h4 hp]
   show(compLO bd chk t f ds ρ1 ω).map _=_
   rw[ih]
   rfl
  |false=>
   rw[List.filter_cons_of_neg (by rw[hp];exact Bool.false_ne_true)]
   exact ih
theorem kG {bd:BR}{chk:Om->Bool}{f:OG D}{ω:Om}{g:D->D} (J:Rho->Prop) (hc:chk ω=true) {ds:List D}{ρ:Rho} (hJ:J ρ) (h:∀ d∈ds,∀ ρ,J ρ->∃ ρ1,bd d ρ=some ρ1/\J ρ1/\f ρ1 ω=some (.ok (g d),ω)):
  compLO bd chk (oPT nN) f ds ρ ω=some (ds.map g,ω):=by
 have:=iI (t:=oPT nN) (p:=fun _=>true) (g:=g) J hc hJ fun d hd ρ hρ=>let ⟨ρ1,h1,h2,h3⟩:=h d hd ρ hρ;⟨ρ1,h1,h2,rfl,fun _=>h3⟩
 rw[this]
 congr 2
 rw[List.filter_eq_self.mpr (fun _ _=>rfl)]
theorem gW {fi:OI'}{caps:List (Option Nat)}{bd:BR}{t:OG Bool}{f:OG D}{ρ:Rho}{ω ω1 ω2:Om}{ds out:List D}{chk:Om->Bool} (h1:fi ρ ω=some (.ok (ds,chk),ω1)) (hl:ds.length<=sizeLine) (h2:compLO bd chk t f ds (Ea caps ρ) ω1=some (out,ω2)):eC wA fi caps bd t f ρ ω=some (.ok (.lst out),ω2):=by
 unfold eC
 rw[bO h1]
 show(if ds.length<=sizeLine then _ else none)=_
 rw[if_pos hl]
 show(compLO bd chk t f ds (Ea caps ρ) ω1).bind _=_
 rw[h2]
 rfl
theorem yV {fi:OI'}{caps:List (Option Nat)}{bd:BR}{t:OG Bool}{f:OG D}{ρ:Rho}{ω ω1 ω2:Om}{ds out:List D}{chk:Om->Bool} (h1:fi ρ ω=some (.ok (ds,chk),ω1)) (hl:ds.length<=sizeLine) (h2:compLO bd chk t f ds (Ea caps ρ) ω1=some (out,ω2)):eC Mf fi caps bd t f ρ ω=some (.ok (.obj ω2.length),ω2++[.ml out]):=by
 unfold eC
 rw[bO h1]
 show(if ds.length<=sizeLine then _ else none)=_
 rw[if_pos hl]
 show(compLO bd chk t f ds (Ea caps ρ) ω1).bind _=_
 rw[h2]
 rfl
theorem iT {bd:BR}{chk:Om->Bool}{F:OS}{d:D}{ds:List D}{ρ ρ1 ρ2:Rho}{ω ω2:Om} (hc:chk ω=true) (hb:bd d ρ=some ρ1) (hF:F ρ1 ω=some (.nx ρ2,ω2)):dU bd chk F (d::ds) ρ ω=dU bd chk F ds ρ2 ω2:=by
 show(if chk ω=true then(bd d ρ).bind (fun ρ1=>match F ρ1 ω with
  |none=>none
  |some (.nx ρ2,ω2)=>dU bd chk F ds ρ2 ω2
  |some (.ct ρ2,ω2)=>dU bd chk F ds ρ2 ω2
  |some (.bk ρ2,ω2)=>some (.nx ρ2,ω2)
  |some (.rt d,ω2)=>some (.rt d,ω2)
  |some (.ex _,_)=>none) else none)=_
 rw[if_pos hc,hb]
 show(match F ρ1 ω with
  |none=>none
  |some (.nx ρ2,ω2)=>dU bd chk F ds ρ2 ω2
  |some (.ct ρ2,ω2)=>dU bd chk F ds ρ2 ω2
  |some (.bk ρ2,ω2)=>some (.nx ρ2,ω2)
  |some (.rt d,ω2)=>some (.rt d,ω2)
  |some (.ex _,_)=>none)=_
 rw[hF]
theorem Bu {bd:BR}{chk:Om->Bool}{f:OG D}{d y:D}{ds:List D}{ρ ρ1:Rho}{ω ω2:Om} (hc:chk ω=true) (hb:bd d ρ=some ρ1) (hf:f ρ1 ω=some (.ok y,ω2)):compLO bd chk (oPT nN) f (d::ds) ρ ω=(compLO bd chk (oPT nN) f ds ρ1 ω2).map fun r=>(y::r.1,r.2):=by
 rw[compLO.eq_2,if_pos hc,hb]
 show(match f ρ1 ω with
  |some (.ok y,ω2)=>(compLO bd chk (oPT nN) f ds ρ1 ω2).map fun r:List D×Om=>(y::r.1,r.2)
  |_=>none)=_
 rw[hf]
mutual
theorem wZ:∀ a:D,gO a a=true
 |.non=>by simp[gO]
 |.bl a=>by simp[gO]
 |.int a=>by simp[gO]
 |.str a=>by simp[gO]
 |.obj a=>by simp[gO]
 |.lst a=>by simpa [gO] using sameDs_refl a
 |.tup a=>by simpa [gO] using sameDs_refl a
 |.scr a=>by simpa [gO] using sameDs_refl a
theorem sameDs_refl:∀ a:List D,sameDs a a=true
 |[]=>by simp[sameDs]
 |a::as=>by simp[sameDs,wZ a,sameDs_refl as]
end
def iv (xs:List Int):List D:=xs.map D.int
def RowV (ω:Om) (d:D) (xs:List Int):Prop:=eN ω d=some (iv xs)
theorem RowV.it {ω:Om}{d:D}{xs:List Int} (h:RowV ω d xs):∃ chk,xQ ω d=some (iv xs,chk)/\chk ω=true:=by
 rcases pB h with rfl|⟨n,rfl,e⟩
 ·exact⟨dH,rfl,rfl⟩
 ·refine⟨vY n (iv xs),?_,?_⟩
  ·show(match ω[n]? with
    |some (.ml ds)=>some (ds,vY n ds)
    |_=>none)=_
   rw[e]
  ·unfold vY
   rw[e]
   exact sameDs_refl _
theorem lL {ω:Om}{n:Nat}{ds:List D}{a:Int} (e:ω[n]?=some (.ml ds)):cA ω (.obj n) (.int a)=atI ds a:=by
 simp only[cA,cellOf,e]
 rfl
theorem RowV.ix {ω:Om}{d:D}{xs:List Int} (h:RowV ω d xs) {a:Int} (h0:0<=a) (h1:a<xs.length):cA ω d (.int a)=some (.int (xs.getD a.toNat 0)):=by
 have key:atI (iv xs) a=some (.int (xs.getD a.toNat 0)):=by
  unfold atI ixN iv
  have hl:a<((xs.map D.int).length:Int):=by simpa using h1
  rw[if_pos h0,if_pos hl]
  show(xs.map D.int)[a.toNat]?=_
  have:a.toNat<xs.length:=by omega
  rw[List.getElem?_map,List.getElem?_eq_getElem this,List.getD_eq_getElem?_getD,List.getElem?_eq_getElem this]
  rfl
 rcases pB h with rfl|⟨n,rfl,e⟩
 ·exact key
 ·rw[lL e]
  exact key
theorem bD {f h:OG D}{ρ:Rho}{ω ω1 ω2:Om}{a b d:D} (e1:f ρ ω=some (.ok a,ω1)) (e2:h ρ ω1=some (.ok b,ω2)) (e3:cA ω2 a b=some d):o2 (fun ω a b=>pu (cA ω a b) ω) f h ρ ω=some (.ok d,ω2):=lG e1 e2 (by show pu (cA ω2 a b) ω2=_;rw[e3];rfl)
theorem uK {ω:Om}{d:D}{xs:List Int} (h:RowV ω d xs) {a b:Int} (h0:0<=a) (h1:a<xs.length):gM [d,.tup [.int a,.int b]] ω=some (.ok (.bl (decide (b<=xs.getD a.toNat 0))),ω):=by
 refine bC rfl (bM (jE (bD (aD (d:=.tup [.int a,.int b]) rfl) bF rfl) (bD (aD (d:=d) rfl) (bD (aD (d:=.tup [.int a,.int b]) rfl) bF rfl) (h.ix h0 h1)) rfl))
theorem Fd {f h:OG D}{ρ:Rho}{ω:Om}{a b:D}{xs ys:List Int} (e1:f ρ ω=some (.ok a,ω)) (e2:h ρ ω=some (.ok b,ω)) (h1:RowV ω a xs) (h2:RowV ω b ys):∃ chk,oIZ (aE f (aE h aU)) ρ ω=some (.ok (BQ (iv xs) (iv ys),chk),ω)/\chk ω=true:=by
 obtain⟨c1,g1,k1⟩:=h1.it
 obtain⟨c2,g2,k2⟩:=h2.it
 refine⟨fun ω=>c1 ω&&c2 ω,?_,by simp[k1,k2]⟩
 unfold oIZ
 rw[bO (aC e1 (aC e2 aJ))]
 show oR (pu (Oz ω [a,b]) ω)=_
 unfold Oz
 show oR (pu ((xQ ω a).bind _) ω)=_
 rw[g1]
 show oR (pu ((xQ ω b).map _) ω)=_
 rw[g2]
 rfl
theorem yI {xs ys:List Int}{g:Int->Int->Int}{G:D->D} (hG:∀ x y,G (.tup [.int x,.int y])=.int (g x y)):(BQ (iv xs) (iv ys)).map G=iv (List.zipWith g xs ys):=by
 unfold BQ iv
 rw[List.zipWith_map]
 induction xs generalizing ys with
 |nil=>rfl
 |cons x r ih=>
  cases ys with
  |nil=>rfl
  |cons y r'=>simp only[List.zipWith_cons_cons,List.map_cons,hG,ih]
theorem BO {xs ys:List Int}{d:D} (h:d∈BQ (iv xs) (iv ys)):∃ x y,d=.tup [.int x,.int y]:=by
 unfold BQ iv at h
 rw[List.zipWith_map] at h
 induction xs generalizing ys with
 |nil=>simp at h
 |cons x r ih=>
  cases ys with
  |nil=>simp at h
  |cons y r'=>
   rw[List.zipWith_cons_cons] at h
   rcases List.mem_cons.mp h with h|h
   ·exact⟨x,y,h⟩
   ·exact ih h
theorem BP {xs ys:List Int} (h:xs.length<=sizeLine):(BQ (iv xs) (iv ys)).length<=sizeLine:=by
 unfold BQ iv
 rw[List.length_zipWith,List.length_map,List.length_map]
 omega
def D2 (g:Int->Int->Int):D->D
 |.tup [.int x,.int y]=>.int (g x y)
 |d=>d
def mx (i j:Int):Int:=if j>i then j else i
def mn (i j:Int):Int:=if j<i then j else i
theorem An:∀ xs:List Int,tK (iv xs)=some xs
 |[]=>rfl
 |x::r=>by
  show(tK (iv r)).map _=_
  rw[An r]
  rfl
theorem AT {ω:Om}{a b:D}{xs ys:List Int} (h1:RowV ω a xs) (h2:RowV ω b ys) (hl:xs.length<=sizeLine):jW [a,b] ω=some (.ok (.obj ω.length),ω++[.ml (iv (List.zipWith mx xs ys))]):=by
 obtain⟨chk,z1,z2⟩:=Fd (f:=oP (aF 0)) (h:=oP (aF 1)) (ρ:=cP tJ [a,b]) (aD (d:=a) rfl) (aD (d:=b) rfl) h1 h2
 refine bC rfl (bM (yV z1 (BP hl) ?_))
 rw[<- yI (G:=D2 mx) (fun _ _=>rfl)]
 refine kG (fun ρ=>ρ.length=2) z2 rfl fun d hd ρ hρ=> ?_
 obtain⟨x,y,rfl⟩:=BO hd
 match ρ,hρ with
 |[u,v],_=>exact⟨_,rfl,rfl,rfl⟩
theorem Ij {ω:Om}{a b:D}{xs ys:List Int} (h1:RowV ω a xs) (h2:RowV ω b ys) (hl:xs.length<=sizeLine):Ch [a,b] ω=some (.ok (.int (List.zipWith (fun x y=>mx (y-x) 0) xs ys).sum),ω):=by
 obtain⟨chk,z1,z2⟩:=Fd (f:=oP (aF 0)) (h:=oP (aF 1)) (ρ:=cP Ae [a,b]) (aD (d:=a) rfl) (aD (d:=b) rfl) h1 h2
 refine bC rfl (bM (fD (aC (gW (ω2:=ω) (out:=iv (List.zipWith (fun x y=>mx (y-x) 0) xs ys)) z1 (BP hl) ?_) aJ) ?_))
 ·rw[<- yI (G:=D2 fun x y=>mx (y-x) 0) (fun _ _=>rfl)]
  refine kG (fun ρ=>ρ.length=2) z2 rfl fun d hd ρ hρ=> ?_
  obtain⟨x,y,rfl⟩:=BO hd
  match ρ,hρ with
  |[u,v],_=>exact⟨_,rfl,rfl,rfl⟩
 ·show pu ((tK (iv _)).map _) ω=_
  rw[An]
  rfl
end L2.MB.Lw
end
section
namespace L2.MB.Lw
open PySem PySem.Spec PyProof.Rows L2.MB
theorem DP {α:Type}{bd:BR}{chk:Om->Bool}{F:OS} (R:α->Rho->Om->Prop) (st:α->D->α) (hc:∀ a ρ ω,R a ρ ω->chk ω=true):∀ {ds:List D}{a:α}{ρ:Rho}{ω:Om},R a ρ ω->(∀ d∈ds,∀ a ρ ω,R a ρ ω->∃ ρ1 ρ2 ω2,bd d ρ=some ρ1/\F ρ1 ω=some (.nx ρ2,ω2)/\R (st a d) ρ2 ω2)->
  ∃ ρ' ω',dU bd chk F ds ρ ω=some (.nx ρ',ω')/\R (ds.foldl st a) ρ' ω'
 |[],a,ρ,ω,h,_=>⟨ρ,ω,by show(if chk ω=true then _ else none)=_;rw[if_pos (hc a ρ ω h)],h⟩
 |d::ds,a,ρ,ω,h,g=>by
  obtain⟨ρ1,ρ2,ω2,e1,e2,h2⟩:=g d List.mem_cons_self a ρ ω h
  obtain⟨ρ',ω',e3,h3⟩:=DP R st hc h2 fun d' hd=>g d' (List.mem_cons_of_mem _ hd)
  refine⟨ρ',ω',?_,h3⟩
  exact(iT (hc a ρ ω h) e1 e2).trans e3
theorem mZ {F:OS}{ρ ρ':Rho}{ω ω':Om} (h:F ρ ω=some (.nx ρ',ω')):sNx F ρ ω=some (.nx ρ',ω'):=by
 unfold sNx
 rw[h]
structure Hd where
 knows:List (List Int)
 table:List (List Key×D)
 kept:List (List Key×D)
def RowsAt (ω:Om):List Nat->List (List Int)->Prop:=Paired fun r xs=>ω[r]?=some (Ob.ml (iv xs))
structure HandAt (ω:Om) (h:Nat) (i:Int) (hd:Hd) (k t e:Nat) (rs:List Nat):Prop where
 obj:ω[h]?=some (.ins 0 [("number",.int i),("knows",.obj k),("table",.obj t),("kept",.obj e)])
 kn:ω[k]?=some (.ml (rs.map D.obj))
 rows:RowsAt ω rs hd.knows
 tb:ω[t]?=some (.dt hd.table)
 kp:ω[e]?=some (.dt hd.kept)
 nd:(h::k::t::e::rs).Nodup
theorem RowsAt.get {ω:Om}{rs:List Nat}{kn:List (List Int)} (h:RowsAt ω rs kn) {j:Nat}{xs:List Int} (e:kn[j]?=some xs):∃ r,rs[j]?=some r/\ω[r]?=some (.ml (iv xs)):=by
 induction h generalizing j with
 |nil=>simp at e
 |cons hr _ ih=>
  cases j with
  |zero=>simp at e;subst e;exact⟨_,rfl,hr⟩
  |succ j=>simp at e;obtain⟨r,e1,e2⟩:=ih e;exact⟨r,by simpa using e1,e2⟩
theorem RowsAt.length {ω:Om}{rs:List Nat}{kn:List (List Int)} (h:RowsAt ω rs kn):rs.length=kn.length:=Paired.length h
theorem iD {c:Nat}{x:Str}{f:OG D}{ρ:Rho}{ω ω1:Om}{n:Nat}{fs:List (Str×D)}{d:D} (e1:f ρ ω=some (.ok (.obj n),ω1)) (e2:ω1[n]?=some (.ins c fs)) (e3:fs.lookup x=some d):iM c x f ρ ω=some (.ok d,ω1):=by
 unfold iM
 rw[bO e1]
 show oR (pu (Md c x ω1 (.obj n)) ω1)=_
 have:Md c x ω1 (.obj n)=some d:=by
  simp[Md,cellOf,e2,e3]
 rw[this]
 rfl
theorem cE {c:Nat}{m:Str}{φ:eM}{fo:OG D}{fl:OG (List D)}{ρ:Rho}{ω ω1 ω2 ω3:Om}{n:Nat}{fs:List (Str×D)}{ds:List D}{r:Rz D} (e1:fo ρ ω=some (.ok (.obj n),ω1)) (e2:ω1[n]?=some (.ins c fs)) (e3:fs.lookup m=none) (e4:fl ρ ω1=some (.ok ds,ω2)) (e5:φ (.obj n::ds) ω2=some (r,ω3)):
  bL c m φ fo fl ρ ω=some (r,ω3):=by
 unfold bL
 rw[bO e1]
 have:EE c m ω1 (.obj n)=true:=by
  simp only[EE,cellOf,e2,e3]
  simp
 show(if EE c m ω1 (.obj n)=true then _ else none)=_
 rw[if_pos this,bO e4]
 exact e5
section
variable {ω:Om}{h k t e:Nat}{i:Int}{hd:Hd}{rs:List Nat}{ρ:Rho}{f:OG D}
theorem HandAt.number (H:HandAt ω h i hd k t e rs) (ef:f ρ ω=some (.ok (.obj h),ω)):iM 0 "number" f ρ ω=some (.ok (.int i),ω):=iD ef H.obj rfl
theorem HandAt.knows (H:HandAt ω h i hd k t e rs) (ef:f ρ ω=some (.ok (.obj h),ω)):iM 0 "knows" f ρ ω=some (.ok (.obj k),ω):=iD ef H.obj rfl
theorem HandAt.table (H:HandAt ω h i hd k t e rs) (ef:f ρ ω=some (.ok (.obj h),ω)):iM 0 "table" f ρ ω=some (.ok (.obj t),ω):=iD ef H.obj rfl
theorem HandAt.kept (H:HandAt ω h i hd k t e rs) (ef:f ρ ω=some (.ok (.obj h),ω)):iM 0 "kept" f ρ ω=some (.ok (.obj e),ω):=iD ef H.obj rfl
def Hd.seen (hd:Hd) (i:Nat):List Int:=hd.knows.getD i []
theorem nV {i:Nat} (H:HandAt ω h i hd k t e rs) {r:Nat} (hr:rs[i]?=some r):cC [.obj h] ω=some (.ok (.obj r),ω):=by
 refine bC rfl (bM (bD (H.knows (aD rfl)) (H.number (aD rfl)) ?_))
 rw[lL H.kn]
 have hl:i<rs.length:=(List.getElem?_eq_some_iff.mp hr).1
 unfold atI ixN
 rw[if_pos (Int.natCast_nonneg i),if_pos (by simpa using hl)]
 show(rs.map D.obj)[i]?=_
 rw[List.getElem?_map,hr]
 rfl
theorem HandAt.seenRow {i:Nat} (H:HandAt ω h i hd k t e rs) (hi:i<hd.knows.length):∃ r,rs[i]?=some r/\ω[r]?=some (.ml (iv (hd.seen i))):=by
 refine H.rows.get ?_
 unfold Hd.seen
 rw[List.getD_eq_getElem?_getD,List.getElem?_eq_getElem hi]
 rfl
def Hd.entries (hd:Hd):Option (List D):=mR 4 (hd.table.map (·.2))
theorem mO (H:HandAt ω h i hd k t e rs) {out:List D} (hs:hd.entries=some out):bZ [.obj h] ω=some (.ok (.lst out),ω):=by
 refine bC rfl (bM ?_)
 unfold KZ
 rw[bO (H.table (aD rfl))]
 show oR (pu (GG 4 ω (.obj t)) ω)=_
 have:GG 4 ω (.obj t)=some (.lst out):=by
  simp only[GG,cellOf,H.tb]
  show(hd.entries).map _=_
  rw[hs]
  rfl
 rw[this]
 rfl
theorem cI {c:Nat}{m:Str}{φ:eM}{fo:OG D}{ρ:Rho}{ω ω1 ω3:Om}{n:Nat}{fs:List (Str×D)}{r:Rz D} (e1:fo ρ ω=some (.ok (.obj n),ω1)) (e2:ω1[n]?=some (.ins c fs)) (e3:fs.lookup m=none) (e5:φ [.obj n] ω1=some (r,ω3)):
  bL c m φ fo aU ρ ω=some (r,ω3):=cE e1 e2 e3 aJ e5
def marksIn (name:D) (rows:List D):List D:=(rows.filter fun d=>match d with|.tup (a::_)=>(eqD 8 a name)==some true|_=>false).map fun d=>match d with|.tup (_::m::_)=>m|_=>.non
def qZ (d:D):Prop:=∃ x a b v,d=.tup [.str x,.tup [.int a,.int b],.int v]
theorem oG (n:Nat) (x y:Str):eqD n (.str x) (.str y)=some (decide (x=y)):=by cases n <;> rfl
theorem Io (H:HandAt ω h i hd k t e rs) {out:List D} (hs:hd.entries=some out) (he:∀ d∈out,qZ d) (hl:out.length<=sizeLine) (y:Str):dL [.obj h,.str y] ω=some (.ok (.lst (marksIn (.str y) out)),ω):=by
 have e1:bL 0 "entries" bZ (oP (aF 0)) aU (cP eZ [.obj h,.str y]) ω=some (.ok (.lst out),ω):=cI (aD rfl) H.obj rfl (mO H hs)
 refine bC rfl (bM (gW (ds:=out) (chk:=dH) (ω1:=ω) ?_ hl ?_))
 ·unfold oIL
  rw[bO e1]
  rfl
 ·unfold marksIn
  refine iI (fun ρ=>∃ u,ρ=[u,some (.str y)]) rfl ⟨_,rfl⟩ fun d hd ρ hρ=> ?_
  obtain⟨x,a,b,v,rfl⟩:=he d hd
  obtain⟨u,rfl⟩:=hρ
  refine⟨_,rfl,⟨_,rfl⟩,?_,fun _=>rfl⟩
  refine dW (lG (bD (aD rfl) bF rfl) (aD rfl) ?_)
  show pu ((eqD 8 (.str x) (.str y)).map D.bl) ω=_
  rw[oG]
  show some (D.bl (decide (x=y)),ω)=some (D.bl (eqD 8 (.str x) (.str y)==some true),ω)
  rw[oG]
  cases decide (x=y) <;> rfl
theorem qN {g:Om->D->D->D->Option Om}{fo fi fv:OG D}{ρ:Rho}{ω ω1 ω2 ω3 ω4:Om}{o i v:D} (e1:fv ρ ω=some (.ok v,ω1)) (e2:fo ρ ω1=some (.ok o,ω2)) (e3:fi ρ ω2=some (.ok i,ω3)) (e4:g ω3 o i v=some ω4):tW g fo fi fv ρ ω=some (.nx ρ,ω4):=by
 unfold tW
 rw[dD e1,dD e2,dD e3]
 show(g ω3 o i v).map _=_
 rw[e4]
 rfl
theorem yN {ω:Om}{n:Nat}{ds:List D}{j:Nat}{v:D} (e:ω[n]?=some (.ml ds)) (hj:j<ds.length):wI ω (.obj n) (.int j) v=some (ω.set n (.ml (ds.set j v))):=by
 simp only[wI,e]
 unfold ixN
 rw[if_pos (Int.natCast_nonneg j),if_pos (by simpa using hj)]
 simp
theorem aZ {ω:Om}{n m:Nat}{ob:Ob} (h:m≠n):(ω.set n ob)[m]?=ω[m]?:=List.getElem?_set_ne (Ne.symm h)
theorem dG {ω:Om}{n:Nat}{ob ob':Ob} (h:ω[n]?=some ob'):(ω.set n ob)[n]?=some ob:=by
 have hl:n<ω.length:=(List.getElem?_eq_some_iff.mp h).1
 simp[hl]
theorem RowsAt.mono {ω ω':Om}{rs:List Nat}{kn:List (List Int)} (h:RowsAt ω rs kn) (k:∀ r∈rs,ω'[r]?=ω[r]?):RowsAt ω' rs kn:=by
 induction h with
 |nil=>exact .nil
 |cons hr _ ih=>exact .cons ((k _ List.mem_cons_self).trans hr) (ih fun r hr=>k r (List.mem_cons_of_mem _ hr))
theorem HandAt.mono {ω ω':Om}{h k t e:Nat}{i:Int}{hd:Hd}{rs:List Nat} (H:HandAt ω h i hd k t e rs) (g:∀ n∈h::k::t::e::rs,ω'[n]?=ω[n]?):HandAt ω' h i hd k t e rs:=
 ⟨(g h (by simp)).trans H.obj,(g k (by simp)).trans H.kn,H.rows.mono fun r hr=>g r (by simp[hr]),(g t (by simp)).trans H.tb,(g e (by simp)).trans H.kp,H.nd⟩
theorem RowsAt.set {ω:Om}{rs:List Nat}{kn:List (List Int)} (h:RowsAt ω rs kn) (nd:rs.Nodup) {j r:Nat}{xs:List Int} (hr:rs[j]?=some r):RowsAt (ω.set r (.ml (iv xs))) rs (kn.set j xs):=by
 induction h generalizing j with
 |nil=>simp at hr
 |@cons r0 x0 rs' kn' h0 t ih=>
  rw[List.nodup_cons] at nd
  cases j with
  |zero=>
   simp at hr
   subst hr
   rw[List.set_cons_zero]
   refine .cons (dG h0) (RowsAt.mono t fun q hq=>aZ fun z=>nd.1 (z ▸ hq))
  |succ j=>
   simp at hr
   rw[List.set_cons_succ]
   refine .cons ?_ (ih nd.2 hr)
   show(ω.set r (.ml (iv xs)))[r0]?=_
   rw[aZ (show r0≠r from fun z=>nd.1 (by rw[z];exact List.mem_of_getElem? hr))]
   exact h0
def Keep (fp:List Nat) (ω ω':Om):Prop:=ω.length<=ω'.length/\∀ n,n<ω.length->n∉fp->ω'[n]?=ω[n]?
theorem Keep.refl (fp:List Nat) (ω:Om):Keep fp ω ω:=⟨Nat.le_refl _,fun _ _ _=>rfl⟩
theorem Keep.trans {fp:List Nat}{ω ω1 ω2:Om} (a:Keep fp ω ω1) (b:Keep fp ω1 ω2):Keep fp ω ω2:=⟨Nat.le_trans a.1 b.1,fun n h1 h2=>(b.2 n (Nat.lt_of_lt_of_le h1 a.1) h2).trans (a.2 n h1 h2)⟩
theorem Keep.set {fp:List Nat}{ω:Om}{n:Nat}{ob:Ob} (h:n∈fp):Keep fp ω (ω.set n ob):=⟨by simp,fun m _ hm=>aZ fun z=>hm (z ▸ h)⟩
def Hd.bump (hd:Hd) (i:Nat):Hd:={ hd with knows:=hd.knows.set i ((hd.seen i).set i ((hd.seen i).getD i 0+1)) }
theorem uC {i:Nat} (H:HandAt ω h i hd k t e rs) (hi:i<hd.knows.length) (hs:i<(hd.seen i).length):∃ ω',dJ [.obj h] ω=some (.ok (.tup [.int i,.int ((hd.seen i).getD i 0+1)]),ω')/\HandAt ω' h i (hd.bump i) k t e rs/\Keep rs ω ω'/\ω'.length=ω.length:=by
 obtain⟨r,hr,er⟩:=H.seenRow hi
 have hm:r∈rs:=List.mem_of_getElem? hr
 have nd:=H.nd
 simp only[List.nodup_cons,List.mem_cons,not_or] at nd
 obtain⟨⟨h1,h2,h3,h4⟩,⟨h5,h6,h7⟩,⟨h8,h9⟩,h10,h11⟩:=nd
 have ne:∀ {n:Nat},n∉rs->n≠r:=fun hn z=>hn (z ▸ hm)
 refine⟨ω.set r (.ml (iv ((hd.seen i).set i ((hd.seen i).getD i 0+1)))),?_,⟨?_,?_,H.rows.set h11 hr,?_,?_,H.nd⟩,Keep.set hm,by simp⟩
 ·have ix:cA ω (.obj r) (.int i)=some (.int ((hd.seen i).getD i 0)):=by
   have:=RowV.ix (ω:=ω) (d:=.obj r) (xs:=hd.seen i) (by unfold RowV eN;simp only[er]) (a:=i) (Int.natCast_nonneg i) (by simpa using hs)
   simpa using this
  refine bC rfl ?_
  unfold iC
  rw[aV (cI (aD rfl) H.obj rfl (nV H hr))]
  have e2:(ω.set r (.ml (iv ((hd.seen i).set i ((hd.seen i).getD i 0+1)))))[h]?=ω[h]?:=aZ (ne h4)
  rw[bY (qN (jE (bD (aD (d:=.obj r) rfl) (H.number (aD rfl)) ix) bF rfl) (aD (d:=.obj r) rfl) (H.number (aD rfl)) (yN er (by unfold iv;simpa using hs)))]
  have e3:(iv (hd.seen i)).set i (.int ((hd.seen i).getD i 0+1))=iv ((hd.seen i).set i ((hd.seen i).getD i 0+1)):=by
   unfold iv
   rw[List.map_set]
  rw[e3]
  have H2:iM 0 "number" (oP (aF 0)) [some (.obj h),some (.obj r)] (ω.set r (.ml (iv ((hd.seen i).set i ((hd.seen i).getD i 0+1)))))=some (.ok (.int i),ω.set r (.ml (iv ((hd.seen i).set i ((hd.seen i).getD i 0+1))))):=iD (aD rfl) (e2.trans H.obj) rfl
  have er2:=dG (ob:=.ml (iv ((hd.seen i).set i ((hd.seen i).getD i 0+1)))) er
  refine bM (fD (aC H2 (aC (bD (d:=.int ((hd.seen i).getD i 0+1)) (aD (d:=.obj r) rfl) H2 ?_) aJ)) rfl)
  have:=RowV.ix (ω:=ω.set r (.ml (iv ((hd.seen i).set i ((hd.seen i).getD i 0+1))))) (d:=.obj r) (xs:=(hd.seen i).set i ((hd.seen i).getD i 0+1)) (by unfold RowV eN;simp only[er2]) (a:=i) (Int.natCast_nonneg i) (by simpa using hs)
  rw[this]
  simp[hs]
 ·rw[aZ (ne h4)];exact H.obj
 ·rw[aZ (ne h7)];exact H.kn
 ·rw[aZ (ne h9)];exact H.tb
 ·rw[aZ (ne h10)];exact H.kp
end
end L2.MB.Lw
end
section
namespace L2.MB.Lw
open PySem PySem.Spec PyProof.Rows L2.MB
section
variable {ω:Om}{h k t e:Nat}{i:Nat}{hd:Hd}{rs:List Nat}{ρ:Rho}{f:OG D}
theorem HandAt.ne (H:HandAt ω h i hd k t e rs):(h≠k/\h≠t/\h≠e/\h∉rs)/\(k≠t/\k≠e/\k∉rs)/\(t≠e/\t∉rs)/\e∉rs/\rs.Nodup:=by
 have nd:=H.nd
 simp only[List.nodup_cons,List.mem_cons,not_or] at nd
 obtain⟨⟨h1,h2,h3,h4⟩,⟨h5,h6,h7⟩,⟨h8,h9⟩,h10,h11⟩:=nd
 exact⟨⟨h1,h2,h3,h4⟩,⟨h5,h6,h7⟩,⟨h8,h9⟩,h10,h11⟩
theorem HandAt.setT (H:HandAt ω h i hd k t e rs) (T:List (List Key×D)):HandAt (ω.set t (.dt T)) h i { hd with table:=T } k t e rs:=by
 obtain⟨⟨h1,h2,h3,h4⟩,⟨h5,h6,h7⟩,⟨h8,h9⟩,h10,h11⟩:=H.ne
 refine⟨?_,?_,H.rows.mono fun r hr=>aZ fun z=>h9 (z ▸ hr),dG H.tb,?_,H.nd⟩
 ·rw[aZ h2];exact H.obj
 ·rw[aZ h5];exact H.kn
 ·rw[aZ (Ne.symm h8)];exact H.kp
theorem HandAt.setE (H:HandAt ω h i hd k t e rs) (T:List (List Key×D)):HandAt (ω.set e (.dt T)) h i { hd with kept:=T } k t e rs:=by
 obtain⟨⟨h1,h2,h3,h4⟩,⟨h5,h6,h7⟩,⟨h8,h9⟩,h10,h11⟩:=H.ne
 refine⟨?_,?_,H.rows.mono fun r hr=>aZ fun z=>h10 (z ▸ hr),?_,dG H.kp,H.nd⟩
 ·rw[aZ h3];exact H.obj
 ·rw[aZ h6];exact H.kn
 ·rw[aZ h8];exact H.tb
theorem HandAt.lt (H:HandAt ω h i hd k t e rs):∀ n∈h::k::t::e::rs,n<ω.length:=by
 intro n hn
 have lt:∀ {m:Nat}{o:Ob},ω[m]?=some o->m<ω.length:=fun q=>(List.getElem?_eq_some_iff.mp q).1
 rcases List.mem_cons.mp hn with rfl|hn
 ·exact lt H.obj
 rcases List.mem_cons.mp hn with rfl|hn
 ·exact lt H.kn
 rcases List.mem_cons.mp hn with rfl|hn
 ·exact lt H.tb
 rcases List.mem_cons.mp hn with rfl|hn
 ·exact lt H.kp
 ·have:∀ {rs:List Nat}{kn:List (List Int)},RowsAt ω rs kn->∀ n∈rs,n<ω.length:=by
   intro rs kn hR
   induction hR with
   |nil=>intro n hn;simp at hn
   |cons hr _ ih=>
    intro n hn
    rcases List.mem_cons.mp hn with rfl|hn
    ·exact lt hr
    ·exact ih n hn
  exact this H.rows n hn
def vX (i:Nat) (b:Int):List Key:=[.inl (i:Int),.inl b]
def mkD (i:Nat) (b:Int):D:=.tup [.int i,.int b]
def Hd.next (hd:Hd) (i:Nat):Int:=(hd.seen i).getD i 0+1
def Hd.put (hd:Hd) (i:Nat) (x:Str) (v:Int):Hd:={ hd.bump i with table:=nW hd.table (vX i (hd.next i)) (.tup [.str x,mkD i (hd.next i),.int v]) }
theorem zL {ω:Om}{n:Nat}{kvs:List (List Key×D)}{y v:D}{ks:List Key} (e:ω[n]?=some (.dt kvs)) (hk:Fp y=some ks) (hl:kvs.length<sizeLine):zH ω (.obj n) y v=some (ω.set n (.dt (nW kvs ks v))):=by
 simp only[zH,e,hk]
 show(if kvs.length<sizeLine then _ else none)=_
 rw[if_pos hl]
theorem MI (H:HandAt ω h i hd k t e rs) (hi:i<hd.knows.length) (hs:i<(hd.seen i).length) (hl:hd.table.length<sizeLine) (x:Str) (v:Int):
  ∃ ω',fC [.obj h,.str x,.int v] ω=some (.ok (mkD i (hd.next i)),ω')/\HandAt ω' h i (hd.put i x v) k t e rs/\Keep (t::rs) ω ω'/\ω'.length=ω.length:=by
 obtain⟨ω1,e1,H1,K1,L1⟩:=uC H hi hs
 have hb:(hd.bump i).table=hd.table:=rfl
 refine⟨ω1.set t (.dt (nW hd.table (vX i (hd.next i)) (.tup [.str x,mkD i (hd.next i),.int v]))),?_,?_,⟨by simp[L1],fun n hn hm=> ?_⟩,by simp[L1]⟩
 ·refine bC rfl ?_
  unfold qT
  rw[aV (cI (aD rfl) H.obj rfl e1)]
  rw[bY (qN (fD (aC (aD (d:=.str x) rfl) (aC (aD (d:=mkD i (hd.next i)) rfl) (aC (aD (d:=.int v) rfl) aJ))) rfl) (H1.table (aD rfl)) (aD (d:=mkD i (hd.next i)) rfl) (zL (ks:=vX i (hd.next i)) H1.tb rfl hl))]
  exact bM (aD rfl)
 ·exact H1.setT _
 ·rw[aZ (fun z=>hm (by rw[z];simp))]
  exact K1.2 n hn fun z=>hm (List.mem_cons_of_mem _ z)
def common:List (List Int)->List Int
 |[]=>[]
 |r::rest=>rest.foldl (List.zipWith mn) r
theorem GT {ω:Om}{k:Nat}{rs:List Nat}{kn:List (List Int)} (hk:ω[k]?=some (.ml (rs.map D.obj))) (hr:RowsAt ω rs kn) (hne:kn≠[]) (hl:∀ xs∈kn,xs.length<=sizeLine):sW [.obj k] ω=some (.ok (.lst (iv (common kn))),ω):=by
 cases hr with
 |nil=>exact absurd rfl hne
 |@cons r0 x0 rs kn h0 ht=>
  refine bC rfl ?_
  unfold zF
  have e0:cA ω (.obj k) (.int 0)=some (.obj r0):=by
   rw[lL hk]
   unfold atI ixN
   simp
  rw[aV (d:=.lst (iv x0)) (fD (aC (bD (aD (d:=.obj k) rfl) bF e0) aJ) (by
   show(dO ω (.obj r0)).map _=_
   have:dO ω (.obj r0)=some (iv x0):=by simp only[dO,eN,h0]
   rw[this]
   rfl))]
  have e1:oSl (oP (aF 0)) (dSo (dC (.int 1))) dNo ((cP qJ [.obj k]).set 1 (some (.lst (iv x0)))) ω=some (.ok (.lst (rs.map D.obj)),ω):=by
   unfold oSl
   rw[bO (aD (d:=.obj k) rfl)]
   show oR (pu (NN ω (.obj k) (some 1) none) ω)=_
   have:NN ω (.obj k) (some 1) none=some (.lst (EU ((r0::rs).map D.obj) (some 1) none)):=by simp only[NN,eN,hk]
   rw[this]
   have c1:EU ((r0::rs).map D.obj) (some 1) none=rs.map D.obj:=by
    simp only[EU,HT.sIx]
    simp[List.take_of_length_le]
   rw[c1]
   rfl
  have hloop:∃ ρ' ω',dU (bN 2) dH gZ (rs.map D.obj) ((cP qJ [.obj k]).set 1 (some (.lst (iv x0)))) ω=some (.nx ρ',ω')/\(ω'=ω/\∃ v,ρ'=[some (.obj k),some (.lst (iv (kn.foldl (List.zipWith mn) x0))),v]):=by
   have gen:∀ {rs:List Nat}{kn:List (List Int)},RowsAt ω rs kn->(∀ xs∈kn,xs.length<=sizeLine)->∀(x0:List Int) (v:Option D),x0.length<=sizeLine->∃ ρ' ω',dU (bN 2) dH gZ (rs.map D.obj) [some (.obj k),some (.lst (iv x0)),v] ω=some (.nx ρ',ω')/\(ω'=ω/\∃ v,ρ'=[some (.obj k),some (.lst (iv (kn.foldl (List.zipWith mn) x0))),v]):=by
    intro rs kn hR
    induction hR with
    |nil=>intro _ x0 v _;exact⟨_,_,rfl,rfl,_,rfl⟩
    |@cons r1 x1 rs kn h1 _ ih=>
     intro hl x0 v hx
     obtain⟨ρ',ω',g1,g2,g3⟩:=ih (fun xs hxs=>hl xs (List.mem_cons_of_mem _ hxs)) (List.zipWith mn x0 x1) (some (.obj r1)) (by rw[List.length_zipWith];omega)
     refine⟨ρ',ω',?_,g2,g3⟩
     rw[<- g1]
     have step:gZ [some (.obj k),some (.lst (iv x0)),some (.obj r1)] ω=some (.nx [some (.obj k),some (.lst (iv (List.zipWith mn x0 x1))),some (.obj r1)],ω):=by
      obtain⟨chk,z1,z2⟩:=Fd (f:=oP (aF 1)) (h:=oP (aF 2)) (ρ:=[some (.obj k),some (.lst (iv x0)),some (.obj r1)]) (ω:=ω) (a:=.lst (iv x0)) (b:=.obj r1) (xs:=x0) (ys:=x1) (aD rfl) (aD rfl) rfl (by unfold RowV eN;simp only[h1])
      unfold gZ bG
      rw[dD (gW (ω2:=ω) (out:=iv (List.zipWith mn x0 x1)) z1 (BP hx) (by
       rw[<- yI (G:=D2 mn) (fun _ _=>rfl)]
       refine kG (fun ρ=>ρ.length=2) z2 rfl fun d hd ρ hρ=> ?_
       obtain⟨x,y,rfl⟩:=BO hd
       match ρ,hρ with
       |[u,v],_=>exact⟨_,rfl,rfl,rfl⟩))]
      rfl
     exact iT rfl rfl step
   exact gen ht (fun xs hxs=>hl xs (List.mem_cons_of_mem _ hxs)) x0 none (hl x0 List.mem_cons_self)
  obtain⟨ρ',ω',g1,rfl,v,rfl⟩:=hloop
  rw[bY (mZ (by
   unfold dS oIL
   rw[dD (bO e1)]
   exact g1))]
  exact bM (aD rfl)
end
end L2.MB.Lw
end
section
namespace L2.MB.Lw
open PySem PySem.Spec PyProof.Rows L2.MB
theorem yQ {n:Nat}{N:List Str}{G:OS}{ds:List D}{ω ω1:Om}{ρ1:Rho} (hl:ds.length=n) (e:G (cP N ds) ω=some (.nx ρ1,ω1)):fV n N G ds ω=some (.ok .non,ω1):=by
 unfold fV
 rw[if_pos hl,e]
theorem tV:∀ kvs:List (List Key×D),wY kvs kvs=true
 |[]=>rfl
 |a::r=>by simp[wY,wZ,tV r]
theorem Cq {ω:Om}{n:Nat}{kvs:List (List Key×D)} (h:ω[n]?=some (.dz kvs)):AX n kvs ω=true:=by
 unfold AX
 rw[h]
 exact tV kvs
def PQ (c:Nat) (k:List Key):Prop:=∃ a b:Int,k=[.inl a,.inl b]/\0<=a/\a<c
def sG (xs:List Int):List Key->Bool
 |[.inl a,.inl b]=>decide (b<=xs.getD a.toNat 0)
 |_=>false
theorem Fg {kvs:List (List Key×D)} (nd:(kvs.map (·.1)).Nodup) {kv:List Key×D} (h:kv∈kvs):lZ kvs kv.1=some kv.2:=by
 induction kvs with
 |nil=>simp at h
 |cons p r ih=>
  rw[List.map_cons,List.nodup_cons] at nd
  unfold lZ
  rcases List.mem_cons.mp h with rfl|h
  ·simp[List.find?_cons]
  ·have hne:p.1≠kv.1:=fun z=>nd.1 (z ▸ List.mem_map.mpr ⟨kv,h,rfl⟩)
   rw[List.find?_cons_of_neg (by simpa using hne)]
   exact ih nd.2 h
theorem HM {kvs:List (List Key×D)}{k:List Key}{v:D} (h:k∉kvs.map (·.1)):nW kvs k v=kvs++[(k,v)]:=by
 unfold nW
 rw[if_neg]
 simp only[List.any_eq_true,decide_eq_true_eq,not_exists,not_and]
 intro x hx z
 exact h (List.mem_map.mpr ⟨x,hx,z⟩)
section
variable {ω:Om}{h k t e:Nat}{i:Nat}{hd:Hd}{rs:List Nat}{ρ:Rho}{f:OG D}
def Hd.forget (hd:Hd):Hd:={ hd with kept:=hd.kept.filter fun kv=> !sG (common hd.knows) kv.1 }
structure Hd.Ok (c:Nat) (hd:Hd):Prop where
 len:hd.knows.length=c
 row:∀ xs∈hd.knows,xs.length=c
 small:c<=8
 pos:0<c
 kk:∀ kv∈hd.kept,PQ c kv.1
 kn:(hd.kept.map (·.1)).Nodup
 kl:hd.kept.length<64
 tk:∀ kv∈hd.table,∃ a b:Int,0<=a/\a<c/\kv.1=[.inl a,.inl b]/\∃ x v,kv.2=.tup [.str x,.tup [.int a,.int b],.int v]
 tn:(hd.table.map (·.1)).Nodup
 tl:hd.table.length<64
theorem EV {c:Nat}:∀ {kn:List (List Int)},kn≠[]->(∀ xs∈kn,xs.length=c)->(common kn).length=c
 |[],hne,_=>absurd rfl hne
 |r::rest,_,h=>by
  have gen:∀(rest:List (List Int)) (r:List Int),r.length=c->(∀ xs∈rest,xs.length=c)->(rest.foldl (List.zipWith mn) r).length=c:=by
   intro rest
   induction rest with
   |nil=>intro r hr _;exact hr
   |cons x rest ih=>
    intro r hr hx
    refine ih _ ?_ fun xs hxs=>hx xs (List.mem_cons_of_mem _ hxs)
    rw[List.length_zipWith,hr,hx x List.mem_cons_self,Nat.min_self]
  exact gen rest r (h r List.mem_cons_self) fun xs hxs=>h xs (List.mem_cons_of_mem _ hxs)
theorem Bg {c:Nat} (H:HandAt ω h i hd k t e rs) (W:hd.Ok c):∃ ω',gF [.obj h] ω=some (.ok .non,ω')/\HandAt ω' h i hd.forget k t ω.length rs/\Keep [h] ω ω':=by
 have hne:hd.knows≠[]:=fun z=>by have:=W.len;rw[z] at this;have:=W.pos;simp at*;omega
 have hcl:=EV hne W.row
 obtain⟨⟨h1,h2,h3,h4⟩,⟨h5,h6,h7⟩,⟨h8,h9⟩,h10,h11⟩:=H.ne
 have ltn:∀ {n:Nat},n∈h::k::t::e::rs->n≠ω.length:=fun hn z=>absurd (H.lt _ hn) (by rw[z];exact Nat.lt_irrefl _)
 have e1:bS sW (aE (iM 0 "knows" (oP (aF 0))) aU) (cP fA [.obj h]) ω=some (.ok (.lst (iv (common hd.knows))),ω):=bB (aC (H.knows (aD rfl)) aJ) (GT H.kn H.rows hne fun xs hx=>by rw[W.row xs hx,sizeLine_eq];have:=W.small;omega)
 -- the loop
 have loop:∀(post pre:List (List Key×D)) (v:Option D) (ω1:Om),hd.kept=pre++post->ω1[ω.length]?=some (.dt (pre.filter fun kv=> !sG (common hd.knows) kv.1))->ω1[e]?=some (.dz hd.kept)->(∀ n,n<ω.length->n≠e->ω1[n]?=ω[n]?)->ω1.length=ω.length+1->
   ∃ ρ' ω',dU (bN 3) (AX e hd.kept) aY (post.map fun kv=>cR kv.1) [some (.obj h),some (.lst (iv (common hd.knows))),some (.obj ω.length),v] ω1=some (.nx ρ',ω')/\(∃ v,ρ'=[some (.obj h),some (.lst (iv (common hd.knows))),some (.obj ω.length),v])/\
    ω'[ω.length]?=some (.dt (hd.kept.filter fun kv=> !sG (common hd.knows) kv.1))/\ω'[e]?=some (.dz hd.kept)/\(∀ n,n<ω.length->n≠e->ω'[n]?=ω[n]?)/\ω'.length=ω.length+1:=by
  intro post
  induction post with
  |nil=>
   intro pre v ω1 hp g1 g2 g3 g4
   rw[List.append_nil] at hp
   refine⟨_,ω1,by show(if AX e hd.kept ω1=true then _ else none)=_;rw[if_pos (Cq g2)],⟨v,rfl⟩,by rw[hp];exact g1,g2,g3,g4⟩
  |cons kv post ih=>
   intro pre v ω1 hp g1 g2 g3 g4
   have hm:kv∈hd.kept:=by rw[hp];simp
   obtain⟨a,b,hk,ha0,ha1⟩:=W.kk kv hm
   have hdk:cR kv.1=.tup [.int a,.int b]:=by rw[hk];rfl
   have hseen:gM [.lst (iv (common hd.knows)),.tup [.int a,.int b]] ω1=some (.ok (.bl (sG (common hd.knows) kv.1)),ω1):=by
    rw[hk]
    exact uK (ω:=ω1) (d:=.lst (iv (common hd.knows))) (xs:=common hd.knows) (show eN ω1 (.lst (iv (common hd.knows)))=_ from rfl) ha0 (by rw[hcl];exact ha1)
   have hobj:ω1[h]?=some (.ins 0 [("number",.int i),("knows",.obj k),("table",.obj t),("kept",.obj e)]):=by rw[g3 h (H.lt h (by simp)) h3];exact H.obj
   have hp':hd.kept=(pre++[kv])++post:=by rw[List.append_assoc];exact hp
   have first:∀ ω2,aY [some (.obj h),some (.lst (iv (common hd.knows))),some (.obj ω.length),some (.tup [.int a,.int b])] ω1=some (.nx [some (.obj h),some (.lst (iv (common hd.knows))),some (.obj ω.length),some (.tup [.int a,.int b])],ω2)->
     dU (bN 3) (AX e hd.kept) aY ((kv::post).map fun kv=>cR kv.1) [some (.obj h),some (.lst (iv (common hd.knows))),some (.obj ω.length),v] ω1=dU (bN 3) (AX e hd.kept) aY (post.map fun kv=>cR kv.1) [some (.obj h),some (.lst (iv (common hd.knows))),some (.obj ω.length),some (.tup [.int a,.int b])] ω2:=fun ω2 q=>by
    rw[List.map_cons,hdk]
    show(if AX e hd.kept ω1=true then(match aY [some (.obj h),some (.lst (iv (common hd.knows))),some (.obj ω.length),some (.tup [.int a,.int b])] ω1 with
     |none=>none
     |some (.nx ρ2,ω2)=>dU (bN 3) (AX e hd.kept) aY (post.map fun kv=>cR kv.1) ρ2 ω2
     |some (.ct ρ2,ω2)=>dU (bN 3) (AX e hd.kept) aY (post.map fun kv=>cR kv.1) ρ2 ω2
     |some (.bk ρ2,ω2)=>some (.nx ρ2,ω2)
     |some (.rt d,ω2)=>some (.rt d,ω2)
     |some (.ex _,_)=>none) else none)=_
    rw[if_pos (Cq g2),q]
   have tst:nG (kZ (bS gM (aE (oP (aF 1)) (aE (oP (aF 3)) aU)))) [some (.obj h),some (.lst (iv (common hd.knows))),some (.obj ω.length),some (.tup [.int a,.int b])] ω1=some (.ok (!sG (common hd.knows) kv.1),ω1):=by
    unfold nG kZ
    rw[bO (bO (bB (aC (aD rfl) (aC (aD rfl) aJ)) hseen))]
   cases hs:sG (common hd.knows) kv.1 with
   |true=>
    have b1:aY [some (.obj h),some (.lst (iv (common hd.knows))),some (.obj ω.length),some (.tup [.int a,.int b])] ω1=some (.nx [some (.obj h),some (.lst (iv (common hd.knows))),some (.obj ω.length),some (.tup [.int a,.int b])],ω1):=by
     unfold aY
     rw[hs] at tst
     rw[tX tst]
     rfl
    rw[first ω1 b1]
    refine ih (pre++[kv]) _ ω1 hp' ?_ g2 g3 g4
    rw[List.filter_append,List.filter_cons_of_neg (by rw[hs];decide),List.filter_nil,List.append_nil]
    exact g1
   |false=>
    have nin:kv.1∉(pre.filter fun kv=> !sG (common hd.knows) kv.1).map (·.1):=fun z=>by
     obtain⟨q,q1,q2⟩:=List.mem_map.mp z
     have nd:=W.kn
     rw[hp,List.map_append,List.nodup_append] at nd
     exact nd.2.2 _ (List.mem_map.mpr ⟨q,(List.mem_filter.mp q1).1,rfl⟩) _ (List.mem_map.mpr ⟨kv,List.mem_cons_self,rfl⟩) q2
    have fl:(pre.filter fun kv=> !sG (common hd.knows) kv.1).length<sizeLine:=by
     have h1:=List.length_filter_le (fun kv:List Key×D=> !sG (common hd.knows) kv.1) pre
     have h2:=W.kl
     rw[hp,List.length_append] at h2
     rw[sizeLine_eq]
     omega
    have dg:wJ ω1 (.obj e) (.tup [.int a,.int b])=some kv.2:=by
     have:lZ hd.kept [.inl a,.inl b]=some kv.2:=by rw[<- hk];exact Fg W.kn hm
     simp only[wJ,IR,cellOf,g2]
     show(((some [.inl a,.inl b]:Option (List Key)).map fun k=>lZ hd.kept k)).join=_
     show(some (lZ hd.kept [.inl a,.inl b])).join=_
     rw[this]
     rfl
    have b1:aY [some (.obj h),some (.lst (iv (common hd.knows))),some (.obj ω.length),some (.tup [.int a,.int b])] ω1=some (.nx [some (.obj h),some (.lst (iv (common hd.knows))),some (.obj ω.length),some (.tup [.int a,.int b])],ω1.set ω.length (.dt ((pre.filter fun kv=> !sG (common hd.knows) kv.1)++[kv]))):=by
     unfold aY
     rw[hs] at tst
     rw[wD tst]
     refine qN (v:=kv.2) (ω1:=ω1) (ω2:=ω1) (ω3:=ω1) (o:=.obj ω.length) (i:=.tup [.int a,.int b]) (lG (iD (aD rfl) hobj rfl) (aD rfl) ?_) (aD rfl) (aD rfl) ?_
     ·show pu (wJ ω1 (.obj e) (.tup [.int a,.int b])) ω1=_
      rw[dg]
      rfl
     ·rw[zL (ks:=kv.1) g1 (by rw[hk];rfl) fl,HM nin]
    rw[first _ b1]
    refine ih (pre++[kv]) _ _ hp' ?_ ?_ (fun n hn hne=> ?_) (by simp[g4])
    ·rw[dG g1,List.filter_append,List.filter_cons_of_pos (by rw[hs];decide),List.filter_nil]
    ·rw[aZ (ltn (by simp))];exact g2
    ·rw[aZ (by omega)];exact g3 n hn hne
 have ge:(ω++[Ob.dt []])[e]?=some (.dt hd.kept):=by rw[List.getElem?_append_left (H.lt e (by simp))];exact H.kp
 obtain⟨ρ',ω2,l1,⟨v,rfl⟩,l3,l4,l5,l6⟩:=loop hd.kept [] none ((ω++[Ob.dt []]).set e (.dz hd.kept)) rfl (by rw[aZ (Ne.symm (ltn (by simp)))];simp) (dG ge) (fun n hn hne=>by rw[aZ hne,List.getElem?_append_left hn]) (by simp)
 have l3':(ω2.set e (.dt hd.kept))[ω.length]?=some (.dt (hd.kept.filter fun kv=> !sG (common hd.knows) kv.1)):=by rw[aZ (Ne.symm (ltn (by simp)))];exact l3
 have ho:(ω2.set e (.dt hd.kept))[h]?=some (.ins 0 [("number",.int i),("knows",.obj k),("table",.obj t),("kept",.obj e)]):=by rw[aZ h3,l5 h (H.lt h (by simp)) h3];exact H.obj
 refine⟨(ω2.set e (.dt hd.kept)).set h (.ins 0 [("number",.int i),("knows",.obj k),("table",.obj t),("kept",.obj ω.length)]),?_,⟨dG ho,?_,?_,?_,?_,?_⟩,⟨by simp[l6],fun n hn hm=> ?_⟩⟩
 ·have body:gH (cP fA [.obj h]) ω=some (.nx [some (.obj h),some (.lst (iv (common hd.knows))),some (.obj ω.length),v],(ω2.set e (.dt hd.kept)).set h (.ins 0 [("number",.int i),("knows",.obj k),("table",.obj t),("kept",.obj ω.length)])):=by
   unfold gH
   rw[aV e1]
   rw[aV (d:=.obj ω.length) (ω1:=ω++[.dt []]) rfl]
   have ho1:(ω++[Ob.dt []])[h]?=some (.ins 0 [("number",.int i),("knows",.obj k),("table",.obj t),("kept",.obj e)]):=by rw[List.getElem?_append_left (H.lt h (by simp))];exact H.obj
   rw[bY (mZ (by
    unfold Kk
    rw[dD (iD (aD (d:=.obj h) rfl) ho1 rfl)]
    have:CA (ω++[Ob.dt []]) (.obj e)=some (e,hd.kept):=by simp only[CA,ge]
    show(CA (ω++[Ob.dt []]) (.obj e)).bind _=_
    rw[this]
    show(match dU (bN 3) (AX e hd.kept) aY (hd.kept.map fun kv=>cR kv.1) [some (.obj h),some (.lst (iv (common hd.knows))),some (.obj ω.length),none] ((ω++[Ob.dt []]).set e (.dz hd.kept)) with
     |some (.nx ρ',ω')=>if AX e hd.kept ω'=true then some (OOut.nx ρ',ω'.set e (.dt hd.kept)) else none
     |_=>none)=_
    rw[l1]
    show(if AX e hd.kept ω2=true then _ else none)=_
    rw[if_pos (Cq l4)]))]
   unfold sH
   rw[dD (aD (d:=.obj ω.length) rfl),dD (aD (d:=.obj h) rfl)]
   have:zG 0 "kept" (ω2.set e (.dt hd.kept)) (.obj h) (.obj ω.length)=some ((ω2.set e (.dt hd.kept)).set h (.ins 0 [("number",.int i),("knows",.obj k),("table",.obj t),("kept",.obj ω.length)])):=by
    simp only[zG,ho]
    rfl
   show(zG 0 "kept" (ω2.set e (.dt hd.kept)) (.obj h) (.obj ω.length)).map _=_
   rw[this]
   rfl
  exact yQ rfl body
 ·rw[aZ (Ne.symm h1),aZ h6,l5 k (H.lt k (by simp)) h6];exact H.kn
 ·refine H.rows.mono fun r hr=> ?_
  rw[aZ (show r≠h from fun z=>h4 (z ▸ hr)),aZ (show r≠e from fun z=>h10 (z ▸ hr)),l5 r (H.lt r (by simp[hr])) (fun z=>h10 (z ▸ hr))]
 ·rw[aZ (Ne.symm h2),aZ h8,l5 t (H.lt t (by simp)) h8];exact H.tb
 ·rw[aZ (Ne.symm (ltn (by simp)))];exact l3'
 ·have nn:∀ n∈h::k::t::rs,n≠ω.length:=fun n hn=>ltn (by
   simp only[List.mem_cons] at hn ⊢
   rcases hn with z|z|z|z
   ·exact .inl z
   ·exact .inr (.inl z)
   ·exact .inr (.inr (.inl z))
   ·exact .inr (.inr (.inr (.inr z))))
  simp only[List.nodup_cons,List.mem_cons,not_or]
  exact⟨⟨h1,h2,nn h (by simp),h4⟩,⟨h5,nn k (by simp),h7⟩,⟨nn t (by simp),h9⟩,fun z=>nn _ (by simp[z]) rfl,h11⟩
 ·rw[aZ (fun z=>hm (by rw[z];simp))]
  by_cases he:n=e
  ·subst he
   rw[dG l4]
   exact H.kp.symm
  ·rw[aZ he]
   exact l5 n hn he
end
end L2.MB.Lw
end
section
namespace L2.MB.Lw
open PySem PySem.Spec PyProof.Rows L2.MB
theorem mC {ω:Om}{n:Nat}{ob:Ob} (h:ω[n]?=some ob):ω.set n ob=ω:=by
 apply List.ext_getElem?
 intro m
 by_cases hm:m=n
 ·subst hm
  rw[dG h,h]
 ·rw[aZ hm]
theorem Mo (k:Key):toK (ofK k)=some k:=by cases k <;> rfl
theorem Fq:∀ ks:List Key,Mn (ks.map ofK)=some ks
 |[]=>rfl
 |k::r=>by
  show(toK (ofK k)).bind _=_
  rw[Mo]
  show(Mn (r.map ofK)).map _=_
  rw[Fq r]
  rfl
theorem Dg (k:List Key):Fp (cR k)=some k:=Fq k
theorem NZ {a b:D} (ha:qZ a) (hb:qZ b):∃ c,zA 4 a b=some c:=by
 obtain⟨x,p,q,v,rfl⟩:=ha
 obtain⟨x',p',q',v',rfl⟩:=hb
 show ∃ c,(match eqD 4 (.str x) (.str x') with
  |some true=>(match eqD 4 (.tup [.int p,.int q]) (.tup [.int p',.int q']) with
   |some true=>(match eqD 4 (.int v) (.int v') with
    |some true=>some _
    |some false=>nH (.int v) (.int v')
    |none=>none)
   |some false=>nH (.tup [.int p,.int q]) (.tup [.int p',.int q'])
   |none=>none)
  |some false=>nH (.str x) (.str x')
  |none=>none)=some c
 rw[oG]
 cases decide (x=x') with
 |false=>exact⟨_,rfl⟩
 |true=>
  have e2:∃ c,eqD 4 (.tup [.int p,.int q]) (.tup [.int p',.int q'])=some c:=⟨_,rfl⟩
  obtain⟨c,e2⟩:=e2
  rw[e2]
  cases c with
  |false=>exact⟨_,rfl⟩
  |true=>
   show ∃ c,(match eqD 4 (.int v) (.int v') with
    |some true=>some _
    |some false=>nH (.int v) (.int v')
    |none=>none)=some c
   have e3:eqD 4 (.int v) (.int v')=some (decide (v=v')):=rfl
   rw[e3]
   cases decide (v=v') with
   |false=>exact⟨_,rfl⟩
   |true=>exact⟨_,rfl⟩
theorem Jb {d:D} (h:qZ d):oA d=some false:=by
 obtain⟨x,a,b,v,rfl⟩:=h
 rfl
section
variable {ω:Om}{h k t e:Nat}{i:Nat}{hd:Hd}{rs:List Nat}{ρ:Rho}{f:OG D}
theorem Hd.Ok.ent {c:Nat} (W:hd.Ok c):∀ d∈hd.table.map (·.2),qZ d:=fun d hd'=>by
 obtain⟨kv,h1,rfl⟩:=List.mem_map.mp hd'
 obtain⟨a,b,_,_,_,x,v,e⟩:=W.tk kv h1
 exact⟨x,a,b,v,e⟩
theorem Hd.Ok.sorts {c:Nat} (W:hd.Ok c):∃ out,hd.entries=some out/\out.Perm (hd.table.map (·.2)):=by
 refine Dk (by rw[List.length_map];exact W.tl) ?_ fun a ha b hb=>NZ (W.ent a ha) (W.ent b hb)
 unfold nY
 rw[Bool.or_eq_true]
 right
 rw[List.all_eq_true]
 intro d hd'
 rw[Jb (W.ent d hd')]
 rfl
def Hd.takeOut0 (hd:Hd) (mk:List Key) (ks:List (List Key)):Hd:={ hd with table:=ks.foldl iG hd.table,kept:=if ks=[] then hd.kept else nW hd.kept mk (.tup (ks.map cR)) }
def Hd.takeOut (hd:Hd) (mk:List Key) (ks:List (List Key)):Hd:=(hd.takeOut0 mk ks).forget
theorem DC {g:Om->D->List D->Option (D×Om)}{fo:OG D}{fl:OG (List D)}{ρ:Rho}{ω ω1 ω2 ω3:Om}{n:Nat}{kvs:List (List Key×D)}{ds:List D}{r:D} (e1:fo ρ ω=some (.ok (.obj n),ω1)) (e2:ω1[n]?=some (.dt kvs)) (e3:fl ρ ω1=some (.ok ds,ω2)) (e4:g ω2 (.obj n) ds=some (r,ω3)):uB g fo fl ρ ω=some (.ok r,ω3):=by
 unfold uB
 rw[bO e1]
 have:EH ω1 (.obj n)=true:=by simp only[EH,cellOf,e2]
 show(if EH ω1 (.obj n)=true then _ else none)=_
 rw[if_pos this,bO e3]
 show oR (g ω2 (.obj n) ds)=_
 rw[e4]
 rfl
theorem EQ {kvs:List (List Key×D)}{q k:List Key} (h:q∈kvs.map (·.1)) (hn:q≠k):q∈(iG kvs k).map (·.1):=by
 obtain⟨p,h1,rfl⟩:=List.mem_map.mp h
 exact List.mem_map.mpr ⟨p,List.mem_filter.mpr ⟨h1,by simpa using hn⟩,rfl⟩
theorem Kb {kvs:List (List Key×D)}{k:List Key} (h:k∈kvs.map (·.1)):∃ v,lZ kvs k=some v:=by
 obtain⟨p,h1,h2⟩:=List.mem_map.mp h
 unfold lZ
 cases q:kvs.find? fun kv=>decide (kv.1=k) with
 |some u=>exact⟨u.2,rfl⟩
 |none=>
  rw[List.find?_eq_none] at q
  exact absurd (by simpa using h2) (q p h1)
theorem FI {mk:D}{ms:D}:∀ {ks:List (List Key)}{T:List (List Key×D)}{v:Option D}{ω:Om},ω[h]?=some (.ins 0 [("number",.int i),("knows",.obj k),("table",.obj t),("kept",.obj e)])->ω[t]?=some (.dt T)->h≠t->ks.Nodup->(∀ q∈ks,q∈T.map (·.1))->
  ∃ ρ',dU (bN 3) dH cJ (ks.map cR) [some (.obj h),some mk,some ms,v] ω=some (.nx ρ',ω.set t (.dt (ks.foldl iG T)))/\∃ v,ρ'=[some (.obj h),some mk,some ms,v]
 |[],T,v,ω,_,ht,_,_,_=>⟨_,by
   show some (OOut.nx _,ω)=_
   congr 2
   exact(mC ht).symm,v,rfl⟩
 |q::ks,T,v,ω,ho,ht,hne,hk,hin=>by
  rw[List.nodup_cons] at hk
  obtain⟨u,hu⟩:=Kb (hin q List.mem_cons_self)
  have b1:cJ [some (.obj h),some mk,some ms,some (cR q)] ω=some (.nx [some (.obj h),some mk,some ms,some (cR q)],ω.set t (.dt (iG T q))):=by
   unfold cJ eS
   rw[dD (DC (r:=u) (ω3:=ω.set t (.dt (iG T q))) (iD (aD rfl) ho rfl) ht (aC (aD rfl) aJ) (by
    simp only[GI,ht]
    show(Fp (cR q)).bind _=_
    rw[Dg]
    show(lZ T q).map _=_
    rw[hu]
    rfl))]
  obtain⟨ρ',g1,v',g2⟩:=FI (mk:=mk) (ms:=ms) (ks:=ks) (T:=iG T q) (v:=some (cR q)) (ω:=ω.set t (.dt (iG T q))) (by rw[aZ hne];exact ho) (dG ht) hne hk.2 fun q' hq'=>EQ (hin q' (List.mem_cons_of_mem _ hq')) fun z=>hk.1 (z ▸ hq')
  refine⟨ρ',?_,v',g2⟩
  rw[List.set_set] at g1
  rw[List.map_cons]
  refine(iT rfl rfl (b1)).trans ?_
  exact g1
theorem BW {c:Nat}{mk:List Key}{ks:List (List Key)} (H:HandAt ω h i hd k t e rs) (hk:ks.Nodup) (hin:∀ q∈ks,q∈hd.table.map (·.1)) (hl:hd.kept.length<sizeLine) (W:(hd.takeOut0 mk ks).Ok c):
  ∃ ω' e',dI [.obj h,cR mk,.lst (ks.map cR)] ω=some (.ok .non,ω')/\HandAt ω' h i (hd.takeOut mk ks) k t e' rs/\Keep [h,t,e] ω ω'/\ω.length<=e':=by
 obtain⟨⟨h1,h2,h3,h4⟩,⟨h5,h6,h7⟩,⟨h8,h9⟩,h10,h11⟩:=H.ne
 obtain⟨ρ1,g1,v,rfl⟩:=FI (h:=h) (i:=i) (k:=k) (t:=t) (e:=e) (mk:=cR mk) (ms:=.lst (ks.map cR)) (ks:=ks) (T:=hd.table) (v:=none) (ω:=ω) H.obj H.tb h2 hk hin
 have H1:HandAt (ω.set t (.dt (ks.foldl iG hd.table))) h i { hd with table:=ks.foldl iG hd.table } k t e rs:=H.setT _
 have l1:sNx (dS (oIL (oP (aF 2))) (bN 3) cJ) (cP eY [.obj h,cR mk,.lst (ks.map cR)]) ω=some (.nx [some (.obj h),some (cR mk),some (.lst (ks.map cR)),v],ω.set t (.dt (ks.foldl iG hd.table))):=mZ (by
  unfold dS oIL
  rw[dD (bO (aD (d:=.lst (ks.map cR)) rfl))]
  exact g1)
 have mid:∃ ω2,fJ (kZ (oP (aF 2))) (tW zH (iM 0 "kept" (oP (aF 0))) (oP (aF 1)) (oL IJ (aE (oP (aF 2)) aU))) cB [some (.obj h),some (cR mk),some (.lst (ks.map cR)),v] (ω.set t (.dt (ks.foldl iG hd.table)))=some (.nx [some (.obj h),some (cR mk),some (.lst (ks.map cR)),v],ω2)/\HandAt ω2 h i (hd.takeOut0 mk ks) k t e rs/\Keep [t,e] ω ω2/\ω2.length=ω.length:=by
  cases hks:ks with
  |nil=>
   refine⟨ω.set t (.dt (([]:List (List Key)).foldl iG hd.table)),?_,?_,Keep.set (by simp),by simp⟩
   ·rw[tX (ω1:=ω.set t (.dt (([]:List (List Key)).foldl iG hd.table))) (by
     unfold kZ
     rw[bO (aD (d:=.lst []) rfl)]
     rfl)]
    rfl
   ·subst hks
    exact H1
  |cons q r=>
   have hks':ks≠[]:=by rw[hks];simp
   rw[<- hks]
   refine⟨(ω.set t (.dt (ks.foldl iG hd.table))).set e (.dt (nW hd.kept mk (.tup (ks.map cR)))),?_,?_,(Keep.set (by simp)).trans (Keep.set (by simp)),by simp⟩
   ·rw[wD (ω1:=ω.set t (.dt (ks.foldl iG hd.table))) (by
     unfold kZ
     rw[bO (aD (d:=.lst (ks.map cR)) rfl)]
     rw[hks]
     rfl)]
    exact qN (fD (aC (aD (d:=.lst (ks.map cR)) rfl) aJ) rfl) (H1.kept (aD rfl)) (aD (d:=cR mk) rfl) (zL (ks:=mk) H1.kp (Dg mk) hl)
   ·have:=H1.setE (nW hd.kept mk (.tup (ks.map cR)))
    have e0:hd.takeOut0 mk ks={ hd with table:=ks.foldl iG hd.table,kept:=nW hd.kept mk (.tup (ks.map cR)) }:=by
     unfold Hd.takeOut0
     rw[if_neg hks']
    rw[e0]
    exact this
 obtain⟨ω2,m1,H2,K2,L2⟩:=mid
 obtain⟨ω3,f1,H3,K3⟩:=Bg H2 W
 refine⟨ω3,ω2.length,?_,H3,⟨by rw[<- L2];exact K3.1,fun n hn hm=> ?_⟩,by rw[L2];exact Nat.le_refl _⟩
 ·refine yQ (ρ1:=[some (.obj h),some (cR mk),some (.lst (ks.map cR)),v]) rfl ?_
  unfold iB
  rw[bY l1,bY m1]
  unfold eS
  rw[dD (cI (aD rfl) H2.obj rfl f1)]
 ·simp only[List.mem_cons,List.not_mem_nil,or_false,not_or] at hm
  rw[K3.2 n (by rw[L2];exact hn) (by simpa using hm.1)]
  exact K2.2 n hn (by simp[hm.2.1,hm.2.2])
end
end L2.MB.Lw
end
section
namespace L2.MB.Lw
open PySem PySem.Spec PyProof.Rows L2.MB
def iF:D->List Key
 |.tup [_,.tup [.int a,.int b],_]=>[.inl a,.inl b]
 |_=>[]
def NI (y:Str):D->Bool
 |.tup [.str x,_,_]=>decide (x=y)
 |_=>false
def Hd.ents (hd:Hd):List D:=hd.entries.getD []
def Hd.marksK (hd:Hd) (y:Str):List (List Key):=(hd.ents.filter (NI y)).map iF
theorem xF {y:Str}:∀ {out:List D},(∀ d∈out,qZ d)->marksIn (.str y) out=((out.filter (NI y)).map iF).map cR
 |[],_=>rfl
 |d::r,h=>by
  have ih:=xF (y:=y) (out:=r) fun d hd=>h d (List.mem_cons_of_mem _ hd)
  obtain⟨x,a,b,v,rfl⟩:=h d List.mem_cons_self
  unfold marksIn at ih ⊢
  have e0:(eqD 8 (.str x) (.str y)==some true)=decide (x=y):=by rw[oG];cases decide (x=y) <;> rfl
  by_cases hx:x=y
  ·rw[List.filter_cons_of_pos (by show(eqD 8 (.str x) (.str y)==some true)=true;rw[e0];exact decide_eq_true hx),List.filter_cons_of_pos (by show decide (x=y)=true;exact decide_eq_true hx)]
   rw[List.map_cons,List.map_cons,List.map_cons,ih]
   rfl
  ·rw[List.filter_cons_of_neg (by show ¬(eqD 8 (.str x) (.str y)==some true)=true;rw[e0];simpa using hx),List.filter_cons_of_neg (by show ¬ decide (x=y)=true;simpa using hx)]
   exact ih
section
variable {ω ω1 ω2:Om}{h k t e:Nat}{i c:Nat}{hd hd1 hd2:Hd}{rs fp:List Nat}
theorem Hd.Ok.ents (W:hd.Ok c):hd.entries=some hd.ents/\hd.ents.Perm (hd.table.map (·.2)):=by
 obtain⟨out,e1,e2⟩:=W.sorts
 have:hd.ents=out:=by unfold Hd.ents;rw[e1];rfl
 rw[this]
 exact⟨e1,e2⟩
theorem Hd.Ok.entsEnt (W:hd.Ok c):∀ d∈hd.ents,qZ d:=fun d hd'=>W.ent d (W.ents.2.mem_iff.mp hd')
theorem Hd.Ok.keys (W:hd.Ok c):(hd.table.map (·.2)).map iF=hd.table.map (·.1):=by
 rw[List.map_map]
 apply List.map_congr_left
 intro kv hkv
 obtain⟨a,b,_,_,e1,x,v,e2⟩:=W.tk kv hkv
 show iF kv.2=kv.1
 rw[e2,e1]
 rfl
theorem Hd.Ok.entsKeys (W:hd.Ok c):(hd.ents.map iF).Perm (hd.table.map (·.1)):=by
 rw[<- W.keys]
 exact W.ents.2.map iF
theorem Hd.Ok.entsNodup (W:hd.Ok c):(hd.ents.map iF).Nodup:=W.entsKeys.nodup_iff.mpr W.tn
theorem Hd.Ok.entsLen (W:hd.Ok c):hd.ents.length<64:=by rw[W.ents.2.length_eq,List.length_map];exact W.tl
theorem Hd.Ok.marksNodup (W:hd.Ok c) (y:Str):(hd.marksK y).Nodup:=W.entsNodup.sublist (List.filter_sublist.map iF)
theorem Hd.Ok.marksIn (W:hd.Ok c) (y:Str):∀ q∈hd.marksK y,q∈hd.table.map (·.1):=fun q hq=>W.entsKeys.mem_iff.mp ((List.filter_sublist.map iF).subset hq)
theorem Hd.Ok.seenMem (W:hd.Ok c) (hi:i<c):hd.seen i∈hd.knows:=by
 unfold Hd.seen
 have:i<hd.knows.length:=by rw[W.len];exact hi
 rw[List.getD_eq_getElem?_getD,List.getElem?_eq_getElem this]
 exact List.getElem_mem this
theorem Hd.Ok.seenLen (W:hd.Ok c) (hi:i<c):(hd.seen i).length=c:=W.row _ (W.seenMem hi)
theorem gL {n:Nat} (h:n<64):n<sizeLine:=by rw[sizeLine_eq];omega
def HandS (ω:Om) (h i:Nat) (hd:Hd) (fp:List Nat):Prop:=∃ k t e rs,HandAt ω h i hd k t e rs/\fp=h::k::t::e::rs
def Did (ω:Om) (h i:Nat) (fp:List Nat) (ω':Om) (hd':Hd):Prop:=∃ fp',HandS ω' h i hd' fp'/\Keep fp ω ω'/\∀ n∈fp',n∈fp∨ω.length<=n
theorem HandS.obj (H:HandS ω h i hd fp):∃ k t e,ω[h]?=some (.ins 0 [("number",.int i),("knows",.obj k),("table",.obj t),("kept",.obj e)]):=by
 obtain⟨k,t,e,rs,H,_⟩:=H
 exact⟨k,t,e,H.obj⟩
theorem HandS.lt (H:HandS ω h i hd fp):∀ n∈fp,n<ω.length:=by
 obtain⟨k,t,e,rs,H,rfl⟩:=H
 exact H.lt
theorem HandS.mono {ω':Om} (H:HandS ω h i hd fp) (g:∀ n∈fp,ω'[n]?=ω[n]?):HandS ω' h i hd fp:=by
 obtain⟨k,t,e,rs,H,rfl⟩:=H
 exact⟨k,t,e,rs,H.mono g,rfl⟩
theorem Did.refl (H:HandS ω h i hd fp):Did ω h i fp ω hd:=⟨fp,H,Keep.refl _ _,fun n hn=>.inl hn⟩
theorem Did.trans (a:Did ω h i fp ω1 hd1) (b:∀ fp1,HandS ω1 h i hd1 fp1->Did ω1 h i fp1 ω2 hd2):Did ω h i fp ω2 hd2:=by
 obtain⟨fp1,H1,K1,F1⟩:=a
 obtain⟨fp2,H2,K2,F2⟩:=b fp1 H1
 refine⟨fp2,H2,⟨Nat.le_trans K1.1 K2.1,fun n hn hf=> ?_⟩,fun n hn=> ?_⟩
 ·rw[K2.2 n (Nat.lt_of_lt_of_le hn K1.1) fun z=>(F1 n z).elim hf fun q=>absurd hn (Nat.not_lt.mpr q)]
  exact K1.2 n hn hf
 ·rcases F2 n hn with z|z
  ·exact F1 n z
  ·exact .inr (Nat.le_trans K1.1 z)
theorem Keep.sub {fp fq:List Nat}{ω ω':Om} (a:Keep fp ω ω') (h:∀ n∈fp,n∈fq):Keep fq ω ω':=⟨a.1,fun n hn hf=>a.2 n hn fun z=>hf (h n z)⟩
theorem Qg (H:HandS ω h i hd fp) (W:hd.Ok c) (hi:i<c) (x:Str) (v:Int):∃ ω',fC [.obj h,.str x,.int v] ω=some (.ok (mkD i (hd.next i)),ω')/\Did ω h i fp ω' (hd.put i x v):=by
 obtain⟨k,t,e,rs,H,rfl⟩:=H
 obtain⟨ω',e1,H',K,L⟩:=MI H (by rw[W.len];exact hi) (by rw[W.seenLen hi];exact hi) (gL W.tl) x v
 exact⟨ω',e1,_,⟨k,t,e,rs,H',rfl⟩,K.sub (fun n hn=>by simp only[List.mem_cons] at hn ⊢;rcases hn with z|z <;> simp[z]),fun n hn=>.inl hn⟩
theorem Ge (H:HandS ω h i hd fp) (W:hd.Ok c) (hi:i<c):∃ ω',dJ [.obj h] ω=some (.ok (mkD i (hd.next i)),ω')/\Did ω h i fp ω' (hd.bump i):=by
 obtain⟨k,t,e,rs,H,rfl⟩:=H
 obtain⟨ω',e1,H',K,L⟩:=uC H (by rw[W.len];exact hi) (by rw[W.seenLen hi];exact hi)
 exact⟨ω',e1,_,⟨k,t,e,rs,H',rfl⟩,K.sub (fun n hn=>by simp[hn]),fun n hn=>.inl hn⟩
theorem JQ (H:HandS ω h i hd fp) (W:hd.Ok c) (y:Str):dL [.obj h,.str y] ω=some (.ok (.lst ((hd.marksK y).map cR)),ω):=by
 obtain⟨k,t,e,rs,H,rfl⟩:=H
 rw[Io H W.ents.1 W.entsEnt (Nat.le_of_lt (gL W.entsLen)) y,xF W.entsEnt]
 rfl
theorem sP {mk:List Key}{ks:List (List Key)} (H:HandS ω h i hd fp) (hk:ks.Nodup) (hin:∀ q∈ks,q∈hd.table.map (·.1)) (hl:hd.kept.length<64) (W:(hd.takeOut0 mk ks).Ok c):∃ ω',dI [.obj h,cR mk,.lst (ks.map cR)] ω=some (.ok .non,ω')/\Did ω h i fp ω' (hd.takeOut mk ks):=by
 obtain⟨k,t,e,rs,H,rfl⟩:=H
 obtain⟨ω',e',e1,H',K,L⟩:=BW H hk hin (gL hl) W
 refine⟨ω',e1,_,⟨k,t,e',rs,H',rfl⟩,K.sub (fun n hn=>by simp only[List.mem_cons,List.not_mem_nil,or_false] at hn ⊢;rcases hn with z|z|z <;> simp[z]),fun n hn=> ?_⟩
 simp only[List.mem_cons] at hn ⊢
 rcases hn with z|z|z|z|z
 ·exact .inl (.inl z)
 ·exact .inl (.inr (.inl z))
 ·exact .inl (.inr (.inr (.inl z)))
 ·exact .inr (z ▸ L)
 ·exact .inl (.inr (.inr (.inr (.inr z))))
theorem AD {kvs:List (List Key×D)}{q k:List Key}{v:D} (h:q∈kvs.map (·.1)):q∈(nW kvs k v).map (·.1):=by
 unfold nW
 split
 ·obtain⟨p,h1,h2⟩:=List.mem_map.mp h
  refine List.mem_map.mpr ⟨if p.1=k then(p.1,v) else p,List.mem_map.mpr ⟨p,h1,rfl⟩,?_⟩
  split <;> exact h2
 ·rw[List.map_append]
  exact List.mem_append_left _ h
def Hd.change (hd:Hd) (i:Nat) (x:Str) (v:Int):Hd:=(hd.put i x v).takeOut (vX i (hd.next i)) (hd.marksK x)
theorem LP (H:HandS ω h i hd fp) (W:hd.Ok c) (hi:i<c) (x:Str) (v:Int) (W2:((hd.put i x v).takeOut0 (vX i (hd.next i)) (hd.marksK x)).Ok c):∃ ω',eV [.obj h,.str x,.int v] ω=some (.ok (mkD i (hd.next i)),ω')/\Did ω h i fp ω' (hd.change i x v):=by
 obtain⟨ω1,e1,D1⟩:=Qg H W hi x v
 obtain⟨fp1,H1,K1,F1⟩:=id D1
 obtain⟨ω2,e2,D2⟩:=sP (mk:=vX i (hd.next i)) (ks:=hd.marksK x) H1 (W.marksNodup x) (fun q hq=>AD (W.marksIn x q hq)) W.kl W2
 refine⟨ω2,?_,D1.trans fun fq Hq=> ?_⟩
 ·obtain⟨k0,t0,e0,ho⟩:=H.obj
  obtain⟨k1,t1,e1',ho1⟩:=H1.obj
  refine bC rfl ?_
  unfold kA
  rw[aV (cE (aD rfl) ho rfl (aC (aD rfl) aJ) (JQ H W x))]
  rw[aV (cE (aD (d:=.obj h) rfl) ho rfl (aC (aD (d:=.str x) rfl) (aC (aD (d:=.int v) rfl) aJ)) e1)]
  rw[bY (ρ1:=[some (.obj h),some (.str x),some (.int v),some (.lst ((hd.marksK x).map cR)),some (mkD i (hd.next i))]) (ω1:=ω2) (by
   unfold eS
   rw[dD (cE (aD (d:=.obj h) rfl) ho1 rfl (aC (aD (d:=cR (vX i (hd.next i))) rfl) (aC (aD (d:=.lst ((hd.marksK x).map cR)) rfl) aJ)) e2)]
   rfl)]
  exact bM (aD rfl)
 ·obtain⟨ωq,eq,Dq⟩:=sP (mk:=vX i (hd.next i)) (ks:=hd.marksK x) Hq (W.marksNodup x) (fun q hq=>AD (W.marksIn x q hq)) W.kl W2
  rw[e2] at eq
  cases eq
  exact Dq
def Hd.take (hd:Hd) (i:Nat) (x:Str):Hd:=if hd.marksK x=[] then hd else(hd.bump i).takeOut (vX i (hd.next i)) (hd.marksK x)
def Hd.takeA (hd:Hd) (x:Str):D:=if hd.marksK x=[] then .non else .lst ((hd.marksK x).map cR)
theorem OF (H:HandS ω h i hd fp) (W:hd.Ok c) (hi:i<c) (x:Str) (W2:((hd.bump i).takeOut0 (vX i (hd.next i)) (hd.marksK x)).Ok c):∃ ω',gP [.obj h,.str x] ω=some (.ok (hd.takeA x),ω')/\Did ω h i fp ω' (hd.take i x):=by
 obtain⟨k0,t0,e0,ho⟩:=H.obj
 unfold Hd.take Hd.takeA
 have m1:=JQ H W x
 cases hm:hd.marksK x with
 |nil=>
  rw[if_pos rfl,if_pos rfl]
  refine⟨ω,?_,Did.refl H⟩
  refine bC rfl ?_
  unfold jY
  rw[hm] at m1
  rw[aV (cE (aD rfl) ho rfl (aC (aD rfl) aJ) m1)]
  rfl
 |cons q r=>
  rw[if_neg (by simp),if_neg (by simp)]
  rw[hm] at m1 W2
  obtain⟨ω1,e1,D1⟩:=Ge H W hi
  obtain⟨fp1,H1,K1,F1⟩:=id D1
  have nd:=W.marksNodup x
  have mi:=W.marksIn x
  rw[hm] at nd mi
  obtain⟨ω2,e2,D2⟩:=sP (mk:=vX i (hd.next i)) (ks:=q::r) H1 nd mi W.kl W2
  refine⟨ω2,?_,D1.trans fun fq Hq=> ?_⟩
  ·obtain⟨k1,t1,e1',ho1⟩:=H1.obj
   refine bC rfl ?_
   unfold jY
   rw[aV (cE (aD rfl) ho rfl (aC (aD rfl) aJ) m1)]
   rw[bY (ρ1:=[some (.obj h),some (.str x),some (.lst ((q::r).map cR))]) (ω1:=ω) rfl]
   rw[bY (ρ1:=[some (.obj h),some (.str x),some (.lst ((q::r).map cR))]) (ω1:=ω2) (by
    unfold eS
    rw[dD (cE (aD (d:=.obj h) rfl) ho rfl (aC (a:=cR (vX i (hd.next i))) (cI (aD rfl) ho rfl e1) (aC (aD (d:=.lst ((q::r).map cR)) rfl) aJ)) e2)])]
   exact bM (aD rfl)
  ·obtain⟨ωq,eq,Dq⟩:=sP (mk:=vX i (hd.next i)) (ks:=q::r) Hq nd mi W.kl W2
   rw[e2] at eq
   cases eq
   exact Dq
end
end L2.MB.Lw
end
section
namespace L2.MB.Lw
open PySem PySem.Spec PyProof.Rows L2.MB
theorem jS {ω:Om}{r:Nat}{xs:List Int} (er:ω[r]?=some (.ml (iv xs))):RowV ω (.obj r) xs:=by unfold RowV eN;simp only[er]
theorem zE {ω:Om}{n:Nat}{o:Ob} (h:ω[n]?=some o):n<ω.length:=(List.getElem?_eq_some_iff.mp h).1
theorem RowsAt.app {ω:Om}{rs:List Nat}{kn:List (List Int)} (h:RowsAt ω rs kn) (obs:List Ob):RowsAt (ω++obs) rs kn:=by
 induction h with
 |nil=>exact .nil
 |cons hr _ ih=>exact .cons ((List.getElem?_append_left (zE hr)).trans hr) ih
theorem RowsAt.setAt {ω:Om}{rs:List Nat}{kn:List (List Int)} (h:RowsAt ω rs kn) {j r:Nat}{xs:List Int} (hr:ω[r]?=some (.ml (iv xs))):RowsAt ω (rs.set j r) (kn.set j xs):=by
 induction h generalizing j with
 |nil=>exact .nil
 |cons h0 t ih=>
  cases j with
  |zero=>exact .cons hr t
  |succ j=>exact .cons h0 ih
theorem Gd {l:List Nat} (h:l.Nodup) {a:Nat} (ha:a∉l) (j:Nat):(l.set j a).Nodup:=by
 induction l generalizing j with
 |nil=>exact h
 |cons x r ih=>
  rw[List.nodup_cons] at h
  simp only[List.mem_cons,not_or] at ha
  cases j with
  |zero=>rw[List.set_cons_zero,List.nodup_cons];exact⟨ha.2,h.2⟩
  |succ j=>
   rw[List.set_cons_succ,List.nodup_cons]
   refine⟨fun z=> ?_,ih h.2 ha.2 j⟩
   rcases List.mem_or_eq_of_mem_set z with z|z
   ·exact h.1 z
   ·exact ha.1 z.symm
def Hd.leaves (tl:Hd) (j:Nat) (d:D):Bool:=(lZ tl.table (iF d)).isSome|| !sG (tl.seen j) (iF d)
def Qm (c:Nat) (d:D):Prop:=∃(x:Str) (a b:Int) (v:Int),d=.tup [.str x,.tup [.int a,.int b],.int v]/\0<=a/\a<c
section
variable {ω:Om}{h k t e h2 k2 t2 e2:Nat}{i j c:Nat}{hd tl:Hd}{rs rs2 fp:List Nat}
theorem xH (G:HandAt ω h2 j tl k2 t2 e2 rs2) (V:tl.Ok c) (hj:j<c) {out:List D} (ho:∀ d∈out,Qm c d) (hl:out.length<=sizeLine):pM [.lst out,.obj h2] ω=some (.ok (.lst (out.filter (tl.leaves j))),ω):=by
 obtain⟨r,hr,er⟩:=G.seenRow (by rw[V.len];exact hj)
 refine bC rfl (bM (gW (ds:=out) (chk:=dH) (ω1:=ω) ?_ hl ?_))
 ·unfold oIL
  rw[bO (aD (d:=.lst out) rfl)]
  rfl
 ·have e0:out.filter (tl.leaves j)=(out.filter (tl.leaves j)).map fun d=>d:=by simp
  rw[e0]
  refine iI (fun ρ=>∃ u,ρ=[u,some (.obj h2)]) rfl ⟨_,rfl⟩ fun d hd ρ hρ=> ?_
  obtain⟨x,a,b,v,rfl,ha0,ha1⟩:=ho d hd
  obtain⟨u,rfl⟩:=hρ
  refine⟨_,rfl,⟨_,rfl⟩,?_,fun _=>aD rfl⟩
  have d1:eJ (o2 (fun ω a b=>pu (Me ω a b) ω) (o2 (fun ω a b=>pu (cA ω a b) ω) (oP (aF 0)) (oP (dC (.int 1)))) (iM 0 "table" (oP (aF 1)))) [some (.tup [.str x,.tup [.int a,.int b],.int v]),some (.obj h2)] ω=some (.ok (lZ tl.table [.inl a,.inl b]).isSome,ω):=
   dW (lG (bD (aD (d:=.tup [.str x,.tup [.int a,.int b],.int v]) rfl) bF rfl) (G.table (aD rfl)) (by
    show pu (Me ω (.tup [.int a,.int b]) (.obj t2)) ω=_
    have:Me ω (.tup [.int a,.int b]) (.obj t2)=some (.bl (lZ tl.table [.inl a,.inl b]).isSome):=by
     simp only[Me,IR,cellOf,G.tb]
     rfl
    rw[this]
    rfl))
  have lv:tl.leaves j (.tup [.str x,.tup [.int a,.int b],.int v])=((lZ tl.table [.inl a,.inl b]).isSome|| !decide (b<=(tl.seen j).getD a.toNat 0)):=rfl
  rw[lv]
  show oOr _ _ _ _=_
  unfold oOr
  show oB _ _ [some (.tup [.str x,.tup [.int a,.int b],.int v]),some (.obj h2)] ω=_
  rw[bO d1]
  cases hv:(lZ tl.table [.inl a,.inl b]).isSome with
  |true=>rfl
  |false=>
   have s1:=uK (ω:=ω) (d:=.obj r) (xs:=tl.seen j) (jS er) (a:=a) (b:=b) ha0 (by rw[V.seenLen hj];exact ha1)
   show nG _ _ _=_
   unfold nG
   rw[bO (x:=decide (b<=(tl.seen j).getD a.toNat 0)) (ω1:=ω) (by
    unfold kZ
    rw[bO (bB (aC (cI (aD rfl) G.obj rfl (nV G hr)) (aC (bD (aD (d:=.tup [.str x,.tup [.int a,.int b],.int v]) rfl) bF rfl) aJ)) s1)]
    rfl)]
   rfl
def Ow (xs ys:List Int):Int:=(List.zipWith (fun x y=>mx (y-x) 0) xs ys).sum
def BX (out:List D) (T:List (List Key×D)):List (List Key×D):=out.foldl (fun T d=>nW T (iF d) d) T
theorem HN (kvs:List (List Key×D)) (k:List Key) (v:D):(nW kvs k v).length<=kvs.length+1:=by
 unfold nW
 split
 ·simp
 ·simp
theorem AZ {h h2 n0 n1:Nat}{m:D}:∀ {out:List D}{T:List (List Key×D)}{v:Option D}{ω:Om},(∀ d∈out,qZ d)->ω[n1]?=some (.dt T)->T.length+out.length<sizeLine->
  ∃ v',dU (bN 5) dH fN out [some (.obj h),some (.obj h2),some m,some (.obj n0),some (.obj n1),v] ω=some (.nx [some (.obj h),some (.obj h2),some m,some (.obj n0),some (.obj n1),v'],ω.set n1 (.dt (BX out T)))
 |[],T,v,ω,_,ht,_=>⟨v,by
   show some (OOut.nx _,ω)=_
   rw[show BX [] T=T from rfl,mC ht]⟩
 |d::out,T,v,ω,he,ht,hl=>by
  rw[List.length_cons] at hl
  have hd:=he d List.mem_cons_self
  obtain⟨x,a,b,w,rfl⟩:=hd
  have b1:fN [some (.obj h),some (.obj h2),some m,some (.obj n0),some (.obj n1),some (.tup [.str x,.tup [.int a,.int b],.int w])] ω=some (.nx [some (.obj h),some (.obj h2),some m,some (.obj n0),some (.obj n1),some (.tup [.str x,.tup [.int a,.int b],.int w])],ω.set n1 (.dt (nW T [.inl a,.inl b] (.tup [.str x,.tup [.int a,.int b],.int w])))):=by
   unfold fN
   exact qN (aD rfl) (aD (d:=.obj n1) rfl) (bD (aD (d:=.tup [.str x,.tup [.int a,.int b],.int w]) rfl) bF rfl) (zL (ks:=[.inl a,.inl b]) ht rfl (by omega))
  have hp:=HN T [.inl a,.inl b] (.tup [.str x,.tup [.int a,.int b],.int w])
  obtain⟨v',g1⟩:=AZ (h:=h) (h2:=h2) (n0:=n0) (n1:=n1) (m:=m) (out:=out) (T:=nW T [.inl a,.inl b] (.tup [.str x,.tup [.int a,.int b],.int w])) (v:=some (.tup [.str x,.tup [.int a,.int b],.int w])) (ω:=ω.set n1 (.dt (nW T [.inl a,.inl b] (.tup [.str x,.tup [.int a,.int b],.int w])))) (fun d hd=>he d (List.mem_cons_of_mem _ hd)) (dG ht) (by omega)
  refine⟨v',?_⟩
  rw[List.set_set] at g1
  refine(iT rfl rfl (b1)).trans ?_
  exact g1
theorem DH {chk:Om->Bool}:∀ {rs1 rs2:List Nat}{kn1 kn2:List (List Int)}{ω:Om}{ρ:Rho},ρ.length=2->RowsAt ω rs1 kn1->RowsAt ω rs2 kn2->(∀ xs∈kn1,xs.length<=sizeLine)->(∀ obs,chk (ω++obs)=true)->
  compLO (BG 0 1) chk (oPT nN) (bS jW (aE (oP (aF 0)) (aE (oP (aF 1)) aU))) (BQ (rs1.map D.obj) (rs2.map D.obj)) ρ ω=some ((List.range' ω.length (List.zipWith (List.zipWith mx) kn1 kn2).length).map D.obj,ω++(List.zipWith (List.zipWith mx) kn1 kn2).map fun xs=>Ob.ml (iv xs))
 |_,rs2,_,kn2,ω,ρ,hρ,.nil,_,_,hc=>by
  show(if chk ω=true then some ([],ω) else none)=_
  rw[if_pos (by have:=hc [];rwa [List.append_nil] at this)]
  simp
 |_,_,_,_,ω,ρ,hρ,.cons _ _,.nil,_,hc=>by
  show(if chk ω=true then some ([],ω) else none)=_
  rw[if_pos (by have:=hc [];rwa [List.append_nil] at this)]
  simp
 |_,_,_,_,ω,ρ,hρ,@Paired.cons _ _ _ r1 x1 rs1 kn1 a1 t1,@Paired.cons _ _ _ r2 x2 rs2 kn2 a2 t2,hl,hc=>by
  match ρ,hρ with
  |[u,v],_=>
   have j1:=AT (ω:=ω) (jS a1) (jS a2) (hl x1 List.mem_cons_self)
   have ih:=DH (chk:=chk) (ω:=ω++[.ml (iv (List.zipWith mx x1 x2))]) (ρ:=[some (.obj r1),some (.obj r2)]) rfl (RowsAt.app t1 _) (RowsAt.app t2 _) (fun xs hx=>hl xs (List.mem_cons_of_mem _ hx)) (fun obs=>by rw[List.append_assoc];exact hc _)
   show(if chk ω=true then(match bS jW (aE (oP (aF 0)) (aE (oP (aF 1)) aU)) [some (.obj r1),some (.obj r2)] ω with
    |some (.ok y,ω2)=>(compLO (BG 0 1) chk (oPT nN) (bS jW (aE (oP (aF 0)) (aE (oP (aF 1)) aU))) (BQ (rs1.map D.obj) (rs2.map D.obj)) [some (.obj r1),some (.obj r2)] ω2).map fun r=>(y::r.1,r.2)
    |_=>none) else none)=_
   rw[if_pos (by have:=hc [];rwa [List.append_nil] at this),bB (aC (aD (d:=.obj r1) rfl) (aC (aD (d:=.obj r2) rfl) aJ)) j1]
   show(compLO _ _ _ _ _ _ _).map _=_
   rw[ih]
   rw[List.zipWith_cons_cons,List.length_cons,List.range'_succ,List.map_cons,List.map_cons,List.length_append]
   show some (_,_)=_
   rw[List.append_assoc]
   rfl
theorem qO:∀(kn:List (List Int)) (pre post:Om),RowsAt (pre++(kn.map fun xs=>Ob.ml (iv xs))++post) (List.range' pre.length kn.length) kn
 |[],_,_=>.nil
 |x::r,pre,post=>by
  rw[List.length_cons,List.range'_succ]
  refine .cons (by simp) ?_
  have:=qO r (pre++[.ml (iv x)]) post
  unfold RowsAt at this
  simpa using this
theorem nU {c:Nat}{x:Str}{fo fv:OG D}{ρ:Rho}{ω ω1 ω2:Om}{v:D}{n:Nat}{fs:List (Str×D)} (e1:fv ρ ω=some (.ok v,ω1)) (e2:fo ρ ω1=some (.ok (.obj n),ω2)) (e3:ω2[n]?=some (.ins c fs)) (hl:fs.length<1000):sH c x fo fv ρ ω=some (.nx ρ,ω2.set n (.ins c (pK x v fs))):=by
 unfold sH
 rw[dD e1,dD e2]
 have:zG c x ω2 (.obj n) v=some (ω2.set n (.ins c (pK x v fs))):=by
  simp only[zG,e3]
  rw[if_pos ⟨trivial,hl⟩]
 show(zG c x ω2 (.obj n) v).map _=_
 rw[this]
 rfl
def Hd.hearT (hd:Hd) (i:Nat) (tl:Hd) (j:Nat):List D:=hd.ents.filter (tl.leaves j)++tl.ents.filter (hd.leaves i)
def Hd.hear0 (hd:Hd) (i:Nat) (tl:Hd) (j:Nat):Hd:=⟨(List.zipWith (List.zipWith mx) hd.knows tl.knows).set i (List.zipWith mx (hd.seen i) (tl.seen j)),BX (hd.hearT i tl j) [],uE hd.kept tl.kept⟩
def Hd.hear (hd:Hd) (i:Nat) (tl:Hd) (j:Nat):Hd:=(hd.hear0 i tl j).forget
theorem Hd.Ok.entC (W:hd.Ok c):∀ d∈hd.ents,Qm c d:=fun d hd'=>by
 obtain⟨kv,h1,rfl⟩:=List.mem_map.mp (W.ents.2.mem_iff.mp hd')
 obtain⟨a,b,ha0,ha1,_,x,v,e⟩:=W.tk kv h1
 exact⟨x,a,b,v,e,ha0,ha1⟩
theorem Lq (H:HandAt ω h i hd k t e rs) (G:HandAt ω h2 j tl k2 t2 e2 rs2) (hij:∀ n∈h::k::t::e::rs,n∉h2::k2::t2::e2::rs2) (W:hd.Ok c) (V:tl.Ok c) (hi:i<c) (hj:j<c) (hh:fT (tl.kept.map (·.1))=true) (W2:(hd.hear0 i tl j).Ok c):
  ∃ ω' k' t' e' rs',cT [.obj h,.obj h2] ω=some (.ok (.int (Ow (hd.seen i) (tl.seen j))),ω')/\HandAt ω' h i (hd.hear i tl j) k' t' e' rs'/\Keep [h,e] ω ω'/\∀ n∈k'::t'::e'::rs',ω.length<=n:=by
 obtain⟨r,hr,er⟩:=H.seenRow (by rw[W.len];exact hi)
 obtain⟨r2,hr2,er2⟩:=G.seenRow (by rw[V.len];exact hj)
 obtain⟨⟨h1,h2',h3,h4⟩,⟨h5,h6,h7⟩,⟨h8,h9⟩,h10,h11⟩:=H.ne
 have ltH:=H.lt
 have ltG:=G.lt
 have c8:∀ {n:Nat},n=c->n<=sizeLine:=fun z=>by rw[z,sizeLine_eq];have:=W.small;omega
 have hs1:(hd.seen i).length<=sizeLine:=c8 (W.seenLen hi)
 have hh2:h2≠h:=fun z=>hij h (by simp) (by simp[z])
 have he2:e2≠e:=fun z=>hij e (by simp) (by simp[z])
 have hk2h:k2≠h:=fun z=>hij h (by simp) (by simp[z])
 have he2h:e2≠h:=fun z=>hij h (by simp) (by simp[z])
 have hrs2h:∀ r∈rs2,r≠h:=fun r hr z=>hij h (by simp) (by rw[<- z];simp[hr])
 -- the stages of the store
 obtain⟨s,hs⟩:∃ s,s=List.zipWith mx (hd.seen i) (tl.seen j):=⟨_,rfl⟩
 obtain⟨ωa,hωa⟩:∃ ωa,ωa=ω++[Ob.ml (iv s)]:=⟨_,rfl⟩
 obtain⟨ωb,hωb⟩:∃ ωb,ωb=ωa++[Ob.dt []]:=⟨_,rfl⟩
 have la:ωa.length=ω.length+1:=by rw[hωa];simp
 have lb:ωb.length=ω.length+2:=by rw[hωb];simp[la]
 have gb:∀ n,n<ω.length->ωb[n]?=ω[n]?:=fun n hn=>by rw[hωb,List.getElem?_append_left (by omega),hωa,List.getElem?_append_left hn]
 have Hb:HandAt ωb h i hd k t e rs:=H.mono fun n hn=>gb n (ltH n hn)
 have Gb:HandAt ωb h2 j tl k2 t2 e2 rs2:=G.mono fun n hn=>gb n (ltG n hn)
 have nb:ωb[ωa.length]?=some (.dt []):=by rw[hωb];simp
 have sb:ωb[ω.length]?=some (.ml (iv s)):=by rw[hωb,List.getElem?_append_left (by omega),hωa];simp
 -- the table
 have l1:(hd.ents.filter (tl.leaves j)).length<64:=Nat.lt_of_le_of_lt (List.length_filter_le ..) W.entsLen
 have l2:(tl.ents.filter (hd.leaves i)).length<64:=Nat.lt_of_le_of_lt (List.length_filter_le ..) V.entsLen
 have lT:(hd.hearT i tl j).length<128:=by unfold Hd.hearT;rw[List.length_append];omega
 have entT:∀ d∈hd.hearT i tl j,qZ d:=fun d hd'=>by
  rcases List.mem_append.mp hd' with z|z
  ·exact W.entsEnt d (List.mem_filter.mp z).1
  ·exact V.entsEnt d (List.mem_filter.mp z).1
 obtain⟨v',loop⟩:=AZ (h:=h) (h2:=h2) (n0:=ω.length) (n1:=ωa.length) (m:=.int (Ow (hd.seen i) (tl.seen j))) (out:=hd.hearT i tl j) (T:=[]) (v:=none) (ω:=ωb) entT nb (by rw[sizeLine_eq];simp;omega)
 obtain⟨T,hT⟩:∃ T,T=BX (hd.hearT i tl j) []:=⟨_,rfl⟩
 rw[<- hT] at loop
 obtain⟨ωc,hωc⟩:∃ ωc,ωc=ωb.set ωa.length (.dt T):=⟨_,rfl⟩
 rw[<- hωc] at loop
 have lc:ωc.length=ω.length+2:=by rw[hωc];simp[lb]
 have gc:∀ n,n<ω.length->ωc[n]?=ω[n]?:=fun n hn=>by rw[hωc,aZ (by omega)];exact gb n hn
 have tc:ωc[ωa.length]?=some (.dt T):=by rw[hωc];exact dG nb
 have sc:ωc[ω.length]?=some (.ml (iv s)):=by rw[hωc,aZ (by omega)];exact sb
 have oc:ωc[h]?=some (.ins 0 [("number",.int i),("knows",.obj k),("table",.obj t),("kept",.obj e)]):=by rw[gc h (ltH h (by simp))];exact H.obj
 -- table set
 obtain⟨ωd,hωd⟩:∃ ωd,ωd=ωc.set h (.ins 0 [("number",.int i),("knows",.obj k),("table",.obj ωa.length),("kept",.obj e)]):=⟨_,rfl⟩
 have ld:ωd.length=ω.length+2:=by rw[hωd];simp[lc]
 have hlt:=ltH h (by simp)
 have gd:∀ n,n<ω.length->n≠h->ωd[n]?=ω[n]?:=fun n hn hne=>by rw[hωd,aZ hne];exact gc n hn
 have od:ωd[h]?=some (.ins 0 [("number",.int i),("knows",.obj k),("table",.obj ωa.length),("kept",.obj e)]):=by rw[hωd];exact dG oc
 have td:ωd[ωa.length]?=some (.dt T):=by rw[hωd,aZ (by omega)];exact tc
 have sd:ωd[ω.length]?=some (.ml (iv s)):=by rw[hωd,aZ (by omega)];exact sc
 have kd:ωd[k]?=some (.ml (rs.map D.obj)):=by rw[gd k (ltH k (by simp)) (Ne.symm h1)];exact H.kn
 have kd2:ωd[k2]?=some (.ml (rs2.map D.obj)):=by rw[gd k2 (ltG k2 (by simp)) hk2h];exact G.kn
 have od2:ωd[h2]?=_:=(gd h2 (ltG h2 (by simp)) hh2).trans G.obj
 have rd:RowsAt ωd rs hd.knows:=H.rows.mono fun r hr=>gd r (ltH r (by simp[hr])) fun z=>h4 (z ▸ hr)
 have rd2:RowsAt ωd rs2 tl.knows:=G.rows.mono fun r hr=>gd r (ltG r (by simp[hr])) (hrs2h r hr)
 -- rows joined
 obtain⟨kn,hkn⟩:∃ kn,kn=List.zipWith (List.zipWith mx) hd.knows tl.knows:=⟨_,rfl⟩
 have lkn:kn.length=c:=by rw[hkn,List.length_zipWith,W.len,V.len,Nat.min_self]
 have joins:=DH (chk:=fun ω=>vY k (rs.map D.obj) ω&&vY k2 (rs2.map D.obj) ω) (ω:=ωd) (ρ:=[none,none]) rfl rd rd2 (fun xs hx=>c8 (W.row xs hx)) (fun obs=>by
  rw[Bool.and_eq_true]
  constructor
  ·unfold vY
   rw[List.getElem?_append_left (zE kd),kd]
   exact sameDs_refl _
  ·unfold vY
   rw[List.getElem?_append_left (zE kd2),kd2]
   exact sameDs_refl _)
 rw[<- hkn] at joins
 obtain⟨ωe,hωe⟩:∃ ωe,ωe=ωd++kn.map fun xs=>Ob.ml (iv xs):=⟨_,rfl⟩
 rw[<- hωe] at joins
 have le:ωe.length=ω.length+2+c:=by rw[hωe];simp[ld,lkn]
 obtain⟨ωf,hωf⟩:∃ ωf,ωf=ωe++[Ob.ml ((List.range' ωd.length kn.length).map D.obj)]:=⟨_,rfl⟩
 have lf:ωf.length=ω.length+3+c:=by rw[hωf];simp[le];omega
 have gf:∀ n,n<ω.length+2->ωf[n]?=ωd[n]?:=fun n hn=>by rw[hωf,List.getElem?_append_left (by omega),hωe,List.getElem?_append_left (by omega)]
 have kf:ωf[ωe.length]?=some (.ml ((List.range' ωd.length kn.length).map D.obj)):=by rw[hωf];simp
 have rf:RowsAt ωf (List.range' ωd.length kn.length) kn:=by rw[hωf,hωe];exact qO kn ωd _
 have of:ωf[h]?=some (.ins 0 [("number",.int i),("knows",.obj k),("table",.obj ωa.length),("kept",.obj e)]):=by rw[gf h (by omega)];exact od
 obtain⟨ωg,hωg⟩:∃ ωg,ωg=ωf.set h (.ins 0 [("number",.int i),("knows",.obj ωe.length),("table",.obj ωa.length),("kept",.obj e)]):=⟨_,rfl⟩
 have og:ωg[h]?=some (.ins 0 [("number",.int i),("knows",.obj ωe.length),("table",.obj ωa.length),("kept",.obj e)]):=by rw[hωg];exact dG of
 have kg:ωg[ωe.length]?=some (.ml ((List.range' ωd.length kn.length).map D.obj)):=by rw[hωg,aZ (by omega)];exact kf
 obtain⟨rs',hrs'⟩:∃ rs',rs'=(List.range' ωd.length kn.length).set i ω.length:=⟨_,rfl⟩
 have hset:((List.range' ωd.length kn.length).map D.obj).set i (.obj ω.length)=rs'.map D.obj:=by rw[hrs',List.map_set]
 obtain⟨ωh,hωh⟩:∃ ωh,ωh=ωg.set ωe.length (.ml (rs'.map D.obj)):=⟨_,rfl⟩
 have elt:=ltH e (by simp)
 have oh:ωh[h]?=some (.ins 0 [("number",.int i),("knows",.obj ωe.length),("table",.obj ωa.length),("kept",.obj e)]):=by rw[hωh,aZ (by omega)];exact og
 have gh:∀ n,n<ω.length+2->n≠h->ωh[n]?=ωd[n]?:=fun n hn hne=>by rw[hωh,aZ (by omega),hωg,aZ hne];exact gf n hn
 have eh:ωh[e]?=some (.dt hd.kept):=by rw[gh e (by omega) (Ne.symm h3),gd e elt (Ne.symm h3)];exact H.kp
 have eh2:ωh[e2]?=some (.dt tl.kept):=by rw[gh e2 (by have:=ltG e2 (by simp);omega) he2h,gd e2 (ltG e2 (by simp)) he2h];exact G.kp
 have oh2:ωh[h2]?=_:=(gh h2 (by have:=ltG h2 (by simp);omega) hh2).trans od2
 obtain⟨ωi,hωi⟩:∃ ωi,ωi=ωh.set e (.dt (uE hd.kept tl.kept)):=⟨_,rfl⟩
 have li:ωi.length=ω.length+3+c:=by rw[hωi,hωh,hωg];simp[lf]
 have gi:∀ n,n<ω.length+2->n≠h->n≠e->ωi[n]?=ωd[n]?:=fun n hn hne hee=>by rw[hωi,aZ hee];exact gh n hn hne
 have rin:∀ q∈List.range' ωd.length kn.length,ω.length+2<=q/\q<ω.length+2+c:=fun q hq=>by
  rw[List.mem_range'_1,ld,lkn] at hq
  exact hq
 have rsin:∀ q∈rs',ω.length<=q/\q≠ωa.length/\q<ω.length+2+c:=fun q hq=>by
  rw[hrs'] at hq
  rcases List.mem_or_eq_of_mem_set hq with z|z
  ·have:=rin q z;omega
  ·omega
 have HI:HandAt ωi h i (hd.hear0 i tl j) ωe.length ωa.length e rs':=by
  refine⟨?_,?_,?_,?_,?_,?_⟩
  ·rw[hωi,aZ h3];exact oh
  ·rw[hωi,aZ (by omega),hωh];exact dG kg
  ·show RowsAt ωi rs' ((List.zipWith (List.zipWith mx) hd.knows tl.knows).set i (List.zipWith mx (hd.seen i) (tl.seen j)))
   rw[<- hkn,<- hs,hrs']
   refine RowsAt.setAt (rf.mono fun q hq=> ?_) ?_
   ·have:=rin q hq
    rw[hωi,aZ (by omega),hωh,aZ (by omega),hωg,aZ (by omega)]
   ·rw[gi _ (by omega) (by omega) (by omega)];exact sd
  ·show ωi[ωa.length]?=some (.dt (BX (hd.hearT i tl j) []))
   rw[gi _ (by omega) (by omega) (by omega),<- hT];exact td
  ·rw[hωi];exact dG eh
  ·have hnd:rs'.Nodup:=by
    rw[hrs']
    exact Gd (List.nodup_range') (fun z=>by have:=rin _ z;omega) i
   simp only[List.nodup_cons,List.mem_cons,not_or]
   refine⟨⟨by omega,by omega,h3,fun z=>by have:=rsin _ z;omega⟩,⟨by omega,by omega,fun z=>by have:=rsin _ z;omega⟩,⟨by omega,fun z=>(rsin _ z).2.1 rfl⟩,fun z=>by have:=rsin _ z;omega,hnd⟩
 obtain⟨ω',f1,HF,KF⟩:=Bg HI W2
 refine⟨ω',ωe.length,ωa.length,ωi.length,rs',?_,HF,⟨?_,fun n hn hm=> ?_⟩,fun n hn=> ?_⟩
 ·refine bC rfl ?_
  unfold oF
  rw[aV (bB (aC (cI (aD rfl) H.obj rfl (nV H hr)) (aC (cI (aD rfl) G.obj rfl (nV G hr2)) aJ)) (Ij (jS er) (jS er2) hs1))]
  rw[aV (bB (aC (cI (aD rfl) H.obj rfl (nV H hr)) (aC (cI (aD rfl) G.obj rfl (nV G hr2)) aJ)) (AT (jS er) (jS er2) hs1))]
  rw[<- hs,<- hωa]
  rw[aV (d:=.obj ωa.length) (ω1:=ωb) (by rw[hωb];rfl)]
  rw[bY (mZ (by
   unfold dS oIL
   rw[dD (x:=(hd.hearT i tl j,dH)) (ω1:=ωb) (by
    rw[bO (x:=.lst (hd.hearT i tl j)) (ω1:=ωb) (lG (bB (aC (cI (aD (d:=.obj h) rfl) Hb.obj rfl (mO Hb W.ents.1)) (aC (aD (d:=.obj h2) rfl) aJ)) (xH Gb V hj W.entC (Nat.le_of_lt (gL W.entsLen)))) (bB (aC (cI (aD (d:=.obj h2) rfl) Gb.obj rfl (mO Gb V.ents.1)) (aC (aD (d:=.obj h) rfl) aJ)) (xH Hb W hi V.entC (Nat.le_of_lt (gL V.entsLen)))) (by
     show(if(hd.ents.filter (tl.leaves j)).length+(tl.ents.filter (hd.leaves i)).length<=sizeLine then some (D.lst (hd.hearT i tl j),ωb) else none)=_
     rw[if_pos (by rw[sizeLine_eq];omega)]))]
    rfl)]
   exact loop))]
  rw[bY (nU (aD (d:=.obj ωa.length) rfl) (aD (d:=.obj h) rfl) oc (by simp))]
  rw[show ωc.set h (.ins 0 (pK "table" (.obj ωa.length) [("number",.int i),("knows",.obj k),("table",.obj t),("kept",.obj e)]))=ωd from by rw[hωd];rfl]
  rw[bY (nU (yV (ω1:=ωd) (ω2:=ωe) (ds:=BQ (rs.map D.obj) (rs2.map D.obj)) (chk:=fun ω=>vY k (rs.map D.obj) ω&&vY k2 (rs2.map D.obj) ω) (by
    unfold oIZ
    rw[bO (aC (iD (aD (d:=.obj h) rfl) od rfl) (aC (iD (aD (d:=.obj h2) rfl) od2 rfl) aJ))]
    have z1:xQ ωd (.obj k)=some (rs.map D.obj,vY k (rs.map D.obj)):=by simp only[xQ,kd]
    have z2:xQ ωd (.obj k2)=some (rs2.map D.obj,vY k2 (rs2.map D.obj)):=by simp only[xQ,kd2]
    show oR (pu ((xQ ωd (.obj k)).bind _) ωd)=_
    rw[z1]
    show oR (pu ((xQ ωd (.obj k2)).map _) ωd)=_
    rw[z2]
    rfl) (by
     unfold BQ
     rw[List.length_zipWith,List.length_map,List.length_map,rd.length,rd2.length,W.len,V.len,Nat.min_self]
     exact c8 rfl) joins) (by rw[<- hωf];exact aD (d:=.obj h) rfl) of (by simp))]
  rw[show ωf.set h (.ins 0 (pK "knows" (.obj ωe.length) [("number",.int i),("knows",.obj k),("table",.obj ωa.length),("kept",.obj e)]))=ωg from by rw[hωg];rfl]
  rw[bY (qN (aD (d:=.obj ω.length) rfl) (iD (aD (d:=.obj h) rfl) og rfl) (iD (aD (d:=.obj h) rfl) og rfl) (yN kg (by rw[List.length_map,List.length_range',lkn];exact hi)))]
  rw[hset,<- hωh]
  rw[bY (ω1:=ωi) (by
   unfold eS
   rw[dD (DC (r:=.non) (ω3:=ωi) (iD (aD (d:=.obj h) rfl) oh rfl) eh (aC (iD (aD (d:=.obj h2) rfl) oh2 rfl) aJ) (by
    simp only[GE,eh,eh2]
    rw[if_pos ⟨Ne.symm he2,by have:=W.kl;have:=V.kl;rw[sizeLine_eq];omega,hh⟩,<- hωi]))])]
  rw[bY (ω1:=ω') (by
   unfold eS
   rw[dD (cI (aD (d:=.obj h) rfl) HI.obj rfl f1)])]
  exact bM (aD rfl)
 ·have:=KF.1;omega
 ·simp only[List.mem_cons,List.not_mem_nil,or_false,not_or] at hm
  rw[KF.2 n (by omega) (by simpa using hm.1),gi n (by omega) hm.1 hm.2,gd n hn hm.1]
 ·simp only[List.mem_cons] at hn
  rcases hn with z|z|z|z
  ·omega
  ·omega
  ·omega
  ·exact(rsin n z).1
theorem Pt {fq:List Nat} (H:HandS ω h i hd fp) (G:HandS ω h2 j tl fq) (hij:∀ n∈fp,n∉fq) (W:hd.Ok c) (V:tl.Ok c) (hi:i<c) (hj:j<c) (hh:fT (tl.kept.map (·.1))=true) (W2:(hd.hear0 i tl j).Ok c):
  ∃ ω',cT [.obj h,.obj h2] ω=some (.ok (.int (Ow (hd.seen i) (tl.seen j))),ω')/\Did ω h i fp ω' (hd.hear i tl j):=by
 obtain⟨k,t,e,rs,H,rfl⟩:=H
 obtain⟨k2,t2,e2,rs2,G,rfl⟩:=G
 obtain⟨ω',k',t',e',rs',e1,H',K,F⟩:=Lq H G hij W V hi hj hh W2
 refine⟨ω',e1,_,⟨k',t',e',rs',H',rfl⟩,K.sub (fun n hn=>by simp only[List.mem_cons,List.not_mem_nil,or_false] at hn ⊢;rcases hn with z|z <;> simp[z]),fun n hn=> ?_⟩
 rcases List.mem_cons.mp hn with z|z
 ·exact .inl (by simp[z])
 ·exact .inr (F n z)
end
end L2.MB.Lw
end
section
namespace L2.MB.Lw
open PySem PySem.Spec PyProof.Rows L2.MB
def KeyIn (c:Nat) (own:Nat->Nat) (k:List Key):Prop:=∃ a b:Nat,a<c/\1<=b/\b<=own a/\k=vX a b
def tot (c:Nat) (own:Nat->Nat):Nat:=((List.range c).map own).sum
def univ (c:Nat) (own:Nat->Nat):List (List Key):=(List.range c).flatMap fun a=>(List.range (own a)).map fun b=>vX a ((b+1:Nat):Int)
theorem De (c:Nat) (own:Nat->Nat):(univ c own).length=tot c own:=by
 unfold univ tot
 rw[List.length_flatMap]
 congr 1
 apply List.map_congr_left
 intro a _
 simp
theorem KeyIn.univ {c:Nat}{own:Nat->Nat}{k:List Key} (h:KeyIn c own k):k∈univ c own:=by
 obtain⟨a,b,h1,h2,h3,rfl⟩:=h
 unfold Lw.univ
 rw[List.mem_flatMap]
 refine⟨a,List.mem_range.mpr h1,List.mem_map.mpr ⟨b-1,List.mem_range.mpr (by omega),?_⟩⟩
 rw[Nat.sub_add_cancel h2]
theorem KeyIn.mono {c:Nat}{own own':Nat->Nat}{k:List Key} (h:KeyIn c own k) (le:∀ a,own a<=own' a):KeyIn c own' k:=by
 obtain⟨a,b,h1,h2,h3,e⟩:=h
 exact⟨a,b,h1,h2,Nat.le_trans h3 (le a),e⟩
theorem yW {α:Type} [DecidableEq α]:∀ {l m:List α},l.Nodup->(∀ x∈l,x∈m)->l.length<=m.length
 |[],m,_,_=>Nat.zero_le _
 |a::r,m,h,hs=>by
  rw[List.nodup_cons] at h
  have ha:=hs a List.mem_cons_self
  have h1:=yW (l:=r) (m:=m.erase a) h.2 fun x hx=>(List.mem_erase_of_ne (fun z:x=a=>h.1 (z ▸ hx))).mpr (hs x (List.mem_cons_of_mem _ hx))
  rw[List.length_erase_of_mem ha] at h1
  have h2:=List.length_pos_of_mem ha
  rw[List.length_cons]
  omega
structure Hd.In (c:Nat) (own:Nat->Nat) (hd:Hd):Prop where
 len:hd.knows.length=c
 row:∀ xs∈hd.knows,xs.length=c
 kb:∀ xs∈hd.knows,∀ a,a<c->0<=xs.getD a 0/\xs.getD a 0<=own a
 kk:∀ kv∈hd.kept,KeyIn c own kv.1
 kn:(hd.kept.map (·.1)).Nodup
 kv:∀ kv∈hd.kept,∃ ks:List (List Key),kv.2=.tup (ks.map cR)/\ks.length<64/\∀ q∈ks,KeyIn c own q
 tk:∀ kv∈hd.table,∃ a b:Nat,a<c/\1<=b/\b<=own a/\kv.1=vX a b/\∃(x:Str) (v:Int),kv.2=.tup [.str x,mkD a b,.int v]
 tn:(hd.table.map (·.1)).Nodup
section
variable {c:Nat}{own own':Nat->Nat}{hd tl:Hd}{i j:Nat}
theorem Hd.In.ok (W:hd.In c own) (c0:0<c) (c8:c<=8) (ht:tot c own<64):hd.Ok c where
 len:=W.len
 row:=W.row
 small:=c8
 pos:=c0
 kk:=fun kv h=>by
  obtain⟨a,b,h1,_,_,e⟩:=W.kk kv h
  exact⟨a,b,e,by omega,by omega⟩
 kn:=W.kn
 kl:=by
  have:=yW W.kn (m:=univ c own) fun x hx=>by
   obtain⟨kv,h1,rfl⟩:=List.mem_map.mp hx
   exact(W.kk kv h1).univ
  rw[De,List.length_map] at this
  omega
 tk:=fun kv h=>by
  obtain⟨a,b,h1,_,_,e,x,v,e2⟩:=W.tk kv h
  exact⟨a,b,by omega,by omega,e,x,v,e2⟩
 tn:=W.tn
 tl:=by
  have:=yW W.tn (m:=univ c own) fun x hx=>by
   obtain⟨kv,h1,rfl⟩:=List.mem_map.mp hx
   obtain⟨a,b,h2,h3,h4,e,_⟩:=W.tk kv h1
   exact KeyIn.univ ⟨a,b,h2,h3,h4,e⟩
  rw[De,List.length_map] at this
  omega
theorem Hd.In.mono (W:hd.In c own) (le:∀ a,own a<=own' a):hd.In c own' where
 len:=W.len
 row:=W.row
 kb:=fun xs hx a ha=>⟨(W.kb xs hx a ha).1,Int.le_trans (W.kb xs hx a ha).2 (by have:=le a;omega)⟩
 kk:=fun kv h=>(W.kk kv h).mono le
 kn:=W.kn
 kv:=fun kv h=>by
  obtain⟨ks,e,hl,h2⟩:=W.kv kv h
  exact⟨ks,e,hl,fun q hq=>(h2 q hq).mono le⟩
 tk:=fun kv h=>by
  obtain⟨a,b,h1,h2,h3,r⟩:=W.tk kv h
  exact⟨a,b,h1,h2,Nat.le_trans h3 (le a),r⟩
 tn:=W.tn
theorem pL {kvs:List (List Key×D)}{k:List Key}{v:D}{p:List Key×D} (h:p∈nW kvs k v):p=(k,v)∨p∈kvs:=by
 unfold nW at h
 split at h
 ·obtain⟨q,h1,h2⟩:=List.mem_map.mp h
  by_cases hq:q.1=k
  ·rw[if_pos hq] at h2
   exact .inl (by rw[<- h2,hq])
  ·rw[if_neg hq] at h2
   exact .inr (h2 ▸ h1)
 ·rcases List.mem_append.mp h with z|z
  ·exact .inr z
  ·exact .inl (by simpa using z)
theorem mI {kvs:List (List Key×D)}{k:List Key}{v:D} (h:(kvs.map (·.1)).Nodup):((nW kvs k v).map (·.1)).Nodup:=by
 unfold nW
 split
 ·rw[List.map_map]
  rw[show kvs.map ((·.1)∘fun kv=>if kv.1=k then(kv.1,v) else kv)=kvs.map (·.1) from List.map_congr_left fun kv _=>by
   show(if kv.1=k then(kv.1,v) else kv).1=kv.1
   split <;> rfl]
  exact h
 ·rename_i hn
  rw[List.map_append,List.nodup_append]
  refine⟨h,by simp,fun a ha b hb z=>hn ?_⟩
  rw[List.any_eq_true]
  obtain⟨p,h1,h2⟩:=List.mem_map.mp ha
  refine⟨p,h1,decide_eq_true ?_⟩
  have hb':b=k:=by simpa using hb
  rw[h2,z,hb']
theorem GO (kvs:List (List Key×D)) (k:List Key):(iG kvs k).Sublist kvs:=List.filter_sublist
theorem uS:∀(ks:List (List Key)) (kvs:List (List Key×D)),(ks.foldl iG kvs).Sublist kvs
 |[],kvs=>List.Sublist.refl _
 |k::ks,kvs=>(uS ks (iG kvs k)).trans (GO kvs k)
theorem tM:∀ {out:List D}{T:List (List Key×D)},(T.map (·.1)).Nodup->((BX out T).map (·.1)).Nodup
 |[],T,h=>h
 |d::out,T,h=>tM (out:=out) (mI h)
theorem Ao:∀ {out:List D}{T:List (List Key×D)}{p:List Key×D},p∈BX out T->p∈T∨∃ d∈out,p=(iF d,d)
 |[],T,p,h=>.inl h
 |d::out,T,p,h=>by
  rcases Ao (out:=out) (T:=nW T (iF d) d) h with z|⟨d',h1,h2⟩
  ·rcases pL z with z|z
   ·exact .inr ⟨d,List.mem_cons_self,z⟩
   ·exact .inl z
  ·exact .inr ⟨d',List.mem_cons_of_mem _ h1,h2⟩
theorem rR:∀ {ms kvs:List (List Key×D)},(kvs.map (·.1)).Nodup->((uE kvs ms).map (·.1)).Nodup
 |[],kvs,h=>h
 |d::ms,kvs,h=>rR (ms:=ms) (kvs:=nW kvs d.1 d.2) (mI h)
theorem qR:∀ {ms kvs:List (List Key×D)}{p:List Key×D},p∈uE kvs ms->p∈kvs∨p∈ms
 |[],kvs,p,h=>.inl h
 |d::ms,kvs,p,h=>by
  rcases qR (ms:=ms) (kvs:=nW kvs d.1 d.2) h with z|z
  ·rcases pL z with z|z
   ·exact .inr (by rw[z];exact List.mem_cons_self)
   ·exact .inl z
  ·exact .inr (List.mem_cons_of_mem _ z)
theorem DM (xs:List Int) (i a:Nat) (v:Int) (hi:i<xs.length):(xs.set i v).getD a 0=if a=i then v else xs.getD a 0:=by
 rw[List.getD_eq_getElem?_getD,List.getD_eq_getElem?_getD,List.getElem?_set]
 by_cases h:a=i
 ·subst h
  simp[hi]
 ·rw[if_neg (Ne.symm h),if_neg h]
theorem Js {f:Int->Int->Int}{xs ys:List Int}{a:Nat} (h1:a<xs.length) (h2:a<ys.length):(List.zipWith f xs ys).getD a 0=f (xs.getD a 0) (ys.getD a 0):=by
 simp[List.getD_eq_getElem?_getD,List.getElem?_zipWith,List.getElem?_eq_getElem h1,List.getElem?_eq_getElem h2]
theorem JP {α β γ:Type}{f:α->β->γ}:∀ {xs:List α}{ys:List β}{z:γ},z∈List.zipWith f xs ys->∃ x∈xs,∃ y∈ys,z=f x y
 |[],_,_,h=>by simp at h
 |_::_,[],_,h=>by simp at h
 |x::xs,y::ys,z,h=>by
  rw[List.zipWith_cons_cons] at h
  rcases List.mem_cons.mp h with h|h
  ·exact⟨x,List.mem_cons_self,y,List.mem_cons_self,h⟩
  ·obtain⟨x',h1,y',h2,e⟩:=JP h
   exact⟨x',List.mem_cons_of_mem _ h1,y',List.mem_cons_of_mem _ h2,e⟩
def iO (own:Nat->Nat) (i:Nat):Nat->Nat:=fun a=>if a=i then own a+1 else own a
theorem tH (own:Nat->Nat) (i a:Nat):own a<=iO own i a:=by
 unfold iO
 split <;> omega
theorem Hd.In.seenMem (W:hd.In c own) (hi:i<c):hd.seen i∈hd.knows:=by
 unfold Hd.seen
 have:i<hd.knows.length:=by rw[W.len];exact hi
 rw[List.getD_eq_getElem?_getD,List.getElem?_eq_getElem this]
 exact List.getElem_mem this
theorem Hd.In.seenLen (W:hd.In c own) (hi:i<c):(hd.seen i).length=c:=W.row _ (W.seenMem hi)
theorem Hd.In.bump (W:hd.In c own) (hi:i<c) (hs:(hd.seen i).getD i 0=own i):(hd.bump i).In c (iO own i):=by
 have W':=W.mono (tH own i)
 refine⟨?_,?_,?_,W'.kk,W'.kn,W'.kv,W'.tk,W'.tn⟩
 ·show(hd.knows.set i _).length=c
  rw[List.length_set]
  exact W.len
 ·intro xs hx
  rcases List.mem_or_eq_of_mem_set hx with z|z
  ·exact W.row xs z
  ·rw[z,List.length_set]
   exact W.seenLen hi
 ·intro xs hx a ha
  rcases List.mem_or_eq_of_mem_set hx with z|z
  ·exact W'.kb xs z a ha
  ·rw[z,DM _ _ _ _ (by rw[W.seenLen hi];exact hi)]
   by_cases h:a=i
   ·rw[if_pos h,hs,h]
    unfold iO
    rw[if_pos rfl]
    omega
   ·rw[if_neg h]
    exact W'.kb _ (W.seenMem hi) a ha
theorem zU (W:hd.In c own) (hi:i<c) (hs:(hd.seen i).getD i 0=own i):((hd.bump i).seen i).getD i 0=iO own i i:=by
 have:(hd.bump i).seen i=(hd.seen i).set i ((hd.seen i).getD i 0+1):=by
  show(hd.knows.set i _).getD i []=_
  rw[List.getD_eq_getElem?_getD,List.getElem?_set_self (by rw[W.len];exact hi)]
  rfl
 rw[this,DM _ _ _ _ (by rw[W.seenLen hi];exact hi),if_pos rfl,hs]
 unfold iO
 rw[if_pos rfl]
 omega
theorem Ii (hs:(hd.seen i).getD i 0=own i):hd.next i=((iO own i i:Nat):Int):=by
 unfold Hd.next iO
 rw[hs,if_pos rfl]
 omega
theorem yX (hi:i<c) (hs:(hd.seen i).getD i 0=own i):KeyIn c (iO own i) (vX i (hd.next i)):=by
 rw[Ii hs]
 refine⟨i,iO own i i,hi,?_,Nat.le_refl _,rfl⟩
 unfold iO
 rw[if_pos rfl]
 omega
theorem Hd.In.put (W:hd.In c own) (hi:i<c) (hs:(hd.seen i).getD i 0=own i) (x:Str) (v:Int):(hd.put i x v).In c (iO own i):=by
 have B:=W.bump hi hs
 refine⟨B.len,B.row,B.kb,B.kk,B.kn,B.kv,?_,mI W.tn⟩
 intro kv hkv
 rcases pL hkv with z|z
 ·obtain⟨a,b,h1,h2,h3,e⟩:=yX hi hs
  have hab:(i:Int)=a/\hd.next i=b:=by
   unfold vX at e
   simp at e
   omega
  refine⟨a,b,h1,h2,h3,by rw[z];exact e,x,v,?_⟩
  rw[z]
  show D.tup [.str x,mkD i (hd.next i),.int v]=D.tup [.str x,mkD a b,.int v]
  unfold mkD
  rw[hab.1,hab.2]
 ·exact B.tk kv z
theorem Hd.In.takeOut0 (W:hd.In c own) {mk:List Key}{ks:List (List Key)} (hm:KeyIn c own mk) (hl:ks.length<64) (hk:∀ q∈ks,KeyIn c own q):(hd.takeOut0 mk ks).In c own:=by
 refine⟨W.len,W.row,W.kb,?_,?_,?_,fun kv h=>W.tk kv ((uS ks hd.table).subset h),?_⟩
 ·intro kv h
  change kv∈(if ks=[] then hd.kept else _) at h
  split at h
  ·exact W.kk kv h
  ·rcases pL h with z|z
   ·rw[z];exact hm
   ·exact W.kk kv z
 ·show((if ks=[] then hd.kept else _).map (·.1)).Nodup
  split
  ·exact W.kn
  ·exact mI W.kn
 ·intro kv h
  change kv∈(if ks=[] then hd.kept else _) at h
  split at h
  ·exact W.kv kv h
  ·rcases pL h with z|z
   ·rw[z];exact⟨ks,rfl,hl,hk⟩
   ·exact W.kv kv z
 ·exact W.tn.sublist ((uS ks hd.table).map _)
theorem Hd.In.forget (W:hd.In c own):hd.forget.In c own:=
 ⟨W.len,W.row,W.kb,fun kv h=>W.kk kv (List.mem_filter.mp h).1,W.kn.sublist (List.filter_sublist.map _),fun kv h=>W.kv kv (List.mem_filter.mp h).1,W.tk,W.tn⟩
theorem Hd.In.hear0 (W:hd.In c own) (V:tl.In c own) (Wo:hd.Ok c) (Vo:tl.Ok c) (hi:i<c) (hj:j<c):(hd.hear0 i tl j).In c own:=by
 have joinB:∀ xs ys:List Int,xs.length=c->ys.length=c->(∀ a,a<c->0<=xs.getD a 0/\xs.getD a 0<=own a)->(∀ a,a<c->0<=ys.getD a 0/\ys.getD a 0<=own a)->(List.zipWith mx xs ys).length=c/\∀ a,a<c->0<=(List.zipWith mx xs ys).getD a 0/\(List.zipWith mx xs ys).getD a 0<=own a:=by
  intro xs ys h1 h2 h3 h4
  refine⟨by rw[List.length_zipWith,h1,h2,Nat.min_self],fun a ha=> ?_⟩
  rw[Js (by omega) (by omega)]
  unfold mx
  split
  ·exact h4 a ha
  ·exact h3 a ha
 have rowsB:∀ zs∈(hd.hear0 i tl j).knows,zs.length=c/\∀ a,a<c->0<=zs.getD a 0/\zs.getD a 0<=own a:=by
  intro zs hz
  rcases List.mem_or_eq_of_mem_set hz with z|z
  ·obtain⟨x,hx,y,hy,rfl⟩:=JP z
   exact joinB x y (W.row x hx) (V.row y hy) (W.kb x hx) (V.kb y hy)
  ·rw[z]
   exact joinB _ _ (W.seenLen hi) (V.seenLen hj) (W.kb _ (W.seenMem hi)) (V.kb _ (V.seenMem hj))
 have entT:∀ {hd:Hd},hd.In c own->hd.Ok c->∀ d∈hd.ents,∃ a b:Nat,a<c/\1<=b/\b<=own a/\iF d=vX a b/\∃(x:Str) (v:Int),d=.tup [.str x,mkD a b,.int v]:=by
  intro hd W Wo d hd'
  obtain⟨kv,h1,rfl⟩:=List.mem_map.mp (Wo.ents.2.mem_iff.mp hd')
  obtain⟨a,b,h2,h3,h4,e,x,v,e2⟩:=W.tk kv h1
  exact⟨a,b,h2,h3,h4,by rw[e2];rfl,x,v,e2⟩
 refine⟨?_,fun xs hx=>(rowsB xs hx).1,fun xs hx=>(rowsB xs hx).2,?_,rR W.kn,?_,?_,tM (by simp)⟩
 ·show((List.zipWith (List.zipWith mx) hd.knows tl.knows).set i _).length=c
  rw[List.length_set,List.length_zipWith,W.len,V.len,Nat.min_self]
 ·intro kv h
  rcases qR h with z|z
  ·exact W.kk kv z
  ·exact V.kk kv z
 ·intro kv h
  rcases qR h with z|z
  ·exact W.kv kv z
  ·exact V.kv kv z
 ·intro kv h
  rcases Ao h with z|⟨d,hd',rfl⟩
  ·simp at z
  ·rcases List.mem_append.mp hd' with z|z
   ·exact entT W Wo d (List.mem_filter.mp z).1
   ·exact entT V Vo d (List.mem_filter.mp z).1
theorem IE (W:hd.In c own) (V:tl.In c own) (hi:i<c) (hj:j<c) (hs:(hd.seen i).getD i 0=own i):((hd.hear i tl j).seen i).getD i 0=own i:=by
 have:(hd.hear i tl j).seen i=List.zipWith mx (hd.seen i) (tl.seen j):=by
  show((List.zipWith (List.zipWith mx) hd.knows tl.knows).set i _).getD i []=_
  rw[List.getD_eq_getElem?_getD,List.getElem?_set_self (by rw[List.length_zipWith,W.len,V.len,Nat.min_self];exact hi)]
  rfl
 rw[this,Js (by rw[W.seenLen hi];exact hi) (by rw[V.seenLen hj];exact hi),hs]
 have:=(V.kb _ (V.seenMem hj) i hi).2
 unfold mx
 rw[if_neg (by omega)]
theorem Hd.Ok.marksLen (Wo:hd.Ok c) (x:Str):(hd.marksK x).length<64:=by
 unfold Hd.marksK
 rw[List.length_map]
 exact Nat.lt_of_le_of_lt (List.length_filter_le ..) Wo.entsLen
theorem Hd.In.marks (W:hd.In c own) (Wo:hd.Ok c) (x:Str):∀ q∈hd.marksK x,KeyIn c own q:=fun q hq=>by
 obtain⟨kv,h1,rfl⟩:=List.mem_map.mp (Wo.marksIn x q hq)
 obtain⟨a,b,h2,h3,h4,e,_⟩:=W.tk kv h1
 exact⟨a,b,h2,h3,h4,e⟩
end
theorem uJ:∀ {U:List (List Key)},fT U=true->(∀ k∈U,∃ a,fW k=some a)/\∀ k∈U,∀ k'∈U,fW k=fW k'->k=k'
 |[],_=>⟨fun k h=>by simp at h,fun k h=>by simp at h⟩
 |k::r,h=>by
  have h':((fW k).isSome&&r.all (fun k'=>match fW k,fW k' with
   |some a,some b=>decide (a≠b)
   |_,_=>false)&&fT r)=true:=h
  rw[Bool.and_eq_true,Bool.and_eq_true] at h'
  obtain⟨⟨h0,ha⟩,hr⟩:=h'
  obtain⟨i1,i2⟩:=uJ hr
  have main:∀ y∈r,fW k=fW y->False:=fun y hy e=>by
   have:=List.all_eq_true.mp ha y hy
   split at this
   ·rename_i a b e1 e2
    rw[e1,e2] at e
    cases e
    simp at this
   ·cases this
  refine⟨fun q hq=> ?_,fun q hq q' hq' e=> ?_⟩
  ·rcases List.mem_cons.mp hq with rfl|hq
   ·exact Option.isSome_iff_exists.mp h0
   ·exact i1 q hq
  ·rcases List.mem_cons.mp hq with z|hq1
   ·rcases List.mem_cons.mp hq' with z'|hq2
    ·rw[z,z']
    ·rw[z] at e
     exact(main q' hq2 e).elim
   ·rcases List.mem_cons.mp hq' with z'|hq2
    ·rw[z'] at e
     exact(main q hq1 e.symm).elim
    ·exact i2 q hq1 q' hq2 e
theorem rT {U:List (List Key)} (hU:fT U=true):∀ {ks:List (List Key)},(∀ k∈ks,k∈U)->ks.Nodup->fT ks=true
 |[],_,_=>rfl
 |k::r,hs,nd=>by
  rw[List.nodup_cons] at nd
  obtain⟨s1,s2⟩:=uJ hU
  have hk:=hs k List.mem_cons_self
  obtain⟨a,ea⟩:=s1 k hk
  show((fW k).isSome&&r.all (fun k'=>match fW k,fW k' with
   |some a,some b=>decide (a≠b)
   |_,_=>false)&&fT r)=true
  rw[Bool.and_eq_true,Bool.and_eq_true]
  refine⟨⟨by rw[ea];rfl,?_⟩,rT hU (fun q hq=>hs q (List.mem_cons_of_mem _ hq)) nd.2⟩
  rw[List.all_eq_true]
  intro k' hk'
  obtain⟨b,eb⟩:=s1 k' (hs k' (List.mem_cons_of_mem _ hk'))
  rw[ea,eb]
  show decide (a≠b)=true
  refine decide_eq_true fun z=>nd.1 ?_
  rw[s2 k hk k' (hs k' (List.mem_cons_of_mem _ hk')) (by rw[ea,eb,z])]
  exact hk'
end L2.MB.Lw
end
section
namespace L2.MB.Lw
open PySem PySem.Spec PyProof.Rows L2.MB
theorem RowsAt.mem {ω:Om}{rs:List Nat}{kn:List (List Int)} (h:RowsAt ω rs kn):∀ r∈rs,∃ xs,ω[r]?=some (.ml (iv xs)):=by
 induction h with
 |nil=>intro r hr;simp at hr
 |cons h0 _ ih=>
  intro r hr
  rcases List.mem_cons.mp hr with rfl|hr
  ·exact⟨_,h0⟩
  ·exact ih r hr
theorem Em {ω:Om}{rs:List Nat}{kn:List (List Int)} (h:RowsAt ω rs kn):(rs.map D.obj).map (fun d=>D.lst ((dO ω d).getD []))=kn.map fun xs=>D.lst (iv xs):=by
 induction h with
 |nil=>rfl
 |@cons r x rs kn h0 _ ih=>
  rw[List.map_cons,List.map_cons,List.map_cons,ih]
  have:dO ω (.obj r)=some (iv x):=by simp only[dO,eN,h0]
  rw[this]
  rfl
theorem Gq {ω:Om}{n:Nat}{ds:List D} (h:ω[n]?=some (.ml ds)):vY n ds ω=true:=by
 unfold vY
 rw[h]
 exact sameDs_refl _
theorem NC (a b a' b':Int):∃ c,zA 4 (.tup [.int a,.int b]) (.tup [.int a',.int b'])=some c:=by
 show ∃ c,(match eqD 4 (.int a) (.int a') with
  |some true=>(match eqD 4 (.int b) (.int b') with
   |some true=>some _
   |some false=>nH (.int b) (.int b')
   |none=>none)
  |some false=>nH (.int a) (.int a')
  |none=>none)=some c
 have e1:eqD 4 (.int a) (.int a')=some (decide (a=a')):=rfl
 have e2:eqD 4 (.int b) (.int b')=some (decide (b=b')):=rfl
 rw[e1,e2]
 cases decide (a=a') with
 |false=>exact⟨_,rfl⟩
 |true=>
  cases decide (b=b') with
  |false=>exact⟨_,rfl⟩
  |true=>exact⟨_,rfl⟩
section
variable {ω:Om}{h k t e:Nat}{i c:Nat}{hd:Hd}{rs fp:List Nat}{own:Nat->Nat}
theorem Ir (H:HandAt ω h i hd k t e rs) (hl:rs.length<=sizeLine):iS [.obj h] ω=some (.ok (.lst (hd.knows.map fun xs=>.lst (iv xs))),ω):=by
 refine bC rfl (bM (gW (ds:=rs.map D.obj) (chk:=vY k (rs.map D.obj)) (ω1:=ω) ?_ (by simpa using hl) ?_))
 ·unfold oIL
  rw[bO (H.knows (aD rfl))]
  have:xQ ω (.obj k)=some (rs.map D.obj,vY k (rs.map D.obj)):=by simp only[xQ,H.kn]
  show oR (pu (xQ ω (.obj k)) ω)=_
  rw[this]
  rfl
 ·rw[<- Em H.rows]
  refine kG (fun ρ=>ρ.length=1) (Gq H.kn) rfl fun d hd ρ hρ=> ?_
  obtain⟨r,hr,rfl⟩:=List.mem_map.mp hd
  obtain⟨xs,ex⟩:=H.rows.mem r hr
  match ρ,hρ with
  |[u],_=>
   refine⟨_,rfl,rfl,fD (aC (aD (d:=.obj r) rfl) aJ) ?_⟩
   have:dO ω (.obj r)=some (iv xs):=by simp only[dO,eN,ex]
   show(dO ω (.obj r)).map _=_
   rw[this]
   rfl
theorem Hw {f:OG D}{ρ:Rho} (H:HandAt ω h i hd k t e rs) (hi:i<hd.knows.length) (ef:f ρ ω=some (.ok (.obj h),ω)):oL kU (aE (bL 0 "seen" cC f aU) aU) ρ ω=some (.ok (.lst (iv (hd.seen i))),ω):=by
 obtain⟨r,hr,er⟩:=H.seenRow hi
 refine fD (aC (cI ef H.obj rfl (nV H hr)) aJ) ?_
 have:dO ω (.obj r)=some (iv (hd.seen i)):=by simp only[dO,eN,er]
 show(dO ω (.obj r)).map _=_
 rw[this]
 rfl
def Hd.mindK (hd:Hd):List D:=(mR 4 (hd.kept.map fun p=>cR p.1)).getD []
def Hd.mindV (hd:Hd) (q:D):D:=match Fp q with
 |some k=>(match lZ hd.kept k with
  |some (.tup ds)=>.lst ds
  |_=>.non)
 |none=>.non
def Hd.mind (hd:Hd):List D:=hd.mindK.map fun q=>.tup [q,hd.mindV q]
theorem Hd.Ok.mindK (W:hd.Ok c):mR 4 (hd.kept.map fun p=>cR p.1)=some hd.mindK/\hd.mindK.Perm (hd.kept.map fun p=>cR p.1):=by
 have key:∀ d∈hd.kept.map fun p=>cR p.1,∃ a b:Int,d=.tup [.int a,.int b]:=fun d hd'=>by
  obtain⟨kv,h1,rfl⟩:=List.mem_map.mp hd'
  obtain⟨a,b,e,_⟩:=W.kk kv h1
  exact⟨a,b,by show cR kv.1=_;rw[e];rfl⟩
 obtain⟨out,e1,e2⟩:=Dk (m:=4) (ds:=hd.kept.map fun p=>cR p.1) (by rw[List.length_map];exact W.kl) (by
  unfold nY
  rw[Bool.or_eq_true]
  left
  rw[List.all_eq_true]
  intro d hd'
  obtain⟨a,b,rfl⟩:=key d hd'
  rfl) (fun x hx y hy=>by
  obtain⟨a,b,rfl⟩:=key x hx
  obtain⟨a',b',rfl⟩:=key y hy
  exact NC a b a' b')
 have:hd.mindK=out:=by unfold Hd.mindK;rw[e1];rfl
 rw[this]
 exact⟨e1,e2⟩
theorem Dz (W:hd.In c own) {q:List Key×D} (hq:q∈hd.kept):∃ ks:List (List Key),lZ hd.kept q.1=some (.tup (ks.map cR))/\hd.mindV (cR q.1)=.lst (ks.map cR)/\ks.length<64/\∀ x∈ks,KeyIn c own x:=by
 obtain⟨ks,e,hl,h2⟩:=W.kv q hq
 have e1:=Fg W.kn hq
 rw[e] at e1
 refine⟨ks,e1,?_,hl,h2⟩
 unfold Hd.mindV
 rw[Dg]
 show(match lZ hd.kept q.1 with
  |some (.tup ds)=>D.lst ds
  |_=>.non)=_
 rw[e1]
theorem EJ (H:HandAt ω h i hd k t e rs) (W:hd.Ok c) (I:hd.In c own):fL [.obj h] ω=some (.ok (.lst hd.mind),ω):=by
 have hl:hd.mindK.length<64:=by rw[W.mindK.2.length_eq,List.length_map];exact W.kl
 refine bC rfl (bM (gW (ds:=hd.mindK) (chk:=dH) (ω1:=ω) ?_ (Nat.le_of_lt (gL hl)) ?_))
 ·unfold oIL
  rw[bO (fD (d:=.lst hd.mindK) (ω2:=ω) (aC (H.kept (aD rfl)) aJ) (by
   simp only[IK,cellOf,H.kp]
   rw[W.mindK.1]
   rfl))]
  rfl
 ·refine kG (fun ρ=>∃ u,ρ=[u,some (.obj h)]) rfl ⟨_,rfl⟩ fun d hd' ρ hρ=> ?_
  obtain⟨q,hq,rfl⟩:=List.mem_map.mp (W.mindK.2.mem_iff.mp hd')
  obtain⟨ks,e1,e2,_⟩:=Dz I hq
  obtain⟨u,rfl⟩:=hρ
  refine⟨_,rfl,⟨_,rfl⟩,fD (aC (aD (d:=cR q.1) rfl) (aC (fD (aC (lG (d:=.tup (ks.map cR)) (H.kept (aD rfl)) (aD (d:=cR q.1) rfl) (by
   show pu (wJ ω (.obj e) (cR q.1)) ω=_
   have:wJ ω (.obj e) (cR q.1)=some (.tup (ks.map cR)):=by
    simp only[wJ,IR,cellOf,H.kp,Dg]
    rw[Option.map_some,e1]
    rfl
   rw[this]
   rfl)) aJ) (d:=.lst (ks.map cR)) rfl) aJ)) ?_⟩
  show pu (iN [cR q.1,.lst (ks.map cR)]) ω=some (D.tup [cR q.1,hd.mindV (cR q.1)],ω)
  rw[e2]
  unfold iN
  rw[if_pos (by rw[sizeLine_eq];simp)]
  rfl
end
def Hd0 (c:Nat):Hd:=⟨List.replicate c (List.replicate c 0),[],[]⟩
theorem DR:∀ c:Nat,(List.replicate c [D.int 0]).flatten=iv (List.replicate c 0)
 |0=>rfl
 |c+1=>by
  rw[List.replicate_succ,List.flatten_cons,DR c]
  rfl
theorem GN {c:Nat} (c8:c<=8):∀(ds:List D) (u:Option D) (ω:Om),compLO (bN 0) dH (oPT nN) (o2 IM (oL (fun ω ds=>pu (pV ds) ω) (aE (oP (dC (.int 0))) aU)) (oP (aF 1))) ds [u,some (.int c)] ω=some ((List.range' ω.length ds.length).map D.obj,ω++List.replicate ds.length (.ml (iv (List.replicate c 0))))
 |[],u,ω=>by
  show some ([],ω)=_
  simp
 |d::ds,u,ω=>by
  have ih:=GN c8 ds (some d) (ω++[.ml (iv (List.replicate c 0))])
  have b1:o2 IM (oL (fun ω ds=>pu (pV ds) ω) (aE (oP (dC (.int 0))) aU)) (oP (aF 1)) [some d,some (.int c)] ω=some (.ok (.obj ω.length),ω++[.ml (iv (List.replicate c 0))]):=by
   refine lG (ω1:=ω) (ω2:=ω) (a:=.lst [.int 0]) (b:=.int c) (fD (aC bF aJ) ?_) (aD rfl) ?_
   ·show pu (pV [.int 0]) ω=_
    unfold pV
    rw[if_pos (by rw[sizeLine_eq];simp)]
    rfl
   ·show(if -1000000<=(c:Int)/\(c:Int)<=1000000/\1*(c:Int).toNat<=sizeLine then some (D.obj ω.length,ω++[.ml (List.replicate (c:Int).toNat [D.int 0]).flatten]) else none)=_
    rw[if_pos ⟨by omega,by omega,by rw[sizeLine_eq];omega⟩,Int.toNat_natCast,DR]
  refine(Bu rfl rfl (b1)).trans ?_
  rw[ih,List.length_cons,List.range'_succ,List.map_cons,List.replicate_succ,List.length_append]
  show some (_,_)=_
  rw[List.append_assoc]
  rfl
theorem IL {c:Nat} (c8:c<=1000):sJ [.int (c:Int)]=some (sI 0 c):=by
 show(if -1000000000<=(c:Int)/\(c:Int)<=1000000000 then some (sI 0 (c:Int).toNat) else none)=_
 rw[if_pos ⟨by omega,by omega⟩,Int.toNat_natCast]
theorem xA {f:OG D}{ρ:Rho}{ω ω1:Om}{c:Nat} (e:f ρ ω=some (.ok (.int c),ω1)) (c8:c<=1000):oIA sJ (aE f aU) ρ ω=some (.ok (sI 0 c,dH),ω1):=by
 unfold oIA
 rw[bO (aC e aJ)]
 show oR (pu ((sJ [.int (c:Int)]).map _) ω1)=_
 rw[IL c8]
 rfl
theorem Gy {ω:Om}{i c:Nat} (c8:c<=8):∃ ω' fp,eU [.obj ω.length,.int i,.int c] (ω++[.ins 0 []])=some (.ok .non,ω')/\HandS ω' ω.length i (Hd0 c) fp/\Keep [] ω ω'/\∀ n∈fp,ω.length<=n:=by
 obtain⟨ω1,hω1⟩:∃ ω1,ω1=(ω++[Ob.ins 0 []]).set ω.length (.ins 0 [("number",.int i)]):=⟨_,rfl⟩
 have g0:(ω++[Ob.ins 0 []])[ω.length]?=some (.ins 0 []):=by simp
 have g1:ω1[ω.length]?=some (.ins 0 [("number",.int i)]):=by rw[hω1];exact dG g0
 have l1:ω1.length=ω.length+1:=by rw[hω1];simp
 have k1:∀ n,n<ω.length->ω1[n]?=ω[n]?:=fun n hn=>by rw[hω1,aZ (by omega),List.getElem?_append_left hn]
 have fill:=GN c8 (sI 0 c) none ω1
 rw[mH] at fill
 obtain⟨ω2,hω2⟩:∃ ω2,ω2=ω1++List.replicate c (Ob.ml (iv (List.replicate c 0))):=⟨_,rfl⟩
 rw[<- hω2] at fill
 have l2:ω2.length=ω.length+1+c:=by rw[hω2];simp[l1]
 obtain⟨ω3,hω3⟩:∃ ω3,ω3=ω2++[Ob.ml ((List.range' ω1.length c).map D.obj)]:=⟨_,rfl⟩
 have l3:ω3.length=ω.length+2+c:=by rw[hω3];simp[l2];omega
 have k3:∀ n,n<ω.length+1->ω3[n]?=ω1[n]?:=fun n hn=>by rw[hω3,List.getElem?_append_left (by omega),hω2,List.getElem?_append_left (by omega)]
 have g3:ω3[ω.length]?=some (.ins 0 [("number",.int i)]):=by rw[k3 _ (by omega)];exact g1
 have r3:RowsAt ω3 (List.range' ω1.length c) (List.replicate c (List.replicate c 0)):=by
  have:=qO (List.replicate c (List.replicate c 0)) ω1 [Ob.ml ((List.range' ω1.length c).map D.obj)]
  rw[List.map_replicate,List.length_replicate,<- hω2,<- hω3] at this
  exact this
 have kk3:ω3[ω2.length]?=some (.ml ((List.range' ω1.length c).map D.obj)):=by rw[hω3];simp
 obtain⟨ω4,hω4⟩:∃ ω4,ω4=ω3.set ω.length (.ins 0 [("number",.int i),("knows",.obj ω2.length)]):=⟨_,rfl⟩
 have l4:ω4.length=ω.length+2+c:=by rw[hω4];simp[l3]
 have g4:ω4[ω.length]?=some (.ins 0 [("number",.int i),("knows",.obj ω2.length)]):=by rw[hω4];exact dG g3
 obtain⟨ω5,hω5⟩:∃ ω5,ω5=(ω4++[Ob.dt []]).set ω.length (.ins 0 [("number",.int i),("knows",.obj ω2.length),("table",.obj ω4.length)]):=⟨_,rfl⟩
 have g4':(ω4++[Ob.dt []])[ω.length]?=some (.ins 0 [("number",.int i),("knows",.obj ω2.length)]):=by rw[List.getElem?_append_left (by omega)];exact g4
 have l5:ω5.length=ω.length+3+c:=by rw[hω5];simp[l4];omega
 have g5:ω5[ω.length]?=some (.ins 0 [("number",.int i),("knows",.obj ω2.length),("table",.obj ω4.length)]):=by rw[hω5];exact dG g4'
 have t5:ω5[ω4.length]?=some (.dt []):=by rw[hω5,aZ (by omega)];simp
 obtain⟨ω6,hω6⟩:∃ ω6,ω6=(ω5++[Ob.dt []]).set ω.length (.ins 0 [("number",.int i),("knows",.obj ω2.length),("table",.obj ω4.length),("kept",.obj ω5.length)]):=⟨_,rfl⟩
 have g5':(ω5++[Ob.dt []])[ω.length]?=some (.ins 0 [("number",.int i),("knows",.obj ω2.length),("table",.obj ω4.length)]):=by rw[List.getElem?_append_left (by omega)];exact g5
 have l6:ω6.length=ω.length+4+c:=by rw[hω6];simp[l5];omega
 have g6:∀ n,n<ω.length+2+c->n≠ω.length->ω6[n]?=ω3[n]?:=fun n hn hne=>by
  rw[hω6,aZ hne,List.getElem?_append_left (by omega),hω5,aZ hne,List.getElem?_append_left (by omega),hω4,aZ hne]
 have rin:∀ q∈List.range' ω1.length c,ω.length+1<=q/\q<ω.length+1+c:=fun q hq=>by
  rw[List.mem_range'_1,l1] at hq
  exact hq
 refine⟨ω6,ω.length::ω2.length::ω4.length::ω5.length::List.range' ω1.length c,?_,⟨ω2.length,ω4.length,ω5.length,List.range' ω1.length c,⟨?_,?_,?_,?_,?_,?_⟩,rfl⟩,⟨by omega,fun n hn _=> ?_⟩,fun n hn=> ?_⟩
 ·refine yQ (ρ1:=[some (.obj ω.length),some (.int i),some (.int c)]) rfl ?_
  unfold jZ
  rw[bY (nU (aD (d:=.int i) rfl) (aD (d:=.obj ω.length) rfl) g0 (by simp))]
  rw[show(ω++[Ob.ins 0 []]).set ω.length (.ins 0 (pK "number" (.int i) []))=ω1 from by rw[hω1];rfl]
  rw[bY (nU (yV (ω2:=ω2) (xA (c:=c) (aD rfl) (by omega)) (by rw[mH,sizeLine_eq];omega) fill) (by rw[<- hω3];exact aD (d:=.obj ω.length) rfl) g3 (by simp))]
  rw[show ω3.set ω.length (.ins 0 (pK "knows" (.obj ω2.length) [("number",.int i)]))=ω4 from by rw[hω4];rfl]
  rw[bY (nU (v:=.obj ω4.length) (ω1:=ω4++[.dt []]) rfl (aD (d:=.obj ω.length) rfl) g4' (by simp))]
  rw[show(ω4++[Ob.dt []]).set ω.length (.ins 0 (pK "table" (.obj ω4.length) [("number",.int i),("knows",.obj ω2.length)]))=ω5 from by rw[hω5];rfl]
  rw[nU (v:=.obj ω5.length) (ω1:=ω5++[.dt []]) rfl (aD (d:=.obj ω.length) rfl) g5' (by simp)]
  rw[show(ω5++[Ob.dt []]).set ω.length (.ins 0 (pK "kept" (.obj ω5.length) [("number",.int i),("knows",.obj ω2.length),("table",.obj ω4.length)]))=ω6 from by rw[hω6];rfl]
  rfl
 ·rw[hω6];exact dG g5'
 ·rw[g6 _ (by omega) (by omega)];exact kk3
 ·exact r3.mono fun q hq=>by have:=rin q hq;exact g6 q (by omega) (by omega)
 ·rw[hω6,aZ (by omega),List.getElem?_append_left (by omega)];exact t5
 ·rw[hω6,aZ (by omega)];simp[Hd0]
 ·simp only[List.nodup_cons,List.mem_cons,not_or]
  refine⟨⟨by omega,by omega,by omega,fun z=>by have:=rin _ z;omega⟩,⟨by omega,by omega,fun z=>by have:=rin _ z;omega⟩,⟨by omega,fun z=>by have:=rin _ z;omega⟩,fun z=>by have:=rin _ z;omega,List.nodup_range'⟩
 ·rw[g6 n (by omega) (by omega),k3 n (by omega)];exact k1 n hn
 ·simp only[List.mem_cons] at hn
  rcases hn with z|z|z|z|z
  ·omega
  ·omega
  ·omega
  ·omega
  ·have:=rin n z;omega
theorem Gi {cl:Nat}{φ:eM}{fl:OG (List D)}{ρ:Rho}{ω ω1 ω2:Om}{ds:List D} (e1:fl ρ ω=some (.ok ds,ω1)) (e2:φ (.obj ω1.length::ds) (ω1++[.ins cl []])=some (.ok .non,ω2)):wF cl φ fl ρ ω=some (.ok (.obj ω1.length),ω2):=by
 unfold wF
 rw[bO e1]
 show(match φ (.obj ω1.length::ds) (ω1++[.ins cl []]) with
  |some (.ok .non,ω')=>some (Rz.ok (D.obj ω1.length),ω')
  |some (.ex c,ω')=>some (.ex c,ω')
  |_=>none)=_
 rw[e2]
theorem pI (s:Int) (m:Nat):sI s (m+1)=.int s::sI (s+1) m:=by
 unfold sI
 rw[List.range_succ_eq_map,List.map_cons,List.map_map]
 congr 1
 ·simp
 ·apply List.map_congr_left
  intro k _
  show D.int (s+((k+1:Nat):Int))=D.int (s+1+(k:Int))
  congr 1
  omega
theorem DK {c:Nat} (c8:c<=8):∀(m s:Nat) (u:Option D) (ω:Om),∃(ω':Om) (hs:Nat->Nat) (fp:Nat->List Nat),compLO (bN 0) dH (oPT nN) (wF 0 eU (aE (oP (aF 0)) (aE (oP (aF 1)) aU))) (sI s m) [u,some (.int c)] ω=some ((List.range' s m).map fun i=>D.obj (hs i),ω')/\
  (∀ i,s<=i->i<s+m->HandS ω' (hs i) i (Hd0 c) (fp i))/\(∀ i,s<=i->i<s+m->∀ n∈fp i,ω.length<=n)/\(∀ i,s<=i->i<s+m->∀ j,s<=j->j<s+m->i≠j->∀ n∈fp i,n∉fp j)/\Keep [] ω ω'
 |0,s,u,ω=>⟨ω,fun _=>0,fun _=>[],rfl,fun i h1 h2=>by omega,fun i h1 h2=>by omega,fun i h1 h2=>by omega,Keep.refl _ _⟩
 |m+1,s,u,ω=>by
  obtain⟨ω1,fp0,e1,H1,K1,F1⟩:=Gy (ω:=ω) (i:=s) c8
  obtain⟨ω2,hs,fp,e2,H2,F2,A2,K2⟩:=DK c8 m (s+1) (some (.int s)) ω1
  have ltH:=H1.lt
  refine⟨ω2,fun i=>if i=s then ω.length else hs i,fun i=>if i=s then fp0 else fp i,?_,fun i h1 h2=> ?_,fun i h1 h2 n hn=> ?_,fun i h1 h2 j h3 h4 hne n hn=> ?_,⟨Nat.le_trans K1.1 K2.1,fun n hn _=> ?_⟩⟩
  ·rw[pI]
   have mk:wF 0 eU (aE (oP (aF 0)) (aE (oP (aF 1)) aU)) [some (.int s),some (.int c)] ω=some (.ok (.obj ω.length),ω1):=Gi (aC (aD rfl) (aC (aD rfl) aJ)) e1
   refine(Bu rfl rfl (mk)).trans ?_
   show(compLO _ _ _ _ (sI ((s+1:Nat):Int) m) _ _).map _=_
   rw[e2,List.range'_succ,List.map_cons]
   show some (_::_,_)=_
   congr 3
   ·simp
   ·apply List.map_congr_left
    intro i hi
    rw[List.mem_range'_1] at hi
    show D.obj (hs i)=D.obj (if i=s then ω.length else hs i)
    rw[if_neg (by omega)]
  ·by_cases hi:i=s
   ·subst hi
    simp only[if_pos]
    exact H1.mono fun n hn=>K2.2 n (ltH n hn) (by simp)
   ·simp only[if_neg hi]
    exact H2 i (by omega) (by omega)
  ·by_cases hi:i=s
   ·simp only[if_pos hi] at hn
    exact F1 n hn
   ·simp only[if_neg hi] at hn
    exact Nat.le_trans K1.1 (F2 i (by omega) (by omega) n hn)
  ·by_cases hi:i=s
   ·by_cases hj:j=s
    ·exact absurd (hi.trans hj.symm) hne
    ·simp only[if_pos hi] at hn
     simp only[if_neg hj]
     intro z
     have:=F2 j (by omega) (by omega) n z
     have:=ltH n hn
     omega
   ·simp only[if_neg hi] at hn
    by_cases hj:j=s
    ·simp only[if_pos hj]
     intro z
     have:=F2 i (by omega) (by omega) n hn
     have:=ltH n z
     omega
    ·simp only[if_neg hj]
     exact A2 i (by omega) (by omega) j (by omega) (by omega) hne n hn
  ·rw[K2.2 n (Nat.lt_of_lt_of_le hn K1.1) (by simp)]
   exact K1.2 n hn (by simp)
structure HallS (B ω:Om) (g c:Nat) (hs:Nat->Nat) (fp:Nat->List Nat) (S:Nat->Hd):Prop where
 obj:ω[g]?=some (.ins 1 [("hands",.lst ((List.range c).map fun i=>.obj (hs i)))])
 hand:∀ i,i<c->HandS ω (hs i) i (S i) (fp i)
 apart:∀ i,i<c->∀ j,j<c->i≠j->∀ n∈fp i,n∉fp j
 out:∀ i,i<c->g∉fp i
 low:∀ i,i<c->∀ n∈fp i,B.length<=n
 bas:B.length<=ω.length/\∀ n,n<B.length->ω[n]?=B[n]?
theorem Bb {ω:Om}{c:Nat} (c8:c<=8) {fl:OG (List D)}{ρ:Rho} (e:fl ρ ω=some (.ok [.int c],ω)):∃ ω' hs fp,wF 1 gG fl ρ ω=some (.ok (.obj ω.length),ω')/\HallS ω ω' ω.length c hs fp (fun _=>Hd0 c):=by
 obtain⟨ω1,hs,fp,e1,H1,F1,A1,K1⟩:=DK c8 c 0 none (ω++[Ob.ins 1 []])
 have g0:(ω++[Ob.ins 1 []])[ω.length]?=some (.ins 1 []):=by simp
 have g1:ω1[ω.length]?=some (.ins 1 []):=(K1.2 _ (by simp) (by simp)).trans g0
 have l1:=K1.1
 rw[List.length_append] at l1
 have hl:[Ob.ins 1 []].length=1:=rfl
 have f1:∀ i,i<c->∀ n∈fp i,n≠ω.length:=fun i hi n hn z=>by
  have:=F1 i (by omega) (by omega) n hn
  rw[List.length_append] at this
  omega
 refine⟨ω1.set ω.length (.ins 1 [("hands",.lst ((List.range c).map fun i=>.obj (hs i)))]),hs,fp,Gi e ?_,⟨dG g1,fun i hi=> ?_,fun i hi j hj=>A1 i (by omega) (by omega) j (by omega) (by omega),fun i hi z=>f1 i hi _ z rfl,fun i hi n hn=> ?_,⟨by simp;omega,fun n hn=> ?_⟩⟩⟩
 ·refine yQ (ρ1:=[some (.obj ω.length),some (.int c)]) rfl ?_
  unfold kD
  rw[nU (gW (ω2:=ω1) (xA (c:=c) (aD rfl) (by omega)) (by rw[mH,sizeLine_eq];omega) e1) (aD (d:=.obj ω.length) rfl) g1 (by simp)]
  rw[<- List.range_eq_range']
  rfl
 ·exact(H1 i (by omega) (by omega)).mono fun n hn=>aZ (f1 i hi n hn)
 ·have:=F1 i (by omega) (by omega) n hn
  rw[List.length_append] at this
  omega
 ·rw[aZ (by omega),K1.2 n (by simp;omega) (by simp),List.getElem?_append_left hn]
end L2.MB.Lw
end
section
namespace L2.MB.Lw
open PySem PySem.Spec PyProof.Rows L2.MB
def LO:List (List Key)->Nat->Bool
 |[],_=>true
 |k::r,acc=>match fW k with
  |some h=> !(acc.testBit (h % 4096).toNat)&&LO r (acc|||(1<<<(h % 4096).toNat))
  |none=>false
theorem JX (acc i j:Nat):(acc|||(1<<<i)).testBit j=(acc.testBit j||decide (j=i)):=by
 rw[Nat.testBit_or,Nat.testBit_shiftLeft]
 congr 1
 by_cases h:j=i
 ·subst h
  simp
 ·rw[decide_eq_false h]
  by_cases h2:j≥i
  ·have:j-i≠0:=by omega
   obtain⟨n,hn⟩:∃ n,j-i=n+1:=⟨j-i-1,by omega⟩
   rw[hn,Nat.testBit_succ]
   simp
  ·simp[h2]
theorem Bx:∀ {l:List (List Key)}{acc:Nat},LO l acc=true->∀ k∈l,∃ h,fW k=some h/\acc.testBit (h % 4096).toNat=false
 |[],_,_,k,hk=>by simp at hk
 |k::r,acc,h,q,hq=>by
  unfold LO at h
  cases hh:fW k with
  |none=>rw[hh] at h;cases h
  |some a=>
   rw[hh] at h
   have h':(!(acc.testBit (a % 4096).toNat)&&LO r (acc|||(1<<<(a % 4096).toNat)))=true:=h
   rw[Bool.and_eq_true] at h'
   rcases List.mem_cons.mp hq with rfl|hq
   ·exact⟨a,hh,by simpa using h'.1⟩
   ·obtain⟨b,e1,e2⟩:=Bx h'.2 q hq
    rw[JX,Bool.or_eq_false_iff] at e2
    exact⟨b,e1,e2.1⟩
theorem GV:∀ {l:List (List Key)}{acc:Nat},LO l acc=true->fT l=true
 |[],_,_=>rfl
 |k::r,acc,h=>by
  unfold LO at h
  cases hh:fW k with
  |none=>rw[hh] at h;cases h
  |some a=>
   rw[hh] at h
   have h':(!(acc.testBit (a % 4096).toNat)&&LO r (acc|||(1<<<(a % 4096).toNat)))=true:=h
   rw[Bool.and_eq_true] at h'
   show((fW k).isSome&&r.all (fun k'=>match fW k,fW k' with
    |some a,some b=>decide (a≠b)
    |_,_=>false)&&fT r)=true
   rw[Bool.and_eq_true,Bool.and_eq_true]
   refine⟨⟨by rw[hh];rfl,?_⟩,GV h'.2⟩
   rw[List.all_eq_true]
   intro k' hk'
   obtain⟨b,e1,e2⟩:=Bx h'.2 k' hk'
   rw[hh,e1]
   refine decide_eq_true fun z=> ?_
   rw[JX,<- z] at e2
   simp at e2
theorem Gw:fT (univ 8 fun _=>63)=true:=GV (acc:=0) (by decide+kernel)
end L2.MB.Lw
end
section
namespace L2.MB.Lw
open PySem PySem.Spec PyProof.Rows L2.MB
def BT (S:Nat->Hd) (i:Nat) (hd:Hd):Nat->Hd:=fun j=>if j=i then hd else S j
theorem gN {S:Nat->Hd}{i:Nat}{hd:Hd}:BT S i hd i=hd:=if_pos rfl
theorem nS {S:Nat->Hd}{i j:Nat}{hd:Hd} (h:j≠i):BT S i hd j=S j:=if_neg h
inductive Deed where
 |put (a:Int) (x:Str) (v:Int)
 |change (a:Int) (x:Str) (v:Int)
 |take (a:Int) (x:Str)
 |tell (a b:Int)
 |meet (a b:Int)
def Deed.d:Deed->D
 |.put a x v=>.tup [.str "put",.int a,.str x,.int v]
 |.change a x v=>.tup [.str "change",.int a,.str x,.int v]
 |.take a x=>.tup [.str "take",.int a,.str x]
 |.tell a b=>.tup [.str "tell",.int a,.int b]
 |.meet a b=>.tup [.str "meet",.int a,.int b]
def lA (S:Nat->Hd) (a b:Nat):Nat->Hd:=BT S b ((S b).hear b (S a) a)
def sE (S:Nat->Hd) (a b:Nat):Int:=Ow ((S b).seen b) ((S a).seen a)
def yZ (S:Nat->Hd) (a b:Nat):Nat->Hd:=lA (lA (lA S a b) b a) a b
def step (c:Nat) (S:Nat->Hd):Deed->D×(Nat->Hd)
 |.put a x v=>if 0<=a/\a<c then(mkD a.toNat ((S a.toNat).next a.toNat),BT S a.toNat ((S a.toNat).put a.toNat x v)) else(.str "no hand",S)
 |.change a x v=>if 0<=a/\a<c then(mkD a.toNat ((S a.toNat).next a.toNat),BT S a.toNat ((S a.toNat).change a.toNat x v)) else(.str "no hand",S)
 |.take a x=>if 0<=a/\a<c then((S a.toNat).takeA x,BT S a.toNat ((S a.toNat).take a.toNat x)) else(.str "no hand",S)
 |.tell a b=>if(0<=a/\a<c)/\(0<=b/\b<c) then(if a=b then(.str "same hand",S) else(.int (sE S a.toNat b.toNat),lA S a.toNat b.toNat)) else(.str "no hand",S)
 |.meet a b=>if(0<=a/\a<c)/\(0<=b/\b<c) then(if a=b then(.str "same hand",S) else(.tup [.int (sE (lA S a.toNat b.toNat) b.toNat a.toNat),.int (sE S a.toNat b.toNat)],yZ S a.toNat b.toNat)) else(.str "no hand",S)
def HInv (c:Nat) (own:Nat->Nat) (S:Nat->Hd):Prop:=∀ a,a<c->(S a).In c own/\((S a).seen a).getD a 0=own a
theorem pA (own:Nat->Nat) (i:Nat):∀ c,tot c (iO own i)=tot c own+if i<c then 1 else 0
 |0=>rfl
 |c+1=>by
  have ih:=pA own i c
  unfold tot at ih ⊢
  rw[List.range_succ,List.map_append,List.map_append,List.sum_append,List.sum_append,ih]
  simp only[List.map_cons,List.map_nil,List.sum_cons,List.sum_nil]
  unfold iO
  by_cases h1:i<c
  ·rw[if_pos h1,if_neg (by omega),if_pos (by omega)]
   omega
  ·rw[if_neg h1]
   by_cases h2:c=i
   ·rw[if_pos h2,if_pos (by omega)]
    omega
   ·rw[if_neg h2,if_neg (by omega)]
    omega
theorem JI (own:Nat->Nat) (a:Nat):∀ c,a<c->own a<=tot c own
 |0,h=>by omega
 |c+1,h=>by
  have ih:=JI own a c
  unfold tot at ih ⊢
  rw[List.range_succ,List.map_append,List.sum_append]
  simp only[List.map_cons,List.map_nil,List.sum_cons,List.sum_nil]
  by_cases h1:a<c
  ·have:=ih h1;omega
  ·have:a=c:=by omega
   subst this
   omega
section
variable {B:Om}{c g i j:Nat}{own:Nat->Nat}{S:Nat->Hd}{ω ω':Om}{hs:Nat->Nat}{fp:Nat->List Nat}{hd':Hd}
theorem HInv.upd (I:HInv c own S) (W:hd'.In c own) (e:(hd'.seen i).getD i 0=own i):HInv c own (BT S i hd'):=fun a ha=>by
 by_cases h:a=i
 ·subst h
  rw[gN]
  exact⟨W,e⟩
 ·rw[nS h]
  exact I a ha
theorem HInv.updB (I:HInv c own S) (W:hd'.In c (iO own i)) (e:(hd'.seen i).getD i 0=iO own i i):HInv c (iO own i) (BT S i hd'):=fun a ha=>by
 by_cases h:a=i
 ·subst h
  rw[gN]
  exact⟨W,e⟩
 ·rw[nS h]
  refine⟨(I a ha).1.mono (tH own i),?_⟩
  rw[(I a ha).2]
  unfold iO
  rw[if_neg h]
theorem HallS.did (L:HallS B ω g c hs fp S) (hi:i<c) (D:Did ω (hs i) i (fp i) ω' hd'):∃ fp',HallS B ω' g c hs fp' (BT S i hd'):=by
 obtain⟨fi,H',K,F⟩:=D
 refine⟨fun j=>if j=i then fi else fp j,⟨?_,fun j hj=> ?_,fun a ha b hb hne n hn=> ?_,fun j hj=> ?_,fun j hj n hn=> ?_,⟨Nat.le_trans L.bas.1 K.1,fun n hn=> ?_⟩⟩⟩
 ·rw[K.2 g (zE L.obj) (L.out i hi)]
  exact L.obj
 ·by_cases h:j=i
  ·subst h
   rw[gN]
   simp only[if_pos]
   exact H'
  ·rw[nS h]
   simp only[if_neg h]
   exact(L.hand j hj).mono fun n hn=>K.2 n ((L.hand j hj).lt n hn) fun z=>L.apart j hj i hi h n hn z
 ·by_cases h1:a=i
  ·simp only[if_pos h1] at hn
   by_cases h2:b=i
   ·exact absurd (h1.trans h2.symm) hne
   ·simp only[if_neg h2]
    intro z
    rcases F n hn with q|q
    ·exact L.apart i hi b hb (fun w=>h2 w.symm) n q z
    ·have:=(L.hand b hb).lt n z
     omega
  ·simp only[if_neg h1] at hn
   by_cases h2:b=i
   ·simp only[if_pos h2]
    intro z
    rcases F n z with q|q
    ·exact L.apart a ha i hi h1 n hn q
    ·have:=(L.hand a ha).lt n hn
     omega
   ·simp only[if_neg h2]
    exact L.apart a ha b hb hne n hn
 ·by_cases h:j=i
  ·simp only[if_pos h]
   intro z
   rcases F g z with q|q
   ·exact L.out i hi q
   ·have:=zE L.obj
    omega
  ·simp only[if_neg h]
   exact L.out j hj
 ·by_cases h:j=i
  ·simp only[if_pos h] at hn
   rcases F n hn with q|q
   ·exact L.low i hi n q
   ·exact Nat.le_trans L.bas.1 q
  ·simp only[if_neg h] at hn
   exact L.low j hj n hn
 ·rw[K.2 n (Nat.lt_of_lt_of_le hn L.bas.1) fun z=>absurd hn (Nat.not_lt.mpr (L.low i hi n z))]
  exact L.bas.2 n hn
end
section
variable {α β:Type}{f h fo:OG D}{fl:OG (List D)}{ρ:Rho}{ω ω1 ω2 ω3:Om}{a b d:D}{ds:List D}{F G:OS}{x:Nat}{r:Rz D}
theorem Id {f:OG α}{g:α->OG β} (e:f ρ ω=some (.ex x,ω1)):oB f g ρ ω=some (.ex x,ω1):=by unfold oB;rw[e]
theorem Co {c:Nat}{m:Str}{φ:eM} (e:fo ρ ω=some (.ex x,ω1)):bL c m φ fo fl ρ ω=some (.ex x,ω1):=Id e
theorem AK (e:f ρ ω=some (.ex x,ω1)):aE f fl ρ ω=some (.ex x,ω1):=Id e
theorem Gc (e1:f ρ ω=some (.ok a,ω1)) (e2:fl ρ ω1=some (.ex x,ω2)):aE f fl ρ ω=some (.ex x,ω2):=by
 unfold aE
 rw[bO e1,Id e2]
theorem Nx {g:Om->List D->Option (D×Om)} (e:fl ρ ω=some (.ex x,ω1)):oL g fl ρ ω=some (.ex x,ω1):=Id e
theorem FZ {f:OG α}{g:α->Rho->Om->Option (OOut×Om)} (e:f ρ ω=some (.ex x,ω1)):oX f g ρ ω=some (.ex x,ω1):=by unfold oX;rw[e]
def Mx:Rz D->OOut
 |.ok d=>.rt d
 |.ex c=>.ex c
theorem lE (e:f ρ ω=some (r,ω1)):bE f ρ ω=some (Mx r,ω1):=by
 cases r with
 |ok d=>exact bM e
 |ex c=>exact FZ e
theorem Cb (e:F ρ ω=some (Mx r,ω1)):aP F G ρ ω=some (Mx r,ω1):=by
 unfold aP
 rw[e]
 cases r <;> rfl
theorem fB {n:Nat}{N:List Str} (hl:ds.length=n) (e:G (cP N ds) ω=some (Mx r,ω1)):fV n N G ds ω=some (r,ω1):=by
 unfold fV
 rw[if_pos hl,e]
 cases r <;> rfl
end
section
variable {B:Om}{c g i j:Nat}{own:Nat->Nat}{S:Nat->Hd}{ω ω':Om}{hs:Nat->Nat}{fp:Nat->List Nat}{hd':Hd}
theorem uL {f:OG D}{ρ:Rho} (L:HallS B ω g c hs fp S) (ef:f ρ ω=some (.ok (.obj g),ω)):iM 1 "hands" f ρ ω=some (.ok (.lst ((List.range c).map fun i=>.obj (hs i))),ω):=iD ef L.obj rfl
theorem pS (L:HallS B ω g c hs fp S) (a:Int):bQ [.obj g,.int a] ω=if 0<=a/\a<c then some (.ok (.obj (hs a.toNat)),ω) else some (.ex 0,ω):=by
 have len:oL eE (aE (iM 1 "hands" (oP (aF 0))) aU) [some (.obj g),some (.int a)] ω=some (.ok (.int c),ω):=fD (aC (uL L (aD rfl)) aJ) (by
  show some (D.int (((List.range c).map fun i=>D.obj (hs i)).length:Nat),ω)=_
  rw[List.length_map,List.length_range])
 have ch:xD gLe gLt (oP (dC (.int 0))) (oP (aF 1)) (oL eE (aE (iM 1 "hands" (oP (aF 0))) aU)) [some (.obj g),some (.int a)] ω=some (.ok (decide (0<=a/\a<c)),ω):=by
  unfold xD
  rw[bO bF,bO (aD (d:=.int a) rfl)]
  show(match some (decide (0<=a)) with
   |none=>none
   |some true=>oB _ (fun z _ ω=>oR (pu ((gLt (.int a) z).bind toB) ω)) [some (.obj g),some (.int a)] ω
   |some false=>some (Rz.ok false,ω))=_
  by_cases h0:0<=a
  ·rw[decide_eq_true h0]
   show oB _ (fun z _ ω=>oR (pu ((gLt (.int a) z).bind toB) ω)) [some (.obj g),some (.int a)] ω=_
   rw[bO len]
   show some (Rz.ok (decide (a<(c:Int))),ω)=_
   simp[h0]
  ·rw[decide_eq_false h0]
   simp[h0]
 have nt:nG (xD gLe gLt (oP (dC (.int 0))) (oP (aF 1)) (oL eE (aE (iM 1 "hands" (oP (aF 0))) aU))) [some (.obj g),some (.int a)] ω=some (.ok (!decide (0<=a/\a<c)),ω):=by
  unfold nG
  rw[bO ch]
 by_cases h:0<=a/\a<c
 ·rw[if_pos h]
  rw[decide_eq_true h] at nt
  refine bC rfl ?_
  unfold kE
  rw[bY (ρ1:=[some (.obj g),some (.int a)]) (ω1:=ω) (by
   show fJ _ _ _ [some (.obj g),some (.int a)] ω=_
   rw[tX nt]
   rfl)]
  refine bM (bD (uL L (aD rfl)) (aD (d:=.int a) rfl) ?_)
  show atI ((List.range c).map fun i=>D.obj (hs i)) a=_
  unfold atI ixN
  rw[if_pos h.1,if_pos (by rw[List.length_map,List.length_range];exact h.2)]
  show((List.range c).map fun i=>D.obj (hs i))[a.toNat]?=_
  rw[List.getElem?_map,List.getElem?_range (by omega)]
  rfl
 ·rw[if_neg h]
  rw[decide_eq_false h] at nt
  refine fB (r:=.ex 0) rfl ?_
  unfold kE
  refine Cb (r:=.ex 0) ?_
  show fJ _ _ _ [some (.obj g),some (.int a)] ω=_
  rw[wD nt]
  rfl
theorem NK {ρ:Rho}{k l:Nat}{a b:Int} (h1:ρ[k]?=some (some (.int a))) (h2:ρ[l]?=some (some (.int b))):eJ (o2 (sK 8) (oP (aF k)) (oP (aF l))) ρ ω=some (.ok (decide (a=b)),ω):=dW (lG (aD h1) (aD h2) rfl)
theorem uM (L:HallS B ω g c hs fp S) (a b:Int):cD [.obj g,.int a,.int b] ω=if(0<=a/\a<c)/\(0<=b/\b<c) then(if a=b then some (.ex 1,ω) else some (.ok (.tup [.obj (hs a.toNat),.obj (hs b.toNat)]),ω)) else some (.ex 0,ω):=by
 have ha:=pS L a
 have hb:=pS L b
 have m1:∀ {r:Rz D}{fa:OG D}{n:Int},bQ [.obj g,.int n] ω=some (r,ω)->fa [some (.obj g),some (.int a),some (.int b),none] ω=some (.ok (.int n),ω)->bL 1 "hand" bQ (oP (aF 0)) (aE fa aU) [some (.obj g),some (.int a),some (.int b),none] ω=some (r,ω):=fun e q=>cE (aD rfl) L.obj rfl (aC q aJ) e
 by_cases h1:0<=a/\a<c
 ·rw[if_pos h1] at ha
  by_cases h2:0<=b/\b<c
  ·rw[if_pos h2] at hb
   rw[if_pos ⟨h1,h2⟩]
   have tup:oL (fun ω ds=>pu (iN ds) ω) (aE (bL 1 "hand" bQ (oP (aF 0)) (aE (oP (aF 1)) aU)) (aE (bL 1 "hand" bQ (oP (aF 0)) (aE (oP (aF 2)) aU)) aU)) [some (.obj g),some (.int a),some (.int b),none] ω=some (.ok (.tup [.obj (hs a.toNat),.obj (hs b.toNat)]),ω):=fD (aC (m1 ha (aD rfl)) (aC (m1 hb (aD rfl)) aJ)) (by
    show pu (iN _) ω=_
    unfold iN
    rw[if_pos (by rw[sizeLine_eq];simp)]
    rfl)
   by_cases h3:a=b
   ·rw[if_pos h3]
    refine fB (r:=.ex 1) rfl ?_
    unfold fF
    refine(aV tup).trans ?_
    refine Cb (r:=.ex 1) ?_
    rw[wD (ω1:=ω) (by rw[NK (a:=a) (b:=b) rfl rfl,decide_eq_true h3])]
    rfl
   ·rw[if_neg h3]
    refine bC rfl ?_
    unfold fF
    refine(aV tup).trans ?_
    rw[bY (ρ1:=[some (.obj g),some (.int a),some (.int b),some (.tup [.obj (hs a.toNat),.obj (hs b.toNat)])]) (ω1:=ω) (by
     rw[tX (ω1:=ω) (by rw[NK (a:=a) (b:=b) rfl rfl,decide_eq_false h3])]
     rfl)]
    exact bM (aD rfl)
  ·rw[if_neg h2] at hb
   rw[if_neg (fun z=>h2 z.2)]
   refine fB (r:=.ex 0) rfl ?_
   unfold fF
   refine Cb (r:=.ex 0) (FZ (Nx (Gc (m1 ha (aD rfl)) (AK (m1 hb (aD rfl))))))
 ·rw[if_neg h1] at ha
  rw[if_neg (fun z=>h1 z.1)]
  refine fB (r:=.ex 0) rfl ?_
  unfold fF
  refine Cb (r:=.ex 0) (FZ (Nx (AK (m1 ha (aD rfl)))))
end
end L2.MB.Lw
end
section
namespace L2.MB.Lw
open PySem PySem.Spec PyProof.Rows L2.MB
section
variable {B:Om}{c g i j:Nat}{own:Nat->Nat}{S:Nat->Hd}{ω ω':Om}{hs:Nat->Nat}{fp:Nat->List Nat}{hd hd':Hd}
theorem Hd.In.hash (W:hd.In c own) (c8:c<=8) (ht:tot c own<64):fT (hd.kept.map (·.1))=true:=rT Gw (fun k hk=>by
 obtain⟨kv,h1,rfl⟩:=List.mem_map.mp hk
 obtain⟨a,b,h2,h3,h4,e⟩:=W.kk kv h1
 have:=JI own a c h2
 exact KeyIn.univ (own:=fun _=>63) ⟨a,b,by omega,h3,(by show b<=63;omega),e⟩) W.kn
theorem IF (L:HallS B ω g c hs fp S) (I:HInv c own S) (c0:0<c) (c8:c<=8) (ht:tot c own<64) (hi:i<c) (hj:j<c) (hne:i≠j):∃ ω' fp',cT [.obj (hs i),.obj (hs j)] ω=some (.ok (.int (sE S j i)),ω')/\HallS B ω' g c hs fp' (lA S j i)/\HInv c own (lA S j i):=by
 have Wi:=(I i hi).1
 have Wj:=(I j hj).1
 have Oi:=Wi.ok c0 c8 ht
 have Oj:=Wj.ok c0 c8 ht
 have H0:=Wi.hear0 Wj Oi Oj hi hj
 obtain⟨ω',e,D⟩:=Pt (L.hand i hi) (L.hand j hj) (fun n hn=>L.apart i hi j hj hne n hn) Oi Oj hi hj (Wj.hash c8 ht) (H0.ok c0 c8 ht)
 obtain⟨fp',L'⟩:=L.did hi D
 exact⟨ω',fp',e,L',I.upd H0.forget (IE Wi Wj hi hj (I i hi).2)⟩
theorem QG (L:HallS B ω g c hs fp S) (I:HInv c own S) (c0:0<c) (c8:c<=8) (ht:tot c own<63) (hi:i<c) (x:Str) (v:Int):∃ ω' fp',fC [.obj (hs i),.str x,.int v] ω=some (.ok (mkD i ((S i).next i)),ω')/\HallS B ω' g c hs fp' (BT S i ((S i).put i x v))/\HInv c (iO own i) (BT S i ((S i).put i x v)):=by
 have W:=(I i hi).1
 have O:=W.ok c0 c8 (by omega)
 obtain⟨ω',e,D⟩:=Qg (L.hand i hi) O hi x v
 obtain⟨fp',L'⟩:=L.did hi D
 exact⟨ω',fp',e,L',I.updB (W.put hi (I i hi).2 x v) (zU W hi (I i hi).2)⟩
theorem Am (hi:i<c) (ht:tot c own<63):tot c (iO own i)<64:=by
 rw[pA,if_pos hi]
 omega
theorem LQ (L:HallS B ω g c hs fp S) (I:HInv c own S) (c0:0<c) (c8:c<=8) (ht:tot c own<63) (hi:i<c) (x:Str) (v:Int):∃ ω' fp',eV [.obj (hs i),.str x,.int v] ω=some (.ok (mkD i ((S i).next i)),ω')/\HallS B ω' g c hs fp' (BT S i ((S i).change i x v))/\HInv c (iO own i) (BT S i ((S i).change i x v)):=by
 have W:=(I i hi).1
 have O:=W.ok c0 c8 (by omega)
 have P:=W.put hi (I i hi).2 x v
 have T:=P.takeOut0 (mk:=vX i ((S i).next i)) (ks:=(S i).marksK x) (yX hi (I i hi).2) (O.marksLen x) fun q hq=>(W.marks O x q hq).mono (tH own i)
 obtain⟨ω',e,D⟩:=LP (L.hand i hi) O hi x v (T.ok c0 c8 (Am hi ht))
 obtain⟨fp',L'⟩:=L.did hi D
 exact⟨ω',fp',e,L',I.updB T.forget (zU W hi (I i hi).2)⟩
theorem OH (L:HallS B ω g c hs fp S) (I:HInv c own S) (c0:0<c) (c8:c<=8) (ht:tot c own<63) (hi:i<c) (x:Str):∃ ω' fp' own',gP [.obj (hs i),.str x] ω=some (.ok ((S i).takeA x),ω')/\HallS B ω' g c hs fp' (BT S i ((S i).take i x))/\HInv c own' (BT S i ((S i).take i x))/\tot c own'<=tot c own+1:=by
 have W:=(I i hi).1
 have O:=W.ok c0 c8 (by omega)
 have P:=W.bump hi (I i hi).2
 have T:=P.takeOut0 (mk:=vX i ((S i).next i)) (ks:=(S i).marksK x) (yX hi (I i hi).2) (O.marksLen x) fun q hq=>(W.marks O x q hq).mono (tH own i)
 obtain⟨ω',e,D⟩:=OF (L.hand i hi) O hi x (T.ok c0 c8 (Am hi ht))
 obtain⟨fp',L'⟩:=L.did hi D
 by_cases hm:(S i).marksK x=[]
 ·refine⟨ω',fp',own,e,L',?_,by omega⟩
  have:(S i).take i x=S i:=by unfold Hd.take;rw[if_pos hm]
  rw[this]
  exact I.upd W (I i hi).2
 ·refine⟨ω',fp',iO own i,e,L',?_,by rw[pA,if_pos hi];omega⟩
  have:(S i).take i x=((S i).bump i).takeOut (vX i ((S i).next i)) ((S i).marksK x):=by unfold Hd.take;rw[if_neg hm]
  rw[this]
  exact I.updB T.forget (zU W hi (I i hi).2)
theorem DG {ρ:Rho}{y:Str} (h:ρ[2]?=some (some (.str y))):eJ (o2 (sK 8) (oP (aF 2)) (oP (dC (.str y)))) ρ ω=some (.ok true,ω):=dW (lG (aD h) bF (by
 show pu ((eqD 8 (.str y) (.str y)).map D.bl) ω=_
 rw[oG,decide_eq_true rfl]
 rfl))
theorem nI {ρ:Rho}{x y:Str} (h:ρ[2]?=some (some (.str x))) (hne:x≠y):eJ (o2 (sK 8) (oP (aF 2)) (oP (dC (.str y)))) ρ ω=some (.ok false,ω):=dW (lG (aD h) bF (by
 show pu ((eqD 8 (.str x) (.str y)).map D.bl) ω=_
 rw[oG,decide_eq_false hne]
 rfl))
theorem skip {t:OG Bool}{F G:OS}{ρ:Rho} (e:t ρ ω=some (.ok false,ω)):aP (fJ t F cB) G ρ ω=G ρ ω:=bY (by rw[tX e];rfl)
theorem Lp {t:OG Bool}{f:OG D}{G:OS}{ρ:Rho}{r:Rz D} (e:t ρ ω=some (.ok true,ω)) (e2:f ρ ω=some (r,ω')):aP (fJ t (bE f) cB) G ρ ω=some (Mx r,ω'):=Cb (by rw[wD e];exact lE e2)
variable {fs:List (Str×D)}{r:Rz D}{a b v:Int}{x:Str}
theorem DW (ho:ω[g]?=some (.ins 1 fs)) (hf:fs.lookup ("put":Str)=none) (e:jC [.obj g,.int a,.str x,.int v] ω=some (r,ω')):nB [.obj g,(Deed.put a x v).d] ω=some (r,ω'):=by
 refine fB rfl ?_
 unfold uO
 rw[aV (d:=.str "put") (bD (aD (d:=(Deed.put a x v).d) rfl) bF rfl)]
 exact Lp (DG rfl) (cE (aD (d:=.obj g) rfl) ho hf (aC (bD (aD (d:=(Deed.put a x v).d) rfl) bF rfl) (aC (bD (aD (d:=(Deed.put a x v).d) rfl) bF rfl) (aC (bD (aD (d:=(Deed.put a x v).d) rfl) bF rfl) aJ))) e)
theorem uV (ho:ω[g]?=some (.ins 1 fs)) (hf:fs.lookup ("change":Str)=none) (e:eW [.obj g,.int a,.str x,.int v] ω=some (r,ω')):nB [.obj g,(Deed.change a x v).d] ω=some (r,ω'):=by
 refine fB rfl ?_
 unfold uO
 rw[aV (d:=.str "change") (bD (aD (d:=(Deed.change a x v).d) rfl) bF rfl)]
 rw[skip (nI (x:="change") rfl (by decide))]
 exact Lp (DG rfl) (cE (aD (d:=.obj g) rfl) ho hf (aC (bD (aD (d:=(Deed.change a x v).d) rfl) bF rfl) (aC (bD (aD (d:=(Deed.change a x v).d) rfl) bF rfl) (aC (bD (aD (d:=(Deed.change a x v).d) rfl) bF rfl) aJ))) e)
theorem Bm (ho:ω[g]?=some (.ins 1 fs)) (hf:fs.lookup ("take":Str)=none) (e:gS [.obj g,.int a,.str x] ω=some (r,ω')):nB [.obj g,(Deed.take a x).d] ω=some (r,ω'):=by
 refine fB rfl ?_
 unfold uO
 rw[aV (d:=.str "take") (bD (aD (d:=(Deed.take a x).d) rfl) bF rfl)]
 rw[skip (nI (x:="take") rfl (by decide)),skip (nI (x:="take") rfl (by decide))]
 exact Lp (DG rfl) (cE (aD (d:=.obj g) rfl) ho hf (aC (bD (aD (d:=(Deed.take a x).d) rfl) bF rfl) (aC (bD (aD (d:=(Deed.take a x).d) rfl) bF rfl) aJ)) e)
theorem uT (ho:ω[g]?=some (.ins 1 fs)) (hf:fs.lookup ("tell":Str)=none) (e:gQ [.obj g,.int a,.int b] ω=some (r,ω')):nB [.obj g,(Deed.tell a b).d] ω=some (r,ω'):=by
 refine fB rfl ?_
 unfold uO
 rw[aV (d:=.str "tell") (bD (aD (d:=(Deed.tell a b).d) rfl) bF rfl)]
 rw[skip (nI (x:="tell") rfl (by decide)),skip (nI (x:="tell") rfl (by decide)),skip (nI (x:="tell") rfl (by decide))]
 exact Lp (DG rfl) (cE (aD (d:=.obj g) rfl) ho hf (aC (bD (aD (d:=(Deed.tell a b).d) rfl) bF rfl) (aC (bD (aD (d:=(Deed.tell a b).d) rfl) bF rfl) aJ)) e)
theorem uU (ho:ω[g]?=some (.ins 1 fs)) (hf:fs.lookup ("meet":Str)=none) (e:gT [.obj g,.int a,.int b] ω=some (r,ω')):nB [.obj g,(Deed.meet a b).d] ω=some (r,ω'):=by
 refine fB rfl ?_
 unfold uO
 rw[aV (d:=.str "meet") (bD (aD (d:=(Deed.meet a b).d) rfl) bF rfl)]
 rw[skip (nI (x:="meet") rfl (by decide)),skip (nI (x:="meet") rfl (by decide)),skip (nI (x:="meet") rfl (by decide)),skip (nI (x:="meet") rfl (by decide))]
 exact lE (cE (aD (d:=.obj g) rfl) ho hf (aC (bD (aD (d:=(Deed.meet a b).d) rfl) bF rfl) (aC (bD (aD (d:=(Deed.meet a b).d) rfl) bF rfl) aJ)) e)
theorem HallS.handObj (L:HallS B ω g c hs fp S) (hi:i<c):∃ fs,ω[hs i]?=some (.ins 0 fs)/\fs.lookup ("put":Str)=none/\fs.lookup ("change":Str)=none/\fs.lookup ("take":Str)=none/\fs.lookup ("hear":Str)=none:=by
 obtain⟨k,t,e,h⟩:=(L.hand i hi).obj
 exact⟨_,h,rfl,rfl,rfl,rfl⟩
theorem Ls {ρ:Rho}{f fa:OG D} (L:HallS B ω g c hs fp S) (ef:f ρ ω=some (.ok (.obj g),ω)) (ea:fa ρ ω=some (.ok (.int a),ω)) (h:0<=a/\a<c):bL 1 "hand" bQ f (aE fa aU) ρ ω=some (.ok (.obj (hs a.toNat)),ω):=cE ef L.obj rfl (aC ea aJ) (by rw[pS L a,if_pos h])
theorem Lr {ρ:Rho}{f fa:OG D} (L:HallS B ω g c hs fp S) (ef:f ρ ω=some (.ok (.obj g),ω)) (ea:fa ρ ω=some (.ok (.int a),ω)) (h:¬(0<=a/\a<c)):bL 1 "hand" bQ f (aE fa aU) ρ ω=some (.ex 0,ω):=cE ef L.obj rfl (aC ea aJ) (by rw[pS L a,if_neg h])
theorem IG (L:HallS B ω g c hs fp S) (h:0<=a/\a<c) (e:fC [.obj (hs a.toNat),.str x,.int v] ω=some (r,ω')):jC [.obj g,.int a,.str x,.int v] ω=some (r,ω'):=by
 obtain⟨fs,ho,h1,_⟩:=L.handObj (i:=a.toNat) (by omega)
 exact fB rfl (lE (cE (Ls L (aD rfl) (aD rfl) h) ho h1 (aC (aD rfl) (aC (aD rfl) aJ)) e))
theorem GB (L:HallS B ω g c hs fp S) (h:¬(0<=a/\a<c)):jC [.obj g,.int a,.str x,.int v] ω=some (.ex 0,ω):=fB (r:=.ex 0) rfl (lE (Co (Lr (a:=a) L (aD rfl) (aD rfl) h)))
theorem Cw (L:HallS B ω g c hs fp S) (h:0<=a/\a<c) (e:eV [.obj (hs a.toNat),.str x,.int v] ω=some (r,ω')):eW [.obj g,.int a,.str x,.int v] ω=some (r,ω'):=by
 obtain⟨fs,ho,_,h1,_⟩:=L.handObj (i:=a.toNat) (by omega)
 exact fB rfl (lE (cE (Ls L (aD rfl) (aD rfl) h) ho h1 (aC (aD rfl) (aC (aD rfl) aJ)) e))
theorem Bc (L:HallS B ω g c hs fp S) (h:¬(0<=a/\a<c)):eW [.obj g,.int a,.str x,.int v] ω=some (.ex 0,ω):=fB (r:=.ex 0) rfl (lE (Co (Lr (a:=a) L (aD rfl) (aD rfl) h)))
theorem GA (L:HallS B ω g c hs fp S) (h:0<=a/\a<c) (e:gP [.obj (hs a.toNat),.str x] ω=some (r,ω')):gS [.obj g,.int a,.str x] ω=some (r,ω'):=by
 obtain⟨fs,ho,_,_,h1,_⟩:=L.handObj (i:=a.toNat) (by omega)
 exact fB rfl (lE (cE (Ls L (aD rfl) (aD rfl) h) ho h1 (aC (aD rfl) aJ) e))
theorem EK (L:HallS B ω g c hs fp S) (h:¬(0<=a/\a<c)):gS [.obj g,.int a,.str x] ω=some (.ex 0,ω):=fB (r:=.ex 0) rfl (lE (Co (Lr (a:=a) L (aD rfl) (aD rfl) h)))
theorem HX {ρ:Rho}{f fa fb:OG D}{p:Option (Rz D×Om)}{r:Rz D} (L:HallS B ω g c hs fp S) (ef:f ρ ω=some (.ok (.obj g),ω)) (ea:fa ρ ω=some (.ok (.int a),ω)) (eb:fb ρ ω=some (.ok (.int b),ω)) (e:cD [.obj g,.int a,.int b] ω=some (r,ω)):bL 1 "pair" cD f (aE fa (aE fb aU)) ρ ω=some (r,ω):=cE ef L.obj rfl (aC ea (aC eb aJ)) e
theorem JG (L:HallS B ω g c hs fp S) (h:(0<=a/\a<c)/\(0<=b/\b<c)) (hne:a≠b):cD [.obj g,.int a,.int b] ω=some (.ok (.tup [.obj (hs a.toNat),.obj (hs b.toNat)]),ω):=by rw[uM L,if_pos h,if_neg hne]
theorem JH (L:HallS B ω g c hs fp S) (h:(0<=a/\a<c)/\(0<=b/\b<c)) (hne:a=b):cD [.obj g,.int a,.int b] ω=some (.ex 1,ω):=by rw[uM L,if_pos h,if_pos hne]
theorem JF (L:HallS B ω g c hs fp S) (h:¬((0<=a/\a<c)/\(0<=b/\b<c))):cD [.obj g,.int a,.int b] ω=some (.ex 0,ω):=by rw[uM L,if_neg h]
theorem xK {n:Nat} (L:HallS B ω g c hs fp S) (e:cD [.obj g,.int a,.int b] ω=some (.ex n,ω)):gQ [.obj g,.int a,.int b] ω=some (.ex n,ω):=by
 refine fB (r:=.ex n) rfl ?_
 unfold kB
 exact Cb (r:=.ex n) (FZ (HX (p:=none) L (aD rfl) (aD rfl) (aD rfl) e))
theorem xL {n:Nat} (L:HallS B ω g c hs fp S) (e:cD [.obj g,.int a,.int b] ω=some (.ex n,ω)):gT [.obj g,.int a,.int b] ω=some (.ex n,ω):=by
 refine fB (r:=.ex n) rfl ?_
 unfold kC
 exact Cb (r:=.ex n) (FZ (HX (p:=none) L (aD rfl) (aD rfl) (aD rfl) e))
theorem Gz (L:HallS B ω g c hs fp S) (h:(0<=a/\a<c)/\(0<=b/\b<c)) (hne:a≠b) (e:cT [.obj (hs b.toNat),.obj (hs a.toNat)] ω=some (r,ω')):gQ [.obj g,.int a,.int b] ω=some (r,ω'):=by
 obtain⟨fs,ho,_,_,_,h1⟩:=L.handObj (i:=b.toNat) (by omega)
 refine fB rfl ?_
 unfold kB
 rw[aV (HX (p:=none) L (aD rfl) (aD rfl) (aD rfl) (JG L h hne))]
 exact lE (cE (bD (aD (d:=.tup [.obj (hs a.toNat),.obj (hs b.toNat)]) rfl) bF rfl) ho h1 (aC (bD (aD (d:=.tup [.obj (hs a.toNat),.obj (hs b.toNat)]) rfl) bF rfl) aJ) e)
theorem GC (L:HallS B ω g c hs fp S) (I:HInv c own S) (c0:0<c) (c8:c<=8) (ht:tot c own<64) (h:(0<=a/\a<c)/\(0<=b/\b<c)) (hne:a≠b):∃ ω' fp',gT [.obj g,.int a,.int b] ω=some (.ok (.tup [.int (sE (lA S a.toNat b.toNat) b.toNat a.toNat),.int (sE S a.toNat b.toNat)]),ω')/\HallS B ω' g c hs fp' (yZ S a.toNat b.toNat)/\HInv c own (yZ S a.toNat b.toNat):=by
 have ha:a.toNat<c:=by omega
 have hb:b.toNat<c:=by omega
 have hn:a.toNat≠b.toNat:=by omega
 obtain⟨ω1,fp1,e1,L1,I1⟩:=IF L I c0 c8 ht hb ha (Ne.symm hn)
 obtain⟨ω2,fp2,e2,L2,I2⟩:=IF L1 I1 c0 c8 ht ha hb hn
 obtain⟨ω3,fp3,e3,L3,I3⟩:=IF L2 I2 c0 c8 ht hb ha (Ne.symm hn)
 refine⟨ω3,fp3,?_,L3,I3⟩
 obtain⟨fs0,ho0,_,_,_,h0⟩:=L.handObj hb
 obtain⟨fs1,ho1,_,_,_,h1⟩:=L1.handObj ha
 obtain⟨fs2,ho2,_,_,_,h2⟩:=L2.handObj hb
 refine bC rfl ?_
 unfold kC
 rw[aV (HX (p:=none) L (aD rfl) (aD rfl) (aD rfl) (JG L h hne))]
 rw[aV (cE (bD (aD (d:=.tup [.obj (hs a.toNat),.obj (hs b.toNat)]) rfl) bF rfl) ho0 h0 (aC (bD (aD (d:=.tup [.obj (hs a.toNat),.obj (hs b.toNat)]) rfl) bF rfl) aJ) e1)]
 rw[aV (d:=.tup [.int (sE (lA S a.toNat b.toNat) b.toNat a.toNat),.int (sE S a.toNat b.toNat)]) (ω1:=ω2) (fD (aC (cE (bD (aD (d:=.tup [.obj (hs a.toNat),.obj (hs b.toNat)]) rfl) bF rfl) ho1 h1 (aC (bD (aD (d:=.tup [.obj (hs a.toNat),.obj (hs b.toNat)]) rfl) bF rfl) aJ) e2) (aC (aD (d:=.int (sE S a.toNat b.toNat)) rfl) aJ)) (by
  show pu (iN _) ω2=_
  unfold iN
  rw[if_pos (by rw[sizeLine_eq];simp)]
  rfl))]
 rw[bY (ω1:=ω3) (by
  unfold eS
  rw[dD (cE (bD (aD (d:=.tup [.obj (hs a.toNat),.obj (hs b.toNat)]) rfl) bF rfl) ho2 h2 (aC (bD (aD (d:=.tup [.obj (hs a.toNat),.obj (hs b.toNat)]) rfl) bF rfl) aJ) e3)])]
 exact bM (aD rfl)
theorem Ak {d y:D} (e:nB [.obj g,d] ω=some (.ok y,ω')):cK [.obj g,d] ω=some (.ok y,ω'):=bC rfl (by
 unfold iA Cc
 rw[bM (bB (aC (aD rfl) (aC (aD rfl) aJ)) e)])
theorem Fm {d:D} (e:nB [.obj g,d] ω=some (.ex 0,ω')):cK [.obj g,d] ω=some (.ok (.str "no hand"),ω'):=bC rfl (by
 unfold iA Cc
 rw[lE (r:=.ex 0) (bB (aC (aD rfl) (aC (aD rfl) aJ)) e)]
 rfl)
theorem Mm {d:D} (e:nB [.obj g,d] ω=some (.ex 1,ω')):cK [.obj g,d] ω=some (.ok (.str "same hand"),ω'):=bC rfl (by
 unfold iA Cc
 rw[lE (r:=.ex 1) (bB (aC (aD rfl) (aC (aD rfl) aJ)) e)]
 rfl)
theorem BI (L:HallS B ω g c hs fp S) (I:HInv c own S) (c0:0<c) (c8:c<=8) (ht:tot c own<63) (d:Deed):∃ ω' fp' own',cK [.obj g,d.d] ω=some (.ok (step c S d).1,ω')/\HallS B ω' g c hs fp' (step c S d).2/\HInv c own' (step c S d).2/\tot c own'<=tot c own+1:=by
 cases d with
 |put a x v=>
  show ∃ ω' fp' own',_=some (Rz.ok (if 0<=a/\a<(c:Int) then(_,_) else(_,_):D×(Nat->Hd)).1,ω')/\HallS B ω' g c hs fp' (if 0<=a/\a<(c:Int) then(_,_) else(_,_):D×(Nat->Hd)).2/\HInv c own' (if 0<=a/\a<(c:Int) then(_,_) else(_,_):D×(Nat->Hd)).2/\_
  by_cases h:0<=a/\a<c
  ·rw[if_pos h]
   obtain⟨ω',fp',e,L',I'⟩:=QG L I c0 c8 ht (i:=a.toNat) (by omega) x v
   exact⟨ω',fp',_,Ak (DW L.obj rfl (IG L h e)),L',I',by rw[pA,if_pos (by omega)];omega⟩
  ·rw[if_neg h]
   exact⟨ω,fp,own,Fm (DW L.obj rfl (GB L h)),L,I,by omega⟩
 |change a x v=>
  show ∃ ω' fp' own',_=some (Rz.ok (if 0<=a/\a<(c:Int) then(_,_) else(_,_):D×(Nat->Hd)).1,ω')/\HallS B ω' g c hs fp' (if 0<=a/\a<(c:Int) then(_,_) else(_,_):D×(Nat->Hd)).2/\HInv c own' (if 0<=a/\a<(c:Int) then(_,_) else(_,_):D×(Nat->Hd)).2/\_
  by_cases h:0<=a/\a<c
  ·rw[if_pos h]
   obtain⟨ω',fp',e,L',I'⟩:=LQ L I c0 c8 ht (i:=a.toNat) (by omega) x v
   exact⟨ω',fp',_,Ak (uV L.obj rfl (Cw L h e)),L',I',by rw[pA,if_pos (by omega)];omega⟩
  ·rw[if_neg h]
   exact⟨ω,fp,own,Fm (uV L.obj rfl (Bc L h)),L,I,by omega⟩
 |take a x=>
  show ∃ ω' fp' own',_=some (Rz.ok (if 0<=a/\a<(c:Int) then(_,_) else(_,_):D×(Nat->Hd)).1,ω')/\HallS B ω' g c hs fp' (if 0<=a/\a<(c:Int) then(_,_) else(_,_):D×(Nat->Hd)).2/\HInv c own' (if 0<=a/\a<(c:Int) then(_,_) else(_,_):D×(Nat->Hd)).2/\_
  by_cases h:0<=a/\a<c
  ·rw[if_pos h]
   obtain⟨ω',fp',own',e,L',I',t'⟩:=OH L I c0 c8 ht (i:=a.toNat) (by omega) x
   exact⟨ω',fp',own',Ak (Bm L.obj rfl (GA L h e)),L',I',t'⟩
  ·rw[if_neg h]
   exact⟨ω,fp,own,Fm (Bm L.obj rfl (EK L h)),L,I,by omega⟩
 |tell a b=>
  show ∃ ω' fp' own',_=some (Rz.ok (if(0<=a/\a<(c:Int))/\(0<=b/\b<(c:Int)) then(if a=b then(_,_) else(_,_)) else(_,_):D×(Nat->Hd)).1,ω')/\HallS B ω' g c hs fp' (if(0<=a/\a<(c:Int))/\(0<=b/\b<(c:Int)) then(if a=b then(_,_) else(_,_)) else(_,_):D×(Nat->Hd)).2/\HInv c own' (if(0<=a/\a<(c:Int))/\(0<=b/\b<(c:Int)) then(if a=b then(_,_) else(_,_)) else(_,_):D×(Nat->Hd)).2/\_
  by_cases h:(0<=a/\a<(c:Int))/\(0<=b/\b<(c:Int))
  ·rw[if_pos h]
   by_cases hab:a=b
   ·rw[if_pos hab]
    exact⟨ω,fp,own,Mm (uT L.obj rfl (xK L (JH L h hab))),L,I,by omega⟩
   ·rw[if_neg hab]
    obtain⟨ω',fp',e,L',I'⟩:=IF L I c0 c8 (by omega) (i:=b.toNat) (j:=a.toNat) (by omega) (by omega) (by omega)
    exact⟨ω',fp',own,Ak (uT L.obj rfl (Gz L h hab e)),L',I',by omega⟩
  ·rw[if_neg h]
   exact⟨ω,fp,own,Fm (uT L.obj rfl (xK L (JF L h))),L,I,by omega⟩
 |meet a b=>
  show ∃ ω' fp' own',_=some (Rz.ok (if(0<=a/\a<(c:Int))/\(0<=b/\b<(c:Int)) then(if a=b then(_,_) else(_,_)) else(_,_):D×(Nat->Hd)).1,ω')/\HallS B ω' g c hs fp' (if(0<=a/\a<(c:Int))/\(0<=b/\b<(c:Int)) then(if a=b then(_,_) else(_,_)) else(_,_):D×(Nat->Hd)).2/\HInv c own' (if(0<=a/\a<(c:Int))/\(0<=b/\b<(c:Int)) then(if a=b then(_,_) else(_,_)) else(_,_):D×(Nat->Hd)).2/\_
  by_cases h:(0<=a/\a<(c:Int))/\(0<=b/\b<(c:Int))
  ·rw[if_pos h]
   by_cases hab:a=b
   ·rw[if_pos hab]
    exact⟨ω,fp,own,Mm (uU L.obj rfl (xL L (JH L h hab))),L,I,by omega⟩
   ·rw[if_neg hab]
    obtain⟨ω',fp',e,L',I'⟩:=GC L I c0 c8 (by omega) h hab
    exact⟨ω',fp',own,Ak (uU L.obj rfl e),L',I',by omega⟩
  ·rw[if_neg h]
   exact⟨ω,fp,own,Fm (uU L.obj rfl (xL L (JF L h))),L,I,by omega⟩
end
end L2.MB.Lw
end
section
namespace L2.MB.Lw
open PySem PySem.Spec PyProof.Rows L2.MB
def Pl:Nat->D->Prop
 |_,.non=>True
 |_,.bl _=>True
 |_,.int _=>True
 |_,.str _=>True
 |n+1,.lst ds=>ds.length<=1000/\∀ d∈ds,Pl n d
 |n+1,.tup ds=>ds.length<=1000/\∀ d∈ds,Pl n d
 |_,_=>False
theorem Pl.int (n:Nat) (i:Int):Pl n (.int i):=by cases n <;> trivial
theorem Pl.str (n:Nat) (x:Str):Pl n (.str x):=by cases n <;> trivial
theorem Pl.non (n:Nat):Pl n .non:=by cases n <;> trivial
theorem Pl.tup2 {n:Nat}{a b:D} (h1:Pl n a) (h2:Pl n b):Pl (n+1) (.tup [a,b]):=⟨by simp,fun d hd=>by
 simp only[List.mem_cons,List.not_mem_nil,or_false] at hd
 rcases hd with rfl|rfl
 ·exact h1
 ·exact h2⟩
theorem Pl.mkD (n i:Nat) (b:Int):Pl (n+1) (mkD i b):=Pl.tup2 (Pl.int _ _) (Pl.int _ _)
theorem Pl.key {c:Nat}{own:Nat->Nat}{k:List Key} (h:KeyIn c own k) (n:Nat):Pl (n+1) (cR k):=by
 obtain⟨a,b,_,_,_,rfl⟩:=h
 exact Pl.tup2 (Pl.int _ _) (Pl.int _ _)
theorem Pl.keys {c n:Nat}{own:Nat->Nat}{ks:List (List Key)} (hl:ks.length<64) (h:∀ q∈ks,KeyIn c own q):Pl (n+2) (.lst (ks.map cR)):=⟨by rw[List.length_map];omega,fun d hd=>by
 obtain⟨q,hq,rfl⟩:=List.mem_map.mp hd
 exact Pl.key (h q hq) n⟩
theorem Kg {c:Nat}{own:Nat->Nat}{S:Nat->Hd} (I:HInv c own S) (c0:0<c) (c8:c<=8) (ht:tot c own<64) (d:Deed):Pl 2 (step c S d).1:=by
 cases d with
 |put a x v=>
  show Pl 2 (if 0<=a/\a<(c:Int) then(_,_) else(_,_):D×(Nat->Hd)).1
  split
  ·exact Pl.mkD 1 _ _
  ·exact Pl.str _ _
 |change a x v=>
  show Pl 2 (if 0<=a/\a<(c:Int) then(_,_) else(_,_):D×(Nat->Hd)).1
  split
  ·exact Pl.mkD 1 _ _
  ·exact Pl.str _ _
 |take a x=>
  show Pl 2 (if 0<=a/\a<(c:Int) then(_,_) else(_,_):D×(Nat->Hd)).1
  split
  ·rename_i h
   show Pl 2 ((S a.toNat).takeA x)
   unfold Hd.takeA
   split
   ·exact Pl.non _
   ·have W:=(I a.toNat (by omega)).1
    have O:=W.ok c0 c8 ht
    exact Pl.keys (O.marksLen x) (W.marks O x)
  ·exact Pl.str _ _
 |tell a b=>
  show Pl 2 (if(0<=a/\a<(c:Int))/\(0<=b/\b<(c:Int)) then(if a=b then(_,_) else(_,_)) else(_,_):D×(Nat->Hd)).1
  split
  ·split
   ·exact Pl.str _ _
   ·exact Pl.int _ _
  ·exact Pl.str _ _
 |meet a b=>
  show Pl 2 (if(0<=a/\a<(c:Int))/\(0<=b/\b<(c:Int)) then(if a=b then(_,_) else(_,_)) else(_,_):D×(Nat->Hd)).1
  split
  ·split
   ·exact Pl.str _ _
   ·exact Pl.tup2 (Pl.int _ _) (Pl.int _ _)
  ·exact Pl.str _ _
def kS (c:Nat):List Deed->(Nat->Hd)->List D×(Nat->Hd)
 |[],S=>([],S)
 |d::r,S=>((step c S d).1::(kS c r (step c S d).2).1,(kS c r (step c S d).2).2)
def jA (c:Nat) (ds:List Deed):List D:=(kS c ds fun _=>Hd0 c).1
def kW (c:Nat) (ds:List Deed):Nat->Hd:=(kS c ds fun _=>Hd0 c).2
theorem pH (c:Nat):∀(ds:List Deed) (S:Nat->Hd),(kS c ds S).1.length=ds.length
 |[],_=>rfl
 |d::r,S=>by
  show((step c S d).1::(kS c r (step c S d).2).1).length=_
  rw[List.length_cons,List.length_cons,pH c r]
section
variable {B:Om}{c g i j:Nat}{own:Nat->Nat}{S:Nat->Hd}{ω ω':Om}{hs:Nat->Nat}{fp:Nat->List Nat}
theorem Ou (c:Nat):HInv c (fun _=>0) (fun _=>Hd0 c):=fun a ha=>by
 have hz:∀ n m:Nat,(List.replicate n (0:Int)).getD m 0=0:=fun n m=>by
  rw[List.getD_eq_getElem?_getD,List.getElem?_replicate]
  split <;> rfl
 refine⟨⟨by simp[Hd0],fun xs hx=> ?_,fun xs hx b hb=> ?_,fun kv h=>by simp[Hd0] at h,by simp[Hd0],fun kv h=>by simp[Hd0] at h,fun kv h=>by simp[Hd0] at h,by simp[Hd0]⟩,?_⟩
 ·rw[(List.mem_replicate.mp hx).2,List.length_replicate]
 ·rw[(List.mem_replicate.mp hx).2,hz]
  exact⟨Int.le_refl _,Int.le_refl _⟩
 ·show((List.replicate c (List.replicate c (0:Int))).getD a []).getD a 0=0
  have e1:(List.replicate c (List.replicate c (0:Int))).getD a []=List.replicate c 0:=by
   rw[List.getD_eq_getElem?_getD,List.getElem?_replicate,if_pos ha]
   rfl
  rw[e1]
  exact hz c a
theorem OD:∀ c,tot c (fun _=>0)=0
 |0=>rfl
 |c+1=>by
  have ih:=OD c
  unfold tot at ih ⊢
  rw[List.range_succ,List.map_append,List.sum_append,ih]
  rfl
theorem rY (c0:0<c) (c8:c<=8):∀(ds:List Deed) {u:Option D}{S:Nat->Hd}{ω:Om}{fp:Nat->List Nat}{own:Nat->Nat},HallS B ω g c hs fp S->HInv c own S->tot c own+ds.length<64->∃ ω' fp' own',compLO (bN 0) dH (oPT nN) (bS cK (aE (oP (aF 1)) (aE (oP (aF 0)) aU))) (ds.map Deed.d) [u,some (.obj g)] ω=some ((kS c ds S).1,ω')/\HallS B ω' g c hs fp' (kS c ds S).2/\HInv c own' (kS c ds S).2/\tot c own'<64/\∀ x∈(kS c ds S).1,Pl 2 x
 |[],u,S,ω,fp,own,L,I,ht=>⟨ω,fp,own,rfl,L,I,by simpa using ht,fun x hx=>by simp[kS] at hx⟩
 |d::ds,u,S,ω,fp,own,L,I,ht=>by
  rw[List.length_cons] at ht
  obtain⟨ω1,fp1,own1,e1,L1,I1,t1⟩:=BI L I c0 c8 (by omega) d
  obtain⟨ω2,fp2,own2,e2,L2,I2,t2,p2⟩:=rY c0 c8 ds (u:=some d.d) L1 I1 (by omega)
  refine⟨ω2,fp2,own2,?_,L2,I2,t2,fun x hx=> ?_⟩
  rotate_left
  ·rcases List.mem_cons.mp (show x∈(step c S d).1::(kS c ds (step c S d).2).1 from hx) with z|z
   ·rw[z];exact Kg I c0 c8 (by omega) d
   ·exact p2 x z
  show(match bS cK (aE (oP (aF 1)) (aE (oP (aF 0)) aU)) [some d.d,some (.obj g)] ω with
   |some (.ok y,ω2)=>(compLO (bN 0) dH (oPT nN) (bS cK (aE (oP (aF 1)) (aE (oP (aF 0)) aU))) (ds.map Deed.d) [some d.d,some (.obj g)] ω2).map fun r:List D×Om=>(y::r.1,r.2)
   |_=>none)=_
  rw[bB (aC (aD rfl) (aC (aD rfl) aJ)) e1]
  show(compLO _ _ _ _ _ _ _).map _=_
  rw[e2]
  rfl
theorem yD (c0:0<c) (c8:c<=8) {n:D}{l:D}:∀(ds:List Deed) {u:Option D}{S:Nat->Hd}{ω:Om}{fp:Nat->List Nat}{own:Nat->Nat},HallS B ω g c hs fp S->HInv c own S->tot c own+ds.length<64->∃ v ω' fp' own',dU (bN 3) dH fE (ds.map Deed.d) [some n,some l,some (.obj g),u] ω=some (.nx [some n,some l,some (.obj g),v],ω')/\HallS B ω' g c hs fp' (kS c ds S).2/\HInv c own' (kS c ds S).2/\tot c own'<64
 |[],u,S,ω,fp,own,L,I,ht=>⟨u,ω,fp,own,rfl,L,I,by simpa using ht⟩
 |d::ds,u,S,ω,fp,own,L,I,ht=>by
  rw[List.length_cons] at ht
  obtain⟨ω1,fp1,own1,e1,L1,I1,t1⟩:=BI L I c0 c8 (by omega) d
  obtain⟨v,ω2,fp2,own2,e2,L2,I2,t2⟩:=yD c0 c8 ds (u:=some d.d) L1 I1 (by omega)
  refine⟨v,ω2,fp2,own2,?_,L2,I2,t2⟩
  have b1:fE [some n,some l,some (.obj g),some d.d] ω=some (.nx [some n,some l,some (.obj g),some d.d],ω1):=by
   unfold fE eS
   rw[dD (bB (aC (aD (d:=.obj g) rfl) (aC (aD (d:=d.d) rfl) aJ)) e1)]
  show(match fE [some n,some l,some (.obj g),some d.d] ω with
   |none=>none
   |some (.nx ρ2,ω2)=>dU (bN 3) dH fE (ds.map Deed.d) ρ2 ω2
   |some (.ct ρ2,ω2)=>dU (bN 3) dH fE (ds.map Deed.d) ρ2 ω2
   |some (.bk ρ2,ω2)=>some (.nx ρ2,ω2)
   |some (.rt d,ω2)=>some (.rt d,ω2)
   |some (.ex _,_)=>none)=_
  rw[b1]
  exact e2
theorem xV {F:OG D}{R:Nat->D}:∀ {l:List Nat}{u:Option D},(∀ i∈l,F [some (.obj (hs i))] ω=some (.ok (R i),ω))->compLO (bN 0) dH (oPT nN) F (l.map fun i=>.obj (hs i)) [u] ω=some (l.map R,ω)
 |[],u,_=>rfl
 |i::l,u,h=>by
  have ih:=xV (F:=F) (R:=R) (l:=l) (u:=some (.obj (hs i))) fun j hj=>h j (List.mem_cons_of_mem _ hj)
  show(match F [some (.obj (hs i))] ω with
   |some (.ok y,ω2)=>(compLO (bN 0) dH (oPT nN) F (l.map fun i=>.obj (hs i)) [some (.obj (hs i))] ω2).map fun r:List D×Om=>(y::r.1,r.2)
   |_=>none)=_
  rw[h i List.mem_cons_self]
  show(compLO _ _ _ _ _ _ _).map _=_
  rw[ih]
  rfl
theorem qB {F:OG D}{R:Nat->D}{f:OG D}{ρ:Rho} (L:HallS B ω g c hs fp S) (c8:c<=8) (ef:f ρ ω=some (.ok (.obj g),ω)) (h:∀ i,i<c->F [some (.obj (hs i))] ω=some (.ok (R i),ω)):eC wA (oIL (iM 1 "hands" f)) [none] (bN 0) (oPT nN) F ρ ω=some (.ok (.lst ((List.range c).map R)),ω):=by
 refine gW (ds:=(List.range c).map fun i=>.obj (hs i)) (chk:=dH) (ω1:=ω) ?_ (by rw[List.length_map,List.length_range,sizeLine_eq];omega) (xV fun i hi=>h i (List.mem_range.mp hi))
 unfold oIL
 rw[bO (uL L ef)]
 rfl
def HG (c:Nat) (S:Nat->Hd):D:=.lst ((List.range c).map fun i=>.lst (S i).ents)
def Jw (c:Nat) (S:Nat->Hd):D:=.lst ((List.range c).map fun i=>.lst (iv ((S i).seen i)))
def Jy (c:Nat) (S:Nat->Hd):D:=.lst ((List.range c).map fun i=>.lst ((S i).knows.map fun xs=>.lst (iv xs)))
def Jx (c:Nat) (S:Nat->Hd):D:=.lst ((List.range c).map fun i=>.lst (S i).mind)
theorem Jr (c0:0<c) (c8:c<=8) {ds:List Deed} (hl:ds.length<64) (ω:Om):∃ ω',Ci [.int c,.lst (ds.map Deed.d)] ω=some (.ok (.tup [HG c (kW c ds),Jw c (kW c ds),Jy c (kW c ds),Jx c (kW c ds)]),ω')/\Keep [] ω ω'/\∃ own,HInv c own (kW c ds)/\tot c own<64:=by
 obtain⟨ω1,hs,fp,e1,L1⟩:=Bb (ω:=ω) c8 (fl:=aE (oP (aF 0)) aU) (ρ:=cP Ag [.int c,.lst (ds.map Deed.d)]) (aC (aD rfl) aJ)
 obtain⟨v,ω2,fp2,own2,e2,L2,I2,t2⟩:=yD c0 c8 (n:=.int c) (l:=.lst (ds.map Deed.d)) ds (u:=none) L1 (Ou c) (by rw[OD];omega)
 refine⟨ω2,?_,⟨L2.bas.1,fun n hn _=>L2.bas.2 n hn⟩,own2,I2,t2⟩
 refine bC rfl ?_
 unfold Cy
 rw[aV e1]
 rw[bY (mZ (by
  unfold dS oIL
  rw[dD (x:=(ds.map Deed.d,dH)) (ω1:=ω1) (by rw[bO (aD (d:=.lst (ds.map Deed.d)) rfl)];rfl)]
  exact e2))]
 have K:∀ i,i<c->(kW c ds i).Ok c:=fun i hi=>(I2 i hi).1.ok c0 c8 t2
 have a1:=qB (ρ:=[some (.int c),some (.lst (ds.map Deed.d)),some (.obj ω.length),v]) (F:=bL 0 "entries" bZ (oP (aF 0)) aU) (R:=fun i=>.lst (kW c ds i).ents) (f:=oP (aF 2)) L2 c8 (aD rfl) fun i hi=>by
  obtain⟨k,t,e,rs,H,_⟩:=L2.hand i hi
  exact cI (aD rfl) H.obj rfl (mO H (K i hi).ents.1)
 have a2:=qB (ρ:=[some (.int c),some (.lst (ds.map Deed.d)),some (.obj ω.length),v]) (F:=oL kU (aE (bL 0 "seen" cC (oP (aF 0)) aU) aU)) (R:=fun i=>.lst (iv ((kW c ds i).seen i))) (f:=oP (aF 2)) L2 c8 (aD rfl) fun i hi=>by
  obtain⟨k,t,e,rs,H,_⟩:=L2.hand i hi
  exact Hw H (Nat.lt_of_lt_of_eq hi (K i hi).len.symm) (aD rfl)
 have a3:=qB (ρ:=[some (.int c),some (.lst (ds.map Deed.d)),some (.obj ω.length),v]) (F:=bL 0 "known" iS (oP (aF 0)) aU) (R:=fun i=>.lst ((kW c ds i).knows.map fun xs=>.lst (iv xs))) (f:=oP (aF 2)) L2 c8 (aD rfl) fun i hi=>by
  obtain⟨k,t,e,rs,H,_⟩:=L2.hand i hi
  exact cI (aD rfl) H.obj rfl (Ir H (by rw[H.rows.length];have:=(K i hi).len;unfold kW at this;rw[this,sizeLine_eq];omega))
 have a4:=qB (ρ:=[some (.int c),some (.lst (ds.map Deed.d)),some (.obj ω.length),v]) (F:=bL 0 "in_mind" fL (oP (aF 0)) aU) (R:=fun i=>.lst (kW c ds i).mind) (f:=oP (aF 2)) L2 c8 (aD rfl) fun i hi=>by
  obtain⟨k,t,e,rs,H,_⟩:=L2.hand i hi
  exact cI (aD rfl) H.obj rfl (EJ H (K i hi) (I2 i hi).1)
 refine bM (fD (aC a1 (aC a2 (aC a3 (aC a4 aJ)))) ?_)
 show pu (iN _) ω2=_
 unfold iN
 rw[if_pos (by rw[sizeLine_eq];simp)]
 rfl
end
end L2.MB.Lw
end
section
namespace L2.MB.Lw
open PySem PySem.Spec PyProof.Rows L2.MB
def Deed.hands:Deed->List Int
 |.put a _ _=>[a]
 |.change a _ _=>[a]
 |.take a _=>[a]
 |.tell a b=>[a,b]
 |.meet a b=>[a,b]
def Deed.on (c:Nat):Deed->List Nat
 |.put a _ _=>if 0<=a/\a<c then [a.toNat] else []
 |.change a _ _=>if 0<=a/\a<c then [a.toNat] else []
 |.take a _=>if 0<=a/\a<c then [a.toNat] else []
 |.tell a b=>if(0<=a/\a<c)/\(0<=b/\b<c) then [a.toNat,b.toNat] else []
 |.meet a b=>if(0<=a/\a<c)/\(0<=b/\b<c) then [a.toNat,b.toNat] else []
section
variable {c:Nat}{S S':Nat->Hd}{d x y:Deed}{a b n:Nat}
theorem Dt (h:n∈d.on c):∃ a∈d.hands,0<=a/\a.toNat=n:=by
 cases d with
 |put a x v=>
  change n∈(if 0<=a/\a<(c:Int) then [a.toNat] else []) at h
  split at h
  ·exact⟨a,List.mem_singleton.mpr rfl,by omega,(List.mem_singleton.mp h).symm⟩
  ·simp at h
 |change a x v=>
  change n∈(if 0<=a/\a<(c:Int) then [a.toNat] else []) at h
  split at h
  ·exact⟨a,List.mem_singleton.mpr rfl,by omega,(List.mem_singleton.mp h).symm⟩
  ·simp at h
 |take a x=>
  change n∈(if 0<=a/\a<(c:Int) then [a.toNat] else []) at h
  split at h
  ·exact⟨a,List.mem_singleton.mpr rfl,by omega,(List.mem_singleton.mp h).symm⟩
  ·simp at h
 |tell a b=>
  change n∈(if(0<=a/\a<(c:Int))/\(0<=b/\b<(c:Int)) then [a.toNat,b.toNat] else []) at h
  split at h
  ·rcases List.mem_cons.mp h with h|h
   ·exact⟨a,by simp[Deed.hands],by omega,h.symm⟩
   ·exact⟨b,by simp[Deed.hands],by omega,(List.mem_singleton.mp h).symm⟩
  ·simp at h
 |meet a b=>
  change n∈(if(0<=a/\a<(c:Int))/\(0<=b/\b<(c:Int)) then [a.toNat,b.toNat] else []) at h
  split at h
  ·rcases List.mem_cons.mp h with h|h
   ·exact⟨a,by simp[Deed.hands],by omega,h.symm⟩
   ·exact⟨b,by simp[Deed.hands],by omega,(List.mem_singleton.mp h).symm⟩
  ·simp at h
theorem Ia (h:∀ a∈x.hands,a∉y.hands):∀ n∈x.on c,n∉y.on c:=fun n hx hy=>by
 obtain⟨a,ha,a0,e1⟩:=Dt hx
 obtain⟨b,hb,b0,e2⟩:=Dt hy
 have:a=b:=by omega
 exact h a ha (this ▸ hb)
theorem mB (h:n≠b):lA S a b n=S n:=nS h
theorem qM (ha:S a=S' a) (hb:S b=S' b):lA S a b a=lA S' a b a/\lA S a b b=lA S' a b b/\sE S a b=sE S' a b:=by
 have e:lA S a b b=lA S' a b b:=by
  unfold lA
  rw[gN,gN,ha,hb]
 refine⟨?_,e,by unfold sE;rw[ha,hb]⟩
 by_cases h:a=b
 ·rw[<- h] at e ⊢
  exact e
 ·rw[mB h,mB h,ha]
theorem Le (ha:S a=S' a) (hb:S b=S' b):yZ S a b a=yZ S' a b a/\yZ S a b b=yZ S' a b b:=by
 obtain⟨h1,h2,_⟩:=qM ha hb
 obtain⟨h3,h4,_⟩:=qM h2 h1
 obtain⟨h5,h6,_⟩:=qM h4 h3
 exact⟨h5,h6⟩
theorem Im (h1:n≠a) (h2:n≠b):yZ S a b n=S n:=by
 unfold yZ
 rw[mB h2,mB h1,mB h2]
theorem iP (h:n∉d.on c):(step c S d).2 n=S n:=by
 cases d with
 |put a x v=>
  change n∉(if 0<=a/\a<(c:Int) then [a.toNat] else []) at h
  show(if 0<=a/\a<(c:Int) then(_,_) else(_,_):D×(Nat->Hd)).2 n=_
  by_cases q:0<=a/\a<(c:Int)
  ·rw[if_pos q] at h ⊢
   exact nS (by simpa using h)
  ·rw[if_neg q]
 |change a x v=>
  change n∉(if 0<=a/\a<(c:Int) then [a.toNat] else []) at h
  show(if 0<=a/\a<(c:Int) then(_,_) else(_,_):D×(Nat->Hd)).2 n=_
  by_cases q:0<=a/\a<(c:Int)
  ·rw[if_pos q] at h ⊢
   exact nS (by simpa using h)
  ·rw[if_neg q]
 |take a x=>
  change n∉(if 0<=a/\a<(c:Int) then [a.toNat] else []) at h
  show(if 0<=a/\a<(c:Int) then(_,_) else(_,_):D×(Nat->Hd)).2 n=_
  by_cases q:0<=a/\a<(c:Int)
  ·rw[if_pos q] at h ⊢
   exact nS (by simpa using h)
  ·rw[if_neg q]
 |tell a b=>
  change n∉(if(0<=a/\a<(c:Int))/\(0<=b/\b<(c:Int)) then [a.toNat,b.toNat] else []) at h
  show(if(0<=a/\a<(c:Int))/\(0<=b/\b<(c:Int)) then(if a=b then(_,_) else(_,_)) else(_,_):D×(Nat->Hd)).2 n=_
  by_cases q:(0<=a/\a<(c:Int))/\(0<=b/\b<(c:Int))
  ·rw[if_pos q] at h ⊢
   simp only[List.mem_cons,List.not_mem_nil,or_false,not_or] at h
   by_cases hab:a=b
   ·rw[if_pos hab]
   ·rw[if_neg hab]
    exact mB h.2
  ·rw[if_neg q]
 |meet a b=>
  change n∉(if(0<=a/\a<(c:Int))/\(0<=b/\b<(c:Int)) then [a.toNat,b.toNat] else []) at h
  show(if(0<=a/\a<(c:Int))/\(0<=b/\b<(c:Int)) then(if a=b then(_,_) else(_,_)) else(_,_):D×(Nat->Hd)).2 n=_
  by_cases q:(0<=a/\a<(c:Int))/\(0<=b/\b<(c:Int))
  ·rw[if_pos q] at h ⊢
   simp only[List.mem_cons,List.not_mem_nil,or_false,not_or] at h
   by_cases hab:a=b
   ·rw[if_pos hab]
   ·rw[if_neg hab]
    exact Im h.1 h.2
  ·rw[if_neg q]
theorem Fs (h:∀ n∈d.on c,S n=S' n):(step c S d).1=(step c S' d).1/\∀ n∈d.on c,(step c S d).2 n=(step c S' d).2 n:=by
 cases d with
 |put a x v=>
  change ∀ n∈(if 0<=a/\a<(c:Int) then [a.toNat] else []),_ at h
  show(if 0<=a/\a<(c:Int) then(_,_) else(_,_):D×(Nat->Hd)).1=(if 0<=a/\a<(c:Int) then(_,_) else(_,_):D×(Nat->Hd)).1/\∀ n∈(if 0<=a/\a<(c:Int) then [a.toNat] else []),(if 0<=a/\a<(c:Int) then(_,_) else(_,_):D×(Nat->Hd)).2 n=(if 0<=a/\a<(c:Int) then(_,_) else(_,_):D×(Nat->Hd)).2 n
  by_cases q:0<=a/\a<(c:Int)
  ·simp only[if_pos q] at h ⊢
   have e:=h a.toNat (by simp)
   refine⟨by rw[e],fun n hn=> ?_⟩
   rw[List.mem_singleton.mp hn,gN,gN,e]
  ·simp only[if_neg q]
   exact⟨trivial,fun n hn=>by simp at hn⟩
 |change a x v=>
  change ∀ n∈(if 0<=a/\a<(c:Int) then [a.toNat] else []),_ at h
  show(if 0<=a/\a<(c:Int) then(_,_) else(_,_):D×(Nat->Hd)).1=(if 0<=a/\a<(c:Int) then(_,_) else(_,_):D×(Nat->Hd)).1/\∀ n∈(if 0<=a/\a<(c:Int) then [a.toNat] else []),(if 0<=a/\a<(c:Int) then(_,_) else(_,_):D×(Nat->Hd)).2 n=(if 0<=a/\a<(c:Int) then(_,_) else(_,_):D×(Nat->Hd)).2 n
  by_cases q:0<=a/\a<(c:Int)
  ·simp only[if_pos q] at h ⊢
   have e:=h a.toNat (by simp)
   refine⟨by rw[e],fun n hn=> ?_⟩
   rw[List.mem_singleton.mp hn,gN,gN,e]
  ·simp only[if_neg q]
   exact⟨trivial,fun n hn=>by simp at hn⟩
 |take a x=>
  change ∀ n∈(if 0<=a/\a<(c:Int) then [a.toNat] else []),_ at h
  show(if 0<=a/\a<(c:Int) then(_,_) else(_,_):D×(Nat->Hd)).1=(if 0<=a/\a<(c:Int) then(_,_) else(_,_):D×(Nat->Hd)).1/\∀ n∈(if 0<=a/\a<(c:Int) then [a.toNat] else []),(if 0<=a/\a<(c:Int) then(_,_) else(_,_):D×(Nat->Hd)).2 n=(if 0<=a/\a<(c:Int) then(_,_) else(_,_):D×(Nat->Hd)).2 n
  by_cases q:0<=a/\a<(c:Int)
  ·simp only[if_pos q] at h ⊢
   have e:=h a.toNat (by simp)
   refine⟨by rw[e],fun n hn=> ?_⟩
   rw[List.mem_singleton.mp hn,gN,gN,e]
  ·simp only[if_neg q]
   exact⟨trivial,fun n hn=>by simp at hn⟩
 |tell a b=>
  change ∀ n∈(if(0<=a/\a<(c:Int))/\(0<=b/\b<(c:Int)) then [a.toNat,b.toNat] else []),_ at h
  show(if(0<=a/\a<(c:Int))/\(0<=b/\b<(c:Int)) then(if a=b then(_,_) else(_,_)) else(_,_):D×(Nat->Hd)).1=(if(0<=a/\a<(c:Int))/\(0<=b/\b<(c:Int)) then(if a=b then(_,_) else(_,_)) else(_,_):D×(Nat->Hd)).1/\∀ n∈(if(0<=a/\a<(c:Int))/\(0<=b/\b<(c:Int)) then [a.toNat,b.toNat] else []),(if(0<=a/\a<(c:Int))/\(0<=b/\b<(c:Int)) then(if a=b then(_,_) else(_,_)) else(_,_):D×(Nat->Hd)).2 n=(if(0<=a/\a<(c:Int))/\(0<=b/\b<(c:Int)) then(if a=b then(_,_) else(_,_)) else(_,_):D×(Nat->Hd)).2 n
  by_cases q:(0<=a/\a<(c:Int))/\(0<=b/\b<(c:Int))
  ·simp only[if_pos q] at h ⊢
   have e1:=h a.toNat (by simp)
   have e2:=h b.toNat (by simp)
   by_cases hab:a=b
   ·simp only[if_pos hab]
    exact⟨trivial,h⟩
   ·simp only[if_neg hab]
    obtain⟨t1,t2,t3⟩:=qM e1 e2
    refine⟨by rw[t3],fun n hn=> ?_⟩
    rcases List.mem_cons.mp hn with z|z
    ·rw[z];exact t1
    ·rw[List.mem_singleton.mp z];exact t2
  ·simp only[if_neg q]
   exact⟨trivial,fun n hn=>by simp at hn⟩
 |meet a b=>
  change ∀ n∈(if(0<=a/\a<(c:Int))/\(0<=b/\b<(c:Int)) then [a.toNat,b.toNat] else []),_ at h
  show(if(0<=a/\a<(c:Int))/\(0<=b/\b<(c:Int)) then(if a=b then(_,_) else(_,_)) else(_,_):D×(Nat->Hd)).1=(if(0<=a/\a<(c:Int))/\(0<=b/\b<(c:Int)) then(if a=b then(_,_) else(_,_)) else(_,_):D×(Nat->Hd)).1/\∀ n∈(if(0<=a/\a<(c:Int))/\(0<=b/\b<(c:Int)) then [a.toNat,b.toNat] else []),(if(0<=a/\a<(c:Int))/\(0<=b/\b<(c:Int)) then(if a=b then(_,_) else(_,_)) else(_,_):D×(Nat->Hd)).2 n=(if(0<=a/\a<(c:Int))/\(0<=b/\b<(c:Int)) then(if a=b then(_,_) else(_,_)) else(_,_):D×(Nat->Hd)).2 n
  by_cases q:(0<=a/\a<(c:Int))/\(0<=b/\b<(c:Int))
  ·simp only[if_pos q] at h ⊢
   have e1:=h a.toNat (by simp)
   have e2:=h b.toNat (by simp)
   by_cases hab:a=b
   ·simp only[if_pos hab]
    exact⟨trivial,h⟩
   ·simp only[if_neg hab]
    obtain⟨t1,t2,t3⟩:=qM e1 e2
    obtain⟨_,_,t4⟩:=qM t2 t1
    obtain⟨m1,m2⟩:=Le e1 e2
    refine⟨by rw[t3,t4],fun n hn=> ?_⟩
    rcases List.mem_cons.mp hn with z|z
    ·rw[z];exact m1
    ·rw[List.mem_singleton.mp z];exact m2
  ·simp only[if_neg q]
   exact⟨trivial,fun n hn=>by simp at hn⟩
theorem Ft (h:∀ n∈x.on c,n∉y.on c):(step c (step c S x).2 y).1=(step c S y).1/\(step c (step c S y).2 x).1=(step c S x).1/\(step c (step c S x).2 y).2=(step c (step c S y).2 x).2:=by
 have hy:=Fs (d:=y) (S:=(step c S x).2) (S':=S) (c:=c) fun n hn=>iP fun z=>h n z hn
 have hx:=Fs (d:=x) (S:=(step c S y).2) (S':=S) (c:=c) fun n hn=>iP (h n hn)
 refine⟨hy.1,hx.1,funext fun n=> ?_⟩
 by_cases h1:n∈x.on c
 ·rw[hx.2 n h1,iP (h n h1)]
 ·by_cases h2:n∈y.on c
  ·rw[hy.2 n h2,iP h1]
  ·rw[iP h2,iP h1,iP h1,iP h2]
theorem Dp (c:Nat):∀(p q:List Deed) (S:Nat->Hd),kS c (p++q) S=((kS c p S).1++(kS c q (kS c p S).2).1,(kS c q (kS c p S).2).2)
 |[],q,S=>rfl
 |d::p,q,S=>by
  show((step c S d).1::(kS c (p++q) (step c S d).2).1,(kS c (p++q) (step c S d).2).2)=_
  rw[Dp c p q]
  rfl
end
def OrdOk (c:Nat) (f:Nat->Deed) (ans:Nat->D) (E:Nat->Hd) (S0:Nat->Hd) (o:List Nat):Prop:=(kS c (o.map f) S0).1=o.map ans/\(kS c (o.map f) S0).2=E
theorem OrdOk.swap {c:Nat}{f:Nat->Deed}{ans:Nat->D}{E S0:Nat->Hd}{p q:List Nat}{a b:Nat} (h:OrdOk c f ans E S0 (p++a::b::q)) (hd:∀ n∈(f a).hands,n∉(f b).hands):OrdOk c f ans E S0 (p++b::a::q):=by
 unfold OrdOk at h ⊢
 rw[List.map_append,List.map_cons,List.map_cons,Dp] at h ⊢
 obtain⟨h1,h2⟩:=h
 obtain⟨c1,c2,c3⟩:=Ft (c:=c) (S:=(kS c (p.map f) S0).2) (Ia (c:=c) hd)
 have hA:∀ u v:Nat,(p++u::v::q).map ans=p.map ans++ans u::ans v::q.map ans:=fun u v=>by simp
 rw[hA] at h1 ⊢
 obtain⟨e1,e2⟩:=List.append_inj h1 (by rw[pH,List.length_map,List.length_map])
 change (step c (kS c (p.map f) S0).2 (f a)).1::(step c (step c (kS c (p.map f) S0).2 (f a)).2 (f b)).1::(kS c (q.map f) (step c (step c (kS c (p.map f) S0).2 (f a)).2 (f b)).2).1=_ at e2
 injection e2 with e3 e4
 injection e4 with e5 e6
 change (kS c (q.map f) (step c (step c (kS c (p.map f) S0).2 (f a)).2 (f b)).2).2=E at h2
 constructor
 ·show(kS c (p.map f) S0).1++((step c (kS c (p.map f) S0).2 (f b)).1::(step c (step c (kS c (p.map f) S0).2 (f b)).2 (f a)).1::(kS c (q.map f) (step c (step c (kS c (p.map f) S0).2 (f b)).2 (f a)).2).1)=_
  rw[e1,<- c3,e6,c2,e3,<- c1,e5]
 ·show(kS c (q.map f) (step c (step c (kS c (p.map f) S0).2 (f b)).2 (f a)).2).2=E
  rw[<- c3]
  exact h2
end L2.MB.Lw
end
section
namespace L2.MB.Lw
open PySem PySem.Spec PyProof.Rows L2.MB
theorem vH {f:D->D->Option Bool}:∀ {ds:List D},(∀ d∈ds,f d d=some true)->nO f ds ds=some true
 |[],_=>rfl
 |d::ds,h=>by
  show(f d d).bind _=_
  rw[h d List.mem_cons_self]
  show(nO f ds ds).map _=_
  rw[vH fun d' hd=>h d' (List.mem_cons_of_mem _ hd)]
  rfl
theorem zK:∀ {n:Nat}{d:D},Pl n d->eqD n d d=some true
 |n,.non,_=>by cases n <;> rfl
 |n,.bl b,_=>by cases n <;> cases b <;> rfl
 |n,.int i,_=>by
  have:eqD n (.int i) (.int i)=some (i==i):=by cases n <;> rfl
  rw[this]
  simp
 |n,.str x,_=>by
  rw[oG]
  simp
 |n+1,.lst ds,h=>by
  show(if ds.length=ds.length then nO (eqD n) ds ds else some false)=_
  rw[if_pos rfl]
  exact vH fun d hd=>zK (h.2 d hd)
 |n+1,.tup ds,h=>by
  show(nO (eqD n) ds ds).map (fun k=>k&&ds.length==ds.length)=_
  rw[vH fun d hd=>zK (h.2 d hd)]
  simp
 |0,.lst _,h=>h.elim
 |0,.tup _,h=>h.elim
 |0,.obj _,h=>h.elim
 |n+1,.obj _,h=>h.elim
 |0,.scr _,h=>h.elim
 |n+1,.scr _,h=>h.elim
theorem Pl.mono:∀ {n m:Nat}{d:D},Pl n d->n<=m->Pl m d
 |_,m,.non,_,_=>by cases m <;> trivial
 |_,m,.bl _,_,_=>by cases m <;> trivial
 |_,m,.int _,_,_=>by cases m <;> trivial
 |_,m,.str _,_,_=>by cases m <;> trivial
 |n+1,m+1,.lst ds,h,hm=>⟨h.1,fun d hd=>Pl.mono (h.2 d hd) (by omega)⟩
 |n+1,m+1,.tup ds,h,hm=>⟨h.1,fun d hd=>Pl.mono (h.2 d hd) (by omega)⟩
 |n+1,0,.lst ds,h,hm=>by omega
 |n+1,0,.tup ds,h,hm=>by omega
 |0,_,.lst _,h,_=>h.elim
 |0,_,.tup _,h,_=>h.elim
 |0,_,.obj _,h,_=>h.elim
 |n+1,_,.obj _,h,_=>h.elim
 |0,_,.scr _,h,_=>h.elim
 |n+1,_,.scr _,h,_=>h.elim
section
variable {ω:Om}{ρ:Rho}{f h:OG D}{d:D}
theorem dZ {T:String}{k:Bool} (e:f ρ ω=some (.ok d,ω)) (h:rS T ω d=some k):rP T f ρ ω=some (.ok (.bl k),ω):=by
 unfold rP
 rw[bO e]
 show oR (pu ((rS T ω d).map D.bl) ω)=_
 rw[h]
 rfl
theorem tru_ok {k:Bool} (e:f ρ ω=some (.ok (.bl k),ω)):kZ f ρ ω=some (.ok k,ω):=by
 unfold kZ
 rw[bO e]
 rfl
theorem lH {t:OG Bool}{k:Bool} (e:t ρ ω=some (.ok k,ω)):nG t ρ ω=some (.ok (!k),ω):=by
 unfold nG
 rw[bO e]
theorem AG {t u:OG Bool} (e1:t ρ ω=some (.ok false,ω)) (e2:u ρ ω=some (.ok false,ω)):oOr t u ρ ω=some (.ok false,ω):=by
 unfold oOr
 rw[bO e1]
 exact e2
theorem Ik {b:Bool} (e1:f ρ ω=some (.ok (.bl b),ω)) (e2:h ρ ω=some (.ok (.bl b),ω)):eJ (o2 (EM 8) f h) ρ ω=some (.ok false,ω):=dW (lG e1 e2 (by cases b <;> rfl))
theorem AM {a b:Int} (e1:f ρ ω=some (.ok (.int a),ω)) (e2:h ρ ω=some (.ok (.int b),ω)) (hab:a=b):eJ (o2 (EM 8) f h) ρ ω=some (.ok false,ω):=dW (lG e1 e2 (by
 subst hab
 show some (D.bl (!(a==a)),ω)=_
 simp))
theorem Ab {ds:List D}{k:Nat} (hk:k<ds.length):atI ds (k:Int)=some ds[k]:=by
 unfold atI ixN
 rw[if_pos (Int.natCast_nonneg k),if_pos (by omega)]
 show ds[(k:Int).toNat]?=_
 rw[Int.toNat_natCast,List.getElem?_eq_getElem hk]
theorem BH {ds:List D}{k:Nat}{d:D} (h:ds[k]?=some d):atI ds (k:Int)=some d:=by
 obtain⟨hk,e⟩:=List.getElem?_eq_some_iff.mp h
 rw[Ab hk,e]
theorem iV {ds:List D} (e:f ρ ω=some (.ok d,ω)) (hd:d=.lst ds∨d=.tup ds):oL eE (aE f aU) ρ ω=some (.ok (.int ds.length),ω):=by
 refine fD (aC e aJ) ?_
 rcases hd with rfl|rfl <;> rfl
theorem JS {ds:List D}{k:Nat} (e:f ρ ω=some (.ok d,ω)) (e2:h ρ ω=some (.ok (.int k),ω)) (hd:d=.lst ds∨d=.tup ds) (hk:k<ds.length):o2 (fun ω a b=>pu (cA ω a b) ω) f h ρ ω=some (.ok ds[k],ω):=by
 refine bD e e2 ?_
 rcases hd with rfl|rfl
 ·exact Ab hk
 ·exact Ab hk
end
theorem Kl {s:Int}{n:Nat}{d:D} (h:d∈sI s n):∃ k:Nat,k<n/\d=.int (s+k):=by
 unfold sI at h
 obtain⟨k,hk,rfl⟩:=List.mem_map.mp h
 exact⟨k,List.mem_range.mp hk,rfl⟩
theorem LW {x:Str}{a b v:Int}{F N R:Option D}{ω:Om}:eD [F,N,R,some (.tup [.str x,.tup [.int a,.int b],.int v])] ω=some (.nx [F,N,R,some (.tup [.str x,.tup [.int a,.int b],.int v])],ω):=by
 rfl
theorem Ec {F N:Option D}{R:D}{ω:Om}:∀ {ds:List D}{u:Option D},(∀ d∈ds,qZ d)->∃ v,dU (bN 3) dH eD ds [F,N,some R,u] ω=some (.nx [F,N,some R,v],ω)
 |[],u,_=>⟨u,rfl⟩
 |d::ds,u,h=>by
  obtain⟨x,a,b,w,rfl⟩:=h d List.mem_cons_self
  obtain⟨v,e⟩:=Ec (F:=F) (N:=N) (R:=R) (ω:=ω) (ds:=ds) (u:=some (.tup [.str x,.tup [.int a,.int b],.int w])) fun d hd=>h d (List.mem_cons_of_mem _ hd)
  refine⟨v,?_⟩
  refine(iT rfl rfl (LW)).trans ?_
  exact e
theorem Eb {F N:Option D}{ω:Om}:∀ {ts:List (List D)}{u v:Option D},(∀ t∈ts,∀ d∈t,qZ d)->∃ u' v',dU (bN 2) dH cV (ts.map D.lst) [F,N,u,v] ω=some (.nx [F,N,u',v'],ω)
 |[],u,v,_=>⟨u,v,rfl⟩
 |t::ts,u,v,h=>by
  obtain⟨w,e1⟩:=Ec (F:=F) (N:=N) (R:=.lst t) (ω:=ω) (ds:=t) (u:=v) (h t List.mem_cons_self)
  obtain⟨u',v',e2⟩:=Eb (F:=F) (N:=N) (ω:=ω) (ts:=ts) (u:=some (.lst t)) (v:=w) fun t' ht=>h t' (List.mem_cons_of_mem _ ht)
  refine⟨u',v',?_⟩
  have b2:cV [F,N,some (.lst t),v] ω=some (.nx [F,N,some (.lst t),w],ω):=by
   unfold cV
   rw[skip (lH (k:=true) (tru_ok (dZ (aD (d:=.lst t) rfl) (by simp[rS,eN,qS,fS]))))]
   refine mZ ?_
   unfold dS oIL
   rw[dD (x:=(t,dH)) (ω1:=ω) (by rw[bO (aD (d:=.lst t) rfl)];rfl)]
   exact e1
  refine(iT rfl rfl (b2)).trans ?_
  exact e2
theorem Oq {ts:List (List D)}{c:Nat} (h:∀ t∈ts,∀ d∈t,qZ d) (hc:ts.length=c) (ω:Om):cX [.lst (ts.map D.lst),.int c] ω=some (.ok (.bl true),ω):=by
 obtain⟨u,v,e⟩:=Eb (F:=some (.lst (ts.map D.lst))) (N:=some (.int c)) (ω:=ω) (ts:=ts) (u:=none) (v:=none) h
 refine bC rfl ?_
 unfold fX
 show aP _ _ [some (.lst (ts.map D.lst)),some (.int c),none,none] ω=_
 rw[skip (AG (lH (k:=true) (tru_ok (dZ (aD (d:=.lst (ts.map D.lst)) rfl) (by simp[rS,eN,qS,fS])))) (AM (a:=((ts.map D.lst).length:Nat)) (b:=(c:Int)) (iV (aD (d:=.lst (ts.map D.lst)) rfl) (.inl rfl)) (aD rfl) (by rw[List.length_map,hc])))]
 rw[bY (mZ (by
  unfold dS oIL
  rw[dD (x:=(ts.map D.lst,dH)) (ω1:=ω) (by rw[bO (aD (d:=.lst (ts.map D.lst)) rfl)];rfl)]
  exact e))]
 rfl
end L2.MB.Lw
end
section
namespace L2.MB.Lw
open PySem PySem.Spec PyProof.Rows L2.MB
section
variable {ω:Om}{ρ:Rho}{f h:OG D}{a b:Int}
theorem pW (e1:f ρ ω=some (.ok (.int a),ω)) (e2:h ρ ω=some (.ok (.int b),ω)):o2 (lf vZ) f h ρ ω=some (.ok (.int (a+b)),ω):=jE e1 e2 rfl
theorem DU (e1:f ρ ω=some (.ok (.int a),ω)) (e2:h ρ ω=some (.ok (.int b),ω)):o2 (lf gSub) f h ρ ω=some (.ok (.int (a-b)),ω):=jE e1 e2 rfl
theorem DV (e1:f ρ ω=some (.ok (.int a),ω)) (e2:h ρ ω=some (.ok (.int b),ω)) (hb: -1000000000000000000<b/\b<1000000000000000000):o2 (lf jF) f h ρ ω=some (.ok (.int (a*b)),ω):=jE e1 e2 (NP hb)
theorem Bj (e1:f ρ ω=some (.ok (.int a),ω)) (e2:h ρ ω=some (.ok (.int b),ω)) (hb:0<b):o2 (lf cW) f h ρ ω=some (.ok (.int (a % b)),ω):=jE e1 e2 (NQ hb)
theorem sL {p q:Int} (e1:f ρ ω=some (.ok (.int a),ω)) (e2:h ρ ω=some (.ok (.int q),ω)) (hp:0<p) (hq:0<q):o2 (lf cW) (o2 (lf cW) (o2 (lf jF) f (oP (dC (.int 48271)))) (oP (dC (.int p)))) h ρ ω=some (.ok (.int (a*48271 % p % q)),ω):=Bj (Bj (DV e1 bF (by decide)) bF hp) e2 hq
theorem Et {x q:Int} (hq:0<q):0<=x % q/\x % q<q:=⟨Int.emod_nonneg x (by omega),Int.emod_lt_of_pos x hq⟩
theorem NY {z:Int} (e1:f ρ ω=some (.ok (.int a),ω)):eJ (o2 (sK 8) f (oP (dC (.int z)))) ρ ω=some (.ok (a==z),ω):=dW (lG e1 bF rfl)
theorem sM {z:Int} (e1:f ρ ω=some (.ok (.int a),ω)):eJ (o2 (lf gLt) f (oP (dC (.int z)))) ρ ω=some (.ok (decide (a<z)),ω):=dW (jE e1 bF rfl)
theorem EO {z:Int} (e1:f ρ ω=some (.ok (.int a),ω)):eJ (o2 (lf gGt) f (oP (dC (.int z)))) ρ ω=some (.ok (decide (z<a)),ω):=dW (jE e1 bF rfl)
theorem EB {xs:List Int} (e1:f ρ ω=some (.ok (.lst (iv xs)),ω)) (e2:h ρ ω=some (.ok (.int a),ω)) (h0:0<=a) (h1:a<xs.length):o2 (fun ω a b=>pu (cA ω a b) ω) f h ρ ω=some (.ok (.int (xs.getD a.toNat 0)),ω):=bD e1 e2 (RowV.ix (ω:=ω) (d:=.lst (iv xs)) rfl h0 h1)
theorem Hk {i:Nat}{d:D}{ω1:Om} (e:f ρ ω=some (.ok d,ω1)):bG i f ρ ω=some (.nx (ρ.set i (some d)),ω1):=by
 unfold bG
 rw[dD e]
theorem ifI {t:OG Bool}{F:OS}{i:Nat}{a0 a1:Int}{k:Bool} (ht:t ρ ω=some (.ok k,ω)) (hF:F ρ ω=some (.nx (ρ.set i (some (.int a1))),ω)) (h0:ρ.set i (some (.int a0))=ρ):∃ a:Int,fJ t F cB ρ ω=some (.nx (ρ.set i (some (.int a))),ω):=by
 cases k with
 |true=>exact⟨a1,by rw[wD ht];exact hF⟩
 |false=>exact⟨a0,by rw[tX ht,h0];rfl⟩
theorem Os {t u:OG Bool}{k l:Bool} (e1:t ρ ω=some (.ok k,ω)) (e2:u ρ ω=some (.ok l,ω)):JO t u ρ ω=some (.ok (k&&l),ω):=by
 unfold JO
 rw[bO e1]
 cases k with
 |true=>exact e2
 |false=>rfl
end
theorem Ka {j:Int}{c:Nat} (h0:0<=j) (h4:j<4) (c1:1<=c) (c8:c<=8) (ω:Om):∃ x,mJ [.int j,.int c] ω=some (.ok (.str x),ω):=by
 have hj:j=0∨j=1∨j=2∨j=3:=by omega
 have hc:c=1∨c=2∨c=3∨c=4∨c=5∨c=6∨c=7∨c=8:=by omega
 rcases hj with rfl|rfl|rfl|rfl <;> rcases hc with rfl|rfl|rfl|rfl|rfl|rfl|rfl|rfl <;> exact⟨_,rfl⟩
theorem JN (c:Nat) (ω:Om):fR [.int c] ω=some (.ok (.lst (iv [-1,c,-2,0-c,100000000000000000000,0-100000000000000000000])),ω):=rfl
theorem ER (cell:Int) (k c:Nat) (c2:1<=c) (c8:c<=8) (ω:Om):∃ d:Deed,jV [.int cell,.int k,.int c] ω=some (.ok d.d,ω):=by
 have cpos:(0:Int)<c:=by omega
 obtain⟨way,hway⟩:∃ w,w=cell*48271 % 1009 % 16:=⟨_,rfl⟩
 obtain⟨one,hone⟩:∃ w,w=(cell+k)*48271 % 1013 % c:=⟨_,rfl⟩
 have q1:∃ a:Int,fJ (JO (eJ (o2 (lf gGt) (oP (aF 2)) (oP (dC (.int 1))))) (eJ (o2 (lf gGt) (o2 (lf cW) (o2 (lf cW) (o2 (lf jF) (oP (aF 0)) (oP (dC (.int 48271)))) (oP (dC (.int 1019)))) (oP (dC (.int 19)))) (oP (dC (.int 0)))))) (bG 5 (o2 (lf cW) (o2 (lf vZ) (o2 (lf vZ) (oP (aF 4)) (oP (dC (.int 1)))) (o2 (lf cW) (o2 (lf cW) (o2 (lf jF) (oP (aF 0)) (oP (dC (.int 48271)))) (oP (dC (.int 1021)))) (o2 (lf gSub) (oP (aF 2)) (oP (dC (.int 1)))))) (oP (aF 2)))) cB [some (.int cell),some (.int k),some (.int c),some (.int way),some (.int one),some (.int one),none,none,none] ω=some (.nx [some (.int cell),some (.int k),some (.int c),some (.int way),some (.int one),some (.int a),none,none,none],ω):=by
  by_cases c1:c=1
  ·refine⟨one,?_⟩
   rw[tX (ω1:=ω) (by
    unfold JO
    rw[bO (EO (a:=c) (aD rfl)),decide_eq_false (by omega)]
    rfl)]
   rfl
  ·have cpos1:(0:Int)<c-1:=by omega
   exact ifI (ω:=ω) (i:=5) (ρ:=[some (.int cell),some (.int k),some (.int c),some (.int way),some (.int one),some (.int one),none,none,none]) (a0:=one)
    (t:=JO (eJ (o2 (lf gGt) (oP (aF 2)) (oP (dC (.int 1))))) (eJ (o2 (lf gGt) (o2 (lf cW) (o2 (lf cW) (o2 (lf jF) (oP (aF 0)) (oP (dC (.int 48271)))) (oP (dC (.int 1019)))) (oP (dC (.int 19)))) (oP (dC (.int 0))))))
    (F:=bG 5 (o2 (lf cW) (o2 (lf vZ) (o2 (lf vZ) (oP (aF 4)) (oP (dC (.int 1)))) (o2 (lf cW) (o2 (lf cW) (o2 (lf jF) (oP (aF 0)) (oP (dC (.int 48271)))) (oP (dC (.int 1021)))) (o2 (lf gSub) (oP (aF 2)) (oP (dC (.int 1)))))) (oP (aF 2))))
    (Os (EO (a:=c) (aD rfl)) (EO (sL (a:=cell) (aD rfl) bF (by decide) (by decide))))
    (Hk (Bj (b:=c) (pW (pW (a:=one) (aD rfl) bF) (sL (a:=cell) (aD rfl) (DU (a:=c) (aD rfl) bF) (by decide) cpos1)) (aD rfl) cpos)) rfl
 obtain⟨other,e1⟩:=q1
 have r4:=Et (x:=cell*48271 % 1031) (q:=4) (by decide)
 obtain⟨x,ex⟩:=Ka r4.1 r4.2 (by omega:1<=c) c8 ω
 obtain⟨vs,hvs⟩:∃ vs:List Int,vs=[cell*48271 % 1033 % 9-4,0-k,100000000000000000000+k]:=⟨_,rfl⟩
 have r3:=Et (x:=cell*48271 % 1039) (q:=3) (by decide)
 obtain⟨v,hv⟩:∃ v,v=vs.getD (cell*48271 % 1039 % 3).toNat 0:=⟨_,rfl⟩
 have r6:=Et (x:=cell*48271 % 1051) (q:=6) (by decide)
 have r6':=Et (x:=cell*48271 % 1063) (q:=6) (by decide)
 have q2:=ifI (ω:=ω) (i:=4) (ρ:=[some (.int cell),some (.int k),some (.int c),some (.int way),some (.int one),some (.int other),some (.str x),some (.lst (iv vs)),some (.int v)]) (a0:=one)
  (t:=eJ (o2 (sK 8) (o2 (lf cW) (o2 (lf cW) (o2 (lf jF) (oP (aF 0)) (oP (dC (.int 48271)))) (oP (dC (.int 1049)))) (oP (dC (.int 31)))) (oP (dC (.int 30)))))
  (F:=bG 4 (o2 (fun ω a b=>pu (cA ω a b) ω) (bS fR (aE (oP (aF 2)) aU)) (o2 (lf cW) (o2 (lf cW) (o2 (lf jF) (oP (aF 0)) (oP (dC (.int 48271)))) (oP (dC (.int 1051)))) (oP (dC (.int 6))))))
  (NY (sL (a:=cell) (aD rfl) bF (by decide) (by decide)))
  (Hk (EB (bB (aC (aD rfl) aJ) (JN c ω)) (sL (a:=cell) (aD rfl) bF (by decide) (by decide)) r6.1 r6.2)) rfl
 obtain⟨one',e2⟩:=q2
 have q3:=ifI (ω:=ω) (i:=5) (ρ:=[some (.int cell),some (.int k),some (.int c),some (.int way),some (.int one'),some (.int other),some (.str x),some (.lst (iv vs)),some (.int v)]) (a0:=other)
  (t:=eJ (o2 (sK 8) (o2 (lf cW) (o2 (lf cW) (o2 (lf jF) (oP (aF 0)) (oP (dC (.int 48271)))) (oP (dC (.int 1061)))) (oP (dC (.int 31)))) (oP (dC (.int 30)))))
  (F:=bG 5 (o2 (fun ω a b=>pu (cA ω a b) ω) (bS fR (aE (oP (aF 2)) aU)) (o2 (lf cW) (o2 (lf cW) (o2 (lf jF) (oP (aF 0)) (oP (dC (.int 48271)))) (oP (dC (.int 1063)))) (oP (dC (.int 6))))))
  (NY (sL (a:=cell) (aD rfl) bF (by decide) (by decide)))
  (Hk (EB (bB (aC (aD rfl) aJ) (JN c ω)) (sL (a:=cell) (aD rfl) bF (by decide) (by decide)) r6'.1 r6'.2)) rfl
 obtain⟨other',e3⟩:=q3
 have main:∀ d:Deed,∀ G:OS,G [some (.int cell),some (.int k),some (.int c),some (.int way),some (.int one'),some (.int other'),some (.str x),some (.lst (iv vs)),some (.int v)] ω=some (.rt d.d,ω)->
   aP (bG 3 (o2 (lf cW) (o2 (lf cW) (o2 (lf jF) (oP (aF 0)) (oP (dC (.int 48271)))) (oP (dC (.int 1009)))) (oP (dC (.int 16))))) (aP (bG 4 (o2 (lf cW) (o2 (lf cW) (o2 (lf jF) (o2 (lf vZ) (oP (aF 0)) (oP (aF 1))) (oP (dC (.int 48271)))) (oP (dC (.int 1013)))) (oP (aF 2)))) (aP (bG 5 (oP (aF 4))) (aP (fJ (JO (eJ (o2 (lf gGt) (oP (aF 2)) (oP (dC (.int 1))))) (eJ (o2 (lf gGt) (o2 (lf cW) (o2 (lf cW) (o2 (lf jF) (oP (aF 0)) (oP (dC (.int 48271)))) (oP (dC (.int 1019)))) (oP (dC (.int 19)))) (oP (dC (.int 0)))))) (bG 5 (o2 (lf cW) (o2 (lf vZ) (o2 (lf vZ) (oP (aF 4)) (oP (dC (.int 1)))) (o2 (lf cW) (o2 (lf cW) (o2 (lf jF) (oP (aF 0)) (oP (dC (.int 48271)))) (oP (dC (.int 1021)))) (o2 (lf gSub) (oP (aF 2)) (oP (dC (.int 1)))))) (oP (aF 2)))) cB) (aP (bG 6 (bS mJ (aE (o2 (lf cW) (o2 (lf cW) (o2 (lf jF) (oP (aF 0)) (oP (dC (.int 48271)))) (oP (dC (.int 1031)))) (oP (dC (.int 4)))) (aE (oP (aF 2)) aU)))) (aP (bG 7 (oL (fun ω ds=>pu (pV ds) ω) (aE (o2 (lf gSub) (o2 (lf cW) (o2 (lf cW) (o2 (lf jF) (oP (aF 0)) (oP (dC (.int 48271)))) (oP (dC (.int 1033)))) (oP (dC (.int 9)))) (oP (dC (.int 4)))) (aE (o2 (lf gSub) (oP (dC (.int 0))) (oP (aF 1))) (aE (o2 (lf vZ) (oP (dC (.int 100000000000000000000))) (oP (aF 1))) aU))))) (aP (bG 8 (o2 (fun ω a b=>pu (cA ω a b) ω) (oP (aF 7)) (o2 (lf cW) (o2 (lf cW) (o2 (lf jF) (oP (aF 0)) (oP (dC (.int 48271)))) (oP (dC (.int 1039)))) (oP (dC (.int 3)))))) (aP (fJ (eJ (o2 (sK 8) (o2 (lf cW) (o2 (lf cW) (o2 (lf jF) (oP (aF 0)) (oP (dC (.int 48271)))) (oP (dC (.int 1049)))) (oP (dC (.int 31)))) (oP (dC (.int 30))))) (bG 4 (o2 (fun ω a b=>pu (cA ω a b) ω) (bS fR (aE (oP (aF 2)) aU)) (o2 (lf cW) (o2 (lf cW) (o2 (lf jF) (oP (aF 0)) (oP (dC (.int 48271)))) (oP (dC (.int 1051)))) (oP (dC (.int 6)))))) cB) (aP (fJ (eJ (o2 (sK 8) (o2 (lf cW) (o2 (lf cW) (o2 (lf jF) (oP (aF 0)) (oP (dC (.int 48271)))) (oP (dC (.int 1061)))) (oP (dC (.int 31)))) (oP (dC (.int 30))))) (bG 5 (o2 (fun ω a b=>pu (cA ω a b) ω) (bS fR (aE (oP (aF 2)) aU)) (o2 (lf cW) (o2 (lf cW) (o2 (lf jF) (oP (aF 0)) (oP (dC (.int 48271)))) (oP (dC (.int 1063)))) (oP (dC (.int 6)))))) cB) G)))))))) (cP gK [.int cell,.int k,.int c]) ω=some (.rt d.d,ω):=by
  intro d G hG
  refine(aV (sL (a:=cell) (aD rfl) bF (by decide) (by decide))).trans ?_
  rw[<- hway]
  refine(aV (Bj (b:=c) (Bj (DV (pW (a:=cell) (b:=k) (aD rfl) (aD rfl)) bF (by decide)) bF (by decide)) (aD rfl) cpos)).trans ?_
  rw[<- hone]
  refine(aV (d:=.int one) (aD rfl)).trans ?_
  refine(bY e1).trans ?_
  refine(aV (d:=.str x) (ω1:=ω) (bB (aC (sL (a:=cell) (aD rfl) bF (by decide) (by decide)) (aC (aD (d:=.int c) rfl) aJ)) ex)).trans ?_
  refine(aV (d:=.lst (iv vs)) (ω1:=ω) (fD (aC (DU (sL (a:=cell) (aD rfl) bF (by decide) (by decide)) bF) (aC (DU (b:=k) bF (aD rfl)) (aC (pW (b:=k) bF (aD rfl)) aJ))) (by rw[hvs];rfl))).trans ?_
  refine(aV (EB (xs:=vs) (aD rfl) (sL (a:=cell) (aD rfl) bF (by decide) (by decide)) r3.1 (by rw[hvs];exact r3.2))).trans ?_
  rw[<- hv]
  refine(bY e2).trans ?_
  refine(bY e3).trans ?_
  exact hG
 have vw:∀ ω,oP (aF 3) [some (.int cell),some (.int k),some (.int c),some (.int way),some (.int one'),some (.int other'),some (.str x),some (.lst (iv vs)),some (.int v)] ω=some (.ok (.int way),ω):=fun ω=>aD rfl
 by_cases h5:way<5
 ·refine⟨.put one' x v,bC rfl (main _ _ ?_)⟩
  exact Lp (r:=.ok _) (by rw[sM (vw ω),decide_eq_true h5]) rfl
 by_cases h7:way<7
 ·refine⟨.take one' x,bC rfl (main _ _ ?_)⟩
  rw[skip (by rw[sM (vw ω),decide_eq_false h5])]
  exact Lp (r:=.ok _) (by rw[sM (vw ω),decide_eq_true h7]) rfl
 by_cases h9:way<9
 ·refine⟨.change one' x v,bC rfl (main _ _ ?_)⟩
  rw[skip (by rw[sM (vw ω),decide_eq_false h5]),skip (by rw[sM (vw ω),decide_eq_false h7])]
  exact Lp (r:=.ok _) (by rw[sM (vw ω),decide_eq_true h9]) rfl
 have gt:∀ q:Bool,decide (11<way)=q->o2 (lf gGt) (oP (aF 3)) (oP (dC (.int 11))) [some (.int cell),some (.int k),some (.int c),some (.int way),some (.int one'),some (.int other'),some (.str x),some (.lst (iv vs)),some (.int v)] ω=some (.ok (.bl q),ω):=fun q hq=>by
  rw[<- hq]
  exact jE (vw ω) bF rfl
 by_cases h11:11<way
 ·refine⟨.meet one' other',bC rfl (main _ _ ?_)⟩
  rw[skip (by rw[sM (vw ω),decide_eq_false h5]),skip (by rw[sM (vw ω),decide_eq_false h7]),skip (by rw[sM (vw ω),decide_eq_false h9])]
  refine bM (fD (aC (a:=.str "meet") (bD (a:=.lst [.str "tell",.str "meet"]) (b:=.int 1) rfl (fD (aC (gt true (decide_eq_true h11)) aJ) rfl) rfl) (aC (aD rfl) (aC (aD rfl) aJ))) rfl)
 ·refine⟨.tell one' other',bC rfl (main _ _ ?_)⟩
  rw[skip (by rw[sM (vw ω),decide_eq_false h5]),skip (by rw[sM (vw ω),decide_eq_false h7]),skip (by rw[sM (vw ω),decide_eq_false h9])]
  refine bM (fD (aC (a:=.str "tell") (bD (a:=.lst [.str "tell",.str "meet"]) (b:=.int 0) rfl (fD (aC (gt false (decide_eq_false h11)) aJ) rfl) rfl) (aC (aD rfl) (aC (aD rfl) aJ))) rfl)
theorem Il {g:Om->D->List D->Option (D×Om)}{fo:OG D}{fl:OG (List D)}{ρ:Rho}{ω ω1 ω2 ω3:Om}{n:Nat}{xs ds:List D}{r:D} (e1:fo ρ ω=some (.ok (.obj n),ω1)) (e2:ω1[n]?=some (.ml xs)) (e3:fl ρ ω1=some (.ok ds,ω2)) (e4:g ω2 (.obj n) ds=some (r,ω3)):AJ g fo fl ρ ω=some (.ok r,ω3):=by
 unfold AJ
 rw[bO e1]
 have:ED ω1 (.obj n)=true:=by simp only[ED,cellOf,e2]
 show(if ED ω1 (.obj n)=true then _ else none)=_
 rw[if_pos this,bO e3]
 show oR (g ω2 (.obj n) ds)=_
 rw[e4]
 rfl
theorem xS {xs:List Int}{c n:Nat} (c2:1<=c) (c8:c<=8) (hx:xs.length<=1000):∀(m s:Nat) (pre:List Deed) (v:Option D) (ω:Om),ω[n]?=some (.ml (pre.map Deed.d))->s+m=xs.length->pre.length=s->∃ v' post,post.length=m/\dU (bN 3) dH fM (sI s m) [some (.lst (iv xs)),some (.int c),some (.obj n),v] ω=some (.nx [some (.lst (iv xs)),some (.int c),some (.obj n),v'],ω.set n (.ml ((pre++post).map Deed.d)))
 |0,s,pre,v,ω,ht,_,_=>⟨v,[],rfl,by
   rw[List.append_nil,mC ht]
   rfl⟩
 |m+1,s,pre,v,ω,ht,hs,hp=>by
  obtain⟨d,ed⟩:=ER (xs.getD (s:Int).toNat 0+7*s) s c c2 c8 ω
  have b1:fM [some (.lst (iv xs)),some (.int c),some (.obj n),some (.int s)] ω=some (.nx [some (.lst (iv xs)),some (.int c),some (.obj n),some (.int s)],ω.set n (.ml ((pre++[d]).map Deed.d))):=by
   unfold fM eS
   rw[dD (Il (r:=.non) (ω3:=ω.set n (.ml ((pre++[d]).map Deed.d))) (aD (d:=.obj n) rfl) ht (aC (bB (aC (pW (EB (xs:=xs) (a:=s) (aD rfl) (aD rfl) (by omega) (by omega)) (DV (b:=s) bF (aD rfl) ⟨by omega,by omega⟩)) (aC (aD (d:=.int s) rfl) (aC (aD (d:=.int c) rfl) aJ))) ed) aJ) (by
    simp only[EN,ht]
    rw[if_pos (by rw[List.length_map,sizeLine_eq];omega),List.map_append]
    rfl))]
  obtain⟨v',post,hl,e2⟩:=xS c2 c8 hx m (s+1) (pre++[d]) (some (.int s)) (ω.set n (.ml ((pre++[d]).map Deed.d))) (dG ht) (by omega) (by simp[hp])
  refine⟨v',d::post,by simp[hl],?_⟩
  rw[pI]
  refine(iT rfl rfl (b1)).trans ?_
  rw[List.set_set,List.append_assoc] at e2
  exact e2
theorem Jg {xs:List Int}{c:Nat} (c2:1<=c) (c8:c<=8) (hx:xs.length<=1000) (ω:Om):∃ ds:List Deed,ds.length=xs.length/\nX [.lst (iv xs),.int c] ω=some (.ok (.obj ω.length),ω++[.ml (ds.map Deed.d)]):=by
 have h0:(ω++[Ob.ml []])[ω.length]?=some (.ml (([]:List Deed).map Deed.d)):=by simp
 obtain⟨v',post,hl,e⟩:=xS c2 c8 hx xs.length 0 [] none (ω++[Ob.ml []]) h0 (by omega) rfl
 refine⟨post,hl,bC rfl ?_⟩
 unfold oE
 rw[aV (d:=.obj ω.length) (ω1:=ω++[.ml []]) rfl]
 rw[bY (mZ (by
  unfold dS
  rw[dD (xA (c:=xs.length) (by
   have:=iV (f:=oP (aF 0)) (ρ:=(cP kJ [.lst (iv xs),.int c]).set 2 (some (.obj ω.length))) (ω:=ω++[.ml []]) (d:=.lst (iv xs)) (ds:=iv xs) (aD rfl) (.inl rfl)
   rw[show(iv xs).length=xs.length from by unfold iv;simp] at this
   exact this) hx)]
  exact e))]
 refine(bM (aD (d:=.obj ω.length) rfl)).trans ?_
 simp
end L2.MB.Lw
end
section
namespace L2.MB.Lw
open PySem PySem.Spec PyProof.Rows L2.MB
section
variable {B:Om}{c g i j:Nat}{own:Nat->Nat}{S:Nat->Hd}{ω ω':Om}{hs:Nat->Nat}{fp:Nat->List Nat}
theorem yC (c0:0<c) (c8:c<=8) {ds:List Deed} (hl:ds.length<64) (ω:Om):∃ ω',pN [.int c,.lst (ds.map Deed.d)] ω=some (.ok (.lst (jA c ds)),ω')/\Keep [] ω ω'/\∀ x∈jA c ds,Pl 2 x:=by
 obtain⟨ω1,hs,fp,e1,L1⟩:=Bb (ω:=ω) c8 (fl:=aE (oP (aF 0)) aU) (ρ:=cP qK [.int c,.lst (ds.map Deed.d)]) (aC (aD rfl) aJ)
 obtain⟨ω2,fp2,own2,e2,L2,I2,t2,p2⟩:=rY c0 c8 ds (u:=none) L1 (Ou c) (by rw[OD];omega)
 refine⟨ω2,?_,⟨L2.bas.1,fun n hn _=>L2.bas.2 n hn⟩,p2⟩
 refine bC rfl ?_
 unfold uP
 rw[aV e1]
 refine bM (gW (ds:=ds.map Deed.d) (chk:=dH) (ω1:=ω1) ?_ (by rw[List.length_map,sizeLine_eq];omega) e2)
 unfold oIL
 rw[bO (aD (d:=.lst (ds.map Deed.d)) rfl)]
 rfl
end
end L2.MB.Lw
end
section
namespace L2.MB.Lw
open PySem PySem.Spec PyProof.Rows L2.MB
theorem Fu {φ:eM}{d:D}{ds:List D}{ω:Om} (hd:d=.lst ds∨d=.tup ds) (hl:ds.length<=1000) (hφ:∀ x∈ds,φ [x,x] ω=some (.ok (.bl true),ω)):∃ v,sNx (dS (oIA sJ (aE (oL eE (aE (oP (aF 1)) aU)) aU)) (bN 2) (fJ (nG (kZ (bS φ (aE (o2 (fun ω a b=>pu (cA ω a b) ω) (oP (aF 0)) (oP (aF 2))) (aE (o2 (fun ω a b=>pu (cA ω a b) ω) (oP (aF 1)) (oP (aF 2))) aU))))) (bE (oP (dC (.bl false)))) cB)) [some d,some d,none] ω=some (.nx [some d,some d,v],ω):=by
 obtain⟨ρ',ω',e,rfl,v,rfl⟩:=DP (bd:=bN 2) (chk:=dH) (F:=fJ (nG (kZ (bS φ (aE (o2 (fun ω a b=>pu (cA ω a b) ω) (oP (aF 0)) (oP (aF 2))) (aE (o2 (fun ω a b=>pu (cA ω a b) ω) (oP (aF 1)) (oP (aF 2))) aU))))) (bE (oP (dC (.bl false)))) cB) (fun(_:Unit) ρ ω'=>ω'=ω/\∃ v,ρ=[some d,some d,v]) (fun _ _=>()) (fun _ _ _ _=>rfl) (ds:=sI 0 ds.length) (a:=()) (ρ:=[some d,some d,none]) (ω:=ω) ⟨rfl,none,rfl⟩ fun x hx _ ρ ω1 hR=>by
  obtain⟨rfl,v,rfl⟩:=hR
  obtain⟨k,hk,rfl⟩:=Kl hx
  rw[Int.zero_add]
  refine⟨[some d,some d,some (.int k)],[some d,some d,some (.int k)],ω1,rfl,?_,rfl,some (.int k),rfl⟩
  rw[tX (ω1:=ω1) (by
   have:=lH (tru_ok (k:=true) (bB (φ:=φ) (ρ:=[some d,some d,some (.int k)]) (aC (JS (f:=oP (aF 0)) (h:=oP (aF 2)) (k:=k) (aD rfl) (aD rfl) hd hk) (aC (JS (f:=oP (aF 1)) (h:=oP (aF 2)) (k:=k) (aD rfl) (aD rfl) hd hk) aJ)) (hφ _ (List.getElem_mem hk))))
   exact this)]
  rfl
 refine⟨v,mZ ?_⟩
 unfold dS
 rw[dD (xA (c:=ds.length) (iV (aD rfl) hd) hl)]
 exact e
theorem Kh:∀ {n:Nat}{d:D},Pl n d->∀ ω,fK (n+1) [d,d] ω=some (.ok (.bl true),ω)
 |n,.non,_,ω=>rfl
 |n,.bl true,_,ω=>rfl
 |n,.bl false,_,ω=>rfl
 |n,.int i,_,ω=>by
  have e:fK (n+1) [.int i,.int i] ω=some (.ok (.bl (i==i)),ω):=rfl
  rw[e]
  simp
 |n,.str x,_,ω=>by
  have e:fK (n+1) [.str x,.str x] ω=some (.ok (.bl (x==x)),ω):=rfl
  rw[e]
  simp
 |n+1,.lst ds,h,ω=>by
  obtain⟨v,lp⟩:=Fu (φ:=fK (n+1)) (d:=.lst ds) (ds:=ds) (ω:=ω) (.inl rfl) h.1 fun x hx=>Kh (h.2 x hx) ω
  have v0:oP (aF 0) [some (.lst ds),some (.lst ds),none] ω=some (.ok (.lst ds),ω):=aD rfl
  have v1:oP (aF 1) [some (.lst ds),some (.lst ds),none] ω=some (.ok (.lst ds),ω):=aD rfl
  refine bC rfl ?_
  unfold sZ
  show aP _ _ [some (.lst ds),some (.lst ds),none] ω=_
  rw[skip (dW (jE v1 bF rfl)),skip (tru_ok (dZ v1 (by simp[rS,eN,qS,fS]))),skip (tru_ok (dZ v1 (by simp[rS,eN,qS,fS]))),skip (tru_ok (dZ v1 (by simp[rS,eN,qS,fS]))),skip (tru_ok (dZ v1 (by simp[rS,eN,qS,fS])))]
  rw[skip (Ik (b:=false) (dZ v1 (by simp[rS,eN,qS,fS])) (dZ v0 (by simp[rS,eN,qS,fS])))]
  rw[skip (AG (Ik (b:=true) (dZ v1 (by simp[rS,eN,qS,fS])) (dZ v0 (by simp[rS,eN,qS,fS]))) (lH (k:=true) (tru_ok (by unfold Ic;rw[bO v1];rfl))))]
  rw[skip (AM (iV v0 (.inl rfl)) (iV v1 (.inl rfl)) rfl)]
  rw[bY lp]
  rfl
 |n+1,.tup ds,h,ω=>by
  obtain⟨v,lp⟩:=Fu (φ:=fK (n+1)) (d:=.tup ds) (ds:=ds) (ω:=ω) (.inr rfl) h.1 fun x hx=>Kh (h.2 x hx) ω
  have v0:oP (aF 0) [some (.tup ds),some (.tup ds),none] ω=some (.ok (.tup ds),ω):=aD rfl
  have v1:oP (aF 1) [some (.tup ds),some (.tup ds),none] ω=some (.ok (.tup ds),ω):=aD rfl
  refine bC rfl ?_
  unfold sZ
  show aP _ _ [some (.tup ds),some (.tup ds),none] ω=_
  rw[skip (dW (jE v1 bF rfl)),skip (tru_ok (dZ v1 (by simp[rS,eN,qS,fS]))),skip (tru_ok (dZ v1 (by simp[rS,eN,qS,fS]))),skip (tru_ok (dZ v1 (by simp[rS,eN,qS,fS]))),skip (tru_ok (dZ v1 (by simp[rS,eN,qS,fS])))]
  rw[skip (Ik (b:=true) (dZ v1 (by simp[rS,eN,qS,fS])) (dZ v0 (by simp[rS,eN,qS,fS])))]
  rw[skip (AG (Ik (b:=false) (dZ v1 (by simp[rS,eN,qS,fS])) (dZ v0 (by simp[rS,eN,qS,fS]))) (lH (k:=true) (tru_ok (by unfold Ic;rw[bO v1];rfl))))]
  rw[skip (AM (iV v0 (.inr rfl)) (iV v1 (.inr rfl)) rfl)]
  rw[bY lp]
  rfl
 |0,.lst _,h,_=>h.elim
 |0,.tup _,h,_=>h.elim
 |0,.obj _,h,_=>h.elim
 |n+1,.obj _,h,_=>h.elim
 |0,.scr _,h,_=>h.elim
 |n+1,.scr _,h,_=>h.elim
theorem so8 {n:Nat}{d:D} (h:Pl n d) (hn:n<=7) (ω:Om):fK 8 [d,d] ω=some (.ok (.bl true),ω):=Kh (n:=7) (h.mono hn) ω
end L2.MB.Lw
end
section
namespace L2.MB.Lw
open PySem PySem.Spec PyProof.Rows L2.MB
theorem Ba (d:Deed) (ω:Om):cZ [d.d] ω=some (.ok (.lst (iv d.hands)),ω):=by
 cases d with
 |put a x v=>rfl
 |change a x v=>rfl
 |take a x=>rfl
 |tell a b=>rfl
 |meet a b=>rfl
theorem NL (h:Int):∀ ys:List Int,inO (fun d=>eqD 7 d (.int h)) (iv ys)=some (decide (h∈ys))
 |[]=>rfl
 |y::ys=>by
  show(some (y==h)).bind (fun b=>(inO (fun d=>eqD 7 d (.int h)) (iv ys)).map fun c=>b||c)=_
  rw[NL h ys]
  show some ((y==h)||decide (h∈ys))=_
  congr 1
  by_cases e:y=h
  ·subst e;simp
  ·have:¬ h=y:=fun z=>e z.symm
   simp[e,this]
theorem AU {p:D->Bool}{q:Int->Bool} (hp:∀ x,p (.int x)=q x):∀ xs:List Int,(iv xs).filter p=iv (xs.filter q)
 |[]=>rfl
 |x::xs=>by
  have ih:=AU hp xs
  show(D.int x::iv xs).filter p=_
  by_cases h:q x=true
  ·rw[List.filter_cons_of_pos (by rw[hp];exact h),List.filter_cons_of_pos h,ih]
   rfl
  ·rw[List.filter_cons_of_neg (by rw[hp];exact h),List.filter_cons_of_neg h,ih]
theorem Fv {xs ys:List Int}{ρ:Rho}{ω:Om} (h5:ρ[5]?=some (some (.lst (iv xs)))) (h6:ρ[6]?=some (some (.lst (iv ys)))) (hl:xs.length<=1000):eJ (o2 (sK 8) (eC wA (oIL (oP (aF 5))) [none,some 6] (bN 0) (eJ (o2 (lf (gIn 7)) (oP (aF 0)) (oP (aF 1)))) (oP (aF 0))) (oL (fun ω ds=>pu (pV ds) ω) aU)) ρ ω=some (.ok (decide (∀ a∈xs,a∉ys)),ω):=by
 have cp:eC wA (oIL (oP (aF 5))) [none,some 6] (bN 0) (eJ (o2 (lf (gIn 7)) (oP (aF 0)) (oP (aF 1)))) (oP (aF 0)) ρ ω=some (.ok (.lst (iv (xs.filter fun a=>decide (a∈ys)))),ω):=by
  refine gW (ds:=iv xs) (chk:=dH) (ω1:=ω) ?_ (by unfold iv;rw[List.length_map,sizeLine_eq];omega) ?_
  ·unfold oIL
   rw[bO (aD h5)]
   rfl
  ·have e0:Ea [none,some 6] ρ=[none,some (.lst (iv ys))]:=by
    unfold Ea
    simp[h6]
   rw[e0,<- AU (p:=fun d=>match d with|.int a=>decide (a∈ys)|_=>false) (fun _=>rfl)]
   refine(iI (g:=fun d=>d) (fun ρ=>∃ u,ρ=[u,some (.lst (iv ys))]) rfl ⟨_,rfl⟩ fun d hd ρ hρ=> ?_).trans (by rw[List.map_id'])
   obtain⟨u,rfl⟩:=hρ
   unfold iv at hd
   obtain⟨a,ha,rfl⟩:=List.mem_map.mp hd
   refine⟨_,rfl,⟨_,rfl⟩,?_,fun _=>aD rfl⟩
   refine dW (jE (aD (d:=.int a) rfl) (aD (d:=.lst (iv ys)) rfl) ?_)
   show(inO (fun d=>eqD 7 d (.int a)) (iv ys)).map D.bl=_
   rw[NL]
   rfl
 refine dW (lG cp (b:=.lst []) (ω2:=ω) rfl ?_)
 show pu ((eqD 8 (.lst (iv (xs.filter fun a=>decide (a∈ys)))) (.lst [])).map D.bl) ω=_
 cases hf:xs.filter fun a=>decide (a∈ys) with
 |nil=>
  have hall:∀ a∈xs,a∉ys:=fun a ha z=>by
   have:a∈xs.filter fun a=>decide (a∈ys):=List.mem_filter.mpr ⟨ha,decide_eq_true z⟩
   rw[hf] at this
   simp at this
  rw[decide_eq_true hall]
  rfl
 |cons q r=>
  have hq:q∈xs.filter fun a=>decide (a∈ys):=by rw[hf];exact List.mem_cons_self
  obtain⟨hq1,hq2⟩:=List.mem_filter.mp hq
  have hno:¬ ∀ a∈xs,a∉ys:=fun z=>z q hq1 (of_decide_eq_true hq2)
  rw[decide_eq_false hno]
  rfl
def ni (o:List Nat):List D:=o.map fun k:Nat=>D.int (k:Int)
theorem Dy (o:List Nat):(ni o).length=o.length:=by unfold ni;simp
theorem LM {o:List Nat}{s:Nat} (h:s+1<o.length):∃ p a b q,o=p++a::b::q/\p.length=s/\o[s]?=some a/\o[s+1]?=some b:=by
 refine⟨o.take s,o[s],o[s+1],o.drop (s+2),?_,by rw[List.length_take];omega,List.getElem?_eq_getElem (by omega),List.getElem?_eq_getElem h⟩
 rw[<- List.drop_eq_getElem_cons,<- List.drop_eq_getElem_cons,List.take_append_drop]
theorem Ki {p q:List D}{a b:D}{s:Nat} (h:p.length=s):((p++a::b::q).set s b).set (s+1) a=p++b::a::q:=by
 subst h
 induction p with
 |nil=>rfl
 |cons x p ih=>simpa using ih
section
variable {c n m N:Nat}{ds:List Deed}{ans:Nat->D}{E S0:Nat->Hd}
def dAt (ds:List Deed) (k:Nat):Deed:=ds.getD k (.tell 0 0)
theorem CL {ds:List Deed}{k:Nat} (h:k<ds.length):(ds.map Deed.d)[k]?=some (dAt ds k).d:=by
 unfold dAt
 rw[List.getElem?_map,List.getElem?_eq_getElem h,List.getD_eq_getElem?_getD,List.getElem?_eq_getElem h]
 rfl
structure Mh (c:Nat) (ds:List Deed) (ans:Nat->D) (E S0:Nat->Hd) (o:List Nat):Prop where
 len:o.length=ds.length
 lt:∀ k∈o,k<ds.length
 ok:OrdOk c (dAt ds) ans E S0 o
theorem Fj {xs:List Int}{o:List Nat}{k:Nat}{v4 v5 v6:Option D}{ω:Om} (O:Mh c ds ans E S0 o) (hl:ds.length<=1000) (hn:ω[n]?=some (.ml (ds.map Deed.d))) (hm:ω[m]?=some (.ml (ni o))) (hnm:n≠m) (hk:k<xs.length) (hx:xs.length<=1000):
  ∃ o' v4' v5' v6',cQ [some (.obj n),some (.lst (iv xs)),some (.obj m),some (.int k),v4,v5,v6] ω=some (.nx [some (.obj n),some (.lst (iv xs)),some (.obj m),some (.int k),v4',v5',v6'],ω.set m (.ml (ni o')))/\Mh c ds ans E S0 o':=by
 have len:∀ ρ:Rho,ρ[2]?=some (some (.obj m))->oL eE (aE (oP (aF 2)) aU) ρ ω=some (.ok (.int (o.length:Int)),ω):=fun ρ h=>fD (aC (aD h) aJ) (by
  show eE ω [.obj m]=_
  have:eN ω (.obj m)=some (ni o):=by simp only[eN,hm]
  simp only[eE,this,Dy])
 by_cases h1:1<o.length
 ·obtain⟨x,hxd⟩:∃ x,x=(xs.getD (k:Int).toNat 0+7*k)*48271 % 1087 % ((o.length:Int)-1):=⟨_,rfl⟩
  have hb:=Et (x:=(xs.getD (k:Int).toNat 0+7*k)*48271 % 1087) (q:=(o.length:Int)-1) (by omega)
  rw[<- hxd] at hb
  obtain⟨s,rfl⟩:=Int.eq_ofNat_of_zero_le hb.1
  have hs:s+1<o.length:=by omega
  obtain⟨p,a,b,q,ho,hp,ha,hb'⟩:=LM hs
  have ha2:a<ds.length:=O.lt a (List.mem_of_getElem? ha)
  have hb2:b<ds.length:=O.lt b (List.mem_of_getElem? hb')
  have na:(ni o)[s]?=some (.int (a:Int)):=by unfold ni;rw[List.getElem?_map,ha];rfl
  have nb:(ni o)[s+1]?=some (.int (b:Int)):=by unfold ni;rw[List.getElem?_map,hb'];rfl
  have ia:cA ω (.obj m) (.int (s:Int))=some (.int (a:Int)):=by rw[lL hm];exact BH na
  have ib:cA ω (.obj m) (.int ((s:Int)+1))=some (.int (b:Int)):=by rw[lL hm];exact BH nb
  have da:cA ω (.obj n) (.int (a:Int))=some (dAt ds a).d:=by rw[lL hn];exact BH (CL ha2)
  have db:cA ω (.obj n) (.int (b:Int))=some (dAt ds b).d:=by rw[lL hn];exact BH (CL hb2)
  have hh:∀ d:Deed,d.hands.length<=1000:=fun d=>by cases d <;> simp[Deed.hands]
  have pre:∀(G:OS) (r:Option (OOut×Om)),G [some (.obj n),some (.lst (iv xs)),some (.obj m),some (.int k),some (.int (s:Int)),some (.lst (iv (dAt ds a).hands)),some (.lst (iv (dAt ds b).hands))] ω=r->
    aP (bG 4 (o2 (lf cW) (o2 (lf cW) (o2 (lf jF) (o2 (lf vZ) (o2 (fun ω a b=>pu (cA ω a b) ω) (oP (aF 1)) (oP (aF 3))) (o2 (lf jF) (oP (dC (.int 7))) (oP (aF 3)))) (oP (dC (.int 48271)))) (oP (dC (.int 1087)))) (o2 (lf gSub) (oL eE (aE (oP (aF 2)) aU)) (oP (dC (.int 1)))))) (aP (bG 5 (bS cZ (aE (o2 (fun ω a b=>pu (cA ω a b) ω) (oP (aF 0)) (o2 (fun ω a b=>pu (cA ω a b) ω) (oP (aF 2)) (oP (aF 4)))) aU))) (aP (bG 6 (bS cZ (aE (o2 (fun ω a b=>pu (cA ω a b) ω) (oP (aF 0)) (o2 (fun ω a b=>pu (cA ω a b) ω) (oP (aF 2)) (o2 (lf vZ) (oP (aF 4)) (oP (dC (.int 1)))))) aU))) G)) [some (.obj n),some (.lst (iv xs)),some (.obj m),some (.int k),v4,v5,v6] ω=r:=by
   intro G r hG
   rw[aV (sL (pW (EB (xs:=xs) (a:=k) (aD rfl) (aD rfl) (by omega) (by omega)) (DV (b:=k) bF (aD rfl) ⟨by omega,by omega⟩)) (DU (len _ rfl) bF) (by decide) (by omega)),<- hxd]
   rw[aV (bB (aC (bD (aD (d:=.obj n) rfl) (bD (aD (d:=.obj m) rfl) (aD (d:=.int (s:Int)) rfl) ia) da) aJ) (Ba (dAt ds a) ω))]
   rw[aV (bB (aC (bD (aD (d:=.obj n) rfl) (bD (aD (d:=.obj m) rfl) (pW (a:=(s:Int)) (aD rfl) bF) ib) db) aJ) (Ba (dAt ds b) ω))]
   exact hG
  have sh:=Fv (ω:=ω) (ρ:=[some (.obj n),some (.lst (iv xs)),some (.obj m),some (.int k),some (.int (s:Int)),some (.lst (iv (dAt ds a).hands)),some (.lst (iv (dAt ds b).hands))]) (xs:=(dAt ds a).hands) (ys:=(dAt ds b).hands) rfl rfl (hh _)
  by_cases hd:∀ z∈(dAt ds a).hands,z∉(dAt ds b).hands
  ·rw[decide_eq_true hd] at sh
   refine⟨p++b::a::q,some (.int (s:Int)),some (.lst (iv (dAt ds a).hands)),some (.lst (iv (dAt ds b).hands)),?_,⟨?_,fun z hz=> ?_,?_⟩⟩
   ·unfold cQ
    rw[wD (ω1:=ω) (by rw[EO (len _ rfl),decide_eq_true (by omega)])]
    refine pre _ _ ?_
    rw[wD sh]
    unfold Fz
    rw[dD (x:=.tup [.int (b:Int),.int (a:Int)]) (ω1:=ω) (fD (aC (bD (aD (d:=.obj m) rfl) (pW (a:=(s:Int)) (aD rfl) bF) ib) (aC (bD (aD (d:=.obj m) rfl) (aD (d:=.int (s:Int)) rfl) ia) aJ)) rfl)]
    show aP (AA _ _ (.int (b:Int))) (AA _ _ (.int (a:Int))) _ ω=_
    rw[bY (ω1:=ω.set m (.ml ((ni o).set s (.int (b:Int))))) (by
     unfold AA
     rw[dD (aD (d:=.obj m) rfl),dD (aD (d:=.int (s:Int)) rfl)]
     show(wI ω (.obj m) (.int (s:Int)) (.int (b:Int))).map _=_
     rw[yN hm (by rw[Dy];omega)]
     rfl)]
    unfold AA
    rw[dD (aD (d:=.obj m) rfl),dD (pW (a:=(s:Int)) (b:=1) (aD rfl) bF)]
    show(wI (ω.set m (.ml ((ni o).set s (.int (b:Int))))) (.obj m) (.int ((s+1:Nat):Int)) (.int (a:Int))).map _=_
    rw[yN (dG hm) (by rw[List.length_set,Dy];omega),List.set_set]
    have:((ni o).set s (.int (b:Int))).set (s+1) (.int (a:Int))=ni (p++b::a::q):=by
     rw[ho]
     unfold ni
     rw[List.map_append,List.map_append]
     exact Ki (by rw[List.length_map];exact hp)
    rw[this]
    rfl
   ·rw[<- O.len,ho]
    simp
   ·refine O.lt z ?_
    rw[ho]
    simp only[List.mem_append,List.mem_cons] at hz ⊢
    rcases hz with z|z|z|z
    ·exact .inl z
    ·exact .inr (.inr (.inl z))
    ·exact .inr (.inl z)
    ·exact .inr (.inr (.inr z))
   ·have:=O.ok
    rw[ho] at this
    exact this.swap hd
  ·rw[decide_eq_false hd] at sh
   refine⟨o,some (.int (s:Int)),some (.lst (iv (dAt ds a).hands)),some (.lst (iv (dAt ds b).hands)),?_,O⟩
   unfold cQ
   rw[wD (ω1:=ω) (by rw[EO (len _ rfl),decide_eq_true (by omega)])]
   refine pre _ _ ?_
   rw[tX sh,mC hm]
   rfl
 ·refine⟨o,v4,v5,v6,?_,O⟩
  unfold cQ
  rw[tX (ω1:=ω) (by rw[EO (len _ rfl),decide_eq_false (by omega)]),mC hm]
  rfl
theorem Aj {xs:List Int} (hl:ds.length<=1000) (hx:xs.length<=1000) (hnm:n≠m):∀(r s:Nat) (o:List Nat) (v3 v4 v5 v6:Option D) (ω:Om),Mh c ds ans E S0 o->ω[n]?=some (.ml (ds.map Deed.d))->ω[m]?=some (.ml (ni o))->s+r=xs.length->∃ o' v3' v4' v5' v6',dU (bN 3) dH cQ (sI s r) [some (.obj n),some (.lst (iv xs)),some (.obj m),v3,v4,v5,v6] ω=some (.nx [some (.obj n),some (.lst (iv xs)),some (.obj m),v3',v4',v5',v6'],ω.set m (.ml (ni o')))/\Mh c ds ans E S0 o'
 |0,s,o,v3,v4,v5,v6,ω,O,hn,hm,_=>⟨o,v3,v4,v5,v6,by rw[mC hm];rfl,O⟩
 |r+1,s,o,v3,v4,v5,v6,ω,O,hn,hm,hs=>by
  obtain⟨o1,a4,a5,a6,e1,O1⟩:=Fj (k:=s) (v4:=v4) (v5:=v5) (v6:=v6) O hl hn hm hnm (by omega) hx
  obtain⟨o2,b3,b4,b5,b6,e2,O2⟩:=Aj hl hx hnm r (s+1) o1 (some (.int s)) a4 a5 a6 (ω.set m (.ml (ni o1))) O1 (by rw[aZ hnm];exact hn) (dG hm) (by omega)
  refine⟨o2,b3,b4,b5,b6,?_,O2⟩
  rw[pI]
  refine(iT rfl rfl (e1)).trans ?_
  rw[List.set_set] at e2
  exact e2
theorem Jv:∀(m s:Nat),sI s m=ni (List.range' s m)
 |0,s=>rfl
 |m+1,s=>by
  rw[pI,List.range'_succ]
  have:=Jv m (s+1)
  show _::sI ((s+1:Nat):Int) m=_
  rw[this]
  rfl
theorem Gh (ds:List Deed):(List.range' 0 ds.length).map (dAt ds)=ds:=by
 apply List.ext_getElem?
 intro i
 rw[List.getElem?_map,<- List.range_eq_range']
 by_cases h:i<ds.length
 ·rw[List.getElem?_range h,List.getElem?_eq_getElem h]
  show some (dAt ds i)=_
  unfold dAt
  rw[List.getD_eq_getElem?_getD,List.getElem?_eq_getElem h]
  rfl
 ·rw[List.getElem?_eq_none (by rw[List.length_range];omega),List.getElem?_eq_none (by omega)]
  rfl
theorem Nz {A:List D}{N:Nat} (h:A.length=N):(List.range' 0 N).map (fun k=>A.getD k .non)=A:=by
 apply List.ext_getElem?
 intro i
 rw[List.getElem?_map,<- List.range_eq_range']
 by_cases hi:i<N
 ·rw[List.getElem?_range hi,List.getElem?_eq_getElem (by omega)]
  show some (A.getD i .non)=_
  rw[List.getD_eq_getElem?_getD,List.getElem?_eq_getElem (by omega)]
  rfl
 ·rw[List.getElem?_eq_none (by rw[List.length_range];omega),List.getElem?_eq_none (by omega)]
  rfl
theorem Fi {xs:List Int}{ω:Om} (hl:ds.length<=1000) (hx:xs.length<=1000) (hn:ω[n]?=some (.ml (ds.map Deed.d))):∃ o,lF [.obj n,.lst (iv xs)] ω=some (.ok (.obj ω.length),ω++[.ml (ni o)])/\Mh c ds (fun k=>(jA c ds).getD k .non) (kW c ds) (fun _=>Hd0 c) o:=by
 have hnl:=zE hn
 have O0:Mh c ds (fun k=>(jA c ds).getD k .non) (kW c ds) (fun _=>Hd0 c) (List.range' 0 ds.length):=by
  refine⟨by simp,fun k hk=> ?_,?_,?_⟩
  ·rw[List.mem_range'_1] at hk;omega
  ·rw[Gh,Nz (by unfold jA;rw[pH])]
   rfl
  ·rw[Gh]
   rfl
 obtain⟨o,v3,v4,v5,v6,e,O⟩:=Aj (n:=n) (m:=ω.length) hl hx (by omega) xs.length 0 (List.range' 0 ds.length) none none none none (ω++[.ml (ni (List.range' 0 ds.length))]) O0 (by rw[List.getElem?_append_left hnl];exact hn) (by simp) (by omega)
 refine⟨o,bC rfl ?_,O⟩
 unfold lJ
 have lenN:oL eE (aE (oP (aF 0)) aU) (cP fU [.obj n,.lst (iv xs)]) ω=some (.ok (.int (ds.length:Int)),ω):=fD (aC (aD (d:=.obj n) rfl) aJ) (by
  have:eN ω (.obj n)=some (ds.map Deed.d):=by simp only[eN,hn]
  simp only[eE,this,List.length_map])
 rw[aV (yV (ds:=sI 0 ds.length) (out:=ni (List.range' 0 ds.length)) (ω2:=ω) (xA lenN hl) (by rw[mH,sizeLine_eq];omega) (by
  rw[show ni (List.range' 0 ds.length)=sI 0 ds.length from(Jv ds.length 0).symm]
  have:=kG (bd:=bN 0) (chk:=dH) (f:=oP (aF 0)) (ω:=ω) (g:=fun d=>d) (ds:=sI 0 ds.length) (ρ:=[none]) (fun ρ=>ρ.length=1) rfl rfl fun d hd ρ hρ=>by
   match ρ,hρ with
   |[u],_=>exact⟨_,rfl,rfl,aD rfl⟩
  rw[List.map_id'] at this
  exact this))]
 rw[bY (mZ (by
  unfold dS
  rw[dD (xA (c:=xs.length) (by
   have:=iV (f:=oP (aF 1)) (ρ:=(cP fU [.obj n,.lst (iv xs)]).set 2 (some (.obj ω.length))) (ω:=ω++[.ml (ni (List.range' 0 ds.length))]) (d:=.lst (iv xs)) (ds:=iv xs) (aD rfl) (.inl rfl)
   rw[show(iv xs).length=xs.length from by unfold iv;simp] at this
   exact this) hx)]
  exact e))]
 refine(bM (aD (d:=.obj ω.length) rfl)).trans ?_
 simp
end
end L2.MB.Lw
end
section
namespace L2.MB.Lw
open PySem PySem.Spec PyProof.Rows L2.MB
theorem Oo (ns:List Int) (k:Nat) (ω:Om):∃ x:Int,yR [.scr (ns.map D.int),.int k] ω=some (.ok (.int x),ω):=by
 have v0:∀ ω:Om,oP (aF 0) (cP mQ [.scr (ns.map D.int),.int k]) ω=some (.ok (.scr (ns.map D.int)),ω):=fun ω=>rfl
 have v1:∀ ω:Om,oP (aF 1) (cP mQ [.scr (ns.map D.int),.int k]) ω=some (.ok (.int k),ω):=fun ω=>rfl
 have t:∀ q:Bool,decide ((k:Int)<((ns.map D.int).length:Int))=q->eJ (o2 (lf gLt) (oP (aF 1)) (oL eE (aE (oP (aF 0)) aU))) (cP mQ [.scr (ns.map D.int),.int k]) ω=some (.ok q,ω):=fun q hq=>
  dW (jE (v1 ω) (fD (aC (v0 ω) aJ) (show _=some (D.int ((ns.map D.int).length),ω) from rfl)) (show some (D.bl (decide ((k:Int)<((ns.map D.int).length:Int))))=_ by rw[hq]))
 by_cases h:k<ns.length
 ·refine⟨ns[k],bC rfl ?_⟩
  have hd:decide ((k:Int)<((ns.map D.int).length:Int))=true:=by simp[h]
  unfold tE aP
  rw[wD (t true hd),bM (lG (v0 ω) (v1 ω) (show pu (atI (ns.map D.int) (k:Int)) ω=some (.int ns[k],ω) from ?_))]
  have e1:ixN (ns.map D.int).length (k:Int)=some k:=by
   unfold ixN
   have hk:(k:Int)<((ns.map D.int).length:Int):=by simpa using hd
   rw[if_pos (Int.natCast_nonneg k),if_pos hk]
   simp
  unfold atI
  rw[e1]
  simp[pu,h]
 ·refine⟨0,bC rfl ?_⟩
  have hd:decide ((k:Int)<((ns.map D.int).length:Int))=false:=by simp;omega
  unfold tE aP
  rw[tX (t false hd)]
  rfl
theorem Oh (ns:List Int) (lo hi:Option Int):∃ xs:List Int,EU (ns.map D.int) lo hi=iv xs/\xs.length<=ns.length:=by
 unfold EU
 refine⟨(ns.drop _).take _,by unfold iv;rw[List.map_take,List.map_drop],?_⟩
 rw[List.length_take,List.length_drop]
 omega
theorem As {f:OG D}{ρ:Rho}{ω:Om}{ns:List Int}{lo hi:Option Int}{l u:DO} (e:f ρ ω=some (.ok (.scr (ns.map D.int)),ω)) (hl:l ρ=some lo) (hu:u ρ=some hi):∃ xs:List Int,oSl f l u ρ ω=some (.ok (.lst (iv xs)),ω)/\xs.length<=ns.length:=by
 obtain⟨xs,e1,hx⟩:=Oh ns lo hi
 refine⟨xs,?_,hx⟩
 unfold oSl
 rw[bO e]
 show(l ρ).bind _=_
 rw[hl]
 show(u ρ).bind _=_
 rw[hu]
 show oR (pu (some (D.lst (EU (ns.map D.int) lo hi))) ω)=_
 rw[e1]
 rfl
theorem Pl.lst {n:Nat}{ds:List D} (hl:ds.length<=1000) (h:∀ d∈ds,Pl n d):Pl (n+1) (.lst ds):=⟨hl,h⟩
theorem Pl.iv {n:Nat}{xs:List Int} (hl:xs.length<=1000):Pl (n+1) (.lst (iv xs)):=Pl.lst (by unfold Lw.iv;rw[List.length_map];exact hl) fun d hd=>by
 unfold Lw.iv at hd
 obtain⟨x,_,rfl⟩:=List.mem_map.mp hd
 exact Pl.int _ _
theorem Pl.ent {n:Nat}{d:D} (h:qZ d):Pl (n+2) d:=by
 obtain⟨x,a,b,v,rfl⟩:=h
 refine⟨by simp,fun d hd=> ?_⟩
 simp only[List.mem_cons,List.not_mem_nil,or_false] at hd
 rcases hd with rfl|rfl|rfl
 ·exact Pl.str _ _
 ·exact Pl.tup2 (Pl.int _ _) (Pl.int _ _)
 ·exact Pl.int _ _
theorem My {c:Nat}{own:Nat->Nat}{S:Nat->Hd} (I:HInv c own S) (c0:0<c) (c8:c<=8) (ht:tot c own<64):Pl 6 (.tup [HG c S,Jw c S,Jy c S,Jx c S]):=by
 have each:∀ {n:Nat}{R:Nat->D},(∀ i,i<c->Pl n (R i))->Pl (n+1) (.lst ((List.range c).map R)):=fun h=>Pl.lst (by rw[List.length_map,List.length_range];omega) fun d hd=>by
  obtain⟨i,hi,rfl⟩:=List.mem_map.mp hd
  exact h i (List.mem_range.mp hi)
 have K:∀ i,i<c->(S i).Ok c:=fun i hi=>(I i hi).1.ok c0 c8 ht
 have p1:Pl 5 (HG c S):=each fun i hi=>Pl.lst (Nat.le_of_lt (Nat.lt_of_lt_of_le (K i hi).entsLen (by decide))) fun d hd=>Pl.ent ((K i hi).entsEnt d hd)
 have p2:Pl 5 (Jw c S):=each fun i hi=>Pl.iv (by rw[(K i hi).seenLen hi];omega)
 have p3:Pl 5 (Jy c S):=each fun i hi=>Pl.lst (by rw[List.length_map,(K i hi).len];omega) fun d hd=>by
  obtain⟨xs,hx,rfl⟩:=List.mem_map.mp hd
  exact Pl.iv (by rw[(K i hi).row xs hx];omega)
 have p4:Pl 5 (Jx c S):=each fun i hi=>Pl.lst (by
   unfold Hd.mind
   rw[List.length_map,(K i hi).mindK.2.length_eq,List.length_map]
   have:=(K i hi).kl
   omega) fun d hd=>by
  unfold Hd.mind at hd
  obtain⟨q,hq,rfl⟩:=List.mem_map.mp hd
  obtain⟨kv,hkv,rfl⟩:=List.mem_map.mp ((K i hi).mindK.2.mem_iff.mp hq)
  obtain⟨ks,_,e2,hl,hk⟩:=Dz (I i hi).1 hkv
  rw[e2]
  exact Pl.tup2 (Pl.key ((I i hi).1.kk kv hkv) 1) (Pl.keys hl hk)
 refine⟨by simp,fun d hd=> ?_⟩
 simp only[List.mem_cons,List.not_mem_nil,or_false] at hd
 rcases hd with rfl|rfl|rfl|rfl
 ·exact p1
 ·exact p2
 ·exact p3
 ·exact p4
theorem Pl.deed (d:Deed):Pl 1 d.d:=by
 have two:∀(x:Str) (l:List D),l.length<=3->(∀ y∈l,Pl 0 y)->Pl 1 (.tup (.str x::l)):=fun x l h1 h2=>⟨by rw[List.length_cons];omega,fun y hy=>by
  rcases List.mem_cons.mp hy with rfl|hy
  ·exact Pl.str _ _
  ·exact h2 y hy⟩
 cases d with
 |put a x v=>
  refine two _ _ (by simp) fun y hy=> ?_
  simp only[List.mem_cons,List.not_mem_nil,or_false] at hy
  rcases hy with rfl|rfl|rfl <;> trivial
 |change a x v=>
  refine two _ _ (by simp) fun y hy=> ?_
  simp only[List.mem_cons,List.not_mem_nil,or_false] at hy
  rcases hy with rfl|rfl|rfl <;> trivial
 |take a x=>
  refine two _ _ (by simp) fun y hy=> ?_
  simp only[List.mem_cons,List.not_mem_nil,or_false] at hy
  rcases hy with rfl|rfl <;> trivial
 |tell a b=>
  refine two _ _ (by simp) fun y hy=> ?_
  simp only[List.mem_cons,List.not_mem_nil,or_false] at hy
  rcases hy with rfl|rfl <;> trivial
 |meet a b=>
  refine two _ _ (by simp) fun y hy=> ?_
  simp only[List.mem_cons,List.not_mem_nil,or_false] at hy
  rcases hy with rfl|rfl <;> trivial
theorem Pl.deeds {ds:List Deed} (hl:ds.length<=1000):Pl 2 (.lst (ds.map Deed.d)):=Pl.lst (by rw[List.length_map];exact hl) fun d hd=>by
 obtain⟨x,_,rfl⟩:=List.mem_map.mp hd
 exact Pl.deed x
def DeedsAt (ω:Om) (d:D) (ds:List Deed):Prop:=eN ω d=some (ds.map Deed.d)
theorem DeedsAt.keep {ω ω':Om}{d:D}{ds:List Deed} (h:DeedsAt ω d ds) (K:Keep [] ω ω'):DeedsAt ω' d ds:=by
 rcases pB h with rfl|⟨n,rfl,e⟩
 ·rfl
 ·have e':=(K.2 n (zE e) (by simp)).trans e
  unfold DeedsAt eN
  simp only[e']
theorem DeedsAt.list {f:OG D}{ρ:Rho}{ω:Om}{d:D}{ds:List Deed} (h:DeedsAt ω d ds) (e:f ρ ω=some (.ok d,ω)):oL kU (aE f aU) ρ ω=some (.ok (.lst (ds.map Deed.d)),ω):=by
 refine fD (aC e aJ) ?_
 have:dO ω d=some (ds.map Deed.d):=by
  rcases pB h with rfl|⟨n,rfl,e2⟩
  ·rfl
  ·simp only[dO,eN,e2]
 show(dO ω d).map _=_
 rw[this]
 rfl
theorem rZ {c:Nat} (c0:0<c) (c8:c<=8) {ds:List Deed}{d:D}{ω:Om} (hl:ds.length<64) (h:DeedsAt ω d ds):∃ ω',eT [.int c,d] ω=some (.ok (.tup [HG c (kW c ds),Jw c (kW c ds),Jy c (kW c ds),Jx c (kW c ds)]),ω')/\Keep [] ω ω'/\∃ own,HInv c own (kW c ds)/\tot c own<64:=by
 obtain⟨ω',e1,K,I⟩:=Jr c0 c8 hl ω
 refine⟨ω',?_,K,I⟩
 refine bC rfl ?_
 unfold gY
 rw[aV (h.list (aD rfl))]
 rw[aV (bB (aC (aD (d:=.int c) rfl) (aC (aD (d:=.lst (ds.map Deed.d)) rfl) aJ)) e1)]
 rw[skip (AG (dW (lG (aD (d:=.lst (ds.map Deed.d)) rfl) (aD (d:=d) rfl) (by
  have hd:=h.keep K
  have:pX ω' d=.lst (ds.map Deed.d):=by unfold pX;rw[hd]
  show pu ((eqD 8 (.lst (ds.map Deed.d)) (pX ω' d)).map fun k=>D.bl (!k)) ω'=_
  rw[this,zK ((Pl.deeds (by omega)).mono (by decide))]
  rfl))) (AG (lH (k:=true) (tru_ok (dZ (aD rfl) (by simp[rS,eN,qS,fS])))) (AM (b:=4) (iV (aD rfl) (.inr rfl)) bF rfl)))]
 exact bM (aD rfl)
end L2.MB.Lw
end
section
namespace L2.MB.Lw
open PySem PySem.Spec PyProof.Rows L2.MB
theorem AF {F:OG D}{o:List Nat}{m:Nat}{R:Nat->D}{x:D}{j:Nat}{f:OG D}{ρ:Rho}{ω:Om} (hm:ω[m]?=some (.ml (ni o))) (ho:o.length<=1000) (ef:f ρ ω=some (.ok (.obj m),ω)) (hj:ρ[j]?=some (some x)) (h:∀ k∈o,cA ω x (.int (k:Int))=some (R k)):eC wA (oIL f) [none,some j] (bN 0) (oPT nN) (o2 (fun ω a b=>pu (cA ω a b) ω) (oP (aF 1)) (oP (aF 0))) ρ ω=some (.ok (.lst (o.map R)),ω):=by
 refine gW (ds:=ni o) (chk:=vY m (ni o)) (ω1:=ω) ?_ (by rw[Dy,sizeLine_eq];omega) ?_
 ·unfold oIL
  rw[bO ef]
  have:xQ ω (.obj m)=some (ni o,vY m (ni o)):=by simp only[xQ,hm]
  show oR (pu (xQ ω (.obj m)) ω)=_
  rw[this]
  rfl
 ·have e0:Ea [none,some j] ρ=[none,some x]:=by
   unfold Ea
   simp[hj]
  have e1:o.map R=(ni o).map fun d=>match d with|.int k=>R k.toNat|_=>.non:=by
   unfold ni
   rw[List.map_map]
   rfl
  rw[e0,e1]
  refine kG (fun ρ=>∃ u,ρ=[u,some x]) (Gq hm) ⟨_,rfl⟩ fun d hd ρ hρ=> ?_
  obtain⟨u,rfl⟩:=hρ
  unfold ni at hd
  obtain⟨k,hk,rfl⟩:=List.mem_map.mp hd
  exact⟨_,rfl,⟨_,rfl⟩,bD (aD (d:=x) rfl) (aD (d:=.int (k:Int)) rfl) (h k hk)⟩
theorem law_true (ns:List Int) (hns:ns.length<=63):∃ ω',p_law [.scr (ns.map D.int)] []=some (.ok (.bl true),ω'):=by
 obtain⟨x0,e0⟩:=Oo ns 0 []
 have r8:=Et (x:=x0*48271 % 1069) (q:=8) (by decide)
 obtain⟨c,hc,c2,c8⟩:∃ c:Nat,([2,3,4,5,2,3,4,8]:List Int).getD (x0*48271 % 1069 % 8).toNat 0=(c:Int)/\2<=c/\c<=8:=by
  generalize x0*48271 % 1069 % 8=r at r8
  have hr:r=0∨r=1∨r=2∨r=3∨r=4∨r=5∨r=6∨r=7:=by omega
  rcases hr with rfl|rfl|rfl|rfl|rfl|rfl|rfl|rfl
  ·exact⟨2,rfl,by decide,by decide⟩
  ·exact⟨3,rfl,by decide,by decide⟩
  ·exact⟨4,rfl,by decide,by decide⟩
  ·exact⟨5,rfl,by decide,by decide⟩
  ·exact⟨2,rfl,by decide,by decide⟩
  ·exact⟨3,rfl,by decide,by decide⟩
  ·exact⟨4,rfl,by decide,by decide⟩
  ·exact⟨8,rfl,by decide,by decide⟩
 have c0:0<c:=by omega
 -- deeds
 obtain⟨xs,es,hxs⟩:=As (f:=oP (aF 0)) (ρ:=[some (.scr (ns.map D.int)),some (.int c),none,none,none,none,none,none,none]) (ω:=[]) (ns:=ns) (lo:=some 1) (hi:=some 25) (l:=dSo (dC (.int 1))) (u:=dSo (dC (.int 25))) (aD rfl) rfl rfl
 obtain⟨ds,hds,ed⟩:=Jg (xs:=xs) (by omega) c8 (by omega) []
 have hl:ds.length<64:=by omega
 obtain⟨ω1,hω1⟩:∃ ω1:Om,ω1=[]++[Ob.ml (ds.map Deed.d)]:=⟨_,rfl⟩
 rw[<- hω1] at ed
 have g1:ω1[0]?=some (.ml (ds.map Deed.d)):=by rw[hω1];rfl
 have l1:ω1.length=1:=by rw[hω1];rfl
 -- order
 obtain⟨ys,et,hys⟩:=As (f:=oP (aF 0)) (ρ:=[some (.scr (ns.map D.int)),some (.int c),some (.obj 0),none,none,none,none,none,none]) (ω:=ω1) (ns:=ns) (lo:=some 1) (hi:=none) (l:=dSo (dC (.int 1))) (u:=dNo) (aD rfl) rfl rfl
 obtain⟨o,eo,O⟩:=Fi (c:=c) (n:=0) (ds:=ds) (xs:=ys) (by omega) (by omega) g1
 rw[l1] at eo
 obtain⟨ω2,hω2⟩:∃ ω2:Om,ω2=ω1++[Ob.ml (ni o)]:=⟨_,rfl⟩
 rw[<- hω2] at eo
 have g2:ω2[0]?=some (.ml (ds.map Deed.d)):=by rw[hω2,List.getElem?_append_left (by omega)];exact g1
 have o2':ω2[1]?=some (.ml (ni o)):=by rw[hω2,<- l1];simp
 have lo:o.length<=1000:=by rw[O.len];omega
 have hlo:(o.map (dAt ds)).length<64:=by rw[List.length_map,O.len];exact hl
 -- other
 have eot:=AF (F:=Nv) (x:=.obj 0) (j:=2) (f:=oP (aF 3)) (ρ:=[some (.scr (ns.map D.int)),some (.int c),some (.obj 0),some (.obj 1),none,none,none,none,none]) (R:=fun k=>(dAt ds k).d) o2' lo (aD rfl) rfl (fun k hk=>by rw[lL g2];exact BH (CL (O.lt k hk)))
 have eot':o.map (fun k=>(dAt ds k).d)=(o.map (dAt ds)).map Deed.d:=by rw[List.map_map];rfl
 rw[eot'] at eot
 -- answers
 have D2:DeedsAt ω2 (.obj 0) ds:=by unfold DeedsAt eN;simp only[g2]
 obtain⟨ω3,ea,K3,P3⟩:=yC c0 c8 hl ω2
 obtain⟨ω4,eb,K4,P4⟩:=yC c0 c8 hlo ω3
 have D4:DeedsAt ω4 (.obj 0) ds:=(D2.keep K3).keep K4
 have o4:ω4[1]?=some (.ml (ni o)):=by rw[K4.2 1 (Nat.lt_of_lt_of_le (zE o2') K3.1) (by simp),K3.2 1 (zE o2') (by simp)];exact o2'
 have same:jA c (o.map (dAt ds))=o.map fun k=>(jA c ds).getD k .non:=O.ok.1
 have ends:kW c (o.map (dAt ds))=kW c ds:=O.ok.2
 have tl:(jA c ds).length=ds.length:=by unfold jA;rw[pH]
 have ein:=AF (F:=Nv) (x:=.lst (jA c ds)) (j:=5) (f:=oP (aF 3)) (ρ:=[some (.scr (ns.map D.int)),some (.int c),some (.obj 0),some (.obj 1),some (.lst ((o.map (dAt ds)).map Deed.d)),some (.lst (jA c ds)),some (.lst (jA c (o.map (dAt ds)))),none,none]) (R:=fun k=>(jA c ds).getD k .non) (ω:=ω4) o4 lo (aD rfl) rfl (fun k hk=>by
  have hk':=O.lt k hk
  show atI (jA c ds) (k:Int)=_
  rw[Ab (by omega),List.getD_eq_getElem?_getD,List.getElem?_eq_getElem (by omega)]
  rfl)
 rw[<- same] at ein
 -- after
 obtain⟨ω5,ef,K5,own5,I5,t5⟩:=rZ c0 c8 hl D4
 obtain⟨ω6,eg,K6,own6,I6,t6⟩:=rZ c0 c8 hlo (ω:=ω5) (d:=.lst ((o.map (dAt ds)).map Deed.d)) rfl
 rw[ends] at eg
 have tabs:∀ ω,cX [HG c (kW c ds),.int c] ω=some (.ok (.bl true),ω):=fun ω=>by
  have:=Oq (ts:=(List.range c).map fun i=>(kW c ds i).ents) (c:=c) (fun t ht d hd=>by
   obtain⟨i,hi,rfl⟩:=List.mem_map.mp ht
   exact((I5 i (List.mem_range.mp hi)).1.ok c0 c8 t5).entsEnt d hd) (by simp) ω
  rw[List.map_map] at this
  exact this
 refine⟨ω6,bC rfl ?_⟩
 unfold Lv
 refine(aV (d:=.int c) (ω1:=[]) (by
  rw[<- hc]
  exact EB (xs:=[2,3,4,5,2,3,4,8]) rfl (sL (a:=x0) (bB (aC (aD (d:=.scr (ns.map D.int)) rfl) (aC bF aJ)) e0) bF (by decide) (by decide)) r8.1 r8.2)).trans ?_
 refine(aV (bB (aC es (aC (aD (d:=.int c) rfl) aJ)) ed)).trans ?_
 refine(aV (bB (aC (aD (d:=.obj 0) rfl) (aC et aJ)) eo)).trans ?_
 refine(aV eot).trans ?_
 refine(aV (bB (aC (aD (d:=.int c) rfl) (aC (D2.list (aD rfl)) aJ)) ea)).trans ?_
 refine(aV (bB (aC (aD (d:=.int c) rfl) (aC (DeedsAt.list (ω:=ω3) (d:=.lst ((o.map (dAt ds)).map Deed.d)) (ds:=o.map (dAt ds)) rfl (aD rfl)) aJ)) eb)).trans ?_
 refine(skip (AG (lH (k:=true) (tru_ok (dZ (aD (d:=.lst (jA c ds)) rfl) (by simp[rS,eN,qS,fS])))) (lH (k:=true) (tru_ok (dZ (aD (d:=.lst (jA c (o.map (dAt ds)))) rfl) (by simp[rS,eN,qS,fS])))))).trans ?_
 refine(skip (AG (AM (a:=((jA c ds).length:Int)) (b:=(ds.length:Int)) (iV (aD (d:=.lst (jA c ds)) rfl) (.inl rfl)) (fD (aC (aD (d:=.obj 0) rfl) aJ) (by
  have:eN ω4 (.obj 0)=some (ds.map Deed.d):=D4
  simp only[eE,this,List.length_map])) (by rw[tl])) (lH (k:=true) (tru_ok (bB (aC (aD (d:=.lst (jA c (o.map (dAt ds)))) rfl) (aC ein aJ)) (so8 (n:=3) (Pl.lst (by unfold jA;rw[pH,List.length_map];exact lo) P4) (by decide) ω4)))))).trans ?_
 refine(aV (bB (aC (aD (d:=.int c) rfl) (aC (aD (d:=.obj 0) rfl) aJ)) ef)).trans ?_
 refine(aV (bB (aC (aD (d:=.int c) rfl) (aC (aD (d:=.lst ((o.map (dAt ds)).map Deed.d)) rfl) aJ)) eg)).trans ?_
 refine(skip (AG (lH (k:=true) (tru_ok (bB (aC (bD (aD (d:=.tup [HG c (kW c ds),Jw c (kW c ds),Jy c (kW c ds),Jx c (kW c ds)]) rfl) bF rfl) (aC (aD (d:=.int c) rfl) aJ)) (tabs ω6)))) (lH (k:=true) (tru_ok (bB (aC (bD (aD (d:=.tup [HG c (kW c ds),Jw c (kW c ds),Jy c (kW c ds),Jx c (kW c ds)]) rfl) bF rfl) (aC (aD (d:=.int c) rfl) aJ)) (tabs ω6)))))).trans ?_
 exact bM (bB (aC (aD (d:=.tup [HG c (kW c ds),Jw c (kW c ds),Jy c (kW c ds),Jx c (kW c ds)]) rfl) (aC (aD (d:=.tup [HG c (kW c ds),Jw c (kW c ds),Jy c (kW c ds),Jx c (kW c ds)]) rfl) aJ)) (so8 (My I5 c0 c8 t5) (by decide) ω6))
end L2.MB.Lw
end
section
namespace L2.MB.Lw
open PySem PySem.Spec PyProof.Rows L2.MB
def top (i:Nat):Stmt:=PySem.Challenge.pw_meetbook_k08_whole_apart_in_either_order.main.body.getD i (.Pass ⟨0,0,0,0⟩)
abbrev mE:Stmt:=top 5
theorem tS:aW qW yF (aK mE):=by constructor <;> first|rfl|decide+kernel
abbrev sS:Stmt:=top 6
theorem Aw:aW tJ Ee (aK sS):=by constructor <;> first|rfl|decide+kernel
abbrev sT:Stmt:=top 7
theorem Ax:aW qJ Ef (aK sT):=by constructor <;> first|rfl|decide+kernel
abbrev yO:Stmt:=top 8
theorem Dl:aW Ae Hm (aK yO):=by constructor <;> first|rfl|decide+kernel
abbrev jL:Stmt:=cL (top 11) 1
theorem rE:aW oM vO (aK jL):=by constructor <;> first|rfl|decide+kernel
abbrev pE:Stmt:=top 10
theorem wV:aW vV BJ (aK pE):=by constructor <;> first|rfl|decide+kernel
abbrev gA:Stmt:=cL (top 11) 0
theorem mU:aW kK qE (aK gA):=by constructor <;> first|rfl|decide+kernel
abbrev fI:Stmt:=cL (top 11) 2
theorem lD:aW iZ nR (aK fI):=by constructor <;> first|rfl|decide+kernel
abbrev iR:Stmt:=cL (top 11) 3
theorem pD:aW lY sB (aK iR):=by constructor <;> first|rfl|decide+kernel
abbrev fH:Stmt:=cL (top 11) 4
theorem lC:aW iY nQ (aK fH):=by constructor <;> first|rfl|decide+kernel
abbrev eQ:Stmt:=cL (top 11) 9
theorem kQ:aW iK lW (aK eQ):=by constructor <;> first|rfl|decide+kernel
abbrev mF:Stmt:=cL (top 11) 5
theorem tT:aW qX yG (aK mF):=by constructor <;> first|rfl|decide+kernel
abbrev gB:Stmt:=cL (top 11) 12
theorem mV:aW fA qF (aK gB):=by constructor <;> first|rfl|decide+kernel
abbrev eP:Stmt:=cL (top 11) 11
theorem kP:aW eY lV (aK eP):=by constructor <;> first|rfl|decide+kernel
abbrev eR:Stmt:=cL (top 11) 10
theorem kR:aW eZ lX (aK eR):=by constructor <;> first|rfl|decide+kernel
abbrev gC:Stmt:=cL (top 11) 6
theorem mW:aW kL qG (aK gC):=by constructor <;> first|rfl|decide+kernel
abbrev jK:Stmt:=cL (top 11) 7
theorem rD:aW oK vN (aK jK):=by constructor <;> first|rfl|decide+kernel
abbrev jM:Stmt:=cL (top 11) 8
theorem rF:aW oN vP (aK jM):=by constructor <;> first|rfl|decide+kernel
abbrev gD:Stmt:=cL (top 13) 0
theorem mX:aW kM qH (aK gD):=by constructor <;> first|rfl|decide+kernel
abbrev jR:Stmt:=cL (top 13) 1
theorem rM:aW oV vU (aK jR):=by constructor <;> first|rfl|decide+kernel
abbrev jP:Stmt:=cL (top 13) 2
theorem rJ:aW oS vS (aK jP):=by constructor <;> first|rfl|decide+kernel
abbrev mG:Stmt:=cL (top 13) 3
theorem tU:aW qY yH (aK mG):=by constructor <;> first|rfl|decide+kernel
abbrev gE:Stmt:=cL (top 13) 4
theorem mY:aW kN qI (aK gE):=by constructor <;> first|rfl|decide+kernel
abbrev jO:Stmt:=cL (top 13) 5
theorem rH:aW oQ vR (aK jO):=by constructor <;> first|rfl|decide+kernel
abbrev jN:Stmt:=cL (top 13) 6
theorem rG:aW oO vQ (aK jN):=by constructor <;> first|rfl|decide+kernel
abbrev jQ:Stmt:=cL (top 13) 7
theorem rK:aW oU vT (aK jQ):=by constructor <;> first|rfl|decide+kernel
abbrev Do:Stmt:=top 15
theorem Fy:aW Ho JY (aK Do):=by constructor <;> first|rfl|decide+kernel
abbrev jJ:Stmt:=top 16
theorem rC:aW oJ vM (aK jJ):=by constructor <;> first|rfl|decide+kernel
abbrev pG:Stmt:=top 17
theorem wX:aW qK BL (aK pG):=by constructor <;> first|rfl|decide+kernel
abbrev yP:Stmt:=top 18
theorem Dm:aW Ag Hn (aK yP):=by constructor <;> first|rfl|decide+kernel
abbrev sQ:Stmt:=top 20
theorem Au:aW Af Ac (aK sQ):=by constructor <;> first|rfl|decide+kernel
abbrev jH:Stmt:=top 21
theorem rA:aW oI vK (aK jH):=by constructor <;> first|rfl|decide+kernel
abbrev sR:Stmt:=top 22
theorem Av:aW mQ Ed (aK sR):=by constructor <;> first|rfl|decide+kernel
abbrev eO:Stmt:=top 23
theorem kO:aW iJ lU (aK eO):=by constructor <;> first|rfl|decide+kernel
abbrev pF:Stmt:=top 24
theorem wW:aW vW BK (aK pF):=by constructor <;> first|rfl|decide+kernel
abbrev mD:Stmt:=top 25
theorem tR:aW qV yE (aK mD):=by constructor <;> first|rfl|decide+kernel
abbrev fZ:Stmt:=top 26
theorem mT:aW gK qD (aK fZ):=by constructor <;> first|rfl|decide+kernel
abbrev jI:Stmt:=top 27
theorem rB:aW kJ vL (aK jI):=by constructor <;> first|rfl|decide+kernel
abbrev eA:Stmt:=top 28
theorem jB:aW fY kY (aK eA):=by constructor <;> first|rfl|decide+kernel
abbrev fG:Stmt:=top 29
theorem lB:aW iX nP (aK fG):=by constructor <;> first|rfl|decide+kernel
abbrev iQ:Stmt:=top 30
theorem pC:aW fU sA (aK iQ):=by constructor <;> first|rfl|decide+kernel
abbrev Hy:Stmt:=top 31
theorem Ju:aW LY Ot (aK Hy):=by constructor <;> first|rfl|decide+kernel
structure Txt (K:PySem.W.Frag) (mg:Str->Option Value) (cls exC:Nat->Addr):Prop where
 bn:Bn mg
 dict:mg "dict"=none
 c0:Cls K (cls 0)
 m0:mg "Hand"=some (.ref (cls 0))
 c1:Cls K (cls 1)
 m1:mg "Hall"=some (.ref (cls 1))
 a0_kept:NoAttr K (cls 0) "kept"
 a0_knows:NoAttr K (cls 0) "knows"
 a0_number:NoAttr K (cls 0) "number"
 a0_table:NoAttr K (cls 0) "table"
 a1_hands:NoAttr K (cls 1) "hands"
 x0:mg "NoHand"=some (.ref (exC 0))
 x1:mg "SameHand"=some (.ref (exC 1))
 exs:∃ tl1 tl2,qP K (exC 0) tl1/\qP K (exC 1) tl2/\(Value.ref (exC 1)::tl2).contains (.ref (exC 0))=false
 f_has_seen:∃ f fd,wB K mg "has_seen" mE f fd
 f_joined:∃ f fd,wB K mg "joined" sS f fd
 f_common:∃ f fd,wB K mg "common" sT f fd
 f_newer:∃ f fd,wB K mg "newer" yO f fd
 f_Hand_seen:∃ f fd,Fun K "seen" "Hand.seen" jL f fd/\sC K (cls 0) "seen" f
 f_left_by:∃ f fd,wB K mg "left_by" pE f fd
 f_Hand_init__:∃ f fd,Fun K "__init__" "Hand.__init__" gA f fd/\Mk K (cls 0) f
 f_Hand_entries:∃ f fd,Fun K "entries" "Hand.entries" fI f fd/\sC K (cls 0) "entries" f
 f_Hand_known:∃ f fd,Fun K "known" "Hand.known" iR f fd/\sC K (cls 0) "known" f
 f_Hand_in_mind:∃ f fd,Fun K "in_mind" "Hand.in_mind" fH f fd/\sC K (cls 0) "in_mind" f
 f_Hand_new_mark:∃ f fd,Fun K "new_mark" "Hand.new_mark" eQ f fd/\sC K (cls 0) "new_mark" f
 f_Hand_put:∃ f fd,Fun K "put" "Hand.put" mF f fd/\sC K (cls 0) "put" f
 f_Hand_forget:∃ f fd,Fun K "forget" "Hand.forget" gB f fd/\sC K (cls 0) "forget" f
 f_Hand_take_out:∃ f fd,Fun K "take_out" "Hand.take_out" eP f fd/\sC K (cls 0) "take_out" f
 f_Hand_marks_of:∃ f fd,Fun K "marks_of" "Hand.marks_of" eR f fd/\sC K (cls 0) "marks_of" f
 f_Hand_change:∃ f fd,Fun K "change" "Hand.change" gC f fd/\sC K (cls 0) "change" f
 f_Hand_take:∃ f fd,Fun K "take" "Hand.take" jK f fd/\sC K (cls 0) "take" f
 f_Hand_hear:∃ f fd,Fun K "hear" "Hand.hear" jM f fd/\sC K (cls 0) "hear" f
 f_Hall_init__:∃ f fd,Fun K "__init__" "Hall.__init__" gD f fd/\Mk K (cls 1) f
 f_Hall_hand:∃ f fd,Fun K "hand" "Hall.hand" jR f fd/\sC K (cls 1) "hand" f
 f_Hall_pair:∃ f fd,Fun K "pair" "Hall.pair" jP f fd/\sC K (cls 1) "pair" f
 f_Hall_put:∃ f fd,Fun K "put" "Hall.put" mG f fd/\sC K (cls 1) "put" f
 f_Hall_change:∃ f fd,Fun K "change" "Hall.change" gE f fd/\sC K (cls 1) "change" f
 f_Hall_take:∃ f fd,Fun K "take" "Hall.take" jO f fd/\sC K (cls 1) "take" f
 f_Hall_tell:∃ f fd,Fun K "tell" "Hall.tell" jN f fd/\sC K (cls 1) "tell" f
 f_Hall_meet:∃ f fd,Fun K "meet" "Hall.meet" jQ f fd/\sC K (cls 1) "meet" f
 f_done:∃ f fd,wB K mg "done" Do f fd
 f_answer_to:∃ f fd,wB K mg "answer_to" jJ f fd
 f_answers:∃ f fd,wB K mg "answers" pG f fd
 f_after:∃ f fd,wB K mg "after" yP f fd
 f_law_so:∃ f fd,wB K mg "_law_so" sQ f fd
 f_law_whole:∃ f fd,wB K mg "_law_whole" jH f fd
 f_law_at:∃ f fd,wB K mg "_law_at" sR f fd
 f_law_all_after:∃ f fd,wB K mg "_law_all_after" eO f fd
 f_law_odd:∃ f fd,wB K mg "_law_odd" pF f fd
 f_law_word:∃ f fd,wB K mg "_law_word" mD f fd
 f_law_deed_of:∃ f fd,wB K mg "_law_deed_of" fZ f fd
 f_law_drawn:∃ f fd,wB K mg "_law_drawn" jI f fd
 f_law_are_tables:∃ f fd,wB K mg "_law_are_tables" eA f fd
 f_law_hands_of:∃ f fd,wB K mg "_law_hands_of" fG f fd
 f_law_turned:∃ f fd,wB K mg "_law_turned" iQ f fd
section
variable {P:Program}{w:World}{K:PySem.W.Frag}{mg:Str->Option Value}{base:Heap}{cls exC:Nat->Addr}
def Bod (P:Program) (w:World) (K:PySem.W.Frag) (mg:Str->Option Value) (base:Heap) (cls exC:Nat->Addr) (k:Nat) (N:List Str) (q:Str) (st:Stmt) (G:OS):Prop:=∀(f:Addr) (cdv:Value) (A:Around) (outer:List Env) (s:Shared) (H:Hp) (E:XK),Room k (A.deeper (envOfC q (aK st) s.heap.objs.size f cdv))->(A.deeper (envOfC q (aK st) s.heap.objs.size f cdv)).units+8<cLine->(A.deeper (envOfC q (aK st) s.heap.objs.size f cdv)).units+1<cLine->(A.deeper (envOfC q (aK st) s.heap.objs.size f cdv)).units+(4+2)<cLine->
 Exc (CM (CX1 P w exC) P w K mg base N q (aK st) f cdv A outer s H E) exC (fun c H'=>E (.ref (exC c)) none H')->OC (CM (CX1 P w exC) P w K mg base N q (aK st) f cdv A outer s H E) exC (fun c H'=>E (.ref (exC c)) none H')->OSs (CM (CX1 P w exC) P w K mg base N q (aK st) f cdv A outer s H E) cls (fun c H'=>E (.ref (exC c)) none H') (iW st) G
theorem bJ {x q:Str}{st:Stmt}{f:Addr}{fd:FuncData}{N ps:List Str}{k:Nat}{G:OS} (F:Fun K x q st f fd) (sc:aW N ps (aK st)) (b:Bod P w K mg base cls exC k N q st G):wQ P w K mg base (CX1 P w exC) (k+1) f fd ps (spO cls exC K (fV ps.length N G)):=
 QQ F sc fun cdv A outer s H E hr hE hR=>b f cdv A outer s H E hr (GQ hr) (Ps hr) (by have h8:(A.deeper (envOfC q (aK st) s.heap.objs.size f cdv)).units+8<cLine:=GQ hr;omega) hE hR
theorem EX (T:Txt K mg cls exC):Bod P w K mg base cls exC 0 qW "has_seen" mE xO:=fun f cdv A outer s H E hr hu hu1 hu6 hE hR=>by
 have sc:=tS
 exact(aO (aT (Pk (bH (aA (dv 1)) (aA aG)) (bH (aA (dv 0)) (bH (aA (dv 1)) (aA aG))))))
theorem xT (T:Txt K mg cls exC):wC P w K mg base cls exC 1 "has_seen" yF gM:=match T.f_has_seen with|⟨f,fd,F⟩=>⟨f,fd,bJ F.fn tS (EX T),F.at_,F.fn.kp,F.fn.binds (fun _ _ _ _ _ _ us hl=>match us,hl with|[_,_],_=>rfl)⟩
theorem Jn (T:Txt K mg cls exC):Bod P w K mg base cls exC 0 tJ "joined" sS DN:=fun f cdv A outer s H E hr hu hu1 hu6 hE hR=>by
 have sc:=Aw
 exact(aO (aT (dN IX (bK (N':=["ours","theirs"]) (caps:=[none,none]) rfl rfl rfl rfl rfl) (Du (by rfl) T.bn.zip (aB (aA (dv 0)) (aB (aA (dv 1)) aI))) (fun _ _ _ _ _ _=>⟨(zD (i:=0) (j:=1) rfl (show(["ours","theirs"]:List Str).Nodup by decide+kernel) rfl rfl (Or.inl rfl) (Or.inl rfl)),cM,(bR (Bz rfl) (FitL.lift DT) (by rfl) T.bn.max boot.max (aB (aA (dv 0)) (aB (aA (dv 1)) aI)))⟩))))
theorem DX (T:Txt K mg cls exC):wC P w K mg base cls exC 1 "joined" Ee jW:=match T.f_joined with|⟨f,fd,F⟩=>⟨f,fd,bJ F.fn Aw (Jn T),F.at_,F.fn.kp,F.fn.binds (fun _ _ _ _ _ _ us hl=>match us,hl with|[_,_],_=>rfl)⟩
theorem Jo (T:Txt K mg cls exC):Bod P w K mg base cls exC 0 qJ "common" sT zF:=fun f cdv A outer s H E hr hu hu1 hu6 hE hR=>by
 have sc:=Ax
 exact(aH (bI (i:=1) sc.nd rfl (Or.inl rfl) (eX dR iE (by rfl) T.bn.list boot.list (aB (bH (aA (dv 0)) (aA aG)) aI)))
  (aH (pP rfl (dB (sY (aA (dv 0)) (qU aG) GP)) (bT (i:=2) sc.nd rfl (Or.inl rfl))
  (aO (Cj mS (i:=1) sc.nd rfl rfl (bK (N':=["ours","theirs"]) (caps:=[none,none]) rfl rfl rfl rfl rfl) (Du (by rfl) T.bn.zip (aB (aA (dv 1)) (aB (aA (dv 2)) aI))) (fun _ _ _ _ _ _=>⟨(zD (i:=0) (j:=1) rfl (show(["ours","theirs"]:List Str).Nodup by decide+kernel) rfl rfl (Or.inl rfl) (Or.inl rfl)),cM,(bR (Ha rfl) (FitL.lift IW) (by rfl) T.bn.min boot.min (aB (aA (dv 0)) (aB (aA (dv 1)) aI)))⟩))))
  (aO (aT (aA (dv 1))))))
theorem Jj (T:Txt K mg cls exC):wC P w K mg base cls exC 1 "common" Ef sW:=match T.f_common with|⟨f,fd,F⟩=>⟨f,fd,bJ F.fn Ax (Jo T),F.at_,F.fn.kp,F.fn.binds (fun _ _ _ _ _ _ us hl=>match us,hl with|[_],_=>rfl)⟩
theorem LS (T:Txt K mg cls exC):Bod P w K mg base cls exC 0 Ae "newer" yO GD:=fun f cdv A outer s H E hr hu hu1 hu6 hE hR=>by
 have sc:=Dl
 exact(aO (aT (bR (GX rfl) (FitL.lift LA) (by rfl) T.bn.sum boot.sum (aB (dN mS (bK (N':=["ours","theirs"]) (caps:=[none,none]) rfl rfl rfl rfl rfl) (Du (by rfl) T.bn.zip (aB (aA (dv 0)) (aB (aA (dv 1)) aI))) (fun _ _ _ _ _ _=>⟨(zD (i:=0) (j:=1) rfl (show(["ours","theirs"]:List Str).Nodup by decide+kernel) rfl rfl (Or.inl rfl) (Or.inl rfl)),cM,(bR (Bz rfl) (FitL.lift DT) (by rfl) T.bn.max boot.max (aB (rO (aA (dv 1)) (aA (dv 0))) (aB (aA aG) aI)))⟩)) aI))))
theorem LI (T:Txt K mg cls exC):wC P w K mg base cls exC 1 "newer" Hm Ch:=match T.f_newer with|⟨f,fd,F⟩=>⟨f,fd,bJ F.fn Dl (LS T),F.at_,F.fn.kp,F.fn.binds (fun _ _ _ _ _ _ us hl=>match us,hl with|[_,_],_=>rfl)⟩
theorem CT (T:Txt K mg cls exC):Bod P w K mg base cls exC 0 oM "Hand.seen" jL uQ:=fun f cdv A outer s H E hr hu hu1 hu6 hE hR=>by
 have sc:=rE
 exact(aO (aT (bH (cH T.c0 T.a0_knows (aA (dv 0))) (cH T.c0 T.a0_number (aA (dv 0))))))
theorem eI (T:Txt K mg cls exC):wP P w K mg base cls exC 1 0 "seen" vO cC:=match T.f_Hand_seen with|⟨f,fd,F,M⟩=>⟨⟨f,fd,bJ F rE (CT T),M,F.binds (fun _ _ _ _ _ _ us hl=>match us,hl with|[_],_=>rfl)⟩,T.c0⟩
theorem Hh (T:Txt K mg cls exC):Bod P w K mg base cls exC 1 vV "left_by" pE Bd:=fun f cdv A outer s H E hr hu hu1 hu6 hE hR=>by
 have sc:=wV
 exact(aO (aT (dN mS (bK (N':=["entry","hand"]) (caps:=[none,some 1]) rfl rfl rfl rfl rfl) (dB (aA (dv 0))) (fun _ _ _ _ _ _=>⟨(bT (i:=0) (show(["entry","hand"]:List Str).Nodup by decide+kernel) rfl (Or.inl rfl)),(sX (FQ (qQ (Nd hu1 (bH (aA (dv 0)) (aA aG)) (cH T.c0 T.a0_table (aA (dv 1)))) (nC (dX (cY (bA (xT T) (hr.mono (by decide)) (by rfl) iL (aB (cG (eI T) (hr.mono (by decide)) iL (aA (dv 1))) (aB (bH (aA (dv 0)) (aA aG)) aI))))))))),(aA (dv 0))⟩))))
theorem Bo (T:Txt K mg cls exC):wC P w K mg base cls exC 2 "left_by" BJ pM:=match T.f_left_by with|⟨f,fd,F⟩=>⟨f,fd,bJ F.fn wV (Hh T),F.at_,F.fn.kp,F.fn.binds (fun _ _ _ _ _ _ us hl=>match us,hl with|[_,_],_=>rfl)⟩
theorem zW (T:Txt K mg cls exC):Bod P w K mg base cls exC 0 kK "Hand.__init__" gA jZ:=fun f cdv A outer s H E hr hu hu1 hu6 hE hR=>by
 have sc:=mU
 exact(aH (rN T.c0 T.a0_number (aA (dv 0)) (aA (dv 1)))
  (aH (rN T.c0 T.a0_knows (aA (dv 0)) (dN IX (bK (N':=["row","count"]) (caps:=[none,some 2]) rfl rfl rfl rfl rfl) (jD (by rfl) T.bn.range (aB (aA (dv 2)) aI)) (fun _ _ _ _ _ _=>⟨(bT (i:=0) (show(["row","count"]:List Str).Nodup by decide+kernel) rfl (Or.inl rfl)),cM,(KP (tZ (aB (aA aG) aI)) (aA (dv 1)))⟩)))
  (aH (rN T.c0 T.a0_table (aA (dv 0)) yU)
  (aO (rN T.c0 T.a0_kept (aA (dv 0)) yU)))))
theorem zP (T:Txt K mg cls exC):PR P w K mg base cls exC 1 0 "Hand" qE eU:=match T.f_Hand_init__ with|⟨f,fd,F,M⟩=>⟨⟨f,fd,bJ F mU (zW T),M,F.binds (fun _ _ _ _ _ _ us hl=>match us,hl with|[_,_,_],_=>rfl)⟩,T.m0⟩
theorem wO (T:Txt K mg cls exC):Bod P w K mg base cls exC 0 iZ "Hand.entries" fI nL:=fun f cdv A outer s H E hr hu hu1 hu6 hE hR=>by
 have sc:=lD
 exact(aO (aT (KO (n:=4) hu6 rfl (by rfl) T.bn.sorted (cH T.c0 T.a0_table (aA (dv 0))))))
theorem fO (T:Txt K mg cls exC):wP P w K mg base cls exC 1 0 "entries" nR bZ:=match T.f_Hand_entries with|⟨f,fd,F,M⟩=>⟨⟨f,fd,bJ F lD (wO T),M,F.binds (fun _ _ _ _ _ _ us hl=>match us,hl with|[_],_=>rfl)⟩,T.c0⟩
theorem BF (T:Txt K mg cls exC):Bod P w K mg base cls exC 0 lY "Hand.known" iR rV:=fun f cdv A outer s H E hr hu hu1 hu6 hE hR=>by
 have sc:=pD
 exact(aO (aT (dN mS (bK (N':=["row"]) (caps:=[none]) rfl rfl rfl rfl rfl) (dB (cH T.c0 T.a0_knows (aA (dv 0)))) (fun _ _ _ _ _ _=>⟨(bT (i:=0) (show(["row"]:List Str).Nodup by decide+kernel) rfl (Or.inl rfl)),cM,(eX dR iE (by rfl) T.bn.list boot.list (aB (aA (dv 0)) aI))⟩))))
theorem Bs (T:Txt K mg cls exC):wP P w K mg base cls exC 1 0 "known" sB iS:=match T.f_Hand_known with|⟨f,fd,F,M⟩=>⟨⟨f,fd,bJ F pD (BF T),M,F.binds (fun _ _ _ _ _ _ us hl=>match us,hl with|[_],_=>rfl)⟩,T.c0⟩
theorem wN (T:Txt K mg cls exC):Bod P w K mg base cls exC 0 iY "Hand.in_mind" fH nK:=fun f cdv A outer s H E hr hu hu1 hu6 hE hR=>by
 have sc:=lC
 exact(aO (aT (dN mS (bK (N':=["mark","self"]) (caps:=[none,some 0]) rfl rfl rfl rfl rfl) (dB (bR (GZ (n:=4) rfl hu6) IU (by rfl) T.bn.sorted boot.sorted (aB (cH T.c0 T.a0_kept (aA (dv 0))) aI))) (fun _ _ _ _ _ _=>⟨(bT (i:=0) (show(["mark","self"]:List Str).Nodup by decide+kernel) rfl (Or.inl rfl)),cM,(kT (aB (aA (dv 0)) (aB (eX dR iE (by rfl) T.bn.list boot.list (aB (FW hu1 (cH T.c0 T.a0_kept (aA (dv 1))) (aA (dv 0))) aI)) aI)))⟩))))
theorem wL (T:Txt K mg cls exC):wP P w K mg base cls exC 1 0 "in_mind" nQ fL:=match T.f_Hand_in_mind with|⟨f,fd,F,M⟩=>⟨⟨f,fd,bJ F lC (wN T),M,F.binds (fun _ _ _ _ _ _ us hl=>match us,hl with|[_],_=>rfl)⟩,T.c0⟩
theorem vE (T:Txt K mg cls exC):Bod P w K mg base cls exC 1 iK "Hand.new_mark" eQ iC:=fun f cdv A outer s H E hr hu hu1 hu6 hE hR=>by
 have sc:=kQ
 exact(aH (bI (i:=1) sc.nd rfl (Or.inl rfl) (cG (eI T) (hr.mono (by decide)) hE.pas (aA (dv 0))))
  (aH (FS (aA (dv 1)) (cH T.c0 T.a0_number (aA (dv 0))) (nE (bH (aA (dv 1)) (cH T.c0 T.a0_number (aA (dv 0)))) (aA aG)))
  (aO (aT (kT (aB (cH T.c0 T.a0_number (aA (dv 0))) (aB (bH (aA (dv 1)) (cH T.c0 T.a0_number (aA (dv 0)))) aI)))))))
theorem lP (T:Txt K mg cls exC):wP P w K mg base cls exC 2 0 "new_mark" lW dJ:=match T.f_Hand_new_mark with|⟨f,fd,F,M⟩=>⟨⟨f,fd,bJ F kQ (vE T),M,F.binds (fun _ _ _ _ _ _ us hl=>match us,hl with|[_],_=>rfl)⟩,T.c0⟩
theorem EY (T:Txt K mg cls exC):Bod P w K mg base cls exC 2 qX "Hand.put" mF qT:=fun f cdv A outer s H E hr hu hu1 hu6 hE hR=>by
 have sc:=tT
 exact(aH (bI (i:=3) sc.nd rfl (Or.inl rfl) (cG (lP T) (hr.mono (by decide)) hE.pas (aA (dv 0))))
  (aH (yS hu1 (cH T.c0 T.a0_table (aA (dv 0))) (aA (dv 3)) (kT (aB (aA (dv 1)) (aB (aA (dv 3)) (aB (aA (dv 2)) aI)))))
  (aO (aT (aA (dv 3))))))
theorem xU (T:Txt K mg cls exC):wP P w K mg base cls exC 3 0 "put" yG fC:=match T.f_Hand_put with|⟨f,fd,F,M⟩=>⟨⟨f,fd,bJ F tT (EY T),M,F.binds (fun _ _ _ _ _ _ us hl=>match us,hl with|[_,_,_],_=>rfl)⟩,T.c0⟩
theorem zX (T:Txt K mg cls exC):Bod P w K mg base cls exC 1 fA "Hand.forget" gB gH:=fun f cdv A outer s H E hr hu hu1 hu6 hE hR=>by
 have sc:=mV
 exact(aH (bI (i:=1) sc.nd rfl (Or.inl rfl) (bA (Jj T) (hr.mono (by decide)) (by rfl) hE.pas (aB (cH T.c0 T.a0_knows (aA (dv 0))) aI)))
  (aH (bI (i:=2) sc.nd rfl (Or.inl rfl) yU)
  (aH (KK rfl (cH T.c0 T.a0_kept (aA (dv 0))) (bT (i:=3) sc.nd rfl (Or.inl rfl))
  (aO (dA (dX (cY (bA (xT T) (hr.mono (by decide)) (by rfl) iL (aB (aA (dv 1)) (aB (aA (dv 3)) aI)))))
  (aO (yS hu1 (aA (dv 2)) (aA (dv 3)) (FW hu1 (cH T.c0 T.a0_kept (aA (dv 0))) (aA (dv 3)))))
  bP)))
  (aO (rN T.c0 T.a0_kept (aA (dv 0)) (aA (dv 2)))))))
theorem pZ (T:Txt K mg cls exC):wP P w K mg base cls exC 2 0 "forget" qF gF:=match T.f_Hand_forget with|⟨f,fd,F,M⟩=>⟨⟨f,fd,bJ F mV (zX T),M,F.binds (fun _ _ _ _ _ _ us hl=>match us,hl with|[_],_=>rfl)⟩,T.c0⟩
theorem vD (T:Txt K mg cls exC):Bod P w K mg base cls exC 2 eY "Hand.take_out" eP iB:=fun f cdv A outer s H E hr hu hu1 hu6 hE hR=>by
 have sc:=kP
 exact(aH (pP rfl (dB (aA (dv 2))) (bT (i:=3) sc.nd rfl (Or.inl rfl))
  (aO (jX (KQ hu1 (cH T.c0 T.a0_table (aA (dv 0))) (aB (aA (dv 3)) aI)))))
  (aH (dA (cY (aA (dv 2)))
  (aO (yS hu1 (cH T.c0 T.a0_kept (aA (dv 0))) (aA (dv 1)) (eX zT IT (by rfl) T.bn.tuple boot.tuple (aB (aA (dv 2)) aI))))
  bP)
  (aO (jX (cG (pZ T) (hr.mono (by decide)) hE.pas (aA (dv 0)))))))
theorem lO (T:Txt K mg cls exC):wP P w K mg base cls exC 3 0 "take_out" lV dI:=match T.f_Hand_take_out with|⟨f,fd,F,M⟩=>⟨⟨f,fd,bJ F kP (vD T),M,F.binds (fun _ _ _ _ _ _ us hl=>match us,hl with|[_,_,_],_=>rfl)⟩,T.c0⟩
theorem vF (T:Txt K mg cls exC):Bod P w K mg base cls exC 1 eZ "Hand.marks_of" eR lK:=fun f cdv A outer s H E hr hu hu1 hu6 hE hR=>by
 have sc:=kR
 exact(aO (aT (dN mS (bK (N':=["entry","name"]) (caps:=[none,some 1]) rfl rfl rfl rfl rfl) (dB (cG (fO T) (hr.mono (by decide)) hE.pas (aA (dv 0)))) (fun _ _ _ _ _ _=>⟨(bT (i:=0) (show(["entry","name"]:List Str).Nodup by decide+kernel) rfl (Or.inl rfl)),(sX (nD hu (bH (aA (dv 0)) (aA aG)) (aA (dv 1)))),(bH (aA (dv 0)) (aA aG))⟩))))
theorem lQ (T:Txt K mg cls exC):wP P w K mg base cls exC 2 0 "marks_of" lX dL:=match T.f_Hand_marks_of with|⟨f,fd,F,M⟩=>⟨⟨f,fd,bJ F kR (vF T),M,F.binds (fun _ _ _ _ _ _ us hl=>match us,hl with|[_,_],_=>rfl)⟩,T.c0⟩
theorem zY (T:Txt K mg cls exC):Bod P w K mg base cls exC 3 kL "Hand.change" gC kA:=fun f cdv A outer s H E hr hu hu1 hu6 hE hR=>by
 have sc:=mW
 exact(aH (bI (i:=3) sc.nd rfl (Or.inl rfl) (bX (lQ T) (hr.mono (by decide)) hE.pas (aA (dv 0)) (aB (aA (dv 1)) aI)))
  (aH (bI (i:=4) sc.nd rfl (Or.inl rfl) (bX (xU T) (hr.mono (by decide)) hE.pas (aA (dv 0)) (aB (aA (dv 1)) (aB (aA (dv 2)) aI))))
  (aH (jX (bX (lO T) (hr.mono (by decide)) hE.pas (aA (dv 0)) (aB (aA (dv 4)) (aB (aA (dv 3)) aI))))
  (aO (aT (aA (dv 4)))))))
theorem zQ (T:Txt K mg cls exC):wP P w K mg base cls exC 4 0 "change" qG eV:=match T.f_Hand_change with|⟨f,fd,F,M⟩=>⟨⟨f,fd,bJ F mW (zY T),M,F.binds (fun _ _ _ _ _ _ us hl=>match us,hl with|[_,_,_],_=>rfl)⟩,T.c0⟩
theorem CS (T:Txt K mg cls exC):Bod P w K mg base cls exC 3 oK "Hand.take" jK jY:=fun f cdv A outer s H E hr hu hu1 hu6 hE hR=>by
 have sc:=rD
 exact(aH (bI (i:=2) sc.nd rfl (Or.inl rfl) (bX (lQ T) (hr.mono (by decide)) hE.pas (aA (dv 0)) (aB (aA (dv 1)) aI)))
  (aH (dA (dX (cY (aA (dv 2))))
  (aO (aT (aA uW)))
  bP)
  (aH (jX (bX (lO T) (hr.mono (by decide)) hE.pas (aA (dv 0)) (aB (cG (lP T) (hr.mono (by decide)) hE.pas (aA (dv 0))) (aB (aA (dv 2)) aI))))
  (aO (aT (aA (dv 2)))))))
theorem CH (T:Txt K mg cls exC):wP P w K mg base cls exC 4 0 "take" vN gP:=match T.f_Hand_take with|⟨f,fd,F,M⟩=>⟨⟨f,fd,bJ F rD (CS T),M,F.binds (fun _ _ _ _ _ _ us hl=>match us,hl with|[_,_],_=>rfl)⟩,T.c0⟩
theorem CU (T:Txt K mg cls exC):Bod P w K mg base cls exC 2 oN "Hand.hear" jM oF:=fun f cdv A outer s H E hr hu hu1 hu6 hE hR=>by
 have sc:=rF
 exact(aH (bI (i:=2) sc.nd rfl (Or.inl rfl) (bA (LI T) (hr.mono (by decide)) (by rfl) hE.pas (aB (cG (eI T) (hr.mono (by decide)) hE.pas (aA (dv 0))) (aB (cG (eI T) (hr.mono (by decide)) hE.pas (aA (dv 1))) aI))))
  (aH (bI (i:=3) sc.nd rfl (Or.inl rfl) (bA (DX T) (hr.mono (by decide)) (by rfl) hE.pas (aB (cG (eI T) (hr.mono (by decide)) hE.pas (aA (dv 0))) (aB (cG (eI T) (hr.mono (by decide)) hE.pas (aA (dv 1))) aI))))
  (aH (bI (i:=4) sc.nd rfl (Or.inl rfl) yU)
  (aH (pP rfl (dB (Nu (bA (Bo T) (hr.mono (by decide)) (by rfl) iL (aB (cG (fO T) (hr.mono (by decide)) iL (aA (dv 0))) (aB (aA (dv 1)) aI))) (bA (Bo T) (hr.mono (by decide)) (by rfl) iL (aB (cG (fO T) (hr.mono (by decide)) iL (aA (dv 1))) (aB (aA (dv 0)) aI))))) (bT (i:=5) sc.nd rfl (Or.inl rfl))
  (aO (yS hu1 (aA (dv 4)) (bH (aA (dv 5)) (aA aG)) (aA (dv 5)))))
  (aH (rN T.c0 T.a0_table (aA (dv 0)) (aA (dv 4)))
  (aH (rN T.c0 T.a0_knows (aA (dv 0)) (dN IX (bK (N':=["ours","theirs"]) (caps:=[none,none]) rfl rfl rfl rfl rfl) (Du (by rfl) T.bn.zip (aB (cH T.c0 T.a0_knows (aA (dv 0))) (aB (cH T.c0 T.a0_knows (aA (dv 1))) aI))) (fun _ _ _ _ _ _=>⟨(zD (i:=0) (j:=1) rfl (show(["ours","theirs"]:List Str).Nodup by decide+kernel) rfl rfl (Or.inl rfl) (Or.inl rfl)),cM,(bA (DX T) (hr.mono (by decide)) (by rfl) iL (aB (aA (dv 0)) (aB (aA (dv 1)) aI)))⟩)))
  (aH (FS (cH T.c0 T.a0_knows (aA (dv 0))) (cH T.c0 T.a0_number (aA (dv 0))) (aA (dv 3)))
  (aH (jX (KN hu1 (cH T.c0 T.a0_kept (aA (dv 0))) (aB (cH T.c0 T.a0_kept (aA (dv 1))) aI)))
  (aH (jX (cG (pZ T) (hr.mono (by decide)) hE.pas (aA (dv 0))))
  (aO (aT (aA (dv 2)))))))))))))
theorem kF (T:Txt K mg cls exC):wP P w K mg base cls exC 3 0 "hear" vP cT:=match T.f_Hand_hear with|⟨f,fd,F,M⟩=>⟨⟨f,fd,bJ F rF (CU T),M,F.binds (fun _ _ _ _ _ _ us hl=>match us,hl with|[_,_],_=>rfl)⟩,T.c0⟩
theorem zZ (T:Txt K mg cls exC):Bod P w K mg base cls exC 2 kM "Hall.__init__" gD kD:=fun f cdv A outer s H E hr hu hu1 hu6 hE hR=>by
 have sc:=mX
 exact(aO (rN T.c1 T.a1_hands (aA (dv 0)) (dN mS (bK (N':=["number","count"]) (caps:=[none,some 1]) rfl rfl rfl rfl rfl) (jD (by rfl) T.bn.range (aB (aA (dv 1)) aI)) (fun _ _ _ _ _ _=>⟨(bT (i:=0) (show(["number","count"]:List Str).Nodup by decide+kernel) rfl (Or.inl rfl)),cM,(Cl (zP T) (hr.mono (by decide)) (by rfl) iL (aB (aA (dv 0)) (aB (aA (dv 1)) aI)))⟩))))
theorem qA (T:Txt K mg cls exC):PR P w K mg base cls exC 3 1 "Hall" qH gG:=match T.f_Hall_init__ with|⟨f,fd,F,M⟩=>⟨⟨f,fd,bJ F mX (zZ T),M,F.binds (fun _ _ _ _ _ _ us hl=>match us,hl with|[_,_],_=>rfl)⟩,T.m1⟩
theorem Da (T:Txt K mg cls exC):Bod P w K mg base cls exC 0 oV "Hall.hand" jR kE:=fun f cdv A outer s H E hr hu hu1 hu6 hE hR=>by
 have sc:=rM
 obtain⟨tl1,tl2,o0,o1,hne⟩:=T.exs
 exact(aH (dA (dX (KG (aA aG) (aA (dv 1)) (bR cO cN (by rfl) T.bn.len boot.len (aB (cH T.c1 T.a1_hands (aA (dv 0))) aI))))
  (aO (Ds rfl hR (by rfl) T.x0 o0 eK))
  bP)
  (aO (aT (bH (cH T.c1 T.a1_hands (aA (dv 0))) (aA (dv 1))))))
theorem iH (T:Txt K mg cls exC):wP P w K mg base cls exC 1 1 "hand" vU bQ:=match T.f_Hall_hand with|⟨f,fd,F,M⟩=>⟨⟨f,fd,bJ F rM (Da T),M,F.binds (fun _ _ _ _ _ _ us hl=>match us,hl with|[_,_],_=>rfl)⟩,T.c1⟩
theorem CY (T:Txt K mg cls exC):Bod P w K mg base cls exC 1 oS "Hall.pair" jP fF:=fun f cdv A outer s H E hr hu hu1 hu6 hE hR=>by
 have sc:=rJ
 obtain⟨tl1,tl2,o0,o1,hne⟩:=T.exs
 exact(aH (bI (i:=3) sc.nd rfl (Or.inl rfl) (kT (aB (bX (iH T) (hr.mono (by decide)) hE.pas (aA (dv 0)) (aB (aA (dv 1)) aI)) (aB (bX (iH T) (hr.mono (by decide)) hE.pas (aA (dv 0)) (aB (aA (dv 2)) aI)) aI))))
  (aH (dA (nD hu (aA (dv 1)) (aA (dv 2)))
  (aO (Ds rfl hR (by rfl) T.x1 o1 eK))
  bP)
  (aO (aT (aA (dv 3))))))
theorem uY (T:Txt K mg cls exC):wP P w K mg base cls exC 2 1 "pair" vS cD:=match T.f_Hall_pair with|⟨f,fd,F,M⟩=>⟨⟨f,fd,bJ F rJ (CY T),M,F.binds (fun _ _ _ _ _ _ us hl=>match us,hl with|[_,_,_],_=>rfl)⟩,T.c1⟩
theorem EZ (T:Txt K mg cls exC):Bod P w K mg base cls exC 3 qY "Hall.put" mG xP:=fun f cdv A outer s H E hr hu hu1 hu6 hE hR=>by
 have sc:=tU
 exact(aO (aT (bX (xU T) (hr.mono (by decide)) hE.pas (bX (iH T) (hr.mono (by decide)) hE.pas (aA (dv 0)) (aB (aA (dv 1)) aI)) (aB (aA (dv 2)) (aB (aA (dv 3)) aI)))))
theorem ET (T:Txt K mg cls exC):wP P w K mg base cls exC 4 1 "put" yH jC:=match T.f_Hall_put with|⟨f,fd,F,M⟩=>⟨⟨f,fd,bJ F tU (EZ T),M,F.binds (fun _ _ _ _ _ _ us hl=>match us,hl with|[_,_,_,_],_=>rfl)⟩,T.c1⟩
theorem Aa (T:Txt K mg cls exC):Bod P w K mg base cls exC 4 kN "Hall.change" gE pU:=fun f cdv A outer s H E hr hu hu1 hu6 hE hR=>by
 have sc:=mY
 exact(aO (aT (bX (zQ T) (hr.mono (by decide)) hE.pas (bX (iH T) (hr.mono (by decide)) hE.pas (aA (dv 0)) (aB (aA (dv 1)) aI)) (aB (aA (dv 2)) (aB (aA (dv 3)) aI)))))
theorem zR (T:Txt K mg cls exC):wP P w K mg base cls exC 5 1 "change" qI eW:=match T.f_Hall_change with|⟨f,fd,F,M⟩=>⟨⟨f,fd,bJ F mY (Aa T),M,F.binds (fun _ _ _ _ _ _ us hl=>match us,hl with|[_,_,_,_],_=>rfl)⟩,T.c1⟩
theorem CW (T:Txt K mg cls exC):Bod P w K mg base cls exC 4 oQ "Hall.take" jO uR:=fun f cdv A outer s H E hr hu hu1 hu6 hE hR=>by
 have sc:=rH
 exact(aO (aT (bX (CH T) (hr.mono (by decide)) hE.pas (bX (iH T) (hr.mono (by decide)) hE.pas (aA (dv 0)) (aB (aA (dv 1)) aI)) (aB (aA (dv 2)) aI))))
theorem CJ (T:Txt K mg cls exC):wP P w K mg base cls exC 5 1 "take" vR gS:=match T.f_Hall_take with|⟨f,fd,F,M⟩=>⟨⟨f,fd,bJ F rH (CW T),M,F.binds (fun _ _ _ _ _ _ us hl=>match us,hl with|[_,_,_],_=>rfl)⟩,T.c1⟩
theorem CV (T:Txt K mg cls exC):Bod P w K mg base cls exC 3 oO "Hall.tell" jN kB:=fun f cdv A outer s H E hr hu hu1 hu6 hE hR=>by
 have sc:=rG
 exact(aH (bI (i:=3) sc.nd rfl (Or.inl rfl) (bX (uY T) (hr.mono (by decide)) hE.pas (aA (dv 0)) (aB (aA (dv 1)) (aB (aA (dv 2)) aI))))
  (aO (aT (bX (kF T) (hr.mono (by decide)) hE.pas (bH (aA (dv 3)) (aA aG)) (aB (bH (aA (dv 3)) (aA aG)) aI)))))
theorem CI (T:Txt K mg cls exC):wP P w K mg base cls exC 4 1 "tell" vQ gQ:=match T.f_Hall_tell with|⟨f,fd,F,M⟩=>⟨⟨f,fd,bJ F rG (CV T),M,F.binds (fun _ _ _ _ _ _ us hl=>match us,hl with|[_,_,_],_=>rfl)⟩,T.c1⟩
theorem CZ (T:Txt K mg cls exC):Bod P w K mg base cls exC 3 oU "Hall.meet" jQ kC:=fun f cdv A outer s H E hr hu hu1 hu6 hE hR=>by
 have sc:=rK
 exact(aH (bI (i:=3) sc.nd rfl (Or.inl rfl) (bX (uY T) (hr.mono (by decide)) hE.pas (aA (dv 0)) (aB (aA (dv 1)) (aB (aA (dv 2)) aI))))
  (aH (bI (i:=4) sc.nd rfl (Or.inl rfl) (bX (kF T) (hr.mono (by decide)) hE.pas (bH (aA (dv 3)) (aA aG)) (aB (bH (aA (dv 3)) (aA aG)) aI)))
  (aH (bI (i:=5) sc.nd rfl (Or.inl rfl) (kT (aB (bX (kF T) (hr.mono (by decide)) hE.pas (bH (aA (dv 3)) (aA aG)) (aB (bH (aA (dv 3)) (aA aG)) aI)) (aB (aA (dv 4)) aI))))
  (aH (jX (bX (kF T) (hr.mono (by decide)) hE.pas (bH (aA (dv 3)) (aA aG)) (aB (bH (aA (dv 3)) (aA aG)) aI)))
  (aO (aT (aA (dv 5))))))))
theorem CK (T:Txt K mg cls exC):wP P w K mg base cls exC 4 1 "meet" vT gT:=match T.f_Hall_meet with|⟨f,fd,F,M⟩=>⟨⟨f,fd,bJ F rK (CZ T),M,F.binds (fun _ _ _ _ _ _ us hl=>match us,hl with|[_,_,_],_=>rfl)⟩,T.c1⟩
theorem On (T:Txt K mg cls exC):Bod P w K mg base cls exC 5 Ho "done" Do uO:=fun f cdv A outer s H E hr hu hu1 hu6 hE hR=>by
 have sc:=Fy
 exact(aH (bI (i:=2) sc.nd rfl (Or.inl rfl) (bH (aA (dv 1)) (aA aG)))
  (aH (dA (nD hu (aA (dv 2)) (aA eK))
  (aO (aT (bX (ET T) (hr.mono (by decide)) hE.pas (aA (dv 0)) (aB (bH (aA (dv 1)) (aA aG)) (aB (bH (aA (dv 1)) (aA aG)) (aB (bH (aA (dv 1)) (aA aG)) aI))))))
  bP)
  (aH (dA (nD hu (aA (dv 2)) (aA eK))
  (aO (aT (bX (zR T) (hr.mono (by decide)) hE.pas (aA (dv 0)) (aB (bH (aA (dv 1)) (aA aG)) (aB (bH (aA (dv 1)) (aA aG)) (aB (bH (aA (dv 1)) (aA aG)) aI))))))
  bP)
  (aH (dA (nD hu (aA (dv 2)) (aA eK))
  (aO (aT (bX (CJ T) (hr.mono (by decide)) hE.pas (aA (dv 0)) (aB (bH (aA (dv 1)) (aA aG)) (aB (bH (aA (dv 1)) (aA aG)) aI)))))
  bP)
  (aH (dA (nD hu (aA (dv 2)) (aA eK))
  (aO (aT (bX (CI T) (hr.mono (by decide)) hE.pas (aA (dv 0)) (aB (bH (aA (dv 1)) (aA aG)) (aB (bH (aA (dv 1)) (aA aG)) aI)))))
  bP)
  (aO (aT (bX (CK T) (hr.mono (by decide)) hE.pas (aA (dv 0)) (aB (bH (aA (dv 1)) (aA aG)) (aB (bH (aA (dv 1)) (aA aG)) aI))))))))))
theorem Og (T:Txt K mg cls exC):wC P w K mg base cls exC 6 "done" JY nB:=match T.f_done with|⟨f,fd,F⟩=>⟨f,fd,bJ F.fn Fy (On T),F.at_,F.fn.kp,F.fn.binds (fun _ _ _ _ _ _ us hl=>match us,hl with|[_,_],_=>rfl)⟩
theorem CQ (T:Txt K mg cls exC):Bod P w K mg base cls exC 6 oJ "answer_to" jJ iA:=fun f cdv A outer s H E hr hu hu1 hu6 hE hR=>by
 have sc:=rC
 obtain⟨tl1,tl2,o0,o1,hne⟩:=T.exs
 exact(aO (KI hE.ex rfl rfl ⟨_,rfl⟩ (by rfl) (by rfl) T.x0 T.x1 o0 o1 hne (fun _ _ _ hE=>(aO (aT (bA (Og T) (hr.mono (by decide)) (by rfl) hE.pas (aB (aA (dv 0)) (aB (aA (dv 1)) aI)))))) (fun _=>(aO (aT (aA eK)))) (fun _=>(aO (aT (aA eK))))))
theorem uX (T:Txt K mg cls exC):wC P w K mg base cls exC 7 "answer_to" vM cK:=match T.f_answer_to with|⟨f,fd,F⟩=>⟨f,fd,bJ F.fn rC (CQ T),F.at_,F.fn.kp,F.fn.binds (fun _ _ _ _ _ _ us hl=>match us,hl with|[_,_],_=>rfl)⟩
theorem Hj (T:Txt K mg cls exC):Bod P w K mg base cls exC 7 qK "answers" pG uP:=fun f cdv A outer s H E hr hu hu1 hu6 hE hR=>by
 have sc:=wX
 exact(aH (bI (i:=2) sc.nd rfl (Or.inr rfl) (Cl (qA T) (hr.mono (by decide)) (by rfl) hE.pas (aB (aA (dv 0)) aI)))
  (aO (aT (dN mS (bK (N':=["deed","hall"]) (caps:=[none,some 2]) rfl rfl rfl rfl rfl) (dB (aA (dv 1))) (fun _ _ _ _ _ _=>⟨(bT (i:=0) (show(["deed","hall"]:List Str).Nodup by decide+kernel) rfl (Or.inl rfl)),cM,(bA (uX T) (hr.mono (by decide)) (by rfl) iL (aB (aA (dv 1)) (aB (aA (dv 0)) aI)))⟩)))))
theorem Br (T:Txt K mg cls exC):wC P w K mg base cls exC 8 "answers" BL pN:=match T.f_answers with|⟨f,fd,F⟩=>⟨f,fd,bJ F.fn wX (Hj T),F.at_,F.fn.kp,F.fn.binds (fun _ _ _ _ _ _ us hl=>match us,hl with|[_,_],_=>rfl)⟩
theorem LU (T:Txt K mg cls exC):Bod P w K mg base cls exC 7 Ag "after" yP Cy:=fun f cdv A outer s H E hr hu hu1 hu6 hE hR=>by
 have sc:=Dm
 exact(aH (bI (i:=2) sc.nd rfl (Or.inl rfl) (Cl (qA T) (hr.mono (by decide)) (by rfl) hE.pas (aB (aA (dv 0)) aI)))
  (aH (pP rfl (dB (aA (dv 1))) (bT (i:=3) sc.nd rfl (Or.inl rfl))
  (aO (jX (bA (uX T) (hr.mono (by decide)) (by rfl) iL (aB (aA (dv 2)) (aB (aA (dv 3)) aI))))))
  (aO (aT (kT (aB (dN mS (bK (N':=["hand"]) (caps:=[none]) rfl rfl rfl rfl rfl) (dB (cH T.c1 T.a1_hands (aA (dv 2)))) (fun _ _ _ _ _ _=>⟨(bT (i:=0) (show(["hand"]:List Str).Nodup by decide+kernel) rfl (Or.inl rfl)),cM,(cG (fO T) (hr.mono (by decide)) iL (aA (dv 0)))⟩)) (aB (dN mS (bK (N':=["hand"]) (caps:=[none]) rfl rfl rfl rfl rfl) (dB (cH T.c1 T.a1_hands (aA (dv 2)))) (fun _ _ _ _ _ _=>⟨(bT (i:=0) (show(["hand"]:List Str).Nodup by decide+kernel) rfl (Or.inl rfl)),cM,(eX dR iE (by rfl) T.bn.list boot.list (aB (cG (eI T) (hr.mono (by decide)) iL (aA (dv 0))) aI))⟩)) (aB (dN mS (bK (N':=["hand"]) (caps:=[none]) rfl rfl rfl rfl rfl) (dB (cH T.c1 T.a1_hands (aA (dv 2)))) (fun _ _ _ _ _ _=>⟨(bT (i:=0) (show(["hand"]:List Str).Nodup by decide+kernel) rfl (Or.inl rfl)),cM,(cG (Bs T) (hr.mono (by decide)) iL (aA (dv 0)))⟩)) (aB (dN mS (bK (N':=["hand"]) (caps:=[none]) rfl rfl rfl rfl rfl) (dB (cH T.c1 T.a1_hands (aA (dv 2)))) (fun _ _ _ _ _ _=>⟨(bT (i:=0) (show(["hand"]:List Str).Nodup by decide+kernel) rfl (Or.inl rfl)),cM,(cG (wL T) (hr.mono (by decide)) iL (aA (dv 0)))⟩)) aI)))))))))
theorem LJ (T:Txt K mg cls exC):wC P w K mg base cls exC 8 "after" Hn Ci:=match T.f_after with|⟨f,fd,F⟩=>⟨f,fd,bJ F.fn Dm (LU T),F.at_,F.fn.kp,F.fn.binds (fun _ _ _ _ _ _ us hl=>match us,hl with|[_,_],_=>rfl)⟩
theorem Jl {φ:eM}{k:Nat} (D_law_so:wC P w K mg base cls exC k "_law_so" Ac φ) (T:Txt K mg cls exC):Bod P w K mg base cls exC k Af "_law_so" sQ (sZ φ):=fun f cdv A outer s H E hr hu hu1 hu6 hE hR=>by
 have sc:=Au
 exact(aH (dA (Nc (aA (dv 1)) (aA uW))
  (aO (aT (Nt (aA (dv 0)) (aA uW))))
  bP)
  (aH (dA (cY (dM (aA (dv 1)) (by rfl) T.bn.isinstance (by rfl) T.bn.bool boot.bool))
  (aO (aT (AI (dM (aA (dv 0)) (by rfl) T.bn.isinstance (by rfl) T.bn.bool boot.bool) (Dv (FV hu (aA (dv 0)) (aA (dv 1)))))))
  bP)
  (aH (dA (cY (dM (aA (dv 1)) (by rfl) T.bn.isinstance (by rfl) T.bn.int boot.int))
  (aO (aT (AI (dM (aA (dv 0)) (by rfl) T.bn.isinstance (by rfl) T.bn.int boot.int) (AI (JM (dM (aA (dv 0)) (by rfl) T.bn.isinstance (by rfl) T.bn.bool boot.bool)) (Dv (FV hu (aA (dv 0)) (aA (dv 1))))))))
  bP)
  (aH (dA (cY (dM (aA (dv 1)) (by rfl) T.bn.isinstance (by rfl) T.bn.str boot.str))
  (aO (aT (AI (dM (aA (dv 0)) (by rfl) T.bn.isinstance (by rfl) T.bn.str boot.str) (Dv (FV hu (aA (dv 0)) (aA (dv 1)))))))
  bP)
  (aH (dA (cY (dM (aA (dv 1)) (by rfl) T.bn.isinstance (by rfl) T.dict boot.dict))
  (aO KJ)
  bP)
  (aH (dA (pO hu (dM (aA (dv 1)) (by rfl) T.bn.isinstance (by rfl) T.bn.tuple boot.tuple) (dM (aA (dv 0)) (by rfl) T.bn.isinstance (by rfl) T.bn.tuple boot.tuple))
  (aO (aT (aA pY)))
  bP)
  (aH (dA (FQ (qQ (pO hu (dM (aA (dv 1)) (by rfl) T.bn.isinstance (by rfl) T.bn.list boot.list) (dM (aA (dv 0)) (by rfl) T.bn.isinstance (by rfl) T.bn.list boot.list)) (nC (dX (cY (KW (aA (dv 1)) (by rfl) T.bn.isinstance (by rfl) T.bn.list (by rfl) T.bn.tuple))))))
  (aO (aT (aA pY)))
  bP)
  (aH (dA (pO hu (bR cO cN (by rfl) T.bn.len boot.len (aB (aA (dv 0)) aI)) (bR cO cN (by rfl) T.bn.len boot.len (aB (aA (dv 1)) aI)))
  (aO (aT (aA pY)))
  bP)
  (aH (pP rfl (jD (by rfl) T.bn.range (aB (bR cO cN (by rfl) T.bn.len boot.len (aB (aA (dv 1)) aI)) aI)) (bT (i:=2) sc.nd rfl (Or.inl rfl))
  (aO (dA (dX (cY (bA D_law_so hr (by rfl) iL (aB (bH (aA (dv 0)) (aA (dv 2))) (aB (bH (aA (dv 1)) (aA (dv 2))) aI)))))
  (aO (aT (aA pY)))
  bP)))
  (aO (aT (aA pY))))))))))))
theorem zN (T:Txt K mg cls exC):∀ n:Nat,wC P w K mg base cls exC n "_law_so" Ac (fK n)
 |0=>match T.f_law_so with|⟨f,fd,F⟩=>⟨f,fd,⟨(fun _ _ _ _ ⟨_,_,_,_,_,_,_,_,z,_⟩=>nomatch z),(fun _ _ _ _ _ _ _ _ _ _ _ _ _ ⟨_,_,_,_,_,_,_,_,z,_⟩=>nomatch z)⟩,F.at_,F.fn.kp,F.fn.binds (fun _ _ _ _ _ _ us hl=>match us,hl with|[_,_],_=>rfl)⟩
 |n+1=>match T.f_law_so with|⟨f,fd,F⟩=>⟨f,fd,bJ F.fn Au (Jl (zN T n) T),F.at_,F.fn.kp,F.fn.binds (fun _ _ _ _ _ _ us hl=>match us,hl with|[_,_],_=>rfl)⟩
theorem CO (T:Txt K mg cls exC):Bod P w K mg base cls exC 0 oI "_law_whole" jH uN:=fun f cdv A outer s H E hr hu hu1 hu6 hE hR=>by
 have sc:=rA
 exact(aO (aT (AI (dM (aA (dv 0)) (by rfl) T.bn.isinstance (by rfl) T.bn.int boot.int) (Dv (JM (dM (aA (dv 0)) (by rfl) T.bn.isinstance (by rfl) T.bn.bool boot.bool))))))
theorem oH (T:Txt K mg cls exC):wC P w K mg base cls exC 1 "_law_whole" vK jU:=match T.f_law_whole with|⟨f,fd,F⟩=>⟨f,fd,bJ F.fn rA (CO T),F.at_,F.fn.kp,F.fn.binds (fun _ _ _ _ _ _ us hl=>match us,hl with|[_],_=>rfl)⟩
theorem Jm (T:Txt K mg cls exC):Bod P w K mg base cls exC 0 mQ "_law_at" sR tE:=fun f cdv A outer s H E hr hu hu1 hu6 hE hR=>by
 have sc:=Av
 exact(aH (dA (HY (aA (dv 1)) (bR cO cN (by rfl) T.bn.len boot.len (aB (aA (dv 0)) aI)))
  (aO (aT (bH (aA (dv 0)) (aA (dv 1)))))
  bP)
  (aO (aT (aA aG))))
theorem Ji (T:Txt K mg cls exC):wC P w K mg base cls exC 1 "_law_at" Ed yR:=match T.f_law_at with|⟨f,fd,F⟩=>⟨f,fd,bJ F.fn Av (Jm T),F.at_,F.fn.kp,F.fn.binds (fun _ _ _ _ _ _ us hl=>match us,hl with|[_,_],_=>rfl)⟩
theorem vC (T:Txt K mg cls exC):Bod P w K mg base cls exC 8 iJ "_law_all_after" eO gY:=fun f cdv A outer s H E hr hu hu1 hu6 hE hR=>by
 have sc:=kO
 exact(aH (bI (i:=2) sc.nd rfl (Or.inl rfl) (eX dR iE (by rfl) T.bn.list boot.list (aB (aA (dv 1)) aI)))
  (aH (bI (i:=3) sc.nd rfl (Or.inl rfl) (bA (LJ T) (hr.mono (by decide)) (by rfl) hE.pas (aB (aA (dv 0)) (aB (aA (dv 2)) aI))))
  (aH (dA (FQ (qQ (pO hu (aA (dv 2)) (aA (dv 1))) (qQ (dX (cY (dM (aA (dv 3)) (by rfl) T.bn.isinstance (by rfl) T.bn.tuple boot.tuple))) (nC (pO hu (bR cO cN (by rfl) T.bn.len boot.len (aB (aA (dv 3)) aI)) (aA aG))))))
  (aO (aT (kT (aB (aA uW) (aB (aA uW) (aB (aA uW) (aB (aA uW) aI)))))))
  bP)
  (aO (aT (aA (dv 3)))))))
theorem lN (T:Txt K mg cls exC):wC P w K mg base cls exC 9 "_law_all_after" lU eT:=match T.f_law_all_after with|⟨f,fd,F⟩=>⟨f,fd,bJ F.fn kO (vC T),F.at_,F.fn.kp,F.fn.binds (fun _ _ _ _ _ _ us hl=>match us,hl with|[_,_],_=>rfl)⟩
theorem Hi (T:Txt K mg cls exC):Bod P w K mg base cls exC 0 vW "_law_odd" pF Be:=fun f cdv A outer s H E hr hu hu1 hu6 hE hR=>by
 have sc:=wW
 exact(aH (bI (i:=1) sc.nd rfl (Or.inl rfl) (aA aG))
  (aO (aT (tZ (aB (aA (JV aG)) (aB (aA (dv 0)) (aB (aA (JV aG)) (aB (rO (aA aG) (aA (dv 0))) (aB (aA (dv 1)) (aB (rO (aA aG) (aA (dv 1))) aI))))))))))
theorem Bq (T:Txt K mg cls exC):wC P w K mg base cls exC 1 "_law_odd" BK fR:=match T.f_law_odd with|⟨f,fd,F⟩=>⟨f,fd,bJ F.fn wW (Hi T),F.at_,F.fn.kp,F.fn.binds (fun _ _ _ _ _ _ us hl=>match us,hl with|[_],_=>rfl)⟩
theorem EW (T:Txt K mg cls exC):Bod P w K mg base cls exC 0 qV "_law_word" mD xN:=fun f cdv A outer s H E hr hu hu1 hu6 hE hR=>by
 have sc:=tR
 exact(aH (dA (nD hu (cF (aA (dv 1)) (aA aG)) (aA aG))
  (aO (aT (FY (FY (FU (aA eK) (cF (aA (dv 1)) (aA aG))) (bH (aA eK) (aA (dv 0)))) (FU (aA eK) (rO (aA aG) (cF (aA (dv 1)) (aA aG)))))))
  bP)
  (aO (aT (bH (tZ (aB (aA eK) (aB (aA eK) (aB (aA eK) (aB (aA eK) aI))))) (aA (dv 0))))))
theorem ES (T:Txt K mg cls exC):wC P w K mg base cls exC 1 "_law_word" yE mJ:=match T.f_law_word with|⟨f,fd,F⟩=>⟨f,fd,bJ F.fn tR (EW T),F.at_,F.fn.kp,F.fn.binds (fun _ _ _ _ _ _ us hl=>match us,hl with|[_,_],_=>rfl)⟩
theorem zV (T:Txt K mg cls exC):Bod P w K mg base cls exC 1 gK "_law_deed_of" fZ pT:=fun f cdv A outer s H E hr hu hu1 hu6 hE hR=>by
 have sc:=mT
 exact(aH (bI (i:=3) sc.nd rfl (Or.inl rfl) (cF (cF (gU (aA (dv 0)) (aA aG)) (aA aG)) (aA aG)))
  (aH (bI (i:=4) sc.nd rfl (Or.inl rfl) (cF (cF (gU (nE (aA (dv 0)) (aA (dv 1))) (aA aG)) (aA aG)) (aA (dv 2))))
  (aH (bI (i:=5) sc.nd rfl (Or.inl rfl) (aA (dv 4)))
  (aH (dA (FQ (Nb (KH (aA (dv 2)) (aA aG)) (KE (KH (cF (cF (gU (aA (dv 0)) (aA aG)) (aA aG)) (aA aG)) (aA aG)))))
  (aO (bI (i:=5) sc.nd rfl (Or.inl rfl) (cF (nE (nE (aA (dv 4)) (aA aG)) (cF (cF (gU (aA (dv 0)) (aA aG)) (aA aG)) (rO (aA (dv 2)) (aA aG)))) (aA (dv 2)))))
  bP)
  (aH (bI (i:=6) sc.nd rfl (Or.inl rfl) (bA (ES T) (hr.mono (by decide)) (by rfl) hE.pas (aB (cF (cF (gU (aA (dv 0)) (aA aG)) (aA aG)) (aA aG)) (aB (aA (dv 2)) aI))))
  (aH (bI (i:=7) sc.nd rfl (Or.inl rfl) (tZ (aB (rO (cF (cF (gU (aA (dv 0)) (aA aG)) (aA aG)) (aA aG)) (aA aG)) (aB (rO (aA aG) (aA (dv 1))) (aB (nE (aA aG) (aA (dv 1))) aI)))))
  (aH (bI (i:=8) sc.nd rfl (Or.inl rfl) (bH (aA (dv 7)) (cF (cF (gU (aA (dv 0)) (aA aG)) (aA aG)) (aA aG))))
  (aH (dA (nD hu (cF (cF (gU (aA (dv 0)) (aA aG)) (aA aG)) (aA aG)) (aA aG))
  (aO (bI (i:=4) sc.nd rfl (Or.inl rfl) (bH (bA (Bq T) (hr.mono (by decide)) (by rfl) hE.pas (aB (aA (dv 2)) aI)) (cF (cF (gU (aA (dv 0)) (aA aG)) (aA aG)) (aA aG)))))
  bP)
  (aH (dA (nD hu (cF (cF (gU (aA (dv 0)) (aA aG)) (aA aG)) (aA aG)) (aA aG))
  (aO (bI (i:=5) sc.nd rfl (Or.inl rfl) (bH (bA (Bq T) (hr.mono (by decide)) (by rfl) hE.pas (aB (aA (dv 2)) aI)) (cF (cF (gU (aA (dv 0)) (aA aG)) (aA aG)) (aA aG)))))
  bP)
  (aH (dA (HY (aA (dv 3)) (aA aG))
  (aO (aT (kT (aB (aA eK) (aB (aA (dv 4)) (aB (aA (dv 6)) (aB (aA (dv 8)) aI)))))))
  bP)
  (aH (dA (HY (aA (dv 3)) (aA aG))
  (aO (aT (kT (aB (aA eK) (aB (aA (dv 4)) (aB (aA (dv 6)) aI))))))
  bP)
  (aH (dA (HY (aA (dv 3)) (aA aG))
  (aO (aT (kT (aB (aA eK) (aB (aA (dv 4)) (aB (aA (dv 6)) (aB (aA (dv 8)) aI)))))))
  bP)
  (aO (aT (kT (aB (bH (tZ (aB (aA eK) (aB (aA eK) aI))) (eX Hg (FitL.lift LF) (by rfl) T.bn.int boot.int (aB (Pn (aA (dv 3)) (aA aG)) aI))) (aB (aA (dv 4)) (aB (aA (dv 5)) aI))))))))))))))))))
theorem zO (T:Txt K mg cls exC):wC P w K mg base cls exC 2 "_law_deed_of" qD jV:=match T.f_law_deed_of with|⟨f,fd,F⟩=>⟨f,fd,bJ F.fn mT (zV T),F.at_,F.fn.kp,F.fn.binds (fun _ _ _ _ _ _ us hl=>match us,hl with|[_,_,_],_=>rfl)⟩
theorem CP (T:Txt K mg cls exC):Bod P w K mg base cls exC 2 kJ "_law_drawn" jI oE:=fun f cdv A outer s H E hr hu hu1 hu6 hE hR=>by
 have sc:=rB
 exact(aH (bI (i:=2) sc.nd rfl (Or.inl rfl) (KR aI))
  (aH (pP rfl (jD (by rfl) T.bn.range (aB (bR cO cN (by rfl) T.bn.len boot.len (aB (aA (dv 0)) aI)) aI)) (bT (i:=3) sc.nd rfl (Or.inl rfl))
  (aO (jX (FX (aA (dv 2)) (aB (bA (zO T) (hr.mono (by decide)) (by rfl) iL (aB (nE (bH (aA (dv 0)) (aA (dv 3))) (gU (aA aG) (aA (dv 3)))) (aB (aA (dv 3)) (aB (aA (dv 1)) aI)))) aI)))))
  (aO (aT (aA (dv 2))))))
theorem CG (T:Txt K mg cls exC):wC P w K mg base cls exC 3 "_law_drawn" vL nX:=match T.f_law_drawn with|⟨f,fd,F⟩=>⟨f,fd,bJ F.fn rB (CP T),F.at_,F.fn.kp,F.fn.binds (fun _ _ _ _ _ _ us hl=>match us,hl with|[_,_],_=>rfl)⟩
theorem sN (T:Txt K mg cls exC):Bod P w K mg base cls exC 1 fY "_law_are_tables" eA fX:=fun f cdv A outer s H E hr hu hu1 hu6 hE hR=>by
 have sc:=jB
 exact(aH (dA (FQ (qQ (dX (cY (dM (aA (dv 0)) (by rfl) T.bn.isinstance (by rfl) T.bn.list boot.list))) (nC (pO hu (bR cO cN (by rfl) T.bn.len boot.len (aB (aA (dv 0)) aI)) (aA (dv 1))))))
  (aO (aT (aA pY)))
  bP)
  (aH (pP rfl (dB (aA (dv 0))) (bT (i:=2) sc.nd rfl (Or.inl rfl))
  (aH (dA (dX (cY (dM (aA (dv 2)) (by rfl) T.bn.isinstance (by rfl) T.bn.list boot.list)))
  (aO (aT (aA pY)))
  bP)
  (aO (pP rfl (dB (aA (dv 2))) (bT (i:=3) sc.nd rfl (Or.inl rfl))
  (aH (dA (FQ (qQ (dX (cY (dM (aA (dv 3)) (by rfl) T.bn.isinstance (by rfl) T.bn.tuple boot.tuple))) (qQ (pO hu (bR cO cN (by rfl) T.bn.len boot.len (aB (aA (dv 3)) aI)) (aA aG)) (nC (dX (cY (dM (bH (aA (dv 3)) (aA aG)) (by rfl) T.bn.isinstance (by rfl) T.bn.str boot.str)))))))
  (aO (aT (aA pY)))
  bP)
  (aH (dA (FQ (qQ (dX (cY (dM (bH (aA (dv 3)) (aA aG)) (by rfl) T.bn.isinstance (by rfl) T.bn.tuple boot.tuple))) (qQ (pO hu (bR cO cN (by rfl) T.bn.len boot.len (aB (bH (aA (dv 3)) (aA aG)) aI)) (aA aG)) (nC (dX (cY (bA (oH T) (hr.mono (by decide)) (by rfl) iL (aB (bH (aA (dv 3)) (aA aG)) aI))))))))
  (aO (aT (aA pY)))
  bP)
  (aO (dA (FQ (qQ (dX (cY (bA (oH T) (hr.mono (by decide)) (by rfl) iL (aB (bH (bH (aA (dv 3)) (aA aG)) (aA aG)) aI)))) (nC (dX (cY (bA (oH T) (hr.mono (by decide)) (by rfl) iL (aB (bH (bH (aA (dv 3)) (aA aG)) (aA aG)) aI)))))))
  (aO (aT (aA pY)))
  bP))))))))
  (aO (aT (aA pY)))))
theorem kX (T:Txt K mg cls exC):wC P w K mg base cls exC 2 "_law_are_tables" kY cX:=match T.f_law_are_tables with|⟨f,fd,F⟩=>⟨f,fd,bJ F.fn jB (sN T),F.at_,F.fn.kp,F.fn.binds (fun _ _ _ _ _ _ us hl=>match us,hl with|[_,_],_=>rfl)⟩
theorem wM (T:Txt K mg cls exC):Bod P w K mg base cls exC 0 iX "_law_hands_of" fG nJ:=fun f cdv A outer s H E hr hu hu1 hu6 hE hR=>by
 have sc:=lB
 exact(aO (aT (dN mS (bK (N':=["_law_part"]) (caps:=[none]) rfl rfl rfl rfl rfl) (Nq (sY (aA (dv 0)) (qU aG) (qU aG))) (fun _ _ _ _ _ _=>⟨(bT (i:=0) (show(["_law_part"]:List Str).Nodup by decide+kernel) rfl (Or.inl rfl)),(sX (dX (cY (dM (aA (dv 0)) (by rfl) T.bn.isinstance (by rfl) T.bn.str boot.str)))),(aA (dv 0))⟩))))
theorem nM (T:Txt K mg cls exC):wC P w K mg base cls exC 1 "_law_hands_of" nP cZ:=match T.f_law_hands_of with|⟨f,fd,F⟩=>⟨f,fd,bJ F.fn lB (wM T),F.at_,F.fn.kp,F.fn.binds (fun _ _ _ _ _ _ us hl=>match us,hl with|[_],_=>rfl)⟩
theorem BE (T:Txt K mg cls exC):Bod P w K mg base cls exC 1 fU "_law_turned" iQ lJ:=fun f cdv A outer s H E hr hu hu1 hu6 hE hR=>by
 have sc:=pC
 exact(aH (Cj IX (i:=2) sc.nd rfl rfl (bK (N':=["_law_k"]) (caps:=[none]) rfl rfl rfl rfl rfl) (jD (by rfl) T.bn.range (aB (bR cO cN (by rfl) T.bn.len boot.len (aB (aA (dv 0)) aI)) aI)) (fun _ _ _ _ _ _=>⟨(bT (i:=0) (show(["_law_k"]:List Str).Nodup by decide+kernel) rfl (Or.inl rfl)),cM,(aA (dv 0))⟩))
  (aH (pP rfl (jD (by rfl) T.bn.range (aB (bR cO cN (by rfl) T.bn.len boot.len (aB (aA (dv 1)) aI)) aI)) (bT (i:=3) sc.nd rfl (Or.inl rfl))
  (aO (dA (KH (bR cO cN (by rfl) T.bn.len boot.len (aB (aA (dv 2)) aI)) (aA aG))
  (aH (bI (i:=4) sc.nd rfl (Or.inl rfl) (cF (cF (gU (nE (bH (aA (dv 1)) (aA (dv 3))) (gU (aA aG) (aA (dv 3)))) (aA aG)) (aA aG)) (rO (bR cO cN (by rfl) T.bn.len boot.len (aB (aA (dv 2)) aI)) (aA aG))))
  (aH (bI (i:=5) sc.nd rfl (Or.inl rfl) (bA (nM T) (hr.mono (by decide)) (by rfl) iL (aB (bH (aA (dv 0)) (bH (aA (dv 2)) (aA (dv 4)))) aI)))
  (aH (bI (i:=6) sc.nd rfl (Or.inr rfl) (bA (nM T) (hr.mono (by decide)) (by rfl) iL (aB (bH (aA (dv 0)) (bH (aA (dv 2)) (nE (aA (dv 4)) (aA aG)))) aI)))
  (aO (dA (nD hu (dN mS (bK (N':=["_law_hand","_law_other"]) (caps:=[none,some 6]) rfl rfl rfl rfl rfl) (dB (aA (dv 5))) (fun _ _ _ _ _ _=>⟨(bT (i:=0) (show(["_law_hand","_law_other"]:List Str).Nodup by decide+kernel) rfl (Or.inl rfl)),(sX (Ph hu (aA (dv 0)) (aA (dv 1)))),(aA (dv 0))⟩)) (tZ aI))
  (aO (HZ rfl (kT (aB (bH (aA (dv 2)) (nE (aA (dv 4)) (aA aG))) (aB (bH (aA (dv 2)) (aA (dv 4))) aI))) (aA (dv 2)) (aA (dv 4)) (aA (dv 2)) (nE (aA (dv 4)) (aA aG))))
  bP)))))
  bP)))
  (aO (aT (aA (dv 2))))))
theorem Bp (T:Txt K mg cls exC):wC P w K mg base cls exC 2 "_law_turned" sA lF:=match T.f_law_turned with|⟨f,fd,F⟩=>⟨f,fd,bJ F.fn pC (BE T),F.at_,F.fn.kp,F.fn.binds (fun _ _ _ _ _ _ us hl=>match us,hl with|[_,_],_=>rfl)⟩
theorem PK (T:Txt K mg cls exC):Bod P w K mg base cls exC 9 LY "law" Hy Lv:=fun f cdv A outer s H E hr hu hu1 hu6 hE hR=>by
 have sc:=Ju
 exact(aH (bI (i:=1) sc.nd rfl (Or.inl rfl) (bH (tZ (aB (aA aG) (aB (aA aG) (aB (aA aG) (aB (aA aG) (aB (aA aG) (aB (aA aG) (aB (aA aG) (aB (aA aG) aI))))))))) (cF (cF (gU (bA (Ji T) (hr.mono (by decide)) (by rfl) hE.pas (aB (aA (dv 0)) (aB (aA aG) aI))) (aA aG)) (aA aG)) (aA aG))))
  (aH (bI (i:=2) sc.nd rfl (Or.inr rfl) (bA (CG T) (hr.mono (by decide)) (by rfl) hE.pas (aB (sY (aA (dv 0)) (qU aG) (qU aG)) (aB (aA (dv 1)) aI))))
  (aH (bI (i:=3) sc.nd rfl (Or.inl rfl) (bA (Bp T) (hr.mono (by decide)) (by rfl) hE.pas (aB (aA (dv 2)) (aB (sY (aA (dv 0)) (qU aG) GP) aI))))
  (aH (Cj mS (i:=4) sc.nd rfl rfl (bK (N':=["_law_k","_law_deeds"]) (caps:=[none,some 2]) rfl rfl rfl rfl rfl) (dB (aA (dv 3))) (fun _ _ _ _ _ _=>⟨(bT (i:=0) (show(["_law_k","_law_deeds"]:List Str).Nodup by decide+kernel) rfl (Or.inl rfl)),cM,(bH (aA (dv 1)) (aA (dv 0)))⟩))
  (aH (bI (i:=5) sc.nd rfl (Or.inr rfl) (bA (Br T) (hr.mono (by decide)) (by rfl) hE.pas (aB (aA (dv 1)) (aB (eX dR iE (by rfl) T.bn.list boot.list (aB (aA (dv 2)) aI)) aI))))
  (aH (bI (i:=6) sc.nd rfl (Or.inl rfl) (bA (Br T) (hr.mono (by decide)) (by rfl) hE.pas (aB (aA (dv 1)) (aB (eX dR iE (by rfl) T.bn.list boot.list (aB (aA (dv 4)) aI)) aI))))
  (aH (dA (FQ (qQ (dX (cY (dM (aA (dv 5)) (by rfl) T.bn.isinstance (by rfl) T.bn.list boot.list))) (nC (dX (cY (dM (aA (dv 6)) (by rfl) T.bn.isinstance (by rfl) T.bn.list boot.list))))))
  (aO (aT (aA pY)))
  bP)
  (aH (dA (FQ (qQ (pO hu (bR cO cN (by rfl) T.bn.len boot.len (aB (aA (dv 5)) aI)) (bR cO cN (by rfl) T.bn.len boot.len (aB (aA (dv 2)) aI))) (nC (dX (cY (bA (zN T 8) (hr.mono (by decide)) (by rfl) hE.pas (aB (aA (dv 6)) (aB (dN mS (bK (N':=["_law_k","_law_told"]) (caps:=[none,some 5]) rfl rfl rfl rfl rfl) (dB (aA (dv 3))) (fun _ _ _ _ _ _=>⟨(bT (i:=0) (show(["_law_k","_law_told"]:List Str).Nodup by decide+kernel) rfl (Or.inl rfl)),cM,(bH (aA (dv 1)) (aA (dv 0)))⟩)) aI))))))))
  (aO (aT (aA pY)))
  bP)
  (aH (bI (i:=7) sc.nd rfl (Or.inl rfl) (bA (lN T) (hr.mono (by decide)) (by rfl) hE.pas (aB (aA (dv 1)) (aB (aA (dv 2)) aI))))
  (aH (bI (i:=8) sc.nd rfl (Or.inl rfl) (bA (lN T) (hr.mono (by decide)) (by rfl) hE.pas (aB (aA (dv 1)) (aB (aA (dv 4)) aI))))
  (aH (dA (FQ (qQ (dX (cY (bA (kX T) (hr.mono (by decide)) (by rfl) hE.pas (aB (bH (aA (dv 7)) (aA aG)) (aB (aA (dv 1)) aI))))) (nC (dX (cY (bA (kX T) (hr.mono (by decide)) (by rfl) hE.pas (aB (bH (aA (dv 8)) (aA aG)) (aB (aA (dv 1)) aI))))))))
  (aO (aT (aA pY)))
  bP)
  (aO (aT (bA (zN T 8) (hr.mono (by decide)) (by rfl) hE.pas (aB (aA (dv 7)) (aB (aA (dv 8)) aI))))))))))))))))
theorem PF {f:Addr}{fd:FuncData} (F:wB K mg "law" Hy f fd) (T:Txt K mg cls exC):wQ P w K mg base (CX1 P w exC) 10 f fd Ot (spO cls exC K p_law):=bJ F.fn Ju (PK T)
end
end L2.MB.Lw
end
section
namespace L2.MB.Lw
open PySem PySem.Spec PyProof.Rows L2.MB
abbrev cs:List Str:=["Hand","Hall"]
abbrev xs:List Str:=["NoHand","SameHand"]
def Ql (K:PySem.W.Frag) (C:Addr) (m qual:Str) (st:Stmt) (f:Addr):Prop:=∃(oc:Value) (od an:Option Addr) (osl:Array (Option Value)) (kV doc pm cdv ct:Value),PySem.W.findIn K (.ref C) m=some (some (.ref f))/\PySem.W.isFn K (.ref f)=true/\
 K.lookup f=some ⟨oc,od,.func (PySem.W.fnOf m qual (lM st) (iW st) (aK st) .none kV doc pm an cdv ct),osl⟩/\PySem.W.codeIn K cdv qual=true/\PySem.W.keepIn K (.ref f)=true
theorem mtIn_mk {K:PySem.W.Frag}{C:Addr}{m qual:Str}{st:Stmt}{f:Addr}{oc:Value}{od an:Option Addr}{osl:Array (Option Value)}{kV doc pm cdv ct:Value} (a:PySem.W.findIn K (.ref C) m=some (some (.ref f)))
  (l:K.lookup f=some ⟨oc,od,.func (PySem.W.fnOf m qual (lM st) (iW st) (aK st) .none kV doc pm an cdv ct),osl⟩) (b:PySem.W.isFn K (.ref f)=true) (c:PySem.W.codeIn K cdv qual=true) (k:PySem.W.keepIn K (.ref f)=true):Ql K C m qual st f:=
 ⟨oc,od,an,osl,kV,doc,pm,cdv,ct,a,b,l,c,k⟩
def mtF (K:PySem.W.Frag) (C:Addr) (m qual:Str) (st:Stmt):Prop:=∃ f,Ql K C m qual st f
theorem mtF.out {K:PySem.W.Frag}{C:Addr}{m qual:Str}{st:Stmt} (h:mtF K C m qual st):∃ f fd,Fun K m qual st f fd/\sC K C m f:=by
 obtain⟨f,oc,od,an,osl,kV,doc,pm,cdv,ct,a,b,l,c,k⟩:=h
 exact⟨f,_,JU l c k,a,b,k⟩
def clsIn (K:PySem.W.Frag) (x:Str) (C:Addr):Prop:=PySem.W.nsIn K mainGlobals x=some (some (.ref C))
def Qi (K:PySem.W.Frag) (C:Addr):Prop:=PySem.W.makesIn K C=true/\PySem.W.keepIn K (.ref C)=true
theorem own_mk {K:PySem.W.Frag}{C:Addr}{tl:List Value}{dd:Option Addr}{cd:ClassData}{k0 k1 k2 k3 k5:Option Value} (h1:K.lookup C=some ⟨.type "type",dd,.cls cd,#[k0,k1,k2,k3,some (.builtin "ValueError.__new__"),k5]⟩)
  (h2:cd.mro=.ref C::tl) (h3:cd.hasDel=false) (h4:PySem.W.tailIn K Eg tl=true) (h5:PySem.W.nsOkIn K cd.ns=true) (h6:PySem.W.nsIn K cd.ns "__init__"=some none):qP K C tl:=⟨dd,cd,k0,k1,k2,k3,k5,h1,h2,h3,h4,h5,h6⟩
theorem nsOk_mk {K:PySem.W.Frag}{N:Addr}{c:Value}{d:Option Addr}{es:Array DictEntry}{ep:Nat}{sl:Array (Option Value)} (l:K.lookup N=some ⟨c,d,.dict es ep,sl⟩) (h:(es.toList.all fun e=>match e.key with|.str _ _=>true|_=>false)=true):PySem.W.nsOkIn K N=true:=by
 unfold PySem.W.nsOkIn
 rw[l]
 exact Array.all_toList.symm.trans h
theorem tail_mk {K:PySem.W.Frag}{A:Addr}{r:List Value}{c:Value}{dd:Option Addr}{cd:ClassData}{sl:Array (Option Value)} (l:K.lookup A=some ⟨c,dd,.cls cd,sl⟩) (h1:PySem.W.nsOkIn K cd.ns=true) (h2:PySem.W.nsIn K cd.ns "__init__"=some none) (h3:PySem.W.tailIn K Eg r=true):PySem.W.tailIn K Eg (.ref A::r)=true:=by
 rw[PySem.W.tailIn.eq_2,l]
 show(_||(PySem.W.nsOkIn K cd.ns&&PySem.W.nsIn K cd.ns _==some none&&PySem.W.tailIn K Eg r))=true
 rw[h1,h3,show PySem.W.nsIn K cd.ns (PySem.Str.ofString "__init__")=some none from h2]
 simp
theorem all_mk {P:Program}{w:World}{K:PySem.W.Frag}{h:Heap}{mg:Str->Option Value}{fa C0 C1 E0 E1:Addr}{tl0 tl1:List Value} (X:K.In h) (G:h.Ns mainGlobals mg) (hfa:mg "law"=some (.ref fa))
  (T:Bn mg)
  (hdict:PySem.W.nsIn K mainGlobals "dict"=some none)
  (n0:clsIn K "Hand" C0) (c0:Cls K C0) (mk0:Qi K C0)
  (a0_kept:NoAttr K C0 "kept")
  (a0_knows:NoAttr K C0 "knows")
  (a0_number:NoAttr K C0 "number")
  (a0_table:NoAttr K C0 "table")
  (n1:clsIn K "Hall" C1) (c1:Cls K C1) (mk1:Qi K C1)
  (a1_hands:NoAttr K C1 "hands")
  (e0:clsIn K "NoHand" E0) (o0:qP K E0 tl0)
  (e1:clsIn K "SameHand" E1) (o1:qP K E1 tl1)
  (hne:(Value.ref E1::tl1).contains (.ref E0)=false)
  (I_has_seen:FnIn K "has_seen" mE)
  (I_joined:FnIn K "joined" sS)
  (I_common:FnIn K "common" sT)
  (I_newer:FnIn K "newer" yO)
  (I_Hand_seen:mtF K C0 "seen" "Hand.seen" jL)
  (I_left_by:FnIn K "left_by" pE)
  (I_Hand_init__:mtF K C0 "__init__" "Hand.__init__" gA)
  (I_Hand_entries:mtF K C0 "entries" "Hand.entries" fI)
  (I_Hand_known:mtF K C0 "known" "Hand.known" iR)
  (I_Hand_in_mind:mtF K C0 "in_mind" "Hand.in_mind" fH)
  (I_Hand_new_mark:mtF K C0 "new_mark" "Hand.new_mark" eQ)
  (I_Hand_put:mtF K C0 "put" "Hand.put" mF)
  (I_Hand_forget:mtF K C0 "forget" "Hand.forget" gB)
  (I_Hand_take_out:mtF K C0 "take_out" "Hand.take_out" eP)
  (I_Hand_marks_of:mtF K C0 "marks_of" "Hand.marks_of" eR)
  (I_Hand_change:mtF K C0 "change" "Hand.change" gC)
  (I_Hand_take:mtF K C0 "take" "Hand.take" jK)
  (I_Hand_hear:mtF K C0 "hear" "Hand.hear" jM)
  (I_Hall_init__:mtF K C1 "__init__" "Hall.__init__" gD)
  (I_Hall_hand:mtF K C1 "hand" "Hall.hand" jR)
  (I_Hall_pair:mtF K C1 "pair" "Hall.pair" jP)
  (I_Hall_put:mtF K C1 "put" "Hall.put" mG)
  (I_Hall_change:mtF K C1 "change" "Hall.change" gE)
  (I_Hall_take:mtF K C1 "take" "Hall.take" jO)
  (I_Hall_tell:mtF K C1 "tell" "Hall.tell" jN)
  (I_Hall_meet:mtF K C1 "meet" "Hall.meet" jQ)
  (I_done:FnIn K "done" Do)
  (I_answer_to:FnIn K "answer_to" jJ)
  (I_answers:FnIn K "answers" pG)
  (I_after:FnIn K "after" yP)
  (I_law_so:FnIn K "_law_so" sQ)
  (I_law_whole:FnIn K "_law_whole" jH)
  (I_law_at:FnIn K "_law_at" sR)
  (I_law_all_after:FnIn K "_law_all_after" eO)
  (I_law_odd:FnIn K "_law_odd" pF)
  (I_law_word:FnIn K "_law_word" mD)
  (I_law_deed_of:FnIn K "_law_deed_of" fZ)
  (I_law_drawn:FnIn K "_law_drawn" jI)
  (I_law_are_tables:FnIn K "_law_are_tables" eA)
  (I_law_hands_of:FnIn K "_law_hands_of" fG)
  (I_law_turned:FnIn K "_law_turned" iQ)
  (I_law:FnIn K "law" Hy)
  :∃ fd:FuncData,(∀(s:Shared) (v:Value),BindsTo s fd ⟨[v],[]⟩ [("_law_script",v)])/\∀ base:Heap,K.In base->base.Ns mainGlobals mg->wQ P w K mg base (CX1 P w (lS K xs)) 10 fa fd ["_law_script"] (spO (lS K cs) (lS K xs) K p_law):=by
 have q0:lS K cs 0=C0:=tI rfl n0
 subst q0
 have q1:lS K cs 1=C1:=tI rfl n1
 subst q1
 have r0:lS K xs 0=E0:=tI rfl e0
 subst r0
 have r1:lS K xs 1=E1:=tI rfl e1
 subst r1
 have TT:Txt K mg (lS K cs) (lS K xs):=⟨T,PySem.W.mg_none_of X G hdict,c0,PySem.W.mg_of X G n0,c1,PySem.W.mg_of X G n1,a0_kept,a0_knows,a0_number,a0_table,a1_hands,PySem.W.mg_of X G e0,PySem.W.mg_of X G e1,⟨tl0,tl1,o0,o1,hne⟩,I_has_seen.fnAt X G,I_joined.fnAt X G,I_common.fnAt X G,I_newer.fnAt X G,I_Hand_seen.out,I_left_by.fnAt X G,(match I_Hand_init__.out with|⟨f,fd,F,M⟩=>⟨f,fd,F,⟨mk0.1,M.at_,M.fn,mk0.2⟩⟩),I_Hand_entries.out,I_Hand_known.out,I_Hand_in_mind.out,I_Hand_new_mark.out,I_Hand_put.out,I_Hand_forget.out,I_Hand_take_out.out,I_Hand_marks_of.out,I_Hand_change.out,I_Hand_take.out,I_Hand_hear.out,(match I_Hall_init__.out with|⟨f,fd,F,M⟩=>⟨f,fd,F,⟨mk1.1,M.at_,M.fn,mk1.2⟩⟩),I_Hall_hand.out,I_Hall_pair.out,I_Hall_put.out,I_Hall_change.out,I_Hall_take.out,I_Hall_tell.out,I_Hall_meet.out,I_done.fnAt X G,I_answer_to.fnAt X G,I_answers.fnAt X G,I_after.fnAt X G,I_law_so.fnAt X G,I_law_whole.fnAt X G,I_law_at.fnAt X G,I_law_all_after.fnAt X G,I_law_odd.fnAt X G,I_law_word.fnAt X G,I_law_deed_of.fnAt X G,I_law_drawn.fnAt X G,I_law_are_tables.fnAt X G,I_law_hands_of.fnAt X G,I_law_turned.fnAt X G⟩
 obtain⟨a_law,fd_law,F_law⟩:=I_law.fnAt X G
 obtain rfl:a_law=fa:=by
  have e:=hfa.symm.trans F_law.at_
  cases e
  rfl
 refine⟨fd_law,fun s v=> ?_,fun base kb nb=>PF F_law TT⟩
 obtain⟨oc,od,kV,doc,pm,an,cdv,ct,osl,rfl,_,_⟩:=F_law.fn.ex
 exact .of_eq rfl
end L2.MB.Lw
open PySem PySem.W PyProof.Rows
set_option maxRecDepth 100000 in
set_option maxHeartbeats 0 in
theorem PySem.Challenge.cw_meetbook_k08_whole_apart_in_either_order_holds : PySem.Challenge.rw_meetbook_k08_whole_apart_in_either_order.Holds := by
 refine L2.tp ?_
 k_fill
 refine L2.MB.law_walkO (l:=PySem.Challenge.rw_meetbook_k08_whole_apart_in_either_order) (k:=10) (x:="_law_script") (φ:=L2.MB.Lw.p_law) (cs:=L2.MB.Lw.cs) (es:=L2.MB.Lw.xs) rfl rfl ⟨rfl,by decide,by decide⟩ (fun w h Y=>PySem.W.kIn_of Y) (fun ns h=>L2.MB.Lw.law_true ns h) ?F
 case F=>
  intro w mg fa h KX G hmg
  have T:L2.MB.Bn mg:=by
   refine' L2.MB.bn_mk KX G ?h1 ?h2 ?h3 ?h4 ?h5 ?h6 ?h7 ?h8 ?h9 ?h10 ?h11 ?h12 ?h13 ?h14
   (case h1=>k_is);(case h2=>k_is);(case h3=>k_is);(case h4=>k_is);(case h5=>k_is);(case h6=>k_is);(case h7=>k_is);(case h8=>k_is);(case h9=>k_is);(case h10=>k_is);(case h11=>k_is);(case h12=>k_is);(case h13=>k_is);(case h14=>k_is)
  refine' L2.MB.Lw.all_mk KX G hmg T ?hdict ?n0 ?c0 ?mk0 ?a0_kept ?a0_knows ?a0_number ?a0_table ?n1 ?c1 ?mk1 ?a1_hands ?e0 ?o0 ?e1 ?o1 ?hne ?I_has_seen ?I_joined ?I_common ?I_newer ?I_Hand_seen ?I_left_by ?I_Hand_init__ ?I_Hand_entries ?I_Hand_known ?I_Hand_in_mind ?I_Hand_new_mark ?I_Hand_put ?I_Hand_forget ?I_Hand_take_out ?I_Hand_marks_of ?I_Hand_change ?I_Hand_take ?I_Hand_hear ?I_Hall_init__ ?I_Hall_hand ?I_Hall_pair ?I_Hall_put ?I_Hall_change ?I_Hall_take ?I_Hall_tell ?I_Hall_meet ?I_done ?I_answer_to ?I_answers ?I_after ?I_law_so ?I_law_whole ?I_law_at ?I_law_all_after ?I_law_odd ?I_law_word ?I_law_deed_of ?I_law_drawn ?I_law_are_tables ?I_law_hands_of ?I_law_turned ?I_law
  (case hdict=>k_is)
  (case n0=>(unfold L2.MB.Lw.clsIn;k_is))
  (case c0=>(refine' ⟨?p1,?p2,?p3,?p4⟩;(case p1=>k_is);(case p2=>k_is);(case p3=>k_is);(case p4=>k_is)))
  (case mk0=>(refine' ⟨?p1,?p2⟩;(case p1=>k_is);(case p2=>k_is)))
  (case a0_kept=>(unfold L2.NoAttr;k_is))
  (case a0_knows=>(unfold L2.NoAttr;k_is))
  (case a0_number=>(unfold L2.NoAttr;k_is))
  (case a0_table=>(unfold L2.NoAttr;k_is))
  (case n1=>(unfold L2.MB.Lw.clsIn;k_is))
  (case c1=>(refine' ⟨?p1,?p2,?p3,?p4⟩;(case p1=>k_is);(case p2=>k_is);(case p3=>k_is);(case p4=>k_is)))
  (case mk1=>(refine' ⟨?p1,?p2⟩;(case p1=>k_is);(case p2=>k_is)))
  (case a1_hands=>(unfold L2.NoAttr;k_is))
  (case e0=>(unfold L2.MB.Lw.clsIn;k_is))
  (case o0=>(refine' L2.MB.Lw.own_mk ?p1 ?p2 ?p3 ?p4 ?p5 ?p6;(case p1=>k_is);(case p2=>rfl);(case p3=>rfl);(case p4=>(refine' L2.MB.Lw.tail_mk ?q1 ?q2 ?q3 ?q4;(case q1=>k_is);(case q2=>(refine' L2.MB.Lw.nsOk_mk ?l ?h;(case l=>k_is);(case h=>rfl)));(case q3=>k_is);(case q4=>rfl)));(case p5=>(refine' L2.MB.Lw.nsOk_mk ?l ?h;(case l=>k_is);(case h=>rfl)));(case p6=>k_is)))
  (case e1=>(unfold L2.MB.Lw.clsIn;k_is))
  (case o1=>(refine' L2.MB.Lw.own_mk ?p1 ?p2 ?p3 ?p4 ?p5 ?p6;(case p1=>k_is);(case p2=>rfl);(case p3=>rfl);(case p4=>(refine' L2.MB.Lw.tail_mk ?q1 ?q2 ?q3 ?q4;(case q1=>k_is);(case q2=>(refine' L2.MB.Lw.nsOk_mk ?l ?h;(case l=>k_is);(case h=>rfl)));(case q3=>k_is);(case q4=>rfl)));(case p5=>(refine' L2.MB.Lw.nsOk_mk ?l ?h;(case l=>k_is);(case h=>rfl)));(case p6=>k_is)))
  (case hne=>rfl)
  all_goals first|(refine' L2.MB.fnIn_mk ?a ?l ?c ?k;(case a=>k_is);(case l=>k_is);(case c=>k_is);(case k=>k_is))|(refine' ⟨_,L2.MB.Lw.mtIn_mk ?a ?l ?b ?c ?k⟩;(case a=>k_is);(case l=>k_is);(case b=>k_is);(case c=>k_is);(case k=>k_is))
end
