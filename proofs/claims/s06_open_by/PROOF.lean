import PyProof.Rows.All
import Wide.All
import OpenK.AllK
import Wide.FinOn
import PyProof.EqAt
import PyProof.EqKinds
import PyProof.TupleCall
import KE.BitLaws
import PyProof.PassesOwn
import PyProof.StationsW
import PyProof.ExcInit
import PyProof.InstStoreFacts
import PyProof.ExcBaseAll.Exception
import Rb35Spec
import OpenK.KCls
import PyProof.ExcAttrAll.Exception
import KE.KLam
import PyRb35
import KE.OsGo
import Open.SpecLaws
import PySem.Challenge.RW0_secretparts_s06_open_by
import PySem.Challenge.RW_secretparts_s06_open_by
set_option Elab.async false
section
set_option linter.all false
set_option maxRecDepth 100000
namespace L2
open PySem PySem.Spec PyProof.Rows
abbrev Key:=Sum Int Str
def sV:Key→Value→Bool
 | .inl k,v=>Value.isInt k v
 | .inr x,v=>Value.isStrOf x v
def ac5 (w:World):Key→Int
 | .inl k=>hashInt k
 | .inr x=>hashStr w x
theorem dB:∀ {k:Key}{v:Value},sV k v=true→(∃ i t,k=Sum.inl i∧v=Value.int i t)∨(∃ x t,k=Sum.inr x∧v=Value.str x t)
 | .inl i,v,h=>by
  obtain ⟨t,e⟩:=Value.isInt_shape (k:=i) (v:=v) h;exact .inl ⟨i,t,rfl,e⟩
 | .inr x,v,h=>by
  obtain ⟨t,e⟩:=Value.isStrOf_shape (x:=x) (v:=v) h;exact .inr ⟨x,t,rfl,e⟩
theorem Oe (i:Int) (t:Tok):sV (.inl i) (.int i t)=true:=by simp [sV,Value.isInt]
theorem Og (x:Str) (t:Tok):sV (.inr x) (.str x t)=true:=by simp [sV,Value.isStrOf]
theorem Yn (a b:Int):decide ((Sum.inl a:Key)=Sum.inl b)=(a==b):=by
 by_cases e:a=b
 ·subst e;simp
 ·have h:¬ (Sum.inl a:Key)=Sum.inl b:=fun q=>e (Sum.inl.inj q);rw [decide_eq_false h];exact (beq_eq_false_iff_ne.mpr e).symm
theorem Yo (a b:Str):decide ((Sum.inr a:Key)=Sum.inr b)=decide (a=b):=by
 by_cases e:a=b
 ·subst e;simp
 ·have h:¬ (Sum.inr a:Key)=Sum.inr b:=fun q=>e (Sum.inr.inj q);rw [decide_eq_false h,decide_eq_false e]
theorem Yp (a:Int) (b:Str):decide ((Sum.inl a:Key)=Sum.inr b)=false:=decide_eq_false (fun q=>nomatch q)
theorem Yq (a:Str) (b:Int):decide ((Sum.inr a:Key)=Sum.inl b)=false:=decide_eq_false (fun q=>nomatch q)
def cH (prog:Program) (w:World):PySem.KeyKind prog w Key where
 is:=sV
 hash:=ac5 w
 inj:=fun v a b ha hb=>by
  rcases dB ha with ⟨i,t,rfl,rfl⟩ | ⟨x,t,rfl,rfl⟩
  ·rcases dB hb with ⟨j,u,rfl,e⟩ | ⟨y,u,rfl,e⟩
   ·injection e with e1 _;rw [e1]
   ·exact nomatch e
  ·rcases dB hb with ⟨j,u,rfl,e⟩ | ⟨y,u,rfl,e⟩
   ·exact nomatch e
   ·injection e with e1 _;rw [e1]
 byValue:=fun k v h=>by
  rcases dB h with ⟨i,t,rfl,rfl⟩ | ⟨x,t,rfl,rfl⟩ <;> rfl
 pyHash:=fun hv h=>by
  rcases dB hv with ⟨i,t,rfl,rfl⟩ | ⟨x,t,rfl,rfl⟩
  ·exact wpAny_pyHash_int h
  ·exact wpAny_pyHash_str h
 eqBool:=fun hu hv h=>by
  rcases dB hu with ⟨i,t,rfl,rfl⟩ | ⟨x,t,rfl,rfl⟩
  ·rcases dB hv with ⟨j,u,rfl,rfl⟩ | ⟨y,u,rfl,rfl⟩
   ·rw [Yn] at h;exact wpAny_eqBool_int h
   ·rw [Yp] at h;exact SeqAt.EqAt.int_str i t y u _ _ _ _ h
  ·rcases dB hv with ⟨j,u,rfl,rfl⟩ | ⟨y,u,rfl,rfl⟩
   ·rw [Yq] at h;exact SeqAt.EqAt.str_int x t j u _ _ _ _ h
   ·rw [Yo] at h;exact wpAny_eqBool_str h
 «strs»:=fun k x t v h=>by
  rcases dB h with ⟨i,u,rfl,e⟩ | ⟨y,u,rfl,e⟩
  ·exact nomatch e
  ·injection e with e1 _
   subst e1;cases v <;> rfl
theorem Ei (prog:Program) (w:World) (i:Int) (t:Tok):(cH prog w).is (.inl i) (.int i t)=true:=Oe i t
theorem Ej (prog:Program) (w:World) (x:Str) (t:Tok):(cH prog w).is (.inr x) (.str x t)=true:=Og x t
end L2
namespace L2
open PySem PySem.Spec PyProof.Rows
inductive V where
 | non | bl (b:Bool) | int (i:Int) | str (x:Str) | QL (b:Array UInt8) | flt (b:UInt64) | ref (a:Addr) | ty (n:String)
 deriving DecidableEq
def RelV:V→Value→Prop
 | .non,u=>u=Value.none
 | .bl b,u=>u=Value.bool b
 | .int i,u=>∃ t,u=Value.int i t
 | .str x,u=>∃ t,u=Value.str x t
 | .QL b,u=>∃ t,u=Value.bytes b t
 | .flt b,u=>∃ t,u=Value.float b t
 | .ref a,u=>u=Value.ref a
 | .ty n,u=>u=Value.type n
abbrev Vals:List V→List Value→Prop:=Paired RelV
theorem Vals.length {xs:List V}{us:List Value} (r:Vals xs us):xs.length=us.length:=Paired.length r
theorem Vals.get:∀ {xs:List V}{us:List Value}{i:Nat}{x:V},Vals xs us→xs[i]?=some x→∃ u,us[i]?=some u∧RelV x u
 | _,_,_,_,.nil,e=>by simp at e
 | _,_,0,_,.cons r _,e=>by simp at e;subst e;exact ⟨_,rfl,r⟩
 | _,_,i+1,x,.cons _ t,e=>by
  obtain ⟨u,h1,h2⟩:=Vals.get (i:=i) (x:=x) t (by simpa using e);exact ⟨u,by simpa using h1,h2⟩
theorem Vals.append:∀ {xs ys:List V}{us ws:List Value},Vals xs us→Vals ys ws→Vals (xs++ys) (us++ws)
 | _,_,_,_,.nil,s=>s
 | _,_,_,_,.cons r t,s=>.cons r (Vals.append t s)
theorem Vals.take:∀ {xs:List V}{us:List Value} (n:Nat),Vals xs us→Vals (xs.take n) (us.take n)
 | _,_,0,_=>.nil
 | _,_,_+1,.nil=>.nil
 | _,_,n+1,.cons r t=>.cons r (Vals.take n t)
theorem Vals.drop:∀ {xs:List V}{us:List Value} (n:Nat),Vals xs us→Vals (xs.drop n) (us.drop n)
 | _,_,0,r=>r
 | _,_,_+1,.nil=>.nil
 | _,_,n+1,.cons _ t=>Vals.drop n t
def nY:Option V→Option Value→Prop
 | some v,some u=>RelV v u
 | none,none=>True
 | _,_=>False
def KV {κ:Type}:List (κ×V)→List (κ×Value)→Prop:=Paired fun (p:κ×V) (q:κ×Value)=>p.1=q.1∧RelV p.2 q.2
def kV:Key→V
 | .inl i=>.int i
 | .inr x=>.str x
inductive HO where
 | lst (xs:List V)
 | tup (xs:List V)
 | dK (kvs:List (Key×V)) | dT (kvs:List (List Key×V))
 | set (S:Int→Bool) (n:Nat)
 | ins (C dx:Addr) (fs:List (Str×V))
 | own (x:Addr)
 | xd (fs:List (Str×V))
 | met (f x:Addr)
 | rng (lo hi:Int)
 | Ek (o:Obj) (u:HO)
 | uF (ps:Array Value)
 | ext (φ:Heap→Prop)
abbrev Hp:=Addr→Option HO
def upd (H:Hp) (a:Addr) (o:HO):Hp:=fun b=>if b=a then some o else H b
theorem ao {H:Hp}{a:Addr}{o:HO}:upd H a o a=some o:=by unfold upd;rw [if_pos rfl]
theorem ak {H:Hp}{a b:Addr}{o:HO} (h:b≠a):upd H a o b=H b:=by unfold upd;rw [if_neg h]
theorem gG {H:Hp}{a:Addr}{o u:HO}:upd (upd H a o) a u=upd H a u:=by
 funext b;unfold upd;split <;> rfl
theorem lN {H:Hp}{a b:Addr}{o u:HO} (h:H a=some o) (h':H b=some u) (d:o≠u):a≠b:=by
 intro e;subst e;rw [h] at h';exact d (Option.some.inj h')
theorem aB {H:Hp}{a b:Addr}{o:HO} (h:H a=some o) (h':H b=none):a≠b:=by
 intro e;subst e;rw [h] at h';cases h'
section
variable (P:Program) (w:World)
def fD (H:Hp) (h:Heap) (a:Addr):HO→Prop
 | .lst xs=>xs.length≤sizeLine∧∃ (its:List Value) (n:Nat),Vals xs its∧h.get? a=some { cls:=.type "list",data:=.seq its.toArray n }
 | .tup xs=>xs.length≤sizeLine∧∃ its:List Value,Vals xs its∧IsTup h a its.toArray
 | .dK kvs=>kvs.length≤sizeLine∧(a==sysModules)=false∧∃ vs,KV kvs vs∧h.DictOf (cH P w) a vs
 | .dT kvs=>kvs.length≤sizeLine∧(a==sysModules)=false∧∃ xs:List (List Key×Addr×Value),
   Paired (fun (p:List Key×V) (q:List Key×Addr×Value)=>p.1=q.1∧H q.2.1=some (.tup (p.1.map kV))∧RelV p.2 q.2.2) kvs xs ∧
   ∃ o es ep,h.get? a=some o∧o.ExactDict∧o.data=.dict es ep∧es.toList=xs.map (entryOfKey (tupleKind (cH P w)))∧(xs.map (·.1)).Nodup
 | .set S n=>h.SetOf (intKind P w) a S n
 | .ins C dx fs=>H dx=some (.own a)∧fs.length≤1000∧dx≠a∧h.get? a=some (PySem.W.instObj C dx) ∧
   ∃ mA,h.Ns1 dx mA∧(∀ f,nY (fs.lookup f) (mA f))∧PySem.Within mA (fs.map (·.1))
 | .own _=>∃ o,h.get? a=some o
 | .xd fs=>∃ mA,h.Ns1 a mA∧∀ f,nY (fs.lookup f) (mA f)
 | .rng lo hi=>∃ t u v,h.get? a=some { cls:=.type "range",data:=.fields #[.int lo t,.int hi u,.int 1 v] }
 | .Ek o u=>h.get? a=some o∧fD H h a u
 | .uF ps=>h.get? a=some { cls:=.none,data:=.fields ps }
 | .met f x=>h.get? a=some (PySem.W.methodObj (.ref f) (.ref x))
 | .ext φ=>φ h∧(∃ o,h.get? a=some o)∧∀ h1 h2:Heap,φ h1→(∀ o,h1.get? a=some o→h2.get? a=some o)→φ h2
def pB (H:Hp) (h:Heap):Prop:=∀ a o,H a=some o→fD P w H h a o
end
section
variable {P:Program}{w:World}{H H':Hp}{h h':Heap}{a:Addr}{o:HO}
theorem fD.lt (x:fD P w H h a o):a < h.objs.size:=by
 cases o with
 | lst xs=>obtain ⟨_,_,_,_,e⟩:=x;exact Heap.lt_size e
 | tup xs=>obtain ⟨_,_,_,p⟩:=x;exact p.lt
 | dK kvs=>obtain ⟨_,_,_,_,o,_,_,e,_⟩:=x;exact Heap.lt_size e
 | dT kvs=>obtain ⟨_,_,_,_,o,_,_,e,_⟩:=x;exact Heap.lt_size e
 | set S n=>obtain ⟨o,_,_,_,e,_⟩:=x;exact Heap.lt_size e
 | ins C dx fs=>obtain ⟨_,_,_,e,_⟩:=x;exact Heap.lt_size e
 | own y=>obtain ⟨_,e⟩:=x;exact Heap.lt_size e
 | xd fs=>obtain ⟨_,⟨_,_,_,e,_⟩,_⟩:=x;exact Heap.lt_size e
 | rng lo hi=>obtain ⟨_,_,_,e⟩:=x;exact Heap.lt_size e
 | Ek ob u=>obtain ⟨e,_⟩:=x;exact Heap.lt_size e
 | uF ps=>exact Heap.lt_size (show h.get? a=some _ from x)
 | met f y=>exact Heap.lt_size (show h.get? a=some _ from x)
 | ext φ=>obtain ⟨_,⟨_,e⟩,_⟩:=x;exact Heap.lt_size e
theorem Paired.QZ {α β:Type}{F G:α→β→Prop}:∀ {l₁:List α}{l₂:List β},Paired F l₁ l₂→(∀ a b,F a b→G a b)→Paired G l₁ l₂
 | _,_,.nil,_=>.nil
 | _,_,.cons r t,f=>.cons (f _ _ r) (Paired.QZ t f)
theorem fD.stay (x:fD P w H h a o) (k:∀ b u,(b=a∨H b=some (.own a))→h.get? b=some u→h'.get? b=some u)
  (ho:∀ b,H b=some (.own a)→H' b=some (.own a)) (ht:∀ b xs,H b=some (.tup xs)→H' b=some (.tup xs)):fD P w H' h' a o:=by
 induction o with
 | lst xs=>obtain ⟨z,its,n,r,e⟩:=x;exact ⟨z,its,n,r,k _ _ (.inl rfl) e⟩
 | tup xs=>obtain ⟨z,its,r,ob,e,c⟩:=x;exact ⟨z,its,r,ob,k _ _ (.inl rfl) e,c⟩
 | dK kvs=>obtain ⟨z,y,vs,r,ob,es,ep,e,c⟩:=x;exact ⟨z,y,vs,r,ob,es,ep,k _ _ (.inl rfl) e,c⟩
 | dT kvs=>
  obtain ⟨z,y,xs,r,ob,es,ep,e,c⟩:=x;exact ⟨z,y,xs,Paired.QZ r fun p q z=>⟨z.1,ht _ _ z.2.1,z.2.2⟩,ob,es,ep,k _ _ (.inl rfl) e,c⟩
 | set S n=>obtain ⟨ob,es,ep,t,e,c⟩:=x;exact ⟨ob,es,ep,t,k _ _ (.inl rfl) e,c⟩
 | ins C dx fs=>
  obtain ⟨d,z,ne,e,mA,⟨od,es,ep,e2,c⟩,r⟩:=x;exact ⟨ho _ d,z,ne,k _ _ (.inl rfl) e,mA,⟨od,es,ep,k _ _ (.inr d) e2,c⟩,r⟩
 | own y=>obtain ⟨ob,e⟩:=x;exact ⟨ob,k _ _ (.inl rfl) e⟩
 | xd fs=>obtain ⟨mA,⟨od,es,ep,e,c⟩,r⟩:=x;exact ⟨mA,⟨od,es,ep,k _ _ (.inl rfl) e,c⟩,r⟩
 | rng lo hi=>obtain ⟨t,u,v,e⟩:=x;exact ⟨t,u,v,k _ _ (.inl rfl) e⟩
 | Ek ob u ih=>obtain ⟨e,q⟩:=x;exact ⟨k _ _ (.inl rfl) e,ih q⟩
 | uF ps=>
  have e:h.get? a=some { cls:=.none,data:=.fields ps }:=x;show h'.get? a=some { cls:=.none,data:=.fields ps };exact k a _ (.inl rfl) e
 | met f y=>
  have e:h.get? a=some (PySem.W.methodObj (.ref f) (.ref y)):=x;show h'.get? a=some (PySem.W.methodObj (.ref f) (.ref y));exact k a _ (.inl rfl) e
 | ext φ=>obtain ⟨p,⟨o,e⟩,st⟩:=x;exact ⟨st _ _ p fun o q=>k _ _ (.inl rfl) q,⟨o,k _ _ (.inl rfl) e⟩,st⟩
theorem pB.lt (x:pB P w H h) (e:H a=some o):a < h.objs.size:=(x a o e).lt
theorem pB.fresh (x:pB P w H h) (e:h.objs.size≤a):H a=none:=by
 cases q:H a with
 | none=>rfl
 | some u=>exact absurd (Nat.lt_of_lt_of_le (x.lt q) e) (Nat.lt_irrefl _)
theorem pB.kept (x:pB P w H h) (k:∀ b u,h.get? b=some u→h'.get? b=some u):pB P w H h':=fun a o e=>
 (x a o e).stay (fun b u _ q=>k b u q) (fun _ q=>q) fun _ _ q=>q
theorem pB.laid (x:pB P w H h) (k:∀ b u,h.get? b=some u→h'.get? b=some u) (hp:h.objs.size≤a) (new:fD P w (upd H a o) h' a o):pB P w (upd H a o) h':=fun b u e=>by
 have hn:=x.fresh hp;by_cases hb:b=a
 ·subst hb;rw [ao] at e;cases e;exact new
 ·rw [ak hb] at e;exact (x b u e).stay (fun c v _ q=>k c v q) (fun c q=>by rw [ak (aB q hn)];exact q) fun c xs q=>by rw [ak (aB q hn)];exact q
end
def Rd (H:Hp) (a:Addr) (u:HO):Prop:=H a=some u∨∃ o,H a=some (.Ek o u)
theorem Rd.ok {P:Program}{w:World}{H:Hp}{h:Heap}{a:Addr}{u:HO} (r:Rd H a u) (x:pB P w H h):fD P w H h a u:=by
 rcases r with r | ⟨o,r⟩
 ·exact x a u r
 ·obtain ⟨_,q⟩:=x a _ r;exact q
def Mut:Option HO→Prop
 | some (.lst _)=>True
 | some (.dK _)=>True
 | some (.dT _)=>True
 | some (.set _ _)=>True
 | some (.ins _ _ _)=>True
 | some (.ext _)=>True
 | _=>False
section
variable {P:Program}{w:World}{H:Hp}{h h':Heap}{x e:Addr}{o':HO}
theorem pB.write (ok:pB P w H h) (mu:Mut (H x)) (he:e=x∨H e=some (.own x)) (k:∀ b u,b≠e→h.get? b=some u→h'.get? b=some u) (heo:∃ u,h'.get? e=some u)
  (new:fD P w (upd H x o') h' x o'):pB P w (upd H x o') h':=fun b u q=>by
 have aaJ:∀ c y,H c=some (.own y)→c≠x:=fun c y r z=>by subst z;rw [r] at mu;exact mu
 have ac6:∀ c xs,H c=some (.tup xs)→c≠x:=fun c xs r z=>by subst z;rw [r] at mu;exact mu
 by_cases hb:b=x
 ·subst hb;rw [ao] at q;cases q;exact new
 ·rw [ak hb] at q;by_cases hbe:b=e
  ·have q':H b=some (.own x):=by
    rcases he with z | z
    ·exact absurd (hbe.trans z) hb
    ·rw [hbe];exact z
   rw [q] at q';cases q';obtain ⟨v,hv⟩:=heo;exact ⟨v,by rw [hbe];exact hv⟩
  ·refine (ok b u q).stay (fun c v hc r=>k c v ?_ r) (fun c r=>by rw [ak (aaJ c b r)];exact r) fun c xs r=>by rw [ak (ac6 c xs r)];exact r
   rcases hc with rfl | hc
   ·exact hbe
   ·rintro rfl;rcases he with z | z
    ·exact aaJ c b hc z
    ·rw [hc] at z;cases z;exact hb rfl
end
structure Un (fs ex:List Addr) (H H':Hp) (h h':Heap):Prop where
 keep:∀ b o,h.get? b=some o→H b=none→b∉fs→b∉ex→h'.get? b=some o
 slot:∀ b o,h.get? b=some o→H b=none→b∈fs→b∉ex→∃ sl,h'.get? b=some { o with slots:=sl }
 free:∀ b o,h.get? b=some o→H b=none→b∉ex→H' b=none
 there:∀ b o,h.get? b=some o→b∉ex→∃ o',h'.get? b=some o'
 tups:∀ b xs,H b=some (.tup xs)→H' b=some (.tup xs)
 pC:∀ b o u,H b=some (.Ek o u)→H' b=some (.Ek o u)
 pD:∀ b ps,H b=some (.uF ps)→∃ more,H' b=some (.uF (ps++more))
section
variable {fs fs' ex ex':List Addr}{H H1 H2:Hp}{h h1 h2 h':Heap}{a x e:Addr}{o:HO}
theorem Un.any (u:Un fs ex H H1 h h1) {b:Addr}{ob:Obj} (q:h.get? b=some ob) (n:H b=none) (hx:b∉ex):∃ sl,h1.get? b=some { ob with slots:=sl }:=by
 by_cases hb:b∈fs
 ·exact u.slot b ob q n hb hx
 ·exact ⟨ob.slots,u.keep b ob q n hb hx⟩
theorem Un.kept (k:∀ b u,h.get? b=some u→h'.get? b=some u):Un fs ex H H h h':=
 ⟨fun b ob q _ _ _=>k b ob q,fun b ob q _ _ _=>⟨ob.slots,k b ob q⟩,fun _ _ _ n _=>n,fun b ob q _=>⟨ob,k b ob q⟩,fun _ _ q=>q,fun _ _ _ q=>q,fun _ ps q=>⟨#[],by rw [q];simp⟩⟩
theorem Un.refl:Un fs ex H H h h:=Un.kept fun _ _ q=>q
theorem Un.laid (k:∀ b u,h.get? b=some u→h'.get? b=some u) (hp:h.objs.size≤a) (hn:H a=none):Un fs ex H (upd H a o) h h' where
 keep:=fun b u q _ _ _=>k b u q
 slot:=fun b u q _ _ _=>⟨u.slots,k b u q⟩
 free:=fun b u q n _=>by rw [ak (Nat.ne_of_lt (Nat.lt_of_lt_of_le (Heap.lt_size q) hp))];exact n
 there:=fun b u q _=>⟨u,k b u q⟩
 tups:=fun b xs q=>by rw [ak (aB q hn)];exact q
 pC:=fun b u xs q=>by rw [ak (aB q hn)];exact q
 pD:=fun b ps q=>⟨#[],by rw [ak (aB q hn),q];simp⟩
theorem Un.write (mu:Mut (H x)) (he:e=x∨H e=some (.own x)) (k:∀ b u,b≠e→h.get? b=some u→h'.get? b=some u) (heo:∃ u,h'.get? e=some u):Un fs ex H (upd H x o) h h':=by
 have hx:∀ b,H b=none→b≠x:=fun b n z=>by subst z;rw [n] at mu;exact mu
 have hb:∀ b,H b=none→b≠e:=fun b n z=>by
  subst z;rcases he with r | r
  ·exact hx b n r
  ·rw [n] at r;cases r
 have hm:∀ b u,H b=some u→¬ Mut (some u)→b≠x:=fun b u q nm z=>by subst z;rw [q] at mu;exact nm mu
 refine ⟨fun b u q n _ _=>k b u (hb b n) q,fun b u q n _ _=>⟨u.slots,k b u (hb b n) q⟩,fun b u q n _=>by rw [ak (hx b n)];exact n,fun b u q _=>?_,
  fun b xs q=>by rw [ak (hm b _ q fun z=>z)];exact q,fun b u xs q=>by rw [ak (hm b _ q fun z=>z)];exact q,fun b ps q=>⟨#[],by rw [ak (hm b _ q fun z=>z),q];simp⟩⟩
 by_cases hbe:b=e
 ·subst hbe;exact heo
 ·exact ⟨u,k b u hbe q⟩
end
def trk (h:Heap) (H:Hp):List Addr:=(List.range h.objs.size).filter fun a=>(H a).isSome
def xu (h:Heap) (H:Hp):Heap:=PySem.W.hideAll h (trk h H)
theorem Oh (h:Heap) (H:Hp):(xu h H).objs.size=h.objs.size:=PySem.W.hideAll_size _ _
theorem sW {h:Heap}{H:Hp}{b:Addr}{o:Obj} (e:h.get? b=some o) (n:H b=none):(xu h H).get? b=some o:=
 PySem.W.hideAll_get _ e fun hm=>by
  have q:(H b).isSome=true:=(List.mem_filter.mp hm).2;rw [n] at q;simp at q
theorem VG {h:Heap}{H:Hp}{b:Addr}{o:Obj} (e:(xu h H).get? b=some o):h.get? b=some o∧H b=none:=by
 have e':h.get? b=some o:=PySem.W.of_hideAll (trk h H) e;refine ⟨e',?_⟩;cases q:H b with
 | none=>rfl
 | some x=>
  have hm:b∈trk h H:=List.mem_filter.mpr ⟨List.mem_range.mpr (Heap.lt_size e'),by simp [q]⟩;have z:(xu h H).get? b=none:=PySem.W.hideAll_none (trk h H) hm;rw [z] at e;cases e
end L2
namespace L2
open PySem PySem.Spec PyProof.Rows
structure Mod (K:PySem.W.Frag) (mg:Str→Option Value) (base:Heap):Prop where
 Vu:K.In base
 glob:base.Ns mainGlobals mg
 blt:∃ mb,base.Ns builtinsNs mb∧∀ x:Str,x≠"__name__"→mb x=bootBuiltins x
 nolimit:base.NoLimit
structure Cx where
 prog:Program
 w:World
 K:PySem.W.Frag
 mg:Str→Option Value
 base:Heap
 A:Around
 N:List Str
 s_0:Shared
 Yr:Hp
 env:Env
 outer:List Env
 stack:List Env
 ex:List Addr
 fn:Str→Bool
 calm:Bool
 pn:List (Addr×Obj)
 xe:Value→Shared→Prop
def frs (l:List Env):List Addr:=l.filterMap (·.frame)
abbrev Cx.fs (X:Cx):List Addr:=frs X.outer
def Ys (sc:Scope) (x:Str):Prop:=sc.names.lookup x=some .local∨sc.names.lookup x=some .cell∨sc.names.lookup x=some .free
def Loc (sc:Scope) (x:Str):Prop:=sc.names.lookup x=some .local∨sc.names.lookup x=some .cell
def Look (env:Env) (h:Heap) (m:Str→Option Value) (x:Str) (u:Value):Prop:=
 (env.kindOf x=some .local∧m x=some u)∨((env.kindOf x=some .cell∨env.kindOf x=some .free)∧∃ c,env.cells.lookup x=some c∧h.IsCell c (some u))
structure Cx.Ok (X:Cx):Prop where
 mod:Mod X.K X.mg X.base
 kind:X.env.scope.kind=.function
 glob:X.env.globals=mainGlobals
 blt:X.env.builtins=builtinsNs
 above:X.s_0.heap.objs.size≤X.env.locals
 inj:∀ x y c,X.env.cells.lookup x=some c→X.env.cells.lookup y=some c→x=y
 has:∀ x,(X.env.kindOf x=some .cell∨X.env.kindOf x=some .free)→∃ c,X.env.cells.lookup x=some c
 cab:∀ x c,X.fn x=true→X.env.cells.lookup x=some c→X.s_0.heap.objs.size≤c
 hd:X.calm=true→X.A.handled=none
 frames:X.A.frames=some X.stack
 stk:X.stack=X.outer∨(X.stack=X.env::X.outer∧X.env.frame=some X.env.locals)
 exf:∀ b∈X.ex,b≠X.env.locals∧∀ x c,X.env.cells.lookup x=some c→c≠b
 bs:∀ b o,X.base.get? b=some o→X.s_0.heap.get? b=some o∧X.Yr b=none
 QM:X.base.objs.size≤X.s_0.heap.objs.size
 Oi:∀ b o,X.base.get? b=some o→b∉X.ex
 Oj:∀ b∈X.ex,b∉X.fs
 rG:X.s_0.heap.FunFrames X.base X.outer
 VH:∀ b∈X.fs,X.Yr b=none
structure Inv (X:Cx) (pins:List (Addr×Obj)) (σ:List (Option V)) (H:Hp) (s:Shared):Prop where
 ok:X.Ok
 os:s.os=X.s_0.os
 bare:AllBare s.gens
 base:Un X.fs X.ex X.Yr H X.s_0.heap s.heap
 loc:∃ m,s.heap.Ns X.env.locals m∧∀ (i:Nat) (x:Str) (v:V),X.N[i]?=some x→σ[i]?=some (some v)→Ys X.env.scope x→∃ u,RelV v u∧Look X.env s.heap m x u
 cell:∀ x c,X.env.cells.lookup x=some c→∃ v,s.heap.IsCell c v
 free:H X.env.locals=none
 jQ:∀ x c,X.env.cells.lookup x=some c→H c=none
 pin:∀ p∈X.pn++pins,s.heap.get? p.1=some p.2∧H p.1=none∧p.1≠X.env.locals∧p.1∉X.fs∧∀ v,p.2.data≠.cell v
 hok:pB X.prog X.w H s.heap
 len:σ.length=X.N.length
section
variable {X:Cx}{pins:List (Addr×Obj)}{σ:List (Option V)}{H H':Hp}{s:Shared}{h':Heap}
theorem Cx.Ok.Ol (ok:X.Ok) {b:Addr}{o:Obj} (e:X.base.get? b=some o):b∉X.fs:=fun hb=>by
 have:=(ok.rG.mem hb).1;rw [e] at this;cases this
theorem Inv.bs (I:Inv X pins σ H s):∀ b o,X.base.get? b=some o→s.heap.get? b=some o∧H b=none:=fun b o e=>
 ⟨I.base.keep b o (I.ok.bs b o e).1 (I.ok.bs b o e).2 (I.ok.Ol e) (I.ok.Oi b o e),I.base.free b o (I.ok.bs b o e).1 (I.ok.bs b o e).2 (I.ok.Oi b o e)⟩
theorem Inv.bk (I:Inv X pins σ H s):∀ b o,X.base.get? b=some o→s.heap.get? b=some o:=fun b o e=>(I.bs b o e).1
theorem Inv.mod (I:Inv X pins σ H s):Mod X.K X.mg X.base:=I.ok.mod
theorem Inv.rH (I:Inv X pins σ H s):X.K.In s.heap:=I.ok.mod.Vu.keeps I.bk
theorem Inv.lt (I:Inv X pins σ H s):X.env.locals < s.heap.objs.size:=let ⟨_,hn,_⟩:=I.loc;hn.lt
theorem Inv.sz (I:Inv X pins σ H s):X.s_0.heap.objs.size≤s.heap.objs.size:=Nat.le_trans I.ok.above (Nat.le_of_lt I.lt)
theorem Inv.aaL (I:Inv X pins σ H s) {a:Addr} (h:s.heap.objs.size≤a):a∉X.fs:=fun hb=>by
 obtain ⟨_,o,ho,_⟩:=I.ok.rG.mem hb;exact absurd (Nat.lt_of_lt_of_le (Heap.lt_size ho) (Nat.le_trans I.sz h)) (Nat.lt_irrefl _)
theorem Inv.VJ (I:Inv X pins σ H s):∀ x c,X.env.cells.lookup x=some c→c≠X.env.locals:=fun x c e z=>by
 obtain ⟨v,o,ho,hd⟩:=I.cell x c e;obtain ⟨m,⟨o',es,ep,ho',hd',_⟩,_⟩:=I.loc;rw [z,ho'] at ho;cases ho;rw [hd'] at hd;cases hd
theorem Inv.rG (I:Inv X pins σ H s):s.heap.FunFrames X.base X.outer:=by
 have all:∀ (l:List Env),(∀ b∈frs l,b∈X.fs)→X.s_0.heap.FunFrames X.base l→s.heap.FunFrames X.base l:=by
  intro l
  induction l with
  | nil=>intro _ _;trivial
  | cons env r ih=>
   intro hs hl;obtain ⟨hk,⟨L,o,hf,hn,ho,hd⟩,hr⟩:=hl;have hL:L∈X.fs:=hs L (by unfold frs;rw [List.filterMap_cons,hf];exact List.mem_cons_self);obtain ⟨sl,e⟩:=I.base.slot L o ho (I.ok.VH L hL) hL fun z=>I.ok.Oj L z hL;exact ⟨hk,⟨L,_,hf,hn,e,hd⟩,ih (fun b hb=>hs b (by unfold frs;rw [List.filterMap_cons,hf];exact List.mem_cons_of_mem _ hb)) hr⟩
 exact all X.outer (fun _ hb=>hb) I.ok.rG
theorem Inv.stack (I:Inv X pins σ H s):s.heap.FunFrames X.base X.stack:=by
 rcases I.ok.stk with e | ⟨e,hf⟩
 ·rw [e];exact I.rG
 ·rw [e];obtain ⟨m,hn,_⟩:=I.loc;refine .cons (by rw [I.ok.kind];decide) hf hn ?_ I.rG;exact Heap.get?_none_of_le (Nat.le_trans I.ok.QM I.ok.above)
theorem Inv.mC (I:Inv X pins σ H s):∀ b∈frs X.stack,b∈X.env.locals::X.fs:=fun b hb=>by
 rcases I.ok.stk with e | ⟨e,hf⟩
 ·rw [e] at hb;exact List.mem_cons_of_mem _ hb
 ·rw [e] at hb;unfold frs at hb;rw [List.filterMap_cons,hf] at hb;exact hb
theorem Inv.sX (I:Inv X pins σ H s):∀ b∈frs X.stack,H b=none:=fun b hb=>by
 rcases List.mem_cons.mp (I.mC b hb) with e | hb
 ·rw [e];exact I.free
 ·obtain ⟨_,o,ho,_⟩:=I.ok.rG.mem hb;exact I.base.free b o ho (I.ok.VH b hb) fun z=>I.ok.Oj b z hb
theorem Inv.step {g':Array GenState}{t':Nat}{d':Drawn}{ch:List Addr} (I:Inv X pins σ H s)
  (hch:∀ b∈ch,(b∈X.ex∨X.s_0.heap.objs.size≤b)∧b≠X.env.locals∧(∀ x c,X.env.cells.lookup x=some c→c≠b)∧∀ p∈X.pn++pins,p.1≠b)
  (keep:∀ b o,b≠X.env.locals→b∉X.fs→b∉ch→s.heap.get? b=some o→H b=none→h'.get? b=some o)
  (slot:∀ b o,b≠X.env.locals→b∈X.fs→b∉ch→s.heap.get? b=some o→H b=none→∃ sl,h'.get? b=some { o with slots:=sl }) (free:∀ b o,b∉ch→s.heap.get? b=some o→H b=none→H' b=none)
  (there:∀ b o,b∉ch→s.heap.get? b=some o→∃ o',h'.get? b=some o')
  (tups:∀ b xs,H b=some (.tup xs)→H' b=some (.tup xs)) (pC:∀ b o u,H b=some (.Ek o u)→H' b=some (.Ek o u)) (pD:∀ b ps,H b=some (.uF ps)→∃ more,H' b=some (.uF (ps++more)))
  (ns:∀ m,s.heap.Ns X.env.locals m→h'.Ns X.env.locals m) (hok:pB X.prog X.w H' h') (hg:AllBare g') :
  Inv X pins σ H' { s with heap:=h',gens:=g',drawn:=d',toks:=t' }:=by
 have neL:∀ b o,X.s_0.heap.get? b=some o→b≠X.env.locals:=fun b o e=>Nat.ne_of_lt (Nat.lt_of_lt_of_le (Heap.lt_size e) I.ok.above);have neC:∀ b o,X.s_0.heap.get? b=some o→b∉X.ex→b∉ch:=fun b o e hx hb=>by
  rcases (hch b hb).1 with z | z
  ·exact hx z
  ·exact absurd (Nat.lt_of_lt_of_le (Heap.lt_size e) z) (Nat.lt_irrefl _)
 have cellK:∀ x c,X.env.cells.lookup x=some c→∀ v,s.heap.IsCell c v→h'.IsCell c v:=fun x c e v ⟨o,ho,hd⟩=>by
  have nch:c∉ch:=fun z=>(hch c z).2.2.1 x c e rfl;by_cases hc:c∈X.fs
  ·obtain ⟨sl,q⟩:=slot c o (I.VJ x c e) hc nch ho (I.jQ x c e);exact ⟨_,q,hd⟩
  ·exact ⟨o,keep c o (I.VJ x c e) hc nch ho (I.jQ x c e),hd⟩
 refine ⟨I.ok,I.os,hg,⟨fun b o e n hb hx=>?_,fun b o e n hb hx=>?_,fun b o e n hx=>?_,fun b o e hx=>?_,fun b xs e=>tups b xs (I.base.tups b xs e),fun b o xs e=>pC b o xs (I.base.pC b o xs e),fun b ps e=>?_⟩,?_,fun x c e=>?_,?_,fun x c e=>?_,fun p hp=>?_,hok,I.len⟩
 ·exact keep b o (neL b o e) hb (neC b o e hx) (I.base.keep b o e n hb hx) (I.base.free b o e n hx)
 ·obtain ⟨sl,e1⟩:=I.base.slot b o e n hb hx;obtain ⟨sl',e2⟩:=slot b _ (neL b o e) hb (neC b o e hx) e1 (I.base.free b o e n hx);exact ⟨sl',e2⟩
 ·obtain ⟨o',e1⟩:=I.base.there b o e hx;exact free b o' (neC b o e hx) e1 (I.base.free b o e n hx)
 ·obtain ⟨o',e1⟩:=I.base.there b o e hx;exact there b o' (neC b o e hx) e1
 ·obtain ⟨m1,e1⟩:=I.base.pD b ps e;obtain ⟨m2,e2⟩:=pD b _ e1;exact ⟨m1++m2,by rw [e2,Array.append_assoc]⟩
 ·obtain ⟨m,hn,hl⟩:=I.loc;refine ⟨m,ns m hn,fun i x v e1 e2 e3=>?_⟩;obtain ⟨u,r,l⟩:=hl i x v e1 e2 e3;refine ⟨u,r,?_⟩;rcases l with l | ⟨k,c,e,z⟩
  ·exact .inl l
  ·exact .inr ⟨k,c,e,cellK x c e _ z⟩
 ·obtain ⟨v,z⟩:=I.cell x c e;exact ⟨v,cellK x c e v z⟩
 ·obtain ⟨m,⟨o,_,_,ho,_⟩,_⟩:=I.loc;exact free _ o (fun z=>(hch _ z).2.1 rfl) ho I.free
 ·obtain ⟨v,o,ho,hd⟩:=I.cell x c e;exact free c o (fun z=>(hch c z).2.2.1 x c e rfl) ho (I.jQ x c e)
 ·obtain ⟨e,n,ne,nf,d⟩:=I.pin p hp;have nch:p.1∉ch:=fun z=>(hch p.1 z).2.2.2 p hp rfl;exact ⟨keep p.1 p.2 ne nf nch e n,free p.1 p.2 nch e n,ne,nf,d⟩
theorem Inv.un {t':Nat} (I:Inv X pins σ H s) (u:Un X.fs [] H H' s.heap h') (hok:pB X.prog X.w H' h'):Inv X pins σ H' { s with heap:=h',toks:=t' }:=by
 obtain ⟨m,⟨o,es,ep,ho,r⟩,_⟩:=id I.loc;obtain ⟨sl,hL⟩:=u.any ho I.free (by simp);exact I.step (g':=s.gens) (d':=s.drawn) (ch:=[]) (fun _ z=>nomatch z) (fun b o _ hb _ e n=>u.keep b o e n hb (by simp)) (fun b o _ hb _ e n=>u.slot b o e n hb (by simp)) (fun b o _ e n=>u.free b o e n (by simp)) (fun b o _ e=>u.there b o e (by simp)) u.tups u.pC u.pD (fun m' hm=>by
  obtain ⟨o',es',ep',ho',r'⟩:=hm;rw [ho] at ho';cases ho';exact ⟨_,es',ep',hL,r'⟩) hok I.bare
theorem Inv.call {g':Array GenState}{t':Nat}{d':Drawn}{ch:List Addr} (I:Inv X pins σ H s) (u:Un (frs X.stack) ch H H' s.heap h') (hok:pB X.prog X.w H' h') (hg:AllBare g')
  (hch:∀ b∈ch,(b∈X.ex∨X.s_0.heap.objs.size≤b)∧b≠X.env.locals∧(∀ x c,X.env.cells.lookup x=some c→c≠b)∧∀ p∈X.pn++pins,p.1≠b) :
  Inv X pins σ H' { s with heap:=h',gens:=g',drawn:=d',toks:=t' }:=by
 obtain ⟨m,⟨o,es,ep,ho,r⟩,_⟩:=id I.loc;obtain ⟨sl,hL⟩:=u.any ho I.free fun z=>(hch _ z).2.1 rfl;exact I.step (ch:=ch) hch (fun b o hL hb hc e n=>u.keep b o e n (fun z=>(List.mem_cons.mp (I.mC b z)).elim hL hb) hc) (fun b o _ _ hc e n=>u.any e n hc) (fun b o hc e n=>u.free b o e n hc) (fun b o hc e=>u.there b o e hc) u.tups u.pC u.pD (fun m' hm=>by
  obtain ⟨o',es',ep',ho',r'⟩:=hm;rw [ho] at ho';cases ho';exact ⟨_,es',ep',hL,r'⟩) hok hg
theorem Inv.turned {t':Nat}{it:Addr} (I:Inv X pins σ H s) (k:∀ b o,b≠it→s.heap.get? b=some o→h'.get? b=some o) (hn:H it=none) (hL:it≠X.env.locals)
  (h1:it∈X.ex∨X.s_0.heap.objs.size≤it) (h2:∀ x c,X.env.cells.lookup x=some c→c≠it) (h3:∀ p∈X.pn++pins,p.1≠it):Inv X pins σ H { s with heap:=h',toks:=t' }:=by
 have nit:∀ b u,H b=some u→b≠it:=fun b u e z=>by rw [z,hn] at e;cases e
 refine I.step (g':=s.gens) (d':=s.drawn) (ch:=[it]) (fun b hb=>?_) (fun b o _ _ hc e _=>k b o (fun z=>hc (by simp [z])) e) (fun b o _ _ hc e _=>⟨o.slots,k b o (fun z=>hc (by simp [z])) e⟩) (fun _ _ _ _ n=>n)
  (fun b o hc e=>⟨o,k b o (fun z=>hc (by simp [z])) e⟩) (fun _ _ e=>e) (fun _ _ _ e=>e) (fun b ps e=>⟨#[],by rw [e];simp⟩) (fun m hm=>?_) (fun b u e=>?_) I.bare
 ·have e:b=it:=by simpa using hb
  subst e;exact ⟨h1,hL,h2,h3⟩
 ·obtain ⟨o,es,ep,ho,r⟩:=hm;exact ⟨o,es,ep,k _ o (Ne.symm hL) ho,r⟩
 ·refine (I.hok b u e).stay (fun c v hc q=>k c v ?_ q) (fun _ q=>q) fun _ _ q=>q;rcases hc with z | z
  ·rw [z];exact nit b u e
  ·exact nit c _ z
theorem Inv.tok (I:Inv X pins σ H s) (t:Nat):Inv X pins σ H { s with toks:=t }:=I.un (h':=s.heap) (t':=t) Un.refl I.hok
theorem Inv.kept {t':Nat} (I:Inv X pins σ H s) (k:∀ b u,s.heap.get? b=some u→h'.get? b=some u):Inv X pins σ H { s with heap:=h',toks:=t' }:=I.un (Un.kept k) (I.hok.kept k)
theorem Inv.laid {a:Addr}{o:HO}{t':Nat} (I:Inv X pins σ H s) (k:∀ b u,s.heap.get? b=some u→h'.get? b=some u) (hp:s.heap.objs.size≤a) (new:fD X.prog X.w (upd H a o) h' a o) :
  Inv X pins σ (upd H a o) { s with heap:=h',toks:=t' }:=I.un (Un.laid k hp (I.hok.fresh hp)) (I.hok.laid k hp new)
theorem Inv.write {x e:Addr}{o:HO}{t':Nat} (I:Inv X pins σ H s) (mu:Mut (H x)) (he:e=x∨H e=some (.own x)) (k:∀ b u,b≠e→s.heap.get? b=some u→h'.get? b=some u) (heo:∃ u,h'.get? e=some u)
  (new:fD X.prog X.w (upd H x o) h' x o):Inv X pins σ (upd H x o) { s with heap:=h',toks:=t' }:=I.un (Un.write mu he k heo) (I.hok.write mu he k heo new)
theorem Inv.weak {σ':List (Option V)} (I:Inv X pins σ H s) (hl:σ'.length=σ.length) (w:∀ (i:Nat) v,σ'[i]?=some (some v)→σ[i]?=some (some v)):Inv X pins σ' H s:=
 ⟨I.ok,I.os,I.bare,I.base,let ⟨m,hn,hl'⟩:=I.loc;⟨m,hn,fun i x v e1 e2 e3=>hl' i x v e1 (w i v e2) e3⟩,I.cell,I.free,I.jQ,I.pin,I.hok,hl.trans I.len⟩
theorem Inv.wI {El:List (Addr×Obj)} (I:Inv X pins σ H s) (h:∀ p∈El,s.heap.get? p.1=some p.2∧H p.1=none∧p.1≠X.env.locals∧p.1∉X.fs∧∀ v,p.2.data≠.cell v):Inv X El σ H s:=
 ⟨I.ok,I.os,I.bare,I.base,I.loc,I.cell,I.free,I.jQ,fun p hp=>(List.mem_append.mp hp).elim (fun z=>I.pin p (List.mem_append_left _ z)) (h p),I.hok,I.len⟩
theorem xG {N:List Str} (hN:N.Nodup) {i j:Nat}{x:Str} (a:N[i]?=some x) (b:N[j]?=some x):i=j:=by
 obtain ⟨h1,e1⟩:=List.getElem?_eq_some_iff.mp a;obtain ⟨h2,e2⟩:=List.getElem?_eq_some_iff.mp b;exact (List.getElem_inj hN).mp (e1.trans e2.symm)
theorem Az {M:Model}{A:Around}{E:Value→Shared→Prop}{i:Nat}{x:Str}{v:V}{u:Value}{Q:Unit→Shared→Prop} (I:Inv X pins σ H s) (hN:X.N.Nodup) (hi:X.N[i]?=some x) (hx:Loc X.env.scope x) (r:RelV v u)
  (h:∀ s',Inv X pins (σ.set i (some v)) H s'→(∃ a,Heap.SameBut a s.heap s'.heap∧(a=X.env.locals∨X.env.cells.lookup x=some a))→Q () s') (hf:X.fn x=true∨X.env.scope.names.lookup x=some .local:=by first | exact .inl rfl | exact .inr rfl | assumption):wpAny M A (storeName X.env x u) Q E s:=by
 obtain ⟨m,hn,hl⟩:=id I.loc;have hcls:(X.env.scope.kind==.class||(X.env.scope.kind==.module&&X.env.locals != X.env.globals))=false:=by rw [I.ok.kind];rfl
 have hiσ:i < σ.length:=by rw [I.len];exact (List.getElem?_eq_some_iff.mp hi).1
 have VJ:=I.VJ;have tracked:∀ {a:Addr}{h':Heap},(∃ o,s.heap.get? a=some o∧H a=none)→Heap.SameBut a s.heap h'→pB X.prog X.w H h':=fun {a h'} ha hs b ob e=>by
  obtain ⟨_,_,hfree⟩:=ha;refine (I.hok b ob e).stay (fun c w' hc q=>(hs.2 c ?_).trans q) (fun _ q=>q) fun _ _ q=>q;rintro rfl;rcases hc with rfl | hc
  ·rw [hfree] at e;cases e
  ·rw [hfree] at hc;cases hc
 rcases hx with hk | hk
 ·refine wpAny_storeName_local hk hn (fun h' hn' hs=>?_) hcls;obtain ⟨oL,_,_,hoL,_⟩:=id hn;refine h _ ⟨I.ok,I.os,I.bare,⟨fun b o e n hb hx=>?_,fun b o e n hb hx=>?_,I.base.free,fun b o e hx=>?_,I.base.tups,I.base.pC,I.base.pD⟩,⟨_,hn',fun j y v' e1 e2 e3=>?_⟩,fun y c e=>?_,I.free,I.jQ,fun p hp=>?_,tracked ⟨oL,hoL,I.free⟩ hs,by simpa using I.len⟩ ⟨_,hs,.inl rfl⟩
  ·exact (hs.2 b (Nat.ne_of_lt (Nat.lt_of_lt_of_le (Heap.lt_size e) I.ok.above))).trans (I.base.keep b o e n hb hx)
  ·obtain ⟨sl,e1⟩:=I.base.slot b o e n hb hx;exact ⟨sl,(hs.2 b (Nat.ne_of_lt (Nat.lt_of_lt_of_le (Heap.lt_size e) I.ok.above))).trans e1⟩
  ·obtain ⟨o',e1⟩:=I.base.there b o e hx;exact ⟨o',(hs.2 b (Nat.ne_of_lt (Nat.lt_of_lt_of_le (Heap.lt_size e) I.ok.above))).trans e1⟩
  ·by_cases hj:j=i
   ·subst hj;rw [hi] at e1;cases e1;rw [List.getElem?_set_self hiσ] at e2;cases e2;exact ⟨u,r,.inl ⟨hk,by simp⟩⟩
   ·rw [List.getElem?_set_ne (Ne.symm hj)] at e2;obtain ⟨u',r',q⟩:=hl j y v' e1 e2 e3;refine ⟨u',r',?_⟩;rcases q with ⟨k,e⟩ | ⟨k,c,e,z⟩
    ·refine .inl ⟨k,?_⟩;have:y≠x:=fun e=>hj (xG hN e1 (e▸hi));simp [this,e]
    ·exact .inr ⟨k,c,e,z.sameBut hs (VJ y c e)⟩
  ·obtain ⟨w',z⟩:=I.cell y c e;exact ⟨w',z.sameBut hs (VJ y c e)⟩
  ·obtain ⟨e,n,ne,nf,d⟩:=I.pin p hp;exact ⟨(hs.2 p.1 ne).trans e,n,ne,nf,d⟩
 ·have hfn:X.fn x=true:=by
   rcases hf with z | z
   ·exact z
   ·rw [z] at hk;cases hk
  obtain ⟨c,hc⟩:=I.ok.has x (.inl hk);obtain ⟨w',z⟩:=I.cell x c hc;refine wpAny_storeName_cell I.ok.kind hk hc z (fun h' hc' hs=>?_);obtain ⟨oc,hoc,ac7⟩:=id z;refine h { s with heap:=h' } ⟨I.ok,I.os,I.bare,⟨fun b o e n hb hx=>?_,fun b o e n hb hx=>?_,I.base.free,fun b o e hx=>?_,I.base.tups,I.base.pC,I.base.pD⟩,⟨m,hn.sameBut hs (Ne.symm (VJ x c hc)),fun j y v' e1 e2 e3=>?_⟩,fun y c' e=>?_,I.free,I.jQ,fun p hp=>?_,tracked ⟨oc,hoc,I.jQ x c hc⟩ hs,by simpa using I.len⟩ ⟨c,hs,.inr hc⟩
  ·exact (hs.2 b (Nat.ne_of_lt (Nat.lt_of_lt_of_le (Heap.lt_size e) (I.ok.cab x c hfn hc)))).trans (I.base.keep b o e n hb hx)
  ·obtain ⟨sl,e1⟩:=I.base.slot b o e n hb hx;exact ⟨sl,(hs.2 b (Nat.ne_of_lt (Nat.lt_of_lt_of_le (Heap.lt_size e) (I.ok.cab x c hfn hc)))).trans e1⟩
  ·obtain ⟨o',e1⟩:=I.base.there b o e hx;exact ⟨o',(hs.2 b (Nat.ne_of_lt (Nat.lt_of_lt_of_le (Heap.lt_size e) (I.ok.cab x c hfn hc)))).trans e1⟩
  ·by_cases hj:j=i
   ·subst hj;rw [hi] at e1;cases e1;rw [List.getElem?_set_self hiσ] at e2;cases e2;exact ⟨u,r,.inr ⟨.inl hk,c,hc,hc'⟩⟩
   ·rw [List.getElem?_set_ne (Ne.symm hj)] at e2;obtain ⟨u',r',q⟩:=hl j y v' e1 e2 e3;refine ⟨u',r',?_⟩;rcases q with q | ⟨k,c',e,z'⟩
    ·exact .inl q
    ·refine .inr ⟨k,c',e,z'.sameBut hs ?_⟩;rintro rfl;exact hj (xG hN e1 (I.ok.inj _ _ _ e hc▸hi))
  ·by_cases hcc:c'=c
   ·subst hcc;exact ⟨_,hc'⟩
   ·obtain ⟨w2,z2⟩:=I.cell y c' e;exact ⟨w2,z2.sameBut hs hcc⟩
  ·obtain ⟨e,n,ne,nf,d⟩:=I.pin p hp;refine ⟨(hs.2 p.1 ?_).trans e,n,ne,nf,d⟩;intro q;rw [q,hoc] at e;have q':oc=p.2:=Option.some.inj e;exact d w' (by rw [←q'];exact ac7)
theorem sY {M:Model}{A:Around}{E:Value→Shared→Prop}{i:Nat}{x:Str}{v:V}{u:Value}{Q:Unit→Shared→Prop} (I:Inv X pins σ H s) (hN:X.N.Nodup) (hi:X.N[i]?=some x) (hx:Loc X.env.scope x) (r:RelV v u)
  (h:∀ s',Inv X pins (σ.set i (some v)) H s'→Q () s') (hf:X.fn x=true∨X.env.scope.names.lookup x=some .local:=by first | exact .inl rfl | exact .inr rfl | assumption):wpAny M A (storeName X.env x u) Q E s:=
 Az I hN hi hx r (fun s' I' _=>h s' I') hf
theorem Inv.call' {s':Shared}{ch:List Addr} (I:Inv X pins σ H s) (ho:s'.os=s.os) (u:Un (frs X.stack) ch H H' s.heap s'.heap) (hok:pB X.prog X.w H' s'.heap) (hg:AllBare s'.gens)
  (hch:∀ b∈ch,(b∈X.ex∨X.s_0.heap.objs.size≤b)∧b≠X.env.locals∧(∀ x c,X.env.cells.lookup x=some c→c≠b)∧∀ p∈X.pn++pins,p.1≠b):Inv X pins σ H' s':=by
 obtain ⟨h',g',d',t',o'⟩:=s';have e:o'=s.os:=ho;subst e;exact I.call (g':=g') (t':=t') (d':=d') u hok hg hch
end
abbrev XK:=Value→Option Addr→Hp→Prop
abbrev St:=List (Option V)
abbrev VK:=V→Hp→Prop
abbrev TE:=St→Hp→VK→Prop
abbrev TT:=St→Hp→(Bool→Hp→Prop)→Prop
abbrev TA:=St→Hp→(List V→Hp→Prop)→Prop
structure Ends where
 nx:St→Hp→Prop
 rt:VK
 bk:St→Hp→Prop:=fun _ _=>False
 ct:St→Hp→Prop:=fun _ _=>False
abbrev TS:=Ends→St→Hp→Prop
def EP (X:Cx) (pins:List (Addr×Obj)) (σ:St) (Q:VK) (u:Value) (s':Shared):Prop:=∃ v H',Inv X pins σ H' s'∧RelV v u∧Q v H'
def TP (X:Cx) (pins:List (Addr×Obj)) (σ:St) (Q:Bool→Hp→Prop) (b:Bool) (s':Shared):Prop:=∃ H',Inv X pins σ H' s'∧Q b H'
def AP (X:Cx) (pins:List (Addr×Obj)) (σ:St) (Q:List V→Hp→Prop) (us:List Value) (s':Shared):Prop:=∃ vs H',Inv X pins σ H' s'∧Vals vs us∧Q vs H'
def SP (X:Cx) (pins:List (Addr×Obj)) (D:Ends) (f:Flow) (s':Shared):Prop:=
 match f with
 | .next=>∃ σ' H',Inv X pins σ' H' s'∧D.nx σ' H'
 | .brk=>∃ σ' H',Inv X pins σ' H' s'∧D.bk σ' H'
 | .cont=>∃ σ' H',Inv X pins σ' H' s'∧D.ct σ' H'
 | .ret u=>∃ v σ' H',Inv X pins σ' H' s'∧RelV v u∧D.rt v H'
def PE (X:Cx) (e:Expr) (t:TE):Prop:=
 ∀ (pins:List (Addr×Obj)) (s:Shared) (σ:St) (H:Hp) (Q:VK),Inv X pins σ H s→t σ H Q→wpAny (model X.prog X.w) X.A (eval e X.env) (EP X pins σ Q) X.xe s
def PT (X:Cx) (e:Expr) (t:TT):Prop:=
 ∀ (pins:List (Addr×Obj)) (s:Shared) (σ:St) (H:Hp) (Q:Bool→Hp→Prop),Inv X pins σ H s→t σ H Q→wpAny (model X.prog X.w) X.A (isTrue e X.env (eval e X.env)) (TP X pins σ Q) X.xe s
def PW (X:Cx) (e:Expr) (t:TT):Prop:=
 ∀ (whole:Sem Value) (pins:List (Addr×Obj)) (s:Shared) (σ:St) (H:Hp) (Q:Bool→Hp→Prop),Inv X pins σ H s→t σ H Q→wpAny (model X.prog X.w) X.A (isTrue e X.env whole) (TP X pins σ Q) X.xe s
theorem PW.pt {X:Cx}{e:Expr}{t:TT} (h:PW X e t):PT X e t:=h _
def PA (X:Cx) (es:List Expr) (t:TA):Prop:=
 ∀ (pos:Pos) (pins:List (Addr×Obj)) (s:Shared) (σ:St) (H:Hp) (Q:List V→Hp→Prop),Inv X pins σ H s→t σ H Q→wpAny (model X.prog X.w) X.A (spliced (backTo pos (starEach es X.env))) (AP X pins σ Q) X.xe s
def PS (X:Cx) (st:Stmt) (t:TS):Prop:=
 ∀ (pins:List (Addr×Obj)) (s:Shared) (σ:St) (H:Hp) (D:Ends),Inv X pins σ H s→t D σ H→wpAny (model X.prog X.w) X.A (exec st X.env) (SP X pins D) X.xe s
def Jc (X:Cx) (st:List Stmt) (t:TS):Prop:=
 ∀ (pins:List (Addr×Obj)) (s:Shared) (σ:St) (H:Hp) (D:Ends),Inv X pins σ H s→t D σ H→wpAny (model X.prog X.w) X.A (execs st X.env) (SP X pins D) X.xe s
theorem dI {α:Type}{t:Sem α}{Q Q':α→Shared→Prop}{M:Model}{A:Around}{E:Value→Shared→Prop}{s:Shared} (h:wpAny M A t Q E s) (hQ:∀ a s,Q a s→Q' a s):wpAny M A t Q' E s:=wpAny_mono h hQ fun _ _ x=>x
end L2
namespace L2
open PySem PySem.Spec PyProof.Rows
section
variable {X:Cx}
def xH (i:Nat):TE:=fun σ H Q=>∃ v,σ[i]?=some (some v)∧Q v H
def tC (v:V):TE:=fun _ H Q=>Q v H
theorem Je {i:Nat}{x:Str}{pos:Pos} (hN:X.N[i]?=some x) (hv:Ys X.env.scope x) (hd:(x==("__debug__":Str))=false:=by decide) (hcd:(x==("__classdict__":Str))=false:=by decide):PE X (.Name x pos) (xH i):=by
 intro pins s σ H Q I h;obtain ⟨v,e,h⟩:=h;obtain ⟨m,hn,hl⟩:=I.loc;obtain ⟨u,r,l⟩:=hl i x v hN e hv;have fin:EP X pins σ Q u s:=⟨v,H,I,r,h⟩;rcases l with ⟨hk,hm⟩ | ⟨hk,c,hc,hcell⟩
 ·exact wpAny_Name (wpAny_loadName_local I.ok.kind hk hn hm fin) hd
 ·rcases hk with hk | hk
  ·exact wpAny_Name (wpAny_loadName_cell I.ok.kind hk hc hcell fin) hd
  ·exact wpAny_Name (wpAny_loadName_free I.ok.kind hk hc hcell fin hcd) hd
theorem aR {i j pos}:PE X (.Constant (.int i) j pos) (tC (.int i)):=fun _ _ _ H _ I h=>wpAny_Constant_int ⟨.int i,H,I.tok _,⟨_,rfl⟩,h⟩
theorem Em {b j pos}:PE X (.Constant (.bool b) j pos) (tC (.bl b)):=fun _ _ _ H _ I h=>Constant_bool ⟨.bl b,H,I,rfl,h⟩
theorem cR {x j pos}:PE X (.Constant (.str x) j pos) (tC (.str x)):=fun _ _ _ H _ I h=>Calls.Constant_str ⟨.str x,H,I.tok _,⟨_,rfl⟩,h⟩
def Gl (X:Cx) (x:Str):Prop:=X.env.kindOf x=some .globalImplicit
theorem jT {E:Value→Shared→Prop}{pins:List (Addr×Obj)}{s:Shared}{σ:St}{H:Hp}{x:Str}{u:Value}{pos:Pos}{Q:Value→Shared→Prop} (I:Inv X pins σ H s) (hg:Gl X x) (hm:X.mg x=some u) (h:Q u s)
  (hd:(x==("__debug__":Str))=false:=by decide):wpAny (model X.prog X.w) X.A (eval (.Name x pos) X.env) Q E s:=
 Calls.Name_function_global I.ok.kind hg (Calls.loadGlobal_global (by rw [I.ok.glob];exact I.mod.glob.keeps I.bk) hm h) hd
theorem Ck {E:Value→Shared→Prop}{pins:List (Addr×Obj)}{s:Shared}{σ:St}{H:Hp}{x:Str}{u:Value}{pos:Pos}{Q:Value→Shared→Prop} (I:Inv X pins σ H s) (hg:Gl X x) (hm:X.mg x=none) (hv:bootBuiltins x=some u) (h:Q u s)
  (hn:x≠"__name__":=by decide) (hd:(x==("__debug__":Str))=false:=by decide):wpAny (model X.prog X.w) X.A (eval (.Name x pos) X.env) Q E s:=by
 obtain ⟨mb,h1,h2⟩:=I.mod.blt;exact Calls.Name_function_global I.ok.kind hg (Calls.loadGlobal_builtin (by rw [I.ok.glob];exact I.mod.glob.keeps I.bk) hm (by rw [I.ok.blt];exact h1.keeps I.bk) ((h2 x hn).trans hv) h) hd
theorem bF {x:Str}{v:V}{u:Value}{pos:Pos} (hg:Gl X x) (hm:X.mg x=some u) (r:RelV v u) (hd:(x==("__debug__":Str))=false:=by decide):PE X (.Name x pos) (tC v):=
 fun _ _ _ H _ I h=>jT I hg hm ⟨v,H,I,r,h⟩ hd
variable {a b:Expr}{ta tb:TE}{pos:Pos}
def PC (X:Cx) (op:CmpOp) (a b:Expr) (t:TE):Prop:=
 ∀ (pins:List (Addr×Obj)) (s:Shared) (σ:St) (H:Hp) (Q:VK),Inv X pins σ H s→t σ H Q →
  wpAny (model X.prog X.w) X.A (eval a X.env) (fun v s₁=>wpAny (model X.prog X.w) X.A (eval b X.env) (fun u s₂=>wpAny (model X.prog X.w) X.A (compareOp op v u) (EP X pins σ Q) X.xe s₂) X.xe s₁) X.xe s
def tB (t:TE):TT:=fun σ H Q=>t σ H fun x H1=>∃ c,x=.bl c∧Q c H1
theorem Q0 {op:CmpOp}{t:TE} (h:PC X op a b t) (h1:behindInMarks op b=false:=by first | exact aaO _ (by decide) (by decide) | rfl):PE X (.Compare a [op] [b] pos) t:=fun pins s σ H Q I hw=>wpAny_Compare1 (h pins s σ H Q I hw) h1
theorem mD {e:Expr}{t:TE} (h:PE X e t) (he:∀ whole,isTrue e X.env whole=(do let v ←whole;standAt e.pos;holding [v] (truthy v)):=by intro _;rfl):PT X e (tB t):=by
 intro pins s σ H Q I hw;refine isTrue_plain (dI (h pins s σ H _ I hw) fun v s1 ⟨x,H1,I1,r1,q1⟩=>?_) (he _);obtain ⟨d,rfl,q⟩:=q1;cases r1;exact wpAny_truthy_bool ⟨H1,I1,q⟩
variable {tA tB':TT}{rest:List Expr}
def ac8 (t u:TT):TT:=fun σ H Q=>t σ H fun c H1=>if c=true then u σ H1 Q else Q false H1
def tOr (t u:TT):TT:=fun σ H Q=>t σ H fun c H1=>if c=true then Q true H1 else u σ H1 Q
def ac9 (t:TT):TT:=fun σ H Q=>t σ H fun c H1=>Q (!c) H1
theorem sZ (ha:PT X a tA):PW X (.BoolOp .And [a] pos) tA:=by
 intro wh pins s σ H Q I h;refine isTrue_and (dI (ha pins s σ H Q I h) fun c s1 e=>?_);cases c with
 | true=>exact isTrue_and_nil e
 | false=>exact e
theorem uG (ha:PT X a tA):PW X (.BoolOp .Or [a] pos) tA:=by
 intro wh pins s σ H Q I h;refine isTrue_or (dI (ha pins s σ H Q I h) fun c s1 e=>?_);cases c with
 | false=>exact isTrue_or_nil e
 | true=>exact e
theorem uH (ha:PT X a tA) (hb:PW X (.BoolOp .And (b::rest) pos) tB'):PW X (.BoolOp .And (a::b::rest) pos) (ac8 tA tB'):=by
 intro wh pins s σ H Q I h;refine isTrue_and (dI (ha pins s σ H _ I h) fun c s1 ⟨H1,I1,q1⟩=>?_);cases c with
 | true=>exact hb wh pins s1 σ H1 Q I1 q1
 | false=>exact ⟨H1,I1,q1⟩
theorem Ba (ha:PT X a tA) (hb:PW X (.BoolOp .Or (b::rest) pos) tB'):PW X (.BoolOp .Or (a::b::rest) pos) (tOr tA tB'):=by
 intro wh pins s σ H Q I h;refine isTrue_or (dI (ha pins s σ H _ I h) fun c s1 ⟨H1,I1,q1⟩=>?_);cases c with
 | true=>exact ⟨H1,I1,q1⟩
 | false=>exact hb wh pins s1 σ H1 Q I1 q1
theorem Jf (ha:PT X a tA):PT X (.UnaryOp .Not a pos) (ac9 tA):=by
 intro pins s σ H Q I h;exact isTrue_not (ha pins s σ H (fun c H1=>Q (!c) H1) I h)
def aaP (ta tb:TE):TE:=fun σ H Q=>ta σ H fun x H1=>∃ c,x=.bl c∧if c=true then tb σ H1 Q else Q (.bl false) H1
theorem Cm {op}{t:TE} (h:PE X a t):PE X (.BoolOp op [a] pos) t:=fun pins s σ H Q I hw=>BoolOp_one (h pins s σ H Q I hw)
theorem Cp (ha:PE X a ta) (hb:PE X (.BoolOp .And (b::rest) pos) tb):PE X (.BoolOp .And (a::b::rest) pos) (aaP ta tb):=by
 intro pins s σ H Q I h;refine BoolOp_and (dI (ha pins s σ H _ I h) fun v s1 ⟨x,H1,I1,r1,q1⟩=>?_);obtain ⟨c,rfl,q1⟩:=q1;cases r1;refine wpAny_truthy_bool ?_;cases c with
 | true=>exact hb pins s1 σ H1 Q I1 q1
 | false=>exact ⟨.bl false,H1,I1,rfl,q1⟩
def tIf (t:TT) (ta tb:TE):TE:=fun σ H Q=>t σ H fun c H1=>if c=true then ta σ H1 Q else tb σ H1 Q
theorem Q5 {c:Expr} (hc:PT X c tA) (ha:PE X a ta) (hb:PE X b tb):PE X (.IfExp c a b pos) (tIf tA ta tb):=by
 intro pins s σ H Q I h;refine wpAny_IfExp (dI (hc pins s σ H _ I h) fun d s1 ⟨H1,I1,q1⟩=>?_);cases d with
 | true=>exact ha pins s1 σ H1 Q I1 q1
 | false=>exact hb pins s1 σ H1 Q I1 q1
end
end L2
namespace L2
open PySem PySem.Spec PyProof.Rows
def bO (K:PySem.W.Frag) (H:Hp) (a:Addr) (xs:List V):Prop:=
 Rd H a (.lst xs) ∨
  ∃ (o:Obj) (its:Array Value) (n:Nat),K.lookup a=some o∧o.cls=.type "list"∧o.dict=none∧o.data=.seq its n∧its.size≤sizeLine∧Vals xs its.toList
def tD (K:PySem.W.Frag) (H:Hp) (a:Addr) (xs:List V):Prop:=
 Rd H a (.tup xs) ∨
  ∃ (o:Obj) (its:Array Value) (n:Nat),K.lookup a=some o∧o.cls=.type "tuple"∧o.data=.seq its n∧its.size≤sizeLine∧Vals xs its.toList
def ada:Value→Option V
 | .none=>some .non
 | .bool b=>some (.bl b)
 | .int i _=>some (.int i)
 | .str x _=>some (.str x)
 | .bytes b _=>some (.QL b)
 | .float b _=>some (.flt b)
 | .ref a=>some (.ref a)
 | .type n=>some (.ty n)
 | _=>none
theorem RelV.abs {x:V}{u:Value} (r:RelV x u):ada u=some x:=by
 cases x with
 | non=>cases r;rfl
 | bl _=>cases r;rfl
 | int _=>obtain ⟨t,rfl⟩:=r;rfl
 | str _=>obtain ⟨t,rfl⟩:=r;rfl
 | QL _=>obtain ⟨t,rfl⟩:=r;rfl
 | flt _=>obtain ⟨t,rfl⟩:=r;rfl
 | ref _=>cases r;rfl
 | ty _=>cases r;rfl
theorem RelV.inj {x y:V}{u:Value} (r:RelV x u) (q:RelV y u):x=y:=Option.some.inj (r.abs.symm.trans q.abs)
theorem Vals.inj:∀ {xs ys:List V}{us:List Value},Vals xs us→Vals ys us→xs=ys
 | _,_,_,.nil,.nil=>rfl
 | _,_,_,.cons r t,.cons r' t'=>by rw [r.inj r',Vals.inj t t']
section
variable {X:Cx}{pins:List (Addr×Obj)}{σ:St}{H:Hp}{s:Shared}{a:Addr}{xs ys:List V}
theorem bO.of {K:PySem.W.Frag} (h:H a=some (.lst xs)):bO K H a xs:=.inl (.inl h)
theorem tD.of {K:PySem.W.Frag} (h:H a=some (.tup xs)):tD K H a xs:=.inl (.inl h)
theorem Inv.list (I:Inv X pins σ H s) (h:bO X.K H a xs):∃ its:List Value,Vals xs its∧PlainL s.heap a its.toArray∧xs.length≤sizeLine:=by
 rcases h with h | ⟨o,its,n,hk,hc,hd,hs,hz,r⟩
 ·obtain ⟨z,its,n,r,e⟩:=h.ok I.hok;exact ⟨its,r,⟨_,n,e,rfl,rfl,rfl⟩,z⟩
 ·refine ⟨its.toList,r,⟨o,n,I.rH a o hk,hc,hd,by simpa using hs⟩,?_⟩;have e:=r.length;simp only [Array.length_toList] at e;omega
theorem Inv.tuple (I:Inv X pins σ H s) (h:tD X.K H a xs):∃ its:List Value,Vals xs its∧IsTup s.heap a its.toArray∧xs.length≤sizeLine:=by
 rcases h with h | ⟨o,its,n,hk,hc,hs,hz,r⟩
 ·obtain ⟨z,its,r,p⟩:=h.ok I.hok;exact ⟨its,r,p,z⟩
 ·refine ⟨its.toList,r,⟨o,I.rH a o hk,hc,n,by simpa using hs⟩,?_⟩;have e:=r.length;simp only [Array.length_toList] at e;omega
theorem Inv.En (I:Inv X pins σ H s) (h:bO X.K H a xs) (h':bO X.K H a ys):xs=ys:=by
 obtain ⟨its,r,⟨o,n,e,_,_,d⟩,_⟩:=I.list h;obtain ⟨its',r',⟨o',n',e',_,_,d'⟩,_⟩:=I.list h';rw [e] at e';cases e';rw [d] at d';injection d' with d1 _
 have:its=its':=by simpa using congrArg Array.toList d1
 subst this;exact r.inj r'
theorem Inv.Om (I:Inv X pins σ H s) (h:tD X.K H a xs) (h':tD X.K H a ys):xs=ys:=by
 obtain ⟨its,r,⟨o,e,_,n,d⟩,_⟩:=I.tuple h;obtain ⟨its',r',⟨o',e',_,n',d'⟩,_⟩:=I.tuple h';rw [e] at e';cases e';rw [d] at d';injection d' with d1 _
 have:its=its':=by simpa using congrArg Array.toList d1
 subst this;exact r.inj r'
end
abbrev Cx.wish (X:Cx) (E:Value→Shared→Prop):Cx:={ X with xe:=E }
abbrev Cx.nox (X:Cx):Cx:=X.wish fun _ _=>False
theorem Cx.Ok.wish {X:Cx} (ok:X.Ok) (E:Value→Shared→Prop):(X.wish E).Ok:=
 ⟨ok.mod,ok.kind,ok.glob,ok.blt,ok.above,ok.inj,ok.has,ok.cab,ok.hd,ok.frames,ok.stk,ok.exf,ok.bs,ok.QM,ok.Oi,ok.Oj,ok.rG,ok.VH⟩
theorem Cx.Ok.jH {X:Cx}{E:Value→Shared→Prop} (ok:(X.wish E).Ok):X.Ok:=
 ⟨ok.mod,ok.kind,ok.glob,ok.blt,ok.above,ok.inj,ok.has,ok.cab,ok.hd,ok.frames,ok.stk,ok.exf,ok.bs,ok.QM,ok.Oi,ok.Oj,ok.rG,ok.VH⟩
section
variable {X:Cx}{pins:List (Addr×Obj)}{σ:St}{H:Hp}{s:Shared}{E:Value→Shared→Prop}
theorem Inv.wish (I:Inv X pins σ H s) (E:Value→Shared→Prop):Inv (X.wish E) pins σ H s:=⟨I.ok.wish E,I.os,I.bare,I.base,I.loc,I.cell,I.free,I.jQ,I.pin,I.hok,I.len⟩
theorem Inv.jH (I:Inv (X.wish E) pins σ H s):Inv X pins σ H s:=⟨I.ok.jH,I.os,I.bare,I.base,I.loc,I.cell,I.free,I.jQ,I.pin,I.hok,I.len⟩
theorem SP.jH {D:Ends}{f:Flow}{s':Shared} (h:SP (X.wish E) pins D f s'):SP X pins D f s':=by
 cases f with
 | next=>obtain ⟨σ',H',I,q⟩:=h;exact ⟨σ',H',I.jH,q⟩
 | brk=>obtain ⟨σ',H',I,q⟩:=h;exact ⟨σ',H',I.jH,q⟩
 | cont=>obtain ⟨σ',H',I,q⟩:=h;exact ⟨σ',H',I.jH,q⟩
 | ret u=>obtain ⟨v,σ',H',I,r,q⟩:=h;exact ⟨v,σ',H',I.jH,r,q⟩
theorem Jc.nox {st:List Stmt}{t:TS} (h:Jc X.nox st t):Jc X st t:=fun pins s σ H D I hw=>
 wpAny_mono (h pins s σ H D (I.wish _) hw) (fun _ _ q=>q.jH) fun _ _ z=>False.elim z
end
section
variable {X:Cx}{st:Stmt}{rest:List Stmt}{t u:TS}{e:Expr}{te:TE}{pos:Pos}
def aaR:TS:=fun D σ H=>D.nx σ H
def Yt (t u:TS):TS:=fun D σ H=>t { D with nx:=u D } σ H
theorem bU:Jc X [] aaR:=fun _ _ σ H _ I h=>wpAny_execs_nil ⟨σ,H,I,h⟩
theorem aq (h1:PS X st t) (h2:Jc X rest u):Jc X (st::rest) (Yt t u):=by
 intro pins s σ H D I h;refine wpAny_execs_cons (dI (h1 pins s σ H { D with nx:=u D } I h) fun f s1 q=>?_);cases f with
 | next=>
  obtain ⟨σ',H',I',q⟩:=q;exact h2 pins s1 σ' H' D I' q
 | ret v=>exact q
 | brk=>exact q
 | cont=>exact q
theorem aC (h1:PS X st t):Jc X [st] t:=by
 intro pins s σ H D I h;refine wpAny_execs_cons (dI (h1 pins s σ H D I h) fun f s1 q=>?_);cases f with
 | next=>exact wpAny_execs_nil q
 | ret v=>exact q
 | brk=>exact q
 | cont=>exact q
theorem Inv.quiet {pins:List (Addr×Obj)}{σ:St}{H:Hp}{s:Shared} (I:Inv X pins σ H s):interactive X.env=false:=by simp [interactive,I.ok.kind]
def Q6 (te:TE):TS:=fun D σ H=>te σ H fun _ H1=>D.nx σ H1
theorem aN (he:PE X e te) (hs:swapsWith e none pos.line X.env=pure false:=by rfl):PS X (.Expr e pos) (Q6 te):=by
 intro pins s σ H D I h;exact wpAny_Expr_any (dI (he pins s σ H _ I h) fun v s1 ⟨x,H1,I1,r1,q1⟩=>⟨σ,H1,I1,q1⟩) I.quiet hs
def aaS (te:TE):TS:=fun D σ H=>te σ H D.rt
theorem bf (he:PE X e te):PS X (.Return (some e) pos) (aaS te):=by
 intro pins s σ H D I h;exact wpAny_Return_some (dI (he pins s σ H _ I h) fun v s1 ⟨x,H1,I1,r1,q1⟩=>⟨x,σ,H1,I1,r1,q1⟩)
def adb (c:TT) (t u:TS):TS:=fun D σ H=>c σ H fun b H1=>if b=true then t D σ H1 else u D σ H1
theorem dD {c:Expr}{a b:List Stmt}{tc:TT} (hc:PT X c tc) (ha:Jc X a t) (hb:Jc X b u):PS X (.If c a b pos) (adb tc t u):=by
 intro pins s σ H D I h;refine wpAny_If (dI (hc pins s σ H _ I h) fun d s1 ⟨H1,I1,q1⟩=>?_);cases d with
 | true=>exact ha pins s1 σ H1 D I1 q1
 | false=>exact hb pins s1 σ H1 D I1 q1
end
abbrev TG:=V→St→Hp→(St→Hp→Prop)→Prop
abbrev XF:=List V→St→Hp→(St→Hp→Prop)→Prop
def PG (X:Cx) (target:Expr) (t:TG):Prop:=
 ∀ (pins:List (Addr×Obj)) (s:Shared) (σ:St) (H:Hp) (v:V) (u:Value) (Q:St→Hp→Prop),Inv X pins σ H s→RelV v u→t v σ H Q →
  wpAny (model X.prog X.w) X.A (assign target X.env u) (fun _ s'=>∃ σ' H',Inv X pins σ' H' s'∧Q σ' H') X.xe s
def PGs (X:Cx) (ts:List Expr) (t:XF):Prop:=
 ∀ (pins:List (Addr×Obj)) (s:Shared) (σ:St) (H:Hp) (vs:List V) (us:List Value) (Q:St→Hp→Prop),Inv X pins σ H s→Vals vs us→t vs σ H Q →
  wpAny (model X.prog X.w) X.A (assignInOrder ((assignEach ts X.env).map (·.2)) us) (fun _ s'=>∃ σ' H',Inv X pins σ' H' s'∧Q σ' H') X.xe s
abbrev TIp:=V→V→Hp→VK→Prop
def PIp (X:Cx) (op:Operator) (t:TIp):Prop:=
 ∀ (pins:List (Addr×Obj)) (s:Shared) (σ:St) (H:Hp) (x y:V) (v u:Value) (Q:VK),Inv X pins σ H s→RelV x v→RelV y u→t x y H Q →
  wpAny (model X.prog X.w) X.A (inplaceOp op v u) (EP X pins σ Q) X.xe s
section
variable {X:Cx}{pos:Pos}
def Lz (i:Nat):TG:=fun v σ H Q=>Q (σ.set i (some v)) H
theorem bY {i:Nat}{x:Str} (hN:X.N.Nodup) (hi:X.N[i]?=some x) (hx:Loc X.env.scope x) (hf:X.fn x=true∨X.env.scope.names.lookup x=some .local:=by first | exact .inl rfl | exact .inr rfl | assumption):PG X (.Name x pos) (Lz i):=by
 intro pins s σ H v u Q I r h;exact wpAny_assign_Name (sY I hN hi hx r (fun s' I'=>⟨_,H,I',h⟩) hf)
def ade:XF:=fun vs σ H Q=>vs=[]∧Q σ H
def aaU (t:TG) (u:XF):XF:=fun vs σ H Q=>∃ v r,vs=v::r∧t v σ H fun σ' H'=>u r σ' H' Q
theorem Cq:PGs X [] ade:=by
 intro pins s σ H vs us Q I r h;obtain ⟨e,h⟩:=h;subst e;cases r;exact assignInOrder_nil ⟨σ,H,I,h⟩
theorem m5 {e:Expr}{es:List Expr}{t:TG}{u:XF} (h1:PG X e t) (h2:PGs X es u)
  (hs:(assignEach (e::es) X.env).map (·.2)=assign e X.env::(assignEach es X.env).map (·.2):=by rfl):PGs X (e::es) (aaU t u):=by
 intro pins s σ H vs us Q I r h;obtain ⟨v,vr,e1,h⟩:=h;subst e1;cases r with
 | cons r rr=>
  rw [hs];refine assignInOrder_cons (dI (h1 pins s σ H _ _ _ I r h) fun _ s1 ⟨σ1,H1,I1,q1⟩=>?_);exact h2 pins s1 σ1 H1 _ _ Q I1 rr q1
def aaV (K:PySem.W.Frag) (n:Nat) (t:XF):TG:=fun v σ H Q=>∃ a xs,v=.ref a∧tD K H a xs∧xs.length=n∧t xs σ H Q
theorem Q7 {es:List Expr}{k:Nat}{t:XF}{n:Nat} (hc:X.calm=true) (h:PGs X es t)
  (hn:(assignEach es X.env).length=n:=by rfl) (hst:(assignEach es X.env).findIdx? (·.1)=none:=by rfl):PG X (.Tuple es k pos) (aaV X.K n t):=by
 intro pins s σ H v u Q I r hw;obtain ⟨a,xs,e1,hq,hl,hw⟩:=hw;subst e1;cases r;obtain ⟨its,rv,ht,hz⟩:=I.tuple hq;refine assign_Tuple_tuple (I.ok.hd hc) ht (by simp [hn,←hl,rv.length]) hst fun h' hx=>?_;have I1:Inv X pins σ H { s with heap:=h' }:=I.kept (t':=s.toks) fun b o e=>hx b o (Nat.ne_of_lt (Heap.lt_size e)) e;exact h pins _ σ H xs _ Q I1 (by simpa using rv) hw
def aaW (te:TE) (g:TG):TS:=fun D σ H=>te σ H fun x H1=>g x σ H1 D.nx
theorem aZ {i:Nat}{x:Str}{e:Expr}{te:TE}{pos':Pos} (hN:X.N.Nodup) (hi:X.N[i]?=some x) (hx:Loc X.env.scope x) (he:PE X e te) (hs:swapsWith e (some (.Name x pos')) pos.line X.env=pure false:=by rfl) (hf:X.fn x=true∨X.env.scope.names.lookup x=some .local:=by first | exact .inl rfl | exact .inr rfl | assumption) :
  PS X (.Assign [.Name x pos'] e pos) (aaW te (Lz i)):=by
 intro pins s σ H D I h;refine wpAny_Assign_Name (dI (he pins s σ H _ I h) fun v s1 ⟨y,H1,I1,r1,q1⟩=>?_) hs;exact sY I1 hN hi hx r1 (fun s2 I2=>⟨_,H1,I2,q1⟩) hf
def adf (i:Nat) (te:TE) (ti:TIp):TS:=fun D σ H=>∃ x,σ[i]?=some (some x)∧te σ H fun y H1=>ti x y H1 fun z H2=>D.nx (σ.set i (some z)) H2
theorem Cr {i:Nat}{x:Str}{e:Expr}{te:TE}{op:Operator}{ti:TIp}{pos':Pos} (hN:X.N.Nodup) (hi:X.N[i]?=some x) (hx:Loc X.env.scope x) (he:PE X e te) (ho:PIp X op ti) (hf:X.fn x=true∨X.env.scope.names.lookup x=some .local:=by first | exact .inl rfl | exact .inr rfl | assumption) :
  PS X (.AugAssign (.Name x pos') op e pos) (adf i te ti):=by
 intro pins s σ H D I h;obtain ⟨v,e1,h⟩:=h;obtain ⟨m,hn,hl⟩:=I.loc;have vis:Ys X.env.scope x:=by rcases hx with k | k;exact .inl k;exact .inr (.inl k)
 obtain ⟨u,r,l⟩:=hl i x v hi e1 vis;refine wpAny_AugAssign_Name ?_;have go:wpAny (model X.prog X.w) X.A (eval e X.env) (fun w s₂=>wpAny (model X.prog X.w) X.A (inplaceOp op u w) (fun r s₃=>wpAny (model X.prog X.w) X.A (storeName X.env x r) (fun _=>SP X pins D .next) X.xe s₃) X.xe s₂) X.xe s:=by
  refine dI (he pins s σ H _ I h) fun w s1 ⟨y,H1,I1,r1,q1⟩=>?_;refine dI (ho pins s1 σ H1 v y u w _ I1 r r1 q1) fun z s2 ⟨zv,H2,I2,r2,q2⟩=>?_;exact sY I2 hN hi hx r2 (fun s3 I3=>⟨_,H2,I3,q2⟩) hf
 rcases l with ⟨hk,hm⟩ | ⟨hk,c,hc,hcell⟩
 ·exact wpAny_loadName_local I.ok.kind hk hn hm go
 ·rcases hk with hk | hk
  ·exact wpAny_loadName_cell I.ok.kind hk hc hcell go
  ·rcases hx with k | k
   ·have:X.env.scope.names.lookup x=some .free:=hk;rw [k] at this;cases this
   ·have:X.env.scope.names.lookup x=some .free:=hk;rw [k] at this;cases this
def ipI (f:Int→Int→Int):TIp:=fun x y H Q=>∃ i j,x=.int i∧y=.int j∧Q (.int (f i j)) H
theorem Cu:PIp X .Add (ipI fun i j=>i+j):=by
 intro pins s σ H x y v u Q I r1 r2 h;obtain ⟨i,j,e1,e2,q⟩:=h;subst e1;subst e2;obtain ⟨t,rfl⟩:=r1;obtain ⟨t',rfl⟩:=r2;exact iadd_int ⟨.int _,H,I.tok _,⟨_,rfl⟩,q⟩
end
section
variable {X:Cx}{pos:Pos}
def Q8 (c:TT) (tb:TS):TS:=fun D σ H=>∃ W:Nat→St→Hp→Prop,(∃ m,W m σ H)∧∀ m σ H,W m σ H →
 c σ H fun b H1=>if b=true then ∃ N:St→Hp→Prop,(∀ σ' H',N σ' H'→∃ m',m' < m∧W m' σ' H')∧tb { D with nx:=N,ct:=N,bk:=D.nx } σ H1 else D.nx σ H1
theorem gU {c:Expr}{body:List Stmt}{tc:TT}{tb:TS} (hp:PassesOwn (model X.prog X.w) X.A X.env X.xe) (hc:PT X c tc) (hb:Jc X body tb):PS X (.While c body [] pos) (Q8 tc tb):=by
 intro pins s σ H D I h;obtain ⟨W,⟨m0,w0⟩,turn⟩:=h;refine wpAny_While (codeAny_whileLoop (fun n s'=>∃ σ' H',Inv X pins σ' H' s'∧W n σ' H') ?_ m0 ⟨σ,H,I,w0⟩);rintro n s1 ⟨σ1,H1,I1,w1⟩;refine wpAny_passesOwn hp (dI (hc pins s1 σ1 H1 _ I1 (turn n σ1 H1 w1)) fun b s2 ⟨H2,I2,q2⟩=>?_);cases b with
 | true=>
  obtain ⟨N,hN,q2⟩:=q2;rw [if_pos rfl];refine wpAny_passesOwn hp (dI (hb pins s2 σ1 H2 _ I2 q2) fun f s3 q3=>?_);cases f with
  | next=>
   obtain ⟨σ3,H3,I3,n3⟩:=q3;obtain ⟨m',hm,w3⟩:=hN σ3 H3 n3;exact ⟨m',hm,σ3,H3,I3,w3⟩
  | cont=>
   obtain ⟨σ3,H3,I3,n3⟩:=q3;obtain ⟨m',hm,w3⟩:=hN σ3 H3 n3;exact ⟨m',hm,σ3,H3,I3,w3⟩
  | brk=>exact q3
  | ret v=>exact q3
 | false=>
  rw [if_neg Bool.false_ne_true];exact wpAny_execs_nil ⟨σ1,H2,I2,q2⟩
end
structure It where
 go:Nat→Hp→Prop
 VL:Nat→Hp→V→Hp→Prop
 stop:Nat→Hp→Prop
def xJ (X:Cx) (pins:List (Addr×Obj)) (H:Hp) (b:Addr):Prop:=
 H b=none∧b≠X.env.locals∧b∉X.fs∧(b∈X.ex∨X.s_0.heap.objs.size≤b)∧(∀ x c,X.env.cells.lookup x=some c→c≠b)∧∀ p∈X.pn++pins,p.1≠b
theorem Inv.Oo {X:Cx}{pins:List (Addr×Obj)}{σ:St}{H H':Hp}{s:Shared}{b:Addr} (I:Inv X pins σ H s) (hb:s.heap.objs.size≤b) (hn:H' b=none):xJ X pins H' b:=by
 refine ⟨hn,Nat.ne_of_gt (Nat.lt_of_lt_of_le I.lt hb),I.aaL hb,.inr (Nat.le_trans I.sz hb),fun x c e z=>?_,fun p hp z=>?_⟩
 ·obtain ⟨v,q⟩:=I.cell x c e;exact absurd (Nat.lt_of_lt_of_le q.lt (by rw [z];exact hb)) (Nat.lt_irrefl _)
 ·exact absurd (Nat.lt_of_lt_of_le (Heap.lt_size (I.pin p hp).1) (by rw [z];exact hb)) (Nat.lt_irrefl _)
structure Turn (P:Program) (w:World) (K:PySem.W.Frag) (tg:Expr) (J:It) (fp:List Addr) (it:Addr) (tn:Nat→Heap→Prop):Prop where
 mem:it∈fp
 obj:∀ i h,tn i h→∀ b∈fp,∃ o,h.get? b=some o∧∀ v,o.data≠.cell v
 keep:∀ i h h',tn i h→(∀ b∈fp,∀ o,h.get? b=some o→h'.get? b=some o)→tn i h'
 item:∀ (X:Cx),X.prog=P→X.w=w→X.K=K→X.calm=true→∀ (i:Nat) (pins:List (Addr×Obj)) (s:Shared) (σ:St) (H:Hp) (E:Value→Shared→Prop),Inv X pins σ H s→(∀ b∈fp,xJ X pins H b)→tn i s.heap→J.go i H →
  wpAny (model P w) X.A (pyNext (.ref it)) (fun r s1=>∃ u,r=some u ∧
   wpAny (model P w) X.A (letOwnedTupleGo tg (.ref it) u) (fun _ s2=>∃ x H',Inv X pins σ H' s2∧RelV x u∧J.VL i H x H'∧tn (i+1) s2.heap∧∀ b∈fp,H' b=none) E s1) E s
 done:∀ (X:Cx),X.prog=P→X.w=w→X.K=K→X.calm=true→∀ (i:Nat) (pins:List (Addr×Obj)) (s:Shared) (σ:St) (H:Hp) (E:Value→Shared→Prop),Inv X pins σ H s→(∀ b∈fp,xJ X pins H b)→tn i s.heap→J.stop i H →
  wpAny (model P w) X.A (pyNext (.ref it)) (fun r s1=>r=none∧Inv X pins σ H s1) E s
 self:∀ (A:Around) (i:Nat) (s:Shared) (Q:Value→Shared→Prop) (E:Value→Shared→Prop),tn i s.heap→Q (.ref it) s→wpAny (model P w) A (pyIter (.ref it)) Q E s
abbrev TI:=St→Hp→(It→Hp→Prop)→Prop
def PIE (X:Cx) (pins:List (Addr×Obj)) (σ:St) (tg:Expr) (R:It→Hp→Prop) (itv:Value) (s2:Shared):Prop:=
 ∃ (it:Addr) (fp:List Addr) (tn:Nat→Heap→Prop) (J:It) (H':Hp),itv=.ref it∧Inv X pins σ H' s2∧Turn X.prog X.w X.K tg J fp it tn∧tn 0 s2.heap∧(∀ b∈fp,xJ X pins H' b)∧R J H'
def PI (X:Cx) (tg iter:Expr) (wi:TI):Prop:=
 ∀ (pins:List (Addr×Obj)) (s:Shared) (σ:St) (H:Hp) (R:It→Hp→Prop),Inv X pins σ H s→wi σ H R →
  wpAny (model X.prog X.w) X.A (eval iter X.env) (fun v s1=>wpAny (model X.prog X.w) X.A (pyIter v) (PIE X pins σ tg R) X.xe s1) X.xe s
theorem LC {M:Model}{A:Around}{E:Value → Shared → Prop}{s:Shared}{tg:Expr}{it:Addr}{u:Value}{o:Obj}{n:String}{vs:Array Value}{Q:Unit → Shared → Prop} (ho:s.heap.get? it=some o) (hc:o.cls=.type n) (hd:o.data=.fields vs)
    (hn:["enumerate", "zip", "dict_itemiterator", "dict_reverseitemiterator", "odict_iterator", "itertools.zip_longest", "itertools.pairwise"].contains n=false) (hQ:Q () s):wpAny M A (letOwnedTupleGo tg (.ref it) u) Q E s:= by
  unfold letOwnedTupleGo;cases tg <;> first
    | exact wpAny_pure hQ
    | (cases u <;> first
        | exact wpAny_pure hQ
        | (refine wpAny_bind (wpAny_load ho ?_)
           rw [hc, hd];show wpAny M A (if (["enumerate", "zip", "dict_itemiterator", "dict_reverseitemiterator", "odict_iterator", "itertools.zip_longest", "itertools.pairwise"].contains n&&vs[0]?==some (rawInt _))=true then _ else _) Q E s;rw [if_neg (by intro h;rw [hn, Bool.false_and] at h;cases h)];exact wpAny_pure hQ))
def XH (K:PySem.W.Frag) (a:Addr):It:=
 ⟨fun i H=>∃ xs x,bO K H a xs∧xs[i]?=some x,fun i H x H'=>H'=H∧∀ xs,bO K H a xs→xs[i]?=some x,fun i H=>∃ xs,bO K H a xs∧xs.length≤i⟩
def Itt (K:PySem.W.Frag) (a:Addr):It:=
 ⟨fun i H=>∃ xs x,tD K H a xs∧xs[i]?=some x,fun i H x H'=>H'=H∧∀ xs,tD K H a xs→xs[i]?=some x,fun i H=>∃ xs,tD K H a xs∧xs.length≤i⟩
def Itr (lo:Int) (n:Nat):It:=⟨fun i _=>i < n,fun i H x H'=>H'=H∧x=.int (lo+i),fun i _=>n≤i⟩
theorem Oq {P:Program}{w:World}{K:PySem.W.Frag}{tg:Expr} (a it:Addr):Turn P w K tg (XH K a) [it] it (fun i h=>h.IsListIter it a i) where
 mem:=by simp
 obj:=fun i h st b hb=>by
  have e:b=it:=by simpa using hb
  subst e;obtain ⟨o,e,c,d⟩:=st;exact ⟨o,e,fun v z=>by rw [d] at z;cases z⟩
 keep:=fun i h h' st k=>st.at fun o e=>k it (by simp) o e
 item:=by
  intro X hP hw hK hc i pins s σ H E I hf st hg;subst hP hw hK;obtain ⟨xs,x,hq,hx⟩:=hg;obtain ⟨its,rv,p,hz⟩:=I.list hq;obtain ⟨u,hu,ru⟩:=rv.get hx;obtain ⟨f0,f1,f2,f3,f4,f5⟩:=hf it (by simp);refine wpAny_pyNext_list_item st p.isList (x:=u) (by simpa using hu) fun h' st' sb=>?_;have I1:Inv X pins σ H { s with heap:=h' }:=I.turned (t':=s.toks) (fun b o hb e=>(sb.2 b hb).trans e) f0 f1 f3 f4 f5;obtain ⟨o,e,c,d⟩:=id st';exact ⟨u,rfl,LC (s:={ s with heap:=h' }) e c d (by decide) ⟨x,H,I1,ru,⟨rfl,fun ys hy=>by rw [I.En hy hq];exact hx⟩,st',fun b hb=>(hf b hb).1⟩⟩
 done:=by
  intro X hP hw hK hc i pins s σ H E I hf st hg;subst hP hw hK;obtain ⟨xs,hq,hx⟩:=hg;obtain ⟨its,rv,p,hz⟩:=I.list hq;obtain ⟨f0,f1,f2,f3,f4,f5⟩:=hf it (by simp);have hl:=rv.length;exact wpAny_pyNext_list_end (I.ok.hd hc) st p.isList (by simp;omega) fun h' eb=>⟨rfl,I.turned (t':=s.toks) (fun b o hb e=>eb b o hb e) f0 f1 f3 f4 f5⟩
 self:=fun _ _ _ _ _ st h=>wpAny_pyIter_listiter st h
theorem Jg {P:Program}{w:World}{K:PySem.W.Frag}{tg:Expr} (a it:Addr):Turn P w K tg (Itt K a) [it] it (fun i h=>h.IsTupleIter it a i) where
 mem:=by simp
 obj:=fun i h st b hb=>by
  have e:b=it:=by simpa using hb
  subst e;obtain ⟨o,e,c,d⟩:=st;exact ⟨o,e,fun v z=>by rw [d] at z;cases z⟩
 keep:=fun i h h' st k=>st.at fun o e=>k it (by simp) o e
 item:=by
  intro X hP hw hK hc i pins s σ H E I hf st hg;subst hP hw hK;obtain ⟨xs,x,hq,hx⟩:=hg;obtain ⟨its,rv,p,hz⟩:=I.tuple hq;obtain ⟨u,hu,ru⟩:=rv.get hx;obtain ⟨f0,f1,f2,f3,f4,f5⟩:=hf it (by simp);refine wpAny_pyNext_tuple_item st (show s.heap.IsTuple a its.toArray from p) (x:=u) (by simpa using hu) fun h' st' sb=>?_;have I1:Inv X pins σ H { s with heap:=h' }:=I.turned (t':=s.toks) (fun b o hb e=>(sb.2 b hb).trans e) f0 f1 f3 f4 f5;obtain ⟨o,e,c,d⟩:=id st';exact ⟨u,rfl,LC (s:={ s with heap:=h' }) e c d (by decide) ⟨x,H,I1,ru,⟨rfl,fun ys hy=>by rw [I.Om hy hq];exact hx⟩,st',fun b hb=>(hf b hb).1⟩⟩
 done:=by
  intro X hP hw hK hc i pins s σ H E I hf st hg;subst hP hw hK;obtain ⟨xs,hq,hx⟩:=hg;obtain ⟨its,rv,p,hz⟩:=I.tuple hq;obtain ⟨f0,f1,f2,f3,f4,f5⟩:=hf it (by simp);have hl:=rv.length;exact wpAny_pyNext_tuple_end (I.ok.hd hc) st (show s.heap.IsTuple a its.toArray from p) (by simp;omega) fun h' eb=>⟨rfl,I.turned (t':=s.toks) (fun b o hb e=>eb b o hb e) f0 f1 f3 f4 f5⟩
 self:=fun _ _ _ _ _ st h=>wpAny_pyIter_tupleiter st h
theorem Jh {P:Program}{w:World}{K:PySem.W.Frag}{tg:Expr} (it:Addr) (lo:Int) (n:Nat):Turn P w K tg (Itr lo n) [it] it (fun i h=>IsRangeIter h it (lo+(i:Nat)*1) ((n:Int)-(i:Nat)) 1) where
 mem:=by simp
 obj:=fun i h st b hb=>by
  have e:b=it:=by simpa using hb
  subst e;exact ⟨_,st,fun v z=>by
   have z':Data.fields _=Data.cell v:=z;cases z'⟩
 keep:=fun i h h' st k=>k it (by simp) _ st
 item:=by
  intro X hP hw hK hc i pins s σ H E I hf st hg;subst hP hw hK;obtain ⟨f0,f1,f2,f3,f4,f5⟩:=hf it (by simp);have W:=Walks.range (prog:=X.prog) (w:=X.w) (I.ok.hd hc) it lo 1 n;refine W.item i s _ _ hg st fun v h' tk hv st' kk=>?_;obtain ⟨t,rfl⟩:=hv;have I1:Inv X pins σ H { s with heap:=h',toks:=tk }:=I.turned (fun b o hb e=>kk b o (by simpa using hb) e) f0 f1 f3 f4 f5;refine ⟨_,rfl,LC (s:={ s with heap:=h',toks:=tk }) (n:="range_iterator") st' rfl rfl (by decide) ⟨.int (lo+i),H,I1,⟨t,?_⟩,⟨rfl,rfl⟩,st',fun b hb=>(hf b hb).1⟩⟩;rw [Int.mul_one]
 done:=by
  intro X hP hw hK hc i pins s σ H E I hf st hg;subst hP hw hK;obtain ⟨f0,f1,f2,f3,f4,f5⟩:=hf it (by simp);exact wpAny_pyNext_range_end (I.ok.hd hc) st (by have:n≤i:=hg;omega) fun h' eb=>⟨rfl,I.turned (t':=s.toks) (fun b o hb e=>eb b o hb e) f0 f1 f3 f4 f5⟩
 self:=fun _ _ _ _ _ st h=>wpAny_pyIter_rangeiter st h
end L2
namespace L2
open PySem PySem.Spec PyProof.Rows
section
variable {X:Cx}{tg:Expr}
def aaY (K:PySem.W.Frag) (tl:TE):TI:=fun σ H R=>tl σ H fun x H1=>∃ a,x=.ref a∧(∃ xs,bO K H1 a xs)∧R (XH K a) H1
def adg (K:PySem.W.Frag) (tl:TE):TI:=fun σ H R=>tl σ H fun x H1=>∃ a,x=.ref a∧(∃ xs,tD K H1 a xs)∧R (Itt K a) H1
theorem dF {l:Expr}{tl:TE} (hl:PE X l tl):PI X tg l (aaY X.K tl):=by
 intro pins s σ H R I h;refine dI (hl pins s σ H _ I h) fun v s1 ⟨x,H1,I1,r1,q1⟩=>?_;obtain ⟨a,e,⟨xs,hq⟩,q⟩:=q1;subst e;cases r1;obtain ⟨its,rv,p,hz⟩:=I1.list hq;refine wpAny_pyIter_list p.isList ?_;refine ⟨s1.heap.objs.size,[s1.heap.objs.size],_,_,H1,rfl,I1.kept (t':=s1.toks) fun b o e=>Heap.get?_push_of_some _ e,Oq a _,⟨_,Heap.get?_push_size _ rfl,rfl,rfl⟩,fun b hb=>?_,q⟩;have e:b=s1.heap.objs.size:=by simpa using hb
 subst e;exact I1.Oo (Nat.le_refl _) (I1.hok.fresh (Nat.le_refl _))
theorem Yu {l:Expr}{tl:TE} (hl:PE X l tl):PI X tg l (adg X.K tl):=by
 intro pins s σ H R I h;refine dI (hl pins s σ H _ I h) fun v s1 ⟨x,H1,I1,r1,q1⟩=>?_;obtain ⟨a,e,⟨xs,hq⟩,q⟩:=q1;subst e;cases r1;obtain ⟨its,rv,p,hz⟩:=I1.tuple hq;refine wpAny_pyIter_tuple (show s1.heap.IsTuple a its.toArray from p) ?_;refine ⟨s1.heap.objs.size,[s1.heap.objs.size],_,_,H1,rfl,I1.kept (t':=s1.toks) fun b o e=>Heap.get?_push_of_some _ e,Jg a _,⟨_,Heap.get?_push_size _ rfl,rfl,rfl⟩,fun b hb=>?_,q⟩;have e:b=s1.heap.objs.size:=by simpa using hb
 subst e;exact I1.Oo (Nat.le_refl _) (I1.hok.fresh (Nat.le_refl _))
theorem Q9 {pins:List (Addr×Obj)}{σ:St}{H:Hp}{s:Shared}{R:It→Hp→Prop}{E:Value→Shared→Prop}{lo hi:Int}{t u v:Tok}{tk:Nat} (I:Inv X pins σ H s) (h1:-(2 ^ 62)≤lo) (h2:lo < 2 ^ 62) (h3:-(2 ^ 62)≤hi) (h4:hi < 2 ^ 62)
  (q:R (Itr lo (hi-lo).toNat) H):wpAny (model X.prog X.w) X.A (pyIter (.ref s.heap.objs.size)) (PIE X pins σ tg R) E { s with heap:=s.heap.push { cls:=.type "range",data:=.fields #[.int lo t,.int hi u,.int 1 v] },toks:=tk }:=by
 refine wpAny_pyIter_range (IsRange.new ..) (small_one h1 h2 h3 h4) ?_;have I1:Inv X pins σ H { s with heap:=s.heap.push { cls:=.type "range",data:=.fields #[.int lo t,.int hi u,.int 1 v] },toks:=tk }:=I.kept fun b o e=>Heap.get?_push_of_some _ e;refine ⟨(s.heap.push { cls:=.type "range",data:=.fields #[.int lo t,.int hi u,.int 1 v] }).objs.size,[(s.heap.push { cls:=.type "range",data:=.fields #[.int lo t,.int hi u,.int 1 v] }).objs.size],_,_,H,rfl,
  I1.kept (t':=tk) fun b o e=>Heap.get?_push_of_some _ e,Jh _ lo (hi-lo).toNat,?_,fun b hb=>?_,q⟩
 ·have e1:lo+((0:Nat):Int)*1=lo:=by simp
  have e2:(((hi-lo).toNat:Nat):Int)-((0:Nat):Int)=Builtin.Range.rangeSize lo hi 1:=by rw [rangeSize_one];split <;> omega
  show IsRangeIter _ _ (lo+((0:Nat):Int)*1) ((((hi-lo).toNat:Nat):Int)-((0:Nat):Int)) 1;rw [e1,e2];exact Heap.get?_push_size _ rfl
 ·have e:b=(s.heap.push { cls:=.type "range",data:=.fields #[.int lo t,.int hi u,.int 1 v] }).objs.size:=by simpa using hb
  subst e;exact I1.Oo (Nat.le_refl _) (I1.hok.fresh (Nat.le_refl _))
def aaZ (ta:TA):TI:=fun σ H R=>ta σ H fun vs H1=>∃ i j:Int,vs=[.int i,.int j]∧(-(2 ^ 62)≤i∧i < 2 ^ 62∧-(2 ^ 62)≤j∧j < 2 ^ 62)∧R (Itr i (j-i).toNat) H1
theorem Ot {a b:Expr}{ta:TA}{p pos:Pos} (hg:Gl X "range") (hm:X.mg "range"=none) (ha:PA X [a,b] ta) (hs:starEach [a,b] X.env=[(false,eval a X.env),(false,eval b X.env)]:=by rfl) (hs2:starEach [b] X.env=[(false,eval b X.env)]:=by rfl) :
  PI X tg (.Call (.Name "range" p) [a,b] [] pos) (aaZ ta):=by
 intro pins s σ H R I h;refine Call_ (Ck I hg hm boot_range (PyProof.Rows.callWith_type1 (dI (ha pos pins s σ H _ I h) fun us s1 ⟨vs,H1,I1,r1,q1⟩=>?_) (by rw [hs,hs2]) (by rw [hs2];rfl)));obtain ⟨i,j,e,⟨q1,q2,q3,q4⟩,q⟩:=q1;subst e;cases r1 with
 | cons r rr=>
  cases rr with
  | cons r' rr=>
   cases rr;obtain ⟨t,rfl⟩:=r;obtain ⟨t',rfl⟩:=r';exact call_range_2 (Q9 I1 q1 q2 q3 q4 q)
def adh (wi:TI) (g:TG) (tb:TS):TS:=fun D σ H=>wi σ H fun J H1=>∃ W:Nat→Nat→St→Hp→Prop,(∃ m,W 0 m σ H1)∧∀ i m σ H,W i m σ H →
 (J.stop i H∧D.nx σ H)∨(J.go i H∧∃ N:St→Hp→Prop,(∀ σ' H',N σ' H'→∃ m',m' < m∧W (i+1) m' σ' H')∧∀ x H',J.VL i H x H'→g x σ H' fun σ2 H2=>tb { D with nx:=N,ct:=N,bk:=D.nx } σ2 H2)
def xK (fp:List Addr) (h:Heap):List (Addr×Obj):=fp.filterMap fun b=>(h.get? b).map fun o=>(b,o)
theorem rJ {fp:List Addr}{h:Heap}{b:Addr}{o:Obj} (hb:b∈fp) (e:h.get? b=some o):(b,o)∈xK fp h:=List.mem_filterMap.mpr ⟨b,hb,by rw [e];rfl⟩
theorem Ou {fp:List Addr}{h:Heap}{p:Addr×Obj} (hp:p∈xK fp h):p.1∈fp∧h.get? p.1=some p.2:=by
 obtain ⟨b,hb,e⟩:=List.mem_filterMap.mp hp;cases q:h.get? b with
 | none=>rw [q] at e;cases e
 | some o=>
  rw [q] at e;have e':(b,o)=p:=Option.some.inj e;subst e';exact ⟨hb,q⟩
theorem Inv.pinned {pins:List (Addr×Obj)}{σ:St}{H:Hp}{s:Shared}{fp:List Addr} (I:Inv X pins σ H s) (hf:∀ b∈fp,xJ X pins H b) (ho:∀ b∈fp,∃ o,s.heap.get? b=some o∧∀ v,o.data≠.cell v):Inv X (pins++xK fp s.heap) σ H s:=
 I.wI fun p hp=>(List.mem_append.mp hp).elim (fun z=>I.pin p (List.mem_append_right _ z)) fun z=>by
  obtain ⟨hb,e⟩:=Ou z;obtain ⟨f0,f1,f2,_⟩:=hf p.1 hb;obtain ⟨o,e',d⟩:=ho p.1 hb;rw [e] at e';cases e';exact ⟨e,f0,f1,f2,d⟩
theorem Inv.tE {pins pl:List (Addr×Obj)}{σ:St}{H:Hp}{s:Shared} (I:Inv X (pins++pl) σ H s):Inv X pins σ H s:=I.wI fun p hp=>I.pin p (List.mem_append_right _ (List.mem_append_left _ hp))
theorem uI {iter:Expr}{body:List Stmt}{wi:TI}{g:TG}{tb:TS}{pos:Pos} (hp:PassesOwn (model X.prog X.w) X.A X.env X.xe) (hc:X.calm=true) (hi:PI X tg iter wi) (hg:PG X tg g) (hb:Jc X body tb)
  (hs:∀ x,foldedSetIterable iter X.env x=pure x:=by intro _;rfl):PS X (.For tg iter body [] pos) (adh wi g tb):=by
 intro pins s σ H D I h;refine wpAny_For (dI (hi pins s σ H _ I h) fun v s1 h1=>dI h1 fun itv s2 h2=>?_) hs;obtain ⟨it,fp,tn,J,H2,e,I2,T,st2,f2,W,⟨m0,w0⟩,turn⟩:=h2;subst e;have stat:∀ {H':Hp},(∀ b∈fp,H' b=none)→∀ b∈fp,xJ X pins H' b:=fun hn b hb=>⟨hn b hb,(f2 b hb).2⟩;refine codeAny_forLoop_any (fun n s'=>∃ i σ' H',Inv X pins σ' H' s'∧tn i s'.heap∧(∀ b∈fp,H' b=none)∧W i n σ' H') ?_ m0 ⟨0,σ,H2,I2,st2,fun b hb=>(f2 b hb).1,w0⟩;rintro n s3 ⟨i,σ3,H3,I3,st3,fr3,w3⟩;rcases turn i n σ3 H3 w3 with ⟨stop,qn⟩ | ⟨go,N,hN,step⟩
 ·refine wpAny_passesOwn hp (dI (T.done X rfl rfl rfl hc i pins s3 σ3 H3 X.xe I3 (stat fr3) st3 stop) fun r s4 ⟨hr,I4⟩=>?_);subst hr;exact wpAny_execs_nil ⟨σ3,H3,I4,qn⟩
 ·refine wpAny_passesOwn hp (dI (T.item X rfl rfl rfl hc i pins s3 σ3 H3 X.xe I3 (stat fr3) st3 go) fun r s4 ⟨u,hr,h4⟩=>?_);subst hr;refine wpAny_passesOwn hp (dI h4 fun _ s5 ⟨x,H5,I5,r5,y5,st5,fr5⟩=>?_);have I5':=I5.pinned (stat fr5) (T.obj _ _ st5);refine wpAny_passesOwn hp (dI (hg _ s5 σ3 H5 x u _ I5' r5 (step x H5 y5)) fun _ s6 ⟨σ6,H6,I6,q6⟩=>?_);refine wpAny_passesOwn hp (dI (hb _ s6 σ6 H6 _ I6 q6) fun f s7 q7=>?_);have again:∀ {σ7:St}{H7:Hp},Inv X (pins++xK fp s5.heap) σ7 H7 s7→N σ7 H7→∃ m,m < n∧∃ i σ' H',Inv X pins σ' H' s7∧tn i s7.heap∧(∀ b∈fp,H' b=none)∧W i m σ' H':=fun {σ7 H7} I7 n7=>by
   obtain ⟨m',hm,w7⟩:=hN σ7 H7 n7;refine ⟨m',hm,i+1,σ7,H7,I7.tE,T.keep _ _ _ st5 fun b hb o e=>(I7.pin (b,o) (List.mem_append_right _ (List.mem_append_right _ (rJ hb e)))).1,fun b hb=>?_,w7⟩;obtain ⟨o,e,d⟩:=T.obj _ _ st5 b hb;exact (I7.pin (b,o) (List.mem_append_right _ (List.mem_append_right _ (rJ hb e)))).2.1
  cases f with
  | next=>obtain ⟨σ7,H7,I7,n7⟩:=q7;exact again I7 n7
  | cont=>obtain ⟨σ7,H7,I7,n7⟩:=q7;exact again I7 n7
  | brk=>obtain ⟨σ7,H7,I7,q7⟩:=q7;exact ⟨σ7,H7,I7.tE,q7⟩
  | ret v=>obtain ⟨x7,σ7,H7,I7,r7,q7⟩:=q7;exact ⟨x7,σ7,H7,I7.tE,r7,q7⟩
end
theorem pG {K:PySem.W.Frag}{a:Addr}{xs:List V}{g:TG}{tb:TS}{D:Ends}{σ:St}{H:Hp} (Pv:Nat→St→Hp→Prop) (h0:Pv 0 σ H) (hl:∀ i σ H,i≤xs.length→Pv i σ H→bO K H a xs)
  (hs:∀ i x σ H,xs[i]?=some x→Pv i σ H→g x σ H fun σ2 H2=>tb { D with nx:=Pv (i+1),ct:=Pv (i+1),bk:=D.nx } σ2 H2) (hd:∀ σ H,Pv xs.length σ H→D.nx σ H) :
  ∃ W:Nat→Nat→St→Hp→Prop,(∃ m,W 0 m σ H)∧∀ i m σ H,W i m σ H →
   ((XH K a).stop i H∧D.nx σ H)∨((XH K a).go i H∧∃ N:St→Hp→Prop,(∀ σ' H',N σ' H'→∃ m',m' < m∧W (i+1) m' σ' H')∧∀ x H',(XH K a).VL i H x H'→g x σ H' fun σ2 H2=>tb { D with nx:=N,ct:=N,bk:=D.nx } σ2 H2):=by
 refine ⟨fun i m σ H=>m=xs.length-i∧i≤xs.length∧Pv i σ H,⟨xs.length,by simp,Nat.zero_le _,h0⟩,?_⟩;rintro i m σ H ⟨rfl,hi,p⟩;have q:=hl i σ H hi p;by_cases hlt:i < xs.length
 ·refine .inr ⟨⟨xs,xs[i],q,by simp [hlt]⟩,Pv (i+1),fun σ' H' p'=>⟨xs.length-(i+1),by omega,rfl,hlt,p'⟩,fun x H' y=>?_⟩;obtain ⟨e,y⟩:=y;subst e;exact hs i x σ _ (y xs q) p
 ·have e:i=xs.length:=by omega
  subst e;exact .inl ⟨⟨xs,q,Nat.le_refl _⟩,hd σ H p⟩
theorem VN {K:PySem.W.Frag}{a:Addr}{xs:List V}{g:TG}{tb:TS}{D:Ends}{σ:St}{H:Hp} (Pv:Nat→St→Hp→Prop) (h0:Pv 0 σ H) (hl:∀ i σ H,i≤xs.length→Pv i σ H→tD K H a xs)
  (hs:∀ i x σ H,xs[i]?=some x→Pv i σ H→g x σ H fun σ2 H2=>tb { D with nx:=Pv (i+1),ct:=Pv (i+1),bk:=D.nx } σ2 H2) (hd:∀ σ H,Pv xs.length σ H→D.nx σ H) :
  ∃ W:Nat→Nat→St→Hp→Prop,(∃ m,W 0 m σ H)∧∀ i m σ H,W i m σ H →
   ((Itt K a).stop i H∧D.nx σ H)∨((Itt K a).go i H∧∃ N:St→Hp→Prop,(∀ σ' H',N σ' H'→∃ m',m' < m∧W (i+1) m' σ' H')∧∀ x H',(Itt K a).VL i H x H'→g x σ H' fun σ2 H2=>tb { D with nx:=N,ct:=N,bk:=D.nx } σ2 H2):=by
 refine ⟨fun i m σ H=>m=xs.length-i∧i≤xs.length∧Pv i σ H,⟨xs.length,by simp,Nat.zero_le _,h0⟩,?_⟩;rintro i m σ H ⟨rfl,hi,p⟩;have q:=hl i σ H hi p;by_cases hlt:i < xs.length
 ·refine .inr ⟨⟨xs,xs[i],q,by simp [hlt]⟩,Pv (i+1),fun σ' H' p'=>⟨xs.length-(i+1),by omega,rfl,hlt,p'⟩,fun x H' y=>?_⟩;obtain ⟨e,y⟩:=y;subst e;exact hs i x σ _ (y xs q) p
 ·have e:i=xs.length:=by omega
  subst e;exact .inl ⟨⟨xs,q,Nat.le_refl _⟩,hd σ H p⟩
end L2
namespace L2
open PySem PySem.Spec PyProof.Rows
abbrev R2:=V→V→Hp→VK→Prop
def wJ (X:Cx) (f:Value→Value→Sem Value) (r:R2):Prop:=
 ∀ (pins:List (Addr×Obj)) (s:Shared) (σ:St) (H:Hp) (x y:V) (v u:Value) (Q:VK),Inv X pins σ H s→RelV x v→RelV y u→r x y H Q →
  wpAny (model X.prog X.w) X.A (f v u) (EP X pins σ Q) X.xe s
def UnR (X:Cx) (f:Value→Sem Value) (r:V→Hp→VK→Prop):Prop:=
 ∀ (pins:List (Addr×Obj)) (s:Shared) (σ:St) (H:Hp) (x:V) (v:Value) (Q:VK),Inv X pins σ H s→RelV x v→r x H Q →
  wpAny (model X.prog X.w) X.A (f v) (EP X pins σ Q) X.xe s
def pH (X:Cx) (f:Value) (r:List V→Hp→VK→Prop):Prop:=
 ∀ (pins:List (Addr×Obj)) (s:Shared) (σ:St) (H:Hp) (xs:List V) (us:List Value) (Q:VK),Inv X pins σ H s→Vals xs us→r xs H Q →
  wpAny (model X.prog X.w) X.A (call f us) (EP X pins σ Q) X.xe s
def tOp (r:R2) (ta tb:TE):TE:=fun σ H Q=>ta σ H fun x H1=>tb σ H1 fun y H2=>r x y H2 Q
def tUn (r:V→Hp→VK→Prop) (ta:TE):TE:=fun σ H Q=>ta σ H fun x H1=>r x H1 Q
def rI (C:Int→Int→Prop) (g:Int→Int→V):R2:=fun x y H Q=>∃ i j,x=.int i∧y=.int j∧C i j∧Q (g i j) H
def VP (g:Int→Int→V):R2:=fun x y H Q=>∃ i j,x=.int i∧y=.int j∧Q (g i j) H
def rU (g:Int→V):V→Hp→VK→Prop:=fun x H Q=>∃ i,x=.int i∧Q (g i) H
section
variable {X:Cx}{a b c:Expr}{ta tb tc:TE}{pos:Pos}
theorem Yv (ha:PE X a ta) (hb:PE X b tb) {pins:List (Addr×Obj)}{s:Shared}{σ:St}{H:Hp}{R:V→V→Hp→Prop} (I:Inv X pins σ H s)
  (h:ta σ H fun x H1=>tb σ H1 fun y H2=>R x y H2) {Q:Value→Shared→Prop}{f:Value→Value→Sem Value}
  (hf:∀ v u s2 x y H2,Inv X pins σ H2 s2→RelV x v→RelV y u→R x y H2→wpAny (model X.prog X.w) X.A (f v u) Q X.xe s2) :
  wpAny (model X.prog X.w) X.A (eval a X.env) (fun v s₁=>wpAny (model X.prog X.w) X.A (eval b X.env) (fun u s₂=>wpAny (model X.prog X.w) X.A (f v u) Q X.xe s₂) X.xe s₁) X.xe s:=by
 refine dI (ha pins s σ H _ I h) fun v s1 ⟨x,H1,I1,r1,q1⟩=>?_;refine dI (hb pins s1 σ H1 _ I1 q1) fun u s2 ⟨y,H2,I2,r2,q2⟩=>?_;exact hf v u s2 x y H2 I2 r1 r2 q2
theorem fG {op:Operator}{r:R2} (ho:wJ X (binaryOp op) r) (ha:PE X a ta) (hb:PE X b tb):PE X (.BinOp a op b pos) (tOp r ta tb):=by
 intro pins s σ H Q I h;exact wpAny_BinOp (Yv ha hb I h fun v u s2 x y H2 I2 rx ry q=>ho pins s2 σ H2 x y v u Q I2 rx ry q)
theorem xM {op:UnaryOp}{r:V→Hp→VK→Prop} (ho:UnR X (unaryOp op) r) (ha:PE X a ta):PE X (.UnaryOp op a pos) (tUn r ta):=by
 intro pins s σ H Q I h;exact UnaryOp_ (dI (ha pins s σ H _ I h) fun v s1 ⟨x,H1,I1,r1,q1⟩=>ho pins s1 σ H1 x v Q I1 r1 q1)
theorem opI {f:Value→Value→Sem Value}{C:Int→Int→Prop}{g:Int→Int→Int}
  (rule:∀ (i j:Int) (t u:Tok) (s:Shared) (Q:Value→Shared→Prop) (E:Value→Shared→Prop),C i j→Q (.int (g i j) s.toks) { s with toks:=s.toks+1 }→wpAny (model X.prog X.w) X.A (f (.int i t) (.int j u)) Q E s) :
  wJ X f (rI C fun i j=>.int (g i j)):=by
 intro pins s σ H x y v u Q I rx ry h;obtain ⟨i,j,rfl,rfl,hc,q⟩:=h;obtain ⟨t,rfl⟩:=rx;obtain ⟨t',rfl⟩:=ry;exact rule i j t t' s _ _ hc ⟨.int (g i j),H,I.tok _,⟨_,rfl⟩,q⟩
theorem Yw {f:Value→Value→Sem Value}{g:Int→Int→Int}
  (rule:∀ (i j:Int) (t u:Tok) (s:Shared) (Q:Value→Shared→Prop) (E:Value→Shared→Prop),Q (.int (g i j) s.toks) { s with toks:=s.toks+1 }→wpAny (model X.prog X.w) X.A (f (.int i t) (.int j u)) Q E s) :
  wJ X f (VP fun i j=>.int (g i j)):=by
 intro pins s σ H x y v u Q I rx ry h;obtain ⟨i,j,rfl,rfl,q⟩:=h;obtain ⟨t,rfl⟩:=rx;obtain ⟨t',rfl⟩:=ry;exact rule i j t t' s _ _ ⟨.int (g i j),H,I.tok _,⟨_,rfl⟩,q⟩
theorem VR {f:Value→Value→Sem Value}{g:Int→Int→Bool}
  (rule:∀ (i j:Int) (t u:Tok) (s:Shared) (Q:Value→Shared→Prop) (E:Value→Shared→Prop),Q (.bool (g i j)) s→wpAny (model X.prog X.w) X.A (f (.int i t) (.int j u)) Q E s) :
  wJ X f (VP fun i j=>.bl (g i j)):=by
 intro pins s σ H x y v u Q I rx ry h;obtain ⟨i,j,rfl,rfl,q⟩:=h;obtain ⟨t,rfl⟩:=rx;obtain ⟨t',rfl⟩:=ry;exact rule i j t t' s _ _ ⟨.bl (g i j),H,I,rfl,q⟩
def Yx (i j:Int):Prop:=(-(2 ^ 64) < i∧i < 2 ^ 64)∨(-(2 ^ 64) < j∧j < 2 ^ 64)
theorem Yx.ok {i j:Int} (h:Yx i j):IntMulOk i j:=by
 rcases h with ⟨h1,h2⟩ | ⟨h1,h2⟩
 ·exact .of_left (intBits_le_64 h1 h2)
 ·exact .of_right (intBits_le_64 h1 h2)
theorem Ji (k:Nat):(0:Int)≤2 ^ k:=by
 rw [two_pow_cast];exact Int.natCast_nonneg _
theorem Jj:wJ X (binaryOp .Add) (VP fun i j=>.int (i+j)):=Yw fun _ _ _ _ _ _ _ q=>add_int q
theorem uJ:wJ X (binaryOp .Sub) (VP fun i j=>.int (i-j)):=Yw fun _ _ _ _ _ _ _ q=>sub_int q
theorem Cv:wJ X (binaryOp .Mult) (rI Yx fun i j=>.int (i*j)):=opI fun _ _ _ _ _ _ _ hc q=>mul_int q hc.ok
theorem Cw:wJ X (binaryOp .Mod) (rI (fun _ j=>0 < j) fun i j=>.int (i%j)):=opI fun i j _ _ _ _ _ hc q=>by
 have h1:(0:Int) < j:=hc;exact mod_int' (by omega) (by rw [Int.fmod_eq_emod_of_nonneg i (by omega)];exact q)
theorem Jk:wJ X (binaryOp .RShift) (rI (fun _ j=>0≤j) fun i j=>.int (i / 2 ^ j.toNat)):=opI fun i j _ _ _ _ _ hc q=>
 rshift_int hc (by rw [Int.fdiv_eq_ediv_of_nonneg i (Ji _)];exact q)
theorem Ra:wJ X (binaryOp .BitAnd) (VP fun i j=>.int (Builtin.bitAnd i j)):=Yw fun _ _ _ _ _ _ _ q=>and_int q
theorem unI {f:Value→Sem Value}{g:Int→Int}
  (rule:∀ (i:Int) (t:Tok) (s:Shared) (Q:Value→Shared→Prop) (E:Value→Shared→Prop),Q (.int (g i) s.toks) { s with toks:=s.toks+1 }→wpAny (model X.prog X.w) X.A (f (.int i t)) Q E s) :
  UnR X f (rU fun i=>.int (g i)):=by
 intro pins s σ H x v Q I rx h;obtain ⟨i,rfl,q⟩:=h;obtain ⟨t,rfl⟩:=rx;exact rule i t s _ _ ⟨.int (g i),H,I.tok _,⟨_,rfl⟩,q⟩
theorem rK:UnR X (unaryOp .USub) (rU fun i=>.int (-i)):=unI fun _ _ _ _ _ q=>neg_int q
end
def aa0:V→V→Bool
 | .non,.non=>true | .non,.int _=>true | .int _,.non=>true | .non,.bl _=>true | .bl _,.non=>true | .non,.str _=>true | .str _,.non=>true
 | .int _,.int _=>true | .bl _,.bl _=>true | .str _,.str _=>true | .QL _,.QL _=>true
 | .int _,.str _=>true | .str _,.int _=>true | .bl _,.str _=>true | .str _,.bl _=>true
 | _,_=>false
def rEq:R2:=fun x y H Q=>aa0 x y=true∧Q (.bl (decide (x=y))) H
def rNe:R2:=fun x y H Q=>aa0 x y=true∧Q (.bl (!decide (x=y))) H
theorem LK {i j:Int}:decide (V.int i=V.int j)=(i==j):=by
 rw [Bool.eq_iff_iff];simp
theorem Rc {i j:Bool}:decide (V.bl i=V.bl j)=(i==j):=by
 rw [Bool.eq_iff_iff];simp
theorem LQ {i j:Str}:decide (V.str i=V.str j)=(i==j):=by
 rw [Bool.eq_iff_iff];simp
theorem LR {i j:Array UInt8}:decide (V.QL i=V.QL j)=(i.toList==j.toList):=by
 rw [Bool.eq_iff_iff];cases i;cases j;simp
section
variable {X:Cx}{a b c:Expr}{ta tb tc:TE}{pos:Pos}
theorem bT {pins:List (Addr×Obj)}{σ:St}{H:Hp}{s:Shared}{Q:VK}{k k':Bool} (I:Inv X pins σ H s) (q:Q (.bl k) H) (e:k=k'):EP X pins σ Q (.bool k') s:=by
 subst e;exact ⟨.bl k,H,I,rfl,q⟩
theorem gV:wJ X (compareOp .Eq) rEq:=by
 intro pins s σ H x y v u Q I rx ry h;obtain ⟨hs,q⟩:=h;cases x with
 | non=>
  cases rx;cases y with
  | non=>cases ry;exact PySem.EqNone.eq_none_none (bT I q (by simp))
  | bl j=>cases ry;exact PySem.EqNone.eq_none_bool (bT I q (by simp))
  | int j=>obtain ⟨t',rfl⟩:=ry;exact PySem.EqNone.eq_none_int (bT I q (by simp))
  | str j=>obtain ⟨t',rfl⟩:=ry;exact PySem.EqNone.eq_none_str (bT I q (by simp))
  | _=>exact absurd (show false=true from hs) Bool.false_ne_true
 | bl i=>
  cases rx;cases y with
  | non=>cases ry;exact PySem.EqNone.eq_bool_none (bT I q (by simp))
  | bl j=>cases ry;exact eq_bool (bT I q Rc)
  | str j=>obtain ⟨t',rfl⟩:=ry;exact PySem.EqMixed.eq_bool_str (bT I q (by simp))
  | _=>exact absurd (show false=true from hs) Bool.false_ne_true
 | int i=>
  obtain ⟨t,rfl⟩:=rx;cases y with
  | non=>cases ry;exact PySem.EqNone.eq_int_none (bT I q (by simp))
  | int j=>obtain ⟨t',rfl⟩:=ry;exact eq_int (bT I q LK)
  | str j=>obtain ⟨t',rfl⟩:=ry;exact PySem.EqMixed.eq_int_str (bT I q (by simp))
  | _=>exact absurd (show false=true from hs) Bool.false_ne_true
 | str i=>
  obtain ⟨t,rfl⟩:=rx;cases y with
  | non=>cases ry;exact PySem.EqNone.eq_str_none (bT I q (by simp))
  | bl j=>cases ry;exact PySem.EqMixed.eq_str_bool (bT I q (by simp))
  | int j=>obtain ⟨t',rfl⟩:=ry;exact PySem.EqMixed.eq_str_int (bT I q (by simp))
  | str j=>obtain ⟨t',rfl⟩:=ry;exact eq_str (bT I q LQ)
  | _=>exact absurd (show false=true from hs) Bool.false_ne_true
 | QL i=>
  obtain ⟨t,rfl⟩:=rx;cases y with
  | QL j=>obtain ⟨t',rfl⟩:=ry;exact PySem.W.eq_bytes (bT I q LR)
  | _=>exact absurd (show false=true from hs) Bool.false_ne_true
 | _=>cases y <;> exact absurd (show false=true from hs) Bool.false_ne_true
theorem vL:wJ X (compareOp .NotEq) rNe:=by
 intro pins s σ H x y v u Q I rx ry h;obtain ⟨hs,q⟩:=h;cases x with
 | non=>
  cases rx;cases y with
  | non=>cases ry;exact PySem.EqNone.ne_none_none (bT I q (by simp))
  | bl j=>cases ry;exact PySem.EqNone.ne_none_bool (bT I q (by simp))
  | int j=>obtain ⟨t',rfl⟩:=ry;exact PySem.EqNone.ne_none_int (bT I q (by simp))
  | str j=>obtain ⟨t',rfl⟩:=ry;exact PySem.EqNone.ne_none_str (bT I q (by simp))
  | _=>exact absurd (show false=true from hs) Bool.false_ne_true
 | bl i=>
  cases rx;cases y with
  | non=>cases ry;exact PySem.EqNone.ne_bool_none (bT I q (by simp))
  | bl j=>cases ry;exact ne_bool (bT I q (congrArg not Rc))
  | str j=>obtain ⟨t',rfl⟩:=ry;exact PySem.EqMixed.ne_bool_str (bT I q (by simp))
  | _=>exact absurd (show false=true from hs) Bool.false_ne_true
 | int i=>
  obtain ⟨t,rfl⟩:=rx;cases y with
  | non=>cases ry;exact PySem.EqNone.ne_int_none (bT I q (by simp))
  | int j=>obtain ⟨t',rfl⟩:=ry;exact ne_int (bT I q (congrArg not LK))
  | str j=>obtain ⟨t',rfl⟩:=ry;exact PySem.EqMixed.ne_int_str (bT I q (by simp))
  | _=>exact absurd (show false=true from hs) Bool.false_ne_true
 | str i=>
  obtain ⟨t,rfl⟩:=rx;cases y with
  | non=>cases ry;exact PySem.EqNone.ne_str_none (bT I q (by simp))
  | bl j=>cases ry;exact PySem.EqMixed.ne_str_bool (bT I q (by simp))
  | int j=>obtain ⟨t',rfl⟩:=ry;exact PySem.EqMixed.ne_str_int (bT I q (by simp))
  | str j=>obtain ⟨t',rfl⟩:=ry;exact ne_str (bT I q (congrArg not LQ))
  | _=>exact absurd (show false=true from hs) Bool.false_ne_true
 | QL i=>
  obtain ⟨t,rfl⟩:=rx;cases y with
  | QL j=>obtain ⟨t',rfl⟩:=ry;exact PySem.W.ne_bytes (bT I q (congrArg not LR))
  | _=>exact absurd (show false=true from hs) Bool.false_ne_true
 | _=>cases y <;> exact absurd (show false=true from hs) Bool.false_ne_true
theorem xO:wJ X (compareOp .Lt) (VP fun i j=>.bl (decide (i < j))):=VR fun _ _ _ _ _ _ _ q=>lt_int q
theorem Ma:wJ X (compareOp .LtE) (VP fun i j=>.bl (decide (i≤j))):=VR fun _ _ _ _ _ _ _ q=>le_int q
theorem tG:wJ X (compareOp .Gt) (VP fun i j=>.bl (decide (j < i))):=VR fun _ _ _ _ _ _ _ q=>gt_int q
theorem Eo:wJ X (compareOp .GtE) (VP fun i j=>.bl (decide (j≤i))):=VR fun _ _ _ _ _ _ _ q=>ge_int q
theorem aY (b:Expr) {op:CmpOp} (h:op≠.In:=by decide) (h2:op≠.NotIn:=by decide):behindInMarks op b=false:=by
 have e1:(op==CmpOp.In)=false:=by cases op <;> first | rfl | exact absurd rfl h
 have e2:(op==CmpOp.NotIn)=false:=by cases op <;> first | rfl | exact absurd rfl h2
 cases b <;> simp [behindInMarks,e1,e2]
theorem d9 {op:CmpOp}{r:R2} (ho:wJ X (compareOp op) r) (ha:PE X a ta) (hb:PE X b tb) (hm:behindInMarks op b=false):PE X (.Compare a [op] [b] pos) (tOp r ta tb):=by
 intro pins s σ H Q I h;exact wpAny_Compare1 (Yv ha hb I h fun v u s2 x y H2 I2 rx ry q=>ho pins s2 σ H2 x y v u Q I2 rx ry q) hm
def aa1 (t:TE):TT:=fun σ H Q=>t σ H fun x H'=>∃ k,x=.bl k∧Q k H'
theorem aQ {op:CmpOp}{r:R2} (ho:wJ X (compareOp op) r) (ha:PE X a ta) (hb:PE X b tb) (hm:behindInMarks op b=false):PT X (.Compare a [op] [b] pos) (aa1 (tOp r ta tb)):=by
 intro pins s σ H Q I h;refine wpAny_isTrue_Compare1 (dI (ha pins s σ H _ I h) fun v s1 ⟨x,H1,I1,r1,q1⟩=>dI (hb pins s1 σ H1 _ I1 q1) fun u s2 ⟨y,H2,I2,r2,q2⟩=>
  dI (ho pins s2 σ H2 x y v u _ I2 r1 r2 q2) fun c s3 ⟨z,H3,I3,r3,k,e,q3⟩=>?_) hm
 subst e;cases r3;exact wpAny_truthy_bool ⟨H3,I3,q3⟩
theorem xP:(sizeLine:Nat) < 2 ^ 63:=by rw [sizeLine_eq];decide
theorem Jl:wJ X (binaryOp .Add) (fun x y H Q=>∃ i j,x=.str i∧y=.str j∧i.length+j.length≤sizeLine∧Q (.str (i++j)) H):=by
 intro pins s σ H x y v u Q I rx ry h;obtain ⟨i,j,rfl,rfl,hz,q⟩:=h;obtain ⟨t,rfl⟩:=rx;obtain ⟨t',rfl⟩:=ry;exact add_str (fun t' tk=>⟨.str (i++j),H,I.tok _,⟨_,rfl⟩,q⟩) hz
theorem vals1 {x:V}{us:List Value} (r:Vals [x] us):∃ u,us=[u]∧RelV x u:=by
 cases r with
 | cons r1 r2=>cases r2;exact ⟨_,rfl,r1⟩
theorem vals2 {x y:V}{us:List Value} (r:Vals [x,y] us):∃ u w',us=[u,w']∧RelV x u∧RelV y w':=by
 cases r with
 | cons r1 r2=>
  cases r2 with
  | cons r3 r4=>cases r4;exact ⟨_,_,rfl,r1,r3⟩
theorem Rf:pH X (.builtin "ord") (fun xs H Q=>∃ x,xs=[.str x]∧x.length=1∧Q (.int (x.cps.getD 0 0:Nat)) H):=by
 intro pins s σ H xs us Q I r h;obtain ⟨x,rfl,hz,q⟩:=h;obtain ⟨u,rfl,t,rfl⟩:=vals1 r;exact ord_of_one hz ⟨.int _,H,I.tok _,⟨_,rfl⟩,q⟩
end
end L2
namespace L2
open PySem PySem.Spec PyProof.Rows
structure Jm (h:Heap) (x dx C:Addr) (mA:Str→Option Value):Prop where
 obj:h.get? x=some (PySem.W.instObj C dx)
 ns:h.Ns1 dx mA
 ne:dx≠x
theorem Bb {h:Heap}{dx:Addr}{mA:Str→Option Value} (n:h.Ns1 dx mA):∃ od,h.get? dx=some od∧∀ name,PySem.W.lookIn name od=some (mA name):=by
 obtain ⟨o,es,ep,ho,hd,hk,_,hm⟩:=n;refine ⟨o,ho,fun name=>?_⟩;have e:=hm name;unfold nsFind findBy at e;rw [←Array.find?_toList] at e;unfold PySem.W.lookIn;rw [hd];dsimp only;split
 ·rename_i y q;rw [q] at e;exact congrArg some e
 ·rename_i q;rw [q] at e;have a:es.toList.any (·.refKey)=false:=by
   rw [List.any_eq_false];intro y hy;obtain ⟨z,t,hkey⟩:=hk y (Array.mem_toList_iff.mp hy);simp [DictEntry.refKey,hkey]
  have a':¬ es.toList.any (·.refKey)=true:=by rw [a];exact Bool.false_ne_true
  rw [if_neg a'];exact congrArg some e
theorem Jm.look {h:Heap}{x dx C:Addr}{mA:Str→Option Value} (I:Jm h x dx C mA):∃ od,PySem.W.InstAt h x (PySem.W.instObj C dx) C (some od)∧∀ name,PySem.W.lookIn name od=some (mA name):=
 let ⟨od,ho,hl⟩:=Bb I.ns
 ⟨od,⟨I.obj,rfl,rfl,ho⟩,hl⟩
section
variable {prog:Program}{w:World}{A:Around}{E:Value→Shared→Prop}{s:Shared}{K:PySem.W.Frag}{x dx C f:Addr}{mA:Str→Option Value}{name:Str}{v:Value}
theorem get_map {expr:Bool}{Q:Value→Shared→Prop} (X:K.In s.heap) (I:Jm s.heap x dx C mA) (hg:PySem.W.plainGet K C name=true) (hh:PySem.W.hasDictIn K C=true)
  (ha:PySem.W.findIn K (.ref C) name=some none) (hv:mA name=some v) (hv':PySem.W.handedIn v=true) (h:Q v { s with toks:=s.toks+1 }) :
  wpAny (model prog w) A (getAttr (.ref x) name expr) Q E s:=by
 obtain ⟨od,J,hl⟩:=I.look;exact PySem.W.get_value X J (PySem.W.plainGet_of hg).1 (PySem.W.findObj_own hh ha rfl (by rw [hl,hv])) hv' h
theorem Rg {pl:Sem Bool}{Q:Value×List Value→Shared→Prop} (X:K.In s.heap) (I:Jm s.heap x dx C mA) (hg:PySem.W.plainGet K C name=true)
  (hf:PySem.W.findIn K (.ref C) name=some (some (.ref f))) (ht:PySem.W.isFn K (.ref f)=true) (hv:mA name=none) (h:Q (.ref f,[.ref x]) s) :
  wpAny (model prog w) A (getMethod (.ref x) name pl) Q E s:=by
 obtain ⟨od,J,hl⟩:=I.look;exact PySem.W.method_fn X J (PySem.W.plainGet_of hg).1 (PySem.W.plainGet_of hg).2 hf (beq_iff_eq.mp ht) (by show (PySem.W.lookIn name od).map (·.isSome)=some false;rw [hl,hv];rfl) h
theorem V0 {ns:List Str}{Q:Unit→Shared→Prop} (X:K.In s.heap) (I:Jm s.heap x dx C mA)
  (hs:PySem.W.findIn K (.ref C) "__setattr__"=some (some (.builtin "object.__setattr__"))) (hp:PySem.W.plainOver K C=true) (ht:PySem.W.takerIn K C name=some none) (hh:PySem.W.hasDictIn K C=true)
  (hw:PySem.Within mA ns) (hsz:ns.length≤sizeLine)
  (h:∀ h',Jm h' x dx C (fun y=>if y=name then some v else mA y)→Heap.SameBut dx s.heap h'→Q () { s with heap:=h',toks:=s.toks+2 }) :
  wpAny (model prog w) A (setAttr (.ref x) name v) Q E s:=by
 obtain ⟨od,J,hl⟩:=I.look;refine PySem.W.set_plain X J hs (PySem.W.osa_open (s:={ s with toks:=s.toks+1 }) (r:=none) X J hp ht fun b=>?_);obtain ⟨cd,hc,hd'⟩:=PySem.W.any_some hh;have hx:s.heap.get? x=some ⟨.ref C,some dx,.plain,#[]⟩:=I.obj;refine wpAny_bind (wpAny_pure (wpAny_bind (wpAny_bind (wpAny_loadPart hx (wpAny_bind (PySem.W.Looks.here (s:={ s with toks:=s.toks+1 }) (PySem.W.looks_clsIn X hc) ?_))))));rw [hd'];refine wpAny_pure (a:=some dx) (wpAny_bind (wpAny_pure (wpAny_bind ?_)));refine wpAny_nsSet1 (s:={ s with toks:=s.toks+1 }) I.ns fun h' hn2 hs2=>?_;obtain ⟨oD,esD,epD,hoD,hdD,hcD⟩:=hn2.count (PySem.Within.cons name v hw);refine wpAny_bind (wpAny_lookBehind hoD (by rw [hdD];exact pastItsLine_dict (Nat.le_trans hcD (by rw [List.length_cons];omega))) ?_);exact wpAny_pure (h _ ⟨(hs2.2 _ (Ne.symm I.ne)).trans I.obj,hn2,I.ne⟩ hs2)
theorem Rh {R:Result→Shared→Prop}{vs:List Value}{kw:List (Str×Value)} (X:K.In s.heap) (hm:PySem.W.makesIn K C=true)
  (hi:PySem.W.findIn K (.ref C) "__init__"=some (some (.ref f))) (hf:PySem.W.typeIn K (.ref f)=some (.type "function"))
  (h:codeAny (model prog w) (A.under (.builtin "type.__call__" ⟨.ref C::vs,kw⟩)) (.call (.ref f) ⟨.ref (s.heap.objs.size+1)::vs,kw⟩) (PySem.W.InitBack (s.heap.objs.size+1) R)
   { s with heap:=(s.heap.push PySem.W.emptyDict).push (PySem.W.instObj C s.heap.objs.size) }) :
  codeAny (model prog w) A (.call (.ref C) ⟨vs,kw⟩) R s:=by
 obtain ⟨hh,g,d,t,os⟩:=s;exact PySem.W.make_core (PySem.W.makes_of X hm) (PySem.W.looks_findIn X hi) (fun self=>PySem.W.bind_fn X self hf) (.inl rfl) h
end
def cU (f:Str) (v:V):List (Str×V)→List (Str×V)
 | []=>[(f,v)]
 | (g,x)::r=>if g=f then (g,v)::r else (g,x)::cU f v r
theorem vM (f g:Str) (v:V):∀ fs:List (Str×V),(cU f v fs).lookup g=if g=f then some v else fs.lookup g
 | []=>by
  show List.lookup g [(f,v)]=_;by_cases h:g=f
  ·have hb:(g==f)=true:=beq_iff_eq.mpr h;simp only [List.lookup,hb,if_pos h]
  ·have hb:(g==f)=false:=beq_eq_false_iff_ne.mpr h;simp only [List.lookup,hb,if_neg h]
 | (k,x)::r=>by
  have ih:=vM f g v r;rw [show cU f v ((k,x)::r)=(if k=f then (k,v)::r else (k,x)::cU f v r) from rfl];by_cases hk:k=f
  ·rw [if_pos hk];by_cases h:g=k
   ·have hb:(g==k)=true:=beq_iff_eq.mpr h;simp only [List.lookup,hb,if_pos (h.trans hk)]
   ·have hb:(g==k)=false:=beq_eq_false_iff_ne.mpr h;simp only [List.lookup,hb,if_neg (fun e:g=f=>h (e.trans hk.symm))]
  ·rw [if_neg hk];by_cases h:g=k
   ·have hb:(g==k)=true:=beq_iff_eq.mpr h;simp only [List.lookup,hb,if_neg (fun e:g=f=>hk (h.symm.trans e))]
   ·have hb:(g==k)=false:=beq_eq_false_iff_ne.mpr h;simp only [List.lookup,hb];exact ih
theorem uK (f:Str) (v:V):∀ fs:List (Str×V),f∈(cU f v fs).map (·.1)∧∀ g,g∈fs.map (·.1)→g∈(cU f v fs).map (·.1)
 | []=>⟨by simp [cU],fun g h=>by simp at h⟩
 | (k,x)::r=>by
  obtain ⟨i1,i2⟩:=uK f v r;rw [show cU f v ((k,x)::r)=(if k=f then (k,v)::r else (k,x)::cU f v r) from rfl];by_cases hk:k=f
  ·rw [if_pos hk];subst hk;exact ⟨by simp,fun g h=>by simpa using h⟩
  ·rw [if_neg hk];refine ⟨?_,fun g h=>?_⟩
   ·rw [List.map_cons];exact List.mem_cons_of_mem _ i1
   ·rw [List.map_cons] at h ⊢;rcases List.mem_cons.mp h with e | e
    ·exact List.mem_cons.mpr (.inl e)
    ·exact List.mem_cons_of_mem _ (i2 g e)
theorem lO (f:Str) (v:V):∀ fs:List (Str×V),(cU f v fs).length≤fs.length+1
 | []=>by simp [cU]
 | (k,x)::r=>by
  have ih:=lO f v r;rw [show cU f v ((k,x)::r)=(if k=f then (k,v)::r else (k,x)::cU f v r) from rfl];by_cases hk:k=f
  ·rw [if_pos hk,List.length_cons,List.length_cons];omega
  ·rw [if_neg hk,List.length_cons,List.length_cons];omega
theorem nY.some_of {v:V}{o:Option Value} (r:nY (some v) o):∃ u,o=some u∧RelV v u:=by
 cases o with
 | none=>exact (show False from r).elim
 | some u=>exact ⟨u,rfl,r⟩
theorem nY.none_of {o:Option Value} (r:nY none o):o=none:=by
 cases o with
 | none=>rfl
 | some u=>exact (show False from r).elim
theorem Bc {v:V}{u:Value} (r:RelV v u):PySem.W.handedIn u=true:=by
 cases v with
 | non=>cases (show u=Value.none from r);rfl
 | bl b=>cases (show u=Value.bool b from r);rfl
 | int i=>obtain ⟨t,e⟩:=(show ∃ t,u=Value.int i t from r);cases e;rfl
 | str x=>obtain ⟨t,e⟩:=(show ∃ t,u=Value.str x t from r);cases e;rfl
 | QL b=>obtain ⟨t,e⟩:=(show ∃ t,u=Value.bytes b t from r);cases e;rfl
 | flt b=>obtain ⟨t,e⟩:=(show ∃ t,u=Value.float b t from r);cases e;rfl
 | ref a=>cases (show u=Value.ref a from r);rfl
 | ty n=>cases (show u=Value.type n from r);rfl
section
variable {P:Program}{w:World}{H H':Hp}{h h':Heap}{a C dx:Addr}{fs fs':List (Str×V)}
theorem Cy (hok:pB P w H h) (e:H a=some (.ins C dx fs)):∃ mA,Jm h a dx C mA∧(∀ f,nY (fs.lookup f) (mA f))∧PySem.Within mA (fs.map (·.1))∧fs.length≤1000∧H dx=some (.own a):=by
 obtain ⟨d,z,ne,ob,mA,n,r,q⟩:=(show fD P w H h a (.ins C dx fs) from hok a _ e);exact ⟨mA,⟨ob,n,ne⟩,r,q,z,d⟩
end
structure Cls (K:PySem.W.Frag) (C:Addr):Prop where
 pg:PySem.W.plainGet K C Str.empty=true
 hd:PySem.W.hasDictIn K C=true
 po:PySem.W.plainOver K C=true
 sa:PySem.W.findIn K (.ref C) "__setattr__"=some (some (.builtin "object.__setattr__"))
theorem Cls.get {K:PySem.W.Frag}{C:Addr} (c:Cls K C) (f:Str):PySem.W.plainGet K C f=true:=c.pg
def pI (K:PySem.W.Frag) (C:Addr) (f:Str):Prop:=PySem.W.findIn K (.ref C) f=some none
theorem pI.taker {K:PySem.W.Frag}{C:Addr}{f:Str} (n:pI K C f):PySem.W.takerIn K C f=some none:=by
 unfold PySem.W.takerIn;rw [show PySem.W.findIn K (.ref C) f=some none from n];rfl
structure Meth (K:PySem.W.Frag) (C:Addr) (m:Str) (f:Addr):Prop where
 at_:PySem.W.findIn K (.ref C) m=some (some (.ref f))
 fn:PySem.W.isFn K (.ref f)=true
 kp:PySem.W.keepIn K (.ref f)=true
section
variable {X:Cx}{pins:List (Addr×Obj)}{σ:St}{H:Hp}{s:Shared}{a C dx:Addr}{fs:List (Str×V)}{f:Str}{v:V}{A:Around}{E:Value→Shared→Prop}
theorem xQ {b:Bool}{Q:Value→Shared→Prop} (I:Inv X pins σ H s) (e:H a=some (.ins C dx fs)) (c:Cls X.K C) (n:pI X.K C f) (l:fs.lookup f=some v)
  (h:∀ u s',Inv X pins σ H s'→RelV v u→Q u s'):wpAny (model X.prog X.w) A (getAttr (.ref a) f b) Q E s:=by
 obtain ⟨mA,O,r,_,_,_⟩:=Cy I.hok e;obtain ⟨u,hu,ru⟩:=nY.some_of (v:=v) (o:=mA f) (by rw [←l];exact r f);exact get_map I.rH O (c.get f) c.hd n hu (Bc ru) (h u _ (I.tok _) ru)
theorem xR {m:Str}{g:Addr}{pl:Sem Bool}{Q:Value×List Value→Shared→Prop} (I:Inv X pins σ H s) (e:H a=some (.ins C dx fs)) (c:Cls X.K C) (k:Meth X.K C m g) (l:fs.lookup m=none)
  (h:Q (.ref g,[.ref a]) s):wpAny (model X.prog X.w) A (getMethod (.ref a) m pl) Q E s:=by
 obtain ⟨mA,O,r,_,_,_⟩:=Cy I.hok e;have hn:mA m=none:=nY.none_of (by rw [←l];exact r m);exact Rg I.rH O (c.get m) k.at_ k.fn hn h
theorem xU {y:V}{u:Value}{Q:Unit→Shared→Prop} (I:Inv X pins σ H s) (e:H a=some (.ins C dx fs)) (c:Cls X.K C) (n:pI X.K C f) (hl:fs.length < 1000) (ry:RelV y u)
  (h:∀ s',Inv X pins σ (upd H a (.ins C dx (cU f y fs))) s'→Q () s'):wpAny (model X.prog X.w) A (setAttr (.ref a) f u) Q E s:=by
 obtain ⟨mA,O,r,wi,_,ho⟩:=Cy I.hok e;have hz:(fs.map (·.1)).length≤sizeLine:=by rw [List.length_map,sizeLine_eq];omega
 refine V0 I.rH O c.sa c.po n.taker c.hd wi hz fun h' O' sb=>h _ ?_;have hd:∃ o,h'.get? dx=some o:=let ⟨o,_,_,e',_⟩:=O'.ns;⟨o,e'⟩;refine I.write (x:=a) (e:=dx) (by rw [e];exact True.intro) (.inr ho) (fun b q hb z=>(sb.2 b hb).trans z) hd ?_;refine ⟨by rw [ak O.ne];exact ho,?_,O.ne,O'.obj,_,O'.ns,fun g=>?_,fun g hg=>?_⟩
 ·have:=lO f y fs;omega
 ·show nY ((cU f y fs).lookup g) (if g=f then some u else mA g);rw [vM];by_cases q:g=f
  ·rw [if_pos q,if_pos q];exact ry
  ·rw [if_neg q,if_neg q];exact r g
 ·by_cases q:g=f
  ·rw [q];exact (uK f y fs).1
  ·refine (uK f y fs).2 g (wi g fun z=>hg ?_);show (if g=f then some u else mA g)=none;rw [if_neg q];exact z
theorem Inv.made (I:Inv X pins σ H s):Inv X pins σ (upd (upd H s.heap.objs.size (.own (s.heap.objs.size+1))) (s.heap.objs.size+1) (.ins C s.heap.objs.size []))
  { s with heap:=(s.heap.push PySem.W.emptyDict).push (PySem.W.instObj C s.heap.objs.size) }:=by
 have e1:(s.heap.push PySem.W.emptyDict).get? s.heap.objs.size=some PySem.W.emptyDict:=Heap.get?_push_size s.heap rfl;have e2:((s.heap.push PySem.W.emptyDict).push (PySem.W.instObj C s.heap.objs.size)).get? (s.heap.objs.size+1)=some (PySem.W.instObj C s.heap.objs.size):=by
  have:=Heap.get?_push_size (s.heap.push PySem.W.emptyDict) (o:=PySem.W.instObj C s.heap.objs.size) rfl
  rwa [Heap.size_push] at this
 have e3:(s.heap.push PySem.W.emptyDict).Ns s.heap.objs.size (fun _=>none):=⟨PySem.W.emptyDict,#[],_,e1,rfl,(fun e he=>absurd he (by simp)),fun _=>rfl⟩;have I1:=I.laid (a:=s.heap.objs.size) (o:=.own (s.heap.objs.size+1)) (h':=s.heap.push PySem.W.emptyDict) (t':=s.toks) (fun b u q=>Heap.get?_push_of_some _ q) (Nat.le_refl _) ⟨_,e1⟩;refine I1.laid (a:=s.heap.objs.size+1) (o:=.ins C s.heap.objs.size []) (t':=s.toks) (fun b u q=>Heap.get?_push_of_some _ q) (Nat.le_of_eq (Heap.size_push _ _)) ?_;have ne:s.heap.objs.size≠s.heap.objs.size+1:=Nat.ne_of_lt (Nat.lt_succ_self _);refine ⟨by rw [ak ne,ao],Nat.zero_le _,ne,e2,fun _=>none,(Heap.Ns1.of_empty e3).at fun o q=>Heap.get?_push_of_some _ q,fun _=>True.intro,fun y hy=>absurd rfl hy⟩
theorem Mf {prog:Program}{w:World}{env:Env}{e:Expr}{f:Str}{pos:Pos}{s:Shared}{Q:Value→Shared→Prop} (hb:attributeBase e f env (eval e env)=eval e env)
  (h:wpAny (model prog w) A (eval e env) (fun o s₁=>wpAny (model prog w) A (getAttr o f true) Q E s₁) E s):wpAny (model prog w) A (eval (.Attribute e f pos) env) Q E s:=
 Attribute_any_ h (by rw [arm_eval_Attribute,hb])
end
def Ri (K:PySem.W.Frag) (ta:TE) (f:Str):TE:=fun σ H Q=>ta σ H fun x H1=>∃ a C dx fs v,x=.ref a∧H1 a=some (.ins C dx fs)∧Cls K C∧pI K C f∧fs.lookup f=some v∧Q v H1
def adl (K:PySem.W.Frag) (ta tv:TE) (f:Str):TS:=fun D σ H=>tv σ H fun y H1=>ta σ H1 fun x H2=>∃ a C dx fs,x=.ref a∧H2 a=some (.ins C dx fs)∧Cls K C∧pI K C f∧fs.length < 1000 ∧
 D.nx σ (upd H2 a (.ins C dx (cU f y fs)))
def aa2 (X:Cx) (op:Operator) (rd:V→V→Hp→VK→Prop):Prop:=
 ∀ (pins:List (Addr×Obj)) (s:Shared) (σ:St) (H:Hp) (x y:V) (u v:Value) (Q:VK),Inv X pins σ H s→RelV x u→RelV y v→rd x y H Q→wpAny (model X.prog X.w) X.A (inplaceOp op u v) (EP X pins σ Q) X.xe s
def V1 (K:PySem.W.Frag) (ta tv:TE) (rd:V→V→Hp→VK→Prop) (f:Str):TS:=fun D σ H=>ta σ H fun x H1=>∃ a C dx fs v,x=.ref a∧H1 a=some (.ins C dx fs)∧Cls K C∧pI K C f∧fs.lookup f=some v ∧
 tv σ H1 fun y H2=>rd v y H2 fun z H3=>∃ dx' fs',H3 a=some (.ins C dx' fs')∧fs'.length < 1000∧D.nx σ (upd H3 a (.ins C dx' (cU f z fs')))
section
variable {X:Cx}{o e value:Expr}{f:Str}{pos pos' tpos:Pos}{ta tv:TE}
theorem aM (he:PE X e ta) (hb:attributeBase e f X.env (eval e X.env)=eval e X.env):PE X (.Attribute e f pos) (Ri X.K ta f):=by
 intro pins s σ H Q I h;refine Mf hb (dI (he pins s σ H _ I h) fun u s1 ⟨x,H1,I1,rx,a,C,dx,fs,v,ex,ea,c,n,l,q⟩=>?_);subst ex;obtain rfl:u=Value.ref a:=rx;exact xQ I1 ea c n l fun u' s2 I2 ru=>⟨v,H1,I2,ru,q⟩
theorem fj (ha:PE X o ta) (hv:PE X value tv) (hs:swapsWith value (some (.Attribute o f pos')) pos.line X.env=pure false):PS X (.Assign [.Attribute o f pos'] value pos) (adl X.K ta tv f):=by
 intro pins s σ H D I h;refine plainObj_wpAny_Assign_Attribute (dI (hv pins s σ H _ I h) fun u s1 ⟨y,H1,I1,ry,q⟩=>dI (ha pins s1 σ H1 _ I1 q) fun ov s2 ⟨x,H2,I2,rx,a,C,dx,fs,ex,ea,c,n,l,q2⟩=>?_) hs;subst ex;obtain rfl:ov=Value.ref a:=rx;exact xU I2 ea c n l ry fun s3 I3=>⟨σ,_,I3,q2⟩
theorem Ov {op:Operator}{rd:V→V→Hp→VK→Prop} (ha:PE X o ta) (hv:PE X value tv) (hop:aa2 X op rd):PS X (.AugAssign (.Attribute o f tpos) op value pos) (V1 X.K ta tv rd f):=by
 intro pins s σ H D I h;refine wpAny_AugAssign_AttributeAny (dI (ha pins s σ H _ I h) fun ov s1 ⟨x,H1,I1,rx,a,C,dx,fs,v,ex,ea,c,n,l,q⟩=>?_);subst ex;obtain rfl:ov=Value.ref a:=rx;refine xQ I1 ea c n l fun u s2 I2 ru=>dI (hv pins s2 σ H1 _ I2 q) fun w3 s3 ⟨y,H2,I3,ry,q3⟩=>dI (hop pins s3 σ H2 v y u w3 _ I3 ru ry q3) fun w4 s4 ⟨z,H3,I4,rz,dx',fs',ea',l',q4⟩=>?_;exact xU I4 ea' c n l' rz fun s5 I5=>⟨σ,_,I5,q4⟩
def adn:V→V→Hp→VK→Prop:=fun x y H Q=>∃ i j,x=.int i∧y=.int j∧Q (.int (i+j)) H
theorem Yy:aa2 X .Add adn:=by
 rintro pins s σ H x y u v Q I rx ry ⟨i,j,rfl,rfl,q⟩;obtain ⟨t,rfl⟩:=(show ∃ t,u=Value.int i t from rx);obtain ⟨t',rfl⟩:=(show ∃ t',v=Value.int j t' from ry);exact PyProof.Rows.iadd_int ⟨.int (i+j),H,I.tok _,⟨_,rfl⟩,q⟩
end
end L2
namespace L2
open PySem PySem.Spec PyProof.Rows
structure dZ (k:Nat) (A:Around):Prop where
 hd:A.handled=none
 dp:A.depth+3*k+5 < recursionLimit
 un:A.units+16*k+200 < cLine
theorem dZ.mono {j k:Nat}{A:Around} (r:dZ k A) (h:j≤k):dZ j A:=⟨r.hd,by have:=r.dp;omega,by have:=r.un;omega⟩
theorem dZ.deeper {k:Nat}{A:Around} (r:dZ (k+1) A) (env:Env):dZ k (A.deeper env):=
 ⟨r.hd,by have:=r.dp;show A.depth+1+3*k+5 < _;omega,by have:=r.un;show A.units+3+16*k+200 < _;omega⟩
theorem Jo {A:Around}{C:Addr}{us:List Value}{kw:List (Str×Value)}:(A.under (.builtin "type.__call__" ⟨.ref C::us,kw⟩)).depth=A.depth+1:=by
 first | rfl | simp [Around.under,Code.weight,Code.isCreation,Code.isGuard,Code.isCaller,Code.frames,Code.isFrame,guardIds]
theorem Jp {A:Around}{C:Addr}{us:List Value}{kw:List (Str×Value)}:(A.under (.builtin "type.__call__" ⟨.ref C::us,kw⟩)).units=A.units+1:=by
 first | rfl | simp [Around.under,Code.cUnits,Code.frames,Code.isFrame]
theorem dZ.make {k:Nat}{A:Around} (r:dZ (k+1) A) (C:Addr) (us:List Value) (kw:List (Str×Value)):dZ k (A.under (.builtin "type.__call__" ⟨.ref C::us,kw⟩)):=
 ⟨r.hd,by have:=r.dp;rw [Jo];omega,by have:=r.un;rw [Jp];omega⟩
theorem dZ.depth {k:Nat}{A:Around} (r:dZ k A):A.depth < recursionLimit:=by have:=r.dp;omega
theorem dZ.units {k:Nat}{A:Around} (r:dZ k A):A.units+64 < cLine:=by have:=r.un;omega
def uL:TA:=fun _ H Q=>Q [] H
def Ep (ta:TE) (tr:TA):TA:=fun σ H Q=>ta σ H fun x H1=>tr σ H1 fun xs H2=>Q (x::xs) H2
section
variable {X:Cx}{e:Expr}{es:List Expr}{te:TE}{t:TA}{pos:Pos}
theorem aA:PA X [] uL:=fun _ _ _ _ H Q I h=>Calls.spliced_nil ⟨[],H,I,.nil,h⟩
theorem aj (ha:PE X e te) (hr:PA X es t) (hs:starEach (e::es) X.env=(false,eval e X.env)::starEach es X.env:=by rfl):PA X (e::es) (Ep te t):=by
 intro pos pins s σ H Q I h;rw [hs];show wpAny _ _ (spliced ((false,eval e X.env)::backTo pos (starEach es X.env))) _ _ s;refine Calls.spliced_cons (dI (ha pins s σ H _ I h) fun u s1 ⟨x,H1,I1,r1,q1⟩=>?_);exact dI (hr pos pins s1 σ H1 _ I1 q1) fun us s2 ⟨xs,H2,I2,r2,q2⟩=>⟨x::xs,H2,I2,.cons r1 r2,q2⟩
def ado (t:TA):TE:=fun σ H Q=>t σ H fun xs H1=>xs.length≤sizeLine∧∀ p,H1 p=none→Q (.ref p) (upd H1 p (.tup xs))
def adp (t:TA):TE:=fun σ H Q=>t σ H fun xs H1=>xs.length≤sizeLine∧∀ p,H1 p=none→Q (.ref p) (upd H1 p (.lst xs))
theorem Rj {x1} (h:PA X es t):PE X (.Tuple es x1 pos) (ado t):=by
 intro pins s σ H Q I hq;refine wpAny_Tuple_spliced (dI (h pos pins s σ H _ I hq) fun us s1 ⟨xs,H1,I1,r,z,q⟩=>⟨by rw [←r.length];exact z,?_⟩);have hf:H1 s1.heap.objs.size=none:=I1.hok.fresh (Nat.le_refl _);refine ⟨.ref s1.heap.objs.size,upd H1 s1.heap.objs.size (.tup xs),I1.laid (t':=s1.toks) (fun b u e=>Heap.get?_push_of_some _ e) (Nat.le_refl _) ?_,rfl,q _ hf⟩;exact ⟨z,us,r,⟨_,Heap.get?_push_size _ rfl,rfl,_,rfl⟩⟩
theorem fL (h:PA X es t):PE X (.List es pos) (adp t):=by
 intro pins s σ H Q I hq;refine wpAny_List_spliced (dI (h pos pins s σ H _ I hq) fun us s1 ⟨xs,H1,I1,r,z,q⟩=>⟨by rw [←r.length];exact z,?_⟩);have hf:H1 s1.heap.objs.size=none:=I1.hok.fresh (Nat.le_refl _);refine ⟨.ref s1.heap.objs.size,upd H1 s1.heap.objs.size (.lst xs),I1.laid (t':=s1.toks) (fun b u e=>Heap.get?_push_of_some _ e) (Nat.le_refl _) ?_,rfl,q _ hf⟩;exact ⟨z,us,0,r,Heap.get?_push_size _ rfl⟩
end
abbrev Sp:=List V→Hp→VK→XK→Prop
abbrev Vv:=List Env→Hp→Shared→XK→Value→Shared→Prop
structure Cz (P:Program) (w:World) (K:PySem.W.Frag) (mg:Str→Option Value) (base:Heap) (A:Around) (outer:List Env) (s:Shared) (H:Hp):Prop where
 frames:A.frames=some outer
 mod:Mod K mg base
 bs:∀ b o,base.get? b=some o→s.heap.get? b=some o∧H b=none
 QM:base.objs.size≤s.heap.objs.size
 rG:s.heap.FunFrames base outer
 VH:∀ b∈frs outer,H b=none
 hok:pB P w H s.heap
 bare:AllBare s.gens
def CE (outer:List Env) (P:Program) (w:World) (H:Hp) (s:Shared) (Q:VK) (u:Value) (s':Shared):Prop:=
 ∃ v H',s'.os=s.os∧AllBare s'.gens∧Un (frs outer) [] H H' s.heap s'.heap∧pB P w H' s'.heap∧RelV v u∧Q v H'
def CR (CX:Vv) (outer:List Env) (P:Program) (w:World) (H:Hp) (s:Shared) (Q:VK) (E:XK) (r:Result) (s':Shared):Prop:=
 match r with
 | .ok (.ret u)=>CE outer P w H s Q u s'
 | .ok _=>False
 | .error e=>CX outer H s E e s'
structure iR (P:Program) (w:World) (K:PySem.W.Frag) (mg:Str→Option Value) (base:Heap) (CX:Vv) (k:Nat) (f:Addr) (fd:FuncData) (ps:List Str) (sp:Sp):Prop where
 len:∀ vs H Q E,sp vs H Q E→vs.length=ps.length
 run:∀ (A:Around) (outer:List Env) (s:Shared) (H:Hp) (args:Args) (us:List Value) (vs:List V) (Q:VK) (E:XK),dZ k A→Cz P w K mg base A outer s H→BindsTo s fd args (ps.zip us)→Vals vs us→sp vs H Q E →
  codeAny (model P w) A (.call (.ref f) args) (CR CX outer P w H s Q E) s
theorem iR.mono {P:Program}{w:World}{K:PySem.W.Frag}{mg:Str→Option Value}{base:Heap}{CX:Vv}{j k:Nat}{f:Addr}{fd:FuncData}{ps:List Str}{sp:Sp} (F:iR P w K mg base CX j f fd ps sp) (h:j≤k) :
  iR P w K mg base CX k f fd ps sp:=⟨F.len,fun A outer s H args us vs Q E hr=>F.run A outer s H args us vs Q E (hr.mono h)⟩
theorem Cz.make {P:Program}{w:World}{K:PySem.W.Frag}{mg:Str→Option Value}{base:Heap}{A:Around}{outer:List Env}{s:Shared}{H:Hp} (e:Cz P w K mg base A outer s H) (C:Addr) (us:List Value) (kw:List (Str×Value)) :
  Cz P w K mg base (A.under (.builtin "type.__call__" ⟨.ref C::us,kw⟩)) outer s H:=⟨by first | exact e.frames | (simpa [Around.under,Code.envs,Code.isFrame,pushEnvs] using e.frames),e.mod,e.bs,e.QM,e.rG,e.VH,e.hok,e.bare⟩
section
variable {X:Cx}{pins:List (Addr×Obj)}{σ:St}{H:Hp}{s s':Shared}
theorem Inv.env0 (I:Inv X pins σ H s):Cz X.prog X.w X.K X.mg X.base X.A X.stack s H:=
 ⟨I.ok.frames,I.ok.mod,I.bs,Nat.le_trans I.ok.QM I.sz,I.stack,I.sX,I.hok,I.bare⟩
theorem Inv.after {Q:VK}{u:Value} (I:Inv X pins σ H s) (h:CE X.stack X.prog X.w H s Q u s'):EP X pins σ Q u s':=by
 obtain ⟨v,H',os,bare,un,hok,r,q⟩:=h;obtain ⟨hh,g,d,t,os'⟩:=s';obtain rfl:os'=s.os:=os;exact ⟨v,H',I.call (h':=hh) (g':=g) (d':=d) (t':=t) (ch:=[]) un hok bare (fun b z=>absurd z (by simp)),r,q⟩
end
def Rk (sp:Sp) (Af:List V) (E:XK) (t:TA):TE:=fun σ H Q=>t σ H fun vs H1=>sp (vs++Af) H1 Q E
def tH (C:Addr) (m:Str) (sp:Sp) (Af:List V) (E:XK) (ta:TE) (t:TA):TE:=fun σ H Q=>ta σ H fun x H1=>∃ a dx fs,x=.ref a∧H1 a=some (.ins C dx fs)∧fs.lookup m=none ∧
 t σ H1 fun vs H2=>sp (x::(vs++Af)) H2 Q E
def Rm (C:Addr) (sp:Sp) (Af:List V) (E:XK) (t:TA):TE:=fun σ H Q=>t σ H fun vs H1=>∀ x dx,H1 x=none→H1 dx=none→dx≠x →
 sp (.ref x::(vs++Af)) (upd (upd H1 dx (.own x)) x (.ins C dx [])) (fun v H2=>v=.non∧Q (.ref x) H2) E
def Binds (K:PySem.W.Frag) (fd:FuncData) (ps:List Str) (ds:List Value):Prop:=
 ∀ (s:Shared) (us:List Value),K.In s.heap→(us++ds).length=ps.length→BindsTo s fd ⟨us,[]⟩ (ps.zip (us++ds))
theorem Binds.all {K:PySem.W.Frag}{fd:FuncData}{ps:List Str} (h:∀ us:List Value,us.length=ps.length→bindArgs fd ⟨us,[]⟩=pure (ps.zip us)):Binds K fd ps []:=fun s us _ hl=>by
 rw [List.append_nil] at hl ⊢;exact .of_eq (h us hl)
def Passes (CX:Vv) (X:Cx) (E:XK):Prop:=∀ (pins:List (Addr×Obj)) (σ:St) (H:Hp) (s:Shared) (e:Value) (s':Shared),Inv X pins σ H s→CX X.stack H s E e s'→X.xe e s'
section
variable {X:Cx}{CX:Vv}{k:Nat}{f C:Addr}{fd:FuncData}{ps:List Str}{sp:Sp}{Af:List V}{ds:List Value}{E:XK}{x m:Str}{p pos apos:Pos}{e o:Expr}{es:List Expr}{ta:TE}{t:TA}
theorem CG {pins:List (Addr×Obj)}{σ:St}{H:Hp}{s:Shared}{Q:VK}{us:List Value}{vs:List V} (F:iR X.prog X.w X.K X.mg X.base CX k f fd ps sp) (hr:dZ k X.A) (hb:Binds X.K fd ps ds) (hd:Vals Af ds) (hx:Passes CX X E)
  (I:Inv X pins σ H s) (r:Vals vs us) (h:sp (vs++Af) H Q E):wpAny (model X.prog X.w) X.A (call (.ref f) us) (EP X pins σ Q) X.xe s:=by
 have r2:Vals (vs++Af) (us++ds):=r.append hd;have hl:(us++ds).length=ps.length:=by rw [←r2.length];exact F.len _ _ _ _ h
 refine wpAny_call (codeAny_mono (F.run X.A X.stack s H ⟨us,[]⟩ (us++ds) (vs++Af) Q E hr I.env0 (hb s us I.rH hl) r2 h) fun r s' hq=>?_);cases r with
 | error e=>exact hx pins σ H s e s' I hq
 | ok fl=>
  cases fl with
  | ret u=>exact I.after hq
  | next=>exact False.elim hq
  | brk=>exact False.elim hq
  | cont=>exact False.elim hq
theorem V2 (F:iR X.prog X.w X.K X.mg X.base CX k f fd ps sp) (hr:dZ k X.A) (hg:Gl X x) (hm:X.mg x=some (.ref f)) (hk:PySem.W.keepIn X.K (.ref f)=true) (hb:Binds X.K fd ps ds) (hd:Vals Af ds) (hx:Passes CX X E)
  (ha:PA X (e::es) t) (hdb:(x==("__debug__":Str))=false:=by decide) (he:starEach (e::es) X.env=(false,eval e X.env)::starEach es X.env:=by rfl) (hpl:(backTo pos (starEach es X.env)).any (·.1)=false:=by rfl) :
  PE X (.Call (.Name x p) (e::es) [] pos) (Rk sp Af E t):=by
 intro pins s σ H Q I h;refine wpAny_Call_Name_kw (jT I hg hm ?_ hdb);refine PySem.W.callWith_K (h₀:=X.base) I.ok.mod.Vu hk (dI (ha pos pins s σ H _ I h) fun us s1 ⟨vs,H1,I1,r,q⟩=>⟨I1.rH,?_⟩) he hpl;exact CG F hr hb hd hx I1 r q
theorem V3 {pl:Sem Bool} (he:PE X o ta) (c:Cls X.K C) (hm:Meth X.K C m f) (F:iR X.prog X.w X.K X.mg X.base CX k f fd ps sp) (hr:dZ k X.A) (hb:Binds X.K fd ps ds) (hd:Vals Af ds) (hx:Passes CX X E) (ha:PA X (e::es) t)
  (hst:starEach (e::es) X.env=(false,eval e X.env)::starEach es X.env:=by rfl) (hpl:(backTo pos (starEach es X.env)).any (·.1)=false:=by rfl)
  (ht:eval (.Call (.Attribute o m apos) (e::es) [] pos) X.env=(do
   let ov ←eval o X.env
   standAt apos.atName
   let (f,first) ←holding [ov] (getMethod ov m pl)
   callWith pos f first (backTo pos (starEach (e::es) X.env)) (backToKw pos (keywordEach [] X.env))):=by rfl) :
  PE X (.Call (.Attribute o m apos) (e::es) [] pos) (tH C m sp Af E ta t):=by
 intro pins s σ H Q I h;refine PySem.W.methodCall_KW (pl:=pl) (dI (he pins s σ H _ I h) fun u s1 ⟨x,H1,I1,rx,a,dx,fs,ex,ea,l,q⟩=>?_) ht;subst ex;obtain rfl:u=Value.ref a:=rx;refine xR I1 ea c hm l ?_;refine PySem.W.callWith_K (first:=[.ref a]) (h₀:=X.base) I.ok.mod.Vu hm.kp (dI (ha pos pins s1 σ H1 _ I1 q) fun us s2 ⟨vs,H2,I2,r,q2⟩=>⟨I2.rH,?_⟩) hst hpl;exact CG (us:=.ref a::us) (vs:=.ref a::vs) F hr hb hd hx I2 (.cons rfl r) q2
theorem Rn {pl:Sem Bool} (he:PE X o ta) (c:Cls X.K C) (hm:Meth X.K C m f) (F:iR X.prog X.w X.K X.mg X.base CX k f fd ps sp) (hr:dZ k X.A) (hb:Binds X.K fd ps ds) (hd:Vals Af ds) (hx:Passes CX X E)
  (ht:eval (.Call (.Attribute o m apos) [] [] pos) X.env=(do
   let ov ←eval o X.env
   standAt apos.atName
   let (f,first) ←holding [ov] (getMethod ov m pl)
   callWith pos f first (backTo pos (starEach [] X.env)) (backToKw pos (keywordEach [] X.env))):=by rfl) :
  PE X (.Call (.Attribute o m apos) [] [] pos) (tH C m sp Af E ta uL):=by
 intro pins s σ H Q I h;refine PySem.W.methodCall_KW (pl:=pl) (dI (he pins s σ H _ I h) fun u s1 ⟨x,H1,I1,rx,a,dx,fs,ex,ea,l,q⟩=>?_) ht;subst ex;obtain rfl:u=Value.ref a:=rx;refine xR I1 ea c hm l ?_;exact PySem.W.callWith_K0 (first:=[.ref a]) I1.rH hm.kp (CG (us:=[.ref a]) (vs:=[.ref a]) F hr hb hd hx I1 (.cons rfl .nil) q)
structure Mk (K:PySem.W.Frag) (C f:Addr):Prop where
 makes:PySem.W.makesIn K C=true
 init:PySem.W.findIn K (.ref C) "__init__"=some (some (.ref f))
 fn:PySem.W.isFn K (.ref f)=true
 kp:PySem.W.keepIn K (.ref C)=true
theorem Ro {pins:List (Addr×Obj)}{σ:St}{H:Hp}{s:Shared}{Q:VK}{us:List Value}{vs:List V} (M:Mk X.K C f) (F:iR X.prog X.w X.K X.mg X.base CX k f fd ps sp) (hr:dZ (k+1) X.A) (hb:Binds X.K fd ps ds) (hd:Vals Af ds)
  (hx:Passes CX X E) (I:Inv X pins σ H s) (r:Vals vs us)
  (h:∀ x dx,H x=none→H dx=none→dx≠x→sp (.ref x::(vs++Af)) (upd (upd H dx (.own x)) x (.ins C dx [])) (fun v H2=>v=.non∧Q (.ref x) H2) E) :
  wpAny (model X.prog X.w) X.A (call (.ref C) us) (EP X pins σ Q) X.xe s:=by
 have hq:=h (s.heap.objs.size+1) s.heap.objs.size (I.hok.fresh (Nat.le_succ _)) (I.hok.fresh (Nat.le_refl _)) (Nat.ne_of_lt (Nat.lt_succ_self _));have I2:=Inv.made (C:=C) I;have r2:Vals (V.ref (s.heap.objs.size+1)::(vs++Af)) (Value.ref (s.heap.objs.size+1)::(us++ds)):=.cons rfl (r.append hd);have hl:(Value.ref (s.heap.objs.size+1)::us++ds).length=ps.length:=by
  have e:=r2.length;rw [F.len _ _ _ _ hq] at e;exact e.symm
 refine wpAny_call (Rh (f:=f) I.rH M.makes M.init (beq_iff_eq.mp M.fn) (codeAny_mono (F.run _ X.stack _ _ ⟨Value.ref (s.heap.objs.size+1)::us,[]⟩ (Value.ref (s.heap.objs.size+1)::(us++ds)) _ _ E (hr.make C us [])
  (I2.env0.make C us []) (hb _ (Value.ref (s.heap.objs.size+1)::us) I2.rH hl) r2 hq) fun r s' hq'=>?_))
 cases r with
 | error e=>exact hx pins σ _ _ e s' I2 hq'
 | ok fl=>
  cases fl with
  | ret u=>
   obtain ⟨v,H',I3,rv,ev,q3⟩:=I2.after hq';subst ev;exact ⟨rv,⟨V.ref (s.heap.objs.size+1),H',I3,rfl,q3⟩⟩
  | next=>exact False.elim hq'
  | brk=>exact False.elim hq'
  | cont=>exact False.elim hq'
theorem V4 (M:Mk X.K C f) (F:iR X.prog X.w X.K X.mg X.base CX k f fd ps sp) (hr:dZ (k+1) X.A) (hg:Gl X x) (hm:X.mg x=some (.ref C)) (hb:Binds X.K fd ps ds) (hd:Vals Af ds) (hx:Passes CX X E)
  (ha:PA X (e::es) t) (hdb:(x==("__debug__":Str))=false:=by decide) (he:starEach (e::es) X.env=(false,eval e X.env)::starEach es X.env:=by rfl) (hpl:(backTo pos (starEach es X.env)).any (·.1)=false:=by rfl) :
  PE X (.Call (.Name x p) (e::es) [] pos) (Rm C sp Af E t):=by
 intro pins s σ H Q I h;refine wpAny_Call_Name_kw (jT I hg hm ?_ hdb);refine PySem.W.callWith_K (h₀:=X.base) I.ok.mod.Vu M.kp (dI (ha pos pins s σ H _ I h) fun us s1 ⟨vs,H1,I1,r,q⟩=>⟨I1.rH,?_⟩) he hpl;exact Ro M F hr hb hd hx I1 r q
end
structure aH (N P:List Str) (sc:Scope):Prop where
 kind:sc.kind=.function
 co:sc.isCoroutine=false
 gen:sc.isGenerator=false
 nd:N.Nodup
 pre:N.take P.length=P
 par:∀ x∈P,sc.names.lookup x=some .local∨sc.names.lookup x=some .cell
 Yz:∀ y∈sc.names,y.2≠.free
theorem Bd {kindOf:Str→Option NameKind}{x:Str}:∀ {binds:List (Str×Value)}{m:Str→Option Value},(∀ v,(x,v)∉binds)→bindL kindOf binds m x=m x
 | [],_,_=>rfl
 | (n,v)::r,m,h=>by
  unfold bindL;rw [Bd fun w hw=>h w (List.mem_cons_of_mem _ hw)];split
  ·have:x≠n:=by rintro rfl;exact h v List.mem_cons_self
   simp [this]
  ·rfl
theorem Bf {kindOf:Str→Option NameKind}{x:Str}:∀ {binds:List (Str×Value)}{m:Str→Option Value},(∀ v,(x,v)∉binds)→bindC kindOf binds m x=m x
 | [],_,_=>rfl
 | (n,v)::r,m,h=>by
  unfold bindC;rw [Bf fun w hw=>h w (List.mem_cons_of_mem _ hw)];split
  ·rfl
  ·have:x≠n:=by rintro rfl;exact h v List.mem_cons_self
   simp [this]
theorem Bg {kindOf:Str→Option NameKind}{x:Str}{v:Value}:∀ {P:List Str}{vs:List Value}{i:Nat}{m:Str→Option Value},P.Nodup→P[i]?=some x→vs[i]?=some v→kindOf x=some .local →
  bindL kindOf (P.zip vs) m x=some v
 | [],_,_,_,_,h,_,_=>by simp at h
 | _::_,[],_,_,_,_,h,_=>by simp at h
 | p::P,w::vs,0,m,nd,h1,h2,hk=>by
  simp at h1 h2;subst h1;subst h2;show bindL kindOf ((p,w)::P.zip vs) m p=_;unfold bindL;rw [Bd fun v hv=>(List.nodup_cons.mp nd).1 (List.of_mem_zip hv).1,if_pos hk];simp
 | p::P,w::vs,i+1,m,nd,h1,h2,hk=>by
  show bindL kindOf ((p,w)::P.zip vs) m x=_;unfold bindL;exact Bg (i:=i) (List.nodup_cons.mp nd).2 (by simpa using h1) (by simpa using h2) hk
theorem Bh {kindOf:Str→Option NameKind}{x:Str}{v:Value}:∀ {P:List Str}{vs:List Value}{i:Nat}{m:Str→Option Value},P.Nodup→P[i]?=some x→vs[i]?=some v→kindOf x≠some .local →
  bindC kindOf (P.zip vs) m x=some v
 | [],_,_,_,_,h,_,_=>by simp at h
 | _::_,[],_,_,_,_,h,_=>by simp at h
 | p::P,w::vs,0,m,nd,h1,h2,hk=>by
  simp at h1 h2;subst h1;subst h2;show bindC kindOf ((p,w)::P.zip vs) m p=_;unfold bindC;rw [Bf fun v hv=>(List.nodup_cons.mp nd).1 (List.of_mem_zip hv).1,if_neg hk];simp
 | p::P,w::vs,i+1,m,nd,h1,h2,hk=>by
  show bindC kindOf ((p,w)::P.zip vs) m x=_;unfold bindC;exact Bh (i:=i) (List.nodup_cons.mp nd).2 (by simpa using h1) (by simpa using h2) hk
def start (N:List Str) (vs:List V):St:=vs.map some++List.replicate (N.length-vs.length) none
def aL (CX:Vv) (P:Program) (w:World) (K:PySem.W.Frag) (mg:Str→Option Value) (base:Heap) (N:List Str) (qual:Str) (scope:Scope) (f:Addr) (cd:Value) (A:Around) (outer:List Env) (s:Shared) (H:Hp) (E:XK):Cx where
 prog:=P
 w:=w
 K:=K
 mg:=mg
 base:=base
 A:=A.deeper (envOfC qual scope s.heap.objs.size f cd)
 N:=N
 s_0:=s
 Yr:=H
 env:=envOfC qual scope s.heap.objs.size f cd
 outer:=outer
 stack:=envOfC qual scope s.heap.objs.size f cd::outer
 ex:=[]
 calm:=true
 fn:=fun _=>true
 pn:=[]
 xe:=fun e s'=>wpAny (model P w) (A.deeper (envOfC qual scope s.heap.objs.size f cd)) (leaving (envOfC qual scope s.heap.objs.size f cd) e) (fun _ s''=>CX outer H s E e s'') (fun e' s''=>CX outer H s E e' s'') s'
theorem Er {sc:Scope}{n:Nat}{x:Str} (h:sc.names.lookup x=some .cell):∃ c,(cellsFrom n sc.names []).lookup x=some c:=by
 have q:=PySem.W.cellsFrom_some sc.names n [] (.inl h);exact Option.isSome_iff_exists.mp q
theorem Bj {CX:Vv}{P:Program}{w:World}{K:PySem.W.Frag}{mg:Str→Option Value}{base:Heap}{N ps:List Str}{qual:Str}{scope:Scope}{f:Addr}{cd:Value}{A:Around}{outer:List Env}{s s1:Shared}{H:Hp}{E:XK}{us:List Value}{vs:List V}
  (S:aH N ps scope) (hd:A.handled=none) (e0:Cz P w K mg base A outer s H) (hl:vs.length=ps.length) (r:Vals vs us)
  (x:InCallC s s.heap.objs.size (bindL (envOfC qual scope s.heap.objs.size f cd).kindOf (ps.zip us) fun _=>none) (cellsFrom (s.heap.objs.size+1) scope.names []) (bindC (envOfC qual scope s.heap.objs.size f cd).kindOf (ps.zip us) fun _=>none) s1) :
  Inv (aL CX P w K mg base N qual scope f cd A outer s H E) [] (start N vs) H s1:=by
 have hpl:ps.length≤N.length:=by have:=congrArg List.length S.pre;rw [List.length_take] at this;omega
 obtain ⟨h1,tk,rfl,hk⟩:=x.done;have YB:∀ b:Addr,b∉(aL CX P w K mg base N qual scope f cd A outer s H E).ex:=fun b z=>absurd (show b∈([]:List Addr) from z) (by simp);refine ⟨⟨e0.mod,S.kind,rfl,rfl,Nat.le_refl _,fun y z c h1 h2=>?_,fun y hy=>?_,fun y c _ h=>?_,fun _=>hd,Around.frames_deeper e0.frames,.inr ⟨rfl,rfl⟩,fun b z=>absurd z (YB b),e0.bs,e0.QM,fun b _ _=>YB b,fun b z=>absurd z (YB b),e0.rG,e0.VH⟩,
  rfl,e0.bare,Un.kept hk,⟨_,x.toInCall.ns,fun i y v h1 h2 h3=>?_⟩,fun y c h=>⟨_,x.cell y c h⟩,e0.hok.fresh (Nat.le_refl _),fun y c h=>?_,fun p hp=>absurd (show p∈([]:List (Addr×Obj)) from hp) (by simp),e0.hok.kept hk,?_⟩
 ·exact name_of_addr x.apart (PySem.mem_of_lookup h1) (PySem.mem_of_lookup h2)
 ·have hy:scope.names.lookup y=some .cell∨scope.names.lookup y=some .free:=hy;rcases hy with hy | hy
  ·exact Er hy
  ·exact absurd rfl (S.Yz _ (PySem.mem_of_lookup hy))
 ·exact Nat.le_of_lt (x.above y c (PySem.mem_of_lookup h))
 ·have hi:i < vs.length:=by
   unfold start at h2;by_cases hi:i < vs.length
   ·exact hi
   ·rw [List.getElem?_append_right (by simpa using hi)] at h2;rw [List.getElem?_replicate] at h2;split at h2 <;> cases h2
  have ha:vs[i]?=some v:=by
   unfold start at h2;rw [List.getElem?_append_left (by simpa using hi),List.getElem?_map] at h2;cases e:vs[i]? with
   | none=>rw [e] at h2;cases h2
   | some a=>rw [e] at h2;cases h2;rfl
  obtain ⟨u,hu,rv⟩:=r.get ha;have hp:ps[i]?=some y:=by
   rw [←S.pre,List.getElem?_take_of_lt (by omega)];exact h1
  have ndP:ps.Nodup:=by rw [←S.pre];exact S.nd.sublist (List.take_sublist _ _)
  refine ⟨u,rv,?_⟩;rcases S.par y (List.mem_of_getElem? hp) with k | k
  ·exact .inl ⟨k,Bg ndP hp hu k⟩
  ·obtain ⟨c,e⟩:=Er (n:=s.heap.objs.size+1) k;refine .inr ⟨.inl k,c,e,?_⟩;have q:=x.cell y c e;rw [Bh ndP hp hu (by show scope.names.lookup y≠_;rw [k];decide)] at q;exact q
 ·exact e0.hok.fresh (Nat.le_of_lt (x.above y c (PySem.mem_of_lookup h)))
 ·unfold start;show _=N.length;rw [List.length_append,List.length_map,List.length_replicate];omega
theorem Rp {CX:Vv}{P:Program}{w:World}{K:PySem.W.Frag}{mg:Str→Option Value}{base:Heap}{k:Nat}{f:Addr}{name qual:Str}{params:Arguments}{body:List Stmt}{scope:Scope}{dV kV doc pm cdv ct oc:Value}{an od:Option Addr}
  {osl:Array (Option Value)}{N ps:List Str}{sp:Sp} (lk:K.lookup f=some ⟨oc,od,.func (PySem.W.fnOf name qual params body scope dV kV doc pm an cdv ct),osl⟩) (hcd:PySem.W.codeIn K cdv qual=true) (S:aH N ps scope)
  (len:∀ vs H Q E,sp vs H Q E→vs.length=ps.length)
  (hbody:∀ (A:Around) (outer:List Env) (s:Shared) (H:Hp) (vs:List V) (Q:VK) (E:XK),dZ k (A.deeper (envOfC qual scope s.heap.objs.size f cdv))→sp vs H Q E →
   ∃ t,Jc (aL CX P w K mg base N qual scope f cdv A outer s H E) body t∧t { nx:=fun _ H'=>Q .non H',rt:=Q } (start N vs) H) :
  iR P w K mg base CX (k+1) f (PySem.W.fnOf name qual params body scope dV kV doc pm an cdv ct) ps sp:=by
 refine ⟨len,fun A outer s H args us vs Q E hr e0 hb r hsp=>?_⟩;have hl:=len _ _ _ _ hsp;have KX:K.In s.heap:=e0.mod.Vu.keeps fun b o e=>(e0.bs b o e).1;have lim:s.heap.NoLimit:=e0.mod.nolimit.keeps fun b o e=>(e0.bs b o e).1;have hkind:∀ y∈ps.zip us,scope.names.lookup y.1=some .local∨(scope.names.lookup y.1=some .cell∧((cellsFrom (s.heap.objs.size+1) scope.names []).lookup y.1).isSome=true):=fun ⟨n,v⟩ hy=>by
  rcases S.par n (List.of_mem_zip hy).1 with q | q
  ·exact .inl q
  ·exact .inr ⟨q,PySem.W.cellsFrom_some _ _ _ (.inl q)⟩
 refine codeAny_call_function hr.depth (KX _ _ lk) rfl S.co S.gen rfl (PySem.W.codeRec_of KX hcd) (hb _ _ _ _ ?_);refine wpAny_newFunctionEnv_cells S.kind hkind fun env he s1 x=>?_;subst he;refine ⟨lim.keeps x.toInCall.keep,codeAny_func ?_⟩;obtain ⟨t,ht,hq⟩:=hbody A outer s H vs Q E (hr.deeper _) hsp;have I:Inv (aL CX P w K mg base N qual scope f cdv A outer s H E) [] (start N vs) H s1:=Bj S hr.hd e0 hl r x;refine wpAny_mono (ht [] s1 (start N vs) H _ I hq) (fun fl s' hs=>?_) fun e s' hs=>hs;have fin:∀ {σ':St}{H':Hp}{v:V}{u:Value},Inv (aL CX P w K mg base N qual scope f cdv A outer s H E) [] σ' H' s'→RelV v u→Q v H'→CE outer P w H s Q u s':=
  fun {σ' H' v u} J rv q=>⟨v,H',J.os,J.bare,J.base,J.hok,rv,q⟩
 cases fl with
 | ret u=>
  obtain ⟨v,σ',H',J,rv,q⟩:=hs;exact fin J rv q
 | next=>
  obtain ⟨σ',H',J,q⟩:=hs;exact fin (v:=V.non) (u:=Value.none) J rfl q
 | brk=>
  obtain ⟨_,_,_,q⟩:=hs;exact False.elim q
 | cont=>
  obtain ⟨_,_,_,q⟩:=hs;exact False.elim q
end L2
namespace L2
open PySem PySem.Spec PyProof.Rows
section
variable {X:Cx}{x:Str}{p pos:Pos}{e:Expr}{es:List Expr}{t:TA}{id T:String}{r:List V→Hp→VK→Prop}
def tCB (r:List V→Hp→VK→Prop) (t:TA):TE:=fun σ H Q=>t σ H fun vs H1=>r vs H1 Q
theorem aU (hc:pH X (.builtin id) r) (hg:Gl X x) (hm:X.mg x=none) (hv:bootBuiltins x=some (.builtin id)) (ha:PA X (e::es) t) (hn:x≠"__name__":=by decide) (hdb:(x==("__debug__":Str))=false:=by decide)
  (he:starEach (e::es) X.env=(false,eval e X.env)::starEach es X.env:=by rfl) (hpl:(backTo pos (starEach es X.env)).any (·.1)=false:=by rfl):PE X (.Call (.Name x p) (e::es) [] pos) (tCB r t):=by
 intro pins s σ H Q I h;refine wpAny_Call_Name_kw (Ck I hg hm hv ?_ hn hdb);exact PyProof.Rows.callWith_builtin1 (dI (ha pos pins s σ H _ I h) fun us s1 ⟨vs,H1,I1,r1,q1⟩=>hc pins s1 σ H1 vs us Q I1 r1 q1) he hpl
theorem m8 (hc:pH X (.type T) r) (hg:Gl X x) (hm:X.mg x=none) (hv:bootBuiltins x=some (.type T)) (ha:PA X (e::es) t) (hn:x≠"__name__":=by decide) (hdb:(x==("__debug__":Str))=false:=by decide)
  (he:starEach (e::es) X.env=(false,eval e X.env)::starEach es X.env:=by rfl) (hpl:(backTo pos (starEach es X.env)).any (·.1)=false:=by rfl):PE X (.Call (.Name x p) (e::es) [] pos) (tCB r t):=by
 intro pins s σ H Q I h;refine wpAny_Call_Name_kw (Ck I hg hm hv ?_ hn hdb);exact PyProof.Rows.callWith_type1 (dI (ha pos pins s σ H _ I h) fun us s1 ⟨vs,H1,I1,r1,q1⟩=>hc pins s1 σ H1 vs us Q I1 r1 q1) he hpl
end
end L2
namespace HT
open PySem PyProof.Rows
section
variable {prog:Program}{w:World}{A:Around}{E:Value→Shared→Prop}{s:Shared}
def j4 (n d:Nat):Option Int→Nat
 | none=>d
 | some v=>if v < 0 then (v+(n:Int)).toNat else min v.toNat n
theorem Es (n d:Nat):j4 n d none=d:=rfl
theorem wK (n d k:Nat):j4 n d (some (k:Int))=min k n:=by
 show (if (k:Int) < 0 then ((k:Int)+(n:Int)).toNat else min (k:Int).toNat n)=min k n;rw [if_neg (by omega),Int.toNat_natCast]
theorem Rq (n d:Nat) (hd:d≤n) (o:Option Int):j4 n d o≤n:=by
 cases o with
 | none=>exact hd
 | some v=>
  show (if v < 0 then (v+(n:Int)).toNat else min v.toNat n)≤n;by_cases hv:v < 0
  ·rw [if_pos hv];omega
  ·rw [if_neg hv];exact Nat.min_le_right _ _
end
end HT
namespace L2
open PySem PySem.Spec PyProof.Rows
abbrev TO:=St→Hp→(Option Int→Hp→Prop)→Prop
def PO (X:Cx) (e:Option Expr) (t:TO):Prop:=
 ∀ (pins:List (Addr×Obj)) (s:Shared) (σ:St) (H:Hp) (Q:Option Int→Hp→Prop),Inv X pins σ H s→t σ H Q →
  wpAny (model X.prog X.w) X.A (evalPart e X.env) (fun u s'=>∃ o H',Inv X pins σ H' s'∧IsPart u o∧Q o H') X.xe s
def V5:TO:=fun _ H Q=>Q none H
def aa3 (t:TE):TO:=fun σ H Q=>t σ H fun x H1=>∃ i,x=.int i∧Q (some i) H1
section
variable {X:Cx}{e:Expr}{te:TE}{lo hi:Option Expr}{tl th:TO}{pos p2:Pos}
theorem wL:PO X none V5:=by
 intro pins s σ H Q I h;rw [evalPart_none];exact wpAny_pure ⟨none,H,I,.none,h⟩
theorem qC (h:PE X e te):PO X (some e) (aa3 te):=by
 intro pins s σ H Q I hw;rw [evalPart_some];refine dI (h pins s σ H _ I hw) fun u s1 ⟨x,H1,I1,r1,q1⟩=>?_;obtain ⟨i,rfl,q⟩:=q1;obtain ⟨t,rfl⟩:=r1;exact ⟨some i,H1,I1,.int i t,q⟩
def SlR (X:Cx) (r:V→Option Int→Option Int→Hp→VK→Prop):Prop:=
 ∀ (pins:List (Addr×Obj)) (s:Shared) (σ:St) (H:Hp) (x:V) (v vl vu:Value) (lo hi:Option Int) (sl:Addr) (Q:VK),Inv X pins σ H s→RelV x v→s.heap.IsSliceOf sl vl vu .none→IsPart vl lo→IsPart vu hi→r x lo hi H Q →
  ∃ T id,typeLookup (.type T) "__getitem__"=pure (some (.builtin id))∧s.TypeIs v T∧wpAny (model X.prog X.w) X.A (getItem v (.ref sl)) (EP X pins σ Q) X.xe s
def tSl (r:V→Option Int→Option Int→Hp→VK→Prop) (te:TE) (tl th:TO):TE:=fun σ H Q=>te σ H fun x H1=>tl σ H1 fun l H2=>th σ H2 fun u H3=>r x l u H3 Q
theorem pJ {r:V→Option Int→Option Int→Hp→VK→Prop} (hr:SlR X r) (he:PE X e te) (hl:PO X lo tl) (hu:PO X hi th):PE X (.Subscript e (.Slice lo hi none p2) pos) (tSl r te tl th):=by
 intro pins s σ H Q I h;refine Subscript_ (dI (he pins s σ H _ I h) fun v s1 ⟨x,H1,I1,r1,q1⟩=>?_);refine wpAny_Slice (dI (hl pins s1 σ H1 _ I1 q1) fun vl s2 ⟨l,H2,I2,pl,q2⟩=>dI (hu pins s2 σ H2 _ I2 q2) fun vu s3 ⟨u,H3,I3,pu,q3⟩=>?_);rw [evalPart_none];refine wpAny_pure ?_;have I4:Inv X pins σ H3 { s3 with heap:=s3.heap.push { cls:=.type "slice",data:=.fields #[vl,vu,.none] } }:=I3.kept (t':=s3.toks) fun b ob q=>Heap.get?_push_of_some _ q;obtain ⟨T,id,hT,ht,hg⟩:=hr pins { s3 with heap:=s3.heap.push { cls:=.type "slice",data:=.fields #[vl,vu,.none] } } σ H3 x v vl vu l u s3.heap.objs.size Q I4 r1 (Heap.IsSliceOf.new ..) pl pu q3;show wpAny (model X.prog X.w) X.A (subscriptTail e (.Slice lo hi none p2) v (.ref s3.heap.objs.size)) (EP X pins σ Q) X.xe { s3 with heap:=s3.heap.push { cls:=.type "slice",data:=.fields #[vl,vu,.none] } };exact tail_any (ops:=[.ref s3.heap.objs.size,v]) ht hT hg (by with_unfolding_all rfl)
def Et (xs:List V) (lo hi:Option Int):List V:=(xs.drop (HT.j4 xs.length 0 lo)).take (HT.j4 xs.length xs.length hi-HT.j4 xs.length 0 lo)
theorem Eu (xs:List V) (lo hi:Option Int):(Et xs lo hi).length≤xs.length:=by
 unfold Et;rw [List.length_take,List.length_drop];omega
end
end L2
namespace L2
open PySem PySem.Spec PyProof.Rows
def XJ (n:Nat) (i:Int):Option Nat:=if 0≤i then (if i < n then some i.toNat else none) else if -(n:Int)≤i then some (i+n).toNat else none
def Vw {α:Type} (xs:List α) (i:Int):Option α:=(XJ xs.length i).bind fun j=>xs[j]?
theorem V6 {n:Nat}{i:Int}{j:Nat} (h:XJ n i=some j):seqIndex? i n=some j∧j < n∧-(n:Int)≤i∧i < n:=by
 unfold XJ at h;by_cases h0:0≤i
 ·rw [if_pos h0] at h;by_cases h1:i < n
  ·rw [if_pos h1] at h;have e:i.toNat=j:=Option.some.inj h;exact ⟨by rw [seqIndex_of h0 h1,e],by omega,by omega,h1⟩
  ·rw [if_neg h1] at h;cases h
 ·rw [if_neg h0] at h;by_cases h1:-(n:Int)≤i
  ·rw [if_pos h1] at h;have e:(i+n).toNat=j:=Option.some.inj h;exact ⟨by rw [seqIndex_neg (by omega) h1,e],by omega,h1,by omega⟩
  ·rw [if_neg h1] at h;cases h
theorem CJ {α:Type}{xs:List α}{i:Int}{v:α} (h:Vw xs i=some v):∃ j,seqIndex? i xs.length=some j∧xs[j]?=some v∧j < xs.length∧-(xs.length:Int)≤i∧i < xs.length:=by
 unfold Vw at h;cases e:XJ xs.length i with
 | none=>rw [e] at h;cases h
 | some j=>
  rw [e] at h;obtain ⟨h1,h2,h3,h4⟩:=V6 e;exact ⟨j,h1,h,h2,h3,h4⟩
theorem lQ {α:Type}{xs:List α}{j:Nat}{v:α} (h:xs[j]?=some v):Vw xs (j:Int)=some v:=by
 have hj:j < xs.length:=(List.getElem?_eq_some_iff.mp h).1;have e:XJ xs.length (j:Int)=some j:=by
  unfold XJ;rw [if_pos (by omega),if_pos (by omega)];simp
 unfold Vw;rw [e];exact h
theorem xV {α:Type} (xs:List α) (v:α):Vw (xs++[v]) (-1)=some v:=by
 have hl:(xs++[v]).length=xs.length+1:=by simp
 have e:XJ (xs++[v]).length (-1)=some xs.length:=by
  unfold XJ;rw [hl,if_neg (by decide),if_pos (by omega)];congr 1;omega
 unfold Vw;rw [e];show (xs++[v])[xs.length]?=some v;simp
def V7 (b:Expr):Prop:=∀ o i,subscripted b false o i=operate [o,i] (getItem o i)
def IxR (X:Cx) (r:R2):Prop:=
 ∀ (value slice:Expr) (pins:List (Addr×Obj)) (s:Shared) (σ:St) (H:Hp) (x y:V) (v u:Value) (Q:VK),Inv X pins σ H s→RelV x v→RelV y u→r x y H Q →
  subscripted slice false v u=operate [v,u] (getItem v u)→wpAny (model X.prog X.w) X.A (subscriptTail value slice v u) (EP X pins σ Q) X.xe s
def MtR (X:Cx) (id:String) (r:V→List V→Hp→VK→Prop):Prop:=
 ∀ (pins:List (Addr×Obj)) (s:Shared) (σ:St) (H:Hp) (x:V) (xs:List V) (v:Value) (us:List Value) (Q:VK),Inv X pins σ H s→RelV x v→Vals xs us→r x xs H Q →
  wpAny (model X.prog X.w) X.A (call (.builtin id) (v::us)) (EP X pins σ Q) X.xe s
section
variable {X:Cx}{a b:Expr}{ta tb:TE}{pos:Pos}
theorem fM {r:R2} (hr:IxR X r) (ha:PE X a ta) (hb:PE X b tb) (hs:V7 b):PE X (.Subscript a b pos) (tOp r ta tb):=by
 intro pins s σ H Q I h;exact Subscript_ (Yv ha hb I h fun v u s2 x y H2 I2 rx ry q=>hr a b pins s2 σ H2 x y v u Q I2 rx ry q (hs _ _))
def aa5 (K:PySem.W.Frag):R2:=fun x y H Q=>∃ p xs i v,x=.ref p∧y=.int i∧bO K H p xs∧Vw xs i=some v∧Q v H
def aa6 (K:PySem.W.Frag):R2:=fun x y H Q=>∃ p xs i v,x=.ref p∧y=.int i∧tD K H p xs∧Vw xs i=some v∧Q v H
def adt:R2:=fun x y H Q=>∃ z i c,x=.str z∧y=.int i∧z.length≤sizeLine∧Vw z.cps.toList i=some c∧Q (.str ⟨#[c]⟩) H
theorem eE:IxR X (aa5 X.K):=by
 intro value slice pins s σ H x y v u Q I rx ry h hs;obtain ⟨p,xs,i,z,rfl,rfl,hq,he,q⟩:=h;cases rx;obtain ⟨t,rfl⟩:=ry;obtain ⟨its,r,pl,hz⟩:=I.list hq;obtain ⟨j,h1,h2,h3,h4,h5⟩:=CJ he;obtain ⟨w,ew,Rr⟩:=r.get h2;have hl:=r.length;have hn:=xP;have fin:EP X pins σ Q w s:=⟨z,H,I,Rr,q⟩;by_cases h0:0≤i
 ·have hj:i.toNat=j:=by
   rw [seqIndex_of h0 h5] at h1;exact Option.some.inj h1
  exact item_listR pl.isList h0 (by omega) (by rw [hj];simpa using ew) fin hs
 ·have hj:(i+(its.toArray.size:Int)).toNat=j:=by
   rw [seqIndex_neg (by omega) h4] at h1;rw [List.size_toArray,←hl];exact Option.some.inj h1
  exact subscriptTail_builtinR (x:=w) pl.isList.typeIs slot_list_getitem.lookup
   (wpAny_getItem_list_neg (Q:=fun r s'=>r=w∧EP X pins σ Q r s') pl.isList (by omega) (by rw [List.size_toArray] <;> omega) (by omega) (by rw [hj];simpa using ew) ⟨rfl,fin⟩) hs
theorem YC:IxR X (aa6 X.K):=by
 intro value slice pins s σ H x y v u Q I rx ry h hs;obtain ⟨p,xs,i,z,rfl,rfl,hq,he,q⟩:=h;cases rx;obtain ⟨t,rfl⟩:=ry;obtain ⟨its,r,pl,hz⟩:=I.tuple hq;obtain ⟨j,h1,h2,h3,h4,h5⟩:=CJ he;obtain ⟨w,ew,Rr⟩:=r.get h2;have hl:=r.length;have hn:=xP;have fin:EP X pins σ Q w s:=⟨z,H,I,Rr,q⟩;exact subscriptTail_builtinR (x:=w) pl.typeIs slot_tuple_getitem.lookup
  (getItem_tuple (j:=j) (Q:=fun r s'=>r=w∧EP X pins σ Q r s') pl (by omega) (by omega) (by rw [List.size_toArray,←hl];exact h1) (by simpa using ew) ⟨rfl,fin⟩) hs
theorem xW:IxR X adt:=by
 intro value slice pins s σ H x y v u Q I rx ry h hs;obtain ⟨z,i,c,rfl,rfl,hz,he,q⟩:=h;obtain ⟨t,rfl⟩:=rx;obtain ⟨t',rfl⟩:=ry;obtain ⟨j,h1,h2,h3,h4,h5⟩:=CJ he;have hl:z.cps.toList.length=z.length:=by simp [Str.length]
 rw [hl] at h1 h4 h5;have hn:=xP;exact tail_any (typeIs_str s z t) slot_str_getitem.lookup (getItem_str (c:=c) (by
  have e1:decide (i < -(2 ^ 63:Int))=false:=decide_eq_false (by omega);have e2:decide (i ≥ 2 ^ 63)=false:=decide_eq_false (by omega);rw [e1,e2,Bool.or_false]) (by rw [h1];simpa using h2) ⟨.str ⟨#[c]⟩,H,I.tok _,⟨_,rfl⟩,q⟩) hs
theorem CK (lo hi:Option Int) (n:Nat):(sliceBounds lo hi none n).1=((HT.j4 n 0 lo:Nat):Int)∧(sliceBounds lo hi none n).2.1=((HT.j4 n n hi:Nat):Int)∧(sliceBounds lo hi none n).2.2=1:=by
 refine ⟨?_,?_,rfl⟩
 ·cases lo with
  | none=>simp [sliceBounds,HT.j4]
  | some i=>
   simp only [sliceBounds,HT.j4,Option.getD_none,show (1:Int) > 0 by decide,if_true];by_cases h:i < 0
   ·simp only [h,if_true] <;> omega
   ·simp only [h,if_false] <;> omega
 ·cases hi with
  | none=>simp [sliceBounds,HT.j4]
  | some i=>
   simp only [sliceBounds,HT.j4,Option.getD_none,show (1:Int) > 0 by decide,if_true];by_cases h:i < 0
   ·simp only [h,if_true] <;> omega
   ·simp only [h,if_false] <;> omega
theorem Ag (its:List Value) (lo hi:Option Int):slicePick its.toArray lo hi none=((its.drop (HT.j4 its.length 0 lo)).take (HT.j4 its.length its.length hi-HT.j4 its.length 0 lo)).toArray:=by
 obtain ⟨h1,h2,h3⟩:=CK lo hi its.toArray.size;unfold slicePick;rw [h1,h2,h3];simp only [sliceRange_one,pick_run,List.size_toArray] <;> rfl
def adu (K:PySem.W.Frag):V→Option Int→Option Int→Hp→VK→Prop:=fun x lo hi H Q=>∃ a xs,x=.ref a∧bO K H a xs∧∀ p,H p=none→Q (.ref p) (upd H p (.lst (Et xs lo hi)))
theorem wM:SlR X (adu X.K):=by
 intro pins s σ H x v vl vu lo hi sl Q I rx hs pl pu h;obtain ⟨a,xs,rfl,hx,q⟩:=h;cases rx;obtain ⟨its,r,ht,hz⟩:=I.list hx;have hlen:=r.length;refine ⟨"list",_,slot_list_getitem.lookup,ht.isList.typeIs,?_⟩;refine wpAny_getItem_list_slice ht.isList hs pl pu .none (by simp) ?_ (by rw [List.size_toArray] <;> omega);rw [Ag,←hlen];refine ⟨.ref s.heap.objs.size,_,I.laid (t':=s.toks) (o:=.lst (Et xs lo hi)) (fun b ob q=>Heap.get?_push_of_some _ q) (Nat.le_refl _) ?_,rfl,q _ (I.hok.fresh (Nat.le_refl _))⟩;exact ⟨Nat.le_trans (Eu xs lo hi) hz,_,0,(r.drop (HT.j4 xs.length 0 lo)).take (HT.j4 xs.length xs.length hi-HT.j4 xs.length 0 lo),Heap.get?_push_size _ rfl⟩
def tK:V→Bool
 | .non=>true
 | .bl _=>true
 | .int _=>true
 | .str _=>true
 | _=>false
def Vx:V→V→Bool
 | .non,.non=>true
 | .bl a,.bl b=>a==b
 | .bl a,.int b=>(if a then 1 else 0)==b
 | .int a,.bl b=>a==(if b then 1 else 0)
 | .int a,.int b=>a==b
 | .str a,.str b=>a==b
 | _,_=>false
theorem YD {A:Around}{s:Shared}{y x:V}{u v:Value} (ry:RelV y u) (rx:RelV x v) (fy:tK y=true) (fx:tK x=true):SeqAt.EqAt A s u v (Vx y x):=by
 cases y with
 | non=>
  cases ry;cases x with
  | non=>cases rx;exact SeqAt.EqAt.same _
  | bl b=>cases rx;exact SeqAt.EqAt.none_bool b
  | int b=>obtain ⟨t,rfl⟩:=rx;exact SeqAt.EqAt.none_int b t
  | str b=>obtain ⟨t,rfl⟩:=rx;exact SeqAt.EqAt.none_str b t
  | _=>exact absurd (show false=true from fx) Bool.false_ne_true
 | bl a=>
  cases ry;cases x with
  | non=>cases rx;exact SeqAt.EqAt.bool_none a
  | bl b=>cases rx;exact SeqAt.EqAt.bool_bool a b
  | int b=>obtain ⟨t,rfl⟩:=rx;exact SeqAt.EqAt.bool_int a b t
  | str b=>obtain ⟨t,rfl⟩:=rx;exact SeqAt.EqAt.bool_str a b t
  | _=>exact absurd (show false=true from fx) Bool.false_ne_true
 | int a=>
  obtain ⟨t',rfl⟩:=ry;cases x with
  | non=>cases rx;exact SeqAt.EqAt.int_none a t'
  | bl b=>cases rx;exact SeqAt.EqAt.int_bool a t' b
  | int b=>obtain ⟨t,rfl⟩:=rx;exact SeqAt.EqAt.int_int a t' b t
  | str b=>obtain ⟨t,rfl⟩:=rx;exact SeqAt.EqAt.int_str a t' b t
  | _=>exact absurd (show false=true from fx) Bool.false_ne_true
 | str a=>
  obtain ⟨t',rfl⟩:=ry;cases x with
  | non=>cases rx;exact SeqAt.EqAt.str_none a t'
  | bl b=>cases rx;exact SeqAt.EqAt.str_bool a t' b
  | int b=>obtain ⟨t,rfl⟩:=rx;exact SeqAt.EqAt.str_int a t' b t
  | str b=>obtain ⟨t,rfl⟩:=rx;exact SeqAt.EqAt.str_str a t' b t
  | _=>exact absurd (show false=true from fx) Bool.false_ne_true
 | _=>exact absurd (show false=true from fy) Bool.false_ne_true
def Jq (x:V) (u:Value):Bool:=match u with
 | .none=>Vx .non x
 | .bool b=>Vx (.bl b) x
 | .int i _=>Vx (.int i) x
 | .str z _=>Vx (.str z) x
 | _=>false
theorem Rt {x y:V}{u:Value} (r:RelV y u) (f:tK y=true):Jq x u=Vx y x:=by
 cases y with
 | non=>cases r;rfl
 | bl b=>cases r;rfl
 | int i=>obtain ⟨t,rfl⟩:=r;rfl
 | str z=>obtain ⟨t,rfl⟩:=r;rfl
 | _=>exact absurd (show false=true from f) Bool.false_ne_true
theorem tL {x:V}:∀ {xs:List V}{us:List Value},Vals xs us→xs.all tK=true→us.any (Jq x)=xs.any fun y=>Vx y x
 | _,_,.nil,_=>rfl
 | y::xs,u::us,.cons r t,f=>by
  rw [List.all_cons,Bool.and_eq_true] at f;rw [List.any_cons,List.any_cons,Rt r f.1,tL t f.2]
theorem pK {A:Around}{s:Shared}{x:V}{v:Value} (rx:RelV x v) (fx:tK x=true):∀ {xs:List V}{us:List Value},Vals xs us→xs.all tK=true→∀ u∈us,SeqAt.EqAt A s u v (Jq x u)
 | _,_,.nil,_=>fun u hu=>by cases hu
 | y::xs,u::us,.cons r t,f=>fun u' hu=>by
  rw [List.all_cons,Bool.and_eq_true] at f;rcases List.mem_cons.mp hu with rfl | hu
  ·rw [Rt r f.1];exact YD r rx f.1 fx
  ·exact pK rx fx t f.2 u' hu
def inV (x:V) (xs:List V):Bool:=xs.any fun y=>Vx y x
def rIn (K:PySem.W.Frag) (neg:Bool):R2:=fun x y H Q=>∃ p xs,y=.ref p∧(bO K H p xs∨tD K H p xs)∧tK x=true∧xs.all tK=true∧Q (.bl (if neg then !inV x xs else inV x xs)) H
theorem Ow:wJ X (compareOp .In) (rIn X.K false):=by
 intro pins s σ H x y v u Q I rx ry h;obtain ⟨p,xs,rfl,hq,fx,fs,q⟩:=h;cases ry;rcases hq with hq | hq
 ·obtain ⟨its,r,pl,hz⟩:=I.list hq;refine SeqAt.in_listAt (Jq x) pl.isList (fun w hw=>pK rx fx r fs w (by simpa using hw)) ⟨.bl _,H,I,rfl,?_⟩;rw [show its.toArray.any (Jq x)=its.any (Jq x) by simp,tL r fs];exact q
 ·obtain ⟨its,r,pl,hz⟩:=I.tuple hq;refine SeqAt.in_tupleAt (Jq x) pl (fun w hw=>pK rx fx r fs w (by simpa using hw)) ⟨.bl _,H,I,rfl,?_⟩;rw [show its.toArray.any (Jq x)=its.any (Jq x) by simp,tL r fs];exact q
theorem CN:wJ X (compareOp .NotIn) (rIn X.K true):=by
 intro pins s σ H x y v u Q I rx ry h;obtain ⟨p,xs,rfl,hq,fx,fs,q⟩:=h;cases ry;rcases hq with hq | hq
 ·obtain ⟨its,r,pl,hz⟩:=I.list hq;refine SeqAt.notIn_listAt (Jq x) pl.isList (fun w hw=>pK rx fx r fs w (by simpa using hw)) ⟨.bl _,H,I,rfl,?_⟩;rw [show its.toArray.any (Jq x)=its.any (Jq x) by simp,tL r fs];exact q
 ·obtain ⟨its,r,pl,hz⟩:=I.tuple hq;refine SeqAt.notIn_tupleAt (Jq x) pl (fun w hw=>pK rx fx r fs w (by simpa using hw)) ⟨.bl _,H,I,rfl,?_⟩;rw [show its.toArray.any (Jq x)=its.any (Jq x) by simp,tL r fs];exact q
theorem aO:pH X (.builtin "len") (fun xs H Q=>∃ p ys,xs=[.ref p]∧(bO X.K H p ys∨tD X.K H p ys)∧Q (.int ys.length) H):=by
 intro pins s σ H xs us Q I r h;obtain ⟨p,ys,rfl,hq,q⟩:=h;obtain ⟨u,rfl,rx⟩:=vals1 r;cases rx;have hn:=xP;rcases hq with hq | hq
 ·obtain ⟨its,r',pl,hz⟩:=I.list hq;have hlen:=r'.length;exact Calls.call_len_list pl.isList (by simp only [List.size_toArray] <;> omega) ⟨.int ys.length,H,I.tok _,⟨s.toks+1,by rw [List.size_toArray,hlen]⟩,q⟩
 ·obtain ⟨its,r',pl,hz⟩:=I.tuple hq;have hlen:=r'.length;exact len_tuple pl (by simp only [List.size_toArray] <;> omega) ⟨.int ys.length,H,I.tok _,⟨s.toks+1,by rw [List.size_toArray,hlen]⟩,q⟩
theorem fZ:pH X (.builtin "len") (fun xs H Q=>∃ z,xs=[.str z]∧z.length≤sizeLine∧Q (.int z.length) H):=by
 intro pins s σ H xs us Q I r h;obtain ⟨z,rfl,hz,q⟩:=h;obtain ⟨u,rfl,t,rfl⟩:=vals1 r;have hn:=xP;exact len_str (by omega) ⟨.int z.length,H,I.tok _,⟨_,rfl⟩,q⟩
def tyV (K:PySem.W.Frag) (T:String) (x:V) (H:Hp):Prop:=match x with
 | .str _=>T="str"
 | .int _=>T="int"
 | .ref p=>(T="list"∧∃ xs,bO K H p xs)∨(T="tuple"∧∃ o,K.lookup p=some o∧o.cls=.type "tuple"∧o.dict=none) ∨
   (T="dict"∧((∃ kvs,H p=some (.dK kvs))∨∃ kvs,H p=some (.dT kvs)))∨(T="set"∧∃ S n,H p=some (.set S n))
 | _=>False
theorem Ru {pins:List (Addr×Obj)}{σ:St}{H:Hp}{s:Shared}{T:String}{x:V}{v:Value} (I:Inv X pins σ H s) (r:RelV x v) (ty:tyV X.K T x H) :
  s.TypeIs v T∧∀ a,v=.ref a→∃ ob,s.heap.get? a=some ob∧ob.dict=none:=by
 cases x with
 | str z=>
  obtain ⟨t,rfl⟩:=r;cases (show T="str" from ty);exact ⟨typeIs_str s z t,fun _ e=>nomatch e⟩
 | int i=>
  obtain ⟨t,rfl⟩:=r;cases (show T="int" from ty);exact ⟨typeIs_int s i t,fun _ e=>nomatch e⟩
 | ref p=>
  cases r;rcases ty with ⟨rfl,xs,hq⟩ | ⟨rfl,o,hk,hc,hd⟩ | ⟨rfl,hk⟩ | ⟨rfl,S,n,hk⟩
  ·obtain ⟨its,_,pl,_⟩:=I.list hq;refine ⟨pl.isList.typeIs,fun a e=>?_⟩;cases e;obtain ⟨o,n,e,c,hd,_⟩:=pl;exact ⟨o,e,hd⟩
  ·refine ⟨⟨o,I.rH p o hk,hc⟩,fun a e=>?_⟩;cases e;exact ⟨o,I.rH _ o hk,hd⟩
  ·have z:∃ o,s.heap.get? p=some o∧o.ExactDict:=by
    rcases hk with ⟨kvs,hk⟩ | ⟨kvs,hk⟩
    ·obtain ⟨_,_,_,_,o,_,_,e,ex,_⟩:=I.hok p _ hk;exact ⟨o,e,ex⟩
    ·obtain ⟨_,_,_,_,o,_,_,e,ex,_⟩:=I.hok p _ hk;exact ⟨o,e,ex⟩
   obtain ⟨o,e,ex⟩:=z;refine ⟨⟨o,e,ex.1⟩,fun a e2=>?_⟩;cases e2;exact ⟨o,e,ex.2.1⟩
  ·obtain ⟨o,_,_,_,e,ex,_⟩:=I.hok p _ hk;refine ⟨⟨o,e,ex.1⟩,fun a e2=>?_⟩;cases e2;exact ⟨o,e,ex.2.1⟩
 | _=>exact False.elim ty
def adw (K:PySem.W.Frag) (T:String) (r:V→List V→Hp→VK→Prop) (to:TE):TE:=fun σ H Q=>to σ H fun x H1=>tyV K T x H1∧r x [] H1 Q
def tBM (K:PySem.W.Frag) (T:String) (r:V→List V→Hp→VK→Prop) (to:TE) (t:TA):TE:=fun σ H Q=>to σ H fun x H1=>tyV K T x H1∧t σ H1 fun xs H2=>r x xs H2 Q
variable {o e:Expr}{es:List Expr}{to:TE}{t:TA}{name:Str}{apos cpos:Pos}{T id:String}{r:V→List V→Hp→VK→Prop}
theorem Jr (pa:PlainAttrs T) (slot:Slot T name id) (hty:typeOf (.builtin id)=pure (.type "method_descriptor")) (hm:MtR X id r) (ho:PE X o to)
  (hbase:attributeBase o name X.env (eval o X.env)=eval o X.env:=by rfl) (hline:(apos.endLine==cpos.line)=true:=by rfl):PE X (.Call (.Attribute o name apos) [] [] cpos) (adw X.K T r to):=by
 intro pins s σ H Q I h;refine wpAny_Call_method0_late hbase hline (dI (ho pins s σ H _ I h) fun v s1 ⟨x,H1,I1,r1,ty,q1⟩=>?_);obtain ⟨h1,h2⟩:=Ru I1 r1 ty;exact ⟨T,id,pa,slot,hty,h1,h2,Calls.callWith_builtin rfl (PySem.evalArgs_none (hm pins s1 σ H1 x [] v [] Q I1 r1 .nil q1))⟩
theorem ju (pa:PlainAttrs T) (slot:Slot T name id) (hty:typeOf (.builtin id)=pure (.type "method_descriptor")) (hm:MtR X id r) (ho:PE X o to) (ha:PA X (e::es) t)
  (hbase:attributeBase o name X.env (eval o X.env)=eval o X.env:=by rfl)
  (hfew:((backTo cpos (starEach (e::es) X.env)).all (fun x=>!x.1)&&(backToKw cpos (keywordEach [] X.env)).all (fun x=>x.1.isSome)
   && decide ((e::es).length+([]:List Keyword).length+(if ([]:List Keyword).isEmpty then 0 else 1) < 30))=true:=by rfl)
  (hline:(apos.endLine==cpos.line)=true:=by rfl) (hs:starEach (e::es) X.env=(false,eval e X.env)::starEach es X.env:=by rfl) (hplain:(backTo cpos (starEach es X.env)).any (·.1)=false:=by rfl) :
  PE X (.Call (.Attribute o name apos) (e::es) [] cpos) (tBM X.K T r to t):=by
 intro pins s σ H Q I h;refine wpAny_Call_method_late hbase hfew hline rfl (dI (ho pins s σ H _ I h) fun v s1 ⟨x,H1,I1,r1,ty,q1⟩=>?_);obtain ⟨h1,h2⟩:=Ru I1 r1 ty;refine ⟨T,id,pa,slot,hty,h1,h2,?_⟩;have hA:=ha cpos pins s1 σ H1 _ I1 q1;rw [hs] at hA ⊢;refine Calls.callWith_builtin (by show (false||(backTo cpos (starEach es X.env)).any (·.1))=false;rw [hplain] <;> rfl) (Calls.evalArgs_plain ?_);exact dI hA fun us s2 ⟨vs,H2,I2,r2,q2⟩=>hm pins s2 σ H2 x vs v us Q I2 r1 r2 q2
end
end L2
namespace L2
open PySem PySem.Spec PyProof.Rows
def MtM (X:Cx) (id:String) (r:V→List V→Hp→VK→Prop):Prop:=
 ∀ (pins:List (Addr×Obj)) (s:Shared) (σ:St) (H:Hp) (x:V) (xs:List V) (v:Value) (us:List Value) (Q:VK),Inv X pins σ H s→RelV x v→Vals xs us→r x xs H Q →
  wpAny (model X.prog X.w) X.A (call (.builtin id) (v::us)) (EP X pins σ Q) X.xe s
theorem Vals.one:∀ {x:V}{us:List Value},Vals [x] us→∃ u,us=[u]∧RelV x u
 | _,_,.cons r .nil=>⟨_,rfl,r⟩
theorem Vals.zero:∀ {us:List Value},Vals [] us→us=[]
 | _,.nil=>rfl
theorem Vals.dropLast {xs:List V}{us:List Value} (h:Vals xs us):Vals xs.dropLast us.dropLast:=by
 induction h with
 | nil=>exact .nil
 | cons r t ih=>
  cases t with
  | nil=>exact .nil
  | cons q t'=>exact .cons r ih
theorem Vals.reverse {xs:List V}{us:List Value} (h:Vals xs us):Vals xs.reverse us.reverse:=by
 induction h with
 | nil=>exact .nil
 | cons r t ih=>rw [List.reverse_cons,List.reverse_cons];exact Vals.append ih (.cons r .nil)
theorem Js {α:Type} (l:List α):l.eraseIdx (l.length-1)=l.dropLast:=by
 induction l with
 | nil=>rfl
 | cons a r ih=>
  cases r with
  | nil=>rfl
  | cons b r=>
   have e:(a::b::r).length-1=((b::r).length-1)+1:=by
    have h1:(a::b::r).length=r.length+2:=rfl;have h2:(b::r).length=r.length+1:=rfl;omega
   rw [e,List.eraseIdx_cons_succ,ih]
   all_goals rfl
section
variable {X:Cx}{pins:List (Addr×Obj)}{σ:St}{H:Hp}{s:Shared}{l b:Addr}{xs ys zs:List V}
theorem Inv.V8 {its its':List Value}{n:Nat}{f:Array Value→Array Value}{t':Nat} (I:Inv X pins σ H s) (hH:H l=some (.lst xs))
  (e:s.heap.get? l=some { cls:=.type "list",data:=.seq its.toArray n }) (hf:f its.toArray=its'.toArray) (hv:Vals ys its') (hz:ys.length≤sizeLine) :
  Inv X pins σ (upd H l (.lst ys)) { s with heap:=s.heap.update l (Obj.mapSeq f),toks:=t' }:=by
 have q:=PySem.IsL.update e f;rw [hf] at q;refine I.write (x:=l) (e:=l) (by rw [hH];exact trivial) (.inl rfl) (fun b' u hb hu=>(Heap.get?_update_other s.heap (Obj.mapSeq f) (Ne.symm hb)).trans hu) ⟨_,q⟩ ?_;exact ⟨hz,its',_,hv,q⟩
theorem Inv.adx {its:List Value}{t':Nat} (I:Inv X pins σ H s) (hv:Vals ys its) (hz:ys.length≤sizeLine) :
  Inv X pins σ (upd H s.heap.objs.size (.lst ys)) { s with heap:=s.heap.push { cls:=.type "list",data:=.seq its.toArray },toks:=t' }:=
 I.laid (fun _ _ q=>Heap.get?_push_of_some _ q) (Nat.le_refl _) ⟨hz,its,0,hv,Heap.get?_push_size _ rfl⟩
theorem Inv.fresh (I:Inv X pins σ H s):H s.heap.objs.size=none:=I.hok.fresh (Nat.le_refl _)
theorem Inv.Jt (I:Inv X pins σ H s) (hH:H l=some (.lst xs)):xs.length≤sizeLine∧∃ (its:List Value) (n:Nat),Vals xs its∧xs.length=its.length∧s.heap.get? l=some { cls:=.type "list",data:=.seq its.toArray n }:=by
 obtain ⟨z,its,n,r,e⟩:=I.hok l _ hH;exact ⟨z,its,n,r,r.length,e⟩
theorem Rv {n:Nat} (h:n≤sizeLine):Builtin.List.listTooLong n=false:=by
 unfold Builtin.List.listTooLong;exact decide_eq_false (by omega)
end
section
variable {X:Cx}
def Mg:V→List V→Hp→VK→Prop:=fun x vs H Q=>∃ l xs y,x=.ref l∧vs=[y]∧H l=some (.lst xs)∧xs.length < sizeLine∧Q .non (upd H l (.lst (xs++[y])))
theorem cD:MtM X "list.append" Mg:=by
 intro pins s σ H x vs v us Q I rx rv h;obtain ⟨l,xs,y,rfl,rfl,hH,hz,q⟩:=h;cases rx;obtain ⟨u,rfl,ru⟩:=rv.one;obtain ⟨z,its,n,r,hl,e⟩:=I.Jt hH;refine call_meets F.slot_list_append ⟨_,e,rfl⟩ F.entry_list_append (F.args_list_append_2 _ _) (PySem.list_append l its.toArray n u (by rw [List.size_toArray];omega)) ⟨e,?_⟩;refine ⟨.non,_,I.V8 (its':=its++[u]) hH e (by simp) (r.append (.cons ru .nil)) ?_,rfl,q⟩;rw [List.length_append,List.length_singleton];omega
def V9:V→List V→Hp→VK→Prop:=fun x vs H Q=>∃ l b xs zs,x=.ref l∧vs=[.ref b]∧H l=some (.lst xs)∧H b=some (.lst zs)∧xs.length+zs.length≤sizeLine∧Q .non (upd H l (.lst (xs++zs)))
theorem Ox:MtM X "list.extend" V9:=by
 intro pins s σ H x vs v us Q I rx rv h;obtain ⟨l,b,xs,zs,rfl,rfl,hH,hB,hz,q⟩:=h;cases rx;obtain ⟨u,rfl,ru⟩:=rv.one;cases ru;obtain ⟨z,its,n,r,hl,e⟩:=I.Jt hH;obtain ⟨z2,its2,n2,r2,hl2,e2⟩:=I.Jt hB;have hsz:its.toArray.size+its2.toArray.size≤sizeLine:=by rw [List.size_toArray,List.size_toArray];omega
 have aa7:¬ (!its.toArray.isEmpty&&Builtin.List.listTooLong (its.toArray.size+its2.toArray.size))=true:=by
  rw [Rv hsz,Bool.and_false];exact Bool.false_ne_true
 refine call_meets F.slot_list_extend ⟨_,e,rfl⟩ F.entry_list_extend (F.args_list_extend_2 _ _)
  (AutoSeq1.list_extend_list_list_0 l its.toArray n b its2.toArray n2 aa7 (by rw [List.size_toArray];omega) (by omega)) ⟨e,e2,?_⟩
 refine ⟨.non,_,I.V8 (its':=its++its2) hH e (by simp) (r.append r2) ?_,rfl,q⟩;rw [List.length_append];omega
def ady:V→List V→Hp→VK→Prop:=fun x vs H Q=>∃ l xs y,x=.ref l∧vs=[]∧H l=some (.lst xs)∧xs[xs.length-1]?=some y∧Q y (upd H l (.lst xs.dropLast))
theorem Rw:MtM X "list.pop" ady:=by
 intro pins s σ H x vs v us Q I rx rv h;obtain ⟨l,xs,y,rfl,rfl,hH,hy,q⟩:=h;cases rx;have hus:=rv.zero;subst hus;obtain ⟨z,its,n,r,hl,e⟩:=I.Jt hH;obtain ⟨u,hu,ru⟩:=r.get hy;have hy':its.toArray[its.toArray.size-1]?=some u:=by
  show its.toArray[its.length-1]?=some u;rw [←Array.getElem?_toList,←hl];exact hu
 refine call_meets F.slot_list_pop ⟨_,e,rfl⟩ F.entry_list_pop (F.args_list_pop_1 _) (MeetsSeq.list_pop_last l its.toArray n u hy' (by rw [List.size_toArray];omega)) ⟨e,?_⟩;refine ⟨y,_,I.V8 (its':=its.dropLast) hH e ?_ r.dropLast ?_,ru,q⟩
 ·show its.toArray.eraseIdxIfInBounds (its.toArray.size-1)=its.dropLast.toArray;rw [List.size_toArray,List.eraseIdxIfInBounds_toArray,Js]
 ·rw [List.length_dropLast];omega
def Rx:V→List V→Hp→VK→Prop:=fun x vs H Q=>∃ l xs,x=.ref l∧vs=[]∧H l=some (.lst xs)∧Q .non (upd H l (.lst xs.reverse))
theorem Ju:MtM X "list.reverse" Rx:=by
 intro pins s σ H x vs v us Q I rx rv h;obtain ⟨l,xs,rfl,rfl,hH,q⟩:=h;cases rx;have hus:=rv.zero;subst hus;obtain ⟨z,its,n,r,hl,e⟩:=I.Jt hH;refine call_meets F.slot_list_reverse ⟨_,e,rfl⟩ F.entry_list_reverse (F.args_list_reverse_1 _) (AutoSeq1.list_reverse_list_0 l its.toArray n (by rw [List.size_toArray];omega)) ⟨e,?_⟩;refine ⟨.non,_,I.V8 (its':=its.reverse) hH e (by simp) r.reverse ?_,rfl,q⟩;rw [List.length_reverse];omega
def adz:R2:=fun x y H Q=>∃ l b xs zs,x=.ref l∧y=.ref b∧H l=some (.lst xs)∧H b=some (.lst zs)∧xs.length+zs.length≤sizeLine∧∀ p,H p=none→Q (.ref p) (upd H p (.lst (xs++zs)))
theorem YF:wJ X (binaryOp .Add) adz:=by
 intro pins s σ H x y v u Q I rx ry h;obtain ⟨l,b,xs,zs,rfl,rfl,hH,hB,hz,q⟩:=h;cases rx;cases ry;obtain ⟨z,its,n,r,hl,e⟩:=I.Jt hH;obtain ⟨z2,its2,n2,r2,hl2,e2⟩:=I.Jt hB;refine PySem.P.add_list e e2 ?_ (by rw [List.size_toArray,List.size_toArray];omega);have ea:its.toArray++its2.toArray=(its++its2).toArray:=by simp
 rw [ea];exact ⟨.ref _,_,I.adx (t':=s.toks) (r.append r2) (by rw [List.length_append];omega),rfl,q _ I.fresh⟩
end
end L2
namespace L2
open PySem PySem.Spec PyProof.Rows
theorem Vals.ints:∀ {ns:List Int}{us:List Value},Vals (ns.map V.int) us→IntsAre us ns
 | [],us,h=>by
  rw [List.map_nil] at h;cases h;exact IntsAre.nil
 | n::ns,us,h=>by
  rw [List.map_cons] at h;cases h with
  | cons r t=>
   obtain ⟨k,rfl⟩:=r;exact IntsAre.cons n k (Vals.ints t)
theorem Vals.bls:∀ {bs:List Bool}{us:List Value},Vals (bs.map V.bl) us→us=bs.map Value.bool
 | [],us,h=>by
  rw [List.map_nil] at h;cases h;rfl
 | b::bs,us,h=>by
  rw [List.map_cons] at h;cases h with
  | cons r t=>
   cases r;rw [Vals.bls t,List.map_cons]
theorem Vals.YG {a:Addr}{us:List Value} (r:Vals [V.ref a] us):us=[Value.ref a]:=by
 cases r with
 | cons r t=>
  cases t;cases r;rfl
section
variable {prog:Program}{w:World}{A:Around}{E:Value→Shared→Prop}{s:Shared}{l:Addr}{its:List Value}{ns:List Int}{Q:Value→Shared→Prop}
theorem Wa (hh:A.handled=none) (hl:s.heap.IsList l its.toArray) (hi:IntsAre its ns)
  (h:∀ h' tk t',(∀ b o,s.heap.get? b=some o→h'.get? b=some o)→Q (.int ns.sum t') { s with heap:=h',toks:=tk }):wpAny (model prog w) A (call (.builtin "sum") [.ref l]) Q E s:=by
 obtain ⟨xs,e⟩:=hi.allInts.items;have hn:numsOf (intItems xs).toList=ns:=by rw [←e];exact hi.numsOf
 rw [nums_intItems] at hn;rw [e] at hl;refine PySem.sum_intListG hh hl fun h' tk t' hk=>?_;have:=h h' tk t' hk;rw [preSum_eq,List.take_of_length_le (by simp),hn];exact this
end
section
variable {X:Cx}
def adB (K:PySem.W.Frag):List V→Hp→VK→Prop:=fun vs H Q=>∃ (a:Addr) (ns:List Int),vs=[V.ref a]∧bO K H a (ns.map V.int)∧Q (.int ns.sum) H
theorem YH (hc:X.calm=true):pH X (.builtin "sum") (adB X.K):=by
 intro pins s σ H vs us Q I r h;obtain ⟨a,ns,rfl,hs,q⟩:=h;obtain ⟨its,rv,hl,_⟩:=I.list hs;rw [Vals.YG r];exact Wa (I.ok.hd hc) hl.isList rv.ints fun h' tk t' hk=>⟨.int _,H,I.kept hk,⟨_,rfl⟩,q⟩
end
theorem Ew {prog:Program}{w:World}{A:Around}{E:Value→Shared→Prop}{s:Shared}{l:Addr}{items:Array Value}{Q:Value→Shared→Prop} (hl:s.heap.IsList l items)
  (h:∀ s₂:Shared,s₂={ s with heap:=s.heap.push { cls:=.type "list_iterator",data:=.fields #[.ref l,.int 0 0] } } →
   (s₂.heap.IsListIter s.heap.objs.size l 0∧s₂.heap.IsList l items)→l≠s.heap.objs.size→Q (.ref s.heap.objs.size) s₂):wpAny (model prog w) A (pyIter (.ref l)) Q E s:=by
 have hlt:l < s.heap.objs.size:=by obtain ⟨_,e,_⟩:=hl;exact Heap.lt_size e
 exact wpAny_pyIter_list hl (h _ rfl ⟨⟨_,Heap.get?_push_size _ rfl,rfl,rfl⟩,hl.push _⟩ (Nat.ne_of_lt hlt))
theorem vN {prog:Program}{w:World}{A:Around}{bs:List Bool}{its:List Value} (e:its=bs.map Value.bool) :
  TruthOf prog w A (fun i v=>its.toArray[i]?=some v) (fun i=>bs.getD i false):=fun i v s Q E hv hq=>by
 have hv':its[i]?=some v:=by simpa using hv
 rw [e,List.getElem?_map] at hv';obtain ⟨b,hb,rfl⟩:=Option.map_eq_some_iff.mp hv';have hg:bs.getD i false=b:=by rw [List.getD_eq_getElem?_getD,hb] <;> rfl
 have hq':Q (bs.getD i false) s:=hq;rw [hg] at hq';exact wpAny_truthy_bool hq'
theorem any_range:∀ bs:List Bool,(List.range bs.length).any (fun i=>bs.getD i false)=bs.any id
 | []=>rfl
 | b::bs=>by
  rw [List.length_cons,List.range_succ_eq_map,List.any_cons,List.any_map,List.any_cons,←any_range bs]
  all_goals rfl
theorem all_range:∀ bs:List Bool,(List.range bs.length).all (fun i=>bs.getD i false)=bs.all id
 | []=>rfl
 | b::bs=>by
  rw [List.length_cons,List.range_succ_eq_map,List.all_cons,List.all_map,List.all_cons,←all_range bs]
  all_goals rfl
section
variable {X:Cx}
def adC (K:PySem.W.Frag):List V→Hp→VK→Prop:=fun vs H Q=>∃ (a:Addr) (bs:List Bool),vs=[V.ref a]∧bO K H a (bs.map V.bl)∧Q (.bl (bs.any id)) H
def adD (K:PySem.W.Frag):List V→Hp→VK→Prop:=fun vs H Q=>∃ (a:Addr) (bs:List Bool),vs=[V.ref a]∧bO K H a (bs.map V.bl)∧Q (.bl (bs.all id)) H
theorem CP (hc:X.calm=true):pH X (.builtin "any") (adC X.K):=by
 intro pins s σ H vs us Q I r h;obtain ⟨a,bs,rfl,hs,q⟩:=h;obtain ⟨its,rv,hl,_⟩:=I.list hs;rw [Vals.YG r];have hb:=rv.bls;refine call_any_walk (Ew hl.isList fun s₂ e2 st hne=>?_);subst e2;refine ⟨_,_,_,_,_,_,_,rfl,Walks.list (A:=X.A.in1) (I.ok.hd hc) _ a hne its.toArray,st,vN hb,fun h' tk hk=>?_⟩;refine ⟨.bl _,H,I.kept fun b o eo=>hk b o (fun hmem=>?_) (Heap.get?_push_of_some _ eo),?_,q⟩
 ·rcases List.mem_cons.mp hmem with e1 | hmem
  ·exact absurd (e1▸Heap.lt_size eo) (Nat.lt_irrefl _)
  ·cases hmem
 ·show Value.bool _=Value.bool _;rw [←any_range,hb,List.size_toArray,List.length_map]
theorem YJ (hc:X.calm=true):pH X (.builtin "all") (adD X.K):=by
 intro pins s σ H vs us Q I r h;obtain ⟨a,bs,rfl,hs,q⟩:=h;obtain ⟨its,rv,hl,_⟩:=I.list hs;rw [Vals.YG r];have hb:=rv.bls;refine call_all_walk (Ew hl.isList fun s₂ e2 st hne=>?_);subst e2;refine ⟨_,_,_,_,_,_,_,rfl,Walks.list (A:=X.A.in1) (I.ok.hd hc) _ a hne its.toArray,st,vN hb,fun h' tk hk=>?_⟩;refine ⟨.bl _,H,I.kept fun b o eo=>hk b o (fun hmem=>?_) (Heap.get?_push_of_some _ eo),?_,q⟩
 ·rcases List.mem_cons.mp hmem with e1 | hmem
  ·exact absurd (e1▸Heap.lt_size eo) (Nat.lt_irrefl _)
  ·cases hmem
 ·show Value.bool _=Value.bool _;rw [←all_range,hb,List.size_toArray,List.length_map]
end
end L2
namespace L2
open PySem PySem.Spec PyProof.Rows
abbrev Ry (h:Heap) (c:Addr) (v:Option Value):Prop:=h.IsCell c v
def adE (scope sc:Scope):Scope:=
 { scope with names:=scope.names.map fun (n,k)=>if (k==.free&&sc.kind==.function&&sc.names.lookup n==some .cell) then (n,.cell) else (n,k) }
def cJ (cells:List (Str×Addr)):List (Str×NameKind)→List (Str×Addr)→List (Str×Addr)
 | [],acc=>acc
 | (n,k)::r,acc=>if k==.free then cJ cells r ((n,(cells.lookup n).getD 0)::acc) else cJ cells r acc
theorem tO (env:Env) (f:Str×NameKind→List (Str×Addr)→Sem (ForInStep (List (Str×Addr))))
  (hf:∀ n k c,f (n,k) c=if k==.free then (do let a ←cellOf env n;pure (.yield ((n,a)::c))) else pure (.yield c)) :
  ∀ (names:List (Str×NameKind)) (acc:List (Str×Addr)),(∀ y∈names,y.2=.free→∃ c,env.cells.lookup y.1=some c)→forIn names acc f=pure (cJ env.cells names acc)
 | [],acc,_=>by rw [List.forIn_nil];rfl
 | (n,k)::r,acc,h=>by
  rw [List.forIn_cons,hf];have ih:=fun acc=>tO env f hf r acc fun y hy=>h y (List.mem_cons_of_mem _ hy);unfold cJ;by_cases hk:(k==NameKind.free)=true
  ·rw [if_pos hk,if_pos hk];obtain ⟨c,hc⟩:=h (n,k) List.mem_cons_self (by simpa using hk);have e:cellOf env n=pure c:=by unfold cellOf;rw [hc]
   rw [e];have e2:(env.cells.lookup n).getD 0=c:=by rw [hc];rfl
   rw [e2];exact ih _
  ·rw [if_neg hk,if_neg hk];exact ih _
theorem Jv {scope:Scope}{env:Env} (h:∀ y∈scope.names,y.2=.free→∃ c,env.cells.lookup y.1=some c):closureFor scope env=pure (cJ env.cells scope.names []):=by
 simp only [closureFor];rw [tO env _ (fun n k c=>rfl) scope.names [] h];rfl
theorem mem_lookup {α:Type}:∀ {l:List (Str×α)}{n:Str}{c:α},(n,c)∈l→∃ c',l.lookup n=some c'
 | (k,v)::r,n,c,h=>by
  rw [List.lookup_cons];cases hb:n==k with
  | true=>exact ⟨_,rfl⟩
  | false=>
   rcases List.mem_cons.mp h with e | h
   ·cases e;simp at hb
   ·exact mem_lookup h
theorem lR {cells:List (Str×Addr)}:∀ {names:List (Str×NameKind)}{acc:List (Str×Addr)}{n:Str}{c:Addr},(n,c)∈cJ cells names acc→(n,c)∈acc∨((n,.free)∈names∧c=(cells.lookup n).getD 0)
 | [],_,_,_,h=>.inl h
 | (m,k)::r,acc,n,c,h=>by
  unfold cJ at h;split at h
  ·rename_i hk;have hk:k=.free:=by simpa using hk
   rcases lR h with h | ⟨h1,h2⟩
   ·rcases List.mem_cons.mp h with e | h
    ·cases e;exact .inr ⟨hk▸List.mem_cons_self,rfl⟩
    ·exact .inl h
   ·exact .inr ⟨List.mem_cons_of_mem _ h1,h2⟩
  ·rcases lR h with h | ⟨h1,h2⟩
   ·exact .inl h
   ·exact .inr ⟨List.mem_cons_of_mem _ h1,h2⟩
theorem pL {cells:List (Str×Addr)}:∀ {names:List (Str×NameKind)}{acc:List (Str×Addr)}{p:Str×Addr},p∈acc→p∈cJ cells names acc
 | [],_,_,h=>h
 | (m,k)::r,acc,p,h=>by
  unfold cJ;split
  ·exact pL (List.mem_cons_of_mem _ h)
  ·exact pL h
theorem pN {cells:List (Str×Addr)}:∀ {names:List (Str×NameKind)}{acc:List (Str×Addr)}{n:Str},(n,.free)∈names→(n,(cells.lookup n).getD 0)∈cJ cells names acc
 | (m,k)::r,acc,n,h=>by
  unfold cJ;rcases List.mem_cons.mp h with e | h
  ·cases e;exact pL List.mem_cons_self
  ·split
   ·exact pN h
   ·exact pN h
theorem m9:∀ {names:List (Str×NameKind)}{h:Heap}{acc:List (Str×Addr)}{x:Str}{c:Addr},(x,c)∈cellsFrom h.objs.size names acc →
  (x,c)∈acc∨((x,.cell)∈names∧h.objs.size≤c∧Ry (pushCells h names) c none)
 | [],_,_,_,_,h=>.inl h
 | (n,k)::r,h,acc,x,c,hm=>by
  unfold cellsFrom at hm;unfold pushCells;split at hm
  ·rename_i hk;rw [if_pos hk];have hk:k=.cell:=by simpa using hk
   rw [←Heap.size_push h { cls:=.type "cell",data:=.cell none }] at hm;rcases m9 hm with hm | ⟨h1,h2,h3⟩
   ·rcases List.mem_cons.mp hm with e | hm
    ·cases e;exact .inr ⟨hk▸List.mem_cons_self,Nat.le_refl _,_,pushCells_keeps r _ _ _ (Heap.get?_push_size _ rfl),rfl⟩
    ·exact .inl hm
   ·rw [Heap.size_push] at h2;exact .inr ⟨List.mem_cons_of_mem _ h1,Nat.le_of_succ_le h2,h3⟩
  ·rename_i hk;rw [if_neg hk];rcases m9 hm with hm | ⟨h1,h2,h3⟩
   ·exact .inl hm
   ·exact .inr ⟨List.mem_cons_of_mem _ h1,h2,h3⟩
theorem qD:∀ {names:List (Str×NameKind)}{n:Nat}{acc:List (Str×Addr)}{p:Str×Addr},p∈acc→p∈cellsFrom n names acc
 | [],_,_,_,h=>h
 | (m,k)::r,n,acc,p,h=>by
  unfold cellsFrom;split
  ·exact qD (List.mem_cons_of_mem _ h)
  ·exact qD h
theorem uM:∀ {names:List (Str×NameKind)}{n:Nat}{acc:List (Str×Addr)}{x:Str},(x,.cell)∈names→∃ c,(x,c)∈cellsFrom n names acc
 | (m,k)::r,n,acc,x,h=>by
  unfold cellsFrom;rcases List.mem_cons.mp h with e | h
  ·cases e;exact ⟨n,qD List.mem_cons_self⟩
  ·split
   ·exact uM h
   ·exact uM h
theorem uN:∀ {names:List (Str×NameKind)}{h:Heap}{acc:List (Str×Addr)}{x y:Str}{c:Addr},(∀ p∈acc,p.2 < h.objs.size)→(∀ x y c,(x,c)∈acc→(y,c)∈acc→x=y) →
  (x,c)∈cellsFrom h.objs.size names acc→(y,c)∈cellsFrom h.objs.size names acc→x=y
 | [],_,_,_,_,_,_,hi,h1,h2=>hi _ _ _ h1 h2
 | (n,k)::r,h,acc,x,y,c,hl,hi,h1,h2=>by
  unfold cellsFrom at h1 h2;split at h1
  ·rename_i hk;rw [if_pos hk] at h2;rw [←Heap.size_push h { cls:=.type "cell",data:=.cell none }] at h1 h2;refine uN (h:=h.push _) (fun p hp=>?_) (fun x y c a b=>?_) h1 h2
   ·rw [Heap.size_push];rcases List.mem_cons.mp hp with rfl | hp
    ·exact Nat.lt_succ_self _
    ·exact Nat.lt_succ_of_lt (hl p hp)
   ·rcases List.mem_cons.mp a with e | a <;> rcases List.mem_cons.mp b with e' | b
    ·cases e;cases e';rfl
    ·cases e;exact absurd (hl _ b) (Nat.lt_irrefl _)
    ·cases e';exact absurd (hl _ a) (Nat.lt_irrefl _)
    ·exact hi _ _ _ a b
  ·rename_i hk;rw [if_neg hk] at h2;exact uN hl hi h1 h2
theorem Ey {M:Model}{A:Around}{E:Value→Shared→Prop}{s:Shared}{scope:Scope}{globals:Addr}{closure:List (Str×Addr)}{qual:Str}{func:Option Addr}{code:Value}{around:Env}{builtins:Addr}{Q:Env→Shared→Prop}
  (h:Q (newEnv scope s.heap.objs.size globals (cellsFrom (s.heap.objs.size+1) scope.names closure) qual func code (some around) builtins)
   { s with heap:=pushCells (s.heap.push { cls:=.type "dict",data:=.dict #[] }) scope.names }) :
  wpAny M A (newFunctionEnv scope globals closure [] qual func code (some around) builtins) Q E s:=by
 simp only [newFunctionEnv,Option.isSome_some,if_true];refine wpAny_bind (wpAny_alloc ?_);refine wpAny_bind (wpAny_layCells _ (fun n k c=>rfl) scope.names closure _ _ ?_);rw [show ({ s with heap:=s.heap.push { cls:=.type "dict",data:=.dict #[] } }:Shared).heap.objs.size=s.heap.objs.size+1 from Heap.size_push ..];rw [List.forIn_nil];exact wpAny_bind (wpAny_pure (wpAny_pure h))
theorem pO {sc:Scope}:∀ {names:List (Str×NameKind)}{x:Str}{k:NameKind},
  (names.map fun (n,k)=>if (k==NameKind.free&&sc.kind==.function&&sc.names.lookup n==some .cell) then (n,NameKind.cell) else (n,k)).lookup x=some k →
  ∃ k',names.lookup x=some k'∧(k=k'∨(k'=.free∧k=.cell))
 | [],_,_,h=>by simp at h
 | (n,k₀)::r,x,k,h=>by
  have ih:=@pO sc r x k;have h':List.lookup x ((if (k₀==NameKind.free&&sc.kind==.function&&sc.names.lookup n==some .cell)=true then (n,NameKind.cell) else (n,k₀))::(r.map _))=some k:=h;cases hx:x==n with
  | true=>
   simp only [List.lookup_cons,hx];by_cases hc:(k₀==NameKind.free&&sc.kind==.function&&sc.names.lookup n==some .cell)=true
   ·rw [if_pos hc] at h';simp only [List.lookup_cons,hx] at h';cases h';simp only [Bool.and_eq_true,beq_iff_eq] at hc;exact ⟨k₀,rfl,.inr ⟨hc.1.1,rfl⟩⟩
   ·rw [if_neg hc] at h';simp only [List.lookup_cons,hx] at h';cases h';exact ⟨_,rfl,.inl rfl⟩
  | false=>
   simp only [List.lookup_cons,hx];by_cases hc:(k₀==NameKind.free&&sc.kind==.function&&sc.names.lookup n==some .cell)=true
   ·rw [if_pos hc] at h';simp only [List.lookup_cons,hx] at h';exact ih h'
   ·rw [if_neg hc] at h';simp only [List.lookup_cons,hx] at h';exact ih h'
structure Ez (N:List Str) (sc scope:Scope) (own:List (Str×Nat)):Prop where
 kind:scope.kind=.function
 uniq:∀ y∈scope.names,scope.names.lookup y.1=some y.2
 ix:∀ p∈own,N[p.2]?=some p.1
 free:∀ y∈scope.names,y.2=.free→sc.names.lookup y.1=some .cell∨sc.names.lookup y.1=some .free
 own:∀ y∈scope.names,y.2=.local∨y.2=.cell→y.1∈own.map (·.1)∨y.1∉N
def wipe (σ:St):List Nat→St
 | []=>σ
 | v::vs=>(wipe σ vs).set v none
theorem pP (σ:St):∀ vs:List Nat,(wipe σ vs).length=σ.length
 | []=>rfl
 | v::vs=>by unfold wipe;rw [List.length_set,pP σ vs]
theorem uO {σ:St}{i:Nat}{x:V}:∀ {vs:List Nat},(wipe σ vs)[i]?=some (some x)→σ[i]?=some (some x)∧i∉vs
 | [],h=>⟨h,by simp⟩
 | v::vs,h=>by
  unfold wipe at h;by_cases hi:v=i
  ·subst hi;by_cases hv:v < (wipe σ vs).length
   ·rw [List.getElem?_set_self hv] at h;cases h
   ·rw [List.getElem?_eq_none (by simpa using hv)] at h;cases h
  ·rw [List.getElem?_set_ne hi] at h;obtain ⟨h1,h2⟩:=uO h;exact ⟨h1,by simp only [List.mem_cons,not_or];exact ⟨fun e=>hi e.symm,h2⟩⟩
abbrev Cx.blk (X:Cx) (s:Shared) (H:Hp) (scope:Scope) (cenv:Env) (fp:List Addr):Cx:={ X with s_0:=s,Yr:=H,env:=cenv,outer:=X.stack,ex:=fp,fn:=fun x=>scope.names.lookup x==some .cell,pn:=[],xe:=fun _ _=>False }
section
variable {X:Cx}{pins:List (Addr×Obj)}{σ:St}{H:Hp}{s:Shared}
theorem EY {scope:Scope}{own:List (Str×Nat)}{fp:List Addr} (I:Inv X pins σ H s) (ok:Ez X.N X.env.scope scope own) (hN:X.N.Nodup) (hfp:∀ b∈fp,xJ X pins H b∧b < s.heap.objs.size) :
  Inv (X.blk s H scope (compEnvC scope (cellsFrom (s.heap.objs.size+1) scope.names (cJ X.env.cells scope.names [])) s.heap.objs.size X.env) fp) [] (wipe σ (own.map (·.2))) H { s with heap:=pushCells (s.heap.push { cls:=.type "dict",data:=.dict #[] }) scope.names }:=by
 have hfree:∀ y∈scope.names,y.2=.free→∃ c,X.env.cells.lookup y.1=some c:=fun y hy e=>by
  rcases ok.free y hy e with k | k
  ·exact I.ok.has _ (.inl k)
  ·exact I.ok.has _ (.inr k)
 generalize Fb:compEnvC scope (cellsFrom (s.heap.objs.size+1) scope.names (cJ X.env.cells scope.names [])) s.heap.objs.size X.env=cenv;have kp:∀ b o,s.heap.get? b=some o→(pushCells (s.heap.push { cls:=.type "dict",data:=.dict #[] }) scope.names).get? b=some o:=fun b o e=>pushCells_keeps _ _ _ _ (Heap.get?_push_of_some _ e);have hL:cenv.locals=s.heap.objs.size:=by rw [←Fb];rfl
 have hcl:cenv.cells=cellsFrom (s.heap.objs.size+1) scope.names (cJ X.env.cells scope.names []):=by rw [←Fb];rfl
 have hsc:cenv.scope=adE scope X.env.scope:=by rw [←Fb];rfl
 rw [←Heap.size_push s.heap { cls:=.type "dict",data:=.dict #[] }] at hcl;have cm:∀ {y c},(y,c)∈cJ X.env.cells scope.names []→X.env.cells.lookup y=some c∧c < s.heap.objs.size:=fun {y c} hm=>by
  rcases lR hm with hm | ⟨h1,rfl⟩
  ·cases hm
  ·obtain ⟨c,hc⟩:=hfree _ h1 rfl;rw [hc];obtain ⟨w,z⟩:=I.cell _ _ hc;exact ⟨rfl,z.lt⟩
 have mem:∀ {y c},cenv.cells.lookup y=some c→(X.env.cells.lookup y=some c∧c < s.heap.objs.size)∨(s.heap.objs.size+1≤c∧Ry (pushCells (s.heap.push { cls:=.type "dict",data:=.dict #[] }) scope.names) c none):=fun {y c} e=>by
  rw [hcl] at e;rcases m9 (PySem.mem_of_lookup e) with hm | ⟨_,h2,h3⟩
  ·exact .inl (cm hm)
  ·rw [Heap.size_push] at h2;exact .inr ⟨h2,h3⟩
 have look:∀ {y},scope.names.lookup y=some .free→∃ c,cenv.cells.lookup y=some c∧X.env.cells.lookup y=some c:=fun {y} hl=>by
  have hy:(y,NameKind.free)∈scope.names:=PySem.mem_of_lookup hl;obtain ⟨c',e'⟩:=mem_lookup (qD (names:=scope.names) (n:=(s.heap.push { cls:=.type "dict",data:=.dict #[] }).objs.size) (pN (cells:=X.env.cells) (acc:=[]) hy));rw [←hcl] at e';refine ⟨c',e',?_⟩;rw [hcl] at e';rcases m9 (PySem.mem_of_lookup e') with hm | ⟨h1,_,_⟩
  ·exact (cm hm).1
  ·have:=ok.uniq _ h1;rw [hl] at this;cases this
 have okB:(X.blk s H scope cenv fp).Ok:=by
  refine ⟨I.ok.mod,by show cenv.scope.kind=_;rw [hsc];exact ok.kind,by show cenv.globals=_;rw [←Fb];exact I.ok.glob,by show cenv.builtins=_;rw [←Fb];exact I.ok.blt,by show s.heap.objs.size≤cenv.locals;rw [hL];exact Nat.le_refl _,
   fun y z c e1 e2=>?_,fun y hy=>?_,fun y c z e=>?_,I.ok.hd,I.ok.frames,.inl rfl,fun b hb=>⟨?_,fun y c e z=>?_⟩,I.bs,Nat.le_trans I.ok.QM I.sz,fun b o e hb=>?_,fun b hb z=>?_,I.stack,I.sX⟩
  ·have e1:cenv.cells.lookup y=some c:=e1;have e2:cenv.cells.lookup z=some c:=e2;rw [hcl] at e1 e2;refine uN (fun p hp=>?_) (fun y z c a b=>I.ok.inj y z c (cm a).1 (cm b).1) (PySem.mem_of_lookup e1) (PySem.mem_of_lookup e2);rw [Heap.size_push];exact Nat.lt_succ_of_lt (cm (y:=p.1) (c:=p.2) hp).2
  ·show ∃ c,cenv.cells.lookup y=some c;have key:∀ k,cenv.kindOf y=some k→(k=.cell∨k=.free)→∃ c,cenv.cells.lookup y=some c:=fun k hk hk'=>by
    unfold Env.kindOf at hk;rw [hsc] at hk;obtain ⟨k',e,r⟩:=pO hk;have:k'=.cell∨k'=.free:=by
     rcases r with rfl | ⟨rfl,_⟩
     ·exact hk'
     ·exact .inr rfl
    rcases this with rfl | rfl
    ·obtain ⟨c,hm⟩:=uM (n:=(s.heap.push { cls:=.type "dict",data:=.dict #[] }).objs.size) (acc:=cJ X.env.cells scope.names []) (PySem.mem_of_lookup e);obtain ⟨c',e'⟩:=mem_lookup hm;exact ⟨c',by rw [hcl];exact e'⟩
    ·obtain ⟨c,h1,_⟩:=look e;exact ⟨c,h1⟩
   rcases hy with hy | hy
   ·exact key _ hy (.inl rfl)
   ·exact key _ hy (.inr rfl)
  ·have z:(scope.names.lookup y==some NameKind.cell)=true:=z;have z:scope.names.lookup y=some .cell:=by simpa using z
   have e:cenv.cells.lookup y=some c:=e;rw [hcl] at e;rcases m9 (PySem.mem_of_lookup e) with hm | ⟨_,h2,_⟩
   ·rcases lR hm with hm | ⟨h1,_⟩
    ·cases hm
    ·have q:=ok.uniq _ h1;rw [z] at q;cases q
   ·rw [Heap.size_push] at h2;exact Nat.le_of_succ_le h2
  ·show b≠cenv.locals;rw [hL];exact Nat.ne_of_lt (hfp b hb).2
  ·have e:cenv.cells.lookup y=some c:=e;rcases mem e with ⟨h1,_⟩ | ⟨h1,_⟩
   ·exact (hfp b hb).1.2.2.2.2.1 y c h1 z
   ·have h2:s.heap.objs.size+1≤b:=by rw [←z];exact h1
    exact absurd (Nat.lt_of_lt_of_le (hfp b hb).2 (Nat.le_of_succ_le h2)) (Nat.lt_irrefl _)
  ·rcases (hfp b hb).1.2.2.2.1 with z | z
   ·exact I.ok.Oi b o e z
   ·exact absurd (Nat.lt_of_lt_of_le (Heap.lt_size e) (Nat.le_trans I.ok.QM z)) (Nat.lt_irrefl _)
  ·rcases List.mem_cons.mp (I.mC b z) with z | z
   ·exact (hfp b hb).1.2.1 z
   ·exact (hfp b hb).1.2.2.1 z
 refine ⟨okB,rfl,I.bare,Un.kept kp,⟨fun _=>none,?_,fun i y av e1 e2 e3=>?_⟩,fun y c e=>?_,?_,fun y c e=>?_,fun p hp=>?_,I.hok.kept kp,by rw [pP];exact I.len⟩
 ·show Heap.Ns _ cenv.locals _;rw [hL];exact Heap.Ns.keeps (Heap.Ns.new ..) fun b o e=>pushCells_keeps _ _ _ _ e
 ·obtain ⟨e2,hne⟩:=uO e2;have hfr:scope.names.lookup y=some .free∧(cenv.kindOf y=some .cell∨cenv.kindOf y=some .free):=by
   have key:∀ k,cenv.scope.names.lookup y=some k→k=.local∨k=.cell∨k=.free→scope.names.lookup y=some .free∧(cenv.kindOf y=some .cell∨cenv.kindOf y=some .free):=fun k hk hk'=>by
    have hk0:=hk;rw [hsc] at hk;obtain ⟨k',e,r⟩:=pO hk;have no:¬ (k'=.local∨k'=.cell):=fun hh=>by
     rcases ok.own _ (PySem.mem_of_lookup e) hh with e' | e'
     ·obtain ⟨p,hp,hpy⟩:=List.mem_map.mp e';have e3:=ok.ix p hp;have:p.1=y:=hpy;rw [this] at e3;exact hne (List.mem_map.mpr ⟨p,hp,xG hN e3 e1⟩)
     ·exact e' (List.mem_of_getElem? e1)
    rcases r with rfl | ⟨rfl,rfl⟩
    ·rcases hk' with rfl | rfl | rfl
     ·exact absurd (.inl rfl) no
     ·exact absurd (.inr rfl) no
     ·exact ⟨e,.inr hk0⟩
    ·exact ⟨e,.inl hk0⟩
   have e3:Ys cenv.scope y:=e3;rcases e3 with e3 | e3 | e3
   ·exact key _ e3 (.inl rfl)
   ·exact key _ e3 (.inr (.inl rfl))
   ·exact key _ e3 (.inr (.inr rfl))
  obtain ⟨m,hn,hl⟩:=I.loc;have adF:Ys X.env.scope y:=(ok.free _ (PySem.mem_of_lookup hfr.1) rfl).elim (fun k=>.inr (.inl k)) (fun k=>.inr (.inr k));obtain ⟨w,r,q⟩:=hl i y av e1 e2 adF;refine ⟨w,r,.inr ⟨hfr.2,?_⟩⟩;obtain ⟨c,h1,h2⟩:=look hfr.1;rcases q with ⟨k,_⟩ | ⟨_,c',e',z⟩
  ·have k:X.env.scope.names.lookup y=some .local:=k;rcases ok.free _ (PySem.mem_of_lookup hfr.1) rfl with k' | k' <;> rw [show X.env.scope.names.lookup y=_ from k'] at k <;> cases k
  ·rw [h2] at e';cases e';exact ⟨c,h1,z.keeps kp⟩
 ·have e:cenv.cells.lookup y=some c:=e;rcases mem e with ⟨h1,_⟩ | ⟨_,z⟩
  ·obtain ⟨w,z⟩:=I.cell y c h1;exact ⟨w,z.keeps kp⟩
  ·exact ⟨_,z⟩
 ·show H cenv.locals=none;rw [hL];exact I.hok.fresh (Nat.le_refl _)
 ·have e:cenv.cells.lookup y=some c:=e;rcases mem e with ⟨h1,_⟩ | ⟨h1,_⟩
  ·exact I.jQ y c h1
  ·exact I.hok.fresh (Nat.le_of_succ_le h1)
 ·exact absurd (show p∈([]:List (Addr×Obj))++[] from hp) (by simp)
theorem YK {E:Value→Shared→Prop}{D:Addr}{xs:List V}{y:V}{v:Value}{Q:Value→Shared→Prop} (I:Inv X pins σ H s) (hD:H D=some (.lst xs)) (hz:xs.length < sizeLine) (r:RelV y v)
  (h:∀ s',Inv X pins σ (upd H D (.lst (xs++[y]))) s'→Q .none s'):wpAny (model X.prog X.w) X.A (call (.builtin "list.append") [.ref D,v]) Q E s:=by
 obtain ⟨hz',its,n,ri,e⟩:=I.hok D _ hD;have hl:=ri.length;refine append_at (hsz:=by rw [List.size_toArray];omega) e fun h' sb ho'=>?_;refine h { s with heap:=h' } (I.write (t':=s.toks) (by rw [hD];trivial) (.inl rfl) (fun b u hb q=>(sb.2 b hb).trans q) ⟨_,ho'⟩ ⟨by rw [List.length_append];exact hz,its++[v],n+1,ri.append (.cons r .nil),?_⟩);rw [ho'];simp
def PTs (X:Cx) (ifs:List Expr) (t:TT):Prop:=
 ∀ (pins:List (Addr×Obj)) (s:Shared) (σ:St) (H:Hp) (Q:Bool→Hp→Prop),Inv X pins σ H s→t σ H Q →
  wpAny (model X.prog X.w) X.A (forIn ifs true fun c r=>if r=true then do let ok ←isTrue c X.env (eval c X.env);pure (ForInStep.yield ok) else pure (ForInStep.yield r)) (TP X pins σ Q) X.xe s
def adG:TT:=fun _ H Q=>Q true H
theorem gW:PTs X [] adG:=fun _ _ _ H _ I h=>wpAny_tests_nil ⟨H,I,h⟩
theorem wO {c:Expr}{t:TT} (h:PT X c t):PTs X [c] t:=fun pins s σ H Q I hw=>wpAny_tests_one (h pins s σ H Q I hw)
end
theorem Oz {α:Type}{t:Sem α}{Q Q':α→Shared→Prop}{M:Model}{A:Around}{E:Value→Shared→Prop}{s:Shared} (h:wpAny M A t Q (fun _ _=>False) s) (hQ:∀ a s,Q a s→Q' a s):wpAny M A t Q' E s:=wpAny_mono h hQ fun _ _ z=>False.elim z
theorem CQ {prog:Program}{w:World}{A:Around}{R:Result→Shared→Prop}{s:Shared}{elt target iter:Expr}{ifs:List Expr}{scope:Scope}{pos:Pos}{it acc:Value}{env:Env} (I:Nat→Shared→Prop)
  (turn:∀ n s,I n s→wpAny (model prog w) A (pyNext it) (fun r s₁=>match r with
   | none=>R (.ok .next) s₁
   | some v=>wpAny (model prog w) A (letOwnedTupleGo target it v) (fun _ s₁'=>wpAny (model prog w) A (assign target env v) (fun _ s₂=>
     wpAny (model prog w) A (forIn ifs true fun c r=>if r=true then do let ok ←isTrue c env (eval c env);pure (ForInStep.yield ok) else pure (ForInStep.yield r)) (fun ok s₃=>
      if ok=true then wpAny (model prog w) A (eval elt env) (fun x s₄=>
       wpAny (model prog w) A (call (.builtin "list.append") [acc,x]) (fun _ s₅=>∃ m,m < n∧I m s₅) (notedBy (model prog w) A env fun e s'=>R (.error e) s') s₄) (notedBy (model prog w) A env fun e s'=>R (.error e) s') s₃
      else ∃ m,m < n∧I m s₃) (notedBy (model prog w) A env fun e s'=>R (.error e) s') s₂) (notedBy (model prog w) A env fun e s'=>R (.error e) s') s₁') (notedBy (model prog w) A env fun e s'=>R (.error e) s') s₁) (notedBy (model prog w) A env fun e s'=>R (.error e) s') s)
  (n:Nat) (h:I n s) :
  codeAny (model prog w) A (.compLoop (.ListComp elt [⟨target,iter,ifs,0⟩] scope pos) 0 it acc env) R s:=by
 refine codeAny_loop rfl I (fun n s hI=>?_) n h;show wpAny _ A ((compTurn (.ListComp elt [⟨target,iter,ifs,0⟩] scope pos) 0 it acc env).onRaise (fun x=>do noteFrame x env;theTreesLotGoes x)) _ _ s;refine wpAny_noted ?_;rw [compTurn_list];refine wpAny_bind (wpAny_standAt (wpAny_bind (wpAny_mono (turn n s hI) (fun r s₁ h₁=>?_) fun _ _ h'=>h')));cases r with
 | none=>exact wpAny_pure h₁
 | some v=>
  refine wpAny_bind (wpAny_mono h₁ (fun _ s₁' h₁'=>?_) fun _ _ h'=>h');refine wpAny_bind (wpAny_mono h₁' (fun _ s₂ h₂=>wpAny_bind (wpAny_mono h₂ (fun ok s₃ h₃=>?_) fun _ _ h'=>h')) fun _ _ h'=>h');cases ok with
  | false=>exact wpAny_pure ⟨rfl,h₃⟩
  | true=>
   exact wpAny_bind (wpAny_bind (wpAny_mono h₃ (fun x s₄ h₄=>wpAny_bind (wpAny_mono h₄ (fun _ s₅ h₅=>wpAny_pure (wpAny_pure ⟨rfl,h₅⟩)) fun _ _ h'=>h')) fun _ _ h'=>h'))
section
variable {X:Cx}
def tLc (wi:TI) (g:TG) (tt:TT) (te:TE) (vs:List Nat):TE:=fun σ H Q=>wi σ H fun J H1=>∀ D,H1 D=none→∃ W:Nat→Nat→Hp→Prop,(∃ m,W 0 m (upd H1 D (.lst [])))∧∀ i m H,W i m H →
 (J.stop i H∧Q (.ref D) H)∨(J.go i H∧∃ Nx:Hp→Prop,(∀ H',Nx H'→∃ m',m' < m∧W (i+1) m' H')∧∀ x H',J.VL i H x H'→g x (wipe σ vs) H' fun σ2 H2=>wipe σ2 vs=wipe σ vs∧tt σ2 H2 fun b H3=>
  if b=true then te σ2 H3 fun y H4=>∃ acc,H4 D=some (.lst acc)∧acc.length < sizeLine∧Nx (upd H4 D (.lst (acc++[y]))) else Nx H3)
theorem Mh {pins:List (Addr×Obj)}{s:Shared}{σ:St}{H:Hp}{Q:VK}{elt tg iter:Expr}{ifs:List Expr}{scope:Scope}{own:List (Str×Nat)}{pos pos':Pos}{wi:TI}{g:TG}{tt:TT}{te:TE}{use:Option (Value→Sem Unit)}{Qf:Value→Shared→Prop}
  (hc:X.calm=true) (hN:X.N.Nodup) (I:Inv X pins σ H s) (hi:PI X tg iter wi) (ok:Ez X.N X.env.scope scope own)
  (hg:∀ (s:Shared) (H:Hp) (C:Addr) (cl:List (Str×Addr)) (fp:List Addr),PG (X.blk s H scope (compEnvC scope cl C X.env) fp) tg g) (ht:∀ (s:Shared) (H:Hp) (C:Addr) (cl:List (Str×Addr)) (fp:List Addr),PTs (X.blk s H scope (compEnvC scope cl C X.env) fp) ifs tt)
  (he:∀ (s:Shared) (H:Hp) (C:Addr) (cl:List (Str×Addr)) (fp:List Addr),PE (X.blk s H scope (compEnvC scope cl C X.env) fp) elt te) (hs:∀ x,foldedSetIterable iter X.env x=pure x)
  (h:tLc wi g tt te (own.map (·.2)) σ H Q)
  (hRR:∀ D C s' m H',Inv X pins σ H' s'→Q (.ref D) H'→s'.heap.Ns C m→xJ X pins H' C→compPost (model X.prog X.w) X.A X.xe use Qf (.ref D) C (.ok .next) s') :
  wpAny (model X.prog X.w) X.A (comprehension (.ListComp elt [⟨tg,iter,ifs,0⟩] scope pos) scope X.env pos' (newList []) false (eval iter X.env) use) Qf X.xe s:=by
 have hfree:∀ y∈scope.names,y.2=.free→∃ c,X.env.cells.lookup y.1=some c:=fun y hy e=>by
  rcases ok.free y hy e with k | k
  ·exact I.ok.has _ (.inl k)
  ·exact I.ok.has _ (.inr k)
 refine wpAny_comprehension_free (use:=use) rfl hs (Jv hfree) ok.kind (fun y hy e=>by rw [ok.uniq y hy,e])
  (dI (hi pins s σ H _ I h) fun xv s1 hx=>dI hx fun itv s2 h2=>?_)
 obtain ⟨it,fp,tn,J,H2,e,I2,T,st2,f2,q⟩:=h2;subst e;refine wpAny_newObj_type (Ey ?_) (by show 0≤sizeLine;decide);generalize hD:s2.heap.objs.size=D;have hDn:H2 D=none:=I2.hok.fresh (Nat.le_of_eq hD);obtain ⟨W,⟨m0,w0⟩,turn⟩:=q D hDn;generalize hs3:({ s2 with heap:=s2.heap.push { cls:=.type "list",data:=.seq ([]:List Value).toArray } }:Shared)=s3;have I3:Inv X pins σ (upd H2 D (.lst [])) s3:=by
  rw [←hs3];refine I2.laid (t':=s2.toks) (fun b o e=>Heap.get?_push_of_some _ e) (Nat.le_of_eq hD) ⟨Nat.zero_le _,[],0,.nil,?_⟩;rw [←hD];exact Heap.get?_push_size _ rfl
 have h3:s3.heap=s2.heap.push { cls:=.type "list",data:=.seq ([]:List Value).toArray }:=by rw [←hs3]
 have sz:∀ b∈fp,b < s2.heap.objs.size:=fun b hb=>by
  obtain ⟨o,e,_⟩:=T.obj _ _ st2 b hb;exact Heap.lt_size e
 have f3:∀ b∈fp,xJ X pins (upd H2 D (.lst [])) b∧b < s3.heap.objs.size:=fun b hb=>by
  have hlt:=sz b hb;refine ⟨⟨?_,(f2 b hb).2⟩,by rw [h3,Heap.size_push];exact Nat.lt_succ_of_lt hlt⟩;rw [ak (by rw [←hD];exact Nat.ne_of_lt hlt)];exact (f2 b hb).1
 have st3:tn 0 s3.heap:=T.keep _ _ _ st2 fun b _ o e=>by rw [h3];exact Heap.get?_push_of_some _ e
 have I4:=EY I3 ok hN f3;have pg:=hg s3 (upd H2 D (.lst [])) s3.heap.objs.size (cellsFrom (s3.heap.objs.size+1) scope.names (cJ X.env.cells scope.names [])) fp;have pt:=ht s3 (upd H2 D (.lst [])) s3.heap.objs.size (cellsFrom (s3.heap.objs.size+1) scope.names (cJ X.env.cells scope.names [])) fp;have pe:=he s3 (upd H2 D (.lst [])) s3.heap.objs.size (cellsFrom (s3.heap.objs.size+1) scope.names (cJ X.env.cells scope.names [])) fp;show codeAny _ _ (.compStart (.ListComp elt [⟨tg,iter,ifs,0⟩] scope pos) 0 (.ref it) (.ref D) (compEnvC scope (cellsFrom (s3.heap.objs.size+1) scope.names (cJ X.env.cells scope.names [])) s3.heap.objs.size X.env)) (compPost (model X.prog X.w) X.A X.xe use Qf (.ref D) s3.heap.objs.size) { s3 with heap:=pushCells (s3.heap.push { cls:=.type "dict",data:=.dict #[] }) scope.names };have nfp:∀ b∈fp,(upd H2 D (.lst [])) b=none:=fun b hb=>(f3 b hb).1.1;generalize hce:compEnvC scope (cellsFrom (s3.heap.objs.size+1) scope.names (cJ X.env.cells scope.names [])) s3.heap.objs.size X.env=ce at I4 pg pt pe ⊢;have cL:ce.locals=s3.heap.objs.size:=by subst hce;rfl
 generalize hH3:upd H2 D (.lst [])=H3 at I3 I4 pg pt pe w0 nfp f3;generalize hs4:({ s3 with heap:=pushCells (s3.heap.push { cls:=.type "dict",data:=.dict #[] }) scope.names }:Shared)=s4 at I4 ⊢;have st4:tn 0 s4.heap:=T.keep _ _ _ st3 fun b _ o e=>by rw [←hs4];exact pushCells_keeps _ _ _ _ (Heap.get?_push_of_some _ e)
 have stat:∀ {σ':St}{H':Hp}{s':Shared},Inv (X.blk s3 H3 scope ce fp) [] σ' H' s'→(∀ b∈fp,H' b=none)→∀ b∈fp,xJ (X.blk s3 H3 scope ce fp) [] H' b:=fun {σ' H' s'} I' hn b hb=>
  ⟨hn b hb,(I'.ok.exf b hb).1,I'.ok.Oj b hb,.inl hb,fun x c e=>(I'.ok.exf b hb).2 x c e,fun p hp=>absurd (show p∈([]:List (Addr×Obj))++[] from hp) (by simp)⟩
 have loop:codeAny (model X.prog X.w) X.A (.compLoop (.ListComp elt [⟨tg,iter,ifs,0⟩] scope pos) 0 (.ref it) (.ref D) ce) (compPost (model X.prog X.w) X.A X.xe use Qf (.ref D) s3.heap.objs.size) s4:=by
  refine CQ (fun n s'=>∃ i H',Inv (X.blk s3 H3 scope ce fp) [] (wipe σ (own.map (·.2))) H' s'∧tn i s'.heap∧(∀ b∈fp,H' b=none)∧W i n H') ?_ m0 ⟨0,H3,I4,st4,nfp,w0⟩;rintro n s5 ⟨i,H5,I5,st5,n5,w5⟩;rcases turn i n H5 w5 with ⟨stop,qq⟩ | ⟨go,Nx,hNx,step⟩
  ·have td:=T.done (X.blk s3 H3 scope ce fp) rfl rfl rfl hc i [] s5 _ H5 (fun _ _=>False) I5 (stat I5 n5) st5 stop;refine Oz td fun r s6 ⟨hr,I6⟩=>?_;subst hr;have I7:Inv X pins σ H5 s6:=I3.call' (ch:=fp) I6.os I6.base I6.hok I6.bare fun b hb=>⟨(f3 b hb).1.2.2.2.1,(f3 b hb).1.2.1,(f3 b hb).1.2.2.2.2.1,(f3 b hb).1.2.2.2.2.2⟩;have nC:H5 s3.heap.objs.size=none:=by
    have z:H5 ce.locals=none:=I6.free;rw [cL] at z;exact z
   obtain ⟨m,hn,_⟩:=I6.loc;have hn:s6.heap.Ns ce.locals m:=hn;rw [cL] at hn;exact hRR D s3.heap.objs.size s6 m H5 I7 qq hn (I3.Oo (Nat.le_refl _) nC)
  ·have ti:=T.item (X.blk s3 H3 scope ce fp) rfl rfl rfl hc i [] s5 _ H5 (fun _ _=>False) I5 (stat I5 n5) st5 go;refine Oz ti fun r s6 ⟨u,hr,h6⟩=>?_;subst hr;refine Oz h6 fun _ s7 ⟨x,H7,I7,r7,y7,st7,n7⟩=>?_;have I7':=I7.pinned (stat I7 n7) (T.obj _ _ st7);refine Oz (pg _ s7 _ H7 x u _ I7' r7 (step x H7 y7)) fun _ s8 ⟨σ8,H8,I8,hw8,q8⟩=>?_;refine Oz (pt _ s8 σ8 H8 _ I8 q8) fun b s9 ⟨H9,I9,q9⟩=>?_;have fin:∀ {s':Shared}{H':Hp},Inv (X.blk s3 H3 scope ce fp) ([]++xK fp s7.heap) σ8 H' s'→Nx H'→∃ m,m < n∧∃ i H',Inv (X.blk s3 H3 scope ce fp) [] (wipe σ (own.map (·.2))) H' s'∧tn i s'.heap∧(∀ b∈fp,H' b=none)∧W i m H':=fun {s' H'} I' nx=>by
    obtain ⟨m',hm,w'⟩:=hNx H' nx;have abb:∀ b∈fp,∀ o,s7.heap.get? b=some o→s'.heap.get? b=some o∧H' b=none:=fun b hb o e=>
     let z:=I'.pin (b,o) (List.mem_append_right _ (List.mem_append_right _ (rJ hb e)))
     ⟨z.1,z.2.1⟩
    have hl:(wipe σ (own.map (·.2))).length=σ8.length:=by rw [←hw8,pP]
    refine ⟨m',hm,i+1,H',(I'.tE (pins:=[])).weak hl (fun j v e=>?_),T.keep _ _ _ st7 fun b hb o e=>(abb b hb o e).1,fun b hb=>?_,w'⟩
    ·rw [←hw8] at e;exact (uO e).1
    ·obtain ⟨o,e,_⟩:=T.obj _ _ st7 b hb;exact (abb b hb o e).2
   cases b with
   | false=>
    simp only [Bool.false_eq_true,if_false] at q9 ⊢;exact fin I9 q9
   | true=>
    simp only [if_true] at q9 ⊢;refine Oz (pe _ s9 σ8 H9 _ I9 q9) fun z s10 ⟨yv,H10,I10,r10,acc,adI,adJ,nx⟩=>?_;exact YK (X:=X.blk s3 H3 scope ce fp) I10 adI adJ r10 fun s11 I11=>fin I11 nx
 exact codeAny_compStart_list loop (T.self X.A 0 _ _ _ st4 loop)
theorem pq {elt tg iter:Expr}{ifs:List Expr}{scope:Scope}{own:List (Str×Nat)}{pos:Pos}{wi:TI}{g:TG}{tt:TT}{te:TE} (hc:X.calm=true) (hN:X.N.Nodup) (hi:PI X tg iter wi) (ok:Ez X.N X.env.scope scope own)
  (hg:∀ (s:Shared) (H:Hp) (C:Addr) (cl:List (Str×Addr)) (fp:List Addr),PG (X.blk s H scope (compEnvC scope cl C X.env) fp) tg g) (ht:∀ (s:Shared) (H:Hp) (C:Addr) (cl:List (Str×Addr)) (fp:List Addr),PTs (X.blk s H scope (compEnvC scope cl C X.env) fp) ifs tt)
  (he:∀ (s:Shared) (H:Hp) (C:Addr) (cl:List (Str×Addr)) (fp:List Addr),PE (X.blk s H scope (compEnvC scope cl C X.env) fp) elt te) (hs:∀ x,foldedSetIterable iter X.env x=pure x:=by intro _;rfl) :
  PE X (.ListComp elt [⟨tg,iter,ifs,0⟩] scope pos) (tLc wi g tt te (own.map (·.2))):=by
 intro pins s σ H Q I h;rw [eval_ListComp];refine Mh hc hN I hi ok hg ht he hs h fun D C s' m H' I' q hn f=>⟨m,hn,fun h'' sb=>?_⟩;obtain ⟨f0,f1,f2,f3,f4,f5⟩:=f;exact ⟨.ref D,H',I'.turned (t':=s'.toks) (fun b o hb e=>(sb.2 b hb).trans e) f0 f1 f3 f4 f5,rfl,q⟩
theorem xX {i:Nat}{y:Str}{py:Pos}{elt tg iter:Expr}{ifs:List Expr}{scope:Scope}{own:List (Str×Nat)}{pos spos:Pos}{wi:TI}{g:TG}{tt:TT}{te:TE} (hc:X.calm=true) (hN:X.N.Nodup) (hy:X.N[i]?=some y) (hyl:X.env.scope.names.lookup y=some .local)
  (hsw:swapsWith (.ListComp elt [⟨tg,iter,ifs,0⟩] scope pos) (some (.Name y py)) spos.line X.env=pure true) (hi:PI X tg iter wi) (ok:Ez X.N X.env.scope scope own)
  (hg:∀ (s:Shared) (H:Hp) (C:Addr) (cl:List (Str×Addr)) (fp:List Addr),PG (X.blk s H scope (compEnvC scope cl C X.env) fp) tg g) (ht:∀ (s:Shared) (H:Hp) (C:Addr) (cl:List (Str×Addr)) (fp:List Addr),PTs (X.blk s H scope (compEnvC scope cl C X.env) fp) ifs tt)
  (he:∀ (s:Shared) (H:Hp) (C:Addr) (cl:List (Str×Addr)) (fp:List Addr),PE (X.blk s H scope (compEnvC scope cl C X.env) fp) elt te) (hs:∀ x,foldedSetIterable iter X.env x=pure x:=by intro _;rfl) :
  PS X (.Assign [.Name y py] (.ListComp elt [⟨tg,iter,ifs,0⟩] scope pos) spos) (aaW (tLc wi g tt te (own.map (·.2))) (Lz i)):=by
 intro pins s σ H D I h;rw [exec_Assign_Name_used _ _ _ _ hsw];refine wpAny_bind (wpAny_standAt (wpAny_bind ?_));show wpAny _ X.A (do let _ ←comprehension (.ListComp elt [⟨tg,iter,ifs,0⟩] scope pos) scope X.env (firstIterPos [⟨tg,iter,ifs,0⟩] pos) (newList []) false (eval iter X.env) (some (assign (.Name y py) X.env))) _ _ s;have h:tLc wi g tt te (own.map (·.2)) σ H (fun x H1=>Lz i x σ H1 D.nx):=h;refine wpAny_bind (dI (Mh (Qf:=fun _ s'=>SP X pins D .next s') hc hN I hi ok hg ht he hs h fun L C s' m H' I' q hn f=>?_) fun _ s' hq=>wpAny_pure (wpAny_pure hq));show wpAny _ _ (assign (.Name y py) X.env (.ref L)) _ _ _;refine wpAny_assign_Name (Az (v:=V.ref L) I' hN hy (.inl hyl) rfl (fun s2 I2 ⟨a,sb,ha⟩=>?_) (.inr hyl));obtain ⟨f0,f1,f2,f3,f4,f5⟩:=f;have haC:C≠a:=by
  rcases ha with z | z
  ·rw [z];exact f1
  ·exact fun e=>f4 y a z e.symm
 refine ⟨m,hn.sameBut sb haC,fun h3 sb3=>?_⟩;exact ⟨_,H',I2.turned (t':=s2.toks) (fun b o hb e=>(sb3.2 b hb).trans e) f0 f1 f3 f4 f5,q⟩
theorem CV {elt:Expr}{gs:List Comprehension}{scope:Scope}{pos py:Pos}{y:Str}{l:Nat}{env:Env} (hk:env.scope.kind=.function) (hy:env.scope.names.lookup y=some .local) (hl:(py.line==pos.line)=true)
  (ha:(scope.names.any fun (n,k)=>n==y&&(k==.local||k==.cell))=false):swapsWith (.ListComp elt gs scope pos) (some (.Name y py)) l env=pure true:=by
 have ky:env.kindOf y=some .local:=hy;have hb:env.blockKind=.function:=by unfold Env.blockKind;rw [hk];rfl
 unfold swapsWith;simp only [hb,ky,ha,Expr.pos,hl];rfl
end
theorem Rz {lo:Int}{n:Nat}{g:TG}{tt:TT}{te:TE}{vs:List Nat}{σ:St}{H1:Hp}{D:Addr}{Qd:Hp→Prop} (Pv:Nat→Hp→Prop) (h0:Pv 0 (upd H1 D (.lst [])))
  (hs:∀ i H,i < n→Pv i H→g (.int (lo+i)) (wipe σ vs) H fun σ2 H2=>wipe σ2 vs=wipe σ vs∧tt σ2 H2 fun b H3=>
   if b=true then te σ2 H3 fun y H4=>∃ acc,H4 D=some (.lst acc)∧acc.length < sizeLine∧Pv (i+1) (upd H4 D (.lst (acc++[y]))) else Pv (i+1) H3) (hd:∀ H,Pv n H→Qd H) :
  ∃ W:Nat→Nat→Hp→Prop,(∃ m,W 0 m (upd H1 D (.lst [])))∧∀ i m H,W i m H →
   ((Itr lo n).stop i H∧Qd H)∨((Itr lo n).go i H∧∃ Nx:Hp→Prop,(∀ H',Nx H'→∃ m',m' < m∧W (i+1) m' H')∧∀ x H',(Itr lo n).VL i H x H'→g x (wipe σ vs) H' fun σ2 H2=>wipe σ2 vs=wipe σ vs∧tt σ2 H2 fun b H3=>
    if b=true then te σ2 H3 fun y H4=>∃ acc,H4 D=some (.lst acc)∧acc.length < sizeLine∧Nx (upd H4 D (.lst (acc++[y]))) else Nx H3):=by
 refine ⟨fun i m H=>m=n-i∧i≤n∧Pv i H,⟨n,by simp,Nat.zero_le _,h0⟩,?_⟩;rintro i m H ⟨rfl,hi,p⟩;by_cases hlt:i < n
 ·refine .inr ⟨hlt,Pv (i+1),fun H' p'=>⟨n-(i+1),by omega,rfl,hlt,p'⟩,fun x H' y=>?_⟩;obtain ⟨e,y⟩:=y;subst e y;exact hs i _ hlt p
 ·have e:i=n:=by omega
  subst e;exact .inl ⟨Nat.le_refl _,hd H p⟩
theorem gH {K:PySem.W.Frag}{a:Addr}{xs:List V}{g:TG}{tt:TT}{te:TE}{vs:List Nat}{σ:St}{H1:Hp}{D:Addr}{Qd:Hp→Prop} (Pv:Nat→Hp→Prop) (h0:Pv 0 (upd H1 D (.lst []))) (hl:∀ i H,i≤xs.length→Pv i H→bO K H a xs)
  (hs:∀ i x H,xs[i]?=some x→Pv i H→g x (wipe σ vs) H fun σ2 H2=>wipe σ2 vs=wipe σ vs∧tt σ2 H2 fun b H3=>
   if b=true then te σ2 H3 fun y H4=>∃ acc,H4 D=some (.lst acc)∧acc.length < sizeLine∧Pv (i+1) (upd H4 D (.lst (acc++[y]))) else Pv (i+1) H3) (hd:∀ H,Pv xs.length H→Qd H) :
  ∃ W:Nat→Nat→Hp→Prop,(∃ m,W 0 m (upd H1 D (.lst [])))∧∀ i m H,W i m H →
   ((XH K a).stop i H∧Qd H)∨((XH K a).go i H∧∃ Nx:Hp→Prop,(∀ H',Nx H'→∃ m',m' < m∧W (i+1) m' H')∧∀ x H',(XH K a).VL i H x H'→g x (wipe σ vs) H' fun σ2 H2=>wipe σ2 vs=wipe σ vs∧tt σ2 H2 fun b H3=>
    if b=true then te σ2 H3 fun y H4=>∃ acc,H4 D=some (.lst acc)∧acc.length < sizeLine∧Nx (upd H4 D (.lst (acc++[y]))) else Nx H3):=by
 refine ⟨fun i m H=>m=xs.length-i∧i≤xs.length∧Pv i H,⟨xs.length,by simp,Nat.zero_le _,h0⟩,?_⟩;rintro i m H ⟨rfl,hi,p⟩;have q:=hl i H hi p;by_cases hlt:i < xs.length
 ·refine .inr ⟨⟨xs,xs[i],q,by simp [hlt]⟩,Pv (i+1),fun H' p'=>⟨xs.length-(i+1),by omega,rfl,hlt,p'⟩,fun x H' y=>?_⟩;obtain ⟨e,y⟩:=y;subst e;exact hs i x _ (y xs q) p
 ·have e:i=xs.length:=by omega
  subst e;exact .inl ⟨⟨xs,q,Nat.le_refl _⟩,hd H p⟩
def pQ (N:List Str) (sc scope:Scope) (own:List (Str×Nat)):Bool:=
 (match scope.kind with | .function=>true | _=>false)&&(scope.names.all fun y=>decide (scope.names.lookup y.1=some y.2))&&(own.all fun p=>decide (N[p.2]?=some p.1)) &&
  (scope.names.all fun y=>match y.2 with
   | .free=>(match sc.names.lookup y.1 with | some .cell=>true | some .free=>true | _=>false)
   | .local=>decide (y.1∈own.map (·.1))||decide (y.1∉N)
   | .cell=>decide (y.1∈own.map (·.1))||decide (y.1∉N)
   | _=>true)
theorem cY {N:List Str}{sc scope:Scope}{own:List (Str×Nat)} (h:pQ N sc scope own=true):Ez N sc scope own:=by
 unfold pQ at h;simp only [Bool.and_eq_true,List.all_eq_true,decide_eq_true_eq] at h;obtain ⟨⟨⟨h1,h2⟩,h3⟩,h4⟩:=h;refine ⟨?_,h2,h3,fun y hy e=>?_,fun y hy e=>?_⟩
 ·split at h1
  ·assumption
  ·cases h1
 ·have q:=h4 y hy;simp only [e] at q;split at q <;> first | exact .inl (by assumption) | exact .inr (by assumption) | cases q
 ·have q:=h4 y hy;rcases e with e | e <;> (simp only [e,Bool.or_eq_true,decide_eq_true_eq] at q;exact q)
end L2
namespace L2
open PySem PySem.Spec PyProof.Rows
end L2
namespace L2
open PySem PySem.Spec PyProof.Rows
section
variable {κ:Type} [DecidableEq κ]
def lK (kvs:List (κ×V)) (k:κ):Option V:=(kvs.find? fun kv=>decide (kv.1=k)).map (·.2)
def putK (kvs:List (κ×V)) (k:κ) (v:V):List (κ×V):=
 if (kvs.any fun kv=>decide (kv.1=k))=true then kvs.map (fun kv=>if kv.1=k then (kv.1,v) else kv) else kvs++[(k,v)]
theorem xY {p:κ×V}{r:List (κ×V)}{k:κ} (e:p.1=k):lK (p::r) k=some p.2:=by simp [lK,List.find?_cons,e]
theorem xZ {p:κ×V}{r:List (κ×V)}{k:κ} (e:¬ p.1=k):lK (p::r) k=lK r k:=by simp [lK,List.find?_cons,e]
theorem yc (k:κ):∀ kvs:List (κ×V),(kvs.any fun kv=>decide (kv.1=k))=(lK kvs k).isSome
 | []=>rfl
 | p::r=>by
  rw [List.any_cons];by_cases e:p.1=k
  ·simp only [xY e,decide_eq_true e,Bool.true_or,Option.isSome_some]
  ·rw [xZ e,decide_eq_false e,Bool.false_or];exact yc k r
theorem jw (kvs:List (κ×V)) (k:κ) (v:V):(putK kvs k v).length≤kvs.length+1:=by
 unfold putK;split
 ·rw [List.length_map];omega
 ·rw [List.length_append,List.length_cons,List.length_nil];omega
theorem RB {kvs:List (κ×V)}{k:κ} (v:V) (h:lK kvs k=none):putK kvs k v=kvs++[(k,v)]:=by
 unfold putK;rw [yc,h];exact if_neg (by decide)
theorem nY.ni {o:Option V}{u:Option Value} (r:nY o u):o.isSome=u.isSome:=by
 cases o with
 | none=>cases u with
  | none=>rfl
  | some _=>exact (show False from r).elim
 | some _=>cases u with
  | none=>exact (show False from r).elim
  | some _=>rfl
theorem nY.getD {o:Option V}{u:Option Value}{d:V}{d':Value} (r:nY o u) (rd:RelV d d'):RelV (o.getD d) (u.getD d'):=by
 cases o with
 | none=>cases u with
  | none=>exact rd
  | some _=>exact (show False from r).elim
 | some _=>cases u with
  | none=>exact (show False from r).elim
  | some _=>exact r
theorem KV.val {kvs:List (κ×V)}{vs:List (κ×Value)} (r:KV kvs vs) (k:κ):nY (lK kvs k) (valueAt vs k):=by
 unfold KV at r
 induction r with
 | nil=>exact True.intro
 | @cons p q ps qs h t ih=>
  obtain ⟨h1,h2⟩:=h;by_cases e:p.1=k
  ·have e':q.1=k:=h1.symm.trans e;have b:valueAt (q::qs) k=some q.2:=by simp [valueAt,List.find?_cons,e']
   rw [xY e,b];exact h2
  ·have e':¬ q.1=k:=fun z=>e (h1.trans z);have b:valueAt (q::qs) k=valueAt qs k:=by simp [valueAt,List.find?_cons,e']
   rw [xZ e,b];exact ih
theorem KV.any {kvs:List (κ×V)}{vs:List (κ×Value)} (r:KV kvs vs) (k:κ):(kvs.any fun kv=>decide (kv.1=k))=vs.any fun kv=>decide (kv.1=k):=by
 unfold KV at r
 induction r with
 | nil=>rfl
 | cons h t ih=>rw [List.any_cons,List.any_cons,ih,h.1]
theorem KV.repl {kvs:List (κ×V)}{vs:List (κ×Value)} (r:KV kvs vs) (k:κ) {y:V}{u:Value} (ry:RelV y u) :
  KV (kvs.map fun kv=>if kv.1=k then (kv.1,y) else kv) (vs.map fun kv=>if kv.1=k then (kv.1,u) else kv):=by
 unfold KV at r ⊢
 induction r with
 | nil=>exact .nil
 | @cons p q ps qs h t ih=>
  rw [List.map_cons,List.map_cons];refine .cons ?_ ih;obtain ⟨h1,h2⟩:=h;by_cases e:p.1=k
  ·rw [if_pos e,if_pos (h1.symm.trans e)];exact ⟨h1,ry⟩
  ·rw [if_neg e,if_neg (fun z=>e (h1.trans z))];exact ⟨h1,h2⟩
theorem KV.put {kvs:List (κ×V)}{vs:List (κ×Value)} (r:KV kvs vs) (k:κ) {y:V}{u:Value} (ry:RelV y u):KV (putK kvs k y) (stored vs k u):=by
 unfold putK stored;rw [r.any k];by_cases e:(vs.any fun kv=>decide (kv.1=k))=true
 ·rw [if_pos e,if_pos e];exact r.repl k ry
 ·rw [if_neg e,if_neg e];exact Paired.snoc r ⟨rfl,ry⟩
theorem KV.length {kvs:List (κ×V)}{vs:List (κ×Value)} (r:KV kvs vs):kvs.length=vs.length:=Paired.length r
end
theorem yd {P:Program}{w:World}{k:Key}{u:Value} (r:RelV (kV k) u):(cH P w).is k u=true:=by
 cases k with
 | inl i=>obtain ⟨t,e⟩:=(show ∃ t,u=Value.int i t from r);subst e;exact Ei P w i t
 | inr x=>obtain ⟨t,e⟩:=(show ∃ t,u=Value.str x t from r);subst e;exact Ej P w x t
theorem Bl {P:Program}{w:World}:∀ {ks:List Key}{us:List Value},Vals (ks.map kV) us→ItemsAre (cH P w) ks us
 | [],_,r=>by rw [List.map_nil] at r;cases r;exact .nil
 | k::ks,_,r=>by
  rw [List.map_cons] at r;cases r with
  | cons h t=>exact .cons (yd h) (Bl t)
abbrev KT (H:Hp):List (List Key×V)→List (List Key×Addr×Value)→Prop:=Paired fun p q=>p.1=q.1∧H q.2.1=some (.tup (p.1.map kV))∧RelV p.2 q.2.2
theorem KT.val {H:Hp}{kvs:List (List Key×V)}{xs:List (List Key×Addr×Value)} (r:KT H kvs xs) (k:List Key):nY (lK kvs k) ((atKey xs k).map (·.2)):=by
 induction r with
 | nil=>exact True.intro
 | @cons p q ps qs h t ih=>
  obtain ⟨h1,_,h2⟩:=h;by_cases e:p.1=k
  ·have e':q.1=k:=h1.symm.trans e;have b:atKey (q::qs) k=some q.2:=by simp [atKey,List.find?_cons,e']
   rw [xY e,b];exact h2
  ·have e':¬ q.1=k:=fun z=>e (h1.trans z);have b:atKey (q::qs) k=atKey qs k:=by simp [atKey,List.find?_cons,e']
   rw [xZ e,b];exact ih
theorem KT.repl {H:Hp}{kvs:List (List Key×V)}{xs:List (List Key×Addr×Value)} (r:KT H kvs xs) (k:List Key) {y:V}{u:Value} (ry:RelV y u) :
  KT H (kvs.map fun kv=>if kv.1=k then (kv.1,y) else kv) (xs.map (putAt k u)):=by
 induction r with
 | nil=>exact .nil
 | @cons p q ps qs h t ih=>
  rw [List.map_cons,List.map_cons];refine .cons ?_ ih;obtain ⟨h1,h2,h3⟩:=h;unfold putAt;by_cases e:p.1=k
  ·rw [if_pos e,if_pos (h1.symm.trans e)];exact ⟨h1,h2,ry⟩
  ·rw [if_neg e,if_neg (fun z=>e (h1.trans z))];exact ⟨h1,h2,h3⟩
theorem KT.put {H:Hp}{kvs:List (List Key×V)}{xs:List (List Key×Addr×Value)} (r:KT H kvs xs) (k:List Key) {b:Addr}{y:V}{u:Value} (hb:H b=some (.tup (k.map kV))) (ry:RelV y u) :
  KT H (putK kvs k y) (storedH xs k b u):=by
 have e:(kvs.any fun kv=>decide (kv.1=k))=(atKey xs k).isSome:=by
  rw [yc,(r.val k).ni,Option.isSome_map]
 unfold putK storedH;rw [e];by_cases q:(atKey xs k).isSome=true
 ·rw [if_pos q,if_pos q];exact r.repl k ry
 ·rw [if_neg q,if_neg q];exact Paired.snoc r ⟨rfl,hb,ry⟩
theorem KT.keeps {H H':Hp}{kvs:List (List Key×V)}{xs:List (List Key×Addr×Value)} (r:KT H kvs xs) (ht:∀ b ys,H b=some (.tup ys)→H' b=some (.tup ys)):KT H' kvs xs:=
 Paired.QZ r fun _ _ z=>⟨z.1,ht _ _ z.2.1,z.2.2⟩
section
variable {P:Program}{w:World}{H:Hp}{h:Heap}{a:Addr}
theorem XM {u:HO} (ok:pB P w H h) (e:Rd H a u):fD P w H h a u:=e.ok ok
theorem yg {kvs:List (Key×V)} (ok:pB P w H h) (e:Rd H a (.dK kvs)):kvs.length≤sizeLine∧(a==sysModules)=false∧∃ vs,KV kvs vs∧h.DictOf (cH P w) a vs:=
 show fD P w H h a (.dK kvs) from XM ok e
theorem abd {kvs:List (Key×V)} (ok:pB P w H h) (e:H a=some (.dK kvs)):kvs.length≤sizeLine∧(a==sysModules)=false∧∃ vs,KV kvs vs∧h.DictOf (cH P w) a vs:=yg ok (.inl e)
theorem uP {ks:List Key} (ok:pB P w H h) (e:H a=some (.tup (ks.map kV))):(tupleKind (cH P w)).is h ks a:=by
 obtain ⟨_,its,r,o,h1,h2,n,h3⟩:=(show fD P w H h a (.tup (ks.map kV)) from ok a _ e);exact ⟨o,its.toArray,n,h1,h2,h3,by simpa using Bl r⟩
theorem yh {kvs:List (List Key×V)} (ok:pB P w H h) (e:Rd H a (.dT kvs)):kvs.length≤sizeLine∧(a==sysModules)=false ∧
  ∃ xs,KT H kvs xs∧h.DictOfH (tupleKind (cH P w)) a xs:=by
 obtain ⟨z,y,xs,r,o,es,ep,h1,h2,h3,h4,h5⟩:=(show fD P w H h a (.dT kvs) from XM ok e);refine ⟨z,y,xs,r,o,es,ep,h1,h2,h3,h4,fun x hx=>?_,h5⟩;have all:∀ {l:List (List Key×V)}{m:List (List Key×Addr×Value)},KT H l m→∀ x∈m,(tupleKind (cH P w)).is h x.1 x.2.1:=by
  intro l m q
  induction q with
  | nil=>intro x hx;exact nomatch hx
  | @cons p q ps qs hq t ih=>
   intro x hx;rcases List.mem_cons.mp hx with e | hx
   ·subst e;exact uP ok (by rw [←hq.1];exact hq.2.1)
   ·exact ih x hx
 exact all r x hx
theorem abe {kvs:List (List Key×V)} (ok:pB P w H h) (e:H a=some (.dT kvs)):kvs.length≤sizeLine∧(a==sysModules)=false ∧
  ∃ xs,KT H kvs xs∧h.DictOfH (tupleKind (cH P w)) a xs:=yh ok (.inl e)
end
def qW (H:Hp) (a:Addr) (y:V) (r:Option V):Prop:=
 (∃ kvs k,Rd H a (.dK kvs)∧y=kV k∧r=lK kvs k)∨∃ kvs k b,Rd H a (.dT kvs)∧y=.ref b∧H b=some (.tup (k.map kV))∧r=lK kvs k
def Jw (H:Hp) (a:Addr) (y v:V) (H':Hp):Prop:=
 (∃ kvs k,H a=some (.dK kvs)∧y=kV k∧kvs.length < sizeLine∧H'=upd H a (.dK (putK kvs k v))) ∨
 ∃ kvs k b,H a=some (.dT kvs)∧y=.ref b∧H b=some (.tup (k.map kV))∧kvs.length < sizeLine∧H'=upd H a (.dT (putK kvs k v))
theorem qW.k {H:Hp}{a:Addr}{kvs:List (Key×V)}{k:Key} (e:H a=some (.dK kvs)):qW H a (kV k) (lK kvs k):=.inl ⟨kvs,k,.inl e,rfl,rfl⟩
theorem Jw.k {H:Hp}{a:Addr}{kvs:List (Key×V)}{k:Key}{v:V} (e:H a=some (.dK kvs)) (hl:kvs.length < sizeLine):Jw H a (kV k) v (upd H a (.dK (putK kvs k v))):=.inl ⟨kvs,k,e,rfl,hl,rfl⟩
section
variable {X:Cx}{pins:List (Addr×Obj)}{σ:St}{H:Hp}{s:Shared}{a:Addr}{y v:V}{u r:Value}{o:Option V}{A:Around}{E:Value→Shared→Prop}
theorem Inv.big (I:Inv X pins σ H s):sysModules < s.heap.objs.size:=by
 have h:mainGlobals < s.heap.objs.size:=(I.mod.glob.keeps I.bk).lt;exact Nat.lt_trans (by decide) h
theorem OD {Q:Value→Shared→Prop} (hu:A.units+1 < cLine) (I:Inv X pins σ H s) (g:qW H a y (some v)) (ry:RelV y u) (h:∀ w' s',Inv X pins σ H s'→RelV v w'→Q w' s') :
  wpAny (model X.prog X.w) A (getItem (.ref a) u) Q E s:=by
 rcases g with ⟨kvs,k,e,ey,l⟩ | ⟨kvs,k,b,e,ey,eb,l⟩
 ·subst ey;obtain ⟨z,hd,vs,rel,dd⟩:=yg I.hok e;obtain ⟨w',hw,Rr⟩:=nY.some_of (v:=v) (o:=valueAt vs k) (by rw [l];exact rel.val k);exact wpAny_getItem_of (yd ry) dd.mapOf hw (h w' _ (I.tok _) Rr)
 ·subst ey;cases (show u=Value.ref b from ry);obtain ⟨z,hd,xs,rel,dd⟩:=yh I.hok e;obtain ⟨w',hw,Rr⟩:=nY.some_of (v:=v) (o:=(atKey xs k).map (·.2)) (by rw [l];exact rel.val k);obtain ⟨p,hp,hp2⟩:=Option.map_eq_some_iff.mp hw;refine wpAny_getItem_heap (tupleKind_room_in1 hu) (uP I.hok eb) dd hp ?_;rw [hp2];exact h w' _ (I.tok _) Rr
theorem adK {Q:Value→Shared→Prop} (hu:A.units+1 < cLine) (I:Inv X pins σ H s) (g:qW H a y o) (ry:RelV y u) (h:∀ s',Inv X pins σ H s'→Q (.bool o.isSome) s') :
  wpAny (model X.prog X.w) A (compareOp .In u (.ref a)) Q E s:=by
 rcases g with ⟨kvs,k,e,ey,l⟩ | ⟨kvs,k,b,e,ey,eb,l⟩
 ·subst ey;obtain ⟨z,hd,vs,rel,dd⟩:=yg I.hok e;refine wpAny_in_of (yd ry) hd dd.mapOf ?_;rw [←(rel.val k).ni,←l];exact h _ (I.tok _)
 ·subst ey;cases (show u=Value.ref b from ry);obtain ⟨z,hd,xs,rel,dd⟩:=yh I.hok e;refine wpAny_in_heap (tupleKind_room_in1 hu) (uP I.hok eb) hd dd ?_;have q:=(rel.val k).ni;rw [Option.isSome_map] at q;rw [←q,←l];exact h _ (I.tok _)
theorem Wb {Q:Value→Shared→Prop} (hu:A.units+1 < cLine) (I:Inv X pins σ H s) (g:qW H a y o) (ry:RelV y u) (h:∀ s',Inv X pins σ H s'→Q (.bool (!o.isSome)) s') :
  wpAny (model X.prog X.w) A (compareOp .NotIn u (.ref a)) Q E s:=by
 rcases g with ⟨kvs,k,e,ey,l⟩ | ⟨kvs,k,b,e,ey,eb,l⟩
 ·subst ey;obtain ⟨z,hd,vs,rel,dd⟩:=yg I.hok e;refine wpAny_notIn_of (yd ry) hd dd.mapOf ?_;rw [←(rel.val k).ni,←l];exact h _ (I.tok _)
 ·subst ey;cases (show u=Value.ref b from ry);obtain ⟨z,hd,xs,rel,dd⟩:=yh I.hok e;refine wpAny_notIn_heap (tupleKind_room_in1 hu) (uP I.hok eb) hd dd ?_;have q:=(rel.val k).ni;rw [Option.isSome_map] at q;rw [←q,←l];exact h _ (I.tok _)
theorem Mi {h':Heap}{t':Nat}{ob:HO} (I:Inv X pins σ H s) (mu:Mut (H a)) (hs:Heap.SameBut a s.heap h') (he:∃ q,h'.get? a=some q) (new:fD X.prog X.w (upd H a ob) h' a ob) :
  Inv X pins σ (upd H a ob) { s with heap:=h',toks:=t' }:=
 I.write (x:=a) (e:=a) mu (.inl rfl) (fun b q hb z=>(hs.2 b hb).trans z) he new
theorem YL {P:Program}{w:World}{H':Hp}{h':Heap}{kvs:List (Key×V)}{vs:List (Key×Value)} (z:kvs.length≤sizeLine) (hd:(a==sysModules)=false) (rel:KV kvs vs) (dd:h'.DictOf (cH P w) a vs) :
  fD P w H' h' a (.dK kvs):=⟨z,hd,vs,rel,dd⟩
theorem OJ {H':Hp}{Q:Unit→Shared→Prop} (hu:A.units+1 < cLine) (I:Inv X pins σ H s) (g:Jw H a y v H') (ry:RelV y u) (rv:RelV v r) (h:∀ s',Inv X pins σ H' s'→Q () s') :
  wpAny (model X.prog X.w) A (setItem (.ref a) u r) Q E s:=by
 rcases g with ⟨kvs,k,e,ey,l,eH⟩ | ⟨kvs,k,b,e,ey,eb,l,eH⟩
 ·subst ey eH;obtain ⟨z,hd,vs,rel,dd⟩:=abd I.hok e;have hz:vs.length≤sizeLine:=by rw [←rel.length];exact z
  have hl:(putK kvs k v).length≤sizeLine:=by have:=jw kvs k v;omega
  refine wpAny_setItem_pairs (hsz:=hz) (yd ry) dd fun h' dd' hs=>h _ ?_;have he:∃ q,h'.get? a=some q:=let ⟨q,_,_,hq,_⟩:=dd';⟨q,hq⟩;exact Mi I (by rw [e];exact True.intro) hs he (YL hl hd (rel.put k rv) dd')
 ·subst ey eH;cases (show u=Value.ref b from ry);obtain ⟨z,hd,xs,rel,dd⟩:=abe I.hok e;have hz:xs.length≤sizeLine:=by rw [←Paired.length rel];exact z
  have hl:(putK kvs k v).length≤sizeLine:=by have:=jw kvs k v;omega
  refine wpAny_setItem_heap (hsz:=hz) (tupleKind_room_in1 hu) (uP I.hok eb) dd fun h' dd' hs=>h _ ?_;obtain ⟨q,es,ep,hq,h2,h3,h4,_,h5⟩:=dd';refine Mi I (by rw [e];exact True.intro) hs ⟨q,hq⟩ ⟨hl,hd,_,(rel.put k eb rv).keeps fun c ys ec=>?_,q,es,ep,hq,h2,h3,h4,h5⟩;rw [ak (lN ec e (fun z=>nomatch z))];exact ec
end
def abf (i:Expr):Prop:=∀ ov iv,subscripted i false ov iv=operate [ov,iv] (getItem ov iv)
theorem Wc {prog:Program}{w:World}{A:Around}{E:Value→Shared→Prop}{s:Shared}{env:Env}{value slice:Expr}{pos:Pos}{T id:String}{Q:Value→Shared→Prop}
  (hl:typeLookup (.type T) "__getitem__"=pure (some (.builtin id))) (hs:abf slice)
  (h:wpAny (model prog w) A (eval value env) (fun o s₁=>wpAny (model prog w) A (eval slice env) (fun i s₂=>s₂.TypeIs o T∧wpAny (model prog w) A (getItem o i) Q E s₂) E s₁) E s) :
  wpAny (model prog w) A (eval (.Subscript value slice pos) env) Q E s:=by
 refine Subscript_ (wpAny_mono h (fun o s₁ h₁=>wpAny_mono h₁ (fun i s₂ h₂=>?_) fun _ _ x=>x) fun _ _ x=>x);obtain ⟨hT,h₂⟩:=h₂;unfold subscriptTail;refine wpAny_bind ?_;rw [getitemInPython_of_ne hT.not_modules];refine wpAny_bind (wpAny_specialOf hT hl ?_);have fin:wpAny (model prog w) A (subscripted slice false o i) (fun r s₃=>wpAny (model prog w) A (letTemporaryGo value o r >>= fun _=>pure r) Q E s₃) E s₂:=by
  rw [hs o i];exact wpAny_operating (wpAny_mono h₂ (fun r s₃ h₃=>wpAny_bind (wpAny_letTemporaryGo (wpAny_pure h₃))) fun _ _ x=>x)
 first
  | exact wpAny_pure (wpAny_bind fin)
  | exact wpAny_bind (wpAny_pure (wpAny_bind fin))
  | exact wpAny_bind fin
theorem Fd {X:Cx}{pins:List (Addr×Obj)}{σ:St}{H:Hp}{s:Shared}{a:Addr}{y:V}{o:Option V} (I:Inv X pins σ H s) (g:qW H a y o):s.TypeIs (.ref a) "dict":=by
 rcases g with ⟨kvs,k,e,_,_⟩ | ⟨kvs,k,b,e,_,_,_⟩
 ·obtain ⟨_,_,vs,_,dd⟩:=yg I.hok e;exact dd.typeIs
 ·obtain ⟨_,_,xs,_,dd⟩:=yh I.hok e;exact dd.typeIs
def abg (td ty:TE):TE:=fun σ H Q=>td σ H fun x H1=>ty σ H1 fun y H2=>∃ a v,x=.ref a∧qW H2 a y (some v)∧Q v H2
def adL (ty td:TE):TE:=fun σ H Q=>ty σ H fun y H1=>td σ H1 fun x H2=>∃ a o,x=.ref a∧qW H2 a y o∧Q (.bl o.isSome) H2
def Wd (ty td:TE):TE:=fun σ H Q=>ty σ H fun y H1=>td σ H1 fun x H2=>∃ a o,x=.ref a∧qW H2 a y o∧Q (.bl (!o.isSome)) H2
def abh (td ty tv:TE):TS:=fun D σ H=>tv σ H fun v H1=>td σ H1 fun x H2=>ty σ H2 fun y H3=>∃ a H4,x=.ref a∧Jw H3 a y v H4∧D.nx σ H4
section
variable {X:Cx}{o i e value:Expr}{pos pos' tpos:Pos}{td ty tv:TE}
theorem Wf (hu:X.A.units+1 < cLine) (ho:PE X o td) (hi:PE X i ty) (hs:abf i):PE X (.Subscript o i pos) (abg td ty):=by
 intro pins s σ H Q I h;refine Wc PySem.F.slot_dict_getitem.lookup hs (dI (ho pins s σ H _ I h) fun u s1 ⟨x,H1,I1,rx,q1⟩=>dI (hi pins s1 σ H1 _ I1 q1) fun iv s2 ⟨y,H2,I2,ry,a,v,ex,g,q2⟩=>?_);subst ex;obtain rfl:u=Value.ref a:=rx;exact ⟨Fd I2 g,OD hu I2 g ry fun w' s3 I3 Rr=>⟨v,H2,I3,Rr,q2⟩⟩
theorem YM (hu:X.A.units+1 < cLine) (hi:PE X i ty) (ho:PE X o td):PC X .In i o (adL ty td):=by
 intro pins s σ H Q I h;refine dI (hi pins s σ H _ I h) fun iv s1 ⟨y,H1,I1,ry,q1⟩=>dI (ho pins s1 σ H1 _ I1 q1) fun u s2 ⟨x,H2,I2,rx,a,ov,ex,g,q2⟩=>?_;subst ex;obtain rfl:u=Value.ref a:=rx;exact adK hu I2 g ry fun s3 I3=>⟨.bl ov.isSome,H2,I3,rfl,q2⟩
theorem O1 (hu:X.A.units+1 < cLine) (hi:PE X i ty) (ho:PE X o td):PC X .NotIn i o (Wd ty td):=by
 intro pins s σ H Q I h;refine dI (hi pins s σ H _ I h) fun iv s1 ⟨y,H1,I1,ry,q1⟩=>dI (ho pins s1 σ H1 _ I1 q1) fun u s2 ⟨x,H2,I2,rx,a,ov,ex,g,q2⟩=>?_;subst ex;obtain rfl:u=Value.ref a:=rx;exact Wb hu I2 g ry fun s3 I3=>⟨.bl (!ov.isSome),H2,I3,rfl,q2⟩
theorem CW (hu:X.A.units+1 < cLine) (ho:PE X o td) (hi:PE X i ty) (hv:PE X value tv) (hs:swapsWith value (some (.Subscript o i pos')) pos.line X.env=pure false) :
  PS X (.Assign [.Subscript o i pos'] value pos) (abh td ty tv):=by
 intro pins s σ H D I h;refine wpAny_Assign_Subscript (dI (hv pins s σ H _ I h) fun r s1 ⟨v,H1,I1,rv,q1⟩=>dI (ho pins s1 σ H1 _ I1 q1) fun u s2 ⟨x,H2,I2,rx,q2⟩=>dI (hi pins s2 σ H2 _ I2 q2) fun iv s3 ⟨y,H3,I3,ry,a,H4,ex,g,q3⟩=>?_) hs;subst ex;obtain rfl:u=Value.ref a:=rx;exact OJ hu I3 g ry rv fun s4 I4=>⟨σ,H4,I4,q3⟩
end
theorem RG {P:Program}{w:World}{H:Hp} (h:Heap) (hb:sysModules < h.objs.size):fD P w H (h.push { cls:=.type "dict",data:=.dict #[] }) h.objs.size (.dK []):=
 ⟨Nat.zero_le _,beq_eq_false_iff_ne.mpr (Ne.symm (Nat.ne_of_lt hb)),[],.nil,Heap.DictOf.new h⟩
def YQ:TE:=fun _ H Q=>∀ p,H p=none→Q (.ref p) (upd H p (.dK []))
section
variable {X:Cx}{pos:Pos}
theorem RJ:PE X (.Dict [] [] pos) YQ:=fun pins s σ H Q I h=>
 wpAny_Dict_empty ⟨.ref s.heap.objs.size,_,I.laid (a:=s.heap.objs.size) (o:=.dK []) (t':=s.toks) (fun _ _ q=>Heap.get?_push_of_some _ q) (Nat.le_refl _) (RG s.heap I.big),rfl,h _ (I.hok.fresh (Nat.le_refl _))⟩
end
def mF (kvs more:List (Key×V)):List (Key×V):=more.foldl (fun acc kv=>putK acc kv.1 kv.2) kvs
theorem KV.merge:∀ {more:List (Key×V)}{rs:List (Key×Value)}{kvs:List (Key×V)}{vs:List (Key×Value)},KV more rs→KV kvs vs→KV (mF kvs more) (merged vs rs):=by
 intro more rs kvs vs r;unfold KV at r
 induction r generalizing kvs vs with
 | nil=>intro q;exact q
 | @cons p q ps qs h t ih=>
  intro r0;have e:KV (putK kvs p.1 p.2) (stored vs q.1 q.2):=by
   have:=r0.put p.1 h.2;rw [←h.1];exact this
  exact ih e
theorem qZ:∀ (more kvs:List (Key×V)),(mF kvs more).length≤kvs.length+more.length
 | [],kvs=>by show kvs.length≤kvs.length+0;omega
 | p::r,kvs=>by
  have h1:=qZ r (putK kvs p.1 p.2);have h2:=jw kvs p.1 p.2;show (mF (putK kvs p.1 p.2) r).length≤_;rw [List.length_cons];omega
structure M2 (X:Cx) (o:Expr) (m:Str) (apos:Pos) (e f:Expr) (cpos:Pos):Prop where
 base:attributeBase o m X.env (eval o X.env)=eval o X.env
 few:((backTo cpos (starEach [e,f] X.env)).all (fun x=>!x.1)&&(backToKw cpos (keywordEach [] X.env)).all (fun x=>x.1.isSome)
  && decide (([e,f]:List Expr).length+([]:List Keyword).length+(if ([]:List Keyword).isEmpty then 0 else 1) < 30))=true
 line:(apos.endLine==cpos.line)=true
 trees:backTo cpos (starEach [e,f] X.env)=[(false,eval e X.env),(false,eval f X.env)]
def IsD (H:Hp) (a:Addr):Prop:=(∃ kvs,Rd H a (.dK kvs))∨∃ kvs,Rd H a (.dT kvs)
theorem YS {X:Cx}{pins:List (Addr×Obj)}{σ:St}{H:Hp}{s:Shared}{a:Addr} (I:Inv X pins σ H s) (d:IsD H a) :
  s.TypeIs (.ref a) "dict"∧(∀ b,Value.ref a=.ref b→∃ ob,s.heap.get? b=some ob∧ob.dict=none)∧(a==sysModules)=false:=by
 rcases d with ⟨kvs,e⟩ | ⟨kvs,e⟩
 ·obtain ⟨_,hd,vs,_,dd⟩:=yg I.hok e;refine ⟨dd.typeIs,fun b q=>?_,hd⟩;cases q;obtain ⟨ob,_,_,h1,h2,_⟩:=dd;exact ⟨ob,h1,h2.2.1⟩
 ·obtain ⟨_,hd,xs,_,dd⟩:=yh I.hok e;refine ⟨dd.typeIs,fun b q=>?_,hd⟩;cases q;obtain ⟨ob,_,_,h1,h2,_⟩:=dd;exact ⟨ob,h1,h2.2.1⟩
section
variable {X:Cx}{pins:List (Addr×Obj)}{σ:St}{H:Hp}{s:Shared}{a:Addr}{y d:V}{u r:Value}{o:Option V}{A:Around}{E:Value→Shared→Prop}
theorem YT {Q:Value→Shared→Prop} (hu:A.units+1 < cLine) (I:Inv X pins σ H s) (g:qW H a y o) (ry:RelV y u) (rd:RelV d r) (h:∀ w' s',Inv X pins σ H s'→RelV (o.getD d) w'→Q w' s') :
  wpAny (model X.prog X.w) A (call (.builtin "dict.get") [.ref a,u,r]) Q E s:=by
 rcases g with ⟨kvs,k,e,ey,l⟩ | ⟨kvs,k,b,e,ey,eb,l⟩
 ·subst ey;obtain ⟨z,hd,vs,rel,dd⟩:=yg I.hok e;refine call_meetsIn PySem.F.slot_dict_get dd.typeIs PySem.F.entry_dict_get (PySem.F.args_dict_get_3 _ _ _) (meets_dict_get_default (cH X.prog X.w) a (yd ry) hd r) ⟨_,dd.mapOf,h _ _ (I.tok _) ?_⟩;rw [l];exact (rel.val k).getD rd
 ·subst ey;cases (show u=Value.ref b from ry);obtain ⟨z,hd,xs,rel,dd⟩:=yh I.hok e;refine call_meetsIn PySem.F.slot_dict_get dd.typeIs PySem.F.entry_dict_get (PySem.F.args_dict_get_3 _ _ _) (meetsH_dict_get_default (tupleKind (cH X.prog X.w)) a b hd r) ⟨tupleKind_room_in1 hu,k,xs,uP I.hok eb,dd,h _ _ (I.tok _) ?_⟩;rw [l];exact (rel.val k).getD rd
end
def YW (td ty tx:TE):TE:=fun σ H Q=>td σ H fun x H1=>∃ a,x=.ref a∧IsD H1 a∧ty σ H1 fun y H2=>tx σ H2 fun z H3=>∃ o,qW H3 a y o∧Q (o.getD z) H3
section
variable {X:Cx}{o e f:Expr}{apos cpos:Pos}{td ty tx:TE}
theorem RK (hu:X.A.units+1 < cLine) (ho:PE X o td) (he:PE X e ty) (hf:PE X f tx) (m:M2 X o "get" apos e f cpos):PE X (.Call (.Attribute o "get" apos) [e,f] [] cpos) (YW td ty tx):=by
 intro pins s σ H Q I h;refine wpAny_Call_method m.base m.few m.line PySem.F.plainAttrs_dict PySem.F.slot_dict_get PySem.F.type_dict_get (dI (ho pins s σ H _ I h) fun u s1 ⟨x,H1,I1,rx,a,ex,d,q1⟩=>?_);subst ex;obtain rfl:u=Value.ref a:=rx;obtain ⟨t1,t2,_⟩:=YS I1 d;refine ⟨t1,t2,?_⟩;rw [m.trees];refine Calls.callWith_builtin rfl (Calls.evalArgs_plain (Calls.spliced_cons (dI (he pins s1 σ H1 _ I1 q1) fun iv s2 ⟨y,H2,I2,ry,q2⟩=>
  Calls.spliced_cons (dI (hf pins s2 σ H2 _ I2 q2) fun fv s3 ⟨z,H3,I3,rz,ov,g,q3⟩=>Calls.spliced_nil ?_))))
 exact YT hu I3 g ry rz fun w' s4 I4 Rr=>⟨_,H3,I4,Rr,q3⟩
end
end L2
namespace L2
open PySem PySem.Spec PyProof.Rows
theorem yj:typeLookup (.type "list") "keys"=pure none:=am_miss_of_fast (by first | decide +kernel | rfl)
theorem Fe:entryFor table "dict.update.loop"=some Builtin.«dict.update.loop»:=entryFor_of_tree (by kernel_rfl)
theorem pR:plainId "dict.update.loop"=true:=by decide +kernel
section
variable {prog:Program}{w:World}{A:Around}{E:Value→Shared→Prop}
theorem O2 {s:Shared}{a:Addr}{o:Obj}{xs:Array Value}{k:Nat}{Q:Option Value→Shared→Prop} (hx:s.heap.get? a=some o) (hc:o.cls=.type "list") (hdat:o.data=.seq xs k) (hd:o.dict=none) (hA:A.handled=none)
  (h:∀ h' tk,(∀ b ob,s.heap.get? b=some ob→h'.get? b=some ob)→Q none { s with heap:=h',toks:=tk }):wpAny (model prog w) A (getAttr? (.ref a) "keys") Q E s:=by
 obtain ⟨c,dct,dat,sl⟩:=o;simp only at hc hdat hd;subst hc hdat hd;obtain ⟨hp,g,d,tk,os⟩:=s;have hT:∀ tk',(⟨hp,g,d,tk',os⟩:Shared).TypeIs (.ref a) "list":=fun _=>⟨_,hx,rfl⟩;have hmiss:=yj;have hname:(["__module__","__name__","__qualname__","__doc__","__annotations__"]:List Str).contains "keys"=false:=by decide +kernel
 have hsz:("keys":Str).length+100≤sizeLine:=by first | size_fits | decide +kernel
 have f1:=sub_AttributeError;have f3:=PySem.F.slot_list_getattribute.lookup;have f4:=PySem.F.slot_list_getattribute.bind (.ref a);have f5:=am_list_getattr_none;unfold getAttr? getAttrBy? getAttrBy
 repeat (any_goals (first | assumption | exact hT _ | ((with_reducible show wpAny _ _ (call (Value.builtin "list.__getattribute__") _ _) _ _ _);refine call_meets PySem.F.slot_list_getattribute (hT _) am_entry_list_getattribute (PySem.F.args_list_getattribute_2 _ _) (meets_getattribute_miss_list a xs k sl "keys" _ hmiss hname hsz) ⟨hx,hA,fun h' tk' e hx'=>?_⟩) | wp_step))
 obtain ⟨t',u',he⟩:=hx'.there;show wpAny _ _ (getattributeRaised _ _ _ _ _ _ _) _ _ _;unfold getattributeRaised
 repeat (any_goals (first | assumption | wp_step))
 all_goals first | exact h _ _ hx'.keeps | (dsimp only;repeat (any_goals (first | assumption | exact h _ _ hx'.keeps | wp_step)))
theorem Fg {R:Result→Shared→Prop}{S I l:Addr}{items:Array Value}{res:Value} (hh:A.handled=none) (hlI:l≠I) (hSI:S≠I) (hSl:S≠l) :
  ∀ (rest:List (Key×Value)) (i:Nat) (acc:List (Key×Value)) (ix:Int) (t:Tok) (s:Shared),items.size=i+rest.length→acc.length+rest.length≤sizeLine →
   (∀ (j:Nat) (q:Key×Value),rest[j]?=some q→∃ (b:Addr) (u:Value),items[i+j]?=some (.ref b)∧b≠S∧b≠I∧IsTup s.heap b #[u,q.2]∧sV q.1 u=true) →
   s.heap.IsListIter I l i→s.heap.IsList l items→s.heap.DictOf (cH prog w) S acc →
   (∀ h' tk,h'.DictOf (cH prog w) S (merged acc rest)→(∀ b o,b≠S→b≠I→s.heap.get? b=some o→h'.get? b=some o)→R (.ok (.ret res)) { s with heap:=h',toks:=tk }) →
   codeAny (model prog w) A (.builtin "dict.update.loop" ⟨[.ref S,.ref I,.int ix t,res],[]⟩) R s
 | [],i,acc,ix,t,s,hsz,hln,ht,hit,hl,hm,hR=>by
  refine codeAny_builtin Fe ?_;rw [Around.under_plainId pR _];show wpAny _ A.in1 (pyNext (.ref I) >>= _) _ _ s;refine wpAny_bind (wpAny_pyNext_list_end (A:=A.in1) hh hit hl (by first | exact Array.getElem?_eq_none (Nat.le_of_eq hsz) | (simp at hsz;simp;omega)) fun h' he=>?_);show wpAny _ A.in1 (Builtin.Dict.addKeywords S [] >>= _) _ _ _;refine wpAny_bind (wpAny_pure (wpAny_pure ?_));exact hR h' s.toks (hm.extBut he hSI) fun b o _ hb e=>he b o hb e
 | q::rest,i,acc,ix,t,s,hsz,hln,ht,hit,hl,hm,hR=>by
  obtain ⟨b,u,hb,hbS,hbI,htup,hk⟩:=ht 0 q rfl;rw [List.length_cons] at hsz hln;refine codeAny_builtin Fe ?_;rw [Around.under_plainId pR _];show wpAny _ A.in1 (pyNext (.ref I) >>= _) _ _ s;refine wpAny_bind (wpAny_pyNext_list_item (x:=.ref b) hit hl (by simpa using hb) fun h1 hit1 hs1=>?_);have ht1:IsTup h1 b #[u,q.2]:=htup.extBut hs1.extBut hbI;have hl1:h1.IsList l items:=hl.extBut hs1.extBut hlI;have hm1:h1.DictOf (cH prog w) S acc:=hm.extBut hs1.extBut hSI;obtain ⟨o,ho,hc,n,hd⟩:=id ht1;show wpAny _ A.in1 (holding [Value.ref b] _ >>= _) _ _ _;refine wpAny_bind (wpAny_holding ?_);refine wpAny_bind (wpAny_tryCatch ?_);unfold Builtin.Dict.pairItems;refine wpAny_bind (wpAny_typeOf (T:="tuple") ⟨o,ho,hc⟩ ?_);rw [if_pos (by first | decide | rfl | simp)];refine wpAny_bind (wpAny_seqItems ho hd (wpAny_pure ?_));show wpAny _ A.in1 (holding [u,q.2] (dictSet S u q.2)) _ _ _;refine wpAny_holding (wpAny_dictSet_pairs (knd:=cH prog w) (k:=q.1) hk hm1 (fun h2 hm2 hs2=>?_) (by omega));refine wpAny_pure ⟨plainId_quiet pR _,Fg (items:=items) hh hlI hSI hSl rest (i+1) (stored acc q.1 q.2) (ix+1) 0 _ (show items.size=i+1+rest.length by omega) ?_ (fun j q' e=>?_) ?_ ?_ hm2 fun h' tk hd' k=>?_⟩
  ·have z:=stored_length_le acc q.1 q.2;omega
  ·obtain ⟨b',u',hb',abk,abl,abm,hk'⟩:=ht (j+1) q' (by simpa using e);refine ⟨b',u',?_,abk,abl,(abm.extBut hs1.extBut abl).extBut hs2.extBut abk,hk'⟩;rw [show i+1+j=i+(j+1) by omega];exact hb'
  ·exact hit1.at fun o' e=>hs2.extBut I o' (Ne.symm hSI) e
  ·exact hl1.extBut hs2.extBut (Ne.symm hSl)
  ·exact hR h' tk hd' fun c oc h3 h4 e=>k c oc h3 h4 (hs2.extBut c oc h3 (hs1.extBut c oc h4 e))
theorem wg {s:Shared}{l:Addr}{ol:Obj}{items:Array Value}{n:Nat}{prs:List (Key×Value)}{Q:Value→Shared→Prop} (hh:A.handled=none) (hl:s.heap.get? l=some ol) (hc:ol.cls=.type "list") (hd:ol.dict=none)
  (hdat:ol.data=.seq items n) (hsz:items.size=prs.length) (hln:prs.length≤sizeLine)
  (ht:∀ (j:Nat) (q:Key×Value),prs[j]?=some q→∃ (b:Addr) (u:Value),items[j]?=some (.ref b)∧IsTup s.heap b #[u,q.2]∧sV q.1 u=true)
  (h:∀ h' tk,h'.DictOf (cH prog w) s.heap.objs.size (merged [] prs)→(∀ b o,s.heap.get? b=some o→h'.get? b=some o)→Q (.ref s.heap.objs.size) { s with heap:=h',toks:=tk }) :
  wpAny (model prog w) A (call (.type "dict") [.ref l]) Q E s:=by
 refine callType_codes (Q₁:=fun obj s₁=>obj=.ref s.heap.objs.size∧s₁={ s with heap:=s.heap.push { cls:=.type "dict",data:=.dict #[] } }) PySem.F.kt_called_dict (PySem.F.kt_typeCall_dict_1 _) PySem.F.entry_dict_init (kt_code_dict_new _ ⟨rfl,rfl⟩) ?_;rintro obj s₁ ⟨rfl,rfl⟩;have hnew:(s.heap.push { cls:=.type "dict",data:=.dict #[] }).DictOf (cH prog w) s.heap.objs.size []:=Heap.DictOf.new s.heap;have k0:∀ b o,s.heap.get? b=some o→(s.heap.push { cls:=.type "dict",data:=.dict #[] }).get? b=some o:=fun b o e=>Heap.get?_push_of_some _ e;refine ⟨hnew.typeIs,PySem.F.args_dict_init_2 _ _,?_⟩;unfold Builtin.«dict.__init__»;refine wpAny_bind ?_;unfold Builtin.Dict.selfAndRest;refine wpAny_bind (wpAny_notOrdered_dict hnew.typeIs ?_);show wpAny _ _ (pure (s.heap.objs.size,[Value.ref l])) _ _ _;refine wpAny_pure ?_;show wpAny _ _ (Builtin.Dict.updateFrom "dict.__init__" s.heap.objs.size (.ref l) [] .none) _ _ _;unfold Builtin.Dict.updateFrom;refine wpAny_bind (wpAny_typeOf (T:="list") ⟨ol,k0 _ _ hl,hc⟩ ?_);rw [if_pos (by first | decide | rfl | simp)];refine wpAny_bind (O2 (k0 _ _ hl) hc hdat hd hh fun h1 tk1 hk1=>?_);rw [if_pos (show (none:Option Value).isNone=true from rfl)];refine wpAny_bind (wpAny_rule ?_);have hl1:h1.IsList l items:=⟨ol,hk1 _ _ (k0 _ _ hl),hc,n,hdat⟩;have hS1:s.heap.objs.size < h1.objs.size:=by
  have e:(s.heap.push { cls:=.type "dict",data:=.dict #[] }).get? s.heap.objs.size=some { cls:=.type "dict",data:=.dict #[] }:=Heap.get?_push_size _ rfl;exact Heap.lt_size (hk1 _ _ e)
 refine wpAny_bind (wpAny_pyIter_list hl1 ?_);have k2:∀ b o,h1.get? b=some o→(h1.push { cls:=.type "list_iterator",data:=.fields #[.ref l,.int 0 0] }).get? b=some o:=fun b o e=>Heap.get?_push_of_some _ e;have hlt:l < s.heap.objs.size:=Heap.lt_size hl;have key:=Fg (prog:=prog) (w:=w) (A:=A.in1) (R:=wants (fun r s₂=>r=.none∧Q (.ref s.heap.objs.size) s₂) E) (S:=s.heap.objs.size) (I:=h1.objs.size) (l:=l) (items:=items) (res:=Value.none) hh
  (Nat.ne_of_lt (Nat.lt_trans hlt hS1)) (Nat.ne_of_lt hS1) (Nat.ne_of_gt hlt) prs 0 [] 0 0
  { s with heap:=h1.push { cls:=.type "list_iterator",data:=.fields #[.ref l,.int 0 0] },toks:=tk1 } (by rw [hsz,Nat.zero_add]) (by rw [List.length_nil,Nat.zero_add];exact hln)
  (fun j q e=>by
   obtain ⟨b,u,e1,e2,e3⟩:=ht j q e;have hb:b < s.heap.objs.size:=e2.lt;exact ⟨b,u,by rw [Nat.zero_add];exact e1,Nat.ne_of_lt hb,Nat.ne_of_lt (Nat.lt_trans hb hS1),e2.keeps fun c o z=>k2 _ _ (hk1 _ _ (k0 _ _ z)),e3⟩)
  ⟨_,Heap.get?_push_size _ rfl,rfl,rfl⟩ (hl1.at fun o e=>k2 _ _ e) ((hnew.at fun o e=>hk1 _ _ e).at fun o e=>k2 _ _ e)
  (fun h' tk hd' k=>⟨rfl,h h' tk hd' fun b o e=>k b o (Nat.ne_of_lt (Heap.lt_size e)) (Nat.ne_of_lt (Nat.lt_trans (Heap.lt_size e) hS1)) (k2 _ _ (hk1 _ _ (k0 _ _ e)))⟩)
 first
  | exact wpAny_pure ⟨plainId_quiet pR _,key⟩
  | exact wpAny_bind (wpAny_pure (wpAny_pure ⟨plainId_quiet pR _,key⟩))
end
section
variable {X:Cx}
theorem Fi {pins:List (Addr×Obj)}{σ:St}{H:Hp}{s:Shared} (I:Inv X pins σ H s):∀ {ps:List Addr}{kvs:List (Key×V)},Paired (fun p kv=>tD X.K H p [kV kv.1,kv.2]) ps kvs →
  ∃ prs:List (Key×Value),KV kvs prs∧prs.length=ps.length∧∀ (j:Nat) (q:Key×Value),prs[j]?=some q→∃ (b:Addr) (u:Value),ps[j]?=some b∧IsTup s.heap b #[u,q.2]∧sV q.1 u=true
 | _,_,.nil=>⟨[],.nil,rfl,fun j q e=>by simp at e⟩
 | _,_,.cons (a:=p) (b:=kv) h t=>by
  obtain ⟨prs,r,hl,hp⟩:=Fi I t;obtain ⟨its,rv,ht,_⟩:=I.tuple h;obtain ⟨u,y,ei,ru,ry⟩:=vals2 rv;subst ei;refine ⟨(kv.1,y)::prs,.cons ⟨rfl,ry⟩ r,by rw [List.length_cons,List.length_cons,hl],fun j q e=>?_⟩;cases j with
  | zero=>
   have e':(kv.1,y)=q:=Option.some.inj e;subst e';exact ⟨p,u,rfl,ht,yd (P:=X.prog) (w:=X.w) ru⟩
  | succ j=>
   obtain ⟨b,u',e1,e2,e3⟩:=hp j q (by simpa using e);exact ⟨b,u',by simpa using e1,e2,e3⟩
theorem Mj:∀ {ps:List Addr}{us:List Value},Vals (ps.map V.ref) us→us=ps.map Value.ref
 | [],us,r=>by
  rw [List.map_nil] at r;cases r;rfl
 | p::ps,us,r=>by
  rw [List.map_cons] at r;cases r with
  | cons h t=>
   cases h;rw [List.map_cons,←Mj t]
theorem Jx (hcalm:X.calm=true):pH X (.type "dict") (fun xs H Q=>∃ (a:Addr) (ps:List Addr) (kvs:List (Key×V)),xs=[.ref a]∧bO X.K H a (ps.map V.ref)∧Paired (fun p kv=>tD X.K H p [kV kv.1,kv.2]) ps kvs ∧
  ∀ p,H p=none→Q (.ref p) (upd H p (.dK (mF [] kvs)))):=by
 intro pins s σ H xs us Q I r q;obtain ⟨a,ps,kvs,ex,hq,hp,q⟩:=q;subst ex;obtain ⟨u,eu,rx⟩:=vals1 r;subst eu;cases rx;obtain ⟨its,rv,pl,hz⟩:=I.list hq;have ei:=Mj rv;subst ei;rw [List.length_map] at hz;obtain ⟨prs,rel,hl,hpr⟩:=Fi I hp;obtain ⟨o,n,ho,hc,hd,hdat⟩:=pl;refine wg (prs:=prs) (I.ok.hd hcalm) ho hc hd hdat (by simp [hl]) (by rw [hl];exact hz) (fun j q' e=>?_) fun h' tk hd' k=>?_
 ·obtain ⟨b,u,e1,e2,e3⟩:=hpr j q' e;exact ⟨b,u,by simp [e1],e2,e3⟩
 ·have hm:(s.heap.objs.size==sysModules)=false:=beq_eq_false_iff_ne.mpr (Nat.ne_of_gt I.big);have hlen:(mF [] kvs).length≤sizeLine:=by
   refine Nat.le_trans (qZ kvs []) ?_;rw [List.length_nil,Nat.zero_add,rel.length,hl];exact hz
  exact ⟨.ref s.heap.objs.size,upd H s.heap.objs.size (.dK (mF [] kvs)),I.laid (t':=tk) k (Nat.le_refl _) (show fD X.prog X.w _ _ _ (.dK (mF [] kvs)) from ⟨hlen,hm,merged [] prs,KV.merge rel .nil,hd'⟩),rfl,q _ (I.hok.fresh (Nat.le_refl _))⟩
end
end L2
namespace L2
open PySem PySem.Spec PyProof.Rows
section
variable {X:Cx}{pins:List (Addr×Obj)}{σ:St}{H:Hp}{s:Shared}{h':Heap}
theorem Inv.O4 {t':Nat}{ch:List Addr}{T:Addr}{ob:HO} (I:Inv X pins σ H s) (k:∀ b o,b∉ch→s.heap.get? b=some o→h'.get? b=some o) (hf:∀ b∈ch,xJ X pins H b) (hT:s.heap.objs.size≤T)
  (new:fD X.prog X.w (upd H T ob) h' T ob):Inv X pins σ (upd H T ob) { s with heap:=h',toks:=t' }:=by
 have hn:H T=none:=I.hok.fresh hT;have nit:∀ b u,H b=some u→b∉ch:=fun b u e z=>by
  have q:=(hf b z).1;rw [q] at e;cases e
 refine I.step (g':=s.gens) (d':=s.drawn) (ch:=ch) (fun b hb=>⟨(hf b hb).2.2.2.1,(hf b hb).2.1,(hf b hb).2.2.2.2.1,(hf b hb).2.2.2.2.2⟩) (fun b o _ _ hc e _=>k b o hc e) (fun b o _ _ hc e _=>⟨o.slots,k b o hc e⟩)
  (fun b o _ e n=>?_) (fun b o hc e=>⟨o,k b o hc e⟩) (fun b xs e=>?_) (fun b o u e=>?_) (fun b ps e=>⟨#[],?_⟩) (fun m hm=>?_) (fun b u e=>?_) I.bare
 ·rw [ak (Nat.ne_of_lt (Nat.lt_of_lt_of_le (Heap.lt_size e) hT))];exact n
 ·rw [ak (aB e hn)];exact e
 ·rw [ak (aB e hn)];exact e
 ·rw [ak (aB e hn),e];simp
 ·obtain ⟨o,es,ep,ho,r⟩:=hm;exact ⟨o,es,ep,k _ o (fun z=>(hf _ z).2.1 rfl) ho,r⟩
 ·by_cases hb:b=T
  ·subst hb;rw [ao] at e;cases e;exact new
  ·rw [ak hb] at e;refine (I.hok b u e).stay (fun c v hc q=>k c v ?_ q) (fun c q=>by rw [ak (aB q hn)];exact q) fun c xs q=>by rw [ak (aB q hn)];exact q
   rcases hc with z | z
   ·rw [z];exact nit b u e
   ·exact nit c _ z
end
section
variable {X:Cx}
theorem RM {tg:Expr}{pins:List (Addr×Obj)}{σ:St}{H:Hp}{s:Shared}{R:It→Hp→Prop}{J:It}{tn:Nat→Heap→Prop}{tk:Nat} (I:Inv X pins σ H s) (o:Obj)
  (T:Turn X.prog X.w X.K tg J [s.heap.objs.size] s.heap.objs.size tn) (st:tn 0 (s.heap.push o)) (q:R J H):PIE X pins σ tg R (.ref s.heap.objs.size) { s with heap:=s.heap.push o,toks:=tk }:=by
 refine ⟨s.heap.objs.size,[s.heap.objs.size],tn,J,H,rfl,I.kept fun b ob e=>Heap.get?_push_of_some _ e,T,st,fun b hb=>?_,q⟩;have e:b=s.heap.objs.size:=by simpa using hb
 subst e;exact I.Oo (Nat.le_refl _) (I.hok.fresh (Nat.le_refl _))
end
def Its (x:Str):It:=⟨fun i _=>i < x.cps.size,fun i H v H'=>H'=H∧∃ c,x.cps[i]?=some c∧v=.str ⟨#[c]⟩,fun i _=>x.cps.size≤i⟩
theorem Fj {P:Program}{w:World}{K:PySem.W.Frag}{tg:Expr} (it:Addr) (x:Str) (t:Tok) (ty:String) (hty:ty="str_ascii_iterator"∨ty="str_iterator") :
  Turn P w K tg (Its x) [it] it (fun i h=>h.IsStrIter it ty x t i) where
 mem:=by simp
 obj:=fun i h st b hb=>by
  have e:b=it:=by simpa using hb
  subst e;obtain ⟨o,e,c,d⟩:=st;exact ⟨o,e,fun v z=>by rw [d] at z;cases z⟩
 keep:=fun i h h' st k=>let ⟨o,ho,r⟩:=st;⟨o,k it (by simp) o ho,r⟩
 item:=by
  intro X hP hw hK hc i pins s σ H E I hf st hg;subst hP hw hK;obtain ⟨f0,f1,f2,f3,f4,f5⟩:=hf it (by simp);have W:Walks X.prog X.w X.A it [it] [it] x.cps.size (SignAt x) (fun i h=>h.IsStrIter it ty x t i):=by
   rcases hty with e | e
   ·rw [e];exact Walks.strAscii (I.ok.hd hc) it x t
   ·rw [e];exact Walks.strWide (I.ok.hd hc) it x t
  have hno:["enumerate","zip","dict_itemiterator","dict_reverseitemiterator","odict_iterator","itertools.zip_longest","itertools.pairwise"].contains ty=false:=by
   rcases hty with e | e
   ·rw [e];decide
   ·rw [e];decide
  refine W.item i s _ _ hg st fun v h' tk hv st' kk=>?_;obtain ⟨c,u,hcx,rfl⟩:=hv;have I1:Inv X pins σ H { s with heap:=h',toks:=tk }:=I.turned (fun b o hb e=>kk b o (by simpa using hb) e) f0 f1 f3 f4 f5;obtain ⟨oi,e,cc,dd⟩:=id st';exact ⟨_,rfl,LC (s:={ s with heap:=h',toks:=tk }) e cc dd hno ⟨.str ⟨#[c]⟩,H,I1,⟨u,rfl⟩,⟨rfl,c,hcx,rfl⟩,st',fun b hb=>(hf b hb).1⟩⟩
 done:=by
  intro X hP hw hK hc i pins s σ H E I hf st hg;subst hP hw hK;obtain ⟨f0,f1,f2,f3,f4,f5⟩:=hf it (by simp);have hx:x.cps[i]?=none:=Array.getElem?_eq_none hg;rcases hty with e | e
  ·rw [e] at st;exact wpAny_pyNext_ascii_end (I.ok.hd hc) st hx fun h' eb=>⟨rfl,I.turned (t':=s.toks) (fun b o hb e=>eb b o hb e) f0 f1 f3 f4 f5⟩
  ·rw [e] at st;exact wpAny_pyNext_wide_end (I.ok.hd hc) st hx fun h' eb=>⟨rfl,I.turned (t':=s.toks) (fun b o hb e=>eb b o hb e) f0 f1 f3 f4 f5⟩
 self:=fun A i s Q E st h=>by
  rcases hty with e | e
  ·rw [e] at st;exact wpAny_pyIter_striter_ascii st h
  ·rw [e] at st;exact wpAny_pyIter_striter_wide st h
def adM (te:TE):TI:=fun σ H R=>te σ H fun v H1=>∃ x,v=.str x∧R (Its x) H1
theorem YX {X:Cx}{tg e:Expr}{te:TE} (he:PE X e te):PI X tg e (adM te):=by
 intro pins s σ H R I h;refine dI (he pins s σ H _ I h) fun v s1 ⟨y,H1,I1,r1,x,ex,q⟩=>?_;subst ex;obtain ⟨t,rfl⟩:=r1;cases ha:x.cps.all (· < 128)
 ·exact wpAny_pyIter_wide ha (RM (tk:=s1.toks) I1 _ (Fj _ x t "str_iterator" (.inr rfl)) ⟨_,Heap.get?_push_size _ rfl,rfl,rfl⟩ q)
 ·exact wpAny_pyIter_ascii ha (RM (tk:=s1.toks) I1 _ (Fj _ x t "str_ascii_iterator" (.inl rfl)) ⟨_,Heap.get?_push_size _ rfl,rfl,rfl⟩ q)
end L2
section
namespace adN
open PySem PyProof.Rows
end adN
end
section
namespace TL
open PySem PySem.Builtin PySem.Builtin.Str PySem.StrLaws
abbrev tl (x:Str):List Nat:=x.cps.toList
theorem YZ {x y:Str} (h:tl x=tl y):x=y:=Str.ext' (Array.toList_inj.mp h)
theorem Bm (x y:Str):tl (x++y)=tl x++tl y:=by
 show (x++y).cps.toList=_;rw [Str.cps_append,Array.toList_append]
def Fo (S:List Nat):List (List Nat)→List Nat
 | []=>[]
 | [p]=>p
 | p::q::r=>p++(S++Fo S (q::r))
theorem Ml (y:Str):∀ parts:List Str,tl (Str.join y parts)=Fo (tl y) (parts.map tl)
 | []=>rfl
 | [_]=>rfl
 | x::z::r=>by
  show tl (x++y++Str.join y (z::r))=tl x++(tl y++Fo (tl y) ((z::r).map tl));rw [Bm,Bm,Ml y (z::r),List.append_assoc]
theorem join_eq (y:Str) (parts:List Str):Txt.join y parts=Str.join y parts:=glued_eq_join y parts
end TL
end
namespace L2
open PySem PySem.Spec PyProof.Rows
theorem nZ:∀ {ys:List Str}{us:List Value},Vals (ys.map V.str) us→StrsAre us ys
 | [],_,.nil=>.nil
 | y::ys,_,.cons r t=>by
  obtain ⟨k,rfl⟩:=r;exact .cons y k (nZ t)
section
variable {X:Cx}
theorem Wg:MtR X "str.join" (fun x xs H Q=>∃ a p,∃ ys:List Str,x=.str a∧xs=[.ref p]∧(bO X.K H p (ys.map V.str)∨tD X.K H p (ys.map V.str)) ∧
  (ys.map (·.length)).sum+ys.length*a.length≤16777216∧Q (.str (Txt.join a ys)) H):=by
 intro pins s σ H x xs v us Q I rx rs h;obtain ⟨a,p,ys,rfl,rfl,hp,hz,h⟩:=h;obtain ⟨t,rfl⟩:=rx;cases rs with
 | cons r1 rs=>
  cases rs;cases r1;rcases hp with hp | hp
  ·obtain ⟨its,r,⟨o,n,ho,hc,_,hd⟩,_⟩:=I.list hp;exact PyProof.Rows.join_list (items:=its.toArray) ⟨o,ho,hc,n,hd⟩ (by rw [List.toList_toArray];exact nZ r) hz fun t' k=>⟨.str _,H,I.tok k,⟨t',rfl⟩,h⟩
  ·obtain ⟨its,r,ht,_⟩:=I.tuple hp;exact PyProof.Rows.join_tuple (items:=its.toArray) ht (by rw [List.toList_toArray];exact nZ r) hz fun t' k=>⟨.str _,H,I.tok k,⟨t',rfl⟩,h⟩
theorem jU:pH X (.type "int") (fun xs H Q=>∃ a n,xs=[.str a]∧PySem.intText? a=some n∧a.length≤640∧Q (.int n) H):=by
 intro pins s σ H xs us Q I rs h;obtain ⟨a,n,rfl,hn,hl,h⟩:=h;cases rs with
 | cons r1 rs=>
  cases rs;obtain ⟨t,rfl⟩:=r1;exact PySem.W.KIN.call_text hn hl ⟨.int n,H,I.tok _,⟨_,rfl⟩,h⟩
end
section
variable {X:Cx}{o e:Expr}{to te:TE}
def tM1 (r:V→List V→Hp→VK→Prop) (to te:TE):TE:=fun σ H Q=>to σ H fun x H1=>(∃ a,x=.str a)∧te σ H1 fun y H2=>r x [y] H2 Q
theorem abn {id:String}{name:Str}{apos pos:Pos}{r:V→List V→Hp→VK→Prop} (slot:Slot "str" name id) (ty:typeOf (.builtin id)=pure (.type "method_descriptor")) (rule:MtR X id r) (ho:PE X o to) (he:PE X e te)
  (hs:starEach [e] X.env=[(false,eval e X.env)]:=by rfl) (hbase:attributeBase o name X.env (eval o X.env)=eval o X.env:=by rfl) (hline:(apos.endLine==pos.line)=true:=by rfl) :
  PE X (.Call (.Attribute o name apos) [e] [] pos) (tM1 r to te):=by
 intro pins s σ H Q I h;refine PySem.Call_method1 hbase hs hline (dI (ho pins s σ H _ I h) fun v s1 ⟨x,H1,I1,r1,q1⟩=>?_);obtain ⟨⟨a,rfl⟩,q1⟩:=q1;obtain ⟨t,rfl⟩:=_root_.id r1;refine ⟨"str",_,F.plainAttrs_str,slot,ty,typeIs_str _ _ _,(fun _ e=>nomatch e),Calls.callWith_builtin rfl (Calls.evalArgs_plain (Calls.spliced_cons ?_))⟩;exact dI (he pins s1 σ H1 _ I1 q1) fun u s2 ⟨y,H2,I2,r2,q2⟩=>Calls.spliced_nil (rule pins s2 σ H2 _ [y] _ [u] Q I2 r1 (.cons r2 .nil) q2)
theorem Wh {apos pos:Pos} (ho:PE X o to) (he:PE X e te) (hs:starEach [e] X.env=[(false,eval e X.env)]:=by rfl) (hbase:attributeBase o "join" X.env (eval o X.env)=eval o X.env:=by rfl) (hline:(apos.endLine==pos.line)=true:=by rfl) :
  PE X (.Call (.Attribute o "join" apos) [e] [] pos) (tM1 (fun x xs H Q=>∃ a p,∃ ys:List Str,x=.str a∧xs=[.ref p]∧(bO X.K H p (ys.map V.str)∨tD X.K H p (ys.map V.str)) ∧
   (ys.map (·.length)).sum+ys.length*a.length≤16777216∧Q (.str (Txt.join a ys)) H) to te):=
 abn F.slot_str_join F.type_str_join Wg ho he hs hbase hline
end
end L2
namespace L2
open PySem PySem.Spec PyProof.Rows
section
variable {X:Cx}
theorem kI:wJ X (compareOp .In) (fun x y H Q=>∃ (c:Nat) (z:Str),x=.str ⟨#[c]⟩∧y=.str z∧Q (.bl (decide (c∈z.cps.toList))) H):=by
 intro pins s σ H x y v u Q I rx ry h;obtain ⟨c,z,rfl,rfl,q⟩:=h;obtain ⟨t,rfl⟩:=rx;obtain ⟨t',rfl⟩:=ry;exact PyProof.Rows.in_str (bT I q (PySem.StrLaws.found_one z c).symm)
theorem Ah:wJ X (compareOp .NotIn) (fun x y H Q=>∃ (c:Nat) (z:Str),x=.str ⟨#[c]⟩∧y=.str z∧Q (.bl (!decide (c∈z.cps.toList))) H):=by
 intro pins s σ H x y v u Q I rx ry h;obtain ⟨c,z,rfl,rfl,q⟩:=h;obtain ⟨t,rfl⟩:=rx;obtain ⟨t',rfl⟩:=ry;exact PyProof.Rows.notIn_str (bT I q (congrArg Bool.not (PySem.StrLaws.found_one z c).symm))
end
theorem IsPart.raw {v:Value}{o:Option Int} (p:IsPart v o):∃ l:Option (Int×Tok),v=partValue l∧l.map (·.1)=o:=by
 cases p with
 | none=>exact ⟨none,rfl,rfl⟩
 | int i t=>exact ⟨some (i,t),rfl,rfl⟩
def Fp (n d:Nat):Option Int→Int
 | none=>(d:Int)
 | some i=>max 0 (min (if i < 0 then i+(n:Int) else i) (n:Int))
theorem Fq (n d:Nat) (o:Option Int):Fp n d o=((HT.j4 n d o:Nat):Int):=by
 cases o with
 | none=>rfl
 | some v=>
  show max (0:Int) (min (if v < 0 then v+(n:Int) else v) (n:Int))=(((if v < 0 then (v+(n:Int)).toNat else min v.toNat n):Nat):Int);by_cases hv:v < 0
  ·simp only [if_pos hv];omega
  ·simp only [if_neg hv];omega
theorem O5 (a b:Option Int) (n:Nat):Builtin.Str.strSliceIndices a b 1 n=sliceRange (Fp n 0 a) (Fp n n b) 1:=by
 have h1:((1:Int) > 0)=True:=by simp
 cases a <;> cases b <;> first
  | rfl
  | (simp only [Builtin.Str.strSliceIndices,Fp,h1,if_true];rfl)
  | simp [Builtin.Str.strSliceIndices,Fp]
theorem adO (a b:Option Int) (n:Nat):Builtin.Str.strSliceIndices a b 1 n=(List.range (HT.j4 n n b-HT.j4 n 0 a)).map (fun k=>HT.j4 n 0 a+k):=by
 rw [O5,Fq,Fq];generalize HT.j4 n 0 a=p;generalize HT.j4 n n b=q;simp only [sliceRange,show ((1:Int) > 0)=True from by simp,if_true];by_cases hlt:(p:Int) < q
 ·have e3:(((q:Int)-p+1-1) / 1).toNat=q-p:=by first | omega | (simp;done) | (simp;omega)
  simp only [hlt,if_true,e3];refine List.map_congr_left fun k _=>?_;omega
 ·have:q-p=0:=by omega
  simp [hlt,this]
def O6 (z:Str) (lo hi:Option Int):Str:=
 ⟨((z.cps.toList.drop (HT.j4 z.length 0 lo)).take (HT.j4 z.length z.length hi-HT.j4 z.length 0 lo)).toArray⟩
theorem rm (z:Str) (lo hi:Option Int):PySem.StrLaws.sliceText z lo hi=O6 z lo hi:=by
 have h1:HT.j4 z.length 0 lo≤z.length:=HT.Rq _ _ (Nat.zero_le _) _;have h2:HT.j4 z.length z.length hi≤z.length:=HT.Rq _ _ (Nat.le_refl _) _;have hp:HT.j4 z.length 0 lo≤max (HT.j4 z.length 0 lo) (HT.j4 z.length z.length hi):=Nat.le_max_left _ _;have hq:max (HT.j4 z.length 0 lo) (HT.j4 z.length z.length hi)≤z.length:=Nat.max_le.mpr ⟨h1,h2⟩;have hd:max (HT.j4 z.length 0 lo) (HT.j4 z.length z.length hi)-HT.j4 z.length 0 lo=HT.j4 z.length z.length hi-HT.j4 z.length 0 lo:=by omega
 have e:Builtin.Str.strSliceIndices lo hi 1 z.length =
   Builtin.Str.strSliceIndices (some ((HT.j4 z.length 0 lo:Nat):Int)) (some ((max (HT.j4 z.length 0 lo) (HT.j4 z.length z.length hi):Nat):Int)) 1 z.length:=by
  rw [PySem.StrLaws.strSliceIndices_plain hp hq,hd,adO]
 have e2:PySem.StrLaws.sliceText z lo hi =
   PySem.StrLaws.sliceText z (some ((HT.j4 z.length 0 lo:Nat):Int)) (some ((max (HT.j4 z.length 0 lo) (HT.j4 z.length z.length hi):Nat):Int)):=by
  unfold PySem.StrLaws.sliceText;rw [e]
 rw [e2,PySem.StrLaws.sliceText_nat z hp hq,hd];rfl
theorem Ft (z:Str) (lo hi:Option Int):(O6 z lo hi).length≤z.length:=by
 show (((z.cps.toList.drop (HT.j4 z.length 0 lo)).take (HT.j4 z.length z.length hi-HT.j4 z.length 0 lo)).toArray).size≤z.cps.size;rw [List.size_toArray,List.length_take,List.length_drop,Array.length_toList];omega
def adP:V→Option Int→Option Int→Hp→VK→Prop:=fun x lo hi H Q=>∃ z,x=.str z∧z.length≤sizeLine∧Q (.str (O6 z lo hi)) H
theorem Y0 {X:Cx}:SlR X adP:=by
 intro pins s σ H x v vl vu lo hi sl Q I rx hs pl pu h;obtain ⟨z,rfl,hz,q⟩:=h;obtain ⟨t,rfl⟩:=rx;obtain ⟨os,hos,hcs,hds⟩:=hs;obtain ⟨l,rfl,rfl⟩:=IsPart.raw pl;obtain ⟨u,rfl,rfl⟩:=IsPart.raw pu;refine ⟨"str",_,F.slot_str_getitem.lookup,typeIs_str _ _ _,?_⟩;refine wpAny_getItem_str_slice (l:=l) (u:=u) (st:=none) ⟨os,hos,hcs,hds⟩ rfl ?_;have hl:(PySem.StrLaws.sliceText z (l.map (·.1)) (u.map (·.1))).length≤sizeLine:=by
  rw [rm];exact Nat.le_trans (Ft z _ _) hz
 rw [←rm] at q;unfold PySem.StrLaws.sliceText at q hl;show Made.post (if ((1:Int)==1&&(Builtin.Str.strSliceIndices (l.map (·.1)) (u.map (·.1)) 1 z.length).length==z.length)=true then Made.val (.str z t)
  else Made.str ⟨((Builtin.Str.strSliceIndices (l.map (·.1)) (u.map (·.1)) 1 z.length).filterMap (z.cps[·]?)).toArray⟩) (EP X pins σ Q) s
 by_cases c:((1:Int)==1&&(Builtin.Str.strSliceIndices (l.map (·.1)) (u.map (·.1)) 1 z.length).length==z.length)=true
 ·rw [if_pos c] at q ⊢;exact ⟨.str z,H,I,⟨t,rfl⟩,q⟩
 ·rw [if_neg c] at q hl ⊢;exact ⟨hl,.str _,H,I.tok _,⟨_,rfl⟩,q⟩
end L2
namespace Att
open PySem PySem.W PySem.Calls PyProof.Rows
theorem wj {P:Params}{h:Heap}:∀ (ns:List Int) (vs:List Value),WellAll P h vs (ns.map WData.int)→IntsAre vs ns:=by
 intro ns
 induction ns with
 | nil=>
  intro vs w;rw [List.map_nil] at w;cases w;exact .nil
 | cons n ns ih=>
  intro vs w;rw [List.map_cons] at w;cases w with
  | cons a b=>
   cases a;exact .cons _ _ (ih _ b)
end Att
namespace L2
open PySem PySem.Spec PyProof.Rows
theorem nj:∀ {vs:List Value}{ns:List Int},IntsAre vs ns→Vals (ns.map V.int) vs
 | _,_,.nil=>.nil
 | _,_,.cons n t h=>.cons ⟨t,rfl⟩ (nj h)
end L2
namespace L2
open PySem PySem.Spec PyProof.Rows
abbrev KOf {K:PySem.W.Frag}{h:Heap} (_:K.In h):PySem.W.Frag:=K
end L2
namespace L2
open PySem PySem.Spec PyProof.Rows
def inClass (s:Stmt) (j:Nat):Stmt:=match s with
 | .ClassDef _ _ _ body _ _ _ _ _ _ _=>body.getD j (.Pass ⟨0,0,0,0⟩)
 | _=>.Pass ⟨0,0,0,0⟩
def dO (s:Stmt):Arguments:=match s with
 | .FunctionDef _ a _ _ _ _ _ _ _ _=>a
 | _=>{ posonlyargs:=[],args:=[],vararg:=none,kwonlyargs:=[],kw_defaults:=[],kwarg:=none,defaults:=[] }
def cM (s:Stmt):List Stmt:=match s with
 | .FunctionDef _ _ b _ _ _ _ _ _ _=>b
 | _=>[]
def au (s:Stmt):Scope:=match s with
 | .FunctionDef _ _ _ _ _ _ sc _ _ _=>sc
 | _=>{ kind:=.function,names:=[],isGenerator:=false,isCoroutine:=false }
abbrev E0:XK:=fun _ _ _=>False
structure Jy (K:PySem.W.Frag) (x qual:Str) (st:Stmt) (f:Addr) (fd:FuncData):Prop where
 ex:∃ (oc:Value) (od:Option Addr) (kV doc pm:Value) (an:Option Addr) (cdv ct:Value) (osl:Array (Option Value)),
  fd=PySem.W.fnOf x qual (dO st) (cM st) (au st) .none kV doc pm an cdv ct∧K.lookup f=some ⟨oc,od,.func fd,osl⟩∧PySem.W.codeIn K cdv qual=true
 kp:PySem.W.keepIn K (.ref f)=true
section
variable {P:Program}{w:World}{K:PySem.W.Frag}{mg:Str→Option Value}{base:Heap}
theorem Jy.binds {x qual:Str}{st:Stmt}{f:Addr}{fd:FuncData}{ps:List Str} (F:Jy K x qual st f fd)
  (h:∀ (kV doc pm:Value) (an:Option Addr) (cdv ct:Value) (us:List Value),us.length=ps.length→bindArgs (PySem.W.fnOf x qual (dO st) (cM st) (au st) .none kV doc pm an cdv ct) ⟨us,[]⟩=pure (ps.zip us)):Binds K fd ps []:=by
 obtain ⟨oc,od,kV,doc,pm,an,cdv,ct,osl,rfl,lk,hcd⟩:=F.ex;exact .all (h kV doc pm an cdv ct)
theorem yp {x qual:Str}{st:Stmt}{f:Addr}{oc:Value}{od an:Option Addr}{osl:Array (Option Value)}{kV doc pm cdv ct:Value} (l:K.lookup f=some ⟨oc,od,.func (PySem.W.fnOf x qual (dO st) (cM st) (au st) .none kV doc pm an cdv ct),osl⟩)
  (c:PySem.W.codeIn K cdv qual=true) (k:PySem.W.keepIn K (.ref f)=true):Jy K x qual st f (PySem.W.fnOf x qual (dO st) (cM st) (au st) .none kV doc pm an cdv ct):=⟨⟨oc,od,kV,doc,pm,an,cdv,ct,osl,rfl,l,c⟩,k⟩
end
theorem yq {A:Around}{k:Nat} (hr:dZ k A):A.units+1 < cLine:=Nat.lt_of_le_of_lt (Nat.add_le_add_left (by decide:1≤64) _) hr.units
section
variable {X:Cx}
theorem pv (i:Nat) {x:Str}{pos:Pos} (hN:X.N[i]?=some x:=by rfl) (hv:Ys X.env.scope x:=by first | exact Or.inl rfl | exact Or.inr (Or.inl rfl) | exact Or.inr (Or.inr rfl)) (hd:(x==("__debug__":Str))=false:=by decide)
  (hcd:(x==("__classdict__":Str))=false:=by decide):PE X (.Name x pos) (xH i):=Je hN hv hd hcd
end
theorem Fv {A B:Prop} (h:B):if false=true then A else B:=by
 rw [if_neg Bool.false_ne_true];exact h
theorem CZ {A B:Prop} (h:A):if true=true then A else B:=by
 rw [if_pos rfl];exact h
theorem bV {c A B:Prop} [Decidable c] (h1:c→A) (h2:¬ c→B):if c then A else B:=by
 by_cases h:c
 ·rw [if_pos h];exact h1 h
 ·rw [if_neg h];exact h2 h
def Same (H H':Hp):Prop:=∀ b o,H b=some o→H' b=some o
theorem Same.refl (H:Hp):Same H H:=fun _ _ h=>h
theorem Same.trans {H H1 H2:Hp} (a:Same H H1) (b:Same H1 H2):Same H H2:=fun c o h=>b c o (a c o h)
theorem Same.free {H H':Hp} (e:Same H H') {l:Addr} (h:H' l=Option.none):H l=Option.none:=by
 cases q:H l with
 | none=>rfl
 | some o=>
  rw [e l o q] at h;cases h
theorem Same.seq {K:PySem.W.Frag}{H H':Hp}{a:Addr}{xs:List V} (e:Same H H') (h:bO K H a xs):bO K H' a xs:=by
 rcases h with (h | ⟨o,h⟩) | h
 ·exact .inl (.inl (e _ _ h))
 ·exact .inl (.inr ⟨o,e _ _ h⟩)
 ·exact .inr h
section
variable {κ:Type} [DecidableEq κ]
theorem Mp:∀ {l:List κ}{k:κ},l.Nodup→¬ k∈l→(l++[k]).Nodup
 | [],k,_,_=>by simp
 | a::r,k,h,hk=>by
  obtain ⟨h1,h2⟩:=List.nodup_cons.mp h;show (a::(r++[k])).Nodup;refine List.nodup_cons.mpr ⟨fun m=>?_,Mp h2 fun m=>hk (List.mem_cons.mpr (Or.inr m))⟩;rcases List.mem_append.mp m with q | q
  ·exact h1 q
  ·exact hk (List.mem_cons.mpr (Or.inl (List.mem_singleton.mp q).symm))
end
theorem at_of {xs:List V}{z:Int}{j:Nat}{v:V} (e:z=(j:Int)) (h:xs[j]?=some v):Vw xs z=some v:=by
 rw [e];exact lQ h
theorem Same.made {H H1:Hp}{x dx C:Addr} (nx:H x=Option.none) (nd:H dx=Option.none) (k:∀ b o,(upd (upd H dx (.own x)) x (.ins C dx [])) b=some o→b≠x→H1 b=some o):Same H H1:=fun b o e=>
 k b o (by rw [ak (aB e nx),ak (aB e nd)];exact e) (aB e nx)
end L2
end
section
set_option linter.all false
namespace Xc
open PySem
def DK (h h':Heap):Prop:=∀ b o,h.get? b=some o→∃ o',h'.get? b=some o'∧o'.dict=o.dict∧o'.cls=o.cls
theorem DK.refl (h:Heap):DK h h:=fun _ o e=>⟨o,e,rfl,rfl⟩
theorem DK.trans {a b c:Heap} (x:DK a b) (y:DK b c):DK a c:=fun d o e=>by
 obtain ⟨o1,e1,d1,c1⟩:=x d o e;obtain ⟨o2,e2,d2,c2⟩:=y d o1 e1;exact ⟨o2,e2,d2.trans d1,c2.trans c1⟩
structure Kd {α:Type} (t:Sem α):Prop where
 out:∀ (M:Model) (G:Ctx) (P:α→Pos→Shared→Prop) (Ee:Value→Pos→Shared→Prop) (p:Pos) (s:Shared),
  Sem.wp M G t P Ee p s→Sem.wp M G t (fun a p' s'=>P a p' s'∧DK s.heap s'.heap) Ee p s
theorem Kd.pure {α:Type} (a:α):Kd (Pure.pure a:Sem α):=⟨fun _ _ _ _ _ s h=>⟨h,DK.refl _⟩⟩
theorem Kd.yr {α:Type} (w:String):Kd (PySem.unsupported w:Sem α):=⟨fun _ _ _ _ _ _ h=>h⟩
theorem Kd.bind {α β:Type}{m:Sem α}{f:α→Sem β} (hm:Kd m) (hf:∀ a,Kd (f a)):Kd (m >>= f):=⟨fun M G P Ee p s h=>by
 rw [Sem.wp_bind'] at h;rw [Sem.wp_bind'];refine Sem.wp_mono M G m (fun a p' s' h'=>?_) (fun _ _ _ x=>x) p s (hm.out M G _ Ee p s h);exact Sem.wp_mono M G (f a) (fun b p'' s'' h''=>⟨h''.1,h'.2.trans h''.2⟩) (fun _ _ _ x=>x) p' s' ((hf a).out M G P Ee p' s' h'.1)⟩
theorem Kd.cond {α:Type}{c:Prop} [Decidable c] {t u:Sem α} (ht:Kd t) (hu:Kd u):Kd (if c then t else u):=by split <;> assumption
theorem Kd.ld (a:Addr):Kd (PySem.load a):=⟨fun M G P Ee p s h=>by
 unfold PySem.load at h ⊢;rw [Sem.wp_load] at h ⊢;obtain ⟨o,e,q⟩:=h;exact ⟨o,e,q,DK.refl _⟩⟩
theorem Kd.stk:Kd PySem.stack:=⟨fun M G P Ee p s h=>by
 unfold PySem.stack at h ⊢;rw [Sem.wp_stack] at h ⊢;exact ⟨h,DK.refl _⟩⟩
theorem DK.upd {h:Heap}{a:Addr}{f:Obj→Obj} (hf:∀ o,(f o).dict=o.dict∧(f o).cls=o.cls∧(o.isFreed=false→(f o).isFreed=false)):DK h (h.update a f):=fun b o e=>by
 by_cases hb:b=a
 ·subst hb;have hfr:=(Heap.get?_some_iff.mp e).2;exact ⟨f o,Heap.get?_update_self _ e ((hf o).2.2 hfr),(hf o).1,(hf o).2.1⟩
 ·exact ⟨o,(Heap.get?_update_ne _ _ _ _ hb).trans e,rfl,rfl⟩
theorem DK.push (h:Heap) (o:Obj):DK h (h.push o):=fun b u e=>⟨u,Heap.get?_push_of_some _ e,rfl,rfl⟩
theorem Kd.upd (a:Addr) (f:Obj→Obj) (hf:∀ o,(f o).dict=o.dict∧(f o).cls=o.cls∧(o.isFreed=false→(f o).isFreed=false)):Kd (PySem.update a f):=⟨fun M G P Ee p s h=>by
 unfold PySem.update at h ⊢;rw [Sem.wp_update] at h ⊢;exact ⟨h.1,h.2,DK.upd hf⟩⟩
theorem Kd.alloc (o:Obj):Kd (PySem.alloc o):=⟨fun M G P Ee p s h=>by
 unfold PySem.alloc at h ⊢;rw [Sem.wp_alloc] at h ⊢;exact ⟨h,DK.push _ _⟩⟩
theorem yt (g:Array Value→Array Value) (o:Obj):(Obj.mapFields g o).dict=o.dict∧(Obj.mapFields g o).cls=o.cls∧(o.isFreed=false→(Obj.mapFields g o).isFreed=false):=by
 obtain ⟨c,d,dt,sl⟩:=o;cases dt <;> exact ⟨rfl,rfl,fun h=>h⟩
theorem Kd.fld (v:Value) (i:Nat):Kd (PySem.field v i):=⟨fun M G P Ee p s h=>by
 rw [wp_field_iff] at h ⊢;obtain ⟨a,o,vs,x,e1,e2,e3,e4,q⟩:=h;exact ⟨a,o,vs,x,e1,e2,e3,e4,q,DK.refl _⟩⟩
theorem Kd.uQ (v:Value) (i:Nat) (x:Value):Kd (PySem.setField v i x):=⟨fun M G P Ee p s h=>by
 rw [wp_setField_iff] at h ⊢;obtain ⟨a,o,vs,e1,e2,e3,e4,q⟩:=h;exact ⟨a,o,vs,e1,e2,e3,e4,q,DK.upd fun o=>yt _ o⟩⟩
theorem RN:Kd underTheClaimsCaller:=by
 unfold underTheClaimsCaller
 repeat' with_reducible first
  | assumption | exact Kd.pure _ | exact Kd.yr _ | exact Kd.fld _ _ | exact Kd.uQ _ _ _ | exact Kd.ld _ | exact Kd.stk | exact Kd.alloc _ | apply Kd.cond | apply Kd.bind | intro _ | split
theorem O7 (env:Env) (outer:List Env):Kd (behindIsImport env outer):=by
 unfold behindIsImport
 repeat' with_reducible first
  | assumption | exact Kd.pure _ | exact Kd.yr _ | exact Kd.fld _ _ | exact Kd.uQ _ _ _ | exact Kd.ld _ | exact Kd.stk | exact Kd.alloc _ | apply Kd.cond | apply Kd.bind | intro _ | split
theorem Wi (env:Env) (i:Bool) (l:List Env):Kd (keptBack env i l):=by
 have:=RN;cases l <;> unfold keptBack <;> repeat' with_reducible first
  | assumption | exact Kd.pure _ | exact Kd.yr _ | exact Kd.fld _ _ | exact Kd.uQ _ _ _ | exact Kd.ld _ | exact Kd.stk | exact Kd.alloc _ | apply Kd.cond | apply Kd.bind | intro _ | split
theorem Fx:∀ l:List Env,Kd (readyFrames l)
 | []=>Kd.pure _
 | env::outer=>by
  have ih:=Fx outer;have h1:=O7 env outer;have h2:=fun i=>Wi env i outer;unfold readyFrames;cases hf:env.frame with
  | none=>exact Kd.yr _
  | some f=>
   dsimp only;refine Kd.bind (Kd.ld _) fun o=>Kd.cond (Kd.pure _) (Kd.bind h1 fun i=>Kd.bind (h2 i) fun b=>Kd.bind (Kd.upd _ _ fun o=>⟨rfl,rfl,fun h=>by obtain ⟨c,d,dt,sl⟩:=o;cases dt <;> first | rfl | exact h⟩) fun _=>ih)
theorem yu (l:List Env):Kd (frameObject l):=by
 cases l with
 | nil=>exact Kd.pure _
 | cons env outer=>exact Kd.bind (Fx _) fun _=>Kd.pure _
theorem Jz (env:Env):Kd (frameOf env):=by
 unfold frameOf frameEnvs;refine Kd.bind (Kd.bind Kd.stk fun _=>Kd.pure _) fun l=>Kd.bind (yu _) fun o=>?_;cases o with
 | none=>exact Kd.yr _
 | some f=>exact Kd.pure _
theorem Ai (f:Addr) (b:Bool):Kd (entryPlaceOf f b):=by
 unfold entryPlaceOf;refine Kd.bind Kd.stk fun acts=>?_;split <;> exact Kd.pure _
theorem Fy (a b c d e:Value) (pl:List Value):Kd (EntryCells.newEntry a b c d e pl):=by
 unfold EntryCells.newEntry newFields newObj;dsimp only;have last:∀ d:Data,Kd (newObjAsIs (Value.type "traceback") d):=fun d=>by
  unfold newObjAsIs;exact Kd.bind (Kd.alloc _) fun _=>Kd.pure _
 exact Kd.cond (Kd.bind (Kd.yr _) fun _=>last _) (last _)
theorem Dc (e:Value) (env:Env):Kd (noteFrame e env):=by
 unfold noteFrame;cases hf:env.frame with
 | none=>exact Kd.yr _
 | some f=>
  dsimp only;have tail:∀ head:Value,Kd (do setField e 1 (←EntryCells.newEntry head (←frameOf env) .none (rawInt f) .none (←entryPlaceOf f (head != .none)))):=fun head=>
   Kd.bind (Jz env) fun _=>Kd.bind (Ai _ _) fun _=>Kd.bind (Fy _ _ _ _ _ _) fun _=>Kd.uQ _ _ _
  refine Kd.bind (Kd.fld _ _) fun head=>Kd.cond ?_ (tail head);exact Kd.bind (Kd.fld _ _) fun m=>Kd.cond (Kd.pure _) (Kd.bind (Kd.uQ _ _ _) fun _=>tail head)
theorem uR (e:Value) (f:Option Addr):Kd (setFlight e f):=by
 unfold setFlight;exact Kd.bind (Kd.fld _ _) fun _=>Kd.cond (Kd.uQ _ _ _) (Kd.pure _)
theorem rM (env:Env) (e:Value):Kd (leaving env e):=Kd.bind (Dc e env) fun _=>uR e none
theorem Kd.any {α:Type}{t:Sem α}{M:Model}{A:Around}{Q:α→Shared→Prop}{E:Value→Shared→Prop}{s:Shared} (k:Kd t) (h:wpAny M A t Q E s):wpAny M A t (fun a s'=>Q a s'∧DK s.heap s'.heap) E s:=
 fun G p hG=>k.out M G _ _ p s (h G p hG)
end Xc
end
section
set_option linter.all false
set_option maxRecDepth 100000
namespace Xc
open PySem
section
variable {M:Model}{A:Around}{E:Value→Shared→Prop}{h:Heap}{g:Array GenState}{d:Drawn}{t:Nat}{os:OsState}
variable {nm q:Str}{C N:Addr}{bs bm bB:List Value}{hd:Bool}{sn:List Str}{sub:List Value}{ab:Bool}{col:Option Bool}{dd:Option Addr}{k0 k1 k2 k3 k5:Option Value}{B nw ini:String}
abbrev exc (nm q:Str) (C N:Addr) (bs bm:List Value) (hd:Bool) (sn:List Str) (sub:List Value) (ab:Bool) (col:Option Bool) (dd:Option Addr) (k0 k1 k2 k3 k5:Option Value) (nw:String):Obj:=
 excClassObj nm q C N bs bm hd sn sub ab col dd k0 k1 k2 k3 k5 nw
theorem pU {v:Value}{b:Bool} (hb:bm.contains v=b) (hn:(v==Value.ref C)=false):(Value.ref C::bm).contains v=b:=by
 rw [List.contains_cons,hn,hb,Bool.false_or]
theorem O8 (F:ExcBaseFacts B nw ini bB) (hB:bm.contains (.type B)=true) {rest:List Value}{Q:Unit→Shared→Prop} (hC:h.get? C=some (exc nm q C N bs bm hd sn sub ab col dd k0 k1 k2 k3 k5 nw))
  (hq:Q () ⟨h,g,d,t,os⟩):wpAny M A (checkBuiltinCall nw ⟨.ref C::rest,[]⟩) Q E ⟨h,g,d,t,os⟩:=by
 have c1:(Value.ref C::bm).contains (.type B)=true:=pU hB rfl;have c2:=F.noStar;simp only [checkBuiltinCall,F.newKind,F.newSplit,F.newRow]
 repeat (first
  | refine wpAny_loadPart_at hC ?_
  | (refine wpAny_isSubtype_exc hC ?_;rw [c1])
  | refine wpAny_staticBase_exc hC ?_
  | refine wpAny_madeBy_exc hC ?_
  | simp only [bne_self_eq_false,Bool.false_eq_true,if_false]
  | wp_step)
 exact hq
end
section
variable {prog:Program}{w:World}{A:Around}{R:Result→Shared→Prop}{h:Heap}{g:Array GenState}{d:Drawn}{t:Nat}{os:OsState}
variable {nm q:Str}{C N:Addr}{bs bm bB:List Value}{hd:Bool}{sn:List Str}{sub:List Value}{ab:Bool}{col:Option Bool}{dd:Option Addr}{k0 k1 k2 k3 k5:Option Value}{B nw ini:String}
abbrev Dd (rest:List Value):Obj:={ cls:=.type "tuple",data:=.seq rest.toArray }
abbrev jR (C T:Addr):Obj:={ cls:=.ref C,data:=.fields #[.ref T,.none,.none,.none,.bool false,.none] }
theorem Wj (F:ExcBaseFacts B nw ini bB) (hB:bm.contains (.type B)=true) (hA:bm.contains (.type "AttributeError")=false) (hN:bm.contains (.type "NameError")=false) {rest:List Value}
  (hC:h.get? C=some (exc nm q C N bs bm hd sn sub ab col dd k0 k1 k2 k3 k5 nw))
  (hq:R (.ok (.ret (.ref (h.objs.size+1)))) ⟨(h.push (Dd rest)).push (jR C h.objs.size),g,d,t,os⟩) (hr:rest.length≤sizeLine) :
  codeAny (model prog w) A (.builtin nw ⟨.ref C::rest,[]⟩) R ⟨h,g,d,t,os⟩:=by
 have f0:=F.ends;have c1:(Value.ref C::bm).contains (.type B)=true:=pU hB rfl;have c2:(Value.ref C::bm).contains (.type "AttributeError")=false:=pU hA rfl;have c3:(Value.ref C::bm).contains (.type "NameError")=false:=pU hN rfl;refine codeAny_builtinAt F.entry ?_;unfold Builtin.«BaseException.__new__»;refine wpAt_bind ?_;show wpAt _ _ _ (stack >>= _) _ _ _;refine wpAt_bind (wpAt_stack fun p below=>wpAt_of_wpAny ?_)
 wp_walk
 refine wpAt_of_wpAny ?_;rw [F.owner]
 repeat (first
  | with_reducible refine wpAny_madeHere_exc F.canon hC ?_
  | with_reducible refine wpAny_loadPart_at hC ?_
  | (with_reducible refine wpAny_isSubtype_exc hC ?_;first | rw [c1] | rw [c2] | rw [c3])
  | wp_step)
 show R _ _;rw [Heap.size_push];exact hq
end
end Xc
end
section
set_option linter.all false
set_option maxRecDepth 100000
namespace Xc
open PySem
section
variable {prog:Program}{w:World}{A:Around}{E:Value→Shared→Prop}{h:Heap}{g:Array GenState}{d:Drawn}{t:Nat}{os:OsState}
variable {nm q:Str}{C N:Addr}{bs bm bB:List Value}{hd:Bool}{sn:List Str}{sub:List Value}{ab:Bool}{col:Option Bool}{dd:Option Addr}{k0 k1 k2 k3 k5:Option Value}{B nw ini:String}
theorem kept2 {h:Heap}{u v:Obj}:∀ b o,h.get? b=some o→((h.push u).push v).get? b=some o:=fun b o e=>Heap.get?_push_of_some _ (Heap.get?_push_of_some _ e)
abbrev RP (M:Model) (h:Heap) (C fI:Addr):Prop:=∀ (A:Around) (Q:Option Value→Shared→Prop) (E:Value→Shared→Prop) (s:Shared),(∀ b o,h.get? b=some o→s.heap.get? b=some o)→Q (some (.ref fI)) s→wpAny M A (typeLookup (.ref C) "__init__") Q E s
theorem O9 (F:ExcBaseFacts B nw ini bB) (hB:bm.contains (.type B)=true) (hA:bm.contains (.type "AttributeError")=false) (hN:bm.contains (.type "NameError")=false) {rest:List Value}{fI:Addr}{oI:Obj}{Q:Fin→Shared→Prop}
  (hC:h.get? C=some (exc nm q C N bs bm hd sn sub ab col dd k0 k1 k2 k3 k5 nw)) (hi:RP (model prog w) h C fI) (hf:h.get? fI=some oI) (hfc:oI.cls=.type "function") (hr:rest.length≤sizeLine)
  (hq:wpAny (model prog w) A (call (.ref fI) (.ref (h.objs.size+1)::rest)) (fun r s'=>r=.none∧Q (.done (.ret (.ref (h.objs.size+1)))) s') E ⟨(h.push (Dd rest)).push (jR C h.objs.size),g,d,t,os⟩) :
  wpAny (model prog w) A (Builtin.«type.__call__» ⟨.ref C::rest,[]⟩) Q E ⟨h,g,d,t,os⟩:=by
 repeat (first | with_reducible refine wpAny_madeBy_exc hC ?_ | with_reducible refine wpAny_loadPart_at hC ?_ | wp_step)
 refine codeAny_call_builtin_code (Code.quiet_builtin _ F.quiet) (O8 F hB hC ?_);refine Wj F hB hA hN hC ?_ hr;show wpAny _ _ _ _ _ _;have c1:=kept2 (u:=Dd rest) (v:=jR C h.objs.size) _ _ hC;have c2:=kept2 (u:=Dd rest) (v:=jR C h.objs.size) _ _ hf;have c4:((h.push (Dd rest)).push (jR C h.objs.size)).get? (h.objs.size+1)=some (jR C h.objs.size):=by heap_get
 have c5:(Value.ref C::bm).contains (.ref C)=true:=by simp
 unfold isInstance
 repeat (first | with_reducible refine wpAny_loadPart_at c4 ?_ | (with_reducible refine wpAny_isSubtype_exc c1 ?_;rw [c5]) | wp_step)
 show wpAny _ _ (typeLookup (.ref C) _) _ _ _;refine hi _ _ _ _ kept2 ?_;refine wpAny_holding (wpAny_bind ?_);unfold bindSpecial;refine wpAny_bind (wpAny_typeOf (T:="function") ⟨_,c2,hfc⟩ ?_);rw [if_pos (by decide)];refine wpAny_pure (wpAny_bind (wpAny_mono hq (fun r s' hr=>?_) fun _ _ x=>x));obtain ⟨rfl,z⟩:=hr
 wp_walk
 exact z
theorem call_exc (F:ExcBaseFacts B nw ini bB) (hB:bm.contains (.type B)=true) (hA:bm.contains (.type "AttributeError")=false) (hN:bm.contains (.type "NameError")=false) {rest:List Value}{fI:Addr}{oI:Obj}{Q:Value→Shared→Prop}
  (hC:h.get? C=some (exc nm q C N bs bm hd sn sub ab col dd k0 k1 k2 k3 k5 nw)) (hi:RP (model prog w) h C fI) (hf:h.get? fI=some oI) (hfc:oI.cls=.type "function") (hr:rest.length≤sizeLine)
  (hq:wpAny (model prog w) (A.under (.builtin "type.__call__" ⟨.ref C::rest,[]⟩)) (call (.ref fI) (.ref (h.objs.size+1)::rest)) (fun r s'=>r=.none∧Q (.ref (h.objs.size+1)) s') E
   ⟨(h.push (Dd rest)).push (jR C h.objs.size),g,d,t,os⟩):wpAny (model prog w) A (call (.ref C) rest) Q E ⟨h,g,d,t,os⟩:=by
 have l1:=tc_lookup;have l2:=tc_bind (.ref C);have l3:(⟨h,g,d,t,os⟩:Shared).TypeIs (.ref C) "type":=⟨_,hC,rfl⟩;refine wpAny_call (codeAny_of_tree ?_);show wpAny _ _ (callAny (.ref C) _) _ _ _
 repeat (any_goals (first | assumption | with_reducible refine wpAny_loadPart_at hC ?_ | wp_step))
 refine ⟨rfl,?_⟩;exact codeAny_call_builtin_at (Code.quiet_builtin _ (by decide +kernel)) entry_typeCall (wpAny_check_type_call_sub hC (O9 F hB hA hN hC hi hf hfc hr hq))
end
section
variable {M:Model}{A:Around}{E:Value→Shared→Prop}{env:Env}
variable {nm q:Str}{C N:Addr}{bs bm:List Value}{hd:Bool}{sn:List Str}{sub:List Value}{ab:Bool}{col:Option Bool}{dd:Option Addr}{k0 k1 k2 k3 k5:Option Value}{nw:String}
theorem yw {s:Shared}{x:Sem Value}{Q:Flow→Shared→Prop} (hb:bm.contains (.type "BaseException")=true) (hh:A.handled=none)
  (h:wpAny M A x (fun v s1=>∃ e T dx sl,v=.ref e∧s1.heap.get? C=some (exc nm q C N bs bm hd sn sub ab col dd k0 k1 k2 k3 k5 nw) ∧
   s1.heap.get? e=some { cls:=.ref C,dict:=dx,data:=.fields #[.ref T,.none,.none,.none,.bool false,.none],slots:=sl }∧E (.ref e) s1) E s) :
  wpAny M A (raiseStmt env (some x) none) Q E s:=by
 have c1:(Value.ref C::bm).contains (.type "BaseException")=true:=pU hb rfl;unfold raiseStmt;refine wpAny_bind (wpAny_mono h (fun v s1 h1=>?_) fun _ _ x=>x);obtain ⟨e,T,dx,sl,rfl,hC,he,hE⟩:=h1;obtain ⟨hp,g,d,tk,os⟩:=s1
 repeat (first
  | with_reducible refine wpAny_loadPart_at he ?_
  | with_reducible refine wpAny_loadPart_at hC ?_
  | (with_reducible refine wpAny_isSubtype_exc hC ?_;rw [c1])
  | wp_step)
 exact wpAny_raiseNew_none hh hE
theorem rN {s:Shared}{x:Expr}{pos:Pos}{Q:Flow→Shared→Prop} (h:wpAny M A (raiseStmt env (some (do let v ←eval x env;standAt pos;pure v)) none) Q E s):wpAny M A (exec (.Raise (some x) none pos) env) Q E s:=by
 rw [arm_exec_Raise]
 first
  | exact wpAny_bind (wpAny_standAt h)
  | (simp only [evalOpt,Option.map];exact wpAny_bind (wpAny_standAt h))
end
end Xc
end
section
set_option linter.all false
set_option maxRecDepth 100000
namespace Xc
open PySem PySem.Spec PyProof.Rows L2
structure abo (P:Program) (w:World) (outer:List Env) (H:Hp) (s:Shared) (E:XK) (a:Addr) (s':Shared) (B:Heap) (C dx:Addr) (a0:Value) (H':Hp):Prop where
 os:s'.os=s.os
 bare:AllBare s'.gens
 fly:Heap.FlyingW B outer a (.ref C) a0 s'.heap
 dict:∃ o,s'.heap.get? a=some o∧o.dict=some dx
 keep:∀ b o,s.heap.get? b=some o→H b=none→b∉frs outer→B.get? b=some o
 un:Un (frs outer) [] H H' s.heap s'.heap
 hok:pB P w H' B
 wish:E (.ref C) (some dx) H'
def bI (P:Program) (w:World):Vv:=fun outer H s E e s'=>∃ (a:Addr) (B:Heap) (C dx:Addr) (a0:Value) (H':Hp),e=.ref a∧abo P w outer H s E a s' B C dx a0 H'
theorem aG {P:Program}{w:World}{X:Cx}:Passes (bI P w) X E0:=fun _ _ _ _ _ _ _ h=>by
 obtain ⟨_,_,_,_,_,_,_,f⟩:=h;exact f.wish.elim
theorem bh {P:Program}{w:World}{K:PySem.W.Frag}{mg:Str→Option Value}{base:Heap}{N:List Str}{qual:Str}{scope:Scope}{f:Addr}{cd:Value}{A:Around}{outer:List Env}{s:Shared}{H:Hp}{E:XK} :
  Passes (bI P w) (aL (bI P w) P w K mg base N qual scope f cd A outer s H E) E:=by
 intro pins σ H1 s1 e s' I h;obtain ⟨a,B,C,dx,a0,H',rfl,F⟩:=h;have fl:=F.fly;refine wpAny_mono (Kd.any (rM _ _) (wpAny_leaves_onW (Q:=fun _ s''=>∃ h',s''={ s' with heap:=h' }∧Heap.FlyingW B outer a (.ref C) a0 h'∧s'.heap.UpToSlots h') I.ok.frames rfl fl fun h' f1 f2=>⟨h',rfl,f1,f2⟩)) ?_ fun e' s'' z=>z;rintro _ s'' ⟨⟨h',rfl,f1,f2⟩,dk⟩;obtain ⟨o,ho,hd⟩:=F.dict;obtain ⟨o',ho',hd',_⟩:=dk a o ho;have rA:∀ b:Addr,b∉(aL (bI P w) P w K mg base N qual scope f cd A outer s H E).ex:=fun b z=>absurd (show b∈([]:List Addr) from z) (by simp);have keep:∀ b o,s.heap.get? b=some o→H b=none→b∉frs outer→B.get? b=some o:=fun b o q n hb=>by
  refine F.keep b o (I.base.keep b o q n hb (rA b)) (I.base.free b o q n (rA b)) fun z=>?_;rcases List.mem_cons.mp (I.mC b z) with e1 | e1
  ·have l1:=Heap.lt_size q;have l2:s.heap.objs.size≤b:=by rw [e1];exact I.ok.above
   exact absurd (Nat.lt_of_lt_of_le l1 l2) (Nat.lt_irrefl _)
  ·exact hb e1
 refine ⟨a,B,C,dx,a0,H',rfl,F.os.trans I.os,F.bare,f1,⟨o',ho',hd'.trans hd⟩,keep,?_,F.hok,F.wish⟩;refine ⟨fun b ob q n hb _=>f1.1 b ob (keep b ob q n hb),fun b ob q n hb _=>?_,fun b ob q n _=>?_,fun b ob q _=>?_,fun b xs q=>F.un.tups b xs (I.base.tups b xs q),fun b ob u q=>F.un.pC b ob u (I.base.pC b ob u q),fun b ps q=>?_⟩
 ·obtain ⟨sl,e1⟩:=I.base.slot b ob q n hb (rA b);have hb2:b∈frs (aL (bI P w) P w K mg base N qual scope f cd A outer s H E).stack:=by
   show b∈List.filterMap _ (_::outer);rw [List.filterMap_cons];exact List.mem_cons_of_mem _ hb
  obtain ⟨sl2,e2⟩:=F.un.slot b _ e1 (I.base.free b ob q n (rA b)) hb2 (by simp);obtain ⟨_,o3,e3,d3⟩:=fl.2.2.1.mem hb2;rw [e2] at e3;obtain rfl:=Option.some.inj e3;obtain ⟨Y4,e4⟩:=f2 b _ e2 d3;exact ⟨Y4,e4⟩
 ·obtain ⟨o1,e1⟩:=I.base.there b ob q (rA b);exact F.un.free b o1 e1 (I.base.free b ob q n (rA b)) (by simp)
 ·obtain ⟨o1,e1⟩:=I.base.there b ob q (rA b);obtain ⟨o2,e2⟩:=F.un.there b o1 e1 (by simp);obtain ⟨o3,e3,_⟩:=dk b o2 e2;exact ⟨o3,e3⟩
 ·obtain ⟨m1,e1⟩:=I.base.pD b ps q;obtain ⟨m2,e2⟩:=F.un.pD b _ e1;exact ⟨m1++m2,by rw [e2,Array.append_assoc]⟩
end Xc
end
section
set_option linter.all false
set_option maxRecDepth 100000
set_option maxHeartbeats 4000000
namespace Xc
open PySem PySem.W PySem.Builtin PySem.Builtin.ObjectAttr
def lU:List Value→Bool
 | [.type a,.type b,.type c]=>a=="Exception"&&(b=="BaseException"&&c=="object")
 | .ref _::r=>lU r
 | _=>false
theorem tQ {c:Addr}{r:List Value} (h:lU (.ref c::r)=true):lU r=true:=by
 cases r <;> first | exact h | cases h
theorem yx (self:Value):∀ {l:List Value},lU l=true→refuseLoop self "__setattr__" l=pure ()
 | [.type a,.type b,.type c],h=>by
  simp only [lU,Bool.and_eq_true,beq_iff_eq] at h;obtain ⟨rfl,rfl,rfl⟩:=h;exact PySem.F.store_Exception.passes self
 | .ref c::r,h=>by
  rw [refuseLoop_ref];exact yx self (tQ h)
theorem vO:∀ {l:List Value},lU l=true→l.contains (.type "object")=true
 | [.type a,.type b,.type c],h=>by
  simp only [lU,Bool.and_eq_true,beq_iff_eq] at h;obtain ⟨rfl,rfl,rfl⟩:=h;decide +kernel
 | .ref c::r,h=>by
  rw [List.contains_cons,vO (tQ h),Bool.or_true]
def wQ (K:Frag) (C:Addr):Bool:=(clsIn K C).any fun cd=>lU cd.mro
section
variable {prog:Program}{w:World}{A:Around}{K:Frag}{C x:Addr}{s:Shared}{R:Result→Shared→Prop}
theorem Wk {ox:Obj}{od:Option Obj}{name:Str}{tk:Tok}{v:Value} (X:K.In s.heap) (I:InstAt s.heap x ox C od) (hp:wQ K C=true) (ht:findIn K (.ref C) name=some none)
  (h:wpAny (model prog w) A.in1 (storeInOwnDict (.ref x) (.ref C) (.str name tk) name v false)
   (fun fin s'=>match fin with | .done f=>R (.ok f) s' | .again c'=>c'.quiet=true∧codeAny (model prog w) A c' R s') (fun e s'=>R (.error e) s') s) :
  codeAny (model prog w) A (.call (.builtin "object.__setattr__") ⟨[.ref x,.str name tk,v],[]⟩) R s:=by
 have SF:=PySem.F.store_object;obtain ⟨cd,hc,ho⟩:=any_some hp;have ne:cd.mro.isEmpty=false:=by
  cases q:cd.mro with
  | nil=>rw [q] at ho;cases ho
  | cons _ _=>rfl
 have inst:Looks (model prog w) s.heap (isInstance (.ref x) (.type "object")) true:=I.type.andThen (looks_mroIn X (by
  unfold mroIn;rw [hc,Option.bind_some,if_neg (by rw [ne];decide),vO ho]))
 have mro:Looks (model prog w) s.heap (mroOf (.ref C)) cd.mro:=(looks_clsIn X hc).andThen .now;refine codeAny_call_builtin SF.slot.plain SF.entry
  (@check_slot (model prog w) _ _ s "object.__setattr__" "object" "__setattr__" (.ref x) [.str name tk,v] [] _ SF.kind SF.split inst (SF.args (.ref x) (.str name tk) v) ?_)
 rw [osa_eq,refuse_eq];refine wpAny_bind (wpAny_bind (I.type.here (wpAny_bind (mro.here ?_))));rw [yx _ ho];refine wpAny_pure (wpAny_bind (I.type.here (wpAny_bind ((looks_findIn X ht).here (wpAny_bind ?_)))));exact wpAny_pure (a:=none) h
theorem JB {E:Value→Shared→Prop}{name:Str}{v:Value}{Q:Unit→Shared→Prop}{T:Addr} (X:K.In s.heap) (hx:s.heap.get? x=some (jR C T)) (hs:findIn K (.ref C) "__setattr__"=some (some (.builtin "object.__setattr__")))
  (hp:wQ K C=true) (ht:findIn K (.ref C) name=some none) (hh:hasDictIn K C=true)
  (h:∀ h' tk,h'.get? x=some { jR C T with dict:=some s.heap.objs.size }→h'.Ns1 s.heap.objs.size (fun y=>if y=name then some v else none)→(∀ b o,b≠x→s.heap.get? b=some o→h'.get? b=some o)→Q () { s with heap:=h',toks:=tk }) :
  wpAny (model prog w) A (setAttr (.ref x) name v) Q E s:=by
 have J:InstAt s.heap x (jR C T) C none:=⟨hx,rfl,rfl,trivial⟩;refine set_plain X J hs (Wk (s:={ s with toks:=s.toks+1 }) X J hp ht ?_);obtain ⟨cd,hc,hd⟩:=any_some hh;obtain ⟨hp0,g,d,tk,os⟩:=s;have hxs:x≠hp0.objs.size:=Nat.ne_of_lt (Heap.lt_size hx);have hx1:(hp0.push emptyDict).get? x=some (jR C T):=Heap.get?_push_of_some _ hx;refine wpAny_bind (wpAny_pure (wpAny_bind (wpAny_bind (wpAny_loadPart hx (wpAny_bind (Looks.here (s:=⟨hp0,g,d,tk+1,os⟩) (looks_clsIn X hc) ?_))))));rw [hd];refine wpAny_bind (wpAny_alloc' ?_);refine wpAny_bind (wpAny_update' hx1 ?_);refine wpAny_pure (a:=some hp0.objs.size) (wpAny_bind (wpAny_pure (wpAny_bind ?_)));have gd:((hp0.push emptyDict).update x fun o=>{ o with dict:=some hp0.objs.size }).get? hp0.objs.size=some emptyDict:=
  (Heap.get?_update_ne _ _ _ _ hxs.symm).trans (Heap.get?_push_at rfl rfl)
 have nd:((hp0.push emptyDict).update x fun o=>{ o with dict:=some hp0.objs.size }).Ns hp0.objs.size (fun _=>none):=
  ⟨_,#[],_,gd,rfl,fun e he=>absurd he (by simp),fun _=>rfl⟩
 refine wpAny_nsSet1 (s:=⟨(hp0.push emptyDict).update x fun o=>{ o with dict:=some hp0.objs.size },g,d,tk+1,os⟩) (Heap.Ns1.of_empty nd) fun h' hn' hs'=>?_;obtain ⟨oD,esD,epD,hoD,hdD,hcD⟩:=hn'.count (Within.cons name v Within.nil);refine wpAny_bind (wpAny_lookBehind hoD (by rw [hdD];exact pastItsLine_dict (Nat.le_trans hcD (by rw [List.length_cons,List.length_nil,sizeLine_eq];omega))) ?_);refine wpAny_pure (h h' _ ?_ hn' fun b o hbx hb=>?_)
 ·exact (hs'.2 x hxs).trans (Heap.get?_update_self _ hx1 rfl)
 ·exact (hs'.2 b (Nat.ne_of_lt (Heap.lt_size hb))).trans ((Heap.get?_update_ne _ _ _ _ hbx).trans (Heap.get?_push_of_some _ hb))
end
end Xc
end
section
set_option linter.all false
set_option maxRecDepth 100000
namespace Xc
open PySem PySem.Spec PyProof.Rows L2
def tR (C a:Addr):Heap→Prop:=fun h=>∃ T,h.get? a=some (jR C T)
def pW (C dx a:Addr):Heap→Prop:=fun h=>∃ T,h.get? a=some { jR C T with dict:=some dx }
structure Wm (K:PySem.W.Frag) (C:Addr):Prop where
 sa:PySem.W.findIn K (.ref C) "__setattr__"=some (some (.builtin "object.__setattr__"))
 over:wQ K C=true
 dct:PySem.W.hasDictIn K C=true
section
variable {X:Cx}{pins:List (Addr×Obj)}{σ:L2.St}{H:Hp}{s:Shared}
theorem Wn {C a:Addr}{f:Str}{y:V}{u:Value}{E:Value→Shared→Prop}{A:Around}{Q:Unit→Shared→Prop} (I:Inv X pins σ H s) (ha:H a=some (.ext (tR C a))) (c:Wm X.K C) (n:PySem.W.findIn X.K (.ref C) f=some none) (r:RelV y u)
  (h:∀ dx s',H dx=none→Inv X pins σ (upd (upd H dx (.xd [(f,y)])) a (.ext (pW C dx a))) s'→Q () s'):wpAny (model X.prog X.w) A (setAttr (.ref a) f u) Q E s:=by
 obtain ⟨⟨T,hx⟩,_,_⟩:=I.hok a _ ha;have hdn:H s.heap.objs.size=none:=I.hok.fresh (Nat.le_refl _);have hda:s.heap.objs.size≠a:=Nat.ne_of_gt (Heap.lt_size hx);refine JB I.rH hx c.sa c.over n c.dct fun h' tk g1 g2 g3=>h s.heap.objs.size _ hdn ?_;have ntr:∀ b o,H b=some o→(∀ φ,o≠.ext φ)→b≠a∧b≠s.heap.objs.size:=fun b o e ne=>⟨fun z=>by rw [z,ha] at e;exact ne _ (Option.some.inj e).symm,aB e hdn⟩;refine I.un ⟨fun b o q n' _ _=>g3 b o (fun z=>by rw [z,ha] at n';cases n') q,fun b o q n' _ _=>⟨o.slots,g3 b o (fun z=>by rw [z,ha] at n';cases n') q⟩,fun b o q n' _=>?_,fun b o q _=>?_,fun b xs q=>?_,fun b o v q=>?_,fun b ps q=>⟨#[],?_⟩⟩ ?_
 ·rw [ak (fun z=>by rw [z,ha] at n';cases n'),ak (Nat.ne_of_lt (Heap.lt_size q))];exact n'
 ·by_cases hb:b=a
  ·rw [hb];exact ⟨_,g1⟩
  ·exact ⟨o,g3 b o hb q⟩
 ·obtain ⟨z1,z2⟩:=ntr b _ q (fun φ z=>by cases z);rw [ak z1,ak z2];exact q
 ·obtain ⟨z1,z2⟩:=ntr b _ q (fun φ z=>by cases z);rw [ak z1,ak z2];exact q
 ·obtain ⟨z1,z2⟩:=ntr b _ q (fun φ z=>by cases z);rw [ak z1,ak z2,q];simp
 ·intro b o e;by_cases hb:b=a
  ·subst hb;rw [ao] at e;obtain rfl:=Option.some.inj e;exact ⟨⟨T,g1⟩,⟨_,g1⟩,fun h1 h2 ⟨T',p⟩ k=>⟨T',k _ p⟩⟩
  ·rw [ak hb] at e;by_cases hb2:b=s.heap.objs.size
   ·subst hb2;rw [ao] at e;obtain rfl:=Option.some.inj e;refine ⟨_,g2,fun g=>?_⟩;show nY (List.lookup g [(f,y)]) (if g=f then some u else none);by_cases q:g=f
    ·rw [if_pos q,List.lookup_cons,q,beq_self_eq_true];exact r
    ·rw [if_neg q,List.lookup_cons,beq_eq_false_iff_ne.mpr q];exact True.intro
   ·rw [ak hb2] at e;refine (I.hok b o e).stay (fun c' v hc q=>g3 c' v ?_ q) (fun c' q=>?_) fun c' xs q=>?_
    ·rcases hc with rfl | hc
     ·exact hb
     ·exact (ntr c' _ hc (fun φ z=>by cases z)).1
    ·obtain ⟨z1,z2⟩:=ntr c' _ q (fun φ z=>by cases z);rw [ak z1,ak z2];exact q
    ·obtain ⟨z1,z2⟩:=ntr c' _ q (fun φ z=>by cases z);rw [ak z1,ak z2];exact q
end
def abp (K:PySem.W.Frag) (ta tv:TE) (f:Str):TS:=fun D σ H=>tv σ H fun y H1=>ta σ H1 fun x H2=>∃ a C,x=.ref a∧H2 a=some (.ext (tR C a))∧Wm K C∧PySem.W.findIn K (.ref C) f=some none ∧
 ∀ dx,H2 dx=none→D.nx σ (upd (upd H2 dx (.xd [(f,y)])) a (.ext (pW C dx a)))
section
variable {X:Cx}{o e value:Expr}{f:Str}{pos pos' tpos:Pos}{ta tv:TE}
theorem Wo (ha:PE X o ta) (hv:PE X value tv) (hs:swapsWith value (some (.Attribute o f pos')) pos.line X.env=pure false):PS X (.Assign [.Attribute o f pos'] value pos) (abp X.K ta tv f):=by
 intro pins s σ H D I h;refine plainObj_wpAny_Assign_Attribute (dI (hv pins s σ H _ I h) fun u s1 ⟨y,H1,I1,ry,q⟩=>dI (ha pins s1 σ H1 _ I1 q) fun ov s2 ⟨x,H2,I2,rx,a,C,ex,ea,c,n,q2⟩=>?_) hs;subst ex;obtain rfl:ov=Value.ref a:=rx;exact Wn I2 ea c n ry fun dx s3 hd I3=>⟨σ,_,I3,q2 dx hd⟩
end
structure JC (K:PySem.W.Frag) (C fI:Addr):Prop where
 cls:∃ nm q N bs bm hd sn sub ab col dd k0 k1 k2 k3 k5,K.lookup C=some (exc nm q C N bs bm hd sn sub ab col dd k0 k1 k2 k3 k5 "Exception.__new__")∧bm.contains (.type "Exception")=true∧bm.contains (.type "AttributeError")=false ∧
  bm.contains (.type "NameError")=false∧bm.contains (.type "BaseException")=true
 init:PySem.W.findIn K (.ref C) "__init__"=some (some (.ref fI))
 fn:∃ o,K.lookup fI=some o∧o.cls=.type "function"
 kp:PySem.W.keepIn K (.ref C)=true
section
variable {X:Cx}{CX:Vv}{k:Nat}{f C:Addr}{fd:FuncData}{ps:List Str}{sp:Sp}{E:XK}{x:Str}{p pos cpos:Pos}{e:Expr}{es:List Expr}{t:TA}
theorem Df {pins:List (Addr×Obj)}{σ:L2.St}{H:Hp}{s:Shared}{Q:V→Hp→Prop}{us:List Value}{vs:List V} (M:JC X.K C f) (F:iR X.prog X.w X.K X.mg X.base CX k f fd ps sp) (hr:dZ (k+1) X.A) (hb:Binds X.K fd ps [])
  (hx:Passes CX X E) (I:Inv X pins σ H s) (r:Vals vs us) (hz:us.length≤sizeLine)
  (h:∀ a,H a=none→sp (.ref a::vs) (upd H a (.ext (tR C a))) (fun v H2=>v=.non∧Q (.ref a) H2) E):wpAny (model X.prog X.w) X.A (call (.ref C) us) (EP X pins σ Q) X.xe s:=by
 obtain ⟨nm,q,N,bs,bm,hd,sn,sub,ab,col,dd,k0,k1,k2,k3,k5,lk,b1,b2,b3,b4⟩:=M.cls;obtain ⟨oI,lI,cI⟩:=M.fn;have hq:=h (s.heap.objs.size+1) (I.hok.fresh (Nat.le_succ _));obtain ⟨hp,g,d,tk,os⟩:=s;have I1:Inv X pins σ H { (⟨hp,g,d,tk,os⟩:Shared) with heap:=hp.push (Dd us),toks:=tk }:=I.kept (t':=tk) fun b u e=>Heap.get?_push_of_some _ e;have new:((hp.push (Dd us)).push (jR C hp.objs.size)).get? (hp.objs.size+1)=some (jR C hp.objs.size):=by heap_get
 have I2:Inv X pins σ (upd H (hp.objs.size+1) (.ext (tR C (hp.objs.size+1)))) ⟨(hp.push (Dd us)).push (jR C hp.objs.size),g,d,tk,os⟩:=by
  refine I1.laid (a:=hp.objs.size+1) (o:=.ext (tR C (hp.objs.size+1))) (t':=tk) (fun b u e=>Heap.get?_push_of_some _ e) (Nat.le_of_eq (Heap.size_push _ _)) ?_;exact ⟨⟨_,new⟩,⟨_,new⟩,fun h1 h2 ⟨T',z⟩ kk=>⟨T',kk _ z⟩⟩
 have r2:Vals (V.ref (hp.objs.size+1)::vs) (Value.ref (hp.objs.size+1)::us):=.cons rfl r;have hl:(Value.ref (hp.objs.size+1)::us++[]).length=ps.length:=by
  rw [List.append_nil,←r2.length];exact F.len _ _ _ _ hq
 have hbd:=hb _ (Value.ref (hp.objs.size+1)::us) I2.rH hl;rw [List.append_nil] at hbd;refine call_exc PySem.F.excBase_Exception b1 b2 b3 (I.rH _ _ lk) (PySem.W.looks_findIn I.rH M.init) (I.rH _ _ lI) cI hz ?_;refine wpAny_call (codeAny_mono (F.run _ X.stack _ _ ⟨Value.ref (hp.objs.size+1)::us,[]⟩ (Value.ref (hp.objs.size+1)::us) _ _ E (hr.make C us []) (I2.env0.make C us []) hbd r2 hq) fun rr s' hq'=>?_);cases rr with
 | error e=>exact hx pins σ _ _ e s' I2 hq'
 | ok fl=>
  cases fl with
  | ret u=>
   obtain ⟨v,H',I3,rv,ev,q3⟩:=I2.after hq';subst ev;exact ⟨rv,⟨V.ref (hp.objs.size+1),H',I3,rfl,q3⟩⟩
  | next=>exact False.elim hq'
  | brk=>exact False.elim hq'
  | cont=>exact False.elim hq'
end
def del (H:Hp) (a:Addr):Hp:=fun b=>if b=a then none else H b
theorem fO {H:Hp}{a b:Addr} (h:b≠a):del H a b=H b:=if_neg h
theorem yC {H:Hp}{a:Addr}:del H a a=none:=if_pos rfl
def yD (C:Addr) (sp:Sp) (E:XK) (t:TA):TS:=fun _ σ H=>t σ H fun vs H1=>vs.length≤sizeLine∧∀ a,H1 a=none→sp (.ref a::vs) (upd H1 a (.ext (tR C a)))
 (fun v H2=>v=.non∧∃ a' dx,V.ref a=.ref a'∧H2 a'=some (.ext (pW C dx a'))∧E (.ref C) (some dx) (del H2 a')) E0
section
variable {P:Program}{w:World}{K:PySem.W.Frag}{mg:Str→Option Value}{base:Heap}{N:List Str}{qual:Str}{scope:Scope}{f:Addr}{cd:Value}{A:Around}{outer:List Env}{s:Shared}{H:Hp}{E:XK}
theorem thrown {pins:List (Addr×Obj)}{σ:L2.St}{H2:Hp}{s2:Shared}{a C dx:Addr} (I:Inv (aL (bI P w) P w K mg base N qual scope f cd A outer s H E) pins σ H2 s2) (ha:H2 a=some (.ext (pW C dx a))) (hE:E (.ref C) (some dx) (del H2 a)) :
  (aL (bI P w) P w K mg base N qual scope f cd A outer s H E).xe (.ref a) s2:=by
 obtain ⟨⟨T,hx⟩,_,_⟩:=I.hok a _ ha;have rA:∀ b:Addr,b∉(aL (bI P w) P w K mg base N qual scope f cd A outer s H E).ex:=fun b z=>absurd (show b∈([]:List Addr) from z) (by simp);have hin:∀ env∈(aL (bI P w) P w K mg base N qual scope f cd A outer s H E).stack,∀ b,env.frame=some b→b∈a::frs (aL (bI P w) P w K mg base N qual scope f cd A outer s H E).stack:=fun env he b hb=>
  List.mem_cons_of_mem _ (List.mem_filterMap.mpr ⟨env,he,hb⟩)
 have hfr:=PySem.W.funFrames_hide I.stack hin;have toB:∀ b o,s2.heap.get? b=some o→b≠a→b∉frs (aL (bI P w) P w K mg base N qual scope f cd A outer s H E).stack→(PySem.W.hideAll s2.heap (a::frs (aL (bI P w) P w K mg base N qual scope f cd A outer s H E).stack)).get? b=some o:=
  fun b o q h1 h2=>PySem.W.hideAll_get _ q fun z=>(List.mem_cons.mp z).elim h1 h2
 refine wpAny_mono (Kd.any (rM _ _) (wpAny_leaving_firstW (base:=PySem.W.hideAll s2.heap (a::frs (aL (bI P w) P w K mg base N qual scope f cd A outer s H E).stack)) (a0:=.ref T)
  (Q:=fun _ s''=>∃ h',s''={ s2 with heap:=h' }∧Heap.LeftW (PySem.W.hideAll s2.heap (a::frs (aL (bI P w) P w K mg base N qual scope f cd A outer s H E).stack)) (aL (bI P w) P w K mg base N qual scope f cd A outer s H E).stack a (.ref C) (.ref T) s2.heap h')
  I.ok.frames hfr rfl hx (fun b o q=>PySem.W.of_hideAll _ q) (PySem.W.hideAll_none _ List.mem_cons_self) rfl rfl rfl fun h' l=>⟨h',rfl,l⟩)) ?_ fun e' s'' z=>z
 rintro _ s'' ⟨⟨h',rfl,l1,l2,l3,l4⟩,dk⟩;obtain ⟨o',ho',hd',_⟩:=dk a _ hx;have tr:∀ b o,H2 b=some o→(∀ φ,o≠.ext φ)→b≠a:=fun b o e ne z=>by rw [z,ha] at e;exact ne _ (Option.some.inj e).symm
 have keep:∀ b o,s.heap.get? b=some o→H b=none→b∉frs outer→(PySem.W.hideAll s2.heap (a::frs (aL (bI P w) P w K mg base N qual scope f cd A outer s H E).stack)).get? b=some o:=fun b o q n hb=>by
  have n2:=I.base.free b o q n (rA b);refine toB b o (I.base.keep b o q n hb (rA b)) (fun z=>by rw [z,ha] at n2;cases n2) fun z=>?_;rcases List.mem_cons.mp (I.mC b z) with e1 | e1
  ·have l1:=Heap.lt_size q;have l2:s.heap.objs.size≤b:=by rw [e1];exact I.ok.above
   exact absurd (Nat.lt_of_lt_of_le l1 l2) (Nat.lt_irrefl _)
  ·exact hb e1
 refine ⟨a,_,C,dx,.ref T,del H2 a,rfl,I.os,I.bare,⟨l1,PySem.W.hideAll_none _ List.mem_cons_self,l2.2.2,l3⟩,⟨o',ho',hd'⟩,keep,?_,fun b o e=>?_,hE⟩
 ·refine ⟨fun b ob q n hb _=>l1 b ob (keep b ob q n hb),fun b ob q n hb _=>?_,fun b ob q n _=>?_,fun b ob q _=>?_,fun b xs q=>?_,fun b ob u q=>?_,fun b ps q=>?_⟩
  ·obtain ⟨sl,e1⟩:=I.base.slot b ob q n hb (rA b);have hb2:b∈frs (aL (bI P w) P w K mg base N qual scope f cd A outer s H E).stack:=by
    show b∈List.filterMap _ (_::outer);rw [List.filterMap_cons];exact List.mem_cons_of_mem _ hb
   obtain ⟨_,o3,e3,d3⟩:=I.stack.mem hb2;rw [e1] at e3;obtain rfl:=Option.some.inj e3;obtain ⟨Y4,e4⟩:=l4 b _ e1 d3;exact ⟨Y4,e4⟩
  ·have n2:=I.base.free b ob q n (rA b);by_cases hb:b=a
   ·rw [hb];exact yC
   ·rw [fO hb];exact n2
  ·obtain ⟨o1,e1⟩:=I.base.there b ob q (rA b);obtain ⟨o3,e3,_⟩:=dk b o1 e1;exact ⟨o3,e3⟩
  ·have q2:=I.base.tups b xs q;rw [fO (tr b _ q2 fun φ z=>by cases z)];exact q2
  ·have q2:=I.base.pC b ob u q;rw [fO (tr b _ q2 fun φ z=>by cases z)];exact q2
  ·obtain ⟨m,q2⟩:=I.base.pD b ps q;exact ⟨m,by rw [fO (tr b _ q2 fun φ z=>by cases z)];exact q2⟩
 ·have hb:b≠a:=fun z=>by rw [z,yC] at e;cases e
  rw [fO hb] at e;refine (I.hok b o e).stay (fun c u hc q=>toB c u q ?_ fun z=>?_) (fun c q=>?_) fun c xs q=>?_
  ·rcases hc with rfl | hc
   ·exact hb
   ·exact tr c _ hc fun φ z=>by cases z
  ·have nf:=I.sX c z;rcases hc with rfl | hc
   ·rw [e] at nf;cases nf
   ·rw [hc] at nf;cases nf
  ·rw [fO (tr c _ q fun φ z=>by cases z)];exact q
  ·rw [fO (tr c _ q fun φ z=>by cases z)];exact q
variable {k:Nat}{C fI:Addr}{fd:FuncData}{ps:List Str}{sp:Sp}{x:Str}{p pos cpos:Pos}{e:Expr}{es:List Expr}{t:TA}
theorem yE {pins:List (Addr×Obj)}{σ:L2.St}{H1:Hp}{s1:Shared}{env:Env}{ev:Sem Value}{D:Flow→Shared→Prop} (M:JC K C fI) (I:Inv (aL (bI P w) P w K mg base N qual scope f cd A outer s H E) pins σ H1 s1)
  (h:wpAny (model P w) (aL (bI P w) P w K mg base N qual scope f cd A outer s H E).A ev (EP (aL (bI P w) P w K mg base N qual scope f cd A outer s H E) pins σ fun v H2=>∃ a dx,v=.ref a∧H2 a=some (.ext (pW C dx a))∧E (.ref C) (some dx) (del H2 a))
   (aL (bI P w) P w K mg base N qual scope f cd A outer s H E).xe s1) (hh:(aL (bI P w) P w K mg base N qual scope f cd A outer s H E).A.handled=none) :
  wpAny (model P w) (aL (bI P w) P w K mg base N qual scope f cd A outer s H E).A (raiseStmt env (some (do let v ←ev;standAt pos;pure v)) none) D (aL (bI P w) P w K mg base N qual scope f cd A outer s H E).xe s1:=by
 obtain ⟨nm,q,N',bs,bm,hd,sn,sub,ab,col,dd,k0,k1,k2,k3,k5,lk,b1,b2,b3,b4⟩:=M.cls;refine yw (C:=C) (nm:=nm) (q:=q) (N:=N') (bs:=bs) (bm:=bm) (hd:=hd) (sn:=sn) (sub:=sub) (ab:=ab) (col:=col) (dd:=dd) (k0:=k0) (k1:=k1) (k2:=k2) (k3:=k3) (k5:=k5) (nw:="Exception.__new__") b4 hh ?_;refine wpAny_bind (wpAny_mono h (fun v s2 h2=>wpAny_bind (wpAny_standAt (wpAny_pure ?_))) fun _ _ z=>z);obtain ⟨vv,H2,I2,rv,a,dx,rfl,ha,hE⟩:=h2;obtain rfl:v=Value.ref a:=rv;obtain ⟨⟨T,hx⟩,_,_⟩:=I2.hok a _ ha;exact ⟨a,T,some dx,#[],rfl,I2.rH _ _ lk,hx,thrown I2 ha hE⟩
theorem RQ (M:JC K C fI) (F:iR P w K mg base (bI P w) k fI fd ps sp) (hr:dZ (k+1) (aL (bI P w) P w K mg base N qual scope f cd A outer s H E).A) (hb:Binds K fd ps [])
  (hg:Gl (aL (bI P w) P w K mg base N qual scope f cd A outer s H E) x) (hm:mg x=some (.ref C)) (ha:PA (aL (bI P w) P w K mg base N qual scope f cd A outer s H E) (e::es) t)
  (hdb:(x==("__debug__":Str))=false:=by decide)
  (he:starEach (e::es) (aL (bI P w) P w K mg base N qual scope f cd A outer s H E).env=(false,eval e (aL (bI P w) P w K mg base N qual scope f cd A outer s H E).env)::starEach es (aL (bI P w) P w K mg base N qual scope f cd A outer s H E).env:=by rfl)
  (hpl:(backTo cpos (starEach es (aL (bI P w) P w K mg base N qual scope f cd A outer s H E).env)).any (·.1)=false:=by rfl) :
  PS (aL (bI P w) P w K mg base N qual scope f cd A outer s H E) (.Raise (some (.Call (.Name x p) (e::es) [] cpos)) none pos) (yD C sp E t):=by
 intro pins s1 σ H1 D I h;refine rN (yE M I ?_ hr.hd);refine wpAny_Call_Name_kw (jT I hg hm ?_ hdb);refine PySem.W.callWith_K (h₀:=base) I.ok.mod.Vu M.kp (dI (ha cpos pins s1 σ H1 _ I h) fun us s2 ⟨vs,H2,I2,r,hz,q⟩=>⟨I2.rH,?_⟩) he hpl;refine Df (us:=us) M F hr hb aG I2 r (by rw [←r.length];exact hz) fun a hn=>?_;exact q a hn
theorem iU (M:JC K C fI) (F:iR P w K mg base (bI P w) k fI fd ps sp) (hr:dZ (k+1) (aL (bI P w) P w K mg base N qual scope f cd A outer s H E).A) (hb:Binds K fd ps [])
  (hg:Gl (aL (bI P w) P w K mg base N qual scope f cd A outer s H E) x) (hm:mg x=some (.ref C)) (hdb:(x==("__debug__":Str))=false:=by decide) :
  PS (aL (bI P w) P w K mg base N qual scope f cd A outer s H E) (.Raise (some (.Call (.Name x p) [] [] cpos)) none pos) (yD C sp E uL):=by
 intro pins s1 σ H1 D I h;obtain ⟨hz,q⟩:([]:List V).length≤sizeLine∧_:=h;refine rN (yE M I ?_ hr.hd);refine wpAny_Call_Name_kw (jT I hg hm ?_ hdb);exact PySem.W.callWith_K0 I.rH M.kp (Df (us:=[]) M F hr hb aG I .nil (Nat.zero_le _) fun a hn=>q a hn)
end
end Xc
end
section
set_option linter.all false
namespace Sp
open Rb35
def cls (b:Nat):Nat:=
 if isWord b||(signs.contains b||(b==35||b==10)) then b else if b==9||(b==13||b==32) then 32 else 63
theorem j8:∀ b,b < 256→isSmall (cls b)=isSmall b∧isDigit (cls b)=isDigit b∧isWord (cls b)=isWord b∧(cls b==10)=(b==10)∧(cls b==35)=(b==35) ∧
  signs.contains (cls b)=signs.contains b∧((cls b==32)||(cls b==10))=isBlank b∧((isWord b||signs.contains b)=true→cls b=b):=by decide +kernel
abbrev PT:=List Nat×Nat
def aP:List Nat→Nat
 | []=>0
 | c::r=>if c=35 then ((c::r).takeWhile fun x=>x != 10).length else if isSmall c=true then ((c::r).takeWhile isWord).length
  else if isDigit c=true then ((c::r).takeWhile isDigit).length else 1
def skipped (c:Nat):Bool:=c==32||(c==10||c==35)
def gY:Nat→Nat→List Nat→List PT
 | 0,at_,_=>[([],at_)]
 | f+1,at_,b=>match b with
  | []=>[([],at_)]
  | c::r=>if skipped c=true then gY f (at_+aP (c::r)) ((c::r).drop (aP (c::r)))
   else ((c::r).take (aP (c::r)),at_)::gY f (at_+aP (c::r)) ((c::r).drop (aP (c::r)))
theorem kJ (f at_ c:Nat) (r:List Nat):gY (f+1) at_ (c::r)=if skipped c=true then gY f (at_+aP (c::r)) ((c::r).drop (aP (c::r)))
   else ((c::r).take (aP (c::r)),at_)::gY f (at_+aP (c::r)) ((c::r).drop (aP (c::r))):=rfl
def bQ (w:List Nat):Tok:=match w with
 | []=>.ended
 | c::r=>if isSmall c=true then (if 15 < (c::r).length then .bad else .name (c::r))
  else if isDigit c=true then (if 5 < (c::r).length then .bad else .num (valueOf (c::r)))
  else if r=[]∧signs.contains c=true then .sign c else .bad
def Dg:List PT→Toks
 | []=>[]
 | t::r=>match bQ t.1 with
  | .bad=>[(.bad,t.2)]
  | .ended=>[(.ended,t.2)]
  | x=>(x,t.2)::Dg r
theorem fH {p q:Nat→Bool}{g:Nat→Nat}:∀ {l:List Nat},(∀ x∈l,p (g x)=q x)→((l.map g).takeWhile p)=(l.takeWhile q).map g
 | [],_=>rfl
 | a::r,h=>by
  have h1:=h a List.mem_cons_self;have h2:=fH (p:=p) (q:=q) (g:=g) (l:=r) fun x hx=>h x (List.mem_cons_of_mem _ hx);simp only [List.map_cons,List.takeWhile_cons,h1];cases q a <;> simp [h2]
theorem takeWhile_all {p:Nat→Bool}:∀ {l:List Nat}{x:Nat},x∈l.takeWhile p→p x=true∧x∈l
 | [],_,h=>by simp at h
 | a::r,x,h=>by
  rw [List.takeWhile_cons] at h;cases e:p a with
  | false=>rw [e] at h;simp at h
  | true=>
   rw [e] at h;simp at h;rcases h with rfl | h
   ·exact ⟨e,List.mem_cons_self⟩
   ·exact ⟨(takeWhile_all h).1,List.mem_cons_of_mem _ (takeWhile_all h).2⟩
theorem eG {p:Nat→Bool}:∀ (l:List Nat),l.take (l.takeWhile p).length=l.takeWhile p
 | []=>rfl
 | a::r=>by
  rw [List.takeWhile_cons];cases e:p a <;> simp [eG r]
theorem uT {g:Nat→Nat}:∀ {l:List Nat},(∀ x∈l,g x=x)→l.map g=l
 | [],_=>rfl
 | a::r,h=>by
  rw [List.map_cons,h a List.mem_cons_self,uT fun x hx=>h x (List.mem_cons_of_mem _ hx)]
theorem uU {g:Nat→Nat} (l:List Nat) (k:Nat):(l.map g).drop k=(l.drop k).map g:=(List.map_drop).symm
theorem qF:∀ (f at_:Nat) (b:List Nat),(∀ x∈b,x < 256)→Dg (gY f at_ (b.map cls))=toksFrom f at_ b
 | 0,at_,b,_=>rfl
 | f+1,at_,[],_=>rfl
 | f+1,at_,c::r,hb=>by
  have hc:=j8 c (hb c List.mem_cons_self);have hall:∀ x∈c::r,x < 256:=hb;obtain ⟨h1,h2,h3,h4,h5,h6,h7,h8⟩:=hc;have e35:(cls c=35)↔c=35:=by
   constructor
   ·intro e;have:=h5;rw [e] at this;simpa using this.symm
   ·intro e;have:=h5;rw [e] at this;simpa [e] using this
  have wW:((c::r).map cls).takeWhile isWord=(c::r).takeWhile isWord:=by
   rw [fH (q:=isWord) fun x hx=>(j8 x (hall x hx)).2.2.1];exact uT fun x hx=>(j8 x (hall x (takeWhile_all hx).2)).2.2.2.2.2.2.2 (by simp [(takeWhile_all hx).1])
  have wD:((c::r).map cls).takeWhile isDigit=(c::r).takeWhile isDigit:=by
   rw [fH (q:=isDigit) fun x hx=>(j8 x (hall x hx)).2.1];exact uT fun x hx=>(j8 x (hall x (takeWhile_all hx).2)).2.2.2.2.2.2.2 (by
    have:=(takeWhile_all hx).1;simp [isWord,this])
  have wN:(((c::r).map cls).takeWhile fun x=>x != 10).length=((c::r).takeWhile fun x=>x != 10).length:=by
   rw [fH (q:=fun x=>x != 10) fun x hx=>by
    have:=(j8 x (hall x hx)).2.2.2.1;show (!(cls x==10))=!(x==10);rw [this]]
   exact List.length_map _
  have hlen:(c::r).map cls=cls c::r.map cls:=rfl;have drops:∀ k x,x∈(c::r).drop k→x < 256:=fun k x hx=>hall x (List.mem_of_mem_drop hx);rw [toksFrom];rw [hlen,kJ];by_cases uV:isBlank c=true
  ·
   rw [if_pos uV];have hs:skipped (cls c)=true:=by
    rw [uV] at h7;unfold skipped;cases h32:(cls c==32) <;> simp_all
   rw [if_pos hs];have n35:¬ cls c=35:=by
    rw [e35];intro e;subst e;revert uV;decide
   have nsm:isSmall (cls c)=false:=by
    rw [h1];cases e:isSmall c with
    | false=>rfl
    | true=>
     exfalso;simp [isSmall] at e;simp [isBlank] at uV;omega
   have ndg:isDigit (cls c)=false:=by
    rw [h2];cases e:isDigit c with
    | false=>rfl
    | true=>
     exfalso;simp [isDigit] at e;simp [isBlank] at uV;omega
   have er:aP (cls c::r.map cls)=1:=by
    unfold aP;dsimp only;rw [if_neg n35,if_neg (by simp [nsm]),if_neg (by simp [ndg])]
   rw [er];exact qF f (at_+1) r fun x hx=>hall x (List.mem_cons_of_mem _ hx)
  ·rw [if_neg uV];have Fz:isBlank c=false:=by simpa using uV
   rw [Fz] at h7;by_cases Vy:c=35
   ·rw [if_pos Vy];have e1:cls c=35:=e35.mpr Vy;have hs:skipped (cls c)=true:=by rw [e1];rfl
    rw [if_pos hs];have er:aP (cls c::r.map cls)=((c::r).takeWhile fun x=>x != 10).length:=by
     unfold aP;dsimp only;rw [if_pos e1,←hlen,wN]
    rw [er,←hlen,uU];exact qF f _ _ (drops _)
   ·rw [if_neg Vy];have n35:¬ cls c=35:=fun e=>Vy (e35.mp e);have hs:skipped (cls c)=false:=by
     unfold skipped;cases h32:(cls c==32) <;> cases h10:(cls c==10) <;> simp_all
    rw [if_neg (by simp [hs])];by_cases hsm:isSmall c=true
    ·rw [if_pos hsm];have er:aP (cls c::r.map cls)=((c::r).takeWhile isWord).length:=by
      unfold aP;dsimp only;rw [if_neg n35,if_pos (by rw [h1];exact hsm),←hlen,wW]
     have et:(cls c::r.map cls).take ((c::r).takeWhile isWord).length=(c::r).takeWhile isWord:=by
      rw [←hlen,←wW];exact eG _
     have ew:(c::r).takeWhile isWord=c::r.takeWhile isWord:=by
      rw [List.takeWhile_cons,show isWord c=true by simp [isWord,hsm]];rfl
     rw [er,et,←hlen,uU];show Dg (((c::r).takeWhile isWord,at_)::_)=_;have ih:=qF f (at_+((c::r).takeWhile isWord).length) _ (drops ((c::r).takeWhile isWord).length);rw [Dg,ih];dsimp only;rw [ew];unfold bQ;dsimp only;rw [if_pos hsm];by_cases hl:15 < (c::r.takeWhile isWord).length
     ·rw [if_pos hl,if_pos hl]
     ·rw [if_neg hl,if_neg hl]
    ·rw [if_neg hsm];by_cases hdg:isDigit c=true
     ·rw [if_pos hdg];have er:aP (cls c::r.map cls)=((c::r).takeWhile isDigit).length:=by
       unfold aP;dsimp only;rw [if_neg n35,if_neg (by rw [h1];exact hsm),if_pos (by rw [h2];exact hdg),←hlen,wD]
      have et:(cls c::r.map cls).take ((c::r).takeWhile isDigit).length=(c::r).takeWhile isDigit:=by
       rw [←hlen,←wD];exact eG _
      have ew:(c::r).takeWhile isDigit=c::r.takeWhile isDigit:=by
       rw [List.takeWhile_cons,hdg];rfl
      rw [er,et,←hlen,uU];show Dg (((c::r).takeWhile isDigit,at_)::_)=_;have ih:=qF f (at_+((c::r).takeWhile isDigit).length) _ (drops ((c::r).takeWhile isDigit).length);rw [Dg,ih];dsimp only;rw [ew];unfold bQ;dsimp only;rw [if_neg hsm,if_pos hdg];by_cases hl:5 < (c::r.takeWhile isDigit).length
      ·rw [if_pos hl,if_pos hl]
      ·rw [if_neg hl,if_neg hl]
     ·rw [if_neg hdg];have er:aP (cls c::r.map cls)=1:=by
       unfold aP;dsimp only;rw [if_neg n35,if_neg (by rw [h1];exact hsm),if_neg (by rw [h2];exact hdg)]
      rw [er];show Dg (([cls c],at_)::gY f (at_+1) (r.map cls))=_;have ih:=qF f (at_+1) r fun x hx=>hall x (List.mem_cons_of_mem _ hx);rw [Dg,ih];have ea:bQ [cls c]=if signs.contains c=true then .sign c else .bad:=by
       unfold bQ;dsimp only;rw [if_neg (by rw [h1];exact hsm),if_neg (by rw [h2];exact hdg)];by_cases hsg:signs.contains c=true
       ·rw [if_pos ⟨rfl,by rw [h6];exact hsg⟩,if_pos hsg,h8 (by rw [hsg,Bool.or_true])]
       ·rw [if_neg fun z=>hsg (by rw [←h6];exact z.2),if_neg hsg]
      dsimp only;rw [ea];by_cases hsg:signs.contains c=true
      ·rw [if_pos hsg,if_pos hsg]
      ·rw [if_neg hsg,if_neg hsg]
end Sp
end
section
set_option linter.all false
namespace Sp
open Rb35
def jG:List Form→Forms
 | []=>.nil
 | f::l=>.cons f (jG l)
def toL:Forms→List Form
 | .nil=>[]
 | .cons f l=>f::toL l
theorem Mq:∀ l,toL (jG l)=l
 | []=>rfl
 | f::l=>by rw [jG,toL,Mq l]
theorem wR:∀ l,jG (toL l)=l
 | .nil=>rfl
 | .cons f l=>by rw [toL,jG,wR l]
theorem lV:∀ l:Forms,countOf l=(toL l).length
 | .nil=>rfl
 | .cons f l=>by rw [countOf,toL,List.length_cons,lV l]
theorem yF:∀ a b:Forms,toL (joined a b)=toL a++toL b
 | .nil,b=>rfl
 | .cons f l,b=>by rw [joined,toL,yF l b];rfl
theorem uW {c:Nat}{t:Toks} (h:is_ c t=true):t.drop 1=t.tail∧(t.drop 1).length+1=t.length:=by
 cases t with
 | nil=>simp [is_] at h
 | cons a r=>simp
theorem take_len {c:Nat}{t u:Toks} (h:take_ c t=.ok u):u.length+1=t.length:=by
 unfold take_ at h;by_cases q:is_ c t=true
 ·rw [if_pos q] at h;cases h;exact (uW q).2
 ·rw [if_neg q] at h;cases h
def cP (w:Nat):Prop:=w=0∨w=1∨w=2∨w=10∨w=11∨w=12
def cw (w:Nat):Nat:=if w=0 then 1 else if w=10 then 2 else if w=1 then 3 else if w=11 then 4 else if w=2 then 5 else 6
theorem d8 (e:Known) (f what:Nat) (t:Toks):readAt e (f+1) what t =
  if 10≤what then (readAt e f (what-10) t).bind fun (x:Forms×Toks)=>if is_ (betweens what) x.2=true then (readAt e f what (x.2.drop 1)).map fun (y:Forms×Toks)=>(joined x.1 y.1,y.2) else .ok x
  else if 0 < what then (readAt e f (what+9) t).map fun (x:Forms×Toks)=>(grouped what x.1,x.2)
  else match t with
   | (.name b,k)::r=>(match (if keys.contains b=true then none else meaning e b) with
    | some x=>.ok (.cons x .nil,r)
    | none=>.error k)
   | (.num k,p)::r=>
    if k=0 then .error p
    else if isKey "of" r=false then .error (placeOf r)
    else (take_ 40 (r.drop 1)).bind fun (u:Toks)=>(readAt e f 12 u).bind fun (x:Forms×Toks)=>if is_ 41 x.2=false∨countOf x.1 < k then .error (placeOf x.2) else .ok (.cons (.some_ k x.1) .nil,x.2.drop 1)
   | u=>(take_ 40 u).bind fun (v:Toks)=>(readAt e f 2 v).bind fun (x:Forms×Toks)=>(take_ 41 x.2).map fun (r:Toks)=>(x.1,r):=rfl
theorem shorter (e:Known):∀ (f what:Nat) (t:Toks) (x:Forms×Toks),cP what→readAt e f what t=.ok x→x.2.length < t.length
 | 0,what,t,x,_,h=>by simp [readAt] at h
 | f+1,what,t,x,hw,h=>by
  rw [d8] at h;by_cases h10:10≤what
  ·rw [if_pos h10] at h;cases q:readAt e f (what-10) t with
   | error k=>rw [q] at h;cases h
   | ok y=>
    rw [q] at h;have hy:=shorter e f (what-10) t y (by unfold cP at *;omega) q;simp only [Except.bind] at h;by_cases hi:is_ (betweens what) y.2=true
    ·rw [if_pos hi] at h;cases q2:readAt e f what (y.2.drop 1) with
     | error k=>rw [q2] at h;cases h
     | ok z=>
      rw [q2] at h;have hz:=shorter e f what _ z hw q2;simp only [Except.map,Except.ok.injEq] at h;subst h;have:=(uW hi).2;show z.2.length < _;omega
    ·rw [if_neg hi] at h;cases h;exact hy
  ·rw [if_neg h10] at h;by_cases h0:0 < what
   ·rw [if_pos h0] at h;cases q:readAt e f (what+9) t with
    | error k=>rw [q] at h;cases h
    | ok y=>
     rw [q] at h;have hy:=shorter e f (what+9) t y (by unfold cP at *;omega) q;simp only [Except.map,Except.ok.injEq] at h;subst h;exact hy
   ·rw [if_neg h0] at h;have paren:∀ (u:Toks),((take_ 40 u).bind fun (v:Toks)=>(readAt e f 2 v).bind fun (x:Forms×Toks)=>(take_ 41 x.2).map fun (r:Toks)=>(x.1,r))=.ok x→x.2.length < u.length:=by
     intro u h;cases q:take_ 40 u with
     | error k=>rw [q] at h;cases h
     | ok v=>
      rw [q] at h;simp only [Except.bind] at h;cases q2:readAt e f 2 v with
      | error k=>rw [q2] at h;cases h
      | ok y=>
       rw [q2] at h;simp only [Except.bind] at h;cases q3:take_ 41 y.2 with
       | error k=>rw [q3] at h;cases h
       | ok r=>
        rw [q3] at h;simp only [Except.map,Except.ok.injEq] at h;subst h;have h1:=take_len q;have h2:=take_len q3;have h3:=shorter e f 2 v y (by unfold cP;omega) q2;show r.length < _;omega
    split at h
    ·rename_i b k r;split at h
     ·cases h;simp
     ·cases h
    ·rename_i k p r;by_cases hk:k=0
     ·rw [if_pos hk] at h;cases h
     ·rw [if_neg hk] at h;by_cases ho:isKey "of" r=false
      ·rw [if_pos ho] at h;cases h
      ·rw [if_neg ho] at h;cases q:take_ 40 (r.drop 1) with
       | error k=>rw [q] at h;cases h
       | ok v=>
        rw [q] at h;simp only [Except.bind] at h;cases q2:readAt e f 12 v with
        | error k=>rw [q2] at h;cases h
        | ok y=>
         rw [q2] at h;simp only [Except.bind] at h;split at h
         ·cases h
         ·cases h;have h1:=take_len q;have h3:=shorter e f 12 v y (by unfold cP;omega) q2;have h4:(r.drop 1).length≤r.length:=by simp
          show (y.2.drop 1).length < r.length+1;have h5:(y.2.drop 1).length≤y.2.length:=by simp
          omega
    ·exact paren _ h
theorem stable (e:Known):∀ (f g what:Nat) (t:Toks),cP what→8*t.length+cw what≤f→8*t.length+cw what≤g→readAt e f what t=readAt e g what t
 | 0,g,what,t,hw,hf,hg=>by
  exfalso;have:1≤cw what:=by unfold cw;repeat (first | split | omega)
  omega
 | f+1,0,what,t,hw,hf,hg=>by
  exfalso;have:1≤cw what:=by unfold cw;repeat (first | split | omega)
  omega
 | f+1,g+1,what,t,hw,hf,hg=>by
  rw [d8,d8];by_cases h10:10≤what
  ·rw [if_pos h10,if_pos h10];have hw':cP (what-10):=by unfold cP at *;omega
   have hc:cw (what-10)+1≤cw what:=by
    unfold cP at hw;rcases hw with h | h | h | h | h | h <;> subst h <;> first | omega | decide
   rw [stable e f g (what-10) t hw' (by omega) (by omega)];cases q:readAt e g (what-10) t with
   | error k=>rfl
   | ok y=>
    have hy:=shorter e g (what-10) t y hw' q;show (if is_ (betweens what) y.2=true then _ else _)=(if is_ (betweens what) y.2=true then _ else _);by_cases hi:is_ (betweens what) y.2=true
    ·rw [if_pos hi,if_pos hi];have:=(uW hi).2;rw [stable e f g what (y.2.drop 1) hw (by omega) (by omega)]
    ·rw [if_neg hi,if_neg hi]
  ·rw [if_neg h10,if_neg h10];by_cases h0:0 < what
   ·rw [if_pos h0,if_pos h0];have hw':cP (what+9):=by unfold cP at *;omega
    have hc:cw (what+9)+1≤cw what:=by
     unfold cP at hw;rcases hw with h | h | h | h | h | h <;> subst h <;> first | omega | decide
    rw [stable e f g (what+9) t hw' (by omega) (by omega)]
   ·rw [if_neg h0,if_neg h0];have e0:what=0:=by omega
    subst e0;have c0:cw 0=1:=rfl;have c2:cw 2=5:=rfl;have c12:cw 12=6:=rfl;rw [c0] at hf hg;have paren:∀ (u:Toks),u.length=t.length→((take_ 40 u).bind fun (v:Toks)=>(readAt e f 2 v).bind fun (x:Forms×Toks)=>(take_ 41 x.2).map fun (r:Toks)=>(x.1,r)) =
      ((take_ 40 u).bind fun (v:Toks)=>(readAt e g 2 v).bind fun (x:Forms×Toks)=>(take_ 41 x.2).map fun (r:Toks)=>(x.1,r)):=by
     intro u hu;cases q:take_ 40 u with
     | error k=>rfl
     | ok v=>
      have h1:=take_len q;show (readAt e f 2 v).bind _=(readAt e g 2 v).bind _;rw [stable e f g 2 v (by unfold cP;omega) (by omega) (by omega)]
    split
    ·rfl
    ·rename_i k p r;by_cases hk:k=0
     ·rw [if_pos hk,if_pos hk]
     ·rw [if_neg hk,if_neg hk];by_cases ho:isKey "of" r=false
      ·rw [if_pos ho,if_pos ho]
      ·rw [if_neg ho,if_neg ho];cases q:take_ 40 (r.drop 1) with
       | error k=>rfl
       | ok v=>
        have h1:=take_len q;have h4:(r.drop 1).length≤r.length:=by simp
        have h5:r.length+1≤8*(r.length+1):=by omega
        have hl:((Tok.num k,p)::r).length=r.length+1:=rfl;rw [hl] at hf hg;show (readAt e f 12 v).bind _=(readAt e g 12 v).bind _;rw [stable e f g 12 v (by unfold cP;omega) (by omega) (by omega)]
    ·exact paren _ rfl
def R (e:Known) (what:Nat) (t:Toks):Read Forms:=readAt e (8*t.length+8) what t
theorem RV (e:Known) {f what:Nat}{t:Toks} (hw:cP what) (hf:8*t.length+cw what≤f):readAt e f what t=R e what t:=by
 refine stable e f _ what t hw hf ?_;have:cw what≤6:=by unfold cw;repeat (first | split | omega)
 omega
abbrev RF:=Except Nat (List Form×Toks)
def lst (r:Read Forms):RF:=r.map fun x=>(toL x.1,x.2)
def RL (e:Known) (what:Nat) (t:Toks):RF:=lst (R e what t)
def grp (what:Nat) (l:List Form):Form:=match l with
 | [f]=>f
 | l=>.some_ (if what=1 then l.length else 1) (jG l)
theorem FJ (what:Nat) (l:Forms):toL (grouped what l)=[grp what (toL l)]:=by
 unfold grouped;rw [lV]
 match l with
 | .nil=>rfl
 | .cons f .nil=>rfl
 | .cons f (.cons g r)=>
  rw [if_neg (by simp [toL])];show [Form.some_ _ (Forms.cons f (Forms.cons g r))]=[Form.some_ _ (jG (toL (Forms.cons f (Forms.cons g r))))];rw [wR];rfl
theorem RW {e:Known}{what:Nat}{t:Toks}{x:List Form×Toks} (hw:cP what) (h:RL e what t=.ok x):x.2.length < t.length:=by
 unfold RL lst at h;cases q:R e what t with
 | error k=>rw [q] at h;cases h
 | ok y=>
  rw [q] at h;simp only [Except.map,Except.ok.injEq] at h;subst h;exact shorter e _ what t y hw q
theorem Dh (e:Known) {what:Nat} (t:Toks) (hw:what=10∨what=11∨what=12) :
  RL e what t=(RL e (what-10) t).bind fun x=>if is_ (betweens what) x.2=true then (RL e what (x.2.drop 1)).map fun y=>(x.1++y.1,y.2) else .ok x:=by
 unfold RL;have ok1:cP what:=by unfold cP;omega
 have ok2:cP (what-10):=by unfold cP;omega
 have hc:cw (what-10)≤7:=by unfold cw;repeat (first | split | omega)
 have hc2:cw what≤7:=by unfold cw;repeat (first | split | omega)
 have u:R e what t=readAt e (8*t.length+7+1) what t:=rfl;rw [u,d8,if_pos (by omega),RV e ok2 (by omega)];cases q:R e (what-10) t with
 | error k=>rfl
 | ok y=>
  have hy:y.2.length < t.length:=shorter e _ (what-10) t y ok2 q;show lst (if is_ (betweens what) y.2=true then _ else _)=(if is_ (betweens what) y.2=true then _ else _);by_cases hi:is_ (betweens what) y.2=true
  ·rw [if_pos hi,if_pos hi];have:=(uW hi).2;rw [RV e ok1 (by omega)];cases q2:R e what (y.2.drop 1) with
   | error k=>rfl
   | ok z=>
    show Except.ok (toL (joined y.1 z.1),z.2)=Except.ok (toL y.1++toL z.1,z.2);rw [yF]
  ·rw [if_neg hi,if_neg hi];rfl
theorem RX (e:Known) {what:Nat} (t:Toks) (hw:what=1∨what=2):RL e what t=(RL e (what+9) t).map fun x=>([grp what x.1],x.2):=by
 unfold RL;have ok2:cP (what+9):=by unfold cP;omega
 have hc:cw (what+9)≤7:=by unfold cw;repeat (first | split | omega)
 have u:R e what t=readAt e (8*t.length+7+1) what t:=rfl;rw [u,d8,if_neg (by omega),if_pos (by omega),RV e ok2 (by omega)];cases q:R e (what+9) t with
 | error k=>rfl
 | ok y=>
  show Except.ok (toL (grouped what y.1),y.2)=Except.ok ([grp what (toL y.1)],y.2);rw [FJ]
def yG (e:Known) (u:Toks):RF:=(take_ 40 u).bind fun v=>(RL e 2 v).bind fun x=>(take_ 41 x.2).map fun r=>(x.1,r)
theorem tU (e:Known) (u:Toks) (n:Nat) (hn:8*u.length≤n):lst ((take_ 40 u).bind fun (v:Toks)=>(readAt e n 2 v).bind fun (x:Forms×Toks)=>(take_ 41 x.2).map fun (r:Toks)=>(x.1,r))=yG e u:=by
 unfold yG;cases q:take_ 40 u with
 | error k=>rfl
 | ok v=>
  have h1:=take_len q;show lst ((readAt e n 2 v).bind _)=(RL e 2 v).bind _;have c2:cw 2=5:=rfl;rw [RV e (by unfold cP;omega) (by rw [c2];omega)];unfold RL;cases q2:R e 2 v with
  | error k=>rfl
  | ok y=>
   show lst ((take_ 41 y.2).map _)=(take_ 41 y.2).map _;cases take_ 41 y.2 <;> rfl
theorem Mr (e:Known) (b:Bytes) (k:Nat) (r:Toks):RL e 0 ((.name b,k)::r)=match (if keys.contains b=true then none else meaning e b) with
  | some x=>.ok ([x],r)
  | none=>.error k:=by
 unfold RL;have u:R e 0 ((.name b,k)::r)=readAt e (8*((Tok.name b,k)::r).length+7+1) 0 ((.name b,k)::r):=rfl;rw [u,d8,if_neg (by omega),if_neg (by omega)];dsimp only;cases (if keys.contains b=true then none else meaning e b) <;> rfl
theorem Di (e:Known) (k p:Nat) (r:Toks):RL e 0 ((.num k,p)::r)=if k=0 then .error p else if isKey "of" r=false then .error (placeOf r) else
  (take_ 40 (r.drop 1)).bind fun u=>(RL e 12 u).bind fun x=>if is_ 41 x.2=false∨x.1.length < k then .error (placeOf x.2) else .ok ([.some_ k (jG x.1)],x.2.drop 1):=by
 unfold RL;have u:R e 0 ((.num k,p)::r)=readAt e (8*((Tok.num k,p)::r).length+7+1) 0 ((.num k,p)::r):=rfl;rw [u,d8,if_neg (by omega),if_neg (by omega)];dsimp only;by_cases hk:k=0
 ·rw [if_pos hk,if_pos hk];rfl
 ·rw [if_neg hk,if_neg hk];by_cases ho:isKey "of" r=false
  ·rw [if_pos ho,if_pos ho];rfl
  ·rw [if_neg ho,if_neg ho];cases q:take_ 40 (r.drop 1) with
   | error k=>rfl
   | ok v=>
    have h1:=take_len q;have h4:(r.drop 1).length≤r.length:=by simp
    have c12:cw 12=6:=rfl;show lst ((readAt e _ 12 v).bind _)=(lst (R e 12 v)).bind _;rw [RV e (by unfold cP;omega) (by rw [c12,List.length_cons];omega)];cases q2:R e 12 v with
    | error k=>rfl
    | ok y=>
     show lst (if is_ 41 y.2=false∨countOf y.1 < k then _ else _)=(if is_ 41 y.2=false∨(toL y.1).length < k then _ else _);rw [lV];by_cases hh:is_ 41 y.2=false∨(toL y.1).length < k
     ·rw [if_pos hh,if_pos hh];rfl
     ·rw [if_neg hh,if_neg hh];show Except.ok (toL (Forms.cons (Form.some_ k y.1) .nil),y.2.drop 1)=Except.ok ([Form.some_ k (jG (toL y.1))],y.2.drop 1);rw [wR];rfl
def FP:Toks→Bool
 | (.name _,_)::_=>false
 | (.num _,_)::_=>false
 | _=>true
theorem Ms (e:Known) (t:Toks) (h:FP t=true):RL e 0 t=yG e t:=by
 unfold RL;have u:R e 0 t=readAt e (8*t.length+7+1) 0 t:=rfl;rw [u,d8,if_neg (by omega),if_neg (by omega)]
 match t,h with
 | [],_=>exact tU e [] _ (by simp)
 | (.sign c,k)::r,_=>exact tU e _ _ (by omega)
 | (.bad,k)::r,_=>exact tU e _ _ (by omega)
 | (.ended,k)::r,_=>exact tU e _ _ (by omega)
theorem yH (e:Known) (t:Toks):formula e t=(RL e 2 t).map fun x=>(first (jG x.1),x.2):=by
 unfold formula RL R;cases readAt e (8*t.length+8) 2 t with
 | error k=>rfl
 | ok y=>
  show Except.ok (first y.1,y.2)=Except.ok (first (jG (toL y.1)),y.2);rw [wR]
structure wk where
 asked:Nat
 fs:List Form
 bs:List Form
 ps:List Form
def wk.empty (k:Nat):wk:=⟨k,[],[],[]⟩
section
variable (e:Known)
def a10 (ps:List Form) (t:Toks):RF:=if is_ 38 t=true then (RL e 10 (t.drop 1)).map fun y=>(ps++y.1,y.2) else .ok (ps,t)
def a11 (bs ps:List Form) (t:Toks):RF:=(a10 e ps t).bind fun x=>if is_ 124 x.2=true then (RL e 11 (x.2.drop 1)).map fun y=>((bs++[grp 1 x.1])++y.1,y.2) else .ok (bs++[grp 1 x.1],x.2)
def a2 (F:wk) (t:Toks):Except Nat (Form×Toks):=(a11 e F.bs F.ps t).map fun x=>(grp 2 x.1,x.2)
def a12 (F:wk) (t:Toks):RF:=(a2 e F t).bind fun x=>if is_ 44 x.2=true then (RL e 12 (x.2.drop 1)).map fun y=>((F.fs++[x.1])++y.1,y.2) else .ok (F.fs++[x.1],x.2)
def fin (F:wk) (t:Toks):Except Nat (Form×Toks):=
 if F.asked=0 then (a2 e F t).bind fun x=>(take_ 41 x.2).map fun r=>(x.1,r)
 else (a12 e F t).bind fun x=>if is_ 41 x.2=false∨x.1.length < F.asked then .error (placeOf x.2) else .ok (.some_ F.asked (jG x.1),x.2.drop 1)
def iT:wk→List wk→Toks→Except Nat (Form×Toks)
 | F,[],t=>a2 e F t
 | F,G::r,t=>(fin e F t).bind fun x=>iT { G with ps:=G.ps++[x.1] } r x.2
def f9 (F:wk) (r:List wk) (t:Toks):Except Nat (Form×Toks):=(RL e 0 t).bind fun x=>iT e { F with ps:=F.ps++x.1 } r x.2
end
section
variable {e:Known}{F G:wk}{r:List wk}{t:Toks}
theorem aW {α β γ:Type} (x:Except Nat α) (f:α→Except Nat β) (g:β→Except Nat γ):(x.bind f).bind g=x.bind fun a=>(f a).bind g:=by cases x <;> rfl
theorem uX {α β γ:Type} (x:Except Nat α) (f:α→β) (g:β→Except Nat γ):(x.map f).bind g=x.bind fun a=>g (f a):=by cases x <;> rfl
theorem gb {α β γ:Type} (x:Except Nat α) (f:α→Except Nat β) (g:β→γ):(x.bind f).map g=x.bind fun a=>(f a).map g:=by cases x <;> rfl
theorem pX {α β γ:Type} (x:Except Nat α) (f:α→β) (g:β→γ):(x.map f).map g=x.map fun a=>g (f a):=by cases x <;> rfl
theorem map_id' {α:Type} (x:Except Nat α):(x.map fun a=>a)=x:=by cases x <;> rfl
theorem aJ {α β:Type}{x:Except Nat α}{f g:α→Except Nat β} (h:∀ a,x=.ok a→f a=g a):x.bind f=x.bind g:=by
 cases x with
 | error k=>rfl
 | ok a=>exact h a rfl
theorem abq (e:Known) (t:Toks):RL e 10 t=(RL e 0 t).bind fun x=>a10 e x.1 x.2:=by
 rw [Dh e t (.inl rfl)];refine aJ fun x _=>?_;unfold a10;rfl
theorem RL1 (e:Known) (t:Toks):RL e 1 t=(RL e 10 t).map fun x=>([grp 1 x.1],x.2):=RX e t (.inl rfl)
theorem RL2 (e:Known) (t:Toks):RL e 2 t=(RL e 11 t).map fun x=>([grp 2 x.1],x.2):=RX e t (.inr rfl)
theorem abr (e:Known) (t:Toks):RL e 11 t=(RL e 0 t).bind fun x=>a11 e [] x.1 x.2:=by
 rw [Dh e t (.inr (.inl rfl))];show (RL e 1 t).bind _=_;rw [RL1,abq,uX,aW];refine aJ fun x _=>?_;unfold a11;refine aJ fun y _=>?_;show (if is_ 124 y.2=true then _ else _)=if is_ 124 y.2=true then _ else _
 rfl
theorem Y5 (e:Known) (t:Toks):RL e 2 t=(RL e 0 t).bind fun x=>(a2 e ⟨0,[],[],x.1⟩ x.2).map fun y=>([y.1],y.2):=by
 rw [RL2,abr,gb];refine aJ fun x _=>?_;unfold a2;rw [pX]
theorem abt (e:Known) (k:Nat) (t:Toks):RL e 12 t=(RL e 0 t).bind fun x=>a12 e ⟨k,[],[],x.1⟩ x.2:=by
 rw [Dh e t (.inr (.inr rfl))];show (RL e 2 t).bind _=_;rw [Y5,aW];refine aJ fun x _=>?_;unfold a12;rw [uX];show (a2 e ⟨0,[],[],x.1⟩ x.2).bind _=(a2 e ⟨0,[],[],x.1⟩ x.2).bind _;refine aJ fun y _=>?_;show (if is_ 44 y.2=true then _ else _)=if is_ 44 y.2=true then _ else _
 rfl
theorem Aj (e:Known) (t:Toks):formula e t=f9 e (wk.empty 0) [] t:=by
 rw [yH,Y5,gb];unfold f9;refine aJ fun x _=>?_;rw [pX];show (a2 e ⟨0,[],[],x.1⟩ x.2).map (fun a=>(a.1,a.2))=a2 e ⟨0,[],[],x.1⟩ x.2;exact map_id' _
theorem Y6 (k:Nat):f9 e F r ((.sign 40,k)::t)=f9 e (wk.empty 0) (F::r) t:=by
 unfold f9;rw [Ms e _ rfl];unfold yG;show ((RL e 2 t).bind _).bind _=_;rw [aW,Y5,aW];refine aJ fun x _=>?_;rw [uX];show _=(fin e ⟨0,[],[],x.1⟩ x.2).bind _;unfold fin;rw [if_pos rfl,aW];refine aJ fun y _=>?_;cases take_ 41 y.2 <;> rfl
theorem Wq {b:Bytes} (k p q s:Nat) (hk:k≠0) (hb:b=ascii "of"):f9 e F r ((.num k,p)::(.name b,q)::(.sign 40,s)::t)=f9 e (wk.empty k) (F::r) t:=by
 unfold f9;rw [Di,if_neg hk,if_neg (by simp [isKey,hb])];show ((RL e 12 t).bind _).bind _=_;rw [aW,abt e k,aW];refine aJ fun x _=>?_;show _=(fin e ⟨k,[],[],x.1⟩ x.2).bind _;unfold fin;rw [if_neg hk,aW];refine aJ fun y _=>?_;show (if is_ 41 y.2=false∨y.1.length < k then _ else _:RF).bind _=(if is_ 41 y.2=false∨y.1.length < k then _ else _:Except Nat (Form×Toks)).bind _;by_cases hh:is_ 41 y.2=false∨y.1.length < k
 ·rw [if_pos hh,if_pos hh];rfl
 ·rw [if_neg hh,if_neg hh];rfl
theorem Y7 {b:Bytes}{x:Form} (k:Nat) (hk:keys.contains b=false) (hm:meaning e b=some x):f9 e F r ((.name b,k)::t)=iT e { F with ps:=F.ps++[x] } r t:=by
 unfold f9;rw [Mr,hk];show (match meaning e b with | some x=>_ | none=>_:RF).bind _=_;rw [hm];rfl
theorem abu (h:RL e 0 t=.error (placeOf t)):f9 e F r t=.error (placeOf t):=by
 unfold f9;rw [h];rfl
theorem abv (k:Nat):iT e F r ((.sign 38,k)::t)=f9 e F r t:=by
 have h10:a10 e F.ps ((.sign 38,k)::t)=(RL e 0 t).bind fun x=>a10 e (F.ps++x.1) x.2:=by
  rw [show a10 e F.ps ((.sign 38,k)::t)=(RL e 10 t).map (fun y=>(F.ps++y.1,y.2)) from rfl,abq,gb];refine aJ fun x _=>?_;unfold a10;by_cases hi:is_ 38 x.2=true
  ·rw [if_pos hi,if_pos hi,pX];congr 1;funext y;show (F.ps++(x.1++y.1),y.2)=((F.ps++x.1)++y.1,y.2);rw [List.append_assoc]
  ·rw [if_neg hi,if_neg hi];rfl
 have h2:∀ k' fs,a2 e ⟨k',fs,F.bs,F.ps⟩ ((.sign 38,k)::t)=(RL e 0 t).bind fun x=>a2 e ⟨k',fs,F.bs,F.ps++x.1⟩ x.2:=by
  intro k' fs;unfold a2 a11;rw [h10,aW,gb]
 unfold f9;cases r with
 | nil=>exact h2 F.asked F.fs
 | cons G r=>
  show (fin e F _).bind _=(RL e 0 t).bind fun x=>(fin e ⟨F.asked,F.fs,F.bs,F.ps++x.1⟩ x.2).bind _;rw [←aW];congr 1;unfold fin;by_cases h0:F.asked=0
  ·rw [if_pos h0];have:=h2 F.asked F.fs;rw [show a2 e F ((.sign 38,k)::t)=_ from this,aW];refine aJ fun x _=>?_;rw [if_pos h0]
  ·rw [if_neg h0];unfold a12;rw [show a2 e F ((.sign 38,k)::t)=_ from h2 F.asked F.fs,aW,aW];refine aJ fun x _=>?_;rw [if_neg h0,aW]
theorem adR (k:Nat):iT e F r ((.sign 124,k)::t)=f9 e ⟨F.asked,F.fs,F.bs++[grp 1 F.ps],[]⟩ r t:=by
 have h11:a11 e F.bs F.ps ((.sign 124,k)::t)=(RL e 0 t).bind fun x=>a11 e (F.bs++[grp 1 F.ps]) x.1 x.2:=by
  have h10:a10 e F.ps ((.sign 124,k)::t)=.ok (F.ps,(.sign 124,k)::t):=by
   unfold a10;rw [if_neg (by simp [is_])]
  rw [show a11 e F.bs F.ps ((.sign 124,k)::t)=(RL e 11 t).map (fun y=>((F.bs++[grp 1 F.ps])++y.1,y.2)) from by rw [a11,h10];rfl,abr,gb];refine aJ fun x _=>?_;unfold a11;rw [gb];refine aJ fun y _=>?_;by_cases hi:is_ 124 y.2=true
  ·rw [if_pos hi,if_pos hi,pX];congr 1;funext z;show (_++(([]++[grp 1 y.1])++z.1),z.2)=(((F.bs++[grp 1 F.ps])++[grp 1 y.1])++z.1,z.2);rw [List.nil_append,←List.append_assoc]
  ·rw [if_neg hi,if_neg hi];rfl
 have h2:∀ k' fs,a2 e ⟨k',fs,F.bs,F.ps⟩ ((.sign 124,k)::t)=(RL e 0 t).bind fun x=>a2 e ⟨k',fs,F.bs++[grp 1 F.ps],x.1⟩ x.2:=by
  intro k' fs;unfold a2;dsimp only;rw [h11,gb]
 unfold f9;cases r with
 | nil=>exact h2 F.asked F.fs
 | cons G r=>
  show (fin e F _).bind _=(RL e 0 t).bind fun x=>(fin e ⟨F.asked,F.fs,F.bs++[grp 1 F.ps],x.1⟩ x.2).bind _;rw [←aW];congr 1;unfold fin;by_cases h0:F.asked=0
  ·rw [if_pos h0];rw [show a2 e F ((.sign 124,k)::t)=_ from h2 F.asked F.fs,aW];refine aJ fun x _=>?_;rw [if_pos h0]
  ·rw [if_neg h0];unfold a12;rw [show a2 e F ((.sign 124,k)::t)=_ from h2 F.asked F.fs,aW,aW];refine aJ fun x _=>?_;rw [if_neg h0,aW]
theorem tV (h1:is_ 38 t=false) (h2:is_ 124 t=false):a2 e F t=.ok (grp 2 (F.bs++[grp 1 F.ps]),t):=by
 unfold a2 a11 a10;rw [if_neg (by simp [h1])];show (if is_ 124 t=true then _ else _:RF).map _=_;rw [if_neg (by simp [h2])];rfl
theorem Wr (k:Nat) (h0:F.asked≠0) (G:wk):iT e F (G::r) ((.sign 44,k)::t)=f9 e ⟨F.asked,F.fs++[grp 2 (F.bs++[grp 1 F.ps])],[],[]⟩ (G::r) t:=by
 unfold f9;show (fin e F _).bind _=(RL e 0 t).bind fun x=>(fin e ⟨F.asked,F.fs++[grp 2 (F.bs++[grp 1 F.ps])],[],x.1⟩ x.2).bind _;rw [←aW];congr 1;unfold fin;rw [if_neg h0];have h12:a12 e F ((.sign 44,k)::t)=(RL e 0 t).bind fun x=>a12 e ⟨F.asked,F.fs++[grp 2 (F.bs++[grp 1 F.ps])],[],x.1⟩ x.2:=by
  rw [show a12 e F ((.sign 44,k)::t)=(RL e 12 t).map (fun y=>((F.fs++[grp 2 (F.bs++[grp 1 F.ps])])++y.1,y.2)) from by rw [a12,tV rfl rfl];rfl,abt e F.asked,gb];refine aJ fun x _=>?_;unfold a12;rw [gb];show (a2 e ⟨F.asked,[],[],x.1⟩ x.2).bind _=(a2 e ⟨F.asked,[],[],x.1⟩ x.2).bind _;refine aJ fun y _=>?_;by_cases hi:is_ 44 y.2=true
  ·rw [if_pos hi,if_pos hi,pX];congr 1;funext z;show (_++(([]++[y.1])++z.1),z.2)=(((F.fs++[grp 2 (F.bs++[grp 1 F.ps])])++[y.1])++z.1,z.2);rw [List.nil_append,←List.append_assoc]
  ·rw [if_neg hi,if_neg hi];rfl
 rw [h12,aW];refine aJ fun x _=>?_;rw [if_neg h0]
theorem Ws (k:Nat) (h0:F.asked=0):iT e F (G::r) ((.sign 41,k)::t)=iT e { G with ps:=G.ps++[grp 2 (F.bs++[grp 1 F.ps])] } r t:=by
 show (fin e F _).bind _=_;unfold fin;rw [if_pos h0,tV rfl rfl];rfl
theorem uY (h0:F.asked≠0) (h1:is_ 38 t=false) (h2:is_ 124 t=false) (h4:is_ 44 t=false):fin e F t =
  if is_ 41 t=false∨(F.fs++[grp 2 (F.bs++[grp 1 F.ps])]).length < F.asked then .error (placeOf t) else .ok (.some_ F.asked (jG (F.fs++[grp 2 (F.bs++[grp 1 F.ps])])),t.drop 1):=by
 have h12:a12 e F t=.ok (F.fs++[grp 2 (F.bs++[grp 1 F.ps])],t):=by
  rw [a12,tV h1 h2];simp only [Except.bind,h4,Bool.false_eq_true,if_false]
 rw [fin,if_neg h0,h12];rfl
theorem RZ (k:Nat) (h0:F.asked≠0) (hk:F.asked≤(F.fs++[grp 2 (F.bs++[grp 1 F.ps])]).length) :
  iT e F (G::r) ((.sign 41,k)::t)=iT e { G with ps:=G.ps++[.some_ F.asked (jG (F.fs++[grp 2 (F.bs++[grp 1 F.ps])]))] } r t:=by
 rw [iT,uY h0 rfl rfl rfl,if_neg (by
  rintro (h | h)
  ·simp [is_] at h
  ·omega)]
 rfl
theorem abw (k:Nat) (h0:F.asked≠0) (hk:(F.fs++[grp 2 (F.bs++[grp 1 F.ps])]).length < F.asked):iT e F (G::r) ((.sign 41,k)::t)=.error k:=by
 rw [iT,uY h0 rfl rfl rfl,if_pos (.inr hk)];rfl
theorem abx (h1:is_ 38 t=false) (h2:is_ 124 t=false) (h3:is_ 41 t=false) (h4:is_ 44 t=false∨F.asked=0):iT e F (G::r) t=.error (placeOf t):=by
 rw [iT];by_cases h0:F.asked=0
 ·rw [fin,if_pos h0,tV h1 h2];simp only [Except.bind,take_,h3,Bool.false_eq_true,if_false,Except.map]
 ·rw [uY h0 h1 h2 (h4.resolve_right h0),if_pos (.inl h3)];rfl
theorem aby (h1:is_ 38 t=false) (h2:is_ 124 t=false):iT e F [] t=.ok (grp 2 (F.bs++[grp 1 F.ps]),t):=tV h1 h2
end
end Sp
end
section
set_option linter.all false
namespace Sp
open Rb35
abbrev aF:=Nat×List Nat
def rO (P:Nat) (ns:List aF):List Form:=ns.foldl (fun d n=>d++[.some_ n.1 (jG (n.2.map fun i=>d.getD i (.one 0)))]) ((List.range P).map .one)
def den (P:Nat) (ns:List aF) (i:Nat):Form:=(rO P ns).getD i (.one 0)
theorem qG (P:Nat) (ns:List aF) (n:aF):rO P (ns++[n])=rO P ns++[.some_ n.1 (jG (n.2.map (den P ns)))]:=by
 unfold rO;rw [List.foldl_append];rfl
theorem snocInd {α:Type}{p:List α→Prop} (h0:p []) (h1:∀ l a,p l→p (l++[a])) (l:List α):p l:=by
 have:∀ r:List α,p r.reverse:=fun r=>by
  induction r with
  | nil=>exact h0
  | cons a r ih=>rw [List.reverse_cons];exact h1 _ _ ih
 have h:=this l.reverse
 rwa [List.reverse_reverse] at h
theorem jx (P:Nat) (ns:List aF):(rO P ns).length=P+ns.length:=by
 induction ns using snocInd with
 | h0=>simp [rO]
 | h1 l a ih=>rw [qG,List.length_append,ih,List.length_append];simp;omega
theorem FQ (P:Nat) (ns more:List aF):∃ d,rO P (ns++more)=rO P ns++d:=by
 induction more using snocInd with
 | h0=>exact ⟨[],by simp⟩
 | h1 l a ih=>
  obtain ⟨d,e⟩:=ih;refine ⟨d++[Form.some_ a.1 (jG (a.2.map (den P (ns++l))))],?_⟩;rw [←List.append_assoc,qG,e,List.append_assoc]
theorem gZ {P:Nat}{ns:List aF} (more:List aF) {i:Nat} (h:i < P+ns.length):den P (ns++more) i=den P ns i:=by
 obtain ⟨d,e⟩:=FQ P ns more;unfold den;rw [e,List.getD_eq_getElem?_getD,List.getD_eq_getElem?_getD,List.getElem?_append_left (by rw [jx];exact h)]
theorem n8 (P:Nat) (ns:List aF) (n:aF):den P (ns++[n]) (P+ns.length)=.some_ n.1 (jG (n.2.map (den P ns))):=by
 show (rO P (ns++[n])).getD (P+ns.length) (.one 0)=_;rw [qG,List.getD_eq_getElem?_getD,List.getElem?_append_right (by rw [jx];exact Nat.le_refl _),jx,Nat.sub_self];rfl
theorem eN {P:Nat} (ns:List aF) {i:Nat} (h:i < P):den P ns i=.one i:=by
 have e:=gZ (P:=P) (ns:=[]) ns (i:=i) (by simpa using h);rw [List.nil_append] at e;rw [e];unfold den rO;rw [List.foldl_nil,List.getD_eq_getElem?_getD,List.getElem?_map,List.getElem?_range h];rfl
theorem fP {P:Nat}{ns:List aF} (more:List aF) {l:List Nat} (h:∀ i∈l,i < P+ns.length):l.map (den P (ns++more))=l.map (den P ns):=
 List.map_congr_left fun i hi=>gZ more (h i hi)
def Good (P:Nat) (ns:List aF):Prop:=∀ (j:Nat) (n:aF),ns[j]?=some n→(∀ i∈n.2,i < P+j)∧1≤n.1∧n.1≤n.2.length
theorem Good.nil {P:Nat}:Good P []:=fun j n h=>by simp at h
theorem Good.snoc {P:Nat}{ns:List aF}{n:aF} (g:Good P ns) (h:∀ i∈n.2,i < P+ns.length) (h1:1≤n.1) (h2:n.1≤n.2.length):Good P (ns++[n]):=fun j m e=>by
 by_cases hj:j < ns.length
 ·rw [List.getElem?_append_left hj] at e;exact g j m e
 ·rw [List.getElem?_append_right (by omega)] at e;have hj2:j-ns.length=0:=by
   cases q:j-ns.length with
   | zero=>rfl
   | succ k=>rw [q] at e;simp at e
  rw [hj2] at e;simp at e;subst e;have:j=ns.length:=by omega
  subst this;exact ⟨h,h1,h2⟩
theorem Good.init {P:Nat}{ns:List aF}{n:aF} (g:Good P (ns++[n])):Good P ns∧(∀ i∈n.2,i < P+ns.length)∧1≤n.1∧n.1≤n.2.length:=by
 refine ⟨fun j m e=>g j m ?_,g ns.length n (by simp)⟩;rw [List.getElem?_append_left (List.getElem?_eq_some_iff.mp e).1];exact e
def vP {α:Type} (base:Nat→α) (step:Nat→List α→α) (dflt:α) (P:Nat) (ns:List aF):List α:=
 ns.foldl (fun d n=>d++[step n.1 (n.2.map fun i=>d.getD i dflt)]) ((List.range P).map base)
theorem yI {α:Type} (base:Nat→α) (step:Nat→List α→α) (dflt:α) (P:Nat) (ns:List aF) (n:aF) :
  vP base step dflt P (ns++[n])=vP base step dflt P ns++[step n.1 (n.2.map fun i=>(vP base step dflt P ns).getD i dflt)]:=by
 unfold vP;rw [List.foldl_append];rfl
theorem R8 {α:Type}{base:Nat→α}{step:Nat→List α→α}{dflt:α}{P:Nat} (g:Form→α) (h1:∀ i,g (.one i)=base i) (h2:∀ k l,g (.some_ k (jG l))=step k (l.map g)) (ns:List aF) (ok:Good P ns) :
  vP base step dflt P ns=(rO P ns).map g:=by
 induction ns using snocInd with
 | h0=>
  show (List.range P).map base=((List.range P).map Form.one).map g;rw [List.map_map];exact List.map_congr_left fun i _=>(h1 i).symm
 | h1 l a ih=>
  obtain ⟨g1,g2,_⟩:=ok.init;rw [yI,qG,ih g1,List.map_append,List.map_cons,List.map_nil,h2,List.map_map];congr 2;congr 1;refine List.map_congr_left fun i hi=>?_;have hl:i < (rO P l).length:=by rw [jx];exact g2 i hi
  show ((rO P l).map g).getD i dflt=g ((rO P l).getD i (.one 0));rw [List.getD_eq_getElem?_getD,List.getD_eq_getElem?_getD,List.getElem?_map,List.getElem?_eq_getElem hl];rfl
theorem R9 {α:Type}{base:Nat→α}{step:Nat→List α→α}{dflt:α}{P:Nat} (g:Form→α) (h1:∀ i,g (.one i)=base i) (h2:∀ k l,g (.some_ k (jG l))=step k (l.map g)) (ns:List aF) (ok:Good P ns) {i:Nat} (hi:i < P+ns.length) :
  (vP base step dflt P ns)[i]?=some (g (den P ns i)):=by
 have hl:i < (rO P ns).length:=by rw [jx];exact hi
 rw [R8 g h1 h2 ns ok,List.getElem?_map,List.getElem?_eq_getElem hl];unfold den;rw [List.getD_eq_getElem?_getD,List.getElem?_eq_getElem hl];rfl
theorem cT:∀ l:List Form,(leavesIn (jG l)).length=(l.map fun f=>(leaves f).length).sum
 | []=>rfl
 | f::l=>by rw [jG,leavesIn,List.length_append,cT l];rfl
theorem FT (l:List Form):countOf (jG l)=l.length:=by rw [lV,Mq]
theorem vQ (p:Nat):∀ l:List Form,soundIn p (jG l)=true↔∀ f∈l,sound p f=true
 | []=>by simp [jG,soundIn]
 | f::l=>by rw [jG,soundIn,Bool.and_eq_true,vQ p l];simp
theorem rP (p k:Nat) (l:List Form):sound p (.some_ k (jG l))=true↔1≤k∧k≤l.length∧l.length < p∧∀ f∈l,sound p f=true:=by
 rw [sound,Bool.and_eq_true,Bool.and_eq_true,Bool.and_eq_true,vQ,FT];simp
def Narrow (p:Nat) (ns:List aF):Prop:=∀ n∈ns,n.2.length < p
theorem wu {p P:Nat} (ns:List aF) (ok:Good P ns) (h:Narrow p ns):∀ i,i < P+ns.length→sound p (den P ns i)=true:=by
 induction ns using snocInd with
 | h0=>
  intro i hi;rw [eN [] (by simpa using hi)];rfl
 | h1 l a ih=>
  obtain ⟨g1,g2,g3,g4⟩:=ok.init;have ih':=ih g1 fun n hn=>h n (List.mem_append_left _ hn);intro i hi;by_cases hl:i < P+l.length
  ·rw [gZ [a] hl];exact ih' i hl
  ·have e:i=P+l.length:=by rw [List.length_append] at hi;simp at hi;omega
   subst e;rw [n8,rP,List.length_map];refine ⟨g3,g4,h a (by simp),fun f hf=>?_⟩;obtain ⟨j,hj,rfl⟩:=List.mem_map.mp hf;exact ih' j (g2 j hj)
theorem jy {P:Nat}{ns:List aF} (ok:Good P ns) {j:Nat}{n:aF} (h:ns[j]?=some n):den P ns (P+j)=.some_ n.1 (jG (n.2.map (den P ns))):=by
 obtain ⟨hj,e⟩:=List.getElem?_eq_some_iff.mp h;have hs:ns=(ns.take j++[n])++ns.drop (j+1):=by
  rw [←e,List.append_assoc,List.singleton_append,List.getElem_cons_drop,List.take_append_drop]
 have hl:(ns.take j).length=j:=by rw [List.length_take,Nat.min_eq_left (Nat.le_of_lt hj)]
 have h1:den P ((ns.take j++[n])++ns.drop (j+1)) (P+j)=den P (ns.take j++[n]) (P+j):=gZ _ (by rw [List.length_append,hl];simp);have h2:den P (ns.take j++[n]) (P+(ns.take j).length)=.some_ n.1 (jG (n.2.map (den P (ns.take j)))):=n8 _ _ _;rw [hl] at h2;rw [←hs] at h1;rw [h1,h2];have g:=(ok j n h).1;have h3:∀ i∈n.2,i < P+(ns.take j).length:=fun i hi=>by rw [hl];exact g i hi
 have h4:=fP (P:=P) (ns:=ns.take j) ([n]++ns.drop (j+1)) h3;rw [←List.append_assoc,←hs] at h4;rw [h4]
def abz (q:Form→Prop):Prop:=∀ k l,q (.some_ k (jG l))→∀ f∈l,q f
def Eh (P:Nat) (ns:List aF) (rts:List Nat):Prop:=∀ q,abz q→(∀ i∈rts,q (den P ns i))→∀ j,j < ns.length→q (den P ns (P+j))
theorem Eh.mono {P:Nat}{ns:List aF}{a b:List Nat} (c:Eh P ns a) (h:∀ i∈a,i∈b):Eh P ns b:=fun q hq z=>c q hq fun i hi=>z i (h i hi)
theorem Eh.nil {P:Nat}:Eh P [] []:=fun q _ _ j hj=>by simp at hj
theorem Eh.node {P k:Nat}{ns:List aF}{w a b:List Nat} (c:Eh P ns a) (hw:∀ i∈w,i < P+ns.length) (ha:∀ i∈a,i < P+ns.length) (hab:∀ i∈a,i∈w∨i∈b) (hn:P+ns.length∈b):Eh P (ns++[(k,w)]) b:=fun q hq z j hj=>by
 have h1:=z _ hn;by_cases hl:j < ns.length
 ·rw [gZ [(k,w)] (by omega:P+j < P+ns.length)];refine c q hq (fun i hi=>?_) j hl;rcases hab i hi with y | y
  ·rw [n8] at h1;exact hq _ _ h1 _ (List.mem_map.mpr ⟨i,y,rfl⟩)
  ·rw [←gZ [(k,w)] (ha i hi)];exact z i y
 ·have:j=ns.length:=by rw [List.length_append] at hj;simp at hj;omega
  subst this;exact h1
theorem Eh.narrow {P:Nat}{ns:List aF}{a:List Nat} (c:Eh P ns a) (g:Good P ns) (p:Nat) (h:∀ i∈a,sound p (den P ns i)=true):Narrow p ns:=fun n hn=>by
 obtain ⟨j,hj,e⟩:=List.mem_iff_getElem.mp hn;have h1:=c (fun f=>sound p f=true) (fun k l z f hf=>((rP p k l).mp z).2.2.2 f hf) h j hj;rw [jy g (by rw [List.getElem?_eq_getElem hj,e]),rP,List.length_map] at h1;exact h1.2.2.1
theorem Eh.places {P:Nat}{ns:List aF}{a:List Nat} (c:Eh P ns a) (m:Nat) (h:∀ i∈a,(leaves (den P ns i)).length≤m) {j:Nat} (hj:j < ns.length):(leaves (den P ns (P+j))).length≤m:=
 c (fun f=>(leaves f).length≤m) (fun k l z f hf=>by
  have z':(leavesIn (jG l)).length≤m:=z;rw [cT] at z';refine Nat.le_trans ?_ z';clear z z'
  induction l with
  | nil=>simp at hf
  | cons x t ih=>
   rw [List.map_cons,List.sum_cons];rcases List.mem_cons.mp hf with rfl | hf
   ·exact Nat.le_add_right _ _
   ·exact Nat.le_trans (ih hf) (Nat.le_add_left _ _)) h j hj
structure aD where
 asked:Nat
 fs:List Nat
 bs:List Nat
 ps:List Nat
def aD.empty (k:Nat):aD:=⟨k,[],[],[]⟩
def aD.all (F:aD):List Nat:=F.fs++(F.bs++F.ps)
def aD.den (P:Nat) (ns:List aF) (F:aD):wk:=⟨F.asked,F.fs.map (Sp.den P ns),F.bs.map (Sp.den P ns),F.ps.map (Sp.den P ns)⟩
theorem aD.gZ {P:Nat}{ns:List aF} (more:List aF) {F:aD} (h:∀ i∈F.all,i < P+ns.length):F.den P (ns++more)=F.den P ns:=by
 unfold aD.den;rw [fP more fun i hi=>h i (by simp [aD.all,hi]),fP more fun i hi=>h i (by simp [aD.all,hi]),fP more fun i hi=>h i (by simp [aD.all,hi])]
def dJ (ns:List aF) (k:Nat) (w:List Nat):List aF:=if w.length=1 then ns else ns++[(k,w)]
def fQ (P:Nat) (ns:List aF) (w:List Nat):Nat:=if w.length=1 then w.headD 0 else P+ns.length
theorem rQ (ns:List aF) (k:Nat) (w:List Nat):∃ more,dJ ns k w=ns++more:=by
 unfold dJ;split
 ·exact ⟨[],by simp⟩
 ·exact ⟨_,rfl⟩
theorem Bo {P k:Nat}{ns:List aF}{w:List Nat} (hw:∀ i∈w,i < P+ns.length):fQ P ns w < P+(dJ ns k w).length:=by
 unfold fQ dJ;by_cases h:w.length=1
 ·rw [if_pos h,if_pos h]
  match w,h with
  | [i],_=>exact hw i (by simp)
 ·rw [if_neg h,if_neg h];simp
theorem vR {P k:Nat}{ns:List aF}{w:List Nat} (g:Good P ns) (hw:∀ i∈w,i < P+ns.length) (h1:1≤k) (h2:k≤w.length):Good P (dJ ns k w):=by
 unfold dJ;split
 ·exact g
 ·exact g.snoc hw h1 h2
theorem yJ {P k what:Nat}{ns:List aF}{w:List Nat} (hw:∀ i∈w,i < P+ns.length) (hk:k=if what=1 then w.length else 1):den P (dJ ns k w) (fQ P ns w)=grp what (w.map (den P ns)):=by
 unfold fQ dJ;by_cases h:w.length=1
 ·rw [if_pos h,if_pos h]
  match w,h with
  | [i],_=>rfl
 ·rw [if_neg h,if_neg h,n8];show Form.some_ k _=_
  match w,h with
  | [],_=>rw [hk];rfl
  | i::j::r,_=>
   show Form.some_ k _=Form.some_ _ _;rw [hk];simp
theorem yK {P k:Nat}{ns:List aF}{w a b:List Nat} (c:Eh P ns a) (hw:∀ i∈w,i < P+ns.length) (ha:∀ i∈a,i < P+ns.length) (hab:∀ i∈a,i∈w∨i∈b) (hn:fQ P ns w∈b):Eh P (dJ ns k w) b:=by
 unfold fQ at hn;unfold dJ;by_cases h:w.length=1
 ·rw [if_pos h] at hn ⊢;refine c.mono fun i hi=>?_;rcases hab i hi with z | z
  ·match w,h with
   | [j],_=>
    simp at z;subst z;exact hn
  ·exact z
 ·rw [if_neg h] at hn ⊢;exact c.node hw ha hab hn
end Sp
end
section
set_option linter.all false
namespace Sp
open Rb35
def look (l:List (Bytes×Nat)) (b:Bytes):Option Nat:=(l.find? fun x=>x.1==b).map (·.2)
theorem vU (l m:List (Bytes×Nat)) (b:Bytes):look (l++m) b=(look l b).or (look m b):=by
 unfold look;rw [List.find?_append];cases List.find? (fun x=>x.1==b) l <;> rfl
theorem pY (b:Bytes):∀ (l:List Bytes) (k:Nat),look (l.zipIdx k) b=(l.findIdx? fun x=>x==b).map (·+k)
 | [],k=>rfl
 | a::r,k=>by
  rw [List.zipIdx_cons,List.findIdx?_cons];unfold look;rw [List.find?_cons];cases h:(a==b) with
  | true=>simp [h]
  | false=>
   have ih:=pY b r (k+1);unfold look at ih;simp only [h,ih,Bool.false_eq_true,if_false,Option.map_map];congr 1;funext x;show x+(k+1)=(x+1)+k;omega
structure Bk where
 people:List Bytes
 ns:List aF
 ls:List (Bytes×Nat)
def Bk.P (B:Bk):Nat:=B.people.length
def Bk.names (B:Bk):List (Bytes×Nat):=B.people.zipIdx++B.ls
def Bk.known (B:Bk):Known:=⟨B.people,B.ls.map fun x=>(x.1,den B.P B.ns x.2)⟩
structure Bk.Ok (B:Bk):Prop where
 good:Good B.P B.ns
 lt:∀ x∈B.ls,x.2 < B.P+B.ns.length
 cov:Eh B.P B.ns (B.ls.map (·.2))
theorem rB (g:Nat→Form) (b:Bytes):∀ l:List (Bytes×Nat),((l.map fun x=>(x.1,g x.2)).find? fun (x:Bytes×Form)=>x.1==b).map (fun x=>x.2)=(look l b).map g
 | []=>rfl
 | a::r=>by
  have ih:=rB g b r;unfold look at ih ⊢;rw [List.map_cons,List.find?_cons,List.find?_cons];show (match a.1==b with | true=>_ | false=>_:Option (Bytes×Form)).map _=_;cases h:(a.1==b) with
  | true=>rfl
  | false=>exact ih
theorem tW (g:Nat→Form) (b:Bytes):∀ l:List (Bytes×Nat),((l.map fun x=>(x.1,g x.2)).any fun (x:Bytes×Form)=>x.1==b)=(look l b).isSome
 | []=>rfl
 | a::r=>by
  have ih:=tW g b r;unfold look at ih ⊢;rw [List.map_cons,List.any_cons,List.find?_cons,ih];cases h:(a.1==b) <;> simp [h]
theorem pA (b:Bytes):∀ (l:List Bytes),l.contains b=(l.findIdx? fun x=>x==b).isSome
 | []=>rfl
 | a::r=>by
  rw [List.contains_cons,List.findIdx?_cons,pA b r];by_cases h:a=b
  ·subst h;simp
  ·have h1:(b==a)=false:=by simpa using fun z:b=a=>h z.symm
   have h2:(a==b)=false:=by simpa using h
   rw [h1,h2];simp
theorem yL (b:Bytes):∀ (l:List Bytes) (i:Nat),(l.findIdx? fun x=>x==b)=some i→i < l.length
 | [],i,h=>by simp at h
 | a::r,i,h=>by
  rw [List.findIdx?_cons] at h;split at h
  ·cases h;simp
  ·cases q:r.findIdx? fun x=>x==b with
   | none=>rw [q] at h;cases h
   | some j=>
    rw [q] at h;cases h;have:=yL b r j q;simp;omega
theorem Bk.yM (B:Bk) (b:Bytes):knows B.known b=(look B.names b).isSome:=by
 unfold knows Bk.names;rw [vU,pY];show (B.people.contains b||(B.ls.map fun x=>(x.1,den B.P B.ns x.2)).any _)=_;rw [tW,pA];cases (B.people.findIdx? fun x=>x==b) <;> simp
theorem Bk.yN (B:Bk) (b:Bytes):meaning B.known b=(look B.names b).map (den B.P B.ns):=by
 unfold meaning Bk.names;rw [vU,pY];show (match B.people.findIdx? fun (x:Bytes)=>x==b with | some i=>some (Form.one i) | none=>_)=_;cases h:(B.people.findIdx? fun x=>x==b) with
 | none=>
  show (((B.ls.map fun x=>(x.1,den B.P B.ns x.2)).find? fun (x:Bytes×Form)=>x.1==b).map fun x=>x.2)=_;rw [rB];simp
 | some i=>
  have hi:i < B.P:=yL b _ i h;show some (Form.one i)=some (den B.P B.ns (i+0));rw [Nat.add_zero,eN _ hi]
theorem Sd {l:List (Bytes×Nat)}{b:Bytes}{i:Nat} (h:look l b=some i):(b,i)∈l:=by
 unfold look at h;cases q:l.find? fun x=>x.1==b with
 | none=>rw [q] at h;cases h
 | some x=>
  rw [q] at h;have h1:=List.find?_some q;have h2:=List.mem_of_find?_eq_some q;simp at h h1;rw [←h1,←h];exact h2
theorem Bk.Ok.Mt {B:Bk} (k:B.Ok) {b:Bytes}{i:Nat} (h:look B.names b=some i):i < B.P+B.ns.length:=by
 have hm:=Sd h;unfold Bk.names at hm;rcases List.mem_append.mp hm with z | z
 ·have:=(List.mem_zipIdx z).2.1;simp at this;unfold Bk.P;omega
 ·exact k.lt _ z
theorem pZ {e:Known}{t:Toks}{x:Bytes×Toks} (h:newName e t=.ok x):x.2.length+1=t.length:=by
 match t,h with
 | (.name b,k)::r,h=>
  rw [newName] at h;split at h
  ·cases h
  ·cases h;rfl
 | [],h=>simp [newName] at h
 | (.num b,k)::r,h=>simp [newName] at h
 | (.sign b,k)::r,h=>simp [newName] at h
 | (.bad,k)::r,h=>simp [newName] at h
 | (.ended,k)::r,h=>simp [newName] at h
theorem p7 (f:Nat) (e:Known) (t:Toks):people (f+1) e t=(newName e t).bind fun (x:Bytes×Toks)=>if is_ 44 x.2=true then people f ⟨e.people++[x.1],e.lets⟩ (x.2.drop 1) else .ok (⟨e.people++[x.1],e.lets⟩,x.2):=rfl
theorem mG:∀ (f g:Nat) (e:Known) (t:Toks),t.length < f→t.length < g→people f e t=people g e t
 | 0,_,_,_,h,_=>absurd h (Nat.not_lt_zero _)
 | _+1,0,_,_,_,h=>absurd h (Nat.not_lt_zero _)
 | f+1,g+1,e,t,h1,h2=>by
  rw [p7,p7];refine aJ fun x hx=>?_;have:=pZ hx;by_cases hi:is_ 44 x.2=true
  ·rw [if_pos hi,if_pos hi];have:=(uW hi).2;exact mG f g _ _ (by omega) (by omega)
  ·rw [if_neg hi,if_neg hi]
def g8 (e:Known) (t:Toks):Read Known:=people (t.length+1) e t
theorem JD (e:Known) (t:Toks):g8 e t=(newName e t).bind fun (x:Bytes×Toks)=>if is_ 44 x.2=true then g8 ⟨e.people++[x.1],e.lets⟩ (x.2.drop 1) else .ok (⟨e.people++[x.1],e.lets⟩,x.2):=by
 unfold g8;rw [p7];refine aJ fun x hx=>?_;have:=pZ hx;by_cases hi:is_ 44 x.2=true
 ·rw [if_pos hi,if_pos hi];have:=(uW hi).2;exact mG _ _ _ _ (by omega) (by omega)
 ·rw [if_neg hi,if_neg hi]
theorem FW {e:Known}{t:Toks}{x:Form×Toks} (h:formula e t=.ok x):x.2.length < t.length:=by
 rw [yH] at h;cases q:RL e 2 t with
 | error k=>rw [q] at h;cases h
 | ok y=>
  rw [q] at h;simp only [Except.map,Except.ok.injEq] at h;subst h;exact RW (by unfold cP;omega) q
def jz (e:Known) (t:Toks) (k:Known→Toks→Except Nat Known):Except Nat Known:=
 if atEnd t=true then .ok e
 else if isKey "let" t=false then .error (placeOf t)
 else (newName e (t.drop 1)).bind fun (x:Bytes×Toks)=>(take_ 61 x.2).bind fun (u:Toks)=>(formula e u).bind fun (y:Form×Toks)=>(take_ 59 y.2).bind fun (r:Toks)=>k ⟨e.people,e.lets++[(x.1,y.1)]⟩ r
theorem uZ (f:Nat) (e:Known) (t:Toks):lets (f+1) e t=jz e t (lets f):=rfl
theorem p8 {e:Known}{t:Toks}{k k':Known→Toks→Except Nat Known} (h:∀ e' r,r.length < t.length→k e' r=k' e' r):jz e t k=jz e t k':=by
 unfold jz;by_cases h1:atEnd t=true
 ·rw [if_pos h1,if_pos h1]
 ·rw [if_neg h1,if_neg h1];by_cases h2:isKey "let" t=false
  ·rw [if_pos h2,if_pos h2]
  ·rw [if_neg h2,if_neg h2];refine aJ fun x hx=>aJ fun u hu=>aJ fun y hy=>aJ fun r hr=>h _ _ ?_;have h3:=pZ hx;have h4:=take_len hu;have h5:=FW hy;have h6:=take_len hr;have h7:(t.drop 1).length≤t.length:=by simp
   omega
theorem vV:∀ (f g:Nat) (e:Known) (t:Toks),t.length < f→t.length < g→lets f e t=lets g e t
 | 0,_,_,_,h,_=>absurd h (Nat.not_lt_zero _)
 | _+1,0,_,_,_,h=>absurd h (Nat.not_lt_zero _)
 | f+1,g+1,e,t,h1,h2=>by
  rw [uZ,uZ];exact p8 fun e' r hr=>vV f g e' r (by omega) (by omega)
def lW (e:Known) (t:Toks):Except Nat Known:=lets (t.length+1) e t
theorem yO (e:Known) (t:Toks):lW e t=jz e t lW:=by
 unfold lW;rw [uZ];exact p8 fun e' r hr=>vV _ _ _ _ (by omega) (by omega)
theorem JF (t:Toks):program t=(field t).bind fun (x:Nat×Toks)=>if isKey "who" x.2=false then .error (placeOf x.2) else
  (g8 ⟨[],[]⟩ (x.2.drop 1)).bind fun (y:Known×Toks)=>(take_ 59 y.2).bind fun (r:Toks)=>(lW y.1 r).map fun (e:Known)=>⟨x.1,e.people,e.lets⟩:=by
 unfold program;refine aJ fun x _=>?_;by_cases h:isKey "who" x.2=false
 ·rw [if_pos h,if_pos h]
 ·rw [if_neg h,if_neg h];have hl:(x.2.drop 1).length≤x.2.length:=by simp
  unfold g8;rw [mG (x.2.length+1) ((x.2.drop 1).length+1) _ _ (by omega) (by omega)];rfl
theorem Bp {B:Bk} (k:B.Ok) (p:Nat):small ⟨p,B.people,B.known.lets⟩=true ↔
  B.people.length≤10∧B.ls.length≤16∧Narrow p B.ns∧∀ x∈B.ls,(leaves (den B.P B.ns x.2)).length≤24:=by
 unfold small;rw [Bool.and_eq_true,Bool.and_eq_true,List.all_eq_true];show (decide (B.people.length≤10)=true∧decide ((B.ls.map fun x=>(x.1,den B.P B.ns x.2)).length≤16)=true∧∀ x∈B.ls.map fun x=>(x.1,den B.P B.ns x.2),_)↔_;rw [List.length_map,decide_eq_true_iff,decide_eq_true_iff];constructor
 ·rintro ⟨h1,h2,h3⟩;have h3':∀ x∈B.ls,(leaves (den B.P B.ns x.2)).length≤24∧sound p (den B.P B.ns x.2)=true:=fun x hx=>by
   have:=h3 _ (List.mem_map.mpr ⟨x,hx,rfl⟩);rw [Bool.and_eq_true,decide_eq_true_iff] at this;exact this
  refine ⟨h1,h2,k.cov.narrow k.good p fun i hi=>?_,fun x hx=>(h3' x hx).1⟩;obtain ⟨x,hx,rfl⟩:=List.mem_map.mp hi;exact (h3' x hx).2
 ·rintro ⟨h1,h2,h3,h4⟩;refine ⟨h1,h2,fun x hx=>?_⟩;obtain ⟨y,hy,rfl⟩:=List.mem_map.mp hx;rw [Bool.and_eq_true,decide_eq_true_iff];exact ⟨h4 y hy,wu B.ns k.good h3 y.2 (k.lt y hy)⟩
end Sp
end
section
set_option linter.all false
namespace Sp
open Rb35
structure jA (B:Bk) (ns:List aF) (st:List aD):Prop where
 ext:∃ more,ns=B.ns++more
 good:Good B.P ns
 Vz:∀ i∈B.ls.map (·.2),i < B.P+ns.length
 lt:∀ i∈st.flatMap aD.all,i < B.P+ns.length
 cov:Eh B.P ns (B.ls.map (·.2)++st.flatMap aD.all)
section
variable {B:Bk}{ns:List aF}{F G:aD}{r:List aD}
theorem jA.start (k:B.Ok):jA B B.ns [aD.empty 0]:=⟨⟨[],by simp⟩,k.good,fun i hi=>by obtain ⟨x,hx,rfl⟩:=List.mem_map.mp hi;exact k.lt x hx,fun i hi=>by simp [aD.all,aD.empty] at hi,by
 have e:([aD.empty 0].flatMap aD.all)=[]:=rfl;rw [e,List.append_nil];exact k.cov⟩
theorem jA.le (S:jA B ns r):B.ns.length≤ns.length:=by
 obtain ⟨m,rfl⟩:=S.ext;rw [List.length_append];omega
theorem jA.old (S:jA B ns r) {i:Nat} (h:i < B.P+B.ns.length):den B.P ns i=den B.P B.ns i:=by
 obtain ⟨m,rfl⟩:=S.ext;exact gZ m h
theorem jA.push (S:jA B ns r) (k:Nat):jA B ns (aD.empty k::r):=by
 have e:(aD.empty k::r).flatMap aD.all=r.flatMap aD.all:=rfl;exact ⟨S.ext,S.good,S.Vz,by rw [e];exact S.lt,by rw [e];exact S.cov⟩
theorem jA.part (k:B.Ok) (S:jA B ns (F::r)) {b:Bytes}{i:Nat} (h:look B.names b=some i):jA B ns ({ F with ps:=F.ps++[i] }::r):=by
 have hi:i < B.P+ns.length:=Nat.lt_of_lt_of_le (k.Mt h) (Nat.add_le_add_left S.le _);have mem:∀ j,j∈({ F with ps:=F.ps++[i] }::r).flatMap aD.all↔j=i∨j∈(F::r).flatMap aD.all:=fun j=>by
  simp only [List.flatMap_cons,aD.all,List.mem_append,List.mem_singleton];constructor
  ·rintro ((h | (h | (h | h))) | h) <;> simp [h]
  ·rintro (h | ((h | (h | h)) | h)) <;> simp [h]
 refine ⟨S.ext,S.good,S.Vz,fun j hj=>?_,S.cov.mono fun j hj=>?_⟩
 ·rcases (mem j).mp hj with rfl | z
  ·exact hi
  ·exact S.lt j z
 ·rcases List.mem_append.mp hj with z | z
  ·exact List.mem_append_left _ z
  ·exact List.mem_append_right _ ((mem j).mpr (.inr z))
def gR (ns:List aF) (F:aD):List aF:=dJ ns F.ps.length F.ps
def dM (P:Nat) (ns:List aF) (F:aD):aD:=⟨F.asked,F.fs,F.bs++[fQ P ns F.ps],[]⟩
def cu (P:Nat) (ns:List aF) (F:aD):List aF:=dJ (gR ns F) 1 (dM P ns F).bs
def nq (P:Nat) (ns:List aF) (F:aD):Nat:=fQ P (gR ns F) (dM P ns F).bs
def bW (P:Nat) (ns:List aF) (F:aD):aD:=⟨F.asked,F.fs++[nq P ns F],[],[]⟩
theorem fU {i:Nat} (h:i∈F.all):i∈(F::r).flatMap aD.all:=by rw [List.flatMap_cons];exact List.mem_append_left _ h
theorem nu {i:Nat} (h:i∈r.flatMap aD.all):i∈(F::r).flatMap aD.all:=by rw [List.flatMap_cons];exact List.mem_append_right _ h
theorem Sg (ns:List aF) (F:aD):∃ more,gR ns F=ns++more:=rQ _ _ _
theorem jA.eb (S:jA B ns (F::r)) (hp:F.ps≠[]):jA B (gR ns F) (dM B.P ns F::r):=by
 have hlen:1≤F.ps.length:=by cases h:F.ps with
  | nil=>exact absurd h hp
  | cons a b=>simp
 have hps:∀ i∈F.ps,i < B.P+ns.length:=fun i hi=>S.lt i (fU (by simp [aD.all,hi]));obtain ⟨m,em⟩:=Sg ns F;obtain ⟨m0,e0⟩:=S.ext;have hle:ns.length≤(gR ns F).length:=by rw [em,List.length_append];omega
 have mem:∀ j,j∈(dM B.P ns F::r).flatMap aD.all↔j=fQ B.P ns F.ps∨(j∈F.fs∨j∈F.bs)∨j∈r.flatMap aD.all:=fun j=>by
  simp only [List.flatMap_cons,aD.all,dM,List.mem_append,List.mem_singleton,List.append_nil];constructor
  ·rintro ((h | (h | h)) | h) <;> simp [h]
  ·rintro (h | (h | h) | h) <;> simp [h]
 refine ⟨⟨m0++m,by rw [em,e0,List.append_assoc]⟩,vR S.good hps hlen (Nat.le_refl _),fun i hi=>Nat.lt_of_lt_of_le (S.Vz i hi) (Nat.add_le_add_left hle _),fun j hj=>?_,?_⟩
 ·rcases (mem j).mp hj with rfl | (h | h) | h
  ·exact Bo hps
  ·exact Nat.lt_of_lt_of_le (S.lt j (fU (by simp [aD.all,h]))) (Nat.add_le_add_left hle _)
  ·exact Nat.lt_of_lt_of_le (S.lt j (fU (by simp [aD.all,h]))) (Nat.add_le_add_left hle _)
  ·exact Nat.lt_of_lt_of_le (S.lt j (nu h)) (Nat.add_le_add_left hle _)
 ·refine yK (a:=B.ls.map (·.2)++(F::r).flatMap aD.all) S.cov hps (fun i hi=>?_) (fun i hi=>?_) (List.mem_append_right _ ((mem _).mpr (.inl rfl)))
  ·rcases List.mem_append.mp hi with z | z
   ·exact S.Vz i z
   ·exact S.lt i z
  ·rcases List.mem_append.mp hi with z | z
   ·exact .inr (List.mem_append_left _ z)
   ·rw [List.flatMap_cons] at z;rcases List.mem_append.mp z with z | z
    ·simp only [aD.all,List.mem_append] at z;rcases z with z | z | z
     ·exact .inr (List.mem_append_right _ ((mem i).mpr (.inr (.inl (.inl z)))))
     ·exact .inr (List.mem_append_right _ ((mem i).mpr (.inr (.inl (.inr z)))))
     ·exact .inl z
    ·exact .inr (List.mem_append_right _ ((mem i).mpr (.inr (.inr z))))
theorem Dj {P:Nat}{l:List aD}{more:List aF} (h:∀ i∈l.flatMap aD.all,i < P+ns.length):l.map (aD.den P (ns++more))=l.map (aD.den P ns):=
 List.map_congr_left fun F hF=>aD.gZ more fun i hi=>h i (List.mem_flatMap.mpr ⟨F,hF,hi⟩)
theorem jA.Sh (S:jA B ns (F::r)):(dM B.P ns F).den B.P (gR ns F)=⟨F.asked,F.fs.map (den B.P ns),F.bs.map (den B.P ns)++[grp 1 (F.ps.map (den B.P ns))],[]⟩∧r.map (aD.den B.P (gR ns F))=r.map (aD.den B.P ns):=by
 have hps:∀ i∈F.ps,i < B.P+ns.length:=fun i hi=>S.lt i (fU (by simp [aD.all,hi]));have hj:=yJ (P:=B.P) (ns:=ns) (w:=F.ps) (what:=1) (k:=F.ps.length) hps rfl;obtain ⟨m,em⟩:=Sg ns F;constructor
 ·unfold aD.den dM;dsimp only;rw [List.map_append,List.map_cons,List.map_nil];show (⟨F.asked,F.fs.map (Sp.den B.P (gR ns F)),F.bs.map (Sp.den B.P (gR ns F))++[Sp.den B.P (dJ ns F.ps.length F.ps) (fQ B.P ns F.ps)],[]⟩:wk)=_;rw [hj,em,fP m fun i hi=>S.lt i (fU (by simp [aD.all,hi])),fP m fun i hi=>S.lt i (fU (by simp [aD.all,hi]))]
 ·rw [em];exact Dj fun i hi=>S.lt i (nu hi)
theorem jA.ef (S:jA B ns (F::r)) (hp:F.ps≠[]):jA B (cu B.P ns F) (bW B.P ns F::r):=by
 have S1:=S.eb hp;have hlen:1≤(dM B.P ns F).bs.length:=by simp [dM]
 have hbs:∀ i∈(dM B.P ns F).bs,i < B.P+(gR ns F).length:=fun i hi=>S1.lt i (fU (by simp [aD.all,hi]));obtain ⟨m,em⟩:=rQ (gR ns F) 1 (dM B.P ns F).bs;obtain ⟨m0,e0⟩:=S1.ext;have hle:(gR ns F).length≤(cu B.P ns F).length:=by unfold cu;rw [em,List.length_append];omega
 have mem:∀ j,j∈(bW B.P ns F::r).flatMap aD.all↔j=nq B.P ns F∨j∈F.fs∨j∈r.flatMap aD.all:=fun j=>by
  simp only [List.flatMap_cons,aD.all,bW,List.mem_append,List.mem_singleton,List.append_nil];constructor
  ·rintro ((h | h) | h) <;> simp [h]
  ·rintro (h | h | h) <;> simp [h]
 refine ⟨⟨m0++m,by unfold cu;rw [em,e0,List.append_assoc]⟩,vR S1.good hbs (Nat.le_refl _) hlen,fun i hi=>Nat.lt_of_lt_of_le (S1.Vz i hi) (Nat.add_le_add_left hle _),fun j hj=>?_,?_⟩
 ·rcases (mem j).mp hj with rfl | h | h
  ·exact Bo hbs
  ·exact Nat.lt_of_lt_of_le (S1.lt j (fU (by simp [aD.all,dM,h]))) (Nat.add_le_add_left hle _)
  ·exact Nat.lt_of_lt_of_le (S1.lt j (nu h)) (Nat.add_le_add_left hle _)
 ·refine yK (a:=B.ls.map (·.2)++(dM B.P ns F::r).flatMap aD.all) S1.cov hbs (fun i hi=>?_) (fun i hi=>?_) (List.mem_append_right _ ((mem _).mpr (.inl rfl)))
  ·rcases List.mem_append.mp hi with z | z
   ·exact S1.Vz i z
   ·exact S1.lt i z
  ·rcases List.mem_append.mp hi with z | z
   ·exact .inr (List.mem_append_left _ z)
   ·rw [List.flatMap_cons] at z;rcases List.mem_append.mp z with z | z
    ·have z:i∈F.fs∨i∈(dM B.P ns F).bs:=by simpa [aD.all,dM] using z
     rcases z with z | z
     ·exact .inr (List.mem_append_right _ ((mem i).mpr (.inr (.inl z))))
     ·exact .inl z
    ·exact .inr (List.mem_append_right _ ((mem i).mpr (.inr (.inr z))))
theorem jA.Dk (S:jA B ns (F::r)) (hp:F.ps≠[]):den B.P (cu B.P ns F) (nq B.P ns F)=grp 2 (F.bs.map (den B.P ns)++[grp 1 (F.ps.map (den B.P ns))]) ∧
  (bW B.P ns F).den B.P (cu B.P ns F)=⟨F.asked,F.fs.map (den B.P ns)++[grp 2 (F.bs.map (den B.P ns)++[grp 1 (F.ps.map (den B.P ns))])],[],[]⟩∧r.map (aD.den B.P (cu B.P ns F))=r.map (aD.den B.P ns):=by
 have S1:=S.eb hp;have hbs:∀ i∈(dM B.P ns F).bs,i < B.P+(gR ns F).length:=fun i hi=>S1.lt i (fU (by simp [aD.all,hi]));have hj:=yJ (P:=B.P) (ns:=gR ns F) (w:=(dM B.P ns F).bs) (what:=2) (k:=1) hbs rfl;obtain ⟨e1,e2⟩:=S.Sh;have eb:(dM B.P ns F).bs.map (den B.P (gR ns F))=F.bs.map (den B.P ns)++[grp 1 (F.ps.map (den B.P ns))]:=congrArg wk.bs e1;have ef0:(dM B.P ns F).fs.map (den B.P (gR ns F))=F.fs.map (den B.P ns):=congrArg wk.fs e1;rw [eb] at hj;obtain ⟨m,em⟩:=rQ (gR ns F) 1 (dM B.P ns F).bs;have hj':den B.P (cu B.P ns F) (nq B.P ns F)=grp 2 (F.bs.map (den B.P ns)++[grp 1 (F.ps.map (den B.P ns))]):=hj;refine ⟨hj',?_,?_⟩
 ·unfold aD.den;show (⟨F.asked,(F.fs++[nq B.P ns F]).map (Sp.den B.P (cu B.P ns F)),[],[]⟩:wk)=_;rw [List.map_append,List.map_cons,List.map_nil,hj'];unfold cu;rw [em,fP m fun i hi=>S1.lt i (fU (by simp [aD.all,dM,hi]))];have ef1:F.fs.map (den B.P (gR ns F))=F.fs.map (den B.P ns):=ef0;rw [ef1]
 ·unfold cu;rw [em,Dj fun i hi=>S1.lt i (nu hi),e2]
theorem jA.close (S:jA B ns (F::G::r)) (hf:F.bs=[]∧F.ps=[]) {i:Nat} (hi:F.fs=[i]):jA B ns ({ G with ps:=G.ps++[i] }::r):=by
 have mem:∀ j,j∈({ G with ps:=G.ps++[i] }::r).flatMap aD.all↔j∈(F::G::r).flatMap aD.all:=fun j=>by
  simp only [List.flatMap_cons,aD.all,List.mem_append,List.mem_singleton,hf.1,hf.2,hi,List.append_nil];constructor
  ·rintro ((h | (h | (h | h))) | h) <;> simp [h]
  ·rintro (h | ((h | (h | h)) | h)) <;> simp [h]
 exact ⟨S.ext,S.good,S.Vz,fun j hj=>S.lt j ((mem j).mp hj),S.cov.mono fun j hj=>by
  rcases List.mem_append.mp hj with z | z
  ·exact List.mem_append_left _ z
  ·exact List.mem_append_right _ ((mem j).mpr z)⟩
theorem jA.Y8 (S:jA B ns (F::G::r)) (hf:F.bs=[]∧F.ps=[]) (h1:1≤F.asked) (h2:F.asked≤F.fs.length):jA B (ns++[(F.asked,F.fs)]) ({ G with ps:=G.ps++[B.P+ns.length] }::r):=by
 have hfs:∀ i∈F.fs,i < B.P+ns.length:=fun i hi=>S.lt i (fU (by simp [aD.all,hi]));have mem:∀ j,j∈({ G with ps:=G.ps++[B.P+ns.length] }::r).flatMap aD.all↔j=B.P+ns.length∨j∈(G::r).flatMap aD.all:=fun j=>by
  simp only [List.flatMap_cons,aD.all,List.mem_append,List.mem_singleton];constructor
  ·rintro ((h | (h | (h | h))) | h) <;> simp [h]
  ·rintro (h | ((h | (h | h)) | h)) <;> simp [h]
 obtain ⟨m,em⟩:=S.ext;have hl:(ns++[(F.asked,F.fs)]).length=ns.length+1:=by simp
 refine ⟨⟨m++[(F.asked,F.fs)],by rw [em,List.append_assoc]⟩,S.good.snoc hfs h1 h2,fun i hi=>by rw [hl];have:=S.Vz i hi;omega,fun j hj=>?_,?_⟩
 ·rw [hl];rcases (mem j).mp hj with rfl | z
  ·omega
  ·have:=S.lt j (nu z);omega
 ·refine S.cov.node hfs (fun i hi=>?_) (fun i hi=>?_) (List.mem_append_right _ ((mem _).mpr (.inl rfl)))
  ·rcases List.mem_append.mp hi with z | z
   ·exact S.Vz i z
   ·exact S.lt i z
  ·rcases List.mem_append.mp hi with z | z
   ·exact .inr (List.mem_append_left _ z)
   ·rw [List.flatMap_cons] at z;rcases List.mem_append.mp z with z | z
    ·have z:i∈F.fs:=by simpa [aD.all,hf.1,hf.2] using z
     exact .inl z
    ·exact .inr (List.mem_append_right _ ((mem i).mpr (.inr z)))
theorem jA.known (S:jA B ns r) (k:B.Ok):(⟨B.people,ns,B.ls⟩:Bk).known=B.known:=by
 unfold Bk.known;show (⟨B.people,B.ls.map fun x=>(x.1,den B.P ns x.2)⟩:Known)=_;congr 1;refine List.map_congr_left fun x hx=>?_;rw [S.old (k.lt x hx)]
theorem jA.done (k:B.Ok) (S:jA B ns [F]) (hf:F.bs=[]∧F.ps=[]) {i:Nat} (hi:F.fs=[i]) (x:Bytes):(⟨B.people,ns,B.ls++[(x,i)]⟩:Bk).Ok ∧
  (⟨B.people,ns,B.ls++[(x,i)]⟩:Bk).known=⟨B.known.people,B.known.lets++[(x,den B.P ns i)]⟩:=by
 have hall:[F].flatMap aD.all=[i]:=by simp [aD.all,hf.1,hf.2,hi]
 refine ⟨⟨S.good,fun y hy=>?_,?_⟩,?_⟩
 ·rcases List.mem_append.mp hy with z | z
  ·exact S.Vz y.2 (List.mem_map.mpr ⟨y,z,rfl⟩)
  ·simp at z;subst z;exact S.lt i (by rw [hall];simp)
 ·have c:=S.cov;rw [hall] at c;show Eh B.P ns ((B.ls++[(x,i)]).map (·.2));rw [List.map_append];exact c
 ·have e:=S.known k;unfold Bk.known at e ⊢;show (⟨B.people,(B.ls++[(x,i)]).map fun y=>(y.1,den B.P ns y.2)⟩:Known)=_;rw [List.map_append];have e2:(B.ls.map fun y=>(y.1,den B.P ns y.2))=B.ls.map fun y=>(y.1,den B.P B.ns y.2):=congrArg Known.lets e;rw [e2];rfl
end
end Sp
end
section
set_option linter.all false
set_option maxRecDepth 100000
namespace Pg
open PySem L2 Xc Sp
theorem gn {f:Str}{v:V}{r:List (Str×V)}:List.lookup f ((f,v)::r)=some v:=by rw [List.lookup_cons,beq_self_eq_true]
theorem bH {f g:Str}{v:V}{r:List (Str×V)} (h:¬ f=g):List.lookup f ((g,v)::r)=List.lookup f r:=by rw [List.lookup_cons,beq_eq_false_iff_ne.mpr h]
theorem JG {f:Str}{v x:V}{r:List (Str×V)}:cU f v ((f,x)::r)=(f,v)::r:=by
 rw [show cU f v ((f,x)::r)=(if f=f then (f,v)::r else (f,x)::cU f v r) from rfl,if_pos rfl]
theorem gj {f g:Str}{v x:V}{r:List (Str×V)} (h:¬ g=f):cU f v ((g,x)::r)=(g,x)::cU f v r:=by
 rw [show cU f v ((g,x)::r)=(if g=f then (g,v)::r else (g,x)::cU f v r) from rfl,if_neg h]
theorem oh {f:Str}{v:V}:cU f v []=[(f,v)]:=rfl
def bR (l:List Nat):Str:=⟨l.toArray⟩
theorem Dl {a b:List Nat} (h:bR a=bR b):a=b:=by
 have:=congrArg TL.tl h;exact this
def kindS (w:List Nat):Str:=match w with
 | []=>"end"
 | c::r=>if Rb35.isSmall c=true∧(c::r).length≤15∧¬ Rb35.keys.contains (c::r)=true then "name" else if Rb35.isDigit c=true∧(c::r).length≤5 then "number" else "other"
def FZ (k w:Str) (p:Int):List (Str×V):=[("kind",.str k),("word",.str w),("place",.int p)]
def ndF (k:Int) (wl:Addr):List (Str×V):=[("asked",.int k),("within",.ref wl)]
def QS (p:Int) (pa na la ma:Addr):List (Str×V):=[("prime",.int p),("people",.ref pa),("nodes",.ref na),("lets",.ref la),("names",.ref ma)]
def Bq (k:Int) (fl bl pl:Addr):List (Str×V):=[("asked",.int k),("formulas",.ref fl),("boths",.ref bl),("parts",.ref pl)]
def Jd (lt:Addr) (i:Int):List (Str×V):=[("tokens",.ref lt),("at",.int i)]
theorem nA (k w:Str) (p:Int):(FZ k w p).lookup ("kind":Str)=some (.str k):=gn
theorem iW (k w:Str) (p:Int):(FZ k w p).lookup ("word":Str)=some (.str w):=(bH (by decide +kernel)).trans gn
theorem JH (k w:Str) (p:Int):(FZ k w p).lookup ("place":Str)=some (.int p):=(bH (by decide +kernel)).trans ((bH (by decide +kernel)).trans gn)
theorem Pa (k:Int) (wl:Addr):(ndF k wl).lookup ("asked":Str)=some (.int k):=gn
theorem ou (k:Int) (wl:Addr):(ndF k wl).lookup ("within":Str)=some (.ref wl):=(bH (by decide +kernel)).trans gn
section
variable (p:Int) (pa na la ma:Addr)
theorem u0:(QS p pa na la ma).lookup ("prime":Str)=some (.int p):=gn
theorem fV:(QS p pa na la ma).lookup ("people":Str)=some (.ref pa):=(bH (by decide +kernel)).trans gn
theorem nF:(QS p pa na la ma).lookup ("nodes":Str)=some (.ref na):=(bH (by decide +kernel)).trans ((bH (by decide +kernel)).trans gn)
theorem qb:(QS p pa na la ma).lookup ("lets":Str)=some (.ref la):=(bH (by decide +kernel)).trans ((bH (by decide +kernel)).trans ((bH (by decide +kernel)).trans gn))
theorem j9:(QS p pa na la ma).lookup ("names":Str)=some (.ref ma):=(bH (by decide +kernel)).trans ((bH (by decide +kernel)).trans ((bH (by decide +kernel)).trans ((bH (by decide +kernel)).trans gn)))
theorem oA {m:Str} (h1:¬ m="prime") (h2:¬ m="people") (h3:¬ m="nodes") (h4:¬ m="lets") (h5:¬ m="names"):(QS p pa na la ma).lookup m=none:=
 (bH h1).trans ((bH h2).trans ((bH h3).trans ((bH h4).trans ((bH h5).trans rfl))))
end
section
variable (k:Int) (fl bl pl x:Addr)
theorem qH:(Bq k fl bl pl).lookup ("asked":Str)=some (.int k):=gn
theorem ig:(Bq k fl bl pl).lookup ("formulas":Str)=some (.ref fl):=(bH (by decide +kernel)).trans gn
theorem Br:(Bq k fl bl pl).lookup ("boths":Str)=some (.ref bl):=(bH (by decide +kernel)).trans ((bH (by decide +kernel)).trans gn)
theorem qI:(Bq k fl bl pl).lookup ("parts":Str)=some (.ref pl):=(bH (by decide +kernel)).trans ((bH (by decide +kernel)).trans ((bH (by decide +kernel)).trans gn))
theorem yP {m:Str} (h1:¬ m="asked") (h2:¬ m="formulas") (h3:¬ m="boths") (h4:¬ m="parts"):(Bq k fl bl pl).lookup m=none:=
 (bH h1).trans ((bH h2).trans ((bH h3).trans ((bH h4).trans rfl)))
theorem Dm:cU "parts" (.ref x) (Bq k fl bl pl)=Bq k fl bl x:=by
 unfold Bq;rw [gj (by decide +kernel),gj (by decide +kernel),gj (by decide +kernel),JG]
theorem Dn:cU "boths" (.ref x) (Bq k fl bl pl)=Bq k fl x pl:=by
 unfold Bq;rw [gj (by decide +kernel),gj (by decide +kernel),JG]
end
theorem JK (lt:Addr) (i:Int):(Jd lt i).lookup ("tokens":Str)=some (.ref lt):=gn
theorem JL (lt:Addr) (i:Int):(Jd lt i).lookup ("at":Str)=some (.int i):=(bH (by decide +kernel)).trans gn
theorem Wt (lt:Addr) (i j:Int):cU "at" (.int j) (Jd lt i)=Jd lt j:=by
 unfold Jd;rw [gj (by decide +kernel),JG]
theorem iu (lt:Addr) (i:Int) {m:Str} (h1:¬ m="tokens") (h2:¬ m="at"):(Jd lt i).lookup m=none:=(bH h1).trans ((bH h2).trans rfl)
def Kp (F:List Addr) (H H':Hp):Prop:=∀ b o,H b=some o→b∉F→H' b=some o
theorem Kp.refl {H:Hp}{F:List Addr}:Kp F H H:=fun _ _ h _=>h
theorem Kp.trans {F:List Addr}{H H1 H2:Hp} (a:Kp F H H1) (b:Kp F H1 H2):Kp F H H2:=fun c o h n=>b c o (a c o h n) n
theorem Kp.mono {F G:List Addr}{H H1:Hp} (a:Kp F H H1) (h:∀ x∈F,x∈G):Kp G H H1:=fun c o q n=>a c o q fun z=>n (h c z)
theorem Kp.same {H H1:Hp} (h:Same H H1) (F:List Addr):Kp F H H1:=fun c o q _=>h c o q
theorem Kp.Y9 {H H1:Hp} (h:Kp [] H H1):Same H H1:=fun c o q=>h c o q (by simp)
theorem Kp.upd {F:List Addr}{H H1:Hp}{a:Addr}{o:HO} (h:Kp F H H1) (ha:a∈F∨H a=none):Kp F H (L2.upd H1 a o):=fun c u q n=>by
 have hca:c≠a:=by
  rcases ha with z | z
  ·exact fun e=>n (e▸z)
  ·exact aB q z
 rw [ak hca];exact h c u q n
structure Cs where
 jl:Addr
 boo:Addr
 tok:Addr
 dG:Addr
 cB:Addr
 ref:Addr
 mH:Addr
 pF:Addr
 cst:Addr
end Pg
end
section
set_option linter.all false
set_option maxRecDepth 100000
namespace Pg
open PySem PySem.Spec PyProof.Rows L2 Xc Sp
section
variable {P:Program}{w:World}{K:PySem.W.Frag}{mg:Str→Option Value}{base:Heap}
theorem okN {x qual:Str}{st:Stmt}{f:Addr}{fd:FuncData}{N ps:List Str}{k:Nat}{sp:Sp} (F:Jy K x qual st f fd) (S:aH N ps (au st)) (len:∀ vs H Q E,sp vs H Q E→vs.length=ps.length)
  (hbody:∀ (cdv:Value) (A:Around) (outer:List Env) (s:Shared) (H:Hp) (vs:List V) (Q:VK) (E:XK),dZ k (A.deeper (envOfC qual (au st) s.heap.objs.size f cdv))→sp vs H Q E →
   ∃ t,Jc (aL (bI P w) P w K mg base N qual (au st) f cdv A outer s H E).nox (cM st) t∧t { nx:=fun _ H'=>Q .non H',rt:=Q } (start N vs) H):iR P w K mg base (bI P w) (k+1) f fd ps sp:=by
 obtain ⟨oc,od,kV,doc,pm,an,cdv,ct,osl,rfl,lk,hcd⟩:=F.ex;refine Rp lk hcd S len fun A outer s H vs Q E hr hsp=>?_;obtain ⟨t,h,q⟩:=hbody cdv A outer s H vs Q E hr hsp;exact ⟨t,h.nox,q⟩
theorem Bs {x qual:Str}{st:Stmt}{f:Addr}{fd:FuncData}{N ps:List Str}{k:Nat}{sp:Sp} (F:Jy K x qual st f fd) (S:aH N ps (au st)) (len:∀ vs H Q E,sp vs H Q E→vs.length=ps.length)
  (hbody:∀ (cdv:Value) (A:Around) (outer:List Env) (s:Shared) (H:Hp) (vs:List V) (Q:VK) (E:XK),dZ k (A.deeper (envOfC qual (au st) s.heap.objs.size f cdv))→sp vs H Q E →
   ∃ t,Jc (aL (bI P w) P w K mg base N qual (au st) f cdv A outer s H E) (cM st) t∧t { nx:=fun _ H'=>Q .non H',rt:=Q } (start N vs) H):iR P w K mg base (bI P w) (k+1) f fd ps sp:=by
 obtain ⟨oc,od,kV,doc,pm,an,cdv,ct,osl,rfl,lk,hcd⟩:=F.ex;exact Rp lk hcd S len fun A outer s H vs Q E hr hsp=>hbody cdv A outer s H vs Q E hr hsp
structure aX (P:Program) (w:World) (K:PySem.W.Frag) (mg:Str→Option Value) (base:Heap) (k:Nat) (x:Str) (ps:List Str) (sp:Sp):Prop where
 ex:∃ f fd,mg x=some (.ref f)∧PySem.W.keepIn K (.ref f)=true∧Binds K fd ps []∧iR P w K mg base (bI P w) k f fd ps sp
structure bw (P:Program) (w:World) (K:PySem.W.Frag) (mg:Str→Option Value) (base:Heap) (k:Nat) (C:Addr) (m:Str) (ps:List Str) (sp:Sp):Prop where
 ex:∃ f fd,Meth K C m f∧Binds K fd ps []∧iR P w K mg base (bI P w) k f fd ps sp
structure kO (P:Program) (w:World) (K:PySem.W.Frag) (mg:Str→Option Value) (base:Heap) (k:Nat) (x:Str) (C:Addr) (ps:List Str) (sp:Sp):Prop where
 ex:∃ f fd,mg x=some (.ref C)∧Mk K C f∧Binds K fd ps []∧iR P w K mg base (bI P w) k f fd ps sp
theorem aX.mono {j k:Nat}{x:Str}{ps:List Str}{sp:Sp} (D:aX P w K mg base j x ps sp) (h:j≤k):aX P w K mg base k x ps sp:=
 let ⟨f,fd,a,b,c,d⟩:=D.ex;⟨f,fd,a,b,c,d.mono h⟩
theorem bw.mono {j k:Nat}{C:Addr}{x:Str}{ps:List Str}{sp:Sp} (D:bw P w K mg base j C x ps sp) (h:j≤k):bw P w K mg base k C x ps sp:=
 let ⟨f,fd,a,c,d⟩:=D.ex;⟨f,fd,a,c,d.mono h⟩
theorem kO.mono {j k:Nat}{C:Addr}{x:Str}{ps:List Str}{sp:Sp} (D:kO P w K mg base j x C ps sp) (h:j≤k):kO P w K mg base k x C ps sp:=
 let ⟨f,fd,a,b,c,d⟩:=D.ex;⟨f,fd,a,b,c,d.mono h⟩
end
section
variable {X:Cx}{k:Nat}{C:Addr}{ps:List Str}{sp:Sp}{E:XK}{x m:Str}{p pos apos:Pos}{e o:Expr}{es:List Expr}{ta:TE}{t:TA}
theorem bM (D:aX X.prog X.w X.K X.mg X.base k x ps sp) (hr:dZ k X.A) (hg:Gl X x) (hx:Passes (bI X.prog X.w) X E) (ha:PA X (e::es) t) (hdb:(x==("__debug__":Str))=false:=by decide)
  (he:starEach (e::es) X.env=(false,eval e X.env)::starEach es X.env:=by rfl) (hpl:(backTo pos (starEach es X.env)).any (·.1)=false:=by rfl):PE X (.Call (.Name x p) (e::es) [] pos) (Rk sp [] E t):=by
 obtain ⟨f,fd,h1,h2,h3,h4⟩:=D.ex;exact V2 h4 hr hg h1 h2 h3 .nil hx ha hdb he hpl
theorem rR (D:kO X.prog X.w X.K X.mg X.base k x C ps sp) (hr:dZ (k+1) X.A) (hg:Gl X x) (hx:Passes (bI X.prog X.w) X E) (ha:PA X (e::es) t) (hdb:(x==("__debug__":Str))=false:=by decide)
  (he:starEach (e::es) X.env=(false,eval e X.env)::starEach es X.env:=by rfl) (hpl:(backTo pos (starEach es X.env)).any (·.1)=false:=by rfl):PE X (.Call (.Name x p) (e::es) [] pos) (Rm C sp [] E t):=by
 obtain ⟨f,fd,h1,h2,h3,h4⟩:=D.ex;exact V4 h2 h4 hr hg h1 h3 .nil hx ha hdb he hpl
theorem bK {pl:Sem Bool} (he:PE X o ta) (c:Cls X.K C) (D:bw X.prog X.w X.K X.mg X.base k C m ps sp) (hr:dZ k X.A) (hx:Passes (bI X.prog X.w) X E) (ha:PA X (e::es) t)
  (hst:starEach (e::es) X.env=(false,eval e X.env)::starEach es X.env:=by rfl) (hpl:(backTo pos (starEach es X.env)).any (·.1)=false:=by rfl)
  (ht:eval (.Call (.Attribute o m apos) (e::es) [] pos) X.env=(do
   let ov ←eval o X.env
   standAt apos.atName
   let (f,first) ←holding [ov] (getMethod ov m pl)
   callWith pos f first (backTo pos (starEach (e::es) X.env)) (backToKw pos (keywordEach [] X.env))):=by rfl) :
  PE X (.Call (.Attribute o m apos) (e::es) [] pos) (tH C m sp [] E ta t):=by
 obtain ⟨f,fd,h2,h3,h4⟩:=D.ex;exact V3 (pl:=pl) he c h2 h4 hr h3 .nil hx ha hst hpl ht
theorem dR {pl:Sem Bool} (he:PE X o ta) (c:Cls X.K C) (D:bw X.prog X.w X.K X.mg X.base k C m ps sp) (hr:dZ k X.A) (hx:Passes (bI X.prog X.w) X E)
  (ht:eval (.Call (.Attribute o m apos) [] [] pos) X.env=(do
   let ov ←eval o X.env
   standAt apos.atName
   let (f,first) ←holding [ov] (getMethod ov m pl)
   callWith pos f first (backTo pos (starEach [] X.env)) (backToKw pos (keywordEach [] X.env))):=by rfl) :
  PE X (.Call (.Attribute o m apos) [] [] pos) (tH C m sp [] E ta uL):=by
 obtain ⟨f,fd,h2,h3,h4⟩:=D.ex;exact Rn (pl:=pl) he c h2 h4 hr h3 .nil hx ht
end
structure bJ (K:PySem.W.Frag) (mg:Str→Option Value) (x:Str) (st:Stmt):Prop where
 ex:∃ f fd,Jy K x x st f fd∧mg x=some (.ref f)
structure gq (K:PySem.W.Frag) (C:Addr) (m qual:Str) (st:Stmt):Prop where
 ex:∃ f fd,Jy K m qual st f fd∧Meth K C m f
structure yQ (K:PySem.W.Frag) (mg:Str→Option Value) (x:Str) (C:Addr) (qual:Str) (st:Stmt):Prop where
 ex:∃ f fd,Jy K "__init__" qual st f fd∧Mk K C f∧mg x=some (.ref C)
structure Gd (K:PySem.W.Frag) (mg:Str→Option Value) (x:Str) (C:Addr) (qual:Str) (st:Stmt):Prop where
 ex:∃ f fd,Jy K "__init__" qual st f fd∧JC K C f∧mg x=some (.ref C)
 cls:Wm K C
abbrev cF (K:PySem.W.Frag) (C:Addr) (fs:List Str):Prop:=∀ f∈fs,pI K C f
end Pg
end
section
set_option linter.all false
set_option maxRecDepth 100000
set_option maxHeartbeats 4000000
namespace Pg
open PySem L2 Xc Sp
def top (i:Nat):Stmt:=PySem.Challenge.pw_secretparts_s06_open_by.main.body.getD i (.Pass ⟨0,0,0,0⟩)
abbrev cG:Stmt:=top 1
abbrev oE:Stmt:=top 2
abbrev oF:Stmt:=top 3
abbrev gC:Stmt:=top 5
abbrev lX:Stmt:=top 6
abbrev iw:Stmt:=top 7
abbrev cQ:Stmt:=inClass (top 9) 0
abbrev gK:Stmt:=inClass (top 10) 0
abbrev cO:Stmt:=inClass (top 11) 0
abbrev iy:Stmt:=inClass (top 12) 0
abbrev gw:Stmt:=inClass (top 13) 0
abbrev eY:Stmt:=top 15
abbrev nG:Stmt:=top 19
abbrev oG:Stmt:=top 20
abbrev lY:Stmt:=top 21
abbrev cV:Stmt:=top 22
abbrev oH:Stmt:=inClass (top 24) 0
abbrev oK:Stmt:=inClass (top 25) 0
abbrev gM:Stmt:=inClass (top 25) 1
abbrev iY:Stmt:=inClass (top 25) 2
abbrev jJ:Stmt:=inClass (top 25) 3
abbrev fJ:Stmt:=inClass (top 25) 4
abbrev gJ:Stmt:=inClass (top 25) 5
abbrev mJ:Stmt:=inClass (top 39) 0
abbrev oM:Stmt:=top 40
abbrev nH:Stmt:=top 41
abbrev rT:Stmt:=top 42
abbrev jK:Stmt:=top 43
abbrev rW:Stmt:=top 44
abbrev jL:Stmt:=inClass (top 46) 0
abbrev gA:Stmt:=inClass (top 46) 1
abbrev eO:Stmt:=inClass (top 46) 2
abbrev u9:Stmt:=top 47
abbrev jM:Stmt:=top 48
abbrev iz:Stmt:=top 49
abbrev iB:Stmt:=top 50
abbrev vd:Stmt:=top 51
abbrev jN:Stmt:=top 52
abbrev fW:Stmt:=top 57
abbrev kW:Stmt:=inClass (top 60) 0
abbrev mK:Stmt:=inClass (top 60) 1
abbrev kY:Stmt:=inClass (top 60) 2
abbrev eU:Stmt:=inClass (top 60) 3
abbrev dU:Stmt:=inClass (top 60) 4
abbrev dw:Stmt:=inClass (top 60) 5
abbrev fX:Stmt:=inClass (top 60) 6
abbrev fY:Stmt:=inClass (top 60) 7
abbrev lZ:Stmt:=top 61
abbrev rY:Stmt:=top 64
abbrev mL:Stmt:=top 65
abbrev kZ:Stmt:=top 66
abbrev qd:Stmt:=top 67
abbrev eV:Stmt:=top 70
abbrev bG:Stmt:=top 71
abbrev jV:Stmt:=top 72
abbrev jm:Stmt:=top 73
abbrev iC:Stmt:=top 74
theorem Za (k:Int) (wl:Addr):cU "within" (.ref wl) (cU "asked" (.int k) [])=ndF k wl:=by
 unfold ndF;rw [oh,gj (by decide +kernel),oh]
theorem Wu (k w:Str) (p:Int):cU "place" (.int p) (cU "word" (.str w) (cU "kind" (.str k) []))=FZ k w p:=by
 unfold FZ;rw [oh,gj (by decide +kernel),oh,gj (by decide +kernel),gj (by decide +kernel),oh]
theorem Zb (lt:Addr) (i:Int):cU "at" (.int i) (cU "tokens" (.ref lt) [])=Jd lt i:=by
 unfold Jd;rw [oh,gj (by decide +kernel),oh]
def Sq (cs:Cs):Sp:=fun vs H Q _=>∃ (p dx wl:Addr) (k:Int),vs=[.ref p,.int k,.ref wl]∧H p=some (.ins cs.jl dx [])∧∀ H',H' p=some (.ins cs.jl dx (ndF k wl))→Kp [p] H H'→Q .non H'
def Mu (cs:Cs):Sp:=fun vs H Q _=>∃ (p dx:Addr) (k w:Str) (i:Int),vs=[.ref p,.str k,.str w,.int i]∧H p=some (.ins cs.tok dx [])∧∀ H',H' p=some (.ins cs.tok dx (FZ k w i))→Kp [p] H H'→Q .non H'
def Ge (cs:Cs):Sp:=fun vs H Q _=>∃ (p dx lt:Addr),vs=[.ref p,.ref lt]∧H p=some (.ins cs.cB dx [])∧∀ H',H' p=some (.ins cs.cB dx (Jd lt 0))→Kp [p] H H'→Q .non H'
section
variable {P:Program}{w:World}{K:PySem.W.Frag}{mg:Str→Option Value}{base:Heap}{cs:Cs}
theorem Wv:aH ["self","asked","within"] ["self","asked","within"] (au oH):=⟨rfl,rfl,rfl,by decide +kernel,rfl,by decide +kernel,by decide +kernel⟩
theorem Ww (T:yQ K mg "Node" cs.jl "Node.__init__" oH) (cl:Cls K cs.jl) (na:cF K cs.jl ["asked","within"]):kO P w K mg base 1 "Node" cs.jl ["self","asked","within"] (Sq cs):=by
 obtain ⟨f,fd,F,M,hm⟩:=T.ex;refine ⟨f,fd,hm,M,F.binds (fun _ _ _ _ _ _ us hl=>match us,hl with | [_,_,_],_=>rfl),okN F Wv (fun vs H Q E h=>?_) (fun cdv A outer s H vs Q E hr h=>?_)⟩
 ·obtain ⟨p,dx,wl,k,rfl,_⟩:=h;rfl
 ·obtain ⟨p,dx,wl,k,rfl,hp,kq⟩:=h;refine ⟨_,aq (fj (pv 0) (pv 1) rfl) (aC (fj (pv 0) (pv 2) rfl)),?_⟩;refine ⟨_,rfl,_,rfl,p,cs.jl,dx,[],rfl,hp,cl,na _ (by simp),(by show 0 < 1000;decide),_,rfl,_,rfl,p,cs.jl,dx,_,rfl,ao,cl,na _ (by simp),(by show 1 < 1000;decide),?_⟩;exact kq _ (Eq.trans ao (congrArg (fun q=>some (HO.ins cs.jl dx q)) (Za k wl))) (((Kp.refl).upd (.inl (by simp))).upd (.inl (by simp)))
theorem Ss:aH ["self","kind","word","place"] ["self","kind","word","place"] (au mJ):=⟨rfl,rfl,rfl,by decide +kernel,rfl,by decide +kernel,by decide +kernel⟩
theorem Sw (T:yQ K mg "Token" cs.tok "Token.__init__" mJ) (cl:Cls K cs.tok) (na:cF K cs.tok ["kind","word","place"]):kO P w K mg base 1 "Token" cs.tok ["self","kind","word","place"] (Mu cs):=by
 obtain ⟨f,fd,F,M,hm⟩:=T.ex;refine ⟨f,fd,hm,M,F.binds (fun _ _ _ _ _ _ us hl=>match us,hl with | [_,_,_,_],_=>rfl),okN F Ss (fun vs H Q E h=>?_) (fun cdv A outer s H vs Q E hr h=>?_)⟩
 ·obtain ⟨p,dx,k,wd,i,rfl,_⟩:=h;rfl
 ·obtain ⟨p,dx,k,wd,i,rfl,hp,kq⟩:=h;refine ⟨_,aq (fj (pv 0) (pv 1) rfl) (aq (fj (pv 0) (pv 2) rfl) (aC (fj (pv 0) (pv 3) rfl))),?_⟩;refine ⟨_,rfl,_,rfl,p,cs.tok,dx,[],rfl,hp,cl,na _ (by simp),(by show 0 < 1000;decide),_,rfl,_,rfl,p,cs.tok,dx,_,rfl,ao,cl,na _ (by simp),(by show 1 < 1000;decide),?_⟩;refine ⟨_,rfl,_,rfl,p,cs.tok,dx,_,rfl,ao,cl,na _ (by simp),?_,?_⟩
  ·exact Nat.lt_of_le_of_lt (lO _ _ _) (by show 1+1 < 1000;decide)
  ·exact kq _ (Eq.trans ao (congrArg (fun q=>some (HO.ins cs.tok dx q)) (Wu k wd i))) ((((Kp.refl).upd (.inl (by simp))).upd (.inl (by simp))).upd (.inl (by simp)))
theorem Pb:aH ["self","tokens"] ["self","tokens"] (au kW):=⟨rfl,rfl,rfl,by decide +kernel,rfl,by decide +kernel,by decide +kernel⟩
theorem Ph (T:yQ K mg "Reader" cs.cB "Reader.__init__" kW) (cl:Cls K cs.cB) (na:cF K cs.cB ["tokens","at"]):kO P w K mg base 1 "Reader" cs.cB ["self","tokens"] (Ge cs):=by
 obtain ⟨f,fd,F,M,hm⟩:=T.ex;refine ⟨f,fd,hm,M,F.binds (fun _ _ _ _ _ _ us hl=>match us,hl with | [_,_],_=>rfl),okN F Pb (fun vs H Q E h=>?_) (fun cdv A outer s H vs Q E hr h=>?_)⟩
 ·obtain ⟨p,dx,lt,rfl,_⟩:=h;rfl
 ·obtain ⟨p,dx,lt,rfl,hp,kq⟩:=h;refine ⟨_,aq (fj (pv 0) (pv 1) rfl) (aC (fj (pv 0) aR rfl)),?_⟩;refine ⟨_,rfl,_,rfl,p,cs.cB,dx,[],rfl,hp,cl,na _ (by simp),(by show 0 < 1000;decide),_,rfl,p,cs.cB,dx,_,rfl,ao,cl,na _ (by simp),(by show 1 < 1000;decide),?_⟩;exact kq _ (Eq.trans ao (congrArg (fun q=>some (HO.ins cs.cB dx q)) (Zb lt 0))) (((Kp.refl).upd (.inl (by simp))).upd (.inl (by simp)))
end
end Pg
end
section
set_option linter.all false
set_option maxRecDepth 100000
set_option maxHeartbeats 4000000
namespace Pg
open PySem L2 Xc Sp
theorem qX {f:Str}{v:V}{fs:List (Str×V)}{n:Nat} (h:fs.length≤n):(cU f v fs).length≤n+1:=Nat.le_trans (lO f v fs) (Nat.add_le_add_right h 1)
theorem Zc (k:Int) (pa na la ma:Addr):cU "names" (.ref ma) (cU "lets" (.ref la) (cU "nodes" (.ref na) (cU "people" (.ref pa) (cU "prime" (.int k) []))))=QS k pa na la ma:=by
 unfold QS
 repeat (first | rw [oh] | rw [gj (by decide +kernel)])
theorem Zd (k:Int) (fl bl pl:Addr):cU "parts" (.ref pl) (cU "boths" (.ref bl) (cU "formulas" (.ref fl) (cU "asked" (.int k) [])))=Bq k fl bl pl:=by
 unfold Bq
 repeat (first | rw [oh] | rw [gj (by decide +kernel)])
def Sx (cs:Cs):Sp:=fun vs H Q _=>∃ (p dx:Addr) (k:Int),vs=[.ref p,.int k]∧H p=some (.ins cs.boo dx [])∧∀ (pa na la ma:Addr) (H':Hp),H' p=some (.ins cs.boo dx (QS k pa na la ma)) →
 H' pa=some (.lst [])→H' na=some (.lst [])→H' la=some (.lst [])→H' ma=some (.dK [])→H pa=none→H na=none→H la=none→H ma=none→[pa,na,la].Nodup→Kp [p] H H'→Q .non H'
def qJ (cs:Cs):Sp:=fun vs H Q _=>∃ (p dx:Addr) (k:Int),vs=[.ref p,.int k]∧H p=some (.ins cs.dG dx [])∧∀ (fl bl pl:Addr) (H':Hp),H' p=some (.ins cs.dG dx (Bq k fl bl pl)) →
 H' fl=some (.lst [])→H' bl=some (.lst [])→H' pl=some (.lst [])→H fl=none→H bl=none→H pl=none→[fl,bl,pl].Nodup→Kp [p] H H'→Q .non H'
section
variable {P:Program}{w:World}{K:PySem.W.Frag}{mg:Str→Option Value}{base:Heap}{cs:Cs}
theorem JM:aH ["self","asked"] ["self","asked"] (au jL):=⟨rfl,rfl,rfl,by decide +kernel,rfl,by decide +kernel,by decide +kernel⟩
theorem JN (T:yQ K mg "Bracket" cs.dG "Bracket.__init__" jL) (cl:Cls K cs.dG) (na:cF K cs.dG ["asked","formulas","boths","parts"]):kO P w K mg base 1 "Bracket" cs.dG ["self","asked"] (qJ cs):=by
 obtain ⟨f,fd,F,M,hm⟩:=T.ex;refine ⟨f,fd,hm,M,F.binds (fun _ _ _ _ _ _ us hl=>match us,hl with | [_,_],_=>rfl),okN F JM (fun vs H Q E h=>?_) (fun cdv A outer s H vs Q E hr h=>?_)⟩
 ·obtain ⟨p,dx,k,rfl,_⟩:=h;rfl
 ·obtain ⟨p,dx,k,rfl,hp,kq⟩:=h;refine ⟨_,aq (fj (pv 0) (pv 1) rfl) (aq (fj (pv 0) (fL aA) rfl) (aq (fj (pv 0) (fL aA) rfl) (aC (fj (pv 0) (fL aA) rfl)))),?_⟩;refine ⟨_,rfl,_,rfl,p,cs.dG,dx,[],rfl,hp,cl,na _ (by simp),(by show 0 < 1000;decide),?_⟩;refine ⟨Nat.zero_le _,fun fl hfl=>?_⟩;have p1:p≠fl:=fun z=>by rw [←z,ao] at hfl;cases hfl
  refine ⟨_,rfl,p,cs.dG,dx,_,rfl,by rw [ak p1];exact ao,cl,na _ (by simp),Nat.lt_of_le_of_lt (qX (Nat.le_refl _)) (by decide),?_⟩;refine ⟨Nat.zero_le _,fun bl uV=>?_⟩;have p2:p≠bl:=fun z=>by rw [←z,ao] at uV;cases uV
  refine ⟨_,rfl,p,cs.dG,dx,_,rfl,by rw [ak p2];exact ao,cl,na _ (by simp),Nat.lt_of_le_of_lt (qX (qX (Nat.le_refl _))) (by decide),?_⟩;refine ⟨Nat.zero_le _,fun pl hpl=>?_⟩;have p3:p≠pl:=fun z=>by rw [←z,ao] at hpl;cases hpl
  refine ⟨_,rfl,p,cs.dG,dx,_,rfl,by rw [ak p3];exact ao,cl,na _ (by simp),Nat.lt_of_le_of_lt (qX (qX (qX (Nat.le_refl _)))) (by decide),?_⟩;have q1:H fl=none:=by rw [ak p1.symm] at hfl;exact hfl
  have b1:bl≠fl:=fun z=>by rw [ak p2.symm,z,ao] at uV;cases uV
  have q2:H bl=none:=by rw [ak p2.symm,ak b1,ak p2.symm] at uV;exact uV
  have c1:pl≠bl:=fun z=>by rw [ak p3.symm,z,ao] at hpl;cases hpl
  have c2:pl≠fl:=fun z=>by rw [ak p3.symm,ak c1,ak p3.symm,z,ao] at hpl;cases hpl
  have q3:H pl=none:=by rw [ak p3.symm,ak c1,ak p3.symm,ak c2,ak p3.symm] at hpl;exact hpl
  refine kq fl bl pl _ (Eq.trans ao (congrArg (fun q=>some (HO.ins cs.dG dx q)) (Zd k fl bl pl))) ?_ ?_ ?_ q1 q2 q3 (by simp [b1.symm,c1.symm,c2.symm]) ?_
  ·rw [ak p1.symm,ak c2.symm,ak p1.symm,ak b1.symm,ak p1.symm,ao]
  ·rw [ak p2.symm,ak c1.symm,ak p2.symm,ao]
  ·rw [ak p3.symm,ao]
  ·exact ((((((Kp.refl.upd (.inl (by simp))).upd (.inr q1)).upd (.inl (by simp))).upd (.inr q2)).upd (.inl (by simp))).upd (.inr q3)).upd (.inl (by simp))
theorem Wx:aH ["self","prime"] ["self","prime"] (au oK):=⟨rfl,rfl,rfl,by decide +kernel,rfl,by decide +kernel,by decide +kernel⟩
theorem Wy (T:yQ K mg "Book" cs.boo "Book.__init__" oK) (cl:Cls K cs.boo) (na:cF K cs.boo ["prime","people","nodes","lets","names"]):kO P w K mg base 1 "Book" cs.boo ["self","prime"] (Sx cs):=by
 obtain ⟨f,fd,F,M,hm⟩:=T.ex;refine ⟨f,fd,hm,M,F.binds (fun _ _ _ _ _ _ us hl=>match us,hl with | [_,_],_=>rfl),okN F Wx (fun vs H Q E h=>?_) (fun cdv A outer s H vs Q E hr h=>?_)⟩
 ·obtain ⟨p,dx,k,rfl,_⟩:=h;rfl
 ·obtain ⟨p,dx,k,rfl,hp,kq⟩:=h;refine ⟨_,aq (fj (pv 0) (pv 1) rfl) (aq (fj (pv 0) (fL aA) rfl) (aq (fj (pv 0) (fL aA) rfl) (aq (fj (pv 0) (fL aA) rfl) (aC (fj (pv 0) RJ rfl))))),?_⟩;refine ⟨_,rfl,_,rfl,p,cs.boo,dx,[],rfl,hp,cl,na _ (by simp),(by show 0 < 1000;decide),?_⟩;refine ⟨Nat.zero_le _,fun fl hfl=>?_⟩;have p1:p≠fl:=fun z=>by rw [←z,ao] at hfl;cases hfl
  refine ⟨_,rfl,p,cs.boo,dx,_,rfl,by rw [ak p1];exact ao,cl,na _ (by simp),Nat.lt_of_le_of_lt (qX (Nat.le_refl _)) (by decide),?_⟩;refine ⟨Nat.zero_le _,fun bl uV=>?_⟩;have p2:p≠bl:=fun z=>by rw [←z,ao] at uV;cases uV
  refine ⟨_,rfl,p,cs.boo,dx,_,rfl,by rw [ak p2];exact ao,cl,na _ (by simp),Nat.lt_of_le_of_lt (qX (qX (Nat.le_refl _))) (by decide),?_⟩;refine ⟨Nat.zero_le _,fun pl hpl=>?_⟩;have p3:p≠pl:=fun z=>by rw [←z,ao] at hpl;cases hpl
  refine ⟨_,rfl,p,cs.boo,dx,_,rfl,by rw [ak p3];exact ao,cl,na _ (by simp),Nat.lt_of_le_of_lt (qX (qX (qX (Nat.le_refl _)))) (by decide),?_⟩;intro ma hma;have p4:p≠ma:=fun z=>by rw [←z,ao] at hma;cases hma
  refine ⟨_,rfl,p,cs.boo,dx,_,rfl,by rw [ak p4];exact ao,cl,na _ (by simp),Nat.lt_of_le_of_lt (qX (qX (qX (qX (Nat.le_refl _))))) (by decide),?_⟩;have q1:H fl=none:=by rw [ak p1.symm] at hfl;exact hfl
  have b1:bl≠fl:=fun z=>by rw [ak p2.symm,z,ao] at uV;cases uV
  have q2:H bl=none:=by rw [ak p2.symm,ak b1,ak p2.symm] at uV;exact uV
  have c1:pl≠bl:=fun z=>by rw [ak p3.symm,z,ao] at hpl;cases hpl
  have c2:pl≠fl:=fun z=>by rw [ak p3.symm,ak c1,ak p3.symm,z,ao] at hpl;cases hpl
  have q3:H pl=none:=by rw [ak p3.symm,ak c1,ak p3.symm,ak c2,ak p3.symm] at hpl;exact hpl
  have d1:ma≠pl:=fun z=>by rw [ak p4.symm,z,ao] at hma;cases hma
  have d2:ma≠bl:=fun z=>by rw [ak p4.symm,ak d1,ak p4.symm,z,ao] at hma;cases hma
  have d3:ma≠fl:=fun z=>by rw [ak p4.symm,ak d1,ak p4.symm,ak d2,ak p4.symm,z,ao] at hma;cases hma
  have q4:H ma=none:=by rw [ak p4.symm,ak d1,ak p4.symm,ak d2,ak p4.symm,ak d3,ak p4.symm] at hma;exact hma
  refine kq fl bl pl ma _ (Eq.trans ao (congrArg (fun q=>some (HO.ins cs.boo dx q)) (Zc k fl bl pl ma))) ?_ ?_ ?_ ?_ q1 q2 q3 q4 (by simp [b1.symm,c1.symm,c2.symm]) ?_
  ·rw [ak p1.symm,ak d3.symm,ak p1.symm,ak c2.symm,ak p1.symm,ak b1.symm,ak p1.symm,ao]
  ·rw [ak p2.symm,ak d2.symm,ak p2.symm,ak c1.symm,ak p2.symm,ao]
  ·rw [ak p3.symm,ak d1.symm,ak p3.symm,ao]
  ·rw [ak p4.symm,ao]
  ·exact ((((((((Kp.refl.upd (.inl (by simp))).upd (.inr q1)).upd (.inl (by simp))).upd (.inr q2)).upd (.inl (by simp))).upd (.inr q3)).upd (.inl (by simp))).upd (.inr q4)).upd (.inl (by simp))
end
end Pg
end
section
set_option linter.all false
set_option maxRecDepth 100000
set_option maxHeartbeats 4000000
namespace Pg
open PySem L2 Xc Sp
structure dY where
 pa:Addr
 na:Addr
 la:Addr
 ma:Addr
 nW:List (Addr×Addr)
def dY.lists (A:dY):List Addr:=A.pa::A.na::A.la::A.nW.map (·.2)
def nV (l:List Nat):List V:=l.map fun (i:Nat)=>V.int (i:Int)
theorem aK (l:List Nat):(nV l).length=l.length:=List.length_map _
theorem iD (l:List Nat) (i:Nat):nV (l++[i])=nV l++[V.int (i:Int)]:=by unfold nV;rw [List.map_append];rfl
def Ze (cs:Cs) (H:Hp) (x:Addr×Addr) (n:aF):Prop:=(∃ dx,H x.1=some (.ins cs.jl dx (ndF (n.1:Int) x.2)))∧H x.2=some (.lst (nV n.2))
structure aV (cs:Cs) (H:Hp) (b:Addr) (A:dY) (p:Nat) (B:Bk):Prop where
 ob:∃ dx,H b=some (.ins cs.boo dx (QS (p:Int) A.pa A.na A.la A.ma))
 people:H A.pa=some (.lst (B.people.map fun x=>V.str (bR x)))
 nodes:H A.na=some (.lst (A.nW.map fun x=>V.ref x.1))
 lets:H A.la=some (.lst (nV (B.ls.map (·.2))))
 names:H A.ma=some (.dK (B.names.map fun x=>(Sum.inr (bR x.1),V.int (x.2:Int))))
 len:A.nW.length=B.ns.length
 at_:∀ (j:Nat) (x:Addr×Addr) (n:aF),A.nW[j]?=some x→B.ns[j]?=some n→Ze cs H x n
 nd:A.lists.Nodup
theorem dW {H:Hp}{a b:Addr}{C dx:Addr}{fs:List (Str×V)}{xs:List V} (h:H a=some (.ins C dx fs)) (h':H b=some (.lst xs)):a≠b:=lN h h' (by intro z;cases z)
theorem Gf {H:Hp}{a b:Addr}{kvs:List (Key×V)}{xs:List V} (h:H a=some (.dK kvs)) (h':H b=some (.lst xs)):a≠b:=lN h h' (by intro z;cases z)
theorem aV.Mv {cs:Cs}{H H':Hp}{b:Addr}{A:dY}{p:Nat}{B:Bk} (R:aV cs H b A p B) {F:List Addr} (k:Kp F H H') (hF:∀ x∈F,x∉A.lists∧∀ C dx fs,H x=some (.ins C dx fs)→C≠cs.boo∧C≠cs.jl) (hD:∀ x∈F,∀ kvs,H x≠some (.dK kvs)):aV cs H' b A p B:=by
 have lst:∀ x xs,x∈A.lists→H x=some (.lst xs)→H' x=some (.lst xs):=fun x xs hx e=>k x _ e fun z=>(hF x z).1 hx;obtain ⟨dx,ob⟩:=R.ob;refine ⟨⟨dx,k b _ ob fun z=>((hF b z).2 _ _ _ ob).1 rfl⟩,lst _ _ (by simp [dY.lists]) R.people,lst _ _ (by simp [dY.lists]) R.nodes,lst _ _ (by simp [dY.lists]) R.lets,k _ _ R.names fun z=>hD _ z _ R.names,R.len,fun j x n h1 h2=>?_,R.nd⟩;obtain ⟨⟨dy,n1⟩,n2⟩:=R.at_ j x n h1 h2;exact ⟨⟨dy,k _ _ n1 fun z=>((hF _ z).2 _ _ _ n1).2 rfl⟩,lst _ _ (by
  have:x.2∈A.nW.map (·.2):=List.mem_map.mpr ⟨x,List.mem_of_getElem? h1,rfl⟩;simp [dY.lists,this]) n2⟩
def vf (cs:Cs):Sp:=fun vs H Q _=>∃ (b wl:Addr) (k:Nat) (A:dY) (p:Nat) (B:Bk) (ws:List Nat),vs=[.ref b,.int k,.ref wl]∧aV cs H b A p B∧H wl=some (.lst (nV ws))∧wl∉A.lists∧B.ns.length < 100000 ∧
 ∀ (nx:Addr) (H':Hp),aV cs H' b { A with nW:=A.nW++[(nx,wl)] } p { B with ns:=B.ns++[(k,ws)] }→Kp [A.na] H H'→H nx=none→Q (.int ((B.P+B.ns.length:Nat):Int)) H'
section
variable {P:Program}{w:World}{K:PySem.W.Frag}{mg:Str→Option Value}{base:Heap}{cs:Cs}
theorem bL:100000 < sizeLine:=by decide
theorem Gg:aH ["self","asked","within"] ["self","asked","within"] (au iY):=⟨rfl,rfl,rfl,by decide +kernel,rfl,by decide +kernel,by decide +kernel⟩
theorem Gh (T:gq K cs.boo "add_node" "Book.add_node" iY) (gO:Cls K cs.boo) (naB:cF K cs.boo ["prime","people","nodes","lets","names"]) (hlen:mg "len"=none) (N1:kO P w K mg base 1 "Node" cs.jl ["self","asked","within"] (Sq cs)) :
  bw P w K mg base 3 cs.boo "add_node" ["self","asked","within"] (vf cs):=by
 obtain ⟨f,fd,F,M⟩:=T.ex;refine ⟨f,fd,M,F.binds (fun _ _ _ _ _ _ us hl=>match us,hl with | [_,_,_],_=>rfl),okN F Gg (fun vs H Q E h=>?_) (fun cdv A outer s H vs Q E hr h=>?_)⟩
 ·obtain ⟨b,wl,k,A,p,B,ws,rfl,_⟩:=h;rfl
 ·obtain ⟨b,wl,k,Ad,p,B,ws,rfl,R,hwl,nwl,hsm,kq⟩:=h;obtain ⟨dx,ob⟩:=R.ob;refine ⟨_,aq (aN (ju PySem.F.plainAttrs_list PySem.F.slot_list_append PySem.F.type_list_append cD (aM (pv 0) rfl) (aj (rR N1 hr rfl aG (aj (pv 1) (aj (pv 2) aA))) aA)))
   (aC (bf (fG uJ (fG Jj (aU aO (by rfl) hlen PySem.boot_len (aj (aM (pv 0) rfl) aA)) (aU aO (by rfl) hlen PySem.boot_len (aj (aM (pv 0) rfl) aA))) aR))),?_⟩
  refine ⟨_,rfl,b,cs.boo,dx,_,_,rfl,ob,gO,naB _ (by simp),nF _ _ _ _ _,.inl ⟨rfl,_,bO.of R.nodes⟩,_,rfl,_,rfl,?_⟩;intro x QT nx ndx nex;refine ⟨x,QT,wl,k,rfl,ao,fun H1 h1 k1=>⟨rfl,?_⟩⟩;have s1:Same H H1:=Same.made nx ndx fun c o e hc=>k1 c o e (by simpa using hc);have nl1:=s1 _ _ R.nodes;have hll:(Ad.nW.map fun x=>V.ref x.1).length < sizeLine:=by rw [List.length_map,R.len];exact Nat.lt_trans hsm bL
  refine ⟨Ad.na,_,_,rfl,rfl,nl1,hll,?_⟩;have Sy:(upd H1 Ad.na (.lst ((Ad.nW.map fun x=>V.ref x.1)++[V.ref x]))) b=some (.ins cs.boo dx (QS (p:Int) Ad.pa Ad.na Ad.la Ad.ma)):=by rw [ak (dW ob R.nodes)];exact s1 _ _ ob
  have npn:Ad.pa≠Ad.na:=fun z=>by have:=R.nd;unfold dY.lists at this;rw [z] at this;simp at this
  refine ⟨_,rfl,b,cs.boo,dx,_,_,rfl,Sy,gO,naB _ (by simp),fV _ _ _ _ _,_,_,rfl,.inl (bO.of (by rw [ak npn];exact s1 _ _ R.people)),?_⟩;refine ⟨_,rfl,b,cs.boo,dx,_,_,rfl,Sy,gO,naB _ (by simp),nF _ _ _ _ _,_,_,rfl,.inl (bO.of ao),_,_,rfl,rfl,_,_,rfl,rfl,?_⟩;have ek:Kp [Ad.na] H (upd H1 Ad.na (.lst ((Ad.nW.map fun x=>V.ref x.1)++[V.ref x]))):=(Kp.same s1 _).upd (.inl (by simp));have ev:(V.int (((B.people.map fun x=>V.str (bR x)).length:Int)+(((Ad.nW.map fun x=>V.ref x.1)++[V.ref x]).length:Int)-1))=V.int ((B.P+B.ns.length:Nat):Int):=by
   rw [List.length_map,List.length_append,List.length_map,R.len,List.length_singleton];show V.int ((B.people.length:Int)+((B.ns.length+1:Nat):Int)-1)=V.int ((B.people.length+B.ns.length:Nat):Int);congr 1;omega
  show Q (V.int (((B.people.map fun x=>V.str (bR x)).length:Int)+(((Ad.nW.map fun x=>V.ref x.1)++[V.ref x]).length:Int)-1)) _;rw [ev];refine kq x _ ?_ ek nx;have nnd:=R.nd;have hnl:∀ y∈Ad.lists,y≠wl:=fun y hy z=>nwl (z▸hy);have abB:∀ y∈Ad.nW.map (·.2),y≠Ad.na:=fun y hy z=>by
   have:=R.nd;unfold dY.lists at this;rw [z] at hy;simp only [List.nodup_cons] at this;exact this.2.1 (List.mem_cons_of_mem _ hy)
  have adS:wl≠Ad.na:=fun z=>nwl (by rw [z];simp [dY.lists]);refine ⟨⟨dx,Sy⟩,by show upd _ _ _ Ad.pa=_;rw [ak npn];exact s1 _ _ R.people,?_,?_,?_,?_,fun j y n e1 e2=>?_,?_⟩
  ·show upd _ _ _ Ad.na=_;rw [ao,List.map_append];rfl
  ·show upd _ _ _ Ad.la=_;have:Ad.la≠Ad.na:=fun z=>by have:=R.nd;unfold dY.lists at this;rw [z] at this;simp at this
   rw [ak this];exact s1 _ _ R.lets
  ·show upd _ _ _ Ad.ma=_;rw [ak (Gf R.names R.nodes)];exact s1 _ _ R.names
  ·show (Ad.nW++[(x,wl)]).length=(B.ns++[(k,ws)]).length;rw [List.length_append,List.length_append,R.len];rfl
  ·by_cases hj:j < Ad.nW.length
   ·rw [List.getElem?_append_left hj] at e1;rw [List.getElem?_append_left (by rw [←R.len];exact hj)] at e2;obtain ⟨⟨dy,n1⟩,n2⟩:=R.at_ j y n e1 e2;exact ⟨⟨dy,by rw [ak (dW n1 R.nodes)];exact s1 _ _ n1⟩,by rw [ak (abB _ (List.mem_map.mpr ⟨y,List.mem_of_getElem? e1,rfl⟩))];exact s1 _ _ n2⟩
   ·rw [List.getElem?_append_right (by omega)] at e1;rw [List.getElem?_append_right (by rw [←R.len];omega)] at e2;have h0:j-Ad.nW.length=0:=by
     cases q:j-Ad.nW.length with
     | zero=>rfl
     | succ i=>rw [q] at e1;simp at e1
    have h0':j-B.ns.length=0:=by rw [←R.len];exact h0
    rw [h0] at e1;rw [h0'] at e2;simp at e1 e2;subst e1 e2;exact ⟨⟨QT,by rw [ak (dW h1 nl1)];exact h1⟩,by rw [ak adS];exact s1 _ _ hwl⟩
  ·show (Ad.pa::Ad.na::Ad.la::(Ad.nW++[(x,wl)]).map (·.2)).Nodup;have e:(Ad.pa::Ad.na::Ad.la::(Ad.nW++[(x,wl)]).map (·.2))=Ad.lists++[wl]:=by unfold dY.lists;rw [List.map_append];rfl
   rw [e];exact Mp R.nd nwl
end
end Pg
end
section
set_option linter.all false
set_option maxRecDepth 100000
set_option maxHeartbeats 4000000
namespace Pg
open PySem L2 Xc Sp
def lM (H:Hp) (A A':dY) (ws:List Addr):Prop:=∃ more:List (Addr×Addr),A'={ A with nW:=A.nW++more }∧more.map (·.2)=ws∧∀ x∈more,H x.1=none
theorem lM.none (H:Hp) (A:dY):lM H A A []:=⟨[],by simp,rfl,fun x hx=>by simp at hx⟩
theorem lM.one {H:Hp}{A:dY}{nx wl:Addr} (h:H nx=Option.none):lM H A { A with nW:=A.nW++[(nx,wl)] } [wl]:=⟨[(nx,wl)],rfl,rfl,fun x hx=>by simp at hx;subst hx;exact h⟩
theorem lM.lists {H:Hp}{A A':dY}{ws:List Addr} (g:lM H A A' ws):A'.lists=A.lists++ws:=by
 obtain ⟨more,rfl,rfl,_⟩:=g;show A.pa::A.na::A.la::(A.nW++more).map (·.2)=(A.pa::A.na::A.la::A.nW.map (·.2))++more.map (·.2);rw [List.map_append];rfl
theorem lM.na {H:Hp}{A A':dY}{ws:List Addr} (g:lM H A A' ws):A'.na=A.na∧A'.ma=A.ma∧A'.la=A.la∧A'.pa=A.pa:=by
 obtain ⟨more,rfl,_,_⟩:=g;exact ⟨rfl,rfl,rfl,rfl⟩
theorem lM.trans {H H1:Hp}{A A1 A2:dY}{ws vs:List Addr} (a:lM H A A1 ws) (b:lM H1 A1 A2 vs) (h:∀ x,H1 x=Option.none→H x=Option.none):lM H A A2 (ws++vs):=by
 obtain ⟨m,rfl,rfl,h1⟩:=a;obtain ⟨m2,rfl,rfl,h2⟩:=b;refine ⟨m++m2,by simp,by rw [List.map_append],fun x hx=>?_⟩;rcases List.mem_append.mp hx with z | z
 ·exact h1 x z
 ·exact h _ (h2 x z)
theorem Kp.free {F:List Addr}{H H':Hp} (k:Kp F H H') (hF:∀ x∈F,H' x≠Option.none) {x:Addr} (h:H' x=Option.none):H x=Option.none:=by
 cases q:H x with
 | none=>rfl
 | some o=>
  by_cases hx:x∈F
  ·exact absurd h (hF x hx)
  ·rw [k x o q hx] at h;cases h
structure eZ where
 ob:Addr
 fl:Addr
 bl:Addr
 pl:Addr
def eZ.lists (a:eZ):List Addr:=[a.fl,a.bl,a.pl]
structure jB (cs:Cs) (H:Hp) (a:eZ) (F:aD):Prop where
 ob:∃ dx,H a.ob=some (.ins cs.dG dx (Bq (F.asked:Int) a.fl a.bl a.pl))
 fs:H a.fl=some (.lst (nV F.fs))
 bs:H a.bl=some (.lst (nV F.bs))
 ps:H a.pl=some (.lst (nV F.ps))
structure tX (cs:Cs):Prop where
 nb:cs.jl≠cs.boo
 bn:cs.dG≠cs.jl
 bb:cs.dG≠cs.boo
 rn:cs.cB≠cs.jl
 rb:cs.cB≠cs.boo
 rr:cs.cB≠cs.dG
def yR (cs:Cs):Sp:=fun vs H Q _=>∃ (b wl:Addr) (k:Nat) (A:dY) (p:Nat) (B:Bk) (ws:List Nat),vs=[.ref b,.int k,.ref wl]∧aV cs H b A p B∧H wl=some (.lst (nV ws))∧wl∉A.lists∧B.ns.length < 100000 ∧
 ∀ (A':dY) (vs':List Addr) (H':Hp),aV cs H' b A' p { B with ns:=dJ B.ns k ws }→lM H A A' vs'→(∀ x∈vs',x=wl)→vs'.length≤1→Kp [A.na] H H'→Q (.int ((fQ B.P B.ns ws:Nat):Int)) H'
section
variable {P:Program}{w:World}{K:PySem.W.Frag}{mg:Str→Option Value}{base:Heap}{cs:Cs}
theorem Pj:aH ["book","asked","within"] ["book","asked","within"] (au u9):=⟨rfl,rfl,rfl,by decide +kernel,rfl,by decide +kernel,by decide +kernel⟩
theorem Pk (T:bJ K mg "joined" u9) (gO:Cls K cs.boo) (hlen:mg "len"=none) (AN:bw P w K mg base 3 cs.boo "add_node" ["self","asked","within"] (vf cs)) :
  aX P w K mg base 4 "joined" ["book","asked","within"] (yR cs):=by
 obtain ⟨f,fd,F,hm⟩:=T.ex;refine ⟨f,fd,hm,F.kp,F.binds (fun _ _ _ _ _ _ us hl=>match us,hl with | [_,_,_],_=>rfl),okN F Pj (fun vs H Q E h=>?_) (fun cdv A outer s H vs Q E hr h=>?_)⟩
 ·obtain ⟨b,wl,k,A,p,B,ws,rfl,_⟩:=h;rfl
 ·obtain ⟨b,wl,k,Ad,p,B,ws,rfl,R,hwl,nwl,hsm,kq⟩:=h;obtain ⟨dx,ob⟩:=R.ob;refine ⟨_,aq (dD (aQ gV (aU aO (by rfl) hlen PySem.boot_len (aj (pv 2) aA)) aR (aY _)) (aC (bf (fM eE (pv 2) aR (fun _ _=>rfl)))) bU)
   (aC (bf (bK (pv 0) gO AN hr aG (aj (pv 1) (aj (pv 2) aA))))),?_⟩
  refine ⟨_,rfl,_,_,rfl,.inl (bO.of hwl),rfl,_,rfl,bV (fun hc=>?_) fun hc=>?_⟩
  ·have h1:ws.length=1:=by
    have:=of_decide_eq_true hc;injection this with this
    rw [aK] at this;omega
   match ws,h1,hwl,kq with
   | [i],_,hwl,kq=>
    refine ⟨_,rfl,wl,_,_,V.int (i:Int),rfl,rfl,bO.of hwl,at_of (j:=0) rfl rfl,?_⟩;exact kq Ad [] H (by
     have e:dJ B.ns k [i]=B.ns:=if_pos rfl;rw [e];exact R) (lM.none H Ad) (fun x hx=>by simp at hx) (by simp) Kp.refl
  ·have h1:¬ ws.length=1:=fun z=>hc (decide_eq_true (by rw [aK,z];rfl));refine ⟨_,rfl,b,dx,_,rfl,ob,oA _ _ _ _ _ (by decide +kernel) (by decide +kernel) (by decide +kernel) (by decide +kernel) (by decide +kernel),_,rfl,_,rfl,b,wl,k,Ad,p,B,ws,rfl,R,hwl,nwl,hsm,fun nx H' R' k' hn=>?_⟩;have e1:dJ B.ns k ws=B.ns++[(k,ws)]:=if_neg h1;have e2:fQ B.P B.ns ws=B.P+B.ns.length:=if_neg h1;show Q _ H';rw [←e2];exact kq _ [wl] H' (by rw [e1];exact R') (lM.one hn) (fun x hx=>by simpa using hx) (by simp) k'
end
end Pg
end
section
set_option linter.all false
set_option maxRecDepth 100000
set_option maxHeartbeats 4000000
namespace Pg
open PySem L2 Xc Sp
theorem aV.Bt {cs:Cs}{H:Hp}{b:Addr}{A:dY}{p:Nat}{B:Bk} (R:aV cs H b A p B) {x:Addr} (h:x∈A.lists):∃ xs,H x=some (.lst xs):=by
 unfold dY.lists at h;rcases List.mem_cons.mp h with rfl | h
 ·exact ⟨_,R.people⟩
 rcases List.mem_cons.mp h with rfl | h
 ·exact ⟨_,R.nodes⟩
 rcases List.mem_cons.mp h with rfl | h
 ·exact ⟨_,R.lets⟩
 obtain ⟨y,hy,rfl⟩:=List.mem_map.mp h;obtain ⟨j,hj⟩:=List.getElem?_of_mem hy;have hl:j < B.ns.length:=by rw [←R.len];exact (List.getElem?_eq_some_iff.mp hj).1
 exact ⟨_,(R.at_ j y B.ns[j] hj (List.getElem?_eq_getElem hl)).2⟩
theorem aV.keep {cs:Cs}{H H':Hp}{b:Addr}{A:dY}{p:Nat}{B:Bk} (R:aV cs H b A p B) {F:List Addr} (k:Kp F H H')
  (hF:∀ x∈F,(∃ xs,H x=some (.lst xs)∧x∉A.lists)∨∃ C dx fs,H x=some (.ins C dx fs)∧C≠cs.boo∧C≠cs.jl):aV cs H' b A p B:=by
 refine R.Mv k (fun x hx=>?_) (fun x hx kvs e=>?_)
 ·rcases hF x hx with ⟨xs,e,n⟩ | ⟨C,dx,fs,e,n1,n2⟩
  ·exact ⟨n,fun C dx fs z=>by rw [e] at z;cases z⟩
  ·refine ⟨fun z=>?_,fun C' dx' fs' z=>?_⟩
   ·obtain ⟨xs,q⟩:=R.Bt z;rw [e] at q;cases q
   ·rw [e] at z;cases z;exact ⟨n1,n2⟩
 ·rcases hF x hx with ⟨xs,q,n⟩ | ⟨C,dx,fs,q,n1,n2⟩ <;> (rw [q] at e;cases e)
structure Pair (cs:Cs) (H:Hp) (a:eZ) (F:aD) (b:Addr) (A:dY) (p:Nat) (B:Bk):Prop where
 br:jB cs H a F
 bk:aV cs H b A p B
 nd:a.lists.Nodup
 ap:∀ x∈a.lists,x∉A.lists
 few:F.all.length < 50000
 abC:B.ns.length < 50000
def vg (cs:Cs):Sp:=fun vs H Q _=>∃ (a:eZ) (F:aD) (b:Addr) (A:dY) (p:Nat) (B:Bk),vs=[.ref a.ob,.ref b]∧Pair cs H a F b A p B ∧
 ∀ (A':dY) (vs':List Addr) (JQ:Addr) (H':Hp),jB cs H' { a with pl:=JQ } (dM B.P B.ns F)→aV cs H' b A' p { B with ns:=gR B.ns F }→lM H A A' vs'→(∀ x∈vs',x=a.pl)→vs'.length≤1→H JQ=none→Kp [A.na,a.bl,a.ob] H H'→Q .non H'
section
variable {P:Program}{w:World}{K:PySem.W.Frag}{mg:Str→Option Value}{base:Heap}{cs:Cs}
theorem Gi:aH ["self","book"] ["self","book"] (au gA):=⟨rfl,rfl,rfl,by decide +kernel,rfl,by decide +kernel,by decide +kernel⟩
theorem Gj (co:tX cs) (T:gq K cs.dG "end_both" "Bracket.end_both" gA) (cl:Cls K cs.dG) (na:cF K cs.dG ["asked","formulas","boths","parts"]) (hlen:mg "len"=none)
  (J:aX P w K mg base 4 "joined" ["book","asked","within"] (yR cs)):bw P w K mg base 5 cs.dG "end_both" ["self","book"] (vg cs):=by
 obtain ⟨f,fd,F,M⟩:=T.ex;refine ⟨f,fd,M,F.binds (fun _ _ _ _ _ _ us hl=>match us,hl with | [_,_],_=>rfl),okN F Gi (fun vs H Q E h=>?_) (fun cdv A outer s H vs Q E hr h=>?_)⟩
 ·obtain ⟨a,F,b,A,p,B,rfl,_⟩:=h;rfl
 ·obtain ⟨a,Fr,b,Ad,p,B,rfl,R,kq⟩:=h;obtain ⟨dx,ob⟩:=R.br.ob;have JR:a.bl∉Ad.lists:=R.ap _ (by simp [eZ.lists]);have Gk:a.pl∉Ad.lists:=R.ap _ (by simp [eZ.lists]);have Mw:a.fl∉Ad.lists:=R.ap _ (by simp [eZ.lists]);have abD:a.bl≠Ad.na:=fun z=>JR (by rw [z];simp [dY.lists]);have hnd:=R.nd;unfold eZ.lists at hnd;simp only [List.nodup_cons,List.mem_cons,List.mem_singleton,List.not_mem_nil,not_or] at hnd;obtain ⟨⟨nfb,nfp,_⟩,⟨XQ,_⟩,_⟩:=hnd;refine ⟨_,aq (aN (ju PySem.F.plainAttrs_list PySem.F.slot_list_append PySem.F.type_list_append cD (aM (pv 0) rfl)
    (aj (bM J hr rfl aG (aj (pv 1) (aj (aU aO (by rfl) hlen PySem.boot_len (aj (aM (pv 0) rfl) aA)) (aj (aM (pv 0) rfl) aA)))) aA)))
   (aC (fj (pv 0) (fL aA) rfl)),?_⟩
  refine ⟨_,rfl,a.ob,cs.dG,dx,_,_,rfl,ob,cl,na _ (by simp),Br _ _ _ _,.inl ⟨rfl,_,bO.of R.br.bs⟩,_,rfl,?_⟩;refine ⟨_,rfl,a.ob,cs.dG,dx,_,_,rfl,ob,cl,na _ (by simp),qI _ _ _ _,_,_,rfl,.inl (bO.of R.br.ps),?_⟩;refine ⟨_,rfl,a.ob,cs.dG,dx,_,_,rfl,ob,cl,na _ (by simp),qI _ _ _ _,b,a.pl,(nV Fr.ps).length,Ad,p,B,Fr.ps,rfl,R.bk,R.br.ps,Gk,Nat.lt_trans R.abC (by decide),fun A' vs' H1 R1 g hv hv1 k1=>?_⟩;have bl1:H1 a.bl=some (.lst (nV Fr.bs)):=k1 _ _ R.br.bs (by simpa using abD);have wU:H1 a.fl=some (.lst (nV Fr.fs)):=k1 _ _ R.br.fs (by simpa using fun z:a.fl=Ad.na=>Mw (by rw [z];simp [dY.lists]));have wz:H1 a.ob=some (.ins cs.dG dx (Bq (Fr.asked:Int) a.fl a.bl a.pl)):=k1 _ _ ob (by simpa using dW ob R.bk.nodes);refine ⟨a.bl,_,_,rfl,rfl,bl1,?_,?_⟩
  ·rw [aK];have:=R.few;unfold aD.all at this;rw [List.length_append,List.length_append] at this;exact Nat.lt_trans (by omega) bL
  refine ⟨Nat.zero_le _,fun JQ hpl'=>?_⟩;have o1:a.ob≠a.bl:=dW wz bl1;have o2:a.ob≠JQ:=fun z=>by rw [←z,ak o1,wz] at hpl';cases hpl'
  have b2:JQ≠a.bl:=fun z=>by rw [z,ao] at hpl';cases hpl'
  have pn1:H1 JQ=none:=by rw [ak b2] at hpl';exact hpl'
  have f2:a.fl≠JQ:=aB wU pn1;refine ⟨_,rfl,a.ob,cs.dG,dx,_,rfl,by rw [ak o2,ak o1];exact wz,cl,na _ (by simp),(by show 4 < 1000;decide),?_⟩;have kk:Kp [a.bl,a.ob] H1 (upd (upd (upd H1 a.bl (.lst (nV Fr.bs++[V.int ((fQ B.P B.ns Fr.ps:Nat):Int)]))) JQ (.lst [])) a.ob (.ins cs.dG dx (cU "parts" (.ref JQ) (Bq (Fr.asked:Int) a.fl a.bl a.pl)))):=
   ((Kp.refl.upd (.inl (by simp))).upd (.inr pn1)).upd (.inl (by simp))
  have en:dJ B.ns (nV Fr.ps).length Fr.ps=gR B.ns Fr:=by rw [aK];rfl
  rw [en] at R1;refine kq A' vs' JQ _ ⟨⟨dx,Eq.trans ao (congrArg (fun q=>some (HO.ins cs.dG dx q)) (Dm _ _ _ _ _))⟩,?_,?_,?_⟩ (R1.keep kk fun x hx=>?_) g hv hv1 ?_ ?_
  ·show upd _ _ _ a.fl=_;rw [ak (dW wz wU).symm,ak f2,ak nfb];exact wU
  ·show upd _ _ _ a.bl=_;rw [ak o1.symm,ak b2.symm,ao];show some (HO.lst (nV Fr.bs++[_]))=some (HO.lst (nV (Fr.bs++[fQ B.P B.ns Fr.ps])));rw [iD]
  ·show upd _ _ _ JQ=_;rw [ak o2.symm,ao];rfl
  ·rcases List.mem_cons.mp hx with rfl | hx
   ·refine .inl ⟨_,bl1,fun z=>?_⟩;rw [g.lists] at z;rcases List.mem_append.mp z with z | z
    ·exact JR z
    ·exact XQ (hv _ z)
   ·rcases List.mem_singleton.mp hx with rfl
    exact .inr ⟨_,_,_,wz,co.bb,co.bn⟩
  ·exact k1.free (fun x hx=>by
    rcases List.mem_singleton.mp hx with rfl
    rw [show H1 Ad.na=some _ from by have:=R1.nodes;rw [g.na.1] at this;exact this];simp) pn1
  ·exact (k1.mono fun x hx=>by simp at hx;simp [hx]).trans (kk.mono fun x hx=>by simp at hx;rcases hx with rfl | rfl <;> simp)
end
end Pg
end
section
set_option linter.all false
set_option maxRecDepth 100000
set_option maxHeartbeats 4000000
namespace Pg
open PySem L2 Xc Sp
theorem Zf {x y:Addr} (hxy:x≠y):∀ {vs ws:List Addr},(∀ a∈vs,a=x)→vs.length≤1→(∀ a∈ws,a=y)→ws.length≤1→(vs++ws).Nodup
 | [],[],_,_,_,_=>by simp
 | [],[b],_,_,_,_=>by simp
 | [a],[],_,_,_,_=>by simp
 | [a],[b],h1,_,h2,_=>by
  have e1:=h1 a (by simp);have e2:=h2 b (by simp);subst e1 e2;simp [hxy]
 | _::_::_,_,_,h,_,_=>by simp at h
 | [],_::_::_,_,_,_,h=>by simp at h
 | [_],_::_::_,_,_,_,h=>by simp at h
theorem yS (ns:List aF) (F:aD):(gR ns F).length≤ns.length+1:=by
 unfold gR dJ;split
 ·omega
 ·simp
theorem SJ (P:Nat) (ns:List aF) (F:aD):(cu P ns F).length≤ns.length+2:=by
 have:=yS ns F;unfold cu dJ;split
 ·omega
 ·simp;omega
def jW (cs:Cs):Sp:=fun vs H Q _=>∃ (a:eZ) (F:aD) (b:Addr) (A:dY) (p:Nat) (B:Bk),vs=[.ref a.ob,.ref b]∧Pair cs H a F b A p B ∧
 ∀ (A':dY) (vs':List Addr) (wV JQ:Addr) (H':Hp),jB cs H' { a with bl:=wV,pl:=JQ } (bW B.P B.ns F)→aV cs H' b A' p { B with ns:=cu B.P B.ns F }→lM H A A' vs'→(∀ x∈vs',x=a.pl∨x=a.bl)→vs'.Nodup →
  H wV=none→H JQ=none→wV≠JQ→Kp [A.na,a.bl,a.fl,a.ob] H H'→Q .non H'
section
variable {P:Program}{w:World}{K:PySem.W.Frag}{mg:Str→Option Value}{base:Heap}{cs:Cs}
theorem yU:aH ["self","book"] ["self","book"] (au eO):=⟨rfl,rfl,rfl,by decide +kernel,rfl,by decide +kernel,by decide +kernel⟩
theorem yV (co:tX cs) (T:gq K cs.dG "end_formula" "Bracket.end_formula" eO) (cl:Cls K cs.dG) (na:cF K cs.dG ["asked","formulas","boths","parts"])
  (J:aX P w K mg base 4 "joined" ["book","asked","within"] (yR cs)) (EB:bw P w K mg base 5 cs.dG "end_both" ["self","book"] (vg cs)):bw P w K mg base 6 cs.dG "end_formula" ["self","book"] (jW cs):=by
 obtain ⟨f,fd,F,M⟩:=T.ex;refine ⟨f,fd,M,F.binds (fun _ _ _ _ _ _ us hl=>match us,hl with | [_,_],_=>rfl),okN F yU (fun vs H Q E h=>?_) (fun cdv A outer s H vs Q E hr h=>?_)⟩
 ·obtain ⟨a,F,b,A,p,B,rfl,_⟩:=h;rfl
 ·obtain ⟨a,Fr,b,Ad,p,B,rfl,R,kq⟩:=h;obtain ⟨dx,ob⟩:=R.br.ob;have Mw:a.fl∉Ad.lists:=R.ap _ (by simp [eZ.lists]);have JR:a.bl∉Ad.lists:=R.ap _ (by simp [eZ.lists]);have Gk:a.pl∉Ad.lists:=R.ap _ (by simp [eZ.lists]);have agp:Ad.na∈Ad.lists:=by simp [dY.lists]
  have hnd:=R.nd;unfold eZ.lists at hnd;simp only [List.nodup_cons,List.mem_cons,List.mem_singleton,List.not_mem_nil,not_or] at hnd;obtain ⟨⟨nfb,nfp,_⟩,⟨XQ,_⟩,_⟩:=hnd;refine ⟨_,aq (aN (bK (pv 0) cl EB hr aG (aj (pv 1) aA)))
   (aq (aN (ju PySem.F.plainAttrs_list PySem.F.slot_list_append PySem.F.type_list_append cD (aM (pv 0) rfl)
    (aj (bM (J.mono (by decide:4≤5)) hr rfl aG (aj (pv 1) (aj aR (aj (aM (pv 0) rfl) aA)))) aA)))
   (aC (fj (pv 0) (fL aA) rfl))),?_⟩
  refine ⟨_,rfl,a.ob,dx,_,rfl,ob,yP _ _ _ _ (by decide +kernel) (by decide +kernel) (by decide +kernel) (by decide +kernel),_,rfl,a,Fr,b,Ad,p,B,rfl,R,fun A1 v1 VB H1 br1 R1 g1 hv1 hl1 hp1 k1=>?_⟩;obtain ⟨XR,wz⟩:=br1.ob;have SM:H1 a.ob=some (.ins cs.dG XR (Bq (Fr.asked:Int) a.fl a.bl VB)):=wz;have wU:H1 a.fl=some (.lst (nV Fr.fs)):=br1.fs;have bl1:H1 a.bl=some (.lst (nV (dM B.P B.ns Fr).bs)):=br1.bs;have adV:H1 VB=some (.lst []):=br1.ps;have abE:a.bl∉A1.lists:=fun z=>by
   rw [g1.lists] at z;rcases List.mem_append.mp z with z | z
   ·exact JR z
   ·exact XQ (hv1 _ z)
  have abF:a.fl∉A1.lists:=fun z=>by
   rw [g1.lists] at z;rcases List.mem_append.mp z with z | z
   ·exact Mw z
   ·exact nfp (hv1 _ z)
  have fr1:∀ x,H1 x=none→H x=none:=fun x hx=>k1.free (fun y hy=>by
   simp only [List.mem_cons,List.mem_singleton,List.not_mem_nil,or_false] at hy;rcases hy with rfl | rfl | rfl
   ·rw [←g1.na.1,R1.nodes];simp
   ·rw [bl1];simp
   ·rw [SM];simp) hx
  refine ⟨_,rfl,a.ob,cs.dG,XR,_,_,rfl,SM,cl,na _ (by simp),ig _ _ _ _,.inl ⟨rfl,_,bO.of wU⟩,_,rfl,?_⟩;refine ⟨_,rfl,a.ob,cs.dG,XR,_,_,rfl,SM,cl,na _ (by simp),Br _ _ _ _,b,a.bl,1,A1,p,_,_,rfl,R1,bl1,abE,?_,fun A2 v2 H2 R2 g2 hv2 hl2 k2=>?_⟩
  ·show (gR B.ns Fr).length < 100000;have h1:=yS B.ns Fr;have h2:=R.abC;omega
  have na1:A1.na=Ad.na:=g1.na.1;have fl2:H2 a.fl=some (.lst (nV Fr.fs)):=k2 _ _ wU (by simpa using fun z:a.fl=A1.na=>abF (by rw [z];simp [dY.lists]));have bl2:H2 a.bl=some (.lst (nV (dM B.P B.ns Fr).bs)):=k2 _ _ bl1 (by simpa using fun z:a.bl=A1.na=>abE (by rw [z];simp [dY.lists]));have Sy:H2 a.ob=some (.ins cs.dG XR (Bq (Fr.asked:Int) a.fl a.bl VB)):=k2 _ _ SM (by simpa using dW SM R1.nodes);have nlA:VB≠Ad.na:=fun z=>by rw [z,R.bk.nodes] at hp1;cases hp1
  have QV:H2 VB=some (.lst []):=k2 _ _ adV (by rw [na1];simpa using nlA);have npf:VB≠a.fl:=fun z=>by rw [z,R.br.fs] at hp1;cases hp1
  refine ⟨a.fl,_,_,rfl,rfl,fl2,?_,?_⟩
  ·rw [aK];have:=R.few;unfold aD.all at this;rw [List.length_append,List.length_append] at this;exact Nat.lt_trans (by omega) bL
  refine ⟨Nat.zero_le _,fun wV Fz=>?_⟩;have o1:a.ob≠a.fl:=dW Sy fl2;have o2:a.ob≠wV:=fun z=>by rw [←z,ak o1,Sy] at Fz;cases Fz
  have b2:wV≠a.fl:=fun z=>by rw [z,ao] at Fz;cases Fz
  have bn2:H2 wV=none:=by rw [ak b2] at Fz;exact Fz
  have pb:VB≠wV:=aB QV bn2;refine ⟨_,rfl,a.ob,cs.dG,XR,_,rfl,by rw [ak o2,ak o1];exact Sy,cl,na _ (by simp),(by show 4 < 1000;decide),?_⟩;have kk:Kp [a.fl,a.ob] H2 (upd (upd (upd H2 a.fl (.lst (nV Fr.fs++[V.int ((fQ B.P (gR B.ns Fr) (dM B.P B.ns Fr).bs:Nat):Int)]))) wV (.lst [])) a.ob (.ins cs.dG XR (cU "boths" (.ref wV) (Bq (Fr.asked:Int) a.fl a.bl VB)))):=
   ((Kp.refl.upd (.inl (by simp))).upd (.inr bn2)).upd (.inl (by simp))
  have fr2:∀ x,H2 x=none→H1 x=none:=fun x hx=>k2.free (fun y hy=>by
   simp only [List.mem_cons,List.mem_singleton,List.not_mem_nil,or_false] at hy;subst hy;rw [←g2.na.1,R2.nodes];simp) hx
  have gg:=g1.trans g2 fr1;have abG:a.fl∉A2.lists:=fun z=>by
   rw [g2.lists] at z;rcases List.mem_append.mp z with z | z
   ·exact abF z
   ·exact nfb (hv2 _ z)
  refine kq A2 (v1++v2) wV VB _ ⟨⟨XR,Eq.trans ao (congrArg (fun q=>some (HO.ins cs.dG XR q)) (Dn _ _ _ _ _))⟩,?_,?_,?_⟩ (R2.keep kk fun x hx=>?_) gg (fun x hx=>?_) (Zf (fun z=>XQ z.symm) hv1 hl1 hv2 hl2) (fr1 _ (fr2 _ bn2)) hp1 pb.symm ?_
  ·show upd _ _ _ a.fl=_;rw [ak o1.symm,ak b2.symm,ao];show some (HO.lst (nV Fr.fs++[_]))=some (HO.lst (nV (Fr.fs++[nq B.P B.ns Fr])));rw [iD];rfl
  ·show upd _ _ _ wV=_;rw [ak o2.symm,ao];rfl
  ·show upd _ _ _ VB=_;rw [ak (dW Sy QV).symm,ak pb,ak npf,QV];rfl
  ·simp only [List.mem_cons,List.mem_singleton,List.not_mem_nil,or_false] at hx;rcases hx with rfl | rfl
   ·exact .inl ⟨_,fl2,abG⟩
   ·exact .inr ⟨_,_,_,Sy,co.bb,co.bn⟩
  ·rcases List.mem_append.mp hx with z | z
   ·exact .inl (hv1 _ z)
   ·exact .inr (hv2 _ z)
  ·refine (k1.mono fun x hx=>?_).trans ((k2.mono fun x hx=>?_).trans (kk.mono fun x hx=>?_))
   ·simp at hx ⊢;rcases hx with rfl | rfl | rfl <;> simp
   ·simp at hx;rw [hx,na1];simp
   ·simp at hx;rcases hx with rfl | rfl <;> simp
end
end Pg
end
section
set_option linter.all false
set_option maxRecDepth 100000
set_option maxHeartbeats 4000000
namespace Pg
open PySem L2 Xc Sp
def qe (ns:List aF) (F:aD):List aF:=if F.asked=0 then ns else ns++[(F.asked,F.fs)]
def qY (P:Nat) (ns:List aF) (F:aD):Nat:=if F.asked=0 then F.fs.headD 0 else P+ns.length
def Gm (cs:Cs):Sp:=fun vs H Q _=>∃ (a:eZ) (F:aD) (b:Addr) (A:dY) (p:Nat) (B:Bk),vs=[.ref a.ob,.ref b]∧jB cs H a F∧aV cs H b A p B∧a.fl∉A.lists∧F.fs≠[]∧B.ns.length < 100000 ∧
 ∀ (A':dY) (vs':List Addr) (H':Hp),aV cs H' b A' p { B with ns:=qe B.ns F }→lM H A A' vs'→(∀ x∈vs',x=a.fl)→vs'.length≤1→Kp [A.na] H H'→Q (.int ((qY B.P B.ns F:Nat):Int)) H'
section
variable {P:Program}{w:World}{K:PySem.W.Frag}{mg:Str→Option Value}{base:Heap}{cs:Cs}
theorem Pn:aH ["bracket","book"] ["bracket","book"] (au vd):=⟨rfl,rfl,rfl,by decide +kernel,rfl,by decide +kernel,by decide +kernel⟩
theorem Pq (T:bJ K mg "closed" vd) (cl:Cls K cs.dG) (na:cF K cs.dG ["asked","formulas","boths","parts"]) (gO:Cls K cs.boo)
  (AN:bw P w K mg base 3 cs.boo "add_node" ["self","asked","within"] (vf cs)):aX P w K mg base 4 "closed" ["bracket","book"] (Gm cs):=by
 obtain ⟨f,fd,F,hm⟩:=T.ex;refine ⟨f,fd,hm,F.kp,F.binds (fun _ _ _ _ _ _ us hl=>match us,hl with | [_,_],_=>rfl),okN F Pn (fun vs H Q E h=>?_) (fun cdv A outer s H vs Q E hr h=>?_)⟩
 ·obtain ⟨a,F,b,A,p,B,rfl,_⟩:=h;rfl
 ·obtain ⟨a,Fr,b,Ad,p,B,rfl,br,R,Mw,hne,hsm,kq⟩:=h;obtain ⟨dx,ob⟩:=br.ob;obtain ⟨dxB,obB⟩:=R.ob;refine ⟨_,aq (dD (aQ gV (aM (pv 0) rfl) aR (aY _)) (aC (bf (fM eE (aM (pv 0) rfl) aR (fun _ _=>rfl)))) bU)
   (aC (bf (bK (pv 1) gO AN hr aG (aj (aM (pv 0) rfl) (aj (aM (pv 0) rfl) aA))))),?_⟩
  refine ⟨_,rfl,a.ob,cs.dG,dx,_,_,rfl,ob,cl,na _ (by simp),qH _ _ _ _,rfl,_,rfl,bV (fun hc=>?_) fun hc=>?_⟩
  ·have h0:Fr.asked=0:=by
    have:=of_decide_eq_true hc;injection this with this
    omega
   have e1:qe B.ns Fr=B.ns:=if_pos h0;have e2:qY B.P B.ns Fr=Fr.fs.headD 0:=if_pos h0;obtain ⟨i,r,hi⟩:∃ i r,Fr.fs=i::r:=by
    cases q:Fr.fs with
    | nil=>exact absurd q hne
    | cons i r=>exact ⟨i,r,rfl⟩
   refine ⟨_,rfl,a.ob,cs.dG,dx,_,_,rfl,ob,cl,na _ (by simp),ig _ _ _ _,a.fl,_,_,V.int (i:Int),rfl,rfl,bO.of br.fs,at_of (j:=0) rfl (by rw [hi];rfl),?_⟩;show Q (V.int (i:Int)) H;have e3:(i:Int)=((qY B.P B.ns Fr:Nat):Int):=by rw [e2,hi];rfl
   rw [e3];exact kq Ad [] H (by rw [e1];exact R) (lM.none H Ad) (fun x hx=>by simp at hx) (by simp) Kp.refl
  ·have h0:¬ Fr.asked=0:=fun z=>hc (decide_eq_true (by rw [z];rfl));have e1:qe B.ns Fr=B.ns++[(Fr.asked,Fr.fs)]:=if_neg h0;have e2:qY B.P B.ns Fr=B.P+B.ns.length:=if_neg h0;refine ⟨_,rfl,b,dxB,_,rfl,obB,oA _ _ _ _ _ (by decide +kernel) (by decide +kernel) (by decide +kernel) (by decide +kernel) (by decide +kernel),_,rfl,a.ob,cs.dG,dx,_,_,rfl,ob,cl,na _ (by simp),qH _ _ _ _,
    _,rfl,a.ob,cs.dG,dx,_,_,rfl,ob,cl,na _ (by simp),ig _ _ _ _,b,a.fl,Fr.asked,Ad,p,B,Fr.fs,rfl,R,br.fs,Mw,hsm,fun nx H' R' k' hn=>?_⟩
   rw [←e2];exact kq _ [a.fl] H' (by rw [e1];exact R') (lM.one hn) (fun x hx=>by simpa using hx) (by simp) k'
end
end Pg
end
section
set_option linter.all false
set_option maxRecDepth 100000
set_option maxHeartbeats 4000000
namespace Pg
open PySem PySem.Spec PyProof.Rows L2 Xc Sp
structure XS (K:PySem.W.Frag) (C:Addr) (m:Str) (f:Addr):Prop where
 rd:PySem.W.readsIn K C (.type "type")=true
 fc:PySem.W.findCls K (.ref C) (.type "type") m=some (.val (.ref f))
 ga:PySem.W.specialIn K (.ref C) "__getattribute__"=some (some (.builtin "type.__getattribute__"))
 kp:PySem.W.keepIn K (.ref f)=true
theorem oN {X:Cx}{k:Nat}{C f:Addr}{fd:FuncData}{ps:List Str}{sp:Sp}{E:XK}{x m:Str}{p pos apos:Pos}{e:Expr}{es:List Expr}{t:TA}{pl:Sem Bool} (hg:Gl X x) (hm:X.mg x=some (.ref C)) (c:XS X.K C m f)
  (F:iR X.prog X.w X.K X.mg X.base (bI X.prog X.w) k f fd ps sp) (hr:dZ k X.A) (hb:Binds X.K fd ps []) (hx:Passes (bI X.prog X.w) X E) (ha:PA X (e::es) t) (hdb:(x==("__debug__":Str))=false:=by decide)
  (hst:starEach (e::es) X.env=(false,eval e X.env)::starEach es X.env:=by rfl) (hpl:(backTo pos (starEach es X.env)).any (·.1)=false:=by rfl)
  (ht:eval (.Call (.Attribute (.Name x p) m apos) (e::es) [] pos) X.env=(do
   let ov ←eval (.Name x p) X.env
   standAt apos.atName
   let (f,first) ←holding [ov] (getMethod ov m pl)
   callWith pos f first (backTo pos (starEach (e::es) X.env)) (backToKw pos (keywordEach [] X.env))):=by rfl) :
  PE X (.Call (.Attribute (.Name x p) m apos) (e::es) [] pos) (Rk sp [] E t):=by
 intro pins s σ H Q I h;refine PySem.W.methodCall_KW (pl:=pl) (jT I hg hm ?_ hdb) ht;refine PySem.W.method_cls I.rH c.ga (PySem.W.cls_value I.rH c.rd c.fc rfl ?_);have I1:=I.tok (s.toks+1);refine PySem.W.callWith_K (first:=[]) (h₀:=X.base) I.ok.mod.Vu c.kp (dI (ha pos pins _ σ H _ I1 h) fun us s2 ⟨vs,H2,I2,r,q2⟩=>⟨I2.rH,?_⟩) hst hpl;exact CG (us:=us) (vs:=vs) F hr hb .nil hx I2 r q2
def SN (n:Int):List (Str×V):=[("number",.int n)]
def Pu (K:PySem.W.Frag):Sp:=fun vs H Q _=>∃ (x C:Addr) (n:Int),vs=[.ref x,.int n]∧H x=some (.ext (tR C x))∧Wm K C∧PySem.W.findIn K (.ref C) "number"=some none ∧
 ∀ (dx:Addr) (H':Hp),H' x=some (.ext (pW C dx x))→H' dx=some (.xd (SN n))→H dx=none→Kp [x] H H'→Q .non H'
def mO (K:PySem.W.Frag) (C:Addr) (n:Int):Sp:=fun vs H Q _=>∃ (x:Addr),vs=[.ref x]∧H x=some (.ext (tR C x)) ∧
 ∀ (dx:Addr) (H':Hp),H' x=some (.ext (pW C dx x))→H' dx=some (.xd (SN n))→H dx=none→Kp [x] H H'→Q .non H'
def SQ (K:PySem.W.Frag) (C:Addr):Sp:=fun vs H Q _=>∃ (x:Addr) (i:Int),vs=[.ref x,.int i]∧H x=some (.ext (tR C x)) ∧
 ∀ (dx:Addr) (H':Hp),H' x=some (.ext (pW C dx x))→H' dx=some (.xd (SN (-100-i)))→H dx=none→Kp [x] H H'→Q .non H'
section
variable {P:Program}{w:World}{K:PySem.W.Frag}{mg:Str→Option Value}{base:Heap}{cs:Cs}
theorem JT:aH ["self","number"] ["self","number"] (au cQ):=⟨rfl,rfl,rfl,by decide +kernel,rfl,by decide +kernel,by decide +kernel⟩
theorem oO {f:Addr}{fd:FuncData} (F:Jy K "__init__" "Refusal.__init__" cQ f fd):iR P w K mg base (bI P w) 1 f fd ["self","number"] (Pu K):=by
 refine okN F JT (fun vs H Q E h=>?_) (fun cdv A outer s H vs Q E hr h=>?_)
 ·obtain ⟨x,C,n,rfl,_⟩:=h;rfl
 ·obtain ⟨x,C,n,rfl,hx,c,nn,kq⟩:=h;refine ⟨_,aC (Wo (pv 0) (pv 1) rfl),?_⟩;refine ⟨_,rfl,_,rfl,x,C,rfl,hx,c,nn,fun dx hd=>?_⟩;have hdx:dx≠x:=fun z=>by rw [z,hx] at hd;cases hd
  exact kq dx _ ao (by rw [ak hdx,ao];rfl) hd ((Kp.refl.upd (.inr hd)).upd (.inl (by simp)))
theorem jo {f:Addr}{fd:FuncData} (F:Jy K "__init__" "Refusal.__init__" cQ f fd):Binds K fd ["self","number"] []:=F.binds (fun _ _ _ _ _ _ us hl=>match us,hl with | [_,_],_=>rfl)
structure vW (K:PySem.W.Frag) (mg:Str→Option Value) (cs:Cs):Prop where
 ref:∃ f fd,Jy K "__init__" "Refusal.__init__" cQ f fd∧XS K cs.ref "__init__" f
 mref:mg "Refusal"=some (.ref cs.ref)
 mH:Gd K mg "OutOfRange" cs.mH "OutOfRange.__init__" gK
 pF:Gd K mg "OverLimit" cs.pF "OverLimit.__init__" iy
 cst:Gd K mg "CannotStand" cs.cst "CannotStand.__init__" gw
 Wz:PySem.W.findIn K (.ref cs.mH) "number"=some none
 abH:PySem.W.findIn K (.ref cs.pF) "number"=some none
 abI:PySem.W.findIn K (.ref cs.cst) "number"=some none
structure rC (P:Program) (w:World) (K:PySem.W.Frag) (mg:Str→Option Value) (base:Heap) (k:Nat) (x:Str) (C:Addr) (ps:List Str) (sp:Sp):Prop where
 ex:∃ f fd,mg x=some (.ref C)∧JC K C f∧Binds K fd ps []∧iR P w K mg base (bI P w) k f fd ps sp
theorem Ak:aH ["self"] ["self"] (au gK):=⟨rfl,rfl,rfl,by decide +kernel,rfl,by decide +kernel,by decide +kernel⟩
theorem Dp:aH ["self"] ["self"] (au iy):=⟨rfl,rfl,rfl,by decide +kernel,rfl,by decide +kernel,by decide +kernel⟩
theorem yW:aH ["self","place"] ["self","place"] (au gw):=⟨rfl,rfl,rfl,by decide +kernel,rfl,by decide +kernel,by decide +kernel⟩
theorem jq (T:vW K mg cs):rC P w K mg base 2 "OutOfRange" cs.mH ["self"] (mO K cs.mH (-2)):=by
 obtain ⟨fR,fdR,FR,cm⟩:=T.ref;obtain ⟨f,fd,F,M,hm⟩:=T.mH.ex;refine ⟨f,fd,hm,M,F.binds (fun _ _ _ _ _ _ us hl=>match us,hl with | [_],_=>rfl),okN F Ak (fun vs H Q E h=>?_) (fun cdv A outer s H vs Q E hr h=>?_)⟩
 ·obtain ⟨x,rfl,_⟩:=h;rfl
 ·obtain ⟨x,rfl,hx,kq⟩:=h;refine ⟨_,aC (aN (oN rfl T.mref cm (oO FR) hr (jo FR) aG (aj (pv 0) (aj (xM rK aR) aA)))),?_⟩;refine ⟨_,rfl,_,rfl,x,cs.mH,-2,rfl,hx,T.mH.cls,T.Wz,fun dx H' h1 h2 h3 h4=>kq dx H' h1 h2 h3 h4⟩
theorem Dq (T:vW K mg cs):rC P w K mg base 2 "OverLimit" cs.pF ["self"] (mO K cs.pF (-5)):=by
 obtain ⟨fR,fdR,FR,cm⟩:=T.ref;obtain ⟨f,fd,F,M,hm⟩:=T.pF.ex;refine ⟨f,fd,hm,M,F.binds (fun _ _ _ _ _ _ us hl=>match us,hl with | [_],_=>rfl),okN F Dp (fun vs H Q E h=>?_) (fun cdv A outer s H vs Q E hr h=>?_)⟩
 ·obtain ⟨x,rfl,_⟩:=h;rfl
 ·obtain ⟨x,rfl,hx,kq⟩:=h;refine ⟨_,aC (aN (oN rfl T.mref cm (oO FR) hr (jo FR) aG (aj (pv 0) (aj (xM rK aR) aA)))),?_⟩;refine ⟨_,rfl,_,rfl,x,cs.pF,-5,rfl,hx,T.pF.cls,T.abH,fun dx H' h1 h2 h3 h4=>kq dx H' h1 h2 h3 h4⟩
theorem yX (T:vW K mg cs):rC P w K mg base 2 "CannotStand" cs.cst ["self","place"] (SQ K cs.cst):=by
 obtain ⟨fR,fdR,FR,cm⟩:=T.ref;obtain ⟨f,fd,F,M,hm⟩:=T.cst.ex;refine ⟨f,fd,hm,M,F.binds (fun _ _ _ _ _ _ us hl=>match us,hl with | [_,_],_=>rfl),okN F yW (fun vs H Q E h=>?_) (fun cdv A outer s H vs Q E hr h=>?_)⟩
 ·obtain ⟨x,i,rfl,_⟩:=h;rfl
 ·obtain ⟨x,i,rfl,hx,kq⟩:=h;refine ⟨_,aC (aN (oN rfl T.mref cm (oO FR) hr (jo FR) aG (aj (pv 0) (aj (fG uJ (xM rK aR) (pv 1)) aA)))),?_⟩;refine ⟨_,rfl,_,rfl,_,rfl,_,_,rfl,rfl,x,cs.cst,-100-i,rfl,hx,T.cst.cls,T.abI,fun dx H' h1 h2 h3 h4=>kq dx H' h1 h2 h3 h4⟩
end
end Pg
end
section
set_option linter.all false
set_option maxRecDepth 100000
set_option maxHeartbeats 4000000
namespace Pg
open PySem L2 Xc Sp
def X3 (cs:Cs) (H:Hp) (a:Addr) (t:PT):Prop:=∃ dx,H a=some (.ins cs.tok dx (FZ (kindS t.1) (bR t.1) (t.2:Int)))
structure rZ (cs:Cs) (H:Hp) (lt:Addr) (as:List Addr) (T:List PT):Prop where
 lst:H lt=some (.lst (as.map V.ref))
 len:as.length=T.length
 at_:∀ (j:Nat) (a:Addr) (t:PT),as[j]?=some a→T[j]?=some t→X3 cs H a t
structure bN (cs:Cs) (H:Hp) (r lt:Addr) (as:List Addr) (T:List PT) (i:Nat):Prop where
 ob:∃ dx,H r=some (.ins cs.cB dx (Jd lt (i:Int)))
 tk:rZ cs H lt as T
def uE (E:XK) (C:Addr) (n:Int):Prop:=∀ dx H',H' dx=some (.xd (SN n))→E (.ref C) (some dx) H'
def mj (cs:Cs):Sp:=fun vs H Q _=>∃ (r lt:Addr) (as:List Addr) (T:List PT) (i:Nat) (t:PT),vs=[.ref r]∧bN cs H r lt as T i∧T[i]?=some t∧∀ a,X3 cs H a t→Q (.ref a) H
def oR (cs:Cs):Sp:=fun vs H Q E=>∃ (r lt:Addr) (as:List Addr) (T:List PT) (i:Nat) (t:PT) (c:Bool),vs=[.ref r,.bl c]∧bN cs H r lt as T i∧T[i]?=some t ∧
 (c=true→∀ H',bN cs H' r lt as T (i+1)→Kp [r] H H'→Q (.str (bR t.1)) H')∧(c=false→uE E cs.cst (-100-(t.2:Int)))
def kh (cs:Cs):Sp:=fun vs H Q E=>∃ (r lt:Addr) (as:List Addr) (T:List PT) (i:Nat) (t:PT) (wd:Str),vs=[.ref r,.str wd]∧bN cs H r lt as T i∧T[i]?=some t ∧
 (bR t.1=wd→∀ H',bN cs H' r lt as T (i+1)→Kp [r] H H'→Q (.str (bR t.1)) H')∧(¬ bR t.1=wd→uE E cs.cst (-100-(t.2:Int)))
def vh (cs:Cs) (known:Bool):Sp:=fun vs H Q E=>∃ (r lt:Addr) (as:List Addr) (T:List PT) (i:Nat) (t:PT) (ma:Addr) (kvs:List (Key×V)),vs=[.ref r,.ref ma]∧bN cs H r lt as T i∧T[i]?=some t∧H ma=some (.dK kvs) ∧
 (kindS t.1="name"∧(lK kvs (Sum.inr (bR t.1))).isSome=known→∀ H',bN cs H' r lt as T (i+1)→Kp [r] H H'→Q (.str (bR t.1)) H') ∧
 (¬ (kindS t.1="name"∧(lK kvs (Sum.inr (bR t.1))).isSome=known)→uE E cs.cst (-100-(t.2:Int)))
section
variable {P:Program}{w:World}{K:PySem.W.Frag}{mg:Str→Option Value}{base:Heap}{cs:Cs}
theorem Zg:aH ["self"] ["self"] (au mK):=⟨rfl,rfl,rfl,by decide +kernel,rfl,by decide +kernel,by decide +kernel⟩
theorem Zh (T:gq K cs.cB "now" "Reader.now" mK) (cl:Cls K cs.cB) (na:cF K cs.cB ["tokens","at"]):bw P w K mg base 1 cs.cB "now" ["self"] (mj cs):=by
 obtain ⟨f,fd,F,M⟩:=T.ex;refine ⟨f,fd,M,F.binds (fun _ _ _ _ _ _ us hl=>match us,hl with | [_],_=>rfl),okN F Zg (fun vs H Q E h=>?_) (fun cdv A outer s H vs Q E hr h=>?_)⟩
 ·obtain ⟨r,lt,as,T,i,t,rfl,_⟩:=h;rfl
 ·obtain ⟨r,lt,as,T,i,t,rfl,R,ht,kq⟩:=h;obtain ⟨dx,ob⟩:=R.ob;have hi:i < as.length:=by rw [R.tk.len];exact (List.getElem?_eq_some_iff.mp ht).1
  refine ⟨_,aC (bf (fM eE (aM (pv 0) rfl) (aM (pv 0) rfl) (fun _ _=>rfl))),?_⟩;refine ⟨_,rfl,r,cs.cB,dx,_,_,rfl,ob,cl,na _ (by simp),JK _ _,_,rfl,r,cs.cB,dx,_,_,rfl,ob,cl,na _ (by simp),JL _ _,lt,_,_,V.ref as[i],rfl,rfl,bO.of R.tk.lst,at_of (j:=i) rfl (by rw [List.getElem?_map,List.getElem?_eq_getElem hi];rfl),?_⟩;exact kq as[i] (R.tk.at_ i _ t (List.getElem?_eq_getElem hi) ht)
theorem Mx:aH ["self","stands","token"] ["self","stands"] (au kY):=⟨rfl,rfl,rfl,by decide +kernel,rfl,by decide +kernel,by decide +kernel⟩
theorem WD (T:gq K cs.cB "take" "Reader.take" kY) (cl:Cls K cs.cB) (na:cF K cs.cB ["tokens","at"]) (qK:Cls K cs.tok) (qL:cF K cs.tok ["kind","word","place"])
  (NW:bw P w K mg base 1 cs.cB "now" ["self"] (mj cs)) (CS:rC P w K mg base 2 "CannotStand" cs.cst ["self","place"] (SQ K cs.cst)):bw P w K mg base 4 cs.cB "take" ["self","stands"] (oR cs):=by
 obtain ⟨f,fd,F,M⟩:=T.ex;obtain ⟨fC,fdC,JV,MC,bC,GC⟩:=CS.ex;refine ⟨f,fd,M,F.binds (fun _ _ _ _ _ _ us hl=>match us,hl with | [_,_],_=>rfl),Bs F Mx (fun vs H Q E h=>?_) (fun cdv A outer s H vs Q E hr h=>?_)⟩
 ·obtain ⟨r,lt,as,T,i,t,c,rfl,_⟩:=h;rfl
 ·obtain ⟨r,lt,as,T,i,t,c,rfl,R,ht,kq,kx⟩:=h;obtain ⟨dx,ob⟩:=R.ob;refine ⟨_,aq (aZ (i:=2) Mx.nd rfl (Or.inl rfl) (dR (pv 0) cl (NW.mono (by decide:1≤3)) hr aG))
   (aq (dD (Jf (mD (pv 1))) (aC (RQ MC GC hr bC rfl JV (aj (aM (pv 2) rfl) aA))) bU)
   (aq (Ov (pv 0) aR Yy) (aC (bf (aM (pv 2) rfl))))),?_⟩
  refine ⟨_,rfl,r,dx,_,rfl,ob,iu _ _ (by decide +kernel) (by decide +kernel),r,lt,as,T,i,t,rfl,R,ht,fun a ta=>?_⟩;obtain ⟨dt,Ac⟩:=id ta;refine ⟨_,rfl,c,rfl,?_⟩;cases c with
  | false=>
   refine CZ ?_;refine ⟨_,rfl,a,cs.tok,dt,_,_,rfl,Ac,qK,qL _ (by simp),JH _ _ _,(by show 1≤sizeLine;decide),fun x hx=>?_⟩;refine ⟨x,_,rfl,ao,fun dy H' h1 h2 h3 h4=>⟨rfl,x,dy,rfl,h1,?_⟩⟩;have hdx:dy≠x:=fun z=>by rw [z,ao] at h3;cases h3
   exact kx rfl dy _ (by rw [fO hdx];exact h2)
  | true=>
   refine Fv ?_;refine ⟨_,rfl,r,cs.cB,dx,_,_,rfl,ob,cl,na _ (by simp),JL _ _,_,_,rfl,rfl,dx,_,ob,(by show 2 < 1000;decide),?_⟩;have na':a≠r:=lN Ac ob (by
    intro z;injection z with _ _ z
    exact absurd (congrArg List.length z) (by show ¬ 3=2;decide))
   refine ⟨_,rfl,a,cs.tok,dt,_,_,rfl,by rw [ak na'];exact Ac,qK,qL _ (by simp),iW _ _ _,?_⟩;have kp:Kp [r] H (upd H r (.ins cs.cB dx (cU "at" (.int ((i:Int)+1)) (Jd lt (i:Int))))):=Kp.refl.upd (.inl (by simp));refine kq rfl _ ⟨⟨dx,?_⟩,⟨kp _ _ R.tk.lst (by simpa using (dW ob R.tk.lst).symm),R.tk.len,fun j b u e1 e2=>?_⟩⟩ kp
   ·rw [ao,Wt];rfl
   ·obtain ⟨dy,hb⟩:=R.tk.at_ j b u e1 e2;exact ⟨dy,kp _ _ hb (by
     have:b≠r:=lN hb ob (by
      intro z;injection z with _ _ z
      exact absurd (congrArg List.length z) (by show ¬ 3=2;decide))
     simpa using this)⟩
theorem JW:aH ["self","word"] ["self","word"] (au eU):=⟨rfl,rfl,rfl,by decide +kernel,rfl,by decide +kernel,by decide +kernel⟩
theorem JX (T:gq K cs.cB "take_written" "Reader.take_written" eU) (cl:Cls K cs.cB) (qK:Cls K cs.tok) (qL:cF K cs.tok ["kind","word","place"])
  (NW:bw P w K mg base 1 cs.cB "now" ["self"] (mj cs)) (TK:bw P w K mg base 4 cs.cB "take" ["self","stands"] (oR cs)):bw P w K mg base 5 cs.cB "take_written" ["self","word"] (kh cs):=by
 obtain ⟨f,fd,F,M⟩:=T.ex;refine ⟨f,fd,M,F.binds (fun _ _ _ _ _ _ us hl=>match us,hl with | [_,_],_=>rfl),Bs F JW (fun vs H Q E h=>?_) (fun cdv A outer s H vs Q E hr h=>?_)⟩
 ·obtain ⟨r,lt,as,T,i,t,wd,rfl,_⟩:=h;rfl
 ·obtain ⟨r,lt,as,T,i,t,wd,rfl,R,ht,kq,kx⟩:=h;obtain ⟨dx,ob⟩:=R.ob;refine ⟨_,aC (bf (bK (pv 0) cl TK hr bh (aj (d9 gV (aM (dR (pv 0) cl (NW.mono (by decide:1≤4)) hr aG) rfl) (pv 1) (aY _)) aA))),?_⟩;refine ⟨_,rfl,r,dx,_,rfl,ob,iu _ _ (by decide +kernel) (by decide +kernel),?_⟩;refine ⟨_,rfl,r,dx,_,rfl,ob,iu _ _ (by decide +kernel) (by decide +kernel),r,lt,as,T,i,t,rfl,R,ht,fun a ta=>?_⟩;obtain ⟨dt,Ac⟩:=id ta;refine ⟨a,cs.tok,dt,_,_,rfl,Ac,qK,qL _ (by simp),iW _ _ _,_,rfl,rfl,?_⟩;refine ⟨r,lt,as,T,i,t,_,rfl,R,ht,fun hc=>kq ?_,fun hc=>kx fun z=>?_⟩
  ·have:=of_decide_eq_true hc;injection this
  ·rw [z] at hc;simp at hc
theorem SX:aH ["self","names","token"] ["self","names"] (au dU):=⟨rfl,rfl,rfl,by decide +kernel,rfl,by decide +kernel,by decide +kernel⟩
theorem Zi (T:gq K cs.cB "take_new_name" "Reader.take_new_name" dU) (cl:Cls K cs.cB) (qK:Cls K cs.tok) (qL:cF K cs.tok ["kind","word","place"]) (hN:∃ t,mg "NAME"=some (.str "name" t))
  (NW:bw P w K mg base 1 cs.cB "now" ["self"] (mj cs)) (TK:bw P w K mg base 4 cs.cB "take" ["self","stands"] (oR cs)):bw P w K mg base 5 cs.cB "take_new_name" ["self","names"] (vh cs false):=by
 obtain ⟨f,fd,F,M⟩:=T.ex;obtain ⟨tn,hN⟩:=hN;refine ⟨f,fd,M,F.binds (fun _ _ _ _ _ _ us hl=>match us,hl with | [_,_],_=>rfl),Bs F SX (fun vs H Q E h=>?_) (fun cdv A outer s H vs Q E hr h=>?_)⟩
 ·obtain ⟨r,lt,as,T,i,t,ma,kvs,rfl,_⟩:=h;rfl
 ·obtain ⟨r,lt,as,T,i,t,ma,kvs,rfl,R,ht,hma,kq,kx⟩:=h;obtain ⟨dx,ob⟩:=R.ob;refine ⟨_,aq (aZ (i:=2) SX.nd rfl (Or.inl rfl) (dR (pv 0) cl (NW.mono (by decide:1≤4)) hr aG))
   (aC (bf (bK (pv 0) cl TK hr bh (aj (Cp (d9 gV (aM (pv 2) rfl) (bF (v:=.str "name") rfl hN ⟨tn,rfl⟩) (aY _)) (Cm (Q0 (O1 (yq hr) (aM (pv 2) rfl) (pv 1))))) aA)))),?_⟩
  refine ⟨_,rfl,r,dx,_,rfl,ob,iu _ _ (by decide +kernel) (by decide +kernel),r,lt,as,T,i,t,rfl,R,ht,fun a ta=>?_⟩;obtain ⟨dt,Ac⟩:=id ta;refine ⟨_,rfl,r,dx,_,rfl,ob,iu _ _ (by decide +kernel) (by decide +kernel),?_⟩;refine ⟨_,rfl,a,cs.tok,dt,_,_,rfl,Ac,qK,qL _ (by simp),nA _ _ _,rfl,_,rfl,bV (fun hc=>?_) fun hc=>?_⟩
  ·have hk:kindS t.1="name":=by
    have:=of_decide_eq_true hc;injection this
   refine ⟨_,rfl,a,cs.tok,dt,_,_,rfl,Ac,qK,qL _ (by simp),iW _ _ _,_,rfl,ma,_,rfl,qW.k (k:=Sum.inr (bR t.1)) hma,?_⟩;refine ⟨r,lt,as,T,i,t,_,rfl,R,ht,fun h2=>kq ⟨hk,by simpa using h2⟩,fun h2=>kx fun z=>?_⟩;rw [z.2] at h2;simp at h2
  ·refine ⟨r,lt,as,T,i,t,_,rfl,R,ht,fun h2=>absurd h2 Bool.false_ne_true,fun h2=>kx fun z=>hc (decide_eq_true (by rw [z.1]))⟩
theorem Gn:aH ["self","names","token"] ["self","names"] (au dw):=⟨rfl,rfl,rfl,by decide +kernel,rfl,by decide +kernel,by decide +kernel⟩
theorem S7 (T:gq K cs.cB "take_known_name" "Reader.take_known_name" dw) (cl:Cls K cs.cB) (qK:Cls K cs.tok) (qL:cF K cs.tok ["kind","word","place"]) (hN:∃ t,mg "NAME"=some (.str "name" t))
  (NW:bw P w K mg base 1 cs.cB "now" ["self"] (mj cs)) (TK:bw P w K mg base 4 cs.cB "take" ["self","stands"] (oR cs)):bw P w K mg base 5 cs.cB "take_known_name" ["self","names"] (vh cs true):=by
 obtain ⟨f,fd,F,M⟩:=T.ex;obtain ⟨tn,hN⟩:=hN;refine ⟨f,fd,M,F.binds (fun _ _ _ _ _ _ us hl=>match us,hl with | [_,_],_=>rfl),Bs F Gn (fun vs H Q E h=>?_) (fun cdv A outer s H vs Q E hr h=>?_)⟩
 ·obtain ⟨r,lt,as,T,i,t,ma,kvs,rfl,_⟩:=h;rfl
 ·obtain ⟨r,lt,as,T,i,t,ma,kvs,rfl,R,ht,hma,kq,kx⟩:=h;obtain ⟨dx,ob⟩:=R.ob;refine ⟨_,aq (aZ (i:=2) Gn.nd rfl (Or.inl rfl) (dR (pv 0) cl (NW.mono (by decide:1≤4)) hr aG))
   (aC (bf (bK (pv 0) cl TK hr bh (aj (Cp (d9 gV (aM (pv 2) rfl) (bF (v:=.str "name") rfl hN ⟨tn,rfl⟩) (aY _)) (Cm (Q0 (YM (yq hr) (aM (pv 2) rfl) (pv 1))))) aA)))),?_⟩
  refine ⟨_,rfl,r,dx,_,rfl,ob,iu _ _ (by decide +kernel) (by decide +kernel),r,lt,as,T,i,t,rfl,R,ht,fun a ta=>?_⟩;obtain ⟨dt,Ac⟩:=id ta;refine ⟨_,rfl,r,dx,_,rfl,ob,iu _ _ (by decide +kernel) (by decide +kernel),?_⟩;refine ⟨_,rfl,a,cs.tok,dt,_,_,rfl,Ac,qK,qL _ (by simp),nA _ _ _,rfl,_,rfl,bV (fun hc=>?_) fun hc=>?_⟩
  ·have hk:kindS t.1="name":=by
    have:=of_decide_eq_true hc;injection this
   refine ⟨_,rfl,a,cs.tok,dt,_,_,rfl,Ac,qK,qL _ (by simp),iW _ _ _,_,rfl,ma,_,rfl,qW.k (k:=Sum.inr (bR t.1)) hma,?_⟩;refine ⟨r,lt,as,T,i,t,_,rfl,R,ht,fun h2=>kq ⟨hk,h2⟩,fun h2=>kx fun z=>?_⟩;rw [z.2] at h2;cases h2
  ·refine ⟨r,lt,as,T,i,t,_,rfl,R,ht,fun h2=>absurd h2 Bool.false_ne_true,fun h2=>kx fun z=>hc (decide_eq_true (by rw [z.1]))⟩
end
end Pg
end
section
set_option linter.all false
set_option maxRecDepth 100000
set_option maxHeartbeats 4000000
namespace Pg
open PySem L2 Xc Sp Rb35
def tk (T:List PT) (i:Nat):Toks:=Dg (T.drop i)
structure QW (T:List PT):Prop where
 next:∀ i t,T[i]?=some t→t.1≠[]→∃ u,T[i+1]?=some u
 dig:∀ t∈T,kindS t.1="number"→∀ c∈t.1,isDigit c=true
 few:T.length≤10000
section
variable {T:List PT}{i:Nat}{t:PT}
theorem WK (h:T[i]?=some t):T.drop i=t::T.drop (i+1):=by
 obtain ⟨hi,e⟩:=List.getElem?_eq_some_iff.mp h;rw [List.drop_eq_getElem_cons hi,e]
theorem gD (h:T[i]?=some t):tk T i=match bQ t.1 with
  | .bad=>[(.bad,t.2)]
  | .ended=>[(.ended,t.2)]
  | x=>(x,t.2)::tk T (i+1):=by
 unfold tk;rw [WK h];rfl
theorem jC (h:T[i]?=some t):placeOf (tk T i)=t.2:=by
 rw [gD h];cases bQ t.1 <;> rfl
def sgn:List Nat:=[40,41,44,59,61,38,124]
theorem S8 {c:Nat} (h:c∈sgn):bQ [c]=.sign c:=by
 simp only [sgn,List.mem_cons,List.not_mem_nil,or_false] at h;rcases h with rfl | rfl | rfl | rfl | rfl | rfl | rfl <;> rfl
theorem Dr {w:List Nat}{c:Nat} (h:bQ w=.sign c):w=[c]:=by
 cases w with
 | nil=>cases h
 | cons a r=>
  unfold bQ at h;dsimp only at h;split at h
  ·split at h <;> cases h
  ·split at h
   ·split at h <;> cases h
   ·split at h
    ·rename_i q;cases h;rw [q.1]
    ·cases h
theorem jX {w b:List Nat} (h:bQ w=.name b):w=b:=by
 cases w with
 | nil=>cases h
 | cons a r=>
  unfold bQ at h;dsimp only at h;split at h
  ·split at h
   ·cases h
   ·cases h;rfl
  ·split at h
   ·split at h <;> cases h
   ·split at h <;> cases h
theorem Gp {w:List Nat} (h:bQ w=.ended):w=[]:=by
 cases w with
 | nil=>rfl
 | cons a r=>
  unfold bQ at h;dsimp only at h;split at h
  ·split at h <;> cases h
  ·split at h
   ·split at h <;> cases h
   ·split at h <;> cases h
theorem iG {c:Nat} (hc:c∈sgn) (h:T[i]?=some t) (e:t.1=[c]):tk T i=(.sign c,t.2)::tk T (i+1):=by
 rw [gD h,e,S8 hc]
theorem rD {c:Nat} (hc:c∈sgn) (h:T[i]?=some t):is_ c (tk T i)=decide (t.1=[c]):=by
 by_cases e:t.1=[c]
 ·rw [iG hc h e,decide_eq_true e];simp [is_]
 ·rw [decide_eq_false e,gD h];cases q:bQ t.1 with
  | sign d=>
   show (c==d)=false;have:=Dr q;simpa using fun z:c=d=>e (by rw [this,z])
  | name b=>rfl
  | num b=>rfl
  | bad=>rfl
  | ended=>rfl
theorem oU {s:String} (hs:bQ (ascii s)=.name (ascii s)) (h:T[i]?=some t):isKey s (tk T i)=decide (t.1=ascii s):=by
 by_cases e:t.1=ascii s
 ·rw [decide_eq_true e,gD h,e,hs];simp [isKey]
 ·rw [decide_eq_false e,gD h];cases q:bQ t.1 with
  | name b=>
   show decide (b=ascii s)=false;rw [←jX q];exact decide_eq_false e
  | sign b=>rfl
  | num b=>rfl
  | bad=>rfl
  | ended=>rfl
theorem qM {s:String} (hs:bQ (ascii s)=.name (ascii s)) (h:T[i]?=some t) (e:t.1=ascii s):tk T i=(.name (ascii s),t.2)::tk T (i+1):=by
 rw [gD h,e,hs]
theorem Bu {w:List Nat} (h:kindS w="name"):bQ w=.name w∧keys.contains w=false:=by
 cases w with
 | nil=>exact absurd h (by decide +kernel)
 | cons c r=>
  unfold kindS at h;dsimp only at h;by_cases q:isSmall c=true∧(c::r).length≤15∧¬ keys.contains (c::r)=true
  ·refine ⟨?_,by simpa using q.2.2⟩;unfold bQ;dsimp only;rw [if_pos q.1,if_neg (by omega)]
  ·rw [if_neg q] at h;split at h <;> exact absurd h (by decide +kernel)
theorem rE {w b:List Nat} (h:¬ kindS w="name") (a:bQ w=.name b):keys.contains b=true:=by
 have e:=jX a;subst e;cases w with
 | nil=>cases a
 | cons c r=>
  unfold bQ at a;dsimp only at a;by_cases hs:isSmall c=true
  ·rw [if_pos hs] at a;by_cases hl:15 < (c::r).length
   ·rw [if_pos hl] at a;cases a
   ·cases k:keys.contains (c::r) with
    | true=>rfl
    | false=>
     refine absurd ?_ h;unfold kindS;dsimp only;rw [if_pos ⟨hs,by omega,by rw [k];decide⟩]
  ·rw [if_neg hs] at a;split at a
   ·split at a <;> cases a
   ·split at a <;> cases a
theorem vX {c:Nat} (h:isDigit c=true):isSmall c=false:=by
 cases q:isSmall c with
 | false=>rfl
 | true=>simp [isSmall,isDigit] at h q;omega
theorem jD {w:List Nat} (h:kindS w="number"):bQ w=.num (valueOf w)∧w.length≤5:=by
 cases w with
 | nil=>exact absurd h (by decide +kernel)
 | cons c r=>
  unfold kindS at h;dsimp only at h;by_cases q:isSmall c=true∧(c::r).length≤15∧¬ keys.contains (c::r)=true
  ·rw [if_pos q] at h;exact absurd h (by decide +kernel)
  ·rw [if_neg q] at h;by_cases d:isDigit c=true∧(c::r).length≤5
   ·refine ⟨?_,d.2⟩;unfold bQ;dsimp only;rw [if_neg (by rw [vX d.1];decide),if_pos d.1,if_neg (by omega)]
   ·rw [if_neg d] at h;exact absurd h (by decide +kernel)
theorem tY {w:List Nat}{n:Nat} (h:¬ kindS w="number"):bQ w≠.num n:=fun a=>by
 cases w with
 | nil=>cases a
 | cons c r=>
  unfold bQ at a;dsimp only at a;by_cases hs:isSmall c=true
  ·rw [if_pos hs] at a;split at a <;> cases a
  ·rw [if_neg hs] at a;by_cases hd:isDigit c=true
   ·rw [if_pos hd] at a;by_cases hl:5 < (c::r).length
    ·rw [if_pos hl] at a;cases a
    ·refine h ?_;unfold kindS;dsimp only;rw [if_neg fun z=>hs z.1,if_pos ⟨hd,by omega⟩]
   ·rw [if_neg hd] at a;split at a <;> cases a
theorem Gq {w:List Nat}:kindS w="end"↔w=[]:=by
 constructor
 ·intro h;cases w with
  | nil=>rfl
  | cons c r=>
   unfold kindS at h;dsimp only at h;split at h
   ·exact absurd h (by decide +kernel)
   ·split at h <;> exact absurd h (by decide +kernel)
 ·rintro rfl;rfl
theorem yZ (h:T[i]?=some t):atEnd (tk T i)=decide (t.1=[]):=by
 by_cases e:t.1=[]
 ·rw [decide_eq_true e,gD h,e];rfl
 ·rw [decide_eq_false e,gD h];cases q:bQ t.1 with
  | ended=>exact absurd (Gp q) e
  | name b=>rfl
  | sign b=>rfl
  | num b=>rfl
  | bad=>rfl
theorem tZ {c:Nat} (hc:c∈sgn) (h:T[i]?=some t) (e:t.1=[c]):take_ c (tk T i)=.ok (tk T (i+1)):=by
 unfold take_;rw [rD hc h,decide_eq_true e,if_pos rfl,iG hc h e];rfl
theorem qN {c:Nat} (hc:c∈sgn) (h:T[i]?=some t) (e:¬ t.1=[c]):take_ c (tk T i)=.error t.2:=by
 unfold take_;rw [rD hc h,decide_eq_false e,if_neg (by decide),jC h]
theorem Mz {e:Known} (h:T[i]?=some t) (h1:kindS t.1="name") (h2:knows e t.1=false):newName e (tk T i)=.ok (t.1,tk T (i+1)):=by
 obtain ⟨a,b⟩:=Bu h1;rw [gD h,a];show (if keys.contains t.1=true∨knows e t.1=true then _ else _)=_;rw [if_neg (by rw [b,h2];decide)]
theorem S9 {e:Known} (h:T[i]?=some t) (h1:¬ (kindS t.1="name"∧knows e t.1=false)):newName e (tk T i)=.error t.2:=by
 rw [gD h];cases q:bQ t.1 with
 | name b=>
  show (if keys.contains b=true∨knows e b=true then _ else _)=_;rw [if_pos];by_cases hk:kindS t.1="name"
  ·right;rw [←jX q];cases z:knows e t.1 with
   | true=>rfl
   | false=>exact absurd ⟨hk,z⟩ h1
  ·exact .inl (rE hk q)
 | sign b=>rfl
 | num b=>rfl
 | bad=>rfl
 | ended=>rfl
variable {e:Known}{F:wk}{r:List wk}
theorem WL (h:T[i]?=some t) (h1:t.1=[40]):f9 e F r (tk T i)=f9 e (wk.empty 0) (F::r) (tk T (i+1)):=by
 rw [iG (by decide) h h1,Y6]
theorem Ds:bQ (ascii "of")=.name (ascii "of"):=rfl
theorem Tc {u v:PT} (h:T[i]?=some t) (hu:T[i+1]?=some u) (hv:T[i+2]?=some v) (h1:kindS t.1="number") (h2:valueOf t.1≠0) (h3:u.1=ascii "of") (h4:v.1=[40]) :
  f9 e F r (tk T i)=f9 e (wk.empty (valueOf t.1)) (F::r) (tk T (i+3)):=by
 have e1:tk T i=(.num (valueOf t.1),t.2)::tk T (i+1):=by rw [gD h,(jD h1).1]
 rw [e1,qM Ds hu h3,iG (by decide) hv h4,Wq _ _ _ _ h2 rfl]
theorem WM (h:T[i]?=some t) (h1:kindS t.1="number") (h2:valueOf t.1=0):f9 e F r (tk T i)=.error t.2:=by
 have e1:tk T i=(.num (valueOf t.1),t.2)::tk T (i+1):=by rw [gD h,(jD h1).1]
 unfold f9;rw [e1,Di,if_pos h2];rfl
theorem WQ {u:PT} (h:T[i]?=some t) (hu:T[i+1]?=some u) (h1:kindS t.1="number") (h2:valueOf t.1≠0) (h3:¬ u.1=ascii "of"):f9 e F r (tk T i)=.error u.2:=by
 have e1:tk T i=(.num (valueOf t.1),t.2)::tk T (i+1):=by rw [gD h,(jD h1).1]
 unfold f9;rw [e1,Di,if_neg h2,if_pos (by rw [oU Ds hu];exact decide_eq_false h3),jC hu];rfl
theorem Td {u v:PT} (h:T[i]?=some t) (hu:T[i+1]?=some u) (hv:T[i+2]?=some v) (h1:kindS t.1="number") (h2:valueOf t.1≠0) (h3:u.1=ascii "of") (h4:¬ v.1=[40]):f9 e F r (tk T i)=.error v.2:=by
 have e1:tk T i=(.num (valueOf t.1),t.2)::tk T (i+1):=by rw [gD h,(jD h1).1]
 unfold f9;rw [e1,Di,if_neg h2,if_neg (by rw [oU Ds hu,decide_eq_true h3];decide),qM Ds hu h3];show ((take_ 40 (tk T (i+1+1))).bind _).bind _=_;rw [qN (by decide) hv h4];rfl
theorem WR {x:Form} (h:T[i]?=some t) (h1:kindS t.1="name") (h2:meaning e t.1=some x):f9 e F r (tk T i)=iT e { F with ps:=F.ps++[x] } r (tk T (i+1)):=by
 obtain ⟨a,b⟩:=Bu h1;rw [gD h,a];exact Y7 _ b h2
theorem Zj (h:T[i]?=some t) (h1:¬ t.1=[40]) (h2:¬ kindS t.1="number") (h3:¬ (kindS t.1="name"∧(meaning e t.1).isSome=true)):f9 e F r (tk T i)=.error t.2:=by
 have key:RL e 0 (tk T i)=.error (placeOf (tk T i)):=by
  have els:FP (tk T i)=true→RL e 0 (tk T i)=.error (placeOf (tk T i)):=fun hp=>by
   rw [Ms e _ hp];unfold yG;rw [qN (by decide) h h1,jC h];rfl
  cases q:bQ t.1 with
  | name b=>
   have hb:=jX q;have e1:tk T i=(.name b,t.2)::tk T (i+1):=by rw [gD h,q]
   rw [e1,Mr];have z:(if keys.contains b=true then none else meaning e b)=none:=by
    by_cases hk:kindS t.1="name"
    ·cases m:meaning e b with
     | none=>simp
     | some y=>exact absurd ⟨hk,by rw [hb,m];rfl⟩ h3
    ·rw [if_pos (rE hk q)]
   rw [z];rfl
  | num n=>exact absurd q (tY h2)
  | sign c=>exact els (by rw [gD h,q];rfl)
  | bad=>exact els (by rw [gD h,q];rfl)
  | ended=>exact els (by rw [gD h,q];rfl)
 rw [abu key,jC h]
end
end Pg
end
section
set_option linter.all false
set_option maxRecDepth 100000
set_option maxHeartbeats 4000000
namespace Pg
open PySem L2 Xc Sp Rb35
def wX (l:List (Bytes×Nat)):List (Key×V):=l.map fun x=>(Sum.inr (bR x.1),V.int (x.2:Int))
theorem uc (l:List (Bytes×Nat)) (b:Bytes):lK (wX l) (Sum.inr (bR b))=(look l b).map fun (i:Nat)=>V.int (i:Int):=by
 induction l with
 | nil=>rfl
 | cons a r ih=>
  unfold lK look wX at ih ⊢;rw [List.map_cons,List.find?_cons,List.find?_cons];by_cases h:a.1=b
  ·rw [decide_eq_true (by show (Sum.inr (bR a.1):Key)=Sum.inr (bR b);rw [h])];simp [h]
  ·rw [decide_eq_false (by intro z;exact h (Dl (Sum.inr.inj z)))];have:(a.1==b)=false:=by simpa using h
   rw [this];exact ih
theorem MF {l:List (Bytes×Nat)}{b:Bytes} (h:look l b=none) (i:Nat):putK (wX l) (Sum.inr (bR b)) (V.int (i:Int))=wX (l++[(b,i)]):=by
 have hv:lK (wX l) (Sum.inr (bR b))=none:=by rw [uc,h];rfl
 rw [RB _ hv];unfold wX;rw [List.map_append];rfl
def qg (cs:Cs):Sp:=fun vs H Q _=>∃ (b:Addr) (x:Bytes) (A:dY) (p:Nat) (B:Bk),vs=[.ref b,.str (bR x)]∧aV cs H b A p B∧look B.names x=none∧B.ls=[]∧B.people.length < 50000 ∧
 ∀ H',aV cs H' b A p { B with people:=B.people++[x] }→Kp [A.pa,A.ma] H H'→Q .non H'
def Gs (cs:Cs):Sp:=fun vs H Q _=>∃ (b:Addr) (x:Bytes) (i:Nat) (A:dY) (p:Nat) (B:Bk),vs=[.ref b,.str (bR x),.int i]∧aV cs H b A p B∧look B.names x=none∧B.names.length < 50000 ∧
 ∀ H',aV cs H' b A p { B with ls:=B.ls++[(x,i)] }→Kp [A.la,A.ma] H H'→Q .non H'
section
variable {P:Program}{w:World}{K:PySem.W.Frag}{mg:Str→Option Value}{base:Heap}{cs:Cs}
theorem Al:aH ["self","name"] ["self","name"] (au gM):=⟨rfl,rfl,rfl,by decide +kernel,rfl,by decide +kernel,by decide +kernel⟩
theorem Am (T:gq K cs.boo "add_person" "Book.add_person" gM) (gO:Cls K cs.boo) (naB:cF K cs.boo ["prime","people","nodes","lets","names"]) (hlen:mg "len"=none) :
  bw P w K mg base 1 cs.boo "add_person" ["self","name"] (qg cs):=by
 obtain ⟨f,fd,F,M⟩:=T.ex;refine ⟨f,fd,M,F.binds (fun _ _ _ _ _ _ us hl=>match us,hl with | [_,_],_=>rfl),okN F Al (fun vs H Q E h=>?_) (fun cdv A outer s H vs Q E hr h=>?_)⟩
 ·obtain ⟨b,x,A,p,B,rfl,_⟩:=h;rfl
 ·obtain ⟨b,x,Ad,p,B,rfl,R,hx,hls,hsm,kq⟩:=h;obtain ⟨dx,ob⟩:=R.ob;refine ⟨_,aq (CW (yq hr) (aM (pv 0) rfl) (pv 1) (aU aO (by rfl) hlen PySem.boot_len (aj (aM (pv 0) rfl) aA)) rfl)
   (aC (aN (ju PySem.F.plainAttrs_list PySem.F.slot_list_append PySem.F.type_list_append cD (aM (pv 0) rfl) (aj (pv 1) aA)))),?_⟩
  have hlen':(wX B.names).length < sizeLine:=by
   show (List.map _ _).length < _;rw [List.length_map];unfold Bk.names;rw [hls,List.append_nil,List.length_zipIdx];exact Nat.lt_trans (by omega) bL
  refine ⟨_,rfl,b,cs.boo,dx,_,_,rfl,ob,gO,naB _ (by simp),fV _ _ _ _ _,_,_,rfl,.inl (bO.of R.people),?_⟩;refine ⟨_,rfl,b,cs.boo,dx,_,_,rfl,ob,gO,naB _ (by simp),j9 _ _ _ _ _,_,rfl,Ad.ma,_,rfl,Jw.k (k:=Sum.inr (bR x)) R.names hlen',?_⟩;have obm:b≠Ad.ma:=lN ob R.names (by intro z;cases z);have pam:Ad.pa≠Ad.ma:=fun z=>Gf R.names R.people z.symm;refine ⟨_,rfl,b,cs.boo,dx,_,_,rfl,by rw [ak obm];exact ob,gO,naB _ (by simp),fV _ _ _ _ _,.inl ⟨rfl,_,bO.of (by rw [ak pam];exact R.people)⟩,_,rfl,Ad.pa,_,_,rfl,rfl,by rw [ak pam];exact R.people,?_,?_⟩
  ·rw [List.length_map];exact Nat.lt_trans (by omega) bL
  have kk:Kp [Ad.pa,Ad.ma] H (upd (upd H Ad.ma (.dK (putK (wX B.names) (Sum.inr (bR x)) (V.int ((B.people.map fun x=>V.str (bR x)).length:Int))))) Ad.pa (.lst ((B.people.map fun x=>V.str (bR x))++[V.str (bR x)]))):=
   (Kp.refl.upd (.inl (by simp))).upd (.inl (by simp))
  have nd:=R.nd;have nin:∀ y∈Ad.na::Ad.la::Ad.nW.map (·.2),y∉[Ad.pa,Ad.ma]:=fun y hy z=>by
   simp only [List.mem_cons,List.not_mem_nil,or_false] at z;rcases z with rfl | rfl
   ·unfold dY.lists at nd;exact (List.nodup_cons.mp nd).1 hy
   ·obtain ⟨xs,e⟩:=R.Bt (x:=Ad.ma) (by unfold dY.lists;exact List.mem_cons_of_mem _ hy);rw [R.names] at e;cases e
  refine kq _ ⟨⟨dx,kk _ _ ob ?_⟩,?_,kk _ _ R.nodes (nin _ (by simp)),kk _ _ R.lets (nin _ (by simp)),?_,R.len,fun j y n e1 e2=>?_,R.nd⟩ kk
  ·simp only [List.mem_cons,List.not_mem_nil,or_false,not_or];exact ⟨dW ob R.people,obm⟩
  ·show upd _ _ _ Ad.pa=_;rw [ao,List.map_append];rfl
  ·show upd _ _ _ Ad.ma=_;rw [ak pam.symm,ao,List.length_map];show some (HO.dK (putK (wX B.names) (Sum.inr (bR x)) (V.int (B.people.length:Int))))=some (HO.dK (wX (Bk.names _)));rw [MF hx];show some (HO.dK (wX (B.people.zipIdx++B.ls++[(x,B.people.length)])))=some (HO.dK (wX ((B.people++[x]).zipIdx++B.ls)));rw [hls,List.zipIdx_append,List.append_nil,List.append_nil];simp
  ·obtain ⟨⟨dy,n1⟩,n2⟩:=R.at_ j y n e1 e2;refine ⟨⟨dy,kk _ _ n1 ?_⟩,kk _ _ n2 (nin _ ?_)⟩
   ·simp only [List.mem_cons,List.not_mem_nil,or_false,not_or];exact ⟨dW n1 R.people,lN n1 R.names (by intro z;cases z)⟩
   ·have:y.2∈Ad.nW.map (·.2):=List.mem_map.mpr ⟨y,List.mem_of_getElem? e1,rfl⟩;simp [this]
theorem JZ:aH ["self","name","formula"] ["self","name","formula"] (au jJ):=⟨rfl,rfl,rfl,by decide +kernel,rfl,by decide +kernel,by decide +kernel⟩
theorem J0 (T:gq K cs.boo "add_let" "Book.add_let" jJ) (gO:Cls K cs.boo) (naB:cF K cs.boo ["prime","people","nodes","lets","names"]) :
  bw P w K mg base 1 cs.boo "add_let" ["self","name","formula"] (Gs cs):=by
 obtain ⟨f,fd,F,M⟩:=T.ex;refine ⟨f,fd,M,F.binds (fun _ _ _ _ _ _ us hl=>match us,hl with | [_,_,_],_=>rfl),okN F JZ (fun vs H Q E h=>?_) (fun cdv A outer s H vs Q E hr h=>?_)⟩
 ·obtain ⟨b,x,i,A,p,B,rfl,_⟩:=h;rfl
 ·obtain ⟨b,x,i,Ad,p,B,rfl,R,hx,hsm,kq⟩:=h;obtain ⟨dx,ob⟩:=R.ob;refine ⟨_,aq (CW (yq hr) (aM (pv 0) rfl) (pv 1) (pv 2) rfl)
   (aC (aN (ju PySem.F.plainAttrs_list PySem.F.slot_list_append PySem.F.type_list_append cD (aM (pv 0) rfl) (aj (pv 2) aA)))),?_⟩
  have hll:B.ls.length≤B.names.length:=by unfold Bk.names;rw [List.length_append];omega
  have hlen':(wX B.names).length < sizeLine:=by
   show (List.map _ _).length < _;rw [List.length_map];exact Nat.lt_trans (by omega) bL
  refine ⟨_,rfl,_,rfl,b,cs.boo,dx,_,_,rfl,ob,gO,naB _ (by simp),j9 _ _ _ _ _,_,rfl,Ad.ma,_,rfl,Jw.k (k:=Sum.inr (bR x)) R.names hlen',?_⟩;have obm:b≠Ad.ma:=lN ob R.names (by intro z;cases z);have lam:Ad.la≠Ad.ma:=fun z=>Gf R.names R.lets z.symm;refine ⟨_,rfl,b,cs.boo,dx,_,_,rfl,by rw [ak obm];exact ob,gO,naB _ (by simp),qb _ _ _ _ _,.inl ⟨rfl,_,bO.of (by rw [ak lam];exact R.lets)⟩,_,rfl,Ad.la,_,_,rfl,rfl,by rw [ak lam];exact R.lets,?_,?_⟩
  ·rw [aK,List.length_map];exact Nat.lt_trans (by omega) bL
  have kk:Kp [Ad.la,Ad.ma] H (upd (upd H Ad.ma (.dK (putK (wX B.names) (Sum.inr (bR x)) (V.int (i:Int))))) Ad.la (.lst (nV (B.ls.map (·.2))++[V.int (i:Int)]))):=
   (Kp.refl.upd (.inl (by simp))).upd (.inl (by simp))
  have nd:=R.nd;have nin:∀ y∈Ad.pa::Ad.na::Ad.nW.map (·.2),y∉[Ad.la,Ad.ma]:=fun y hy z=>by
   simp only [List.mem_cons,List.not_mem_nil,or_false] at z;rcases z with rfl | rfl
   ·unfold dY.lists at nd;simp only [List.nodup_cons,List.mem_cons,not_or] at nd hy;rcases hy with e | e | e
    ·exact nd.1.2.1 e.symm
    ·exact nd.2.1.1 e.symm
    ·exact nd.2.2.1 e
   ·obtain ⟨xs,e⟩:=R.Bt (x:=Ad.ma) (by
     unfold dY.lists;simp only [List.mem_cons] at hy ⊢;rcases hy with e | e | e
     ·exact .inl e
     ·exact .inr (.inl e)
     ·exact .inr (.inr (.inr e)))
    rw [R.names] at e;cases e
  refine kq _ ⟨⟨dx,kk _ _ ob ?_⟩,kk _ _ R.people (nin _ (by simp)),kk _ _ R.nodes (nin _ (by simp)),?_,?_,R.len,fun j y n e1 e2=>?_,R.nd⟩ kk
  ·simp only [List.mem_cons,List.not_mem_nil,or_false,not_or];exact ⟨dW ob R.lets,obm⟩
  ·show upd _ _ _ Ad.la=_;rw [ao,List.map_append];show some (HO.lst (nV (B.ls.map (·.2))++[V.int (i:Int)]))=some (HO.lst (nV (B.ls.map (·.2)++[i])));rw [iD]
  ·show upd _ _ _ Ad.ma=_;rw [ak lam.symm,ao];show some (HO.dK (putK (wX B.names) (Sum.inr (bR x)) (V.int (i:Int))))=some (HO.dK (wX (B.people.zipIdx++(B.ls++[(x,i)]))));rw [MF hx];unfold Bk.names;rw [List.append_assoc]
  ·obtain ⟨⟨dy,n1⟩,n2⟩:=R.at_ j y n e1 e2;refine ⟨⟨dy,kk _ _ n1 ?_⟩,kk _ _ n2 (nin _ ?_)⟩
   ·simp only [List.mem_cons,List.not_mem_nil,or_false,not_or];exact ⟨dW n1 R.lets,lN n1 R.names (by intro z;cases z)⟩
   ·have:y.2∈Ad.nW.map (·.2):=List.mem_map.mpr ⟨y,List.mem_of_getElem? e1,rfl⟩;simp [this]
end
end Pg
end
section
set_option linter.all false
set_option maxRecDepth 100000
set_option maxHeartbeats 4000000
namespace Pg
open PySem L2 Xc Sp Rb35
theorem Kp.into {G F:List Addr}{H0 H H':Hp} (k0:Kp G H0 H) (k:Kp F H H') (h:∀ x∈F,x∈G∨H0 x=none):Kp G H0 H':=fun c o q n=>
 k c o (k0 c o q n) fun z=>(h c z).elim n fun e=>by rw [q] at e;cases e
theorem jB.keep {cs:Cs}{H H':Hp}{a:eZ}{F:aD}{Fs:List Addr} (R:jB cs H a F) (k:Kp Fs H H') (h1:a.ob∉Fs) (h2:∀ x∈a.lists,x∉Fs):jB cs H' a F:=by
 obtain ⟨dx,ob⟩:=R.ob;exact ⟨⟨dx,k _ _ ob h1⟩,k _ _ R.fs (h2 _ (by simp [eZ.lists])),k _ _ R.bs (h2 _ (by simp [eZ.lists])),k _ _ R.ps (h2 _ (by simp [eZ.lists]))⟩
def obs (dj:List eZ):List Addr:=dj.map eZ.ob
def oV (dj:List eZ):List Addr:=dj.flatMap eZ.lists
theorem bx (a:eZ) (r:List eZ):oV (a::r)=a.lists++oV r:=List.flatMap_cons
theorem lg {cs:Cs}{H H':Hp}{Fs:List Addr} (k:Kp Fs H H'):∀ {dj:List eZ}{st:List aD},Paired (jB cs H) dj st→(∀ x∈Fs,x∉obs dj∧x∉oV dj)→Paired (jB cs H') dj st
 | _,_,.nil,_=>.nil
 | a::dj,F::st,.cons r t,h=>.cons (r.keep k (fun z=>(h _ z).1 (by simp [obs])) fun x hx z=>(h _ z).2 (by rw [bx];exact List.mem_append_left _ hx))
   (lg k t fun x hx=>⟨fun z=>(h x hx).1 (by simp only [obs,List.map_cons,List.mem_cons];exact .inr z),fun z=>(h x hx).2 (by rw [bx];exact List.mem_append_right _ z)⟩)
theorem zc {cs:Cs}{H:Hp}:∀ {dj:List eZ}{st:List aD},Paired (jB cs H) dj st→∀ x∈obs dj,∃ dx fs,H x=some (.ins cs.dG dx fs)
 | _,_,.nil,x,hx=>by simp [obs] at hx
 | a::dj,F::st,.cons r t,x,hx=>by
  simp only [obs,List.map_cons,List.mem_cons] at hx;rcases hx with rfl | hx
  ·obtain ⟨dx,ob⟩:=r.ob;exact ⟨dx,_,ob⟩
  ·exact zc t x hx
theorem ud {cs:Cs}{H:Hp}:∀ {dj:List eZ}{st:List aD},Paired (jB cs H) dj st→∀ x∈oV dj,∃ xs,H x=some (.lst xs)
 | _,_,.nil,x,hx=>by simp [oV] at hx
 | a::dj,F::st,.cons r t,x,hx=>by
  rw [bx] at hx;rcases List.mem_append.mp hx with hx | hx
  ·simp only [eZ.lists,List.mem_cons,List.not_mem_nil,or_false] at hx;rcases hx with rfl | rfl | rfl
   ·exact ⟨_,r.fs⟩
   ·exact ⟨_,r.bs⟩
   ·exact ⟨_,r.ps⟩
  ·exact ud t x hx
structure Brs (cs:Cs) (H:Hp) (bl:Addr) (lo:List Addr) (dj:List eZ) (st:List aD) (A:dY):Prop where
 lst:H bl=some (.lst (lo.map V.ref))
 at_:Paired (jB cs H) dj st
 nd:(bl::oV dj).Nodup
 ap:∀ x∈bl::oV dj,x∉A.lists
 ob:(obs dj).Nodup
structure jY (cs:Cs) (H0 H:Hp) (r lt:Addr) (as:List Addr) (T:List PT) (i:Nat) (b:Addr) (A:dY) (p:Nat) (B:Bk) (ns:List aF) (bl:Addr) (lo:List Addr) (dj:List eZ) (st:List aD):Prop where
 tk0:rZ cs H0 lt as T
 r0:∃ dx j,H0 r=some (.ins cs.cB dx (Jd lt j))
 WT:∃ xs,H0 A.na=some (.lst xs)
 Gu:lt≠A.na
 ob:∃ dx,H r=some (.ins cs.cB dx (Jd lt (i:Int)))
 bk:aV cs H b A p { B with ns:=ns }
 br:Brs cs H bl lo dj st A
 kp:Kp [r,A.na] H0 H
 fr:∀ x,x=bl∨x∈obs dj∨x∈oV dj→H0 x=none
section
variable {cs:Cs}{H0 H H' H1:Hp}{r lt b bl x:Addr}{as lo lo':List Addr}{T:List PT}{i:Nat}{A A':dY}{p:Nat}{B:Bk}{ns ns':List aF}{dj:List eZ}{st:List aD}{a a':eZ}{F F':aD}
theorem jY.rd (S:jY cs H0 H r lt as T i b A p B ns bl lo dj st):bN cs H r lt as T i:=by
 obtain ⟨dx,j,hr⟩:=S.r0;obtain ⟨xs,hn⟩:=S.WT;refine ⟨S.ob,S.kp _ _ S.tk0.lst ?_,S.tk0.len,fun k c t h1 h2=>?_⟩
 ·simp only [List.mem_cons,List.not_mem_nil,or_false,not_or];exact ⟨(dW hr S.tk0.lst).symm,S.Gu⟩
 ·obtain ⟨dy,hc⟩:=S.tk0.at_ k c t h1 h2;refine ⟨dy,S.kp _ _ hc ?_⟩;simp only [List.mem_cons,List.not_mem_nil,or_false,not_or];refine ⟨lN hc hr ?_,dW hc hn⟩;intro z;injection z with _ _ z
  exact absurd (congrArg List.length z) (by show ¬ 3=2;decide)
theorem jY.Te (S:jY cs H0 H r lt as T i b A p B ns bl lo dj st) (h:H x=none):H0 x=none:=by
 obtain ⟨dx,ob⟩:=S.ob;refine S.kp.free (fun y hy=>?_) h;simp only [List.mem_cons,List.not_mem_nil,or_false] at hy;rcases hy with rfl | rfl
 ·rw [ob];simp
 ·rw [S.bk.nodes];simp
theorem jY.rne (S:jY cs H0 H r lt as T i b A p B ns bl lo dj st) (h:H0 x=none):x≠r:=fun z=>by
 obtain ⟨dx,j,hr⟩:=S.r0;rw [z,hr] at h;cases h
theorem jY.moved (co:tX cs) (S:jY cs H0 H r lt as T i b A p B ns bl lo dj st) (R:bN cs H' r lt as T (i+1)) (k:Kp [r] H H'):jY cs H0 H' r lt as T (i+1) b A p B ns bl lo dj st:=by
 obtain ⟨dx,ob⟩:=S.ob;have nr:∀ x,x=bl∨x∈obs dj∨x∈oV dj→x≠r:=fun x hx=>S.rne (S.fr x hx);refine ⟨S.tk0,S.r0,S.WT,S.Gu,R.ob,S.bk.keep k fun x hx=>?_,⟨k _ _ S.br.lst (by simpa using nr bl (.inl rfl)),lg k S.br.at_ fun x hx=>?_,S.br.nd,S.br.ap,S.br.ob⟩,S.kp.into k fun x hx=>?_,S.fr⟩
 ·simp only [List.mem_cons,List.not_mem_nil,or_false] at hx;subst hx;exact .inr ⟨_,_,_,ob,co.rb,co.rn⟩
 ·simp only [List.mem_cons,List.not_mem_nil,or_false] at hx;subst hx;exact ⟨fun z=>nr _ (.inr (.inl z)) rfl,fun z=>nr _ (.inr (.inr z)) rfl⟩
 ·simp only [List.mem_cons,List.not_mem_nil,or_false] at hx;exact .inl (by simp [hx])
theorem jY.Tf (S:jY cs H0 H r lt as T i b A p B ns bl lo dj st) (lo':List Addr):jY cs H0 (upd H bl (.lst (lo'.map V.ref))) r lt as T i b A p B ns bl lo' dj st:=by
 obtain ⟨dx,ob⟩:=S.ob;have k:Kp [bl] H (upd H bl (.lst (lo'.map V.ref))):=Kp.refl.upd (.inl (by simp));have nd:=S.br.nd;refine ⟨S.tk0,S.r0,S.WT,S.Gu,⟨dx,k _ _ ob (by simpa using dW ob S.br.lst)⟩,S.bk.keep k fun x hx=>?_,⟨ao,lg k S.br.at_ fun x hx=>?_,S.br.nd,S.br.ap,S.br.ob⟩,S.kp.into k fun x hx=>?_,S.fr⟩
 ·simp only [List.mem_cons,List.not_mem_nil,or_false] at hx;subst hx;exact .inl ⟨_,S.br.lst,S.br.ap _ (by simp)⟩
 ·simp only [List.mem_cons,List.not_mem_nil,or_false] at hx;subst hx;refine ⟨fun z=>?_,(List.nodup_cons.mp nd).1⟩;obtain ⟨dy,fs,e⟩:=zc S.br.at_ _ z;rw [S.br.lst] at e;cases e
 ·simp only [List.mem_cons,List.not_mem_nil,or_false] at hx;subst hx;exact .inr (S.fr _ (.inl rfl))
theorem jY.same (S:jY cs H0 H r lt as T i b A p B ns bl lo dj st) (s:Same H H1):jY cs H0 H1 r lt as T i b A p B ns bl lo dj st:=by
 obtain ⟨dx,ob⟩:=S.ob;exact ⟨S.tk0,S.r0,S.WT,S.Gu,⟨dx,s _ _ ob⟩,S.bk.keep (Kp.same s []) (fun x hx=>by simp at hx),⟨s _ _ S.br.lst,lg (Kp.same s []) S.br.at_ (fun x hx=>by simp at hx),S.br.nd,S.br.ap,S.br.ob⟩,
  S.kp.trans (Kp.same s _),S.fr⟩
theorem jY.add (S:jY cs H0 H r lt as T i b A p B ns bl lo dj st) (s:Same H H1) (br:jB cs H1 a F) (h1:H a.ob=none) (h2:∀ x∈a.lists,H x=none) (nd:a.lists.Nodup):jY cs H0 H1 r lt as T i b A p B ns bl lo (a::dj) (F::st):=by
 have S1:=S.same s;have out:∀ x∈a.lists,x∉bl::oV dj:=fun x hx z=>by
  rcases List.mem_cons.mp z with rfl | z
  ·have:=h2 _ hx;rw [S.br.lst] at this;cases this
  ·obtain ⟨xs,e⟩:=ud S.br.at_ _ z;have:=h2 _ hx;rw [e] at this;cases this
 refine ⟨S1.tk0,S1.r0,S1.WT,S1.Gu,S1.ob,S1.bk,⟨S1.br.lst,.cons br S1.br.at_,?_,fun x hx=>?_,?_⟩,S1.kp,fun x hx=>?_⟩
 ·rw [bx];have h:=S.br.nd;rw [List.nodup_cons] at h ⊢;refine ⟨fun z=>?_,?_⟩
  ·rcases List.mem_append.mp z with z | z
   ·exact out _ z List.mem_cons_self
   ·exact h.1 z
  ·rw [List.nodup_append];exact ⟨nd,h.2,fun x hx y hy e=>out x hx (by rw [e];exact List.mem_cons_of_mem _ hy)⟩
 ·rw [bx] at hx;rcases List.mem_cons.mp hx with rfl | hx
  ·exact S.br.ap _ List.mem_cons_self
  ·rcases List.mem_append.mp hx with hx | hx
   ·intro z;obtain ⟨xs,e⟩:=S.bk.Bt z;rw [h2 _ hx] at e;cases e
   ·exact S.br.ap _ (List.mem_cons_of_mem _ hx)
 ·show (a.ob::obs dj).Nodup;rw [List.nodup_cons];refine ⟨fun z=>?_,S.br.ob⟩;obtain ⟨dy,fs,e⟩:=zc S.br.at_ _ z;rw [h1] at e;cases e
 ·rcases hx with rfl | hx | hx
  ·exact S.fr _ (.inl rfl)
  ·simp only [obs,List.map_cons,List.mem_cons] at hx;rcases hx with rfl | hx
   ·exact S.Te h1
   ·exact S.fr _ (.inr (.inl hx))
  ·rw [bx] at hx;rcases List.mem_append.mp hx with hx | hx
   ·exact S.Te (h2 _ hx)
   ·exact S.fr _ (.inr (.inr hx))
theorem jY.head (S:jY cs H0 H r lt as T i b A p B ns bl lo (a::dj) (F::st)):jB cs H a F∧Paired (jB cs H) dj st:=by
 cases S.br.at_ with
 | cons x y=>exact ⟨x,y⟩
theorem jY.facts (S:jY cs H0 H r lt as T i b A p B ns bl lo (a::dj) (F::st)):a.lists.Nodup∧(∀ x∈a.lists,x∉A.lists∧x≠bl∧x∉oV dj∧x∉obs dj∧x≠a.ob)∧bl∉oV dj∧a.ob∉obs dj∧a.ob∉oV dj∧a.ob≠bl:=by
 have nd:=S.br.nd;rw [bx,List.nodup_cons,List.nodup_append] at nd;obtain ⟨n1,n2,n3,n4⟩:=nd;have nob:=S.br.ob;rw [show obs (a::dj)=a.ob::obs dj from rfl,List.nodup_cons] at nob;obtain ⟨hd,tl⟩:=S.head;obtain ⟨dx,ob⟩:=hd.ob;have lsx:∀ x∈a.lists,∃ xs,H x=some (.lst xs):=fun x hx=>ud S.br.at_ x (by rw [bx];exact List.mem_append_left _ hx);refine ⟨n2,fun x hx=>⟨S.br.ap x (List.mem_cons_of_mem _ (by rw [bx];exact List.mem_append_left _ hx)),fun z=>n1 (by rw [←z];exact List.mem_append_left _ hx),fun z=>n4 x hx x z rfl,fun z=>?_,fun z=>?_⟩,fun z=>n1 (List.mem_append_right _ z),nob.1,fun z=>?_,dW ob S.br.lst⟩
 ·obtain ⟨xs,e⟩:=lsx x hx;obtain ⟨dy,fs,e2⟩:=zc tl _ z;rw [e] at e2;cases e2
 ·obtain ⟨xs,e⟩:=lsx x hx;rw [z,ob] at e;cases e
 ·obtain ⟨xs,e⟩:=ud tl _ z;rw [ob] at e;cases e
theorem jY.X4 (S:jY cs H0 H r lt as T i b A p B ns bl lo dj st):A.na≠bl∧A.na∉obs dj∧A.na∉oV dj:=by
 have hin:A.na∈A.lists:=by simp [dY.lists]
 refine ⟨fun z=>S.br.ap bl List.mem_cons_self (by rw [←z];exact hin),fun z=>?_,fun z=>S.br.ap _ (List.mem_cons_of_mem _ z) hin⟩;obtain ⟨dy,fs,e⟩:=zc S.br.at_ _ z;rw [S.bk.nodes] at e;cases e
theorem jY.swap {ws:List Addr} (S:jY cs H0 H r lt as T i b A p B ns bl lo (a::dj) (F::st)) (ha:a'.ob=a.ob) (k:Kp [A.na,a.bl,a.fl,a.ob] H H') (br:jB cs H' a' F') (bk:aV cs H' b A' p { B with ns:=ns' }) (g:lM H A A' ws)
  (hw:∀ x∈ws,x∈a.lists) (hl:∀ x∈a'.lists,(x∈a.lists∧x∉ws)∨H x=none) (nd:a'.lists.Nodup):jY cs H0 H' r lt as T i b A' p B ns' bl lo (a'::dj) (F'::st):=by
 obtain ⟨dx,ob⟩:=S.ob;obtain ⟨hd,tl⟩:=S.head;obtain ⟨f1,f2,f3,f4,f5,f6⟩:=S.facts;obtain ⟨m1,m2,m3⟩:=S.X4;have na':=g.na.1;have Zk:a.fl∈a.lists:=by simp [eZ.lists]
 have mbl:a.bl∈a.lists:=by simp [eZ.lists]
 have Ek:∀ x∈[A.na,a.bl,a.fl,a.ob],x∈[r,A.na]∨H0 x=none:=fun x hx=>by
  simp only [List.mem_cons,List.not_mem_nil,or_false] at hx;rcases hx with rfl | rfl | rfl | rfl
  ·exact .inl (by simp)
  ·exact .inr (S.fr _ (.inr (.inr (by rw [bx];exact List.mem_append_left _ mbl))))
  ·exact .inr (S.fr _ (.inr (.inr (by rw [bx];exact List.mem_append_left _ Zk))))
  ·exact .inr (S.fr _ (.inr (.inl (by simp [obs]))))
 have ad0:r∉[A.na,a.bl,a.fl,a.ob]:=fun hx=>by
  have h:=Ek r hx;obtain ⟨dz,j,hr⟩:=S.r0;simp only [List.mem_cons,List.not_mem_nil,or_false] at hx;rcases hx with e | e | e | e
  ·exact dW ob S.bk.nodes e
  ·exact dW ob hd.bs e
  ·exact dW ob hd.fs e
  ·exact S.rne (S.fr a.ob (.inr (.inl (by simp [obs])))) e.symm
 have abK:bl∉[A.na,a.bl,a.fl,a.ob]:=by
  simp only [List.mem_cons,List.not_mem_nil,or_false,not_or];exact ⟨m1.symm,(f2 _ mbl).2.1.symm,(f2 _ Zk).2.1.symm,f6.symm⟩
 have Tg:∀ x,x∈bl::oV (a::dj)→H x≠none:=fun x hx=>by
  rcases List.mem_cons.mp hx with rfl | hx
  ·rw [S.br.lst];simp
  ·obtain ⟨xs,e⟩:=ud S.br.at_ _ hx;rw [e];simp
 have tlk:Paired (jB cs H') dj st:=lg k tl fun x hx=>by
  simp only [List.mem_cons,List.not_mem_nil,or_false] at hx;rcases hx with rfl | rfl | rfl | rfl
  ·exact ⟨fun z=>m2 (by simp only [obs,List.map_cons,List.mem_cons];exact .inr z),fun z=>m3 (by rw [bx];exact List.mem_append_right _ z)⟩
  ·exact ⟨(f2 _ mbl).2.2.2.1,(f2 _ mbl).2.2.1⟩
  ·exact ⟨(f2 _ Zk).2.2.2.1,(f2 _ Zk).2.2.1⟩
  ·exact ⟨f4,f5⟩
 have Zm:∀ x∈A.lists,H x≠none:=fun x hx=>by obtain ⟨xs,e⟩:=S.bk.Bt hx;rw [e];simp
 refine ⟨S.tk0,S.r0,by rw [na'];exact S.WT,by rw [na'];exact S.Gu,⟨dx,k _ _ ob ad0⟩,bk,⟨k _ _ S.br.lst abK,.cons br tlk,?_,fun x hx=>?_,?_⟩,by rw [na'];exact S.kp.into k Ek,fun x hx=>?_⟩
 ·rw [bx,List.nodup_cons,List.nodup_append];have WW:=S.br.nd;rw [bx,List.nodup_cons,List.nodup_append] at WW;refine ⟨fun z=>?_,nd,WW.2.2.1,fun x hx y hy e=>?_⟩
  ·rcases List.mem_append.mp z with z | z
   ·rcases hl _ z with ⟨q,_⟩ | q
    ·exact WW.1 (List.mem_append_left _ q)
    ·exact Tg bl List.mem_cons_self q
   ·exact WW.1 (List.mem_append_right _ z)
  ·subst e;rcases hl _ hx with ⟨q,_⟩ | q
   ·exact WW.2.2.2 x q x hy rfl
   ·exact Tg x (by rw [bx];exact List.mem_cons_of_mem _ (List.mem_append_right _ hy)) q
 ·rw [g.lists];intro z;rw [bx] at hx;have Ti:x=bl∨x∈a'.lists∨x∈oV dj:=by
   rcases List.mem_cons.mp hx with e | hx
   ·exact .inl e
   ·rcases List.mem_append.mp hx with q | q
    ·exact .inr (.inl q)
    ·exact .inr (.inr q)
  rcases List.mem_append.mp z with z | z
  ·rcases Ti with rfl | q | q
   ·exact S.br.ap _ List.mem_cons_self z
   ·rcases hl _ q with ⟨q,_⟩ | q
    ·exact (f2 _ q).1 z
    ·exact Zm _ z q
   ·exact S.br.ap _ (by rw [bx];exact List.mem_cons_of_mem _ (List.mem_append_right _ q)) z
  ·have za:=hw _ z;rcases Ti with rfl | q | q
   ·exact (f2 _ za).2.1 rfl
   ·rcases hl _ q with ⟨_,q⟩ | q
    ·exact q z
    ·exact Tg _ (by rw [bx];exact List.mem_cons_of_mem _ (List.mem_append_left _ za)) q
   ·exact (f2 _ za).2.2.1 q
 ·show (a'.ob::obs dj).Nodup;rw [ha];exact S.br.ob
 ·rcases hx with rfl | hx | hx
  ·exact S.fr _ (.inl rfl)
  ·have:obs (a'::dj)=obs (a::dj):=by simp only [obs,List.map_cons,ha]
   rw [this] at hx;exact S.fr _ (.inr (.inl hx))
  ·rw [bx] at hx;rcases List.mem_append.mp hx with hx | hx
   ·rcases hl _ hx with ⟨q,_⟩ | q
    ·exact S.fr _ (.inr (.inr (by rw [bx];exact List.mem_append_left _ q)))
    ·exact S.Te q
   ·exact S.fr _ (.inr (.inr (by rw [bx];exact List.mem_append_right _ hx)))
theorem jY.gone {ws:List Addr} (S:jY cs H0 H r lt as T i b A p B ns bl lo (a::dj) (F::st)) (k:Kp [A.na] H H') (bk:aV cs H' b A' p { B with ns:=ns' }) (g:lM H A A' ws) (hw:∀ x∈ws,x=a.fl):jY cs H0 H' r lt as T i b A' p B ns' bl lo dj st:=by
 obtain ⟨dx,ob⟩:=S.ob;obtain ⟨hd,tl⟩:=S.head;obtain ⟨f1,f2,f3,f4,f5,f6⟩:=S.facts;obtain ⟨m1,m2,m3⟩:=S.X4;have na':=g.na.1;have Zk:a.fl∈a.lists:=by simp [eZ.lists]
 have WW:=S.br.nd;rw [bx,List.nodup_cons,List.nodup_append] at WW;refine ⟨S.tk0,S.r0,by rw [na'];exact S.WT,by rw [na'];exact S.Gu,⟨dx,k _ _ ob (by simpa using dW ob S.bk.nodes)⟩,bk,⟨k _ _ S.br.lst (by simpa using m1.symm),lg k tl fun x hx=>?_,?_,fun x hx=>?_,?_⟩,by rw [na'];exact S.kp.into k fun x hx=>.inl (by simp at hx;simp [hx]),fun x hx=>S.fr x ?_⟩
 ·simp only [List.mem_cons,List.not_mem_nil,or_false] at hx;subst hx;exact ⟨fun z=>m2 (by simp only [obs,List.map_cons,List.mem_cons];exact .inr z),fun z=>m3 (by rw [bx];exact List.mem_append_right _ z)⟩
 ·exact List.nodup_cons.mpr ⟨fun z=>WW.1 (List.mem_append_right _ z),WW.2.2.1⟩
 ·rw [g.lists];intro z;have hx':x∈bl::oV (a::dj):=by
   rw [bx];rcases List.mem_cons.mp hx with rfl | hx
   ·exact List.mem_cons_self
   ·exact List.mem_cons_of_mem _ (List.mem_append_right _ hx)
  rcases List.mem_append.mp z with z | z
  ·exact S.br.ap _ hx' z
  ·have e:=hw _ z;subst e;rcases List.mem_cons.mp hx with e | hx
   ·exact (f2 _ Zk).2.1 e
   ·exact (f2 _ Zk).2.2.1 hx
 ·have:=S.br.ob;rw [show obs (a::dj)=a.ob::obs dj from rfl] at this;exact (List.nodup_cons.mp this).2
 ·rcases hx with hx | hx | hx
  ·exact .inl hx
  ·exact .inr (.inl (by simp only [obs,List.map_cons,List.mem_cons];exact .inr hx))
  ·exact .inr (.inr (by rw [bx];exact List.mem_append_right _ hx))
theorem jY.part (S:jY cs H0 H r lt as T i b A p B ns bl lo (a::dj) (F::st)) (x:Nat):jY cs H0 (upd H a.pl (.lst (nV F.ps++[V.int (x:Int)]))) r lt as T i b A p B ns bl lo (a::dj) ({ F with ps:=F.ps++[x] }::st):=by
 obtain ⟨dx,ob⟩:=S.ob;obtain ⟨hd,tl⟩:=S.head;obtain ⟨f1,f2,f3,f4,f5,f6⟩:=S.facts;obtain ⟨dh,hob⟩:=hd.ob;have mpl:a.pl∈a.lists:=by simp [eZ.lists]
 have k:Kp [a.pl] H (upd H a.pl (.lst (nV F.ps++[V.int (x:Int)]))):=Kp.refl.upd (.inl (by simp));unfold eZ.lists at f1;simp only [List.nodup_cons,List.mem_cons,List.not_mem_nil,or_false,not_or] at f1;refine ⟨S.tk0,S.r0,S.WT,S.Gu,⟨dx,k _ _ ob (by simpa using dW ob hd.ps)⟩,S.bk.keep k fun y hy=>?_,⟨k _ _ S.br.lst (by simpa using (f2 _ mpl).2.1.symm),.cons ⟨⟨dh,k _ _ hob (by simpa using dW hob hd.ps)⟩,k _ _ hd.fs (by simpa using f1.1.2),k _ _ hd.bs (by simpa using f1.2.1),?_⟩ (lg k tl fun y hy=>?_),S.br.nd,S.br.ap,S.br.ob⟩,S.kp.into k fun y hy=>?_,S.fr⟩
 ·simp only [List.mem_cons,List.not_mem_nil,or_false] at hy;subst hy;exact .inl ⟨_,hd.ps,(f2 _ mpl).1⟩
 ·rw [ao,iD]
 ·simp only [List.mem_cons,List.not_mem_nil,or_false] at hy;subst hy;exact ⟨(f2 _ mpl).2.2.2.1,(f2 _ mpl).2.2.1⟩
 ·simp only [List.mem_cons,List.not_mem_nil,or_false] at hy;subst hy;exact .inr (S.fr _ (.inr (.inr (by rw [bx];exact List.mem_append_left _ mpl))))
structure Fw (ns:List aF) (st:List aD) (n:Nat):Prop where
 le:ns.length+(st.flatMap aD.all).length≤n
 wi:∀ x∈ns,x.2.length≤50000
 dp:st.length≤n+1
theorem Fw.mono {n m:Nat} (f:Fw ns st n) (h:n≤m):Fw ns st m:=⟨Nat.le_trans f.le h,f.wi,Nat.le_trans f.dp (Nat.add_le_add_right h 1)⟩
theorem jY.pair {n:Nat} (S:jY cs H0 H r lt as T i b A p B ns bl lo (a::dj) (F::st)) (f:Fw ns (F::st) n) (hn:n < 50000):Pair cs H a F b A p { B with ns:=ns }:=by
 have h:=f.le;rw [List.flatMap_cons,List.length_append] at h;exact ⟨S.head.1,S.bk,S.facts.1,fun x hx=>(S.facts.2.1 x hx).1,by omega,by show ns.length < 50000;omega⟩
theorem jr (F:aD):F.all.length=F.fs.length+(F.bs.length+F.ps.length):=by unfold aD.all;rw [List.length_append,List.length_append]
theorem Bv {k:Nat}{w:List Nat} (h:∀ x∈ns,x.2.length≤50000) (hw:w.length≤50000):∀ x∈dJ ns k w,x.2.length≤50000:=by
 unfold dJ;split
 ·exact h
 ·intro x hx;rcases List.mem_append.mp hx with q | q
  ·exact h x q
  ·simp at q;subst q;exact hw
theorem Fw.part {n:Nat} (f:Fw ns (F::st) n) (x:Nat):Fw ns ({ F with ps:=F.ps++[x] }::st) (n+1):=by
 refine ⟨?_,f.wi,Nat.le_succ_of_le f.dp⟩;have h:=f.le;rw [List.flatMap_cons,List.length_append,jr] at h ⊢;show ns.length+(F.fs.length+(F.bs.length+(F.ps++[x]).length)+_)≤_;rw [List.length_append,List.length_singleton];omega
theorem Fw.eb {n P:Nat} (f:Fw ns (F::st) n) (hp:F.ps≠[]) (hn:n < 50000):Fw (gR ns F) (dM P ns F::st) (n+1):=by
 have h:=f.le;have hl:=yS ns F;have hps:1≤F.ps.length:=by cases q:F.ps with
  | nil=>exact absurd q hp
  | cons a r=>simp
 rw [List.flatMap_cons,List.length_append,jr] at h;refine ⟨?_,Bv f.wi (by omega),Nat.le_succ_of_le f.dp⟩;rw [List.flatMap_cons,List.length_append,jr];show (gR ns F).length+(F.fs.length+((F.bs++[fQ P ns F.ps]).length+0)+_)≤_;rw [List.length_append,List.length_singleton];omega
theorem Fw.ef {n P:Nat} (f:Fw ns (F::st) n) (hp:F.ps≠[]) (hn:n < 49999):Fw (cu P ns F) (bW P ns F::st) (n+2):=by
 have f1:=f.eb (P:=P) hp (by omega);have h:=f.le;have hl:=SJ P ns F;have hps:1≤F.ps.length:=by cases q:F.ps with
  | nil=>exact absurd q hp
  | cons a r=>simp
 rw [List.flatMap_cons,List.length_append,jr] at h;refine ⟨?_,Bv f1.wi ?_,Nat.le_trans f.dp (by omega)⟩
 ·rw [List.flatMap_cons,List.length_append,jr];show (cu P ns F).length+((F.fs++[nq P ns F]).length+(0+0)+_)≤_;rw [List.length_append,List.length_singleton];omega
 ·show (F.bs++[fQ P ns F.ps]).length≤_;rw [List.length_append,List.length_singleton];omega
theorem Fw.cl {n P:Nat}{G:aD} (f:Fw ns (F::G::st) n) (h1:1≤F.fs.length) (hn:n < 50000):Fw (qe ns F) ({ G with ps:=G.ps++[x] }::st) (n+1):=by
 have h:=f.le;rw [List.flatMap_cons,List.flatMap_cons,List.length_append,List.length_append,jr,jr] at h;have hc:(qe ns F).length≤ns.length+1:=by
  unfold qe;split
  ·omega
  ·simp
 have hdp:(G::st).length+1≤n+1:=f.dp;refine ⟨?_,?_,by show (G::st).length≤_;omega⟩
 ·rw [List.flatMap_cons,List.length_append,jr];show (qe ns F).length+(G.fs.length+(G.bs.length+(G.ps++[x]).length)+_)≤_;rw [List.length_append,List.length_singleton];omega
 ·unfold qe;split
  ·exact f.wi
  ·intro y hy;rcases List.mem_append.mp hy with q | q
   ·exact f.wi y q
   ·simp at q;subst q;show F.fs.length≤50000;omega
end
end Pg
end
section
set_option linter.all false
set_option maxRecDepth 100000
set_option maxHeartbeats 4000000
namespace Pg
open PySem L2 Xc Sp
def MJ:Sp:=fun vs H Q _=>∃ n:Nat,vs=[.int n]∧n≤99999∧∀ H',Same H H'→Q (.bl (decide (n≤251)&&Rb35.prime n)) H'
def divs (n i:Nat):List Bool:=(List.range i).map fun (d:Nat)=>!decide (V.int ((n:Int)%(2+(d:Int)))=V.int 0)
theorem Px (n i:Nat):divs n (i+1)=divs n i++[!decide (V.int ((n:Int)%(2+(i:Int)))=V.int 0)]:=by
 unfold divs;rw [List.range_succ,List.map_append];rfl
theorem iH (a b:Int):decide (V.int a=V.int b)=decide (a=b):=by
 by_cases h:a=b
 ·subst h;simp
 ·rw [decide_eq_false h,decide_eq_false fun z=>h (by injection z)]
theorem J1 (n:Nat) (h:2≤n):(divs n (n-2)).all id=Rb35.prime n:=by
 unfold divs Rb35.prime;rw [decide_eq_true h,Bool.true_and,Bool.eq_iff_iff,List.all_eq_true,List.all_eq_true];constructor
 ·intro hh d hd;rw [List.mem_range] at hd;by_cases h2:d < 2
  ·simp [h2]
  ·have:=hh _ (List.mem_map.mpr ⟨d-2,List.mem_range.mpr (by omega),rfl⟩);rw [iH] at this;have e:(2+((d-2:Nat):Int))=(d:Int):=by omega
   rw [e] at this;simp only [id,Bool.not_eq_true',decide_eq_false_iff_not] at this;have h3:¬ n%d=0:=fun z=>this (by omega);simp [h3]
 ·intro hh x hx;obtain ⟨d,hd,rfl⟩:=List.mem_map.mp hx;rw [List.mem_range] at hd;have:=hh (d+2) (List.mem_range.mpr (by omega));rw [iH];have h2:¬ d+2 < 2:=by omega
  simp only [h2,decide_false,Bool.false_or,bne_iff_ne,ne_eq] at this;have e:(2+(d:Int))=((d+2:Nat):Int):=by omega
  rw [e];simp only [id,Bool.not_eq_true',decide_eq_false_iff_not];exact fun z=>this (by omega)
section
variable {P:Program}{w:World}{K:PySem.W.Frag}{mg:Str→Option Value}{base:Heap}{cs:Cs}
theorem zf:aH ["number","factor"] ["number"] (au lZ):=⟨rfl,rfl,rfl,by decide +kernel,rfl,by decide +kernel,by decide +kernel⟩
theorem Tj (T:bJ K mg "is_field" lZ) (hG:∃ t,mg "GREATEST_PRIME"=some (.int 251 t)) (hall:mg "all"=none) (Zn:mg "range"=none):aX P w K mg base 2 "is_field" ["number"] MJ:=by
 obtain ⟨f,fd,F,hm⟩:=T.ex;obtain ⟨tg,hG⟩:=hG;refine ⟨f,fd,hm,F.kp,F.binds (fun _ _ _ _ _ _ us hl=>match us,hl with | [_],_=>rfl),okN (k:=1) F zf (fun vs H Q E h=>?_) (fun cdv A outer s H vs Q E hr h=>?_)⟩
 ·obtain ⟨n,rfl,_⟩:=h;rfl
 ·obtain ⟨n,rfl,hn,kq⟩:=h;refine ⟨_,aq (dD (Ba (aQ xO (pv 0) aR (aY _)) (uG (aQ tG (pv 0) (bF (v:=.int 251) (by rfl) hG ⟨tg,rfl⟩) (aY _)))).pt (aC (bf Em)) bU)
   (aC (bf (aU (YJ rfl) (by rfl) hall PyProof.Rows.boot_all (aj (pq rfl zf.nd (Ot rfl Zn (aj aR (aj (pv 0) aA))) (cY (own:=[("factor",1)]) (by show pQ ["number","factor"] (au lZ) _ [("factor",1)]=true;decide +kernel))
    (fun _ _ _ _ _=>bY (i:=1) zf.nd rfl (Or.inl rfl)) (fun _ _ _ _ _=>gW) (fun _ _ _ _ _=>d9 vL (fG Cw (pv 0) (pv 1)) aR (aY _))) aA)))),?_⟩
  have rest:2≤n→n≤251→∀ (D:Addr),H D=none→Q (.bl ((divs n (n-2)).all id)) (upd H D (.lst ((divs n (n-2)).map V.bl))):=fun h1 h2 D hD=>by
   rw [J1 n h1];have:=kq (upd H D (.lst ((divs n (n-2)).map V.bl))) fun c o q=>by rw [ak (aB q hD)];exact q
   rwa [decide_eq_true h2,Bool.true_and] at this
  have no:¬ (2≤n∧n≤251)→Q (.bl false) H:=fun hh=>by
   have:=kq H (Same.refl H);have e:(decide (n≤251)&&Rb35.prime n)=false:=by
    by_cases h1:n≤251
    ·have h2:¬ 2≤n:=fun z=>hh ⟨z,h1⟩;unfold Rb35.prime;rw [decide_eq_false h2];simp
    ·rw [decide_eq_false h1];rfl
   rwa [e] at this
  refine ⟨_,rfl,_,_,rfl,rfl,_,rfl,bV (fun hc=>?_) fun hc=>?_⟩
  ·refine CZ ?_;have h1:=of_decide_eq_true hc;exact no fun z=>by omega
  ·have h1:¬ (n:Int) < 2:=fun z=>hc (decide_eq_true z);refine ⟨_,rfl,_,_,rfl,rfl,_,rfl,bV (fun hc2=>?_) fun hc2=>?_⟩
   ·have h2:=of_decide_eq_true hc2;exact no fun z=>by omega
   ·have h2:¬ (251:Int) < (n:Int):=fun z=>hc2 (decide_eq_true z);refine ⟨_,rfl,2,(n:Int),rfl,⟨by decide,by decide,by omega,by omega⟩,fun D hD=>?_⟩;have en:((n:Int)-2).toNat=n-2:=by omega
    refine Rz (fun i H'=>H'=upd H D (.lst ((divs n i).map V.bl))) rfl ?_ ?_
    ·rintro i H' hi rfl;refine ⟨rfl,?_⟩;refine ⟨_,rfl,_,rfl,_,_,rfl,rfl,(by show (0:Int) < 2+(i:Int);omega),rfl,?_⟩;refine ⟨_,ao,?_,?_⟩
     ·rw [List.length_map];unfold divs;rw [List.length_map,List.length_range];exact Nat.lt_trans (show i < 100000 by omega) bL
     ·rw [gG,Px,List.map_append];rfl
    ·rintro H' rfl;rw [en];exact ⟨D,_,rfl,bO.of ao,rest (by omega) (by omega) D hD⟩
end
end Pg
end
section
set_option linter.all false
set_option maxRecDepth 100000
set_option maxHeartbeats 4000000
namespace Pg
open PySem L2 Xc Sp Rb35
theorem val_eq:∀ (l:List Nat) (a:Nat),l.foldl (fun acc c=>acc*10+(c-48)) a=l.foldl (fun (n c:Nat)=>10*n+(c-48)) a
 | [],_=>rfl
 | c::r,a=>by
  rw [List.foldl_cons,List.foldl_cons,val_eq r,Nat.mul_comm]
theorem Tn:∀ (l:List Nat) (a:Nat),(∀ c∈l,isDigit c=true)→l.foldl (fun (n c:Nat)=>10*n+(c-48)) a < (a+1)*10 ^ l.length
 | [],a,_=>by simp
 | c::r,a,h=>by
  rw [List.foldl_cons];have h1:=Tn r (10*a+(c-48)) fun x hx=>h x (List.mem_cons_of_mem _ hx);have h2:=h c List.mem_cons_self;simp [isDigit] at h2;refine Nat.lt_of_lt_of_le h1 ?_;rw [List.length_cons,Nat.pow_succ,Nat.mul_comm (10 ^ r.length) 10,←Nat.mul_assoc];exact Nat.mul_le_mul_right _ (by omega)
theorem Tp {l:List Nat} (h:∀ c∈l,isDigit c=true) (hl:l.length≤5):valueOf l≤99999:=by
 have:=Tn l 0 h;have h2:10 ^ l.length≤10 ^ 5:=Nat.pow_le_pow_right (by decide) hl;unfold valueOf;omega
theorem Gv {l:List Nat} (h:∀ c∈l,isDigit c=true) (hl:l.length≤5) (hn:l≠[]):intText? (bR l)=some ((valueOf l:Nat):Int):=by
 have e:=PySem.intText_digits (x:=bR l) (fun c hc=>by
  have:=h c hc;simp [isDigit] at this;exact this) hn (by show l.toArray.size≤4300;rw [List.size_toArray];omega)
 rw [e];show some (((l.foldl (fun acc c=>acc*10+(c-48)) 0:Nat)):Int)=_;rw [val_eq];rfl
theorem bN.same {cs:Cs}{H H':Hp}{r lt:Addr}{as:List Addr}{T:List PT}{i:Nat} (R:bN cs H r lt as T i) (s:Same H H'):bN cs H' r lt as T i:=by
 obtain ⟨dx,ob⟩:=R.ob;refine ⟨⟨dx,s _ _ ob⟩,s _ _ R.tk.lst,R.tk.len,fun j a t h1 h2=>?_⟩;obtain ⟨dy,h⟩:=R.tk.at_ j a t h1 h2;exact ⟨dy,s _ _ h⟩
theorem Kp.Zo {F:List Addr}{H H1 H2:Hp} (s:Same H H1) (k:Kp F H1 H2):Kp F H H2:=fun b o h n=>k b o (s b o h) n
def MK (cs:Cs):Sp:=fun vs H Q E=>∃ (r lt:Addr) (as:List Addr) (T:List PT) (i:Nat) (t:PT),vs=[.ref r]∧bN cs H r lt as T i∧QW T∧T[i]?=some t ∧
 (kindS t.1="number"∧(decide (valueOf t.1≤251)&&prime (valueOf t.1))=true→∀ H',bN cs H' r lt as T (i+1)→Kp [r] H H'→Q (.int ((valueOf t.1:Nat):Int)) H') ∧
 (¬ (kindS t.1="number"∧(decide (valueOf t.1≤251)&&prime (valueOf t.1))=true)→uE E cs.cst (-100-(t.2:Int)))
def MN (cs:Cs):Sp:=fun vs H Q E=>∃ (r lt:Addr) (as:List Addr) (T:List PT) (i:Nat) (t:PT),vs=[.ref r]∧bN cs H r lt as T i∧QW T∧T[i]?=some t ∧
 (kindS t.1="number"∧valueOf t.1≠0→∀ H',bN cs H' r lt as T (i+1)→Kp [r] H H'→Q (.int ((valueOf t.1:Nat):Int)) H') ∧
 (¬ (kindS t.1="number"∧valueOf t.1≠0)→uE E cs.cst (-100-(t.2:Int)))
section
variable {P:Program}{w:World}{K:PySem.W.Frag}{mg:Str→Option Value}{base:Heap}{cs:Cs}
theorem Gw:aH ["self","token"] ["self"] (au fX):=⟨rfl,rfl,rfl,by decide +kernel,rfl,by decide +kernel,by decide +kernel⟩
theorem Tq (T:gq K cs.cB "take_prime" "Reader.take_prime" fX) (cl:Cls K cs.cB) (qK:Cls K cs.tok) (qL:cF K cs.tok ["kind","word","place"]) (hN:∃ t,mg "NUMBER"=some (.str "number" t)) (hint:mg "int"=none)
  (NW:bw P w K mg base 1 cs.cB "now" ["self"] (mj cs)) (TK:bw P w K mg base 4 cs.cB "take" ["self","stands"] (oR cs)) (FI:aX P w K mg base 2 "is_field" ["number"] MJ):bw P w K mg base 5 cs.cB "take_prime" ["self"] (MK cs):=by
 obtain ⟨f,fd,F,M⟩:=T.ex;obtain ⟨tn,hN⟩:=hN;refine ⟨f,fd,M,F.binds (fun _ _ _ _ _ _ us hl=>match us,hl with | [_],_=>rfl),Bs F Gw (fun vs H Q E h=>?_) (fun cdv A outer s H vs Q E hr h=>?_)⟩
 ·obtain ⟨r,lt,as,T,i,t,rfl,_⟩:=h;rfl
 ·obtain ⟨r,lt,as,T,i,t,rfl,R,ok,ht,kq,kx⟩:=h;obtain ⟨dx,ob⟩:=R.ob;refine ⟨_,aq (aZ (i:=1) Gw.nd rfl (Or.inl rfl) (dR (pv 0) cl (NW.mono (by decide:1≤4)) hr aG))
   (aC (bf (m8 jU (by rfl) hint PyProof.Rows.boot_int (aj (bK (pv 0) cl TK hr bh (aj (Cp (d9 gV (aM (pv 1) rfl) (bF (v:=.str "number") rfl hN ⟨tn,rfl⟩) (aY _))
    (Cm (bM (FI.mono (by decide:2≤4)) hr rfl aG (aj (m8 jU (by rfl) hint PyProof.Rows.boot_int (aj (aM (pv 1) rfl) aA)) aA)))) aA)) aA)))),?_⟩
  refine ⟨_,rfl,r,dx,_,rfl,ob,iu _ _ (by decide +kernel) (by decide +kernel),r,lt,as,T,i,t,rfl,R,ht,fun a ta=>?_⟩;obtain ⟨dt,Ac⟩:=id ta;refine ⟨_,rfl,r,dx,_,rfl,ob,iu _ _ (by decide +kernel) (by decide +kernel),?_⟩;refine ⟨_,rfl,a,cs.tok,dt,_,_,rfl,Ac,qK,qL _ (by simp),nA _ _ _,rfl,_,rfl,bV (fun hc=>?_) fun hc=>?_⟩
  ·have hk:kindS t.1="number":=by
    have:=of_decide_eq_true hc;injection this
   have hd:=ok.dig t (List.mem_of_getElem? ht) hk;have hl:=(jD hk).2;have hne:t.1≠[]:=fun z=>by rw [z] at hk;exact absurd hk (by decide +kernel)
   have hiw:=Gv hd hl hne;have hsz:(bR t.1).length≤640:=by show t.1.toArray.size≤640;rw [List.size_toArray];omega
   refine ⟨_,rfl,a,cs.tok,dt,_,_,rfl,Ac,qK,qL _ (by simp),iW _ _ _,_,_,rfl,hiw,hsz,?_⟩;refine ⟨valueOf t.1,rfl,Tp hd hl,fun H1 s1=>?_⟩;refine ⟨r,lt,as,T,i,t,_,rfl,R.same s1,ht,fun h2 H2 R2 k2=>?_,fun h2=>kx fun z=>?_⟩
   ·exact ⟨_,_,rfl,hiw,hsz,kq ⟨hk,h2⟩ H2 R2 (Kp.Zo s1 k2)⟩
   ·rw [z.2] at h2;cases h2
  ·refine ⟨r,lt,as,T,i,t,_,rfl,R,ht,fun h2=>absurd h2 Bool.false_ne_true,fun h2=>kx fun z=>hc (decide_eq_true (by rw [z.1]))⟩
theorem Gx:aH ["self","token"] ["self"] (au fY):=⟨rfl,rfl,rfl,by decide +kernel,rfl,by decide +kernel,by decide +kernel⟩
theorem Tr (T:gq K cs.cB "take_asked" "Reader.take_asked" fY) (cl:Cls K cs.cB) (qK:Cls K cs.tok) (qL:cF K cs.tok ["kind","word","place"]) (hN:∃ t,mg "NUMBER"=some (.str "number" t)) (hint:mg "int"=none)
  (NW:bw P w K mg base 1 cs.cB "now" ["self"] (mj cs)) (TK:bw P w K mg base 4 cs.cB "take" ["self","stands"] (oR cs)):bw P w K mg base 5 cs.cB "take_asked" ["self"] (MN cs):=by
 obtain ⟨f,fd,F,M⟩:=T.ex;obtain ⟨tn,hN⟩:=hN;refine ⟨f,fd,M,F.binds (fun _ _ _ _ _ _ us hl=>match us,hl with | [_],_=>rfl),Bs F Gx (fun vs H Q E h=>?_) (fun cdv A outer s H vs Q E hr h=>?_)⟩
 ·obtain ⟨r,lt,as,T,i,t,rfl,_⟩:=h;rfl
 ·obtain ⟨r,lt,as,T,i,t,rfl,R,ok,ht,kq,kx⟩:=h;obtain ⟨dx,ob⟩:=R.ob;refine ⟨_,aq (aZ (i:=1) Gx.nd rfl (Or.inl rfl) (dR (pv 0) cl (NW.mono (by decide:1≤4)) hr aG))
   (aC (bf (m8 jU (by rfl) hint PyProof.Rows.boot_int (aj (bK (pv 0) cl TK hr bh (aj (Cp (d9 gV (aM (pv 1) rfl) (bF (v:=.str "number") rfl hN ⟨tn,rfl⟩) (aY _))
    (Cm (d9 Eo (m8 jU (by rfl) hint PyProof.Rows.boot_int (aj (aM (pv 1) rfl) aA)) aR (aY _)))) aA)) aA)))),?_⟩
  refine ⟨_,rfl,r,dx,_,rfl,ob,iu _ _ (by decide +kernel) (by decide +kernel),r,lt,as,T,i,t,rfl,R,ht,fun a ta=>?_⟩;obtain ⟨dt,Ac⟩:=id ta;refine ⟨_,rfl,r,dx,_,rfl,ob,iu _ _ (by decide +kernel) (by decide +kernel),?_⟩;refine ⟨_,rfl,a,cs.tok,dt,_,_,rfl,Ac,qK,qL _ (by simp),nA _ _ _,rfl,_,rfl,bV (fun hc=>?_) fun hc=>?_⟩
  ·have hk:kindS t.1="number":=by
    have:=of_decide_eq_true hc;injection this
   have hd:=ok.dig t (List.mem_of_getElem? ht) hk;have hl:=(jD hk).2;have hne:t.1≠[]:=fun z=>by rw [z] at hk;exact absurd hk (by decide +kernel)
   have hiw:=Gv hd hl hne;have hsz:(bR t.1).length≤640:=by show t.1.toArray.size≤640;rw [List.size_toArray];omega
   refine ⟨_,rfl,a,cs.tok,dt,_,_,rfl,Ac,qK,qL _ (by simp),iW _ _ _,_,_,rfl,hiw,hsz,_,_,rfl,rfl,?_⟩;refine ⟨r,lt,as,T,i,t,_,rfl,R,ht,fun h2 H2 R2 k2=>?_,fun h2=>kx fun z=>?_⟩
   ·have h3:(1:Int)≤((valueOf t.1:Nat):Int):=of_decide_eq_true h2;exact ⟨_,_,rfl,hiw,hsz,kq ⟨hk,by omega⟩ H2 R2 k2⟩
   ·have h3:¬ (1:Int)≤((valueOf t.1:Nat):Int):=of_decide_eq_false h2;omega
  ·refine ⟨r,lt,as,T,i,t,_,rfl,R,ht,fun h2=>absurd h2 Bool.false_ne_true,fun h2=>kx fun z=>hc (decide_eq_true (by rw [z.1]))⟩
end
end Pg
end
section
set_option linter.all false
set_option maxRecDepth 100000
set_option maxHeartbeats 4000000
namespace Pg
open PySem L2 Xc Sp Rb35
def abM (Pv:L2.St→Hp→Prop) (μ:L2.St→Hp→Nat) (m:Nat) (tb:TS) (D:Ends) (σ:L2.St) (H1:Hp):Prop:=
 ∃ N:L2.St→Hp→Prop,(∀ σ' H',N σ' H'→∃ m',m' < m∧m'=μ σ' H'∧Pv σ' H')∧tb { D with nx:=N,ct:=N,bk:=D.nx } σ H1
theorem lq {c:TT}{tb:TS}{D:Ends}{σ:L2.St}{H:Hp} (Pv:L2.St→Hp→Prop) (μ:L2.St→Hp→Nat) (h0:Pv σ H)
  (hs:∀ σ H,Pv σ H→c σ H fun b H1=>if b=true then abM Pv μ (μ σ H) tb D σ H1 else D.nx σ H1):Q8 c tb D σ H:=by
 refine ⟨fun m σ H=>m=μ σ H∧Pv σ H,⟨_,rfl,h0⟩,?_⟩;rintro m σ H ⟨rfl,p⟩;exact hs σ H p
theorem X5 {Pv:L2.St→Hp→Prop}{μ:L2.St→Hp→Nat}{m:Nat}{tb:TS}{D:Ends}{σ:L2.St}{H1:Hp} (h:tb { D with nx:=fun σ' H'=>Pv σ' H'∧μ σ' H' < m,ct:=fun σ' H'=>Pv σ' H'∧μ σ' H' < m,bk:=D.nx } σ H1):abM Pv μ m tb D σ H1:=
 ⟨_,fun σ' H' q=>⟨_,q.2,rfl,q.1⟩,h⟩
theorem Gy:("abcdefghijklmnopqrstuvwxyz":Str).cps.toList=List.range' 97 26:=by decide +kernel
theorem J2:("0123456789":Str).cps.toList=List.range' 48 10:=by decide +kernel
theorem J3:("abcdefghijklmnopqrstuvwxyz0123456789_":Str).cps.toList=List.range' 97 26++(List.range' 48 10++[95]):=by decide +kernel
theorem oW (c:Nat):decide (c∈("abcdefghijklmnopqrstuvwxyz":Str).cps.toList)=isSmall c:=by
 rw [Gy,Bool.eq_iff_iff,decide_eq_true_iff,List.mem_range'_1];simp [isSmall];omega
theorem gk (c:Nat):decide (c∈("0123456789":Str).cps.toList)=isDigit c:=by
 rw [J2,Bool.eq_iff_iff,decide_eq_true_iff,List.mem_range'_1];simp [isDigit];omega
theorem Py (c:Nat):decide (c∈("abcdefghijklmnopqrstuvwxyz0123456789_":Str).cps.toList)=isWord c:=by
 rw [J3,Bool.eq_iff_iff,decide_eq_true_iff,List.mem_append,List.mem_append,List.mem_range'_1,List.mem_range'_1];simp [isWord,isSmall,isDigit];omega
theorem cN (l:List Nat):(bR l).length=l.length:=by
 show l.toArray.size=_;rw [List.size_toArray]
def MP:Sp:=fun vs H Q _=>∃ (l:List Nat) (pl:Nat) (z:Str),vs=[.str (bR l),.int pl,.str z]∧pl≤l.length∧l.length≤10000 ∧
 Q (.int ((pl+((l.drop pl).takeWhile fun c=>decide (c∈z.cps.toList)).length:Nat):Int)) H
def Gz:Sp:=fun vs H Q _=>∃ (l:List Nat) (pl:Nat),vs=[.str (bR l),.int pl]∧pl < l.length∧l.length≤10000∧Q (.int ((pl+aP (l.drop pl):Nat):Int)) H
def Tt:Sp:=fun vs H Q _=>∃ (wd:List Nat),vs=[.str (bR wd)]∧wd≠[]∧wd.length≤10000∧Q (.str (kindS wd)) H
theorem Tv {X:Cx}:MtR X "str.find" (fun x xs H Q=>∃ a b i,x=.str a∧xs=[.str b,.int i]∧Q (.int (Txt.find3 a b i)) H):=by
 intro pins s σ H x xs v us Q I rx rs h;obtain ⟨a,b,i,rfl,rfl,h⟩:=h;obtain ⟨t,rfl⟩:=rx;cases rs with
 | cons r1 rs=>
  cases rs with
  | cons r2 rs=>
   cases rs;obtain ⟨u,rfl⟩:=r1;obtain ⟨u2,rfl⟩:=r2;exact PySem.SC.find3 ⟨.int (Txt.find3 a b i),H,I.tok _,⟨_,rfl⟩,h⟩
theorem strEq (c d:Nat):decide (V.str ⟨#[c]⟩=V.str ⟨#[d]⟩)=decide (c=d):=by
 by_cases h:c=d
 ·subst h;simp
 ·rw [decide_eq_false h,decide_eq_false];intro z;injection z with z
  injection z with z
  exact h (by simpa using z)
theorem Pz (l:List Nat) (pl:Nat) (hp:pl≤l.length):(if (0:Int)≤Txt.find3 (bR l) ⟨#[10]⟩ (pl:Int) then Txt.find3 (bR l) ⟨#[10]⟩ (pl:Int) else (l.length:Int))=((pl+((l.drop pl).takeWhile fun x=>x != 10).length:Nat):Int):=by
 have hfi:PySem.fromIndex (bR l).length (pl:Int)=pl:=by
  unfold PySem.fromIndex;rw [if_neg (by omega)];omega
 have gd:∀ v,(bR l).cps.getD v 0=l.getD v 0:=fun v=>by
  show l.toArray.getD v 0=_;simp [List.getD_eq_getElem?_getD]
 have key:∀ (m:List Nat) (k:Nat),(∀ v,v < k→m.getD v 0≠10)→k≤m.length→(k=m.length∨m.getD k 0=10∧k < m.length)→(m.takeWhile fun x=>x != 10).length=k:=by
  intro m
  induction m with
  | nil=>intro k _ h _;simp at h;simp [h]
  | cons a r ih=>
   intro k h1 h2 h3;cases k with
   | zero=>
    rcases h3 with h3 | ⟨h3,_⟩
    ·simp at h3
    ·have:a=10:=by simpa using h3
     subst this;rw [List.takeWhile_cons];simp
   | succ k=>
    have ha:a≠10:=by simpa using h1 0 (by omega)
    have hb:(a != 10)=true:=by simpa using ha
    rw [List.takeWhile_cons,hb];simp only [if_true,List.length_cons];rw [ih k (fun v hv=>by simpa using h1 (v+1) (by omega)) (by simpa using h2) (by
     rcases h3 with h3 | ⟨h3,h4⟩
     ·exact .inl (by simpa using h3)
     ·exact .inr ⟨by simpa using h3,by simpa using h4⟩)]
 have dg:∀ v,(l.drop pl).getD v 0=l.getD (pl+v) 0:=fun v=>by
  rw [List.getD_eq_getElem?_getD,List.getD_eq_getElem?_getD,List.getElem?_drop]
 rcases PySem.StrLaws.find3_spec (bR l) 10 (pl:Int) with ⟨h,hn⟩ | ⟨k,h,h1,h2,h3,h4⟩
 ·rw [hfi] at hn;rw [h,if_neg (by decide)];have e:=key (l.drop pl) (l.length-pl) (fun v hv=>by
   rw [dg,←gd];exact hn (pl+v) (by omega) (by rw [cN];omega)) (by rw [List.length_drop];exact Nat.le_refl _) (.inl (by rw [List.length_drop]))
  rw [e];omega
 ·rw [hfi] at h1 h4;rw [cN] at h2;rw [h,if_pos (by omega)];have e:=key (l.drop pl) (k-pl) (fun v hv=>by
   rw [dg,←gd];exact h4 (pl+v) (by omega) (by omega)) (by rw [List.length_drop];omega) (.inr ⟨by rw [dg,←gd,Nat.add_sub_cancel' h1];exact h3,by rw [List.length_drop];omega⟩)
  rw [e];omega
section
variable {P:Program}{w:World}{K:PySem.W.Frag}{mg:Str→Option Value}{base:Heap}{cs:Cs}
theorem zj:aH ["row","place","signs","end"] ["row","place","signs"] (au jK):=⟨rfl,rfl,rfl,by decide +kernel,rfl,by decide +kernel,by decide +kernel⟩
theorem Tw (T:bJ K mg "end_of_signs" jK) (hlen:mg "len"=none):aX P w K mg base 1 "end_of_signs" ["row","place","signs"] MP:=by
 obtain ⟨f,fd,F,hm⟩:=T.ex;refine ⟨f,fd,hm,F.kp,F.binds (fun _ _ _ _ _ _ us hl=>match us,hl with | [_,_,_],_=>rfl),okN F zj (fun vs H Q E h=>?_) (fun cdv A outer s H vs Q E hr h=>?_)⟩
 ·obtain ⟨l,pl,z,rfl,_⟩:=h;rfl
 ·obtain ⟨l,pl,z,rfl,hp,hl,kq⟩:=h;refine ⟨_,aq (aZ (i:=3) zj.nd rfl (Or.inl rfl) (pv 1)) (aq (gU PassesOwn.never (uH (aQ xO (pv 3) (aU fZ (by rfl) hlen PySem.boot_len (aj (pv 0) aA)) (aY _))
   (sZ (aQ kI (fM xW (pv 0) (pv 3) (fun _ _=>rfl)) (pv 2) (by rfl)))).pt (aC (Cr (i:=3) zj.nd rfl (Or.inl rfl) aR Cu))) (aC (bf (pv 3)))),?_⟩
  have hsz:(bR l).length≤sizeLine:=by rw [cN];exact Nat.le_trans hl (by decide)
  refine ⟨_,rfl,?_⟩;refine lq (fun σ H'=>H'=H∧∃ j:Nat,pl+j≤l.length∧σ=[some (.str (bR l)),some (.int pl),some (.str z),some (.int ((pl+j:Nat):Int))] ∧
   ((l.drop pl).takeWhile fun c=>decide (c∈z.cps.toList)).length=j+((l.drop (pl+j)).takeWhile fun c=>decide (c∈z.cps.toList)).length)
   (fun σ _=>match σ with | [_,_,_,some (.int e)]=>l.length-e.toNat | _=>0) ⟨rfl,0,hp,rfl,by simp⟩ ?_
  rintro σ H' ⟨rfl,j,hj,rfl,e⟩;have done:((l.drop (pl+j)).takeWhile fun c=>decide (c∈z.cps.toList)).length=0→Yt (fun D σ H=>aaS (xH 3) D σ H) (fun D σ H=>D.nx σ H) { nx:=fun _ H'=>Q .non H',rt:=Q } [some (.str (bR l)),some (.int pl),some (.str z),some (.int ((pl+j:Nat):Int))] H':=fun h0=>by
   refine ⟨_,rfl,?_⟩;rw [h0,Nat.add_zero] at e;rw [←e];exact kq
  refine ⟨_,rfl,_,rfl,_,rfl,hsz,_,_,rfl,rfl,_,rfl,bV (fun hc=>?_) fun hc=>?_⟩
  ·have h1:((pl+j:Nat):Int) < ((bR l).length:Int):=of_decide_eq_true hc;rw [cN] at h1;have h2:pl+j < l.length:=by omega
   have hd:l.drop (pl+j)=l[pl+j]::l.drop (pl+j+1):=List.drop_eq_getElem_cons h2;rw [hd,List.takeWhile_cons] at e;refine ⟨_,rfl,_,rfl,bR l,_,l[pl+j],rfl,rfl,hsz,lQ (List.getElem?_eq_getElem h2),_,rfl,l[pl+j],z,rfl,rfl,_,rfl,bV (fun hc2=>?_) fun hc2=>?_⟩
   ·refine X5 ?_;refine ⟨_,rfl,_,_,rfl,rfl,⟨rfl,j+1,by omega,rfl,?_⟩,?_⟩
    ·rw [hc2] at e;simp only [if_true,List.length_cons] at e;rw [e,Nat.add_assoc];omega
    ·show l.length-(((pl+j:Nat):Int)+1).toNat < l.length-((pl+j:Nat):Int).toNat;omega
   ·refine done ?_;rw [hd,List.takeWhile_cons];have:decide (l[pl+j]∈z.cps.toList)=false:=by simpa using hc2
    rw [this];rfl
  ·have h1:¬ ((pl+j:Nat):Int) < ((bR l).length:Int):=fun q=>hc (decide_eq_true q);rw [cN] at h1;refine Fv (done ?_);rw [List.drop_eq_nil_of_le (by omega)];rfl
theorem vm:aH ["row","place","first","end"] ["row","place"] (au rT):=⟨rfl,rfl,rfl,by decide +kernel,rfl,by decide +kernel,by decide +kernel⟩
theorem PB (T:bJ K mg "run_end" rT) (hlen:mg "len"=none) (hL:∃ t,mg "LETTERS"=some (.str "abcdefghijklmnopqrstuvwxyz" t)) (hD:∃ t,mg "DIGITS"=some (.str "0123456789" t)) (hW:∃ t,mg "WORD_SIGNS"=some (.str "abcdefghijklmnopqrstuvwxyz0123456789_" t))
  (EO:aX P w K mg base 1 "end_of_signs" ["row","place","signs"] MP):aX P w K mg base 2 "run_end" ["row","place"] Gz:=by
 obtain ⟨f,fd,F,hm⟩:=T.ex;obtain ⟨t1,hL⟩:=hL;obtain ⟨t2,hD⟩:=hD;obtain ⟨t3,hW⟩:=hW;refine ⟨f,fd,hm,F.kp,F.binds (fun _ _ _ _ _ _ us hl=>match us,hl with | [_,_],_=>rfl),okN F vm (fun vs H Q E h=>?_) (fun cdv A outer s H vs Q E hr h=>?_)⟩
 ·obtain ⟨l,pl,rfl,_⟩:=h;rfl
 ·obtain ⟨l,pl,rfl,hp,hl,kq⟩:=h;refine ⟨_,aq (aZ (i:=2) vm.nd rfl (Or.inl rfl) (fM xW (pv 0) (pv 1) (fun _ _=>rfl)))
   (aq (dD (aQ gV (pv 2) cR (aY _)) (aq (aZ (i:=3) vm.nd rfl (Or.inl rfl) (ju PySem.F.plainAttrs_str PySem.F.slot_str_find PySem.F.type_str_find Tv (pv 0) (aj cR (aj (pv 1) aA))))
     (aC (bf (Q5 (aQ Eo (pv 3) aR (aY _)) (pv 3) (aU fZ (by rfl) hlen PySem.boot_len (aj (pv 0) aA)))))) bU)
   (aq (dD (aQ kI (pv 2) (bF (v:=.str "abcdefghijklmnopqrstuvwxyz") (by rfl) hL ⟨t1,rfl⟩) (by rfl)) (aC (bf (bM EO hr rfl aG (aj (pv 0) (aj (pv 1) (aj (bF (v:=.str "abcdefghijklmnopqrstuvwxyz0123456789_") (by rfl) hW ⟨t3,rfl⟩) aA)))))) bU)
   (aq (dD (aQ kI (pv 2) (bF (v:=.str "0123456789") (by rfl) hD ⟨t2,rfl⟩) (by rfl)) (aC (bf (bM EO hr rfl aG (aj (pv 0) (aj (pv 1) (aj (bF (v:=.str "0123456789") (by rfl) hD ⟨t2,rfl⟩) aA)))))) bU)
   (aC (bf (fG Jj (pv 1) aR)))))),?_⟩
  have hsz:(bR l).length≤sizeLine:=by rw [cN];exact Nat.le_trans hl (by decide)
  have hd:l.drop pl=l[pl]::l.drop (pl+1):=List.drop_eq_getElem_cons hp;refine ⟨_,rfl,_,rfl,bR l,_,l[pl],rfl,rfl,hsz,lQ (List.getElem?_eq_getElem hp),?_⟩;refine ⟨_,rfl,rfl,_,rfl,bV (fun hc=>?_) fun hc=>?_⟩
  ·have Vy:l[pl]=35:=by
    have h1:decide (V.str ⟨#[l[pl]]⟩=V.str ⟨#[35]⟩)=true:=hc;rw [strEq] at h1;exact of_decide_eq_true h1
   have er:aP (l.drop pl)=((l.drop pl).takeWhile fun x=>x != 10).length:=by
    rw [hd];unfold aP;dsimp only;rw [if_pos Vy]
   rw [er] at kq;have fl:=Pz l pl (Nat.le_of_lt hp);refine ⟨_,rfl,rfl,_,rfl,_,_,_,rfl,rfl,?_⟩;refine ⟨_,rfl,_,_,rfl,rfl,_,rfl,bV (fun hc2=>?_) fun hc2=>?_⟩
   ·have h2:(0:Int)≤Txt.find3 (bR l) ⟨#[10]⟩ (pl:Int):=of_decide_eq_true hc2;rw [if_pos h2] at fl;refine ⟨_,rfl,?_⟩;show Q (V.int (Txt.find3 (bR l) ⟨#[10]⟩ (pl:Int))) H;rw [fl];exact kq
   ·have h2:¬ (0:Int)≤Txt.find3 (bR l) ⟨#[10]⟩ (pl:Int):=fun z=>hc2 (decide_eq_true z);rw [if_neg h2] at fl;refine ⟨_,rfl,_,rfl,hsz,?_⟩;show Q (V.int ((bR l).length:Int)) H;rw [cN,fl];exact kq
  ·have Vy:¬ l[pl]=35:=fun z=>hc (by
    show decide (V.str ⟨#[l[pl]]⟩=V.str ⟨#[35]⟩)=true;rw [strEq];exact decide_eq_true z)
   have sp1:∀ (p q:Nat→Bool),(∀ c,p c=q c)→((l.drop pl).takeWhile p).length=((l.drop pl).takeWhile q).length:=fun p q hpq=>by
    rw [show p=q from funext hpq]
   refine ⟨_,rfl,l[pl],_,rfl,rfl,_,rfl,bV (fun hc2=>?_) fun hc2=>?_⟩
   ·rw [oW] at hc2;have er:aP (l.drop pl)=((l.drop pl).takeWhile isWord).length:=by
     rw [hd];unfold aP;dsimp only;rw [if_neg Vy,if_pos hc2]
    rw [er,←sp1 _ _ Py] at kq;exact ⟨_,rfl,_,rfl,l,pl,_,rfl,Nat.le_of_lt hp,hl,kq⟩
   ·rw [oW] at hc2;refine ⟨_,rfl,l[pl],_,rfl,rfl,_,rfl,bV (fun hc3=>?_) fun hc3=>?_⟩
    ·rw [gk] at hc3;have er:aP (l.drop pl)=((l.drop pl).takeWhile isDigit).length:=by
      rw [hd];unfold aP;dsimp only;rw [if_neg Vy,if_neg hc2,if_pos hc3]
     rw [er,←sp1 _ _ gk] at kq;exact ⟨_,rfl,_,rfl,l,pl,_,rfl,Nat.le_of_lt hp,hl,kq⟩
    ·rw [gk] at hc3;have er:aP (l.drop pl)=1:=by
      rw [hd];unfold aP;dsimp only;rw [if_neg Vy,if_neg hc2,if_neg hc3]
     rw [er] at kq;exact ⟨_,rfl,_,_,rfl,rfl,kq⟩
theorem WX:aH ["word"] ["word"] (au rW):=⟨rfl,rfl,rfl,by decide +kernel,rfl,by decide +kernel,by decide +kernel⟩
theorem GF:∀ wd:List Nat,inV (V.str (bR wd)) [V.str "field",V.str "who",V.str "let",V.str "of"]=keys.contains wd:=fun wd=>by
 have e:∀ (s:List Nat),((bR s==bR wd):Bool)=(wd==s):=fun s=>by
  by_cases h:s=wd
  ·subst h;simp
  ·have h1:(bR s==bR wd)=false:=by simpa using fun z:bR s=bR wd=>h (Dl z)
   have h2:(wd==s)=false:=by simpa using fun z:wd=s=>h z.symm
   rw [h1,h2]
 show ((bR [102,105,101,108,100]==bR wd)||((bR [119,104,111]==bR wd)||((bR [108,101,116]==bR wd)||((bR [111,102]==bR wd)||false))))=_;rw [e,e,e,e];have hk:keys=[[102,105,101,108,100],[119,104,111],[108,101,116],[111,102]]:=by decide +kernel
 rw [hk,Bool.eq_iff_iff];simp [List.contains_iff_mem]
theorem WY (T:bJ K mg "kind_of" rW) (hlen:mg "len"=none) (hL:∃ t,mg "LETTERS"=some (.str "abcdefghijklmnopqrstuvwxyz" t)) (hD:∃ t,mg "DIGITS"=some (.str "0123456789" t)) (hKW:∃ a,mg "KEPT_WORDS"=some (.ref a)∧∀ H,tD K H a [V.str "field",V.str "who",V.str "let",V.str "of"])
  (hLW:∃ t,mg "LONGEST_WORD"=some (.int 15 t)) (hLN:∃ t,mg "LONGEST_NUMBER"=some (.int 5 t)) (hN:∃ t,mg "NAME"=some (.str "name" t)) (hU:∃ t,mg "NUMBER"=some (.str "number" t)) (hO:∃ t,mg "OTHER"=some (.str "other" t)) :
  aX P w K mg base 1 "kind_of" ["word"] Tt:=by
 obtain ⟨f,fd,F,hm⟩:=T.ex;obtain ⟨t1,hL⟩:=hL;obtain ⟨t2,hD⟩:=hD;obtain ⟨ka,hKW,W0⟩:=hKW;obtain ⟨t3,hLW⟩:=hLW;obtain ⟨t4,hLN⟩:=hLN;obtain ⟨t5,hN⟩:=hN;obtain ⟨t6,hU⟩:=hU;obtain ⟨t7,hO⟩:=hO;refine ⟨f,fd,hm,F.kp,F.binds (fun _ _ _ _ _ _ us hl=>match us,hl with | [_],_=>rfl),okN (k:=0) F WX (fun vs H Q E h=>?_) (fun cdv A outer s H vs Q E hr h=>?_)⟩
 ·obtain ⟨wd,rfl,_⟩:=h;rfl
 ·obtain ⟨wd,rfl,hne,hl,kq⟩:=h;refine ⟨_,aq (dD (uH (aQ kI (fM xW (pv 0) aR (fun _ _=>rfl)) (bF (v:=.str "abcdefghijklmnopqrstuvwxyz") (by rfl) hL ⟨t1,rfl⟩) (by rfl))
    (uH (aQ Ma (aU fZ (by rfl) hlen PySem.boot_len (aj (pv 0) aA)) (bF (v:=.int 15) (by rfl) hLW ⟨t3,rfl⟩) (aY _))
     (sZ (aQ CN (pv 0) (bF (v:=.ref ka) (by rfl) hKW rfl) (by rfl))))).pt (aC (bf (bF (v:=.str "name") (by rfl) hN ⟨t5,rfl⟩))) bU)
   (aq (dD (uH (aQ kI (fM xW (pv 0) aR (fun _ _=>rfl)) (bF (v:=.str "0123456789") (by rfl) hD ⟨t2,rfl⟩) (by rfl))
    (sZ (aQ Ma (aU fZ (by rfl) hlen PySem.boot_len (aj (pv 0) aA)) (bF (v:=.int 5) (by rfl) hLN ⟨t4,rfl⟩) (aY _)))).pt (aC (bf (bF (v:=.str "number") (by rfl) hU ⟨t6,rfl⟩))) bU)
   (aC (bf (bF (v:=.str "other") (by rfl) hO ⟨t7,rfl⟩)))),?_⟩
  match wd,hne,hl,kq with
  | c::r,_,hl,kq=>
  have hsz:(bR (c::r)).length≤sizeLine:=by rw [cN];exact Nat.le_trans hl (by decide)
  unfold kindS at kq;dsimp only at kq;refine ⟨_,rfl,bR (c::r),0,c,rfl,rfl,hsz,lQ (j:=0) rfl,c,_,rfl,rfl,_,rfl,bV (fun h1=>?_) fun h1=>?_⟩
  ·rw [oW] at h1;refine ⟨_,rfl,_,rfl,hsz,_,_,rfl,rfl,_,rfl,bV (fun h2=>?_) fun h2=>?_⟩
   ·have h2':(c::r).length≤15:=by
     have h3:((bR (c::r)).length:Int)≤15:=of_decide_eq_true h2;rw [cN] at h3;omega
    refine ⟨_,rfl,ka,_,rfl,.inr (W0 H),rfl,rfl,_,rfl,bV (fun h3=>?_) fun h3=>?_⟩
    ·have h3':¬ keys.contains (c::r)=true:=by
      have:(!inV (V.str (bR (c::r))) [V.str "field",V.str "who",V.str "let",V.str "of"])=true:=h3;rw [GF] at this;simpa using this
     rw [if_pos ⟨h1,h2',h3'⟩] at kq;exact kq
    ·have hn:¬ (isSmall c=true∧(c::r).length≤15∧¬ keys.contains (c::r)=true):=fun z=>h3 (by
      show (!inV (V.str (bR (c::r))) [V.str "field",V.str "who",V.str "let",V.str "of"])=true;rw [GF];simpa using z.2.2)
     rw [if_neg hn] at kq;refine ⟨_,rfl,bR (c::r),0,c,rfl,rfl,hsz,lQ (j:=0) rfl,c,_,rfl,rfl,_,rfl,bV (fun g1=>?_) fun g1=>?_⟩
     ·rw [gk] at g1;refine ⟨_,rfl,_,rfl,hsz,_,_,rfl,rfl,_,rfl,bV (fun g2=>?_) fun g2=>?_⟩
      ·have g2':(c::r).length≤5:=by
        have g3:((bR (c::r)).length:Int)≤5:=of_decide_eq_true g2;rw [cN] at g3;omega
       rw [if_pos ⟨g1,g2'⟩] at kq;exact kq
      ·rw [if_neg fun z=>g2 (decide_eq_true (by rw [cN];have:=z.2;omega))] at kq;exact kq
     ·rw [gk] at g1;rw [if_neg fun z=>g1 z.1] at kq;exact kq
   ·have hn:¬ (isSmall c=true∧(c::r).length≤15∧¬ keys.contains (c::r)=true):=fun z=>h2 (decide_eq_true (by rw [cN];have:=z.2.1;omega));refine Fv ?_;rw [if_neg hn] at kq;refine ⟨_,rfl,bR (c::r),0,c,rfl,rfl,hsz,lQ (j:=0) rfl,c,_,rfl,rfl,_,rfl,bV (fun g1=>?_) fun g1=>?_⟩
    ·rw [gk] at g1;refine ⟨_,rfl,_,rfl,hsz,_,_,rfl,rfl,_,rfl,bV (fun g2=>?_) fun g2=>?_⟩
     ·have g2':(c::r).length≤5:=by
       have g3:((bR (c::r)).length:Int)≤5:=of_decide_eq_true g2;rw [cN] at g3;omega
      rw [if_pos ⟨g1,g2'⟩] at kq;exact kq
     ·rw [if_neg fun z=>g2 (decide_eq_true (by rw [cN];have:=z.2;omega))] at kq;exact kq
    ·rw [gk] at g1;rw [if_neg fun z=>g1 z.1] at kq;exact kq
  ·rw [oW] at h1;have hn:¬ (isSmall c=true∧(c::r).length≤15∧¬ keys.contains (c::r)=true):=fun z=>h1 z.1;refine Fv ?_;rw [if_neg hn] at kq;refine ⟨_,rfl,bR (c::r),0,c,rfl,rfl,hsz,lQ (j:=0) rfl,c,_,rfl,rfl,_,rfl,bV (fun g1=>?_) fun g1=>?_⟩
   ·rw [gk] at g1;refine ⟨_,rfl,_,rfl,hsz,_,_,rfl,rfl,_,rfl,bV (fun g2=>?_) fun g2=>?_⟩
    ·have g2':(c::r).length≤5:=by
      have g3:((bR (c::r)).length:Int)≤5:=of_decide_eq_true g2;rw [cN] at g3;omega
     rw [if_pos ⟨g1,g2'⟩] at kq;exact kq
    ·rw [if_neg fun z=>g2 (decide_eq_true (by rw [cN];have:=z.2;omega))] at kq;exact kq
   ·rw [gk] at g1;rw [if_neg fun z=>g1 z.1] at kq;exact kq
end
end Pg
end
section
set_option linter.all false
set_option maxRecDepth 100000
set_option maxHeartbeats 4000000
namespace Pg
open PySem L2 Xc Sp Rb35
theorem GJ:("(":Str)=bR [40]:=by decide +kernel
theorem X6:(")":Str)=bR [41]:=by decide +kernel
theorem GK:(",":Str)=bR [44]:=by decide +kernel
theorem Bw:(";":Str)=bR [59]:=by decide +kernel
theorem X7:("=":Str)=bR [61]:=by decide +kernel
theorem Tz:("&":Str)=bR [38]:=by decide +kernel
theorem TF:("|":Str)=bR [124]:=by decide +kernel
theorem litOf:("of":Str)=bR (ascii "of"):=by decide +kernel
theorem J4:("let":Str)=bR (ascii "let"):=by decide +kernel
theorem TJ:("who":Str)=bR (ascii "who"):=by decide +kernel
theorem GP:("field":Str)=bR (ascii "field"):=by decide +kernel
theorem nJ {w v:List Nat}{s:Str} (h:s=bR v):bR w=s↔w=v:=by
 rw [h];exact ⟨fun z=>Dl z,fun z=>by rw [z]⟩
theorem sE {w v:List Nat}{s:Str} (h:s=bR v):decide (V.str (bR w)=V.str s)=decide (w=v):=by
 by_cases q:w=v
 ·rw [decide_eq_true q,decide_eq_true (by rw [h,q])]
 ·rw [decide_eq_false q,decide_eq_false fun z=>q ((nJ h).mp (by injection z))]
theorem Bx {w:List Nat}{s:Str}:decide (V.str (kindS w)=V.str s)=decide (kindS w=s):=by
 by_cases q:kindS w=s
 ·rw [decide_eq_true q,decide_eq_true (by rw [q])]
 ·rw [decide_eq_false q,decide_eq_false fun z=>q (by injection z)]
section
variable {K:PySem.W.Frag}{cs:Cs}{E:XK}{σ:L2.St}{H:Hp}{Q:VK}{j:Nat}{r lt:Addr}{as:List Addr}{T:List PT}{i:Nat}{t:PT}
theorem qj (qK:Cls K cs.tok) (qL:cF K cs.tok ["kind","word","place"]) (hσ:σ[j]?=some (some (.ref r))) (R:bN cs H r lt as T i) (ht:T[i]?=some t) (k:Q (.str (bR t.1)) H) :
  Ri K (tH cs.cB "now" (mj cs) [] E (xH j) uL) "word" σ H Q:=by
 obtain ⟨dx,ob⟩:=R.ob;refine ⟨_,hσ,r,dx,_,rfl,ob,iu _ _ (by decide +kernel) (by decide +kernel),r,lt,as,T,i,t,rfl,R,ht,fun a ta=>?_⟩;obtain ⟨dt,Ac⟩:=ta;exact ⟨a,cs.tok,dt,_,_,rfl,Ac,qK,qL _ (by simp),iW _ _ _,k⟩
theorem uf (qK:Cls K cs.tok) (qL:cF K cs.tok ["kind","word","place"]) (hσ:σ[j]?=some (some (.ref r))) (R:bN cs H r lt as T i) (ht:T[i]?=some t) (k:Q (.str (kindS t.1)) H) :
  Ri K (tH cs.cB "now" (mj cs) [] E (xH j) uL) "kind" σ H Q:=by
 obtain ⟨dx,ob⟩:=R.ob;refine ⟨_,hσ,r,dx,_,rfl,ob,iu _ _ (by decide +kernel) (by decide +kernel),r,lt,as,T,i,t,rfl,R,ht,fun a ta=>?_⟩;obtain ⟨dt,Ac⟩:=ta;exact ⟨a,cs.tok,dt,_,_,rfl,Ac,qK,qL _ (by simp),nA _ _ _,k⟩
theorem cC {m:Str}{sp:Sp}{tt:TA} (hσ:σ[j]?=some (some (.ref r))) (R:bN cs H r lt as T i) (h1:¬ m="tokens") (h2:¬ m="at") (k:tt σ H fun vs H2=>sp (.ref r::(vs++[])) H2 Q E):tH cs.cB m sp [] E (xH j) tt σ H Q:=by
 obtain ⟨dx,ob⟩:=R.ob;exact ⟨_,hσ,r,dx,_,rfl,ob,iu _ _ h1 h2,k⟩
end
def W2 (T:List PT) (r:Addr) (H:Hp):Nat:=match H r with
 | some (.ins _ _ fs)=>match fs.lookup ("at":Str) with
  | some (.int j)=>T.length-j.toNat
  | _=>0
 | _=>0
theorem jO {T:List PT}{r C dx lt:Addr}{H:Hp}{i:Nat} (h:H r=some (.ins C dx (Jd lt (i:Int)))):W2 T r H=T.length-i:=by
 unfold W2;rw [h];show (match (Jd lt (i:Int)).lookup ("at":Str) with | some (.int j)=>T.length-j.toNat | _=>0)=_;rw [JL];rfl
theorem cW {H:Hp}{d x y:Addr}{o u:HO} (h:upd (upd H d o) x u y=none):H y=none:=by
 by_cases e:y=x
 ·rw [e,ao] at h;cases h
 ·rw [ak e] at h;by_cases e2:y=d
  ·rw [e2,ao] at h;cases h
  ·rw [ak e2] at h;exact h
def Zq:List aD→Prop
 | []=>False
 | [F]=>F.asked=0
 | _::G::r=>Zq (G::r)
theorem Zq.head {F F':aD} (e:F'.asked=F.asked):∀ {r:List aD},Zq (F::r)→Zq (F'::r)
 | [],h=>e.trans h
 | _::_,h=>h
structure Dt (st:List aD):Prop where
 bot:Zq st
 pl:∀ F∈st,F.asked=0→F.fs=[]
theorem Dt.push {F:aD}{r:List aD} (h:Dt (F::r)) (k:Nat):Dt (aD.empty k::F::r):=⟨h.bot,fun G hG _=>by
 rcases List.mem_cons.mp hG with rfl | hG
 ·rfl
 ·exact h.pl G hG (by assumption)⟩
theorem Dt.head {F F':aD}{r:List aD} (h:Dt (F::r)) (e:F'.asked=F.asked) (e2:F'.asked=0→F'.fs=[]):Dt (F'::r):=⟨h.bot.head e,fun G hG z=>by
 rcases List.mem_cons.mp hG with rfl | hG
 ·exact e2 z
 ·exact h.pl G (List.mem_cons_of_mem _ hG) z⟩
theorem Dt.tail {F G:aD}{r:List aD} (h:Dt (F::G::r)):Dt (G::r):=⟨h.bot,fun G hG z=>h.pl G (List.mem_cons_of_mem _ hG) z⟩
def bA (B:Bk) (ns:List aF) (st:List aD) (t:Toks):Except Nat (Form×Toks):=match st with
 | []=>.error 0
 | F::r=>f9 B.known (F.den B.P ns) (r.map (aD.den B.P ns)) t
def cA (B:Bk) (ns:List aF) (st:List aD) (t:Toks):Except Nat (Form×Toks):=match st with
 | []=>.error 0
 | F::r=>iT B.known (F.den B.P ns) (r.map (aD.den B.P ns)) t
def M4 (cs:Cs):Sp:=fun vs H Q E=>∃ (H0:Hp) (r lt:Addr) (as:List Addr) (T:List PT) (i:Nat) (b:Addr) (A:dY) (p:Nat) (B:Bk) (ns:List aF) (bl:Addr) (dj:List eZ) (st:List aD) (t:PT),vs=[.ref r,.ref bl] ∧
 jY cs H0 H r lt as T i b A p B ns bl (obs dj).reverse dj st∧jA B ns st∧Dt st∧Fw ns st (4*i)∧QW T∧T[i]?=some t ∧
 (∀ (H':Hp) (i':Nat) (ug:List eZ) (st':List aD) (t':PT),jY cs H0 H' r lt as T i' b A p B ns bl (obs ug).reverse ug st'→jA B ns st'→Dt st'→Fw ns st' (4*i')→i≤i'→T[i']?=some t'→¬ t'.1=[40]→¬ kindS t'.1="number" →
  bA B ns st (tk T i)=bA B ns st' (tk T i')→Q .non H') ∧
 (∀ k,bA B ns st (tk T i)=.error k→uE E cs.cst (-100-(k:Int)))
def BgI (cs:Cs) (H0:Hp) (r lt:Addr) (as:List Addr) (T:List PT) (i:Nat) (b:Addr) (A:dY) (p:Nat) (B:Bk) (ns:List aF) (bl:Addr) (st:List aD):L2.St→Hp→Prop:=fun σ H'=>
 ∃ (i':Nat) (ug:List eZ) (st':List aD) (t':PT) (x:Option V),σ=[some (.ref r),some (.ref bl),x]∧jY cs H0 H' r lt as T i' b A p B ns bl (obs ug).reverse ug st'∧jA B ns st'∧Dt st'∧Fw ns st' (4*i')∧i≤i'∧T[i']?=some t' ∧
  bA B ns st (tk T i)=bA B ns st' (tk T i')
section
variable {P:Program}{w:World}{K:PySem.W.Frag}{mg:Str→Option Value}{base:Heap}{cs:Cs}
theorem M5 {H0 H1 H2:Hp}{r lt b bl:Addr}{as:List Addr}{T:List PT}{i i1 j k p:Nat}{A:dY}{B:Bk}{ns:List aF}{st:List aD}{dN:List eZ}{F1:aD}{r1:List aD}{u:PT}{D:Ends}{E':XK} (wz:∃ dx,H1 r=some (.ins cs.cB dx (Jd lt (i1:Int))))
  (hD:∀ σ' H',BgI cs H0 r lt as T i b A p B ns bl st σ' H'∧W2 T r H' < W2 T r H1→D.nx σ' H') (S2:jY cs H0 H2 r lt as T j b A p B ns bl (obs dN).reverse dN (F1::r1)) (ps1:jA B ns (F1::r1)) (mQ:Dt (F1::r1)) (Ae:Fw ns (F1::r1) (4*i1)) (hi1:i≤i1) (hl:T.length≤10000)
  (hij:i1 < j) (hu:T[j]?=some u) (e1:bA B ns st (tk T i)=bA B ns (F1::r1) (tk T i1)) (e2:bA B ns (F1::r1) (tk T i1)=bA B ns (aD.empty k::F1::r1) (tk T j)) :
  Q6 (tBM K "list" Mg (xH 1) (Ep (Rm cs.dG (qJ cs) [] E' (Ep (xH 2) uL)) uL)) D [some (.ref r),some (.ref bl),some (.int (k:Int))] H2:=by
 have hjl:=(List.getElem?_eq_some_iff.mp hu).1;refine ⟨_,rfl,.inl ⟨rfl,_,bO.of S2.br.lst⟩,_,rfl,fun x QT nx ndx nex=>?_⟩;refine ⟨x,QT,(k:Int),rfl,ao,fun fl wV pl H3 h3 hfl uV hpl Mw JR Gk nd k3=>⟨rfl,?_⟩⟩;have s3:Same H2 H3:=Same.made nx ndx fun c o e hc=>k3 c o e (by simpa using hc);have few:((obs dN).reverse.map V.ref).length < sizeLine:=by
  have l1:=Paired.length S2.br.at_;have l2:(obs dN).length=dN.length:=List.length_map _;rw [List.length_map,List.length_reverse,l2,l1];have:=Ae.dp;exact Nat.lt_trans (show _ < 100000 by omega) bL
 refine ⟨bl,_,_,rfl,rfl,s3 _ _ S2.br.lst,few,?_⟩;have S3:jY cs H0 (upd H3 bl (.lst (((obs dN).reverse++[x]).map V.ref))) r lt as T j b A p B ns bl ((obs dN).reverse++[x]) (⟨x,fl,wV,pl⟩::dN) (aD.empty k::F1::r1):=
  (S2.add (a:=⟨x,fl,wV,pl⟩) (F:=aD.empty k) s3 ⟨⟨QT,h3⟩,hfl,uV,hpl⟩ nx (fun y hy=>by
   simp only [eZ.lists,List.mem_cons,List.not_mem_nil,or_false] at hy;rcases hy with rfl | rfl | rfl
   ·exact cW Mw
   ·exact cW JR
   ·exact cW Gk) nd).Tf _
 have eo:(obs (⟨x,fl,wV,pl⟩::dN)).reverse=(obs dN).reverse++[x]:=by simp [obs]
 have ev:((obs dN).reverse.map V.ref++[V.ref x])=((obs dN).reverse++[x]).map V.ref:=by rw [List.map_append];rfl
 rw [ev];obtain ⟨dr,wz⟩:=wz;obtain ⟨dr3,ob3⟩:=S3.ob;refine hD _ _ ⟨⟨j,⟨x,fl,wV,pl⟩::dN,aD.empty k::F1::r1,u,_,rfl,by rw [eo];exact S3,ps1.push k,mQ.push k,⟨?_,Ae.wi,?_⟩,by omega,hu,e1.trans e2⟩,?_⟩
 ·have:=Ae.le;rw [List.flatMap_cons];show ns.length+([]++(F1::r1).flatMap aD.all).length≤_;rw [List.nil_append];omega
 ·have:=Ae.dp;show (F1::r1).length+1≤_;omega
 ·rw [jO wz,jO ob3];omega
theorem zm:aH ["reader","brackets","asked"] ["reader","brackets"] (au iz):=⟨rfl,rfl,rfl,by decide +kernel,rfl,by decide +kernel,by decide +kernel⟩
theorem TQ (co:tX cs) (T:bJ K mg "begin_brackets" iz) (cl:Cls K cs.cB) (qK:Cls K cs.tok) (qL:cF K cs.tok ["kind","word","place"]) (hN:∃ t,mg "NUMBER"=some (.str "number" t))
  (NW:bw P w K mg base 1 cs.cB "now" ["self"] (mj cs)) (TA:bw P w K mg base 5 cs.cB "take_asked" ["self"] (MN cs)) (TW:bw P w K mg base 5 cs.cB "take_written" ["self","word"] (kh cs))
  (BR:kO P w K mg base 1 "Bracket" cs.dG ["self","asked"] (qJ cs)):aX P w K mg base 6 "begin_brackets" ["reader","brackets"] (M4 cs):=by
 obtain ⟨f,fd,F,hm⟩:=T.ex;obtain ⟨tn,hN⟩:=hN;refine ⟨f,fd,hm,F.kp,F.binds (fun _ _ _ _ _ _ us hl=>match us,hl with | [_,_],_=>rfl),Bs F zm (fun vs H Q E h=>?_) (fun cdv A outer s H vs Q E hr h=>?_)⟩
 ·obtain ⟨H0,r,lt,as,T,i,b,A,p,B,ns,bl,dj,st,t,rfl,_⟩:=h;rfl
 ·obtain ⟨H0,r,lt,as,T,i,b,Ad,p,B,ns,bl,dj,st,t,rfl,S,ps,inn,fw,tok,ht,kq,kx⟩:=h;refine ⟨_,aC (gU PassesOwn.leaving (Ba (aQ gV (aM (dR (pv 0) cl (NW.mono (by decide:1≤5)) hr aG) rfl) cR (aY _)) (uG (aQ gV (aM (dR (pv 0) cl (NW.mono (by decide:1≤5)) hr aG) rfl) (bF (v:=.str "number") (by rfl) hN ⟨tn,rfl⟩) (aY _)))).pt
   (aq (aZ (i:=2) zm.nd rfl (Or.inl rfl) aR)
   (aq (dD (aQ gV (aM (dR (pv 0) cl (NW.mono (by decide:1≤5)) hr aG) rfl) (bF (v:=.str "number") (by rfl) hN ⟨tn,rfl⟩) (aY _))
    (aq (aZ (i:=2) zm.nd rfl (Or.inl rfl) (dR (pv 0) cl TA hr bh)) (aC (aN (bK (pv 0) cl TW hr bh (aj cR aA))))) bU)
   (aq (aN (bK (pv 0) cl TW hr bh (aj cR aA)))
   (aC (aN (ju PySem.F.plainAttrs_list PySem.F.slot_list_append PySem.F.type_list_append cD (pv 1) (aj (rR (BR.mono (by decide:1≤4)) hr rfl aG (aj (pv 2) aA)) aA)))))))),?_⟩
  refine lq (BgI cs H0 r lt as T i b Ad p B ns bl st) (fun _ H'=>W2 T r H') ⟨i,dj,st,t,none,rfl,S,ps,inn,fw,Nat.le_refl _,ht,rfl⟩ ?_;rintro σ H1 ⟨i1,dN,st1,t1,x1,rfl,S1,ps1,mQ,Ae,hi1,ht1,e1⟩
  match st1,mQ,ps1,S1,Ae,e1 with
  | [],mQ,_,_,_,_=>exact absurd mQ.bot (by simp [Zq])
  | F1::r1,mQ,ps1,S1,Ae,e1=>
  have kx':∀ k,bA B ns (F1::r1) (tk T i1)=.error k→uE E cs.cst (-100-(k:Int)):=fun k hk=>kx k (e1.trans hk);have nxt:t1.1≠[]→∃ u,T[i1+1]?=some u:=tok.next i1 t1 ht1;refine qj qK qL rfl S1.rd ht1 ⟨rfl,_,rfl,bV (fun hc=>?_) fun hc=>?_⟩
  ·rw [sE GJ] at hc;have h40:=of_decide_eq_true hc;obtain ⟨u,hu⟩:=nxt (by rw [h40];simp);refine CZ (X5 ?_);refine uf qK qL rfl S1.rd ht1 ⟨rfl,_,rfl,bV (fun hk=>?_) fun hk=>?_⟩
   ·exfalso;rw [Bx,h40] at hk;exact absurd hk (by decide +kernel)
   refine cC rfl S1.rd (by decide +kernel) (by decide +kernel) ?_;refine ⟨r,lt,as,T,i1,t1,_,rfl,S1.rd,ht1,fun hq H2 R2 k2=>?_,fun hq=>absurd ((nJ GJ).mpr h40) hq⟩;exact M5 (k:=0) S1.ob (fun σ' H' q=>q) (S1.moved co R2 k2) ps1 mQ Ae hi1 tok.few (Nat.lt_succ_self _) hu e1 (WL ht1 h40)
  ·rw [sE GJ] at hc;have h40:¬ t1.1=[40]:=fun z=>hc (decide_eq_true z);refine uf qK qL rfl S1.rd ht1 ⟨rfl,_,rfl,bV (fun hk=>?_) fun hk=>?_⟩
   ·rw [Bx] at hk;have hk':=of_decide_eq_true hk;obtain ⟨u,hu⟩:=nxt (fun z=>by rw [z] at hk';exact absurd hk' (by decide +kernel));refine X5 ?_;refine uf qK qL rfl S1.rd ht1 ⟨rfl,_,rfl,bV (fun _=>?_) fun hn=>?_⟩
    ·refine cC rfl S1.rd (by decide +kernel) (by decide +kernel) ?_;refine ⟨r,lt,as,T,i1,t1,rfl,S1.rd,tok,ht1,fun hq H2 R2 k2=>?_,fun hq=>?_⟩
     ·have S2:=S1.moved co R2 k2;refine cC rfl S2.rd (by decide +kernel) (by decide +kernel) ?_;refine ⟨r,lt,as,T,i1+1,u,_,rfl,S2.rd,hu,fun hq2 H3 R3 k3=>?_,fun hq2=>?_⟩
      ·have hof:=(nJ litOf).mp hq2;obtain ⟨v,hv⟩:=tok.next (i1+1) u hu (by rw [hof];decide);have S3:=S2.moved co R3 k3;refine cC rfl S3.rd (by decide +kernel) (by decide +kernel) ?_;refine ⟨r,lt,as,T,i1+2,v,_,rfl,S3.rd,hv,fun hq3 H4 R4 k4=>?_,fun hq3=>?_⟩
       ·have hp:=(nJ GJ).mp hq3;obtain ⟨y,hy⟩:=tok.next (i1+2) v hv (by rw [hp];simp);exact M5 (k:=valueOf t1.1) S1.ob (fun σ' H' q=>q) (S3.moved co R4 k4) ps1 mQ Ae hi1 tok.few (by omega) hy e1 (Tc ht1 hu hv hk' hq.2 hof hp)
       ·exact kx' _ (Td ht1 hu hv hk' hq.2 hof fun z=>hq3 ((nJ GJ).mpr z))
      ·exact kx' _ (WQ ht1 hu hk' hq.2 fun z=>hq2 ((nJ litOf).mpr z))
     ·exact kx' _ (WM ht1 hk' (Decidable.byContradiction fun z=>hq ⟨hk',z⟩))
    ·exact absurd (by rw [Bx];exact decide_eq_true hk') hn
   ·rw [Bx] at hk;have hk':¬ kindS t1.1="number":=fun z=>hk (decide_eq_true z);exact kq H1 i1 dN (F1::r1) t1 S1 ps1 mQ Ae hi1 ht1 h40 hk' e1
end
end Pg
end
section
set_option linter.all false
set_option maxRecDepth 100000
set_option maxHeartbeats 4000000
namespace Pg
open PySem L2 Xc Sp Rb35
theorem vo (P:Nat) (ns:List aF) (G:aD) (x:Nat):aD.den P ns { G with ps:=G.ps++[x] }={ aD.den P ns G with ps:=(aD.den P ns G).ps++[den P ns x] }:=by
 unfold aD.den;rw [List.map_append];rfl
section
variable {B:Bk}{ns:List aF}{F G:aD}{r:List aD}{T:List PT}{i:Nat}{t:PT}
theorem TV (S:jA B ns (F::G::r)) (hp:F.ps≠[]) (h0:F.asked=0) (hf:F.fs=[]) (ht:T[i]?=some t) (VD:t.1=[41]) :
  cA B ns (F::G::r) (tk T i)=cA B (qe (cu B.P ns F) (bW B.P ns F)) ({ G with ps:=G.ps++[qY B.P (cu B.P ns F) (bW B.P ns F)] }::r) (tk T (i+1))∧jA B (qe (cu B.P ns F) (bW B.P ns F)) ({ G with ps:=G.ps++[qY B.P (cu B.P ns F) (bW B.P ns F)] }::r):=by
 obtain ⟨d1,d2,d3⟩:=S.Dk hp;have e1:qe (cu B.P ns F) (bW B.P ns F)=cu B.P ns F:=if_pos h0;have e2:qY B.P (cu B.P ns F) (bW B.P ns F)=nq B.P ns F:=by
  rw [qY,if_pos (show (bW B.P ns F).asked=0 from h0)];show (F.fs++[nq B.P ns F]).headD 0=_;rw [hf];rfl
 rw [e1,e2];refine ⟨?_,(S.ef hp).close ⟨rfl,rfl⟩ (by show F.fs++_=_;rw [hf];rfl)⟩;show iT B.known (F.den B.P ns) (G.den B.P ns::r.map (aD.den B.P ns)) (tk T i)=iT B.known (aD.den B.P (cu B.P ns F) { G with ps:=G.ps++[nq B.P ns F] }) (r.map (aD.den B.P (cu B.P ns F))) (tk T (i+1));rw [iG (by decide) ht VD,Ws _ h0,vo,d1];rw [List.map_cons,List.map_cons] at d3;injection d3 with d3 d4
 rw [d3,d4];rfl
theorem PJ (S:jA B ns (F::G::r)) (hp:F.ps≠[]) (h0:F.asked≠0) (hk:F.asked≤F.fs.length+1) (ht:T[i]?=some t) (VD:t.1=[41]) :
  cA B ns (F::G::r) (tk T i)=cA B (qe (cu B.P ns F) (bW B.P ns F)) ({ G with ps:=G.ps++[qY B.P (cu B.P ns F) (bW B.P ns F)] }::r) (tk T (i+1))∧jA B (qe (cu B.P ns F) (bW B.P ns F)) ({ G with ps:=G.ps++[qY B.P (cu B.P ns F) (bW B.P ns F)] }::r):=by
 obtain ⟨d1,d2,d3⟩:=S.Dk hp;have S1:=S.ef hp;have e1:qe (cu B.P ns F) (bW B.P ns F)=cu B.P ns F++[(F.asked,F.fs++[nq B.P ns F])]:=if_neg h0;have e2:qY B.P (cu B.P ns F) (bW B.P ns F)=B.P+(cu B.P ns F).length:=if_neg h0;rw [e1,e2];have hl:F.asked≤(F.fs++[nq B.P ns F]).length:=by rw [List.length_append];simpa using hk
 refine ⟨?_,S1.Y8 ⟨rfl,rfl⟩ (by show 1≤F.asked;omega) hl⟩;have dfs:(F.fs++[nq B.P ns F]).map (den B.P (cu B.P ns F))=F.fs.map (den B.P ns)++[grp 2 (F.bs.map (den B.P ns)++[grp 1 (F.ps.map (den B.P ns))])]:=congrArg wk.fs d2;have dn:den B.P (cu B.P ns F++[(F.asked,F.fs++[nq B.P ns F])]) (B.P+(cu B.P ns F).length)=.some_ F.asked (jG (F.fs.map (den B.P ns)++[grp 2 (F.bs.map (den B.P ns)++[grp 1 (F.ps.map (den B.P ns))])])):=by
  rw [n8,dfs]
 have ext:=Dj (ns:=cu B.P ns F) (P:=B.P) (l:=G::r) (more:=[(F.asked,F.fs++[nq B.P ns F])]) fun i hi=>S1.lt i (nu hi);rw [d3,List.map_cons,List.map_cons] at ext;injection ext with x1 x2
 show iT B.known (F.den B.P ns) (G.den B.P ns::r.map (aD.den B.P ns)) (tk T i)=iT B.known (aD.den B.P (cu B.P ns F++[(F.asked,F.fs++[nq B.P ns F])]) { G with ps:=G.ps++[B.P+(cu B.P ns F).length] }) (r.map (aD.den B.P (cu B.P ns F++[(F.asked,F.fs++[nq B.P ns F])]))) (tk T (i+1));rw [iG (by decide) ht VD,RZ _ (by exact h0) (by
  show F.asked≤(F.fs.map (den B.P ns)++[_]).length;rw [List.length_append,List.length_map];simpa using hk),vo,dn,x1,x2]
 rfl
theorem Zr (h0:F.asked≠0) (hk:F.fs.length+1 < F.asked) (ht:T[i]?=some t) (VD:t.1=[41]):cA B ns (F::G::r) (tk T i)=.error t.2:=by
 show iT B.known (F.den B.P ns) (G.den B.P ns::r.map (aD.den B.P ns)) (tk T i)=_;rw [iG (by decide) ht VD];refine abw _ (by exact h0) ?_;show (F.fs.map (den B.P ns)++[_]).length < F.asked;rw [List.length_append,List.length_map];simpa using hk
end
def TX (cs:Cs):Sp:=fun vs H Q E=>∃ (H0:Hp) (r lt:Addr) (as:List Addr) (T:List PT) (i:Nat) (b:Addr) (A:dY) (p:Nat) (B:Bk) (ns:List aF) (bl:Addr) (dj:List eZ) (F:aD) (st:List aD) (t:PT),vs=[.ref r,.ref bl,.ref b] ∧
 jY cs H0 H r lt as T i b A p B ns bl (obs dj).reverse dj (F::st)∧jA B ns (F::st)∧F.ps≠[]∧Dt (F::st)∧Fw ns (F::st) (4*i)∧QW T∧T[i]?=some t ∧
 (∀ (H':Hp) (i':Nat) (A':dY) (ns':List aF) (ug:List eZ) (F':aD) (st':List aD) (t':PT),jY cs H0 H' r lt as T i' b A' p B ns' bl (obs ug).reverse ug (F'::st')→jA B ns' (F'::st')→F'.ps≠[]→Dt (F'::st')→Fw ns' (F'::st') (4*i')→i≤i'→T[i']?=some t' →
  (¬ t'.1=[41]∨st'=[])→cA B ns (F::st) (tk T i)=cA B ns' (F'::st') (tk T i')→Q .non H') ∧
 (∀ k,cA B ns (F::st) (tk T i)=.error k→uE E cs.cst (-100-(k:Int)))
def ShI (cs:Cs) (H0:Hp) (r lt:Addr) (as:List Addr) (T:List PT) (i:Nat) (b:Addr) (p:Nat) (B:Bk) (ns:List aF) (bl:Addr) (st:List aD):L2.St→Hp→Prop:=fun σ H'=>
 ∃ (i':Nat) (A':dY) (ns':List aF) (ug:List eZ) (F':aD) (st':List aD) (t':PT) (x:Option V),σ=[some (.ref r),some (.ref bl),some (.ref b),x]∧jY cs H0 H' r lt as T i' b A' p B ns' bl (obs ug).reverse ug (F'::st')∧jA B ns' (F'::st')∧F'.ps≠[]∧Dt (F'::st') ∧
  Fw ns' (F'::st') (4*i')∧i≤i'∧T[i']?=some t'∧cA B ns st (tk T i)=cA B ns' (F'::st') (tk T i')
section
variable {P:Program}{w:World}{K:PySem.W.Frag}{mg:Str→Option Value}{base:Heap}{cs:Cs}
theorem M6:aH ["reader","brackets","book","bracket"] ["reader","brackets","book"] (au iB):=⟨rfl,rfl,rfl,by decide +kernel,rfl,by decide +kernel,by decide +kernel⟩
theorem W3 (co:tX cs) (T:bJ K mg "close_brackets" iB) (cl:Cls K cs.cB) (qK:Cls K cs.tok) (qL:cF K cs.tok ["kind","word","place"]) (wA:Cls K cs.dG) (GQ:cF K cs.dG ["asked","formulas","boths","parts"]) (hlen:mg "len"=none)
  (NW:bw P w K mg base 1 cs.cB "now" ["self"] (mj cs)) (TK:bw P w K mg base 4 cs.cB "take" ["self","stands"] (oR cs)) (EF:bw P w K mg base 6 cs.dG "end_formula" ["self","book"] (jW cs))
  (CL:aX P w K mg base 4 "closed" ["bracket","book"] (Gm cs)):aX P w K mg base 7 "close_brackets" ["reader","brackets","book"] (TX cs):=by
 obtain ⟨f,fd,F,hm⟩:=T.ex;refine ⟨f,fd,hm,F.kp,F.binds (fun _ _ _ _ _ _ us hl=>match us,hl with | [_,_,_],_=>rfl),Bs F M6 (fun vs H Q E h=>?_) (fun cdv A outer s H vs Q E hr h=>?_)⟩
 ·obtain ⟨H0,r,lt,as,T,i,b,A,p,B,ns,bl,dj,F,st,t,rfl,_⟩:=h;rfl
 ·obtain ⟨H0,r,lt,as,T,i,b,Ad,p,B,ns,bl,dj,F0,st0,t,rfl,S,ps,hps,inn,fw,tok,ht,kq,kx⟩:=h;refine ⟨_,aC (gU PassesOwn.leaving (uH (aQ gV (aM (dR (pv 0) cl (NW.mono (by decide:1≤6)) hr aG) rfl) cR (aY _)) (sZ (aQ tG (aU aO (by rfl) hlen PySem.boot_len (aj (pv 1) aA)) aR (aY _)))).pt
   (aq (aZ (i:=3) M6.nd rfl (Or.inl rfl) (Jr PySem.F.plainAttrs_list PySem.F.slot_list_pop PySem.F.type_list_pop Rw (pv 1)))
   (aq (aN (bK (pv 3) wA EF hr aG (aj (pv 2) aA)))
   (aq (aN (bK (pv 0) cl (TK.mono (by decide:4≤6)) hr bh (aj (d9 Ma (aM (pv 3) rfl) (aU aO (by rfl) hlen PySem.boot_len (aj (aM (pv 3) rfl) aA)) (aY _)) aA)))
   (aC (aN (ju PySem.F.plainAttrs_list PySem.F.slot_list_append PySem.F.type_list_append cD (aM (fM eE (pv 1) (xM rK aR) (fun _ _=>rfl)) rfl)
    (aj (bM (CL.mono (by decide:4≤6)) hr rfl aG (aj (pv 3) (aj (pv 2) aA))) aA)))))))),?_⟩
  refine lq (ShI cs H0 r lt as T i b p B ns bl (F0::st0)) (fun _ H'=>W2 T r H') ⟨i,Ad,ns,dj,F0,st0,t,none,rfl,S,ps,hps,inn,fw,Nat.le_refl _,ht,rfl⟩ ?_;rintro σ H1 ⟨i1,A1,mR,dN,F1,st1,t1,x1,rfl,S1,ps1,Ao,mQ,Ae,hi1,ht1,e1⟩;have hil:=(List.getElem?_eq_some_iff.mp ht1).1;have hTl:=tok.few;refine qj qK qL rfl S1.rd ht1 ⟨rfl,_,rfl,bV (fun hc=>?_) fun hc=>?_⟩
  ·rw [sE X6] at hc;have VD:=of_decide_eq_true hc;obtain ⟨u,hu⟩:=tok.next i1 t1 ht1 (by rw [VD];simp);refine ⟨_,rfl,_,_,rfl,.inl (bO.of S1.br.lst),_,_,rfl,rfl,_,rfl,bV (fun hc2=>?_) fun hc2=>?_⟩
   ·have hl1:(1:Int) < (((obs dN).reverse.map V.ref).length:Int):=of_decide_eq_true hc2;have lb:((obs dN).reverse.map V.ref).length=dN.length:=by rw [List.length_map,List.length_reverse];exact List.length_map _
    have ls:=Paired.length S1.br.at_;rw [lb,ls] at hl1
    match dN,st1,ps1,mQ,Ae,S1,e1,hl1,ls,lb with
    | [],st1,_,_,_,S1,_,_,ls,_=>exact absurd ls (by simp)
    | [a],st1,_,_,_,S1,_,hl1,ls,_=>exact absurd ls (by simp only [List.length_cons,List.length_nil] at hl1 ⊢;omega)
    | a::g::dN,[],_,_,_,S1,_,_,ls,_=>exact absurd ls (by simp)
    | a::g::dN,G::st1,ps1,mQ,Ae,S1,e1,hl1,ls,lb=>
    obtain ⟨dr1,W4⟩:=S1.ob;refine X5 ?_;have er:(obs (a::g::dN)).reverse=(obs (g::dN)).reverse++[a.ob]:=by simp [obs]
    have abQ:H1 bl=some (.lst ((obs (g::dN)).reverse.map V.ref++[V.ref a.ob])):=by rw [S1.br.lst,er,List.map_append];rfl
    refine ⟨_,rfl,.inl ⟨rfl,_,bO.of abQ⟩,bl,_,V.ref a.ob,rfl,rfl,abQ,?_,?_⟩
    ·rw [List.length_append,List.length_singleton,Nat.add_sub_cancel,List.getElem?_append_right (Nat.le_refl _),Nat.sub_self];rfl
    rw [List.dropLast_concat];have S2:=S1.Tf (obs (g::dN)).reverse;obtain ⟨dh,hob⟩:=S2.head.1.ob;refine ⟨_,rfl,a.ob,dh,_,rfl,hob,yP _ _ _ _ (by decide +kernel) (by decide +kernel) (by decide +kernel) (by decide +kernel),_,rfl,?_⟩;refine ⟨a,F1,b,A1,p,{ B with ns:=mR },rfl,S2.pair Ae (by omega),fun A2 vs2 bl2 QV H3 br3 bk3 g3 hv3 nd3 JR Gk XQ k3=>?_⟩;have wU:=S2.facts.1;unfold eZ.lists at wU;simp only [List.nodup_cons,List.mem_cons,List.not_mem_nil,or_false,not_or] at wU;have W5:(upd H1 bl (.lst ((obs (g::dN)).reverse.map V.ref))) a.fl≠none:=by rw [S2.head.1.fs];simp
    have S3:=S2.swap (a':={ a with bl:=bl2,pl:=QV }) (ns':=cu B.P mR F1) rfl k3 br3 bk3 g3 (fun y hy=>by
      simp only [eZ.lists,List.mem_cons,List.not_mem_nil,or_false];rcases hv3 y hy with e | e
      ·exact .inr (.inr e)
      ·exact .inr (.inl e)) (fun y hy=>by
      simp only [eZ.lists,List.mem_cons,List.not_mem_nil,or_false] at hy;rcases hy with rfl | rfl | rfl
      ·refine .inl ⟨by simp [eZ.lists],fun z=>?_⟩;rcases hv3 _ z with e | e
       ·exact wU.1.2 e
       ·exact wU.1.1 e
      ·exact .inr JR
      ·exact .inr Gk) (by
      simp only [eZ.lists,List.nodup_cons,List.mem_cons,List.not_mem_nil,or_false,not_or,not_false_eq_true,List.nodup_nil,and_true];exact ⟨⟨fun z=>W5 (by rw [z];exact JR),fun z=>W5 (by rw [z];exact Gk)⟩,XQ⟩)
    have fw3:=Ae.ef (P:=B.P) Ao (by omega);have ps3:=ps1.ef Ao;obtain ⟨dh3,W6⟩:=S3.head.1.ob;refine cC rfl S3.rd (by decide +kernel) (by decide +kernel) ?_;refine ⟨_,rfl,a.ob,cs.dG,dh3,_,_,rfl,W6,wA,GQ _ (by simp),qH _ _ _ _,_,rfl,a.ob,cs.dG,dh3,_,_,rfl,W6,wA,GQ _ (by simp),ig _ _ _ _,_,_,rfl,.inl (bO.of S3.head.1.fs),_,_,rfl,rfl,?_⟩;have hlen3:(nV (bW B.P mR F1).fs).length=F1.fs.length+1:=by rw [aK];show (F1.fs++[_]).length=_;simp
    have hcl:decide (((bW B.P mR F1).asked:Int)≤((nV (bW B.P mR F1).fs).length:Int))=decide (F1.asked≤F1.fs.length+1):=by
     rw [hlen3];by_cases z:F1.asked≤F1.fs.length+1
     ·rw [decide_eq_true z,decide_eq_true];show (F1.asked:Int)≤_;omega
     ·rw [decide_eq_false z,decide_eq_false];show ¬ (F1.asked:Int)≤_;omega
    refine ⟨r,lt,as,T,i1,t1,_,rfl,S3.rd,ht1,fun hq H4 R4 k4=>?_,fun hq=>?_⟩
    ·have hk:F1.asked≤F1.fs.length+1:=by
      have hq':decide (((bW B.P mR F1).asked:Int)≤((nV (bW B.P mR F1).fs).length:Int))=true:=hq;rw [hcl] at hq';exact of_decide_eq_true hq'
     have S4:=S3.moved co R4 k4;obtain ⟨dh4,agD⟩:=S4.head.1.ob;have tl4:=S4.head.2;cases tl4 with
     | cons bg4 tl4=>
     obtain ⟨dg4,ad5⟩:=bg4.ob;have ad6:H4 bl=some (.lst (((obs dN).reverse.map V.ref)++[V.ref g.ob])):=by
      rw [S4.br.lst];have:(obs (g::dN)).reverse=(obs dN).reverse++[g.ob]:=by simp [obs]
      rw [this,List.map_append];rfl
     refine ⟨_,rfl,_,rfl,bl,_,_,V.ref g.ob,rfl,rfl,bO.of ad6,xV _ _,g.ob,cs.dG,dg4,_,_,rfl,ad5,wA,GQ _ (by simp),qI _ _ _ _,.inl ⟨rfl,_,bO.of bg4.ps⟩,_,rfl,_,rfl,?_⟩;have ad7:(bW B.P mR F1).fs≠[]:=by show F1.fs++[_]≠[];simp
     have agF:=fw3.le;refine ⟨{ a with bl:=bl2,pl:=QV },bW B.P mR F1,b,A2,p,{ B with ns:=cu B.P mR F1 },rfl,S4.head.1,S4.bk,(S4.facts.2.1 _ (by simp [eZ.lists])).1,ad7,by show (cu B.P mR F1).length < 100000;omega,fun A5 vs5 H5 bk5 g5 hv5 hl5 k5=>?_⟩;have S5:=S4.gone (ns':=qe (cu B.P mR F1) (bW B.P mR F1)) k5 bk5 g5 hv5;have fw5:=fw3.cl (P:=B.P) (x:=qY B.P (cu B.P mR F1) (bW B.P mR F1)) (by show 1≤(F1.fs++[_]).length;simp) (by omega);have hG:=Ae.le;rw [List.flatMap_cons,List.flatMap_cons,List.length_append,List.length_append,jr G] at hG;refine ⟨g.pl,_,_,rfl,rfl,S5.head.1.ps,?_,?_⟩
     ·rw [aK];exact Nat.lt_trans (show _ < 100000 by omega) bL
     have S6:=S5.part (qY B.P (cu B.P mR F1) (bW B.P mR F1));obtain ⟨dr6,ob6⟩:=S6.ob;have key:cA B mR (F1::G::st1) (tk T i1)=cA B (qe (cu B.P mR F1) (bW B.P mR F1)) ({ G with ps:=G.ps++[qY B.P (cu B.P mR F1) (bW B.P mR F1)] }::st1) (tk T (i1+1))∧jA B (qe (cu B.P mR F1) (bW B.P mR F1)) ({ G with ps:=G.ps++[qY B.P (cu B.P mR F1) (bW B.P mR F1)] }::st1):=by
      by_cases h0:F1.asked=0
      ·exact TV ps1 Ao h0 (mQ.pl F1 (by simp) h0) ht1 VD
      ·exact PJ ps1 Ao h0 hk ht1 VD
     refine ⟨⟨i1+1,A5,_,g::dN,{ G with ps:=G.ps++[qY B.P (cu B.P mR F1) (bW B.P mR F1)] },st1,u,_,rfl,S6,key.2,by simp,mQ.tail.head rfl (fun z=>mQ.pl G (by simp) z),fw5.mono (by omega),by omega,hu,e1.trans key.1⟩,?_⟩;refine Nat.lt_of_le_of_lt (Nat.le_of_eq (jO ob6)) ?_;rw [jO W4];omega
    ·have hk:¬ F1.asked≤F1.fs.length+1:=by
      have hq':decide (((bW B.P mR F1).asked:Int)≤((nV (bW B.P mR F1).fs).length:Int))=false:=hq;rw [hcl] at hq';exact of_decide_eq_false hq'
     exact kx _ (e1.trans (Zr (by omega) (by omega) ht1 VD))
   ·have hl1:¬ (1:Int) < (((obs dN).reverse.map V.ref).length:Int):=fun z=>hc2 (decide_eq_true z);have lb:((obs dN).reverse.map V.ref).length=dN.length:=by rw [List.length_map,List.length_reverse];exact List.length_map _
    have ls:=Paired.length S1.br.at_;rw [lb,ls,List.length_cons] at hl1;exact kq H1 i1 A1 mR dN F1 st1 t1 S1 ps1 Ao mQ Ae hi1 ht1 (.inr (List.eq_nil_of_length_eq_zero (by omega))) e1
  ·rw [sE X6] at hc;exact Fv (kq H1 i1 A1 mR dN F1 st1 t1 S1 ps1 Ao mQ Ae hi1 ht1 (.inl fun z=>hc (decide_eq_true z)) e1)
end
end Pg
end
section
set_option linter.all false
set_option maxRecDepth 100000
set_option maxHeartbeats 4000000
namespace Pg
open PySem L2 Xc Sp Rb35
section
variable {B:Bk}{ns:List aF}{F G:aD}{r:List aD}{T:List PT}{i:Nat}{t:PT}
theorem Zt (ht:T[i]?=some t) (h:t.1=[38]):cA B ns (F::r) (tk T i)=bA B ns (F::r) (tk T (i+1)):=by
 show iT _ _ _ (tk T i)=_;rw [iG (by decide) ht h,abv];rfl
theorem abR (S:jA B ns (F::r)) (ht:T[i]?=some t) (h:t.1=[124]):cA B ns (F::r) (tk T i)=bA B (gR ns F) (dM B.P ns F::r) (tk T (i+1)):=by
 obtain ⟨d1,d2⟩:=S.Sh;show iT _ _ _ (tk T i)=f9 _ (aD.den B.P (gR ns F) (dM B.P ns F)) (r.map (aD.den B.P (gR ns F))) _;rw [iG (by decide) ht h,adR,d1,d2];rfl
theorem TY (S:jA B ns (F::G::r)) (hp:F.ps≠[]) (h0:F.asked≠0) (ht:T[i]?=some t) (h:t.1=[44]):cA B ns (F::G::r) (tk T i)=bA B (cu B.P ns F) (bW B.P ns F::G::r) (tk T (i+1)):=by
 obtain ⟨d1,d2,d3⟩:=S.Dk hp;show iT _ _ _ (tk T i)=f9 _ (aD.den B.P (cu B.P ns F) (bW B.P ns F)) ((G::r).map (aD.den B.P (cu B.P ns F))) _;rw [iG (by decide) ht h,d2,d3];exact Wr _ (by exact h0) _
end
def BJ (cs:Cs):Sp:=fun vs H Q E=>∃ (H0:Hp) (r lt:Addr) (as:List Addr) (T:List PT) (i:Nat) (b:Addr) (A:dY) (p:Nat) (B:Bk) (ns:List aF) (bl:Addr) (lo:List Addr) (a:eZ) (dj:List eZ) (F:aD) (st:List aD) (t:PT),vs=[.ref r,.ref a.ob,.ref b] ∧
 jY cs H0 H r lt as T i b A p B ns bl lo (a::dj) (F::st)∧jA B ns (F::st)∧F.ps≠[]∧Dt (F::st)∧Fw ns (F::st) (4*i)∧QW T∧T[i]?=some t ∧
 (∀ (H':Hp) (A':dY) (ns':List aF) (a':eZ) (F':aD) (t':PT),jY cs H0 H' r lt as T (i+1) b A' p B ns' bl lo (a'::dj) (F'::st)→a'.ob=a.ob→jA B ns' (F'::st)→Dt (F'::st)→Fw ns' (F'::st) (4*(i+1))→T[i+1]?=some t' →
  cA B ns (F::st) (tk T i)=bA B ns' (F'::st) (tk T (i+1))→Q (.bl true) H') ∧
 (¬ t.1=[124]→¬ t.1=[38]→(¬ t.1=[44]∨F.asked=0)→Q (.bl false) H)
section
variable {P:Program}{w:World}{K:PySem.W.Frag}{mg:Str→Option Value}{base:Heap}{cs:Cs}
theorem zp:aH ["reader","bracket","book","word"] ["reader","bracket","book"] (au jN):=⟨rfl,rfl,rfl,by decide +kernel,rfl,by decide +kernel,by decide +kernel⟩
theorem J5 (co:tX cs) (T:bJ K mg "read_between" jN) (cl:Cls K cs.cB) (qK:Cls K cs.tok) (qL:cF K cs.tok ["kind","word","place"]) (wA:Cls K cs.dG) (GQ:cF K cs.dG ["asked","formulas","boths","parts"])
  (NW:bw P w K mg base 1 cs.cB "now" ["self"] (mj cs)) (TW:bw P w K mg base 5 cs.cB "take_written" ["self","word"] (kh cs)) (EB:bw P w K mg base 5 cs.dG "end_both" ["self","book"] (vg cs)) (EF:bw P w K mg base 6 cs.dG "end_formula" ["self","book"] (jW cs)) :
  aX P w K mg base 7 "read_between" ["reader","bracket","book"] (BJ cs):=by
 obtain ⟨f,fd,F,hm⟩:=T.ex;refine ⟨f,fd,hm,F.kp,F.binds (fun _ _ _ _ _ _ us hl=>match us,hl with | [_,_,_],_=>rfl),Bs F zp (fun vs H Q E h=>?_) (fun cdv A outer s H vs Q E hr h=>?_)⟩
 ·obtain ⟨H0,r,lt,as,T,i,b,A,p,B,ns,bl,lo,a,dj,F,st,t,rfl,_⟩:=h;rfl
 ·obtain ⟨H0,r,lt,as,T,i,b,Ad,p,B,ns,bl,lo,a,dj,F0,st,t,rfl,S,ps,hps,inn,fw,tok,ht,kq,kf⟩:=h;refine ⟨_,aq (aZ (i:=3) zp.nd rfl (Or.inl rfl) (aM (dR (pv 0) cl (NW.mono (by decide:1≤6)) hr aG) rfl))
   (aq (dD (aQ gV (pv 3) cR (aY _)) (aC (aN (bK (pv 1) wA (EB.mono (by decide:5≤6)) hr aG (aj (pv 2) aA))))
    (aC (dD (uH (aQ gV (pv 3) cR (aY _)) (sZ (aQ tG (aM (pv 1) rfl) aR (aY _)))).pt (aC (aN (bK (pv 1) wA EF hr aG (aj (pv 2) aA))))
     (aC (dD (aQ vL (pv 3) cR (aY _)) (aC (bf Em)) bU)))))
   (aq (aN (bK (pv 0) cl (TW.mono (by decide:5≤6)) hr bh (aj (pv 3) aA)))
   (aC (bf Em)))),?_⟩
  have hil:=(List.getElem?_eq_some_iff.mp ht).1;have hTl:=tok.few;obtain ⟨dh,hob⟩:=S.head.1.ob;have wU:=S.facts.1;unfold eZ.lists at wU;simp only [List.nodup_cons,List.mem_cons,List.not_mem_nil,or_false,not_or] at wU;have W5:H a.fl≠none:=by rw [S.head.1.fs];simp
  have sbl:H a.bl≠none:=by rw [S.head.1.bs];simp
  refine qj qK qL rfl S.rd ht ?_;refine ⟨_,rfl,rfl,_,rfl,bV (fun hc=>?_) fun hc=>?_⟩
  ·rw [sE TF] at hc;have h1:=of_decide_eq_true hc;obtain ⟨u,hu⟩:=tok.next i t ht (by rw [h1];simp);refine ⟨_,rfl,a.ob,dh,_,rfl,hob,yP _ _ _ _ (by decide +kernel) (by decide +kernel) (by decide +kernel) (by decide +kernel),_,rfl,?_⟩;refine ⟨a,F0,b,Ad,p,{ B with ns:=ns },rfl,S.pair fw (by omega),fun A2 vs2 QV H2 Zu bk2 g2 hv2 hl2 Gk k2=>?_⟩;have S2:=S.swap (a':={ a with pl:=QV }) (ns':=gR ns F0) rfl (k2.mono fun x hx=>by simp at hx ⊢;rcases hx with rfl | rfl | rfl <;> simp) Zu bk2 g2 (fun y hy=>by rw [hv2 y hy];simp [eZ.lists]) (fun y hy=>by
     simp only [eZ.lists,List.mem_cons,List.not_mem_nil,or_false] at hy;rcases hy with rfl | rfl | rfl
     ·exact .inl ⟨by simp [eZ.lists],fun z=>wU.1.2 (hv2 _ z)⟩
     ·exact .inl ⟨by simp [eZ.lists],fun z=>wU.2.1 (hv2 _ z)⟩
     ·exact .inr Gk) (by
     simp only [eZ.lists,List.nodup_cons,List.mem_cons,List.not_mem_nil,or_false,not_or,not_false_eq_true,List.nodup_nil,and_true];exact ⟨⟨wU.1.1,fun z=>W5 (by rw [z];exact Gk)⟩,fun z=>sbl (by rw [z];exact Gk)⟩)
   refine cC rfl S2.rd (by decide +kernel) (by decide +kernel) ?_;refine ⟨_,rfl,r,lt,as,T,i,t,_,rfl,S2.rd,ht,fun _ H3 R3 k3=>?_,fun hq=>absurd rfl hq⟩;exact kq H3 A2 _ _ _ u (S2.moved co R3 k3) rfl (ps.eb hps) (inn.head rfl fun z=>inn.pl F0 (by simp) z) ((fw.eb (P:=B.P) hps (by omega)).mono (by omega)) hu (abR ps ht h1)
  ·rw [sE TF] at hc;have h1:¬ t.1=[124]:=fun z=>hc (decide_eq_true z);refine ⟨_,rfl,rfl,_,rfl,bV (fun hc2=>?_) fun hc2=>?_⟩
   ·rw [sE GK] at hc2;have h2:=of_decide_eq_true hc2;obtain ⟨u,hu⟩:=tok.next i t ht (by rw [h2];simp);refine ⟨_,rfl,a.ob,cs.dG,dh,_,_,rfl,hob,wA,GQ _ (by simp),qH _ _ _ _,_,_,rfl,rfl,_,rfl,bV (fun hc3=>?_) fun hc3=>?_⟩
    ·have h3:(0:Int) < (F0.asked:Int):=of_decide_eq_true hc3;have h0:F0.asked≠0:=by omega
     match st,S,ps,inn,fw,kq,kf with
     | [],S,ps,inn,fw,kq,kf=>exact absurd inn.bot h0
     | G::st,S,ps,inn,fw,kq,kf=>
     refine ⟨_,rfl,a.ob,dh,_,rfl,hob,yP _ _ _ _ (by decide +kernel) (by decide +kernel) (by decide +kernel) (by decide +kernel),_,rfl,?_⟩;refine ⟨a,F0,b,Ad,p,{ B with ns:=ns },rfl,S.pair fw (by omega),fun A2 vs2 bl2 QV H2 Zu bk2 g2 hv2 nd2 JR Gk XQ k2=>?_⟩;have S2:=S.swap (a':={ a with bl:=bl2,pl:=QV }) (ns':=cu B.P ns F0) rfl k2 Zu bk2 g2 (fun y hy=>by
       simp only [eZ.lists,List.mem_cons,List.not_mem_nil,or_false];rcases hv2 y hy with e | e
       ·exact .inr (.inr e)
       ·exact .inr (.inl e)) (fun y hy=>by
       simp only [eZ.lists,List.mem_cons,List.not_mem_nil,or_false] at hy;rcases hy with rfl | rfl | rfl
       ·refine .inl ⟨by simp [eZ.lists],fun z=>?_⟩;rcases hv2 _ z with e | e
        ·exact wU.1.2 e
        ·exact wU.1.1 e
       ·exact .inr JR
       ·exact .inr Gk) (by
       simp only [eZ.lists,List.nodup_cons,List.mem_cons,List.not_mem_nil,or_false,not_or,not_false_eq_true,List.nodup_nil,and_true];exact ⟨⟨fun z=>W5 (by rw [z];exact JR),fun z=>W5 (by rw [z];exact Gk)⟩,XQ⟩)
     refine cC rfl S2.rd (by decide +kernel) (by decide +kernel) ?_;refine ⟨_,rfl,r,lt,as,T,i,t,_,rfl,S2.rd,ht,fun _ H3 R3 k3=>?_,fun hq=>absurd rfl hq⟩;exact kq H3 A2 _ _ _ u (S2.moved co R3 k3) rfl (ps.ef hps) (inn.head rfl fun z=>absurd z h0) ((fw.ef (P:=B.P) hps (by omega)).mono (by omega)) hu (TY ps hps h0 ht h2)
    ·have h0:F0.asked=0:=by
      have:¬ (0:Int) < (F0.asked:Int):=fun z=>hc3 (decide_eq_true z);omega
     have h38:¬ t.1=[38]:=by rw [h2];decide
     refine ⟨_,rfl,rfl,_,rfl,bV (fun _=>?_) fun hc4=>?_⟩
     ·exact kf h1 h38 (.inr h0)
     ·rw [sE Tz,decide_eq_false h38] at hc4;exact absurd rfl hc4
   ·rw [sE GK] at hc2;have h2:¬ t.1=[44]:=fun z=>hc2 (decide_eq_true z);refine Fv ?_;refine ⟨_,rfl,rfl,_,rfl,bV (fun hc4=>?_) fun hc4=>?_⟩
    ·rw [sE Tz] at hc4;exact kf h1 (fun z=>by rw [decide_eq_true z] at hc4;exact absurd hc4 (by decide)) (.inl h2)
    ·rw [sE Tz] at hc4;have h38:t.1=[38]:=Decidable.byContradiction fun z=>hc4 (by rw [decide_eq_false z];rfl);obtain ⟨u,hu⟩:=tok.next i t ht (by rw [h38];simp);refine cC rfl S.rd (by decide +kernel) (by decide +kernel) ?_;refine ⟨_,rfl,r,lt,as,T,i,t,_,rfl,S.rd,ht,fun _ H3 R3 k3=>?_,fun hq=>absurd rfl hq⟩;exact kq H3 Ad ns a F0 u (S.moved co R3 k3) rfl ps inn (fw.mono (by omega)) hu (Zt ht h38)
end
end Pg
end
section
set_option linter.all false
set_option maxRecDepth 100000
set_option maxHeartbeats 4000000
namespace Pg
open PySem L2 Xc Sp Rb35
def Sim (A A':dY):Prop:=A'.na=A.na∧A'.ma=A.ma∧A'.la=A.la∧A'.pa=A.pa
theorem jY.sim {cs:Cs} (co:tX cs) {H0 H:Hp}{r lt b bl:Addr}{as lo:List Addr}{T:List PT}{i:Nat}{A A':dY}{p:Nat}{B:Bk}{ns:List aF}{dj:List eZ}{st:List aD} (R0:aV cs H0 b A p B) (S:jY cs H0 H r lt as T i b A' p B ns bl lo dj st):Sim A A':=by
 obtain ⟨dx,ob0⟩:=R0.ob;obtain ⟨dr,j,hr⟩:=S.r0;obtain ⟨xs,hn⟩:=S.WT;have h1:=S.kp _ _ ob0 (by
  simp only [List.mem_cons,List.not_mem_nil,or_false,not_or];refine ⟨lN ob0 hr ?_,dW ob0 hn⟩;intro z;injection z with z
  exact co.rb z.symm)
 obtain ⟨dy,wz⟩:=S.bk.ob;rw [h1] at wz;injection wz with wz
 injection wz with _ _ wz
 unfold QS at wz;simp only [List.cons.injEq,Prod.mk.injEq,V.ref.injEq,true_and,and_true] at wz;exact ⟨wz.2.1.symm,wz.2.2.2.symm,wz.2.2.1.symm,wz.1.symm⟩
def BL (cs:Cs):Sp:=fun vs H Q E=>∃ (r lt:Addr) (as:List Addr) (T:List PT) (i:Nat) (b:Addr) (A:dY) (p:Nat) (B:Bk) (t:PT),vs=[.ref r,.ref b]∧bN cs H r lt as T i∧aV cs H b A p B∧lt≠A.na∧B.Ok∧Fw B.ns [] (4*i)∧QW T∧T[i]?=some t ∧
 (∀ (H':Hp) (j:Nat) (A':dY) (ns':List aF) (x:Nat) (u:PT),bN cs H' r lt as T j→aV cs H' b A' p { B with ns:=ns' }→Sim A A'→Kp [r,A.na] H H'→jA B ns' [⟨0,[x],[],[]⟩]→Fw ns' [] (4*j+2)→i < j→T[j]?=some u →
  formula B.known (tk T i)=.ok (den B.P ns' x,tk T j)→Q (.int (x:Int)) H') ∧
 (∀ k,formula B.known (tk T i)=.error k→uE E cs.cst (-100-(k:Int)))
def FoI (cs:Cs) (H0:Hp) (r lt:Addr) (as:List Addr) (T:List PT) (i:Nat) (b:Addr) (p:Nat) (B:Bk) (bl:Addr):L2.St→Hp→Prop:=fun σ H'=>
 ∃ (g:Bool) (i':Nat) (A':dY) (ns':List aF) (a':eZ) (ug:List eZ) (F':aD) (st':List aD) (t':PT) (x:Option V),σ=[some (.ref r),some (.ref b),some (.ref bl),some (.bl g),x]∧jY cs H0 H' r lt as T i' b A' p B ns' bl (obs (a'::ug)).reverse (a'::ug) (F'::st') ∧
  jA B ns' (F'::st')∧Dt (F'::st')∧Fw ns' (F'::st') (4*i')∧i≤i'∧T[i']?=some t' ∧
  (g=true→formula B.known (tk T i)=bA B ns' (F'::st') (tk T i')) ∧
  (g=false→i < i'∧F'.ps≠[]∧(¬ t'.1=[41]∨st'=[])∧¬ t'.1=[124]∧¬ t'.1=[38]∧(¬ t'.1=[44]∨F'.asked=0)∧formula B.known (tk T i)=cA B ns' (F'::st') (tk T i'))
theorem GR (a:eZ) (dj:List eZ):(obs (a::dj)).reverse.map V.ref=(obs dj).reverse.map V.ref++[V.ref a.ob]:=by simp [obs]
section
variable {B:Bk}{ns:List aF}{F G:aD}{r:List aD}{T:List PT}{i:Nat}{t:PT}
theorem W7 (k:B.Ok) (S:jA B ns (F::r)) {x:Nat} (ht:T[i]?=some t) (h1:kindS t.1="name") (h2:look B.names t.1=some x):bA B ns (F::r) (tk T i)=cA B ns ({ F with ps:=F.ps++[x] }::r) (tk T (i+1)):=by
 show f9 _ _ _ _=iT _ (aD.den B.P ns { F with ps:=F.ps++[x] }) _ _;rw [WR ht h1 (by rw [Bk.yN,h2];rfl),vo,S.old (k.Mt h2)]
theorem Zv (ht:T[i]?=some t) (h1:¬ t.1=[41]) (h2:¬ t.1=[124]) (h3:¬ t.1=[38]) (h4:¬ t.1=[44]∨F.asked=0):cA B ns (F::G::r) (tk T i)=.error t.2:=by
 show iT _ _ (_::_) _=_;rw [abx (by rw [rD (by decide) ht];exact decide_eq_false h3) (by rw [rD (by decide) ht];exact decide_eq_false h2) (by rw [rD (by decide) ht];exact decide_eq_false h1) (h4.imp (fun z=>by rw [rD (by decide) ht];exact decide_eq_false z) fun z=>z),jC ht]
theorem Zw (S:jA B ns [F]) (hp:F.ps≠[]) (ht:T[i]?=some t) (h2:¬ t.1=[124]) (h3:¬ t.1=[38]):cA B ns [F] (tk T i)=.ok (den B.P (cu B.P ns F) (nq B.P ns F),tk T i):=by
 rw [(S.Dk hp).1];exact aby (by rw [rD (by decide) ht];exact decide_eq_false h3) (by rw [rD (by decide) ht];exact decide_eq_false h2)
end
section
variable {P:Program}{w:World}{K:PySem.W.Frag}{mg:Str→Option Value}{base:Heap}{cs:Cs}
theorem lu:aH ["reader","book","brackets","goes_on","name"] ["reader","book"] (au jM):=⟨rfl,rfl,rfl,by decide +kernel,rfl,by decide +kernel,by decide +kernel⟩
theorem J6 (co:tX cs) (T:bJ K mg "read_formula" jM) (cl:Cls K cs.cB) (gO:Cls K cs.boo) (naB:cF K cs.boo ["prime","people","nodes","lets","names"]) (wA:Cls K cs.dG) (GQ:cF K cs.dG ["asked","formulas","boths","parts"]) (hlen:mg "len"=none)
  (BR:kO P w K mg base 1 "Bracket" cs.dG ["self","asked"] (qJ cs)) (BG:aX P w K mg base 6 "begin_brackets" ["reader","brackets"] (M4 cs)) (KN:bw P w K mg base 5 cs.cB "take_known_name" ["self","names"] (vh cs true))
  (SH:aX P w K mg base 7 "close_brackets" ["reader","brackets","book"] (TX cs)) (BW:aX P w K mg base 7 "read_between" ["reader","bracket","book"] (BJ cs)) (TK:bw P w K mg base 4 cs.cB "take" ["self","stands"] (oR cs)) (EF:bw P w K mg base 6 cs.dG "end_formula" ["self","book"] (jW cs)) :
  aX P w K mg base 8 "read_formula" ["reader","book"] (BL cs):=by
 obtain ⟨f,fd,F,hm⟩:=T.ex;refine ⟨f,fd,hm,F.kp,F.binds (fun _ _ _ _ _ _ us hl=>match us,hl with | [_,_],_=>rfl),Bs F lu (fun vs H Q E h=>?_) (fun cdv A outer s H vs Q E hr h=>?_)⟩
 ·obtain ⟨r,lt,as,T,i,b,A,p,B,t,rfl,_⟩:=h;rfl
 ·obtain ⟨r,lt,as,T,i,b,Ad,p,B,t,rfl,R,Rb,hlt,ok,fw,tok,ht,kq,kx⟩:=h;refine ⟨_,aq (aZ (i:=2) lu.nd rfl (Or.inl rfl) (fL (aj (rR (BR.mono (by decide:1≤6)) hr rfl aG (aj aR aA)) aA)))
   (aq (aZ (i:=3) lu.nd rfl (Or.inl rfl) Em)
   (aq (gU PassesOwn.leaving (mD (pv 3))
    (aq (aN (bM (BG.mono (by decide:6≤7)) hr rfl bh (aj (pv 0) (aj (pv 2) aA))))
    (aq (aZ (i:=4) lu.nd rfl (Or.inl rfl) (bK (pv 0) cl (KN.mono (by decide:5≤7)) hr bh (aj (aM (pv 1) rfl) aA)))
    (aq (aN (ju PySem.F.plainAttrs_list PySem.F.slot_list_append PySem.F.type_list_append cD (aM (fM eE (pv 2) (xM rK aR) (fun _ _=>rfl)) rfl) (aj (Wf (yq hr) (aM (pv 1) rfl) (pv 4) (fun _ _=>rfl)) aA)))
    (aq (aN (bM SH hr rfl bh (aj (pv 0) (aj (pv 2) (aj (pv 1) aA)))))
    (aC (aZ (i:=3) lu.nd rfl (Or.inl rfl) (bM BW hr rfl bh (aj (pv 0) (aj (fM eE (pv 2) (xM rK aR) (fun _ _=>rfl)) (aj (pv 1) aA)))))))))))
   (aq (dD (aQ tG (aU aO (by rfl) hlen PySem.boot_len (aj (pv 2) aA)) aR (aY _)) (aC (aN (bK (pv 0) cl (TK.mono (by decide:4≤7)) hr bh (aj Em aA)))) bU)
   (aq (aN (bK (fM eE (pv 2) aR (fun _ _=>rfl)) wA (EF.mono (by decide:6≤7)) hr aG (aj (pv 1) aA)))
   (aC (bf (fM eE (aM (fM eE (pv 2) aR (fun _ _=>rfl)) rfl) aR (fun _ _=>rfl)))))))),?_⟩
  intro x QT nx ndx nex;refine ⟨x,QT,0,rfl,ao,fun fl wV pl H1 h1 hfl uV hpl Mw JR Gk nd k1=>⟨rfl,by show 1≤sizeLine;decide,fun bl nb=>?_⟩⟩;have s1:Same H H1:=Same.made nx ndx fun c o e hc=>k1 c o e (by simpa using hc);have kb:Kp [] H1 (upd H1 bl (.lst [V.ref x])):=Kp.refl.upd (.inr nb);have s2:Same H (upd H1 bl (.lst [V.ref x])):=s1.trans kb.Y9;have hTl:=tok.few;obtain ⟨dxb,obb⟩:=Rb.ob;have ne1:∀ {y:Addr}{o:HO},H1 y=some o→y≠bl:=fun h=>aB h nb;have S0:jY cs H (upd H1 bl (.lst [V.ref x])) r lt as T i b Ad p B B.ns bl [x] [⟨x,fl,wV,pl⟩] [aD.empty 0]:=by
   obtain ⟨dr,obr⟩:=R.ob;refine ⟨R.tk,⟨dr,_,obr⟩,⟨_,Rb.nodes⟩,hlt,⟨dr,s2 _ _ obr⟩,Rb.keep (Kp.same s2 []) (fun y hy=>by simp at hy),⟨ao,.cons ⟨⟨QT,?_⟩,?_,?_,?_⟩ .nil,?_,fun y hy=>?_,by simp [obs]⟩,Kp.same s2 _,fun y hy=>?_⟩
   ·rw [ak (ne1 h1)];exact h1
   ·show upd _ _ _ fl=_;rw [ak (ne1 hfl)];exact hfl
   ·show upd _ _ _ wV=_;rw [ak (ne1 uV)];exact uV
   ·show upd _ _ _ pl=_;rw [ak (ne1 hpl)];exact hpl
   ·show (bl::([fl,wV,pl]++[])).Nodup;rw [List.append_nil,List.nodup_cons];refine ⟨fun z=>?_,nd⟩;simp only [List.mem_cons,List.not_mem_nil,or_false] at z;rcases z with z | z | z
    ·exact ne1 hfl z.symm
    ·exact ne1 uV z.symm
    ·exact ne1 hpl z.symm
   ·intro z;obtain ⟨xs,e⟩:=Rb.Bt z;have hy':y=bl∨y=fl∨y=wV∨y=pl:=by simpa [oV,eZ.lists] using hy
    rcases hy' with rfl | rfl | rfl | rfl
    ·exact absurd rfl (ne1 (s1 _ _ e))
    ·rw [cW Mw] at e;cases e
    ·rw [cW JR] at e;cases e
    ·rw [cW Gk] at e;cases e
   ·have hy':y=bl∨y=x∨y=fl∨y=wV∨y=pl:=by
     rcases hy with h | h | h
     ·exact .inl h
     ·exact .inr (.inl (by simpa [obs] using h))
     ·exact .inr (.inr (by simpa [oV,eZ.lists] using h))
    rcases hy' with rfl | rfl | rfl | rfl | rfl
    ·exact s1.free nb
    ·exact nx
    ·exact cW Mw
    ·exact cW JR
    ·exact cW Gk
  refine lq (FoI cs H r lt as T i b p B bl) (fun _ H'=>W2 T r H') ⟨true,i,Ad,B.ns,⟨x,fl,wV,pl⟩,[],aD.empty 0,[],t,none,rfl,S0,jA.start ok,⟨rfl,fun G hG _=>by simp at hG;subst hG;rfl⟩,⟨fw.le,fw.wi,by show 1≤_;omega⟩,Nat.le_refl _,ht,fun _=>Aj _ _,fun z=>absurd z (by decide)⟩ ?_;rintro σ H1' ⟨g,i1,A1,mR,a1,dN,F1,st1,t1,x1,rfl,S1,ps1,mQ,Ae,hi1,ht1,eT,eF⟩;have hil:=(List.getElem?_eq_some_iff.mp ht1).1;refine ⟨_,rfl,g,rfl,?_⟩;cases g with
  | true=>
   refine CZ (X5 ?_);have e1:=eT rfl;refine ⟨_,rfl,_,rfl,H,r,lt,as,T,i1,b,A1,p,B,mR,bl,a1::dN,F1::st1,t1,rfl,S1,ps1,mQ,Ae,tok,ht1,fun H2 i2 Zx st2 t2 S2 ps2 PK Zy hi2 ht2 n40 aeb e2=>?_,fun k hk=>kx k (e1.trans hk)⟩;have agM:=(List.getElem?_eq_some_iff.mp ht2).1
   match st2,S2,ps2,PK,Zy,e2 with
   | [],_,_,PK,_,_=>exact absurd PK.bot (by simp [Zq])
   | F2::st2,S2,ps2,PK,Zy,e2=>
   match Zx,S2 with
   | [],S2=>exact absurd (Paired.length S2.br.at_) (by simp)
   | a2::Zx,S2=>
   obtain ⟨db2,Sy⟩:=S2.bk.ob;refine cC rfl S2.rd (by decide +kernel) (by decide +kernel) ?_;refine ⟨_,rfl,b,cs.boo,db2,_,_,rfl,Sy,gO,naB _ (by simp),j9 _ _ _ _ _,?_⟩;have hval:lK (wX B.names) (Sum.inr (bR t2.1))=(look B.names t2.1).map fun (i:Nat)=>V.int (i:Int):=uc _ _;refine ⟨r,lt,as,T,i2,t2,A1.ma,wX B.names,rfl,S2.rd,ht2,S2.bk.names,fun hq H3 R3 k3=>?_,fun hq=>?_⟩
   ·obtain ⟨hk,hsome⟩:=hq;rw [hval] at hsome;cases hlook:look B.names t2.1 with
    | none=>rw [hlook] at hsome;cases hsome
    | some z=>
    have S3:=S2.moved co R3 k3;obtain ⟨u,hu⟩:=tok.next i2 t2 ht2 (fun e=>by rw [e] at hk;exact absurd hk (by decide +kernel));obtain ⟨Zz,tl3⟩:=S3.head;obtain ⟨dh3,W6⟩:=Zz.ob;obtain ⟨db3,ob3⟩:=S3.bk.ob;have abT:=S3.br.lst;rw [GR] at abT;have dg:qW H3 A1.ma (kV (Sum.inr (bR t2.1))) (some (V.int (z:Int))):=by
     have d:=qW.k (k:=Sum.inr (bR t2.1)) (show H3 A1.ma=some (.dK (wX B.names)) from S3.bk.names);rw [hval,hlook] at d;exact d
    refine ⟨_,rfl,_,rfl,bl,_,_,V.ref a2.ob,rfl,rfl,bO.of abT,xV _ _,a2.ob,cs.dG,dh3,_,_,rfl,W6,wA,GQ _ (by simp),qI _ _ _ _,.inl ⟨rfl,_,bO.of Zz.ps⟩,
     _,rfl,b,cs.boo,db3,_,_,rfl,ob3,gO,naB _ (by simp),j9 _ _ _ _ _,_,rfl,A1.ma,_,rfl,dg,a2.pl,_,_,rfl,rfl,Zz.ps,?_,?_⟩
    ·rw [aK];have h:=Zy.le;rw [List.flatMap_cons,List.length_append,jr] at h;exact Nat.lt_trans (show _ < 100000 by omega) bL
    have S4:=S3.part z;have ps4:=ps2.part ok hlook;have fw4:Fw mR ({ F2 with ps:=F2.ps++[z] }::st2) (4*(i2+1)):=(Zy.part z).mono (by omega);have e4:formula B.known (tk T i)=cA B mR ({ F2 with ps:=F2.ps++[z] }::st2) (tk T (i2+1)):=e1.trans (e2.trans (W7 ok ps2 ht2 hk hlook));refine ⟨_,rfl,_,rfl,_,rfl,H,r,lt,as,T,i2+1,b,A1,p,B,mR,bl,a2::Zx,{ F2 with ps:=F2.ps++[z] },st2,u,rfl,S4,ps4,by simp,PK.head rfl (fun q=>PK.pl F2 (by simp) q),fw4,tok,hu,fun H5 i5 A5 ns5 GX F5 st5 t5 S5 ps5 abU abV fw5 hi5 ht5 h5 e5=>?_,fun k hk=>kx k (e4.trans hk)⟩;have agP:=(List.getElem?_eq_some_iff.mp ht5).1
    match GX,S5 with
    | [],S5=>exact absurd (Paired.length S5.br.at_) (by simp)
    | a5::GX,S5=>
    have abW:=S5.br.lst;rw [GR] at abW;obtain ⟨dr1,W4⟩:=S1.ob;refine ⟨_,rfl,_,rfl,_,rfl,bl,_,_,V.ref a5.ob,rfl,rfl,bO.of abW,xV _ _,_,rfl,H,r,lt,as,T,i5,b,A5,p,B,ns5,bl,(obs (a5::GX)).reverse,a5,GX,F5,st5,t5,rfl,S5,ps5,abU,abV,fw5,tok,ht5,fun H6 A6 ns6 a6 F6 t6 S6 ha6 ps6 aef fw6 ht6 e6=>?_,fun n1 n2 n3=>?_⟩
    ·obtain ⟨dr6,aeg⟩:=S6.ob;have eo:obs (a6::GX)=obs (a5::GX):=by simp only [obs,List.map_cons,ha6]
     refine ⟨⟨true,i5+1,A6,ns6,a6,GX,F6,st5,t6,_,rfl,by rw [eo];exact S6,ps6,aef,fw6,by omega,ht6,fun _=>e4.trans (e5.trans e6),fun q=>absurd q (by decide)⟩,?_⟩;rw [jO W4,jO aeg];omega
    ·obtain ⟨dr5,aeh⟩:=S5.ob;refine ⟨⟨false,i5,A5,ns5,a5,GX,F5,st5,t5,_,rfl,S5,ps5,abV,fw5,by omega,ht5,fun q=>absurd q (by decide),fun _=>⟨by omega,abU,h5,n1,n2,n3,e4.trans e5⟩⟩,?_⟩;rw [jO W4,jO aeh];omega
   ·refine kx _ (e1.trans (e2.trans (Zj ht2 n40 aeb fun q=>hq ⟨q.1,?_⟩)));rw [hval];have q2:=q.2;rw [Bk.yN] at q2;cases hl:look B.names t2.1 with
    | none=>rw [hl] at q2;cases q2
    | some z=>rfl
  | false=>
   refine Fv ?_;obtain ⟨hlt1,Ao,n41,abY,n38,n44,e1⟩:=eF rfl;have lb:((obs (a1::dN)).reverse.map V.ref).length=st1.length+1:=by
    have:=Paired.length S1.br.at_;rw [List.length_map,List.length_reverse];show (List.map _ _).length=_;rw [List.length_map,this];rfl
   refine ⟨_,rfl,_,_,rfl,.inl (bO.of S1.br.lst),_,_,rfl,rfl,_,rfl,bV (fun hc=>?_) fun hc=>?_⟩
   ·have h2:(1:Int) < (((obs (a1::dN)).reverse.map V.ref).length:Int):=of_decide_eq_true hc;rw [lb] at h2
    match st1,S1,ps1,n41,e1,h2 with
    | [],_,_,_,_,h2=>exact absurd h2 (by decide)
    | G::st1,S1,ps1,n41,e1,h2=>
    refine cC rfl S1.rd (by decide +kernel) (by decide +kernel) ?_;refine ⟨r,lt,as,T,i1,t1,false,rfl,S1.rd,ht1,fun q=>absurd q (by decide),fun _=>?_⟩;exact kx _ (e1.trans (Zv ht1 (n41.resolve_right (by simp)) abY n38 n44))
   ·have h2:¬ (1:Int) < (((obs (a1::dN)).reverse.map V.ref).length:Int):=fun z=>hc (decide_eq_true z);rw [lb] at h2;have hst:st1=[]:=List.eq_nil_of_length_eq_zero (by omega);subst hst;have aei:dN=[]:=by
     have:=Paired.length S1.br.at_;exact List.eq_nil_of_length_eq_zero (by simpa using this)
    subst aei;have h0:F1.asked=0:=mQ.bot;have hfs:F1.fs=[]:=mQ.pl F1 (by simp) h0;obtain ⟨dh,hob⟩:=S1.head.1.ob;refine ⟨_,rfl,bl,_,_,V.ref a1.ob,rfl,rfl,bO.of S1.br.lst,at_of (j:=0) rfl rfl,a1.ob,dh,_,rfl,hob,yP _ _ _ _ (by decide +kernel) (by decide +kernel) (by decide +kernel) (by decide +kernel),_,rfl,?_⟩;refine ⟨a1,F1,b,A1,p,{ B with ns:=mR },rfl,S1.pair Ae (by omega),fun A2 vs2 bl2 QV H2 Zu bk2 g2 hv2 nd2 abZ ab0 aej k2=>?_⟩;have wU:=S1.facts.1;unfold eZ.lists at wU;simp only [List.nodup_cons,List.mem_cons,List.not_mem_nil,or_false,not_or] at wU;have W5:H1' a1.fl≠none:=by rw [S1.head.1.fs];simp
    have S2:=S1.swap (a':={ a1 with bl:=bl2,pl:=QV }) (ns':=cu B.P mR F1) rfl k2 Zu bk2 g2 (fun y hy=>by
      simp only [eZ.lists,List.mem_cons,List.not_mem_nil,or_false];rcases hv2 y hy with e | e
      ·exact .inr (.inr e)
      ·exact .inr (.inl e)) (fun y hy=>by
      simp only [eZ.lists,List.mem_cons,List.not_mem_nil,or_false] at hy;rcases hy with rfl | rfl | rfl
      ·refine .inl ⟨by simp [eZ.lists],fun z=>?_⟩;rcases hv2 _ z with e | e
       ·exact wU.1.2 e
       ·exact wU.1.1 e
      ·exact .inr abZ
      ·exact .inr ab0) (by
      simp only [eZ.lists,List.nodup_cons,List.mem_cons,List.not_mem_nil,or_false,not_or,not_false_eq_true,List.nodup_nil,and_true];exact ⟨⟨fun z=>W5 (by rw [z];exact abZ),fun z=>W5 (by rw [z];exact ab0)⟩,aej⟩)
    have eff:bW B.P mR F1=⟨0,[nq B.P mR F1],[],[]⟩:=by
     unfold bW;rw [h0,hfs];rfl
    have fs2:H2 a1.fl=some (.lst (nV (bW B.P mR F1).fs)):=Zu.fs;rw [eff] at fs2;obtain ⟨dh2,aek⟩:=Zu.ob;refine ⟨_,rfl,bl,_,_,V.ref a1.ob,rfl,rfl,bO.of S2.br.lst,at_of (j:=0) rfl rfl,a1.ob,cs.dG,dh2,_,_,rfl,aek,wA,GQ _ (by simp),ig _ _ _ _,a1.fl,_,_,V.int ((nq B.P mR F1:Nat):Int),rfl,rfl,bO.of fs2,at_of (j:=0) rfl rfl,?_⟩;have ps2:=ps1.ef Ao;rw [eff] at ps2;have Zy:=Ae.ef (P:=B.P) Ao (by omega);have sim:=S2.sim co Rb;refine kq H2 i1 A2 _ _ t1 S2.rd bk2 sim (by rw [←sim.1];exact S2.kp) ps2 ⟨Nat.le_trans (Nat.le_add_right _ _) Zy.le,Zy.wi,by simp⟩ hlt1 ht1 (e1.trans (Zw ps1 Ao ht1 abY n38))
end
end Pg
end
section
set_option linter.all false
set_option maxRecDepth 100000
set_option maxHeartbeats 4000000
namespace Pg
open PySem L2 Xc Sp Rb35
theorem bN.Mv {cs:Cs}{H H':Hp}{r lt:Addr}{as:List Addr}{T:List PT}{i:Nat}{F:List Addr} (R:bN cs H r lt as T i) (k:Kp F H H') (hF:∀ x∈F,x≠lt∧∀ C dx fs,H x≠some (.ins C dx fs)):bN cs H' r lt as T i:=by
 obtain ⟨dx,ob⟩:=R.ob;refine ⟨⟨dx,k _ _ ob fun z=>(hF _ z).2 _ _ _ ob⟩,k _ _ R.tk.lst fun z=>(hF _ z).1 rfl,R.tk.len,fun j a t h1 h2=>?_⟩;obtain ⟨dy,ha⟩:=R.tk.at_ j a t h1 h2;exact ⟨dy,k _ _ ha fun z=>(hF _ z).2 _ _ _ ha⟩
theorem aV.read {cs:Cs} (co:tX cs) {H H':Hp}{r lt b:Addr}{as:List Addr}{T:List PT}{i:Nat}{A:dY}{p:Nat}{B:Bk} (Rb:aV cs H b A p B) (R:bN cs H r lt as T i) (k:Kp [r] H H'):aV cs H' b A p B:=by
 obtain ⟨dx,ob⟩:=R.ob;refine Rb.keep k fun x hx=>?_;simp only [List.mem_cons,List.not_mem_nil,or_false] at hx;subst hx;exact .inr ⟨_,_,_,ob,co.rb,co.rn⟩
theorem nM:bQ (ascii "field")=.name (ascii "field"):=rfl
theorem Du:bQ (ascii "who")=.name (ascii "who"):=rfl
theorem Dv:bQ (ascii "let")=.name (ascii "let"):=rfl
section
variable {T:List PT}{i:Nat}{t u v:PT}
theorem ab1 (ht:T[i]?=some t) (h:¬ t.1=ascii "field"):Rb35.field (tk T i)=.error t.2:=by
 unfold Rb35.field;rw [oU nM ht,decide_eq_false h,if_pos rfl,jC ht]
theorem ZC (ht:T[i]?=some t) (h:t.1=ascii "field") (hu:T[i+1]?=some u) (h2:¬ (kindS u.1="number"∧(decide (valueOf u.1≤251)&&prime (valueOf u.1))=true)):Rb35.field (tk T i)=.error u.2:=by
 unfold Rb35.field;rw [oU nM ht,decide_eq_true h,if_neg (by decide),qM nM ht h];show (match tk T (i+1) with | (.num p,k)::r=>_ | u=>_)=_;rw [gD hu];cases q:bQ u.1 with
 | num n=>
  by_cases hk:kindS u.1="number"
  ·have e:=(jD hk).1;rw [q] at e;injection e with e
   show (if (decide (n≤251)&&prime n)=true then _ else _)=_;rw [if_neg (by rw [e];exact fun z=>h2 ⟨hk,z⟩)]
  ·exact absurd q (tY hk)
 | name b=>rfl
 | sign b=>rfl
 | bad=>rfl
 | ended=>rfl
theorem T3 (ht:T[i]?=some t) (h:t.1=ascii "field") (hu:T[i+1]?=some u) (h2:kindS u.1="number"∧(decide (valueOf u.1≤251)&&prime (valueOf u.1))=true):Rb35.field (tk T i)=(take_ 59 (tk T (i+2))).map fun z=>(valueOf u.1,z):=by
 unfold Rb35.field;rw [oU nM ht,decide_eq_true h,if_neg (by decide),qM nM ht h];show (match tk T (i+1) with | (.num p,k)::r=>_ | u=>_)=_;rw [gD hu,(jD h2.1).1];show (if (decide (valueOf u.1≤251)&&prime (valueOf u.1))=true then _ else _)=_;rw [if_pos h2.2]
end
def GZ (cs:Cs):Sp:=fun vs H Q E=>∃ (r lt:Addr) (as:List Addr) (T:List PT) (i:Nat) (t:PT),vs=[.ref r]∧bN cs H r lt as T i∧QW T∧T[i]?=some t ∧
 (∀ (H':Hp) (p j:Nat) (u:PT),Rb35.field (tk T i)=.ok (p,tk T j)→bN cs H' r lt as T j→Kp [r] H H'→T[j]?=some u→i < j→Q (.int (p:Int)) H')∧(∀ k,Rb35.field (tk T i)=.error k→uE E cs.cst (-100-(k:Int)))
def fK (t:Toks):Except Nat (Known×Toks):=if isKey "who" t=false then .error (placeOf t) else (g8 ⟨[],[]⟩ (t.drop 1)).bind fun y=>(take_ 59 y.2).map fun r=>(y.1,r)
def Hf (l:List Bytes) (t:Toks):Except Nat (Known×Toks):=(if is_ 44 t=true then g8 ⟨l,[]⟩ (t.drop 1) else .ok (⟨l,[]⟩,t)).bind fun y=>(take_ 59 y.2).map fun r=>(y.1,r)
def Hg (cs:Cs):Sp:=fun vs H Q E=>∃ (r lt:Addr) (as:List Addr) (T:List PT) (i:Nat) (b:Addr) (A:dY) (p:Nat) (t:PT),vs=[.ref r,.ref b]∧bN cs H r lt as T i∧aV cs H b A p ⟨[],[],[]⟩∧lt≠A.pa∧QW T∧T[i]?=some t ∧
 (∀ (H':Hp) (l:List Bytes) (j:Nat) (u:PT),fK (tk T i)=.ok (⟨l,[]⟩,tk T j)→bN cs H' r lt as T j→aV cs H' b A p ⟨l,[],[]⟩→Kp [r,A.pa,A.ma] H H'→T[j]?=some u→i < j→l.length≤j→Q .non H')∧(∀ k,fK (tk T i)=.error k→uE E cs.cst (-100-(k:Int)))
def PeI (cs:Cs) (H0:Hp) (r lt:Addr) (as:List Addr) (T:List PT) (i:Nat) (b:Addr) (A:dY) (p:Nat):L2.St→Hp→Prop:=fun σ H'=>
 ∃ (l:List Bytes) (j:Nat) (u:PT),σ=[some (.ref r),some (.ref b)]∧bN cs H' r lt as T j∧aV cs H' b A p ⟨l,[],[]⟩∧Kp [r,A.pa,A.ma] H0 H'∧T[j]?=some u∧i < j∧l.length≤j∧fK (tk T i)=Hf l (tk T j)
section
variable {P:Program}{w:World}{K:PySem.W.Frag}{mg:Str→Option Value}{base:Heap}{cs:Cs}
theorem BP:aH ["reader","prime"] ["reader"] (au mL):=⟨rfl,rfl,rfl,by decide +kernel,rfl,by decide +kernel,by decide +kernel⟩
theorem PL (T:bJ K mg "read_field" mL) (cl:Cls K cs.cB) (TW:bw P w K mg base 5 cs.cB "take_written" ["self","word"] (kh cs)) (PR:bw P w K mg base 5 cs.cB "take_prime" ["self"] (MK cs)) :
  aX P w K mg base 6 "read_field" ["reader"] (GZ cs):=by
 obtain ⟨f,fd,F,hm⟩:=T.ex;refine ⟨f,fd,hm,F.kp,F.binds (fun _ _ _ _ _ _ us hl=>match us,hl with | [_],_=>rfl),Bs F BP (fun vs H Q E h=>?_) (fun cdv A outer s H vs Q E hr h=>?_)⟩
 ·obtain ⟨r,lt,as,T,i,t,rfl,_⟩:=h;rfl
 ·obtain ⟨r,lt,as,T,i,t,rfl,R,tok,ht,kq,kx⟩:=h;refine ⟨_,aq (aN (bK (pv 0) cl TW hr bh (aj cR aA))) (aq (aZ (i:=1) BP.nd rfl (Or.inl rfl) (dR (pv 0) cl PR hr bh)) (aq (aN (bK (pv 0) cl TW hr bh (aj cR aA))) (aC (bf (pv 1))))),?_⟩;refine cC rfl R (by decide +kernel) (by decide +kernel) ?_;refine ⟨r,lt,as,T,i,t,_,rfl,R,ht,fun hq H1 R1 k1=>?_,fun hq=>kx _ (ab1 ht fun z=>hq ((nJ GP).mpr z))⟩;have h1:=(nJ GP).mp hq;obtain ⟨u,hu⟩:=tok.next i t ht (by rw [h1];decide);refine cC rfl R1 (by decide +kernel) (by decide +kernel) ?_;refine ⟨r,lt,as,T,i+1,u,rfl,R1,tok,hu,fun h2 H2 R2 k2=>?_,fun h2=>kx _ (ZC ht h1 hu h2)⟩;obtain ⟨v,hv⟩:=tok.next (i+1) u hu (fun z=>by have:=h2.1;rw [z] at this;exact absurd this (by decide +kernel));refine cC rfl R2 (by decide +kernel) (by decide +kernel) ?_;refine ⟨r,lt,as,T,i+2,v,_,rfl,R2,hv,fun h3 H3 R3 k3=>?_,fun h3=>kx v.2 ?_⟩
  ·have X8:=(nJ Bw).mp h3;obtain ⟨y,hy⟩:=tok.next (i+2) v hv (by rw [X8];simp);refine ⟨_,rfl,kq H3 (valueOf u.1) (i+3) y ?_ R3 (k1.trans (k2.trans k3)) hy (by omega)⟩;rw [T3 ht h1 hu h2,tZ (by decide) hv X8];rfl
  ·rw [T3 ht h1 hu h2,qN (by decide) hv fun z=>h3 ((nJ Bw).mpr z)];rfl
theorem PN:aH ["reader","book"] ["reader","book"] (au kZ):=⟨rfl,rfl,rfl,by decide +kernel,rfl,by decide +kernel,by decide +kernel⟩
theorem ZD {l:List Bytes}{T:List PT}{j:Nat}{u:PT} (hu:T[j]?=some u):(g8 ⟨l,[]⟩ (tk T j)).bind (fun y=>(take_ 59 y.2).map fun r=>(y.1,r)) =
  if kindS u.1="name"∧(lK (wX (⟨l,[],[]⟩:Bk).names) (Sum.inr (bR u.1))).isSome=false then Hf (l++[u.1]) (tk T (j+1)) else .error u.2:=by
 have kn:knows ⟨l,[]⟩ u.1=(look (⟨l,[],[]⟩:Bk).names u.1).isSome:=Bk.yM ⟨l,[],[]⟩ u.1;have hv:(lK (wX (⟨l,[],[]⟩:Bk).names) (Sum.inr (bR u.1))).isSome=knows ⟨l,[]⟩ u.1:=by
  rw [uc,kn];cases look (⟨l,[],[]⟩:Bk).names u.1 <;> rfl
 rw [hv,JD];by_cases h:kindS u.1="name"∧knows ⟨l,[]⟩ u.1=false
 ·rw [if_pos h,Mz hu h.1 h.2];rfl
 ·rw [if_neg h,S9 hu h];rfl
theorem PX (co:tX cs) (T:bJ K mg "read_people" kZ) (cl:Cls K cs.cB) (qK:Cls K cs.tok) (qL:cF K cs.tok ["kind","word","place"]) (gO:Cls K cs.boo) (naB:cF K cs.boo ["prime","people","nodes","lets","names"])
  (NW:bw P w K mg base 1 cs.cB "now" ["self"] (mj cs)) (TW:bw P w K mg base 5 cs.cB "take_written" ["self","word"] (kh cs)) (NN:bw P w K mg base 5 cs.cB "take_new_name" ["self","names"] (vh cs false)) (AP:bw P w K mg base 1 cs.boo "add_person" ["self","name"] (qg cs)) :
  aX P w K mg base 6 "read_people" ["reader","book"] (Hg cs):=by
 obtain ⟨f,fd,F,hm⟩:=T.ex;refine ⟨f,fd,hm,F.kp,F.binds (fun _ _ _ _ _ _ us hl=>match us,hl with | [_,_],_=>rfl),Bs F PN (fun vs H Q E h=>?_) (fun cdv A outer s H vs Q E hr h=>?_)⟩
 ·obtain ⟨r,lt,as,T,i,b,A,p,t,rfl,_⟩:=h;rfl
 ·obtain ⟨r,lt,as,T,i,b,Ad,p,t,rfl,R,Rb,hlt,tok,ht,kq,kx⟩:=h;refine ⟨_,aq (aN (bK (pv 0) cl TW hr bh (aj cR aA)))
   (aq (aN (bK (pv 1) gO (AP.mono (by decide:1≤5)) hr aG (aj (bK (pv 0) cl NN hr bh (aj (aM (pv 1) rfl) aA)) aA)))
   (aq (gU PassesOwn.leaving (aQ gV (aM (dR (pv 0) cl (NW.mono (by decide:1≤5)) hr aG) rfl) cR (aY _))
    (aq (aN (bK (pv 0) cl TW hr bh (aj cR aA))) (aC (aN (bK (pv 1) gO (AP.mono (by decide:1≤5)) hr aG (aj (bK (pv 0) cl NN hr bh (aj (aM (pv 1) rfl) aA)) aA))))))
   (aC (aN (bK (pv 0) cl TW hr bh (aj cR aA)))))),?_⟩
  have hTl:=tok.few;have add:∀ (l:List Bytes) (j:Nat) (u:PT) (H1:Hp) (D:Ends),bN cs H1 r lt as T j→aV cs H1 b Ad p ⟨l,[],[]⟩→Kp [r,Ad.pa,Ad.ma] H H1→T[j]?=some u→i < j→l.length≤j→fK (tk T i)=((g8 ⟨l,[]⟩ (tk T j)).bind fun y=>(take_ 59 y.2).map fun r=>(y.1,r)) →
    (∀ H2 v,bN cs H2 r lt as T (j+1)→aV cs H2 b Ad p ⟨l++[u.1],[],[]⟩→Kp [r,Ad.pa,Ad.ma] H H2→T[j+1]?=some v→fK (tk T i)=Hf (l++[u.1]) (tk T (j+1))→D.nx [some (.ref r),some (.ref b)] H2) →
    Q6 (tH cs.boo "add_person" (qg cs) [] E0 (xH 1) (Ep (tH cs.cB "take_new_name" (vh cs false) [] E (xH 0) (Ep (Ri K (xH 1) "names") uL)) uL)) D [some (.ref r),some (.ref b)] H1:=by
   intro l j u H1 D R1 ZF k1 hu hij hlj e1 fin;obtain ⟨db,ob⟩:=ZF.ob;have hpn:=ZD (l:=l) hu;refine ⟨_,rfl,b,db,_,rfl,ob,oA _ _ _ _ _ (by decide +kernel) (by decide +kernel) (by decide +kernel) (by decide +kernel) (by decide +kernel),?_⟩;refine cC rfl R1 (by decide +kernel) (by decide +kernel) ?_;refine ⟨_,rfl,b,cs.boo,db,_,_,rfl,ob,gO,naB _ (by simp),j9 _ _ _ _ _,?_⟩;refine ⟨r,lt,as,T,j,u,Ad.ma,wX (⟨l,[],[]⟩:Bk).names,rfl,R1,hu,ZF.names,fun hq H2 R2 k2=>?_,fun hq=>?_⟩
   ·rw [if_pos hq] at hpn;have Yb:=ZF.read co R1 k2;have hlook:look (⟨l,[],[]⟩:Bk).names u.1=none:=by
     have:=hq.2;rw [uc] at this;cases q:look (⟨l,[],[]⟩:Bk).names u.1 with
     | none=>rfl
     | some z=>rw [q] at this;cases this
    have hjl:=(List.getElem?_eq_some_iff.mp hu).1;refine ⟨b,u.1,Ad,p,⟨l,[],[]⟩,rfl,Yb,hlook,rfl,by show l.length < 50000;omega,fun H3 Rb3 k3=>?_⟩;obtain ⟨v,hv⟩:=tok.next j u hu (fun z=>by have:=hq.1;rw [z] at this;exact absurd this (by decide +kernel));have R3:=R2.Mv k3 fun x hx=>by
     simp only [List.mem_cons,List.not_mem_nil,or_false] at hx;rcases hx with rfl | rfl
     ·exact ⟨hlt.symm,fun C dx fs z=>by rw [Yb.people] at z;cases z⟩
     ·exact ⟨Gf Yb.names R2.tk.lst,fun C dx fs z=>by rw [Yb.names] at z;cases z⟩
    exact fin H3 v R3 Rb3 (k1.trans ((k2.mono fun x hx=>by simp at hx;simp [hx]).trans (k3.mono fun x hx=>by simp at hx ⊢;rcases hx with rfl | rfl <;> simp))) hv (e1.trans hpn)
   ·rw [if_neg hq] at hpn;exact kx _ (e1.trans hpn)
  refine cC rfl R (by decide +kernel) (by decide +kernel) ?_;refine ⟨r,lt,as,T,i,t,_,rfl,R,ht,fun hq H1 R1 k1=>?_,fun hq=>kx t.2 ?_⟩
  ·have h1:=(nJ TJ).mp hq;obtain ⟨u,hu⟩:=tok.next i t ht (by rw [h1];decide);have e0:fK (tk T i)=((g8 ⟨[],[]⟩ (tk T (i+1))).bind fun y=>(take_ 59 y.2).map fun r=>(y.1,r)):=by
    unfold fK;rw [oU Du ht,decide_eq_true h1,if_neg (by decide),qM Du ht h1];rfl
   refine add [] (i+1) u H1 _ R1 (Rb.read co R k1) (k1.mono fun x hx=>by simp at hx;simp [hx]) hu (by omega) (by simp) e0 fun H2 v R2 Yb k2 hv e2=>?_;refine lq (PeI cs H r lt as T i b Ad p) (fun _ H'=>W2 T r H') ⟨[u.1],i+2,v,rfl,R2,Yb,k2,hv,by omega,by simp,e2⟩ ?_;rintro σ H3 ⟨l,j,u3,rfl,R3,Rb3,k3,Qa,hij,hlj,e3⟩;obtain ⟨d3,ob3⟩:=R3.ob;have hjl:=(List.getElem?_eq_some_iff.mp Qa).1;refine qj qK qL rfl R3 Qa ⟨rfl,_,rfl,bV (fun hc=>?_) fun hc=>?_⟩
   ·rw [sE GK] at hc;have h44:=of_decide_eq_true hc;obtain ⟨u4,hu4⟩:=tok.next j u3 Qa (by rw [h44];simp);refine X5 ?_;refine cC rfl R3 (by decide +kernel) (by decide +kernel) ?_;refine ⟨r,lt,as,T,j,u3,_,rfl,R3,Qa,fun _ H4 R4 k4=>?_,fun hq=>absurd ((nJ GK).mpr h44) hq⟩;have e4:fK (tk T i)=((g8 ⟨l,[]⟩ (tk T (j+1))).bind fun y=>(take_ 59 y.2).map fun r=>(y.1,r)):=by
     rw [e3];unfold Hf;rw [rD (by decide) Qa,decide_eq_true h44,if_pos rfl,iG (by decide) Qa h44];rfl
    refine add l (j+1) u4 H4 _ R4 (Rb3.read co R3 k4) (k3.trans (k4.mono fun x hx=>by simp at hx;simp [hx])) hu4 (by omega) (by omega) e4 fun H5 v5 R5 W8 k5 hv5 e5=>?_;obtain ⟨d5,ob5⟩:=R5.ob;refine ⟨⟨l++[u4.1],j+2,v5,rfl,R5,W8,k5,hv5,by omega,by rw [List.length_append];simp;omega,e5⟩,?_⟩;rw [jO ob3,jO ob5];omega
   ·rw [sE GK] at hc;have h44:¬ u3.1=[44]:=fun z=>hc (decide_eq_true z);have e4:fK (tk T i)=(take_ 59 (tk T j)).map fun r=>(⟨l,[]⟩,r):=by
     rw [e3];unfold Hf;rw [rD (by decide) Qa,decide_eq_false h44,if_neg (by decide)];rfl
    refine cC rfl R3 (by decide +kernel) (by decide +kernel) ?_;refine ⟨r,lt,as,T,j,u3,_,rfl,R3,Qa,fun h3 H4 R4 k4=>?_,fun h3=>kx u3.2 ?_⟩
    ·have X8:=(nJ Bw).mp h3;obtain ⟨y,hy⟩:=tok.next j u3 Qa (by rw [X8];simp);refine kq H4 l (j+1) y ?_ R4 (Rb3.read co R3 k4) (k3.trans (k4.mono fun x hx=>by simp at hx;simp [hx])) hy (by omega) (by omega);rw [e4,tZ (by decide) Qa X8];rfl
    ·rw [e4,qN (by decide) Qa fun z=>h3 ((nJ Bw).mpr z)];rfl
  ·unfold fK;rw [oU Du ht,decide_eq_false (fun z=>hq ((nJ TJ).mpr z)),if_pos rfl,jC ht]
end
end Pg
end
section
set_option linter.all false
set_option maxRecDepth 100000
set_option maxHeartbeats 4000000
namespace Pg
open PySem L2 Xc Sp Rb35
def Aq (P:Nat) (ns:List aF):List Nat:=vP (fun _=>1) (fun _ l=>l.sum) 0 P ns
theorem Hh (P:Nat) (ns:List aF) (n:aF):Aq P (ns++[n])=Aq P ns++[(n.2.map fun i=>(Aq P ns).getD i 0).sum]:=yI _ _ _ _ _ _
theorem M7 (P:Nat):Aq P []=List.replicate P 1:=by
 unfold Aq vP;rw [List.foldl_nil]
 induction P with
 | zero=>rfl
 | succ n ih=>rw [List.range_succ,List.map_append,ih,List.replicate_succ'];rfl
theorem J7 (P:Nat) (ns:List aF):(Aq P ns).length=P+ns.length:=by
 induction ns using snocInd with
 | h0=>rw [M7,List.length_replicate];rfl
 | h1 l a ih=>rw [Hh,List.length_append,ih,List.length_append];simp;omega
theorem ZG {P:Nat}{ns:List aF} (ok:Good P ns) {i:Nat} (hi:i < P+ns.length):(Aq P ns)[i]?=some ((leaves (den P ns i)).length):=
 R9 (fun f=>(leaves f).length) (fun i=>rfl) (fun k l=>by
  show (leavesIn (jG l)).length=_;rw [cT]) ns ok hi
structure Sz (B:Bk):Prop where
 pe:B.people.length < 50000
 nd:B.ns.length < 50000
 wi:∀ n∈B.ns,n.2.length≤50000
 le:B.ls.length < 50000
section
variable {X:Cx}{K:PySem.W.Frag}{o:Expr}{f:Str}{pos:Pos}{ta:TE}
theorem Dw (hK:X.K=K) (ha:PE X o ta) (hb:attributeBase o f X.env (eval o X.env)=eval o X.env:=by rfl):PE X (.Attribute o f pos) (Ri K ta f):=hK▸aM ha hb
theorem Hi (hK:X.K=K):IxR X (aa5 K):=hK▸eE
theorem Qc (hK:X.K=K):pH X (.builtin "len") (fun xs H Q=>∃ p ys,xs=[.ref p]∧(bO K H p ys∨tD K H p ys)∧Q (.int ys.length) H):=hK▸aO
end
def Hj (cs:Cs):Sp:=fun vs H Q _=>∃ (b:Addr) (A:dY) (p:Nat) (B:Bk),vs=[.ref b]∧aV cs H b A p B∧Good B.P B.ns∧Sz B ∧
 ∀ (D:Addr) (H':Hp),H' D=some (.lst (nV (Aq B.P B.ns)))→Same H H'→Q (.ref D) H'
theorem aem (l:List Nat):(l.map fun (i:Nat)=>(i:Int)).sum=((l.sum:Nat):Int):=by
 induction l with
 | nil=>rfl
 | cons a r ih=>rw [List.map_cons,List.sum_cons,List.sum_cons,ih];omega
section
variable {P:Program}{w:World}{K:PySem.W.Frag}{mg:Str→Option Value}{base:Heap}{cs:Cs}
theorem iZ:aH ["book","places","node","person","formula"] ["book"] (au gC):=⟨rfl,rfl,rfl,by decide +kernel,rfl,by decide +kernel,by decide +kernel⟩
theorem Qe (T:bJ K mg "all_places" gC) (gO:Cls K cs.boo) (naB:cF K cs.boo ["prime","people","nodes","lets","names"]) (T4:Cls K cs.jl) (T5:cF K cs.jl ["asked","within"]) (hsum:mg "sum"=none) :
  aX P w K mg base 1 "all_places" ["book"] (Hj cs):=by
 obtain ⟨f,fd,F,hm⟩:=T.ex;refine ⟨f,fd,hm,F.kp,F.binds (fun _ _ _ _ _ _ us hl=>match us,hl with | [_],_=>rfl),okN F iZ (fun vs H Q E h=>?_) (fun cdv A outer s H vs Q E hr h=>?_)⟩
 ·obtain ⟨b,A,p,B,rfl,_⟩:=h;rfl
 ·obtain ⟨b,Ad,p,B,rfl,R,good,sz,kq⟩:=h;obtain ⟨dx,ob⟩:=R.ob;refine ⟨_,aq (aZ (i:=1) iZ.nd rfl (Or.inr rfl) (pq rfl iZ.nd (dF (aM (pv 0) rfl)) (cY (own:=[("person",3)]) (by show pQ ["book","places","node","person","formula"] (au gC) _ [("person",3)]=true;decide +kernel))
    (fun _ _ _ _ _=>bY (i:=3) iZ.nd rfl (Or.inl rfl)) (fun _ _ _ _ _=>gW) (fun _ _ _ _ _=>aR)))
   (aq (uI PassesOwn.never rfl (dF (aM (pv 0) rfl)) (bY (i:=2) iZ.nd rfl (Or.inl rfl))
    (aC (aN (ju PySem.F.plainAttrs_list PySem.F.slot_list_append PySem.F.type_list_append cD (pv 1) (aj (aU (YH rfl) (by rfl) hsum PyProof.Rows.boot_sum
     (aj (pq rfl iZ.nd (dF (aM (pv 2) rfl)) (cY (own:=[("formula",4)]) (by show pQ ["book","places","node","person","formula"] (au gC) _ [("formula",4)]=true;decide +kernel))
      (fun _ _ _ _ _=>bY (i:=4) iZ.nd rfl (Or.inl rfl)) (fun _ _ _ _ _=>gW) (fun _ _ _ _ _=>fM (Hi (K:=K) rfl) (pv 1) (pv 4) (fun _ _=>rfl))) aA)) aA)))))
    (aC (bf (pv 1)))),?_⟩
  refine ⟨_,rfl,b,cs.boo,dx,_,_,rfl,ob,gO,naB _ (by simp),fV _ _ _ _ _,Ad.pa,rfl,⟨_,bO.of R.people⟩,fun D hD=>?_⟩;refine gH (xs:=B.people.map fun x=>V.str (bR x)) (fun i H'=>H'=upd H D (.lst (nV (List.replicate i 1)))) rfl ?_ ?_ ?_
  ·rintro i H' _ rfl;exact bO.of (by rw [ak (aB R.people hD)];exact R.people)
  ·rintro i x H' hx rfl;have hi:i < B.people.length:=by have:=(List.getElem?_eq_some_iff.mp hx).1;rwa [List.length_map] at this
   refine ⟨rfl,_,ao,?_,?_⟩
   ·rw [aK,List.length_replicate];exact Nat.lt_trans (Nat.lt_trans hi sz.pe) (by decide)
   ·rw [gG,List.replicate_succ',iD];rfl
  rintro H1 rfl;have hpl:(List.replicate (B.people.map fun x=>V.str (bR x)).length 1)=Aq B.P []:=by rw [List.length_map,M7];rfl
  rw [hpl];have s0:Same H (upd H D (.lst (nV (Aq B.P [])))):=fun c o q=>by rw [ak (aB q hD)];exact q
  refine ⟨_,rfl,b,cs.boo,dx,_,_,rfl,s0 _ _ ob,gO,naB _ (by simp),nF _ _ _ _ _,Ad.na,rfl,⟨_,bO.of (s0 _ _ R.nodes)⟩,?_⟩;refine pG (xs:=Ad.nW.map fun x=>V.ref x.1) (fun i σ H'=>(∃ x y z,σ=[some (.ref b),some (.ref D),x,y,z])∧H' D=some (.lst (nV (Aq B.P (B.ns.take i))))∧Same H H') ⟨⟨_,_,_,rfl⟩,by rw [List.take_zero];exact ao,s0⟩ ?_ ?_ ?_
  ·rintro i σ H' _ ⟨_,_,s1⟩;exact bO.of (s1 _ _ R.nodes)
  ·rintro i x σ H' hx ⟨⟨x1,y1,z1,rfl⟩,hl,s1⟩;rw [List.getElem?_map] at hx;cases hq:Ad.nW[i]? with
   | none=>rw [hq] at hx;cases hx
   | some nd=>
    rw [hq] at hx;cases hx;have hi:i < B.ns.length:=by rw [←R.len];exact (List.getElem?_eq_some_iff.mp hq).1
    have hn:B.ns[i]?=some B.ns[i]:=List.getElem?_eq_getElem hi;obtain ⟨⟨dn,n1⟩,n2⟩:=R.at_ i nd B.ns[i] hq hn;have hw:=sz.wi _ (List.getElem_mem hi);have hg:=(good i _ hn).1;have ab2:(Aq B.P (B.ns.take i)).length=B.P+i:=by rw [J7,List.length_take,Nat.min_eq_left (Nat.le_of_lt hi)]
    refine ⟨_,rfl,.inl ⟨rfl,_,bO.of hl⟩,_,rfl,nd.1,cs.jl,dn,_,_,rfl,s1 _ _ n1,T4,T5 _ (by simp),ou _ _,nd.2,rfl,⟨_,bO.of (s1 _ _ n2)⟩,fun D2 hD2=>?_⟩;have ZJ:D≠D2:=aB hl hD2;refine gH (xs:=nV B.ns[i].2) (fun j H2=>H2=upd H' D2 (.lst (nV ((B.ns[i].2.take j).map fun k=>(Aq B.P (B.ns.take i)).getD k 0)))) rfl ?_ ?_ ?_
    ·rintro j H2 _ rfl;exact bO.of (by rw [ak (aB (s1 _ _ n2) hD2)];exact s1 _ _ n2)
    ·rintro j y H2 hy rfl;unfold nV at hy;rw [List.getElem?_map] at hy;cases hk:B.ns[i].2[j]? with
     | none=>rw [hk] at hy;cases hy
     | some k=>
      rw [hk] at hy;cases hy;have hkl:k < (Aq B.P (B.ns.take i)).length:=by rw [ab2];exact hg k (List.mem_of_getElem? hk)
      have hj:j < B.ns[i].2.length:=(List.getElem?_eq_some_iff.mp hk).1;refine ⟨rfl,_,rfl,_,rfl,D,_,_,V.int ((((Aq B.P (B.ns.take i)).getD k 0:Nat)):Int),rfl,rfl,bO.of (by rw [ak ZJ];exact hl),at_of (j:=k) rfl ?_,_,ao,?_,?_⟩
      ·unfold nV;rw [List.getElem?_map,List.getElem?_eq_getElem hkl,List.getD_eq_getElem?_getD,List.getElem?_eq_getElem hkl];rfl
      ·rw [aK,List.length_map,List.length_take];exact Nat.lt_of_le_of_lt (Nat.min_le_left _ _) (Nat.lt_of_lt_of_le hj (Nat.le_trans hw (by decide)))
      ·rw [gG,List.take_succ,hk];show _=upd H' D2 (.lst (nV ((B.ns[i].2.take j++[k]).map fun k=>(Aq B.P (B.ns.take i)).getD k 0)));rw [List.map_append];show _=upd H' D2 (.lst (nV ((B.ns[i].2.take j).map (fun k=>(Aq B.P (B.ns.take i)).getD k 0)++[(Aq B.P (B.ns.take i)).getD k 0])));rw [iD]
    ·rintro H2 rfl;rw [aK,List.take_length];refine ⟨D2,(B.ns[i].2.map fun k=>(Aq B.P (B.ns.take i)).getD k 0).map fun (i:Nat)=>(i:Int),rfl,bO.of (by
      rw [ao];unfold nV;simp only [List.map_map];rfl),?_⟩
     refine ⟨D,_,_,rfl,rfl,by rw [ak ZJ];exact hl,?_,?_⟩
     ·rw [aK,ab2];have h1:=sz.pe;have h2:=sz.nd;have h3:B.P=B.people.length:=rfl;exact Nat.lt_trans (show B.P+i < 100000 by omega) bL
     ·refine ⟨⟨_,_,_,rfl⟩,?_,fun c o q=>?_⟩
      ·rw [ao,List.take_succ,hn];show _=some (HO.lst (nV (Aq B.P (B.ns.take i++[B.ns[i]]))));rw [Hh,iD,aem]
      ·have q1:=s1 c o q;rw [ak (aB q hD),ak (aB q1 hD2)];exact q1
  ·rintro σ H' ⟨⟨x1,y1,z1,rfl⟩,hl,s1⟩;rw [List.length_map,R.len,List.take_length] at hl;exact ⟨_,rfl,kq D H' hl s1⟩
def Hl (cs:Cs):Sp:=fun vs H Q E=>∃ (b:Addr) (A:dY) (p:Nat) (B:Bk),vs=[.ref b]∧aV cs H b A p B∧B.Ok∧Sz B ∧
 (small ⟨p,B.people,B.known.lets⟩=true→∀ H',Same H H'→Q .non H')∧(¬ small ⟨p,B.people,B.known.lets⟩=true→uE E cs.pF (-5))
theorem kj:aH ["book","places","node","formula"] ["book"] (au fW):=⟨rfl,rfl,rfl,by decide +kernel,rfl,by decide +kernel,by decide +kernel⟩
theorem Qg (T:bJ K mg "keep_limits" fW) (gO:Cls K cs.boo) (naB:cF K cs.boo ["prime","people","nodes","lets","names"]) (T4:Cls K cs.jl) (T5:cF K cs.jl ["asked","within"]) (hlen:mg "len"=none) (hany:mg "any"=none)
  (hP:∃ t,mg "MOST_PEOPLE"=some (.int 10 t)) (hL:∃ t,mg "MOST_LETS"=some (.int 16 t)) (hM:∃ t,mg "MOST_PLACES"=some (.int 24 t))
  (AP:aX P w K mg base 1 "all_places" ["book"] (Hj cs)) (OV:rC P w K mg base 2 "OverLimit" cs.pF ["self"] (mO K cs.pF (-5))) :
  aX P w K mg base 4 "keep_limits" ["book"] (Hl cs):=by
 obtain ⟨f,fd,F,hm⟩:=T.ex;obtain ⟨fC,fdC,JV,MC,bC,GC⟩:=OV.ex;obtain ⟨tp,hP⟩:=hP;obtain ⟨tl',hL⟩:=hL;obtain ⟨tm,hM⟩:=hM;refine ⟨f,fd,hm,F.kp,F.binds (fun _ _ _ _ _ _ us hl=>match us,hl with | [_],_=>rfl),Bs F kj (fun vs H Q E h=>?_) (fun cdv A outer s H vs Q E hr h=>?_)⟩
 ·obtain ⟨b,A,p,B,rfl,_⟩:=h;rfl
 ·obtain ⟨b,Ad,p,B,rfl,R,ok,sz,kq,kx⟩:=h;obtain ⟨dx,ob⟩:=R.ob;refine ⟨_,aq (dD (Ba (aQ tG (aU aO (by rfl) hlen PySem.boot_len (aj (aM (pv 0) rfl) aA)) (bF (v:=.int 10) (by rfl) hP ⟨tp,rfl⟩) (aY _))
    (uG (aQ tG (aU aO (by rfl) hlen PySem.boot_len (aj (aM (pv 0) rfl) aA)) (bF (v:=.int 16) (by rfl) hL ⟨tl',rfl⟩) (aY _)))).pt (aC (iU MC GC hr bC rfl JV)) bU)
   (aq (dD (mD (aU (CP rfl) (by rfl) hany PyProof.Rows.boot_any (aj (pq rfl kj.nd (dF (aM (pv 0) rfl)) (cY (own:=[("node",2)]) (by show pQ ["book","places","node","formula"] (au fW) _ [("node",2)]=true;decide +kernel))
    (fun _ _ _ _ _=>bY (i:=2) kj.nd rfl (Or.inl rfl)) (fun _ _ _ _ _=>gW) (fun _ _ _ _ _=>d9 Eo (aU (Qc (K:=K) rfl) (by rfl) hlen PySem.boot_len (aj (Dw (K:=K) rfl (pv 2)) aA)) (Dw (K:=K) rfl (pv 0)) (aY _))) aA))) (aC (iU MC GC hr bC rfl JV)) bU)
   (aq (aZ (i:=1) kj.nd rfl (Or.inr rfl) (bM (AP.mono (by decide:1≤3)) hr rfl aG (aj (pv 0) aA)))
   (aC (dD (mD (aU (CP rfl) (by rfl) hany PyProof.Rows.boot_any (aj (pq rfl kj.nd (dF (aM (pv 0) rfl)) (cY (own:=[("formula",3)]) (by show pQ ["book","places","node","formula"] (au fW) _ [("formula",3)]=true;decide +kernel))
    (fun _ _ _ _ _=>bY (i:=3) kj.nd rfl (Or.inl rfl)) (fun _ _ _ _ _=>gW) (fun _ _ _ _ _=>d9 tG (fM (Hi (K:=K) rfl) (pv 1) (pv 3) (fun _ _=>rfl)) (bF (v:=.int 24) (by rfl) hM ⟨tm,rfl⟩) (aY _))) aA))) (aC (iU MC GC hr bC rfl JV)) bU)))),?_⟩
  have T6:=Bp ok p;have thr:∀ (H1:Hp),¬ small ⟨p,B.people,B.known.lets⟩=true→yD cs.pF (mO K cs.pF (-5)) E uL { nx:=fun _ H'=>Q .non H',rt:=Q } [] H1:=fun H1 hn=>
   ⟨Nat.zero_le _,fun x hx=>⟨x,rfl,ao,fun dy H' h1 h2 h3 h4=>⟨rfl,x,dy,rfl,h1,by
    have hdx:dy≠x:=fun z=>by rw [z,ao] at h3;cases h3
    exact kx hn dy _ (by rw [fO hdx];exact h2)⟩⟩⟩
  refine ⟨_,rfl,b,cs.boo,dx,_,_,rfl,ob,gO,naB _ (by simp),fV _ _ _ _ _,_,_,rfl,.inl (bO.of R.people),_,_,rfl,rfl,_,rfl,bV (fun hc=>?_) fun hc=>?_⟩
  ·have h1:(10:Int) < ((B.people.map fun x=>V.str (bR x)).length:Int):=of_decide_eq_true hc;rw [List.length_map] at h1;refine CZ ?_;exact thr _ fun z=>by have:=(T6.mp z).1;omega
  have h1:¬ (10:Int) < ((B.people.map fun x=>V.str (bR x)).length:Int):=fun z=>hc (decide_eq_true z);rw [List.length_map] at h1;refine ⟨_,rfl,b,cs.boo,dx,_,_,rfl,ob,gO,naB _ (by simp),qb _ _ _ _ _,_,_,rfl,.inl (bO.of R.lets),_,_,rfl,rfl,_,rfl,bV (fun hc=>?_) fun hc=>?_⟩
  ·have h2:(16:Int) < ((nV (B.ls.map (·.2))).length:Int):=of_decide_eq_true hc;rw [aK,List.length_map] at h2;exact thr _ fun z=>by have:=(T6.mp z).2.1;omega
  have h2:¬ (16:Int) < ((nV (B.ls.map (·.2))).length:Int):=fun z=>hc (decide_eq_true z);rw [aK,List.length_map] at h2;refine ⟨_,rfl,b,cs.boo,dx,_,_,rfl,ob,gO,naB _ (by simp),nF _ _ _ _ _,Ad.na,rfl,⟨_,bO.of R.nodes⟩,fun D hD=>?_⟩;have s0:∀ xs,Same H (upd H D (.lst xs)):=fun xs c o q=>by rw [ak (aB q hD)];exact q
  refine gH (xs:=Ad.nW.map fun x=>V.ref x.1) (fun i H'=>H'=upd H D (.lst (((B.ns.take i).map fun n=>decide ((p:Int)≤(n.2.length:Int))).map V.bl))) rfl ?_ ?_ ?_
  ·rintro i H' _ rfl;exact bO.of (s0 _ _ _ R.nodes)
  ·rintro i x H' hx rfl;rw [List.getElem?_map] at hx;cases hq:Ad.nW[i]? with
   | none=>rw [hq] at hx;cases hx
   | some nd=>
    rw [hq] at hx;cases hx;have hi:i < B.ns.length:=by rw [←R.len];exact (List.getElem?_eq_some_iff.mp hq).1
    have hn:B.ns[i]?=some B.ns[i]:=List.getElem?_eq_getElem hi;obtain ⟨⟨dn,n1⟩,n2⟩:=R.at_ i nd B.ns[i] hq hn;refine ⟨rfl,_,rfl,nd.1,cs.jl,dn,_,_,rfl,s0 _ _ _ n1,T4,T5 _ (by simp),ou _ _,_,_,rfl,.inl (bO.of (s0 _ _ _ n2)),_,rfl,b,cs.boo,dx,_,_,rfl,s0 _ _ _ ob,gO,naB _ (by simp),u0 _ _ _ _ _,_,_,rfl,rfl,_,ao,?_,?_⟩
    ·rw [List.length_map,List.length_map,List.length_take];exact Nat.lt_of_le_of_lt (Nat.min_le_left _ _) (Nat.lt_trans (Nat.lt_trans hi sz.nd) (by decide))
    ·rw [gG,List.take_succ,hn,aK];show _=upd H D (.lst (((B.ns.take i++[B.ns[i]]).map _).map V.bl));rw [List.map_append,List.map_append];rfl
  rintro H1 rfl;rw [List.length_map,R.len,List.take_length];refine ⟨D,_,rfl,bO.of ao,_,rfl,bV (fun hc=>?_) fun hc=>?_⟩
  ·refine thr _ fun z=>?_;obtain ⟨x,hx,hx2⟩:=List.any_eq_true.mp hc;obtain ⟨n,hn,rfl⟩:=List.mem_map.mp hx;have h3:(p:Int)≤(n.2.length:Int):=of_decide_eq_true hx2;have:=(T6.mp z).2.2.1 n hn;omega
  have nar:Narrow p B.ns:=fun n hn=>by
   refine Nat.lt_of_not_le fun z=>hc (List.any_eq_true.mpr ⟨_,List.mem_map.mpr ⟨n,hn,rfl⟩,?_⟩);exact decide_eq_true (by omega)
  refine ⟨_,rfl,b,Ad,p,B,rfl,R.keep (Kp.same (s0 _) []) (fun x hx=>by simp at hx),ok.good,sz,fun D1 H2 hD1 s1=>?_⟩;have s2:Same H H2:=(s0 _).trans s1;refine ⟨_,rfl,b,cs.boo,dx,_,_,rfl,s2 _ _ ob,gO,naB _ (by simp),qb _ _ _ _ _,Ad.la,rfl,⟨_,bO.of (s2 _ _ R.lets)⟩,fun D2 hD2=>?_⟩;have s3:∀ xs,Same H2 (upd H2 D2 (.lst xs)):=fun xs c o q=>by rw [ak (aB q hD2)];exact q
  have atp:∀ k,k∈B.ls.map (·.2)→(Aq B.P B.ns)[k]?=some ((leaves (den B.P B.ns k)).length):=fun k hk=>by
   obtain ⟨x,hx,rfl⟩:=List.mem_map.mp hk;exact ZG ok.good (ok.lt x hx)
  refine gH (xs:=nV (B.ls.map (·.2))) (fun i H'=>H'=upd H2 D2 (.lst ((((B.ls.map (·.2)).take i).map fun k=>decide ((24:Int) < ((leaves (den B.P B.ns k)).length:Int))).map V.bl))) rfl ?_ ?_ ?_
  ·rintro i H' _ rfl;exact bO.of (s3 _ _ _ (s2 _ _ R.lets))
  ·rintro i x H' hx rfl;unfold nV at hx;rw [List.getElem?_map] at hx;cases hk:(B.ls.map (·.2))[i]? with
   | none=>rw [hk] at hx;cases hx
   | some k=>
    rw [hk] at hx;cases hx;have hi:i < (B.ls.map (·.2)).length:=(List.getElem?_eq_some_iff.mp hk).1;refine ⟨rfl,_,rfl,_,rfl,D1,_,_,V.int (((leaves (den B.P B.ns k)).length:Nat):Int),rfl,rfl,bO.of (s3 _ _ _ hD1),at_of (j:=k) rfl ?_,_,_,rfl,rfl,_,ao,?_,?_⟩
    ·unfold nV;rw [List.getElem?_map,atp k (List.mem_of_getElem? hk)];rfl
    ·rw [List.length_map,List.length_map,List.length_take];rw [List.length_map] at hi;exact Nat.lt_of_le_of_lt (Nat.min_le_left _ _) (Nat.lt_trans (Nat.lt_trans hi sz.le) (by decide))
    ·rw [gG,List.take_succ,hk];show _=upd H2 D2 (.lst ((((B.ls.map (·.2)).take i++[k]).map _).map V.bl));rw [List.map_append,List.map_append];rfl
  rintro H3 rfl;rw [aK,List.take_length];refine ⟨D2,_,rfl,bO.of ao,_,rfl,bV (fun hc=>?_) fun hc=>?_⟩
  ·refine thr _ fun z=>?_;obtain ⟨x,hx,hx2⟩:=List.any_eq_true.mp hc;obtain ⟨k,hk,rfl⟩:=List.mem_map.mp hx;obtain ⟨y,hy,rfl⟩:=List.mem_map.mp hk;have h3:(24:Int) < ((leaves (den B.P B.ns y.2)).length:Int):=of_decide_eq_true hx2;have:=(T6.mp z).2.2.2 y hy;omega
  ·refine kq (T6.mpr ⟨by omega,by omega,nar,fun x hx=>Nat.le_of_not_lt fun z=>hc (List.any_eq_true.mpr ⟨_,List.mem_map.mpr ⟨x.2,List.mem_map.mpr ⟨x,hx,rfl⟩,rfl⟩,?_⟩)⟩) _ (s2.trans (s3 _));exact decide_eq_true (by omega)
end
end Pg
end
section
set_option linter.all false
set_option maxRecDepth 100000
set_option maxHeartbeats 4000000
namespace Pg
open PySem L2 Xc Sp Rb35
theorem ZK {x:Str}{g:TG}{tt:TT}{te:TE}{vs:List Nat}{σ:L2.St}{H1:Hp}{D:Addr}{Qd:Hp→Prop} (Pv:Nat→Hp→Prop) (h0:Pv 0 (upd H1 D (.lst [])))
  (hs:∀ i c H,x.cps.toList[i]?=some c→Pv i H→g (.str ⟨#[c]⟩) (wipe σ vs) H fun σ2 H2=>wipe σ2 vs=wipe σ vs∧tt σ2 H2 fun b H3=>
   if b=true then te σ2 H3 fun y H4=>∃ acc,H4 D=some (.lst acc)∧acc.length < sizeLine∧Pv (i+1) (upd H4 D (.lst (acc++[y]))) else Pv (i+1) H3) (hd:∀ H,Pv x.cps.toList.length H→Qd H) :
  ∃ W:Nat→Nat→Hp→Prop,(∃ m,W 0 m (upd H1 D (.lst [])))∧∀ i m H,W i m H →
   ((Its x).stop i H∧Qd H)∨((Its x).go i H∧∃ Nx:Hp→Prop,(∀ H',Nx H'→∃ m',m' < m∧W (i+1) m' H')∧∀ y H',(Its x).VL i H y H'→g y (wipe σ vs) H' fun σ2 H2=>wipe σ2 vs=wipe σ vs∧tt σ2 H2 fun b H3=>
    if b=true then te σ2 H3 fun y H4=>∃ acc,H4 D=some (.lst acc)∧acc.length < sizeLine∧Nx (upd H4 D (.lst (acc++[y]))) else Nx H3):=by
 have hl:x.cps.toList.length=x.cps.size:=Array.length_toList;refine ⟨fun i m H=>m=x.cps.toList.length-i∧i≤x.cps.toList.length∧Pv i H,⟨x.cps.toList.length,by simp,Nat.zero_le _,h0⟩,?_⟩;rintro i m H ⟨rfl,hi,p⟩;by_cases hlt:i < x.cps.toList.length
 ·refine .inr ⟨by show i < x.cps.size;omega,Pv (i+1),fun H' p'=>⟨x.cps.toList.length-(i+1),by omega,rfl,hlt,p'⟩,fun y H' q=>?_⟩;obtain ⟨e,c,hc,rfl⟩:=q;subst e;exact hs i c _ (by rw [←hc];simp) p
 ·have e:i=x.cps.toList.length:=by omega
  subst e;exact .inl ⟨by show x.cps.size≤_;omega,hd H p⟩
def ZL:Str:=("abcdefghijklmnopqrstuvwxyz0123456789_":Str)++("(),;=&|#\n":Str)
def Dy:List Nat:=List.range' 97 26++(List.range' 48 10++[95])++[40,41,44,59,61,38,124,35,10]
theorem M8:ZL.cps.toList=Dy:=by decide +kernel
def Qh (c:Nat):Key×V:=(Sum.inl (c:Int),V.str ⟨#[c]⟩)
def blanks (d:List (Key×V)) (l:List Int):List (Key×V):=l.foldl (fun d b=>putK d (Sum.inl b) (V.str " ")) d
theorem J8 (d:List (Key×V)):blanks d []=d:=rfl
theorem Ho (d:List (Key×V)) (l:List Int) (b:Int):blanks d (l++[b])=putK (blanks d l) (Sum.inl b) (V.str " "):=by
 unfold blanks;rw [List.foldl_append];rfl
theorem zq:∀ (l:List Int) (d:List (Key×V)),(blanks d l).length≤d.length+l.length
 | [],d=>Nat.le_refl _
 | a::r,d=>by
  have h1:=zq r (putK d (Sum.inl a) (V.str " "));have h2:=jw d (Sum.inl a) (V.str " ");show (blanks (putK d (Sum.inl a) (V.str " ")) r).length≤_;rw [List.length_cons];omega
def T7:List (Key×V):=mF [] (Dy.map Qh)
def W9:List (Key×V):=blanks T7 [9,13,32]
theorem T8:∀ b:Nat,b < 256→(lK W9 (Sum.inl (b:Int))).getD (V.str "?")=V.str (bR [cls b]):=by decide +kernel
theorem zu:∀ (l:List (Key×V)) (d:List (Key×V)),(mF d l).length≤d.length+l.length
 | [],d=>Nat.le_refl _
 | a::r,d=>by
  have h:=zu r (putK d a.1 a.2);have h2:=jw d a.1 a.2;show (mF (putK d a.1 a.2) r).length≤_;rw [List.length_cons];omega
theorem T9:T7.length≤46:=by
 have h:=zu (Dy.map Qh) [];have h4:(Dy.map Qh).length=46:=by decide
 rw [h4] at h;exact h
def Yc (K:PySem.W.Frag):Sp:=fun vs H Q _=>∃ (la:Addr) (bs:List Nat),vs=[.ref la]∧bO K H la (nV bs)∧(∀ b∈bs,b < 256)∧bs.length≤10000∧∀ H',Same H H'→Q (.str (bR (bs.map cls))) H'
theorem Ua (bs:List Nat):Txt.join ("":Str) (bs.map fun b=>bR [cls b])=bR (bs.map cls):=by
 rw [TL.join_eq];refine TL.YZ ?_;rw [TL.Ml];have e0:TL.tl ("":Str)=[]:=by decide +kernel
 rw [e0,List.map_map];show TL.Fo [] (bs.map fun b=>[cls b])=bs.map cls
 induction bs with
 | nil=>rfl
 | cons a r ih=>
  cases r with
  | nil=>rfl
  | cons b r=>
   show [cls a]++([]++TL.Fo [] ((b::r).map fun b=>[cls b]))=cls a::(b::r).map cls;rw [ih];rfl
section
variable {P:Program}{w:World}{K:PySem.W.Frag}{mg:Str→Option Value}{base:Heap}{cs:Cs}
theorem sG:aH ["text","signs","byte","sign"] ["text"] (au nH):=⟨rfl,rfl,rfl,by decide +kernel,rfl,by decide +kernel,by decide +kernel⟩
theorem ZM (T:bJ K mg "row_of" nH) (hord:mg "ord"=none) (hdict:mg "dict"=none) (hW:∃ t,mg "WORD_SIGNS"=some (.str "abcdefghijklmnopqrstuvwxyz0123456789_" t)) (hO:∃ t,mg "OTHER_SIGNS"=some (.str "(),;=&|#\n" t))
  (hB:∃ a,mg "BLANK_BYTES"=some (.ref a)∧∀ H,tD K H a [V.int 9,V.int 13,V.int 32]):aX P w K mg base 1 "row_of" ["text"] (Yc K):=by
 obtain ⟨f,fd,F,hm⟩:=T.ex;obtain ⟨t1,hW⟩:=hW;obtain ⟨t2,hO⟩:=hO;obtain ⟨ba,hB,W0⟩:=hB;refine ⟨f,fd,hm,F.kp,F.binds (fun _ _ _ _ _ _ us hl=>match us,hl with | [_],_=>rfl),okN (k:=0) F sG (fun vs H Q E h=>?_) (fun cdv A outer s H vs Q E hr h=>?_)⟩
 ·obtain ⟨la,bs,rfl,_⟩:=h;rfl
 ·obtain ⟨la,bs,rfl,hla,hbs,hlen,kq⟩:=h;refine ⟨_,aq (aZ (i:=1) sG.nd rfl (Or.inr rfl) (m8 (Jx rfl) (by rfl) hdict PyProof.Rows.boot_dict (aj (pq rfl sG.nd (YX (fG Jl (bF (v:=.str "abcdefghijklmnopqrstuvwxyz0123456789_") (by rfl) hW ⟨t1,rfl⟩) (bF (v:=.str "(),;=&|#\n") (by rfl) hO ⟨t2,rfl⟩)))
    (cY (own:=[("sign",3)]) (by show pQ ["text","signs","byte","sign"] (au nH) _ [("sign",3)]=true;decide +kernel)) (fun _ _ _ _ _=>bY (i:=3) sG.nd rfl (Or.inl rfl)) (fun _ _ _ _ _=>gW)
    (fun _ _ _ _ _=>Rj (aj (aU Rf (by rfl) hord PyProof.Rows.boot_ord (aj (pv 3) aA)) (aj (pv 3) aA)))) aA)))
   (aq (uI PassesOwn.never rfl (Yu (bF (v:=.ref ba) (by rfl) hB rfl)) (bY (i:=2) sG.nd rfl (Or.inl rfl)) (aC (CW (yq hr) (pv 1) (pv 2) cR rfl)))
   (aC (bf (Wh cR (pq rfl sG.nd (dF (pv 0)) (cY (own:=[("byte",2)]) (by show pQ ["text","signs","byte","sign"] (au nH) _ [("byte",2)]=true;decide +kernel))
    (fun _ _ _ _ _=>bY (i:=2) sG.nd rfl (Or.inl rfl)) (fun _ _ _ _ _=>gW) (fun _ _ _ _ _=>RK (yq hr) (pv 1) (pv 2) cR ⟨rfl,rfl,rfl,rfl⟩)))))),?_⟩
  refine ⟨_,_,rfl,rfl,by decide +kernel,ZL,rfl,fun D hD=>?_⟩;refine ZK (x:=ZL) (fun i H'=>∃ ps:List Addr,ps.length=i∧H' D=some (.lst (ps.map V.ref))∧Paired (fun q kv=>H' q=some (.tup [kV kv.1,kv.2])) ps ((Dy.take i).map Qh)∧Same H H') ⟨[],rfl,ao,.nil,fun c o q=>by rw [ak (aB q hD)];exact q⟩ ?_ ?_
  ·rintro i c H' hc ⟨ps,hps,hl,hp,s1⟩;rw [M8] at hc;refine ⟨rfl,_,rfl,⟨#[c]⟩,rfl,rfl,_,rfl,by show 2≤sizeLine;decide,fun q hq=>?_⟩;have hDq:D≠q:=aB hl hq;have hi:i < Dy.length:=(List.getElem?_eq_some_iff.mp hc).1;refine ⟨_,by rw [ak hDq];exact hl,?_,ps++[q],by rw [List.length_append,hps];rfl,?_,?_,fun a o e=>?_⟩
   ·rw [List.length_map,hps];exact Nat.lt_trans (Nat.lt_of_lt_of_le hi (show Dy.length≤100000 by decide)) bL
   ·rw [ao,List.map_append];rfl
   ·rw [List.take_succ,hc];show Paired _ (ps++[q]) (((Dy.take i)++[c]).map Qh);rw [List.map_append];refine Paired.snoc (Paired.QZ hp fun y kv e=>?_) ?_
    ·rw [ak (lN e hl (by intro z;cases z)),ak (aB e hq)];exact e
    ·rw [ak hDq.symm,ao];rfl
   ·have e1:=s1 a o e;rw [ak (aB e hD),ak (aB e1 hq)];exact e1
  rintro H1 ⟨ps,hps,hl,hp,s1⟩;rw [M8,List.take_length] at hp;refine ⟨D,ps,Dy.map Qh,rfl,bO.of hl,Paired.QZ hp fun y kv e=>tD.of e,fun dd hdd=>?_⟩;have s2:∀ o,Same H (upd H1 dd o):=fun o a u e=>by
   have e1:=s1 a u e;rw [ak (aB e1 hdd)];exact e1
  have nd1:H dd=none:=s1.free hdd;show Yt _ _ _ _ (upd H1 dd (.dK T7));have hM:=T9;have hD':W9=blanks T7 [9,13,32]:=rfl;generalize T7=M at hM hD' ⊢;refine ⟨ba,rfl,⟨_,W0 _⟩,?_⟩;refine VN (xs:=[V.int 9,V.int 13,V.int 32]) (fun j σ H'=>(∃ x y,σ=[some (.ref la),some (.ref dd),x,y])∧H' dd=some (.dK (blanks M (([9,13,32]:List Int).take j)))∧Same H H') ⟨⟨_,_,rfl⟩,by rw [List.take_zero,J8];exact ao,s2 _⟩ (fun _ _ _ _ _=>W0 _) ?_ ?_
  ·rintro j x σ H' hx ⟨⟨y1,y2,rfl⟩,hd,s3⟩;have hb:∃ b:Int,x=V.int b∧([9,13,32]:List Int)[j]?=some b:=by
    match j,hx with
    | 0,hx=>exact ⟨9,by simpa using hx.symm,rfl⟩
    | 1,hx=>exact ⟨13,by simpa using hx.symm,rfl⟩
    | 2,hx=>exact ⟨32,by simpa using hx.symm,rfl⟩
    | j+3,hx=>simp at hx
   obtain ⟨b,rfl,hb⟩:=hb;refine ⟨_,rfl,_,rfl,dd,_,rfl,Jw.k (k:=Sum.inl b) hd ?_,⟨_,_,rfl⟩,?_,fun a u e=>?_⟩
   ·have h1:=zq (([9,13,32]:List Int).take j) M;have h3:(([9,13,32]:List Int).take j).length≤3:=by rw [List.length_take];exact Nat.min_le_right _ _
    exact Nat.lt_trans (show _ < 100000 by omega) bL
   ·rw [ao,List.take_succ,hb];show _=some (HO.dK (blanks _ ((([9,13,32]:List Int).take j)++[b])));rw [Ho]
   ·rw [ak (aB e nd1)];exact s3 a u e
  rintro σ H2 ⟨⟨y1,y2,rfl⟩,hd,s3⟩;have e3:([9,13,32]:List Int).take ([V.int 9,V.int 13,V.int 32]:List V).length=[9,13,32]:=rfl;have hd2:H2 dd=some (.dK W9):=by rw [hD',←e3];exact hd
  have hrv:=T8;clear hD' hd e3;generalize W9=R at hd2 hrv;refine ⟨⟨_,rfl⟩,_,rfl,la,rfl,⟨_,s3.seq hla⟩,fun D2 hD2=>?_⟩;have s4:∀ xs,Same H2 (upd H2 D2 (.lst xs)):=fun xs a u e=>by rw [ak (aB e hD2)];exact e
  refine gH (xs:=nV bs) (fun j H'=>H'=upd H2 D2 (.lst (((bs.take j).map fun b=>bR [cls b]).map V.str))) rfl ?_ ?_ ?_
  ·rintro j H' _ rfl;exact (s4 _).seq (s3.seq hla)
  ·rintro j x H' hx rfl;unfold nV at hx;rw [List.getElem?_map] at hx;cases hb:bs[j]? with
   | none=>rw [hb] at hx;cases hx
   | some b=>
    rw [hb] at hx;cases hx;have hj:=(List.getElem?_eq_some_iff.mp hb).1;have Zz:=s4 ((((bs.take j).map fun b=>bR [cls b]).map V.str)) _ _ hd2;refine ⟨rfl,_,rfl,dd,rfl,.inl ⟨_,.inl Zz⟩,_,rfl,_,qW.k (k:=Sum.inl (b:Int)) Zz,_,ao,?_,?_⟩
    ·rw [List.length_map,List.length_map,List.length_take];exact Nat.lt_of_le_of_lt (Nat.min_le_left _ _) (Nat.lt_trans (show j < 100000 by omega) bL)
    ·rw [gG,List.take_succ,hb,hrv b (hbs b (List.mem_of_getElem? hb))];show _=upd H2 D2 (.lst (((bs.take j++[b]).map _).map V.str));rw [List.map_append,List.map_append];rfl
  ·rintro H3 rfl;rw [aK,List.take_length];refine ⟨_,D2,bs.map fun b=>bR [cls b],rfl,rfl,.inl (bO.of ao),?_,?_⟩
   ·have e1:((bs.map fun b=>bR [cls b]).map (·.length)).sum=bs.length:=by
     rw [List.map_map];clear hla hbs hlen kq hd2 s4
     induction bs with
     | nil=>rfl
     | cons a r ih=>rw [List.map_cons,List.sum_cons,ih,List.length_cons];show 1+_=_;omega
    have e2:("":Str).length=0:=by decide +kernel
    rw [e1,e2];omega
   ·rw [Ua];exact kq _ (s3.trans (s4 _))
end
end Pg
end
section
set_option linter.all false
set_option maxRecDepth 100000
set_option maxHeartbeats 4000000
namespace Pg
open PySem L2 Xc Sp Rb35
theorem zx (c:Nat) (r:List Nat):1≤aP (c::r):=by
 unfold aP;dsimp only;split
 ·rename_i h;subst h;rw [List.takeWhile_cons];simp
 ·split
  ·rename_i h;rw [List.takeWhile_cons,show isWord c=true by simp [isWord,h]];simp
  ·split
   ·rename_i h;rw [List.takeWhile_cons,h];simp
   ·exact Nat.le_refl _
theorem M9 {p:Nat→Bool}:∀ (l:List Nat),(l.takeWhile p).length≤l.length
 | []=>Nat.le_refl _
 | a::r=>by
  rw [List.takeWhile_cons];split
  ·rw [List.length_cons,List.length_cons];exact Nat.succ_le_succ (M9 r)
  ·exact Nat.zero_le _
theorem Qi (c:Nat) (r:List Nat):aP (c::r)≤(c::r).length:=by
 unfold aP;dsimp only;split
 ·exact M9 _
 ·split
  ·exact M9 _
  ·split
   ·exact M9 _
   ·show 1≤r.length+1;omega
theorem Qj (f at_:Nat):gY f at_ []=[([],at_)]:=by cases f <;> rfl
theorem sH:∀ (f at_:Nat) (l:List Nat),∃ xs p,gY f at_ l=xs++[([],p)]
 | 0,at_,l=>⟨[],at_,rfl⟩
 | f+1,at_,[]=>⟨[],at_,rfl⟩
 | f+1,at_,c::r=>by
  rw [kJ];obtain ⟨xs,p,e⟩:=sH f (at_+aP (c::r)) ((c::r).drop (aP (c::r)));split
  ·exact ⟨xs,p,e⟩
  ·exact ⟨_::xs,p,by rw [e];rfl⟩
theorem BX:∀ (f at_:Nat) (l:List Nat),(gY f at_ l).length≤f+1
 | 0,at_,l=>Nat.le_refl _
 | f+1,at_,[]=>by show 1≤_;omega
 | f+1,at_,c::r=>by
  rw [kJ];have h:=BX f (at_+aP (c::r)) ((c::r).drop (aP (c::r)));split
  ·omega
  ·rw [List.length_cons];omega
theorem Ub {c:Nat}{r:List Nat} (h:kindS ((c::r).take (aP (c::r)))="number"):∀ x∈(c::r).take (aP (c::r)),isDigit x=true:=by
 have hp:=zx c r;obtain ⟨n,hn⟩:∃ n,aP (c::r)=n+1:=⟨aP (c::r)-1,by omega⟩;have hd:isDigit c=true:=by
  rw [hn,List.take_succ_cons] at h;unfold kindS at h;dsimp only at h;split at h
  ·exact absurd h (by decide +kernel)
  ·split at h
   ·rename_i q;exact q.1
   ·exact absurd h (by decide +kernel)
 have hs:=vX hd;have e:aP (c::r)=((c::r).takeWhile isDigit).length:=by
  unfold aP;dsimp only;rw [if_neg (by intro z;subst z;revert hd;decide),if_neg (by rw [hs];decide),if_pos hd]
 rw [e,eG];intro x hx;exact (takeWhile_all hx).1
theorem vp:∀ (f at_:Nat) (l:List Nat),∀ t∈gY f at_ l,kindS t.1="number"→∀ c∈t.1,isDigit c=true
 | 0,at_,l,t,ht,h=>by
  have:t=([],at_):=by simpa [gY] using ht
  subst this;exact absurd h (by show ¬ kindS []="number";decide +kernel)
 | f+1,at_,[],t,ht,h=>by
  have:t=([],at_):=by simpa [gY] using ht
  subst this;exact absurd h (by show ¬ kindS []="number";decide +kernel)
 | f+1,at_,c::r,t,ht,h=>by
  rw [kJ] at ht;split at ht
  ·exact vp f _ _ t ht h
  ·rcases List.mem_cons.mp ht with rfl | ht
   ·exact Ub h
   ·exact vp f _ _ t ht h
theorem Uc (l:List Nat) (hl:l.length≤9000):QW (gY (l.length+1) 0 l):=by
 refine ⟨fun i t h hne=>?_,vp _ _ _,by have:=BX (l.length+1) 0 l;omega⟩;obtain ⟨xs,p,e⟩:=sH (l.length+1) 0 l;rw [e] at h ⊢;have hi:i < xs.length:=by
  rcases Nat.lt_or_ge i xs.length with q | q
  ·exact q
  ·exfalso;rw [List.getElem?_append_right q] at h;cases q2:i-xs.length with
   | zero=>
    rw [q2] at h;simp at h;subst h;exact hne rfl
   | succ n=>rw [q2] at h;simp at h
 have:i+1 < (xs++[(([]:List Nat),p)]).length:=by rw [List.length_append];simp;omega
 exact ⟨_,List.getElem?_eq_getElem this⟩
def VF (bs:List Nat):List PT:=gY ((bs.map cls).length+1) 0 (bs.map cls)
theorem ZP {bs:List Nat} (h:bs.length≤9000):QW (VF bs):=Uc _ (by rw [List.length_map];exact h)
theorem Ud {bs:List Nat} (h:∀ b∈bs,b < 256):tk (VF bs) 0=toks bs:=by
 unfold tk VF toks;rw [List.drop_zero,List.length_map];exact qF _ _ _ h
def Ue (K:PySem.W.Frag) (cs:Cs):Sp:=fun vs H Q _=>∃ (la:Addr) (bs:List Nat),vs=[.ref la]∧bO K H la (nV bs)∧(∀ b∈bs,b < 256)∧bs.length≤9000∧∀ (lt:Addr) (as:List Addr) (H':Hp),rZ cs H' lt as (VF bs)→H lt=none→Same H H'→Q (.ref lt) H'
theorem rZ.snoc {cs:Cs}{H H1:Hp}{lt x dx:Addr}{as:List Addr}{T:List PT}{t:PT} (R:rZ cs H lt as T) (s:Same H H1) (nx:H x=none) (h:H1 x=some (.ins cs.tok dx (FZ (kindS t.1) (bR t.1) (t.2:Int)))) :
  rZ cs (upd H1 lt (.lst (as.map V.ref++[V.ref x]))) lt (as++[x]) (T++[t]):=by
 refine ⟨by rw [ao,List.map_append];rfl,by rw [List.length_append,List.length_append,R.len];rfl,fun j a u e1 e2=>?_⟩;by_cases hj:j < as.length
 ·rw [List.getElem?_append_left hj] at e1;rw [List.getElem?_append_left (by rw [←R.len];exact hj)] at e2;obtain ⟨dy,ha⟩:=R.at_ j a u e1 e2;exact ⟨dy,by rw [ak (dW (s _ _ ha) (s _ _ R.lst))];exact s _ _ ha⟩
 ·rw [List.getElem?_append_right (by omega)] at e1;rw [List.getElem?_append_right (by rw [←R.len];omega)] at e2;rw [←R.len] at e2;cases q:j-as.length with
  | zero=>
   rw [q] at e1 e2;simp at e1 e2;subst e1 e2;exact ⟨dx,by rw [ak (dW h (s _ _ R.lst))];exact h⟩
  | succ n=>rw [q] at e1;simp at e1
theorem Ug (l:List Nat) (a n:Nat) (h:a+n≤l.length):O6 (bR l) (some (a:Int)) (some ((a+n:Nat):Int))=bR ((l.drop a).take n):=by
 unfold O6;rw [HT.wK,HT.wK,cN,Nat.min_eq_left h,Nat.min_eq_left (show a≤l.length by omega),Nat.add_sub_cancel_left];rfl
theorem Hq (c:Nat):decide (c∈(" \n#":Str).cps.toList)=skipped c:=by
 have e:(" \n#":Str).cps.toList=[32,10,35]:=by decide +kernel
 rw [e];unfold skipped;by_cases h1:c=32
 ·simp [h1]
 ·by_cases h2:c=10
  ·simp [h2]
  ·by_cases h3:c=35
   ·simp [h3]
   ·simp [h1,h2,h3]
section
variable {P:Program}{w:World}{K:PySem.W.Frag}{mg:Str→Option Value}{base:Heap}{cs:Cs}
theorem oX:aH ["text","row","tokens","place","end","word"] ["text"] (au oM):=⟨rfl,rfl,rfl,by decide +kernel,rfl,by decide +kernel,by decide +kernel⟩
theorem Xa (T:bJ K mg "tokens_of" oM) (hlen:mg "len"=none) (hE:∃ t,mg "END"=some (.str "end" t)) (RO:aX P w K mg base 1 "row_of" ["text"] (Yc K)) (RE:aX P w K mg base 2 "run_end" ["row","place"] Gz) (KI:aX P w K mg base 1 "kind_of" ["word"] Tt)
  (TO:kO P w K mg base 1 "Token" cs.tok ["self","kind","word","place"] (Mu cs)):aX P w K mg base 3 "tokens_of" ["text"] (Ue K cs):=by
 obtain ⟨f,fd,F,hm⟩:=T.ex;obtain ⟨t1,hE⟩:=hE;refine ⟨f,fd,hm,F.kp,F.binds (fun _ _ _ _ _ _ us hl=>match us,hl with | [_],_=>rfl),okN F oX (fun vs H Q E h=>?_) (fun cdv A outer s H vs Q E hr h=>?_)⟩
 ·obtain ⟨la,bs,rfl,_⟩:=h;rfl
 ·obtain ⟨la,bs,rfl,hla,hbs,hlb,kq⟩:=h;refine ⟨_,aq (aZ (i:=1) oX.nd rfl (Or.inl rfl) (bM (RO.mono (by decide:1≤2)) hr rfl aG (aj (pv 0) aA)))
   (aq (aZ (i:=2) oX.nd rfl (Or.inl rfl) (fL aA))
   (aq (aZ (i:=3) oX.nd rfl (Or.inl rfl) aR)
   (aq (gU PassesOwn.never (aQ xO (pv 3) (aU fZ (by rfl) hlen PySem.boot_len (aj (pv 1) aA)) (aY _))
    (aq (aZ (i:=4) oX.nd rfl (Or.inl rfl) (bM RE hr rfl aG (aj (pv 1) (aj (pv 3) aA))))
    (aq (dD (aQ Ah (fM xW (pv 1) (pv 3) (fun _ _=>rfl)) cR (by rfl))
     (aq (aZ (i:=5) oX.nd rfl (Or.inl rfl) (pJ Y0 (pv 1) (qC (pv 3)) (qC (pv 4))))
     (aC (aN (ju PySem.F.plainAttrs_list PySem.F.slot_list_append PySem.F.type_list_append cD (pv 2) (aj (rR TO hr rfl aG (aj (bM (KI.mono (by decide:1≤2)) hr rfl aG (aj (pv 5) aA)) (aj (pv 5) (aj (pv 3) aA)))) aA))))) bU)
    (aC (aZ (i:=3) oX.nd rfl (Or.inl rfl) (pv 4))))))
   (aq (aN (ju PySem.F.plainAttrs_list PySem.F.slot_list_append PySem.F.type_list_append cD (pv 2) (aj (rR TO hr rfl aG (aj (bF (v:=.str "end") (by rfl) hE ⟨t1,rfl⟩) (aj cR (aj (aU fZ (by rfl) hlen PySem.boot_len (aj (pv 1) aA)) aA)))) aA)))
   (aC (bf (pv 2))))))),?_⟩
  refine ⟨_,rfl,la,bs,rfl,hla,hbs,by omega,fun H1 s1=>?_⟩;refine ⟨Nat.zero_le _,fun lt hlt=>?_⟩;have nlt:H lt=none:=s1.free hlt;have hll:(bs.map cls).length=bs.length:=List.length_map _;have hsz:(bR (bs.map cls)).length≤sizeLine:=by rw [cN,hll];exact Nat.le_trans (show _≤100000 by omega) (Nat.le_of_lt bL)
  refine lq (fun σ H'=>∃ (pl f:Nat) (as:List Addr) (T:List PT) (x y:Option V),σ=[some (.ref la),some (.str (bR (bs.map cls))),some (.ref lt),some (.int (pl:Int)),x,y]∧pl≤(bs.map cls).length∧(bs.map cls).length-pl < f∧T.length≤pl∧rZ cs H' lt as T∧Same H H' ∧
   T++gY f pl ((bs.map cls).drop pl)=VF bs) (fun σ _=>match σ with | [_,_,_,some (.int e),_,_]=>(bs.map cls).length-e.toNat | _=>0)
   ⟨0,(bs.map cls).length+1,[],[],none,none,rfl,Nat.zero_le _,by omega,Nat.le_refl _,⟨ao,rfl,fun j a t h=>by simp at h⟩,fun c o q=>by rw [ak (aB (s1 _ _ q) hlt)];exact s1 _ _ q,rfl⟩ ?_
  rintro σ H2 ⟨pl,f,as,T,x1,y1,rfl,hpl,hf,hTl,R,s2,e⟩;refine ⟨_,rfl,_,rfl,_,rfl,hsz,_,_,rfl,rfl,_,rfl,bV (fun hc=>?_) fun hc=>?_⟩
  ·have h1:((pl:Nat):Int) < ((bR (bs.map cls)).length:Int):=of_decide_eq_true hc;rw [cN] at h1;have h2:pl < (bs.map cls).length:=by omega
   have hd:(bs.map cls).drop pl=(bs.map cls)[pl]::(bs.map cls).drop (pl+1):=List.drop_eq_getElem_cons h2;have hrp:=zx (bs.map cls)[pl] ((bs.map cls).drop (pl+1));have hrl:=Qi (bs.map cls)[pl] ((bs.map cls).drop (pl+1));rw [←hd] at hrp hrl;rw [List.length_drop] at hrl;obtain ⟨f',rfl⟩:∃ f',f=f'+1:=⟨f-1,by omega⟩;have ep:gY (f'+1) pl ((bs.map cls).drop pl)=if skipped (bs.map cls)[pl]=true then gY f' (pl+aP ((bs.map cls).drop pl)) ((bs.map cls).drop (pl+aP ((bs.map cls).drop pl)))
     else (((bs.map cls).drop pl).take (aP ((bs.map cls).drop pl)),pl)::gY f' (pl+aP ((bs.map cls).drop pl)) ((bs.map cls).drop (pl+aP ((bs.map cls).drop pl))):=by
    have:=kJ f' pl (bs.map cls)[pl] ((bs.map cls).drop (pl+1));rw [←hd,List.drop_drop] at this;exact this
   refine X5 ?_;refine ⟨_,rfl,_,rfl,bs.map cls,pl,rfl,h2,by omega,?_⟩;refine ⟨_,rfl,_,rfl,bR (bs.map cls),_,(bs.map cls)[pl],rfl,rfl,hsz,lQ (List.getElem?_eq_getElem h2),(bs.map cls)[pl],_,rfl,rfl,_,rfl,bV (fun hc2=>?_) fun hc2=>?_⟩
   ·rw [Hq] at hc2;have hns:¬ skipped (bs.map cls)[pl]=true:=by simpa using hc2
    rw [if_neg hns] at ep;refine ⟨_,rfl,_,rfl,_,rfl,_,rfl,_,rfl,bR (bs.map cls),rfl,hsz,?_⟩;have ab3:=Ug (bs.map cls) pl (aP ((bs.map cls).drop pl)) (by omega);refine ⟨_,rfl,.inl ⟨rfl,_,bO.of R.lst⟩,?_⟩;have hwl:(((bs.map cls).drop pl).take (aP ((bs.map cls).drop pl))).length=aP ((bs.map cls).drop pl):=by rw [List.length_take,List.length_drop];omega
    refine ⟨_,rfl,((bs.map cls).drop pl).take (aP ((bs.map cls).drop pl)),by rw [←ab3];rfl,fun z=>by rw [z] at hwl;simp at hwl;omega,by omega,_,rfl,_,rfl,fun x QT nx ndx nex=>?_⟩;refine ⟨x,QT,_,_,_,rfl,ao,fun H3 h3 k3=>⟨rfl,?_⟩⟩;have s3:Same H2 H3:=Same.made nx ndx fun c o e hc=>k3 c o e (by simpa using hc);have ab4:O6 (bR (bs.map cls)) (some (pl:Int)) (some ((pl+aP ((bs.map cls).drop pl):Nat):Int))=bR (((bs.map cls).drop pl).take (aP ((bs.map cls).drop pl))):=ab3;refine ⟨lt,_,_,rfl,rfl,s3 _ _ R.lst,?_,?_⟩
    ·rw [List.length_map,R.len];exact Nat.lt_trans (show _ < 100000 by omega) bL
    have R3:=R.snoc (t:=(((bs.map cls).drop pl).take (aP ((bs.map cls).drop pl)),pl)) s3 nx (by rw [←ab4];exact h3);refine ⟨_,rfl,⟨pl+aP ((bs.map cls).drop pl),f',_,_,_,_,rfl,by omega,by omega,?_,R3,fun c o q=>?_,?_⟩,?_⟩
    ·rw [List.length_append,List.length_singleton];omega
    ·have q2:=s2 c o q;rw [ak (aB q nlt)];exact s3 _ _ q2
    ·rw [←e,ep,List.append_assoc];rfl
    ·show (bs.map cls).length-((pl+aP ((bs.map cls).drop pl):Nat):Int).toNat < (bs.map cls).length-((pl:Nat):Int).toNat;omega
   ·rw [Hq] at hc2;have hs:skipped (bs.map cls)[pl]=true:=by simpa using hc2
    rw [if_pos hs] at ep;refine ⟨_,rfl,⟨pl+aP ((bs.map cls).drop pl),f',as,T,_,_,rfl,by omega,by omega,by omega,R,s2,?_⟩,?_⟩
    ·rw [←e,ep]
    ·show (bs.map cls).length-((pl+aP ((bs.map cls).drop pl):Nat):Int).toNat < (bs.map cls).length-((pl:Nat):Int).toNat;omega
  ·have h1:¬ ((pl:Nat):Int) < ((bR (bs.map cls)).length:Int):=fun z=>hc (decide_eq_true z);rw [cN] at h1;have hpe:pl=(bs.map cls).length:=by omega
   refine ⟨_,rfl,.inl ⟨rfl,_,bO.of R.lst⟩,_,rfl,_,rfl,hsz,fun x QT nx ndx nex=>?_⟩;refine ⟨x,QT,_,_,_,rfl,ao,fun H3 h3 k3=>⟨rfl,?_⟩⟩;have s3:Same H2 H3:=Same.made nx ndx fun c o e hc=>k3 c o e (by simpa using hc);refine ⟨lt,_,_,rfl,rfl,s3 _ _ R.lst,?_,?_⟩
   ·rw [List.length_map,R.len];exact Nat.lt_trans (show _ < 100000 by omega) bL
   have aeo:("":Str)=bR []:=by decide +kernel
   have R3:=R.snoc (t:=([],(bs.map cls).length)) s3 nx (by rw [←aeo,←cN];exact h3);refine ⟨_,rfl,kq lt (as++[x]) _ ?_ nlt fun c o q=>?_⟩
   ·rw [hpe,List.drop_length,Qj] at e;rw [←e];exact R3
   ·rw [ak (aB q nlt)];exact s3 _ _ (s2 c o q)
end
end Pg
end
section
set_option linter.all false
set_option maxRecDepth 100000
set_option maxHeartbeats 4000000
namespace Pg
open PySem L2 Xc Sp Rb35
def Dz (e:Known) (t:Toks):Except Nat (Known×Toks):=(newName e (t.drop 1)).bind fun x=>(take_ 61 x.2).bind fun u=>(formula e u).bind fun y=>(take_ 59 y.2).map fun r=>(⟨e.people,e.lets++[(x.1,y.1)]⟩,r)
section
variable {T:List PT}{i:Nat}{t u v:PT}{e:Known}
theorem Uh (ht:T[i]?=some t) (h:t.1=ascii "let"):lW e (tk T i)=(Dz e (tk T i)).bind fun y=>lW y.1 y.2:=by
 rw [yO];unfold jz Dz;rw [yZ ht,decide_eq_false (by rw [h];decide),if_neg (by decide),oU Dv ht,decide_eq_true h,if_neg (by decide)];simp only [aW];refine aJ fun x _=>aJ fun u _=>aJ fun y _=>?_;cases take_ 59 y.2 <;> rfl
theorem Ui (ht:T[i]?=some t) (h:t.1=[]):lW e (tk T i)=.ok e:=by
 rw [yO];unfold jz;rw [yZ ht,decide_eq_true h,if_pos rfl]
theorem Uj (ht:T[i]?=some t) (h:¬ t.1=[]) (h2:¬ t.1=ascii "let"):lW e (tk T i)=.error t.2:=by
 rw [yO];unfold jz;rw [yZ ht,decide_eq_false h,if_neg (by decide),oU Dv ht,decide_eq_false h2,if_pos rfl,jC ht]
theorem Uk (ht:T[i]?=some t) (h:t.1=ascii "let"):Dz e (tk T i)=(newName e (tk T (i+1))).bind fun x=>(take_ 61 x.2).bind fun u=>(formula e u).bind fun y=>(take_ 59 y.2).map fun r=>(⟨e.people,e.lets++[(x.1,y.1)]⟩,r):=by
 unfold Dz;rw [qM Dv ht h];rfl
end
theorem Ar (t:Toks):program t=(Rb35.field t).bind fun x=>(fK x.2).bind fun y=>(lW y.1 y.2).map fun e=>⟨x.1,e.people,e.lets⟩:=by
 rw [JF];refine aJ fun x _=>?_;unfold fK;by_cases h:isKey "who" x.2=false
 ·rw [if_pos h,if_pos h];rfl
 ·rw [if_neg h,if_neg h,aW];refine aJ fun y _=>?_;cases take_ 59 y.2 <;> rfl
def Yd (cs:Cs):Sp:=fun vs H Q E=>∃ (r lt:Addr) (as:List Addr) (T:List PT) (i:Nat) (b:Addr) (A:dY) (p:Nat) (B:Bk) (t:PT),vs=[.ref r,.ref b]∧bN cs H r lt as T i∧aV cs H b A p B∧lt≠A.na∧lt≠A.la∧B.Ok∧Fw B.ns [] (4*i)∧B.names.length≤i∧QW T∧T[i]?=some t∧t.1=ascii "let" ∧
 (∀ (H':Hp) (j:Nat) (A':dY) (ns':List aF) (x:Nat) (nm:Bytes) (u:PT),Dz B.known (tk T i)=.ok ((⟨B.people,ns',B.ls++[(nm,x)]⟩:Bk).known,tk T j)→bN cs H' r lt as T j→aV cs H' b A' p ⟨B.people,ns',B.ls++[(nm,x)]⟩→Sim A A' →
  (⟨B.people,ns',B.ls++[(nm,x)]⟩:Bk).Ok→Fw ns' [] (4*j)→Kp [r,A.na,A.la,A.ma] H H'→T[j]?=some u→i < j→Q .non H')∧(∀ k,Dz B.known (tk T i)=.error k→uE E cs.cst (-100-(k:Int)))
section
variable {P:Program}{w:World}{K:PySem.W.Frag}{mg:Str→Option Value}{base:Heap}{cs:Cs}
theorem J9:aH ["reader","book","name","formula"] ["reader","book"] (au qd):=⟨rfl,rfl,rfl,by decide +kernel,rfl,by decide +kernel,by decide +kernel⟩
theorem ZQ (co:tX cs) (T:bJ K mg "read_let" qd) (cl:Cls K cs.cB) (gO:Cls K cs.boo) (naB:cF K cs.boo ["prime","people","nodes","lets","names"])
  (TW:bw P w K mg base 5 cs.cB "take_written" ["self","word"] (kh cs)) (NN:bw P w K mg base 5 cs.cB "take_new_name" ["self","names"] (vh cs false)) (FO:aX P w K mg base 8 "read_formula" ["reader","book"] (BL cs)) (AL:bw P w K mg base 1 cs.boo "add_let" ["self","name","formula"] (Gs cs)) :
  aX P w K mg base 9 "read_let" ["reader","book"] (Yd cs):=by
 obtain ⟨f,fd,F,hm⟩:=T.ex;refine ⟨f,fd,hm,F.kp,F.binds (fun _ _ _ _ _ _ us hl=>match us,hl with | [_,_],_=>rfl),Bs F J9 (fun vs H Q E h=>?_) (fun cdv A outer s H vs Q E hr h=>?_)⟩
 ·obtain ⟨r,lt,as,T,i,b,A,p,B,t,rfl,_⟩:=h;rfl
 ·obtain ⟨r,lt,as,T,i,b,Ad,p,B,t,rfl,R,Rb,aep,aer,ok,fw,hnl,tok,ht,Hr,kq,kx⟩:=h;refine ⟨_,aq (aN (bK (pv 0) cl (TW.mono (by decide:5≤8)) hr bh (aj cR aA)))
   (aq (aZ (i:=2) J9.nd rfl (Or.inl rfl) (bK (pv 0) cl (NN.mono (by decide:5≤8)) hr bh (aj (aM (pv 1) rfl) aA)))
   (aq (aN (bK (pv 0) cl (TW.mono (by decide:5≤8)) hr bh (aj cR aA)))
   (aq (aZ (i:=3) J9.nd rfl (Or.inl rfl) (bM FO hr rfl bh (aj (pv 0) (aj (pv 1) aA))))
   (aq (aN (bK (pv 0) cl (TW.mono (by decide:5≤8)) hr bh (aj cR aA)))
   (aC (aN (bK (pv 1) gO (AL.mono (by decide:1≤8)) hr aG (aj (pv 2) (aj (pv 3) aA))))))))),?_⟩
  have hTl:=tok.few;have e0:=Uk (e:=B.known) ht Hr;have mono:∀ {H1 H2:Hp},Kp [r] H1 H2→Kp [r,Ad.na,Ad.la,Ad.ma] H1 H2:=fun k=>k.mono fun x hx=>by simp at hx;simp [hx]
  obtain ⟨u,hu⟩:=tok.next i t ht (by rw [Hr];decide);refine cC rfl R (by decide +kernel) (by decide +kernel) ?_;refine ⟨r,lt,as,T,i,t,_,rfl,R,ht,fun _ H1 R1 k1=>?_,fun hq=>absurd ((nJ J4).mpr Hr) hq⟩;have ZF:=Rb.read co R k1;obtain ⟨db1,wz⟩:=ZF.ob;refine cC rfl R1 (by decide +kernel) (by decide +kernel) ?_;refine ⟨_,rfl,b,cs.boo,db1,_,_,rfl,wz,gO,naB _ (by simp),j9 _ _ _ _ _,?_⟩;have hval:(lK (wX B.names) (Sum.inr (bR u.1))).isSome=knows B.known u.1:=by
   rw [uc,Bk.yM];cases look B.names u.1 <;> rfl
  refine ⟨r,lt,as,T,i+1,u,Ad.ma,wX B.names,rfl,R1,hu,ZF.names,fun hq H2 R2 k2=>?_,fun hq=>?_⟩
  ·rw [hval] at hq;rw [Mz hu hq.1 hq.2] at e0;have e1:Dz B.known (tk T i)=(take_ 61 (tk T (i+2))).bind fun v=>(formula B.known v).bind fun y=>(take_ 59 y.2).map fun r=>(⟨B.known.people,B.known.lets++[(u.1,y.1)]⟩,r):=e0;have hlook:look B.names u.1=none:=by
    have:=hq.2;rw [Bk.yM] at this;cases q:look B.names u.1 with
    | none=>rfl
    | some z=>rw [q] at this;cases this
   have Yb:=ZF.read co R1 k2;obtain ⟨v,hv⟩:=tok.next (i+1) u hu (fun z=>by have:=hq.1;rw [z] at this;exact absurd this (by decide +kernel));refine cC rfl R2 (by decide +kernel) (by decide +kernel) ?_;refine ⟨r,lt,as,T,i+2,v,_,rfl,R2,hv,fun h3 H3 R3 k3=>?_,fun h3=>kx v.2 ?_⟩
   ·have h61:=(nJ X7).mp h3;rw [tZ (by decide) hv h61] at e1;have e2:Dz B.known (tk T i)=(formula B.known (tk T (i+3))).bind fun y=>(take_ 59 y.2).map fun r=>(⟨B.known.people,B.known.lets++[(u.1,y.1)]⟩,r):=e1;have Rb3:=Yb.read co R2 k3;obtain ⟨y,hy⟩:=tok.next (i+2) v hv (by rw [h61];simp);refine ⟨_,rfl,_,rfl,r,lt,as,T,i+3,b,Ad,p,B,y,rfl,R3,Rb3,aep,ok,fw.mono (by omega),tok,hy,fun H4 j A4 ns4 x z R4 Rb4 sim k4 ps4 fw4 hij hz ef=>?_,fun k hk=>kx k (by rw [e2,hk];rfl)⟩;rw [ef] at e2;have e3:Dz B.known (tk T i)=(take_ 59 (tk T j)).map fun r=>(⟨B.known.people,B.known.lets++[(u.1,den B.P ns4 x)]⟩,r):=e2;refine cC rfl R4 (by decide +kernel) (by decide +kernel) ?_;refine ⟨r,lt,as,T,j,z,_,rfl,R4,hz,fun h5 H5 R5 k5=>?_,fun h5=>kx z.2 ?_⟩
    ·have X8:=(nJ Bw).mp h5;rw [tZ (by decide) hz X8] at e3;obtain ⟨y5,hy5⟩:=tok.next j z hz (by rw [X8];simp);have W8:=Rb4.read co R4 k5;obtain ⟨db5,ob5⟩:=W8.ob;obtain ⟨okN,knN⟩:=ps4.done ok ⟨rfl,rfl⟩ rfl u.1;have hjl:=(List.getElem?_eq_some_iff.mp hz).1;refine ⟨_,rfl,b,db5,_,rfl,ob5,oA _ _ _ _ _ (by decide +kernel) (by decide +kernel) (by decide +kernel) (by decide +kernel) (by decide +kernel),_,rfl,_,rfl,?_⟩;refine ⟨b,u.1,x,A4,p,{ B with ns:=ns4 },rfl,W8,hlook,by show B.names.length < 50000;omega,fun H6 Rb6 k6=>?_⟩;have R6:=R5.Mv k6 fun q hq=>by
      simp only [List.mem_cons,List.not_mem_nil,or_false] at hq;rcases hq with rfl | rfl
      ·exact ⟨by rw [sim.2.2.1];exact aer.symm,fun C dx fs z=>by rw [W8.lets] at z;cases z⟩
      ·exact ⟨Gf W8.names R5.tk.lst,fun C dx fs z=>by rw [W8.names] at z;cases z⟩
     refine kq H6 (j+1) A4 ns4 x u.1 y5 ?_ R6 Rb6 sim okN (fw4.mono (by omega)) ?_ hy5 (by omega)
     ·rw [e3,knN];rfl
     ·rw [sim.2.2.1,sim.2.1] at k6;exact (mono k1).trans ((mono k2).trans ((mono k3).trans ((k4.mono fun x hx=>by simp at hx ⊢;rcases hx with rfl | rfl <;> simp).trans ((mono k5).trans (k6.mono fun x hx=>by simp at hx ⊢;rcases hx with rfl | rfl <;> simp)))))
    ·rw [e3,qN (by decide) hz fun q=>h5 ((nJ Bw).mpr q)];rfl
   ·rw [e1,qN (by decide) hv fun q=>h3 ((nJ X7).mpr q)];rfl
  ·rw [hval] at hq;refine kx u.2 ?_;rw [e0,S9 hu hq];rfl
def zy (K:PySem.W.Frag) (cs:Cs):Sp:=fun vs H Q E=>∃ (la:Addr) (bs:List Nat),vs=[.ref la]∧bO K H la (nV bs)∧(∀ b∈bs,b < 256)∧bs.length≤9000 ∧
 (∀ (G:Prog) (b:Addr) (A:dY) (B:Bk) (H':Hp),taken bs=.good G→aV cs H' b A G.p B→B.Ok→Sz B→G.people=B.people→G.lets=B.known.lets→small G=true→Same H H'→Q (.ref b) H') ∧
 (∀ v,taken bs=.bad v→uE E cs.cst v∧uE E cs.pF v)
theorem uh {F:List Addr}{H H1 H2:Hp} (s:Same H H1) (k:Kp F H1 H2) (h:∀ x∈F,H x=none):Same H H2:=fun c o q=>k c o (s c o q) fun z=>by rw [h c z] at q;cases q
def LeI (cs:Cs) (H0:Hp) (la r lt:Addr) (as:List Addr) (T:List PT) (b:Addr) (A:dY) (p:Nat) (l:List Bytes) (j0:Nat):L2.St→Hp→Prop:=fun σ H'=>
 ∃ (A':dY) (B:Bk) (j:Nat) (u:PT),σ=[some (.ref la),some (.ref r),some (.ref b)]∧bN cs H' r lt as T j∧aV cs H' b A' p B∧Sim A A'∧B.Ok∧Fw B.ns [] (4*j)∧B.names.length≤j∧Same H0 H'∧T[j]?=some u∧lW ⟨l,[]⟩ (tk T j0)=lW B.known (tk T j)
theorem vq:aH ["text","reader","book"] ["text"] (au rY):=⟨rfl,rfl,rfl,by decide +kernel,rfl,by decide +kernel,by decide +kernel⟩
theorem Qk (co:tX cs) (T:bJ K mg "book_of" rY) (cl:Cls K cs.cB) (qK:Cls K cs.tok) (qL:cF K cs.tok ["kind","word","place"]) (hlen:mg "len"=none) (hLT:∃ t,mg "LONGEST_TEXT"=some (.int 65536 t)) (hE:∃ t,mg "END"=some (.str "end" t))
  (OR:rC P w K mg base 2 "OutOfRange" cs.mH ["self"] (mO K cs.mH (-2))) (TO:aX P w K mg base 3 "tokens_of" ["text"] (Ue K cs)) (RD:kO P w K mg base 1 "Reader" cs.cB ["self","tokens"] (Ge cs)) (FR:aX P w K mg base 6 "read_field" ["reader"] (GZ cs))
  (BK:kO P w K mg base 1 "Book" cs.boo ["self","prime"] (Sx cs)) (PE':aX P w K mg base 6 "read_people" ["reader","book"] (Hg cs)) (NW:bw P w K mg base 1 cs.cB "now" ["self"] (mj cs)) (LE:aX P w K mg base 9 "read_let" ["reader","book"] (Yd cs))
  (TK:bw P w K mg base 4 cs.cB "take" ["self","stands"] (oR cs)) (LM:aX P w K mg base 4 "keep_limits" ["book"] (Hl cs)):aX P w K mg base 10 "book_of" ["text"] (zy K cs):=by
 obtain ⟨f,fd,F,hm⟩:=T.ex;obtain ⟨fC,fdC,JV,MC,bC,GC⟩:=OR.ex;have GC9:=GC.mono (by decide:2≤8);obtain ⟨t1,hLT⟩:=hLT;obtain ⟨t2,hE⟩:=hE;refine ⟨f,fd,hm,F.kp,F.binds (fun _ _ _ _ _ _ us hl=>match us,hl with | [_],_=>rfl),Bs F vq (fun vs H Q E h=>?_) (fun cdv A outer s H vs Q E hr h=>?_)⟩
 ·obtain ⟨la,bs,rfl,_⟩:=h;rfl
 ·obtain ⟨la,bs,rfl,hla,hbs,hlb,kq,kx⟩:=h;refine ⟨_,aq (dD (aQ tG (aU aO (by rfl) hlen PySem.boot_len (aj (pv 0) aA)) (bF (v:=.int 65536) (by rfl) hLT ⟨t1,rfl⟩) (aY _)) (aC (iU MC GC9 hr bC rfl JV)) bU)
   (aq (aZ (i:=1) vq.nd rfl (Or.inl rfl) (rR (RD.mono (by decide:1≤8)) hr rfl aG (aj (bM (TO.mono (by decide:3≤9)) hr rfl aG (aj (pv 0) aA)) aA)))
   (aq (aZ (i:=2) vq.nd rfl (Or.inl rfl) (rR (BK.mono (by decide:1≤8)) hr rfl aG (aj (bM (FR.mono (by decide:6≤9)) hr rfl bh (aj (pv 1) aA)) aA)))
   (aq (aN (bM (PE'.mono (by decide:6≤9)) hr rfl bh (aj (pv 1) (aj (pv 2) aA))))
   (aq (gU PassesOwn.leaving (aQ gV (aM (dR (pv 1) cl (NW.mono (by decide:1≤9)) hr aG) rfl) cR (aY _)) (aC (aN (bM LE hr rfl bh (aj (pv 1) (aj (pv 2) aA))))))
   (aq (aN (bK (pv 1) cl (TK.mono (by decide:4≤9)) hr bh (aj (d9 gV (aM (dR (pv 1) cl (NW.mono (by decide:1≤9)) hr aG) rfl) (bF (v:=.str "end") (by rfl) hE ⟨t2,rfl⟩) (aY _)) aA)))
   (aq (aN (bM (LM.mono (by decide:4≤9)) hr rfl bh (aj (pv 2) aA)))
   (aC (bf (pv 2))))))))),?_⟩
  have tok:QW (VF bs):=ZP hlb;have etk:=Ud hbs;have hT0:∃ t,(VF bs)[0]?=some t:=by
   obtain ⟨xs,p,e⟩:=sH ((bs.map cls).length+1) 0 (bs.map cls);have e':VF bs=xs++[([],p)]:=e;exact ⟨_,List.getElem?_eq_getElem (show 0 < (VF bs).length by rw [e',List.length_append];simp)⟩
  obtain ⟨t0,ht0⟩:=hT0;obtain ⟨T,hT⟩:∃ T,T=VF bs:=⟨_,rfl⟩;rw [←hT] at tok etk ht0;have hTl:=tok.few;have err:∀ k,program (toks bs)=.error k→uE E cs.cst (-100-(k:Int)):=fun k hk=>by
   refine (kx _ ?_).1;unfold taken;rw [hk]
  have ep:program (toks bs)=(Rb35.field (tk T 0)).bind fun x=>(fK x.2).bind fun y=>(lW y.1 y.2).map fun e=>⟨x.1,e.people,e.lets⟩:=by
   rw [etk];exact Ar _
  refine ⟨_,rfl,_,_,rfl,.inl hla,_,_,rfl,rfl,_,rfl,bV (fun hc=>?_) fun _=>?_⟩
  ·exfalso;have h1:(65536:Int) < ((nV bs).length:Int):=of_decide_eq_true hc;rw [aK] at h1;omega
  refine ⟨_,rfl,la,bs,rfl,hla,hbs,hlb,fun lt as H1 RT nlt s1=>?_⟩;rw [←hT] at RT;intro r dr nr ndr ner;refine ⟨r,dr,lt,rfl,ao,fun H2 h2 k2=>⟨rfl,?_⟩⟩;have s12:Same H1 H2:=Same.made nr ndr fun c o e hc=>k2 c o e (by simpa using hc);have s2:=s1.trans s12;have nr0:H r=none:=s1.free nr;have R2:bN cs H2 r lt as T 0:=⟨⟨dr,h2⟩,s12 _ _ RT.lst,RT.len,fun j a t e1 e2=>by
   obtain ⟨dy,h⟩:=RT.at_ j a t e1 e2;exact ⟨dy,s12 _ _ h⟩⟩
  refine ⟨_,rfl,r,lt,as,T,0,t0,rfl,R2,tok,ht0,fun H3 p j3 u3 ef R3 k3 Qa _=>?_,fun k hk=>err k (by rw [ep,hk];rfl)⟩;have s3:Same H H3:=uh s2 k3 fun x hx=>by simp at hx;rw [hx];exact nr0
  rw [ef] at ep;have ep1:program (toks bs)=(fK (tk T j3)).bind fun y=>(lW y.1 y.2).map fun e=>⟨p,e.people,e.lets⟩:=ep;intro b db nb ndb neb;refine ⟨b,db,(p:Int),rfl,ao,fun pa na la' ma H4 h4 hpa hna aex hma npa nna nla nma nd4 k4=>⟨rfl,?_⟩⟩;have s34:Same H3 H4:=Same.made nb ndb fun c o e hc=>k4 c o e (by simpa using hc);have ab7:=cW npa;have ab8:=cW nna;have ab9:=cW nla;have acd:=cW nma;have s4:=s3.trans s34;have R4:=R3.same s34;have Rb4:aV cs H4 b ⟨pa,na,la',ma,[]⟩ p ⟨[],[],[]⟩:=⟨⟨db,h4⟩,hpa,hna,aex,hma,rfl,fun j x n e1 e2=>by simp at e1,by show [pa,na,la'].Nodup;exact nd4⟩;have ZR:∀ {x:Addr},H3 x=none→lt≠x:=fun hx=>aB R3.tk.lst hx;refine ⟨_,rfl,_,rfl,r,lt,as,T,j3,b,⟨pa,na,la',ma,[]⟩,p,u3,rfl,R4,Rb4,ZR ab7,tok,Qa,fun H5 l j5 u5 e5 R5 W8 k5 hu5 _ hl5=>?_,fun k hk=>err k (by rw [ep1,hk];rfl)⟩;have s5:Same H H5:=uh s4 k5 fun x hx=>by
   simp only [List.mem_cons,List.not_mem_nil,or_false] at hx;rcases hx with rfl | rfl | rfl
   ·exact nr0
   ·exact s3.free ab7
   ·exact s3.free acd
  rw [e5] at ep1;have ep2:program (toks bs)=(lW ⟨l,[]⟩ (tk T j5)).map fun e=>⟨p,e.people,e.lets⟩:=ep1;have ok5:(⟨l,[],[]⟩:Bk).Ok:=⟨Good.nil,fun x hx=>by simp at hx,Eh.nil⟩;have Xb:(⟨l,[],[]⟩:Bk).names.length≤j5:=by
   show (l.zipIdx++[]).length≤_;rw [List.append_nil,List.length_zipIdx];exact hl5
  refine lq (LeI cs H la r lt as T b ⟨pa,na,la',ma,[]⟩ p l j5) (fun _ H'=>W2 T r H') ⟨⟨pa,na,la',ma,[]⟩,⟨l,[],[]⟩,j5,u5,rfl,R5,W8,⟨rfl,rfl,rfl,rfl⟩,ok5,⟨by simp,fun x hx=>by simp at hx,by simp⟩,Xb,s5,hu5,rfl⟩ ?_;rintro σ H6 ⟨A6,B,j6,u6,rfl,R6,Rb6,DG,ok6,fw6,hn6,s6,Ye,e6⟩;obtain ⟨d6,ob6⟩:=R6.ob;have ahh:=(List.getElem?_eq_some_iff.mp Ye).1;have lna:lt≠A6.na:=by rw [DG.1];exact ZR ab8
  have lla:lt≠A6.la:=by rw [DG.2.2.1];exact ZR ab9
  refine qj qK qL rfl R6 Ye ⟨rfl,_,rfl,bV (fun hc=>?_) fun hc=>?_⟩
  ·rw [sE J4] at hc;have Hr:=of_decide_eq_true hc;have e7:=e6.trans (Uh Ye Hr);refine X5 ?_;refine ⟨_,rfl,_,rfl,r,lt,as,T,j6,b,A6,p,B,u6,rfl,R6,Rb6,lna,lla,ok6,fw6,hn6,tok,Ye,Hr,fun H7 j7 A7 ns7 x nm u7 el R7 Rb7 Xd ok7 fw7 k7 hu7 hij=>?_,fun k hk=>err k (by rw [ep2,e7,hk];rfl)⟩;rw [el] at e7;obtain ⟨d7,ob7⟩:=R7.ob;refine ⟨⟨A7,_,j7,u7,rfl,R7,Rb7,⟨Xd.1.trans DG.1,Xd.2.1.trans DG.2.1,Xd.2.2.1.trans DG.2.2.1,Xd.2.2.2.trans DG.2.2.2⟩,ok7,fw7,?_,uh s6 k7 (fun y hy=>?_),hu7,e7⟩,?_⟩
   ·show (B.people.zipIdx++(B.ls++[(nm,x)])).length≤j7;have:(B.people.zipIdx++B.ls).length≤j6:=hn6;rw [List.length_append] at this;rw [List.length_append,List.length_append,List.length_singleton];omega
   ·simp only [List.mem_cons,List.not_mem_nil,or_false] at hy;rcases hy with rfl | rfl | rfl | rfl
    ·exact nr0
    ·rw [DG.1];exact s3.free ab8
    ·rw [DG.2.2.1];exact s3.free ab9
    ·rw [DG.2.1];exact s3.free acd
   ·rw [jO ob6,jO ob7];omega
  ·rw [sE J4] at hc;have Hr:¬ u6.1=ascii "let":=fun z=>hc (decide_eq_true z);refine cC rfl R6 (by decide +kernel) (by decide +kernel) ?_;refine uf qK qL rfl R6 Ye ⟨rfl,?_⟩;refine ⟨r,lt,as,T,j6,u6,_,rfl,R6,Ye,fun hq H7 R7 k7=>?_,fun hq=>?_⟩
   ·rw [Bx] at hq;have hend:=Gq.mp (of_decide_eq_true hq);have e7:=e6.trans (Ui Ye hend);rw [e7] at ep2;have ep3:program (toks bs)=.ok ⟨p,B.known.people,B.known.lets⟩:=ep2;have s7:Same H H7:=uh s6 k7 fun y hy=>by simp at hy;rw [hy];exact nr0
    have fle:=fw6.le;have hnn:B.people.length+B.ls.length≤j6:=by
     have:(B.people.zipIdx++B.ls).length≤j6:=hn6
     rwa [List.length_append,List.length_zipIdx] at this
    have sz:Sz B:=⟨by omega,by simp at fle;omega,fw6.wi,by omega⟩;have DN:taken bs=if small ⟨p,B.known.people,B.known.lets⟩=true then .good ⟨p,B.known.people,B.known.lets⟩ else .bad (-5):=by
     unfold taken;rw [ep3]
    refine ⟨_,rfl,b,A6,p,B,rfl,Rb6.read co R6 k7,ok6,sz,fun hs H8 s8=>?_,fun hs=>?_⟩
    ·rw [show (⟨p,B.people,B.known.lets⟩:Prog)=⟨p,B.known.people,B.known.lets⟩ from rfl] at hs;rw [if_pos hs] at DN;refine ⟨_,rfl,kq _ b A6 B H8 DN ((Rb6.read co R6 k7).keep (Kp.same s8 []) (fun y hy=>by simp at hy)) ok6 sz rfl rfl hs (s7.trans s8)⟩
    ·rw [show (⟨p,B.people,B.known.lets⟩:Prog)=⟨p,B.known.people,B.known.lets⟩ from rfl] at hs;rw [if_neg hs] at DN;exact (kx _ DN).2
   ·rw [Bx] at hq;have hend:¬ u6.1=[]:=fun z=>absurd (Gq.mpr z) (of_decide_eq_false hq);exact err _ (by rw [ep2,e6,Uj Ye hend Hr];rfl)
end
end Pg
end
section
set_option linter.all false
set_option maxRecDepth 100000
set_option maxHeartbeats 4000000
namespace Xc
open PySem PySem.W PySem.Builtin PySem.Builtin.ObjectAttr
section
variable {prog:Program}{w:World}{A:Around}{E:Value→Shared→Prop}{s:Shared}{K:Frag}{x C:Addr}{ox:Obj}{od:Option Obj}{name:Str}{expr:Bool}{Q:Value→Shared→Prop}
theorem Xe {v:Value}{tk:Tok}{Q:Fin→Shared→Prop} (X:K.In s.heap) (I:InstAt s.heap x ox C od) (hf:findObj K C od name=some (.value v)) (h:Q (.done (.ret v)) s) :
  wpAny (model prog w) A (Builtin.«object.__getattribute__» ⟨[.ref x,.str name tk],[]⟩) Q E s:=by
 have l0:=I.type (M:=model prog w);have l1:=looks_find (M:=model prog w) X I hf;refine wpAny_bind (wpAny_pure (wpAny_bind (wpAny_pure (wpAny_bind (l0.here (wpAny_bind (l1.here ?_)))))));exact wpAny_pure h
theorem aeA {v:Value} (X:K.In s.heap) (I:InstAt s.heap x ox C od) (hga:findIn K (.ref C) "__getattribute__"=some (some (.builtin "BaseException.__getattribute__"))) (hgr:findIn K (.ref C) "__getattr__"=some none)
  (hsub:subIn K (.ref C) (.type "BaseException")=some true) (hf:findObj K C od name=some (.value v)) (hh:handedIn v=true) (h:Q v { s with toks:=s.toks+1 }):wpAny (model prog w) A (getAttr (.ref x) name expr) Q E s:=by
 obtain ⟨hp,g,d,t,os⟩:=s;have l0:=I.type (M:=model prog w);have l1:=looks_findIn (M:=model prog w) X hga;have l2:=looks_hook (M:=model prog w) (mc:=.ref C) X (r:=none) (by rw [if_pos (show onTheHeap (Value.ref C)=true from rfl)];exact hgr);have l3:Looks (model prog w) hp (isInstance (.ref x) (.type "BaseException")) true:=l0.andThen (looks_subIn X hsub);have ne:(Value.builtin "BaseException.__getattribute__"==Value.builtin "object.__getattribute__")=false:=by decide +kernel
 unfold getAttr getAttrBy;refine wpAny_bind (wpAny_mkText (wpAny_holding (wpAny_bind (l0.at (wpAny_bind (l1.at ?_))))));dsimp only;rw [ne,Bool.and_false,if_neg Bool.false_ne_true];unfold getAttrByItsOwn;refine wpAny_bind (l2.at (wpAny_bind (wpAny_attempt (wpAny_holding ?_))));unfold callGetattribute;rw [if_neg (show ¬ (expr&&onTheHeap (Value.builtin "BaseException.__getattribute__"))=true from by cases expr <;> exact Bool.false_ne_true)];unfold boundAndCalled;rw [PySem.F.attr_Exception.ga.bind];refine wpAny_bind (wpAny_pure (wpAny_call (codeAny_call_builtin PySem.F.attr_Exception.ga.plain PySem.F.entry_bexc_ga ?_)));refine @check_slot (model prog w) _ _ ⟨hp,g,d,t+1,os⟩ "BaseException.__getattribute__" "BaseException" "__getattribute__" (.ref x) [.str name t] [] _ (by decide +kernel) (by decide +kernel) l3 (PySem.F.args_bexc_ga (.ref x) (.str name t)) ?_;refine Xe (s:=⟨hp,g,d,t+1,os⟩) X I hf ?_;show wpAny _ _ (handedOut v) _ _ _;rw [handedOut_of hh];exact wpAny_pure h
end
end Xc
end
section
set_option linter.all false
set_option maxRecDepth 100000
set_option maxHeartbeats 4000000
namespace Xc
open PySem PySem.W PySem.Builtin
structure zA (K:Frag) (R:Addr):Prop where
 ZS:instIn K (.ref R) (.type "tuple")=some false
 aeB:(clsIn K R).isSome=true
 isExc:subIn K (.ref R) (.type "BaseException")=some true
section
variable {M:Model}{A:Around}{E:Value→Shared→Prop}{s:Shared}{K:Frag}{a C R:Addr}{oe:Obj}{Q:Bool→Shared→Prop}
theorem Hs (X:K.In s.heap) (c:zA K R) (he:s.heap.get? a=some oe) (hc:oe.cls=.ref C) (hs:subIn K (.ref C) (.ref R)=some true) (h:Q true s):wpAny M A (excMatches (.ref a) (.ref R)) Q E s:=by
 obtain ⟨hp,g,d,t,os⟩:=s;have l1:=looks_instIn (M:=M) X c.ZS;have l2:Looks M hp (isType (.ref R)) true:=by
  have e:=c.aeB;unfold clsIn at e;split at e
  ·rename_i ho;exact (Looks.ld (X _ _ ho)).andThen .now
  ·cases e
 have l3:=looks_subIn (M:=M) X c.isExc;have l4:Looks M hp (typeOf (.ref a)) (.ref C):=hc▸(Looks.ld he).andThen .now;have l5:=looks_subIn (M:=M) X hs;unfold excMatches isExcClass
 repeat (first | simp only [Bool.not_true,Bool.false_eq_true,if_false,if_true,List.forIn_cons,List.forIn_nil] | lk)
 exact h
end
end Xc
end
section
set_option linter.all false
set_option maxRecDepth 100000
namespace Xc
open PySem PySem.Spec PyProof.Rows L2
def Nb (C dx a:Addr):Heap→Prop:=fun h=>∃ o vs,h.get? a=some o∧o.cls=.ref C∧o.dict=some dx∧o.data=.fields vs
structure Av (K:PySem.W.Frag) (C:Addr):Prop where
 ga:PySem.W.findIn K (.ref C) "__getattribute__"=some (some (.builtin "BaseException.__getattribute__"))
 gr:PySem.W.findIn K (.ref C) "__getattr__"=some none
 sub:PySem.W.subIn K (.ref C) (.type "BaseException")=some true
 dct:PySem.W.hasDictIn K C=true
def ace (K:PySem.W.Frag) (ta:TE) (f:Str):TE:=fun σ H Q=>ta σ H fun x H1=>∃ a C dx fs v,x=.ref a∧H1 a=some (.ext (Nb C dx a))∧H1 dx=some (.xd fs)∧Av K C∧PySem.W.findIn K (.ref C) f=some none∧fs.lookup f=some v∧Q v H1
section
variable {X:Cx}{e:Expr}{f:Str}{pos:Pos}{ta:TE}
theorem Xf (he:PE X e ta) (hb:attributeBase e f X.env (eval e X.env)=eval e X.env):PE X (.Attribute e f pos) (ace X.K ta f):=by
 intro pins s σ H Q I h;refine Mf hb (dI (he pins s σ H _ I h) fun u s1 ⟨x,H1,I1,rx,a,C,dx,fs,v,ex,ea,ed,c,n,l,q⟩=>?_);subst ex;obtain rfl:u=Value.ref a:=rx;obtain ⟨⟨o,vs,ho,hc,hd,hv⟩,_,_⟩:=I1.hok a _ ea;obtain ⟨mA,hns,hr⟩:=I1.hok dx _ ed;obtain ⟨od,hod,hl⟩:=Bb hns;have r:=hr f;rw [l] at r;obtain ⟨u',e',r'⟩:=r.some_of;have J:PySem.W.InstAt s1.heap a o C (some od):=⟨ho,hc,by unfold PySem.W.notCls;rw [hv],by rw [hd];exact hod⟩;refine aeA I1.rH J c.ga c.gr c.sub (PySem.W.findObj_own c.dct n rfl (by rw [hl,e'])) (Bc r') ?_;exact ⟨v,H1,I1.tok _,r',q⟩
end
section
variable {X:Cx}{pins:List (Addr×Obj)}{σ:L2.St}{H:Hp}{s:Shared}{h':Heap}
theorem ql {n i:Nat}{v:V} (h:(List.replicate n (none:Option V))[i]?=some (some v)):False:=by
 rw [List.getElem?_replicate] at h;split at h <;> cases h
theorem Ht {m':Str→Option Value}{t':Nat} (I:Inv X pins σ H s) (hs:Heap.SameBut X.env.locals s.heap h') (hn:h'.Ns X.env.locals m'):Inv X pins (List.replicate X.N.length none) H { s with heap:=h',toks:=t' }:=by
 have nl:∀ b u,H b=some u→b≠X.env.locals:=fun b u e z=>by rw [z,I.free] at e;cases e
 have n0:∀ b o,X.s_0.heap.get? b=some o→b≠X.env.locals:=fun b o e=>Nat.ne_of_lt (Nat.lt_of_lt_of_le (Heap.lt_size e) I.ok.above);refine ⟨I.ok,I.os,I.bare,⟨fun b o e n hb hx=>?_,fun b o e n hb hx=>?_,I.base.free,fun b o e hx=>?_,I.base.tups,I.base.pC,I.base.pD⟩,⟨m',hn,fun i x v e1 e2 e3=>(ql e2).elim⟩,fun x c e=>?_,I.free,I.jQ,fun p hp=>?_,fun b o e=>?_,List.length_replicate⟩
 ·exact (hs.2 b (n0 b o e)).trans (I.base.keep b o e n hb hx)
 ·obtain ⟨sl,q⟩:=I.base.slot b o e n hb hx;exact ⟨sl,(hs.2 b (n0 b o e)).trans q⟩
 ·obtain ⟨o',q⟩:=I.base.there b o e hx;exact ⟨o',(hs.2 b (n0 b o e)).trans q⟩
 ·obtain ⟨v,z⟩:=I.cell x c e;exact ⟨v,z.sameBut hs (I.VJ x c e)⟩
 ·obtain ⟨e,n,ne,nf,d⟩:=I.pin p hp;exact ⟨(hs.2 p.1 ne).trans e,n,ne,nf,d⟩
 ·refine (I.hok b o e).stay (fun c v hc q=>(hs.2 c ?_).trans q) (fun _ q=>q) fun _ _ q=>q;rcases hc with rfl | hc
  ·exact nl _ _ e
  ·exact nl _ _ hc
theorem ZV {a C dx:Addr} (I:Inv X pins σ H s) (hx:Nb C dx a s.heap) (hn:H a=none) (hl:a≠X.env.locals) (hc:∀ x c,X.env.cells.lookup x=some c→c≠a) (hp:∀ p∈X.pn++pins,p.1≠a)
  (h0:∀ o,X.s_0.heap.get? a=some o→X.Yr a=none→a∉X.ex→False):Inv X pins σ (upd H a (.ext (Nb C dx a))) s:=by
 have tr:∀ b u,H b=some u→b≠a:=fun b u e=>aB e hn;obtain ⟨o,vs,ho,c1,c2,c3⟩:=id hx;refine ⟨I.ok,I.os,I.bare,⟨I.base.keep,I.base.slot,fun b ob e n hb=>?_,I.base.there,fun b xs e=>?_,fun b ob u e=>?_,fun b ps e=>?_⟩,I.loc,I.cell,by rw [ak hl.symm];exact I.free,fun x c e=>by rw [ak (hc x c e)];exact I.jQ x c e,fun p q=>?_,fun b u e=>?_,I.len⟩
 ·by_cases hba:b=a
  ·subst hba;exact (h0 ob e n hb).elim
  ·rw [ak hba];exact I.base.free b ob e n hb
 ·have q:=I.base.tups b xs e;rw [ak (tr b _ q)];exact q
 ·have q:=I.base.pC b ob u e;rw [ak (tr b _ q)];exact q
 ·obtain ⟨m,q⟩:=I.base.pD b ps e;exact ⟨m,by rw [ak (tr b _ q)];exact q⟩
 ·obtain ⟨e,n,ne,nf,d⟩:=I.pin p q;exact ⟨e,by rw [ak (hp p q)];exact n,ne,nf,d⟩
 ·by_cases hba:b=a
  ·subst hba;rw [ao] at e;obtain rfl:=Option.some.inj e;exact ⟨hx,⟨o,ho⟩,fun h1 h2 ⟨o',vs',z,r⟩ k=>⟨o',vs',k _ z,r⟩⟩
  ·rw [ak hba] at e;exact (I.hok b u e).stay (fun c v _ q=>q) (fun c q=>by rw [ak (tr c _ q)];exact q) fun c xs q=>by rw [ak (tr c _ q)];exact q
end
end Xc
end
section
set_option linter.all false
set_option maxRecDepth 100000
set_option maxHeartbeats 2000000
namespace Xc
open PySem PySem.Spec PyProof.Rows L2
abbrev suite (X:Cx) (a:Addr):Cx:={ X with A:=X.A.mark (some (.ref a)),calm:=false }
section
variable {X:Cx}{pins:List (Addr×Obj)}{σ:L2.St}{H:Hp}{s:Shared}{a:Addr}
theorem Ul (ok:X.Ok):(suite X a).Ok:=⟨ok.mod,ok.kind,ok.glob,ok.blt,ok.above,ok.inj,ok.has,ok.cab,fun z=>absurd (show false=true from z) Bool.false_ne_true,ok.frames,ok.stk,ok.exf,ok.bs,ok.QM,ok.Oi,ok.Oj,ok.rG,ok.VH⟩
theorem BZ (I:Inv X pins σ H s):Inv (suite X a) pins σ H s:=⟨Ul I.ok,I.os,I.bare,I.base,I.loc,I.cell,I.free,I.jQ,I.pin,I.hok,I.len⟩
theorem Hu (ok:X.Ok) (I:Inv (suite X a) pins σ H s):Inv X pins σ H s:=⟨ok,I.os,I.bare,I.base,I.loc,I.cell,I.free,I.jQ,I.pin,I.hok,I.len⟩
end
section
variable {P:Program}{w:World}{K:PySem.W.Frag}{mg:Str→Option Value}{base:Heap}{N:List Str}{qual:Str}{scope:Scope}{f:Addr}{cd:Value}{A:Around}{outer:List Env}{s:Shared}{H:Hp}{E:XK}
theorem Hv {P:Program}{w:World}{H:Hp}{h:Heap}{a:Addr}{o:HO} (x:fD P w H h a o):∃ ob,h.get? a=some ob:=by
 cases o with
 | lst xs=>obtain ⟨_,_,_,_,e⟩:=x;exact ⟨_,e⟩
 | tup xs=>obtain ⟨_,_,_,ob,e,_⟩:=x;exact ⟨_,e⟩
 | dK kvs=>obtain ⟨_,_,_,_,o,_,_,e,_⟩:=x;exact ⟨_,e⟩
 | dT kvs=>obtain ⟨_,_,_,_,o,_,_,e,_⟩:=x;exact ⟨_,e⟩
 | set S n=>obtain ⟨o,_,_,_,e,_⟩:=x;exact ⟨_,e⟩
 | ins C dx fs=>obtain ⟨_,_,_,e,_⟩:=x;exact ⟨_,e⟩
 | own y=>exact x
 | xd fs=>obtain ⟨_,⟨_,_,_,e,_⟩,_⟩:=x;exact ⟨_,e⟩
 | rng lo hi=>obtain ⟨_,_,_,e⟩:=x;exact ⟨_,e⟩
 | Ek ob u=>obtain ⟨e,_⟩:=x;exact ⟨_,e⟩
 | uF ps=>exact ⟨_,(show h.get? a=some _ from x)⟩
 | met f y=>exact ⟨_,(show h.get? a=some _ from x)⟩
 | ext φ=>obtain ⟨_,e,_⟩:=x;exact e
structure Ka (P:Program) (w:World) (outer:List Env) (H:Hp) (s:Shared) (E:XK) (a:Addr) (s':Shared) (B:Heap) (C dx:Addr) (H':Hp):Prop where
 os:s'.os=s.os
 bare:AllBare s'.gens
 fr:s'.heap.FunFrames B outer
 dict:∃ o,s'.heap.get? a=some o∧o.dict=some dx
 keep:∀ b o,s.heap.get? b=some o→H b=none→b∉frs outer→B.get? b=some o
 un:Un (frs outer) [] H H' s.heap s'.heap
 hok:pB P w H' B
 wish:E (.ref C) (some dx) H'
theorem landed {σ:L2.St}{H1:Hp}{s1 s':Shared}{E':XK}{a C dx:Addr}{B:Heap}{H':Hp}{h:Heap}{tk:Nat} (I:Inv (aL (bI P w) P w K mg base N qual scope f cd A outer s H E) [] σ H1 s1)
  (F:Ka P w (aL (bI P w) P w K mg base N qual scope f cd A outer s H E).stack H1 s1 E' a s' B C dx H') (st:B.StaysIn h) (up:s'.heap.UpToSlots h) (dk:DK s'.heap h)
  (hc:(aL (bI P w) P w K mg base N qual scope f cd A outer s H E).env.cells=[]) :
  Inv (aL (bI P w) P w K mg base N qual scope f cd A outer s H E) [] (List.replicate N.length none) H' { s' with heap:=h,toks:=tk }:=by
 have rA:∀ b:Addr,b∉(aL (bI P w) P w K mg base N qual scope f cd A outer s H E).ex:=fun b z=>absurd (show b∈([]:List Addr) from z) (by simp);have inS:∀ b,b∈frs outer→b∈frs (aL (bI P w) P w K mg base N qual scope f cd A outer s H E).stack:=fun b hb=>by
  show b∈List.filterMap _ (_::outer);rw [List.filterMap_cons];exact List.mem_cons_of_mem _ hb
 have keep:∀ b o,s.heap.get? b=some o→H b=none→b∉frs outer→B.get? b=some o:=fun b o q n hb=>by
  refine F.keep b o (I.base.keep b o q n hb (rA b)) (I.base.free b o q n (rA b)) fun z=>?_;rcases List.mem_cons.mp (I.mC b z) with e1 | e1
  ·have l1:=Heap.lt_size q;have l2:s.heap.objs.size≤b:=by rw [e1];exact I.ok.above
   exact absurd (Nat.lt_of_lt_of_le l1 l2) (Nat.lt_irrefl _)
  ·exact hb e1
 have frame:∀ b o,s1.heap.get? b=some o→H1 b=none→b∈frs (aL (bI P w) P w K mg base N qual scope f cd A outer s H E).stack→∃ sl,h.get? b=some { o with slots:=sl }:=fun b o q n hb=>by
  obtain ⟨sl2,e2⟩:=F.un.slot b o q n hb (by simp);obtain ⟨_,o3,e3,d3⟩:=F.fr.mem hb;rw [e2] at e3;obtain rfl:=Option.some.inj e3;obtain ⟨Y4,e4⟩:=up b _ e2 d3;exact ⟨Y4,e4⟩
 have inL:(aL (bI P w) P w K mg base N qual scope f cd A outer s H E).env.locals∈frs (aL (bI P w) P w K mg base N qual scope f cd A outer s H E).stack:=by
  show _∈List.filterMap _ (_::outer);rw [List.filterMap_cons];exact List.mem_cons_self
 obtain ⟨m,hn,_⟩:=I.loc;obtain ⟨oL,es,ep,hL,dL,rL⟩:=hn;obtain ⟨slL,eL⟩:=frame _ oL hL I.free inL;refine ⟨I.ok,F.os.trans I.os,F.bare,⟨fun b ob q n hb _=>st b ob (keep b ob q n hb),fun b ob q n hb _=>?_,fun b ob q n _=>?_,fun b ob q _=>?_,fun b xs q=>F.un.tups b xs (I.base.tups b xs q),fun b ob u q=>F.un.pC b ob u (I.base.pC b ob u q),fun b ps q=>?_⟩,
  ⟨m,⟨_,es,ep,eL,dL,rL⟩,fun i x v e1 e2 e3=>(ql e2).elim⟩,fun x c e=>?_,F.un.free _ oL hL I.free (by simp),fun x c e=>?_,fun p hp=>absurd (show p∈([]:List (Addr×Obj)) from hp) (by simp),F.hok.kept st,List.length_replicate⟩
 ·obtain ⟨sl,e1⟩:=I.base.slot b ob q n hb (rA b);obtain ⟨sl2,e2⟩:=frame b _ e1 (I.base.free b ob q n (rA b)) (inS b hb);exact ⟨sl2,e2⟩
 ·obtain ⟨o1,e1⟩:=I.base.there b ob q (rA b);exact F.un.free b o1 e1 (I.base.free b ob q n (rA b)) (by simp)
 ·obtain ⟨o1,e1⟩:=I.base.there b ob q (rA b);obtain ⟨o2,e2⟩:=F.un.there b o1 e1 (by simp);obtain ⟨o3,e3,_⟩:=dk b o2 e2;exact ⟨o3,e3⟩
 ·obtain ⟨m1,e1⟩:=I.base.pD b ps q;obtain ⟨m2,e2⟩:=F.un.pD b _ e1;exact ⟨m1++m2,by rw [e2,Array.append_assoc]⟩
 ·rw [hc] at e;cases e
 ·rw [hc] at e;cases e
def qm (K:PySem.W.Frag) (R:Addr) (Q:VK):XK:=fun cl d H'=>∃ C dx fs num,cl=.ref C∧d=some dx∧PySem.W.subIn K (.ref C) (.ref R)=some true∧Av K C∧PySem.W.findIn K (.ref C) "number"=some none ∧
 H' dx=some (.xd fs)∧fs.lookup ("number":Str)=some (.int num)∧∀ p,H' p=none→∀ a,p≠a→Q (.ref p) (upd (upd H' a (.ext (Nb C dx a))) p (.lst [.int num]))
variable {R:Addr}{x n:Str}{np p1 p2 p3 p4 hpos:Pos}
theorem um {σ:L2.St}{H1:Hp}{s1 s':Shared}{a C dx:Addr}{B h2:Heap}{a0:Value}{H':Hp}{D:Ends}{i:Nat} (I:Inv (aL (bI P w) P w K mg base N qual scope f cd A outer s H E) [] σ H1 s1) (cc:zA K R) (hm:mg x=some (.ref R))
  (F:Ka P w (aL (bI P w) P w K mg base N qual scope f cd A outer s H E).stack H1 s1 (qm K R D.rt) a s' B C dx H') (held:Heap.HeldW B (aL (bI P w) P w K mg base N qual scope f cd A outer s H E).stack a (.ref C) a0 (aL (bI P w) P w K mg base N qual scope f cd A outer s H E).env.locals h2)
  (up2:s'.heap.UpToSlots h2) (Yg:DK s'.heap h2) (hc:(aL (bI P w) P w K mg base N qual scope f cd A outer s H E).env.cells=[])
  (hg:Gl (aL (bI P w) P w K mg base N qual scope f cd A outer s H E) x) (hN:N.Nodup) (hi:N[i]?=some n) (hl:scope.names.lookup n=some .local)
  (hdb:(x==("__debug__":Str))=false) (Um:(n==("__debug__":Str))=false) (Uo:(n==("__classdict__":Str))=false) :
  wpAny (model P w) (aL (bI P w) P w K mg base N qual scope f cd A outer s H E).A (setFlight (.ref a) none)
   (fun _ s3=>wpAny (model P w) (aL (bI P w) P w K mg base N qual scope f cd A outer s H E).A
    (handleBy (.ref a) (aL (bI P w) P w K mg base N qual scope f cd A outer s H E).env [.ExceptHandler (some (.Name x np)) (some n) [.Return (some (.List [.Attribute (.Name n p1) "number" p2] p3)) p4] hpos])
    (SP (aL (bI P w) P w K mg base N qual scope f cd A outer s H E) [] D) (aL (bI P w) P w K mg base N qual scope f cd A outer s H E).xe s3) (aL (bI P w) P w K mg base N qual scope f cd A outer s H E).xe { s' with heap:=h2 }:=by
 obtain ⟨C',dx',fs,num,e2,e3,hsub,gx,nn,hxd,hnum,hQ⟩:=F.wish;obtain rfl:C=C':=by injection e2
 obtain rfl:dx=dx':=by injection e3
 refine wpAny_mono (Kd.any (uR _ _) (wpAny_landsW (s:={ s' with heap:=h2 }) (Q:=fun _ s''=>∃ h,s''={ s' with heap:=h }∧Heap.FlyingW B (aL (bI P w) P w K mg base N qual scope f cd A outer s H E).stack a (.ref C) a0 h∧h2.UpToSlots h) held fun h f1 f2=>⟨h,rfl,f1,f2⟩)) ?_ fun e' s'' z=>z;rintro _ s3 ⟨⟨h3,rfl,ZW,up3⟩,dk3⟩;have I3:Inv _ [] _ H' { s' with heap:=h3,toks:=s'.toks }:=landed I F ZW.1 (up2.trans up3) (Yg.trans dk3) hc;obtain ⟨o,ho,hd⟩:=F.dict;obtain ⟨o3,ho3,Zz,_⟩:=(Yg.trans dk3) a o ho;obtain ⟨oc3,aeD,acf⟩:=ZW.there;obtain rfl:o3=oc3:=Option.some.inj (ho3.symm.trans aeD);refine wpAny_handleBy_cons (codeAny_handlers_test ?_) (by intro q;cases q);refine jT (X:=suite (aL (bI P w) P w K mg base N qual scope f cd A outer s H E) a) (BZ I3) hg hm ?_ hdb;refine Hs I3.rH cc ho3 acf hsub ?_;refine codeAny_handlers_suite_as ?_;refine wpAny_mono (Kd.any (uR _ _) (lands_againW (s:={ s' with heap:=h3 }) (Q:=fun _ s''=>∃ h,s''={ s' with heap:=h }∧Heap.FlyingW B (aL (bI P w) P w K mg base N qual scope f cd A outer s H E).stack a (.ref C) a0 h∧h3.UpToSlots h) ZW fun h f1 f2=>⟨h,rfl,f1,f2⟩)) ?_ fun e' s'' z=>z;rintro _ s4 ⟨⟨h4,rfl,Uq,up4⟩,dk4⟩;have I4:Inv _ [] _ H' { s' with heap:=h4,toks:=s'.toks }:=landed I F Uq.1 (up2.trans (up3.trans up4)) (Yg.trans (dk3.trans dk4)) hc;obtain ⟨o4,ho4,hd4,_⟩:=(Yg.trans (dk3.trans dk4)) a o ho;obtain ⟨oe,vs,T,oT,ts,he,⟨hcl,_⟩,hdat,_⟩:=Uq.2.2.2;obtain rfl:o4=oe:=Option.some.inj (ho4.symm.trans he);have Ol:a∉frs (aL (bI P w) P w K mg base N qual scope f cd A outer s H E).stack:=fun hb=>by
  obtain ⟨_,o5,e5,d5⟩:=Uq.2.2.1.mem hb;rw [ho4] at e5;obtain rfl:=Option.some.inj e5;exact d5 vs hdat
 have hna:H' a=none:=by
  cases q:H' a with
  | none=>rfl
  | some u=>
   obtain ⟨ob,e5⟩:=Hv (F.hok a u q);rw [Uq.2.1] at e5;cases e5
 have inL:(aL (bI P w) P w K mg base N qual scope f cd A outer s H E).env.locals∈frs (aL (bI P w) P w K mg base N qual scope f cd A outer s H E).stack:=by
  show _∈List.filterMap _ (_::outer);rw [List.filterMap_cons];exact List.mem_cons_self
 have hal:a≠(aL (bI P w) P w K mg base N qual scope f cd A outer s H E).env.locals:=fun z=>Ol (z▸inL);have I5:=ZV (X:=suite (aL (bI P w) P w K mg base N qual scope f cd A outer s H E) a) (C:=C) (dx:=dx) (BZ I4) ⟨o4,vs,ho4,hcl,hd4.trans hd,hdat⟩ hna hal (fun y c e=>by rw [hc] at e;cases e) (fun p hp=>absurd (show p∈([]:List (Addr×Obj)) from hp) (by simp)) (fun ob q n0 _=>by
  have hb:a∉frs outer:=fun hb=>Ol (by
   show _∈List.filterMap _ (_::outer);rw [List.filterMap_cons];exact List.mem_cons_of_mem _ hb)
  have rA:a∉(aL (bI P w) P w K mg base N qual scope f cd A outer s H E).ex:=fun z=>absurd (show a∈([]:List Addr) from z) (by simp);have k1:=I.base.keep a ob q n0 hb rA;have k2:=F.keep a ob k1 (I.base.free a ob q n0 rA) Ol;rw [Uq.2.1] at k2;cases k2)
 have hxa:dx≠a:=fun z=>by rw [z,hna] at hxd;cases hxd
 refine sY (X:=suite (aL (bI P w) P w K mg base N qual scope f cd A outer s H E) a) (v:=V.ref a) I5 hN hi (.inl hl) rfl (fun s5 I6=>?_) (.inl rfl);have hiN:i < N.length:=(List.getElem?_eq_some_iff.mp hi).1;have run:Jc (suite (aL (bI P w) P w K mg base N qual scope f cd A outer s H E) a).nox [.Return (some (.List [.Attribute (.Name n p1) "number" p2] p3)) p4] _:=
  aC (bf (fL (aj (Xf (Je hi (.inl hl) Um Uo) rfl) aA)))
 refine wpAny_mono (run [] s5 _ _ { nx:=fun _ _=>False,rt:=D.rt } (I6.wish _) ?_) ?_ fun e' s'' z=>False.elim z
 ·refine ⟨V.ref a,?_,a,C,dx,fs,.int num,rfl,ao,by rw [ak hxa];exact hxd,gx,nn,hnum,(by show 1≤sizeLine;decide),fun p hp=>?_⟩
  ·rw [List.getElem?_set_self (by rw [List.length_replicate];exact hiN)]
  ·have hpa:p≠a:=fun z=>by rw [z,ao] at hp;cases hp
   exact hQ p (by rw [ak hpa] at hp;exact hp) a hpa
 ·intro fl s6 h6;replace h6:=h6.jH;cases fl with
  | next=>obtain ⟨_,_,_,z⟩:=h6;exact z.elim
  | brk=>obtain ⟨_,_,_,z⟩:=h6;exact z.elim
  | cont=>obtain ⟨_,_,_,z⟩:=h6;exact z.elim
  | ret u=>
   obtain ⟨v,σ6,H6,I6',rv,q6⟩:=h6;obtain ⟨m6,n6,_⟩:=I6'.loc;refine wpAny_nameGoes (m:=m6) hl n6 (by rw [I.ok.kind];rfl) fun h7 m7 n7 sb7=>?_;exact ⟨v,_,H6,Ht (Hu I.ok I6') sb7 n7,rv,q6⟩
theorem Kc {σ:L2.St}{H1:Hp}{s1 s':Shared}{a:Addr}{Q:VK}{D:Ends}{i:Nat} (I:Inv (aL (bI P w) P w K mg base N qual scope f cd A outer s H E) [] σ H1 s1) (cc:zA K R) (hm:mg x=some (.ref R))
  (hF:bI P w (aL (bI P w) P w K mg base N qual scope f cd A outer s H E).stack H1 s1 (qm K R D.rt) (.ref a) s') (hc:(aL (bI P w) P w K mg base N qual scope f cd A outer s H E).env.cells=[])
  (hg:Gl (aL (bI P w) P w K mg base N qual scope f cd A outer s H E) x) (hN:N.Nodup) (hi:N[i]?=some n) (hl:scope.names.lookup n=some .local)
  (hdb:(x==("__debug__":Str))=false:=by decide) (Um:(n==("__debug__":Str))=false:=by decide) (Uo:(n==("__classdict__":Str))=false:=by decide) :
  wpAny (model P w) (aL (bI P w) P w K mg base N qual scope f cd A outer s H E).A (noteFrame (.ref a) (aL (bI P w) P w K mg base N qual scope f cd A outer s H E).env)
   (fun _ s2=>wpAny (model P w) (aL (bI P w) P w K mg base N qual scope f cd A outer s H E).A (setFlight (.ref a) none)
    (fun _ s3=>wpAny (model P w) (aL (bI P w) P w K mg base N qual scope f cd A outer s H E).A
     (handleBy (.ref a) (aL (bI P w) P w K mg base N qual scope f cd A outer s H E).env [.ExceptHandler (some (.Name x np)) (some n) [.Return (some (.List [.Attribute (.Name n p1) "number" p2] p3)) p4] hpos])
     (SP (aL (bI P w) P w K mg base N qual scope f cd A outer s H E) [] D) (aL (bI P w) P w K mg base N qual scope f cd A outer s H E).xe s3) (aL (bI P w) P w K mg base N qual scope f cd A outer s H E).xe s2)
   (aL (bI P w) P w K mg base N qual scope f cd A outer s H E).xe s':=by
 obtain ⟨a',B,C,dx,a0,H',e1,F⟩:=hF;obtain rfl:a=a':=by injection e1
 refine wpAny_mono (Kd.any (Dc _ _) (wpAny_looks_onW (Q:=fun _ s''=>∃ h,s''={ s' with heap:=h }∧Heap.HeldW B (aL (bI P w) P w K mg base N qual scope f cd A outer s H E).stack a (.ref C) a0 (aL (bI P w) P w K mg base N qual scope f cd A outer s H E).env.locals h∧s'.heap.UpToSlots h) I.ok.frames rfl F.fly fun h f1 f2=>⟨h,rfl,f1,f2⟩)) ?_ fun e' s'' z=>z;rintro _ s2 ⟨⟨h2,rfl,held,up2⟩,Yg⟩;exact um I cc hm ⟨F.os,F.bare,F.fly.2.2.1,F.dict,F.keep,F.un,F.hok,F.wish⟩ held up2 Yg hc hg hN hi hl hdb Um Uo
theorem Ke {M:Model}{A:Around}{E:Value→Shared→Prop}{s:Shared}{base:Heap}{env:Env}{outer:List Env}{L e:Addr}{oe:Obj}{vs:Array Value}{a0:Value}{Q:Unit→Shared→Prop} (hfr:A.frames=some (env::outer)) (hl:s.heap.FunFrames base (env::outer)) (hf:env.frame=some L)
  (he:s.heap.get? e=some oe) (hkb:base.StaysIn s.heap) (hen:base.get? e=none) (hd:oe.data=.fields vs) (h1:vs[1]?=some .none) (h0:vs[0]?=some a0) (h:∀ h',Heap.HeldW base (env::outer) e oe.cls a0 L h'→s.heap.UpToSlots h'→Q () { s with heap:=h' }):wpAny M A (noteFrame (.ref e) env) Q E s:=by
 unfold noteFrame;simp only [hf];refine wpAny_bind (wpAny_field he hd h1 ?_);rw [if_neg (by decide)];exact wpAny_entryW hfr hl hf he hkb hen hd (Array.getElem?_eq_some_iff.mp h1).1 h0 fun h' ⟨k1,k2,k3,k4⟩=>h h' ⟨k1,hen,k2,k3⟩ k4
theorem Hw {pins:List (Addr×Obj)}{σ:L2.St}{H2:Hp}{s2:Shared}{a C dx:Addr}{D:Ends}{i:Nat} (I':Inv (aL (bI P w) P w K mg base N qual scope f cd A outer s H E) pins σ H2 s2) (cc:zA K R) (hm:mg x=some (.ref R)) (ha:H2 a=some (.ext (pW C dx a))) (hE:qm K R D.rt (.ref C) (some dx) (del H2 a))
  (hc:(aL (bI P w) P w K mg base N qual scope f cd A outer s H E).env.cells=[]) (hg:Gl (aL (bI P w) P w K mg base N qual scope f cd A outer s H E) x) (hN:N.Nodup) (hi:N[i]?=some n) (hl:scope.names.lookup n=some .local)
  (hdb:(x==("__debug__":Str))=false:=by decide) (Um:(n==("__debug__":Str))=false:=by decide) (Uo:(n==("__classdict__":Str))=false:=by decide) :
  wpAny (model P w) (aL (bI P w) P w K mg base N qual scope f cd A outer s H E).A (noteFrame (.ref a) (aL (bI P w) P w K mg base N qual scope f cd A outer s H E).env)
   (fun _ s2=>wpAny (model P w) (aL (bI P w) P w K mg base N qual scope f cd A outer s H E).A (setFlight (.ref a) none)
    (fun _ s3=>wpAny (model P w) (aL (bI P w) P w K mg base N qual scope f cd A outer s H E).A
     (handleBy (.ref a) (aL (bI P w) P w K mg base N qual scope f cd A outer s H E).env [.ExceptHandler (some (.Name x np)) (some n) [.Return (some (.List [.Attribute (.Name n p1) "number" p2] p3)) p4] hpos])
     (SP (aL (bI P w) P w K mg base N qual scope f cd A outer s H E) [] D) (aL (bI P w) P w K mg base N qual scope f cd A outer s H E).xe s3) (aL (bI P w) P w K mg base N qual scope f cd A outer s H E).xe s2)
   (aL (bI P w) P w K mg base N qual scope f cd A outer s H E).xe s2:=by
 have I:=I'.wI (El:=[]) (fun p hp=>by simp at hp);obtain ⟨⟨T,hx⟩,_,_⟩:=I.hok a _ ha;have hin:∀ env∈(aL (bI P w) P w K mg base N qual scope f cd A outer s H E).stack,∀ b,env.frame=some b→b∈a::frs (aL (bI P w) P w K mg base N qual scope f cd A outer s H E).stack:=fun env he b hb=>
  List.mem_cons_of_mem _ (List.mem_filterMap.mpr ⟨env,he,hb⟩)
 have hfr:=PySem.W.funFrames_hide I.stack hin;have hst:(PySem.W.hideAll s2.heap (a::frs (aL (bI P w) P w K mg base N qual scope f cd A outer s H E).stack)).StaysIn s2.heap:=fun b o q=>PySem.W.of_hideAll _ q;have hno:(PySem.W.hideAll s2.heap (a::frs (aL (bI P w) P w K mg base N qual scope f cd A outer s H E).stack)).get? a=none:=PySem.W.hideAll_none _ List.mem_cons_self;have toB:∀ b o,s2.heap.get? b=some o→b≠a→b∉frs (aL (bI P w) P w K mg base N qual scope f cd A outer s H E).stack→(PySem.W.hideAll s2.heap (a::frs (aL (bI P w) P w K mg base N qual scope f cd A outer s H E).stack)).get? b=some o:=
  fun b o q h1 h2=>PySem.W.hideAll_get _ q fun z=>(List.mem_cons.mp z).elim h1 h2
 have tr:∀ b o,H2 b=some o→(∀ φ,o≠.ext φ)→b≠a:=fun b o e ne z=>by rw [z,ha] at e;exact ne _ (Option.some.inj e).symm
 have nt:∀ b,H2 b=none→b≠a:=fun b n z=>by rw [z,ha] at n;cases n
 have F0:Ka P w (aL (bI P w) P w K mg base N qual scope f cd A outer s H E).stack H2 s2 (qm K R D.rt) a s2 (PySem.W.hideAll s2.heap (a::frs (aL (bI P w) P w K mg base N qual scope f cd A outer s H E).stack)) C dx (del H2 a):=by
  refine ⟨rfl,I.bare,hfr,⟨_,hx,rfl⟩,fun b o q n hb=>toB b o q (nt b n) hb,⟨fun b o q n _ _=>q,fun b o q n _ _=>⟨o.slots,q⟩,fun b o q n _=>by rw [fO (nt b n)];exact n,fun b o q _=>⟨o,q⟩,fun b xs q=>?_,fun b ob u q=>?_,fun b ps q=>⟨#[],?_⟩⟩,fun b o e=>?_,hE⟩
  ·rw [fO (tr b _ q fun φ z=>by cases z)];exact q
  ·rw [fO (tr b _ q fun φ z=>by cases z)];exact q
  ·rw [fO (tr b _ q fun φ z=>by cases z),q];simp
  ·have hb:b≠a:=fun z=>by rw [z,yC] at e;cases e
   rw [fO hb] at e;refine (I.hok b o e).stay (fun c u hc q=>toB c u q ?_ fun z=>?_) (fun c q=>?_) fun c xs q=>?_
   ·rcases hc with rfl | hc
    ·exact hb
    ·exact tr c _ hc fun φ z=>by cases z
   ·have nf:=I.sX c z;rcases hc with rfl | hc
    ·rw [e] at nf;cases nf
    ·rw [hc] at nf;cases nf
   ·rw [fO (tr c _ q fun φ z=>by cases z)];exact q
   ·rw [fO (tr c _ q fun φ z=>by cases z)];exact q
 refine wpAny_mono (Kd.any (Dc _ _) (?_:wpAny (model P w) (aL (bI P w) P w K mg base N qual scope f cd A outer s H E).A (noteFrame (.ref a) (aL (bI P w) P w K mg base N qual scope f cd A outer s H E).env) (fun _ s''=>∃ h,s''={ s2 with heap:=h }∧Heap.HeldW (PySem.W.hideAll s2.heap (a::frs (aL (bI P w) P w K mg base N qual scope f cd A outer s H E).stack)) (aL (bI P w) P w K mg base N qual scope f cd A outer s H E).stack a (.ref C) (.ref T) (aL (bI P w) P w K mg base N qual scope f cd A outer s H E).env.locals h∧s2.heap.UpToSlots h) _ s2)) ?_ fun e' s'' z=>z
 ·exact Ke I.ok.frames hfr rfl hx hst hno rfl rfl rfl fun h' k1 k2=>⟨h',rfl,k1,k2⟩
 ·rintro _ s3 ⟨⟨h2,rfl,held,up2⟩,Yg⟩;exact um I cc hm F0 held up2 Yg hc hg hN hi hl hdb Um Uo
end
end Xc
end
section
set_option linter.all false
set_option maxRecDepth 100000
set_option maxHeartbeats 4000000
namespace Xc
open PySem PySem.Spec PyProof.Rows L2
def BMain (mg:Str→Option Value) (base:Heap):Prop:=∃ bm ob,mg "__builtins__"=some (.ref bm)∧bm≠builtinsNs∧base.get? bm=some ob∧ob.cls=.type "module"∧ob.dict=some builtinsNs∧ob.data=.plain
def Nf (h:Heap) (f:Addr) (qual:Str) (params:Arguments) (body:Expr) (scope:Scope) (cl:List (Str×Addr)):Prop:=
 ∃ pm c' ctv,h.get? f=some (PySem.W.kla_obj "<lambda>" qual params body scope cl pm c' ctv)∧h.CodeRec (.ref c') qual
def wB (h:Heap) (H:Hp) (fs:List Addr):Heap:=PySem.W.hideAll h (trk h H++fs)
section
variable {h:Heap}{H:Hp}{fs:List Addr}{b:Addr}{o:Obj}
theorem Ql:(wB h H fs).objs.size=h.objs.size:=PySem.W.hideAll_size _ _
theorem zB (e:h.get? b=some o) (n:H b=none) (nf:b∉fs):(wB h H fs).get? b=some o:=
 PySem.W.hideAll_get _ e fun hm=>by
  rcases List.mem_append.mp hm with hm | hm
  ·have q:(H b).isSome=true:=(List.mem_filter.mp hm).2;rw [n] at q;simp at q
  ·exact nf hm
theorem Xg (e:(wB h H fs).get? b=some o):h.get? b=some o∧H b=none:=by
 have e':h.get? b=some o:=PySem.W.of_hideAll _ e;refine ⟨e',?_⟩;cases q:H b with
 | none=>rfl
 | some x=>
  have hm:b∈trk h H++fs:=List.mem_append_left _ (List.mem_filter.mpr ⟨List.mem_range.mpr (Heap.lt_size e'),by simp [q]⟩);have z:(wB h H fs).get? b=none:=PySem.W.hideAll_none _ hm;rw [z] at e;cases e
theorem Kf (hb:b∈fs):(wB h H fs).get? b=none:=PySem.W.hideAll_none _ (List.mem_append_right _ hb)
end
section
variable {X:Cx}{pins:List (Addr×Obj)}{σ:L2.St}{H:Hp}{s:Shared}
theorem Qm (I:Inv X pins σ H s):∀ b o,X.base.get? b=some o→(wB s.heap H (frs X.stack)).get? b=some o:=fun b o e=>by
 obtain ⟨e1,n1⟩:=I.bs b o e;refine zB e1 n1 fun z=>?_;rcases List.mem_cons.mp (I.mC b z) with q | q
 ·have l1:=Heap.lt_size e;have l2:X.base.objs.size≤b:=by rw [q];exact Nat.le_trans I.ok.QM I.ok.above
  exact absurd (Nat.lt_of_lt_of_le l1 l2) (Nat.lt_irrefl _)
 ·exact I.ok.Ol e q
theorem Mod.keeps {K:PySem.W.Frag}{mg:Str→Option Value}{base base':Heap} (M:Mod K mg base) (k:∀ b o,base.get? b=some o→base'.get? b=some o):Mod K mg base':=
 ⟨M.Vu.keeps k,M.glob.keeps k,let ⟨mb,h1,h2⟩:=M.blt;⟨mb,h1.keeps k,h2⟩,M.nolimit.keeps k⟩
theorem vY {h base base':Heap}:∀ {l:List Env},h.FunFrames base l→(∀ b∈frs l,base'.get? b=none)→h.FunFrames base' l
 | [],_,_=>trivial
 | env::r,hl,hn=>by
  obtain ⟨hk,⟨L,o,hf,_,ho,hd⟩,hr⟩:=hl;refine ⟨hk,⟨L,o,hf,hn L (by unfold frs;rw [List.filterMap_cons,hf];exact List.mem_cons_self),ho,hd⟩,vY hr fun b hb=>hn b ?_⟩;unfold frs;rw [List.filterMap_cons,hf];exact List.mem_cons_of_mem _ hb
theorem acg (I:Inv X pins σ H s):Cz X.prog X.w X.K X.mg (wB s.heap H (frs X.stack)) X.A X.stack s H:=
 ⟨I.ok.frames,Mod.keeps I.ok.mod (Qm I),fun b o e=>Xg e,Nat.le_of_eq Ql,vY I.stack fun b hb=>Kf hb,I.sX,I.hok,I.bare⟩
structure DP (env:Env) (N:List Str) (σ:L2.St) (base:Heap):Prop where
 cell:∀ x c,env.cells.lookup x=some c→∃ v,base.IsCell c v
 val:∀ (i:Nat) (x:Str) (v:V),N[i]?=some x→σ[i]?=some (some v)→env.scope.names.lookup x=some .cell→∃ c u,env.cells.lookup x=some c∧base.IsCell c (some u)∧RelV v u
theorem Ur (I:Inv X pins σ H s) (hfn:∀ x,X.fn x=true):DP X.env X.N σ (wB s.heap H (frs X.stack)):=by
 have up:∀ x c v,X.env.cells.lookup x=some c→s.heap.IsCell c v→(wB s.heap H (frs X.stack)).IsCell c v:=fun x c v e ⟨o,ho,hd⟩=>by
  refine ⟨o,zB ho (I.jQ x c e) fun z=>?_,hd⟩;rcases List.mem_cons.mp (I.mC c z) with q | q
  ·exact I.VJ x c e q
  ·obtain ⟨_,ob,hb,_⟩:=I.ok.rG.mem q;exact absurd (Nat.lt_of_lt_of_le (Heap.lt_size hb) (I.ok.cab x c (hfn x) e)) (Nat.lt_irrefl _)
 refine ⟨fun x c e=>?_,fun i x v h1 h2 h3=>?_⟩
 ·obtain ⟨v,z⟩:=I.cell x c e;exact ⟨v,up x c v e z⟩
 ·obtain ⟨m,_,hl⟩:=I.loc;obtain ⟨u,r,l⟩:=hl i x v h1 h2 (.inr (.inl h3));rcases l with ⟨k,_⟩ | ⟨_,c,hc,z⟩
  ·have k':X.env.scope.names.lookup x=some .local:=k;rw [h3] at k';cases k'
  ·exact ⟨c,u,hc,up x c _ hc z,r⟩
theorem Us {params:Arguments}{body:Expr}{scope:Scope}{pos:Pos}{ps:Array Value}{clos:List (Str×Addr)}{c P:Addr}{Q:Value→Shared→Prop}{E:Value→Shared→Prop} (I:Inv X pins σ H s) (hcode:X.env.code=.ref c) (C:PySem.W.CodeHd X.base c P) (hP:H P=some (.uF ps))
  (ht:TriplesOk ps.toList) (hnf:codeAmong pos ps.toList=none) (hb:BMain X.mg X.base) (hcl:closureFor scope X.env=pure clos) (hdef:defaultsOf params X.env=([],[]))
  (h:∀ f s2 more,Inv X pins σ (upd H P (.uF (ps++more))) s2→Nf (wB s2.heap (upd H P (.uF (ps++more))) (frs X.stack)) f (X.env.qual++"<lambda>") params body scope clos→Q (.ref f) s2) :
  wpAny (model X.prog X.w) X.A (eval (.Lambda params body scope pos) X.env) Q E s:=by
 refine PySem.W.kla_eval hdef ?_;have hPo:s.heap.get? P=some (PySem.W.tabObj ps):=I.hok P _ hP;have hgs:=I.ok.mod.glob.keeps I.bk;obtain ⟨bm,ob,b1,b2,b3,b4,b5,b6⟩:=hb;have hgP:mainGlobals≠P:=fun q=>by
  obtain ⟨o,es,ep,e,hd,_⟩:=hgs;rw [q,hPo] at e;cases e;cases hd
 have hbP:bm≠P:=fun q=>by
  have e:=I.bk _ _ b3;rw [q,hPo] at e;cases e;cases b4
 have hbG:bm≠mainGlobals:=fun q=>by
  obtain ⟨o,es,ep,e,hd,_⟩:=I.ok.mod.glob;rw [q,e] at b3;cases b3;rw [hd] at b6;cases b6
 refine PySem.W.kla_makeFunction (mg:=X.mg) hcl I.ok.glob hgs hcode (C.keeps I.bk) hPo ht hnf hgP ⟨bm,ob,b1,b2,hbG,hbP,I.bk _ _ b3,b4,b5,b6⟩ fun c' ctv h' tk hx hge hlt hrec htb=>?_;have old:∀ b o,b≠P→s.heap.get? b=some o→(h'.push (PySem.W.kla_obj "<lambda>" (X.env.qual++"<lambda>") params body scope clos ((X.mg "__name__").getD .none) c' ctv)).get? b=some o:=fun b o hb e=>Heap.get?_push_of_some _ (hx b o hb e);have newP:(h'.push (PySem.W.kla_obj "<lambda>" (X.env.qual++"<lambda>") params body scope clos ((X.mg "__name__").getD .none) c' ctv)).get? P=some (PySem.W.tabObj (ps++#[rawInt pos.line,rawInt pos.col,.ref c'])):=Heap.get?_push_of_some _ htb;have trP:∀ b u,H b=some u→(∀ qs,u≠.uF qs)→b≠P:=fun b u e n z=>by rw [z,hP] at e;exact n ps (Option.some.inj e).symm
 have un:Un X.fs [] H (upd H P (.uF (ps++#[rawInt pos.line,rawInt pos.col,.ref c']))) s.heap (h'.push (PySem.W.kla_obj "<lambda>" (X.env.qual++"<lambda>") params body scope clos ((X.mg "__name__").getD .none) c' ctv)):=by
  have nP:∀ b,H b=none→b≠P:=fun b n z=>by rw [z,hP] at n;cases n
  refine ⟨fun b o e n _ _=>old b o (nP b n) e,fun b o e n _ _=>⟨o.slots,old b o (nP b n) e⟩,fun b o e n _=>by rw [ak (nP b n)];exact n,fun b o e _=>?_,fun b xs e=>?_,fun b o u e=>?_,fun b qs e=>?_⟩
  ·by_cases hb:b=P
   ·rw [hb];exact ⟨_,newP⟩
   ·exact ⟨o,old b o hb e⟩
  ·rw [ak (trP b _ e fun qs z=>by cases z)];exact e
  ·rw [ak (trP b _ e fun qs z=>by cases z)];exact e
  ·by_cases hb:b=P
   ·rw [hb,hP] at e;cases e;exact ⟨_,by rw [hb];exact ao⟩
   ·exact ⟨#[],by rw [ak hb,e];simp⟩
 have hok:pB X.prog X.w (upd H P (.uF (ps++#[rawInt pos.line,rawInt pos.col,.ref c']))) (h'.push (PySem.W.kla_obj "<lambda>" (X.env.qual++"<lambda>") params body scope clos ((X.mg "__name__").getD .none) c' ctv)):=fun b u e=>by
  by_cases hb:b=P
  ·subst hb;rw [ao] at e;cases e;exact newP
  ·rw [ak hb] at e;refine (I.hok b u e).stay (fun d v hd q=>old d v ?_ q) (fun d q=>?_) fun d xs q=>?_
   ·rcases hd with rfl | hd
    ·exact hb
    ·exact trP d _ hd fun qs z=>by cases z
   ·rw [ak (trP d _ q fun qs z=>by cases z)];exact q
   ·rw [ak (trP d _ q fun qs z=>by cases z)];exact q
 have I2:=I.un (t':=tk) un hok;have aeF:s.heap.objs.size≤h'.objs.size:=Nat.le_trans hge (Nat.le_of_lt hlt);have fresh:∀ b o,s.heap.objs.size≤b→(h'.push (PySem.W.kla_obj "<lambda>" (X.env.qual++"<lambda>") params body scope clos ((X.mg "__name__").getD .none) c' ctv)).get? b=some o→(wB (h'.push (PySem.W.kla_obj "<lambda>" (X.env.qual++"<lambda>") params body scope clos ((X.mg "__name__").getD .none) c' ctv)) (upd H P (.uF (ps++#[rawInt pos.line,rawInt pos.col,.ref c']))) (frs X.stack)).get? b=some o:=fun b o hb e=>by
  have bP:b≠P:=fun z=>absurd (Nat.lt_of_lt_of_le (Heap.lt_size hPo) (z▸hb)) (Nat.lt_irrefl _);refine zB e (by rw [ak bP];exact I.hok.fresh hb) fun z=>?_;rcases List.mem_cons.mp (I.mC b z) with q | q
  ·exact absurd (Nat.lt_of_lt_of_le I.lt (q▸hb)) (Nat.lt_irrefl _)
  ·exact I.aaL hb q
 refine h _ _ _ I2 ⟨_,c',ctv,fresh _ _ aeF (Heap.get?_push_size _ rfl),?_⟩;obtain ⟨c2,oc,vs,t,e2,hoc,hd,hv⟩:=hrec;cases e2;exact ⟨c',oc,vs,t,rfl,fresh _ _ hge (Heap.get?_push_of_some _ hoc),hd,hv⟩
end
def Ng (P:Program) (w:World) (K:PySem.W.Frag) (mg:Str→Option Value) (base:Heap) (k:Nat) (f:Addr) (sp:Sp):Prop:=
 (∃ oc od fd sl,base.get? f=some ⟨oc,od,.func fd,sl⟩)∧∀ (A:Around) (outer:List Env) (s:Shared) (H:Hp) (u:Value) (v:V) (Q:VK) (E:XK),dZ k A→Cz P w K mg base A outer s H→RelV v u→sp [v] H Q E →
  codeAny (model P w) A (.call (.ref f) ⟨[u],[]⟩) (CR (bI P w) outer P w H s Q E) s
def zE (P:Program) (w:World) (K:PySem.W.Frag) (mg:Str→Option Value) (base:Heap) (N:List Str) (qual:Str) (scope:Scope) (f:Addr) (cd:Value) (cl:List (Str×Addr)) (A:Around) (outer:List Env) (s:Shared) (H:Hp) (E:XK):Cx where
 prog:=P
 w:=w
 K:=K
 mg:=mg
 base:=base
 A:=A.deeper (PySem.W.envX qual scope s.heap.objs.size f cd cl)
 N:=N
 s_0:=s
 Yr:=H
 env:=PySem.W.envX qual scope s.heap.objs.size f cd cl
 outer:=outer
 stack:=PySem.W.envX qual scope s.heap.objs.size f cd cl::outer
 ex:=[]
 calm:=true
 fn:=fun _=>false
 pn:=[]
 xe:=fun e s'=>wpAny (model P w) (A.deeper (PySem.W.envX qual scope s.heap.objs.size f cd cl)) (leaving (PySem.W.envX qual scope s.heap.objs.size f cd cl) e) (fun _ s''=>bI P w outer H s E e s'') (fun e' s''=>bI P w outer H s E e' s'') s'
section
variable {P:Program}{w:World}{K:PySem.W.Frag}{mg:Str→Option Value}{base:Heap}{N:List Str}{qual:Str}{scope:Scope}{f:Addr}{cd:Value}{cl:List (Str×Addr)}{A:Around}{outer:List Env}{s:Shared}{H:Hp}{E:XK}
theorem Ut:Passes (bI P w) (zE P w K mg base N qual scope f cd cl A outer s H E) E:=by
 intro pins σ H1 s1 e s' I h;obtain ⟨a,B,C,dx,a0,H',rfl,F⟩:=h;have fl:=F.fly;refine wpAny_mono (Kd.any (rM _ _) (wpAny_leaves_onW (Q:=fun _ s''=>∃ h',s''={ s' with heap:=h' }∧Heap.FlyingW B outer a (.ref C) a0 h'∧s'.heap.UpToSlots h') I.ok.frames rfl fl fun h' f1 f2=>⟨h',rfl,f1,f2⟩)) ?_ fun e' s'' z=>z;rintro _ s'' ⟨⟨h',rfl,f1,f2⟩,dk⟩;obtain ⟨o,ho,hd⟩:=F.dict;obtain ⟨o',ho',hd',_⟩:=dk a o ho;have rA:∀ b:Addr,b∉(zE P w K mg base N qual scope f cd cl A outer s H E).ex:=fun b z=>absurd (show b∈([]:List Addr) from z) (by simp);have keep:∀ b o,s.heap.get? b=some o→H b=none→b∉frs outer→B.get? b=some o:=fun b o q n hb=>by
  refine F.keep b o (I.base.keep b o q n hb (rA b)) (I.base.free b o q n (rA b)) fun z=>?_;rcases List.mem_cons.mp (I.mC b z) with e1 | e1
  ·have l1:=Heap.lt_size q;have l2:s.heap.objs.size≤b:=by rw [e1];exact I.ok.above
   exact absurd (Nat.lt_of_lt_of_le l1 l2) (Nat.lt_irrefl _)
  ·exact hb e1
 refine ⟨a,B,C,dx,a0,H',rfl,F.os.trans I.os,F.bare,f1,⟨o',ho',hd'.trans hd⟩,keep,?_,F.hok,F.wish⟩;refine ⟨fun b ob q n hb _=>f1.1 b ob (keep b ob q n hb),fun b ob q n hb _=>?_,fun b ob q n _=>?_,fun b ob q _=>?_,fun b xs q=>F.un.tups b xs (I.base.tups b xs q),fun b ob u q=>F.un.pC b ob u (I.base.pC b ob u q),fun b ps q=>?_⟩
 ·obtain ⟨sl,e1⟩:=I.base.slot b ob q n hb (rA b);have hb2:b∈frs (zE P w K mg base N qual scope f cd cl A outer s H E).stack:=by
   show b∈List.filterMap _ (_::outer);rw [List.filterMap_cons];exact List.mem_cons_of_mem _ hb
  obtain ⟨sl2,e2⟩:=F.un.slot b _ e1 (I.base.free b ob q n (rA b)) hb2 (by simp);obtain ⟨_,o3,e3,d3⟩:=fl.2.2.1.mem hb2;rw [e2] at e3;obtain rfl:=Option.some.inj e3;obtain ⟨Y4,e4⟩:=f2 b _ e2 d3;exact ⟨Y4,e4⟩
 ·obtain ⟨o1,e1⟩:=I.base.there b ob q (rA b);exact F.un.free b o1 e1 (I.base.free b ob q n (rA b)) (by simp)
 ·obtain ⟨o1,e1⟩:=I.base.there b ob q (rA b);obtain ⟨o2,e2⟩:=F.un.there b o1 e1 (by simp);obtain ⟨o3,e3,_⟩:=dk b o2 e2;exact ⟨o3,e3⟩
 ·obtain ⟨m1,e1⟩:=I.base.pD b ps q;obtain ⟨m2,e2⟩:=F.un.pD b _ e1;exact ⟨m1++m2,by rw [e2,Array.append_assoc]⟩
theorem ZX {k:Nat}{params:Arguments}{body:Expr}{x0:Str}{fr:List Str}{vals:List V}{sp:Sp} (L:Nf base f qual params body scope cl) (hco:scope.isCoroutine=false) (hgen:scope.isGenerator=false) (hk:scope.kind=.function)
  (hcell:∀ x∈scope.names,x.2≠.cell) (hx0:scope.names.lookup x0=some .local) (hbind:∀ (pm ctv u:Value) (c':Addr),bindArgs (PySem.W.kla_fn "<lambda>" qual params body scope cl pm (.ref c') ctv) ⟨[u],[]⟩=pure [(x0,u)])
  (hinj:∀ x y c,cl.lookup x=some c→cl.lookup y=some c→x=y) (hhas:∀ x,scope.names.lookup x=some .free→∃ c,cl.lookup x=some c) (hcl:∀ x c,cl.lookup x=some c→∃ v,base.IsCell c v)
  (hlen:fr.length=vals.length) (hfr:∀ (i:Nat) (x:Str) (v:V),fr[i]?=some x→vals[i]?=some v→scope.names.lookup x=some .free∧∃ c u,cl.lookup x=some c∧base.IsCell c (some u)∧RelV v u)
  (hbody:∀ (A:Around) (outer:List Env) (s:Shared) (H:Hp) (cd:Value) (v:V) (Q:VK) (E:XK),dZ k (A.deeper (PySem.W.envX qual scope s.heap.objs.size f cd cl))→sp [v] H Q E →
   ∃ t,PE (zE P w K mg base (x0::fr) qual scope f cd cl A outer s H E) body t∧t (some v::vals.map some) H Q):Ng P w K mg base (k+1) f sp:=by
 obtain ⟨pm,c',ctv,hf,hcr⟩:=L;refine ⟨⟨_,_,_,_,hf⟩,fun A outer s H u v Q E hr e0 rv hsp=>?_⟩;have bk:∀ b o,base.get? b=some o→s.heap.get? b=some o:=fun b o e=>(e0.bs b o e).1;refine PySem.W.kla_callFunE hr.depth (bk _ _ hf) rfl hco hgen rfl (hcr.keeps bk) ?_;rw [hbind];refine wpAny_pure (wpAny_newFunctionEnv hcell (fun y hy=>by
  obtain rfl:y=(x0,u):=List.mem_singleton.mp hy;exact hx0) (fun h₁ hns hsb=>⟨(e0.mod.nolimit.keeps bk).fresh _ hsb,?_⟩) hk)
 show codeAny _ _ (.expr body (PySem.W.envX qual scope s.heap.objs.size f (.ref c') cl)) _ _;have hk₁:∀ b o,s.heap.get? b=some o→h₁.get? b=some o:=fun b o e=>hsb.extBut b o (Nat.ne_of_lt (Heap.lt_size e)) (Heap.get?_push_of_some _ e);obtain ⟨t,pe,ht⟩:=hbody A outer s H (.ref c') v Q E (hr.deeper _) hsp;have YB:∀ b:Addr,b∉(zE P w K mg base (x0::fr) qual scope f (.ref c') cl A outer s H E).ex:=fun b z=>absurd (show b∈([]:List Addr) from z) (by simp);have Uu:∀ c v,base.IsCell c v→h₁.IsCell c v:=fun c v ⟨o,ho,hd⟩=>⟨o,hk₁ _ _ (bk _ _ ho),hd⟩;have I:Inv (zE P w K mg base (x0::fr) qual scope f (.ref c') cl A outer s H E) [] (some v::vals.map some) H { s with heap:=h₁,toks:=s.toks+1 }:=by
  refine ⟨⟨e0.mod,hk,rfl,rfl,Nat.le_refl _,hinj,fun y hy=>?_,fun y c z _=>absurd (show false=true from z) Bool.false_ne_true,fun _=>hr.hd,Around.frames_deeper e0.frames,.inr ⟨rfl,rfl⟩,fun b z=>absurd z (YB b),e0.bs,e0.QM,fun b _ _=>YB b,fun b z=>absurd z (YB b),e0.rG,e0.VH⟩,
   rfl,e0.bare,Un.kept hk₁,⟨_,hns,fun i y z h1 h2 h3=>?_⟩,fun y c h=>?_,e0.hok.fresh (Nat.le_refl _),fun y c h=>?_,fun p hp=>absurd (show p∈([]:List (Addr×Obj)) from hp) (by simp),e0.hok.kept hk₁,?_⟩
  ·rcases hy with hy | hy
   ·have hy':scope.names.lookup y=some .cell:=hy;exact absurd rfl (hcell _ (PySem.mem_of_lookup hy'))
   ·exact hhas y hy
  ·cases i with
   | zero=>
    have h1':(x0::fr)[0]?=some y:=h1;have e1:x0=y:=by simpa using h1'
    have e2:v=z:=by simpa using h2
    subst e1 e2;refine ⟨u,rv,.inl ⟨hx0,?_⟩⟩;show List.lookup x0 [(x0,u)]=some u;rw [List.lookup_cons,beq_self_eq_true]
   | succ i=>
    have h1':(x0::fr)[i+1]?=some y:=h1;have e1:fr[i]?=some y:=by simpa using h1'
    have e2:vals[i]?=some z:=by
     have h2':(vals.map some)[i]?=some (some z):=by simpa using h2
     rw [List.getElem?_map] at h2';cases q:vals[i]? with
     | none=>rw [q] at h2';cases h2'
     | some a=>rw [q] at h2';cases h2';rfl
    obtain ⟨k1,c,u1,hc,hz,r1⟩:=hfr i y z e1 e2;exact ⟨u1,r1,.inr ⟨.inr k1,c,hc,Uu _ _ hz⟩⟩
  ·obtain ⟨z,hz⟩:=hcl y c h;exact ⟨z,Uu _ _ hz⟩
  ·obtain ⟨z,o,ho,_⟩:=hcl y c h;exact (e0.bs _ _ ho).2
  ·show (some v::vals.map some).length=(x0::fr).length;rw [List.length_cons,List.length_cons,List.length_map,hlen]
 refine PySem.W.kla_codeExpr (wpAny_mono (pe [] _ _ H Q I ht) (fun r s' q=>?_) fun _ _ y=>y);obtain ⟨v',H',I',r',q'⟩:=q;exact ⟨v',H',I'.os,I'.bare,I'.base,I'.hok,r',q'⟩
end
def aeG (sp:Sp) (E:XK) (f:Addr) (j:Nat) (te:TE):TE:=fun σ H Q=>σ[j]?=some (some (.ref f))∧te σ H fun v H1=>sp [v] H1 Q E
theorem Z0 {X:Cx}{k j:Nat}{x:Str}{f:Addr}{sp:Sp}{E:XK}{e:Expr}{te:TE}{p pos:Pos} (hN:X.N[j]?=some x) (hv:Ys X.env.scope x) (hr:dZ k X.A) (F:Ng X.prog X.w X.K X.mg X.base k f sp) (hx:Passes (bI X.prog X.w) X E) (he:PE X e te)
  (hs:starEach [e] X.env=[(false,eval e X.env)]:=by rfl) (hd:(x==("__debug__":Str))=false:=by decide) (hcd:(x==("__classdict__":Str))=false:=by decide):PE X (.Call (.Name x p) [e] [] pos) (aeG sp E f j te):=by
 intro pins s σ H Q I h;obtain ⟨hf,h⟩:=h;obtain ⟨⟨oc,od,fd,sl,ho⟩,run⟩:=F;refine wpAny_Call_Name_kw (dI (Je hN hv hd hcd pins s σ H (fun v H1=>v=.ref f∧te σ H1 fun v H1=>sp [v] H1 Q E) I ⟨_,hf,rfl,h⟩) fun u s1 ⟨v,H1,I1,r1,ev,q⟩=>?_);subst ev;obtain rfl:u=Value.ref f:=r1;show wpAny _ _ (callWith pos (.ref f) [] (backTo pos (starEach [e] X.env)) []) _ _ _;have sp1:=aj he aA hs pos pins s1 σ H1 (fun vs H2=>match vs with | [v]=>sp [v] H2 Q E | _=>False) I1 q;rw [hs] at sp1 ⊢;refine PySem.W.callWith_of (P:=fun h=>h.get? f=some ⟨oc,od,.func fd,sl⟩) (first:=[]) rfl (fun h e=>⟨.frame,.inl rfl,(PySem.W.Looks.ld (part:=none) e).andThen .now⟩) (PySem.Calls.evalArgs_plain ?_);refine dI sp1 fun us s2 ⟨vs,H2,I2,r2,q2⟩=>⟨I2.bk _ _ ho,?_⟩
 match vs,us,r2,q2 with
 | [],_,_,q2=>exact q2.elim
 | _::_::_,_,_,q2=>exact q2.elim
 | [v],_,.cons r .nil,q2=>
 refine wpAny_call (codeAny_mono (run X.A X.stack s2 H2 _ v Q E hr I2.env0 r q2) fun rr s' hq=>?_);cases rr with
 | error e=>exact hx pins σ H2 s2 e s' I2 hq
 | ok fl=>
  cases fl with
  | ret u=>exact I2.after hq
  | next=>exact False.elim hq
  | brk=>exact False.elim hq
  | cont=>exact False.elim hq
def aci (sp:Heap→Sp) (qual:Str) (env:Env) (N:List Str) (params:Arguments) (body:Expr) (scope:Scope) (clos:List (Str×Addr)) (Aw:Pos) (P:Addr) (t1 t2:TE):TE:=fun σ H Q=>t1 σ H fun v1 H1=>t2 σ H1 fun v2 H2=>
 ∃ ps,H2 P=some (.uF ps)∧TriplesOk ps.toList∧codeAmong Aw ps.toList=none∧∀ more base' f,Nf base' f qual params body scope clos→DP env N σ base'→sp base' [v1,v2,.ref f] (upd H2 P (.uF (ps++more))) Q E0
theorem Xh {X:Cx}{k:Nat}{x:Str}{ps:List Str}{sp:Heap→Sp}{c P:Addr}{e1 e2:Expr}{t1 t2:TE}{params:Arguments}{body:Expr}{scope:Scope}{clos:List (Str×Addr)}{p pos Aw:Pos}{g:Addr}{fd:FuncData}
  (F:∀ base:Heap,iR X.prog X.w X.K X.mg base (bI X.prog X.w) k g fd ps (sp base)) (hb:Binds X.K fd ps []) (hr:dZ k X.A) (hg:Gl X x) (hm:X.mg x=some (.ref g)) (hk:PySem.W.keepIn X.K (.ref g)=true) (h1:PE X e1 t1) (h2:PE X e2 t2)
  (hfn:∀ x,X.fn x=true) (hcode:X.env.code=.ref c) (C:PySem.W.CodeHd X.base c P) (hbm:BMain X.mg X.base) (hcl:closureFor scope X.env=pure clos) (hdef:defaultsOf params X.env=([],[]))
  (hdb:(x==("__debug__":Str))=false:=by decide) (he1:starEach [e1,e2,.Lambda params body scope Aw] X.env=(false,eval e1 X.env)::starEach [e2,.Lambda params body scope Aw] X.env:=by rfl)
  (he2:starEach [e2,.Lambda params body scope Aw] X.env=(false,eval e2 X.env)::starEach [.Lambda params body scope Aw] X.env:=by rfl) (he3:starEach [.Lambda params body scope Aw] X.env=[(false,eval (.Lambda params body scope Aw) X.env)]:=by rfl) :
  PE X (.Call (.Name x p) [e1,e2,.Lambda params body scope Aw] [] pos) (aci sp (X.env.qual++"<lambda>") X.env X.N params body scope clos Aw P t1 t2):=by
 intro pins s σ H Q I h;refine wpAny_Call_Name_kw (jT I hg hm ?_ hdb);refine PySem.W.callWith_K (K:=X.K) (h₀:=X.base) I.ok.mod.Vu hk ?_ he1 (by rw [he2,he3];rfl);rw [he1,he2,he3];refine Calls.spliced_cons (dI (h1 pins s σ H _ I h) fun u1 s1 ⟨v1,H1,I1,r1,q1⟩=>?_);refine Calls.spliced_cons (dI (h2 pins s1 σ H1 _ I1 q1) fun u2 s2 ⟨v2,H2,I2,r2,q2⟩=>?_);obtain ⟨qs,hP,ht,hnf,q2⟩:=q2;refine Calls.spliced_cons (Us I2 hcode C hP ht hnf hbm hcl hdef fun f s3 more I3 L=>?_);refine Calls.spliced_nil ⟨I3.rH,?_⟩;have F':=F (wB s3.heap (upd H2 P (.uF (qs++more))) (frs X.stack));have hsp:=q2 more _ f L (Ur I3 hfn);have rv:Vals [v1,v2,.ref f] [u1,u2,.ref f]:=.cons r1 (.cons r2 (.cons rfl .nil));have hl:([u1,u2,Value.ref f]++[]).length=ps.length:=by
  rw [List.append_nil,←rv.length];exact F'.len _ _ _ _ hsp
 have hbd:=hb s3 [u1,u2,.ref f] I3.rH hl;rw [List.append_nil] at hbd;refine wpAny_call (codeAny_mono (F'.run X.A X.stack s3 _ ⟨[u1,u2,.ref f],[]⟩ [u1,u2,.ref f] [v1,v2,.ref f] Q E0 hr (acg I3) hbd rv hsp) fun r s' hq=>?_);cases r with
 | error e=>exact aG pins σ _ s3 e s' I3 hq
 | ok fl=>
  cases fl with
  | ret u=>exact I3.after hq
  | next=>exact False.elim hq
  | brk=>exact False.elim hq
  | cont=>exact False.elim hq
end Xc
end
section
set_option linter.all false
set_option maxRecDepth 100000
namespace Xc
open PySem PySem.Spec PyProof.Rows L2
section
variable {P:Program}{w:World}{K:PySem.W.Frag}{mg:Str→Option Value}{base:Heap}{N:List Str}{qual:Str}{scope:Scope}{f:Addr}{cd:Value}{A:Around}{outer:List Env}{s:Shared}{H:Hp}{E E':XK}{W:Value→Shared→Prop}
variable {k:Nat}{C fI:Addr}{fd:FuncData}{ps:List Str}{sp:Sp}{x:Str}{p pos cpos:Pos}
theorem Kg (M:JC K C fI) (F:iR P w K mg base (bI P w) k fI fd ps sp) (hr:dZ (k+1) (aL (bI P w) P w K mg base N qual scope f cd A outer s H E).A) (hb:Binds K fd ps [])
  (hg:Gl (aL (bI P w) P w K mg base N qual scope f cd A outer s H E) x) (hm:mg x=some (.ref C))
  (aeH:∀ pins σ H2 s2 a dx,Inv (aL (bI P w) P w K mg base N qual scope f cd A outer s H E) pins σ H2 s2→H2 a=some (.ext (pW C dx a))→E' (.ref C) (some dx) (del H2 a)→W (.ref a) s2) (hdb:(x==("__debug__":Str))=false:=by decide) :
  PS ((aL (bI P w) P w K mg base N qual scope f cd A outer s H E).wish W) (.Raise (some (.Call (.Name x p) [] [] cpos)) none pos) (yD C sp E' uL):=by
 intro pins s1 σ H1 D I h;obtain ⟨hz,q⟩:([]:List V).length≤sizeLine∧_:=h;obtain ⟨nm,q',N',bs,bm,hd,sn,sub,ab,col,dd,k0,k1,k2,k3,k5,lk,b1,b2,b3,b4⟩:=M.cls;refine rN (yw (C:=C) (nm:=nm) (q:=q') (N:=N') (bs:=bs) (bm:=bm) (hd:=hd) (sn:=sn) (sub:=sub) (ab:=ab) (col:=col) (dd:=dd) (k0:=k0) (k1:=k1) (k2:=k2) (k3:=k3) (k5:=k5) (nw:="Exception.__new__") b4 hr.hd ?_);refine wpAny_bind (wpAny_mono (Q:=EP ((aL (bI P w) P w K mg base N qual scope f cd A outer s H E).wish W) pins σ fun v H2=>∃ a dx,v=.ref a∧H2 a=some (.ext (pW C dx a))∧E' (.ref C) (some dx) (del H2 a)) ?_ (fun v s2 h2=>wpAny_bind (wpAny_standAt (wpAny_pure ?_))) fun _ _ z=>z)
 ·refine wpAny_Call_Name_kw (jT I hg hm ?_ hdb);exact PySem.W.callWith_K0 I.rH M.kp (Df (X:=(aL (bI P w) P w K mg base N qual scope f cd A outer s H E).wish W) (us:=[]) M F hr hb aG I .nil (Nat.zero_le _) fun a hn=>q a hn)
 obtain ⟨vv,H2,I2,rv,a,dx,rfl,ha,hE⟩:=h2;obtain rfl:v=Value.ref a:=rv;obtain ⟨⟨T,hx⟩,_,_⟩:=I2.hok a _ ha;exact ⟨a,T,some dx,#[],rfl,I2.rH _ _ lk,hx,aeH _ _ _ _ _ _ I2.jH ha hE⟩
end
end Xc
end
section
set_option linter.all false
set_option maxRecDepth 100000
set_option maxHeartbeats 4000000
namespace Pg
open PySem PySem.Spec PyProof.Rows L2 Xc Sp
structure Z1 (K:PySem.W.Frag) (cs:Cs):Prop where
 cc:zA K cs.ref
 Z2:PySem.W.subIn K (.ref cs.mH) (.ref cs.ref)=some true
 aeI:PySem.W.subIn K (.ref cs.pF) (.ref cs.ref)=some true
 aeJ:PySem.W.subIn K (.ref cs.cst) (.ref cs.ref)=some true
 Z4:Av K cs.mH
 aeK:Av K cs.pF
 aeL:Av K cs.cst
section
variable {P:Program}{w:World}{K:PySem.W.Frag}{mg:Str→Option Value}{base:Heap}{cs:Cs}
theorem kE {R C:Addr}{n:Int}{Q:VK} (hs:PySem.W.subIn K (.ref C) (.ref R)=some true) (g:Av K C) (nn:PySem.W.findIn K (.ref C) "number"=some none) (h:∀ l H',H' l=some (.lst [.int n])→Q (.ref l) H'):uE (qm K R Q) C n:=fun dx H' hd=>
 ⟨C,dx,SN n,n,rfl,rfl,hs,g,nn,hd,rfl,fun p _ a _=>h p _ ao⟩
theorem jc {C:Addr}{n:Int}{E:XK}{D:Ends}{σ:L2.St} (h:uE E C n) (H1:Hp):yD C (mO K C n) E uL D σ H1:=
 ⟨Nat.zero_le _,fun x hx=>⟨x,rfl,ao,fun dy H' h1 h2 h3 h4=>⟨rfl,x,dy,rfl,h1,by
  have hdx:dy≠x:=fun z=>by rw [z,ao] at h3;cases h3
  exact h dy _ (by rw [fO hdx];exact h2)⟩⟩⟩
theorem okW {x qual:Str}{st:Stmt}{f:Addr}{fd:FuncData}{N ps:List Str}{k:Nat}{sp:Sp} (F:Jy K x qual st f fd) (S:aH N ps (au st)) (len:∀ vs H Q E,sp vs H Q E→vs.length=ps.length)
  (hbody:∀ (cdv:Value) (A:Around) (outer:List Env) (s:Shared) (H:Hp) (vs:List V) (Q:VK) (E:XK),dZ k (A.deeper (envOfC qual (au st) s.heap.objs.size f cdv))→sp vs H Q E→∀ s1,Inv (aL (bI P w) P w K mg base N qual (au st) f cdv A outer s H E) [] (start N vs) H s1 →
   wpAny (model P w) (aL (bI P w) P w K mg base N qual (au st) f cdv A outer s H E).A (execs (cM st) (aL (bI P w) P w K mg base N qual (au st) f cdv A outer s H E).env) (SP (aL (bI P w) P w K mg base N qual (au st) f cdv A outer s H E) [] { nx:=fun _ H'=>Q .non H',rt:=Q })
    (aL (bI P w) P w K mg base N qual (au st) f cdv A outer s H E).xe s1):iR P w K mg base (bI P w) (k+1) f fd ps sp:=by
 obtain ⟨oc,od,kV,doc,pm,an,cdv,ct,osl,rfl,lk,hcd⟩:=F.ex;refine ⟨len,fun A outer s H args us vs Q E hr e0 hb r hsp=>?_⟩;have hl:=len _ _ _ _ hsp;have KX:K.In s.heap:=e0.mod.Vu.keeps fun b o e=>(e0.bs b o e).1;have lim:s.heap.NoLimit:=e0.mod.nolimit.keeps fun b o e=>(e0.bs b o e).1;have hkind:∀ y∈ps.zip us,(au st).names.lookup y.1=some .local∨((au st).names.lookup y.1=some .cell∧((cellsFrom (s.heap.objs.size+1) (au st).names []).lookup y.1).isSome=true):=fun ⟨n,v⟩ hy=>by
  rcases S.par n (List.of_mem_zip hy).1 with q | q
  ·exact .inl q
  ·exact .inr ⟨q,PySem.W.cellsFrom_some _ _ _ (.inl q)⟩
 refine codeAny_call_function hr.depth (KX _ _ lk) rfl S.co S.gen rfl (PySem.W.codeRec_of KX hcd) (hb _ _ _ _ ?_);refine wpAny_newFunctionEnv_cells S.kind hkind fun env he s1 x=>?_;subst he;refine ⟨lim.keeps x.toInCall.keep,codeAny_func ?_⟩;have I:Inv (aL (bI P w) P w K mg base N qual (au st) f cdv A outer s H E) [] (start N vs) H s1:=Bj S hr.hd e0 hl r x;refine wpAny_mono (hbody cdv A outer s H vs Q E (hr.deeper _) hsp s1 I) (fun fl s' hs=>?_) fun e s' hs=>hs;have fin:∀ {σ':L2.St}{H':Hp}{v:V}{u:Value},Inv (aL (bI P w) P w K mg base N qual (au st) f cdv A outer s H E) [] σ' H' s'→RelV v u→Q v H'→CE outer P w H s Q u s':=
  fun {σ' H' v u} J rv q=>⟨v,H',J.os,J.bare,J.base,J.hok,rv,q⟩
 cases fl with
 | ret u=>
  obtain ⟨v,σ',H',J,rv,q⟩:=hs;exact fin J rv q
 | next=>
  obtain ⟨σ',H',J,q⟩:=hs;exact fin (v:=V.non) (u:=Value.none) J rfl q
 | brk=>
  obtain ⟨_,_,_,q⟩:=hs;exact False.elim q
 | cont=>
  obtain ⟨_,_,_,q⟩:=hs;exact False.elim q
def zF (P:Program) (w:World) (K:PySem.W.Frag) (mg:Str→Option Value) (cs:Cs) (j:Nat) (base:Heap):Sp:=fun vs H Q _=>∃ (ir:Bool) (la f:Addr) (sp:Sp) (bs:List Nat),vs=[.bl ir,.ref la,.ref f]∧Ng P w K mg base j f sp∧bO K H la (nV bs)∧(∀ b∈bs,b < 256)∧bs.length≤9000 ∧
 (ir=false→∀ l H',H' l=some (.lst [.int (-2)])→Q (.ref l) H')∧(ir=true→∀ v,Rb35.taken bs=.bad v→∀ l H',H' l=some (.lst [.int v])→Q (.ref l) H') ∧
 (ir=true→∀ (G:Rb35.Prog) (b:Addr) (A:dY) (B:Bk) (H':Hp),Rb35.taken bs=.good G→aV cs H' b A G.p B→B.Ok→Sz B→G.people=B.people→G.lets=B.known.lets→Rb35.small G=true→Same H H'→sp [.ref b] H' Q (qm K cs.ref Q))
theorem qp:aH ["in_range","text","ask","refusal"] ["in_range","text","ask"] (au bG):=⟨rfl,rfl,rfl,by decide +kernel,rfl,by decide +kernel,by decide +kernel⟩
theorem Hx {f:Addr}{fd:FuncData}{j:Nat} (hj:10≤j) (F:Jy K "answered" "answered" bG f fd) (hR:mg "Refusal"=some (.ref cs.ref)) (X:vW K mg cs) (ct:Z1 K cs) (BO:aX P w K mg base 10 "book_of" ["text"] (zy K cs)) :
  iR P w K mg base (bI P w) (j+1) f fd ["in_range","text","ask"] (zF P w K mg cs j base):=by
 refine okW F qp (fun vs H Q E h=>?_) (fun cdv A outer s H vs Q E hr h s1 I=>?_)
 ·obtain ⟨ir,la,f,sp,bs,rfl,_⟩:=h;rfl
 ·obtain ⟨ir,la,g,sp,bs,rfl,AO,hla,hbs,hlb,kno,acj,acn⟩:=h;obtain ⟨fC,fdC,JV,MC,bC,GC⟩:=(jq (P:=P) (w:=w) (base:=base) X).ex;have Yh:Passes (bI P w) ((aL (bI P w) P w K mg base ["in_range","text","ask","refusal"] "answered" (au bG) f cdv A outer s H E).wish
    (fun e s1=>wpAny (model P w) (aL (bI P w) P w K mg base ["in_range","text","ask","refusal"] "answered" (au bG) f cdv A outer s H E).A (noteFrame e (aL (bI P w) P w K mg base ["in_range","text","ask","refusal"] "answered" (au bG) f cdv A outer s H E).env)
     (fun _ s2=>wpAny (model P w) (aL (bI P w) P w K mg base ["in_range","text","ask","refusal"] "answered" (au bG) f cdv A outer s H E).A (setFlight e none)
      (fun _ s3=>wpAny (model P w) (aL (bI P w) P w K mg base ["in_range","text","ask","refusal"] "answered" (au bG) f cdv A outer s H E).A (handleBy e (aL (bI P w) P w K mg base ["in_range","text","ask","refusal"] "answered" (au bG) f cdv A outer s H E).env
       (match cM bG with | [.Try _ hs _ _ _]=>hs | _=>[]))
       (SP (aL (bI P w) P w K mg base ["in_range","text","ask","refusal"] "answered" (au bG) f cdv A outer s H E) [] { nx:=fun _ H'=>Q .non H',rt:=Q }) (aL (bI P w) P w K mg base ["in_range","text","ask","refusal"] "answered" (au bG) f cdv A outer s H E).xe s3) (aL (bI P w) P w K mg base ["in_range","text","ask","refusal"] "answered" (au bG) f cdv A outer s H E).xe s2) (aL (bI P w) P w K mg base ["in_range","text","ask","refusal"] "answered" (au bG) f cdv A outer s H E).xe s1)) (qm K cs.ref Q):=by
   intro pins σ H1 s1 e s' I1 hF;obtain ⟨a,B',C,dx,a0,H',rfl,Fl⟩:=id hF;exact Kc (Q:=Q) (D:={ nx:=fun _ H'=>Q .non H',rt:=Q }) (i:=3) ((I1.jH).wI (El:=[]) (fun p hp=>by simp at hp)) ct.cc hR hF rfl rfl qp.nd rfl rfl
  refine wpAny_execs_cons (dI (Q:=SP (aL (bI P w) P w K mg base ["in_range","text","ask","refusal"] "answered" (au bG) f cdv A outer s H E) [] { nx:=fun _ H'=>Q .non H',rt:=Q }) (wpAny_Try_except ?_) fun fl s2 q=>?_)
  ·have body:Jc ((aL (bI P w) P w K mg base ["in_range","text","ask","refusal"] "answered" (au bG) f cdv A outer s H E).wish _) (match cM bG with | [.Try b _ _ _ _]=>b | _=>[]) _:=
    aq (dD (Jf (mD (pv 0))) (aC (Kg (E':=qm K cs.ref Q) MC (GC.mono (Nat.le_trans (by decide:2≤9) (Nat.sub_le_sub_right hj 1))) (by rw [Nat.sub_add_cancel (Nat.le_trans (by decide) hj)];exact hr) bC rfl JV fun El σ' H2 s2 a dx I2 ha hE=>Hw (D:={ nx:=fun _ H'=>Q .non H',rt:=Q }) (i:=3) I2 ct.cc hR ha hE rfl rfl qp.nd rfl rfl)) bU) (aC (bf (Z0 (j:=2) rfl (Or.inl rfl) hr AO Yh (bM (BO.mono hj) hr rfl Yh (aj (pv 1) aA)))))
   refine wpAny_mono (body [] s1 _ H { nx:=fun _ _=>False,rt:=Q } (I.wish _) ?_) (fun fl s2 q=>?_) fun e s2 q=>q
   ·refine ⟨_,rfl,ir,rfl,?_⟩;cases ir with
    | false=>exact CZ (jc (kE ct.Z2 ct.Z4 X.Wz (kno rfl)) _)
    | true=>
     refine Fv ⟨rfl,_,rfl,la,bs,rfl,hla,hbs,hlb,fun G b Ab B H' e1 e2 e3 e4 e5 e6 e7 e8=>?_,fun v hv=>?_⟩
     ·exact acn rfl G b Ab B H' e1 e2 e3 e4 e5 e6 e7 e8
     ·exact ⟨kE ct.aeJ ct.aeL X.abI (acj rfl v hv),kE ct.aeI ct.aeK X.abH (acj rfl v hv)⟩
   ·replace q:=q.jH;cases fl with
    | next=>obtain ⟨_,_,_,z⟩:=q;exact z.elim
    | brk=>obtain ⟨_,_,_,z⟩:=q;exact z.elim
    | cont=>obtain ⟨_,_,_,z⟩:=q;exact z.elim
    | ret u=>exact q
  ·cases fl with
   | next=>exact wpAny_execs_nil q
   | ret v=>exact q
   | brk=>exact q
   | cont=>exact q
end
end Pg
end
section
set_option linter.all false
set_option maxRecDepth 100000
set_option maxHeartbeats 4000000
namespace Pg
open PySem L2 Xc Sp Rb35
def Uv (cs:Cs):Sp:=fun vs H Q E=>∃ (b:Addr) (A:dY) (p:Nat) (B:Bk) (i:Int),vs=[.ref b,.int i]∧aV cs H b A p B ∧
 (∀ k:Nat,0≤i→(B.ls.map (·.2))[i.toNat]?=some k→Q (.int (k:Int)) H)∧(¬ (0≤i∧i.toNat < B.ls.length)→uE E cs.mH (-2))
section
variable {P:Program}{w:World}{K:PySem.W.Frag}{mg:Str→Option Value}{base:Heap}{cs:Cs}
theorem Xi:aH ["book","form"] ["book","form"] (au jm):=⟨rfl,rfl,rfl,by decide +kernel,rfl,by decide +kernel,by decide +kernel⟩
theorem Xj (T:bJ K mg "formula_of" jm) (gO:Cls K cs.boo) (naB:cF K cs.boo ["prime","people","nodes","lets","names"]) (hlen:mg "len"=none) (OR:rC P w K mg base 2 "OutOfRange" cs.mH ["self"] (mO K cs.mH (-2))) :
  aX P w K mg base 4 "formula_of" ["book","form"] (Uv cs):=by
 obtain ⟨f,fd,F,hm⟩:=T.ex;obtain ⟨fC,fdC,JV,MC,bC,GC⟩:=OR.ex;refine ⟨f,fd,hm,F.kp,F.binds (fun _ _ _ _ _ _ us hl=>match us,hl with | [_,_],_=>rfl),Bs F Xi (fun vs H Q E h=>?_) (fun cdv A outer s H vs Q E hr h=>?_)⟩
 ·obtain ⟨b,A,p,B,i,rfl,_⟩:=h;rfl
 ·obtain ⟨b,Ad,p,B,i,rfl,R,kq,kx⟩:=h;obtain ⟨dx,ob⟩:=R.ob;refine ⟨_,aq (dD (Ba (aQ xO (pv 1) aR (aY _)) (uG (aQ Eo (pv 1) (aU aO (by rfl) hlen PySem.boot_len (aj (aM (pv 0) rfl) aA)) (aY _)))).pt (aC (iU MC GC hr bC rfl JV)) bU)
   (aC (bf (fM eE (aM (pv 0) rfl) (pv 1) (fun _ _=>rfl)))),?_⟩
  refine ⟨_,rfl,_,_,rfl,rfl,_,rfl,bV (fun hc=>?_) fun hc=>?_⟩
  ·have h1:=of_decide_eq_true hc;refine CZ (jc (kx fun z=>?_) _);omega
  have h1:¬ i < 0:=fun z=>hc (decide_eq_true z);refine ⟨_,rfl,_,rfl,b,cs.boo,dx,_,_,rfl,ob,gO,naB _ (by simp),qb _ _ _ _ _,_,_,rfl,.inl (bO.of R.lets),_,_,rfl,rfl,_,rfl,bV (fun hc=>?_) fun hc=>?_⟩
  ·have h2:=of_decide_eq_true hc;rw [aK,List.length_map] at h2;exact jc (kx fun z=>by omega) _
  have h2:¬ ((nV (B.ls.map (·.2))).length:Int)≤i:=fun z=>hc (decide_eq_true z);rw [aK,List.length_map] at h2;have hi:i.toNat < (B.ls.map (·.2)).length:=by rw [List.length_map];omega
  have hk:=List.getElem?_eq_getElem hi;refine ⟨_,rfl,b,cs.boo,dx,_,_,rfl,ob,gO,naB _ (by simp),qb _ _ _ _ _,_,rfl,Ad.la,_,_,V.int (((B.ls.map (·.2))[i.toNat]:Nat):Int),rfl,rfl,bO.of R.lets,at_of (j:=i.toNat) (by omega) ?_,kq _ (by omega) hk⟩;unfold nV;rw [List.getElem?_map,hk];rfl
end
end Pg
end
section
set_option linter.all false
set_option maxRecDepth 100000
set_option maxHeartbeats 4000000
namespace Pg
open PySem PySem.Spec PyProof.Rows L2 Xc Sp
structure Qn (K:PySem.W.Frag) (mg:Str→Option Value) (x qual:Str) (st:Stmt) (tm:Addr):Prop where
 exc:Gd K mg x tm qual st
 nn:PySem.W.findIn K (.ref tm) "number"=some none
 su:∃ r,mg "Refusal"=some (.ref r)∧PySem.W.subIn K (.ref tm) (.ref r)=some true
 gx:Av K tm
theorem Qn.sub {K:PySem.W.Frag}{mg:Str→Option Value}{x qual:Str}{st:Stmt}{tm:Addr}{cs:Cs} (X:Qn K mg x qual st tm) (T:vW K mg cs):PySem.W.subIn K (.ref tm) (.ref cs.ref)=some true:=by
 obtain ⟨r,h1,h2⟩:=X.su;rw [T.mref] at h1;cases h1;exact h2
end Pg
end
section
set_option linter.all false
set_option maxRecDepth 100000
set_option maxHeartbeats 4000000
namespace Pg
open PySem PySem.Spec PyProof.Rows L2 Xc Sp
theorem zG {K:PySem.W.Frag}{H H':Hp}{a:Addr}{xs:List V} (s:Same H H') (h:bO K H a xs):bO K H' a xs:=by
 rcases h with (h | ⟨o,h⟩) | h
 ·exact .inl (.inl (s _ _ h))
 ·exact .inl (.inr ⟨o,s _ _ h⟩)
 ·exact .inr h
def Nh (K:PySem.W.Frag) (cs:Cs) (tm:Addr):Sp:=fun vs H Q E=>∃ (b:Addr) (A:dY) (p:Nat) (B:Bk) (n:Addr) (r:List Nat) (c:Nat),vs=[.ref b,.ref n,.int (c:Int)]∧aV cs H b A p B∧bO K H n (nV r)∧r.length≤600 ∧
 (Rb35.fits p c r=true→∀ H',Same H H'→Q .non H')∧(¬ Rb35.fits p c r=true→uE E tm (-3))
def Ni (cs:Cs):Sp:=fun vs H Q _=>∃ (b:Addr) (A:dY) (p:Nat) (B:Bk) (i:Nat),vs=[.ref b,.int (i:Int)]∧aV cs H b A p B∧Q (.bl (decide (i < B.P))) H
def zH (cs:Cs):Sp:=fun vs H Q _=>∃ (b:Addr) (A:dY) (p:Nat) (B:Bk) (j:Nat) (nd:Addr×Addr),vs=[.ref b,.int ((B.P+j:Nat):Int)]∧aV cs H b A p B∧A.nW[j]?=some nd∧Q (.ref nd.1) H
section
variable {P:Program}{w:World}{K:PySem.W.Frag}{mg:Str→Option Value}{base:Heap}{cs:Cs}{tm:Addr}
theorem Uw:aH ["self"] ["self"] (au cO):=⟨rfl,rfl,rfl,by decide +kernel,rfl,by decide +kernel,by decide +kernel⟩
theorem Ux (T:vW K mg cs) (X:Qn K mg "WrongNumbers" "WrongNumbers.__init__" cO tm):rC P w K mg base 2 "WrongNumbers" tm ["self"] (mO K tm (-3)):=by
 obtain ⟨fR,fdR,FR,cm⟩:=T.ref;obtain ⟨f,fd,F,M,hm⟩:=X.exc.ex;refine ⟨f,fd,hm,M,F.binds (fun _ _ _ _ _ _ us hl=>match us,hl with | [_],_=>rfl),okN F Uw (fun vs H Q E h=>?_) (fun cdv A outer s H vs Q E hr h=>?_)⟩
 ·obtain ⟨x,rfl,_⟩:=h;rfl
 ·obtain ⟨x,rfl,hx,kq⟩:=h;refine ⟨_,aC (aN (oN rfl T.mref cm (oO FR) hr (jo FR) aG (aj (pv 0) (aj (xM rK aR) aA)))),?_⟩;refine ⟨_,rfl,_,rfl,x,tm,-3,rfl,hx,X.exc.cls,X.nn,fun dx H' h1 h2 h3 h4=>kq dx H' h1 h2 h3 h4⟩
theorem zJ:aH ["book","numbers","count","number"] ["book","numbers","count"] (au eY):=⟨rfl,rfl,rfl,by decide +kernel,rfl,by decide +kernel,by decide +kernel⟩
theorem Uy (T:bJ K mg "keep_numbers" eY) (gO:Cls K cs.boo) (naB:cF K cs.boo ["prime","people","nodes","lets","names"]) (hlen:mg "len"=none) (hany:mg "any"=none) (WN:rC P w K mg base 2 "WrongNumbers" tm ["self"] (mO K tm (-3))) :
  aX P w K mg base 4 "keep_numbers" ["book","numbers","count"] (Nh K cs tm):=by
 obtain ⟨f,fd,F,hm⟩:=T.ex;obtain ⟨fC,fdC,JV,MC,bC,GC⟩:=WN.ex;refine ⟨f,fd,hm,F.kp,F.binds (fun _ _ _ _ _ _ us hl=>match us,hl with | [_,_,_],_=>rfl),Bs F zJ (fun vs H Q E h=>?_) (fun cdv A outer s H vs Q E hr h=>?_)⟩
 ·obtain ⟨b,A,p,B,n,r,c,rfl,_⟩:=h;rfl
 ·obtain ⟨b,Ad,p,B,n,r,c,rfl,R,hn,hz,kq,kx⟩:=h;obtain ⟨dx,ob⟩:=R.ob;refine ⟨_,aC (dD (Ba (aQ vL (aU aO (by rfl) hlen PySem.boot_len (aj (pv 1) aA)) (pv 2) (aY _)) (uG (mD (aU (CP rfl) (by rfl) hany PyProof.Rows.boot_any (aj (pq rfl zJ.nd (dF (pv 1)) (cY (own:=[("number",3)]) (by show pQ ["book","numbers","count","number"] (au eY) _ [("number",3)]=true;decide +kernel))
    (fun _ _ _ _ _=>bY (i:=3) zJ.nd rfl (Or.inl rfl)) (fun _ _ _ _ _=>gW) (fun _ _ _ _ _=>d9 Eo (pv 3) (Dw (K:=K) rfl (pv 0)) (aY _))) aA))))).pt (aC (iU MC GC hr bC rfl JV)) bU),?_⟩
  refine ⟨_,rfl,_,_,rfl,.inl hn,_,rfl,rfl,_,rfl,bV (fun hc=>?_) fun hc=>?_⟩
  ·refine CZ (jc (kx fun z=>?_) _);rw [aK,iH] at hc;unfold Rb35.fits at z;have h1:=of_decide_eq_true (Bool.and_eq_true_iff.mp z).1;simp [h1] at hc
  rw [aK,iH] at hc;have h1:(r.length:Int)=(c:Int):=by simpa using hc
  replace h1:r.length=c:=by omega
  refine ⟨_,rfl,n,rfl,⟨_,hn⟩,fun D hD=>?_⟩;have s0:∀ xs,Same H (upd H D (.lst xs)):=fun xs c o q=>by rw [ak (aB q hD)];exact q
  refine gH (xs:=nV r) (fun j H'=>H'=upd H D (.lst (((r.take j).map fun x=>decide (p≤x)).map V.bl))) rfl ?_ ?_ ?_
  ·rintro j H' _ rfl;exact zG (s0 _) hn
  ·rintro j y H' hy rfl;unfold nV at hy;rw [List.getElem?_map] at hy;cases hk:r[j]? with
   | none=>rw [hk] at hy;cases hy
   | some x=>
    rw [hk] at hy;cases hy;have hj:=(List.getElem?_eq_some_iff.mp hk).1;refine ⟨rfl,_,rfl,_,rfl,b,cs.boo,dx,_,_,rfl,s0 _ _ _ ob,gO,naB _ (by simp),u0 _ _ _ _ _,_,_,rfl,rfl,_,ao,?_,?_⟩
    ·rw [List.length_map,List.length_map,List.length_take];exact Nat.lt_of_le_of_lt (Nat.min_le_left _ _) (Nat.lt_of_lt_of_le hj (Nat.le_trans hz (by decide)))
    ·rw [gG,List.take_succ,hk];show _=upd H D (.lst (((r.take j++[x]).map _).map V.bl));rw [List.map_append,List.map_append];show upd H D (.lst (_++[V.bl (decide ((p:Int)≤(x:Int)))]))=_;congr 4;simp
  ·rintro H' rfl;rw [aK,List.take_length];refine ⟨D,_,rfl,bO.of ao,_,rfl,bV (fun hc2=>?_) fun hc2=>?_⟩
   ·refine jc (kx fun z=>?_) _;obtain ⟨x,hx,hx2⟩:=List.any_eq_true.mp hc2;obtain ⟨y,hy,rfl⟩:=List.mem_map.mp hx;unfold Rb35.fits at z;have h2:=List.all_eq_true.mp (Bool.and_eq_true_iff.mp z).2 y hy;have h3:p≤y:=of_decide_eq_true hx2;have h4:=of_decide_eq_true h2;omega
   ·refine kq ?_ _ (s0 _);unfold Rb35.fits;rw [decide_eq_true h1,Bool.true_and,List.all_eq_true];intro y hy;refine decide_eq_true (Nat.lt_of_not_le fun z=>hc2 (List.any_eq_true.mpr ⟨_,List.mem_map.mpr ⟨y,hy,rfl⟩,decide_eq_true z⟩))
theorem Z5:aH ["self","formula"] ["self","formula"] (au fJ):=⟨rfl,rfl,rfl,by decide +kernel,rfl,by decide +kernel,by decide +kernel⟩
theorem Z6 (T:gq K cs.boo "is_person" "Book.is_person" fJ) (gO:Cls K cs.boo) (naB:cF K cs.boo ["prime","people","nodes","lets","names"]) (hlen:mg "len"=none):bw P w K mg base 1 cs.boo "is_person" ["self","formula"] (Ni cs):=by
 obtain ⟨f,fd,F,M⟩:=T.ex;refine ⟨f,fd,M,F.binds (fun _ _ _ _ _ _ us hl=>match us,hl with | [_,_],_=>rfl),okN F Z5 (fun vs H Q E h=>?_) (fun cdv A outer s H vs Q E hr h=>?_)⟩
 ·obtain ⟨b,A,p,B,i,rfl,_⟩:=h;rfl
 ·obtain ⟨b,Ad,p,B,i,rfl,R,kq⟩:=h;obtain ⟨dx,ob⟩:=R.ob;refine ⟨_,aC (bf (d9 xO (pv 1) (aU aO (by rfl) hlen PySem.boot_len (aj (aM (pv 0) rfl) aA)) (aY _))),?_⟩;refine ⟨_,rfl,_,rfl,b,cs.boo,dx,_,_,rfl,ob,gO,naB _ (by simp),fV _ _ _ _ _,_,_,rfl,.inl (bO.of R.people),_,_,rfl,rfl,?_⟩;rw [List.length_map];have:decide ((i:Int) < ((B.people.length:Nat):Int))=decide (i < B.P):=by
   show _=decide (i < B.people.length);simp
  show Q (.bl (decide ((i:Int) < ((B.people.length:Nat):Int)))) H;rw [this];exact kq
theorem Qo:aH ["self","formula"] ["self","formula"] (au gJ):=⟨rfl,rfl,rfl,by decide +kernel,rfl,by decide +kernel,by decide +kernel⟩
theorem Qp (T:gq K cs.boo "node_of" "Book.node_of" gJ) (gO:Cls K cs.boo) (naB:cF K cs.boo ["prime","people","nodes","lets","names"]) (hlen:mg "len"=none):bw P w K mg base 1 cs.boo "node_of" ["self","formula"] (zH cs):=by
 obtain ⟨f,fd,F,M⟩:=T.ex;refine ⟨f,fd,M,F.binds (fun _ _ _ _ _ _ us hl=>match us,hl with | [_,_],_=>rfl),okN F Qo (fun vs H Q E h=>?_) (fun cdv A outer s H vs Q E hr h=>?_)⟩
 ·obtain ⟨b,A,p,B,j,nd,rfl,_⟩:=h;rfl
 ·obtain ⟨b,Ad,p,B,j,nd,rfl,R,hj,kq⟩:=h;obtain ⟨dx,ob⟩:=R.ob;refine ⟨_,aC (bf (fM eE (aM (pv 0) rfl) (fG uJ (pv 1) (aU aO (by rfl) hlen PySem.boot_len (aj (aM (pv 0) rfl) aA))) (fun _ _=>rfl))),?_⟩;refine ⟨_,rfl,b,cs.boo,dx,_,_,rfl,ob,gO,naB _ (by simp),nF _ _ _ _ _,_,rfl,_,rfl,b,cs.boo,dx,_,_,rfl,ob,gO,naB _ (by simp),fV _ _ _ _ _,_,_,rfl,.inl (bO.of R.people),_,_,rfl,rfl,Ad.na,_,_,V.ref nd.1,rfl,rfl,bO.of R.nodes,at_of (j:=j) ?_ (by rw [List.getElem?_map,hj];rfl),kq⟩;show ((B.P+j:Nat):Int)-(((B.people.map fun x=>V.str (bR x)).length:Nat):Int)=_;rw [List.length_map];have:B.P=B.people.length:=rfl;omega
end
end Pg
end
section
set_option linter.all false
namespace Sp
open Rb35
theorem Hy {t:Toks}{x:Nat×Toks} (h:field t=.ok x):x.1≤251∧prime x.1=true:=by
 unfold field at h;split at h
 ·cases h
 ·split at h
  ·rename_i p k r _;split at h
   ·rename_i hc;cases e:take_ 59 r with
    | error k=>rw [e] at h;cases h
    | ok u=>
     rw [e] at h;cases h;rw [Bool.and_eq_true,decide_eq_true_iff] at hc;exact hc
   ·cases h
  ·cases h
theorem vZ {bs:List Nat}{G:Prog} (h:taken bs=.good G):G.p≤251∧prime G.p=true:=by
 unfold taken at h;cases q:program (toks bs) with
 | error k=>rw [q] at h;cases h
 | ok P=>
  rw [q] at h;dsimp only at h;split at h
  ·cases h;unfold program at q;cases f:field (toks bs) with
   | error k=>rw [f] at q;cases q
   | ok x=>
    have hx:=Hy f;rw [f] at q;simp only [Except.bind] at q;split at q
    ·cases q
    ·cases e1:people (x.2.length+1) ⟨[],[]⟩ (x.2.drop 1) with
     | error k=>rw [e1] at q;cases q
     | ok y=>
      rw [e1] at q;dsimp only at q;cases e2:take_ 59 y.2 with
      | error k=>rw [e2] at q;cases q
      | ok r=>
       rw [e2] at q;dsimp only at q;cases e3:lets (r.length+1) y.1 r with
       | error k=>rw [e3] at q;cases q
       | ok e=>
        rw [e3] at q;cases q;exact hx
  ·cases h
theorem cX {p:Nat} (h:prime p=true):2≤p:=by
 unfold prime at h;rw [Bool.and_eq_true,decide_eq_true_iff] at h;exact h.1
end Sp
end
section
set_option linter.all false
namespace Sp
open Rb35
def ev (cs:List Int) (x:Int):Int:=cs.foldr (fun c v=>c+x*v) 0
theorem zK (x:Int):ev [] x=0:=rfl
theorem iI (c:Int) (cs:List Int) (x:Int):ev (c::cs) x=c+x*ev cs x:=rfl
def vA:List Int→List Int→List Int
 | [],ds=>ds
 | c::cs,[]=>c::cs
 | c::cs,d::ds=>(c+d)::vA cs ds
theorem qO:∀ (cs ds:List Int) (x:Int),ev (vA cs ds) x=ev cs x+ev ds x
 | [],ds,x=>by rw [vA,zK,Int.zero_add]
 | c::cs,[],x=>by rw [vA,zK,Int.add_zero]
 | c::cs,d::ds,x=>by
  rw [vA,iI,iI,iI,qO cs ds,Int.mul_add];omega
theorem qt:∀ (cs ds:List Int),(vA cs ds).length=max cs.length ds.length
 | [],ds=>by simp [vA]
 | c::cs,[]=>by simp [vA]
 | c::cs,d::ds=>by
  rw [vA,List.length_cons,qt cs ds,List.length_cons,List.length_cons];omega
def mulC (a:Int) (cs:List Int):List Int:=cs.map fun c=>a*c
theorem qP (a:Int):∀ (cs:List Int) (x:Int),ev (mulC a cs) x=a*ev cs x
 | [],x=>by rw [mulC,List.map_nil,zK,Int.mul_zero]
 | c::cs,x=>by
  have h:=qP a cs x;unfold mulC at h ⊢;rw [List.map_cons,iI,iI,h,Int.mul_add];congr 1;rw [←Int.mul_assoc,←Int.mul_assoc,Int.mul_comm x a]
def Kh (a:Int) (cs:List Int):List Int:=vA (0::cs) (mulC (-a) cs)
theorem Xk (a:Int) (cs:List Int) (x:Int):ev (Kh a cs) x=(x-a)*ev cs x:=by
 unfold Kh;rw [qO,iI,qP,Int.sub_mul,Int.neg_mul];omega
theorem Uz (a:Int) (cs:List Int):(Kh a cs).length=cs.length+1:=by
 unfold Kh mulC;rw [qt,List.length_map,List.length_cons];omega
def quo (a:Int):List Int→List Int
 | []=>[]
 | _::cs=>vA cs (mulC a (quo a cs))
theorem Nj (a:Int):∀ cs:List Int,(quo a cs).length=cs.length-1
 | []=>rfl
 | c::cs=>by
  rw [quo,qt];unfold mulC;rw [List.length_map,Nj a cs,List.length_cons];omega
theorem Kl (a x:Int):∀ cs:List Int,ev cs x-ev cs a=(x-a)*ev (quo a cs) x
 | []=>by rw [quo,zK,zK,Int.mul_zero];rfl
 | c::cs=>by
  have h:=Kl a x cs;rw [quo,iI,iI,qO,qP,Int.mul_add,←Int.mul_assoc,Int.mul_comm (x-a) a,Int.mul_assoc,←h,Int.mul_sub,Int.sub_mul];omega
theorem Hz {p d:Nat} (h:prime p=true) (h2:2≤d) (hd:d < p):p%d≠0:=by
 unfold prime at h;rw [Bool.and_eq_true,List.all_eq_true] at h;have:=h.2 d (List.mem_range.mpr hd);rw [Bool.or_eq_true,decide_eq_true_iff] at this;rcases this with z | z
 ·omega
 ·simpa using z
theorem Qq {p a:Nat} (h:prime p=true) (ha:¬ p∣a):Nat.Coprime p a:=by
 have h2:=cX h;have g1:Nat.gcd p a∣p:=Nat.gcd_dvd_left p a;have gp:Nat.gcd p a≠0:=fun z=>by
  have:=Nat.eq_zero_of_gcd_eq_zero_left z;omega
 have gl:Nat.gcd p a≤p:=Nat.le_of_dvd (by omega) g1;by_cases g2:Nat.gcd p a=p
 ·exact absurd (by rw [←g2];exact Nat.gcd_dvd_right p a) ha
 ·by_cases g3:Nat.gcd p a=1
  ·exact g3
  ·exact absurd (Nat.mod_eq_zero_of_dvd g1) (Hz h (by omega) (by omega))
theorem vB {p:Nat} (h:prime p=true) {a b:Int} (hab:(p:Int)∣a*b):(p:Int)∣a∨(p:Int)∣b:=by
 have h1:p∣a.natAbs*b.natAbs:=by
  have:=Int.natAbs_dvd_natAbs.mpr hab
  rwa [Int.natAbs_mul,Int.natAbs_natCast] at this
 by_cases ha:p∣a.natAbs
 ·exact .inl (Int.ofNat_dvd_left.mpr ha)
 ·exact .inr (Int.ofNat_dvd_left.mpr ((Qq h ha).dvd_of_dvd_mul_left h1))
theorem Xl {p:Nat} (h:prime p=true):∀ a:Nat,0 < a→a < p→∃ b:Int,(p:Int)∣(a:Int)*b-1:=by
 intro a
 induction a using Nat.strongRecOn with
 | _ a ih=>
  intro h0 hp;by_cases h1:a=1
  ·subst h1;exact ⟨1,⟨0,by simp⟩⟩
  ·have hr:p%a≠0:=Hz h (by omega) hp;obtain ⟨b,k,hk⟩:=ih (p%a) (Nat.mod_lt _ h0) (by omega) (Nat.lt_trans (Nat.mod_lt _ h0) hp);have hd:((p:Nat):Int)=(a:Int)*((p / a:Nat):Int)+((p%a:Nat):Int):=by
    have:=Nat.div_add_mod p a;rw [←Int.natCast_mul,←Int.natCast_add,this]
   refine ⟨-(((p / a:Nat):Int)*b),-b+k,?_⟩;have e1:(a:Int)*-(((p / a:Nat):Int)*b)=-(((p:Nat):Int)-((p%a:Nat):Int))*b:=by
    have:((p:Nat):Int)-((p%a:Nat):Int)=(a:Int)*((p / a:Nat):Int):=by omega
    rw [this,Int.mul_neg,Int.neg_mul,Int.mul_assoc]
   rw [e1,Int.neg_mul,Int.sub_mul,Int.mul_add,Int.mul_neg];omega
theorem DQ {p:Nat} (h:prime p=true) {n:Int} (hn:¬ (p:Int)∣n):∃ f:Nat,1≤f∧f < p∧(n*(f:Int))%(p:Int)=1:=by
 have h2:=cX h;have hp:(0:Int) < (p:Int):=by omega
 have m0:=Int.emod_nonneg n (by omega:(p:Int)≠0);have m1:=Int.emod_lt_of_pos n hp;have mz:n%(p:Int)≠0:=fun z=>hn (Int.dvd_of_emod_eq_zero z);obtain ⟨b,k,hk⟩:=Xl h (n%(p:Int)).toNat (by omega) (by omega);rw [Int.toNat_of_nonneg m0] at hk;have b0:=Int.emod_nonneg b (by omega:(p:Int)≠0);have b1:=Int.emod_lt_of_pos b hp;have key:(n*(b%(p:Int)))%(p:Int)=1:=by
  have e:(n*(b%(p:Int)))%(p:Int)=((n%(p:Int))*b)%(p:Int):=by
   rw [Int.mul_emod n (b%(p:Int)),Int.mul_emod (n%(p:Int)) b,Int.emod_emod,Int.emod_emod]
  have e2:(n%(p:Int))*b=1+(p:Int)*k:=by omega
  rw [e,e2,Int.add_mul_emod_self_left,Int.emod_eq_of_lt (by omega) (by omega)]
 refine ⟨(b%(p:Int)).toNat,?_,by omega,by rw [Int.toNat_of_nonneg b0];exact key⟩;by_cases z:b%(p:Int)=0
 ·rw [z,Int.mul_zero] at key;simp at key
 ·omega
theorem roots {p:Nat} (h:prime p=true):∀ (k:Nat) (cs:List Int) (xs:List Int),cs.length≤k→xs.length=k→xs.Pairwise (fun a b=>¬ (p:Int)∣b-a)→(∀ a∈xs,(p:Int)∣ev cs a)→∀ x,(p:Int)∣ev cs x
 | 0,cs,xs,hl,_,_,_,x=>by
  match cs,hl with
  | [],_=>exact ⟨0,by simp [ev]⟩
 | k+1,cs,[],_,hx,_,_,x=>by simp at hx
 | k+1,cs,a::xs,hl,hx,hd,hr,x=>by
  rw [List.pairwise_cons] at hd;have ha:=hr a (by simp);have hq:=roots h k (quo a cs) xs (by rw [Nj];omega) (by simpa using hx) hd.2 fun b hb=>by
   have hb':=hr b (by simp [hb]);have:(p:Int)∣(b-a)*ev (quo a cs) b:=by rw [←Kl];exact Int.dvd_sub hb' ha
   exact (vB h this).resolve_left (hd.1 b hb)
  have h1:(p:Int)∣ev cs x-ev cs a:=by rw [Kl];exact Int.dvd_mul_of_dvd_right (hq x)
  have h2:=Int.dvd_add h1 ha
  rwa [Int.sub_add_cancel] at h2
theorem nO {p:Nat} (hp:0 < p) (x:Nat):∀ cs:List Nat,((worth p cs x:Nat):Int)=ev (cs.map fun (c:Nat)=>(c:Int)) (x:Int)%(p:Int)
 | []=>by show ((0:Nat):Int)=(0:Int)%_;simp
 | c::cs=>by
  have ih:=nO hp x cs;show (((c+x*worth p cs x)%p:Nat):Int)=_;rw [List.map_cons,iI,Int.natCast_emod,Int.natCast_add,Int.natCast_mul,ih];rw [Int.add_emod (c:Int) ((x:Int)*(_%_)),Int.mul_emod (x:Int) (_%_),Int.emod_emod,←Int.mul_emod,←Int.add_emod]
def low (p:Nat) (cs:List Int):List Nat:=cs.map fun c=>(c%(p:Int)).toNat
theorem Z7 {p:Nat} (hp:0 < p) (cs:List Int):∀ c∈low p cs,c < p:=fun c hc=>by
 obtain ⟨d,_,rfl⟩:=List.mem_map.mp hc;have:=Int.emod_nonneg d (by omega:(p:Int)≠0);have:=Int.emod_lt_of_pos d (by omega:(0:Int) < (p:Int));omega
theorem Xm (p:Nat) (cs:List Int):(low p cs).length=cs.length:=List.length_map _
theorem UG {p:Nat} (hp:0 < p) (x:Int):∀ cs:List Int,ev ((low p cs).map fun (c:Nat)=>(c:Int)) x%(p:Int)=ev cs x%(p:Int)
 | []=>rfl
 | c::cs=>by
  have ih:=UG hp x cs;show ev (((c%(p:Int)).toNat:Int)::(low p cs).map fun (c:Nat)=>(c:Int)) x%_=_;rw [iI,iI,Int.toNat_of_nonneg (Int.emod_nonneg c (by omega)),Int.add_emod,Int.mul_emod,ih,←Int.mul_emod,Int.emod_emod,←Int.add_emod]
theorem Qs {p:Nat} (hp:0 < p) (x:Nat) (cs:List Int):((worth p (low p cs) x:Nat):Int)=ev cs (x:Int)%(p:Int):=by rw [nO hp,UG hp]
theorem v7 {p:Nat} (hp:0 < p) {a b:Int} (h:a%(p:Int)=b%(p:Int)):(p:Int)∣a-b:=Int.dvd_of_emod_eq_zero (by rw [Int.sub_emod,h,Int.sub_self,Int.zero_emod])
theorem HD {p:Nat}{a b:Int} (h:(p:Int)∣a-b):a%(p:Int)=b%(p:Int):=by
 obtain ⟨k,hk⟩:=h;have:a=b+(p:Int)*k:=by omega
 rw [this,Int.add_mul_emod_self_left]
theorem DR {p:Nat} (h:prime p=true) {cs ds:List Nat}{xs:List Nat}{k:Nat} (hc:cs.length≤k) (hd:ds.length≤k) (hk:xs.length=k) (hx:xs.Pairwise (fun (a b:Nat)=>¬ (p:Int)∣(b:Int)-(a:Int)))
  (he:∀ x∈xs,worth p cs x=worth p ds x) (x:Nat):worth p cs x=worth p ds x:=by
 have hp:0 < p:=by have:=cX h;omega
 have hr:=roots h k (vA (cs.map fun (c:Nat)=>(c:Int)) (mulC (-1) (ds.map fun (c:Nat)=>(c:Int)))) (xs.map fun (x:Nat)=>(x:Int)) (by
  rw [qt];unfold mulC;rw [List.length_map,List.length_map,List.length_map];omega) (by rw [List.length_map];exact hk) (by rw [List.pairwise_map];exact hx) (fun a ha=>by
  obtain ⟨y,hy,rfl⟩:=List.mem_map.mp ha;have e:((worth p cs y:Nat):Int)=((worth p ds y:Nat):Int):=by rw [he y hy]
  rw [nO hp,nO hp] at e;rw [qO,qP];have:=v7 hp e;have e2:ev (cs.map fun (c:Nat)=>(c:Int)) (y:Int)+-1*ev (ds.map fun (c:Nat)=>(c:Int)) (y:Int)=ev (cs.map fun (c:Nat)=>(c:Int)) (y:Int)-ev (ds.map fun (c:Nat)=>(c:Int)) (y:Int):=by omega
  rw [e2];exact this) (x:Int)
 rw [qO,qP] at hr;have e2:ev (cs.map fun (c:Nat)=>(c:Int)) (x:Int)+-1*ev (ds.map fun (c:Nat)=>(c:Int)) (x:Int)=ev (cs.map fun (c:Nat)=>(c:Int)) (x:Int)-ev (ds.map fun (c:Nat)=>(c:Int)) (x:Int):=by omega
 rw [e2] at hr;have e3:=HD hr;rw [←nO hp,←nO hp] at e3;exact Int.ofNat.inj e3
end Sp
end
section
set_option linter.all false
namespace Sp
open Rb35
def cZ (l:List Int):Int:=l.foldr (fun a b=>a*b) 1
theorem Km (l:List Int) (a:Int):cZ (l++[a])=cZ l*a:=by
 induction l with
 | nil=>show a*1=1*a;omega
 | cons b l ih=>
  show b*cZ (l++[a])=b*cZ l*a;rw [ih,Int.mul_assoc]
theorem zL:∀ {l:List Int},(0:Int)∈l→cZ l=0
 | a::l,h=>by
  show a*cZ l=0;rcases List.mem_cons.mp h with h | h
  ·rw [←h,Int.zero_mul]
  ·rw [zL h,Int.mul_zero]
theorem Ca {p:Nat} (h:prime p=true):∀ {l:List Int},(∀ a∈l,¬ (p:Int)∣a)→¬ (p:Int)∣cZ l
 | [],_=>fun z=>by
  have h2:=cX h;have:=Int.le_of_dvd (by decide) z;have:(p:Int)≤1:=this;omega
 | a::l,ha=>fun z=>by
  rcases vB h (show (p:Int)∣a*cZ l from z) with y | y
  ·exact ha a (by simp) y
  ·exact Ca h (fun b hb=>ha b (by simp [hb])) y
def HF (l:List Int):List Int:=l.foldr Kh [1]
theorem HJ (x:Int):∀ l:List Int,ev (HF l) x=cZ (l.map fun a=>x-a)
 | []=>by show 1+x*0=1;omega
 | a::l=>by
  show ev (Kh a (HF l)) x=(x-a)*_;rw [Xk,HJ x l];rfl
theorem Cd:∀ l:List Int,(HF l).length=l.length+1
 | []=>rfl
 | a::l=>by
  show (Kh a (HF l)).length=_;rw [Uz,Cd l];rfl
def wC (p:Nat) (n:Int):Nat:=((List.range p).find? fun (f:Nat)=>(n*(f:Int))%(p:Int)==1).getD 1
theorem inv_one {p:Nat} (h:prime p=true) {n:Int}{f g:Nat} (hf:f < p) (hg:g < p) (e1:(n*(f:Int))%(p:Int)=1) (e2:(n*(g:Int))%(p:Int)=1):f=g:=by
 have hp:0 < p:=by have:=cX h;omega
 have hd:(p:Int)∣n*((f:Int)-(g:Int)):=by
  rw [Int.mul_sub];exact v7 hp (e1.trans e2.symm)
 rcases vB h hd with z | z
 ·have:(n*(f:Int))%(p:Int)=0:=Int.emod_eq_zero_of_dvd (Int.dvd_mul_of_dvd_left z);omega
 ·obtain ⟨k,hk⟩:=z;by_cases k0:f=g
  ·exact k0
  ·have:(p:Int)≤((f:Int)-(g:Int)).natAbs:=by
    have:=Nat.le_of_dvd (by omega:0 < ((f:Int)-(g:Int)).natAbs) (Int.natAbs_dvd_natAbs.mpr ⟨k,hk⟩);rw [Int.natAbs_natCast] at this;omega
   omega
theorem DW {p:Nat} (h:prime p=true) {n:Int}{f:Nat} (hf:f < p) (e:(n*(f:Int))%(p:Int)=1):wC p n=f:=by
 unfold wC;cases q:(List.range p).find? fun (f:Nat)=>(n*(f:Int))%(p:Int)==1 with
 | none=>
  have:=List.find?_eq_none.mp q f (List.mem_range.mpr hf);simp [e] at this
 | some g=>
  have h1:=List.find?_some q;have h2:=List.mem_range.mp (List.mem_of_find?_eq_some q);exact inv_one h h2 hf (by simpa using h1) e
theorem UJ (p:Nat) (n:Int):wC p (n%(p:Int))=wC p n:=by
 unfold wC;congr 2;funext f;rw [Int.mul_emod,Int.emod_emod,←Int.mul_emod]
def oth (bZ:List (Nat×Nat)) (a:Nat):List Int:=(bZ.filter fun q=>q.1 != a).map fun q=>(q.1:Int)
def term (p:Nat) (bZ:List (Nat×Nat)) (x:Int) (q:Nat×Nat):Int:=
 (q.2:Int)*cZ ((oth bZ q.1).map fun a=>x-a)*(wC p (cZ ((oth bZ q.1).map fun a=>(q.1:Int)-a)):Int)
def oY (p:Nat) (bZ:List (Nat×Nat)) (x:Int):Int:=(bZ.map (term p bZ x)).sum
structure DX (p:Nat) (bZ:List (Nat×Nat)):Prop where
 nd:(bZ.map (·.1)).Nodup
 lt:∀ q∈bZ,q.1 < p∧q.2 < p
theorem Nk {p a b:Nat} (ha:a < p) (hb:b < p) (h:a≠b):¬ (p:Int)∣(a:Int)-(b:Int):=fun ⟨k,hk⟩=>by
 have:=Nat.le_of_dvd (by omega:0 < ((a:Int)-(b:Int)).natAbs) (Int.natAbs_dvd_natAbs.mpr ⟨k,hk⟩);rw [Int.natAbs_natCast] at this;omega
section
variable {p:Nat}{bZ:List (Nat×Nat)}
theorem DX.below (h:prime p=true) (P:DX p bZ) {q:Nat×Nat} (hq:q∈bZ):¬ (p:Int)∣cZ ((oth bZ q.1).map fun a=>(q.1:Int)-a):=by
 refine Ca h fun a ha=>?_;obtain ⟨b,hb,rfl⟩:=List.mem_map.mp ha;obtain ⟨r,hr,rfl⟩:=List.mem_map.mp hb;obtain ⟨h1,h2⟩:=List.mem_filter.mp hr;exact Nk (P.lt q hq).1 (P.lt r h1).1 (by simpa using Ne.symm (by simpa using h2))
theorem DX.inv (h:prime p=true) (P:DX p bZ) {q:Nat×Nat} (hq:q∈bZ):(cZ ((oth bZ q.1).map fun a=>(q.1:Int)-a)*(wC p (cZ ((oth bZ q.1).map fun a=>(q.1:Int)-a)):Int))%(p:Int)=1:=by
 obtain ⟨f,h1,h2,h3⟩:=DQ h (P.below h hq);rw [DW h h2 h3];exact h3
theorem Ko {q r:Nat×Nat} (hq:q∈bZ) (hn:r.1≠q.1):term p bZ (q.1:Int) r=0:=by
 unfold term;have:cZ ((oth bZ r.1).map fun a=>(q.1:Int)-a)=0:=zL (List.mem_map.mpr ⟨(q.1:Int),List.mem_map.mpr ⟨q,List.mem_filter.mpr ⟨hq,by simpa using Ne.symm hn⟩,rfl⟩,by omega⟩);rw [this,Int.mul_zero,Int.zero_mul]
theorem Nm {α:Type} (f:α→Int) {x:α}:∀ {l:List α},x∈l→l.Pairwise (fun a b=>a≠b)→(∀ y∈l,y≠x→f y=0)→(l.map f).sum=f x
 | a::l,hx,hd,h0=>by
  rw [List.pairwise_cons] at hd;rw [List.map_cons,List.sum_cons];by_cases e:x=a
  ·subst e;have:∀ m:List α,(∀ y∈m,f y=0)→(m.map f).sum=0:=fun m=>by
    induction m with
    | nil=>intro _;rfl
    | cons b m ih=>intro hm;rw [List.map_cons,List.sum_cons,hm b (by simp),ih fun y hy=>hm y (by simp [hy])];rfl
   rw [this l fun y hy=>h0 y (by simp [hy]) (hd.1 y hy).symm,Int.add_zero]
  ·have hx':x∈l:=by rcases List.mem_cons.mp hx with z | z;exact absurd z e;exact z
   rw [h0 a (by simp) (fun z=>e z.symm),Int.zero_add,Nm f hx' hd.2 fun y hy=>h0 y (by simp [hy])]
theorem DX.aco (P:DX p bZ) {q r:Nat×Nat} (hq:q∈bZ) (hr:r∈bZ) (e:q.1=r.1):q=r:=by
 have nd:=P.nd;clear P
 induction bZ with
 | nil=>simp at hq
 | cons a l ih=>
  rw [List.map_cons,List.nodup_cons] at nd;rcases List.mem_cons.mp hq with y | y <;> rcases List.mem_cons.mp hr with z | z
  ·rw [y,z]
  ·exact absurd (List.mem_map.mpr ⟨r,z,by rw [←e,y]⟩) nd.1
  ·exact absurd (List.mem_map.mpr ⟨q,y,by rw [e,z]⟩) nd.1
  ·exact ih y z nd.2
theorem DX.pw (P:DX p bZ):bZ.Pairwise (fun a b=>a≠b):=by
 have nd:=P.nd;rw [List.nodup_iff_pairwise_ne,List.pairwise_map] at nd;exact nd.imp fun h e=>h (by rw [e])
theorem Kr (h:prime p=true) (P:DX p bZ) {q:Nat×Nat} (hq:q∈bZ):oY p bZ (q.1:Int)%(p:Int)=(q.2:Int):=by
 unfold oY;rw [Nm _ hq P.pw fun r hr hn=>Ko hq fun e=>hn (P.aco hr hq e)];unfold term;rw [Int.mul_assoc,Int.mul_emod,P.inv h hq,Int.mul_one,Int.emod_emod];have:=(P.lt q hq).2;exact Int.emod_eq_of_lt (by omega) (by omega)
theorem Xn (P:DX p bZ) {q:Nat×Nat} (hq:q∈bZ):(oth bZ q.1).length+1=bZ.length:=by
 unfold oth;rw [List.length_map];have nd:=P.nd;clear P
 induction bZ with
 | nil=>simp at hq
 | cons a l ih=>
  rw [List.map_cons,List.nodup_cons] at nd;rcases List.mem_cons.mp hq with rfl | hq
  ·have:∀ m:List (Nat×Nat),(∀ r∈m,r.1≠q.1)→m.filter (fun r=>r.1 != q.1)=m:=fun m hm=>List.filter_eq_self.mpr fun r hr=>by simpa using hm r hr
   rw [List.filter_cons_of_neg (by simp),this l fun r hr e=>nd.1 (List.mem_map.mpr ⟨r,hr,e⟩),List.length_cons]
  ·have hne:a.1≠q.1:=fun e=>nd.1 (List.mem_map.mpr ⟨q,hq,e.symm⟩);rw [List.filter_cons_of_pos (by simpa using hne),List.length_cons,ih hq nd.2,List.length_cons]
def Ks (p:Nat) (bZ:List (Nat×Nat)):List (Nat×Nat)→List Int
 | []=>[]
 | q::l=>vA (mulC ((q.2:Int)*(wC p (cZ ((oth bZ q.1).map fun a=>(q.1:Int)-a)):Int)) (HF (oth bZ q.1))) (Ks p bZ l)
theorem Np (x:Int):∀ l:List (Nat×Nat),ev (Ks p bZ l) x=(l.map (term p bZ x)).sum
 | []=>rfl
 | q::l=>by
  rw [Ks,qO,qP,HJ,Np x l,List.map_cons,List.sum_cons];congr 1;unfold term;rw [Int.mul_assoc,Int.mul_assoc,Int.mul_comm (wC p _:Int)]
theorem HN (P:DX p bZ):∀ l:List (Nat×Nat),(∀ q∈l,q∈bZ)→(Ks p bZ l).length≤bZ.length
 | [],_=>Nat.zero_le _
 | q::l,h=>by
  rw [Ks,qt];unfold mulC;rw [List.length_map,Cd];have:=Xn P (h q (by simp));have:=HN P l fun r hr=>h r (by simp [hr]);omega
theorem Ce (p:Nat) (n x:Nat):∀ cs:List Nat,worth p (cs++List.replicate n 0) x=worth p cs x
 | []=>by
  rw [List.nil_append]
  induction n with
  | zero=>rfl
  | succ n ih=>
   rw [List.replicate_succ];show (0+x*worth p (List.replicate n 0) x)%p=0;rw [ih];show (0+x*0)%p=0;simp
 | c::cs=>by
  show (c+x*worth p (cs++List.replicate n 0) x)%p=(c+x*worth p cs x)%p;rw [Ce p n x cs]
theorem DY (h:prime p=true) (P:DX p bZ) {k:Nat} (hk:bZ.length≤k):∃ cs:List Nat,cs.length=k∧(∀ c∈cs,c < p)∧∀ x:Nat,((worth p cs x:Nat):Int)=oY p bZ (x:Int)%(p:Int):=by
 have hp:0 < p:=by have:=cX h;omega
 have hl:=HN P bZ fun q hq=>hq;refine ⟨low p (Ks p bZ bZ)++List.replicate (k-(Ks p bZ bZ).length) 0,?_,fun c hc=>?_,fun x=>?_⟩
 ·rw [List.length_append,Xm,List.length_replicate];omega
 ·rcases List.mem_append.mp hc with z | z
  ·exact Z7 hp _ c z
  ·rw [List.mem_replicate] at z;omega
 ·rw [Ce,Qs hp,Np];rfl
theorem Ku (h:prime p=true) (P:DX p bZ) {cs:List Nat} (hc:cs.length≤bZ.length) (he:∀ q∈bZ,worth p cs q.1=q.2) (x:Nat):((worth p cs x:Nat):Int)=oY p bZ (x:Int)%(p:Int):=by
 obtain ⟨ds,d1,d2,d3⟩:=DY h P (Nat.le_refl _);rw [←d3];congr 1;refine DR h (xs:=bZ.map (·.1)) hc (by omega) (by rw [List.length_map]) ?_ (fun y hy=>?_) x
 ·rw [List.pairwise_map];have nd:=P.nd;rw [List.nodup_iff_pairwise_ne,List.pairwise_map] at nd;refine nd.imp_of_mem fun {a b} ha hb hn=>Nk (P.lt b hb).1 (P.lt a ha).1 (Ne.symm hn)
 ·obtain ⟨q,hq,rfl⟩:=List.mem_map.mp hy;have h1:=d3 q.1;rw [Kr h P hq] at h1;rw [he q hq];omega
end
end Sp
end
section
set_option linter.all false
namespace Sp
open Rb35
def Sv (v:Int) (s:Nat):Prop:=v≠-4∧(v=-6∨v=(s:Int))
instance (v:Int) (s:Nat):Decidable (Sv v s):=by unfold Sv;exact inferInstance
def Vd (p:Nat) (v:Int):Prop:=v=-4∨v=-6∨(0≤v∧v < (p:Int))
def bD:List Int→Nat→List (Nat×Nat)
 | [],_=>[]
 | v::l,x=>if v=-6 then bD l (x+1) else (x,v.toNat)::bD l (x+1)
theorem nQ {q:Nat×Nat}:∀ {l:List Int}{x:Nat},q∈bD l x↔∃ i v,l[i]?=some v∧v≠-6∧q=(x+i,v.toNat)
 | [],x=>by simp [bD]
 | v::l,x=>by
  rw [bD];have ih:=@nQ q l (x+1);constructor
  ·intro h;split at h
   ·obtain ⟨i,u,h1,h2,h3⟩:=ih.mp h;exact ⟨i+1,u,h1,h2,by rw [h3];congr 1;omega⟩
   ·rename_i hv;rcases List.mem_cons.mp h with h | h
    ·exact ⟨0,v,rfl,hv,h⟩
    ·obtain ⟨i,u,h1,h2,h3⟩:=ih.mp h;exact ⟨i+1,u,h1,h2,by rw [h3];congr 1;omega⟩
  ·rintro ⟨i,u,h1,h2,h3⟩;cases i with
   | zero=>
    cases h1;rw [if_neg h2,h3];exact List.mem_cons_self ..
   | succ i=>
    have:q∈bD l (x+1):=ih.mpr ⟨i,u,h1,h2,by rw [h3];congr 1;omega⟩;split
    ·exact this
    ·exact List.mem_cons_of_mem _ this
theorem HS {l:List Int}{x:Nat}{q:Nat×Nat} (h:q∈bD l x):x≤q.1:=by
 obtain ⟨i,v,_,_,rfl⟩:=nQ.mp h;exact Nat.le_add_right _ _
theorem zM:∀ (l:List Int) (x:Nat),((bD l x).map (·.1)).Nodup
 | [],x=>by simp [bD]
 | v::l,x=>by
  rw [bD];split
  ·exact zM l (x+1)
  ·rw [List.map_cons,List.nodup_cons];refine ⟨fun h=>?_,zM l (x+1)⟩;obtain ⟨q,hq,e⟩:=List.mem_map.mp h;have:=HS hq;omega
theorem HW {p:Nat}{l:List Int} (hl:l.length < p) (hv:∀ v∈l,Vd p v) (hn:¬ (-4:Int)∈l):DX p (bD l 1):=by
 refine ⟨zM l 1,fun q hq=>?_⟩;obtain ⟨i,v,h1,h2,rfl⟩:=nQ.mp hq;have hi:=(List.getElem?_eq_some_iff.mp h1).1;have hm:=List.mem_of_getElem? h1;refine ⟨by show 1+i < p;omega,?_⟩;show v.toNat < p;rcases hv v hm with z | z | z
 ·rw [z] at hm;exact absurd hm hn
 ·exact absurd z h2
 ·omega
theorem DX.take {p:Nat}{bZ:List (Nat×Nat)} (P:DX p bZ) (k:Nat):DX p (bZ.take k):=
 ⟨by rw [List.map_take];exact P.nd.sublist (List.take_sublist _ _),fun q hq=>P.lt q (List.mem_of_mem_take hq)⟩
def gF (p k:Nat) (vals:List Int):Int:=if (-4:Int)∈vals then -4 else if (bD vals 1).length < k then -6
 else if ((bD vals 1).drop k).any (fun q=>!decide (oY p ((bD vals 1).take k) (q.1:Int)%(p:Int)=(q.2:Int)))=true then -4
 else oY p ((bD vals 1).take k) 0%(p:Int)
theorem sI {p:Nat}{c:Nat}{cs:List Nat} (h:c < p):worth p (c::cs) 0=c:=by
 show (c+0*worth p cs 0)%p=c;rw [Nat.zero_mul,Nat.add_zero,Nat.mod_eq_of_lt h]
section
variable {p k:Nat}{vals:List Int}
theorem HX (hp:0 < p):Vd p (gF p k vals):=by
 unfold gF;split
 ·exact .inl rfl
 ·split
  ·exact .inr (.inl rfl)
  ·split
   ·exact .inl rfl
   ·exact .inr (.inr ⟨Int.emod_nonneg _ (by omega),Int.emod_lt_of_pos _ (by omega)⟩)
theorem UL (h:prime p=true) (hk:1≤k) (hl:vals.length < p) (hv:∀ v∈vals,Vd p v) {s:Nat} (hs:s < p) :
  (∃ c:List Nat,c.length=k-1∧(∀ y∈c,y < p)∧∀ i v,vals[i]?=some v→Sv v (worth p (s::c) (1+i)))↔Sv (gF p k vals) s:=by
 have hp:0 < p:=by have:=cX h;omega
 unfold gF;by_cases h4:(-4:Int)∈vals
 ·rw [if_pos h4];constructor
  ·rintro ⟨c,_,_,h1⟩;obtain ⟨i,hi,e⟩:=List.mem_iff_getElem.mp h4;exact absurd rfl (h1 i (-4) (by rw [List.getElem?_eq_getElem hi,e])).1
  ·exact fun z=>absurd rfl z.1
 rw [if_neg h4];have P:=HW hl hv h4;have A:∀ cs:List Nat,(∀ i v,vals[i]?=some v→Sv v (worth p cs (1+i)))↔∀ q∈bD vals 1,worth p cs q.1=q.2:=fun cs=>by
  constructor
  ·intro h1 q hq;obtain ⟨i,v,g1,g2,rfl⟩:=nQ.mp hq;rcases (h1 i v g1).2 with z | z
   ·exact absurd z g2
   ·show worth p cs (1+i)=v.toNat;omega
  ·intro h1 i v g1;have hm:=List.mem_of_getElem? g1;refine ⟨fun z=>h4 (z▸hm),?_⟩;by_cases g2:v=-6
   ·exact .inl g2
   ·have:=h1 _ (nQ.mpr ⟨i,v,g1,g2,rfl⟩);have this:worth p cs (1+i)=v.toNat:=this;rcases hv v hm with z | z | z
    ·exact absurd (z▸hm) h4
    ·exact .inl z
    ·exact .inr (by omega)
 by_cases hlt:(bD vals 1).length < k
 ·rw [if_pos hlt];refine ⟨fun _=>⟨by decide,.inl rfl⟩,fun _=>?_⟩;have P0:DX p ((0,s)::bD vals 1):=by
   refine ⟨?_,fun q hq=>?_⟩
   ·rw [List.map_cons,List.nodup_cons];refine ⟨fun z=>?_,P.nd⟩;obtain ⟨q,hq,e⟩:=List.mem_map.mp z;have:=HS hq;have e:q.1=0:=e;omega
   ·rcases List.mem_cons.mp hq with rfl | hq
    ·exact ⟨hp,hs⟩
    ·exact P.lt q hq
  obtain ⟨cs,c1,c2,c3⟩:=DY h P0 (k:=k) (by rw [List.length_cons];omega);have at_:∀ q∈(0,s)::bD vals 1,worth p cs q.1=q.2:=fun q hq=>by
   have:=c3 q.1;rw [Kr h P0 hq] at this;omega
  match cs,c1,c2,at_ with
  | [],c1,_,_=>simp at c1;omega
  | c0::c,c1,c2,at_=>
   have e0:=at_ (0,s) (by simp);have e0:worth p (c0::c) 0=s:=e0;rw [sI (c2 c0 (by simp))] at e0;subst e0;exact ⟨c,by rw [List.length_cons] at c1;omega,fun y hy=>c2 y (by simp [hy]),(A _).mpr fun q hq=>at_ q (by simp [hq])⟩
 rw [if_neg hlt];have P1:=P.take k;have hk1:((bD vals 1).take k).length=k:=by rw [List.length_take];omega
 constructor
 ·rintro ⟨c,c1,c2,c3⟩;rw [A] at c3;have hu:=Ku h P1 (cs:=s::c) (by rw [hk1,List.length_cons];omega) (fun q hq=>c3 q (List.mem_of_mem_take hq));have hno:¬ ((bD vals 1).drop k).any (fun q=>!decide (oY p ((bD vals 1).take k) (q.1:Int)%(p:Int)=(q.2:Int)))=true:=fun z=>by
   obtain ⟨q,hq,hq2⟩:=List.any_eq_true.mp z;have h1:=hu q.1;rw [c3 q (List.mem_of_mem_drop hq)] at h1;rw [←h1] at hq2;simp at hq2
  rw [if_neg hno];have h0:=hu 0;rw [sI hs] at h0;have h0:(s:Int)=oY p ((bD vals 1).take k) 0%(p:Int):=h0;rw [←h0];exact ⟨by omega,.inr rfl⟩
 ·intro z;by_cases hno:((bD vals 1).drop k).any (fun q=>!decide (oY p ((bD vals 1).take k) (q.1:Int)%(p:Int)=(q.2:Int)))=true
  ·rw [if_pos hno] at z;exact absurd rfl z.1
  rw [if_neg hno] at z;have v0:=Int.emod_nonneg (oY p ((bD vals 1).take k) 0) (by omega:(p:Int)≠0);have e:oY p ((bD vals 1).take k) 0%(p:Int)=(s:Int):=by
   rcases z.2 with y | y
   ·omega
   ·exact y
  obtain ⟨cs,c1,c2,c3⟩:=DY h P1 (k:=k) (by omega);have c0:worth p cs 0=s:=by
   have:=c3 0;have this:((worth p cs 0:Nat):Int)=oY p ((bD vals 1).take k) 0%(p:Int):=this;omega
  have at_:∀ q∈bD vals 1,worth p cs q.1=q.2:=fun q hq=>by
   have h1:=c3 q.1;rw [←List.take_append_drop k (bD vals 1)] at hq;rcases List.mem_append.mp hq with y | y
   ·rw [Kr h P1 y] at h1;omega
   ·have:oY p ((bD vals 1).take k) (q.1:Int)%(p:Int)=(q.2:Int):=by
     by_cases e2:oY p ((bD vals 1).take k) (q.1:Int)%(p:Int)=(q.2:Int)
     ·exact e2
     ·exact absurd (List.any_eq_true.mpr ⟨q,y,by simp [e2]⟩) hno
    omega
  match cs,c1,c2,c0,at_ with
  | [],c1,_,_,_=>simp at c1;omega
  | d::c,c1,c2,c0,at_=>
   rw [sI (c2 d (by simp))] at c0;subst c0;exact ⟨c,by rw [List.length_cons] at c1;omega,fun y hy=>c2 y (by simp [hy]),(A _).mpr at_⟩
end
mutual
def Kv (p:Nat):Form→List Int→Int
 | .one _,h=>h.headD (-6)
 | .some_ k l,h=>gF p k (gQ p l h)
def gQ (p:Nat):Forms→List Int→List Int
 | .nil,_=>[]
 | .cons f l,h=>Kv p f (h.take (leaves f).length)::gQ p l (h.drop (leaves f).length)
end
def HY:List Int→List Nat→Prop
 | [],[]=>True
 | h::hs,v::vs=>(h=-6∨h=(v:Int))∧HY hs vs
 | _,_=>False
theorem zN:∀ {h1 h2:List Int}{v1 v2:List Nat},h1.length=v1.length→(HY (h1++h2) (v1++v2)↔HY h1 v1∧HY h2 v2)
 | [],h2,[],v2,_=>by simp [HY]
 | [],h2,v::v1,v2,e=>by simp at e
 | h::h1,h2,[],v2,e=>by simp at e
 | h::h1,h2,v::v1,v2,e=>by
  have ih:=@zN h1 h2 v1 v2 (by simpa using e);show (_∧HY (h1++h2) (v1++v2))↔(_∧HY h1 v1)∧HY h2 v2;rw [ih,and_assoc]
mutual
theorem Ea (p:Nat):∀ (f:Form) (s:Nat) (r:List Nat),(deal p f s r).length=(leaves f).length
 | .one _,s,r=>rfl
 | .some_ k l,s,r=>by rw [deal,leaves];exact Ia p l _ _ _
theorem Ia (p:Nat):∀ (l:Forms) (cs:List Nat) (x:Nat) (r:List Nat),(dealIn p l cs x r).length=(leavesIn l).length
 | .nil,cs,x,r=>rfl
 | .cons f l,cs,x,r=>by rw [dealIn,leavesIn,List.length_append,List.length_append,Ea p f,Ia p l]
end
def Hd (p:Nat) (h:Int):Prop:=h=-6∨(0≤h∧h < (p:Int))
mutual
theorem Kw {p:Nat} (hP:prime p=true):∀ (f:Form) (held:List Int),sound p f=true→held.length=(leaves f).length→(∀ h∈held,Hd p h)→Vd p (Kv p f held)∧∀ s,s < p→((∃ r:List Nat,r.length=needs f∧(∀ c∈r,c < p)∧HY held (deal p f s r))↔Sv (Kv p f held) s)
 | .one i,held,_,hl,hh=>by
  match held,hl with
  | [h],_=>
   have h1:=hh h (by simp);refine ⟨?_,fun s hs=>?_⟩
   ·show Vd p h;rcases h1 with z | z
    ·exact .inr (.inl z)
    ·exact .inr (.inr z)
   ·show _↔Sv h s;constructor
    ·rintro ⟨r,_,_,hr⟩;have hr:(h=-6∨h=(s:Int))∧True:=hr;refine ⟨?_,hr.1⟩;rcases h1 with z | z <;> omega
    ·intro z;exact ⟨[],rfl,fun c hc=>by simp at hc,z.2,trivial⟩
 | .some_ k l,held,hs0,hl,hh=>by
  rw [sound,Bool.and_eq_true,Bool.and_eq_true,Bool.and_eq_true,decide_eq_true_iff,decide_eq_true_iff,decide_eq_true_iff] at hs0;obtain ⟨k1,k2,k3,k4⟩:=hs0;have hp:0 < p:=by have:=cX hP;omega
  obtain ⟨i1,i2,i3⟩:=Ib hP l held k4 hl hh;refine ⟨HX hp,fun s hs=>?_⟩;show _↔Sv (gF p k (gQ p l held)) s;rw [←UL hP k1 (by omega) i1 hs];constructor
  ·rintro ⟨r,r1,r2,r3⟩;rw [needs] at r1;rw [deal] at r3;refine ⟨r.take (k-1),by rw [List.length_take];omega,fun y hy=>r2 y (List.mem_of_mem_take hy),(i3 _ 1).mp ⟨r.drop (k-1),by rw [List.length_drop];omega,fun y hy=>r2 y (List.mem_of_mem_drop hy),r3⟩⟩
  ·rintro ⟨c,c1,c2,c3⟩;obtain ⟨r,r1,r2,r3⟩:=(i3 _ 1).mpr c3;refine ⟨c++r,by rw [List.length_append,needs];omega,fun y hy=>?_,?_⟩
   ·rcases List.mem_append.mp hy with z | z
    ·exact c2 y z
    ·exact r2 y z
   ·rw [deal,List.take_append_of_le_length (by omega),List.take_of_length_le (by omega),List.drop_append_of_le_length (by omega),List.drop_of_length_le (by omega),List.nil_append];exact r3
theorem Ib {p:Nat} (hP:prime p=true):∀ (l:Forms) (held:List Int),soundIn p l=true→held.length=(leavesIn l).length→(∀ h∈held,Hd p h)→(∀ v∈gQ p l held,Vd p v)∧(gQ p l held).length=countOf l ∧
  ∀ (cs:List Nat) (x:Nat),((∃ r:List Nat,r.length=needsIn l∧(∀ c∈r,c < p)∧HY held (dealIn p l cs x r))↔∀ i v,(gQ p l held)[i]?=some v→Sv v (worth p cs (x+i)))
 | .nil,held,_,hl,hh=>by
  match held,hl with
  | [],_=>
   refine ⟨fun v hv=>by simp [gQ] at hv,rfl,fun cs x=>⟨fun _ i v hv=>by simp [gQ] at hv,fun _=>⟨[],rfl,fun c hc=>by simp at hc,trivial⟩⟩⟩
 | .cons f l,held,hs0,hl,hh=>by
  rw [soundIn,Bool.and_eq_true] at hs0;rw [leavesIn,List.length_append] at hl;have hp:0 < p:=by have:=cX hP;omega
  obtain ⟨a1,a2⟩:=Kw hP f (held.take (leaves f).length) hs0.1 (by rw [List.length_take];omega) fun h hm=>hh h (List.mem_of_mem_take hm);obtain ⟨b1,b2,b3⟩:=Ib hP l (held.drop (leaves f).length) hs0.2 (by rw [List.length_drop];omega) fun h hm=>hh h (List.mem_of_mem_drop hm);have wl:∀ (cs:List Nat) (x:Nat),worth p cs x < p:=fun cs x=>by
   cases cs with
   | nil=>exact hp
   | cons c cs=>exact Nat.mod_lt _ hp
  rw [gQ];refine ⟨fun v hv=>?_,by rw [List.length_cons,b2];rfl,fun cs x=>?_⟩
  ·rcases List.mem_cons.mp hv with rfl | hv
   ·exact a1
   ·exact b1 v hv
  ·have hsp:held=held.take (leaves f).length++held.drop (leaves f).length:=(List.take_append_drop _ _).symm;have key:∀ r:List Nat,HY held (dealIn p (.cons f l) cs x r)↔HY (held.take (leaves f).length) (deal p f (worth p cs x) (r.take (needs f)))∧HY (held.drop (leaves f).length) (dealIn p l cs (x+1) (r.drop (needs f))):=fun r=>by
    rw [dealIn]
    conv=>lhs;rw [hsp]
    exact zN (by rw [Ea,List.length_take];omega)
   constructor
   ·rintro ⟨r,r1,r2,r3⟩ i v hv;rw [needsIn] at r1;rw [key] at r3;cases i with
    | zero=>
     cases hv;exact (a2 _ (wl cs x)).mp ⟨r.take (needs f),by rw [List.length_take];omega,fun y hy=>r2 y (List.mem_of_mem_take hy),r3.1⟩
    | succ i=>
     have:=(b3 cs (x+1)).mp ⟨r.drop (needs f),by rw [List.length_drop];omega,fun y hy=>r2 y (List.mem_of_mem_drop hy),r3.2⟩ i v hv;have e:x+(i+1)=x+1+i:=by omega
     rw [e];exact this
   ·intro z;obtain ⟨r,r1,r2,r3⟩:=(a2 _ (wl cs x)).mpr (z 0 _ rfl);obtain ⟨u,u1,u2,u3⟩:=(b3 cs (x+1)).mpr fun i v hv=>by
     have:=z (i+1) v hv;have e:x+(i+1)=x+1+i:=by omega
     rw [e] at this;exact this
    refine ⟨r++u,by rw [List.length_append,needsIn];omega,fun y hy=>?_,(key _).mpr ?_⟩
    ·rcases List.mem_append.mp hy with z | z
     ·exact r2 y z
     ·exact u2 y z
    ·have e1:(r++u).take (needs f)=r:=by rw [List.take_append_of_le_length (by omega),List.take_of_length_le (by omega)]
     have e2:(r++u).drop (needs f)=u:=by rw [List.drop_append_of_le_length (by omega),List.drop_of_length_le (by omega),List.nil_append]
     rw [e1,e2];exact ⟨r3,u3⟩
end
def dH (m:Nat):List Nat→List Nat→List Int
 | [],_=>[]
 | o::os,w=>if m.testBit o=true then ((w.headD 0:Nat):Int)::dH m os w.tail else -6::dH m os w
def theirs (m:Nat) (os:List Nat):List Nat:=os.filter fun o=>m.testBit o
def zO (m:Nat) (os v:List Nat):List Nat:=(os.zip v).filterMap fun (x:Nat×Nat)=>if m.testBit x.1=true then some x.2 else none
theorem uo (m:Nat):∀ (os v w:List Nat),os.length=v.length→w.length=(theirs m os).length→(zO m os v=w↔HY (dH m os w) v)
 | [],[],w,_,hw=>by
  have:w=[]:=List.eq_nil_of_length_eq_zero hw;subst this;simp [zO,dH,HY]
 | [],b::v,w,hv,_=>by simp at hv
 | o::os,[],w,hv,_=>by simp at hv
 | o::os,b::v,w,hv,hw=>by
  have hv':os.length=v.length:=by simpa using hv
  unfold zO theirs at *
  by_cases hb:m.testBit o=true
  ·rw [List.filter_cons_of_pos hb,List.length_cons] at hw
   match w,hw with
   | a::w,hw=>
    have ih:=uo m os v w hv' (Nat.succ.inj hw);rw [dH,if_pos hb,List.zip_cons_cons,List.filterMap_cons];simp only [if_pos hb];show b::zO m os v=a::w↔(((a:Nat):Int)=-6∨((a:Nat):Int)=(b:Int))∧HY (dH m os w) v;rw [←ih,List.cons.injEq];constructor
    ·rintro ⟨e1,e2⟩;exact ⟨.inr (by omega),e2⟩
    ·rintro ⟨e1,e2⟩;exact ⟨by omega,e2⟩
  ·rw [List.filter_cons_of_neg hb] at hw;have ih:=uo m os v w hv' hw;rw [dH,if_neg hb,List.zip_cons_cons,List.filterMap_cons];simp only [if_neg hb];show zO m os v=w↔((-6:Int)=-6∨(-6:Int)=(b:Int))∧HY (dH m os w) v;rw [←ih];exact ⟨fun z=>⟨.inl rfl,z⟩,fun z=>z.2⟩
theorem qQ (m:Nat):∀ (os w:List Nat),(dH m os w).length=os.length
 | [],w=>rfl
 | o::os,w=>by
  rw [dH];split <;> rw [List.length_cons,qQ m os,List.length_cons]
theorem qu (m p:Nat):∀ (os w:List Nat),w.length=(theirs m os).length→(∀ c∈w,c < p)→∀ h∈dH m os w,Hd p h
 | [],w,_,_=>fun h hh=>by simp [dH] at hh
 | o::os,w,hw,hc=>fun h hh=>by
  unfold theirs at hw;rw [dH] at hh;by_cases hb:m.testBit o=true
  ·rw [List.filter_cons_of_pos hb,List.length_cons] at hw;rw [if_pos hb] at hh
   match w,hw,hc,hh with
   | a::w,hw,hc,hh=>
    rcases List.mem_cons.mp hh with rfl | hh
    ·have:=hc a (by simp);exact .inr ⟨by show (0:Int)≤(a:Int);omega,by show (a:Int) < (p:Int);omega⟩
    ·exact qu m p os w (Nat.succ.inj hw) (fun c z=>hc c (by simp [z])) h hh
  ·rw [List.filter_cons_of_neg hb] at hw;rw [if_neg hb] at hh;rcases List.mem_cons.mp hh with rfl | hh
   ·exact .inl rfl
   ·exact qu m p os w hw hc h hh
theorem mq (p:Nat):∀ (n:Nat) (r:List Nat),r∈choices p n↔r.length=n∧∀ c∈r,c < p
 | 0,r=>by
  show r∈[[]]↔_;rw [List.mem_singleton];constructor
  ·rintro rfl;exact ⟨rfl,fun c hc=>by simp at hc⟩
  ·exact fun h=>List.eq_nil_of_length_eq_zero h.1
 | n+1,r=>by
  rw [choices,List.mem_flatMap];constructor
  ·rintro ⟨c,hc,h⟩;obtain ⟨l,hl,rfl⟩:=List.mem_map.mp h;obtain ⟨h1,h2⟩:=(mq p n l).mp hl;refine ⟨by rw [List.length_cons,h1],fun d hd=>?_⟩;rcases List.mem_cons.mp hd with rfl | hd
   ·exact List.mem_range.mp hc
   ·exact h2 d hd
  ·rintro ⟨h1,h2⟩
   match r,h1,h2 with
   | c::l,h1,h2=>exact ⟨c,List.mem_range.mpr (h2 c (by simp)),List.mem_map.mpr ⟨l,(mq p n l).mpr ⟨by simpa using h1,fun d hd=>h2 d (by simp [hd])⟩,rfl⟩⟩
theorem Ky {a:Nat}:∀ {p:Nat},p≤a→(List.range p).filter (fun s=>s==a)=[]
 | p,h=>List.filter_eq_nil_iff.mpr fun s hs=>by
  have:=List.mem_range.mp hs;simp;omega
theorem range_one {a:Nat}:∀ {p:Nat},a < p→(List.range p).filter (fun s=>s==a)=[a]
 | p+1,h=>by
  rw [List.range_succ,List.filter_append];by_cases e:a=p
  ·subst e;rw [Ky (Nat.le_refl _)];simp
  ·rw [range_one (by omega:a < p),List.filter_cons_of_neg (by simp;omega)];rfl
section
variable {p:Nat} (hP:prime p=true) {f:Form} (hs:sound p f=true) {m:Nat}{w:List Nat} (hw:w.length=(theirs m (leaves f)).length) (hc:∀ c∈w,c < p)
include hP hs hw hc
theorem Ie (s:Nat):s∈secrets p f m w↔s < p∧Sv (Kv p f (dH m (leaves f) w)) s:=by
 unfold secrets;rw [List.mem_filter,List.mem_range,List.any_eq_true];refine and_congr_right fun h=>?_;rw [←(Kw hP f (dH m (leaves f) w) hs (qQ _ _ _) (qu m p _ _ hw hc)).2 s h];constructor
 ·rintro ⟨r,hr,e⟩;obtain ⟨r1,r2⟩:=(mq p _ r).mp hr;exact ⟨r,r1,r2,(uo m (leaves f) _ w (Ea p f s r).symm hw).mp (beq_iff_eq.mp e)⟩
 ·rintro ⟨r,r1,r2,r3⟩;exact ⟨r,(mq p _ r).mpr ⟨r1,r2⟩,beq_iff_eq.mpr ((uo m (leaves f) _ w (Ea p f s r).symm hw).mpr r3)⟩
theorem Kz:secrets p f m w=(List.range p).filter fun s=>decide (Sv (Kv p f (dH m (leaves f) w)) s):=by
 unfold secrets;refine List.filter_congr fun s hs'=>?_;have h:=Ie hP hs hw hc s;unfold secrets at h;rw [List.mem_filter] at h;rw [Bool.eq_iff_iff,decide_eq_true_iff];have h2:=List.mem_range.mp hs';exact ⟨fun z=>(h.mp ⟨hs',z⟩).2,fun z=>(h.mpr ⟨h2,z⟩).2⟩
theorem Eb:secretOf (secrets p f m w) (-4)=Kv p f (dH m (leaves f) w):=by
 have h2:=cX hP;have hv:=(Kw hP f (dH m (leaves f) w) hs (qQ _ _ _) (qu m p _ _ hw hc)).1;rw [Kz hP hs hw hc];generalize Kv p f (dH m (leaves f) w)=v at hv;rcases hv with rfl | rfl | ⟨h0,h1⟩
 ·have:(List.range p).filter (fun s=>decide (Sv (-4) s))=[]:=List.filter_eq_nil_iff.mpr fun s _=>by
   rw [decide_eq_true_iff];exact fun z=>z.1 rfl
  rw [this];rfl
 ·have:(List.range p).filter (fun s=>decide (Sv (-6) s))=List.range p:=List.filter_eq_self.mpr fun s _=>by
   rw [decide_eq_true_iff];exact ⟨by decide,.inl rfl⟩
  rw [this]
  match p,h2 with
  | q+2,_=>
   rw [List.range_succ_eq_map,List.range_succ_eq_map];rfl
 ·have:(List.range p).filter (fun s=>decide (Sv v s))=[v.toNat]:=by
   have e:∀ s,s∈List.range p→(decide (Sv v s)=(s==v.toNat)):=fun s _=>by
    rw [Bool.eq_iff_iff,decide_eq_true_iff,beq_iff_eq];unfold Sv;omega
   rw [List.filter_congr e];exact range_one (by omega)
  rw [this];show ((v.toNat:Nat):Int)=v;omega
end
end Sp
end
section
set_option linter.all false
set_option maxRecDepth 100000
set_option maxHeartbeats 4000000
namespace Xc
open PySem PySem.Spec PyProof.Rows L2
open AutoSeq1 (wpAny_loadPart')
theorem Qt (l:Addr) (items:Array Value) (n:Nat) (dct:Option Addr) (sl:Array (Option Value)) (t:PySem.Tok) :
  Meets (Builtin.«enumerate.__new__» ⟨[.type "enumerate",.ref l],[("start",.int 1 t)]⟩) (fun _ R s=>s.heap.get? l=some { cls:=.type "list",dict:=dct,data:=.seq items n,slots:=sl } ∧
   R (.ok (.ret (.ref (s.heap.objs.size+1)))) { s with heap:=(s.heap.push { cls:=.type "list_iterator",data:=.fields #[.ref l,.int 0 0] }).push { cls:=.type "enumerate",data:=.fields #[.none,.bool false,.ref s.heap.objs.size,rawInt 1,.none,.none] } }):=
 .of_wp fun prog w A R s h=>by
  obtain ⟨hp,g,d,tk,os⟩:=s;obtain ⟨hl,h⟩:=h;have hz:(hp.push { cls:=.type "list_iterator",data:=.fields #[.ref l,.int 0 0] }).objs.size=hp.objs.size+1:=Heap.size_push ..;have hsub:=sub_enumerate;have fin:∀ {S:Shared},R (.ok (.ret (.ref (hp.objs.size+1)))) S→R (.ok (.ret (.ref (hp.push { cls:=.type "list_iterator",data:=.fields #[.ref l,.int 0 0] }).objs.size))) S:=fun z=>by rw [hz];exact z
  have hL:Heap.IsList (Shared.heap ⟨hp,g,d,tk,os⟩) l items:=⟨_,hl,rfl,n,rfl⟩
  wp_walk using wpAny_loadPart' hl
  refine wpAny_stack_any fun st=>wpAny_pure ?_;split
  ·rename_i c _ _ _ _ _;cases (c==Value.type "enumerate")
   ·wp_walk using wpAny_loadPart' hl,wpAny_pyIter_list hL
    exact ⟨_,rfl,fin h⟩
   ·wp_walk using wpAny_loadPart' hl,wpAny_pyIter_list hL
    exact ⟨_,rfl,fin h⟩
  ·wp_walk using wpAny_loadPart' hl,wpAny_pyIter_list hL
   exact ⟨_,rfl,fin h⟩
theorem KC {self:Value}{rest:List Value}{kw:List (Str×Value)}:Meets (Builtin.«object.__init__» ⟨self::rest,kw⟩) (fun _ R s=>s.TypeIs self "enumerate"∧R (.ok (.ret .none)) s):=by
 have hl:=(F.called_enumerate).init.lookup;have hm:=(F.called_enumerate).made;have hne:(some "enumerate.__new__" != some "object.__new__")=true:=by decide
 refine Meets.of_wp fun prog w A R s ⟨hT,hq⟩=>?_;cases hb:(!rest.isEmpty||!kw.isEmpty) with
 | false=>
  unfold Builtin.«object.__init__»;simp only [hb];exact wpAny_pure ⟨_,rfl,hq⟩
 | true=>
  unfold Builtin.«object.__init__»;simp only [hb]
  repeat (any_goals (first | assumption | wp_step))
  exact ⟨_,rfl,hq⟩
section
variable {prog:Program}{w:World}{A:Around}{E:Value→Shared→Prop}{s:Shared}
theorem KD {l:Addr}{items:Array Value}{t:PySem.Tok}{Q:Value→Shared→Prop} (hL:s.heap.IsList l items)
  (h:∀ h',IsEnum h' (s.heap.objs.size+1) s.heap.objs.size 1 .none→h'.IsListIter s.heap.objs.size l 0→(∀ b o,s.heap.get? b=some o→h'.get? b=some o)→Q (.ref (s.heap.objs.size+1)) { s with heap:=h' }) :
  wpAny (model prog w) A (call (.type "enumerate") [.ref l] [("start",.int 1 t)]) Q E s:=by
 obtain ⟨⟨c,dct,dt,sl⟩,hl,hc,n,hd⟩:=hL;obtain rfl:c=.type "list":=hc;obtain rfl:dt=.seq items n:=hd;have ft:=F.called_enumerate;obtain ⟨c0,tl,hmro⟩:=ft.mro;have hmade:=ft.made;have hsub:=ft.sub;have h1:=ft.notType;have h2:=ft.canCreate;have hct:checkTypeCall "enumerate" ⟨[.ref l],[("start",.int 1 t)]⟩=pure ():=by kernel_rfl
 have hcn:checkBuiltinCall "enumerate.__new__" ⟨[.type "enumerate",.ref l],[("start",.int 1 t)]⟩=pure ():=by kernel_rfl
 refine wpAny_call (codeAny_of_tree (show wpAny _ _ (callAny (.type "enumerate") _) _ _ _ from wpAny_pure ⟨Code.quiet_builtin _ (by decide +kernel),codeAny_builtin F.entry_type_call ?_⟩));rw [Around.under_plain (weight_type_call_type "enumerate" [.ref l] [("start",.int 1 t)]) (units_type_call_type "enumerate" [.ref l] [("start",.int 1 t)])]
 repeat (any_goals (first | assumption | wp_step))
 have hz:(s.heap.push { cls:=.type "list_iterator",data:=.fields #[.ref l,.int 0 0] }).objs.size=s.heap.objs.size+1:=Heap.size_push ..;have he:IsEnum ((s.heap.push { cls:=.type "list_iterator",data:=.fields #[.ref l,.int 0 0] }).push { cls:=.type "enumerate",data:=.fields #[.none,.bool false,.ref s.heap.objs.size,rawInt 1,.none,.none] }) (s.heap.objs.size+1) s.heap.objs.size 1 .none:=by
  rw [←hz];exact Heap.get?_push_size _ rfl
 have hq:=h _ he ⟨_,Heap.get?_push_of_some _ (Heap.get?_push_size _ rfl),rfl,rfl⟩ fun b o x=>Heap.get?_push_of_some _ (Heap.get?_push_of_some _ x);have hok:argsOk "object.__init__" ⟨[.ref (s.heap.objs.size+1),.ref l],[("start",.int 1 t)]⟩:=by
  unfold argsOk;rw [signature?_of (id:="object.__init__") (n:=['_','_','t','i','n','i','_','_']) (o:=['t','c','e','j','b','o']) (by kernel_rfl) F.owner_object];kernel_rfl
 generalize hS:({ s with heap:=(s.heap.push { cls:=.type "list_iterator",data:=.fields #[.ref l,.int 0 0] }).push { cls:=.type "enumerate",data:=.fields #[.none,.bool false,.ref s.heap.objs.size,rawInt 1,.none,.none] } }:Shared)=S1 at hq;have hT:S1.TypeIs (.ref (s.heap.objs.size+1)) "enumerate":=by rw [←hS];exact ⟨_,he,rfl⟩
 refine codeAny_mono (codeAny_call_builtin ft.plain F.entry_enumerate_new (wpAny_of_eq hcn (Qt l items n dct sl t prog w A.in1 (wants (fun v s'=>v=.ref (s.heap.objs.size+1)∧s'=S1) E) s ⟨hl,rfl,hS⟩))) fun r s1 hr=>?_
 match r,hr with
 | .error e,hr=>exact hr
 | .ok .next,hr=>exact hr.elim
 | .ok .brk,hr=>exact hr.elim
 | .ok .cont,hr=>exact hr.elim
 | .ok (.ret obj),hr=>
  obtain ⟨rfl,rfl⟩:=hr;have hli:=ft.init.lookup;have hbi:=ft.init.bind (.ref (s.heap.objs.size+1))
  repeat (any_goals (first | assumption | wp_step))
  refine codeAny_mono (codeAny_call_builtin ft.init.plain F.entry_object_init (ft.init.check _ _ _ _ _ _ _ _ hT hok (KC prog w A.in1 (wants (fun v s'=>v=.none∧Q (.ref (s.heap.objs.size+1)) s') E) _ ⟨hT,rfl,hq⟩))) fun r2 s2 hr2=>?_
  match r2,hr2 with
  | .error e,hr2=>exact hr2
  | .ok .next,hr2=>exact hr2.elim
  | .ok .brk,hr2=>exact hr2.elim
  | .ok .cont,hr2=>exact hr2.elim
  | .ok (.ret r),hr2=>
   obtain ⟨rfl,hq2⟩:=hr2
   repeat (any_goals (first | assumption | wp_step))
end
theorem Z8 {prog:Program}{w:World}{A:Around}{it l:Addr}{items:Array Value} (hh:A.handled=none):Draws prog w A it [it,l] (items.size+1) (fun j v=>items[j-1]?=some v) (fun j h=>1≤j∧h.IsListIter it l (j-1)∧h.IsList l items) where
 live:=fun j h st=>let ⟨_,⟨o,ho,_⟩,_⟩:=st;⟨o,ho⟩
 frame:=fun j h h' st k=>let ⟨j1,⟨o,ho,r⟩,⟨o',ho',r'⟩⟩:=st;⟨j1,⟨o,k it (by simp) o ho,r⟩,⟨o',k l (by simp) o' ho',r'⟩⟩
 item:=fun j s Q E hj st hQ=>by
  obtain ⟨j1,hit,hl⟩:=st;have hx:items[j-1]?=some (items[j-1]'(by omega)):=Array.getElem?_eq_getElem _;have hne:l≠it:=fun z=>by
   obtain ⟨o,ho,hc,_⟩:=hit;obtain ⟨o',ho',hc',_⟩:=hl;rw [z,ho] at ho';cases ho';rw [hc] at hc';injection hc' with z2
   exact absurd z2 (by decide)
  refine wpAny_nextOf_list_item hit hl hx fun h' hit' sb=>hQ _ h' s.toks hx ⟨by omega,?_,?_⟩ sb
  ·have e:j+1-1=j-1+1:=by omega
   rw [e];exact hit'
  ·obtain ⟨o',ho',r'⟩:=hl;exact ⟨o',(sb.2 l hne).trans ho',r'⟩
 done:=fun s Q E st hE=>by
  obtain ⟨j1,hit,hl⟩:=st;exact wpAny_nextOf_list_end hh hit hl (by simp) hE
theorem KH {prog:Program}{w:World}{A:Around}{it l:Addr}{items:Array Value}{i:Nat} (hh:A.handled=none) (hx:items[i]?=none):Draws prog w A it [it,l] (i+1) (fun _ _=>False) (fun j h=>j=i+1∧h.IsListIter it l i∧h.IsList l items) where
 live:=fun j h st=>let ⟨_,⟨o,ho,_⟩,_⟩:=st;⟨o,ho⟩
 frame:=fun j h h' st k=>let ⟨j1,⟨o,ho,r⟩,⟨o',ho',r'⟩⟩:=st;⟨j1,⟨o,k it (by simp) o ho,r⟩,⟨o',k l (by simp) o' ho',r'⟩⟩
 item:=fun j s Q E hj st hQ=>absurd st.1 (by omega)
 done:=fun s Q E st hE=>wpAny_nextOf_list_end hh st.2.1 st.2.2 hx hE
def UW (K:PySem.W.Frag) (a:Addr):It:=
 ⟨fun i H=>∃ (xs:List V) (x:V),bO K H a xs∧xs[i]?=some x,fun i H v H'=>∃ T x,v=.ref T∧H T=none∧H'=upd H T (.tup [.int ((i+1:Nat):Int),x])∧∀ xs,bO K H a xs→xs[i]?=some x,fun i H=>∃ xs:List V,bO K H a xs∧xs.length≤i⟩
theorem KJ {P:Program}{w:World}{K:PySem.W.Frag}{elts:List Expr}{kk:Nat}{tpos:Pos} (a e it:Addr) :
  Turn P w K (.Tuple elts kk tpos) (UW K a) [e,it] e (fun i h=>(∃ old,IsEnum h e it ((i+1:Nat):Int) old)∧h.IsListIter it a i∧e≠it) where
 mem:=by simp
 obj:=fun i h st b hb=>by
  obtain ⟨⟨old,he⟩,⟨o,ho,hc,hd⟩,_⟩:=st;have e':b=e∨b=it:=by simpa using hb
  rcases e' with z | z
  ·rw [z];exact ⟨_,he,fun v q=>nomatch q⟩
  ·rw [z];exact ⟨o,ho,fun v q=>by rw [hd] at q;cases q⟩
 keep:=fun i h h' st k=>let ⟨⟨old,he⟩,hi,hne⟩:=st;⟨⟨old,k e (by simp) _ he⟩,hi.at fun o q=>k it (by simp) o q,hne⟩
 item:=by
  intro X hP hw hK hc i pins s σ H E I hf st hg;subst hP hw hK;obtain ⟨⟨old,he⟩,hit,hne⟩:=st;obtain ⟨xs,x,hq,hx⟩:=hg;obtain ⟨its,rv,p,hz⟩:=I.list hq;obtain ⟨u,hu,ru⟩:=rv.get hx;have hel:e < s.heap.objs.size:=Heap.lt_size he;have hil:it < s.heap.objs.size:=by obtain ⟨_,q,_⟩:=hit;exact Heap.lt_size q
  have hul:=(List.getElem?_eq_some_iff.mp hu).1;have hea:e≠a:=fun z=>by
   obtain ⟨o',ho',hc',_⟩:=p.isList;rw [←z,he] at ho';cases ho';injection hc' with z2
   exact absurd z2 (by decide)
  refine wpAny_pyNext_enum_itemD (i:=i+1) (n:=its.toArray.size+1) (Z8 (A:=X.A.in1) (items:=its.toArray) (I.ok.hd hc)) he ⟨by omega,hit,p.isList⟩ (by simp;omega) hne (by simp;exact ⟨hne,hea⟩) fun y h' tk hy ho hst hT hsz hk=>?_;have ey:y=u:=by
   have hy':its.toArray[i]?=some y:=hy;have:its[i]?=some y:=by simpa using hy'
   rw [hu] at this;cases this;rfl
  subst ey;refine ⟨_,rfl,wpAny_letOwnedTupleGo_enum (s:={ s with heap:=h',toks:=tk+1 }) ho fun h'' he' sb=>?_⟩;have hT2:h''.get? s.heap.objs.size=some { cls:=.type "tuple",data:=.seq #[.int ((i+1:Nat):Int) tk,y] }:=(sb.2 _ (Nat.ne_of_gt hel)).trans hT;have new:fD X.prog X.w (upd H s.heap.objs.size (.tup [.int ((i+1:Nat):Int),x])) h'' s.heap.objs.size (.tup [.int ((i+1:Nat):Int),x]):=
   ⟨by show 2≤sizeLine;decide,[.int ((i+1:Nat):Int) tk,y],.cons ⟨_,rfl⟩ (.cons ru .nil),⟨_,hT2,rfl,_,rfl⟩⟩
  have I1:Inv X pins σ (upd H s.heap.objs.size (.tup [.int ((i+1:Nat):Int),x])) { s with heap:=h'',toks:=tk+1 }:=
   I.O4 (ch:=[e,it]) (fun b ob hb q=>(sb.2 b (fun z=>hb (by simp [z]))).trans (hk b ob (fun z=>hb (by simp [z])) (fun z=>hb (by simp [z])) q)) hf (Nat.le_refl _) new
  refine ⟨.ref s.heap.objs.size,_,I1,rfl,⟨_,x,rfl,I.hok.fresh (Nat.le_refl _),rfl,fun ys hy=>by rw [I.En hy hq];exact hx⟩,⟨⟨y,?_⟩,hst.2.1.at fun o q=>(sb.2 it (Ne.symm hne)).trans q,hne⟩,fun b hb=>?_⟩
  ·have e1:((i+1+1:Nat):Int)=((i+1:Nat):Int)+1:=by omega
   rw [e1];exact he'
  ·have hb':b < s.heap.objs.size:=by
    have e':b=e∨b=it:=by simpa using hb
    rcases e' with z | z
    ·rw [z];exact hel
    ·rw [z];exact hil
   rw [ak (Nat.ne_of_lt hb')];exact (hf b hb).1
 done:=by
  intro X hP hw hK hc i pins s σ H E I hf st hg;subst hP hw hK;obtain ⟨⟨old,he⟩,hit,hne⟩:=st;obtain ⟨xs,hq,hx⟩:=hg;obtain ⟨its,rv,p,hz⟩:=I.list hq;obtain ⟨f0,f1,f2,f3,f4,f5⟩:=hf it (by simp);have hl:=rv.length;exact wpAny_pyNext_enum_endD (KH (A:=X.A.in1) (items:=its.toArray) (i:=i) (I.ok.hd hc) (by simp;omega)) he ⟨rfl,hit,p.isList⟩ fun h' eb=>⟨rfl,I.turned (t':=s.toks) (fun b o hb q=>eb b o hb q) f0 f1 f3 f4 f5⟩
 self:=fun A i s Q E st h=>let ⟨⟨_,he⟩,_⟩:=st;wpAny_pyIter_enum he h
def Z9 (K:PySem.W.Frag) (ta:TA):TI:=fun σ H R=>ta σ H fun vs H1=>∃ a xs,vs=[.ref a]∧bO K H1 a xs∧R (UW K a) H1
theorem wF {M:Model}{A:Around}{E:Value→Shared→Prop}{s:Shared}{env:Env}{pos:Pos}{T:String}{e:Expr}{kws:List Keyword}{Q:Value→Shared→Prop}
  (h:wpAny M A (spliced (backTo pos (starEach [e] env))) (fun vs s1=>wpAny M A (evalAll ((backToKw pos (keywordEach kws env)).map (·.2))) (fun kvs s2=>wpAny M A (call (.type T) vs (((backToKw pos (keywordEach kws env)).filterMap (·.1)).zip kvs)) Q E s2) E s1) E s)
  (he:backTo pos (starEach [e] env)=[(false,eval e env)]:=by rfl) (ha:(backToKw pos (keywordEach kws env)).all (·.1.isSome)=true:=by rfl) (hk:(backToKw pos (keywordEach kws env)).any (·.1.isNone)=false:=by rfl) :
  wpAny M A (callWith pos (.type T) [] (backTo pos (starEach [e] env)) (backToKw pos (keywordEach kws env))) Q E s:=by
 rw [he] at h ⊢;unfold callWith;refine wpAny_bind (wpAny_holding (wpAny_mono (evalArgs_kwB (Q:=fun a s1=>wpAny M A (call (.type T) a.pos a.kw) Q E s1) ha h) (fun a s1 h1=>wpAny_bind (wpAny_standAt ?_)) fun _ _ x=>x));simp only [hk,Bool.or_false,List.any_cons,List.any_nil,Bool.false_eq_true,if_false];refine wpAny_bind (wpAny_pure (wpAny_bind (wpAny_mono h1 (fun r s2 hr=>wpAny_bind (wpAny_holding (wpAny_point (wpAny_pure hr)))) fun _ _ x=>x)))
theorem U0 {X:Cx}{e:Expr}{ta:TA}{p pos tpos kp kp2:Pos}{elts:List Expr}{kk j:Nat} (hg:Gl X "enumerate") (hm:X.mg "enumerate"=none) (ha:PA X [e] ta) (hb:backTo pos (starEach [e] X.env)=[(false,eval e X.env)]:=by rfl) :
  PI X (.Tuple elts kk tpos) (.Call (.Name "enumerate" p) [e] [⟨some "start",.Constant (.int 1) j kp,kp2⟩] pos) (Z9 X.K ta):=by
 intro pins s σ H R I h;refine wpAny_Call_Name_kw (Ck I hg hm boot_enumerate (wF (dI (ha pos pins s σ H _ I h) fun us s1 ⟨vs,H1,I1,r1,q1⟩=>?_) hb));obtain ⟨a,xs,ex,hq,q⟩:=q1;subst ex;cases r1 with
 | cons r rr=>
  cases rr;cases r;refine kws_cons (wpAny_Constant_int (kws_nil ?_));have I0:Inv X pins σ H1 { s1 with toks:=s1.toks+1 }:=I1.tok _;obtain ⟨its,rv,p',hz⟩:=I0.list hq;refine KD (s:={ s1 with toks:=s1.toks+1 }) p'.isList fun h' he hit hk=>wpAny_pyIter_enum he ?_;have I2:Inv X pins σ H1 { s1 with heap:=h',toks:=s1.toks+1 }:=I1.kept (t':=s1.toks+1) hk;refine ⟨s1.heap.objs.size+1,[s1.heap.objs.size+1,s1.heap.objs.size],_,_,H1,rfl,I2,KJ a (s1.heap.objs.size+1) s1.heap.objs.size,⟨⟨.none,he⟩,hit,Nat.succ_ne_self _⟩,fun b hb=>?_,q⟩;have e':b=s1.heap.objs.size+1∨b=s1.heap.objs.size:=by simpa using hb
  have hle:s1.heap.objs.size≤b:=by
   rcases e' with z | z
   ·rw [z];exact Nat.le_add_right _ _
   ·rw [z];exact Nat.le_refl _
  exact I1.Oo hle (I1.hok.fresh hle)
end Xc
end
section
set_option linter.all false
set_option maxRecDepth 100000
set_option maxHeartbeats 4000000
namespace Pg
open PySem PySem.Spec PyProof.Rows L2 Xc Sp
def zV (l:List Int):List V:=l.map V.int
theorem dX (l:List Int):(zV l).length=l.length:=List.length_map _
def U3:Sp:=fun vs H Q _=>∃ (n:Addr) (l:List Int) (p:Nat),vs=[.ref n,.int (p:Int)]∧H n=some (.lst (zV l))∧2≤p∧p≤1000∧Q (.int (cZ l%(p:Int))) H
def Yi:Sp:=fun vs H Q _=>∃ (n:Int) (p:Nat),vs=[.int n,.int (p:Int)]∧Rb35.prime p=true∧p≤1000∧0≤n∧n < (p:Int)∧¬ (p:Int)∣n∧Q (.int (wC p n:Int)) H
section
variable {P:Program}{w:World}{K:PySem.W.Frag}{mg:Str→Option Value}{base:Heap}{cs:Cs}
theorem wY:aH ["numbers","prime","result","number"] ["numbers","prime"] (au oE):=⟨rfl,rfl,rfl,by decide +kernel,rfl,by decide +kernel,by decide +kernel⟩
theorem Xo (T:bJ K mg "product" oE):aX P w K mg base 1 "product" ["numbers","prime"] U3:=by
 obtain ⟨f,fd,F,hm⟩:=T.ex;refine ⟨f,fd,hm,F.kp,F.binds (fun _ _ _ _ _ _ us hl=>match us,hl with | [_,_],_=>rfl),okN F wY (fun vs H Q E h=>?_) (fun cdv A outer s H vs Q E hr h=>?_)⟩
 ·obtain ⟨n,l,p,rfl,_⟩:=h;rfl
 ·obtain ⟨n,l,p,rfl,hn,hp,hp2,kq⟩:=h;refine ⟨_,aq (aZ (i:=2) wY.nd rfl (Or.inl rfl) aR) (aq (uI PassesOwn.never rfl (dF (pv 0)) (bY (i:=3) wY.nd rfl (Or.inl rfl))
   (aC (aZ (i:=2) wY.nd rfl (Or.inl rfl) (fG Cw (fG Cv (pv 2) (pv 3)) (pv 1))))) (aC (bf (pv 2)))),?_⟩
  refine ⟨_,rfl,n,rfl,⟨_,bO.of hn⟩,?_⟩;refine pG (xs:=zV l) (fun i σ H'=>(∃ y,σ=[some (.ref n),some (.int (p:Int)),some (.int (cZ (l.take i)%(p:Int))),y])∧H'=H) ⟨⟨none,?_⟩,rfl⟩ ?_ ?_ ?_
  ·rw [List.take_zero];have:cZ []%(p:Int)=1:=Int.emod_eq_of_lt (by decide) (show (1:Int) < (p:Int) by omega);rw [this];rfl
  ·rintro i σ H' _ ⟨_,rfl⟩;exact bO.of hn
  ·rintro i y σ H' hy ⟨⟨z,rfl⟩,rfl⟩;unfold zV at hy;rw [List.getElem?_map] at hy;cases hk:l[i]? with
   | none=>rw [hk] at hy;cases hy
   | some a=>
    rw [hk] at hy;cases hy;have m0:=Int.emod_nonneg (cZ (l.take i)) (by omega:(p:Int)≠0);have m1:=Int.emod_lt_of_pos (cZ (l.take i)) (by omega:(0:Int) < (p:Int));refine ⟨_,rfl,_,rfl,_,_,rfl,rfl,.inl ⟨by omega,by omega⟩,_,rfl,_,_,rfl,rfl,by omega,⟨some (V.int a),?_⟩,rfl⟩;rw [List.take_succ,hk,Option.toList_some,Km,Int.mul_emod (cZ (l.take i)) a];show _=[_,_,some (V.int _),_];rw [←Int.emod_emod (cZ (l.take i)),←Int.mul_emod,Int.emod_emod];rfl
  ·rintro σ H' ⟨⟨z,rfl⟩,rfl⟩;rw [dX,List.take_length];exact ⟨_,rfl,kq⟩
theorem KQ:aH ["number","prime","found"] ["number","prime"] (au oF):=⟨rfl,rfl,rfl,by decide +kernel,rfl,by decide +kernel,by decide +kernel⟩
theorem aac (T:bJ K mg "inverse" oF):aX P w K mg base 1 "inverse" ["number","prime"] Yi:=by
 obtain ⟨f,fd,F,hm⟩:=T.ex;refine ⟨f,fd,hm,F.kp,F.binds (fun _ _ _ _ _ _ us hl=>match us,hl with | [_,_],_=>rfl),okN F KQ (fun vs H Q E h=>?_) (fun cdv A outer s H vs Q E hr h=>?_)⟩
 ·obtain ⟨n,p,rfl,_⟩:=h;rfl
 ·obtain ⟨n,p,rfl,hp,hp2,n0,n1,hnd,kq⟩:=h;have hp3:=cX hp;obtain ⟨t,t1,t2,t3⟩:=DQ hp hnd;rw [DW hp t2 t3] at kq;refine ⟨_,aq (aZ (i:=2) KQ.nd rfl (Or.inl rfl) aR) (aq (gU PassesOwn.never (aQ vL (fG Cw (fG Cv (pv 0) (pv 2)) (pv 1)) aR (aY _))
   (aC (Cr (i:=2) KQ.nd rfl (Or.inl rfl) aR Cu))) (aC (bf (pv 2)))),?_⟩
  refine ⟨fun m σ H'=>∃ f:Nat,σ=[some (.int n),some (.int (p:Int)),some (.int (f:Int))]∧1≤f∧f≤t∧m=t-f∧H'=H,⟨_,1,rfl,Nat.le_refl _,t1,rfl,rfl⟩,?_⟩;rintro m σ H' ⟨f,rfl,f1,f2,rfl,rfl⟩;refine ⟨_,rfl,_,rfl,_,_,rfl,rfl,.inl ⟨by omega,by omega⟩,_,rfl,_,_,rfl,rfl,by omega,rfl,_,rfl,bV (fun hc=>?_) fun hc=>?_⟩
  ·rw [iH] at hc;have h1:¬ (n*(f:Int))%(p:Int)=1:=by simpa using hc
   have h2:f≠t:=fun z=>h1 (by rw [z];exact t3);refine ⟨fun σ' H2=>∃ m',m' < t-f∧∃ f:Nat,σ'=[some (.int n),some (.int (p:Int)),some (.int (f:Int))]∧1≤f∧f≤t∧m'=t-f∧H2=H',fun _ _ z=>z,?_⟩;refine ⟨_,rfl,_,_,rfl,rfl,t-(f+1),by omega,f+1,?_,by omega,by omega,rfl,rfl⟩;show _=[_,_,some (V.int ((f+1:Nat):Int))];rw [Int.natCast_add];rfl
  ·rw [iH] at hc;have h1:(n*(f:Int))%(p:Int)=1:=by simpa using hc
   have h2:f=t:=inv_one hp (by omega) t2 h1 t3;subst h2;exact ⟨_,rfl,kq⟩
end
def qw (H:Hp) (as:List Addr) (bZ:List (Nat×Nat)):Prop:=as.length=bZ.length∧∀ (i:Nat) (a:Addr) (q:Nat×Nat),as[i]?=some a→bZ[i]?=some q→H a=some (.tup [.int (q.1:Int),.int (q.2:Int)])
theorem qw.same {H H':Hp}{as:List Addr}{bZ:List (Nat×Nat)} (h:qw H as bZ) (s:Same H H'):qw H' as bZ:=⟨h.1,fun i a q e e'=>s _ _ (h.2 i a q e e')⟩
theorem qw.take {H:Hp}{as:List Addr}{bZ:List (Nat×Nat)} (h:qw H as bZ) (k:Nat):qw H (as.take k) (bZ.take k):=⟨by rw [List.length_take,List.length_take,h.1],fun i a q e e'=>by
 have hi:i < k:=by
  have:=(List.getElem?_eq_some_iff.mp e).1;rw [List.length_take] at this;omega
 rw [List.getElem?_take_of_lt hi] at e e';exact h.2 i a q e e'⟩
theorem qw.drop {H:Hp}{as:List Addr}{bZ:List (Nat×Nat)} (h:qw H as bZ) (k:Nat):qw H (as.drop k) (bZ.drop k):=⟨by rw [List.length_drop,List.length_drop,h.1],fun i a q e e'=>by
 rw [List.getElem?_drop] at e e';exact h.2 _ a q e e'⟩
theorem qw.snoc {H:Hp}{as:List Addr}{bZ:List (Nat×Nat)} (h:qw H as bZ) {a:Addr}{q:Nat×Nat} (ha:H a=some (.tup [.int (q.1:Int),.int (q.2:Int)])):qw H (as++[a]) (bZ++[q]):=by
 refine ⟨by rw [List.length_append,List.length_append,h.1];rfl,fun i b r e e'=>?_⟩;by_cases hi:i < as.length
 ·rw [List.getElem?_append_left hi] at e;rw [List.getElem?_append_left (by rw [←h.1];exact hi)] at e';exact h.2 i b r e e'
 ·rw [List.getElem?_append_right (by omega)] at e;rw [List.getElem?_append_right (by rw [←h.1];omega),←h.1] at e';cases hj:i-as.length with
  | zero=>
   rw [hj] at e e';cases e;cases e';exact ha
  | succ n=>rw [hj] at e;simp at e
theorem qw.get {H:Hp}{as:List Addr}{bZ:List (Nat×Nat)} (h:qw H as bZ) {i:Nat}{a:Addr} (e:as[i]?=some a):∃ q,bZ[i]?=some q∧H a=some (.tup [.int (q.1:Int),.int (q.2:Int)]):=by
 have hi:=(List.getElem?_eq_some_iff.mp e).1;have hi':i < bZ.length:=by rw [←h.1];exact hi
 exact ⟨bZ[i],List.getElem?_eq_getElem hi',h.2 i a _ e (List.getElem?_eq_getElem hi')⟩
end Pg
end
section
set_option linter.all false
set_option maxRecDepth 100000
set_option maxHeartbeats 4000000
namespace Pg
open PySem PySem.Spec PyProof.Rows L2 Xc Sp
theorem Nq {X:Cx}{K:PySem.W.Frag} (hK:X.K=K):IxR X (aa6 K):=hK▸YC
theorem U4 (S h A v m:Int):(S%m+h*(A%m)*v)%m=(S+h*A*v)%m:=by
 have hS:S=m*(S / m)+S%m:=(Int.mul_ediv_add_emod S m).symm;have hA:A=m*(A / m)+A%m:=(Int.mul_ediv_add_emod A m).symm;have e:S+h*A*v=(S%m+h*(A%m)*v)+m*(S / m+h*(A / m)*v):=by
  have e1:h*A*v=m*(h*(A / m)*v)+h*(A%m)*v:=by
   conv=>lhs;rw [hA]
   rw [Int.mul_add,Int.add_mul,Int.mul_left_comm,Int.mul_assoc m]
  rw [e1,Int.mul_add];omega
 rw [e,Int.add_mul_emod_self_left]
def Yj:Sp:=fun vs H Q _=>∃ (pl:Addr) (as:List Addr) (bZ:List (Nat×Nat)) (x:Int) (p:Nat),vs=[.ref pl,.int x,.int (p:Int)]∧H pl=some (.lst (as.map V.ref))∧qw H as bZ∧DX p bZ∧Rb35.prime p=true∧p≤1000∧as.length≤600∧∀ H',Same H H'→Q (.int (oY p bZ x%(p:Int))) H'
section
variable {P:Program}{w:World}{K:PySem.W.Frag}{mg:Str→Option Value}{base:Heap}{cs:Cs}
theorem jd:aH ["points","x","prime","value","place","height","others","above","below","point","other"] ["points","x","prime"] (au cG):=⟨rfl,rfl,rfl,by decide +kernel,rfl,by decide +kernel,by decide +kernel⟩
theorem aad (T:bJ K mg "value_through" cG) (PR:aX P w K mg base 1 "product" ["numbers","prime"] U3) (IV:aX P w K mg base 1 "inverse" ["number","prime"] Yi):aX P w K mg base 2 "value_through" ["points","x","prime"] Yj:=by
 obtain ⟨f,fd,F,hm⟩:=T.ex;refine ⟨f,fd,hm,F.kp,F.binds (fun _ _ _ _ _ _ us hl=>match us,hl with | [_,_,_],_=>rfl),okN F jd (fun vs H Q E h=>?_) (fun cdv A outer s H vs Q E hr h=>?_)⟩
 ·obtain ⟨pl,as,bZ,x,p,rfl,_⟩:=h;rfl
 ·obtain ⟨pl,as,bZ,x,p,rfl,hpl,hat,hP,hp,hp2,hz,kq⟩:=h;have hp3:=cX hp;have hpp:(p:Int)≠0:=by omega
  have hp0:(0:Int) < (p:Int):=by omega
  refine ⟨_,aq (aZ (i:=3) jd.nd rfl (Or.inl rfl) aR)
   (aq (uI PassesOwn.never rfl (dF (pv 0)) (Q7 rfl (m5 (bY (i:=4) jd.nd rfl (Or.inr rfl)) (m5 (bY (i:=5) jd.nd rfl (Or.inl rfl)) Cq)))
    (aq (xX (i:=6) rfl jd.nd rfl rfl (CV rfl rfl rfl (by decide +kernel)) (dF (pv 0)) (cY (own:=[("point",9)]) (by show pQ ["points","x","prime","value","place","height","others","above","below","point","other"] (au cG) _ [("point",9)]=true;decide +kernel))
     (fun _ _ _ _ _=>bY (i:=9) jd.nd rfl (Or.inl rfl)) (fun _ _ _ _ _=>wO (aQ vL (fM (Nq (K:=K) rfl) (pv 9) aR (fun _ _=>rfl)) (pv 4) (aY _))) (fun _ _ _ _ _=>fM (Nq (K:=K) rfl) (pv 9) aR (fun _ _=>rfl)))
    (aq (aZ (i:=7) jd.nd rfl (Or.inl rfl) (bM PR hr rfl aG (aj (pq rfl jd.nd (dF (pv 6)) (cY (own:=[("other",10)]) (by show pQ ["points","x","prime","value","place","height","others","above","below","point","other"] (au cG) _ [("other",10)]=true;decide +kernel))
     (fun _ _ _ _ _=>bY (i:=10) jd.nd rfl (Or.inl rfl)) (fun _ _ _ _ _=>gW) (fun _ _ _ _ _=>fG uJ (pv 1) (pv 10))) (aj (pv 2) aA))))
    (aq (aZ (i:=8) jd.nd rfl (Or.inl rfl) (bM PR hr rfl aG (aj (pq rfl jd.nd (dF (pv 6)) (cY (own:=[("other",10)]) (by show pQ ["points","x","prime","value","place","height","others","above","below","point","other"] (au cG) _ [("other",10)]=true;decide +kernel))
     (fun _ _ _ _ _=>bY (i:=10) jd.nd rfl (Or.inl rfl)) (fun _ _ _ _ _=>gW) (fun _ _ _ _ _=>fG uJ (pv 4) (pv 10))) (aj (pv 2) aA))))
    (aC (aZ (i:=3) jd.nd rfl (Or.inl rfl) (fG Cw (fG Jj (pv 3) (fG Cv (fG Cv (pv 5) (pv 7)) (bM IV hr rfl aG (aj (pv 8) (aj (pv 2) aA))))) (pv 2))))))))
   (aC (bf (pv 3)))),?_⟩
  refine ⟨_,rfl,pl,rfl,⟨_,bO.of hpl⟩,?_⟩;refine pG (xs:=as.map V.ref) (fun i σ H'=>(∃ y4 y5 y6 y7 y8 y9 y10,σ=[some (.ref pl),some (.int x),some (.int (p:Int)),some (.int (((bZ.take i).map (term p bZ x)).sum%(p:Int))),y4,y5,y6,y7,y8,y9,y10])∧Same H H') ⟨⟨none,none,none,none,none,none,none,?_⟩,Same.refl _⟩ ?_ ?_ ?_
  ·rw [List.take_zero];have:(([]:List (Nat×Nat)).map (term p bZ x)).sum%(p:Int)=0:=Int.zero_emod _;rw [this];rfl
  ·rintro i σ H' _ ⟨_,s1⟩;exact bO.of (s1 _ _ hpl)
  ·rintro i y σ H' hy ⟨⟨y4,y5,y6,y7,y8,y9,y10,rfl⟩,s1⟩;rw [List.getElem?_map] at hy;cases hk:as[i]? with
   | none=>rw [hk] at hy;cases hy
   | some a=>
    rw [hk] at hy;cases hy;obtain ⟨q,hq,ha⟩:=hat.get hk;have hqm:=List.mem_of_getElem? hq;have hlt:=hP.lt q hqm;refine ⟨a,_,rfl,tD.of (s1 _ _ ha),rfl,_,_,rfl,_,_,rfl,rfl,?_⟩;refine ⟨_,rfl,pl,rfl,⟨_,bO.of (s1 _ _ hpl)⟩,fun D1 hD1=>?_⟩;refine gH (xs:=as.map V.ref) (fun j H2=>H2=upd H' D1 (.lst (zV (((bZ.take j).filter fun r=>r.1 != q.1).map fun r=>(r.1:Int))))) rfl ?_ ?_ ?_
    ·rintro j H2 _ rfl;exact bO.of (by rw [ak (aB (s1 _ _ hpl) hD1)];exact s1 _ _ hpl)
    ·rintro j u H2 hu rfl;rw [List.getElem?_map] at hu;cases hk2:as[j]? with
     | none=>rw [hk2] at hu;cases hu
     | some b=>
      rw [hk2] at hu;cases hu;obtain ⟨r,hr2,hb⟩:=hat.get hk2;have hj:=(List.getElem?_eq_some_iff.mp hk2).1;have hb2:(upd H' D1 (.lst (zV (((bZ.take j).filter fun r=>r.1 != q.1).map fun r=>(r.1:Int))))) b=some (.tup [.int (r.1:Int),.int (r.2:Int)]):=by rw [ak (aB (s1 _ _ hb) hD1)];exact s1 _ _ hb
      refine ⟨rfl,_,rfl,b,_,0,_,rfl,rfl,tD.of hb2,at_of (j:=0) rfl rfl,_,rfl,rfl,_,rfl,bV (fun hc=>?_) fun hc=>?_⟩
      ·rw [iH] at hc;have hne:r.1≠q.1:=fun z=>by simp [z] at hc
       refine ⟨_,rfl,b,_,0,_,rfl,rfl,tD.of hb2,at_of (j:=0) rfl rfl,_,ao,?_,?_⟩
       ·rw [dX,List.length_map];refine Nat.lt_of_le_of_lt (List.length_filter_le _ _) ?_;rw [List.length_take];exact Nat.lt_of_le_of_lt (Nat.min_le_left _ _) (Nat.lt_of_lt_of_le hj (Nat.le_trans hz (by decide)))
       ·rw [gG,List.take_succ,hr2,Option.toList_some,List.filter_append,List.filter_cons_of_pos (by simpa using hne),List.map_append];unfold zV;rw [List.map_append];rfl
      ·rw [iH] at hc;have he:r.1=q.1:=by
        have:((r.1:Nat):Int)=((q.1:Nat):Int):=by simpa using hc
        omega
       show _=_;rw [List.take_succ,hr2,Option.toList_some,List.filter_append,List.filter_cons_of_neg (by simp [he])];simp
    ·rintro H2 rfl;have eo:zV (((bZ.take (as.map V.ref).length).filter fun r=>r.1 != q.1).map fun r=>(r.1:Int))=zV (oth bZ q.1):=by
      rw [List.length_map,hat.1,List.take_length];rfl
     rw [eo];have s2:Same H' (upd H' D1 (.lst (zV (oth bZ q.1)))):=fun c o z=>by rw [ak (aB z hD1)];exact z
     have KR:(upd H' D1 (.lst (zV (oth bZ q.1)))) D1=some (.lst (zV (oth bZ q.1))):=ao;generalize upd H' D1 (.lst (zV (oth bZ q.1)))=H2 at s2 KR;have hol:(oth bZ q.1).length≤600:=by
      unfold oth;rw [List.length_map];exact Nat.le_trans (List.length_filter_le _ _) (by rw [←hat.1];exact hz)
     refine ⟨_,rfl,D1,rfl,⟨_,bO.of KR⟩,fun D2 hD2=>?_⟩;refine gH (xs:=zV (oth bZ q.1)) (fun j H3=>H3=upd H2 D2 (.lst (zV (((oth bZ q.1).take j).map fun a=>x-a)))) rfl ?_ ?_ ?_
     ·rintro j H3 _ rfl;exact bO.of (by rw [ak (aB KR hD2)];exact KR)
     ·rintro j u H3 hu rfl;unfold zV at hu;rw [List.getElem?_map] at hu;cases hk2:(oth bZ q.1)[j]? with
      | none=>rw [hk2] at hu;cases hu
      | some o=>
       rw [hk2] at hu;cases hu;have hj:=(List.getElem?_eq_some_iff.mp hk2).1;refine ⟨rfl,_,rfl,_,rfl,_,_,rfl,rfl,_,ao,?_,?_⟩
       ·rw [dX,List.length_map,List.length_take];exact Nat.lt_of_le_of_lt (Nat.min_le_left _ _) (Nat.lt_of_lt_of_le hj (Nat.le_trans hol (by decide)))
       ·rw [gG,List.take_succ,hk2,Option.toList_some,List.map_append];unfold zV;rw [List.map_append];rfl
     ·rintro H3 rfl;rw [dX,List.take_length];have s3:Same H2 (upd H2 D2 (.lst (zV ((oth bZ q.1).map fun a=>x-a)))):=fun c o z=>by rw [ak (aB z hD2)];exact z
      refine ⟨_,rfl,D2,_,p,rfl,ao,hp3,hp2,?_⟩;generalize upd H2 D2 (.lst (zV ((oth bZ q.1).map fun a=>x-a)))=H4 at s3;refine ⟨_,rfl,D1,rfl,⟨_,bO.of (s3 _ _ KR)⟩,fun D5 hD5=>?_⟩;refine gH (xs:=zV (oth bZ q.1)) (fun j H3=>H3=upd H4 D5 (.lst (zV (((oth bZ q.1).take j).map fun a=>(q.1:Int)-a)))) rfl ?_ ?_ ?_
      ·rintro j H3 _ rfl;exact bO.of (by rw [ak (aB (s3 _ _ KR) hD5)];exact s3 _ _ KR)
      ·rintro j u H3 hu rfl;unfold zV at hu;rw [List.getElem?_map] at hu;cases hk2:(oth bZ q.1)[j]? with
       | none=>rw [hk2] at hu;cases hu
       | some o=>
        rw [hk2] at hu;cases hu;have hj:=(List.getElem?_eq_some_iff.mp hk2).1;refine ⟨rfl,_,rfl,_,rfl,_,_,rfl,rfl,_,ao,?_,?_⟩
        ·rw [dX,List.length_map,List.length_take];exact Nat.lt_of_le_of_lt (Nat.min_le_left _ _) (Nat.lt_of_lt_of_le hj (Nat.le_trans hol (by decide)))
        ·rw [gG,List.take_succ,hk2,Option.toList_some,List.map_append];unfold zV;rw [List.map_append];rfl
      ·rintro H3 rfl;rw [dX,List.take_length];have s4:Same H4 (upd H4 D5 (.lst (zV ((oth bZ q.1).map fun a=>(q.1:Int)-a)))):=fun c o z=>by rw [ak (aB z hD5)];exact z
       refine ⟨_,rfl,D5,_,p,rfl,ao,hp3,hp2,?_⟩;have acp:=hP.below hp hqm;have b0:=Int.emod_nonneg (cZ ((oth bZ q.1).map fun a=>(q.1:Int)-a)) hpp;have b1:=Int.emod_lt_of_pos (cZ ((oth bZ q.1).map fun a=>(q.1:Int)-a)) hp0;have hnd:¬ (p:Int)∣cZ ((oth bZ q.1).map fun a=>(q.1:Int)-a)%(p:Int):=fun z=>acp (Int.dvd_of_emod_eq_zero (by
        have:=Int.emod_eq_zero_of_dvd z
        rwa [Int.emod_emod] at this))
       refine ⟨_,rfl,_,rfl,_,rfl,_,_,rfl,rfl,.inl ⟨by omega,by omega⟩,_,rfl,_,rfl,_,p,rfl,hp,hp2,b0,b1,hnd,?_⟩;rw [UJ];have hiv:(wC p (cZ ((oth bZ q.1).map fun a=>(q.1:Int)-a)):Int) < (p:Int):=by
        obtain ⟨f,f1,f2,f3⟩:=DQ hp acp;rw [DW hp f2 f3];omega
       refine ⟨_,_,rfl,rfl,.inr ⟨by omega,by omega⟩,_,_,rfl,rfl,_,rfl,_,_,rfl,rfl,hp0,⟨some (.int (q.1:Int)),some (.int (q.2:Int)),some (.ref D1),some (.int (cZ ((oth bZ q.1).map fun a=>x-a)%(p:Int))),some (.int (cZ ((oth bZ q.1).map fun a=>(q.1:Int)-a)%(p:Int))),y9,y10,?_⟩,fun c o z=>s4 _ _ (s3 _ _ (s2 _ _ (s1 _ _ z)))⟩;have key:((((bZ.take i).map (term p bZ x)).sum%(p:Int))+(q.2:Int)*(cZ ((oth bZ q.1).map fun a=>x-a)%(p:Int))*(wC p (cZ ((oth bZ q.1).map fun a=>(q.1:Int)-a)):Int))%(p:Int)=((bZ.take (i+1)).map (term p bZ x)).sum%(p:Int):=by
        rw [List.take_succ,hq,Option.toList_some,List.map_append,List.sum_append];show _=(_+(term p bZ x q+0))%(p:Int);rw [Int.add_zero];exact U4 _ _ _ _ _
       rw [←key];rfl
  ·rintro σ H' ⟨⟨y4,y5,y6,y7,y8,y9,y10,rfl⟩,s1⟩;rw [List.length_map,hat.1,List.take_length];exact ⟨_,rfl,kq H' s1⟩
end
end Pg
end
section
set_option linter.all false
set_option maxRecDepth 100000
set_option maxHeartbeats 4000000
namespace Pg
open PySem PySem.Spec PyProof.Rows L2 Xc Sp
theorem Nr {X:Cx}{K:PySem.W.Frag}{pos:Pos}{es:List Expr}{k:Nat}{t:XF}{n:Nat} (hK:X.K=K) (hc:X.calm=true) (h:PGs X es t) (hn:(assignEach es X.env).length=n:=by rfl) (hst:(assignEach es X.env).findIdx? (·.1)=none:=by rfl):PG X (.Tuple es k pos) (aaV K n t):=hK▸Q7 hc h hn hst
theorem U5 {K:PySem.W.Frag}{a:Addr}{xs:List V}{g:TG}{tt:TT}{te:TE}{vs:List Nat}{σ:L2.St}{H1:Hp}{D:Addr}{Qd:Hp→Prop} (Pv:Nat→Hp→Prop) (h0:Pv 0 (upd H1 D (.lst []))) (hl:∀ i H,i≤xs.length→Pv i H→bO K H a xs)
  (hs:∀ i x T H,xs[i]?=some x→H T=none→Pv i H→g (.ref T) (wipe σ vs) (upd H T (.tup [.int ((i+1:Nat):Int),x])) fun σ2 H2=>wipe σ2 vs=wipe σ vs∧tt σ2 H2 fun b H3=>
   if b=true then te σ2 H3 fun y H4=>∃ acc,H4 D=some (.lst acc)∧acc.length < sizeLine∧Pv (i+1) (upd H4 D (.lst (acc++[y]))) else Pv (i+1) H3) (hd:∀ H,Pv xs.length H→Qd H) :
  ∃ W:Nat→Nat→Hp→Prop,(∃ m,W 0 m (upd H1 D (.lst [])))∧∀ i m H,W i m H →
   ((UW K a).stop i H∧Qd H)∨((UW K a).go i H∧∃ Nx:Hp→Prop,(∀ H',Nx H'→∃ m',m' < m∧W (i+1) m' H')∧∀ x H',(UW K a).VL i H x H'→g x (wipe σ vs) H' fun σ2 H2=>wipe σ2 vs=wipe σ vs∧tt σ2 H2 fun b H3=>
    if b=true then te σ2 H3 fun y H4=>∃ acc,H4 D=some (.lst acc)∧acc.length < sizeLine∧Nx (upd H4 D (.lst (acc++[y]))) else Nx H3):=by
 refine ⟨fun i m H=>m=xs.length-i∧i≤xs.length∧Pv i H,⟨xs.length,by simp,Nat.zero_le _,h0⟩,?_⟩;rintro i m H ⟨rfl,hi,p⟩;have q:=hl i H hi p;by_cases hlt:i < xs.length
 ·refine .inr ⟨⟨xs,xs[i],q,List.getElem?_eq_getElem hlt⟩,Pv (i+1),fun H' p'=>⟨xs.length-(i+1),by omega,rfl,hlt,p'⟩,fun x H' y=>?_⟩;obtain ⟨T,v,e1,hT,e2,hv⟩:=y;subst e1 e2;exact hs i v T H (hv xs q) hT p
 ·have e:i=xs.length:=by omega
  subst e;exact .inl ⟨⟨xs,q,Nat.le_refl _⟩,hd H p⟩
theorem U6 (xs:List V) (k:Nat):Et xs none (some (k:Int))=xs.take k:=by
 unfold Et;rw [HT.Es,HT.wK,List.drop_zero,Nat.sub_zero,List.take_eq_take_iff];omega
theorem Ig (xs:List V) (k:Nat):Et xs (some (k:Int)) none=xs.drop k:=by
 unfold Et;rw [HT.Es,HT.wK];by_cases h:k≤xs.length
 ·rw [Nat.min_eq_left h,List.take_of_length_le (by rw [List.length_drop];omega)]
 ·rw [List.drop_eq_nil_of_le (by omega),List.drop_eq_nil_of_le (by omega)];simp
theorem zP (v:Int):∀ (l:List Int) (x:Nat),bD (l++[v]) x=bD l x++(if v=-6 then [] else [(x+l.length,v.toNat)])
 | [],x=>by
  show (if v=-6 then bD [] (x+1) else (x,v.toNat)::bD [] (x+1))=_;split <;> simp [bD]
 | u::l,x=>by
  rw [List.cons_append,bD,bD,zP v l (x+1),List.length_cons];have e:x+1+l.length=x+(l.length+1):=by omega
  rw [e];split
  ·rfl
  ·rw [List.cons_append]
theorem acq (a:Int) (l:List Int):inV (V.int a) (zV l)=decide (a∈l):=by
 unfold inV zV;rw [Bool.eq_iff_iff,List.any_eq_true,decide_eq_true_iff];constructor
 ·rintro ⟨x,hx,e⟩;obtain ⟨b,hb,rfl⟩:=List.mem_map.mp hx;have:b=a:=by simpa [Vx] using e
  rw [←this];exact hb
 ·intro h;exact ⟨_,List.mem_map.mpr ⟨a,h,rfl⟩,by simp [Vx]⟩
theorem Xp (l:List Int):(zV l).all tK=true:=by
 unfold zV;rw [List.all_eq_true];intro x hx;obtain ⟨b,_,rfl⟩:=List.mem_map.mp hx;rfl
def Nt:Sp:=fun vs H Q _=>∃ (fl:Addr) (vals:List Int) (k p:Nat),vs=[.ref fl,.int (k:Int),.int (p:Int)]∧H fl=some (.lst (zV vals))∧Rb35.prime p=true∧p≤1000∧(∀ v∈vals,Vd p v)∧vals.length < p∧vals.length≤600∧∀ H',Same H H'→Q (.int (gF p k vals)) H'
section
variable {P:Program}{w:World}{K:PySem.W.Frag}{mg:Str→Option Value}{base:Heap}{cs:Cs}
theorem jE:aH ["found","asked","prime","points","first","x","value"] ["found","asked","prime"] (au cV):=⟨rfl,rfl,rfl,by decide +kernel,rfl,by decide +kernel,by decide +kernel⟩
theorem U7 (T:bJ K mg "found_of_node" cV) (hNO:∃ t,mg "NO_SECRET"=some (.int (-4) t)) (U8:∃ t,mg "MANY_SECRETS"=some (.int (-6) t)) (hen:mg "enumerate"=none) (hlen:mg "len"=none) (hany:mg "any"=none) (VT:aX P w K mg base 2 "value_through" ["points","x","prime"] Yj):aX P w K mg base 3 "found_of_node" ["found","asked","prime"] Nt:=by
 obtain ⟨f,fd,F,hm⟩:=T.ex;obtain ⟨tn,hNO⟩:=hNO;obtain ⟨tm,U8⟩:=U8;refine ⟨f,fd,hm,F.kp,F.binds (fun _ _ _ _ _ _ us hl=>match us,hl with | [_,_,_],_=>rfl),okN F jE (fun vs H Q E h=>?_) (fun cdv A outer s H vs Q E hr h=>?_)⟩
 ·obtain ⟨fl,vals,k,p,rfl,_⟩:=h;rfl
 ·obtain ⟨fl,vals,k,p,rfl,hfl,hp,hp2,hv,hlp,hz,kq⟩:=h;refine ⟨_,aq (dD (aQ Ow (bF (v:=.int (-4)) (by rfl) hNO ⟨tn,rfl⟩) (pv 0) (by rfl)) (aC (bf (bF (v:=.int (-4)) (by rfl) hNO ⟨tn,rfl⟩))) bU)
   (aq (xX (i:=3) rfl jE.nd rfl rfl (CV rfl rfl rfl (by decide +kernel)) (U0 (by rfl) hen (aj (pv 0) aA)) (cY (own:=[("x",5),("value",6)]) (by show pQ ["found","asked","prime","points","first","x","value"] (au cV) _ [("x",5),("value",6)]=true;decide +kernel))
    (fun _ _ _ _ _=>Nr (K:=K) (n:=2) rfl rfl (m5 (bY (i:=5) jE.nd rfl (Or.inl rfl)) (m5 (bY (i:=6) jE.nd rfl (Or.inl rfl)) Cq))) (fun _ _ _ _ _=>wO (aQ vL (pv 6) (bF (v:=.int (-6)) (by rfl) U8 ⟨tm,rfl⟩) (aY _))) (fun _ _ _ _ _=>Rj (aj (pv 5) (aj (pv 6) aA))))
   (aq (dD (aQ xO (aU aO (by rfl) hlen PySem.boot_len (aj (pv 3) aA)) (pv 1) (aY _)) (aC (bf (bF (v:=.int (-6)) (by rfl) U8 ⟨tm,rfl⟩))) bU)
   (aq (aZ (i:=4) jE.nd rfl (Or.inr rfl) (pJ wM (pv 3) wL (qC (pv 1))))
   (aq (dD (mD (aU (CP rfl) (by rfl) hany PyProof.Rows.boot_any (aj (pq rfl jE.nd (dF (pJ wM (pv 3) (qC (pv 1)) wL)) (cY (own:=[("x",5),("value",6)]) (by show pQ ["found","asked","prime","points","first","x","value"] (au cV) _ [("x",5),("value",6)]=true;decide +kernel))
    (fun _ _ _ _ _=>Nr (K:=K) (n:=2) rfl rfl (m5 (bY (i:=5) jE.nd rfl (Or.inl rfl)) (m5 (bY (i:=6) jE.nd rfl (Or.inl rfl)) Cq))) (fun _ _ _ _ _=>gW) (fun _ _ _ _ _=>d9 vL (bM (k:=2) VT hr (by rfl) aG (aj (pv 4) (aj (pv 5) (aj (pv 2) aA)))) (pv 6) (aY _))) aA))) (aC (bf (bF (v:=.int (-4)) (by rfl) hNO ⟨tn,rfl⟩))) bU)
   (aC (bf (bM VT hr rfl aG (aj (pv 4) (aj aR (aj (pv 2) aA)))))))))),?_⟩
  refine ⟨_,rfl,fl,_,rfl,.inl (bO.of hfl),rfl,Xp _,_,rfl,?_⟩;show if inV (V.int (-4)) (zV vals)=true then _ else _
  rw [acq];refine bV (fun hc=>?_) fun hc=>?_
  ·have h1:=of_decide_eq_true hc;have e:gF p k vals=-4:=by unfold gF;rw [if_pos h1]
   have:=kq H (Same.refl _);rw [e] at this;exact this
  have h4:¬ (-4:Int)∈vals:=fun z=>hc (decide_eq_true z);have hP:=HW hlp hv h4;refine ⟨_,rfl,fl,_,rfl,bO.of hfl,fun D hD=>?_⟩;refine U5 (xs:=zV vals) (fun i H'=>∃ as,H' D=some (.lst (as.map V.ref))∧qw H' as (bD (vals.take i) 1)∧(∀ a∈as,a≠D)∧Same H H') ⟨[],ao,⟨rfl,fun i a q e=>by simp at e⟩,fun a ha=>by simp at ha,fun c o q=>by rw [ak (aB q hD)];exact q⟩ ?_ ?_ ?_
  ·rintro i H' _ ⟨as,_,_,_,s1⟩;exact bO.of (s1 _ _ hfl)
  ·rintro i x T H' hx hT ⟨as,h1,h2,h3,s1⟩;unfold zV at hx;rw [List.getElem?_map] at hx;cases hk:vals[i]? with
   | none=>rw [hk] at hx;cases hx
   | some v=>
    rw [hk] at hx;cases hx;have hi:=(List.getElem?_eq_some_iff.mp hk).1;have hvm:=List.mem_of_getElem? hk;have hsn:bD (vals.take (i+1)) 1=bD (vals.take i) 1++(if v=-6 then [] else [(1+i,v.toNat)]):=by
     rw [List.take_succ,hk,Option.toList_some,zP,List.length_take,Nat.min_eq_left (Nat.le_of_lt hi)]
    have s2:Same H' (upd H' T (.tup [.int ((i+1:Nat):Int),.int v])):=fun c o q=>by rw [ak (aB q hT)];exact q
    refine ⟨T,_,rfl,tD.of ao,rfl,_,_,rfl,_,_,rfl,rfl,rfl,_,rfl,rfl,_,rfl,?_⟩;generalize upd H' T (.tup [.int ((i+1:Nat):Int),.int v])=H2 at s2;rw [iH];refine bV (fun hc2=>?_) fun hc2=>?_
    ·have h6:¬ v=-6:=by simpa using hc2
     rw [if_neg h6] at hsn;have hv0:((v.toNat:Nat):Int)=v:=by
      rcases hv v hvm with z | z | z
      ·exact absurd (z▸hvm) h4
      ·exact absurd z h6
      ·omega
     refine ⟨_,rfl,_,rfl,by show 2≤sizeLine;decide,fun t ht=>?_⟩;have nD:D≠t:=aB (s2 _ _ h1) ht;refine ⟨_,by rw [ak nD];exact s2 _ _ h1,?_,as++[t],?_,?_,?_,?_⟩
     ·rw [List.length_map,h2.1];have:(bD (vals.take i) 1).length≤600:=by
       have:∀ (l:List Int) (x:Nat),(bD l x).length≤l.length:=fun l=>by
        induction l with
        | nil=>intro x;exact Nat.le_refl _
        | cons a l ih=>
         intro x;rw [bD];split
         ·exact Nat.le_succ_of_le (ih _)
         ·exact Nat.succ_le_succ (ih _)
       refine Nat.le_trans (this _ _) ?_;rw [List.length_take];omega
      exact Nat.lt_of_le_of_lt this (by decide)
     ·rw [ao,List.map_append];rfl
     ·rw [hsn];have hk2:qw (upd (upd H2 t (.tup [.int ((i+1:Nat):Int),.int v])) D (.lst (as.map V.ref++[.ref t]))) as (bD (vals.take i) 1):=⟨h2.1,fun j b q e e'=>by
       have hb:=h2.2 j b q e e';rw [ak (h3 b (List.mem_of_getElem? e)),ak (aB (s2 _ _ hb) ht)];exact s2 _ _ hb⟩
      refine hk2.snoc ?_;rw [ak nD.symm,ao];show some (HO.tup [.int ((i+1:Nat):Int),.int v])=some (HO.tup [.int ((1+i:Nat):Int),.int ((v.toNat:Nat):Int)]);rw [hv0,Nat.add_comm]
     ·intro b hb;rcases List.mem_append.mp hb with z | z
      ·exact h3 b z
      ·simp at z;rw [z];exact nD.symm
     ·intro c o q;rw [ak (aB q hD),ak (aB (s2 _ _ (s1 _ _ q)) ht)];exact s2 _ _ (s1 _ _ q)
    ·have h6:v=-6:=by simpa using hc2
     rw [if_pos h6,List.append_nil] at hsn;exact ⟨as,s2 _ _ h1,by rw [hsn];exact h2.same s2,h3,s1.trans s2⟩
  rintro H1 ⟨as,h1,h2,h3,s1⟩;rw [dX,List.take_length] at h2;have has:as.length≤600:=by
   rw [h2.1];have:∀ (l:List Int) (x:Nat),(bD l x).length≤l.length:=fun l=>by
    induction l with
    | nil=>intro x;exact Nat.le_refl _
    | cons a l ih=>
     intro x;rw [bD];split
     ·exact Nat.le_succ_of_le (ih _)
     ·exact Nat.succ_le_succ (ih _)
   exact Nat.le_trans (this _ _) hz
  refine ⟨_,rfl,_,_,rfl,.inl (bO.of h1),_,rfl,_,_,rfl,rfl,_,rfl,bV (fun hc2=>?_) fun hc2=>?_⟩
  ·have hlt:=of_decide_eq_true hc2;rw [List.length_map,h2.1] at hlt;have e:gF p k vals=-6:=by unfold gF;rw [if_neg h4,if_pos (by omega)]
   have:=kq H1 s1;rw [e] at this;exact this
  have hge:¬ (bD vals 1).length < k:=fun z=>hc2 (decide_eq_true (by rw [List.length_map,h2.1];omega));refine ⟨_,rfl,_,rfl,_,rfl,D,_,rfl,bO.of h1,fun F1 hF1=>?_⟩;rw [U6,←List.map_take];have s2:Same H1 (upd H1 F1 (.lst ((as.take k).map V.ref))):=fun c o q=>by rw [ak (aB q hF1)];exact q
  have hF:(upd H1 F1 (.lst ((as.take k).map V.ref))) F1=some (.lst ((as.take k).map V.ref)):=ao;generalize upd H1 F1 (.lst ((as.take k).map V.ref))=H2 at s2 hF;have P1:=hP.take k;have hat:=(h2.take k).same s2;have htl:(as.take k).length≤600:=by rw [List.length_take];omega
  refine ⟨_,rfl,_,rfl,_,rfl,D,_,rfl,bO.of (s2 _ _ h1),fun F2 hF2=>?_⟩;rw [Ig,←List.map_drop];have s3:Same H2 (upd H2 F2 (.lst ((as.drop k).map V.ref))):=fun c o q=>by rw [ak (aB q hF2)];exact q
  have hG:(upd H2 F2 (.lst ((as.drop k).map V.ref))) F2=some (.lst ((as.drop k).map V.ref)):=ao;refine ⟨F2,rfl,⟨_,bO.of hG⟩,fun D3 hD3=>?_⟩;generalize upd H2 F2 (.lst ((as.drop k).map V.ref))=H3 at s3 hG hD3;have hdr:=((h2.drop k).same s2).same s3;refine gH (xs:=(as.drop k).map V.ref) (fun j H'=>H' D3=some (.lst (((((bD vals 1).drop k).take j).map fun q=>!decide (oY p ((bD vals 1).take k) (q.1:Int)%(p:Int)=(q.2:Int))).map V.bl))∧Same H3 H') ⟨ao,fun c o q=>by rw [ak (aB q hD3)];exact q⟩ ?_ ?_ ?_
  ·rintro j H' _ ⟨_,s4⟩;exact bO.of (s4 _ _ hG)
  ·rintro j y H' hy ⟨hl,s4⟩;rw [List.getElem?_map] at hy;cases hk:(as.drop k)[j]? with
   | none=>rw [hk] at hy;cases hy
   | some a=>
    rw [hk] at hy;cases hy;obtain ⟨q,hq,ha⟩:=hdr.get hk;have hj:=(List.getElem?_eq_some_iff.mp hk).1;rw [List.length_drop] at hj;refine ⟨a,_,rfl,tD.of (s4 _ _ ha),rfl,_,_,rfl,_,_,rfl,rfl,rfl,?_⟩;refine ⟨_,rfl,_,rfl,_,rfl,F1,as.take k,(bD vals 1).take k,(q.1:Int),p,rfl,s4 _ _ (s3 _ _ hF),(hat.same s3).same s4,P1,hp,hp2,htl,fun H5 s5=>?_⟩;refine ⟨_,rfl,rfl,_,s5 _ _ hl,?_,?_,fun c o z=>?_⟩
    ·rw [List.length_map,List.length_map,List.length_take];exact Nat.lt_of_le_of_lt (Nat.min_le_left _ _) (Nat.lt_trans (show j < 601 by omega) (by decide))
    ·rw [ao,List.take_succ,hq,Option.toList_some,List.map_append,List.map_append];show some (HO.lst (_++[V.bl (!decide (V.int _=V.int _))]))=_;rw [iH];rfl
    ·rw [ak (aB z hD3)];exact s5 _ _ (s4 _ _ z)
  ·rintro H' ⟨hl,s4⟩;have el:((bD vals 1).drop k).take ((as.drop k).map V.ref).length=(bD vals 1).drop k:=List.take_of_length_le (by rw [List.length_map,hdr.1];exact Nat.le_refl _);rw [el] at hl;have s5:Same H H':=s1.trans (s2.trans (s3.trans s4));refine ⟨D3,_,rfl,bO.of hl,_,rfl,bV (fun hc3=>?_) fun hc3=>?_⟩
   ·have ha:((bD vals 1).drop k).any (fun q=>!decide (oY p ((bD vals 1).take k) (q.1:Int)%(p:Int)=(q.2:Int)))=true:=by
     obtain ⟨b,hb,hb2⟩:=List.any_eq_true.mp hc3;obtain ⟨q,hq,rfl⟩:=List.mem_map.mp hb;exact List.any_eq_true.mpr ⟨q,hq,hb2⟩
    have e:gF p k vals=-4:=by unfold gF;rw [if_neg h4,if_neg hge,if_pos ha]
    have:=kq H' s5;rw [e] at this;exact this
   ·have ha:¬ ((bD vals 1).drop k).any (fun q=>!decide (oY p ((bD vals 1).take k) (q.1:Int)%(p:Int)=(q.2:Int)))=true:=fun z=>by
     obtain ⟨q,hq,hq2⟩:=List.any_eq_true.mp z;exact hc3 (List.any_eq_true.mpr ⟨_,List.mem_map.mpr ⟨q,hq,rfl⟩,hq2⟩)
    have e:gF p k vals=oY p ((bD vals 1).take k) 0%(p:Int):=by unfold gF;rw [if_neg h4,if_neg hge,if_neg ha]
    refine ⟨_,rfl,_,rfl,F1,as.take k,(bD vals 1).take k,0,p,rfl,s4 _ _ (s3 _ _ hF),(hat.same s3).same s4,P1,hp,hp2,htl,fun H6 s6=>?_⟩;have:=kq H6 (s5.trans s6);rw [e] at this;exact this
end
end Pg
end
section
set_option linter.all false
namespace Sp
open Rb35
def Ih:Form→Nat
 | .one _=>1
 | .some_ _ l=>1+Nu l
where Nu:Forms→Nat
 | .nil=>0
 | .cons f l=>Ih f+Nu l
theorem qR:∀ l:List Form,Ih.Nu (jG l)=(l.map Ih).sum
 | []=>rfl
 | f::l=>by rw [jG,Ih.Nu,qR l];rfl
theorem zQ {P:Nat} (ns:List aF) (ok:Good P ns):∀ i,i < P+ns.length→1≤(leaves (den P ns i)).length:=by
 induction ns using snocInd with
 | h0=>
  intro i hi;rw [eN [] (by simpa using hi)];exact Nat.le_refl _
 | h1 l a ih=>
  obtain ⟨g1,g2,g3,g4⟩:=ok.init;intro i hi;by_cases hl:i < P+l.length
  ·rw [gZ [a] hl];exact ih g1 i hl
  ·have e:i=P+l.length:=by rw [List.length_append] at hi;simp at hi;omega
   subst e;rw [n8];show 1≤(leavesIn (jG _)).length;rw [cT,List.map_map];cases h:a.2 with
   | nil=>rw [h] at g4;simp at g4;omega
   | cons x t=>
    rw [List.map_cons,List.sum_cons];have:=ih g1 x (g2 x (by rw [h];simp));show 1≤(leaves (den P l x)).length+_;omega
end Sp
end
section
set_option linter.all false
namespace Sp
open Rb35
theorem Ii {α:Type} (f g:α→Nat):∀ l:List α,(∀ x∈l,f x≤g x)→(l.map f).sum≤(l.map g).sum
 | [],_=>Nat.le_refl _
 | a::l,h=>by
  rw [List.map_cons,List.map_cons,List.sum_cons,List.sum_cons];have h1:=h a (by simp);have h2:=Ii f g l fun x hx=>h x (by simp [hx]);omega
theorem Nv {α:Type} (f g:α→Nat) (a b:Nat):∀ l:List α,(l.map fun x=>a*f x+b*g x).sum=a*(l.map f).sum+b*(l.map g).sum
 | []=>by simp
 | x::l=>by
  rw [List.map_cons,List.map_cons,List.map_cons,List.sum_cons,List.sum_cons,List.sum_cons,Nv f g a b l,Nat.mul_add,Nat.mul_add];omega
section
variable {P:Nat} (names:List Bytes) (tu:Bool)
theorem aaf (ns:List aF) (ok:Good P ns):∀ i,i < P+ns.length→Ih (den P ns i)≤(leaves (den P ns i)).length*(ns.length+1):=by
 induction ns using snocInd with
 | h0=>
  intro i hi;rw [eN [] (by simpa using hi)];exact Nat.le_refl _
 | h1 l a ih=>
  obtain ⟨g1,g2,g3,g4⟩:=ok.init;intro i hi;have hle:(l++[a]).length+1=(l.length+1)+1:=by simp
  by_cases hl:i < P+l.length
  ·rw [gZ [a] hl,hle];exact Nat.le_trans (ih g1 i hl) (Nat.mul_le_mul_left _ (Nat.le_succ _))
  ·have e:i=P+l.length:=by rw [List.length_append] at hi;simp at hi;omega
   subst e;have hp:=zQ _ ok (P+l.length) hi;rw [hle,Nat.mul_succ];rw [n8] at hp ⊢;have e1:Ih (.some_ a.1 (jG (a.2.map (den P l))))=1+((a.2.map (den P l)).map Ih).sum:=by rw [Ih,qR]
   have e2:(leaves (.some_ a.1 (jG (a.2.map (den P l))))).length=((a.2.map (den P l)).map fun f=>(leaves f).length).sum:=cT _;have h1:=Ii Ih (fun f=>(l.length+1)*(leaves f).length+0*0) (a.2.map (den P l)) fun f hf=>by
    obtain ⟨j,hj,rfl⟩:=List.mem_map.mp hf;have:=ih g1 j (g2 j hj);rw [Nat.mul_comm] at this;show _≤(l.length+1)*(leaves (den P l j)).length+0*0;omega
   rw [Nv (fun f=>(leaves f).length) (fun _=>0) (l.length+1) 0,Nat.zero_mul,Nat.add_zero] at h1;rw [e2] at hp;rw [e1,e2,Nat.mul_comm];omega
end
end Sp
end
section
set_option linter.all false
namespace Sp
open Rb35
def Qu (P:Nat) (ns:List aF):List (List Nat):=ns.foldl (fun d n=>d++[n.2.flatMap (fun i=>d.getD i [])++[d.length]]) ((List.range P).map fun i=>[i])
def so (P:Nat) (ns:List aF) (i:Nat):List Nat:=(Qu P ns).getD i []
theorem fmc {α β:Type}{f g:α→List β}:∀ {l:List α},(∀ x∈l,f x=g x)→l.flatMap f=l.flatMap g
 | [],_=>rfl
 | a::l,h=>by rw [List.flatMap_cons,List.flatMap_cons,h a (by simp),fmc fun x hx=>h x (by simp [hx])]
theorem zR (P:Nat) (ns:List aF) (n:aF):Qu P (ns++[n])=Qu P ns++[n.2.flatMap (so P ns)++[(Qu P ns).length]]:=by
 unfold Qu;rw [List.foldl_append];rfl
theorem zT (P:Nat) (ns:List aF):(Qu P ns).length=P+ns.length:=by
 induction ns using snocInd with
 | h0=>simp [Qu]
 | h1 l a ih=>rw [zR,List.length_append,ih,List.length_append];simp;omega
theorem Xq (P:Nat) (ns more:List aF):∃ e,Qu P (ns++more)=Qu P ns++e:=by
 induction more using snocInd with
 | h0=>exact ⟨[],by simp⟩
 | h1 l a ih=>
  obtain ⟨e,he⟩:=ih;refine ⟨e++[a.2.flatMap (so P (ns++l))++[(Qu P (ns++l)).length]],?_⟩;rw [←List.append_assoc,zR,he,List.append_assoc]
theorem KY {P:Nat}{ns:List aF} (more:List aF) {i:Nat} (hi:i < P+ns.length):so P (ns++more) i=so P ns i:=by
 obtain ⟨e,he⟩:=Xq P ns more;unfold so;rw [he,List.getD_eq_getElem?_getD,List.getD_eq_getElem?_getD,List.getElem?_append_left (by rw [zT];exact hi)]
theorem nR {P:Nat} (ns:List aF) {i:Nat} (hi:i < P):so P ns i=[i]:=by
 have h:=KY (P:=P) (ns:=[]) ns (i:=i) (by simpa using hi);rw [List.nil_append] at h;rw [h];unfold so Qu;rw [List.foldl_nil,List.getD_eq_getElem?_getD,List.getElem?_map,List.getElem?_range hi];rfl
theorem uq {P:Nat}{ns:List aF} (ok:Good P ns) {j:Nat}{n:aF} (h:ns[j]?=some n):so P ns (P+j)=n.2.flatMap (so P ns)++[P+j]:=by
 obtain ⟨hj,e⟩:=List.getElem?_eq_some_iff.mp h;have hs:ns=(ns.take j++[n])++ns.drop (j+1):=by
  rw [←e,List.append_assoc,List.singleton_append,List.getElem_cons_drop,List.take_append_drop]
 have hl:(ns.take j).length=j:=by rw [List.length_take,Nat.min_eq_left (Nat.le_of_lt hj)]
 have g:=(ok j n h).1;have h1:so P ((ns.take j++[n])++ns.drop (j+1)) (P+j)=so P (ns.take j++[n]) (P+j):=KY _ (by rw [List.length_append,hl];simp);rw [←hs] at h1;rw [h1];have h2:so P (ns.take j++[n]) (P+j)=n.2.flatMap (so P (ns.take j))++[P+j]:=by
  have hz:(Qu P (ns.take j)).length=P+j:=by rw [zT,hl]
  show (Qu P (ns.take j++[n])).getD (P+j) []=_;rw [zR,List.getD_eq_getElem?_getD,List.getElem?_append_right (by omega),hz,Nat.sub_self];rfl
 rw [h2];congr 1;refine fmc fun i hi=>?_;have:=KY (P:=P) (ns:=ns.take j) ([n]++ns.drop (j+1)) (i:=i) (by rw [hl];exact g i hi);rw [←List.append_assoc,←hs] at this;exact this.symm
theorem rF:∀ l:List Form,leavesIn (jG l)=l.flatMap leaves
 | []=>rfl
 | f::l=>by rw [jG,leavesIn,rF l,List.flatMap_cons]
theorem v8 {α β:Type} (q:β→Bool) (f:α→List β):∀ l:List α,(l.flatMap f).filter q=l.flatMap fun x=>(f x).filter q
 | []=>rfl
 | a::l=>by rw [List.flatMap_cons,List.filter_append,v8 q f l,List.flatMap_cons]
section
variable {P:Nat}{ns:List aF} (ok:Good P ns)
include ok
theorem wZ {Pr:Nat→Prop} (h1:∀ i,i < P→Pr i) (h2:∀ j n,ns[j]?=some n→(∀ i∈n.2,Pr i)→Pr (P+j)):∀ i,i < P+ns.length→Pr i:=by
 intro i
 induction i using Nat.strongRecOn with
 | _ i ih=>
  intro hi;by_cases hp:i < P
  ·exact h1 i hp
  ·obtain ⟨j,rfl⟩:∃ j,i=P+j:=⟨i-P,by omega⟩;have hj:j < ns.length:=by omega
   have hn:ns[j]?=some ns[j]:=List.getElem?_eq_getElem hj;refine h2 j _ hn fun k hk=>?_;have:=(ok j _ hn).1 k hk;exact ih k this (by omega)
theorem Qv:∀ i,i < P+ns.length→(so P ns i).filter (fun t=>decide (t < P))=leaves (den P ns i):=by
 refine wZ ok (fun i hi=>?_) fun j n hn ih=>?_
 ·rw [nR ns hi,eN ns hi,List.filter_cons_of_pos (by simpa using hi)];rfl
 ·rw [uq ok hn,jy ok hn,List.filter_append,List.filter_cons_of_neg (by simp),v8];show _++[]=leavesIn _;rw [List.append_nil,rF,List.flatMap_map];exact fmc fun i hi=>ih i hi
def stp (P:Nat) (ns:List aF) (p:Nat) (x:List Int×List Int) (t:Nat):List Int×List Int:=
 if t < P then (x.1++[x.2.headD (-6)],x.2.tail) else (x.1.take (x.1.length-(ns.getD (t-P) (0,[])).2.length)++[gF p (ns.getD (t-P) (0,[])).1 (x.1.drop (x.1.length-(ns.getD (t-P) (0,[])).2.length))],x.2)
omit ok in
theorem Cg (p:Nat):∀ (l:List Form) (h:List Int),(gQ p (jG l) h).length=l.length
 | [],h=>rfl
 | f::l,h=>by rw [jG,gQ,List.length_cons,Cg p l,List.length_cons]
omit ok in
theorem zU (p:Nat):∀ (l:List Form) (h:List Int),gQ p (jG l) (h.take (l.map fun f=>(leaves f).length).sum)=gQ p (jG l) h
 | [],h=>rfl
 | f::l,h=>by
  rw [jG,gQ,gQ,List.map_cons,List.sum_cons,List.take_take,Nat.min_eq_left (Nat.le_add_right _ _),List.drop_take,Nat.add_sub_cancel_left,zU p l]
theorem Ij (p:Nat):∀ (l:List Nat),(∀ i∈l,∀ st h,(so P ns i).foldl (stp P ns p) (st,h)=(st++[Kv p (den P ns i) (h.take (leaves (den P ns i)).length)],h.drop (leaves (den P ns i)).length)) →
  ∀ st h,(l.flatMap (so P ns)).foldl (stp P ns p) (st,h)=(st++gQ p (jG (l.map (den P ns))) h,h.drop (l.map fun i=>(leaves (den P ns i)).length).sum)
 | [],_,st,h=>by simp [gQ,jG]
 | i::l,hl,st,h=>by
  rw [List.flatMap_cons,List.foldl_append,hl i (by simp),Ij p l (fun k hk=>hl k (by simp [hk])),List.map_cons,jG,gQ,List.map_cons,List.sum_cons,List.drop_drop,List.append_assoc];rfl
theorem aag (p:Nat):∀ i,i < P+ns.length→∀ st h,(so P ns i).foldl (stp P ns p) (st,h)=(st++[Kv p (den P ns i) (h.take (leaves (den P ns i)).length)],h.drop (leaves (den P ns i)).length):=by
 refine wZ ok (fun i hi st h=>?_) fun j n hn ih st h=>?_
 ·rw [nR ns hi,eN ns hi];show stp P ns p (st,h) i=_;unfold stp;rw [if_pos hi];show (st++[h.headD (-6)],h.tail)=(st++[(h.take 1).headD (-6)],h.drop 1);cases h <;> rfl
 ·rw [uq ok hn,List.foldl_append,Ij ok p n.2 ih,jy ok hn];show stp P ns p _ (P+j)=_;have hd:ns.getD (P+j-P) (0,[])=n:=by rw [Nat.add_sub_cancel_left,List.getD_eq_getElem?_getD,hn];rfl
  have hl:(gQ p (jG (n.2.map (den P ns))) h).length=n.2.length:=by rw [Cg,List.length_map]
  have e2:(leaves (.some_ n.1 (jG (n.2.map (den P ns))))).length=(n.2.map fun i=>(leaves (den P ns i)).length).sum:=by
   show (leavesIn _).length=_;rw [cT,List.map_map];rfl
  unfold stp;rw [if_neg (by omega),hd,e2];have e3:(st++gQ p (jG (n.2.map (den P ns))) h).length-n.2.length=st.length:=by rw [List.length_append,hl];omega
  dsimp only;rw [e3,List.take_left,List.drop_left];congr 3;show gF p n.1 _=gF p n.1 _;have e4:(n.2.map fun i=>(leaves (den P ns i)).length).sum=((n.2.map (den P ns)).map fun f=>(leaves f).length).sum:=by rw [List.map_map];rfl
  rw [e4,zU]
def Sf (P:Nat) (ns:List aF):List Nat→Nat→Nat→Prop
 | [],_,_=>True
 | t::r,a,b=>if t < P then 1≤b∧Sf P ns r (a+1) (b-1) else t < P+ns.length∧(ns.getD (t-P) (0,[])).2.length≤a∧Sf P ns r (a-(ns.getD (t-P) (0,[])).2.length+1) b
theorem Ny:∀ (l:List Nat),(∀ i∈l,∀ r a b,(leaves (den P ns i)).length≤b→Sf P ns r (a+1) (b-(leaves (den P ns i)).length)→Sf P ns (so P ns i++r) a b) →
  ∀ r a b,(l.map fun i=>(leaves (den P ns i)).length).sum≤b→Sf P ns r (a+l.length) (b-(l.map fun i=>(leaves (den P ns i)).length).sum)→Sf P ns (l.flatMap (so P ns)++r) a b
 | [],_,r,a,b,_,h=>h
 | i::l,hl,r,a,b,hb,h=>by
  rw [List.map_cons,List.sum_cons] at hb h;rw [List.flatMap_cons,List.append_assoc];refine hl i (by simp) _ a b (by omega) (Ny l (fun k hk=>hl k (by simp [hk])) r (a+1) _ (by omega) ?_);have e1:a+1+l.length=a+(i::l).length:=by rw [List.length_cons];omega
  have e2:b-(leaves (den P ns i)).length-(l.map fun i=>(leaves (den P ns i)).length).sum=b-((leaves (den P ns i)).length+(l.map fun i=>(leaves (den P ns i)).length).sum):=by omega
  rw [e1,e2];exact h
theorem acr:∀ i,i < P+ns.length→∀ r a b,(leaves (den P ns i)).length≤b→Sf P ns r (a+1) (b-(leaves (den P ns i)).length)→Sf P ns (so P ns i++r) a b:=by
 refine wZ ok (fun i hi r a b hb h=>?_) fun j n hn ih r a b hb h=>?_
 ·rw [eN ns hi] at hb h;rw [nR ns hi];show Sf P ns (i::r) a b;rw [Sf,if_pos hi];exact ⟨hb,h⟩
 ·have e2:(leaves (den P ns (P+j))).length=(n.2.map fun i=>(leaves (den P ns i)).length).sum:=by
   rw [jy ok hn];show (leavesIn _).length=_;rw [cT,List.map_map];rfl
  rw [e2] at hb h;rw [uq ok hn,List.append_assoc];refine Ny ok n.2 ih _ a b hb ?_;show Sf P ns ((P+j)::r) _ _;have hj:=(List.getElem?_eq_some_iff.mp hn).1;have hd:ns.getD (P+j-P) (0,[])=n:=by rw [Nat.add_sub_cancel_left,List.getD_eq_getElem?_getD,hn];rfl
  rw [Sf,if_neg (by omega),hd,Nat.add_sub_cancel];exact ⟨by omega,by omega,h⟩
end
end Sp
end
section
set_option linter.all false
set_option maxRecDepth 100000
set_option maxHeartbeats 4000000
namespace Pg
open PySem PySem.Spec PyProof.Rows L2 Xc Sp
theorem aah {P:Nat}{ns:List aF} (ok:Good P ns):∀ i,i < P+ns.length→(so P ns i).length=Ih (den P ns i):=by
 refine wZ ok (fun i hi=>?_) fun j n hn ih=>?_
 ·rw [nR ns hi,eN ns hi];rfl
 ·rw [uq ok hn,jy ok hn,List.length_append,Ih,qR,List.length_flatMap,List.map_map,Nat.add_comm];congr 1;exact congrArg List.sum (List.map_congr_left fun i hi=>ih i hi)
theorem KZ {B:Bk} (good:Good B.P B.ns) (sz:Sz B) {i:Nat} (hi:i < B.P+B.ns.length) (hl:(Rb35.leaves (den B.P B.ns i)).length≤24):(so B.P B.ns i).length≤1200000:=by
 rw [aah good i hi];have h1:=aaf B.ns good i hi;have h3:=sz.nd;have h4:(Rb35.leaves (den B.P B.ns i)).length*(B.ns.length+1)≤24*50000:=Nat.mul_le_mul hl (by omega);omega
def K4 (P:Nat) (ns:List aF) (W:List Nat):Nat:=(W.map fun i=>(Rb35.leaves (den P ns i)).length).sum
def Xr (P:Nat) (ns:List aF) (W:List Nat):Nat:=(W.map fun i=>Ih (den P ns i)).sum
theorem w6 {P:Nat}{ns:List aF} (good:Good P ns):∀ W:List Nat,(∀ y∈W,y < P+ns.length)→W.length≤K4 P ns W
 | [],_=>Nat.le_refl _
 | y::t,h=>by
  have h1:=w6 good t fun z hz=>h z (by simp [hz]);have h2:=zQ ns good y (h y (by simp));unfold K4 at h1 ⊢;rw [List.map_cons,List.sum_cons,List.length_cons];omega
def Ec (cs:Cs):Sp:=fun vs H Q _=>∃ (b:Addr) (A:dY) (p:Nat) (B:Bk) (k:Nat),vs=[.ref b,.int (k:Int)]∧aV cs H b A p B∧Good B.P B.ns∧Sz B∧k < B.P+B.ns.length∧(Rb35.leaves (den B.P B.ns k)).length≤24 ∧
 ∀ (D:Addr) (H':Hp),H' D=some (.lst (nV (so B.P B.ns k)))→H D=none→Same H H'→Q (.ref D) H'
def Ik (cs:Cs):Sp:=fun vs H Q _=>∃ (b:Addr) (A:dY) (p:Nat) (B:Bk) (k:Nat),vs=[.ref b,.int (k:Int)]∧aV cs H b A p B∧Good B.P B.ns∧Sz B∧k < B.P+B.ns.length∧(Rb35.leaves (den B.P B.ns k)).length≤24 ∧
 ∀ (D:Addr) (H':Hp),H' D=some (.lst (nV (Rb35.leaves (den B.P B.ns k))))→Same H H'→Q (.ref D) H'
def StW (H:Hp) (b sl wl:Addr) (k:Nat) (B:Bk) (m:Nat) (σ:L2.St) (H':Hp):Prop:=
 ∃ (W st:List Nat) (x4:Option V),σ=[some (.ref b),some (.int (k:Int)),some (.ref sl),some (.ref wl),x4]∧H' sl=some (.lst (nV st))∧H' wl=some (.lst (nV W))∧Same H H'∧(∀ y∈W,y < B.P+B.ns.length)∧W.flatMap (so B.P B.ns)++st.reverse=so B.P B.ns k∧K4 B.P B.ns W≤24∧m=Xr B.P B.ns W
section
variable {P:Program}{w:World}{K:PySem.W.Frag}{mg:Str→Option Value}{base:Heap}{cs:Cs}
theorem ur:aH ["book","formula","steps","waiting","step"] ["book","formula"] (au lX):=⟨rfl,rfl,rfl,by decide +kernel,rfl,by decide +kernel,by decide +kernel⟩
theorem U9 (T:bJ K mg "steps_of" lX) (gO:Cls K cs.boo) (naB:cF K cs.boo ["prime","people","nodes","lets","names"]) (T4:Cls K cs.jl) (T5:cF K cs.jl ["asked","within"]) (hlen:mg "len"=none)
  (IP:bw P w K mg base 1 cs.boo "is_person" ["self","formula"] (Ni cs)) (NO:bw P w K mg base 1 cs.boo "node_of" ["self","formula"] (zH cs)):aX P w K mg base 2 "steps_of" ["book","formula"] (Ec cs):=by
 obtain ⟨f,fd,F,hm⟩:=T.ex;refine ⟨f,fd,hm,F.kp,F.binds (fun _ _ _ _ _ _ us hl=>match us,hl with | [_,_],_=>rfl),okN F ur (fun vs H Q E h=>?_) (fun cdv A outer s0 H vs Q E hr h=>?_)⟩
 ·obtain ⟨b,A,p,B,k,rfl,_⟩:=h;rfl
 ·obtain ⟨b,Ad,p,B,k,rfl,R,good,sz,hk,uw,kq⟩:=h;obtain ⟨dx,ob⟩:=R.ob;have hsf:=KZ good sz hk uw;refine ⟨_,aq (aZ (i:=2) ur.nd rfl (Or.inl rfl) (fL aA))
   (aq (aZ (i:=3) ur.nd rfl (Or.inl rfl) (fL (aj (pv 1) aA)))
   (aq (gU PassesOwn.never (aQ tG (aU aO (by rfl) hlen PySem.boot_len (aj (pv 3) aA)) aR (aY _))
    (aq (aZ (i:=4) ur.nd rfl (Or.inl rfl) (Jr PySem.F.plainAttrs_list PySem.F.slot_list_pop PySem.F.type_list_pop Rw (pv 3)))
    (aq (aN (ju PySem.F.plainAttrs_list PySem.F.slot_list_append PySem.F.type_list_append cD (pv 2) (aj (pv 4) aA)))
    (aC (dD (Jf (mD (bK (pv 0) gO IP hr aG (aj (pv 4) aA)))) (aC (aN (ju PySem.F.plainAttrs_list PySem.F.slot_list_extend PySem.F.type_list_extend Ox (pv 3) (aj (aM (bK (pv 0) gO NO hr aG (aj (pv 4) aA)) rfl) aA)))) bU)))))
   (aq (aN (Jr PySem.F.plainAttrs_list PySem.F.slot_list_reverse PySem.F.type_list_reverse Ju (pv 2))) (aC (bf (pv 2)))))),?_⟩
  refine ⟨by show 0≤sizeLine;decide,fun sl hsl=>?_⟩;refine ⟨_,rfl,by show 1≤sizeLine;decide,fun wl hwl=>?_⟩;have nsw:sl≠wl:=fun z=>by rw [←z,ao] at hwl;cases hwl
  have owl:H wl=none:=by rw [ak nsw.symm] at hwl;exact hwl
  refine ⟨StW H b sl wl k B,⟨_,[k],[],none,rfl,?_,?_,?_,?_,?_,?_,rfl⟩,?_⟩
  ·rw [ak nsw,ao];rfl
  ·rw [ao];rfl
  ·intro c o q;rw [ak (aB q owl),ak (aB q hsl)];exact q
  ·intro y hy;simp at hy;subst hy;exact hk
  ·rw [List.flatMap_cons,List.flatMap_nil,List.append_nil];simp
  ·show (Rb35.leaves (den B.P B.ns k)).length+0≤24;omega
  rintro m σ H1 ⟨W,st,x4,rfl,h1,h2,s1,hv,hf,hz,rfl⟩;refine ⟨_,rfl,_,_,rfl,.inl (bO.of h2),_,_,rfl,rfl,_,rfl,bV (fun hc0=>?_) fun hc0=>?_⟩
  rotate_left
  ·have hW:W=[]:=by
    cases W with
    | nil=>rfl
    | cons y t=>
     refine absurd (decide_eq_true ?_) hc0;rw [aK,List.length_cons];omega
   subst hW;have e:st.reverse=so B.P B.ns k:=hf;refine ⟨_,rfl,.inl ⟨rfl,_,bO.of h1⟩,sl,_,rfl,rfl,h1,_,rfl,kq sl _ ?_ hsl fun c o q=>?_⟩
   ·rw [ao,←e];unfold nV;rw [List.map_reverse]
   ·rw [ak (aB q hsl)];exact s1 _ _ q
  ·have hW:W≠[]:=fun z=>by
    rw [z] at hc0;exact absurd (of_decide_eq_true hc0) (by show ¬ (0:Int) < 0;decide)
   obtain ⟨W',t,rfl⟩:∃ W' t,W=W'++[t]:=⟨W.dropLast,W.getLast hW,(List.dropLast_concat_getLast hW).symm⟩;refine ⟨fun σ' H'=>∃ m',m' < Xr B.P B.ns (W'++[t])∧StW H b sl wl k B m' σ' H',fun _ _ z=>z,?_⟩;rw [iD] at h2;refine ⟨_,rfl,.inl ⟨rfl,_,bO.of h2⟩,wl,_,V.int ((t:Nat):Int),rfl,rfl,h2,?_,?_⟩
   ·rw [List.length_append,List.length_singleton,Nat.add_sub_cancel,List.getElem?_append_right (Nat.le_refl _),Nat.sub_self];rfl
   rw [List.dropLast_concat];have g1:(upd H1 wl (.lst (nV W'))) sl=some (.lst (nV st)):=by rw [ak nsw];exact h1
   have htv:=hv t (by simp);have hlen2:st.length+(W'++[t]).length≤1200024:=by
    have e:=congrArg List.length hf;rw [List.length_append,List.length_reverse] at e;have:=w6 good (W'++[t]) hv;omega
   refine ⟨_,rfl,.inl ⟨rfl,_,bO.of g1⟩,_,rfl,sl,_,_,rfl,rfl,g1,?_,?_⟩
   ·rw [aK];rw [List.length_append,List.length_singleton] at hlen2;exact Nat.lt_of_le_of_lt (show st.length≤1200024 by omega) (by decide)
   have q1:(upd (upd H1 wl (.lst (nV W'))) sl (.lst (nV st++[V.int ((t:Nat):Int)]))) sl=some (.lst (nV (st++[t]))):=by rw [ao,iD]
   have q2:(upd (upd H1 wl (.lst (nV W'))) sl (.lst (nV st++[V.int ((t:Nat):Int)]))) wl=some (.lst (nV W')):=by rw [ak nsw.symm,ao]
   have s2:Same H (upd (upd H1 wl (.lst (nV W'))) sl (.lst (nV st++[V.int ((t:Nat):Int)]))):=fun c o q=>by
    rw [ak (aB q hsl),ak (aB q owl)];exact s1 c o q
   generalize upd (upd H1 wl (.lst (nV W'))) sl (.lst (nV st++[V.int ((t:Nat):Int)]))=H2 at q1 q2 s2;have R2:=R.keep (Kp.same s2 []) (fun x hx=>by simp at hx);have hvt:∀ z∈W',z < B.P+B.ns.length:=fun z hz=>hv z (by simp [hz]);have hf':W'.flatMap (so B.P B.ns)++(so B.P B.ns t++st.reverse)=so B.P B.ns k:=by
    rw [List.flatMap_append,List.flatMap_cons,List.flatMap_nil,List.append_nil,List.append_assoc] at hf;exact hf
   have hfz:Xr B.P B.ns (W'++[t])=Xr B.P B.ns W'+Ih (den B.P B.ns t):=by
    unfold Xr;rw [List.map_append,List.sum_append];show _+(Ih _+0)=_;omega
   have hlv:K4 B.P B.ns (W'++[t])=K4 B.P B.ns W'+(Rb35.leaves (den B.P B.ns t)).length:=by
    unfold K4;rw [List.map_append,List.sum_append];show _+((Rb35.leaves _).length+0)=_;omega
   rw [hlv] at hz;rw [hfz];refine ⟨_,rfl,b,dx,_,rfl,s2 _ _ ob,oA _ _ _ _ _ (by decide +kernel) (by decide +kernel) (by decide +kernel) (by decide +kernel) (by decide +kernel),_,rfl,b,Ad,p,B,t,rfl,R2,_,rfl,?_⟩;refine bV (fun hc=>?_) fun hc=>?_
   ·have ht:¬ t < B.P:=by simpa using hc
    obtain ⟨j,hj⟩:∃ j,t=B.P+j:=⟨t-B.P,by omega⟩;have hjl:j < B.ns.length:=by omega
    have Nz:B.ns[j]?=some B.ns[j]:=List.getElem?_eq_getElem hjl;have hdj:Ad.nW[j]?=some (Ad.nW[j]'(by rw [R.len];exact hjl)):=List.getElem?_eq_getElem _;generalize Ad.nW[j]'(by rw [R.len];exact hjl)=nd at hdj;generalize B.ns[j]=nn at Nz;obtain ⟨⟨dn,n1⟩,n2⟩:=R2.at_ j nd nn hdj Nz;obtain ⟨hg,hg1,hg2⟩:=good j _ Nz;have hln:(Rb35.leaves (den B.P B.ns t)).length=K4 B.P B.ns nn.2:=by
     rw [hj,jy good Nz];show (Rb35.leavesIn _).length=_;rw [cT,List.map_map];rfl
    have hfn:Ih (den B.P B.ns t)=1+Xr B.P B.ns nn.2:=by
     rw [hj,jy good Nz,Ih,qR,List.map_map];rfl
    have hv2:∀ y∈W'++nn.2,y < B.P+B.ns.length:=fun y hy=>by
     rcases List.mem_append.mp hy with z | z
     ·exact hvt y z
     ·exact Nat.lt_of_lt_of_le (hg y z) (by omega)
    have hlw:(W'++nn.2).length≤24:=by
     have:=w6 good (W'++nn.2) hv2;have e:K4 B.P B.ns (W'++nn.2)=K4 B.P B.ns W'+K4 B.P B.ns nn.2:=by unfold K4;rw [List.map_append,List.sum_append]
     omega
    refine ⟨_,rfl,.inl ⟨rfl,_,bO.of q2⟩,_,rfl,b,dx,_,rfl,s2 _ _ ob,oA _ _ _ _ _ (by decide +kernel) (by decide +kernel) (by decide +kernel) (by decide +kernel) (by decide +kernel),_,rfl,b,Ad,p,B,j,nd,by rw [hj];rfl,R2,hdj,?_⟩;refine ⟨nd.1,cs.jl,dn,_,_,rfl,n1,T4,T5 _ (by simp),ou _ _,wl,nd.2,_,_,rfl,rfl,q2,n2,?_,Xr B.P B.ns (W'++nn.2),?_,W'++nn.2,st++[t],_,rfl,?_,?_,?_,hv2,?_,?_,rfl⟩
    ·rw [aK,aK];rw [List.length_append] at hlw;exact Nat.le_trans hlw (by decide)
    ·unfold Xr at hfn ⊢;rw [List.map_append,List.sum_append];omega
    ·rw [ak nsw];exact q1
    ·rw [ao];unfold nV;rw [List.map_append]
    ·intro c o q;rw [ak (aB q owl)];exact s2 _ _ q
    ·rw [←hf',List.flatMap_append,List.reverse_append];have:so B.P B.ns t=nn.2.flatMap (so B.P B.ns)++[t]:=by rw [hj];exact uq good Nz
     rw [this];simp
    ·have e:K4 B.P B.ns (W'++nn.2)=K4 B.P B.ns W'+K4 B.P B.ns nn.2:=by unfold K4;rw [List.map_append,List.sum_append]
     omega
   ·have ht:t < B.P:=by simpa using hc
    have hft:Ih (den B.P B.ns t)=1:=by rw [eN B.ns ht];rfl
    refine ⟨Xr B.P B.ns W',by omega,W',st++[t],_,rfl,q1,q2,s2,hvt,?_,by omega,rfl⟩;rw [←hf',nR B.ns ht,List.reverse_append];simp
theorem vC:aH ["book","formula","step"] ["book","formula"] (au iw):=⟨rfl,rfl,rfl,by decide +kernel,rfl,by decide +kernel,by decide +kernel⟩
theorem Qw (T:bJ K mg "owners_of" iw) (gO:Cls K cs.boo) (ST:aX P w K mg base 2 "steps_of" ["book","formula"] (Ec cs)) (IP:bw P w K mg base 1 cs.boo "is_person" ["self","formula"] (Ni cs)):aX P w K mg base 3 "owners_of" ["book","formula"] (Ik cs):=by
 obtain ⟨f,fd,F,hm⟩:=T.ex;refine ⟨f,fd,hm,F.kp,F.binds (fun _ _ _ _ _ _ us hl=>match us,hl with | [_,_],_=>rfl),okN F vC (fun vs H Q E h=>?_) (fun cdv A outer s0 H vs Q E hr h=>?_)⟩
 ·obtain ⟨b,A,p,B,k,rfl,_⟩:=h;rfl
 ·obtain ⟨b,Ad,p,B,k,rfl,R,good,sz,hk,uw,kq⟩:=h;obtain ⟨dx,ob⟩:=R.ob;have hsf:=KZ good sz hk uw;refine ⟨_,aC (bf (pq rfl vC.nd (dF (bM ST hr rfl aG (aj (pv 0) (aj (pv 1) aA)))) (cY (own:=[("step",2)]) (by show pQ ["book","formula","step"] (au iw) _ [("step",2)]=true;decide +kernel))
   (fun _ _ _ _ _=>bY (i:=2) vC.nd rfl (Or.inl rfl)) (fun _ _ _ _ _=>wO (mD (bK (k:=2) (pv 0) gO (IP.mono (by decide:1≤2)) hr aG (aj (pv 2) aA)))) (fun _ _ _ _ _=>pv 2))),?_⟩
  refine ⟨_,rfl,_,rfl,b,Ad,p,B,k,rfl,R,good,sz,hk,uw,fun D1 H1 hD1 _ s1=>?_⟩;refine ⟨D1,rfl,⟨_,bO.of hD1⟩,fun D2 hD2=>?_⟩;refine gH (xs:=nV (so B.P B.ns k)) (fun j H'=>H'=upd H1 D2 (.lst (nV (((so B.P B.ns k).take j).filter fun t=>decide (t < B.P))))) rfl ?_ ?_ ?_
  ·rintro j H' _ rfl;exact bO.of (by rw [ak (aB hD1 hD2)];exact hD1)
  ·rintro j y H' hy rfl;unfold nV at hy;rw [List.getElem?_map] at hy;cases hq:(so B.P B.ns k)[j]? with
   | none=>rw [hq] at hy;cases hy
   | some t=>
    rw [hq] at hy;cases hy;have hj:=(List.getElem?_eq_some_iff.mp hq).1;have s2:Same H (upd H1 D2 (.lst (nV (((so B.P B.ns k).take j).filter fun t=>decide (t < B.P))))):=fun c o q=>by rw [ak (aB (s1 _ _ q) hD2)];exact s1 _ _ q
    have R2:=R.keep (Kp.same s2 []) (fun x hx=>by simp at hx);refine ⟨rfl,_,rfl,b,dx,_,rfl,s2 _ _ ob,oA _ _ _ _ _ (by decide +kernel) (by decide +kernel) (by decide +kernel) (by decide +kernel) (by decide +kernel),_,rfl,b,Ad,p,B,t,rfl,R2,_,rfl,bV (fun hc=>?_) fun hc=>?_⟩
    ·refine ⟨_,rfl,_,ao,?_,?_⟩
     ·rw [aK];refine Nat.lt_of_le_of_lt (List.length_filter_le _ _) ?_;rw [List.length_take];exact Nat.lt_of_le_of_lt (Nat.min_le_left _ _) (Nat.lt_of_lt_of_le hj (Nat.le_trans hsf (by decide)))
     ·rw [gG,List.take_succ,hq,Option.toList_some,List.filter_append,List.filter_cons_of_pos (p:=fun t=>decide (t < B.P)) hc,List.filter_nil,iD]
    ·show _=_;rw [List.take_succ,hq,Option.toList_some,List.filter_append,List.filter_cons_of_neg (p:=fun t=>decide (t < B.P)) hc,List.filter_nil,List.append_nil]
  ·rintro H' rfl;rw [aK,List.take_length,Qv good k hk];exact kq D2 _ ao fun c o q=>by rw [ak (aB (s1 _ _ q) hD2)];exact s1 _ _ q
end
end Pg
end
section
set_option linter.all false
set_option maxRecDepth 100000
set_option maxHeartbeats 4000000
namespace Pg
open PySem PySem.Spec PyProof.Rows L2 Xc Sp
def NK (cs:Cs):Sp:=fun vs H Q _=>∃ (b:Addr) (A:dY) (p:Nat) (B:Bk) (k:Nat) (hl:Addr) (held:List Int),vs=[.ref b,.int (k:Int),.ref hl]∧aV cs H b A p B∧Good B.P B.ns∧Sz B∧k < B.P+B.ns.length∧(Rb35.leaves (den B.P B.ns k)).length≤24 ∧
 Narrow p B.ns∧(∀ n∈B.ns,n.2.length≤24)∧Rb35.prime p=true∧p≤1000∧H hl=some (.lst (zV held))∧held.length=(Rb35.leaves (den B.P B.ns k)).length∧(∀ h∈held,Hd p h)∧∀ H',Same H H'→Q (.int (Kv p (den B.P B.ns k) held)) H'
theorem xg (l:List Int) (a:Int):zV (l++[a])=zV l++[V.int a]:=by unfold zV;rw [List.map_append];rfl
section
variable {P:Program}{w:World}{K:PySem.W.Frag}{mg:Str→Option Value}{base:Heap}{cs:Cs}
theorem jF:aH ["book","formula","held","found","taken","step","node","first"] ["book","formula","held"] (au lY):=⟨rfl,rfl,rfl,by decide +kernel,rfl,by decide +kernel,by decide +kernel⟩
theorem Va (T:bJ K mg "found_of" lY) (gO:Cls K cs.boo) (naB:cF K cs.boo ["prime","people","nodes","lets","names"]) (T4:Cls K cs.jl) (T5:cF K cs.jl ["asked","within"]) (hlen:mg "len"=none) (ST:aX P w K mg base 2 "steps_of" ["book","formula"] (Ec cs))
  (IP:bw P w K mg base 1 cs.boo "is_person" ["self","formula"] (Ni cs)) (NO:bw P w K mg base 1 cs.boo "node_of" ["self","formula"] (zH cs)) (FN:aX P w K mg base 3 "found_of_node" ["found","asked","prime"] Nt):aX P w K mg base 4 "found_of" ["book","formula","held"] (NK cs):=by
 obtain ⟨f,fd,F,hm⟩:=T.ex;refine ⟨f,fd,hm,F.kp,F.binds (fun _ _ _ _ _ _ us hl=>match us,hl with | [_,_,_],_=>rfl),okN F jF (fun vs H Q E h=>?_) (fun cdv A outer s0 H vs Q E hr h=>?_)⟩
 ·obtain ⟨b,A,p,B,k,hl,held,rfl,_⟩:=h;rfl
 ·obtain ⟨b,Ad,p,B,k,hl,held,rfl,R,good,sz,hk,uw,aaj,hwid,hp,hp2,hhl,hheld,hhd,kq⟩:=h;obtain ⟨dx,ob⟩:=R.ob;have hp3:=cX hp;have hsf:=KZ good sz hk uw;refine ⟨_,aq (aZ (i:=3) jF.nd rfl (Or.inl rfl) (fL aA))
   (aq (aZ (i:=4) jF.nd rfl (Or.inl rfl) aR)
   (aq (uI PassesOwn.never rfl (dF (bM (ST.mono (by decide:2≤3)) hr rfl aG (aj (pv 0) (aj (pv 1) aA)))) (bY (i:=5) jF.nd rfl (Or.inl rfl))
    (aC (dD (mD (bK (pv 0) gO (IP.mono (by decide:1≤3)) hr aG (aj (pv 5) aA)))
     (aq (aN (ju PySem.F.plainAttrs_list PySem.F.slot_list_append PySem.F.type_list_append cD (pv 3) (aj (fM eE (pv 2) (pv 4) (fun _ _=>rfl)) aA))) (aC (Cr (i:=4) jF.nd rfl (Or.inl rfl) aR Cu)))
     (aq (aZ (i:=6) jF.nd rfl (Or.inl rfl) (bK (pv 0) gO (NO.mono (by decide:1≤3)) hr aG (aj (pv 5) aA)))
     (aq (aZ (i:=7) jF.nd rfl (Or.inl rfl) (fG uJ (aU aO (by rfl) hlen PySem.boot_len (aj (pv 3) aA)) (aU aO (by rfl) hlen PySem.boot_len (aj (aM (pv 6) rfl) aA))))
     (aC (aZ (i:=3) jF.nd rfl (Or.inl rfl) (fG YF (pJ wM (pv 3) wL (qC (pv 7))) (fL (aj (bM FN hr rfl aG (aj (pJ wM (pv 3) (qC (pv 7)) wL) (aj (aM (pv 6) rfl) (aj (aM (pv 0) rfl) aA)))) aA))))))))))
   (aC (bf (fM eE (pv 3) aR (fun _ _=>rfl)))))),?_⟩
  refine ⟨by show 0≤sizeLine;decide,fun f0 hf0=>?_⟩;have s0:Same H (upd H f0 (.lst [])):=fun c o q=>by rw [ak (aB q hf0)];exact q
  have R0:=R.keep (Kp.same s0 []) (fun x hx=>by simp at hx);refine ⟨_,rfl,_,rfl,b,Ad,p,B,k,rfl,R0,good,sz,hk,uw,fun D1 H1 hD1 nD1 s1=>?_⟩;have nDf:f0≠D1:=fun z=>by rw [←z,ao] at nD1;cases nD1
  refine ⟨D1,rfl,⟨_,bO.of hD1⟩,?_⟩;have aeP:H1 f0=some (.lst []):=s1 _ _ ao;refine pG (xs:=nV (so B.P B.ns k)) (fun i σ H'=>∃ (fl:Addr) (st:List Int) (tk:Nat) (x5 x6 x7:Option V),σ=[some (.ref b),some (.int (k:Int)),some (.ref hl),some (.ref fl),some (.int (tk:Int)),x5,x6,x7]∧H' fl=some (.lst (zV st))∧H fl=none∧fl≠D1 ∧
    ((so B.P B.ns k).take i).foldl (stp B.P B.ns p) ([],held)=(st,held.drop tk)∧tk≤held.length∧Sf B.P B.ns ((so B.P B.ns k).drop i) st.length (held.length-tk)∧(∀ v∈st,Vd p v)∧st.length≤i∧Same H H'∧H' D1=some (.lst (nV (so B.P B.ns k))))
   ⟨f0,[],0,none,none,none,rfl,aeP,hf0,nDf,rfl,Nat.zero_le _,?_,fun v hv=>by simp at hv,Nat.le_refl _,s0.trans s1,hD1⟩ ?_ ?_ ?_
  ·have:=acr good k hk [] 0 held.length (by omega) trivial;rw [List.append_nil] at this;exact this
  ·rintro i σ H' _ ⟨fl,st,tk,x5,x6,x7,_,_,_,_,_,_,_,_,_,_,hD⟩;exact bO.of hD
  ·rintro i y σ H' hy ⟨fl,st,tk,x5,x6,x7,rfl,h1,Mw,nfD,hrun,htk,Qx,hvd,hsl,s2,ZJ⟩;unfold nV at hy;rw [List.getElem?_map] at hy;cases hq:(so B.P B.ns k)[i]? with
   | none=>rw [hq] at hy;cases hy
   | some t=>
    rw [hq] at hy;cases hy;have hi:=(List.getElem?_eq_some_iff.mp hq).1;have hdr:(so B.P B.ns k).drop i=t::(so B.P B.ns k).drop (i+1):=by
     rw [List.drop_eq_getElem_cons hi];congr 1;exact (List.getElem?_eq_some_iff.mp hq).2
    have hfo:((so B.P B.ns k).take (i+1)).foldl (stp B.P B.ns p) ([],held)=stp B.P B.ns p (st,held.drop tk) t:=by
     rw [List.take_succ,hq,Option.toList_some,List.foldl_append,hrun];rfl
    rw [hdr,Sf] at Qx;have R2:=R.keep (Kp.same s2 []) (fun x hx=>by simp at hx);refine ⟨_,rfl,b,dx,_,rfl,s2 _ _ ob,oA _ _ _ _ _ (by decide +kernel) (by decide +kernel) (by decide +kernel) (by decide +kernel) (by decide +kernel),_,rfl,b,Ad,p,B,t,rfl,R2,_,rfl,bV (fun hc=>?_) fun hc=>?_⟩
    ·have ht:t < B.P:=of_decide_eq_true hc;rw [if_pos ht] at Qx;have htl:tk < held.length:=by omega
     have hat:held[tk]?=some held[tk]:=List.getElem?_eq_getElem htl;have hh:=hhd _ (List.getElem_mem htl);generalize held[tk]=hv at hat hh;have aak:(zV held)[tk]?=some (V.int hv):=by unfold zV;rw [List.getElem?_map,hat];rfl
     refine ⟨_,rfl,.inl ⟨rfl,_,bO.of h1⟩,_,rfl,_,rfl,hl,_,_,_,rfl,rfl,bO.of (s2 _ _ hhl),at_of (j:=tk) rfl aak,fl,_,_,rfl,rfl,h1,?_,_,rfl,_,_,rfl,rfl,fl,st++[hv],tk+1,some (V.int ((t:Nat):Int)),x6,x7,?_,?_,Mw,nfD,?_,by omega,?_,?_,?_,?_,?_⟩
     ·rw [dX];exact Nat.lt_of_le_of_lt (show st.length≤1200000 by omega) (by decide)
     ·show _=[_,_,_,_,some (V.int ((tk+1:Nat):Int)),_,_,_];rw [Int.natCast_add];rfl
     ·rw [ao,xg]
     ·rw [hfo];unfold stp;rw [if_pos ht];have hd2:held.drop tk=hv::held.drop (tk+1):=by
       rw [List.drop_eq_getElem_cons htl];congr 1;exact (List.getElem?_eq_some_iff.mp hat).2
      rw [hd2];rfl
     ·rw [List.length_append,List.length_singleton];have e:held.length-(tk+1)=held.length-tk-1:=by omega
      rw [e];exact Qx.2
     ·intro v hv';rcases List.mem_append.mp hv' with z | z
      ·exact hvd v z
      ·simp at z;rw [z];rcases hh with y | y
       ·exact .inr (.inl y)
       ·exact .inr (.inr y)
     ·rw [List.length_append,List.length_singleton];omega
     ·intro c o q;rw [ak (aB q Mw)];exact s2 _ _ q
     ·rw [ak nfD.symm];exact ZJ
    ·have ht:¬ t < B.P:=fun z=>hc (decide_eq_true z);rw [if_neg ht] at Qx;obtain ⟨Ac,hwd,acu⟩:=Qx;obtain ⟨j,hj⟩:∃ j,t=B.P+j:=⟨t-B.P,by omega⟩;have hjl:j < B.ns.length:=by omega
     have Nz:B.ns[j]?=some B.ns[j]:=List.getElem?_eq_getElem hjl;have hnm:=List.getElem_mem hjl;have hdj:Ad.nW[j]?=some (Ad.nW[j]'(by rw [R.len];exact hjl)):=List.getElem?_eq_getElem _;generalize Ad.nW[j]'(by rw [R.len];exact hjl)=nd at hdj;generalize B.ns[j]=nn at Nz hnm;have hgd:B.ns.getD (t-B.P) (0,[])=nn:=by rw [hj,Nat.add_sub_cancel_left,List.getD_eq_getElem?_getD,Nz];rfl
     rw [hgd] at hwd acu;obtain ⟨⟨dn,n1⟩,n2⟩:=R2.at_ j nd nn hdj Nz;have hn1:=aaj nn hnm;have hn2:=hwid nn hnm;refine ⟨_,rfl,b,dx,_,rfl,s2 _ _ ob,oA _ _ _ _ _ (by decide +kernel) (by decide +kernel) (by decide +kernel) (by decide +kernel) (by decide +kernel),_,rfl,b,Ad,p,B,j,nd,by rw [hj];rfl,R2,hdj,?_⟩;refine ⟨_,rfl,_,_,rfl,.inl (bO.of h1),_,rfl,nd.1,cs.jl,dn,_,_,rfl,n1,T4,T5 _ (by simp),ou _ _,_,_,rfl,.inl (bO.of n2),_,_,rfl,rfl,?_⟩;have aeR:(((zV st).length:Nat):Int)-(((nV nn.2).length:Nat):Int)=((st.length-nn.2.length:Nat):Int):=by rw [dX,aK];omega
     dsimp only;rw [aeR];refine ⟨_,rfl,_,rfl,_,rfl,fl,_,rfl,bO.of h1,fun c1 hc1=>?_⟩;rw [U6];have e1:(zV st).take (st.length-nn.2.length)=zV (st.take (st.length-nn.2.length)):=by unfold zV;rw [List.map_take]
     rw [e1];have s3:Same H' (upd H' c1 (.lst (zV (st.take (st.length-nn.2.length))))):=fun c o q=>by rw [ak (aB q hc1)];exact q
     have hC1:(upd H' c1 (.lst (zV (st.take (st.length-nn.2.length))))) c1=some (.lst (zV (st.take (st.length-nn.2.length)))):=ao;generalize upd H' c1 (.lst (zV (st.take (st.length-nn.2.length))))=H3 at s3 hC1;refine ⟨_,rfl,_,rfl,_,rfl,fl,_,rfl,bO.of (s3 _ _ h1),fun c2 hc2=>?_⟩;rw [Ig];have e2:(zV st).drop (st.length-nn.2.length)=zV (st.drop (st.length-nn.2.length)):=by unfold zV;rw [List.map_drop]
     rw [e2];have s4:Same H3 (upd H3 c2 (.lst (zV (st.drop (st.length-nn.2.length))))):=fun c o q=>by rw [ak (aB q hc2)];exact q
     have hC2:(upd H3 c2 (.lst (zV (st.drop (st.length-nn.2.length))))) c2=some (.lst (zV (st.drop (st.length-nn.2.length)))):=ao;generalize upd H3 c2 (.lst (zV (st.drop (st.length-nn.2.length))))=H4 at s4 hC2;have hvl:(st.drop (st.length-nn.2.length)).length=nn.2.length:=by rw [List.length_drop];omega
     refine ⟨_,rfl,nd.1,cs.jl,dn,_,_,rfl,s4 _ _ (s3 _ _ n1),T4,T5 _ (by simp),Pa _ _,_,rfl,b,cs.boo,dx,_,_,rfl,s4 _ _ (s3 _ _ (s2 _ _ ob)),gO,naB _ (by simp),u0 _ _ _ _ _,c2,_,nn.1,p,rfl,hC2,hp,hp2,fun v hv=>hvd v (List.mem_of_mem_drop hv),by omega,by omega,fun H5 s5=>?_⟩;refine ⟨by show 1≤sizeLine;decide,fun c3 hc3=>?_⟩;have acv:H5 c1=some (.lst (zV (st.take (st.length-nn.2.length)))):=s5 _ _ (s4 _ _ hC1);have n13:c1≠c3:=aB acv hc3;refine ⟨c1,c3,_,_,rfl,rfl,by rw [ak n13];exact acv,ao,?_,fun c4 hc4=>?_⟩
     ·rw [dX,List.length_take];exact Nat.le_trans (show _+1≤1200001 by omega) (by decide)
     have s6:Same H5 (upd (upd H5 c3 (.lst [V.int (gF p nn.1 (st.drop (st.length-nn.2.length)))])) c4 (.lst (zV (st.take (st.length-nn.2.length))++[V.int (gF p nn.1 (st.drop (st.length-nn.2.length)))]))):=fun c o q=>by
      have z1:=aB q hc3;have z2:c≠c4:=fun z=>by rw [←z,ak z1,q] at hc4;cases hc4
      rw [ak z2,ak z1];exact q
     have s7:Same H H5:=s2.trans (s3.trans (s4.trans s5));refine ⟨c4,st.take (st.length-nn.2.length)++[gF p nn.1 (st.drop (st.length-nn.2.length))],tk,_,_,_,rfl,?_,?_,?_,?_,htk,?_,?_,?_,s7.trans s6,?_⟩
     ·rw [ao,xg]
     ·cases hH:H c4 with
      | none=>rfl
      | some o=>
       have q:=s7 _ _ hH;have z1:=aB q hc3;rw [ak z1,q] at hc4;cases hc4
     ·intro z;have q:=s5 _ _ (s4 _ _ (s3 _ _ ZJ));have z1:=aB q hc3;rw [z,ak z1,q] at hc4;cases hc4
     ·rw [hfo];unfold stp;rw [if_neg ht,hgd]
     ·rw [List.length_append,List.length_singleton,List.length_take];have e:min (st.length-nn.2.length) st.length+1=st.length-nn.2.length+1:=by omega
      rw [e];exact acu
     ·intro v hv';rcases List.mem_append.mp hv' with z | z
      ·exact hvd v (List.mem_of_mem_take z)
      ·simp at z;rw [z];exact HX (by omega)
     ·rw [List.length_append,List.length_singleton,List.length_take];have:=(good j nn Nz).2;omega
     ·exact s6 _ _ (s5 _ _ (s4 _ _ (s3 _ _ ZJ)))
  ·rintro σ H' ⟨fl,st,tk,x5,x6,x7,rfl,h1,Mw,nfD,hrun,htk,Qx,hvd,hsl,s2,ZJ⟩;rw [aK,List.take_length,aag good p k hk,List.nil_append] at hrun;have e1:st=[Kv p (den B.P B.ns k) (held.take (Rb35.leaves (den B.P B.ns k)).length)]:=(congrArg Prod.fst hrun).symm;rw [←hheld,List.take_length] at e1;subst e1;exact ⟨_,rfl,fl,_,_,_,rfl,rfl,bO.of h1,at_of (j:=0) rfl rfl,kq H' s2⟩
end
end Pg
end
section
set_option linter.all false
set_option maxRecDepth 100000
set_option maxHeartbeats 4000000
namespace Pg
open PySem PySem.Spec PyProof.Rows L2 Xc Sp
theorem aeS (m i:Nat):Builtin.bitAnd ((m:Int) / 2 ^ ((i:Nat):Int).toNat) 1=(((if m.testBit i=true then 1 else 0:Nat)):Int):=by
 rw [Int.toNat_natCast,PyProof.Rows.bitAnd_m1,Nat.testBit_eq_decide_div_mod_eq];have e:((m:Int) / 2 ^ i)%2=((m / 2 ^ i%2:Nat):Int):=by norm_cast
 rw [e];by_cases h:m / 2 ^ i%2=1
 ·rw [decide_eq_true h,if_pos rfl,h]
 ·rw [decide_eq_false h,if_neg (by decide)];have:=Nat.mod_two_eq_zero_or_one (m / 2 ^ i);omega
theorem NP (m i:Nat):decide (V.int (Builtin.bitAnd ((m:Int) / 2 ^ ((i:Nat):Int).toNat) 1)=V.int 1)=m.testBit i:=by
 rw [iH,aeS];cases m.testBit i <;> rfl
def Vb (K:PySem.W.Frag):Sp:=fun vs H Q _=>∃ (m:Nat) (ol:Addr) (os:List Nat) (pl:Addr) (w:List Nat),vs=[.int (m:Int),.ref ol,.ref pl]∧H ol=some (.lst (nV os))∧bO K H pl (nV w)∧w.length=(theirs m os).length∧os.length≤1000∧∀ (D:Addr) (H':Hp),H' D=some (.lst (zV (dH m os w)))→Same H H'→Q (.ref D) H'
def Il (K:PySem.W.Frag) (cs:Cs) (tm:Addr):Sp:=fun vs H Q E=>∃ (b:Addr) (A:dY) (p:Nat) (B:Bk) (k m:Nat) (pl:Addr) (w:List Nat),vs=[.ref b,.int (k:Int),.int (m:Int),.ref pl]∧aV cs H b A p B∧Good B.P B.ns∧Sz B∧k < B.P+B.ns.length∧(Rb35.leaves (den B.P B.ns k)).length≤24 ∧
 Narrow p B.ns∧(∀ n∈B.ns,n.2.length≤24)∧Rb35.prime p=true∧p≤1000∧bO K H pl (nV w)∧w.length≤600 ∧
 (Rb35.fits p (theirs m (Rb35.leaves (den B.P B.ns k))).length w=true→∀ H',Same H H'→Q (.int (Kv p (den B.P B.ns k) (dH m (Rb35.leaves (den B.P B.ns k)) w))) H')∧(¬ Rb35.fits p (theirs m (Rb35.leaves (den B.P B.ns k))).length w=true→uE E tm (-3))
theorem Im {p n:Nat}{r:List Nat} (h:Rb35.fits p n r=true):r.length=n∧∀ c∈r,c < p:=by
 unfold Rb35.fits at h;rw [Bool.and_eq_true,decide_eq_true_iff,List.all_eq_true] at h;exact ⟨h.1,fun c hc=>of_decide_eq_true (h.2 c hc)⟩
section
variable {P:Program}{w:World}{K:PySem.W.Frag}{mg:Str→Option Value}{base:Heap}{cs:Cs}{tm:Addr}
theorem ux:aH ["who","owners","parts","held","taken","owner"] ["who","owners","parts"] (au oG):=⟨rfl,rfl,rfl,by decide +kernel,rfl,by decide +kernel,by decide +kernel⟩
theorem Xu (T:bJ K mg "held_by" oG) (U8:∃ t,mg "MANY_SECRETS"=some (.int (-6) t)):aX P w K mg base 1 "held_by" ["who","owners","parts"] (Vb K):=by
 obtain ⟨f,fd,F,hm⟩:=T.ex;obtain ⟨tM,U8⟩:=U8;refine ⟨f,fd,hm,F.kp,F.binds (fun _ _ _ _ _ _ us hl=>match us,hl with | [_,_,_],_=>rfl),okN F ux (fun vs H Q E h=>?_) (fun cdv A outer s0 H vs Q E hr h=>?_)⟩
 ·obtain ⟨m,ol,os,pl,w,rfl,_⟩:=h;rfl
 ·obtain ⟨m,ol,os,pl,w,rfl,hol,hpl,hw,hz,kq⟩:=h;refine ⟨_,aq (aZ (i:=3) ux.nd rfl (Or.inl rfl) (fL aA))
   (aq (aZ (i:=4) ux.nd rfl (Or.inl rfl) aR)
   (aq (uI PassesOwn.never rfl (dF (pv 1)) (bY (i:=5) ux.nd rfl (Or.inl rfl))
    (aC (dD (aQ gV (fG Ra (fG Jk (pv 0) (pv 5)) aR) aR (aY _))
     (aq (aN (ju PySem.F.plainAttrs_list PySem.F.slot_list_append PySem.F.type_list_append cD (pv 3) (aj (fM eE (pv 2) (pv 4) (fun _ _=>rfl)) aA))) (aC (Cr (i:=4) ux.nd rfl (Or.inl rfl) aR Cu)))
     (aC (aN (ju PySem.F.plainAttrs_list PySem.F.slot_list_append PySem.F.type_list_append cD (pv 3) (aj (bF (v:=.int (-6)) (by rfl) U8 ⟨tM,rfl⟩) aA)))))))
   (aC (bf (pv 3))))),?_⟩
  refine ⟨by show 0≤sizeLine;decide,fun D hD=>?_⟩;have s0:Same H (upd H D (.lst [])):=fun c o q=>by rw [ak (aB q hD)];exact q
  refine ⟨_,rfl,ol,rfl,⟨_,bO.of (s0 _ _ hol)⟩,?_⟩;refine pG (xs:=nV os) (fun i σ H'=>∃ (hs:List Int) (tk:Nat) (x5:Option V),σ=[some (.int (m:Int)),some (.ref ol),some (.ref pl),some (.ref D),some (.int (tk:Int)),x5]∧H' D=some (.lst (zV hs))∧hs++dH m (os.drop i) (w.drop tk)=dH m os w∧(w.drop tk).length=(theirs m (os.drop i)).length∧hs.length=i∧Same H H')
   ⟨[],0,none,rfl,ao,rfl,hw,rfl,s0⟩ ?_ ?_ ?_
  ·rintro i σ H' _ ⟨_,_,_,_,_,_,_,_,s1⟩;exact bO.of (s1 _ _ hol)
  ·rintro i y σ H' hy ⟨hs,tk,x5,rfl,h1,h2,h3,h4,s1⟩;unfold nV at hy;rw [List.getElem?_map] at hy;cases hq:os[i]? with
   | none=>rw [hq] at hy;cases hy
   | some o=>
    rw [hq] at hy;cases hy;have hi:=(List.getElem?_eq_some_iff.mp hq).1;have hdr:os.drop i=o::os.drop (i+1):=by
     rw [List.drop_eq_getElem_cons hi];congr 1;exact (List.getElem?_eq_some_iff.mp hq).2
    have hlz:(zV hs).length < sizeLine:=by
     rw [dX];exact Nat.lt_of_lt_of_le (show hs.length < 1001 by omega) (by decide)
    rw [hdr] at h2 h3;refine ⟨_,rfl,_,rfl,_,_,rfl,rfl,by omega,_,_,rfl,rfl,rfl,_,rfl,?_⟩;show if decide (V.int (Builtin.bitAnd ((m:Int) / 2 ^ ((o:Nat):Int).toNat) 1)=V.int 1)=true then _ else _
    rw [NP];refine bV (fun hc=>?_) fun hc=>?_
    ·unfold theirs at h3;rw [List.filter_cons_of_pos (p:=fun o=>m.testBit o) hc,List.length_cons] at h3;have htk:tk < w.length:=by
      rw [List.length_drop] at h3;omega
     have hat:w[tk]?=some w[tk]:=List.getElem?_eq_getElem htk;have hd2:w.drop tk=w[tk]::w.drop (tk+1):=List.drop_eq_getElem_cons htk;generalize w[tk]=a at hat hd2;rw [hd2] at h2 h3;have aak:(nV w)[tk]?=some (V.int ((a:Nat):Int)):=by unfold nV;rw [List.getElem?_map,hat];rfl
     rw [dH,if_pos hc] at h2;refine ⟨_,rfl,.inl ⟨rfl,_,bO.of h1⟩,_,rfl,_,rfl,pl,_,_,_,rfl,rfl,zG s1 hpl,at_of (j:=tk) rfl aak,D,_,_,rfl,rfl,h1,hlz,_,rfl,_,_,rfl,rfl,hs++[((a:Nat):Int)],tk+1,some (V.int ((o:Nat):Int)),?_,?_,?_,?_,?_,?_⟩
     ·show _=[_,_,_,_,some (V.int ((tk+1:Nat):Int)),_];rw [Int.natCast_add];rfl
     ·rw [ao,xg]
     ·rw [←h2,List.append_assoc];rfl
     ·have:=Nat.succ.inj h3;exact this
     ·rw [List.length_append,List.length_singleton,h4]
     ·intro c o q;rw [ak (aB q hD)];exact s1 _ _ q
    ·unfold theirs at h3;rw [List.filter_cons_of_neg (p:=fun o=>m.testBit o) hc] at h3;rw [dH,if_neg hc] at h2;refine ⟨_,rfl,.inl ⟨rfl,_,bO.of h1⟩,D,_,_,rfl,rfl,h1,hlz,hs++[-6],tk,_,rfl,?_,?_,h3,?_,?_⟩
     ·rw [ao,xg]
     ·rw [←h2,List.append_assoc];rfl
     ·rw [List.length_append,List.length_singleton,h4]
     ·intro c o q;rw [ak (aB q hD)];exact s1 _ _ q
  ·rintro σ H' ⟨hs,tk,x5,rfl,h1,h2,h3,h4,s1⟩;rw [aK,List.drop_length,dH,List.append_nil] at h2;rw [h2] at h1;exact ⟨_,rfl,kq D H' h1 s1⟩
theorem qT:aH ["book","formula","who","parts","owners","theirs","owner"] ["book","formula","who","parts"] (au nG):=⟨rfl,rfl,rfl,by decide +kernel,rfl,by decide +kernel,by decide +kernel⟩
theorem Qy (T:bJ K mg "opened" nG) (hlen:mg "len"=none) (OW:aX P w K mg base 3 "owners_of" ["book","formula"] (Ik cs)) (KN:aX P w K mg base 4 "keep_numbers" ["book","numbers","count"] (Nh K cs tm)) (HB:aX P w K mg base 1 "held_by" ["who","owners","parts"] (Vb K)) (FO:aX P w K mg base 4 "found_of" ["book","formula","held"] (NK cs)) :
  aX P w K mg base 5 "opened" ["book","formula","who","parts"] (Il K cs tm):=by
 obtain ⟨f,fd,F,hm⟩:=T.ex;refine ⟨f,fd,hm,F.kp,F.binds (fun _ _ _ _ _ _ us hl=>match us,hl with | [_,_,_,_],_=>rfl),Bs F qT (fun vs H Q E h=>?_) (fun cdv A outer s0 H vs Q E hr h=>?_)⟩
 ·obtain ⟨b,A,p,B,k,m,pl,w,rfl,_⟩:=h;rfl
 ·obtain ⟨b,Ad,p,B,k,m,pl,w,rfl,R,good,sz,hk,uw,aaj,hwid,hp,hp2,hpl,hw6,kq,kx⟩:=h;refine ⟨_,aq (aZ (i:=4) qT.nd rfl (Or.inl rfl) (bM (OW.mono (by decide:3≤4)) hr rfl aG (aj (pv 0) (aj (pv 1) aA))))
   (aq (xX (i:=5) rfl qT.nd rfl rfl (CV rfl rfl rfl (by decide +kernel)) (dF (pv 4)) (cY (own:=[("owner",6)]) (by show pQ ["book","formula","who","parts","owners","theirs","owner"] (au nG) _ [("owner",6)]=true;decide +kernel))
    (fun _ _ _ _ _=>bY (i:=6) qT.nd rfl (Or.inl rfl)) (fun _ _ _ _ _=>wO (aQ gV (fG Ra (fG Jk (pv 2) (pv 6)) aR) aR (aY _))) (fun _ _ _ _ _=>pv 6))
   (aq (aN (bM KN hr rfl bh (aj (pv 0) (aj (pv 3) (aj (aU aO (by rfl) hlen PySem.boot_len (aj (pv 5) aA)) aA)))))
   (aC (bf (bM FO hr rfl aG (aj (pv 0) (aj (pv 1) (aj (bM (HB.mono (by decide:1≤4)) hr rfl aG (aj (pv 2) (aj (pv 4) (aj (pv 3) aA)))) aA)))))))),?_⟩
  refine ⟨_,rfl,_,rfl,b,Ad,p,B,k,rfl,R,good,sz,hk,uw,fun D1 H1 hD1 s1=>?_⟩;refine ⟨_,rfl,D1,rfl,⟨_,bO.of hD1⟩,fun D2 hD2=>?_⟩;refine gH (xs:=nV (Rb35.leaves (den B.P B.ns k))) (fun j H'=>H'=upd H1 D2 (.lst (nV (theirs m ((Rb35.leaves (den B.P B.ns k)).take j))))) rfl ?_ ?_ ?_
  ·rintro j H' _ rfl;exact bO.of (by rw [ak (aB hD1 hD2)];exact hD1)
  ·rintro j y H' hy rfl;unfold nV at hy;rw [List.getElem?_map] at hy;cases hq:(Rb35.leaves (den B.P B.ns k))[j]? with
   | none=>rw [hq] at hy;cases hy
   | some o=>
    rw [hq] at hy;cases hy;have hj:=(List.getElem?_eq_some_iff.mp hq).1;refine ⟨rfl,_,rfl,_,rfl,_,_,rfl,rfl,by omega,_,_,rfl,rfl,rfl,_,rfl,?_⟩;show if decide (V.int (Builtin.bitAnd ((m:Int) / 2 ^ ((o:Nat):Int).toNat) 1)=V.int 1)=true then _ else _
    rw [NP];refine bV (fun hc=>?_) fun hc=>?_
    ·refine ⟨_,rfl,_,ao,?_,?_⟩
     ·rw [aK];unfold theirs;refine Nat.lt_of_le_of_lt (List.length_filter_le _ _) ?_;rw [List.length_take];exact Nat.lt_of_le_of_lt (Nat.min_le_left _ _) (Nat.lt_of_lt_of_le hj (Nat.le_trans uw (by decide)))
     ·unfold theirs;rw [gG,List.take_succ,hq,Option.toList_some,List.filter_append,List.filter_cons_of_pos (p:=fun o=>m.testBit o) hc,List.filter_nil,iD]
    ·show _=_;unfold theirs;rw [List.take_succ,hq,Option.toList_some,List.filter_append,List.filter_cons_of_neg (p:=fun o=>m.testBit o) hc,List.filter_nil,List.append_nil]
  ·rintro H' rfl;rw [aK,List.take_length];have s2:Same H1 (upd H1 D2 (.lst (nV (theirs m (Rb35.leaves (den B.P B.ns k)))))):=fun c o q=>by rw [ak (aB q hD2)];exact q
   have acw:(upd H1 D2 (.lst (nV (theirs m (Rb35.leaves (den B.P B.ns k)))))) D2=some (.lst (nV (theirs m (Rb35.leaves (den B.P B.ns k))))):=ao;generalize upd H1 D2 (.lst (nV (theirs m (Rb35.leaves (den B.P B.ns k)))))=H2 at s2 acw;have s3:=s1.trans s2;have R3:=R.keep (Kp.same s3 []) (fun x hx=>by simp at hx);refine ⟨_,rfl,_,rfl,_,rfl,_,_,rfl,.inl (bO.of acw),b,Ad,p,B,pl,w,(theirs m (Rb35.leaves (den B.P B.ns k))).length,by rw [aK];rfl,R3,zG s3 hpl,hw6,fun hf H3 s4=>?_,fun hf=>kx hf⟩;obtain ⟨f1,f2⟩:=Im hf;have s5:=s3.trans s4;have R5:=R.keep (Kp.same s5 []) (fun x hx=>by simp at hx);refine ⟨_,rfl,_,rfl,_,rfl,_,rfl,_,rfl,m,D1,_,pl,w,rfl,s4 _ _ (s2 _ _ hD1),zG s5 hpl,f1,Nat.le_trans uw (by decide),fun D6 H6 h6 s6=>?_⟩;have s7:=s5.trans s6;have R7:=R.keep (Kp.same s7 []) (fun x hx=>by simp at hx);exact ⟨b,Ad,p,B,k,D6,_,rfl,R7,good,sz,hk,uw,aaj,hwid,hp,hp2,h6,qQ _ _ _,qu m p _ _ f1 f2,fun H8 s8=>kq hf H8 (s7.trans s8)⟩
end
end Pg
end
section
set_option linter.all false
namespace Pg
open Sp
theorem NQ {G:Rb35.Prog}{B:Bk}{i:Int}{k:Nat} (h:G.lets=B.known.lets) (h0:0≤i) (hk:(B.ls.map (·.2))[i.toNat]?=some k):Rb35.formAt G i=some (den B.P B.ns k):=by
 unfold Rb35.formAt;rw [if_neg (by omega),h];show ((B.ls.map fun x=>(x.1,den B.P B.ns x.2))[i.toNat]?).map _=_;rw [List.getElem?_map] at hk ⊢;cases q:B.ls[i.toNat]? with
 | none=>rw [q] at hk;cases hk
 | some x=>rw [q] at hk;cases hk;rfl
theorem Xv {G:Rb35.Prog}{B:Bk}{i:Int} (h:G.lets=B.known.lets) (hn:¬ (0≤i∧i.toNat < B.ls.length)):Rb35.formAt G i=none:=by
 unfold Rb35.formAt;by_cases h0:i < 0
 ·rw [if_pos h0]
 ·rw [if_neg h0,h];show ((B.ls.map fun x=>(x.1,den B.P B.ns x.2))[i.toNat]?).map _=_;rw [List.getElem?_eq_none (by rw [List.length_map];exact Nat.le_of_not_lt fun z=>hn ⟨by omega,z⟩)];rfl
theorem some_at {G:Rb35.Prog}{B:Bk}{m:Int} (h:G.people=B.people):Rb35.some_of G m=true↔0≤m∧m.toNat < 2 ^ B.P:=by
 unfold Rb35.some_of Rb35.inRange Rb35.crowd;rw [h,Bool.and_eq_true,decide_eq_true_iff,decide_eq_true_iff];have:=Nat.two_pow_pos B.people.length;show _↔0≤m∧m.toNat < 2 ^ B.people.length;omega
theorem K5 {text:List Int} (h:Rb35Neutral.text (text.length:Int) text=true):(∀ b∈text.map Int.toNat,b < 256)∧text.length≤600∧(∀ x∈text,0≤x)∧Rb35.inRange 0 (text.length:Int) 65536=true:=by
 unfold Rb35Neutral.text at h;simp only [Bool.and_eq_true,decide_eq_true_eq,List.all_eq_true] at h;obtain ⟨_,h2,_,h3,_⟩:=h;have nat:∀ x∈text,0≤x∧x < 256:=fun x hx=>by
  have:=h2 x hx;unfold Rb35Neutral.natural at this;simp only [Bool.and_eq_true,decide_eq_true_eq] at this;exact ⟨this.1,by have:=this.2;omega⟩
 refine ⟨fun b hb=>?_,h3,fun x hx=>(nat x hx).1,?_⟩
 ·obtain ⟨x,hx,rfl⟩:=List.mem_map.mp hb;have:=nat x hx;omega
 ·unfold Rb35.inRange;simp only [Bool.and_eq_true,decide_eq_true_eq];omega
end Pg
end
section
set_option linter.all false
namespace Sp
open Rb35
end Sp
end
section
set_option linter.all false
set_option maxRecDepth 100000
namespace Pg
open Sp
theorem acy {P:Nat}{ns:List aF} (good:Good P ns) (h:∀ j,j < ns.length→(Rb35.leaves (den P ns (P+j))).length≤24):∀ n∈ns,n.2.length≤24:=fun n hn=>by
 obtain ⟨j,hj,e⟩:=List.mem_iff_getElem.mp hn;have Nz:ns[j]?=some n:=by rw [List.getElem?_eq_getElem hj,e]
 have h1:=h j hj;rw [jy good Nz] at h1;have h2:(Rb35.leavesIn (jG (n.2.map (den P ns)))).length≤24:=h1;rw [cT,List.map_map] at h2;have h3:=w6 good n.2 fun y hy=>by
  have:=(good j n Nz).1 y hy;omega
 exact Nat.le_trans h3 h2
theorem Io {bs:List Nat}{G:Rb35.Prog} (h:Rb35.taken bs=.good G):Rb35.small G=true:=by
 unfold Rb35.taken at h;cases q:Rb35.program (Rb35.toks bs) with
 | error k=>rw [q] at h;cases h
 | ok P=>
  rw [q] at h;dsimp only at h;split at h
  ·rename_i hs;cases h;exact hs
  ·cases h
theorem K6 {bs:List Nat}{G:Rb35.Prog} (h:Rb35.taken bs=.good G) {i:Int}{f:Rb35.Form} (hf:Rb35.formAt G i=some f):Rb35.sound G.p f=true∧(Rb35.leaves f).length≤24:=by
 have hs:=Io h;unfold Rb35.small at hs;rw [Bool.and_eq_true,Bool.and_eq_true,List.all_eq_true] at hs;unfold Rb35.formAt at hf;split at hf
 ·cases hf
 ·obtain ⟨x,hx,rfl⟩:=Option.map_eq_some_iff.mp hf;have:=hs.2.2 x (List.mem_of_getElem? hx);rw [Bool.and_eq_true,decide_eq_true_iff] at this;exact ⟨this.2,this.1⟩
theorem Ci (m:Nat):∀ os:List Nat,zO m os os=theirs m os
 | []=>rfl
 | o::os=>by
  have ih:=Ci m os;unfold zO theirs at ih ⊢;rw [List.zip_cons_cons,List.filterMap_cons];by_cases h:m.testBit o=true
  ·simp only [if_pos h];rw [ih,List.filter_cons_of_pos (p:=fun o=>m.testBit o) h]
  ·simp only [if_neg h];rw [ih,List.filter_cons_of_neg (p:=fun o=>m.testBit o) h]
end Pg
end
section
set_option linter.all false
set_option maxRecDepth 100000
set_option maxHeartbeats 4000000
namespace Pg
open PySem L2 Xc Sp Rb35
theorem NT (a:Nat):(!decide (V.int (a:Int)=V.int 0))=!decide (a=0):=by
 by_cases h:a=0
 ·subst h;rfl
 ·rw [decide_eq_false h,decide_eq_false fun z=>h (by injection z with z;omega)]
def Vc (cs:Cs):Sp:=fun vs H Q E=>∃ (b:Addr) (A:dY) (p:Nat) (B:Bk) (i:Int),vs=[.ref b,.int i]∧aV cs H b A p B ∧
 (0≤i→i.toNat < 2 ^ B.P→Q .non H)∧(¬ (0≤i∧i.toNat < 2 ^ B.P)→uE E cs.mH (-2))
section
variable {P:Program}{w:World}{K:PySem.W.Frag}{mg:Str→Option Value}{base:Heap}{cs:Cs}
theorem Xw:aH ["book","who"] ["book","who"] (au iC):=⟨rfl,rfl,rfl,by decide +kernel,rfl,by decide +kernel,by decide +kernel⟩
theorem Xx (T:bJ K mg "keep_people" iC) (gO:Cls K cs.boo) (naB:cF K cs.boo ["prime","people","nodes","lets","names"]) (hlen:mg "len"=none) (OR:rC P w K mg base 2 "OutOfRange" cs.mH ["self"] (mO K cs.mH (-2))) :
  aX P w K mg base 4 "keep_people" ["book","who"] (Vc cs):=by
 obtain ⟨f,fd,F,hm⟩:=T.ex;obtain ⟨fC,fdC,JV,MC,bC,GC⟩:=OR.ex;refine ⟨f,fd,hm,F.kp,F.binds (fun _ _ _ _ _ _ us hl=>match us,hl with | [_,_],_=>rfl),Bs F Xw (fun vs H Q E h=>?_) (fun cdv A outer s H vs Q E hr h=>?_)⟩
 ·obtain ⟨b,A,p,B,i,rfl,_⟩:=h;rfl
 ·obtain ⟨b,Ad,p,B,i,rfl,R,kq,kx⟩:=h;obtain ⟨dx,ob⟩:=R.ob;refine ⟨_,aC (dD (Ba (aQ xO (pv 1) aR (aY _)) (uG (aQ vL (fG Jk (pv 1) (aU aO (by rfl) hlen PySem.boot_len (aj (aM (pv 0) rfl) aA))) aR (aY _)))).pt (aC (iU MC GC hr bC rfl JV)) bU),?_⟩;refine ⟨_,rfl,_,_,rfl,rfl,_,rfl,bV (fun hc=>?_) fun hc=>?_⟩
  ·have h1:=of_decide_eq_true hc;refine CZ (jc (kx fun z=>?_) _);omega
  have h1:¬ i < 0:=fun z=>hc (decide_eq_true z);obtain ⟨n,rfl⟩:=Int.eq_ofNat_of_zero_le (by omega:0≤i);have e:(n:Int) / 2 ^ ((B.people.map fun x=>V.str (bR x)).length:Int).toNat=((n / 2 ^ B.P:Nat):Int):=by
   rw [List.length_map,Int.toNat_natCast];norm_cast
  refine ⟨_,rfl,_,rfl,b,cs.boo,dx,_,_,rfl,ob,gO,naB _ (by simp),fV _ _ _ _ _,_,_,rfl,.inl (bO.of R.people),_,_,rfl,rfl,by omega,?_⟩;refine ⟨rfl,_,rfl,bV (fun hc=>?_) fun hc=>?_⟩
  ·replace hc:(!decide (V.int ((n / 2 ^ B.P:Nat):Int)=V.int 0))=true:=by rw [←e];exact hc
   rw [NT] at hc;refine jc (kx fun z=>?_) _;have h3:n / 2 ^ B.P=0:=Nat.div_eq_of_lt (by simpa using z.2);rw [h3] at hc;simp at hc
  ·replace hc:¬ (!decide (V.int ((n / 2 ^ B.P:Nat):Int)=V.int 0))=true:=by rw [←e];exact hc
   rw [NT] at hc;have h3:n / 2 ^ B.P=0:=by
    refine Decidable.byContradiction fun z=>hc ?_;simp only [Bool.not_eq_true',decide_eq_false_iff_not];omega
   exact kq (by omega) (by rw [Int.toNat_natCast];exact (Nat.div_eq_zero_iff_lt (Nat.two_pow_pos _)).mp h3)
end
end Pg
end
section
set_option linter.all false
set_option maxRecDepth 100000
set_option maxHeartbeats 4000000
namespace Pg
open PySem PySem.Spec PyProof.Rows L2 Xc Sp
section
variable {K:PySem.W.Frag}{h:Heap}{mg:Str→Option Value}{x m qual:Str}{st:Stmt}{C f:Addr}{oc kV doc pm cdv ct:Value}{od an:Option Addr}{sl:Array (Option Value)}
theorem eX (X:K.In h) (G:h.Ns mainGlobals mg) (m:PySem.W.nsIn K mainGlobals x=some (some (.ref f))) (l:K.lookup f=some ⟨oc,od,.func (PySem.W.fnOf x x (dO st) (cM st) (au st) .none kV doc pm an cdv ct),sl⟩) (c:PySem.W.codeIn K cdv x=true)
  (k:PySem.W.keepIn K (.ref f)=true):bJ K mg x st:=⟨⟨_,_,yp l c k,PySem.W.mg_of X G m⟩⟩
theorem uy (i:PySem.W.findIn K (.ref C) m=some (some (.ref f))) (n:PySem.W.isFn K (.ref f)=true) (l:K.lookup f=some ⟨oc,od,.func (PySem.W.fnOf m qual (dO st) (cM st) (au st) .none kV doc pm an cdv ct),sl⟩) (c:PySem.W.codeIn K cdv qual=true)
  (k:PySem.W.keepIn K (.ref f)=true):gq K C m qual st:=⟨⟨_,_,yp l c k,⟨i,n,k⟩⟩⟩
theorem uz (X:K.In h) (G:h.Ns mainGlobals mg) (m:PySem.W.nsIn K mainGlobals x=some (some (.ref C))) (t:PySem.W.makesIn K C=true) (i:PySem.W.findIn K (.ref C) "__init__"=some (some (.ref f))) (n:PySem.W.isFn K (.ref f)=true) (u:PySem.W.keepIn K (.ref C)=true)
  (l:K.lookup f=some ⟨oc,od,.func (PySem.W.fnOf "__init__" qual (dO st) (cM st) (au st) .none kV doc pm an cdv ct),sl⟩) (c:PySem.W.codeIn K cdv qual=true) (k:PySem.W.keepIn K (.ref f)=true):yQ K mg x C qual st:=
 ⟨⟨_,_,yp l c k,⟨t,i,n,u⟩,PySem.W.mg_of X G m⟩⟩
theorem xq {nm q:Str}{N:Addr}{bs bm sub:List Value}{hdc ab:Bool}{sn:List Str}{col:Option Bool}{dd:Option Addr}{s0 s1 s2 s3 s5:Option Value} (X:K.In h) (G:h.Ns mainGlobals mg) (m:PySem.W.nsIn K mainGlobals x=some (some (.ref C)))
  (t:K.lookup C=some (excClassObj nm q C N bs bm hdc sn sub ab col dd s0 s1 s2 s3 s5 "Exception.__new__")) (i:PySem.W.findIn K (.ref C) "__init__"=some (some (.ref f)))
  (l:K.lookup f=some ⟨.type "function",od,.func (PySem.W.fnOf "__init__" qual (dO st) (cM st) (au st) .none kV doc pm an cdv ct),sl⟩) (c:PySem.W.codeIn K cdv qual=true) (k:PySem.W.keepIn K (.ref f)=true) (u:PySem.W.keepIn K (.ref C)=true)
  (a:PySem.W.findIn K (.ref C) "__setattr__"=some (some (.builtin "object.__setattr__"))) (o:wQ K C=true) (d:PySem.W.hasDictIn K C=true)
  (b:(bm.contains (.type "Exception")&&!bm.contains (.type "AttributeError")&&!bm.contains (.type "NameError")&&bm.contains (.type "BaseException"))=true):Gd K mg x C qual st:=by
 simp only [Bool.and_eq_true,Bool.not_eq_true'] at b;exact ⟨⟨_,_,yp l c k,⟨⟨_,_,_,_,_,_,_,_,_,_,_,_,_,_,_,_,t,b.1.1.1,b.1.1.2,b.1.2,b.2⟩,i,⟨_,l,rfl⟩,u⟩,PySem.W.mg_of X G m⟩,⟨a,o,d⟩⟩
theorem qx:cF K C []:=fun _ h=>by simp at h
theorem nT {f:Str}{l:List Str} (a:PySem.W.findIn K (.ref C) f=some none) (b:cF K C l):cF K C (f::l):=fun g hg=>by
 rcases List.mem_cons.mp hg with rfl | hg
 ·exact a
 ·exact b g hg
end
structure Base (K:PySem.W.Frag) (mg:Str→Option Value) (cs:Cs):Prop where
 co:tX cs
 T4:Cls K cs.jl
 T5:cF K cs.jl ["asked","within"]
 gO:Cls K cs.boo
 naB:cF K cs.boo ["prime","people","nodes","lets","names"]
 excs:vW K mg cs
 cat:Z1 K cs
 len:mg "len"=none
 any:mg "any"=none
 all:mg "all"=none
 range:mg "range"=none
 sum:mg "sum"=none
 ord:mg "ord"=none
 aeU:mg "Book"=some (.ref cs.boo)
 book:∀ (P:Program) (w:World) (base:Heap),aX P w K mg base 10 "book_of" ["text"] (zy K cs)
theorem Base.met {K:PySem.W.Frag}{mg:Str→Option Value}{cs:Cs}{m q:Str}{st:Stmt} (B:Base K mg cs) (h:∃ C,mg "Book"=some (.ref C)∧gq K C m q st):gq K cs.boo m q st:=by
 obtain ⟨C,h1,h2⟩:=h;rw [B.aeU] at h1;cases h1;exact h2
theorem Xy {K:PySem.W.Frag}{mg:Str→Option Value}{jl boo tok dG cB ref mH pF cst fr acz acA:Addr}{oc kV doc pm cdv ct:Value}{od an acB acC:Option Addr}{sl acD acE:Array (Option Value)}{cd:ClassData}{t1 t2 t3 t4 t5 t6 t7:PySem.Tok}{aeV aeW:Nat}
  (Ve:yQ K mg "Node" jl "Node.__init__" oH)
  (vD:Cls K jl)
  (vG:cF K jl ["asked","within"])
  (NZ:yQ K mg "Book" boo "Book.__init__" oK)
  (iJ:Cls K boo)
  (jP:cF K boo ["prime","people","nodes","lets","names"])
  (je:gq K boo "add_person" "Book.add_person" gM)
  (lA:gq K boo "add_node" "Book.add_node" iY)
  (mU:gq K boo "add_let" "Book.add_let" jJ)
  (Vf:yQ K mg "Token" tok "Token.__init__" mJ)
  (iK:Cls K tok)
  (iM:cF K tok ["kind","word","place"])
  (Vg:yQ K mg "Bracket" dG "Bracket.__init__" jL)
  (oZ:Cls K dG)
  (o7:cF K dG ["asked","formulas","boths","parts"])
  (lB:gq K dG "end_both" "Bracket.end_both" gA)
  (iQ:gq K dG "end_formula" "Bracket.end_formula" eO)
  (Vh:yQ K mg "Reader" cB "Reader.__init__" kW)
  (fu:Cls K cB)
  (zW:cF K cB ["tokens","at"])
  (vH:gq K cB "now" "Reader.now" mK)
  (sJ:gq K cB "take" "Reader.take" kY)
  (gP:gq K cB "take_written" "Reader.take_written" eU)
  (gB:gq K cB "take_new_name" "Reader.take_new_name" dU)
  (fB:gq K cB "take_known_name" "Reader.take_known_name" dw)
  (jf:gq K cB "take_prime" "Reader.take_prime" fX)
  (jg:gq K cB "take_asked" "Reader.take_asked" fY)
  (zX:bJ K mg "joined" u9)
  (zY:bJ K mg "closed" vd)
  (sO:bJ K mg "is_field" lZ)
  (lC:bJ K mg "end_of_signs" jK)
  (vI:bJ K mg "run_end" rT)
  (vJ:bJ K mg "kind_of" rW)
  (zZ:bJ K mg "row_of" nH)
  (qy:bJ K mg "tokens_of" oM)
  (o8:bJ K mg "all_places" gC)
  (mV:bJ K mg "keep_limits" fW)
  (jh:bJ K mg "begin_brackets" iz)
  (ji:bJ K mg "close_brackets" iB)
  (lD:bJ K mg "read_between" jN)
  (lE:bJ K mg "read_formula" jM)
  (o9:bJ K mg "read_field" mL)
  (mW:bJ K mg "read_people" kZ)
  (sS:bJ K mg "read_let" qd)
  (vK:bJ K mg "book_of" rY)
  (Vi:mg "Refusal"=some (.ref ref))
  (K7:PySem.W.findCls K (.ref ref) (.type "type") "__init__"=some (.val (.ref fr)))
  (Vj:K.lookup fr=some ⟨oc,od,.func (PySem.W.fnOf "__init__" "Refusal.__init__" (dO cQ) (cM cQ) (au cQ) .none kV doc pm an cdv ct),sl⟩)
  (Vk:PySem.W.codeIn K cdv "Refusal.__init__"=true)
  (N5:PySem.W.keepIn K (.ref fr)=true)
  (K8:PySem.W.readsIn K ref (.type "type")=true)
  (K9:PySem.W.specialIn K (.ref ref) "__getattribute__"=some (some (.builtin "type.__getattribute__")))
  (La:PySem.W.instIn K (.ref ref) (.type "tuple")=some false)
  (Lb:PySem.W.clsIn K ref=some cd)
  (Ld:PySem.W.subIn K (.ref ref) (.type "BaseException")=some true)
  (Vl:Gd K mg "OutOfRange" mH "OutOfRange.__init__" gK)
  (Le:PySem.W.findIn K (.ref mH) "number"=some none)
  (Lf:PySem.W.subIn K (.ref mH) (.ref ref)=some true)
  (Lg:Av K mH)
  (Vm:Gd K mg "OverLimit" pF "OverLimit.__init__" iy)
  (Lh:PySem.W.findIn K (.ref pF) "number"=some none)
  (Li:PySem.W.subIn K (.ref pF) (.ref ref)=some true)
  (Lj:Av K pF)
  (Vn:Gd K mg "CannotStand" cst "CannotStand.__init__" gw)
  (Lk:PySem.W.findIn K (.ref cst) "number"=some none)
  (Ln:PySem.W.subIn K (.ref cst) (.ref ref)=some true)
  (Lp:Av K cst)
  (lF:mg "len"=none)
  (N6:mg "int"=none)
  (N7:mg "all"=none)
  (N8:mg "any"=none)
  (xr:mg "range"=none)
  (Oa:mg "sum"=none)
  (z_ord:mg "ord"=none)
  (Lq:mg "dict"=none)
  (z6:∃ t,mg "NAME"=some (.str "name" t))
  (nU:∃ t,mg "NUMBER"=some (.str "number" t))
  (Ed:∃ t,mg "OTHER"=some (.str "other" t))
  (Ob:∃ t,mg "END"=some (.str "end" t))
  (qU:∃ t,mg "LETTERS"=some (.str "abcdefghijklmnopqrstuvwxyz" t))
  (uD:∃ t,mg "DIGITS"=some (.str "0123456789" t))
  (jZ:∃ t,mg "WORD_SIGNS"=some (.str "abcdefghijklmnopqrstuvwxyz0123456789_" t))
  (mX:∃ t,mg "OTHER_SIGNS"=some (.str "(),;=&|#\n" t))
  (lG:∃ t,mg "LONGEST_WORD"=some (.int 15 t))
  (jj:∃ t,mg "LONGEST_NUMBER"=some (.int 5 t))
  (jk:∃ t,mg "GREATEST_PRIME"=some (.int 251 t))
  (mY:∃ t,mg "MOST_PEOPLE"=some (.int 10 t))
  (qz:∃ t,mg "MOST_LETS"=some (.int 16 t))
  (mZ:∃ t,mg "MOST_PLACES"=some (.int 24 t))
  (lH:∃ t,mg "LONGEST_TEXT"=some (.int 65536 t))
  (aal:mg "KEPT_WORDS"=some (.ref acz))
  (aam:K.lookup acz=some ⟨.type "tuple",acB,.seq #[.str "field" t1,.str "who" t2,.str "let" t3,.str "of" t4] aeV,acD⟩)
  (aan:mg "BLANK_BYTES"=some (.ref acA))
  (aao:K.lookup acA=some ⟨.type "tuple",acC,.seq #[.int 9 t5,.int 13 t6,.int 32 t7] aeW,acE⟩)
  (d1:jl≠boo)
  (d2:dG≠jl)
  (d3:dG≠boo)
  (d4:cB≠jl)
  (d5:cB≠boo)
  (d6:cB≠dG)
  : Base K mg ⟨jl,boo,tok,dG,cB,ref,mH,pF,cst⟩:=by
 have co:tX (⟨jl,boo,tok,dG,cB,ref,mH,pF,cst⟩:Cs):=⟨d1,d2,d3,d4,d5,d6⟩;have EX:vW K mg ⟨jl,boo,tok,dG,cB,ref,mH,pF,cst⟩:=⟨⟨_,_,yp Vj Vk N5,⟨K8,K7,K9,N5⟩⟩,Vi,Vl,Vm,Vn,Le,Lh,Lk⟩;have CT:Z1 K ⟨jl,boo,tok,dG,cB,ref,mH,pF,cst⟩:=⟨⟨La,by rw [Lb];rfl,Ld⟩,Lf,Li,Ln,Lg,Lj,Lp⟩;have aeX:∃ a,mg "KEPT_WORDS"=some (.ref a)∧∀ H,tD K H a [V.str "field",V.str "who",V.str "let",V.str "of"]:=⟨_,aal,fun H=>.inr ⟨_,_,_,aam,rfl,rfl,by show 4≤sizeLine;decide,.cons ⟨_,rfl⟩ (.cons ⟨_,rfl⟩ (.cons ⟨_,rfl⟩ (.cons ⟨_,rfl⟩ .nil)))⟩⟩;have aeY:∃ a,mg "BLANK_BYTES"=some (.ref a)∧∀ H,tD K H a [V.int 9,V.int 13,V.int 32]:=⟨_,aan,fun H=>.inr ⟨_,_,_,aao,rfl,rfl,by show 3≤sizeLine;decide,.cons ⟨_,rfl⟩ (.cons ⟨_,rfl⟩ (.cons ⟨_,rfl⟩ .nil))⟩⟩;refine ⟨co,vD,vG,iJ,jP,EX,CT,lF,N8,N7,xr,Oa,z_ord,(let ⟨_,_,_,_,h⟩:=NZ.ex;h),fun P w base=>?_⟩;have acF:=Ww (P:=P) (w:=w) (base:=base) (cs:=⟨jl,boo,tok,dG,cB,ref,mH,pF,cst⟩) Ve vD vG;have acG:=Wy (P:=P) (w:=w) (base:=base) (cs:=⟨jl,boo,tok,dG,cB,ref,mH,pF,cst⟩) NZ iJ jP;have aap:=Sw (P:=P) (w:=w) (base:=base) (cs:=⟨jl,boo,tok,dG,cB,ref,mH,pF,cst⟩) Vf iK iM;have Ip:=JN (P:=P) (w:=w) (base:=base) (cs:=⟨jl,boo,tok,dG,cB,ref,mH,pF,cst⟩) Vg oZ o7;have Xz:=Ph (P:=P) (w:=w) (base:=base) (cs:=⟨jl,boo,tok,dG,cB,ref,mH,pF,cst⟩) Vh fu zW;have oAN:=Gh (P:=P) (w:=w) (base:=base) (cs:=⟨jl,boo,tok,dG,cB,ref,mH,pF,cst⟩) lA iJ jP lF acF;have oJ:=Pk (cs:=⟨jl,boo,tok,dG,cB,ref,mH,pF,cst⟩) zX iJ lF oAN;have oEB:=Gj co lB oZ o7 lF oJ;have oEF:=yV co iQ oZ o7 oJ oEB;have oCL:=Pq (cs:=⟨jl,boo,tok,dG,cB,ref,mH,pF,cst⟩) zY oZ o7 iJ oAN;have oOR:=jq (P:=P) (w:=w) (base:=base) EX;have oOV:=Dq (P:=P) (w:=w) (base:=base) EX;have oCS:=yX (P:=P) (w:=w) (base:=base) EX;have Vo:=Zh (mg:=mg) (P:=P) (w:=w) (base:=base) (cs:=⟨jl,boo,tok,dG,cB,ref,mH,pF,cst⟩) vH fu zW;have Yk:=WD sJ fu zW iK iM Vo oCS;have oTW:=JX gP fu iK iM Vo Yk;have oNN:=Zi gB fu iK iM z6 Vo Yk;have oKN:=S7 fB fu iK iM z6 Vo Yk;have oFI:=Tj (P:=P) (w:=w) (base:=base) sO jk N7 xr;have oPR:=Tq jf fu iK iM nU N6 Vo Yk oFI;have oTA:=Tr jg fu iK iM nU N6 Vo Yk;have oAP:=Am (P:=P) (w:=w) (base:=base) (cs:=⟨jl,boo,tok,dG,cB,ref,mH,pF,cst⟩) je iJ jP lF;have oAL:=J0 (mg:=mg) (P:=P) (w:=w) (base:=base) (cs:=⟨jl,boo,tok,dG,cB,ref,mH,pF,cst⟩) mU iJ jP;have oEO:=Tw (P:=P) (w:=w) (base:=base) lC lF;have oRE:=PB vI lF qU uD jZ oEO;have oKI:=WY (P:=P) (w:=w) (base:=base) vJ lF qU uD aeX lG jj z6 nU Ed;have oRO:=ZM (P:=P) (w:=w) (base:=base) zZ z_ord Lq jZ mX aeY;have oTO:=Xa qy lF Ob oRO oRE oKI aap;have oPL:=Qe (P:=P) (w:=w) (base:=base) (cs:=⟨jl,boo,tok,dG,cB,ref,mH,pF,cst⟩) o8 iJ jP vD vG Oa;have oLM:=Qg mV iJ jP vD vG lF N8 mY qz mZ oPL oOV;have oBG:=TQ co jh fu iK iM nU Vo oTA oTW Ip;have oSH:=W3 co ji fu iK iM oZ o7 lF Vo Yk oEF oCL;have oBW:=J5 co lD fu iK iM oZ o7 Vo oTW oEB oEF;have oFO:=J6 co lE fu iJ jP oZ o7 lF Ip oBG oKN oSH oBW Yk oEF;have oFR:=PL o9 fu oTW oPR;have oPE:=PX co mW fu iK iM iJ jP Vo oTW oNN oAP;have oLE:=ZQ co sS fu iJ jP oTW oNN oFO oAL;exact Qk co vK fu iK iM lF lH Ob oOR oTO Xz oFR acG oPE Vo oLE Yk oLM
end Pg
end
section
set_option linter.all false
set_option maxRecDepth 100000
set_option maxHeartbeats 4000000
namespace Pg
open PySem PySem.Spec PyProof.Rows L2 Xc Sp
def iV (l:List Int):List V:=l.map V.int
section
variable {P:Program}{w:World}{K:PySem.W.Frag}{mg mb:Str→Option Value}
structure Entry (P:Program) (w:World) (K:PySem.W.Frag) (mg:Str→Option Value) (c T:Addr) (s₁:Shared) (H:Hp):Prop where
 hok:pB P w H s₁.heap
 only:∀ b u,H b=some u→(∃ o x,u=.Ek o x)∨(b=T∧u=.uF #[])
 tab:H T=some (.uF #[])
 hd:PySem.W.CodeHd (xu s₁.heap H) c T
 hdT:s₁.heap.TableAt c T #[]
 mod:Mod K mg (xu s₁.heap H)
 bm:BMain mg (xu s₁.heap H)
theorem Vp {s₁:Shared}{c T:Addr}{ls:List (Addr×List Value×List Int)} (KX:K.In s₁.heap) (hns:s₁.heap.Ns mainGlobals mg) (hb:s₁.heap.Ns builtinsNs mb) (hbb:∀ x:Str,x≠"__name__"→mb x=bootBuiltins x) (hlim:s₁.heap.NoLimit)
  (hbm:∃ bm ob,mg "__builtins__"=some (.ref bm)∧bm≠builtinsNs∧s₁.heap.get? bm=some ob∧ob.cls=.type "module"∧ob.dict=some builtinsNs∧ob.data=.plain)
  (hC:PySem.W.CodeHd s₁.heap c T) (hT:s₁.heap.get? T=some (PySem.W.tabObj #[])) (hK:PySem.W.noTabs K=true)
  (hl:∀ x∈ls,s₁.heap.get? x.1=some { cls:=.type "list",data:=.seq x.2.1.toArray }∧IntsAre x.2.1 x.2.2∧x.2.2.length≤sizeLine) :
  ∃ H,Entry P w K mg c T s₁ H∧∀ x∈ls,bO K H x.1 (x.2.2.map V.int):=by
 have KT:K.lookup T=none:=by
  cases q:K.lookup T with
  | none=>rfl
  | some o=>
   have e:=KX _ _ q;rw [hT] at e;cases e;have h2:=List.all_eq_true.mp hK (T,_) (PySem.W.mem_of_lookupK q);exact absurd (show false=true from h2) Bool.false_ne_true
 let H:Hp:=fun b=>if b=T then some (.uF #[]) else if K.lookup b=none then (ls.find? fun x=>x.1==b).map fun x=>.Ek { cls:=.type "list",data:=.seq x.2.1.toArray } (.lst (x.2.2.map V.int)) else none
 have hH:∀ b u,H b=some u→(b=T∧u=.uF #[])∨(b≠T∧K.lookup b=none∧∃ x∈ls,x.1=b∧u=.Ek { cls:=.type "list",data:=.seq x.2.1.toArray } (.lst (x.2.2.map V.int))):=fun b u e=>by
  by_cases hbT:b=T
  ·left;have:H b=some (.uF #[]):=if_pos hbT;rw [this] at e;cases e;exact ⟨hbT,rfl⟩
  ·right;have e1:H b=if K.lookup b=none then (ls.find? fun x=>x.1==b).map fun x=>.Ek { cls:=.type "list",data:=.seq x.2.1.toArray } (.lst (x.2.2.map V.int)) else none:=if_neg hbT
   rw [e1] at e;by_cases hk:K.lookup b=none
   ·rw [if_pos hk] at e;cases q:ls.find? fun x=>x.1==b with
    | none=>rw [q] at e;cases e
    | some x=>
     rw [q] at e;cases e;exact ⟨hbT,hk,x,List.mem_of_find?_eq_some q,by simpa using List.find?_some q,rfl⟩
   ·rw [if_neg hk] at e;cases e
 have noD:∀ {b:Addr}{o:Obj},s₁.heap.get? b=some o→(∀ vs n,o.data≠.seq vs n)→(∀ vs,o.data≠.fields vs)→H b=none:=fun {b o} e h1 h2=>by
  cases q:H b with
  | none=>rfl
  | some u=>
   rcases hH b u q with ⟨rfl,_⟩ | ⟨_,_,x,hx,rfl,_⟩
   ·rw [hT] at e;cases e;exact absurd rfl (h2 _)
   ·rw [(hl x hx).1] at e;cases e;exact absurd rfl (h1 _ _)
 have nsK:∀ {b:Addr}{m:Str→Option Value},s₁.heap.Ns b m→(xu s₁.heap H).Ns b m:=fun {b m} ⟨o,es,ep,e,d,r⟩=>⟨o,es,ep,sW e (noD e (fun vs n z=>by rw [d] at z;cases z) fun vs z=>by rw [d] at z;cases z),d,r⟩;have hKb:K.In (xu s₁.heap H):=fun b o e=>sW (KX b o e) (by
  cases q:H b with
  | none=>rfl
  | some u=>
   rcases hH b u q with ⟨rfl,_⟩ | ⟨_,hk,_⟩
   ·rw [KT] at e;cases e
   ·rw [hk] at e;cases e)
 refine ⟨H,⟨fun b u e=>?_,fun b u e=>?_,if_pos rfl,?_,hC.tab hT,⟨hKb,nsK hns,⟨mb,nsK hb,hbb⟩,let ⟨mc,h1,h2⟩:=hlim;⟨mc,nsK h1,h2⟩⟩,?_⟩,fun x hx=>?_⟩
 ·rcases hH b u e with ⟨rfl,rfl⟩ | ⟨_,_,x,hx,rfl,rfl⟩
  ·exact hT
  ·obtain ⟨h1,h2,h3⟩:=hl x hx;exact ⟨h1,by rw [List.length_map];exact h3,x.2.1,_,nj h2,h1⟩
 ·rcases hH b u e with ⟨rfl,rfl⟩ | ⟨_,_,x,hx,rfl,rfl⟩
  ·exact .inr ⟨rfl,rfl⟩
  ·exact .inl ⟨_,_,rfl⟩
 ·obtain ⟨o,vs,file,tf,flags,tg,inF,text,tt,e1,r1,r2,r3,r4,r5,r6,r7,r8,hne⟩:=hC;refine ⟨o,vs,file,tf,flags,tg,inF,text,tt,sW e1 ?_,r1,r2,r3,r4,r5,r6,r7,r8,hne⟩;cases q:H c with
  | none=>rfl
  | some u=>
   rcases hH c u q with ⟨z,_⟩ | ⟨_,_,x,hx,z,_⟩
   ·exact absurd z hne
   ·have e2:=(hl x hx).1;rw [z,e1] at e2;cases e2;cases r2
 ·obtain ⟨bm,ob,b1,b2,b3,b4,b5,b6⟩:=hbm;exact ⟨bm,ob,b1,b2,sW b3 (noD b3 (fun vs n z=>by rw [b6] at z;cases z) fun vs z=>by rw [b6] at z;cases z),b4,b5,b6⟩
 ·obtain ⟨h1,h2,h3⟩:=hl x hx;cases hk:K.lookup x.1 with
  | some o=>
   have e:=KX _ o hk;rw [h1] at e;cases e;exact .inr ⟨_,x.2.1.toArray,_,hk,rfl,rfl,rfl,by rw [List.size_toArray,h2.length];exact h3,by simpa using nj h2⟩
  | none=>
   have xT:x.1≠T:=fun z=>by rw [z,hT] at h1;cases h1
   have e1:H x.1=(ls.find? fun y=>y.1==x.1).map fun x=>.Ek { cls:=.type "list",data:=.seq x.2.1.toArray } (.lst (x.2.2.map V.int)):=(if_neg xT).trans (if_pos hk);cases q:ls.find? fun y=>y.1==x.1 with
   | none=>exact absurd (List.find?_eq_none.mp q x hx) (by simp)
   | some y=>
    rw [q] at e1;have hy:y.1=x.1:=by simpa using List.find?_some q
    obtain ⟨g1,g2,_⟩:=hl y (List.mem_of_find?_eq_some q);rw [hy,h1] at g1;have ev:x.2.1=y.2.1:=by
     injection g1 with g1
     injection g1 with _ _ g1
     injection g1 with g1
     exact List.toArray_inj g1
    have ei:y.2.2=x.2.2:=by
     have a1:=nj g2;have a2:=nj h2;rw [←ev] at a1;have inj:∀ {us:List Value}{m n:List Int},IntsAre us m→IntsAre us n→m=n:=by
      intro us m n p
      induction p generalizing n with
      | nil=>intro q;cases q;rfl
      | cons a t r ih=>intro q;cases q with | cons _ _ q=>rw [ih q]
     rw [←ev] at g2;exact inj g2 h2
    exact .inl (.inr ⟨_,by rw [←ei];exact e1⟩)
theorem Lr {k:Nat}{fa c T:Addr}{fd:FuncData}{ps:List Str}{sp:Sp}{s₁:Shared}{H:Hp}{vals:List Value}{vs:List V}{Q:VK} (N:Entry P w K mg c T s₁ H) (hg:s₁.gens=#[]) (hr:dZ k callerA)
  (F:iR P w K mg (xu s₁.heap H) (bI P w) k fa fd ps sp) (hbind:BindsTo s₁ fd ⟨vals,[]⟩ (ps.zip vals)) (rv:Vals vs vals) (hsp:sp vs H Q E0) :
  codeAny (model P w) callerA (.call (.ref fa) ⟨vals,[]⟩) (fun r s'=>∃ u v H',r=.ok (.ret u)∧RelV v u∧Q v H'∧pB P w H' s'.heap∧OldK s₁.heap s'.heap∧s'.os=s₁.os∧AllBare s'.gens) s₁:=by
 have e0:Cz P w K mg (xu s₁.heap H) callerA [] s₁ H:=⟨rfl,N.mod,fun b o e=>VG e,Nat.le_of_eq (Oh _ _),trivial,fun b hb=>absurd (show b∈([]:List Addr) from hb) (by simp),N.hok,.of_eq hg⟩;refine codeAny_mono (F.run callerA [] s₁ H ⟨vals,[]⟩ vals vs Q E0 hr e0 hbind rv hsp) fun r s' h=>?_;cases r with
 | error e=>
  obtain ⟨_,_,_,_,_,_,_,f⟩:=h;exact f.wish.elim
 | ok fl=>
  cases fl with
  | next=>exact False.elim h
  | brk=>exact False.elim h
  | cont=>exact False.elim h
  | ret u=>
   obtain ⟨v,H',os,bare,un,hok',r',q⟩:=h;have at_:∀ b o,s₁.heap.get? b=some o→b≠T→s'.heap.get? b=some o:=fun b o e hb=>by
    cases q:H b with
    | none=>exact un.keep b o e q (by intro z;exact absurd (show b∈([]:List Addr) from z) (by simp)) (by simp)
    | some x=>
     rcases N.only b x q with ⟨ob,y,rfl⟩ | ⟨z,_⟩
     ·have z2:=un.pC b ob _ q;obtain ⟨e1,_⟩:=N.hok b _ q;obtain ⟨e2,_⟩:=hok' b _ z2;rw [e] at e1;cases e1;exact e2
     ·exact absurd z hb
   obtain ⟨more,hT'⟩:=un.pD T _ N.tab;have eT:s'.heap.get? T=some { cls:=.none,data:=.fields (#[]++more) }:=hok' T _ hT';refine ⟨u,v,H',rfl,r',q,hok',⟨fun b o e=>?_,fun b o e=>?_⟩,os,bare⟩
   ·by_cases hb:b=T
    ·subst hb;have e₀:o={ cls:=.none,data:=.fields #[] }:=Option.some.inj (e.symm.trans N.hdT.2);subst e₀;exact .inr (.inl ⟨N.hdT.isCodeTable,rfl,#[],more,rfl,eT⟩)
    ·exact .inl (at_ b o e hb)
   ·by_cases hb:b=T
    ·rw [hb];exact ⟨_,eT⟩
    ·exact ⟨o,at_ b o e hb⟩
end
theorem z7 {R:PySem.W.WRecords}{cl:Str→Option Addr}{h:Heap}:∀ {l:List Int}{its:List Value},Vals (iV l) its→PySem.W.ReadsAllW R cl h its (l.map PySem.W.WData.int) []
 | [],_,.nil=>.nil
 | i::l,_,.cons r t=>by
  obtain ⟨k,rfl⟩:=r;exact PySem.W.ReadsAllW.cons (as:=[]) (bs:=[]) (.int i k) (z7 t)
theorem Cj {P:Params}{h:Heap}{v:Value}{ns:List Int} (x:PySem.W.Well P h v (.list (ns.map PySem.W.WData.int))):∃ a vs,v=.ref a∧h.get? a=some { cls:=.type "list",data:=.seq vs.toArray }∧IntsAre vs ns:=by
 cases x with
 | list ho hall=>exact ⟨_,_,rfl,ho,Att.wj ns _ hall⟩
theorem Ir {P:Params}{h:Heap}{v:Value}{i:Int} (x:PySem.W.Well P h v (.int i)):∃ t,v=.int i t:=by
 cases x with
 | int _ t=>exact ⟨t,rfl⟩
theorem Qz {r:PySem.W.OpenSpec}{cl:Str→Option Addr}{mean:ExcName→Option Value}{args:List PySem.W.WData}{s₁ s':Shared}{P:Program}{w:World}{H':Hp}{l:Addr}{res:List Int} (hok:pB P w H' s'.heap) (hl:H' l=some (.lst (iV res)))
  (hp:r.claim.post args (.list (res.map PySem.W.WData.int)) args=true) (h1:OldK s₁.heap s'.heap) (h2:s'.os=s₁.os) (h3:AllBare s'.gens):PySem.W.GoodWG r.claim cl mean args s₁ (.ok (.ret (.ref l))) s':=by
 obtain ⟨_,its,n,rv,e⟩:=hok l _ hl;exact ⟨.inl ⟨_,_,_,rfl,fun _=>rfl,.list e rfl rfl (by simpa using z7 rv),hp,fun z=>absurd (show false=true from z) Bool.false_ne_true⟩,h1,h2,h3⟩
end Pg
end
section
set_option linter.all false
set_option maxRecDepth 100000
set_option maxHeartbeats 4000000
namespace Pg
open PySem PySem.Spec PyProof.Rows L2 Xc Sp
theorem Vq {K:PySem.W.Frag}{H:Hp}{T la:Addr}{ps qs:Array Value}{xs:List V} (hT:H T=some (.uF ps)) (h:bO K H la xs):bO K (upd H T (.uF qs)) la xs:=by
 rcases h with (h | ⟨o,h⟩) | h
 ·exact .inl (.inl (by rw [ak (lN h hT (by intro z;cases z))];exact h))
 ·exact .inl (.inr ⟨o,by rw [ak (lN h hT (by intro z;cases z))];exact h⟩)
 ·exact .inr h
theorem Oc (l:List Int) (h:∀ x∈l,0≤x):l.map V.int=nV (l.map Int.toNat):=by
 unfold nV;rw [List.map_map];refine List.map_congr_left fun x hx=>?_;show V.int x=V.int ((x.toNat:Nat):Int);rw [Int.toNat_of_nonneg (h x hx)]
section
variable {P:Program}{w:World}{K:PySem.W.Frag}{mg:Str→Option Value}{base:Heap}{cs:Cs}
theorem acI {x:Str}{f c:Addr}{oc:Value}{od:Option Addr}{fd:FuncData}{sl:Array (Option Value)} (h1:PySem.W.nsIn K mainGlobals x=some (some (.ref f))) (h2:K.lookup f=some ⟨oc,od,.func fd,sl⟩) (h3:fd.code=.ref c) (h4:(PySem.W.tabIn K x).isSome=true):∃ T,PySem.W.tabIn K x=some (c,T):=by
 obtain ⟨⟨c',T⟩,e⟩:=Option.isSome_iff_exists.mp h4;refine ⟨T,?_⟩;rw [e];unfold PySem.W.tabIn at e;simp only [h1,h2,h3] at e;split at e
 ·split at e
  ·cases e;rfl
  ·cases e
 ·cases e
structure Od (K:PySem.W.Frag) (mg:Str→Option Value) (x:Str) (st:Stmt):Prop where
 ex:∃ (f c:Addr) (oc kV doc pm ct:Value) (od an:Option Addr) (osl:Array (Option Value)),PySem.W.nsIn K mainGlobals x=some (some (.ref f))∧mg x=some (.ref f) ∧
  K.lookup f=some ⟨oc,od,.func (PySem.W.fnOf x x (dO st) (cM st) (au st) .none kV doc pm an (.ref c) ct),osl⟩∧PySem.W.codeIn K (.ref c) x=true
theorem XC {h:Heap}{x:Str}{st:Stmt} (X:K.In h) (G:h.Ns mainGlobals mg) {f c:Addr}{oc kV doc pm ct:Value}{od an:Option Addr}{osl:Array (Option Value)} (m:PySem.W.nsIn K mainGlobals x=some (some (.ref f)))
  (l:K.lookup f=some ⟨oc,od,.func (PySem.W.fnOf x x (dO st) (cM st) (au st) .none kV doc pm an (.ref c) ct),osl⟩) (k:PySem.W.codeIn K (.ref c) x=true):Od K mg x st:=
 ⟨f,c,oc,kV,doc,pm,ct,od,an,osl,m,PySem.W.mg_of X G m,l,k⟩
theorem Vr {mb:Str→Option Value}{s₁:Shared}{fa:Addr}{p:Program}{loose:List Str}{mean:ExcName→Option Value}{x:Str}{st:Stmt}{ps:List Str}{sp:Addr→Sp}{ls:List (Addr×List Value×List Int)}{vs:List V}{vals:List Value}{res:List Int} (KX:K.In s₁.heap) (T:Top p loose mean mg mb s₁.heap) (hmg:mg x=some (.ref fa)) (hg:s₁.gens=#[])
  (hrec:((recsOf p).find? (fun e=>e.name==x)).isSome=true) (ht:(PySem.W.tabIn K x).isSome=true) (hK:PySem.W.noTabs K=true) (C:Od K mg x st) (hl:∀ y∈ls,s₁.heap.get? y.1=some { cls:=.type "list",data:=.seq y.2.1.toArray }∧IntsAre y.2.1 y.2.2∧y.2.2.length≤600) (rv:Vals vs vals)
  (F:∀ (c T:Addr) (oc kV doc pm ct:Value) (od an:Option Addr) (osl:Array (Option Value)) (base:Heap),K.lookup fa=some ⟨oc,od,.func (PySem.W.fnOf x x (dO st) (cM st) (au st) .none kV doc pm an (.ref c) ct),osl⟩→PySem.W.codeIn K (.ref c) x=true→PySem.W.CodeHd base c T→BMain mg base →
   iR P w K mg base (bI P w) 12 fa (PySem.W.fnOf x x (dO st) (cM st) (au st) .none kV doc pm an (.ref c) ct) ps (sp T))
  (hb:∀ (c:Addr) (kV doc pm ct:Value) (an:Option Addr),BindsTo s₁ (PySem.W.fnOf x x (dO st) (cM st) (au st) .none kV doc pm an (.ref c) ct) ⟨vals,[]⟩ (ps.zip vals))
  (hsp:∀ (T:Addr) (H:Hp),H T=some (.uF #[])→(∀ y∈ls,bO K H y.1 (y.2.2.map V.int))→sp T vs H (fun v H'=>∃ l,v=.ref l∧H' l=some (.lst (iV res))) E0) :
  codeAny (model P w) callerA (.call (.ref fa) ⟨vals,[]⟩) (fun r s'=>∃ l H',r=.ok (.ret (.ref l))∧H' l=some (.lst (iV res))∧pB P w H' s'.heap∧OldK s₁.heap s'.heap∧s'.os=s₁.os∧AllBare s'.gens) s₁:=by
 obtain ⟨f,c,oc,kV,doc,pm,ct,od,an,osl,e1,e2,lk,hcd⟩:=C.ex;rw [hmg] at e2;cases e2;obtain ⟨Tb,htab⟩:=acI e1 lk rfl ht;obtain ⟨d,hrec⟩:=Option.isSome_iff_exists.mp hrec;obtain ⟨hC,hT⟩:=PySem.W.tab_of T KX hrec htab;obtain ⟨H,N,W0⟩:=Vp (P:=P) (w:=w) (ls:=ls) KX T.g T.b T.builtins T.nolimit T.bmain hC hT hK fun y hy=>⟨(hl y hy).1,(hl y hy).2.1,Nat.le_trans (hl y hy).2.2 (by decide)⟩;refine codeAny_mono (Lr (Q:=fun v H'=>∃ l,v=.ref l∧H' l=some (.lst (iV res))) (vs:=vs) N hg ⟨rfl,by decide,by decide⟩ (F c Tb oc kV doc pm ct od an osl _ lk hcd N.hd N.bm) (hb c kV doc pm ct an) rv (hsp Tb H N.tab W0)) fun r s' h=>?_;obtain ⟨u,v,H',rfl,rv,⟨l,rfl,hl⟩,hok,h1,h2,h3⟩:=h;obtain rfl:u=Value.ref l:=rv;exact ⟨l,H',rfl,hl,hok,h1,h2,h3⟩
end
end Pg
end
section
set_option linter.all false
set_option maxRecDepth 100000
set_option maxHeartbeats 4000000
namespace Pg
open PySem PySem.Spec PyProof.Rows L2 Xc Sp
theorem Ls {cl:List (Str×Addr)} (h:(cl.map (·.2)).Nodup) {x y:Str}{c:Addr} (a:cl.lookup x=some c) (b:cl.lookup y=some c):x=y:=by
 have ha:=PySem.mem_of_lookup a;have hb:=PySem.mem_of_lookup b;clear a b
 induction cl with
 | nil=>simp at ha
 | cons p r ih=>
  rw [List.map_cons,List.nodup_cons] at h;have no:∀ z:Str,(z,c)∈r→p.2≠c:=fun z hz e=>h.1 (List.mem_map.mpr ⟨_,hz,e.symm⟩);rcases List.mem_cons.mp ha with ha | ha <;> rcases List.mem_cons.mp hb with hb | hb
  ·rw [←ha] at hb;exact (Prod.mk.inj hb).1.symm
  ·exact absurd (by rw [←ha]) (no y hb)
  ·exact absurd (by rw [←hb]) (no x ha)
  ·exact ih h.2 ha hb
section
variable {P:Program}{w:World}{K:PySem.W.Frag}{mg:Str→Option Value}{base:Heap}{cs:Cs}
theorem XD {k:Nat}{qual:Str}{scope:Scope}{f:Addr}{cl:List (Str×Addr)}{params:Arguments}{body:Expr}{x0:Str}{fr:List Str}{vals:List V}{sp:Sp}{env:Env}{N:List Str}{σ:L2.St} (L:Nf base f qual params body scope cl) (ci:DP env N σ base) (hco:scope.isCoroutine=false) (hgen:scope.isGenerator=false) (hk:scope.kind=.function)
  (hcell:∀ x∈scope.names,x.2≠.cell) (hx0:scope.names.lookup x0=some .local) (hbind:∀ (pm ctv u:Value) (c':Addr),bindArgs (PySem.W.kla_fn "<lambda>" qual params body scope cl pm (.ref c') ctv) ⟨[u],[]⟩=pure [(x0,u)])
  (hnd:(cl.map (·.2)).Nodup) (hin:∀ p∈cl,env.cells.lookup p.1=some p.2) (hfree:∀ x,scope.names.lookup x=some .free→∃ c,cl.lookup x=some c) (hlen:fr.length=vals.length)
  (hfr:∀ (i:Nat) (x:Str) (v:V),fr[i]?=some x→vals[i]?=some v→∃ j:Nat,N[j]?=some x∧σ[j]?=some (some v)∧env.scope.names.lookup x=some .cell∧scope.names.lookup x=some .free)
  (hbody:∀ (A:Around) (outer:List Env) (s:Shared) (H:Hp) (cd:Value) (v:V) (Q:VK) (E:XK),dZ k (A.deeper (PySem.W.envX qual scope s.heap.objs.size f cd cl))→sp [v] H Q E →
   ∃ t,PE (zE P w K mg base (x0::fr) qual scope f cd cl A outer s H E) body t∧t (some v::vals.map some) H Q):Ng P w K mg base (k+1) f sp:=by
 refine ZX L hco hgen hk hcell hx0 hbind (fun x y c a b=>Ls hnd a b) hfree (fun x c e=>ci.cell x c (hin _ (PySem.mem_of_lookup e))) hlen (fun i x v e e'=>?_) hbody;obtain ⟨j,h1,h2,h3,h4⟩:=hfr i x v e e';obtain ⟨c,u,hc,hz,r⟩:=ci.val j x v h1 h2 h3;obtain ⟨c',hc'⟩:=hfree x h4;have:=hin _ (PySem.mem_of_lookup hc');rw [hc] at this;cases this;exact ⟨h4,_,u,hc',hz,r⟩
end
end Pg
end
section
set_option linter.all false
set_option maxRecDepth 100000
set_option maxHeartbeats 4000000
namespace Pg
open PySem PySem.Spec PyProof.Rows L2 Xc Sp
structure aaq (p:Nat) (B:Bk):Prop where
 ok:B.Ok
 sz:Sz B
 pr:Rb35.prime p=true
 le:p≤1000
 nar:Narrow p B.ns
 wid:∀ n∈B.ns,n.2.length≤24
 lv:∀ x∈B.ls,(Rb35.leaves (den B.P B.ns x.2)).length≤24
def sU (K:PySem.W.Frag) (cs:Cs) (tm:Addr):Sp:=fun vs H Q E=>∃ (b:Addr) (A:dY) (p:Nat) (B:Bk) (i m:Int) (pl:Addr) (w:List Nat),vs=[.ref b,.int i,.int m,.ref pl]∧aV cs H b A p B∧aaq p B∧bO K H pl (nV w)∧w.length≤600 ∧
 (∀ (k:Nat) (H':Hp),0≤i→(B.ls.map (·.2))[i.toNat]?=some k→0≤m→m.toNat < 2 ^ B.P→Rb35.fits p (theirs m.toNat (Rb35.leaves (den B.P B.ns k))).length w=true→Same H H'→Q (.int (Kv p (den B.P B.ns k) (dH m.toNat (Rb35.leaves (den B.P B.ns k)) w))) H') ∧
 (∀ k:Nat,0≤i→(B.ls.map (·.2))[i.toNat]?=some k→0≤m→m.toNat < 2 ^ B.P→¬ Rb35.fits p (theirs m.toNat (Rb35.leaves (den B.P B.ns k))).length w=true→uE E tm (-3))∧(¬ (0≤i∧i.toNat < B.ls.length)→uE E cs.mH (-2))∧(¬ (0≤m∧m.toNat < 2 ^ B.P)→uE E cs.mH (-2))
def jt (i m:Int) (bs w:List Nat):List Int:=if 64 < w.length then [-2] else match Rb35.taken bs with
 | .bad v=>[v]
 | .good G=>match Rb35.formAt G i with
  | none=>[-2]
  | some f=>if Rb35.some_of G m=true then (if Rb35.fits G.p (theirs m.toNat (Rb35.leaves f)).length w=true then [Kv G.p f (dH m.toNat (Rb35.leaves f) w)] else [-3]) else [-2]
def Iu (K:PySem.W.Frag) (T:Addr):Sp:=fun vs H Q _=>∃ (la lc:Addr) (bs w:List Nat) (i m:Int),vs=[.int i,.int m,.ref la,.ref lc]∧bO K H la (nV bs)∧(∀ b∈bs,b < 256)∧bs.length≤9000∧bO K H lc (nV w)∧w.length≤600∧H T=some (.uF #[])∧∀ l H',H' l=some (.lst (iV (jt i m bs w)))→Q (.ref l) H'
def QB (K:PySem.W.Frag) (cs:Cs) (tm lc:Addr) (w:List Nat) (i m:Int):Sp:=fun vs H Q E=>∃ (b:Addr) (A:dY) (p:Nat) (B:Bk),vs=[.ref b]∧aV cs H b A p B∧aaq p B∧bO K H lc (nV w)∧w.length≤600 ∧
 (∀ (k:Nat) (H':Hp) (l:Addr),0≤i→(B.ls.map (·.2))[i.toNat]?=some k→0≤m→m.toNat < 2 ^ B.P→Rb35.fits p (theirs m.toNat (Rb35.leaves (den B.P B.ns k))).length w=true→H' l=some (.lst [.int (Kv p (den B.P B.ns k) (dH m.toNat (Rb35.leaves (den B.P B.ns k)) w))])→Q (.ref l) H') ∧
 (∀ k:Nat,0≤i→(B.ls.map (·.2))[i.toNat]?=some k→0≤m→m.toNat < 2 ^ B.P→¬ Rb35.fits p (theirs m.toNat (Rb35.leaves (den B.P B.ns k))).length w=true→uE E tm (-3))∧(¬ (0≤i∧i.toNat < B.ls.length)→uE E cs.mH (-2))∧(¬ (0≤m∧m.toNat < 2 ^ B.P)→uE E cs.mH (-2))
section
variable {P:Program}{w:World}{K:PySem.W.Frag}{mg:Str→Option Value}{base:Heap}{cs:Cs}{tm:Addr}
theorem v9:aH ["book","form","who","parts","formula"] ["book","form","who","parts"] (au jV):=⟨rfl,rfl,rfl,by decide +kernel,rfl,by decide +kernel,by decide +kernel⟩
theorem Iv (T:bJ K mg "opened_by" jV) (FO:aX P w K mg base 4 "formula_of" ["book","form"] (Uv cs)) (KP:aX P w K mg base 4 "keep_people" ["book","who"] (Vc cs)) (OP:aX P w K mg base 5 "opened" ["book","formula","who","parts"] (Il K cs tm)) :
  aX P w K mg base 6 "opened_by" ["book","form","who","parts"] (sU K cs tm):=by
 obtain ⟨f,fd,F,hm⟩:=T.ex;refine ⟨f,fd,hm,F.kp,F.binds (fun _ _ _ _ _ _ us hl=>match us,hl with | [_,_,_,_],_=>rfl),Bs F v9 (fun vs H Q E h=>?_) (fun cdv A outer s0 H vs Q E hr h=>?_)⟩
 ·obtain ⟨b,A,p,B,i,m,pl,w,rfl,_⟩:=h;rfl
 ·obtain ⟨b,Ad,p,B,i,m,pl,w,rfl,R,rd,hpl,hw6,kq,kx,ky,kz⟩:=h;refine ⟨_,aq (aZ (i:=4) v9.nd rfl (Or.inl rfl) (bM (FO.mono (by decide:4≤5)) hr rfl bh (aj (pv 0) (aj (pv 1) aA))))
   (aq (aN (bM (KP.mono (by decide:4≤5)) hr rfl bh (aj (pv 0) (aj (pv 2) aA))))
   (aC (bf (bM OP hr rfl bh (aj (pv 0) (aj (pv 4) (aj (pv 2) (aj (pv 3) aA)))))))),?_⟩
  refine ⟨_,rfl,_,rfl,b,Ad,p,B,i,rfl,R,fun k h0 hk=>?_,ky⟩;refine ⟨_,rfl,_,rfl,b,Ad,p,B,m,rfl,R,fun h1 h2=>?_,kz⟩;obtain ⟨n,rfl⟩:=Int.eq_ofNat_of_zero_le h1;obtain ⟨x,hx,ex⟩:=List.mem_map.mp (List.mem_of_getElem? hk);have hlt:k < B.P+B.ns.length:=by rw [←ex];exact rd.ok.lt x hx
  have uw:(Rb35.leaves (den B.P B.ns k)).length≤24:=by rw [←ex];exact rd.lv x hx
  exact ⟨_,rfl,_,rfl,_,rfl,_,rfl,b,Ad,p,B,k,n,pl,w,rfl,R,rd.ok.good,rd.sz,hlt,uw,rd.nar,rd.wid,rd.pr,rd.le,hpl,hw6,fun hf H' s1=>kq k H' h0 hk h1 h2 hf s1,fun hf=>kx k h0 hk h1 h2 hf⟩
theorem QC:aH ["form","who","text","parts"] ["form","who","text","parts"] (au eV):=⟨rfl,rfl,rfl,by decide +kernel,rfl,by decide +kernel,by decide +kernel⟩
theorem QD {fa fA c T tm:Addr}{fdA:FuncData}{oc kV doc pm ct:Value}{od an:Option Addr}{osl:Array (Option Value)}
  (lk:K.lookup fa=some ⟨oc,od,.func (PySem.W.fnOf "open_by" "open_by" (dO eV) (cM eV) (au eV) .none kV doc pm an (.ref c) ct),osl⟩) (hcd:PySem.W.codeIn K (.ref c) "open_by"=true)
  (FA:Jy K "answered" "answered" bG fA fdA) (hmA:mg "answered"=some (.ref fA)) (B:Base K mg cs) (X:Qn K mg "WrongNumbers" "WrongNumbers.__init__" cO tm) (hM:∃ t,mg "MOST_NUMBERS"=some (.int 64 t)) (OB:∀ base',aX P w K mg base' 6 "opened_by" ["book","form","who","parts"] (sU K cs tm)) (C:PySem.W.CodeHd base c T) (hbm:BMain mg base) :
  iR P w K mg base (bI P w) 12 fa (PySem.W.fnOf "open_by" "open_by" (dO eV) (cM eV) (au eV) .none kV doc pm an (.ref c) ct) ["form","who","text","parts"] (Iu K T):=by
 have bA:Binds K fdA ["in_range","text","ask"] []:=FA.binds (fun _ _ _ _ _ _ us hl=>match us,hl with | [_,_,_],_=>rfl);obtain ⟨tM,hM⟩:=hM;refine Rp lk hcd QC (fun vs H Q E h=>?_) fun A outer s0 H vs Q E hr h=>?_
 ·obtain ⟨la,lc,bs,r,i,m,rfl,_⟩:=h;rfl
 ·obtain ⟨la,lc,bs,r,i,m,rfl,hla,hbs,hlb,hlc,hr6,hT,kq⟩:=h;refine ⟨_,aC (bf (Xh (sp:=zF P w K mg cs 10) (fun base'=>Hx (Nat.le_refl _) FA B.excs.mref B.excs B.cat (B.book P w base')) bA hr rfl hmA FA.kp (d9 Ma (aU aO (by rfl) B.len PySem.boot_len (aj (pv 3) aA)) (bF (v:=.int 64) (by rfl) hM ⟨tM,rfl⟩) (aY _)) (pv 2) (fun _=>rfl) rfl C hbm (by rfl) (by rfl))),?_⟩;refine ⟨_,rfl,_,_,rfl,.inl hlc,_,_,rfl,rfl,_,rfl,#[],hT,trivial,rfl,fun more base' f L ci=>?_⟩;refine ⟨decide (((nV r).length:Int)≤64),la,f,QB K cs tm lc r i m,bs,rfl,?_,Vq hT hla,hbs,hlb,fun z l H' hl=>kq l H' ?_,fun z v hv l H' hl=>kq l H' ?_,fun z G b Ab Yl H' e1 e2 e3 e4 e5 e6 e7 e8=>?_⟩
  ·refine XD (x0:="book") (fr:=["form","who","parts"]) (vals:=[.int i,.int m,.ref lc]) L ci rfl rfl rfl (by decide +kernel) rfl (fun _ _ _ _=>rfl) (by simp <;> omega) (fun p hp=>?_) (fun x hx=>?_) rfl (fun j x v e e'=>?_) fun A' ae2 s' H' cd v Q' E' hr' h'=>?_
   ·simp only [List.mem_cons,List.not_mem_nil,or_false] at hp;rcases hp with rfl | rfl | rfl <;> rfl
   ·have:=PySem.mem_of_lookup hx;simp only [List.mem_cons,List.not_mem_nil,or_false,Prod.mk.injEq,reduceCtorEq,and_false,and_true,false_or] at this;rcases this with rfl | rfl | rfl <;> exact ⟨_,rfl⟩
   ·match j,e,e' with
    | 0,rfl,rfl=>exact ⟨0,rfl,rfl,rfl,rfl⟩
    | 1,rfl,rfl=>exact ⟨1,rfl,rfl,rfl,rfl⟩
    | 2,rfl,rfl=>exact ⟨3,rfl,rfl,rfl,rfl⟩
    | j+3,e,_=>simp at e
   ·obtain ⟨b,Ab,p,Yl,hv,Rb,rd,ae3,ae4,kq',kx,ky,kz⟩:=h';cases hv;refine ⟨_,fL (aj (bM ((OB base').mono (by decide:6≤9)) hr' rfl Ut (aj (pv 0) (aj (pv 1) (aj (pv 2) (aj (pv 3) aA))))) aA),?_⟩;exact ⟨_,rfl,_,rfl,_,rfl,_,rfl,b,Ab,p,Yl,i,m,lc,r,rfl,Rb,rd,ae3,ae4,fun k H1 h0 hk h1 h2 hf s1=>⟨by show 1≤sizeLine;decide,fun l hl=>kq' k _ l h0 hk h1 h2 hf ao⟩,kx,ky,kz⟩
  ·have h1:=of_decide_eq_false z;rw [aK] at h1;unfold jt;rw [if_pos (by omega),hl];rfl
  ·have h1:=of_decide_eq_true z;rw [aK] at h1;unfold jt;rw [if_neg (by omega),hv];exact hl
  ·have h1:=of_decide_eq_true z;rw [aK] at h1;have hsm:Rb35.small ⟨G.p,Yl.people,Yl.known.lets⟩=true:=by
    have:G=⟨G.p,Yl.people,Yl.known.lets⟩:=by rw [←e5,←e6]
    rw [this] at e7;exact e7
   obtain ⟨f1,f2⟩:=vZ e1;obtain ⟨_,_,g3,g4⟩:=(Bp e3 _).mp hsm;have rd:aaq G.p Yl:=⟨e3,e4,f2,by omega,g3,acy e3.good fun j hj=>e3.cov.places 24 (fun k hk=>by
    obtain ⟨x,hx,rfl⟩:=List.mem_map.mp hk;exact g4 x hx) hj,g4⟩
   have hS:=some_at (m:=m) e5;have hn:¬ 64 < r.length:=by omega
   refine ⟨b,Ab,_,Yl,rfl,e2,rd,zG e8 (Vq hT hlc),hr6,fun k H'' l h0 hk h1 h2 hf hl=>kq l H'' ?_,fun k h0 hk h1 h2 hf=>kE (X.sub B.excs) X.gx X.nn fun l H'' hl=>kq l H'' ?_,fun h=>kE B.cat.Z2 B.cat.Z4 B.excs.Wz fun l H'' hl=>kq l H'' ?_,fun h=>kE B.cat.Z2 B.cat.Z4 B.excs.Wz fun l H'' hl=>kq l H'' ?_⟩
   ·unfold jt;rw [if_neg hn,e1];dsimp only;rw [NQ e6 h0 hk];dsimp only;rw [if_pos (hS.mpr ⟨h1,h2⟩),if_pos hf,hl];rfl
   ·unfold jt;rw [if_neg hn,e1];dsimp only;rw [NQ e6 h0 hk];dsimp only;rw [if_pos (hS.mpr ⟨h1,h2⟩),if_neg hf,hl];rfl
   ·unfold jt;rw [if_neg hn,e1];dsimp only;rw [Xv e6 h,hl];rfl
   ·unfold jt;rw [if_neg hn,e1,hl];dsimp only;have hno:¬ Rb35.some_of G m=true:=fun z=>h (hS.mp z);cases q:Rb35.formAt G i with
    | none=>rfl
    | some f=>
     dsimp only;rw [if_neg hno];rfl
theorem QF {l:List Int} (h:Rb35Neutral.few (l.length:Int) l=true):(∀ x∈l,0≤x)∧l.length≤64:=by
 unfold Rb35Neutral.few at h;simp only [Bool.and_eq_true,decide_eq_true_eq,List.all_eq_true] at h;obtain ⟨_,h2,h3⟩:=h;refine ⟨fun x hx=>?_,?_⟩
 ·have:=h2 x hx;unfold Rb35Neutral.natural at this;simp only [Bool.and_eq_true,decide_eq_true_eq] at this;exact this.1
 ·split at h3 <;> omega
theorem Iw (i m:Int) (text parts:List Int) (h:PyRb35.open_by_asked i m text parts=true):jt i m (text.map Int.toNat) (parts.map Int.toNat)=PyRb35.open_by i m text parts∧(∀ b∈text.map Int.toNat,b < 256)∧text.length≤600∧(∀ x∈text,0≤x)∧(∀ x∈parts,0≤x)∧parts.length≤64:=by
 have h1:(Rb35Neutral.text (text.length:Int) text&&(Rb35Neutral.whole32 i&&(Rb35Neutral.whole32 m&&(Rb35Neutral.few (parts.length:Int) parts&&Rb35Neutral.small text i false))))=true:=h;obtain ⟨a1,a2,a3,hr⟩:=K5 (Bool.and_eq_true_iff.mp h1).1;obtain ⟨c1,c3⟩:=QF (Bool.and_eq_true_iff.mp (Bool.and_eq_true_iff.mp (Bool.and_eq_true_iff.mp (Bool.and_eq_true_iff.mp h1).2).2).2).1;refine ⟨?_,a1,a2,a3,c1,c3⟩;show jt i m (Rb35Neutral.nats text) (Rb35Neutral.nats parts)=(Rb35.answer (.opens (Rb35Neutral.nats text) (text.length:Int) i m (Rb35Neutral.nats parts) (parts.length:Int))).v::((Rb35.answer (.opens (Rb35Neutral.nats text) (text.length:Int) i m (Rb35Neutral.nats parts) (parts.length:Int))).l.map fun (x:Nat)=>(x:Int));have hcl:(Rb35Neutral.nats parts).length=parts.length:=List.length_map _;have hir:Rb35.inRange 0 (parts.length:Int) 64=true:=by
  unfold Rb35.inRange;simp only [Bool.and_eq_true,decide_eq_true_eq];omega
 unfold jt Rb35.answer Rb35.begun;dsimp only;rw [if_neg (by omega),if_pos (by rw [hr,hir];rfl)];cases q0:Rb35.taken (Rb35Neutral.nats text) with
 | bad v=>rfl
 | good G=>
  have f2:=(vZ q0).2;unfold Rb35.asks;dsimp only;have qq:Rb35.formAt G i=none∨∃ f,Rb35.formAt G i=some f:=by
   cases Rb35.formAt G i with
   | none=>exact .inl rfl
   | some f=>exact .inr ⟨f,rfl⟩
  rcases qq with q | ⟨f,q⟩
  ·have:([i].any fun (i:Int)=>(Rb35.formAt G i).isNone)=true:=by simp [q]
   rw [if_pos this];simp only [q];rfl
  ·have:¬ ([i].any fun (i:Int)=>(Rb35.formAt G i).isNone)=true:=by simp [q]
   rw [if_neg this];simp only [q,Option.getD_some];have hsn:(Rb35.seen m.toNat f (Rb35.leaves f)).length=(theirs m.toNat (Rb35.leaves f)).length:=congrArg List.length (Ci m.toNat (Rb35.leaves f));rw [hsn];by_cases hs:Rb35.some_of G m=true
   ·have hs':¬ Rb35.some_of G m=false:=by rw [hs];decide
    rw [if_pos hs,if_neg hs'];by_cases hf:Rb35.fits G.p (theirs m.toNat (Rb35.leaves f)).length (Rb35Neutral.nats parts)=true
    ·have hf':¬ Rb35.fits G.p (theirs m.toNat (Rb35.leaves f)).length (Rb35Neutral.nats parts)=false:=by rw [hf];decide
     rw [if_pos hf,if_neg hf'];obtain ⟨g1,g2⟩:=Im hf;rw [Eb f2 (K6 q0 q).1 g1 g2];rfl
    ·have hf':Rb35.fits G.p (theirs m.toNat (Rb35.leaves f)).length (Rb35Neutral.nats parts)=false:=by simpa using hf
     rw [if_neg hf,if_pos hf'];rfl
   ·have hs':Rb35.some_of G m=false:=by simpa using hs
    rw [if_neg hs,if_pos hs'];rfl
theorem Ax {mb:Str→Option Value}{s₁:Shared}{fa a a2 tm:Addr}{p:Program}{loose:List Str}{mean:ExcName→Option Value}{vs vs2:List Value}{i m:Int}{ti t2:PySem.Tok}{ns Ym:List Int} (KX:K.In s₁.heap) (T:Top p loose mean mg mb s₁.heap) (hmg:mg "open_by"=some (.ref fa)) (hg:s₁.gens=#[])
  (hrec:((recsOf p).find? (fun e=>e.name==("open_by":Str))).isSome=true) (ht:(PySem.W.tabIn K "open_by").isSome=true) (hK:PySem.W.noTabs K=true) (B:Base K mg cs) (C:Od K mg "open_by" eV) (X:Qn K mg "WrongNumbers" "WrongNumbers.__init__" cO tm) (hNO:∃ t,mg "NO_SECRET"=some (.int (-4) t)) (U8:∃ t,mg "MANY_SECRETS"=some (.int (-6) t)) (hM:∃ t,mg "MOST_NUMBERS"=some (.int 64 t)) (hen:mg "enumerate"=none)
  (M1:∃ C,mg "Book"=some (.ref C)∧gq K C "is_person" "Book.is_person" fJ) (M2:∃ C,mg "Book"=some (.ref C)∧gq K C "node_of" "Book.node_of" gJ) (FA:bJ K mg "answered" bG)
  (G1:bJ K mg "opened_by" jV) (G2:bJ K mg "opened" nG) (G3:bJ K mg "held_by" oG) (G4:bJ K mg "found_of" lY) (G5:bJ K mg "found_of_node" cV) (G6:bJ K mg "value_through" cG) (G7:bJ K mg "product" oE) (G8:bJ K mg "inverse" oF) (G9:bJ K mg "steps_of" lX) (GA:bJ K mg "owners_of" iw) (GB:bJ K mg "keep_numbers" eY) (GC:bJ K mg "keep_people" iC) (GD:bJ K mg "formula_of" jm)
  (ha:s₁.heap.get? a=some { cls:=.type "list",data:=.seq vs.toArray }) (hi:IntsAre vs ns) (ha2:s₁.heap.get? a2=some { cls:=.type "list",data:=.seq vs2.toArray }) (hi2:IntsAre vs2 Ym) (aas:PyRb35.open_by_asked i m ns Ym=true) :
  codeAny (model P w) callerA (.call (.ref fa) ⟨[.int i ti,.int m t2,.ref a,.ref a2],[]⟩) (fun r s'=>∃ l H',r=.ok (.ret (.ref l))∧H' l=some (.lst (iV (PyRb35.open_by i m ns Ym)))∧pB P w H' s'.heap∧OldK s₁.heap s'.heap∧s'.os=s₁.os∧AllBare s'.gens) s₁:=by
 obtain ⟨due,hbs,hlen,hpos,acK,hlen2⟩:=Iw i m ns Ym aas;obtain ⟨fA,fdA,FA,hmA⟩:=FA.ex;have OB:∀ base',aX P w K mg base' 6 "opened_by" ["book","form","who","parts"] (sU K cs tm):=fun base'=>by
  have IP:=Z6 (P:=P) (w:=w) (mg:=mg) (base:=base') (B.met M1) B.gO B.naB B.len;have NO:=Qp (P:=P) (w:=w) (mg:=mg) (base:=base') (B.met M2) B.gO B.naB B.len;have ST:=U9 G9 B.gO B.naB B.T4 B.T5 B.len IP NO;have VT:=aad (P:=P) (w:=w) (base:=base') G6 (Xo G7) (aac G8);have FO:=Va G4 B.gO B.naB B.T4 B.T5 B.len ST IP NO (U7 G5 hNO U8 hen B.len B.any VT);exact Iv G1 (Xj GD B.gO B.naB B.len (jq B.excs)) (Xx GC B.gO B.naB B.len (jq B.excs)) (Qy G2 B.len (Qw GA B.gO ST IP) (Uy GB B.gO B.naB B.len B.any (Ux B.excs X)) (Xu G3 U8) FO)
 refine Vr (sp:=Iu K) (ls:=[(a,vs,ns),(a2,vs2,Ym)]) (vs:=[.int i,.int m,.ref a,.ref a2]) KX T hmg hg hrec ht hK C (fun y hy=>?_) (.cons ⟨_,rfl⟩ (.cons ⟨_,rfl⟩ (.cons rfl (.cons rfl .nil)))) (fun c T oc kV doc pm ct od an osl base lk hcd hC hbm=>QD lk hcd FA hmA B X hM OB hC hbm) (fun _ _ _ _ _ _=>.of_eq rfl) fun T H hT W0=>?_
 ·rcases List.mem_cons.mp hy with rfl | hy
  ·exact ⟨ha,hi,hlen⟩
  ·obtain rfl:=List.mem_singleton.mp hy;exact ⟨ha2,hi2,Nat.le_trans hlen2 (by decide)⟩
 ·have hla:=W0 (a,vs,ns) (by simp);have hlc:=W0 (a2,vs2,Ym) (by simp);rw [Oc ns hpos] at hla;rw [Oc Ym acK] at hlc;exact ⟨a,a2,ns.map Int.toNat,Ym.map Int.toNat,i,m,rfl,hla,hbs,by rw [List.length_map];omega,hlc,by rw [List.length_map];omega,hT,fun l H' hl=>⟨l,rfl,by rw [←due];exact hl⟩⟩
end
end Pg
end
section
set_option linter.all false
set_option maxRecDepth 100000
open PySem PySem.W PyProof.Rows
theorem Pg.said:PySem.Challenge.rw_secretparts_s06_open_by.wellSaid=true:=by decide +kernel
theorem Pg.ae5 {α:Type} (f:Int→Int→List Int→List Int→α) (i0:Int) (i1:Int) (l2:List Int) (l3:List Int):Codec.app (R:=α) [.int (_root_.Int.negSucc 2147483647) (_root_.Int.ofNat 2147483647),.int (_root_.Int.negSucc 2147483647) (_root_.Int.ofNat 2147483647),.list 0 600 (.int (_root_.Int.ofNat 0) (_root_.Int.ofNat 255)),.list 0 64 (.int (_root_.Int.ofNat 0) (_root_.Int.ofNat 255))] f (i0,i1,l2,l3,())=f i0 i1 l2 l3:=rfl
theorem Pg.Vs (i0:Int) (i1:Int) (l2:List Int) (l3:List Int):Codec.app PySem.Challenge.rw_secretparts_s06_open_by.args PySem.Challenge.rw_secretparts_s06_open_by.asked (i0,i1,l2,l3,())=PyRb35.open_by_asked i0 i1 l2 l3:=
 Eq.trans (b:=Codec.app (R:=Bool) [.int (_root_.Int.negSucc 2147483647) (_root_.Int.ofNat 2147483647),.int (_root_.Int.negSucc 2147483647) (_root_.Int.ofNat 2147483647),.list 0 600 (.int (_root_.Int.ofNat 0) (_root_.Int.ofNat 255)),.list 0 64 (.int (_root_.Int.ofNat 0) (_root_.Int.ofNat 255))] PyRb35.open_by_asked (i0,i1,l2,l3,())) (by kernel_rfl) (Pg.ae5 PyRb35.open_by_asked i0 i1 l2 l3)
theorem Pg.aat (i0:Int) (i1:Int) (l2:List Int) (l3:List Int):WData.list ((PyRb35.open_by i0 i1 l2 l3).map WData.int)=PySem.Challenge.rw_secretparts_s06_open_by.ret.enc (Codec.app PySem.Challenge.rw_secretparts_s06_open_by.args PySem.Challenge.rw_secretparts_s06_open_by.f (i0,i1,l2,l3,())):=by kernel_rfl
theorem Pg.aau (i0:Int) (i1:Int) (l2:List Int) (l3:List Int):Codec.encAll PySem.Challenge.rw_secretparts_s06_open_by.args (i0,i1,l2,l3,())=[WData.int i0,WData.int i1,WData.list (l2.map WData.int),WData.list (l3.map WData.int)]:=by kernel_rfl
namespace PySem.W.Fast
def tw7321849608716266592:=0
def tw4265215320084167776:=0
def tw12703541033749344352:=0
def tw6939634298885811328:=0
def tw16165790405419123904:=0
def tw11868746039206709504:=0
def tw16563075475188798816:=0
def tw2743032140432158176:=0
def tw11373835219610874368:=0
def tw567736957932066336:=0
def tw9602444006591184512:=0
def tw8084504091086532544:=0
def tw10140783074525087745:=0
def tw4332043741626649729:=0
def tw1670611480860279041:=0
def tw3652956168889404705:=0
def tw4208769967020054977:=0
def tw14744870596167119329:=0
def tw7902844086279914977:=0
def tw4708681774364284417:=0
def tw7230012571492923009:=0
def tw16197208642811234017:=0
def tw8491420141107681025:=0
def tw14219923585328613121:=0
def tw17137625981366274849:=0
def tw4379504194255653665:=0
def tw12617814475450054625:=0
def tw12219775108768250882:=0
def tw13596409218798382114:=0
def tw4996877264721642722:=0
def tw11841053632138708194:=0
def tw10705072814241688834:=0
def tw2782619780804533538:=0
def tw8336830525025715490:=0
def tw9345854561426291138:=0
def tw4097917368503049698:=0
def tw2996739934641837698:=0
def tw14184414498002989762:=0
def tw16565734165309448898:=0
def tw17202708663816147682:=0
def tw11845149927072531234:=0
def tw14864893047531961186:=0
def tw525387558528877442:=0
def tw8684550073002252226:=0
def tw9770146051125077027:=0
def tw12294321484513877027:=0
def tw3757396064214954083:=0
def tw9382057049833694371:=0
def tw6637468308223762595:=0
def tw16267906219943893219:=0
def tw15677452859834279171:=0
def tw433110113296270627:=0
def tw13594796344925348163:=0
def tw2323479300281991555:=0
def tw7541554013349151107:=0
def tw11021526032717450627:=0
def tw13903939403475362211:=0
def tw9437664918514865699:=0
def tw4959541164987869763:=0
def tw4928730162966442659:=0
def tw8802663654885452451:=0
def tw516402900714188932:=0
def tw5477259523968410788:=0
def tw2032227477641703684:=0
def tw2167173008271893860:=0
def tw1424842380703944132:=0
def tw17148619396207569380:=0
def tw14756254813528835652:=0
def tw5156371998159123076:=0
def tw5621054652901898980:=0
def tw7728874453417521924:=0
def tw18081360515397099300:=0
def tw14819772572757962692:=0
def tw9675699073177973700:=0
def tw1222566625789959140:=0
def tw10480144480906288293:=0
def tw4904207628081737893:=0
def tw18306079006769022181:=0
def tw12085800391352208645:=0
def tw4803212908129942821:=0
def tw12339253641539341765:=0
def tw11714792026613880293:=0
def tw15148306932412864005:=0
def tw3923497511073946245:=0
def tw8130887067840988837:=0
def tw3785066340338429605:=0
def tw3310173699650551493:=0
def tw3326053809680485253:=0
def tw3621899107969206181:=0
def tw1818166053500558309:=0
def tw8648727148174104549:=0
def tw17989584373686136805:=0
def tw2285244981214733350:=0
def tw3915477741713883270:=0
def tw240153256726561990:=0
def tw1386267440770418886:=0
def tw2789148746147189958:=0
def tw783566616127242502:=0
def tw1574990585942583622:=0
def tw17542464190615252358:=0
def tw3169113457077140902:=0
def tw16141266309578192326:=0
def tw9560986298304401894:=0
def tw7956053495271093734:=0
def tw770484687606640198:=0
def tw2292718746150939270:=0
def tw2106046565535243014:=0
def tw1087963802868811526:=0
def tw548757509469446950:=0
def tw14702333614389831494:=0
def tw2844344546534175558:=0
def tw5995598945960356678:=0
def tw16132319219418235782:=0
def tw13889591975079745446:=0
def tw7478985997507321895:=0
def tw11776049311248593991:=0
def tw11888152156162672743:=0
def tw15357172915380351175:=0
def tw1103291339099178183:=0
def tw13005050331395363047:=0
def tw11472047604154687719:=0
def tw17833087426294733095:=0
def tw6487928101520227655:=0
def tw8066030872951873895:=0
def tw11403304557330035111:=0
def tw18307038774552710663:=0
def tw16754550804478202407:=0
def tw17412506924859878023:=0
def tw11725573442115081927:=0
def tw85382191649797863:=0
def tw12546674856428254951:=0
def tw17120404470481091303:=0
def tw12183404153624610567:=0
def tw13544825991754961735:=0
def tw11169551016180583271:=0
def tw2763916097412896647:=0
def tw514016526530332744:=0
def tw18164752536179321096:=0
def tw8718168573533913384:=0
def tw18181236955358932264:=0
def tw17299458807604748776:=0
def tw18254985989134836232:=0
def tw2446216834436903464:=0
def tw4767112182828983016:=0
def tw4641088714451595305:=0
def tw5603838272507563081:=0
def tw15055332783478109417:=0
def tw4291215960802270697:=0
def tw8498050030856855049:=0
def tw12659025582666658377:=0
def tw2108626524175495785:=0
def tw16464091445855771273:=0
def tw9975276402454259401:=0
def tw6209646407440599817:=0
def tw924567586109152009:=0
def tw8458626652652437417:=0
def tw4543591620879158314:=0
def tw8771424842632627274:=0
def tw3731850894880247914:=0
def tw13205158094483557546:=0
def tw4396001191084727530:=0
def tw3774966692762079498:=0
def tw3087836255935288746:=0
def tw10046096331378050506:=0
def tw13231991787974115818:=0
def tw1914204795590139402:=0
def tw868972441835235882:=0
def tw18169496235111258698:=0
def tw8734958223228240490:=0
def tw1557198155694022442:=0
def tw602440837128348554:=0
def tw10632387022494952330:=0
def tw17265668689127053226:=0
def tw4644344897193297834:=0
def tw16565837942531253162:=0
def tw11625537535723392970:=0
def tw2805781287222594538:=0
def tw15393355408055663627:=0
def tw11398169033599561771:=0
def tw11487293942402802795:=0
def tw17550078588259097803:=0
def tw2665493855932261611:=0
def tw3894797860388190571:=0
def tw3755884632171859403:=0
def tw6385995188779302379:=0
def tw10552539292484891115:=0
def tw12850266763539677707:=0
def tw6680773868715394699:=0
def tw1513051381627661995:=0
def tw6540127900573394603:=0
def tw17203481566774751979:=0
def tw4961740704180270891:=0
def tw5201797319016542027:=0
def tw1019911704032383851:=0
def tw4256946947318895499:=0
def tw3593424694810210316:=0
def tw13546832135356900396:=0
def tw15662532455757418572:=0
def tw9804355204481219756:=0
def tw6759521494873341164:=0
def tw13013856400554087692:=0
def tw7127687913887786284:=0
def tw14343962645717331276:=0
def tw4423302751288295788:=0
def tw4037281454012013964:=0
def tw15835440426602490284:=0
def tw5239883244766709164:=0
def tw16252071389386375788:=0
def tw14305178411327558252:=0
def tw13037358049522418316:=0
def tw9280977514460712588:=0
def tw14023941279929453228:=0
def tw13471267312600295116:=0
def tw15144506163664041708:=0
def tw4816137759497816876:=0
def tw17013071819030059884:=0
def tw988900006054258636:=0
def tw13718625576561683436:=0
def tw3883794300410841197:=0
def tw13261299869035741357:=0
def tw8157623191677877453:=0
def tw7764532852092104941:=0
def tw16785093015157666157:=0
def tw2411836901579780493:=0
def tw1599767849841785261:=0
def tw12325763517929235885:=0
def tw13679535090080869901:=0
def tw6198527038763672205:=0
def tw2195523714983349997:=0
def tw346988489548874477:=0
def tw11418037845888106285:=0
def tw14668029663791220717:=0
def tw7901100014923188238:=0
def tw5631318801096578062:=0
def tw18415651464637256750:=0
def tw17497789188825464878:=0
def tw16083007886015554606:=0
def tw9351465309543566414:=0
def tw13873329268128012366:=0
def tw6264163916603262062:=0
def tw12685577377016917102:=0
def tw15510218913367746702:=0
def tw1670815227410340270:=0
def tw3114649940912418318:=0
def tw10974941407734380078:=0
def tw5485832130930449390:=0
def tw8729310486734023759:=0
def tw495214563315302575:=0
def tw7968803117023791343:=0
def tw2170754731182272847:=0
def tw2559222971642882383:=0
def tw13246405026364441007:=0
def tw9443379134836877967:=0
def tw17822650363948822191:=0
def tw164794184789510895:=0
def tw9938476785184505743:=0
def tw10784565238219014063:=0
def tw8143977778710679503:=0
def tw2356199866579694575:=0
def tw6750046378388498448:=0
def tw8442502127462977584:=0
def tw4979601896311797872:=0
def tw4054400503363712144:=0
def tw7505360132293599504:=0
def tw5206176228313812368:=0
def tw11332867036548549008:=0
def tw1699781827666878000:=0
def tw12092932951735638672:=0
def tw1687975836252491472:=0
def tw17786785977479134032:=0
def tw12994451313057077072:=0
def tw8634428485406568304:=0
def tw15859449191463506864:=0
def tw2512849010315373552:=0
def tw14004594647324156977:=0
def tw15929737453473541169:=0
def tw14818845946421422161:=0
def tw10116786229245282449:=0
def tw3891647734983260337:=0
def tw341267669558967569:=0
def tw10178670668022199793:=0
def tw9065852808218403377:=0
def tw7405404931238728305:=0
def tw2302478064552201841:=0
def tw5069783517209283217:=0
def tw3081514398364535473:=0
def tw9214346821471390417:=0
def tw11321331468095385361:=0
def tw8587327426134528913:=0
def tw1079879746160266129:=0
def tw12805532686320001969:=0
def tw14643655026371327953:=0
def tw16106904601391945713:=0
def tw11354002299507886098:=0
def tw6163482820321895474:=0
def tw11582352535274703922:=0
def tw14608238016672824402:=0
def tw543339668766295154:=0
def tw12506373866760542322:=0
def tw17084531658113970322:=0
def tw14627281198197592210:=0
def tw5170662775992735986:=0
def tw4722362123893955922:=0
def tw16838713299104450066:=0
def tw7908914348615244306:=0
def tw13351537796067802706:=0
def tw3861583791108757170:=0
def tw3414638299591355058:=0
def tw10743442812700266194:=0
def tw13865425585083352882:=0
def tw3522652858044337970:=0
def tw2455162065614666546:=0
def tw12298153161043494738:=0
def tw5791125765615947602:=0
def tw15608706505416483666:=0
def tw4362684798451854226:=0
def tw11889566090251238322:=0
def tw11620755178651655251:=0
def tw8356392622101621939:=0
def tw11535728954320719123:=0
def tw13968277202061095283:=0
def tw12773676354729812403:=0
def tw7168987607570763283:=0
def tw2629497006964025907:=0
def tw17070576728035478099:=0
def tw11474383074695400051:=0
def tw15329148178936351411:=0
def tw5932486690627112627:=0
def tw6246889944313545427:=0
def tw15217606211452596979:=0
def tw1484041242552849203:=0
def tw1545201958850765651:=0
def tw184474472809927507:=0
def tw12968426049285975987:=0
def tw9704441141079726035:=0
def tw13228146130249295859:=0
def tw16501186596764373108:=0
def tw3463381868750857332:=0
def tw2165464337206942964:=0
def tw10663245113792035124:=0
def tw14903873875354702228:=0
def tw1281610198254531156:=0
def tw3352831934925914804:=0
def tw2002345504688497492:=0
def tw6586534162385416052:=0
def tw14943292917882005396:=0
def tw5828686033568315413:=0
def tw3320716509191804085:=0
def tw5973155220233812149:=0
def tw497455552486134037:=0
def tw15303501253307553109:=0
def tw9099758279983808885:=0
def tw15947254018275073429:=0
def tw13731007987203290645:=0
def tw498076033453177365:=0
def tw14161585912311803573:=0
def tw2756067863942217493:=0
def tw8235505073303352085:=0
def tw8638031356953755413:=0
def tw515300110479383445:=0
def tw1421893816593803189:=0
def tw6373047975571336149:=0
def tw2024408659132994614:=0
def tw4354481453845307542:=0
def tw4566562439078345942:=0
def tw7812606020721791190:=0
def tw18175145264753526102:=0
def tw16131973993517877718:=0
def tw17576633147398886998:=0
def tw9306459319670081142:=0
def tw14239557178194501334:=0
def tw4452389764130744022:=0
def tw12373391113761983478:=0
def tw5833379769057155191:=0
def tw2646627852492680343:=0
def tw3495209234056011927:=0
def tw2769490498106752151:=0
def tw11028746448656557271:=0
def tw17005072953613928663:=0
def tw12767436392352831767:=0
def tw15903639854253274615:=0
def tw524426994872683031:=0
def tw9774298282539392759:=0
def tw10612993582882901751:=0
def tw18300511154849217271:=0
def tw15624609529997564727:=0
def tw6035870672817175415:=0
def tw2532738137361363032:=0
def tw10701845134779894936:=0
def tw874196098650138872:=0
def tw16594316851792699704:=0
def tw9883714961146675864:=0
def tw8146294241872286360:=0
def tw9339894795221068472:=0
def tw9914751699448962744:=0
def tw12496637485707846424:=0
def tw6303287869281607544:=0
def tw10978538810637162585:=0
def tw11242993451628683353:=0
def tw16033340076095127673:=0
def tw16851068147335575833:=0
def tw15950005085717274937:=0
def tw3764172258746392057:=0
def tw11903830305759558137:=0
def tw5557328675435455033:=0
def tw9345501862498886233:=0
def tw13644692192554925721:=0
def tw8822615829794505369:=0
def tw641484134258657017:=0
def tw4470373278243073817:=0
def tw14950996748551813017:=0
def tw8228946430809125817:=0
def tw7519694194261153882:=0
def tw8683735963918986362:=0
def tw5404531309971219706:=0
def tw15078717174614333754:=0
def tw12301378870604879290:=0
def tw10438114181190421978:=0
def tw11086457875416805914:=0
def tw14803707347558249018:=0
def tw1620099795557473914:=0
def tw5298700386577053306:=0
def tw16138459939903462042:=0
def tw4501921609119576730:=0
def tw17267475172806498010:=0
def tw5351120095791566554:=0
def tw2978684006899146554:=0
def tw14669484612964327258:=0
def tw18338999135841633178:=0
def tw5531294332810946522:=0
def tw4171943582838970555:=0
def tw946825703382110395:=0
def tw11146615314454457595:=0
def tw4225585609942645019:=0
def tw3568427341744886075:=0
def tw6432729644919949691:=0
def tw7852829567963089275:=0
def tw7295856003698551195:=0
def tw9044639200679572923:=0
def tw3978540391639393723:=0
def tw17425275586357322299:=0
def tw628600261404885627:=0
def tw10992326914332924571:=0
def tw5444486375485766331:=0
def tw4269189170201655067:=0
def tw14124792639510934331:=0
def tw7121869872874850139:=0
def tw7926734967057033115:=0
def tw7871096133831829435:=0
def tw129910048890656763:=0
def tw2558903637862705180:=0
def tw11838893822191942748:=0
def tw7479010368397327740:=0
def tw5042683783668390364:=0
def tw7561528510369421788:=0
def tw16991357278502790652:=0
def tw9250335620613044764:=0
def tw6409809187207051900:=0
def tw1601011499603499676:=0
def tw16868148382524273340:=0
def tw15105163361396625116:=0
def tw12033583202876585788:=0
def tw17740060105949069180:=0
def tw9016013694763800508:=0
def tw8304344541519451132:=0
def tw17155250268718999645:=0
def tw6386645397320154237:=0
def tw17417819972458511677:=0
def tw9658622254311985501:=0
def tw6043225754043476349:=0
def tw5496621918266592733:=0
def tw3519566570208718397:=0
def tw16205511154226637437:=0
def tw3649127081555265149:=0
def tw2225349789661713149:=0
def tw15757017465116196958:=0
def tw14922232272040862942:=0
def tw2450934451560034590:=0
def tw8901562413275979134:=0
def tw11858691915699755486:=0
def tw3876344529991653950:=0
def tw6842277629596577406:=0
def tw9774621710344110750:=0
def tw4098110631426411358:=0
def tw896899897935553470:=0
def tw4419343005657321438:=0
def tw10248782910559006718:=0
def tw15764102752460737534:=0
def tw10235069824065687583:=0
def tw10465045881402699871:=0
def tw13098919050577092799:=0
def tw8990573144300677439:=0
def tw8723682368305929567:=0
def tw4377555687215952223:=0
def tw200261081358335359:=0
def tw12086488748895165823:=0
def tw8886330890251982303:=0
def tw9757342590043181567:=0
def tw9764520812836735679:=0
def tw2539837454878370591:=0
def tw8934391094347872063:=0
def tw6575355825496333183:=0
def tw96591016614630271:=0
def tw11345412302223312365:=0
end PySem.W.Fast
set_option maxHeartbeats 0 in
theorem PySem.Challenge.cw_secretparts_s06_open_by_holds : PySem.Challenge.rw_secretparts_s06_open_by.Holds := by
 w_on;k_headS
 (case hw=>exact ⟨[.int 0,.int 0,.list [],.list []],by decide +kernel,by decide +kernel⟩)
 k_fillS
 intro w s₀ s₁ mg mb G Y fa o pm cd doc dV kV ho hd hcd hD hmg hg args vals as hpre hlay hrd hwl hlo;have KX:=kIn_of Y;have B:∃ cs,Pg.Base (L2.KOf KX) mg cs:=by
  dsimp only [L2.KOf]
  refine' ⟨_,Pg.Xy ?Ve ?vD ?vG ?NZ ?iJ ?jP ?je ?lA ?mU ?Vf ?iK ?iM ?Vg ?oZ ?o7 ?lB ?iQ ?Vh ?fu ?zW ?vH ?sJ ?gP ?gB ?fB ?jf ?jg ?zX ?zY ?sO ?lC ?vI ?vJ ?zZ ?qy ?o8 ?mV ?jh ?ji ?lD ?lE ?o9 ?mW ?sS ?vK ?Vi ?K7 ?Vj ?Vk ?N5 ?K8 ?K9 ?La ?Lb ?Ld ?Vl ?Le ?Lf ?Lg ?Vm ?Lh ?Li ?Lj ?Vn ?Lk ?Ln ?Lp ?lF ?N6 ?N7 ?N8 ?xr ?Oa ?z_ord ?Lq ?z6 ?nU ?Ed ?Ob ?qU ?uD ?jZ ?mX ?lG ?jj ?jk ?mY ?qz ?mZ ?lH ?aal ?aam ?aan ?aao ?d1 ?d2 ?d3 ?d4 ?d5 ?d6⟩
  case Ve=>refine' Pg.uz KX G.T.g ?m ?t ?i ?n ?u ?l ?c ?k;case m | t | i | n | u | l | c | k=>k_is
  case vD=>constructor <;> k_is
  case vG=>repeat (first | exact Pg.qx | refine Pg.nT (by k_is) ?_)
  case NZ=>refine' Pg.uz KX G.T.g ?m ?t ?i ?n ?u ?l ?c ?k;case m | t | i | n | u | l | c | k=>k_is
  case iJ=>constructor <;> k_is
  case jP=>repeat (first | exact Pg.qx | refine Pg.nT (by k_is) ?_)
  case je | lA | mU=>refine' Pg.uy ?i ?n ?l ?c ?k;case i | n | l | c | k=>k_is
  case Vf=>refine' Pg.uz KX G.T.g ?m ?t ?i ?n ?u ?l ?c ?k;case m | t | i | n | u | l | c | k=>k_is
  case iK=>constructor <;> k_is
  case iM=>repeat (first | exact Pg.qx | refine Pg.nT (by k_is) ?_)
  case Vg=>refine' Pg.uz KX G.T.g ?m ?t ?i ?n ?u ?l ?c ?k;case m | t | i | n | u | l | c | k=>k_is
  case oZ=>constructor <;> k_is
  case o7=>repeat (first | exact Pg.qx | refine Pg.nT (by k_is) ?_)
  case lB | iQ=>refine' Pg.uy ?i ?n ?l ?c ?k;case i | n | l | c | k=>k_is
  case Vh=>refine' Pg.uz KX G.T.g ?m ?t ?i ?n ?u ?l ?c ?k;case m | t | i | n | u | l | c | k=>k_is
  case fu=>constructor <;> k_is
  case zW=>repeat (first | exact Pg.qx | refine Pg.nT (by k_is) ?_)
  case vH | sJ | gP | gB | fB | jf | jg=>refine' Pg.uy ?i ?n ?l ?c ?k;case i | n | l | c | k=>k_is
  case zX | zY | sO | lC | vI | vJ | zZ | qy | o8 | mV | jh | ji | lD | lE | o9 | mW | sS | vK=>refine' Pg.eX KX G.T.g ?m ?l ?c ?k;case m | l | c | k=>k_is
  case Vi=>exact PySem.W.mg_of KX G.T.g (by k_is)
  case K7 | Vj | Vk | N5 | K8 | K9 | La | Lb | Ld=>k_is
  case Vl=>refine' Pg.xq KX G.T.g ?m ?t ?i ?l ?c ?k ?u ?a ?o ?d ?b;(case m | t | i | l | c | k | u | a | d=>k_is);(case o | b=>kernel_rfl)
  case Le | Lf=>k_is
  case Lg=>constructor <;> k_is
  case Vm=>refine' Pg.xq KX G.T.g ?m ?t ?i ?l ?c ?k ?u ?a ?o ?d ?b;(case m | t | i | l | c | k | u | a | d=>k_is);(case o | b=>kernel_rfl)
  case Lh | Li=>k_is
  case Lj=>constructor <;> k_is
  case Vn=>refine' Pg.xq KX G.T.g ?m ?t ?i ?l ?c ?k ?u ?a ?o ?d ?b;(case m | t | i | l | c | k | u | a | d=>k_is);(case o | b=>kernel_rfl)
  case Lk | Ln=>k_is
  case Lp=>constructor <;> k_is
  case lF | N6 | N7 | N8 | xr | Oa | z_ord | Lq=>exact PySem.W.mg_none_of KX G.T.g (by k_is)
  case z6 | nU | Ed | Ob | qU | uD | jZ | mX | lG | jj | jk | mY | qz | mZ | lH=>exact ⟨_,PySem.W.mg_of KX G.T.g (by k_is)⟩
  case aal=>exact PySem.W.mg_of KX G.T.g (by k_is)
  case aam=>k_is
  case aan=>exact PySem.W.mg_of KX G.T.g (by k_is)
  case aao=>k_is
  case d1 | d2 | d3 | d4 | d5 | d6=>first | rfl | decide | kernel_rfl
 obtain ⟨cs,B⟩:=B;have lJ:∃ tm,Pg.Qn (L2.KOf KX) mg "WrongNumbers" "WrongNumbers.__init__" Pg.cO tm:=by
  dsimp only [L2.KOf]
  refine' ⟨_,⟨?e,?n,?s,?g⟩⟩
  case e=>refine' Pg.xq KX G.T.g ?m ?t ?i ?l ?c ?k ?u ?a ?o ?d ?b;(case m | t | i | l | c | k | u | a | d=>k_is);(case o | b=>kernel_rfl)
  case n=>k_is
  case s=>exact ⟨_,PySem.W.mg_of KX G.T.g (by k_is),by k_is⟩
  case g=>constructor <;> k_is
 obtain ⟨QX,lJ⟩:=lJ;have Iz:∃ t,mg "NO_SECRET"=some (.int (-4) t):=⟨_,PySem.W.mg_of KX G.T.g (by k_is)⟩;have z8:∃ t,mg "MANY_SECRETS"=some (.int (-6) t):=⟨_,PySem.W.mg_of KX G.T.g (by k_is)⟩;have z9:∃ t,mg "MOST_NUMBERS"=some (.int 64 t):=⟨_,PySem.W.mg_of KX G.T.g (by k_is)⟩;have IK:mg "enumerate"=none:=PySem.W.mg_none_of KX G.T.g (by k_is);have IW:∃ C,mg "Book"=some (.ref C)∧Pg.gq (L2.KOf KX) C "is_person" "Book.is_person" Pg.fJ:=by
  dsimp only [L2.KOf]
  refine' ⟨_,PySem.W.mg_of KX G.T.g (by k_is),?z⟩
  case z=>refine' Pg.uy ?i ?n ?l ?c ?k;case i | n | l | c | k=>k_is
 have QG:∃ C,mg "Book"=some (.ref C)∧Pg.gq (L2.KOf KX) C "node_of" "Book.node_of" Pg.gJ:=by
  dsimp only [L2.KOf]
  refine' ⟨_,PySem.W.mg_of KX G.T.g (by k_is),?z⟩
  case z=>refine' Pg.uy ?i ?n ?l ?c ?k;case i | n | l | c | k=>k_is
 have Lw:Pg.bJ (L2.KOf KX) mg "answered" Pg.bG:=by dsimp only [L2.KOf];refine' Pg.eX KX G.T.g ?m ?l ?c ?k;case m | l | c | k=>k_is
 have Ja:Pg.bJ (L2.KOf KX) mg "opened_by" Pg.jV:=by dsimp only [L2.KOf];refine' Pg.eX KX G.T.g ?m ?l ?c ?k;case m | l | c | k=>k_is
 have Vt:Pg.bJ (L2.KOf KX) mg "opened" Pg.nG:=by dsimp only [L2.KOf];refine' Pg.eX KX G.T.g ?m ?l ?c ?k;case m | l | c | k=>k_is
 have QH:Pg.bJ (L2.KOf KX) mg "held_by" Pg.oG:=by dsimp only [L2.KOf];refine' Pg.eX KX G.T.g ?m ?l ?c ?k;case m | l | c | k=>k_is
 have Lx:Pg.bJ (L2.KOf KX) mg "found_of" Pg.lY:=by dsimp only [L2.KOf];refine' Pg.eX KX G.T.g ?m ?l ?c ?k;case m | l | c | k=>k_is
 have wG:Pg.bJ (L2.KOf KX) mg "found_of_node" Pg.cV:=by dsimp only [L2.KOf];refine' Pg.eX KX G.T.g ?m ?l ?c ?k;case m | l | c | k=>k_is
 have wH:Pg.bJ (L2.KOf KX) mg "value_through" Pg.cG:=by dsimp only [L2.KOf];refine' Pg.eX KX G.T.g ?m ?l ?c ?k;case m | l | c | k=>k_is
 have QJ:Pg.bJ (L2.KOf KX) mg "product" Pg.oE:=by dsimp only [L2.KOf];refine' Pg.eX KX G.T.g ?m ?l ?c ?k;case m | l | c | k=>k_is
 have QK:Pg.bJ (L2.KOf KX) mg "inverse" Pg.oF:=by dsimp only [L2.KOf];refine' Pg.eX KX G.T.g ?m ?l ?c ?k;case m | l | c | k=>k_is
 have Ly:Pg.bJ (L2.KOf KX) mg "steps_of" Pg.lX:=by dsimp only [L2.KOf];refine' Pg.eX KX G.T.g ?m ?l ?c ?k;case m | l | c | k=>k_is
 have Jb:Pg.bJ (L2.KOf KX) mg "owners_of" Pg.iw:=by dsimp only [L2.KOf];refine' Pg.eX KX G.T.g ?m ?l ?c ?k;case m | l | c | k=>k_is
 have Aa:Pg.bJ (L2.KOf KX) mg "keep_numbers" Pg.eY:=by dsimp only [L2.KOf];refine' Pg.eX KX G.T.g ?m ?l ?c ?k;case m | l | c | k=>k_is
 have Ay:Pg.bJ (L2.KOf KX) mg "keep_people" Pg.iC:=by dsimp only [L2.KOf];refine' Pg.eX KX G.T.g ?m ?l ?c ?k;case m | l | c | k=>k_is
 have Ef:Pg.bJ (L2.KOf KX) mg "formula_of" Pg.jm:=by dsimp only [L2.KOf];refine' Pg.eX KX G.T.g ?m ?l ?c ?k;case m | l | c | k=>k_is
 have C:Pg.Od (L2.KOf KX) mg "open_by" Pg.eV:=by
  dsimp only [L2.KOf]
  refine' Pg.XC KX G.T.g ?m ?l ?k
  case m | l | k=>k_is
 obtain ⟨⟨i0,i1,l2,l3,un⟩,hin,aas,rfl⟩:=(OpenSpec.pre_iff Pg.said args).mp hpre;cases un;have acL:=(Pg.Vs i0 i1 l2 l3).symm.trans aas;rw [Pg.aau] at hwl;cases hwl with | cons w0 hwl=>
 cases hwl with | cons w1 hwl=>
 cases hwl with | cons w2 hwl=>
 cases hwl with | cons w3 hwl=>
 cases hwl;obtain ⟨t0,rfl⟩:=Pg.Ir w0;obtain ⟨t1,rfl⟩:=Pg.Ir w1;obtain ⟨a2,vs2,rfl,ha2,hi2⟩:=Pg.Cj w2;obtain ⟨a3,vs3,rfl,ha3,hi3⟩:=Pg.Cj w3;refine enter_call (codeAny_mono (Pg.Ax KX G.T hmg hg (by kernel_rfl) (by kernel_rfl) (by kernel_rfl) B C lJ Iz z8 z9 IK IW QG Lw Ja Vt QH Lx wG wH QJ QK Ly Jb Aa Ay Ef ha2 hi2 ha3 hi3 acL) fun r s' h=>?_);obtain ⟨l,H',rfl,hl,hok,h1,h2,h3⟩:=h;exact Pg.Qz hok hl ((OpenSpec.post_iff Pg.said hin _ _).mpr (Pg.aat i0 i1 l2 l3)) h1 h2 h3
end
